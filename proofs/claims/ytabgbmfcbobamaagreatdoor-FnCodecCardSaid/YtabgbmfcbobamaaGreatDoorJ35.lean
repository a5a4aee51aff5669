import Derived.Test.YtabgbmfcbobamaaGreatDoorJ29
set_option maxRecDepth 100000
set_option maxHeartbeats 8000000
namespace Go.Proofs.YtabgbmfcbobamaaGreatDoor
open Go.RowKit Tryz
theorem dR (v:Int) (w:World):Calls prog 47 #[.int .i64 v] w fun e d=>e=.returned (.string (fA 4 v))/\Below w.heap.size w d:=by
 have c:=bA (eG 4 v w (by omega));generalize fA 4 v=N at *;go_enter func47,ntmps47;go_wp2_with fail;refine c.out.mono ?_;rintro e f ⟨rfl,a⟩;have b:=bA a;clear a;go_wp2;go_ret;exact⟨rfl,b.out⟩
theorem gL (v:Int) (w:World):Calls prog 18 #[.int .i64 v] w fun e d=>e=.returned (.string (fA 8 v))/\Below w.heap.size w d:=by
 have c:=bA (eG 8 v w (by omega));generalize fA 8 v=N at *;go_enter func18,ntmps18;go_wp2_with fail;refine c.out.mono ?_;rintro e f ⟨rfl,a⟩;have b:=bA a;clear a;go_wp2;go_ret;exact⟨rfl,b.out⟩
def dQ (ps:List lA):List ByteArray:=ps.flatMap fun p=>[nD p.s,fA 8 p.n]
theorem ai (ps:List lA) (k:Nat) (h:k<ps.length):dQ (ps.take (k+1))=dQ (ps.take k)++[nD ps[k].s,fA 8 ps[k].n]:=by
 unfold dQ;rw[Ma h,Zf];rfl
theorem cZ:∀(ps:List lA),gE (dQ ps)=tC ps
 |[]=>rfl
 |p::q=>by
  have e:dQ (p::q)=[nD p.s,fA 8 p.n]++dQ q:=rfl;rw[e,pF,cZ q,tC];simp[gE,vX]
def aGp (t:dA):Decidable (fH t):=by unfold fH JG;infer_instance
def NX (t:dA):ByteArray:=haveI:=aGp t;if fH t then eL t else ByteArray.empty
theorem JB {t:dA} (h:¬fH t):NX t=ByteArray.empty:=by unfold NX;rw[Oa h]
theorem kt {t:dA} (h:fH t):NX t=eL t:=by unfold NX;rw[Qa h]
structure TR (ps:List ByteArray) (ms:List lA) (k:Nat) (HD:List ByteArray):Prop where
 eq:ps=HD++dQ (ms.take k)
 all:∀j (h:j<ms.length),j<k→ms[j].s.size≤65535
structure TE (w W:World) (TC:Array Value) (g cv:Nat) (ps:List ByteArray):Prop where
 row:W.ownsRow (w.heap.size+1) 9 1 (.slice (some ⟨g,0,none⟩) ps.length cv) ps.length (ps.map Value.string)
 blk:eA W w.heap.size TC 100
 bel:Below w.heap.size w W
section
variable {w W W':World} {TC:Array Value} {g cv k:Nat} {ps HD:List ByteArray} {ms:List lA}
theorem TR.next (h:TR ps ms k HD) (d:k<ms.length) (e:ms[k].s.size<=65535):TR (ps++[nD ms[k].s,fA 8 ms[k].n]) ms (k+1) HD:=
 ⟨by rw[ai ms k d,h.eq,Ld],fun j b c=>by
  rcases Rc j k with a|a
  ·exact h.all j b a
  ·obtain rfl:j=k:=by omega
   exact e⟩
theorem TR.fin (h:TR ps ms k HD) (b:¬k<ms.length):ps=HD++dQ ms/\JG ms:=⟨by rw[h.eq,Ua (by omega)],fun j a=>h.all j a (by omega)⟩
theorem TE.later (h:TE w W TC g cv ps) (a:Below W.heap.size W W'):TE w W' TC g cv ps:=⟨vA h.row a,h.blk.later a,nA h.bel a⟩
theorem cg {I:Array Oper} {o:Oper} {a:Act} {K:Act->World->Prop} {Q:Exit->Act->World->Prop} {E:Prop} {p:Nat} {x y:ByteArray} (h:TE w W TC g cv ps) (f:o.guard=none) (s z:Operand) (C:o.op=.call { callee:=.builtin .append,args:=#[s,z],argTypes:=#[39,39] }) (F:a.eval s=.slice (some ⟨g,0,none⟩) ps.length cv) (G:a.eval z=.slice (some ⟨p,0,none⟩) 2 2) (D:W.heap.size=p) (M:ps.length<=100000000)
 (k:∀d b c,TE w c TC d b (ps++[x,y])->(∀j,j<W.heap.size->j≠g->c.heap[j]?=W.heap[j]?)->K (a.put o.dst (.slice (some ⟨d,0,none⟩) (ps++[x,y]).length b)) c):
 if Region.wanted o (yielded I a.tmps)=true then Oper.wp prog o a (W.alloc (.cells #[.string x,.string y] 9)) K Q else E:=by
 subst D;obtain⟨J,q,l,m,n⟩:=DK;have A:=aA h.blk;have L:=uF h.row g rfl;have H:W.heap.size<(W.alloc (.cells #[.string x,.string y] 9)).heap.size:=by simp
 refine tH _ f s z _ C (w.heap.size+1) 9 J _ 1 16 underlying39 q l m n rfl (by omega) g ps.length cv _ F (vA h.row (cA _ _)) _ 2 2 [.string x,.string y] G rfl (Ja ⟨_,rfl,World.news_of_block (cs:=#[.string x,.string y]) (heap_alloc_new _ _)⟩) (by simp[Value.oneCell']) (by simp[maxLen];omega) (by omega) (by omega) fun d b c r u v _ _ _=>?_;have t:=fun j B i=>(v j (by omega) i).trans ((cA _ _).block j B);have e:ps.length+2=(ps++[x,y]).length:=by simp
 rw[e]at r |-
 exact k d b c ⟨by rw[Vd];exact r,(t _ A (by omega)).trans h.blk,(nA h.bel (cA _ _)).trans (u.mono (by omega))⟩ t
theorem ns:(prog.info? 9).map (fun i=>(i.zero,i.size,i.bytes))=some (some (.string ByteArray.empty),1,16):=by kernel_rfl
theorem TE.one {b a:Nat} {x:ByteArray} (h:TE w W TC g cv ps) (c:W'.ownsRow (w.heap.size+1) 9 1 (.slice (some ⟨b,0,none⟩) (ps.length+1) a) (ps.length+1) (ps.map Value.string++[.string x])) (d:gA (fun i=>w.heap.size+1<=i/\(Value.slice (some ⟨g,0,none⟩) ps.length cv).ownBlock=some i) W W'):TE w W' TC b a (ps++[x]):=by
 rw[show ps.length+1=(ps++[x]).length by simp]at c;exact⟨by rw[Vd];exact c,d.blk h.blk (by omega),h.bel.trans (d.below (by have:=h.bel.size;omega) fun i f e=>by omega)⟩
end
theorem YI (t:dA) (L O:Option Addr) (P T:Nat) (w:World) (hm:yA w L t.m9) (hs:yA w O t.s9) (hn:t.name.size<=1000000000) (hl1:t.m9.length<=2000000) (hl2:t.s9.length<=2000000) (Q:∀j (h:j<t.m9.length),t.m9[j].s.size<=1000000000) (m:∀j (h:j<t.s9.length),t.s9[j].s.size<=1000000000):
 Calls prog 48 #[.agg #[.string t.name,.int .i64 t.l9,.slice L t.m9.length P,.slice O t.s9.length T]] w fun e d=>e=.returned (.string (NX t))/\Below w.heap.size w d:=by
 obtain⟨p,v,ms,ss⟩:=t;simp only at hm hs hn hl1 hl2 Q m |-
 by_cases z1:p.size > 255
 ·have E:Hid (NX ⟨p,v,ms,ss⟩=ByteArray.empty):=JB fun h=>by have:=h.1;simp only at this;omega
  have z1':(p.size:Int) > 255:=by omega
  rw[E.out];clear hm hs Q m;go_enter func48,ntmps48;go_wp2;go_ret;exact⟨rfl,cA _ _⟩
 have z1':¬(p.size:Int) > 255:=by omega
 have HM:=bA hm;have HS:=bA hs;have HBM:=bA Q;have HBS:=bA m;have HU1:=bA (fun W=>uT p W hn);have HU2:=bA (fun W=>gL v W);have HU3:=bA (fun W=>dR (ms.length:Nat) W);have HU4:=bA (fun W=>dR (ss.length:Nat) W);have hz1:=mE p;have hz2:=iA 8 v;have hz3:=iA 4 (ms.length:Nat);have hz4:=iA 4 (ss.length:Nat);have HKB:Hid (JG ms->JG ss->NX ⟨p,v,ms,ss⟩=oK p++fA 8 v++fA 4 (ms.length:Nat)++tC ms++fA 4 (ss.length:Nat)++tC ss):=fun h1 h2=>kt ⟨by simp only;omega,h1,h2⟩;have HN1:Hid (∀k (h:k<ms.length),¬ms[k].s.size<=65535->NX ⟨p,v,ms,ss⟩=ByteArray.empty):=fun k h h2=>JB fun hh=>h2 (hh.2.1 k h);have HN2:Hid (∀k (h:k<ss.length),¬ss[k].s.size<=65535->NX ⟨p,v,ms,ss⟩=ByteArray.empty):=fun k h h2=>JB fun hh=>h2 (hh.2.2 k h);generalize oK p=N1 at *;generalize fA 8 v=N2 at *;generalize fA 4 (ms.length:Nat)=N3 at *;generalize fA 4 (ss.length:Nat)=X at *;generalize NX ⟨p,v,ms,ss⟩=TV at *;clear hm hs Q m;go_enter func48,ntmps48;go_upto_region 3 with fail;have Y:Hid (eA (w.alloc (.cells #[.string p,.int .i64 v,.slice L ms.length P,.slice O ss.length T] 100)) w.heap.size #[.string p,.int .i64 v,.slice L ms.length P,.slice O ss.length T] 100):=eA.new _ _ _;have B0:Hid (Below w.heap.size w (w.alloc (.cells #[.string p,.int .i64 v,.slice L ms.length P,.slice O ss.length T] 100))):=cA _ _;generalize w.alloc (.cells #[.string p,.int .i64 v,.slice L ms.length P,.slice O ss.length T] 100)=R at *;have HK:Hid (∀d,Below R.heap.size R d->d.cell? ⟨w.heap.size,0,none⟩=some (.string p)/\d.cell? ⟨w.heap.size,1,none⟩=some (.int .i64 v)/\d.cell? ⟨w.heap.size,2,none⟩=some (.slice L ms.length P)):=fun d h=>⟨(Y.out.later h).cell 0,(Y.out.later h).cell 1,(Y.out.later h).cell 2⟩
 obtain⟨x0,x1,x2⟩:=HK.out R (Below.refl _ _);obtain⟨TC,hTC⟩:∃TC:Array Value,TC=#[.string p,.int .i64 v,.slice L ms.length P,.slice O ss.length T]:=⟨_,rfl⟩
 have HT:Hid (TC[2]?=some (.slice L ms.length P)/\TC[3]?=some (.slice O ss.length T)):=by refine bA ?_;rw[hTC];exact⟨rfl,rfl⟩
 rw[<-hTC]at Y;clear hTC;go_cut [3] (fun s wx=>∃g,s=.slice (some ⟨g,0,none⟩) 3 3/\TE w wx TC g 3 [N1,N2,N3])
 case first=>
  go_region_held3 (fun d=>d.cell? ⟨w.heap.size,0,none⟩=some (.string p)/\d.cell? ⟨w.heap.size,1,none⟩=some (.int .i64 v)/\d.cell? ⟨w.heap.size,2,none⟩=some (.slice L ms.length P))
   (first|go_keep|exact HK.out _ k4|exact HK.out _ k3|exact HK.out _ k2)
   (first
    |(go_at_call 22;refine(HU1.out _).mono ?_;rintro e w2 ⟨rfl,m⟩;have k2:Below R.heap.size R w2:=(by exact nA (Below.refl _ _).drew m))
    |(go_at_call 18;refine(HU2.out _).mono ?_;rintro e w3 ⟨rfl,F⟩;have k3:Below R.heap.size R w3:=(by exact nA k2 F))
    |(go_at_call 47;refine(HU3.out _).mono ?_;rintro e w4 ⟨rfl,r⟩;have k4:Below R.heap.size R w4:=(by exact nA k3 r)))
  all_goals(go_wp2_with fail;go_meet)
  all_goals exact⟨_,rfl,⟨rfl,Ja ⟨_,3,_,rfl,(by have:=aA Y.out;have:=k4.size;omega),heap_alloc_new _ _,Ka _,by simp[maxLen],rfl,rfl⟩⟩,(Y.out.later k4).alloc _,nA (nA B0.out k4) (cA _ _)⟩
 obtain⟨g0,rfl,hte⟩:=hcut;rename World=>U;have K:=bA hte;have y2:=(hte.blk.cell 2).trans HT.out.1;clear x0 x1 x2 HK Y hte B0 HU1 HU2 HU3;go_wp2;go_loopw [3,5,26] (fun out _ i wr=>∃(k:Nat) (ps:List ByteArray) (g cv:Nat),k<=ms.length/\i=.int .i64 k/\out=.slice (some ⟨g,0,none⟩) ps.length cv/\ps.length<=3+2*k/\wE ps<=2000000000+k*70000/\Hid (TR ps ms k [N1,N2,N3])/\Hid (TE w wr TC g cv ps)) (fun _ _ i _=>ms.length-(intOf i).toNat)
 case atStart=>exact⟨0,[N1,N2,N3],_,_,La _,rfl,rfl,by simp,by simp[wE];omega,⟨by simp[dQ],fun j _ h=>absurd h (by omega)⟩,K.out⟩
 case round=>
  obtain⟨k,ps,g,cv,hk,rfl,rfl,hpl,hps,S,H⟩:=hrel;have a:=H.out.bel;by_cases f:k<ms.length
  ·obtain⟨b,o,rfl,hb,c0,Z⟩:=(HM.out.later a).at f;have D:=bA (fun W=>xN ms[k].s W (HBM.out k f));have V:=bA (fun W=>gL ms[k].n W);have HX:=bA (S.out.next f);have E:=bA (HN1.out k f);have hq3:=oD ms[k].s;have hq4:=iA 8 ms[k].n;generalize nD ms[k].s=M at *;generalize fA 8 ms[k].n=N at *;generalize ms[k].s=z at *;generalize ms[k].n=C at *;by_cases hgt:(z.size:Int) > 65535
   ·replace E:=bA (E.out (by omega));go_wp2;go_ret;exact⟨by rw[E.out];rfl,nA a (cA _ _)⟩
   have y:=bA (eA.new wr #[.string z,.int .i64 C] 107);have H1:=bA (H.out.later (cA wr (.cells #[.string z,.int .i64 C] 107)));have hgB:=(lH H.out.row).2.1;clear S E H;go_upto_region 9 with fail;generalize wr.alloc (.cells #[.string z,.int .i64 C] 107)=W at *;have hBX:=aA y.out;clear hb c0 Z a;generalize wr.heap.size=x at *;clear wr;have l:Hid (∀d,Below W.heap.size W d->d.cell? ⟨x,0,none⟩=some (.string z)/\d.cell? ⟨x,1,none⟩=some (.int .i64 C)):=fun d h=>⟨(y.out.later h).cell 0,(y.out.later h).cell 1⟩
   obtain⟨x0,x1⟩:=l.out W (Below.refl _ _);go_region_held3 (fun d=>d.cell? ⟨x,0,none⟩=some (.string z)/\d.cell? ⟨x,1,none⟩=some (.int .i64 C))
    (first|go_keep|exact u|exact l.out _ (c.alloc c.size _)|exact l.out _ c|exact l.out _ G)
    (first
     |(go_at_call 23;refine(D.out _).mono ?_;rintro e w3 ⟨rfl,F⟩;have G:Below W.heap.size W w3:=(Below.refl _ W).drew.trans F)
     |(go_at_call 18;refine(V.out _).mono ?_;rintro e w4 ⟨rfl,r⟩;have c:Below W.heap.size W w4:=nA G r)
     |(refine cg (by exact H1.out.later c) (by rfl) _ _ (by rfl) (by rfl) (by rfl) (by rfl) (by omega) ?_;intro g5 A U K I;have u:U.cell? ⟨x,0,none⟩=some (.string z)/\U.cell? ⟨x,1,none⟩=some (.int .i64 C):=(by have q:=l.out _ c;have J:=I x (by have:=c.size;omega) (by omega);exact⟨(World.cell?_of_block J).trans q.1,(World.cell?_of_block J).trans q.2⟩)))
   have B:(ps++[M,N]).length=ps.length+2:=by simp
   have hsm:wE (ps++[M,N])=wE ps+(M.size+N.size):=by rw[mG];simp[wE]
   replace K:=bA K;rw[<-B];clear u I;generalize ps++[M,N]=ps5 at *;go_wp2;exact⟨⟨k+1,ps5,g5,A,by omega,by go_num,rfl,by omega,by omega,HX.out (by omega),K.out⟩,by simp[intOf];omega⟩
  ·have HE:=bA (S.out.fin f);have y3:=(H.out.blk.cell 3).trans HT.out.2;clear S HM HBM HN1 K;go_wp2_with fail;refine(HU4.out _).mono ?_;rintro e w4 ⟨rfl,r⟩;replace H:=bA (H.out.later r);have hww:=aA H.out.blk;clear r a y3 HU4;go_wp2_with(at_builtin;refine gN rfl _ _ rfl underlying39 ns rfl (by omega) (by omega) rfl H.out.row rfl rfl (cs:=#[.string X]) rfl (by simp[Value.oneCell']) (by omega) hww ?_;intro g5 A U O5 T5;have H6:=bA (H.out.one O5.out T5.out);have y3:U.cell? ⟨w.heap.size,3,none⟩=some (.slice O ss.length T):=(H6.out.blk.cell 3).trans HT.out.2);have B:(ps++[X]).length=ps.length+1:=by simp
   have hsm:wE (ps++[X])=wE ps+X.size:=by rw[mG];simp[wE]
   rw[<-B];have HPP:Hid (ps++[X]=[N1,N2,N3]++dQ ms++[X]):=by show _=_;rw[HE.out.1]
   clear O5 T5 H;generalize hPP:ps++[X]=PP at *;clear hPP;go_loopw [3,7,54] (fun out _ i wr=>∃(k:Nat) (ps:List ByteArray) (g cv:Nat),k<=ss.length/\i=.int .i64 k/\out=.slice (some ⟨g,0,none⟩) ps.length cv/\ps.length<=4000010+2*k/\wE ps<=200000000000+k*70000/\Hid (TR ps ss k PP)/\Hid (TE w wr TC g cv ps)) (fun _ _ i _=>ss.length-(intOf i).toNat)
   case atStart=>exact⟨0,PP,_,_,La _,rfl,rfl,by omega,by omega,⟨by simp[dQ],fun j _ h=>absurd h (by omega)⟩,H6.out⟩
   case round=>
    clear hpl hps B hsm f hk y3 H6;obtain⟨k,ps,g,cv,hk,rfl,rfl,hpl,hps,S,H⟩:=hrel;have a:=H.out.bel;by_cases f:k<ss.length
    ·obtain⟨b,o,rfl,hb,c0,Z⟩:=(HS.out.later a).at f;have D:=bA (fun W=>xN ss[k].s W (HBS.out k f));have V:=bA (fun W=>gL ss[k].n W);have HX:=bA (S.out.next f);have E:=bA (HN2.out k f);have hq3:=oD ss[k].s;have hq4:=iA 8 ss[k].n;generalize nD ss[k].s=M at *;generalize fA 8 ss[k].n=N at *;generalize ss[k].s=z at *;generalize ss[k].n=C at *;by_cases hgt:(z.size:Int) > 65535
     ·replace E:=bA (E.out (by omega));go_wp2;go_ret;exact⟨by rw[E.out];rfl,nA a (cA _ _)⟩
     have y:=bA (eA.new wr #[.string z,.int .i64 C] 109);have H1:=bA (H.out.later (cA wr (.cells #[.string z,.int .i64 C] 109)));have hgB:=(lH H.out.row).2.1;clear S E H;go_upto_region 17 with fail;generalize wr.alloc (.cells #[.string z,.int .i64 C] 109)=W at *;have hBX:=aA y.out;clear hb c0 Z a;generalize wr.heap.size=x at *;clear wr;have l:Hid (∀d,Below W.heap.size W d->d.cell? ⟨x,0,none⟩=some (.string z)/\d.cell? ⟨x,1,none⟩=some (.int .i64 C)):=fun d h=>⟨(y.out.later h).cell 0,(y.out.later h).cell 1⟩
     obtain⟨x0,x1⟩:=l.out W (Below.refl _ _);go_region_held3 (fun d=>d.cell? ⟨x,0,none⟩=some (.string z)/\d.cell? ⟨x,1,none⟩=some (.int .i64 C))
      (first|go_keep|exact u|exact l.out _ (c.alloc c.size _)|exact l.out _ c|exact l.out _ G)
      (first
       |(go_at_call 23;refine(D.out _).mono ?_;rintro e w3 ⟨rfl,F⟩;have G:Below W.heap.size W w3:=(Below.refl _ W).drew.trans F)
       |(go_at_call 18;refine(V.out _).mono ?_;rintro e w4 ⟨rfl,r⟩;have c:Below W.heap.size W w4:=nA G r)
       |(refine cg (by exact H1.out.later c) (by rfl) _ _ (by rfl) (by rfl) (by rfl) (by rfl) (by omega) ?_;intro g5 A U K I;have u:U.cell? ⟨x,0,none⟩=some (.string z)/\U.cell? ⟨x,1,none⟩=some (.int .i64 C):=(by have q:=l.out _ c;have J:=I x (by have:=c.size;omega) (by omega);exact⟨(World.cell?_of_block J).trans q.1,(World.cell?_of_block J).trans q.2⟩)))
     have B:(ps++[M,N]).length=ps.length+2:=by simp
     have hsm:wE (ps++[M,N])=wE ps+(M.size+N.size):=by rw[mG];simp[wE]
     replace K:=bA K;rw[<-B];clear u I;generalize ps++[M,N]=ps5 at *;go_wp2;exact⟨⟨k+1,ps5,g5,A,by omega,by go_num,rfl,by omega,by omega,HX.out (by omega),K.out⟩,by simp[intOf];omega⟩
    ·have E2:Hid (gE ps=TV):=by
      show _=_;obtain⟨h1,h2⟩:=S.out.fin f;rw[h1,pF,cZ,HPP.out,pF,pF,cZ,HKB.out HE.out.2 h2];simp[gE,Gb]
     obtain⟨hcv,hg,hcs⟩:=lH H.out.row;have HJ:=bA (eK g ps.length cv ps wr rfl hcs hg hcv (by omega) (by omega));rw[E2.out]at HJ;clear hcs;go_wp2_with fail;refine HJ.out.mono ?_;rintro e w2 ⟨rfl,m⟩;have B2:=bA (nA a m);clear m;go_wp2;go_ret;exact⟨rfl,B2.out⟩
def yy (a:List dA):Prop:=∀i (h:i<a.length),a[i].name.size<=1000000000/\a[i].m9.length<=2000000/\a[i].s9.length<=2000000/\(∀j (b:j<a[i].m9.length),a[i].m9[j].s.size<=1000000000)/\(∀j (b:j<a[i].s9.length),a[i].s9[j].s.size<=1000000000)
theorem aY (a:List dA) (k:Nat):(iC (a.take k)).size<=(iC a).size:=by
 have:=zI (a.take k) (a.drop k);rw[Ya]at this;rw[this,Ga];omega
theorem WT:∀(a:List dA),gE (a.map eL)=iC a
 |[]=>rfl
 |t::q=>by rw[Lb,gE,WT q,iC]
theorem KJ (v m:Int) (w:World):Calls prog 46 #[.int .i64 v,.int .i64 m] w fun e b=>e=.returned (.bool (decide (0<=v/\v<=m)))/\b=w:=by
 by_cases a:0<=v
 ·have e:decide (0<=v/\v<=m)=decide (v<=m):=by simp[a]
  rw[e];go_enter func46,ntmps46;go_wp2;go_ret;exact⟨rfl,rfl⟩
 ·have e:decide (0<=v/\v<=m)=false:=by simp[a]
  rw[e];go_enter func46,ntmps46;go_wp2;go_ret;exact⟨rfl,rfl⟩
theorem FM (d f:Int) (a:Option Addr) (y:Nat) (c:List dA) (w:World) (hf:oB w a c) (hB:yy c) (hlen:c.length<=2000000) (hz:(iC c).size<=100000000):
 Calls prog 13 #[.int .i64 d,.agg #[.int .i64 f,.slice a c.length y]] w fun e r=>e=.returned (.string (xE d f c))/\Below w.heap.size w r:=by
 have F:Hid (∀W,Calls prog 46 #[.int .i64 d,.int .i64 1000000000000000] W fun e r=>e=.returned (.bool (decide (0<=d/\d<=1000000000000000)))/\r=W):=fun W=>KJ _ _ W;by_cases P:¬(0<=d/\d<=1000000000000000)
 ·have E:Hid (xE d f c=ByteArray.empty):=lX fun h=>P ⟨h.1,h.2.1⟩;rw[E.out];rw[show decide (0<=d/\d<=1000000000000000)=false from Bc P]at F;clear hf hB P;go_enter func13,ntmps13;go_wp2_with fail;refine(F.out _).mono ?_;rintro e w1 ⟨rfl,hw⟩;replace hw:=hw.symm;subst hw;go_wp2;go_ret;exact⟨rfl,cA _ _⟩
 replace P:=Classical.not_not.1 P;rw[Zb P]at F;have HF:Hid (oB w a c):=hf;have HB:Hid (yy c):=hB;have HU1:Hid _:=fun W=>gL d W;have HU2:Hid _:=fun W=>gL f W;have HU3:Hid (∀W,Calls prog 47 #[.int .i64 (c.length:Nat)] W fun e r=>e=.returned (.string (fA 4 (c.length:Nat)))/\Below W.heap.size W r):=fun W=>dR _ W;have hz1:=iA 8 d;have hz2:=iA 8 f;have hz3:=iA 4 (c.length:Nat);have hzx:(gH d f c).size=24+(iC c).size:=by unfold gH;rw[Ga,CH]
 have HX:Hid (gH d f c=tf++fA 8 d++fA 8 f++fA 4 (c.length:Nat)++iC c):=rfl;have HOK:Hid ((∀i (h:i<c.length),fH c[i])->xE d f c=gH d f c++fA 4 (bG (gH d f c):Nat)):=fun h=>nR ⟨P.1,P.2,h⟩;have HNO:Hid _:=fun k (h:k<c.length) (h2:¬fH c[k])=>kq h h2 d f;have HCR:Hid (∀W,Calls prog 49 #[.string (gH d f c)] W fun e r=>e=.returned (.int .i64 (bG (gH d f c):Nat))/\Below W.heap.size W r):=fun W=>YE _ W (by unfold maxLen;omega);have HU4:Hid (∀W,Calls prog 47 #[.int .i64 (bG (gH d f c):Nat)] W fun e r=>e=.returned (.string (fA 4 (bG (gH d f c):Nat)))/\Below W.heap.size W r):=fun W=>dR _ W;have hz4:=iA 4 (bG (gH d f c):Nat);generalize fA 4 (bG (gH d f c):Nat)=N4 at *;generalize bG (gH d f c)=CR at *;generalize gH d f c=SX at *;generalize xE d f c=SB at *;generalize fA 8 d=N1 at *;generalize fA 8 f=N2 at *;generalize fA 4 (c.length:Nat)=N3 at *;obtain⟨CK,L⟩:∃C:ByteArray,C=tf:=⟨_,rfl⟩
 have hzc:CK.size=4:=by rw[L];rfl
 have HCK:Hid _:=L;rw[<-L]at HX;clear L;obtain⟨ti,hti,ht0,ht1,ht2⟩:=DK;have HI:Hid _:=hti;clear hf hB hti;go_enter func13,ntmps13;go_wp2_with fail;refine(F.out _).mono ?_;rintro e w1 ⟨rfl,hw⟩;replace hw:=hw.symm;subst hw;clear F;go_upto_region 3 with fail;have X6:Hid (eA (w.alloc (.cells #[.int .i64 f,.slice a c.length y] 51)) w.heap.size #[.int .i64 f,.slice a c.length y] 51):=eA.new _ _ _;have B0:Hid (Below w.heap.size w (w.alloc (.cells #[.int .i64 f,.slice a c.length y] 51))):=cA _ _;generalize w.alloc (.cells #[.int .i64 f,.slice a c.length y] 51)=B at *;have HK:Hid (∀r,Below B.heap.size B r->r.cell? ⟨w.heap.size,0,none⟩=some (.int .i64 f)/\r.cell? ⟨w.heap.size,1,none⟩=some (.slice a c.length y)):=fun r h=>by
  have q:=X6.out.later h;exact⟨q.cell 0,q.cell 1⟩
 obtain⟨x0,x1⟩:=HK.out B (Below.refl _ _);go_cut [5] (fun s wx=>∃g,s=.slice (some ⟨g,0,none⟩) 4 4/\B.heap.size<=g/\wx.heap[g]?=some (.cells #[.string CK,.string N1,.string N2,.string N3] 9 (0,0))/\Below B.heap.size B wx)
 case first=>
  go_region_held3 (fun r=>r.cell? ⟨w.heap.size,0,none⟩=some (.int .i64 f)/\r.cell? ⟨w.heap.size,1,none⟩=some (.slice a c.length y))
   (first|go_keep|exact HK.out _ k4|exact HK.out _ k3|exact HK.out _ k2)
   (first
    |(go_at_call 18;(fail_if_success (have q:=k2));refine(HU1.out _).mono ?_;rintro e w2 ⟨rfl,J⟩;have k2:Below B.heap.size B w2:=(by exact nA (Below.refl _ _).drew J))
    |(go_at_call 18;have q:=k2;clear q;refine(HU2.out _).mono ?_;rintro e w3 ⟨rfl,K⟩;have k3:Below B.heap.size B w3:=(by exact nA k2 K))
    |(go_at_call 47;refine(HU3.out _).mono ?_;rintro e O ⟨rfl,n⟩;have k4:Below B.heap.size B O:=(by exact nA k3 n)))
  all_goals(go_wp2_with fail;go_meet)
  all_goals exact⟨_,rfl,k4.size,by rw[HCK.out];exact heap_alloc_new _ _,nA k4 (cA _ _)⟩
 obtain⟨g0,rfl,hg0,G,V⟩:=hcut;rename World=>w5;have B5:Hid _:=nA B0.out V;have HBL:Hid (w5.heap[g0]?=some (.cells #[.string CK,.string N1,.string N2,.string N3] 9 (0,0))/\w.heap.size<=g0):=⟨G,Ra B0.out.size hg0⟩
 have HK5:Hid _:=(HK.out w5 V).2;have y1:=HK5.out;clear x0 x1 HK X6 G hg0 V B0 HU1 HU2 HU3 HK5;go_wp2;go_loopw [5,26] (fun out i wr=>∃(k:Nat) (m:List ByteArray) (g T:Nat),k<=c.length/\i=.int .i64 k/\out=.slice (some ⟨g,0,none⟩) m.length T/\m.length<=4+k/\wE m<=24+(iC (c.take k)).size/\Hid (m=[CK,N1,N2,N3]++(c.take k).map eL)/\Hid (∀j (h:j<c.length),j<k->fH c[j])/\Hid (wr.ownsRow w.heap.size 9 1 (.slice (some ⟨g,0,none⟩) m.length T) m.length (m.map Value.string))/\Below w.heap.size w wr) (fun _ i _=>c.length-(intOf i).toNat)
 case atStart=>
  exact⟨0,[CK,N1,N2,N3],_,_,La _,rfl,rfl,by simp,by simp[wE,iC];omega,by show _=_;simp,fun j _ h=>absurd h (by omega),⟨rfl,Ja ⟨g0,4,_,rfl,HBL.out.2,HBL.out.1,Ka _,by simp[maxLen],rfl,rfl⟩⟩,B5.out⟩
 case round=>
  obtain⟨k,m,g,T,hk,rfl,rfl,hpl,hps,HPS,t,u,p⟩:=hrel;by_cases H:k<c.length
  ·obtain⟨b,o,a1,c1',a2,c2',rfl,hb,d0,d1,d2,d3,p1,p2⟩:=(HF.out.later p).at H;obtain⟨q1,q2,q3,q4,q5⟩:=HB.out k H;have z:Hid _:=fun W (hW:Below wr.heap.size wr W)=>YI c[k] a1 a2 c1' c2' W (p1.later hW) (p2.later hW) q1 q2 q3 q4 q5;have Z:=aY c (k+1);have a0:=gZ c k H;have hes:=wW c[k];have Y:(iC (c.take (k+1))).size=(iC (c.take k)).size+(eL c[k]).size:=by rw[a0,Ga]
   have hsz:=p.size;by_cases A:fH c[k]
   ·rw[kt A]at z;have HA2:Hid (∀j (h:j<c.length),j<k+1->fH c[j]):=fun j h hj=>by
     rcases Rc j k with h1|h1
     ·exact t.out j h h1
     ·obtain rfl:j=k:=by omega
      exact A
    have E2:Hid (m++[eL c[k]]=[CK,N1,N2,N3]++(c.take (k+1)).map eL):=by
     show _=_;rw[HPS.out,Ma H,Vd,Ld];rfl
    have X:(eL c[k]).toList.isEmpty=false:=by
     rw[ByteArray.toList_eq];cases h:(eL c[k]).data.toList with
     |nil=>have h9:(eL c[k]).size=0:=by rw[ByteArray.size,<-Ue,h];rfl
           omega
     |cons x l=>rfl
    have R:((eL c[k]).toList==[])=false:=by simpa using X
    have HSS:Hid ((iC (c.take (k+1))).size=(iC (c.take k)).size+(eL c[k]).size/\(iC (c.take (k+1))).size<=(iC c).size):=⟨Y,Z⟩
    clear A t a0 hes Y Z q1 q2 q3 q4 q5 p1 p2;generalize eL c[k]=S at *;generalize c[k].name=nm at *;generalize c[k].l9=li at *;generalize c[k].m9.length=m1 at *;generalize c[k].s9.length=m2 at *;go_wp2_with fail;refine(z.out _ (cA _ _)).mono ?_;rintro e O ⟨rfl,n⟩;have hwB:w.heap.size<=O.heap.size:=by have:=n.size;simp at this;omega
    have v:Hid (O.ownsRow w.heap.size 9 1 (.slice (some ⟨g,0,none⟩) m.length T) m.length (m.map Value.string)/\Below w.heap.size w O):=⟨vA (vA u.out (cA _ _)) n,nA (nA p (cA _ _)) n⟩
    clear n u p z d0 d1 d2 d3;go_wp2_with(at_builtin;refine wpList_append_lies _ rfl _ _ _ rfl w.heap.size 9 ti _ 1 16 underlying39 HI.out ht0 ht1 ht2 rfl (by omega) (.slice (some ⟨g,0,none⟩) m.length T) m.length (m.map Value.string) rfl (by exact vA v.out.1 (cA _ _)) ⟨O.heap.size,0,none⟩ 1 1 [.string S] rfl rfl (by exact World.news_of_block (heap_alloc_new _ _)) (by simp[Value.oneCell']) (by omega) (by simp[maxLen];omega) (by omega) (by simp;omega) (O.heap.size+1) (by simp) ?_;intro g5 cap5 w5 I M hat5 hlt5);have hgw:=uF v.out.1 g rfl;have hB5:=(nA v.out.2 (cA _ _)).grown M (by simp;omega) (fun q hq=>by simp[Value.ownBlock]at hq;omega);have hxs:m.map Value.string++[Value.string S]=(m++[S]).map Value.string:=by simp
    have N:(m++[S]).length=m.length+1:=by simp
    have hsm:wE (m++[S])=wE m+S.size:=by rw[mG];simp[wE]
    rw[hxs,<-N]at I;exact⟨⟨k+1,m++[S],g5,cap5,by omega,by go_num,by rw[N],by rw[N];omega,by have:=HSS.out;omega,E2.out,HA2.out,I,hB5⟩,by simp[intOf];omega⟩
   ·rw[JB A]at z;have E:Hid _:=HNO.out k H A;have D:Hid _:=z;have X:ByteArray.empty.toList.isEmpty=true:=by rw[ByteArray.toList_eq];rfl
    have R:(ByteArray.empty.toList==[])=true:=by rw[ByteArray.toList_eq];rfl
    clear A t a0 hes Y Z q1 q2 q3 q4 q5 p1 p2 u z;obtain⟨EM,U⟩:∃E:ByteArray,E=ByteArray.empty:=⟨_,rfl⟩
    rw[<-U]at D X R E;have HEM:Hid _:=U;clear U;generalize c[k].name=nm at *;generalize c[k].l9=li at *;generalize c[k].m9.length=m1 at *;generalize c[k].s9.length=m2 at *;go_wp2_with fail;refine(D.out _ (cA _ _)).mono ?_;rintro e O ⟨rfl,n⟩;have BW:Hid _:=nA (nA p (cA _ _)) n;clear n d0 d1 d2 d3 D;go_wp2;go_ret;exact⟨by rw[E.out,HEM.out];rfl,BW.out⟩
  ·have E2:Hid (gE m=SX):=by
    show _=_;rw[HPS.out,Ua (by omega),pF,WT,HX.out];simp[gE,Gb]
   have Q:=fun j h=>t.out j h (by omega);have E3:Hid _:=HOK.out Q;have N:=aY c k;obtain⟨hcv,hg,hcs⟩:=lH u.out;have HJ:Hid (Calls prog 24 #[.slice (some ⟨g,0,none⟩) m.length T] wr fun e r=>e=.returned (.string (gE m))/\Below wr.heap.size wr r):=eK g m.length T m wr rfl hcs hg hcv (by omega) (by omega);rw[E2.out]at HJ;clear u hcs Q t;go_wp2_with fail;refine HJ.out.mono ?_;rintro e w2 ⟨rfl,J⟩;have B2:Hid _:=nA p J;clear J;go_wp2_with fail;refine(HCR.out _).mono ?_;rintro e w3 ⟨rfl,K⟩;have B3:Hid _:=nA B2.out K;clear K;go_wp2_with fail;refine(HU4.out _).mono ?_;rintro e O ⟨rfl,n⟩;have B4:Hid _:=nA B3.out n;clear n;go_wp2;go_ret;exact⟨by rw[E3.out];rfl,B4.out⟩
