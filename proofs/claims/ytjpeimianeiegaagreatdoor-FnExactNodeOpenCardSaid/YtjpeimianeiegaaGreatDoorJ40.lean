import Derived.Test.YtjpeimianeiegaaGreatDoorJ37
set_option maxRecDepth 100000
set_option maxHeartbeats 40000000
namespace Go.Proofs.YtjpeimianeiegaaGreatDoor
open Go.RowKit Tryz
theorem aKr:(prog.info? 3).map (fun i=>(i.zero,i.size,i.bytes))=some (some (.int .i64 0),1,8):=by kernel_rfl
theorem aOx {w W:World} {B P:Nat} {b c d:Value} (h:Below B w W) (a:B<=P):Below B w (((W.setCell ⟨P,0,none⟩ b).setCell ⟨P,1,none⟩ c).setCell ⟨P,2,none⟩ d):=((h.setCell a _).setCell a _).setCell a _
theorem aNu {W:World} {P:Nat} {e f g a b c:Value} {t:TypeId} (d:lA W P #[e,f,g] t):lA (((W.setCell ⟨P,0,none⟩ a).setCell ⟨P,1,none⟩ b).setCell ⟨P,2,none⟩ c) P #[a,b,c] t:=by
 have:=((d.set 0 a).set 1 b).set 2 c;simpa using this
theorem ba {w:World} {B:Nat} {v:Value} {n:Nat} {l:List Value} {g:Nat} {a:Array Value} {t:TypeId} (h:w.ownsRow B 9 1 v n l) (j:lA w g a t) (k:t≠9):v.ownBlock≠some g:=by
 intro e;rcases h.2 with⟨b,_⟩|⟨m,i,d,b,_,c,_⟩
 ·rw[b]at e;simp[Value.ownBlock]at e
 ·rw[b]at e;simp only[Value.ownBlock,Ja]at e;subst e;have f:=c.symm.trans j;simp only[Ja,Obj.cells.injEq]at f;exact k f.2.1.symm
theorem bp (a:Option Addr) (cap:Nat) (K:kB) (w:World) (hf:iA w a K.fs) (hfit:GB K.fs):
 Calls prog 22 #[.agg #[.slice a K.fs.length cap,.int .i64 K.c,.int .i64 K.k,.int .i64 K.cr,.int .i64 K.fl,.bool K.dn]] w fun e C=>OpenSpec w (cD K) e C:=by
 have HF:=bA hf;have hlen:=hfit.len;have HS:=bA hfit;have hlm:K.fs.length<=maxLen:=by unfold maxLen;omega
 obtain⟨V,hV⟩:∃V,cD K=V:=⟨_,rfl⟩
 have HV:=bA hV;rw[hV];clear hf hfit hV;go_enter func22,ntmps22;go_upto_region 2 with fail;have t:=aAq (w:=w) (x:=#[.slice a K.fs.length cap,.int .i64 K.c,.int .i64 K.k,.int .i64 K.cr,.int .i64 K.fl,.bool K.dn]) (tx:=30) (y:=#[.slice none 0 0,.int .i64 0,.int .i64 0,.int .i64 0,.int .i64 0,.bool false]) (ty:=30) (z:=#[.int .i64 0,.int .i64 0,.int .i64 0]) (tz:=32) (u:=#[]) (tu:=9) (Below.refl _ _);generalize ((((w.alloc (.cells #[.slice a K.fs.length cap,.int .i64 K.c,.int .i64 K.k,.int .i64 K.cr,.int .i64 K.fl,.bool K.dn] 30)).alloc (.cells #[.slice none 0 0,.int .i64 0,.int .i64 0,.int .i64 0,.int .i64 0,.bool false] 30)).alloc (.cells #[.int .i64 0,.int .i64 0,.int .i64 0] 32)).alloc (.cells #[] 9))=W3 at *;have H:Hid (SO w.heap.size w W3 K a cap):=⟨t.1,t.2.1,t.2.2.1,HF.out.later t.2.2.2.2,t.2.2.2.2⟩
 clear t;obtain⟨⟨d0,d1,d2,d3,d4,d5⟩,-⟩:=H.out.cells;have HVD:=bA (fun b (h:vC K.fs K.c K.k K.cr K.fl=b)=>gI (cap:=cap) (dn:=K.dn) h W3 H.out.fi HS.out.r9 hlm HS.out.sum);go_wp2_with fail;refine(HVD.out _ rfl).mono ?_;rintro e w4 ⟨rfl,hb4⟩;replace H:=bA (H.out.later hb4);clear hb4 d0 d1 d2 d3 d4 d5 HVD;obtain⟨⟨d0,d1,d2,d3,d4,d5⟩,⟨r0,r1,r2,r3,r4,r5⟩,⟨s0,s1,s2⟩,yd,yr,yl,R⟩:=H.out.cells;cases hdv:vC K.fs K.c K.k K.cr K.fl with
 |false=>
  have E:Hid (V=(⟨[],0,0,0,0,false⟩,iD,[],6)):=bA (by rw[<-HV.out];unfold cD;rw[Ga hdv]);go_wp2;exact Me (gT rfl rfl rfl rfl rfl rfl H.out E.out (Ba rfl) (fun _ _=>Ba rfl) rfl rfl)
 |true=>
  have HDV:=bA hdv;obtain⟨a1,G,W5,hrun,hfi,hb5,hap⟩:=gd w4 a cap K.fs H.out.fi hlen;have HRUN:=bA hrun;have H5:Hid (SO w.heap.size w W5 K a cap/\iA W5 a1 K.fs):=⟨H.out.later hb5,hfi⟩
  have e0:W5.cell? ⟨w.heap.size,0,none⟩=some (.slice a K.fs.length cap):=H5.out.1.dk.cell 0;have f0:=H5.out.1.dk.free 0;have hl4:w.heap.size<w4.heap.size:=by omega
  clear hrun hfi hb5 hap hdv;go_upto_region 4 with fail;go_cut [36] (fun _ J=>∃a1 G,SO w.heap.size w J K a1 G)
  case first=>as_aux_lemma=>
   go_wp2_with(at_builtin;refine Lib.wpList_append_run _ rfl _ _ _ _ rfl _ _ rfl rfl _ _ HRUN.out ?_);go_meet;have hbut:eD w.heap.size W5 (W5.setCell ⟨w.heap.size,0,none⟩ (.slice a1 K.fs.length G)):=(eD.refl _ _).setCell 0 _;have h0:=H5.out.1.dk.set 0 (.slice a1 K.fs.length G);exact⟨a1,G,by simpa using h0,H5.out.1.rd.but hbut (by omega),H5.out.1.rl.but hbut (by omega),H5.out.2.apart (vZ H5.out.2 H5.out.1.dk) hbut,H5.out.1.be.setCell (Da _) _⟩
  clear H5 HRUN e0 f0 hl4 H d0 d1 d2 d3 d4 d5 r0 r1 r2 r3 r4 r5 s0 s1 s2 yd yr yl R;clear a1 G;obtain⟨a1,G,h6⟩:=hcut;rename World=>W6;have H:=bA h6;clear h6;obtain⟨⟨d0,d1,d2,d3,d4,d5⟩,⟨r0,r1,r2,r3,r4,r5⟩,⟨s0,s1,s2⟩,yd,yr,yl,R⟩:=H.out.cells;cases hdn:K.dn with
  |true=>
   have E:Hid (V=(K,iD,[],1)):=bA (by rw[<-HV.out];unfold cD;rw[Ca (by rw[HDV.out];decide),Ga hdn]);rw[hdn]at d5;go_wp2;rw[<-hdn];exact Me (gT rfl rfl rfl rfl rfl rfl H.out E.out H.out.fi (fun _ _=>Ba rfl) rfl rfl)
  |false=>
   have EV:Hid (V=QS K (gF K.fs)):=by show _=_;rw[<-HV.out,QR HDV.out hdn]
   have HDN:=bA hdn;rw[hdn]at d5;clear hdn HV;have HNM:Hid (∀i (h:i<K.fs.length),K.fs[i].name.size<=maxLen):=fun i h=>(HS.out.r9 i h).1;have hl6:w.heap.size<W6.heap.size:=by omega
   go_upto_block 0 with fail;go_cut [7,47] (fun nv _ J=>∃av cv,nv=.slice av (gF K.fs).length cv/\J.ownsRow W6.heap.size 3 1 (.slice av (gF K.fs).length cv) (gF K.fs).length ((gF K.fs).map (Value.int .i64))/\Below W6.heap.size W6 J)
   case first=>as_aux_lemma=>
    go_wp2_with fail;go_loopw [7,47] (fun nv iv wr=>∃(k:Nat) (A:List Int) (av:Option Addr) (cv:Nat),k<=K.fs.length/\A.length<=k/\Hid (A=gF (K.fs.take k))/\iv=.int .i64 k/\nv=.slice av A.length cv/\Hid (wr.ownsRow W6.heap.size 3 1 (.slice av A.length cv) A.length (A.map (Value.int .i64)))/\Below W6.heap.size W6 wr) (fun _ iv _=>K.fs.length-(intOf iv).toNat)
    case atStart=>exact⟨0,[],_,_,Ha _,Ha _,rfl,rfl,rfl,World.ownsRow_made W6 #[] 0 (Da _) (by simp[maxLen]) (by simp),cA _ _⟩
    case round=>
     obtain⟨k,A,av,cv,hk,hzl,HZ,rfl,rfl,HR,hbel⟩:=hrel;have hsz:=hbel.size;by_cases hkl:k<K.fs.length
     ·obtain⟨b,o,rfl,hbb,q0,q1,q2⟩:=(H.out.fi.later hbel).at hkl;have hsn:=HNM.out k hkl;have HYy:Hid (0<mE K.fs[k].name->A++[(mE K.fs[k].name:Int)]=gF (K.fs.take (k+1))):=fun h=>by rw[pX hkl h,HZ.out]
      have HYn:Hid (¬0<mE K.fs[k].name->A=gF (K.fs.take (k+1))):=fun h=>by rw[oZ hkl h,HZ.out]
      generalize K.fs[k].name=nm at *;generalize K.fs[k].data=dt at *;generalize K.fs[k].y9=sy at *;have HSG:=bA (fun W=>TQ nm W hsn);generalize mE nm=sg at *;have hnb:¬b=wr.heap.size:=by omega
      rcases Nat.eq_zero_or_pos sg with rfl|hp
      ·have HP:=bA (HYn.out (by omega));go_wp2_with(go_at_call 49;refine fC (HSG.out _) ?_);exact⟨⟨k+1,A,av,cv,by omega,by omega,HP.out,by go_num,rfl,cB HR.out (cA _ _),pA hbel (cA _ _)⟩,by simp[intOf];omega⟩
      ·have HP:=bA (HYy.out hp);go_wp2_with(first|(go_at_call 49;refine fC (HSG.out _) ?_)|(at_builtin;refine gL rfl _ _ rfl underlying116 aKr rfl (by omega) (by omega) (v:=.slice av A.length cv) rfl (cB HR.out (cA _ _)) rfl (by simp) rfl (by simp[Value.oneCell']) (by omega) (by simp;omega) ?_;intro g5 cap5 w5 HO HT _));exact⟨⟨k+1,A++[(sg:Int)],some ⟨g5,0,none⟩,cap5,by omega,by simp;omega,HP.out,by go_num,by simp,bA (by simpa using HO.out),(pA hbel (cA _ _)).trans (HT.out.below (by simp;omega) fun i hi e=>by omega)⟩,by simp[intOf];omega⟩
     ·obtain rfl:k=K.fs.length:=by omega
      have hz:A=gF K.fs:=by have:=HZ.out;rwa [Qb]at this
      subst hz;clear HZ;go_wp2;go_meet;exact⟨av,cv,rfl,HR.out,hbel⟩
   obtain⟨av,cv,rfl,I,hb7⟩:=hcut;rename World=>N;have HNI:=qX I;replace H:=bA (H.out.later hb7);clear I hb7 d0 d1 d2 d3 d4 d5 r0 r1 r2 r3 r4 r5 s0 s1 s2 yd yr yl R HNM;obtain⟨⟨d0,d1,d2,d3,d4,d5⟩,⟨r0,r1,r2,r3,r4,r5⟩,⟨s0,s1,s2⟩,yd,yr,yl,R⟩:=H.out.cells;obtain⟨A,hzs⟩:∃z,gF K.fs=z:=⟨_,rfl⟩
   have HZS:=bA hzs;rw[hzs]at HNI EV |-
   clear hzs;cases A with
   |nil=>
    obtain⟨f,O,S,p,r,s,x1,a0,-,hs1⟩:=cf (D:=K) (op:=nI 1) HS.out (by have:=mQ 1;unfold maxLen;show(vD 1).size<=_;omega) (by show(0:Nat)<=_;omega) (by show(0:Nat)<=_;omega);have EN:Hid (V=if x1≠0 then(⟨f,O,S,p,r,s⟩,iD,[],x1) else(⟨f,O,S,p,r,s⟩,⟨1,1,0⟩,[],0)):=by show _=_;rw[EV.out,QS,a0]
    have HST:Hid (GK K ⟨1,vD 1,⟨#[]⟩,⟨#[]⟩,0⟩ ⟨f,O,S,p,r,s⟩ x1):=hs1;clear a0 hs1 EV HNI r0 r1 r2 r3 r4 r5 s0 s1 s2 yd yr yl;go_upto_region 15 with fail;go_cut [10,11] (fun sa sb J=>∃P,sa=.pointer (some ⟨P,0,none⟩)/\sb=.int .i64 (x1:Nat)/\PX N P f O S p r s J)
    case first=>as_aux_lemma=>
     have HK:=bA (fun C (h:Below N.heap.size N C)=>(H.out.dk.later h).c6);go_region_held3 (fun C=>C.cell? ⟨w.heap.size,0,none⟩=some (.slice a1 K.fs.length G)/\C.cell? ⟨w.heap.size,1,none⟩=some (.int .i64 K.c)/\C.cell? ⟨w.heap.size,2,none⟩=some (.int .i64 K.k)/\C.cell? ⟨w.heap.size,3,none⟩=some (.int .i64 K.cr)/\C.cell? ⟨w.heap.size,4,none⟩=some (.int .i64 K.fl)/\C.cell? ⟨w.heap.size,5,none⟩=some (.bool K.dn))
      (first|go_keep|with_reducible exact HK.out _ (aMg Z (Da _))|with_reducible exact HK.out _ (aMg Z L.size)|with_reducible exact HK.out _ Z|with_reducible exact HK.out _ L|with_reducible exact HK.out _ (pA L (cA _ _))|with_reducible exact HK.out _ ((cA _ _).drew)|with_reducible exact HK.out _ (pA Z (cA _ _)))
      (first
      |(go_at_call 50;refine(mS _ _).mono ?_;rintro e v2 ⟨rfl,Y⟩;have L:Below N.heap.size N v2:=(by first|with_reducible exact pA (Below.refl _ _).drew Y|with_reducible exact pA ((cA _ _).drew) Y);have c2:=HK.out _ L;(first|(have hz:=tW Y)|skip))
      |(go_at_call 19;refine(HST.out _ _ _ (H.out.fi.later (by first|with_reducible exact L|with_reducible exact pA L (cA _ _)))).mono ?_;rintro e v3 ⟨a2,B,rfl,how,t⟩;have HOW:=bA how;have Z:Below N.heap.size N v3:=(by first|with_reducible exact pA L t|with_reducible exact pA (pA L (cA _ _)) t);have c3:=HK.out _ Z;(first|(have hz:=hz.later t)|(have hz:lA _ v2.heap.size _ _:=aV t)|skip);(try (obtain⟨q0,q1,q2,q3,q4,q5⟩:=hz.c6;have f0:=hz.free))))
     all_goals(go_wp2_with fail;go_meet)
     all_goals first
      |with_reducible exact⟨_,rfl,rfl,aHr HOW.out Z⟩
      |exact⟨_,rfl,rfl,aHs HOW.out Z (by first|exact Da _|exact L.size) hz⟩
    obtain⟨P,rfl,rfl,a2,B,hP,hPB,hf2,hb4⟩:=hcut;rename World=>W8;replace H:=bA (H.out.later hb4);clear d0 d1 d2 d3 d4 d5 R;obtain⟨⟨d0,d1,d2,d3,d4,d5⟩,⟨r0,r1,r2,r3,r4,r5⟩,⟨s0,s1,s2⟩,yd,yr,yl,R⟩:=H.out.cells;obtain⟨x0,x1',x2,x3,x4,x5⟩:=hPB.c6;by_cases hc:x1=0
    ·have E:Hid (V=(⟨f,O,S,p,r,s⟩,⟨1,1,0⟩,[],0)):=bA (by rw[EN.out,Ca (by simp[hc])]);have hcb:((x1:Int) != 0)=false:=by simp[hc]
     clear hc;go_wp2;exact Me (gT rfl rfl rfl rfl rfl rfl H.out E.out hf2 (fun _ _=>Ba rfl) rfl rfl)
    ·have E:Hid (V=(⟨f,O,S,p,r,s⟩,iD,[],x1)):=bA (by rw[EN.out,Ga hc]);have hcb:((x1:Int) != 0)=true:=by simpa using hc
     clear hc;go_wp2;exact Me (gT rfl rfl rfl rfl rfl rfl H.out E.out hf2 (fun _ _=>Ba rfl) rfl rfl)
   |cons x l=>
    obtain⟨f1,f2,-⟩:=dD HDV.out;have HASC:=bA (jL f1);have HUP:Hid (Up (x::l)):=bA (by rw[<-HZS.out];exact yt HASC.out);obtain⟨nb,no,rfl,hnb,hnc⟩:∃b o,av=some ⟨b,o,none⟩/\b<N.heap.size/\∀i (h:i<(x::l).length),N.cell? ⟨b,o+i,none⟩=some (.int .i64 (x::l)[i]):=HNI.elim (fun h=>by cases h) id;have HNC:=bA hnc;have HXB:Hid (∀j (h:j<(x::l).length),1<=(x::l)[j]/\(x::l)[j]<=999999):=fun j h=>by
     have:=gU (fs:=K.fs) (n:=(x::l)[j]) (by rw[HZS.out];exact Db _);exact⟨this.1,this.2.1⟩
    obtain⟨hx1,hx2⟩:1<=x/\x<=999999:=HXB.out 0 (by simp);have n0:N.cell? ⟨nb,no,none⟩=some (.int .i64 x):=hnc 0 (by simp);have hzk:l.length+1<=K.fs.length:=by have:=EA K.fs;rw[HZS.out]at this;simpa using this
    clear HNI hnc f1;rw[Sa];go_upto_block 2 with fail;go_cut [83] (fun _ J=>J=N/\∀j (h:j<(x::l).length),(x::l)[j]=x+j)
    case first=>
     go_wp2_with fail;go_loop [83] (fun iv=>∃k:Nat,k<=l.length+1/\iv=.int .i64 k/\Hid (∀j (h:j<(x::l).length),j<k->(x::l)[j]=x+j)) (fun iv=>l.length+1-(intOf iv).toNat)
     case atStart=>exact⟨0,Ha _,rfl,fun j _ h=>absurd h (by omega)⟩
     case round=>
      obtain⟨k,hk2,rfl,HALL⟩:=hrel;by_cases hk3:k<l.length+1
      ·have hkc:k<(x::l).length:=by rw[Sa];exact hk3
       have n1:=HNC.out k hkc;have hxb:=HXB.out k hkc;by_cases hq:(x::l)[k]=x+k
       ·have HNX:Hid (∀j (h:j<(x::l).length),j<k+1->(x::l)[j]=x+j):=fun j h hj=>by
         rcases Ac j k with h'|h'
         ·exact HALL.out j h h'
         ·obtain rfl:j=k:=by omega
          exact hq
        rw[hq]at n1;clear hq hxb;go_wp2;exact⟨⟨k+1,by omega,by go_num,HNX.out⟩,by simp[intOf];omega⟩
       ·have E:Hid (V=(K,iD,[],21)):=by
         show _=_;rw[EV.out];refine WH ?_;rcases Int.lt_or_le ((x::l).getLast (by simp)-x) (((x::l).length:Nat):Int) with h'|h'
         ·exact absurd ((vl HUP.out).2 h' k hkc) hq
         ·rw[Sa]at h';exact h'
        generalize (x::l)[k]=z at *;obtain⟨hb1,Y⟩:=hxb;go_wp2;exact Me (gT rfl rfl rfl rfl rfl rfl H.out E.out H.out.fi (fun _ _=>Ba rfl) rfl rfl)
      ·have hkk:k=l.length+1:=by omega
       have HA:=bA (fun j (h:j<(x::l).length)=>HALL.out j h (by rw[Sa]at h;omega));clear HALL;go_wp2;go_meet;exact⟨rfl,HA.out⟩
    obtain⟨hw,hall⟩:=hcut;rename World=>wz;replace hw:=hw.symm;subst hw;have hgap:(x::l).getLast (by simp)-x<(((x::l).length:Nat):Int):=(vl HUP.out).1 hall;obtain⟨cnt,hlast,hcn,-,hcx,hix⟩:=MT HASC.out HZS.out (by omega);have HIX:=bA hix;have hcl:l.length=cnt:=by rw[Sa]at hcn;omega
    subst hcl;have EG:Hid (V=goR K x (x+l.length) (uF K.fs (x+l.length) (l.length+1) x [] 0)):=by
     show _=_;rw[EV.out];show oP K x ((x::l).getLast (by simp)) (l.length+1)=_;rw[hlast,aHg (by omega),show(x+(l.length:Int)-x).toNat=l.length by omega]
    have n1:=HNC.out l.length (by simp);rw[hall l.length (by simp)]at n1;clear hix hgap hlast hcn hall HNC HXB EV HUP HZS;go_upto_region 26 with fail;go_cut [15] (fun sl J=>∃Q,sl=.pointer (some ⟨Q,0,none⟩)/\N.heap.size<Q/\lA J Q #[.int .i64 x,.int .i64 (x+l.length),.int .i64 0] 32/\J.ownsRow N.heap.size 9 1 (.slice (some ⟨N.heap.size,0,none⟩) 0 0) 0 []/\Below N.heap.size N J)
    case first=>as_aux_lemma=>
     go_region
     all_goals(go_wp2_with fail;go_meet)
     have hq:=(rP (N.alloc (.cells #[] 9)) #[.int .i64 x,.int .i64 (x+l.length),.int .i64 0] 32).later (Below.refl _ _).drew;exact⟨_,rfl,De _,by simpa using hq,cB (cB (World.ownsRow_made N #[] 0 (Da _) (by simp[maxLen]) (by simp)) (cA _ _)) (Below.refl _ _).drew,(pA (cA _ _) (cA _ _)).drew⟩
    obtain⟨Q,rfl,hQ,hqb,hrow0,hb0⟩:=hcut;rename World=>WC;have HQB:=bA hqb;have HR0:=bA hrow0;have HB0:=bA hb0;have hWC:=hb0.size;have H7:=H;have o0:WC.cell? ⟨Q,0,none⟩=some (.int .i64 x):=hqb.cell 0;have hl7:w.heap.size+1+1<N.heap.size:=R;clear hqb hrow0 hb0 d0 d1 d2 d3 d4 d5 r0 r1 r2 r3 r4 r5 s0 s1 s2 yd yr yl R n0 n1 hnb H;generalize l.length=m at *;obtain⟨M,hM⟩:∃M:Nat,M=1000000001:=⟨_,rfl⟩
    have HM:=bA hM;clear hM;obtain⟨ts,hts,ys0,ys1,ys2⟩:=DC;have HIS:Hid (prog.info? 9=some ts):=hts;clear hts;go_upto_block 4 with fail;go_cut [14] (fun s14 J=>∃(A:List ByteArray) (av:Option Addr) (cv sz:Nat) (F:kB) (ac:Option Addr) (cc:Nat),s14=.slice av A.length cv/\J.ownsRow N.heap.size 9 1 (.slice av A.length cv) A.length (A.map Value.string)/\lA J Q #[.int .i64 x,.int .i64 (x+m),.int .i64 (sz:Nat)] 32/\SO w.heap.size w J F ac cc/\vC F.fs F.c F.k F.cr F.fl=true/\GB F.fs/\(∃i,∃h:i<F.fs.length,F.fs[i].name=vD (x+m))/\V=SK F x (x+m) sz A/\N.heap.size<=J.heap.size)
    case first=>
     go_wp2_with fail;go_loopw [14,16] (fun allv nv wr=>∃(j sz:Nat) (A:List ByteArray) (av:Option Addr) (cv:Nat),j<=m+1/\Hid (A.length<=j*M)/\nv=.int .i64 (x+j)/\allv=.slice av A.length cv/\Hid (wr.ownsRow N.heap.size 9 1 (.slice av A.length cv) A.length (A.map Value.string))/\Hid (lA wr Q #[.int .i64 x,.int .i64 (x+m),.int .i64 (sz:Nat)] 32)/\WC.heap.size<=wr.heap.size/\Hid (aEd w.heap.size w N wr K V x m j sz A)) (fun _ nv _=>(x+m+1-intOf nv).toNat)
     case atStart=>exact⟨0,0,[],_,_,by omega,Ha _,by simp,rfl,HR0.out,HQB.out,Da _,Ba ⟨by omega,HB0.out,by simpa using EG.out⟩⟩
     case round=>
      obtain⟨j,sz,A,av,cv,hj,HZL,rfl,rfl,HROW,HBQ,hws,HPH⟩:=hrel;obtain⟨-,o1,-⟩:=HBQ.out.c3;clear o0;by_cases hjm:j<=m
      ·obtain⟨hbel2,hgo⟩:Below N.heap.size N wr/\V=goR K x (x+m) (uF K.fs (x+m) (m+1-j) (x+j) A sz):=HPH.out.elim (fun h=>h.2) fun h=>by omega
       obtain⟨i,hi,hnm⟩:=HIX.out j hjm;have H:=bA (H7.out.later hbel2);obtain⟨dt,hd⟩:∃d,K.fs[i].data=d:=⟨_,rfl⟩
       have hds:dt.size<=1000000000:=by rw[<-hd];exact Ma (qR i hi) HS.out.sum
       have HRD:Hid (∀W,iA W a1 K.fs->Calls prog 20 #[.agg #[.slice a1 K.fs.length G,.int .i64 K.c,.int .i64 K.k,.int .i64 K.cr,.int .i64 K.fl,.bool K.dn],.string (vD (x+j))] W fun e C=>e=.returned (.tuple #[.string dt,.bool true])/\Below W.heap.size W C):=fun W hW=>by
        have:=FF a1 G K.fs K.c K.k K.cr K.fl K.dn (vD (x+j)) W hW HS.out.r9 hlm HS.out.sum;rw[aLu HDV.out HDN.out HASC.out hi hnm,hd]at this;exact this
       have HFD:Hid ((rJ K.fs (x+j)).data=dt):=bA (by rw[oY HASC.out hi hnm];exact hd);have HFI:Hid (∃i,∃h:i<K.fs.length,K.fs[i].name=vD (x+j)):=⟨i,hi,hnm⟩
       have HSC:=bA (fun W=>br dt W hds);have hvl:=IX dt;have HG:Hid (V=goR K x (x+m) (if (pG dt).2<dt.size/\x+(j:Int)<x+m then none else uF K.fs (x+m) (m-j) (x+j+1) (A++(pG dt).1) (pG dt).2)):=by
        show _=_;rw[hgo,show m+1-j=(m-j)+1 by omega,uF,CJ HASC.out hi hnm,hd]
       have HBE:=bA hbel2;have HK:=bA (fun C (h:Below wr.heap.size wr C)=>(H.out.dk.later h).c6);obtain⟨d0,d1,d2,d3,d4,d5⟩:=HK.out wr (Below.refl _ _);clear hbel2 hgo hnm hd HPH;go_upto_region 30 with fail;go_cut [17] (fun s17 J=>s17=.string dt/\Below wr.heap.size wr J)
       case first=>as_aux_lemma=>
        go_region_held3 (fun C=>C.cell? ⟨w.heap.size,0,none⟩=some (.slice a1 K.fs.length G)/\C.cell? ⟨w.heap.size,1,none⟩=some (.int .i64 K.c)/\C.cell? ⟨w.heap.size,2,none⟩=some (.int .i64 K.k)/\C.cell? ⟨w.heap.size,3,none⟩=some (.int .i64 K.cr)/\C.cell? ⟨w.heap.size,4,none⟩=some (.int .i64 K.fl)/\C.cell? ⟨w.heap.size,5,none⟩=some (.bool K.dn))
         (first|go_keep|with_reducible exact HK.out _ Z|with_reducible exact HK.out _ L)
         (first
         |(go_at_call 50;refine(mS _ _).mono ?_;rintro e v2 ⟨rfl,Y⟩;have L:Below wr.heap.size wr v2:=(by exact pA (Below.refl _ _).drew Y);have c2:=HK.out _ L)
         |(go_at_call 20;refine(HRD.out _ (H.out.fi.later L)).mono ?_;rintro e v3 ⟨rfl,t⟩;have Z:Below wr.heap.size wr v3:=pA L t;have c3:=HK.out _ Z))
        all_goals(go_wp2_with fail;go_meet)
        all_goals exact⟨rfl,Z⟩
       obtain⟨rfl,hb8⟩:=hcut;rename World=>w8;generalize pG dt=U at *;obtain⟨ps,T⟩:=U;dsimp only at hvl HSC HG;clear HK d0 d1 d2 d3 d4 d5 o1 HRD;go_wp2_with fail;refine(HSC.out _).mono ?_;rintro e w9 ⟨a2,c2,rfl,a0,hb9⟩;have hb:=pA hb8 hb9;have HST:=bA a0;have R9:=bA (cB HROW.out hb);have Q9:=bA (HBQ.out.later hb);have B9:=bA (pA HBE.out hb);have hz9:=B9.out.size;have hs9:=hb.size;have hzl:A.length<=1000*1000000001:=by
        have h1:=HZL.out;rw[HM.out]at h1;exact Ma h1 (Oe _ (by omega))
       clear a0 hb8 hb9 hb HSC HROW HBQ HBE H;go_upto_region 32 with fail;go_cut [14] (fun s14 J=>∃(av2:Option Addr) (cv2:Nat),s14=.slice av2 (A++ps).length cv2/\J.ownsRow N.heap.size 9 1 (.slice av2 (A++ps).length cv2) (A++ps).length ((A++ps).map Value.string)/\lA J Q #[.int .i64 x,.int .i64 (x+m),.int .i64 (sz:Nat)] 32/\Below N.heap.size N J/\w9.heap.size<=J.heap.size)
       case first=>as_aux_lemma=>
        by_cases hm:0<ps.length
        ·rcases HST.out with hps|⟨g,o2,cur,t2,rfl,hgB,hgb,hcl⟩
         ·rw[hps]at hm;simp at hm
         ·have HNEWS:Hid (∀q u,(ps.map Value.string)[q]?=some u->w9.cell? ((⟨g,o2,none⟩:Addr).add q)=some u):=fun q u hq=>by
           rw[Jd]at hq;obtain⟨y,hy,rfl⟩:=Ib.1 hq;obtain⟨hlt',rfl⟩:=Va.1 hy;rw[ND];exact hcl q hlt'
          clear hcl hgb hgB;go_wp2_with(at_builtin;refine wpList_append_lies _ rfl _ _ _ rfl N.heap.size 9 ts _ 1 16 underlying61 HIS.out ys0 ys1 ys2 rfl (by omega) (.slice av A.length cv) A.length (A.map Value.string) rfl R9.out ⟨g,o2,none⟩ ps.length c2 (ps.map Value.string) rfl (by simp) HNEWS.out (by simp[Value.oneCell']) hm (by simp[maxLen];omega) (by omega) hz9 w9.heap.size rfl ?_;intro g5 cap5 w5 hown5 hgrow5 hat5 hlt5);go_meet;rw[<-Qd,<-Qa]at hown5;have hT:=gA.grown hgrow5;have hne:=ba R9.out Q9.out (by decide);exact⟨_,cap5,by rw[Qa],hown5,hT.blk Q9.out hne,B9.out.trans (hT.below hz9 fun q hq e=>by have:=(R9.out.lt q e).1;omega),hgrow5.size⟩
        ·obtain rfl:ps=[]:=Fb.1 (by omega);go_wp2_with(at_builtin;refine tK rfl _ _ _ rfl N.heap.size 9 ts 1 underlying61 HIS.out (.slice av A.length cv) A.length (A.map Value.string) rfl R9.out a2 c2 rfl ?_);go_meet;rw[Dd];exact⟨av,cv,rfl,R9.out,Q9.out,B9.out,Da _⟩
       obtain⟨av2,cv2,rfl,hrow3,hbq3,hbe3,hs10⟩:=hcut;rename World=>w10;have HZ3:Hid ((A++ps).length<=(j+1)*M):=by
        show _<=_;have h1:=HZL.out;rw[Qa,Nat.succ_mul];have h2:ps.length<=M:=by rw[HM.out];omega
        omega
       generalize A++ps=zn at *;have HR3:=bA hrow3;have HQ3:=bA hbq3;have HB3:=bA hbe3;have H:=bA (H7.out.later hbe3);obtain⟨p0,p1,p2⟩:=hbq3.c3;have pf:=hbq3.free 2;clear hrow3 hbq3 hbe3 R9 Q9 B9 HST HZL;by_cases ht:T<dt.size
       ·have ht1:(T:Int)<(dt.size:Int):=by omega
        by_cases hl:j<m
        ·have E:Hid (V=(K,iD,[],20)):=bA (by rw[HG.out,Ga ⟨ht,by omega⟩];rfl);have hl1:x+(j:Int)<x+(m:Int):=by omega
         obtain⟨⟨d0,d1,d2,d3,d4,d5⟩,⟨r0,r1,r2,r3,r4,r5⟩,⟨s0,s1,s2⟩,yd,yr,yl,R⟩:=H.out.cells;go_wp2;exact Me (gT rfl rfl rfl rfl rfl rfl H.out E.out H.out.fi (fun _ _=>Ba rfl) rfl rfl)
        ·obtain rfl:j=m:=by omega
         have ho:dr (jD (x+j) T)=true:=IK (by omega) (by omega) (by omega);have hv1:=AE (dn:=K.dn) HDV.out ho;have e1:=FJ (K:=K) HDV.out ho;obtain⟨i1,hi1,hn1⟩:=HFI.out;have hk1:=SE (z:=(T:Int)) HDV.out ho HASC.out hi1 hn1;obtain⟨f,O,S,p,r,s,x1,a0,hfit1,hs1⟩:=cf (D:=K) (op:=jD (x+j) T) HS.out (by have:=mQ (x+j);unfold maxLen;show(vD (x+j)).size<=_;omega) (by show(0:Nat)<=_;omega) (by show(0:Nat)<=_;omega);have HVT:Hid (vC f O S p r=true/\GB f/\∃i,∃h:i<f.length,f[i].name=vD (x+j)):=by
          rw[a0]at e1;simp only[a0]at hk1;simp only[Hb,kB.mk.injEq]at e1;obtain⟨⟨rfl,rfl,rfl,rfl,rfl,rfl⟩,rfl⟩:=e1;obtain⟨q1,q2,_⟩:=hk1;exact⟨hv1,hfit1,i1,q1,q2⟩
         have EN:Hid (V=if x1≠0 then(⟨f,O,S,p,r,s⟩,iD,[],x1) else SK ⟨f,O,S,p,r,s⟩ x (x+j) T zn):=by
          show _=_;rw[HG.out,Ca (fun h=>by omega),Vg,uF];show(if (T:Int)<((rJ K.fs (x+j)).data.size:Int) then(if (wD K (jD (x+j) T)).2≠0 then((wD K (jD (x+j) T)).1,iD,[],(wD K (jD (x+j) T)).2) else SK (wD K (jD (x+j) T)).1 x (x+j) T zn) else _)=_;rw[HFD.out,Ga ht1,a0]
         have HST:Hid (GK K ⟨4,vD (x+j),⟨#[]⟩,⟨#[]⟩,T⟩ ⟨f,O,S,p,r,s⟩ x1):=hs1;have hQB:=HQ3.out.set 2 (.int .i64 (T:Nat));have HQ4:Hid (lA (w10.setCell ⟨Q,2,none⟩ (.int .i64 (T:Nat))) Q #[.int .i64 x,.int .i64 (x+j),.int .i64 (T:Nat)] 32):=bA (by simpa using hQB);have hT:gA (·=Q) w10 (w10.setCell ⟨Q,2,none⟩ (.int .i64 (T:Nat))):=(gA.refl (·=Q) w10).setCell (Ba rfl) 2 _;have HR4:=bA (hT.row HR3.out (fun g hg e=>ba HR3.out HQ3.out (by decide) (e ▸ hg)));have H4:=bA (H7.out.later (HB3.out.trans (hT.below (by omega) fun i hi e=>by omega)));have hs4:=hT.size;clear hv1 e1 hk1 a0 hs1 hfit1 hQB hT ho HQ3 HR3 HB3;go_upto_region 37 with fail;generalize w10.setCell ⟨Q,2,none⟩ (.int .i64 (T:Nat))=w11 at *;replace H:=H4;obtain⟨⟨d0,d1,d2,d3,d4,d5⟩,-⟩:=H.out.cells;clear p0 p1 p2 pf H4;go_cut [21,22] (fun sa sb J=>∃P,sa=.pointer (some ⟨P,0,none⟩)/\sb=.int .i64 (x1:Nat)/\PX w11 P f O S p r s J)
         case first=>
          have HK:=bA (fun C (h:Below w11.heap.size w11 C)=>(H.out.dk.later h).c6);go_region_held3 (fun C=>C.cell? ⟨w.heap.size,0,none⟩=some (.slice a1 K.fs.length G)/\C.cell? ⟨w.heap.size,1,none⟩=some (.int .i64 K.c)/\C.cell? ⟨w.heap.size,2,none⟩=some (.int .i64 K.k)/\C.cell? ⟨w.heap.size,3,none⟩=some (.int .i64 K.cr)/\C.cell? ⟨w.heap.size,4,none⟩=some (.int .i64 K.fl)/\C.cell? ⟨w.heap.size,5,none⟩=some (.bool K.dn))
           (first|go_keep|with_reducible exact HK.out _ (aMg Z (Da _))|with_reducible exact HK.out _ (aMg Z L.size)|with_reducible exact HK.out _ Z|with_reducible exact HK.out _ L|with_reducible exact HK.out _ (pA L (cA _ _))|with_reducible exact HK.out _ ((cA _ _).drew)|with_reducible exact HK.out _ (pA Z (cA _ _)))
           (first
           |(go_at_call 50;refine(mS _ _).mono ?_;rintro e v2 ⟨rfl,Y⟩;have L:Below w11.heap.size w11 v2:=(by first|with_reducible exact pA (Below.refl _ _).drew Y|with_reducible exact pA ((cA _ _).drew) Y);have c2:=HK.out _ L;(first|(have hz:=tW Y)|skip))
           |(go_at_call 19;refine(HST.out _ _ _ (H.out.fi.later (by first|with_reducible exact L|with_reducible exact pA L (cA _ _)))).mono ?_;rintro e v3 ⟨a2,B,rfl,how,t⟩;have HOW:=bA how;have Z:Below w11.heap.size w11 v3:=(by first|with_reducible exact pA L t|with_reducible exact pA (pA L (cA _ _)) t);have c3:=HK.out _ Z;(first|(have hz:=hz.later t)|(have hz:lA _ v2.heap.size _ _:=aV t)|skip);(try (obtain⟨q0,q1,q2,q3,q4,q5⟩:=hz.c6;have f0:=hz.free))))
          all_goals(go_wp2_with fail;go_meet)
          all_goals first
           |with_reducible exact⟨_,rfl,rfl,aHr HOW.out Z⟩
           |exact⟨_,rfl,rfl,aHs HOW.out Z (by first|exact Da _|exact L.size) hz⟩
         obtain⟨P,rfl,rfl,a2,B,hP,hPB,hf2,hb4⟩:=hcut;rename World=>w12;replace H:=bA (H.out.later hb4);have F12:=bA hf2;replace HQ4:=bA (HQ4.out.later hb4);replace HR4:=bA (cB HR4.out hb4);have hs12:=hb4.size;obtain⟨x0,x1',x2,x3,x4,x5⟩:=hPB.c6;clear d0 d1 d2 d3 d4 d5 hPB hf2 hb4;obtain⟨⟨d0,d1,d2,d3,d4,d5⟩,⟨r0,r1,r2,r3,r4,r5⟩,⟨s0,s1,s2⟩,yd,yr,yl,R⟩:=H.out.cells;go_upto_region 38 with fail;go_cut [] (fun J=>SO w.heap.size w J ⟨f,O,S,p,r,s⟩ a2 B/\lA J Q #[.int .i64 x,.int .i64 (x+j),.int .i64 (T:Nat)] 32/\J.ownsRow N.heap.size 9 1 (.slice av2 zn.length cv2) zn.length (zn.map Value.string)/\w12.heap.size<=J.heap.size)
         case first=>as_aux_lemma=>
          go_wp2_with fail;go_meet;have hT:=gA.but (iM (P:=w.heap.size) (w:=w12) (.slice a2 f.length B) (.int .i64 O) (.int .i64 S) (.int .i64 p) (.int .i64 r) (.bool s));exact⟨H.out.take (K':=⟨f,O,S,p,r,s⟩) F12.out,hT.blk HQ4.out (by omega),hT.row HR4.out (fun g hg e=>by have:=(HR4.out.lt g hg).1;omega),hT.size⟩
         obtain⟨hso,hbq,I,hs13⟩:=hcut;rename World=>w13;replace H:=bA hso;clear d0 d1 d2 d3 d4 d5 r0 r1 r2 r3 r4 r5 s0 s1 s2 yd yr yl R x0 x1' x2 x3 x4 x5 HQ4 HR4;by_cases hc:x1=0
         ·have hcb:((x1:Int) != 0)=false:=by simp[hc]
          have HPN:Hid (aEd w.heap.size w N w13 K V x j (j+1) T zn):=Ea ⟨rfl,_,a2,B,hso,HVT.out.1,HVT.out.2.1,HVT.out.2.2,by rw[EN.out,Ca (by simp[hc])]⟩;have HQ5:=bA hbq;have HR5:=bA I;clear hc hso hbq I;go_wp2;exact⟨⟨j+1,T,zn,av2,cv2,by omega,HZ3.out,by go_num,rfl,HR5.out,HQ5.out,by omega,HPN.out⟩,by simp[intOf];omega⟩
         ·have hcb:((x1:Int) != 0)=true:=by simpa using hc
          have E:Hid (V=(⟨f,O,S,p,r,s⟩,iD,[],x1)):=bA (by rw[EN.out,Ga hc]);clear hc hso hbq I;have hcs:=H.out.cells;dsimp only at hcs;obtain⟨⟨d0,d1,d2,d3,d4,d5⟩,⟨r0,r1,r2,r3,r4,r5⟩,⟨s0,s1,s2⟩,yd,yr,yl,R⟩:=hcs;go_wp2;exact Me (gT rfl rfl rfl rfl rfl rfl H.out E.out H.out.fi (fun _ _=>Ba rfl) rfl rfl)
       ·have ht1:¬(T:Int)<(dt.size:Int):=by omega
        have hT:gA (·=Q) w10 (w10.setCell ⟨Q,2,none⟩ (.int .i64 (T:Nat))):=(gA.refl (·=Q) w10).setCell (Ba rfl) 2 _;have hB:=HB3.out.trans (hT.below (by omega) fun i hi e=>by omega);have HPN:Hid (aEd w.heap.size w N (w10.setCell ⟨Q,2,none⟩ (.int .i64 (T:Nat))) K V x m (j+1) T zn):=by
         have hg:=HG.out;rw[Ca (fun h=>ht h.1)]at hg;by_cases hl:j<m
         ·exact Ba ⟨by omega,hB,by rw[hg,show m+1-(j+1)=m-j by omega,show x+((j+1:Nat):Int)=x+j+1 by omega]⟩
         ·obtain rfl:j=m:=by omega
          refine Ea ⟨rfl,K,a1,G,H7.out.later hB,HDV.out,HS.out,HFI.out,?_⟩;rw[hg,Vg,uF];show(if (T:Int)<((rJ K.fs (x+j)).data.size:Int) then _ else _)=_;rw[HFD.out,Ca ht1]
        have hQB:=HQ3.out.set 2 (.int .i64 (T:Nat));have HQ4:Hid (lA (w10.setCell ⟨Q,2,none⟩ (.int .i64 (T:Nat))) Q #[.int .i64 x,.int .i64 (x+m),.int .i64 (T:Nat)] 32):=bA (by simpa using hQB);have HR4:=bA (hT.row HR3.out (fun g hg e=>ba HR3.out HQ3.out (by decide) (e ▸ hg)));have hs4:=hT.size;clear hT hB hQB;rcases Ac j m with hl|hl
        ·have hl1:x+(j:Int)<x+(m:Int):=by omega
         have hl2:¬x+(j:Int)=x+(m:Int):=by omega
         go_wp2;exact⟨⟨j+1,T,zn,av2,cv2,by omega,HZ3.out,by go_num,rfl,HR4.out,HQ4.out,by omega,HPN.out⟩,by simp[intOf];omega⟩
        ·obtain rfl:j=m:=by omega
         go_wp2;exact⟨⟨j+1,T,zn,av2,cv2,by omega,HZ3.out,by go_num,rfl,HR4.out,HQ4.out,by omega,HPN.out⟩,by simp[intOf];omega⟩
      ·have hjj:¬x+(j:Int)<=x+(m:Int):=by omega
       have HX:=bA (HPH.out.elim (fun h=>by omega) fun h=>h.2);clear HPH;go_wp2;go_meet;obtain⟨F,ac,cc,q1,q2,q3,q4,q5⟩:=HX.out;exact⟨A,av,cv,sz,F,ac,cc,rfl,HROW.out,HBQ.out,q1,q2,q3,q4,q5,by omega⟩
    obtain⟨A,av,cv,sz,F,ac,cc,rfl,I,hbq,hso,hvc,hfc,⟨i,hi,hnm⟩,hfin,hs8⟩:=hcut;rename World=>w8;obtain⟨g1,-⟩:=dD hvc;have hascC:=jL g1;have H:=bA hso;have HQ8:=bA hbq;have HR8:=bA I;have HFC:=bA hfc;have HFN:=bA hfin;have hFA:=oY hascC hi hnm;have HFND:Hid (∀W,iA W ac F.fs->Calls prog 18 #[.agg #[.slice ac F.fs.length cc,.int .i64 F.c,.int .i64 F.k,.int .i64 F.cr,.int .i64 F.fl,.bool F.dn],.string (vD (x+m))] W fun e C=>e=.returned (.int .i64 (i:Int))/\Below W.heap.size W C):=fun W hW=>aU (aKi hascC hi hnm) W hW (by have:=hfc.len;unfold maxLen;omega);obtain⟨fb,fo,rfl,hfb,q0,q1,q2⟩:=hso.fi.at hi;rw[hnm]at q0;have hiC:(i:Int)<(F.fs.length:Int):=by omega
    have HDS:Hid ((rJ F.fs (x+m)).data=F.fs[i].data/\(rJ F.fs (x+m)).y9=F.fs[i].y9):=bA (by rw[hFA];exact⟨rfl,rfl⟩);generalize F.fs[i].data=dt at *;generalize F.fs[i].y9=sy at *;have HC:=bA (fun C (h:Below w8.heap.size w8 C)=>(⟨(H.out.dk.later h).c6,(HQ8.out.later h).c3,(h.cell hfb).trans q0,(h.cell hfb).trans q1,(h.cell hfb).trans q2⟩:_/\_/\_/\_/\_));obtain⟨⟨d0,d1,d2,d3,d4,d5⟩,⟨o0,o1,o2⟩,x0,x1,x2⟩:=HC.out w8 (Below.refl _ _);clear hso hvc hfc hfin I hbq g1 hascC hFA hnm q0 q1 q2;go_upto_region 41 with fail;go_cut [23] (fun sl J=>∃Q2,sl=.pointer (some ⟨Q2,0,none⟩)/\w8.heap.size<=Q2/\lA J Q2 #[.string (vD (x+m)),.string dt,.int .i64 sy] 98/\Below w8.heap.size w8 J)
    case first=>as_aux_lemma=>
     go_region_held3 (fun C=>(C.cell? ⟨w.heap.size,0,none⟩=some (.slice (some ⟨fb,fo,none⟩) F.fs.length cc)/\C.cell? ⟨w.heap.size,1,none⟩=some (.int .i64 F.c)/\C.cell? ⟨w.heap.size,2,none⟩=some (.int .i64 F.k)/\C.cell? ⟨w.heap.size,3,none⟩=some (.int .i64 F.cr)/\C.cell? ⟨w.heap.size,4,none⟩=some (.int .i64 F.fl)/\C.cell? ⟨w.heap.size,5,none⟩=some (.bool F.dn))/\(C.cell? ⟨Q,0,none⟩=some (.int .i64 x)/\C.cell? ⟨Q,1,none⟩=some (.int .i64 (x+m))/\C.cell? ⟨Q,2,none⟩=some (.int .i64 (sz:Nat)))/\C.cell? ⟨fb,fo+i*3,none⟩=some (.string (vD (x+m)))/\C.cell? ⟨fb,fo+i*3+1,none⟩=some (.string dt)/\C.cell? ⟨fb,fo+i*3+2,none⟩=some (.int .i64 sy))
      (first|go_keep|with_reducible exact HC.out _ (aOx Z (Da _))|with_reducible exact HC.out _ (aOx Z L.size)|with_reducible exact HC.out _ Z|with_reducible exact HC.out _ L|with_reducible exact HC.out _ (pA L (cA _ _))|with_reducible exact HC.out _ ((cA _ _).drew)|with_reducible exact HC.out _ (pA Z (cA _ _)))
      (first
      |(go_at_call 50;refine(mS _ _).mono ?_;rintro e v2 ⟨rfl,Y⟩;have L:Below w8.heap.size w8 v2:=(by first|with_reducible exact pA (Below.refl _ _).drew Y|with_reducible exact pA ((cA _ _).drew) Y);have c2:=HC.out _ L;(first|(have hz:=tW Y)|skip))
      |(go_at_call 18;refine(HFND.out _ (H.out.fi.later (by first|with_reducible exact L|with_reducible exact pA L (cA _ _)))).mono ?_;rintro e v3 ⟨rfl,t⟩;have Z:Below w8.heap.size w8 v3:=(by first|with_reducible exact pA L t|with_reducible exact pA (pA L (cA _ _)) t);have c3:=HC.out _ Z;(first|(have hz:=hz.later t)|(have hz:lA _ v2.heap.size _ _:=aV t)|skip);(try (obtain⟨z0,z1,z2⟩:=hz.c3;have f0:=hz.free))))
     all_goals(go_wp2_with fail;go_meet)
     all_goals first
      |with_reducible exact⟨_,rfl,Z.size,rP _ _ _,pA Z (cA _ _)⟩
      |exact⟨_,rfl,by first|exact Da _|exact L.size,aNu hz,aOx Z (by first|exact Da _|exact L.size)⟩
    obtain⟨Q2,rfl,hQ2,hqb2,hb14⟩:=hcut;rename World=>w14;replace H:=bA (H.out.later hb14);replace HQ8:=bA (HQ8.out.later hb14);replace HR8:=bA (cB HR8.out hb14);obtain⟨z0,z1,z2⟩:=hqb2.c3;clear HC HFND hb14 hqb2 d0 d1 d2 d3 d4 d5 o0 o1 o2 x0 x1 x2;have EF:Hid (V=if sy<(dt.size:Int) then(if (wD F (eR (x+m))).2≠0 then((wD F (eR (x+m))).1,iD,[],(wD F (eR (x+m))).2) else((wD F (eR (x+m))).1,⟨x,x+m,sz⟩,A,0)) else(F,⟨x,x+m,sz⟩,A,0)):=by
     show _=_;rw[HFN.out];unfold SK zO;rw[HDS.out.1,HDS.out.2];by_cases hy:sy<(dt.size:Int)
     ·rw[Ga hy,Ga hy]
     ·rw[Ca hy,Ca hy];simp
    clear HDS HFN;obtain⟨⟨d0,d1,d2,d3,d4,d5⟩,⟨r0,r1,r2,r3,r4,r5⟩,⟨s0,s1,s2⟩,yd,yr,yl,R⟩:=H.out.cells;obtain⟨p0,p1,p2⟩:=HQ8.out.c3;by_cases hy:sy<(dt.size:Int)
    ·obtain⟨f,O,S,p,r,s,x1,a0,-,hs1⟩:=cf (D:=F) (op:=eR (x+m)) HFC.out (by have:=mQ (x+m);unfold maxLen;show(vD (x+m)).size<=_;omega) (by show(0:Nat)<=_;omega) (by show(0:Nat)<=_;omega);have HST:Hid (GK F ⟨3,vD (x+m),⟨#[]⟩,⟨#[]⟩,0⟩ ⟨f,O,S,p,r,s⟩ x1):=hs1;have EN:Hid (V=if x1≠0 then(⟨f,O,S,p,r,s⟩,iD,[],x1) else(⟨f,O,S,p,r,s⟩,⟨x,x+m,sz⟩,A,0)):=by show _=_;rw[EF.out,Ga hy,a0]
     clear EF a0 hs1;go_wp2_with fail;refine(HST.out _ _ _ H.out.fi).mono ?_;rintro e w15 ⟨a2,B,rfl,how,t⟩;replace H:=bA (H.out.later t);replace HQ8:=bA (HQ8.out.later t);replace HR8:=bA (cB HR8.out t);have HOW:=bA how;clear how t;go_upto_region 44 with fail;replace H:=bA (H.out.later (cA w15 (.cells #[.slice a2 f.length B,.int .i64 O,.int .i64 S,.int .i64 p,.int .i64 r,.bool s] 30)));replace HQ8:=bA (HQ8.out.later (cA w15 (.cells #[.slice a2 f.length B,.int .i64 O,.int .i64 S,.int .i64 p,.int .i64 r,.bool s] 30)));replace HR8:=bA (cB HR8.out (cA w15 (.cells #[.slice a2 f.length B,.int .i64 O,.int .i64 S,.int .i64 p,.int .i64 r,.bool s] 30)));replace HOW:=bA (HOW.out.later (cA w15 (.cells #[.slice a2 f.length B,.int .i64 O,.int .i64 S,.int .i64 p,.int .i64 r,.bool s] 30)));obtain⟨x0,x1',x2,x3,x4,x5⟩:=(lA.new w15 #[.slice a2 f.length B,.int .i64 O,.int .i64 S,.int .i64 p,.int .i64 r,.bool s] 30).c6;clear d0 d1 d2 d3 d4 d5 r0 r1 r2 r3 r4 r5 s0 s1 s2 yd yr yl R p0 p1 p2 z0 z1 z2;generalize w15.alloc (.cells #[.slice a2 f.length B,.int .i64 O,.int .i64 S,.int .i64 p,.int .i64 r,.bool s] 30)=w16 at *;obtain⟨⟨d0,d1,d2,d3,d4,d5⟩,-,-,yd,-⟩:=H.out.cells;go_cut [] (fun J=>SO w.heap.size w J ⟨f,O,S,p,r,s⟩ a2 B/\lA J Q #[.int .i64 x,.int .i64 (x+m),.int .i64 (sz:Nat)] 32/\J.ownsRow N.heap.size 9 1 (.slice av A.length cv) A.length (A.map Value.string))
     case first=>as_aux_lemma=>
      go_wp2_with fail;go_meet;have hT:=gA.but (iM (P:=w.heap.size) (w:=w16) (.slice a2 f.length B) (.int .i64 O) (.int .i64 S) (.int .i64 p) (.int .i64 r) (.bool s));exact⟨H.out.take (K':=⟨f,O,S,p,r,s⟩) HOW.out,hT.blk HQ8.out (by omega),hT.row HR8.out (fun g hg e=>by have:=(HR8.out.lt g hg).1;omega)⟩
     obtain⟨hso,hbq,I⟩:=hcut;rename World=>w17;replace H:=bA hso;have HR9:=bA I;clear d0 d1 d2 d3 d4 d5 yd x0 x1' x2 x3 x4 x5 HQ8 HR8 HOW hso I;have hcs:=H.out.cells;dsimp only at hcs;obtain⟨⟨d0,d1,d2,d3,d4,d5⟩,⟨r0,r1,r2,r3,r4,r5⟩,⟨s0,s1,s2⟩,yd,yr,yl,R⟩:=hcs;obtain⟨p0,p1,p2⟩:=hbq.c3;by_cases hc:x1=0
     ·have E:Hid (V=(⟨f,O,S,p,r,s⟩,⟨x,x+m,sz⟩,A,0)):=bA (by rw[EN.out,Ca (by simp[hc])]);have hcb:((x1:Int) != 0)=false:=by simp[hc]
      clear hc hbq;go_wp2_with fail;go_region
      go_wp2;exact Zg (gT rfl rfl rfl rfl rfl rfl H.out E.out H.out.fi (fun X hX=>(qS (hX.row HR9.out (fun g hg e=>by have:=(HR9.out.lt g hg).1;omega))).strs) rfl rfl)
     ·have E:Hid (V=(⟨f,O,S,p,r,s⟩,iD,[],x1)):=bA (by rw[EN.out,Ga hc]);have hcb:((x1:Int) != 0)=true:=by simpa using hc
      clear hc hbq;go_wp2;exact Me (gT rfl rfl rfl rfl rfl rfl H.out E.out H.out.fi (fun _ _=>Ba rfl) rfl rfl)
    ·have E:Hid (V=(F,⟨x,x+m,sz⟩,A,0)):=bA (by rw[EF.out,Ca hy]);go_wp2_with fail;go_region
     go_wp2;exact Zg (gT rfl rfl rfl rfl rfl rfl H.out E.out H.out.fi (fun X hX=>(qS (hX.row HR8.out (fun g hg e=>by have:=(HR8.out.lt g hg).1;omega))).strs) rfl rfl)
