import Derived.Test.YtjpeimianeiegaaGreatDoorJ37
set_option maxRecDepth 100000
set_option maxHeartbeats 8000000
namespace Go.Proofs.YtjpeimianeiegaaGreatDoor
open Go.RowKit Tryz
theorem aDd {w:World} {B:Nat} {e:TypeId} {a:Nat} {v:Value} {n:Nat} {i:List Value} (h:w.ownsRow B e a v n i):∀g,v.ownBlock=some g->B<=g:=by
 intro q b;rcases h.2 with⟨c,_⟩|⟨g,d,f,c,j,_⟩
 ·rw[c]at b;simp[Value.ownBlock]at b
 ·rw[c]at b;simp[Value.ownBlock]at b;omega
theorem aEg (g o q:Nat):(⟨g,o,none⟩:Addr).add q=⟨g,o+q,none⟩:=by
 unfold Addr.add;split<;>simp_all
theorem OY {w wr j b:World} {P D l:Nat} {n:Nat} {k:Option Addr} {r:List Value} {first a:Int} {f:Nat} (e:w.heap.size<=wr.heap.size) (h:P<w.heap.size) (c:Below wr.heap.size wr j) (d:j.ownsRow w.heap.size 9 1 (.slice k n l) n r) (o:j.grownBy b (Value.slice k n l).ownBlock)
 (i:lA wr P #[.pointer (some ⟨D,0,none⟩),.int .i64 first,.int .i64 a,.int .i64 (f:Nat)] 76):
 Below w.heap.size wr b/\lA b P #[.pointer (some ⟨D,0,none⟩),.int .i64 first,.int .i64 a,.int .i64 (f:Nat)] 76/\b.cell? ⟨P,3,none⟩=some (.int .i64 (f:Nat))/\b.frozen? ⟨P,3,none⟩=false:=by
 have m:=(c.mono e).grown o (Ma e c.size) (fun q p=>aDd d q p);have g:lA b P #[.pointer (some ⟨D,0,none⟩),.int .i64 first,.int .i64 a,.int .i64 (f:Nat)] 76:=(m.block P h).trans i;exact⟨m,g,by rw[g.cell];rfl,g.free 3⟩
theorem UI {P:Nat} {w wr c:World} (h:eD P w wr) (k:Below w.heap.size wr c):eD P w c:=
 ⟨k.os.trans h.os,k.tape.trans h.tape,k.output.trans h.output,Ma h.size k.size,fun q b a=>(k.block q b).trans (h.block q b a)⟩
theorem iA.butA {w e:World} {P:Nat} {a:Option Addr} {d:List dA} (h:iA w a d) (g:eD P w e) (f:∀b o,a=some ⟨b,o,none⟩->b≠P):iA e a d:=by
 rcases h with h|⟨b,o,rfl,c,h⟩
 ·exact Ba h
 ·exact iA.but (Ea ⟨b,o,rfl,c,h⟩) g (f b o rfl)
theorem mr (P D:Nat) (a:Option Addr) (cap cnt:Nat) (l:List dA) (first:Int) (w:World) (O:lA w P #[.pointer (some ⟨D,0,none⟩),.int .i64 first,.int .i64 (first+cnt),.int .i64 0] 76) (hD:w.cell? ⟨D,4,none⟩=some (.slice a l.length cap)) (hDl:D<w.heap.size) (hDP:D≠P) (hf:iA w a l)
 (hfP:∀b o,a=some ⟨b,o,none⟩->b≠P) (T:dN l) (hlen:l.length<=1048576) (hPg:∀W,eD P w W->xI W) (hcnt:cnt<1000) (hfirst:1<=first) (hf2:first<=999999) (hix:∀j:Nat,j<=cnt->∃i,∃h:i<l.length,l[i].name=vD (first+j)) (hsz:∀n,(eW l n).size<=1000000000):
 Calls prog 103 #[.pointer (some ⟨P,0,none⟩)] w fun e w'=>ee P D first (first+cnt) w (uF l (first+cnt) (cnt+1) first [] 0) e w':=by
 have B:=aA O;have HF:Hid (iA w a l):=hf;have HFP:Hid _:=hfP;have HA:Hid (dN l):=T;have HPG:Hid _:=hPg;have HIX:Hid _:=hix;have HSZ:Hid _:=hsz;have HD:Hid _:=hD;obtain⟨ti,hti,hz0,hz1,hz2⟩:=DC;have HI:Hid _:=hti;have c0:w.cell? ⟨P,1,none⟩=some (.int .i64 first):=by rw[O.cell];rfl
 have HPB:Hid (lA w P #[.pointer (some ⟨D,0,none⟩),.int .i64 first,.int .i64 (first+cnt),.int .i64 0] 76):=O;have HG:∃R,Hid (uF l (first+cnt) (cnt+1) first [] 0=R):=⟨_,rfl⟩
 obtain⟨R,HR0⟩:=HG;rw[HR0.out];clear hti hf hfP T hPg hix hsz hD O;go_enter func103,ntmps103;go_wp2;go_loopw [4,5] (fun out i wr=>∃(j F:Nat) (c:List ByteArray) (C:Option Addr) (E:Nat),j<=cnt+1/\c.length<=j*1000000001/\Hid (uF l (first+cnt) (cnt+1-j) (first+j) c F=R)/\i=.int .i64 (first+j)/\out=.slice C c.length E/\Hid (wr.ownsRow w.heap.size 9 1 (.slice C c.length E) c.length (c.map Value.string))/\Hid (eD P w wr)/\Hid (lA wr P #[.pointer (some ⟨D,0,none⟩),.int .i64 first,.int .i64 (first+cnt),.int .i64 (F:Nat)] 76)) (fun _ i _=>(first+cnt+1-intOf i).toNat)
 case atStart=>
  exact⟨0,0,[],none,0,by omega,by simp,by simpa using HR0,by simp,rfl,⟨rfl,Ba ⟨rfl,rfl⟩⟩,eD.refl _ _,HPB.out⟩
 case round=>
  obtain⟨j,F,c,C,E,hj,hy,HR,rfl,rfl,I,s,v⟩:=hrel;have d0:wr.cell? ⟨P,0,none⟩=some (.pointer (some ⟨D,0,none⟩)):=by rw[v.out.cell];rfl
  have d2:wr.cell? ⟨P,2,none⟩=some (.int .i64 (first+cnt)):=by rw[v.out.cell];rfl
  have hsw:=s.out.size;clear c0;by_cases hlt:j<=cnt
  ·obtain⟨i,hi,j0⟩:=HIX.out j hlt;have X:Hid (iA wr a l):=HF.out.butA s.out HFP.out;have HDw:Hid _:=(World.cell?_of_block (s.out.block D hDl hDP)).trans HD.out;have HC1:Hid (Calls prog 142 #[.pointer (some ⟨P,0,none⟩),.int .i64 (first+j)] wr fun e w'=>∃b o,a=some ⟨b,o,none⟩/\e=.returned (.pointer (some ⟨b,o+i*3,none⟩))/\Below wr.heap.size wr w'):=XI P D a cap i l (first+j) wr d0 (by omega) HDw.out (by omega) X.out HA.out hlen (HPG.out wr s.out) hi j0;have g0:=CJ HA.out hi j0;have hds:l[i].data.size<=1000000000:=by rw[<-g0];exact HSZ.out _
   go_wp2_with fail;refine HC1.out.mono ?_;rintro e w1 ⟨b,o,rfl,rfl,e0⟩;obtain⟨b',o',eb,hbb,q0,q1,q2⟩:=(X.out.later e0).at hi;simp only[Ja,Addr.mk.injEq,Ub]at eb;obtain⟨rfl,rfl⟩:=eb;have HB1:Hid _:=e0;have N:Hid (uF l (first+cnt) (cnt+1-j) (first+j) c F=if (pG l[i].data).2<l[i].data.size/\first+(j:Int)<first+cnt then none else uF l (first+cnt) (cnt-j) (first+j+1) (c++(pG l[i].data).1) (pG l[i].data).2):=by
    show _=_;rw[show cnt+1-j=(cnt-j)+1 by omega,uF,g0]
   clear e0 HC1 X HDw j0 g0 q0 q2 d0;generalize l[i].data=dt at *;have hvl:=IX dt;have a0:Hid _:=fun W=>ZK dt W hds;generalize pG dt=V at *;obtain⟨t,S⟩:=V;simp only at hvl a0 N;go_wp2_with fail;refine(a0.out _).mono ?_;rintro e A ⟨a2,c2,rfl,hst,hb2⟩;have m:Hid _:=pA HB1.out hb2;have hs2:=m.out.size;have HST:Hid (yU A w1.heap.size a2 t):=hst;have f:=v.out.later m.out;have d2':A.cell? ⟨P,2,none⟩=some (.int .i64 (first+cnt)):=by rw[f.cell];rfl
   clear hst hb2 a0 q1 d2 f;by_cases ht:S<dt.size
   ·by_cases hl:j<cnt
    ·have HN:Hid (R=none):=by
      show _=_;rw[<-HR.out,N.out,Ga ⟨ht,by omega⟩]
     go_wp2;go_ret2;refine⟨s.out.trans (eD.of m.out),?_⟩;rw[HN.out];exact⟨rfl,F,v.out.later m.out⟩
    ·have HN:Hid (uF l (first+cnt) (cnt+1-(j+1)) (first+((j+1:Nat):Int)) (c++t) S=R):=by
      show _=_;rw[<-HR.out,N.out,Ca (fun h=>hl (by omega)),show cnt+1-(j+1)=cnt-j by omega,show first+((j+1:Nat):Int)=first+j+1 by omega]
     have d:Hid (A.ownsRow w.heap.size 9 1 (.slice C c.length E) c.length (c.map Value.string)):=cB I.out m.out;have K:w.heap.size<=A.heap.size:=by omega
     by_cases Q:0<t.length
     ·rcases HST.out with k0|⟨g,o2,cur,t2,b0,h0,i0,L⟩
      ·rw[k0]at Q;simp at Q
      ·subst b0;have z:Hid (∀q u,(t.map Value.string)[q]?=some u->A.cell? ((⟨g,o2,none⟩:Addr).add q)=some u):=fun q u hq=>by
        rw[Jd]at hq;obtain⟨x,hx,rfl⟩:=Ib.1 hq;obtain⟨M,rfl⟩:=Va.1 hx;rw[aEg];exact L q M
       clear L i0 h0;go_wp2_with(at_builtin;refine wpList_append_lies _ rfl _ _ _ rfl w.heap.size 9 ti _ 1 16 underlying61 HI.out hz0 hz1 hz2 rfl (by omega) (.slice C c.length E) c.length (c.map Value.string) rfl d.out ⟨g,o2,none⟩ t.length c2 (t.map Value.string) rfl (by simp) z.out (by simp[Value.oneCell']) Q (by simp[maxLen];omega) (by omega) K A.heap.size rfl ?_;intro g5 y w5 r k J hlt5;have H:=OY hsw B m.out d.out k v.out;have U:Hid (Below w.heap.size wr w5):=H.1;have G:Hid (lA w5 P #[.pointer (some ⟨D,0,none⟩),.int .i64 first,.int .i64 (first+cnt),.int .i64 (F:Nat)] 76):=H.2.1;have d3:=H.2.2.1;have f3:=H.2.2.2;have Z:Hid (w5.ownsRow w.heap.size 9 1 (.slice (some ⟨g5,0,none⟩) (c.length+t.length) y) (c.length+t.length) (c.map Value.string++t.map Value.string)):=r;clear H r k J);have h6:=Z.out;rw[<-Qd,<-Qa]at h6;refine⟨⟨j+1,S,c++t,some ⟨g5,0,none⟩,y,by omega,by rw[Qa];omega,HN,by go_num,by rw[Qa],gO h6 (p:=⟨P,3,none⟩) B _,(UI s.out U.out).setCell _ _,G.out.set 3 _⟩,by simp[intOf];omega⟩
     ·obtain rfl:t=[]:=Fb.1 (by omega);have f:Hid (lA A P #[.pointer (some ⟨D,0,none⟩),.int .i64 first,.int .i64 (first+cnt),.int .i64 (F:Nat)] 76):=v.out.later m.out;have d3:A.cell? ⟨P,3,none⟩=some (.int .i64 (F:Nat)):=by rw[f.out.cell];rfl
      have f3:=f.out.free 3;have Y:Hid (uF l (first+cnt) (cnt+1-(j+1)) (first+((j+1:Nat):Int)) c S=R):=by
       have h:=HN.out;rw[Dd]at h;exact h
      clear Q HN;go_wp2_with(at_builtin;refine tK rfl _ _ _ rfl w.heap.size 9 ti 1 underlying61 HI.out (.slice C c.length E) c.length (c.map Value.string) rfl d.out a2 c2 rfl ?_);refine⟨⟨j+1,S,c,C,E,by omega,Ma hy (Oe _ (Be _)),Y,by go_num,rfl,gO d.out (p:=⟨P,3,none⟩) B _,(s.out.trans (eD.of m.out)).setCell _ _,f.out.set 3 _⟩,by simp[intOf];omega⟩
   ·have HN:Hid (uF l (first+cnt) (cnt+1-(j+1)) (first+((j+1:Nat):Int)) (c++t) S=R):=by
     show _=_;rw[<-HR.out,N.out,Ca (fun h=>ht h.1),show cnt+1-(j+1)=cnt-j by omega,show first+((j+1:Nat):Int)=first+j+1 by omega]
    have d:Hid (A.ownsRow w.heap.size 9 1 (.slice C c.length E) c.length (c.map Value.string)):=cB I.out m.out;have K:w.heap.size<=A.heap.size:=by omega
    by_cases Q:0<t.length
    ·rcases HST.out with k0|⟨g,o2,cur,t2,b0,h0,i0,L⟩
     ·rw[k0]at Q;simp at Q
     ·subst b0;have z:Hid (∀q u,(t.map Value.string)[q]?=some u->A.cell? ((⟨g,o2,none⟩:Addr).add q)=some u):=fun q u hq=>by
       rw[Jd]at hq;obtain⟨x,hx,rfl⟩:=Ib.1 hq;obtain⟨M,rfl⟩:=Va.1 hx;rw[aEg];exact L q M
      clear L i0 h0;go_wp2_with(at_builtin;refine wpList_append_lies _ rfl _ _ _ rfl w.heap.size 9 ti _ 1 16 underlying61 HI.out hz0 hz1 hz2 rfl (by omega) (.slice C c.length E) c.length (c.map Value.string) rfl d.out ⟨g,o2,none⟩ t.length c2 (t.map Value.string) rfl (by simp) z.out (by simp[Value.oneCell']) Q (by simp[maxLen];omega) (by omega) K A.heap.size rfl ?_;intro g5 y w5 r k J hlt5;have H:=OY hsw B m.out d.out k v.out;have U:Hid (Below w.heap.size wr w5):=H.1;have G:Hid (lA w5 P #[.pointer (some ⟨D,0,none⟩),.int .i64 first,.int .i64 (first+cnt),.int .i64 (F:Nat)] 76):=H.2.1;have d3:=H.2.2.1;have f3:=H.2.2.2;have Z:Hid (w5.ownsRow w.heap.size 9 1 (.slice (some ⟨g5,0,none⟩) (c.length+t.length) y) (c.length+t.length) (c.map Value.string++t.map Value.string)):=r;clear H r k J);have h6:=Z.out;rw[<-Qd,<-Qa]at h6;refine⟨⟨j+1,S,c++t,some ⟨g5,0,none⟩,y,by omega,by rw[Qa];omega,HN,by go_num,by rw[Qa],gO h6 (p:=⟨P,3,none⟩) B _,(UI s.out U.out).setCell _ _,G.out.set 3 _⟩,by simp[intOf];omega⟩
    ·obtain rfl:t=[]:=Fb.1 (by omega);have f:Hid (lA A P #[.pointer (some ⟨D,0,none⟩),.int .i64 first,.int .i64 (first+cnt),.int .i64 (F:Nat)] 76):=v.out.later m.out;have d3:A.cell? ⟨P,3,none⟩=some (.int .i64 (F:Nat)):=by rw[f.out.cell];rfl
     have f3:=f.out.free 3;have Y:Hid (uF l (first+cnt) (cnt+1-(j+1)) (first+((j+1:Nat):Int)) c S=R):=by
      have h:=HN.out;rw[Dd]at h;exact h
     clear Q HN;go_wp2_with(at_builtin;refine tK rfl _ _ _ rfl w.heap.size 9 ti 1 underlying61 HI.out (.slice C c.length E) c.length (c.map Value.string) rfl d.out a2 c2 rfl ?_);refine⟨⟨j+1,S,c,C,E,by omega,Ma hy (Oe _ (Be _)),Y,by go_num,rfl,gO d.out (p:=⟨P,3,none⟩) B _,(s.out.trans (eD.of m.out)).setCell _ _,f.out.set 3 _⟩,by simp[intOf];omega⟩
  ·have e:j=cnt+1:=by omega
   have HN:Hid (R=some (c,F)):=by
    show _=_;rw[<-HR.out,e,Vg,uF]
   go_wp2;go_ret2;refine⟨s.out,?_⟩;rw[HN.out];exact⟨⟨C,E,rfl,I.out⟩,v.out⟩
theorem aS (v:Int) (w:World):Calls prog 167 #[.int .i64 v] w fun e d=>e=.returned (.string (aB 4 v))/\Below w.heap.size w d:=by
 have c:=bA (cI 4 v w (by omega));generalize aB 4 v=N at *;go_enter func167,ntmps167;go_wp2_with fail;refine c.out.mono ?_;rintro e f ⟨rfl,a⟩;have b:=bA a;clear a;go_wp2;go_ret;exact⟨rfl,b.out⟩
theorem pM (v:Int) (w:World):Calls prog 166 #[.int .i64 v] w fun e d=>e=.returned (.string (aB 8 v))/\Below w.heap.size w d:=by
 have c:=bA (cI 8 v w (by omega));generalize aB 8 v=N at *;go_enter func166,ntmps166;go_wp2_with fail;refine c.out.mono ?_;rintro e f ⟨rfl,a⟩;have b:=bA a;clear a;go_wp2;go_ret;exact⟨rfl,b.out⟩
def fR (ps:List fA):List ByteArray:=ps.flatMap fun p=>[nG p.s,aB 8 p.n]
theorem mg (ps:List fA) (k:Nat) (h:k<ps.length):fR (ps.take (k+1))=fR (ps.take k)++[nG ps[k].s,aB 8 ps[k].n]:=by
 unfold fR;rw[La h,Pg];rfl
theorem yZ:∀(ps:List fA),hJ (fR ps)=dC ps
 |[]=>rfl
 |p::q=>by
  have e:fR (p::q)=[nG p.s,aB 8 p.n]++fR q:=rfl;rw[e,nJ,yZ q,dC];simp[hJ,xQ]
def aPx (t:eA):Decidable (sH t):=by unfold sH NG;infer_instance
def TY (t:eA):ByteArray:=haveI:=aPx t;if sH t then lH t else ByteArray.empty
theorem MY {t:eA} (h:¬sH t):TY t=ByteArray.empty:=by unfold TY;rw[Ca h]
theorem ym {t:eA} (h:sH t):TY t=lH t:=by unfold TY;rw[Ga h]
structure TR (ps:List ByteArray) (ms:List fA) (k:Nat) (HD:List ByteArray):Prop where
 eq:ps=HD++fR (ms.take k)
 all:∀j (h:j<ms.length),j<k→ms[j].s.size≤65535
structure TE (w W:World) (TC:Array Value) (g cv:Nat) (ps:List ByteArray):Prop where
 row:W.ownsRow (w.heap.size+1) 9 1 (.slice (some ⟨g,0,none⟩) ps.length cv) ps.length (ps.map Value.string)
 blk:lA W w.heap.size TC 107
 bel:Below w.heap.size w W
section
variable {w W W':World} {TC:Array Value} {g cv k:Nat} {ps HD:List ByteArray} {ms:List fA}
theorem TR.next (h:TR ps ms k HD) (d:k<ms.length) (e:ms[k].s.size<=65535):TR (ps++[nG ms[k].s,aB 8 ms[k].n]) ms (k+1) HD:=
 ⟨by rw[mg ms k d,h.eq,Df],fun j b c=>by
  rcases Ac j k with a|a
  ·exact h.all j b a
  ·obtain rfl:j=k:=by omega
   exact e⟩
theorem TR.fin (h:TR ps ms k HD) (b:¬k<ms.length):ps=HD++fR ms/\NG ms:=⟨by rw[h.eq,Pa (by omega)],fun j a=>h.all j a (by omega)⟩
theorem TE.later (h:TE w W TC g cv ps) (a:Below W.heap.size W W'):TE w W' TC g cv ps:=⟨cB h.row a,h.blk.later a,pA h.bel a⟩
theorem oo {I:Array Oper} {o:Oper} {a:Act} {K:Act->World->Prop} {Q:Exit->Act->World->Prop} {E:Prop} {p:Nat} {x y:ByteArray} (h:TE w W TC g cv ps) (f:o.guard=none) (s z:Operand) (C:o.op=.call { callee:=.builtin .append,args:=#[s,z],argTypes:=#[61,61] }) (F:a.eval s=.slice (some ⟨g,0,none⟩) ps.length cv) (G:a.eval z=.slice (some ⟨p,0,none⟩) 2 2) (D:W.heap.size=p) (M:ps.length<=100000000)
 (k:∀d b c,TE w c TC d b (ps++[x,y])->(∀j,j<W.heap.size->j≠g->c.heap[j]?=W.heap[j]?)->K (a.put o.dst (.slice (some ⟨d,0,none⟩) (ps++[x,y]).length b)) c):
 if Region.wanted o (yielded I a.tmps)=true then Oper.wp prog o a (W.alloc (.cells #[.string x,.string y] 9)) K Q else E:=by
 subst D;obtain⟨J,q,l,m,n⟩:=VJ;have A:=aA h.blk;have L:=oI h.row g rfl;have H:W.heap.size<(W.alloc (.cells #[.string x,.string y] 9)).heap.size:=by simp
 refine jP _ f s z _ C (w.heap.size+1) 9 J _ 1 16 underlying61 q l m n rfl (by omega) g ps.length cv _ F (cB h.row (cA _ _)) _ 2 2 [.string x,.string y] G rfl (Ea ⟨_,rfl,World.news_of_block (cs:=#[.string x,.string y]) (heap_alloc_new _ _)⟩) (by simp[Value.oneCell']) (by simp[maxLen];omega) (by omega) (by omega) fun d b c r u v _ _ _=>?_;have t:=fun j B i=>(v j (by omega) i).trans ((cA _ _).block j B);have e:ps.length+2=(ps++[x,y]).length:=by simp
 rw[e]at r |-
 exact k d b c ⟨by rw[Qd];exact r,(t _ A (by omega)).trans h.blk,(pA h.bel (cA _ _)).trans (u.mono (by omega))⟩ t
theorem aAy:(prog.info? 9).map (fun i=>(i.zero,i.size,i.bytes))=some (some (.string ByteArray.empty),1,16):=by kernel_rfl
theorem TE.one {b a:Nat} {x:ByteArray} (h:TE w W TC g cv ps) (c:W'.ownsRow (w.heap.size+1) 9 1 (.slice (some ⟨b,0,none⟩) (ps.length+1) a) (ps.length+1) (ps.map Value.string++[.string x])) (d:gA (fun i=>w.heap.size+1<=i/\(Value.slice (some ⟨g,0,none⟩) ps.length cv).ownBlock=some i) W W'):TE w W' TC b a (ps++[x]):=by
 rw[show ps.length+1=(ps++[x]).length by simp]at c;exact⟨by rw[Qd];exact c,d.blk h.blk (by omega),h.bel.trans (d.below (by have:=h.bel.size;omega) fun i f e=>by omega)⟩
end
theorem jd (t:eA) (L O:Option Addr) (P T:Nat) (w:World) (hm:vA w L t.m9) (hs:vA w O t.s9) (hn:t.name.size<=1000000000) (hl1:t.m9.length<=2000000) (hl2:t.s9.length<=2000000) (Q:∀j (h:j<t.m9.length),t.m9[j].s.size<=1000000000) (m:∀j (h:j<t.s9.length),t.s9[j].s.size<=1000000000):
 Calls prog 168 #[.agg #[.string t.name,.int .i64 t.l9,.slice L t.m9.length P,.slice O t.s9.length T]] w fun e d=>e=.returned (.string (TY t))/\Below w.heap.size w d:=by
 obtain⟨p,v,ms,ss⟩:=t;simp only at hm hs hn hl1 hl2 Q m |-
 by_cases z1:p.size > 255
 ·have E:Hid (TY ⟨p,v,ms,ss⟩=ByteArray.empty):=MY fun h=>by have:=h.1;simp only at this;omega
  have z1':(p.size:Int) > 255:=by omega
  rw[E.out];clear hm hs Q m;go_enter func168,ntmps168;go_wp2;go_ret;exact⟨rfl,cA _ _⟩
 have z1':¬(p.size:Int) > 255:=by omega
 have HM:=bA hm;have HS:=bA hs;have HBM:=bA Q;have HBS:=bA m;have HU1:=bA (fun W=>PC p W hn);have HU2:=bA (fun W=>pM v W);have HU3:=bA (fun W=>aS (ms.length:Nat) W);have HU4:=bA (fun W=>aS (ss.length:Nat) W);have hz1:=yO p;have hz2:=bB 8 v;have hz3:=bB 4 (ms.length:Nat);have hz4:=bB 4 (ss.length:Nat);have HKB:Hid (NG ms->NG ss->TY ⟨p,v,ms,ss⟩=xV p++aB 8 v++aB 4 (ms.length:Nat)++dC ms++aB 4 (ss.length:Nat)++dC ss):=fun h1 h2=>ym ⟨by simp only;omega,h1,h2⟩;have HN1:Hid (∀k (h:k<ms.length),¬ms[k].s.size<=65535->TY ⟨p,v,ms,ss⟩=ByteArray.empty):=fun k h h2=>MY fun hh=>h2 (hh.2.1 k h);have HN2:Hid (∀k (h:k<ss.length),¬ss[k].s.size<=65535->TY ⟨p,v,ms,ss⟩=ByteArray.empty):=fun k h h2=>MY fun hh=>h2 (hh.2.2 k h);generalize xV p=N1 at *;generalize aB 8 v=N2 at *;generalize aB 4 (ms.length:Nat)=N3 at *;generalize aB 4 (ss.length:Nat)=X at *;generalize TY ⟨p,v,ms,ss⟩=TV at *;clear hm hs Q m;go_enter func168,ntmps168;go_upto_region 3 with fail;have Y:Hid (lA (w.alloc (.cells #[.string p,.int .i64 v,.slice L ms.length P,.slice O ss.length T] 107)) w.heap.size #[.string p,.int .i64 v,.slice L ms.length P,.slice O ss.length T] 107):=lA.new _ _ _;have B0:Hid (Below w.heap.size w (w.alloc (.cells #[.string p,.int .i64 v,.slice L ms.length P,.slice O ss.length T] 107))):=cA _ _;generalize w.alloc (.cells #[.string p,.int .i64 v,.slice L ms.length P,.slice O ss.length T] 107)=R at *;have HK:Hid (∀d,Below R.heap.size R d->d.cell? ⟨w.heap.size,0,none⟩=some (.string p)/\d.cell? ⟨w.heap.size,1,none⟩=some (.int .i64 v)/\d.cell? ⟨w.heap.size,2,none⟩=some (.slice L ms.length P)):=fun d h=>⟨(Y.out.later h).cell 0,(Y.out.later h).cell 1,(Y.out.later h).cell 2⟩
 obtain⟨x0,x1,x2⟩:=HK.out R (Below.refl _ _);obtain⟨TC,hTC⟩:∃TC:Array Value,TC=#[.string p,.int .i64 v,.slice L ms.length P,.slice O ss.length T]:=⟨_,rfl⟩
 have HT:Hid (TC[2]?=some (.slice L ms.length P)/\TC[3]?=some (.slice O ss.length T)):=by refine bA ?_;rw[hTC];exact⟨rfl,rfl⟩
 rw[<-hTC]at Y;clear hTC;go_cut [3] (fun s wx=>∃g,s=.slice (some ⟨g,0,none⟩) 3 3/\TE w wx TC g 3 [N1,N2,N3])
 case first=>
  go_region_held3 (fun d=>d.cell? ⟨w.heap.size,0,none⟩=some (.string p)/\d.cell? ⟨w.heap.size,1,none⟩=some (.int .i64 v)/\d.cell? ⟨w.heap.size,2,none⟩=some (.slice L ms.length P))
   (first|go_keep|exact HK.out _ k4|exact HK.out _ k3|exact HK.out _ k2)
   (first
    |(go_at_call 185;refine(HU1.out _).mono ?_;rintro e w2 ⟨rfl,m⟩;have k2:Below R.heap.size R w2:=(by exact pA (Below.refl _ _).drew m))
    |(go_at_call 166;refine(HU2.out _).mono ?_;rintro e w3 ⟨rfl,F⟩;have k3:Below R.heap.size R w3:=(by exact pA k2 F))
    |(go_at_call 167;refine(HU3.out _).mono ?_;rintro e w4 ⟨rfl,r⟩;have k4:Below R.heap.size R w4:=(by exact pA k3 r)))
  all_goals(go_wp2_with fail;go_meet)
  all_goals exact⟨_,rfl,⟨rfl,Ea ⟨_,3,_,rfl,(by have:=aA Y.out;have:=k4.size;omega),heap_alloc_new _ _,Da _,by simp[maxLen],rfl,rfl⟩⟩,(Y.out.later k4).alloc _,pA (pA B0.out k4) (cA _ _)⟩
 obtain⟨g0,rfl,hte⟩:=hcut;rename World=>U;have K:=bA hte;have y2:=(hte.blk.cell 2).trans HT.out.1;clear x0 x1 x2 HK Y hte B0 HU1 HU2 HU3;go_wp2;go_loopw [3,5,26] (fun out _ i wr=>∃(k:Nat) (ps:List ByteArray) (g cv:Nat),k<=ms.length/\i=.int .i64 k/\out=.slice (some ⟨g,0,none⟩) ps.length cv/\ps.length<=3+2*k/\aK ps<=2000000000+k*70000/\Hid (TR ps ms k [N1,N2,N3])/\Hid (TE w wr TC g cv ps)) (fun _ _ i _=>ms.length-(intOf i).toNat)
 case atStart=>exact⟨0,[N1,N2,N3],_,_,Ha _,rfl,rfl,by simp,by simp[aK];omega,⟨by simp[fR],fun j _ h=>absurd h (by omega)⟩,K.out⟩
 case round=>
  obtain⟨k,ps,g,cv,hk,rfl,rfl,hpl,hps,S,H⟩:=hrel;have a:=H.out.bel;by_cases f:k<ms.length
  ·obtain⟨b,o,rfl,hb,c0,Z⟩:=(HM.out.later a).at f;have D:=bA (fun W=>iX ms[k].s W (HBM.out k f));have V:=bA (fun W=>pM ms[k].n W);have HX:=bA (S.out.next f);have E:=bA (HN1.out k f);have hq3:=jK ms[k].s;have hq4:=bB 8 ms[k].n;generalize nG ms[k].s=M at *;generalize aB 8 ms[k].n=N at *;generalize ms[k].s=z at *;generalize ms[k].n=C at *;by_cases hgt:(z.size:Int) > 65535
   ·replace E:=bA (E.out (by omega));go_wp2;go_ret;exact⟨by rw[E.out];rfl,pA a (cA _ _)⟩
   have y:=bA (lA.new wr #[.string z,.int .i64 C] 111);have H1:=bA (H.out.later (cA wr (.cells #[.string z,.int .i64 C] 111)));have hgB:=(vN H.out.row).2.1;clear S E H;go_upto_region 9 with fail;generalize wr.alloc (.cells #[.string z,.int .i64 C] 111)=W at *;have hBX:=aA y.out;clear hb c0 Z a;generalize wr.heap.size=x at *;clear wr;have l:Hid (∀d,Below W.heap.size W d->d.cell? ⟨x,0,none⟩=some (.string z)/\d.cell? ⟨x,1,none⟩=some (.int .i64 C)):=fun d h=>⟨(y.out.later h).cell 0,(y.out.later h).cell 1⟩
   obtain⟨x0,x1⟩:=l.out W (Below.refl _ _);go_region_held3 (fun d=>d.cell? ⟨x,0,none⟩=some (.string z)/\d.cell? ⟨x,1,none⟩=some (.int .i64 C))
    (first|go_keep|exact u|exact l.out _ (c.alloc c.size _)|exact l.out _ c|exact l.out _ G)
    (first
     |(go_at_call 186;refine(D.out _).mono ?_;rintro e w3 ⟨rfl,F⟩;have G:Below W.heap.size W w3:=(Below.refl _ W).drew.trans F)
     |(go_at_call 166;refine(V.out _).mono ?_;rintro e w4 ⟨rfl,r⟩;have c:Below W.heap.size W w4:=pA G r)
     |(refine oo (by exact H1.out.later c) (by rfl) _ _ (by rfl) (by rfl) (by rfl) (by rfl) (by omega) ?_;intro g5 A U K I;have u:U.cell? ⟨x,0,none⟩=some (.string z)/\U.cell? ⟨x,1,none⟩=some (.int .i64 C):=(by have q:=l.out _ c;have J:=I x (by have:=c.size;omega) (by omega);exact⟨(World.cell?_of_block J).trans q.1,(World.cell?_of_block J).trans q.2⟩)))
   have B:(ps++[M,N]).length=ps.length+2:=by simp
   have hsm:aK (ps++[M,N])=aK ps+(M.size+N.size):=by rw[bM];simp[aK]
   replace K:=bA K;rw[<-B];clear u I;generalize ps++[M,N]=ps5 at *;go_wp2;exact⟨⟨k+1,ps5,g5,A,by omega,by go_num,rfl,by omega,by omega,HX.out (by omega),K.out⟩,by simp[intOf];omega⟩
  ·have HE:=bA (S.out.fin f);have y3:=(H.out.blk.cell 3).trans HT.out.2;clear S HM HBM HN1 K;go_wp2_with fail;refine(HU4.out _).mono ?_;rintro e w4 ⟨rfl,r⟩;replace H:=bA (H.out.later r);have hww:=aA H.out.blk;clear r a y3 HU4;go_wp2_with(at_builtin;refine bW rfl _ _ rfl underlying61 aAy rfl (by omega) (by omega) rfl H.out.row rfl rfl (cs:=#[.string X]) rfl (by simp[Value.oneCell']) (by omega) hww ?_;intro g5 A U O5 T5;have H6:=bA (H.out.one O5.out T5.out);have y3:U.cell? ⟨w.heap.size,3,none⟩=some (.slice O ss.length T):=(H6.out.blk.cell 3).trans HT.out.2);have B:(ps++[X]).length=ps.length+1:=by simp
   have hsm:aK (ps++[X])=aK ps+X.size:=by rw[bM];simp[aK]
   rw[<-B];have HPP:Hid (ps++[X]=[N1,N2,N3]++fR ms++[X]):=by show _=_;rw[HE.out.1]
   clear O5 T5 H;generalize hPP:ps++[X]=PP at *;clear hPP;go_loopw [3,7,54] (fun out _ i wr=>∃(k:Nat) (ps:List ByteArray) (g cv:Nat),k<=ss.length/\i=.int .i64 k/\out=.slice (some ⟨g,0,none⟩) ps.length cv/\ps.length<=4000010+2*k/\aK ps<=200000000000+k*70000/\Hid (TR ps ss k PP)/\Hid (TE w wr TC g cv ps)) (fun _ _ i _=>ss.length-(intOf i).toNat)
   case atStart=>exact⟨0,PP,_,_,Ha _,rfl,rfl,by omega,by omega,⟨by simp[fR],fun j _ h=>absurd h (by omega)⟩,H6.out⟩
   case round=>
    clear hpl hps B hsm f hk y3 H6;obtain⟨k,ps,g,cv,hk,rfl,rfl,hpl,hps,S,H⟩:=hrel;have a:=H.out.bel;by_cases f:k<ss.length
    ·obtain⟨b,o,rfl,hb,c0,Z⟩:=(HS.out.later a).at f;have D:=bA (fun W=>iX ss[k].s W (HBS.out k f));have V:=bA (fun W=>pM ss[k].n W);have HX:=bA (S.out.next f);have E:=bA (HN2.out k f);have hq3:=jK ss[k].s;have hq4:=bB 8 ss[k].n;generalize nG ss[k].s=M at *;generalize aB 8 ss[k].n=N at *;generalize ss[k].s=z at *;generalize ss[k].n=C at *;by_cases hgt:(z.size:Int) > 65535
     ·replace E:=bA (E.out (by omega));go_wp2;go_ret;exact⟨by rw[E.out];rfl,pA a (cA _ _)⟩
     have y:=bA (lA.new wr #[.string z,.int .i64 C] 113);have H1:=bA (H.out.later (cA wr (.cells #[.string z,.int .i64 C] 113)));have hgB:=(vN H.out.row).2.1;clear S E H;go_upto_region 17 with fail;generalize wr.alloc (.cells #[.string z,.int .i64 C] 113)=W at *;have hBX:=aA y.out;clear hb c0 Z a;generalize wr.heap.size=x at *;clear wr;have l:Hid (∀d,Below W.heap.size W d->d.cell? ⟨x,0,none⟩=some (.string z)/\d.cell? ⟨x,1,none⟩=some (.int .i64 C)):=fun d h=>⟨(y.out.later h).cell 0,(y.out.later h).cell 1⟩
     obtain⟨x0,x1⟩:=l.out W (Below.refl _ _);go_region_held3 (fun d=>d.cell? ⟨x,0,none⟩=some (.string z)/\d.cell? ⟨x,1,none⟩=some (.int .i64 C))
      (first|go_keep|exact u|exact l.out _ (c.alloc c.size _)|exact l.out _ c|exact l.out _ G)
      (first
       |(go_at_call 186;refine(D.out _).mono ?_;rintro e w3 ⟨rfl,F⟩;have G:Below W.heap.size W w3:=(Below.refl _ W).drew.trans F)
       |(go_at_call 166;refine(V.out _).mono ?_;rintro e w4 ⟨rfl,r⟩;have c:Below W.heap.size W w4:=pA G r)
       |(refine oo (by exact H1.out.later c) (by rfl) _ _ (by rfl) (by rfl) (by rfl) (by rfl) (by omega) ?_;intro g5 A U K I;have u:U.cell? ⟨x,0,none⟩=some (.string z)/\U.cell? ⟨x,1,none⟩=some (.int .i64 C):=(by have q:=l.out _ c;have J:=I x (by have:=c.size;omega) (by omega);exact⟨(World.cell?_of_block J).trans q.1,(World.cell?_of_block J).trans q.2⟩)))
     have B:(ps++[M,N]).length=ps.length+2:=by simp
     have hsm:aK (ps++[M,N])=aK ps+(M.size+N.size):=by rw[bM];simp[aK]
     replace K:=bA K;rw[<-B];clear u I;generalize ps++[M,N]=ps5 at *;go_wp2;exact⟨⟨k+1,ps5,g5,A,by omega,by go_num,rfl,by omega,by omega,HX.out (by omega),K.out⟩,by simp[intOf];omega⟩
    ·have E2:Hid (hJ ps=TV):=by
      show _=_;obtain⟨h1,h2⟩:=S.out.fin f;rw[h1,nJ,yZ,HPP.out,nJ,nJ,yZ,HKB.out HE.out.2 h2];simp[hJ,Ob]
     obtain⟨hcv,hg,hcs⟩:=vN H.out.row;have HJ:=bA (bR g ps.length cv ps wr rfl hcs hg hcv (by omega) (by omega));rw[E2.out]at HJ;clear hcs;go_wp2_with fail;refine HJ.out.mono ?_;rintro e w2 ⟨rfl,m⟩;have B2:=bA (pA a m);clear m;go_wp2;go_ret;exact⟨rfl,B2.out⟩
def aPg (a:List eA):Prop:=∀i (h:i<a.length),a[i].name.size<=1000000000/\a[i].m9.length<=2000000/\a[i].s9.length<=2000000/\(∀j (b:j<a[i].m9.length),a[i].m9[j].s.size<=1000000000)/\(∀j (b:j<a[i].s9.length),a[i].s9[j].s.size<=1000000000)
theorem dZ (a:List eA) (k:Nat):(aC (a.take k)).size<=(aC a).size:=by
 have:=aI (a.take k) (a.drop k);rw[Xa]at this;rw[this,Ia];omega
theorem ff:∀(a:List eA),hJ (a.map lH)=aC a
 |[]=>rfl
 |t::q=>by rw[Sb,hJ,ff q,aC]
theorem PD (v m:Int) (w:World):Calls prog 59 #[.int .i64 v,.int .i64 m] w fun e b=>e=.returned (.bool (decide (0<=v/\v<=m)))/\b=w:=by
 by_cases a:0<=v
 ·have e:decide (0<=v/\v<=m)=decide (v<=m):=by simp[a]
  rw[e];go_enter func59,ntmps59;go_wp2;go_ret;exact⟨rfl,rfl⟩
 ·have e:decide (0<=v/\v<=m)=false:=by simp[a]
  rw[e];go_enter func59,ntmps59;go_wp2;go_ret;exact⟨rfl,rfl⟩
theorem iz (d f:Int) (a:Option Addr) (y:Nat) (c:List eA) (w:World) (hf:eC w a c) (hB:aPg c) (hlen:c.length<=2000000) (hz:(aC c).size<=100000000):
 Calls prog 137 #[.int .i64 d,.agg #[.int .i64 f,.slice a c.length y]] w fun e r=>e=.returned (.string (yI d f c))/\Below w.heap.size w r:=by
 have F:Hid (∀W,Calls prog 59 #[.int .i64 d,.int .i64 1000000000000000] W fun e r=>e=.returned (.bool (decide (0<=d/\d<=1000000000000000)))/\r=W):=fun W=>PD _ _ W;by_cases P:¬(0<=d/\d<=1000000000000000)
 ·have E:Hid (yI d f c=ByteArray.empty):=FG fun h=>P ⟨h.1,h.2.1⟩;rw[E.out];rw[show decide (0<=d/\d<=1000000000000000)=false from Mb P]at F;clear hf hB P;go_enter func137,ntmps137;go_wp2_with fail;refine(F.out _).mono ?_;rintro e w1 ⟨rfl,hw⟩;replace hw:=hw.symm;subst hw;go_wp2;go_ret;exact⟨rfl,cA _ _⟩
 replace P:=Classical.not_not.1 P;rw[Rb P]at F;have HF:Hid (eC w a c):=hf;have HB:Hid (aPg c):=hB;have HU1:Hid _:=fun W=>pM d W;have HU2:Hid _:=fun W=>pM f W;have HU3:Hid (∀W,Calls prog 167 #[.int .i64 (c.length:Nat)] W fun e r=>e=.returned (.string (aB 4 (c.length:Nat)))/\Below W.heap.size W r):=fun W=>aS _ W;have hz1:=bB 8 d;have hz2:=bB 8 f;have hz3:=bB 4 (c.length:Nat);have hzx:(pI d f c).size=24+(aC c).size:=by unfold pI;rw[Ia,FH]
 have HX:Hid (pI d f c=ckB++aB 8 d++aB 8 f++aB 4 (c.length:Nat)++aC c):=rfl;have HOK:Hid ((∀i (h:i<c.length),sH c[i])->yI d f c=pI d f c++aB 4 (kH (pI d f c):Nat)):=fun h=>MV ⟨P.1,P.2,h⟩;have HNO:Hid _:=fun k (h:k<c.length) (h2:¬sH c[k])=>yf h h2 d f;have HCR:Hid (∀W,Calls prog 170 #[.string (pI d f c)] W fun e r=>e=.returned (.int .i64 (kH (pI d f c):Nat))/\Below W.heap.size W r):=fun W=>iw _ W (by unfold maxLen;omega);have HU4:Hid (∀W,Calls prog 167 #[.int .i64 (kH (pI d f c):Nat)] W fun e r=>e=.returned (.string (aB 4 (kH (pI d f c):Nat)))/\Below W.heap.size W r):=fun W=>aS _ W;have hz4:=bB 4 (kH (pI d f c):Nat);generalize aB 4 (kH (pI d f c):Nat)=N4 at *;generalize kH (pI d f c)=CR at *;generalize pI d f c=SX at *;generalize yI d f c=SB at *;generalize aB 8 d=N1 at *;generalize aB 8 f=N2 at *;generalize aB 4 (c.length:Nat)=N3 at *;obtain⟨CK,L⟩:∃C:ByteArray,C=ckB:=⟨_,rfl⟩
 have hzc:CK.size=4:=by rw[L];rfl
 have HCK:Hid _:=L;rw[<-L]at HX;clear L;obtain⟨ti,hti,ht0,ht1,ht2⟩:=VJ;have HI:Hid _:=hti;clear hf hB hti;go_enter func137,ntmps137;go_wp2_with fail;refine(F.out _).mono ?_;rintro e w1 ⟨rfl,hw⟩;replace hw:=hw.symm;subst hw;clear F;go_upto_region 3 with fail;have X6:Hid (lA (w.alloc (.cells #[.int .i64 f,.slice a c.length y] 35)) w.heap.size #[.int .i64 f,.slice a c.length y] 35):=lA.new _ _ _;have B0:Hid (Below w.heap.size w (w.alloc (.cells #[.int .i64 f,.slice a c.length y] 35))):=cA _ _;generalize w.alloc (.cells #[.int .i64 f,.slice a c.length y] 35)=B at *;have HK:Hid (∀r,Below B.heap.size B r->r.cell? ⟨w.heap.size,0,none⟩=some (.int .i64 f)/\r.cell? ⟨w.heap.size,1,none⟩=some (.slice a c.length y)):=fun r h=>by
  have q:=X6.out.later h;exact⟨q.cell 0,q.cell 1⟩
 obtain⟨x0,x1⟩:=HK.out B (Below.refl _ _);go_cut [5] (fun s wx=>∃g,s=.slice (some ⟨g,0,none⟩) 4 4/\B.heap.size<=g/\wx.heap[g]?=some (.cells #[.string CK,.string N1,.string N2,.string N3] 9 (0,0))/\Below B.heap.size B wx)
 case first=>
  go_region_held3 (fun r=>r.cell? ⟨w.heap.size,0,none⟩=some (.int .i64 f)/\r.cell? ⟨w.heap.size,1,none⟩=some (.slice a c.length y))
   (first|go_keep|exact HK.out _ k4|exact HK.out _ k3|exact HK.out _ k2)
   (first
    |(go_at_call 166;(fail_if_success (have q:=k2));refine(HU1.out _).mono ?_;rintro e w2 ⟨rfl,J⟩;have k2:Below B.heap.size B w2:=(by exact pA (Below.refl _ _).drew J))
    |(go_at_call 166;have q:=k2;clear q;refine(HU2.out _).mono ?_;rintro e w3 ⟨rfl,K⟩;have k3:Below B.heap.size B w3:=(by exact pA k2 K))
    |(go_at_call 167;refine(HU3.out _).mono ?_;rintro e O ⟨rfl,n⟩;have k4:Below B.heap.size B O:=(by exact pA k3 n)))
  all_goals(go_wp2_with fail;go_meet)
  all_goals exact⟨_,rfl,k4.size,by rw[HCK.out];exact heap_alloc_new _ _,pA k4 (cA _ _)⟩
 obtain⟨g0,rfl,hg0,G,V⟩:=hcut;rename World=>w5;have B5:Hid _:=pA B0.out V;have HBL:Hid (w5.heap[g0]?=some (.cells #[.string CK,.string N1,.string N2,.string N3] 9 (0,0))/\w.heap.size<=g0):=⟨G,Ma B0.out.size hg0⟩
 have HK5:Hid _:=(HK.out w5 V).2;have y1:=HK5.out;clear x0 x1 HK X6 G hg0 V B0 HU1 HU2 HU3 HK5;go_wp2;go_loopw [5,26] (fun out i wr=>∃(k:Nat) (m:List ByteArray) (g T:Nat),k<=c.length/\i=.int .i64 k/\out=.slice (some ⟨g,0,none⟩) m.length T/\m.length<=4+k/\aK m<=24+(aC (c.take k)).size/\Hid (m=[CK,N1,N2,N3]++(c.take k).map lH)/\Hid (∀j (h:j<c.length),j<k->sH c[j])/\Hid (wr.ownsRow w.heap.size 9 1 (.slice (some ⟨g,0,none⟩) m.length T) m.length (m.map Value.string))/\Below w.heap.size w wr) (fun _ i _=>c.length-(intOf i).toNat)
 case atStart=>
  exact⟨0,[CK,N1,N2,N3],_,_,Ha _,rfl,rfl,by simp,by simp[aK,aC];omega,by show _=_;simp,fun j _ h=>absurd h (by omega),⟨rfl,Ea ⟨g0,4,_,rfl,HBL.out.2,HBL.out.1,Da _,by simp[maxLen],rfl,rfl⟩⟩,B5.out⟩
 case round=>
  obtain⟨k,m,g,T,hk,rfl,rfl,hpl,hps,HPS,t,u,p⟩:=hrel;by_cases H:k<c.length
  ·obtain⟨b,o,a1,c1',a2,c2',rfl,hb,d0,d1,d2,d3,p1,p2⟩:=(HF.out.later p).at H;obtain⟨q1,q2,q3,q4,q5⟩:=HB.out k H;have z:Hid _:=fun W (hW:Below wr.heap.size wr W)=>jd c[k] a1 a2 c1' c2' W (p1.later hW) (p2.later hW) q1 q2 q3 q4 q5;have Z:=dZ c (k+1);have a0:=AH c k H;have hes:=mY c[k];have Y:(aC (c.take (k+1))).size=(aC (c.take k)).size+(lH c[k]).size:=by rw[a0,Ia]
   have hsz:=p.size;by_cases A:sH c[k]
   ·rw[ym A]at z;have HA2:Hid (∀j (h:j<c.length),j<k+1->sH c[j]):=fun j h hj=>by
     rcases Ac j k with h1|h1
     ·exact t.out j h h1
     ·obtain rfl:j=k:=by omega
      exact A
    have E2:Hid (m++[lH c[k]]=[CK,N1,N2,N3]++(c.take (k+1)).map lH):=by
     show _=_;rw[HPS.out,La H,Qd,Df];rfl
    have X:(lH c[k]).toList.isEmpty=false:=by
     rw[ByteArray.toList_eq];cases h:(lH c[k]).data.toList with
     |nil=>have h9:(lH c[k]).size=0:=by rw[ByteArray.size,<-Og,h];rfl
           omega
     |cons x l=>rfl
    have R:((lH c[k]).toList==[])=false:=by simpa using X
    have HSS:Hid ((aC (c.take (k+1))).size=(aC (c.take k)).size+(lH c[k]).size/\(aC (c.take (k+1))).size<=(aC c).size):=⟨Y,Z⟩
    clear A t a0 hes Y Z q1 q2 q3 q4 q5 p1 p2;generalize lH c[k]=S at *;generalize c[k].name=nm at *;generalize c[k].l9=li at *;generalize c[k].m9.length=m1 at *;generalize c[k].s9.length=m2 at *;go_wp2_with fail;refine(z.out _ (cA _ _)).mono ?_;rintro e O ⟨rfl,n⟩;have hwB:w.heap.size<=O.heap.size:=by have:=n.size;simp at this;omega
    have v:Hid (O.ownsRow w.heap.size 9 1 (.slice (some ⟨g,0,none⟩) m.length T) m.length (m.map Value.string)/\Below w.heap.size w O):=⟨cB (cB u.out (cA _ _)) n,pA (pA p (cA _ _)) n⟩
    clear n u p z d0 d1 d2 d3;go_wp2_with(at_builtin;refine wpList_append_lies _ rfl _ _ _ rfl w.heap.size 9 ti _ 1 16 underlying61 HI.out ht0 ht1 ht2 rfl (by omega) (.slice (some ⟨g,0,none⟩) m.length T) m.length (m.map Value.string) rfl (by exact cB v.out.1 (cA _ _)) ⟨O.heap.size,0,none⟩ 1 1 [.string S] rfl rfl (by exact World.news_of_block (heap_alloc_new _ _)) (by simp[Value.oneCell']) (by omega) (by simp[maxLen];omega) (by omega) (by simp;omega) (O.heap.size+1) (by simp) ?_;intro g5 cap5 w5 I M hat5 hlt5);have hgw:=oI v.out.1 g rfl;have hB5:=(pA v.out.2 (cA _ _)).grown M (by simp;omega) (fun q hq=>by simp[Value.ownBlock]at hq;omega);have hxs:m.map Value.string++[Value.string S]=(m++[S]).map Value.string:=by simp
    have N:(m++[S]).length=m.length+1:=by simp
    have hsm:aK (m++[S])=aK m+S.size:=by rw[bM];simp[aK]
    rw[hxs,<-N]at I;exact⟨⟨k+1,m++[S],g5,cap5,by omega,by go_num,by rw[N],by rw[N];omega,by have:=HSS.out;omega,E2.out,HA2.out,I,hB5⟩,by simp[intOf];omega⟩
   ·rw[MY A]at z;have E:Hid _:=HNO.out k H A;have D:Hid _:=z;have X:ByteArray.empty.toList.isEmpty=true:=by rw[ByteArray.toList_eq];rfl
    have R:(ByteArray.empty.toList==[])=true:=by rw[ByteArray.toList_eq];rfl
    clear A t a0 hes Y Z q1 q2 q3 q4 q5 p1 p2 u z;obtain⟨EM,U⟩:∃E:ByteArray,E=ByteArray.empty:=⟨_,rfl⟩
    rw[<-U]at D X R E;have HEM:Hid _:=U;clear U;generalize c[k].name=nm at *;generalize c[k].l9=li at *;generalize c[k].m9.length=m1 at *;generalize c[k].s9.length=m2 at *;go_wp2_with fail;refine(D.out _ (cA _ _)).mono ?_;rintro e O ⟨rfl,n⟩;have BW:Hid _:=pA (pA p (cA _ _)) n;clear n d0 d1 d2 d3 D;go_wp2;go_ret;exact⟨by rw[E.out,HEM.out];rfl,BW.out⟩
  ·have E2:Hid (hJ m=SX):=by
    show _=_;rw[HPS.out,Pa (by omega),nJ,ff,HX.out];simp[hJ,Ob]
   have Q:=fun j h=>t.out j h (by omega);have E3:Hid _:=HOK.out Q;have N:=dZ c k;obtain⟨hcv,hg,hcs⟩:=vN u.out;have HJ:Hid (Calls prog 169 #[.slice (some ⟨g,0,none⟩) m.length T] wr fun e r=>e=.returned (.string (hJ m))/\Below wr.heap.size wr r):=bR g m.length T m wr rfl hcs hg hcv (by omega) (by omega);rw[E2.out]at HJ;clear u hcs Q t;go_wp2_with fail;refine HJ.out.mono ?_;rintro e w2 ⟨rfl,J⟩;have B2:Hid _:=pA p J;clear J;go_wp2_with fail;refine(HCR.out _).mono ?_;rintro e w3 ⟨rfl,K⟩;have B3:Hid _:=pA B2.out K;clear K;go_wp2_with fail;refine(HU4.out _).mono ?_;rintro e O ⟨rfl,n⟩;have B4:Hid _:=pA B3.out n;clear n;go_wp2;go_ret;exact⟨by rw[E3.out];rfl,B4.out⟩
