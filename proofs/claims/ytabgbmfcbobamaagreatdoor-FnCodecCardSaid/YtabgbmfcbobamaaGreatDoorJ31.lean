import Derived.Test.YtabgbmfcbobamaaGreatDoorJ30
set_option maxRecDepth 100000
set_option maxHeartbeats 4000000
namespace Go.Proofs.YtabgbmfcbobamaaGreatDoor
open Go.RowKit Tryz
theorem EC {W:World} {B:Nat} {e:TypeId} {size:Nat} {v:Value} {n:Nat} {f:List Value} (h:W.ownsRow B e size v n f):∃a c,v=.slice a n c:=by
 rcases h.2 with⟨rfl,rfl⟩|⟨g,b,d,rfl,_⟩
 ·exact⟨none,0,rfl⟩
 ·exact⟨_,_,rfl⟩
theorem aDr {C:World->Prop} {w:World} {cs a:Array Value} {t b:TypeId} (k:∀W,Below w.heap.size w W->eA W w.heap.size cs t->eA W (w.heap.size+1) a b->W.heap.size=w.heap.size+1+1->C W):C ((w.alloc (.cells cs t)).alloc (.cells a b)):=
 k _ (nA (cA _ _) (cA _ _)) ((eA.new w _ _).alloc _) (by have:=eA.new (w.alloc (.cells cs t)) a b;simpa using this) (by simp)
theorem ly (W:World) (a:Option Addr) (m:Nat) (d:List kA) (x:qA W a d) (z:d.length<=2000000):
 ∃l c r,(Builtin.append_ #[76,76] 76 #[.slice (some ⟨W.heap.size,0,none⟩) 0 0,.slice a d.length m]).run prog (W.alloc (.cells #[] 187))=.ok (.slice l d.length c) r/\
  OH r W.heap.size l d/\Below W.heap.size W r/\∀g o,l=some ⟨g,o,none⟩->g<r.heap.size:=by
 obtain⟨i,y,s,t,v⟩:=mZ;cases a with
 |none=>
  have B:d=[]:=by
   rcases x with h|⟨b,o,e,_⟩
   ·exact h
   ·exact absurd e (by simp)
  subst B;refine⟨some ⟨W.heap.size,0,none⟩,0,W.alloc (.cells #[] 187),?_,Ca rfl,cA _ _,fun g o e=>by simp only[Pa,Addr.mk.injEq]at e;simp;omega⟩;simp[Builtin.append_,run_underlying underlying76,sizeOf,typeInfo,y,Builtin.lenOf,Builtin.firstCells,storeCells]
 |some w=>
  have p:=World.ownsRow_made W (e:=187) (size:=3) #[] 0 (Ka _) (by simp[maxLen]) (by simp);have f:∀j u,(flat d)[j]?=some u->(W.alloc (.cells #[] 187)).cell? (w.add j)=some u:=by
   rcases x.later (cA W (.cells #[] 187)) with rfl|⟨b,o,e,_,h⟩
   ·intro j u h;simp[flat]at h
   ·simp only[Pa]at e;subst e;exact mV h
  obtain⟨I,A,F,q,C,_,_⟩:=run_append_own_at (P:=prog) (W.alloc (.cells #[] 187)) W.heap.size 76 76 187 i _ 3 40 underlying76 y s t v rfl (by omega) (.slice (some ⟨W.heap.size,0,none⟩) 0 0) 0 [] p w d.length m (flat d) (tV d) f (fY d) (by simp[maxLen];omega) (by omega) (by simp);simp only[Wa,Nb]at q;have n:Below W.heap.size W A:=(cA _ _).grown C (by simp) (fun k D=>by
   simp[Value.ownBlock]at D;omega)
  obtain⟨l,c,rfl⟩:=EC q;exact⟨l,c,A,F,(by obtain⟨G,H,e,E⟩:=oL q;simp only[Value.slice.injEq]at e;obtain⟨rfl,_,_⟩:=e;exact E),n,fun g o e=>(q.lt g (by rw[e];rfl)).2⟩
theorem lz (W:World) (a:Option Addr) (m:Nat) (d:List lA) (x:yA W a d) (z:d.length<=2000000):
 ∃l c r,(Builtin.append_ #[97,97] 97 #[.slice (some ⟨W.heap.size,0,none⟩) 0 0,.slice a d.length m]).run prog (W.alloc (.cells #[] 107))=.ok (.slice l d.length c) r/\
  dC r W.heap.size l d/\Below W.heap.size W r/\∀g o,l=some ⟨g,o,none⟩->g<r.heap.size:=by
 obtain⟨i,y,s,t,v⟩:=info_parts ur;cases a with
 |none=>
  have B:d=[]:=by
   rcases x with h|⟨b,o,e,_⟩
   ·exact h
   ·exact absurd e (by simp)
  subst B;refine⟨some ⟨W.heap.size,0,none⟩,0,W.alloc (.cells #[] 107),?_,Ca rfl,cA _ _,fun g o e=>by simp only[Pa,Addr.mk.injEq]at e;simp;omega⟩;simp[Builtin.append_,run_underlying underlying97,sizeOf,typeInfo,y,Builtin.lenOf,Builtin.firstCells,storeCells]
 |some w=>
  have p:=World.ownsRow_made W (e:=107) (size:=2) #[] 0 (Ka _) (by simp[maxLen]) (by simp);have f:∀j u,(flatK d)[j]?=some u->(W.alloc (.cells #[] 107)).cell? (w.add j)=some u:=by
   rcases x.later (cA W (.cells #[] 107)) with rfl|⟨b,o,e,_,h⟩
   ·intro j u h;simp[flatK]at h
   ·simp only[Pa]at e;subst e;exact cQ h
  obtain⟨F,A,E,q,C,_,_⟩:=run_append_own_at (P:=prog) (W.alloc (.cells #[] 107)) W.heap.size 97 97 107 i _ 2 24 underlying97 y s t v rfl (by omega) (.slice (some ⟨W.heap.size,0,none⟩) 0 0) 0 [] p w d.length m (flatK d) (wO d) f (oT d) (by simp[maxLen];omega) (by omega) (by simp);simp only[Wa,Nb]at q;have n:Below W.heap.size W A:=(cA _ _).grown C (by simp) (fun k D=>by
   simp[Value.ownBlock]at D;omega)
  obtain⟨l,c,rfl⟩:=EC q;exact⟨l,c,A,E,vC q,n,fun g o e=>(q.lt g (by rw[e];rfl)).2⟩
theorem ma (W:World) (a:Option Addr) (m:Nat) (d:List lA) (x:yA W a d) (z:d.length<=2000000):
 ∃l c r,(Builtin.append_ #[98,98] 98 #[.slice (some ⟨W.heap.size,0,none⟩) 0 0,.slice a d.length m]).run prog (W.alloc (.cells #[] 109))=.ok (.slice l d.length c) r/\
  dC r W.heap.size l d/\Below W.heap.size W r/\∀g o,l=some ⟨g,o,none⟩->g<r.heap.size:=by
 obtain⟨i,y,s,t,v⟩:=info_parts uv;cases a with
 |none=>
  have B:d=[]:=by
   rcases x with h|⟨b,o,e,_⟩
   ·exact h
   ·exact absurd e (by simp)
  subst B;refine⟨some ⟨W.heap.size,0,none⟩,0,W.alloc (.cells #[] 109),?_,Ca rfl,cA _ _,fun g o e=>by simp only[Pa,Addr.mk.injEq]at e;simp;omega⟩;simp[Builtin.append_,run_underlying underlying98,sizeOf,typeInfo,y,Builtin.lenOf,Builtin.firstCells,storeCells]
 |some w=>
  have p:=World.ownsRow_made W (e:=109) (size:=2) #[] 0 (Ka _) (by simp[maxLen]) (by simp);have f:∀j u,(flatK d)[j]?=some u->(W.alloc (.cells #[] 109)).cell? (w.add j)=some u:=by
   rcases x.later (cA W (.cells #[] 109)) with rfl|⟨b,o,e,_,h⟩
   ·intro j u h;simp[flatK]at h
   ·simp only[Pa]at e;subst e;exact cQ h
  obtain⟨F,A,E,q,C,_,_⟩:=run_append_own_at (P:=prog) (W.alloc (.cells #[] 109)) W.heap.size 98 98 109 i _ 2 24 underlying98 y s t v rfl (by omega) (.slice (some ⟨W.heap.size,0,none⟩) 0 0) 0 [] p w d.length m (flatK d) (wO d) f (oT d) (by simp[maxLen];omega) (by omega) (by simp);simp only[Wa,Nb]at q;have n:Below W.heap.size W A:=(cA _ _).grown C (by simp) (fun k D=>by
   simp[Value.ownBlock]at D;omega)
  obtain⟨l,c,rfl⟩:=EC q;exact⟨l,c,A,E,vC q,n,fun g o e=>(q.lt g (by rw[e];rfl)).2⟩
theorem KU (a:Option Addr) (y:Nat) (K:pE) (w:World) (G:qA w a K.fs) (hl:K.fs.length<=1048576):
 Calls prog 69 #[.agg #[.slice a K.fs.length y,.int .i64 K.c,.int .i64 K.k,.int .i64 K.cr,.int .i64 K.fl,.bool K.dn]] w fun e z=>∃s o,e=.returned (.agg #[.slice s K.fs.length o,.int .i64 K.c,.int .i64 K.k,.int .i64 K.cr,.int .i64 K.fl,.bool K.dn])/\iI z (fun x=>w.heap.size<=x/\x<z.heap.size) s K.fs/\Below w.heap.size w z:=by
 go_enter func69,ntmps69;go_upto_region 1 with fail;refine aDr (C:=fun W=>Code.wp prog _ _ _ W) ?_;intro A p t D q;obtain⟨E,F,w2,n,H,j,_⟩:=ly A a y K.fs (G.later p) (by omega);have r:=bA n;have l:=t.later j;have m:=D.later j;have Q:=bA (H.toA (Ka _));have B:=bA (nA p j);have q0:A.cell? ⟨w.heap.size,0,none⟩=some (.slice a K.fs.length y):=t.cell 0;have R:w.heap.size<A.heap.size:=by omega
 have V:=l.cell 0;have X:=l.cell 1;have Y:=l.cell 2;have Z:=l.cell 3;have p4:=l.cell 4;have p5:=l.cell 5;have I:=m.cell 0;have J:=m.cell 1;have L:=m.cell 2;have M:=m.cell 3;have N:=m.cell 4;have O:=m.cell 5;simp only[Nc,Cc,Ia]at V X Y Z p4 p5 I J L M N O;obtain⟨b,d,f,g,h,i,_⟩:=l.frees;obtain⟨g0,g1,g2,g3,g4,g5,_⟩:=m.frees;have P:=bA q;clear p t D n H j l m G q;go_wp2_with(at_builtin;refine Lib.wpList_append_run _ rfl _ _ _ _ rfl _ _ rfl rfl _ _ r.out ?_);refine bodyPost_ret (v:=.agg #[.slice E K.fs.length F,.int .i64 K.c,.int .i64 K.k,.int .i64 K.cr,.int .i64 K.fl,.bool K.dn]) (by simp[results,results69,go_sem,I,J,L,M,N,O]) rfl ?_;refine gA.end2 (S:=fun x=>x=w.heap.size\/x=w.heap.size+1) (C:=fun W=>∃s o,Ending.returned (.agg #[.slice E K.fs.length F,.int .i64 K.c,.int .i64 K.k,.int .i64 K.cr,.int .i64 K.fl,.bool K.dn])=Ending.returned (.agg #[.slice s K.fs.length o,.int .i64 K.c,.int .i64 K.k,.int .i64 K.cr,.int .i64 K.fl,.bool K.dn])/\iI W (fun x=>w.heap.size<=x/\x<W.heap.size) s K.fs/\Below w.heap.size w W) w2 (by
  repeat (with_reducible first|exact gA.refl _ _|refine gA.setCell ?_ (Ca (by first|exact Ca rfl|exact Ja rfl)) _ _)) ?_
 intro w6 u;have U:=u.size;have q:=P.out;exact⟨_,_,rfl,(Q.out.turned u (fun x T _ e=>by omega)).mono (fun x T=>by omega),B.out.trans (u.below (by have:=B.out.size;omega) (fun k hk e=>by omega))⟩
theorem jF {C:World->Prop} {w:World} {cs:Array Value} {t:TypeId} (k:∀W,Below w.heap.size w W->eA W w.heap.size cs t->W.heap.size=w.heap.size+1->C W):C (w.alloc (.cells cs t)):=
 k _ (cA _ _) (eA.new w _ _) (by simp)
theorem zj {C:World->Prop} {w:World} {O:Nat} {a b d c u:Value} {t:TypeId} (h:eA w O #[a,b,d,c] t) (k:∀W,eA W O #[a,b,u,c] t->gA (·=O) w W->C W):C (w.setCell ⟨O,2,none⟩ u):=
 k _ (by have:=h.set 2 u;simpa using this) ((gA.refl (·=O) w).setCell (Ca rfl) 2 u)
theorem zk {C:World->Prop} {w:World} {O:Nat} {a b c d u:Value} {t:TypeId} (h:eA w O #[a,b,c,d] t) (k:∀W,eA W O #[a,b,c,u] t->gA (·=O) w W->C W):C (w.setCell ⟨O,3,none⟩ u):=
 k _ (by have:=h.set 3 u;simpa using this) ((gA.refl (·=O) w).setCell (Ca rfl) 3 u)
theorem dC.turned {S:Nat->Prop} {w c:World} {B:Nat} {a:Option Addr} {l:List lA} (h:dC w B a l) (q:gA S w c) (m:∀g,B<=g->¬S g):dC c B a l:=by
 rcases h with h|⟨g,o,b,t,e,d,f,h⟩
 ·exact Ca h
 ·have k:=q.block g (aA f) (m g d);have n:∀j,c.cell? ⟨g,j,none⟩=w.cell? ⟨g,j,none⟩:=fun j=>World.cell?_of_block k;exact Ja ⟨g,o,b,t,e,d,k.trans f,fun i p=>by simp only[n];exact h i p⟩
theorem fK (a b:Option Addr) (ca cb:Nat) (N:yC) (w:World) (hf:qA w a N.d.fs) (hl:N.d.fs.length<=1048576) (ht:oB w b N.ts) (hlt:N.ts.length<=2000000) (c0:∀t∈N.ts,t.m9.length<=2000000/\t.s9.length<=2000000):
 Calls prog 77 #[.agg (iB a ca b cb N)] w fun e w'=>∃a' Q b' R,e=.returned (.agg (iB a' Q b' R N))/\iI w' (fun x=>w.heap.size<=x) a' N.d.fs/\yQ w' (fun x=>w.heap.size<=x) b' N.ts/\Below w.heap.size w w':=by
 unfold iB;have HD:=bA (fun W (hW:Below w.heap.size w W)=>KU a ca N.d W (hf.later hW) hl);have HT:=bA ht;have HFT:=bA c0;clear hf ht c0;go_enter func77,ntmps77;go_wp2_with fail;refine(HD.out _ (nA (cA _ _) (cA _ _))).mono ?_;rintro e w1 ⟨a',Q,rfl,e0,J⟩;have P1:=bA (((eA.new w _ _).alloc _).later J);have R1:=bA ((eA.new (w.alloc _) _ _).later J);simp only[World.size_alloc]at R1 e0;have B1:=bA (nA (nA (cA _ _) (cA _ _)) J);have hz1:=J.size;simp only[World.size_alloc]at hz1;have F1:=bA e0;obtain⟨o0,o1,o2,o3,o4,o5,o6,o7,o8,o9,Y,Z,a0,b0⟩:=P1.out.n14;obtain⟨s,u,q,r,y,z,A,B,D,E,f,m,n,p⟩:=P1.out.frees;clear J e0 HD;go_upto_region 2 with fail;refine zm (C:=fun W=>Code.wp prog _ _ _ W) P1.out ?_;intro w2 P2 T2;have R2:=bA (T2.blk R1.out (by omega));have F2:=bA (F1.out.turned T2 (fun x hx _ e=>by omega));have hz2:=T2.size;have B2:=bA (B1.out.trans (T2.below (by have:=B1.out.size;omega) (fun k hk e=>by omega)));clear o0 o1 o2 o3 o4 o5 o6 o7 o8 o9 Y Z a0 b0 s u q r y z A B D E f m n p P1 R1 F1 B1 T2;obtain⟨o0,o1,o2,o3,o4,o5,o6,o7,o8,o9,Y,Z,a0,b0⟩:=P2.n14;replace P2:=bA P2;have hn0:w.heap.size<w2.heap.size:=by omega
 go_wp2;obtain⟨i3,hi3,hq0,hq1,hq2⟩:=info_parts uw;have HI3:=bA hi3;clear o0 o1 o2 o3 o4 o5 o6 o7 o8 o9 Y Z a0 b0 hi3;go_loopw [3,15] (fun al i wr=>∃(j:Nat) (v:Value),j<=N.ts.length/\i=.int .i64 j/\v=al/\Hid (gS wr w2.heap.size 100 v j (N.ts.take j))/\Hid (Below w2.heap.size w2 wr)/\w2.heap.size<wr.heap.size) (fun _ i _=>N.ts.length-(RowKit.intOf i).toNat)
 case atStart=>exact⟨0,_,La _,rfl,rfl,⟨fun _=>0,[],World.ownsRow_made w2 #[] 0 (Ka _) (by simp[maxLen]) (by simp),by simp,fun _ _=>rfl,fun i h=>absurd h (by simp)⟩,cA _ _,by simp⟩
 case round=>
  obtain⟨j,v,hj,rfl,rfl,I,F,hsz⟩:=hrel;by_cases L:j<N.ts.length
  ·obtain⟨bb,oo,a1,c1,a2,c2,rfl,hbb,k0,k1,k2,k3,p1,p2⟩:=((HT.out.later B2.out).later F.out).at (i:=j) L;have h0:=HFT.out _ (Xa L);obtain⟨t,ht⟩:∃t,t=N.ts[j]:=⟨_,rfl⟩
   have HE:=bA (show N.ts.take (j+1)=N.ts.take j++[t] by rw[ht,Ma L]);rw[<-ht]at k0 k1 k2 k3 p1 p2 h0;clear ht;go_upto_region 6 with fail;refine jF (C:=fun W=>Code.wp prog _ _ _ W) ?_;intro w3 d0 X3 H;obtain⟨q1,d1,w4,hr4,ho4,U,hq4⟩:=lz w3 a1 c1 t.m9 (p1.later d0) h0.1;have HR4:=bA hr4;have x2:w3.cell? ⟨wr.heap.size,2,none⟩=some (.slice a1 t.m9.length c1):=X3.cell 2;have hn0:wr.heap.size<w3.heap.size:=by omega
   have X4:=bA (X3.later U);have y2:w4.cell? ⟨wr.heap.size,2,none⟩=some (.slice a1 t.m9.length c1):=X4.out.cell 2;have q:=X4.out.free 2;have HZ:=bA H;have hz3':wr.heap.size<=w3.heap.size:=by omega
   have hz4:=U.size;have P4:=bA p2;have B4:=bA (nA d0 U);have O4:=bA ho4;have Q4:=bA hq4;clear hq4 k0 k1 k2 k3 p1 p2 hr4 ho4 U X3 H d0;go_upto_region 7 with(at_builtin;refine Lib.wpList_append_run _ rfl _ _ _ _ rfl _ _ rfl rfl _ _ HR4.out ?_)
   refine zj (C:=fun W=>Code.wp prog _ _ _ W) X4.out ?_;intro w5 X5 T5;have H:=HZ.out;have hz5:=T5.size;have B5:=bA (B4.out.trans (T5.below (by omega) (fun k hk e=>by omega)));have M5:=bA (O4.out.turned T5 (fun g V e=>by omega));have hM:∀g o,q1=some ⟨g,o,none⟩->g<w5.heap.size:=fun g o e=>by have:=Q4.out g o e;omega
   obtain⟨q2,d2,w6,hr6,ho6,K,_⟩:=ma w5 a2 c2 t.s9 (P4.out.later B5.out) h0.2;have HR6:=bA hr6;have x3:w5.cell? ⟨wr.heap.size,3,none⟩=some (.slice a2 t.s9.length c2):=X5.cell 3;have hn2:wr.heap.size<w5.heap.size:=by omega
   have X6:=bA (X5.later K);have y3:w6.cell? ⟨wr.heap.size,3,none⟩=some (.slice a2 t.s9.length c2):=X6.out.cell 3;have r:=X6.out.free 3;have hz6:=K.size;have B6:=bA (nA B5.out (K.mono (by omega)));have M6:=bA (M5.out.later K);have O6:=bA ho6;have HM:=bA hM;clear x2 y2 q hn0 hr6 ho6 K X5 hM T5 X4 O4 Q4 P4 M5 HR4 B4 B5 H;go_upto_region 8 with(at_builtin;refine Lib.wpList_append_run _ rfl _ _ _ _ rfl _ _ rfl rfl _ _ HR6.out ?_)
   refine zk (C:=fun W=>Code.wp prog _ _ _ W) X6.out ?_;intro P X7 T7;have H:=HZ.out;have hz7:=T7.size;have B7:=bA (B6.out.trans (T7.below (by omega) (fun k hk e=>by omega)));have M7:=bA (M6.out.turned T7 (fun g V e=>by omega));have S7:=bA (O6.out.turned T7 (fun g V e=>by omega));obtain⟨av,cv,rfl⟩:=I.out.row;obtain⟨T,ys,l0,m0,hv3,hv4⟩:=I.out;have hyk:ys.length=j:=by have:=Fd List.length m0;simp at this;omega
   have V1:=bA (vA l0 B7.out);have V2:=bA m0;have V3:=bA hv3;have V4:=bA hv4;have hob:=bA (fun g V=>l0.lt g V);have z0:P.cell? ⟨wr.heap.size,0,none⟩=some (.string t.name):=X7.cell 0;have z1:P.cell? ⟨wr.heap.size,1,none⟩=some (.int .i64 t.l9):=X7.cell 1;have z2:P.cell? ⟨wr.heap.size,2,none⟩=some (.slice q1 t.m9.length d1):=X7.cell 2;have z3:P.cell? ⟨wr.heap.size,3,none⟩=some (.slice q2 t.s9.length d2):=X7.cell 3;have HYK:=bA hyk;clear x3 y3 r hn2 X6 X7 T7 M6 O6 HR6 B6 l0 m0 hv3 hv4 hyk H;go_wp2_with(at_builtin;refine wpList_append_lies _ rfl _ _ _ rfl w2.heap.size 100 i3 _ 4 72 underlying49 HI3.out hq0 hq1 hq2 rfl (by omega) (.slice av j cv) j (jH ys) rfl (by exact V1.out.alloc _) ⟨P.heap.size,0,none⟩ 1 1 [.string t.name,.int .i64 t.l9,.slice q1 t.m9.length d1,.slice q2 t.s9.length d2] rfl rfl (by have:=World.news_of_block (cs:=#[.string t.name,.int .i64 t.l9,.slice q1 t.m9.length d1,.slice q2 t.s9.length d2]) (t:=100) (fr:=(0,0)) (heap_alloc_new P (.cells #[.string t.name,.int .i64 t.l9,.slice q1 t.m9.length d1,.slice q2 t.s9.length d2] 100));simpa using this) (by simp[Value.oneCell']) (by omega) (by simp[maxLen];omega) (by omega) (by simp;omega) (P.heap.size+1) (by simp) ?_;intro g5 cap5 w8 j0 G hat5 hlt5);have H:=HZ.out;have O:=hob.out;have hgg:((Value.slice av j cv).ownBlock=some g5/\g5<wr.heap.size)\/P.heap.size<=g5:=by
    rcases hat5 with h|h
    ·exact Ca ⟨h,(O _ h).2⟩
    ·exact Ja (by omega)
   have hk5:∀g,g<P.heap.size->(Value.slice av j cv).ownBlock≠some g->w8.heap[g]?=P.heap[g]?:=fun g V i0=>by
    rw[(gA.grown G).block g (by simp;omega) i0];exact(cA _ _).block g V
   refine⟨⟨j+1,(.slice (some ⟨g5,0,none⟩) (j+1) cap5),by omega,by go_num,rfl,?_,?_,?_⟩,by simp[RowKit.intOf];omega⟩
   ·show gS _ _ _ _ _ _;rw[HE.out];exact gS.snoc (wr:=wr) (w4:=P) (M:=w5.heap.size) (v:=.slice av j cv) (T:=T) (ys:=ys) (t:=t) j0 V2.out HYK.out V3.out V4.out (by omega) (by omega)
     (fun g V _ i0=>(hk5 g (by omega) i0).trans (B7.out.block g V))
     (fun g V hg4=>hk5 g hg4 (fun e=>by have:=(O _ e).2;omega))
     (M7.out.mono (by omega)) HM.out S7.out hgg (by omega) (by omega)
   ·exact(F.out.trans (B7.out.mono (by omega))).trans (((cA _ _).mono (by omega)).trans ((gA.grown G).below (by simp;omega) (fun k hk e=>by have:=(O _ e).1;omega)))
   ·have:=G.size;simp at this;omega
  ·obtain rfl:j=N.ts.length:=by omega
   have X:=I.out;rw[Wb]at X;obtain⟨b',R,rfl⟩:=X.row;have X9:=bA ((X.own rfl).toA (Ka _));have F9:=bA (F2.out.later F.out);have B9:=bA (nA B2.out F.out);obtain⟨o0,o1,o2,o3,o4,o5,o6,o7,o8,o9,Y,Z,a0,b0⟩:=(P2.out.later F.out).n14;obtain⟨s,u,q,r,y,z,A,B,D,E,f,m,n,p⟩:=(P2.out.later F.out).frees;obtain⟨r0,r1,r2,r3,r4,r5,r6,r7,r8,r9,r10,r11,r12,r13⟩:=(R2.out.later F.out).n14;obtain⟨g0,g1,g2,g3,g4,g5,g6,g7,g8,g9,g10,g11,g12,g13⟩:=(R2.out.later F.out).frees;clear I X;go_wp2;refine bodyPost_ret (v:=.agg #[.slice a' N.d.fs.length Q,.int .i64 N.d.c,.int .i64 N.d.k,.int .i64 N.d.cr,.int .i64 N.d.fl,.bool N.d.dn,.int .i64 N.l.first,.int .i64 N.l.last,.int .i64 N.l.size,.int .i64 N.now,.slice b' N.ts.length R,.int .i64 N.lsn,.bool N.deg,.bool N.up]) (by simp[results,results77,go_sem,r0,r1,r2,r3,r4,r5,r6,r7,r8,r9,r10,r11,r12,r13]) rfl ?_;refine gA.end2 (S:=fun x=>x=w.heap.size\/x=w.heap.size+1) (C:=fun W=>∃a1 c1 b1 d1,Ending.returned (.agg #[.slice a' N.d.fs.length Q,.int .i64 N.d.c,.int .i64 N.d.k,.int .i64 N.d.cr,.int .i64 N.d.fl,.bool N.d.dn,.int .i64 N.l.first,.int .i64 N.l.last,.int .i64 N.l.size,.int .i64 N.now,.slice b' N.ts.length R,.int .i64 N.lsn,.bool N.deg,.bool N.up])=Ending.returned (.agg #[.slice a1 N.d.fs.length c1,.int .i64 N.d.c,.int .i64 N.d.k,.int .i64 N.d.cr,.int .i64 N.d.fl,.bool N.d.dn,.int .i64 N.l.first,.int .i64 N.l.last,.int .i64 N.l.size,.int .i64 N.now,.slice b1 N.ts.length d1,.int .i64 N.lsn,.bool N.deg,.bool N.up])/\iI W (fun x=>w.heap.size<=x) a1 N.d.fs/\yQ W (fun x=>w.heap.size<=x) b1 N.ts/\Below w.heap.size w W) wr (by
    repeat (with_reducible first|exact gA.refl _ _|refine gA.setCell ?_ (Ca (by first|exact Ca rfl|exact Ja rfl)) _ _)) ?_
   intro w6 T6;exact⟨_,_,_,_,rfl,(F9.out.turned T6 (fun x hx _ e=>by omega)).mono (fun x hx=>by omega),(X9.out.turned T6 (fun x hx _ e=>by omega)).mono (fun x hx=>by omega),B9.out.trans (T6.below (by have:=B9.out.size;omega) (fun k hk e=>by omega))⟩
theorem BH (a b G:Option Addr) (ca cb z:Nat) (N:yC) (K:pE) (L:mP) (w:World) (hf:qA w a N.d.fs) (hl:N.d.fs.length<=1048576) (ht:oB w b N.ts) (hlt:N.ts.length<=2000000) (B:∀t∈N.ts,t.m9.length<=2000000/\t.s9.length<=2000000) (J:N.up=true):
 Calls prog 126 #[.agg (iB a ca b cb N),.agg #[.slice G K.fs.length z,.int .i64 K.c,.int .i64 K.k,.int .i64 K.cr,.int .i64 K.fl,.bool K.dn],.agg #[.int .i64 L.first,.int .i64 L.last,.int .i64 L.size]] w fun e w'=>∃H E,e=.returned (.agg #[.slice G K.fs.length z,.int .i64 K.c,.int .i64 K.k,.int .i64 K.cr,.int .i64 K.fl,.bool K.dn,.int .i64 L.first,.int .i64 L.last,.int .i64 L.size,.int .i64 N.now,.slice H N.ts.length E,.int .i64 N.lsn,.bool true,.bool (!K.dn)])/\yQ w' (fun x=>w.heap.size<=x) H N.ts/\Below w.heap.size w w':=by
 unfold iB;have T:=bA (fun W (hW:Below w.heap.size w W)=>fK a b ca cb N W (hf.later hW) hl (ht.later hW) hlt B);unfold iB at T;have U:=bA J;clear hf ht B J;go_enter func126,ntmps126;go_wp2_with fail;refine(T.out _ (nA (nA (nA (cA _ _) (cA _ _)) (cA _ _)) (cA _ _))).mono ?_;rintro e w1 ⟨a1,c1,b1,d1,rfl,_,I,y⟩;have P:=bA (((((eA.new w _ _).alloc _).alloc _).alloc _).later y);have Z:=bA ((((eA.new (w.alloc _) _ _).alloc _).alloc _).later y);have Y1:=bA (((eA.new ((w.alloc _).alloc _) _ _).alloc _).later y);have X:=bA ((eA.new (((w.alloc _).alloc _).alloc _) _ _).later y);have R:=bA (nA (nA (nA (nA (cA _ _) (cA _ _)) (cA _ _)) (cA _ _)) y);have hz1:=y.size;simp only[World.size_alloc]at Z Y1 X hz1;have T1:=bA I;obtain⟨o0,o1,o2,o3,o4,o5,o6,o7,o8,o9,o10,o11,o12,O⟩:=P.out.n14;obtain⟨j,l,m,n,o,p,q,r,s,u,f,g,h,i⟩:=P.out.frees;clear y I T;go_upto_region 2 with fail;refine ln (C:=fun W=>Code.wp prog _ _ _ W) P.out ?_;intro A V F;have D:=F.blk Z.out (by omega);have Q:=F.blk Y1.out (by omega);have Y:=F.blk X.out (by omega);have B2:=bA (R.out.trans (F.below R.out.size (fun k hk e=>by omega)));have T3:=bA (T1.out.turned F (fun x M _ e=>by simp only[World.size_alloc]at M;omega));obtain⟨o0,o1,o2,o3,o4,o5,o6,o7,o8,o9,o10,o11,o12,O⟩:=V.n14;obtain⟨j,l,m,n,o,p,q,r,s,u,f,g,h,i⟩:=V.frees;obtain⟨r0,r1,r2,r3,r4,r5,r6,r7,r8,r9,r10,r11,r12,r13⟩:=Y.n14;obtain⟨g0,g1,g2,g3,g4,g5,g6,g7,g8,g9,g10,g11,g12,g13⟩:=Y.frees;have x0:A.cell? ⟨w.heap.size+1,0,none⟩=some (.slice G K.fs.length z):=D.cell 0;have x1:A.cell? ⟨w.heap.size+1,1,none⟩=some (.int .i64 K.c):=D.cell 1;have x2:A.cell? ⟨w.heap.size+1,2,none⟩=some (.int .i64 K.k):=D.cell 2;have x3:A.cell? ⟨w.heap.size+1,3,none⟩=some (.int .i64 K.cr):=D.cell 3;have x4:A.cell? ⟨w.heap.size+1,4,none⟩=some (.int .i64 K.fl):=D.cell 4;have x5:A.cell? ⟨w.heap.size+1,5,none⟩=some (.bool K.dn):=D.cell 5;have y0:A.cell? ⟨w.heap.size+1+1,0,none⟩=some (.int .i64 L.first):=Q.cell 0;have y1:A.cell? ⟨w.heap.size+1+1,1,none⟩=some (.int .i64 L.last):=Q.cell 1;have y2:A.cell? ⟨w.heap.size+1+1,2,none⟩=some (.int .i64 L.size):=Q.cell 2;rw[U.out]at O;clear V D Q Y F P Z Y1 X R T1;cases hdn:K.dn
 all_goals(
  rw[hdn]at x5
  go_wp2
  refine bodyPost_ret (v:=.agg #[.slice G K.fs.length z,.int .i64 K.c,.int .i64 K.k,.int .i64 K.cr,.int .i64 K.fl,.bool _,.int .i64 L.first,.int .i64 L.last,.int .i64 L.size,.int .i64 N.now,.slice b1 N.ts.length d1,.int .i64 N.lsn,.bool true,.bool _]) (by simp[results,results126,go_sem,r0,r1,r2,r3,r4,r5,r6,r7,r8,r9,r10,r11,r12,r13];exact⟨rfl,rfl⟩) rfl ?_
  refine gA.end2 (S:=fun x=>x=w.heap.size\/x=w.heap.size+1+1+1) (C:=fun W=>∃H E,_=Ending.returned (.agg #[.slice G K.fs.length z,.int .i64 K.c,.int .i64 K.k,.int .i64 K.cr,.int .i64 K.fl,_,.int .i64 L.first,.int .i64 L.last,.int .i64 L.size,.int .i64 N.now,.slice H N.ts.length E,.int .i64 N.lsn,.bool true,_])/\yQ W (fun x=>w.heap.size<=x) H N.ts/\Below w.heap.size w W) A (by
   repeat (with_reducible first|exact gA.refl _ _|refine gA.setCell ?_ (Ca (by first|exact Ca rfl|exact Ja rfl)) _ _)) ?_
  intro w6 T6
  exact⟨_,_,by rw[hdn];rfl,(T3.out.turned T6 (fun x M _ e=>by simp only[World.size_alloc]at M;omega)).mono (fun x M=>by simp only[World.size_alloc]at M;omega),B2.out.trans (T6.below B2.out.size (fun k hk e=>by omega))⟩)
