import Derived.Test.YtiegonaogehghaaGreatDoorJ29
set_option maxRecDepth 100000
set_option maxHeartbeats 8000000
set_option linter.defProp false
open Option renaming some->bA,none->aA
open Bool renaming true->dA,false->cA
open ByteArray renaming empty->kA
open List renaming length->yA
namespace Go.Proofs.YtiegonaogehghaaGreatDoor
open Go renaming World->eA,Value->iA,TypeId->jA,Calls->gA
open Obj renaming cells->vA
open Value renaming agg->tA,slice->pA,string->oA,bool->qA,tuple->xA
open Ending renaming returned->uA
open Go.RowKit Tryz
def yH{C:eA->Prop}{w:eA}{cs:Array iA}{t:jA}(k:∀W,tB w W->gB W w.1.size cs t->W.1.size=w.1.size+1->C W):C (w.alloc (vA cs t)):=
 k _ yB (gB.new w _ _) (by simp)
def aGi{C:eA->Prop}{w:eA}{O:Nat}{a b d c u:iA}{t:jA}(h:gB w O #[a,b,d,c] t)(k:∀W,gB W O #[a,b,u,c] t->eB (·=O) w W->C W):C (w.setCell (dB O 2) u):=
 k _ (by have:=h.set 2 u;simpa using this) ((eB.refl (·=O) w).setCell (Ca rfl) 2 u)
def aGj{C:eA->Prop}{w:eA}{O:Nat}{a b c d u:iA}{t:jA}(h:gB w O #[a,b,c,d] t)(k:∀W,gB W O #[a,b,c,u] t->eB (·=O) w W->C W):C (w.setCell (dB O 3) u):=
 k _ (by have:=h.set 3 u;simpa using this) ((eB.refl (·=O) w).setCell (Ca rfl) 3 u)
def eD.turned{S:Nat->Prop}{w c:eA}{B:Nat}{a:jC}{l:List iB}(h:eD w B a l)(q:eB S w c)(m:∀g,B<=g->¬S g):eD c B a l:=by
 obtain h|⟨g,o,b,t,e,d,f,h⟩:=h;exact Ca h;have k:=q.block g (aB f) (m g d);have n:∀j,c.cell? (dB g j)=w.cell? (dB g j):=λj=>eA.cell?_of_block k;exact La ⟨g,o,b,t,e,d,k.trans f,λi p=>by simp only[n];exact h i p⟩
def pN(a b:jC)(ca cb:Nat)(N:pC)(w:eA)(d:rB w a N.d.fs)(l:yA N.d.fs<=1048576)(c:uC w b N.ts)(h:yA N.ts<=2000000)(h:∀t∈N.ts,yA t.M<=2000000/\yA t.Z<=2000000):
 gA prog 48 #[tA (dC a ca b cb N)] w λe w'=>∃a' Q b' R,e=uA (tA (dC a' Q b' R N))/\bJ w' (λx=>w.1.size<=x) a' N.d.fs/\pQ w' (λx=>w.1.size<=x) b' N.ts/\tB w w':=by
 unfold dC;have O:=cB (λW(m:tB w W)=>OZ a ca N.d W (d.z m) l);have HT:=cB c;have o:=cB h;clear d c h;go_enter func48,ntmps48;go_wp2_with fail;refine(O.o _ (vB yB yB)).mono ?_;rintro e w1 ⟨a',Q,rfl,d,J⟩;have l:=cB (((gB.new w _ _).alloc _).z J);have G:=cB ((gB.new (w.alloc _) _ _).z J);simp only[eA.size_alloc]at G d;have I:=cB (vB (vB yB yB) J);have h:=J.size;simp only[eA.size_alloc]at h;have U:=cB d;obtain⟨o0,o1,o2,o3,o4,o5,o6,o7,o8,o9,Y,Z,a0,b0⟩:=l.o.n14;obtain⟨s,u,q,r,y,z,A,B,D,E,f,m,n,p⟩:=l.o.frees;clear J d O;go_upto_region 2 with fail;refine aGl (C:=λW=>Code.wp prog _ _ _ W) l.o ?_;intro w2 d h;have R2:=cB (h.blk G.o (by omega));have F2:=cB (U.o.turned h (λx hx _ e=>by omega));have J:=h.size;have B2:=cB (I.o.trans (h.below (by have:=I.o.size;omega) (λk hk e=>by omega)));clear o0 o1 o2 o3 o4 o5 o6 o7 o8 o9 Y Z a0 b0 s u q r y z A B D E f m n p l G U I h;obtain⟨o0,o1,o2,o3,o4,o5,o6,o7,o8,o9,Y,Z,a0,b0⟩:=d.n14;replace d:=cB d;have l:w.1.size<w2.1.size:=by omega
 go_wp2;obtain⟨i3,h,hq0,hq1,hq2⟩:=info_parts ev;have HI3:=cB h;clear o0 o1 o2 o3 o4 o5 o6 o7 o8 o9 Y Z a0 b0 h;go_loopw [3,15] (λh i wr=>∃(j:Nat)(v:iA),j<=yA N.ts/\i=zA j/\v=h/\bB (cS wr w2.1.size 54 v j (N.ts.take j))/\bB (tB w2 wr)/\w2.1.size<wr.1.size) (λ_ i _=>yA N.ts-(RowKit.intOf i).toNat)
 case atStart=>exact⟨0,_,Oa _,rfl,rfl,⟨λ_=>0,[],eA.ownsRow_made w2 #[] 0 (Ia _) (by simp[maxLen]) (by simp),by simp,λ_ _=>rfl,λi h=>absurd h (by simp)⟩,yB,by simp⟩
 case round=>
  obtain⟨j,v,G,rfl,rfl,I,F,G⟩:=hrel;by_cases L:j<yA N.ts
  .obtain ⟨bb,oo,a1,c1,a2,c2,rfl,hbb,k0,k1,k2,k3,p1,p2⟩:=((HT.o.z B2.o).z F.o).at (i:=j) L;have h0:=o.o _ (Gb L);obtain⟨t,c⟩:∃t,t=N.ts[j]:=⟨_,rfl⟩
   have HE:=cB (show N.ts.take (j+1)=N.ts.take j++[t] by rw[c,Pa L]);rw[<-c]at k0 k1 k2 k3 p1 p2 h0;clear c;go_upto_region 6 with fail;refine yH (C:=λW=>Code.wp prog _ _ _ W) ?_;intro w3 d0 X3 H;obtain⟨G,c,w4,o,J,U,O⟩:=vk w3 a1 c1 t.M (p1.z d0) h0.1;have HR4:=cB o;have x2:tC w3 wr.1.size 2 (pA a1 (yA t.M) c1):=X3.cell 2;have l:wr.1.size<w3.1.size:=by omega
   have X4:=cB (X3.z U);have y2:tC w4 wr.1.size 2 (pA a1 (yA t.M) c1):=X4.o.cell 2;have q:=X4.o.free 2;have HZ:=cB H;have hz3':wr.1.size<=w3.1.size:=by omega
   have hz4:=U.size;have P4:=cB p2;have B4:=cB (vB d0 U);have O4:=cB J;have Q4:=cB O;clear O k0 k1 k2 k3 p1 p2 o J U X3 H d0;go_upto_region 7 with(at_builtin;refine Lib.wpList_append_run _ rfl _ _ _ _ rfl _ _ rfl rfl _ _ HR4.o ?_)
   refine aGi (C:=λW=>Code.wp prog _ _ _ W) X4.o ?_;intro J X5 T5;have H:=HZ.o;have o:=T5.size;have B5:=cB (B4.o.trans (T5.below (by omega) (λk hk e=>by omega)));have M5:=cB (O4.o.turned T5 (λg V e=>by omega));have hM:∀g o,G=bA (dB g o)->g<J.1.size:=λg o e=>by have:=Q4.o g o e;omega
   obtain⟨q2,d2,w6,o,O,K,_⟩:=vl J a2 c2 t.Z (P4.o.z B5.o) h0.2;have U:=cB o;have x3:tC J wr.1.size 3 (pA a2 (yA t.Z) c2):=X5.cell 3;have hn2:wr.1.size<J.1.size:=by omega
   have X6:=cB (X5.z K);have y3:tC w6 wr.1.size 3 (pA a2 (yA t.Z) c2):=X6.o.cell 3;have r:=X6.o.free 3;have hz6:=K.size;have B6:=cB (vB B5.o (K.mono (by omega)));have M6:=cB (M5.o.z K);have O6:=cB O;have HM:=cB hM;clear x2 y2 q l o O K X5 hM T5 X4 O4 Q4 P4 M5 HR4 B4 B5 H;go_upto_region 8 with(at_builtin;refine Lib.wpList_append_run _ rfl _ _ _ _ rfl _ _ rfl rfl _ _ U.o ?_)
   refine aGj (C:=λW=>Code.wp prog _ _ _ W) X6.o ?_;intro P l o;have H:=HZ.o;have O:=o.size;have B7:=cB (B6.o.trans (o.below (by omega) (λk hk e=>by omega)));have M7:=cB (M6.o.turned o (λg V e=>by omega));have S7:=cB (O6.o.turned o (λg V e=>by omega));obtain⟨av,cv,rfl⟩:=I.o.row;obtain⟨T,ys,l0,m0,O,hv4⟩:=I.o;have hyk:yA ys=j:=by have:=Kd List.length m0;simp at this;omega
   have V1:=cB (eC l0 B7.o);have V2:=cB m0;have V3:=cB O;have V4:=cB hv4;have hob:=cB (λg V=>l0.lt g V);have z0:tC P wr.1.size 0 (oA t.N):=l.cell 0;have z1:tC P wr.1.size 1 (zA t.L):=l.cell 1;have z2:tC P wr.1.size 2 (pA G (yA t.M) c):=l.cell 2;have z3:tC P wr.1.size 3 (pA q2 (yA t.Z) d2):=l.cell 3;have HYK:=cB hyk;clear x3 y3 r hn2 X6 l o M6 O6 U B6 l0 m0 O hv4 hyk H;go_wp2_with(at_builtin;refine wpList_append_lies _ rfl _ _ _ rfl w2.1.size 54 i3 _ 4 72 underlying38 HI3.o hq0 hq1 hq2 rfl (by omega) (pA av j cv) j (dF ys) rfl (by exact V1.o.alloc _) (dB P.1.size 0) 1 1 [oA t.N,zA t.L,pA G (yA t.M) c,pA q2 (yA t.Z) d2] rfl rfl (by have:=eA.news_of_block (cs:=#[oA t.N,zA t.L,pA G (yA t.M) c,pA q2 (yA t.Z) d2]) (t:=54) (fr:=(0,0)) (heap_alloc_new P (vA #[oA t.N,zA t.L,pA G (yA t.M) c,pA q2 (yA t.Z) d2] 54));simpa using this) (by simp[iA.oneCell']) (by omega) (by simp[maxLen];omega) (by omega) (by simp;omega) (P.1.size+1) (by simp) ?_;intro l o w8 j0 G U O);have H:=HZ.o;have O:=hob.o;have hgg:((iA.slice av j cv).ownBlock=bA l/\l<wr.1.size)\/P.1.size<=l:=by
    obtain h|h:=U;exact Ca ⟨h,(O _ h).2⟩;exact La (by omega)
   have h:∀g,g<P.1.size->(iA.slice av j cv).ownBlock≠bA g->w8.heap[g]?=P.heap[g]?:=λg V U=>by
    rw[(eB.grown G).block g (by simp;omega) U];exact yB.block g V
   refine⟨⟨j+1,(pA (pB l) (j+1) o),by omega,by go_num,rfl,?_,?_,?_⟩,by simp[RowKit.intOf];omega⟩
   .show cS _ _ _ _ _ _;rw[HE.o];exact cS.snoc (wr:=wr) (w4:=P) (M:=J.1.size) (v:=pA av j cv) (T:=T) (ys:=ys) (t:=t) j0 V2.o HYK.o V3.o V4.o (by omega) (by omega)
     (λg V _ U=>(h g (by omega) U).trans (B7.o.block g V))
     (λg V o=>h g o (λe=>by have:=(O _ e).2;omega))
     (M7.o.mono (by omega)) HM.o S7.o hgg (by omega) (by omega)
   .exact (F.o.trans (B7.o.mono (by omega))).trans ((yB.mono (by omega)).trans ((eB.grown G).below (by simp;omega) (λk hk e=>by have:=(O _ e).1;omega)))
   have:=G.size;simp at this;omega
  obtain rfl:j=yA N.ts:=by omega
  have X:=I.o;rw[Rb]at X;obtain⟨b',R,rfl⟩:=X.row;have J:=cB ((X.own rfl).toA (Ia _));have O:=cB (F2.o.z F.o);have G:=cB (vB B2.o F.o);obtain⟨o0,o1,o2,o3,o4,o5,o6,o7,o8,o9,Y,Z,a0,b0⟩:=(d.o.z F.o).n14;obtain⟨s,u,q,r,y,z,A,B,D,E,f,m,n,p⟩:=(d.o.z F.o).frees;obtain⟨U,Y,Z,r3,r4,r5,r6,r7,r8,r9,d,h,m,o⟩:=(R2.o.z F.o).n14;obtain⟨g0,g1,g2,g3,g4,l,l,l,l,l,l,l,l,l⟩:=(R2.o.z F.o).frees;clear I X;go_wp2;refine bodyPost_ret (v:=tA #[pA a' (yA N.d.fs) Q,zA N.d.c,zA N.d.k,zA N.d.cr,zA N.d.fl,qA N.d.dn,zA N.l.first,zA N.l.last,zA N.l.size,zA N.now,pA b' (yA N.ts) R,zA N.lsn,qA N.deg,qA N.up]) (by simp[results,results48,go_sem,U,Y,Z,r3,r4,r5,r6,r7,r8,r9,d,h,m,o]) rfl ?_;refine eB.end2 (S:=λx=>x=w.1.size\/x=w.1.size+1) (C:=λW=>∃a1 c1 d c,Ending.returned (tA #[pA a' (yA N.d.fs) Q,zA N.d.c,zA N.d.k,zA N.d.cr,zA N.d.fl,qA N.d.dn,zA N.l.first,zA N.l.last,zA N.l.size,zA N.now,pA b' (yA N.ts) R,zA N.lsn,qA N.deg,qA N.up])=Ending.returned (tA #[pA a1 (yA N.d.fs) c1,zA N.d.c,zA N.d.k,zA N.d.cr,zA N.d.fl,qA N.d.dn,zA N.l.first,zA N.l.last,zA N.l.size,zA N.now,pA d (yA N.ts) c,zA N.lsn,qA N.deg,qA N.up])/\bJ W (λx=>w.1.size<=x) a1 N.d.fs/\pQ W (λx=>w.1.size<=x) d N.ts/\tB w W) wr (by
   repeat (with_reducible first|exact eB.refl _ _|refine eB.setCell ?_ (Ca (by first|exact Ca rfl|exact La rfl)) _ _)) ?_
  intro w6 c;exact⟨_,_,_,_,rfl,(O.o.turned c (λx hx _ e=>by omega)).mono (λx hx=>by omega),(J.o.turned c (λx hx _ e=>by omega)).mono (λx hx=>by omega),G.o.trans (c.below (by have:=G.o.size;omega) (λk hk e=>by omega))⟩
def EX(a b G:jC)(ca cb z:Nat)(N:pC)(K:gE)(L:mG)(w:eA)(d:rB w a N.d.fs)(o:yA N.d.fs<=1048576)(h:uC w b N.ts)(c:yA N.ts<=2000000)(B:∀t∈N.ts,yA t.M<=2000000/\yA t.Z<=2000000)(J:N.up=dA):
 gA prog 118 #[tA (dC a ca b cb N),tA #[pA G (yA K.fs) z,zA K.c,zA K.k,zA K.cr,zA K.fl,qA K.dn],tA #[zA L.first,zA L.last,zA L.size]] w λe w'=>∃H E,e=uA (tA #[pA G (yA K.fs) z,zA K.c,zA K.k,zA K.cr,zA K.fl,qA K.dn,zA L.first,zA L.last,zA L.size,zA N.now,pA H (yA N.ts) E,zA N.lsn,qA dA,qA (!K.dn)])/\pQ w' (λx=>w.1.size<=x) H N.ts/\tB w w':=by
 unfold dC;have T:=cB (λW(m:tB w W)=>pN a b ca cb N W (d.z m) o (h.z m) c B);unfold dC at T;have U:=cB J;clear d h B J;go_enter func118,ntmps118;go_wp2_with fail;refine(T.o _ (vB (vB (vB yB yB) yB) yB)).mono ?_;rintro e w1 ⟨a1,c1,b1,d1,rfl,_,I,y⟩;have P:=cB (((((gB.new w _ _).alloc _).alloc _).alloc _).z y);have Z:=cB ((((gB.new (w.alloc _) _ _).alloc _).alloc _).z y);have c:=cB (((gB.new ((w.alloc _).alloc _) _ _).alloc _).z y);have X:=cB ((gB.new (((w.alloc _).alloc _).alloc _) _ _).z y);have R:=cB (vB (vB (vB (vB yB yB) yB) yB) y);have d:=y.size;simp only[eA.size_alloc]at Z c X d;have T1:=cB I;obtain⟨o0,o1,o2,o3,o4,o5,o6,o7,o8,o9,d,J,o12,O⟩:=P.o.n14;obtain⟨j,l,m,n,o,p,q,r,s,u,f,g,h,i⟩:=P.o.frees;clear y I T;go_upto_region 2 with fail;refine uw (C:=λW=>Code.wp prog _ _ _ W) P.o ?_;intro A V F;have D:=F.blk Z.o (by omega);have Q:=F.blk c.o (by omega);have Y:=F.blk X.o (by omega);have I:=cB (R.o.trans (F.below R.o.size (λk hk e=>by omega)));have T3:=cB (T1.o.turned F (λx M _ e=>by simp only[eA.size_alloc]at M;omega));obtain⟨o0,o1,o2,o3,o4,o5,o6,o7,o8,o9,d,J,o12,O⟩:=V.n14;obtain⟨j,l,m,n,o,p,q,r,s,u,f,g,h,i⟩:=V.frees;obtain⟨J,r1,r2,r3,r4,r5,r6,r7,r8,r9,d,h,m,o⟩:=Y.n14;obtain⟨g0,g1,g2,g3,g4,g5,g6,g7,g8,g9,g10,g11,g12,g13⟩:=Y.frees;have x0:tC A (w.1.size+1) 0 (pA G (yA K.fs) z):=D.cell 0;have x1:tC A (w.1.size+1) 1 (zA K.c):=D.cell 1;have x2:tC A (w.1.size+1) 2 (zA K.k):=D.cell 2;have x3:tC A (w.1.size+1) 3 (zA K.cr):=D.cell 3;have x4:tC A (w.1.size+1) 4 (zA K.fl):=D.cell 4;have x5:tC A (w.1.size+1) 5 (qA K.dn):=D.cell 5;have y0:tC A (w.1.size+1+1) 0 (zA L.first):=Q.cell 0;have y1:tC A (w.1.size+1+1) 1 (zA L.last):=Q.cell 1;have y2:tC A (w.1.size+1+1) 2 (zA L.size):=Q.cell 2;rw[U.o]at O;clear V D Q Y F P Z c X R T1;cases hdn:K.dn
 all_goals(
  rw[hdn]at x5
  go_wp2
  refine bodyPost_ret (v:=tA #[pA G (yA K.fs) z,zA K.c,zA K.k,zA K.cr,zA K.fl,qA _,zA L.first,zA L.last,zA L.size,zA N.now,pA b1 (yA N.ts) d1,zA N.lsn,qA dA,qA _]) (by simp[results,results118,go_sem,J,r1,r2,r3,r4,r5,r6,r7,r8,r9,d,h,m,o];exact⟨rfl,rfl⟩) rfl ?_;refine eB.end2 (S:=λx=>x=w.1.size\/x=w.1.size+1+1+1) (C:=λW=>∃H E,_=Ending.returned (tA #[pA G (yA K.fs) z,zA K.c,zA K.k,zA K.cr,zA K.fl,_,zA L.first,zA L.last,zA L.size,zA N.now,pA H (yA N.ts) E,zA N.lsn,qA dA,_])/\pQ W (λx=>w.1.size<=x) H N.ts/\tB w W) A (by
   repeat (with_reducible first|exact eB.refl _ _|refine eB.setCell ?_ (Ca (by first|exact Ca rfl|exact La rfl)) _ _)) ?_
  intro w6 c;exact⟨_,_,by rw[hdn];rfl,(T3.o.turned c (λx M _ e=>by simp only[eA.size_alloc]at M;omega)).mono (λx M=>by simp only[eA.size_alloc]at M;omega),I.o.trans (c.below I.o.size (λk hk e=>by omega))⟩)
def aJx(a:List fB):Prop:=∀i(h:i<yA a),a[i].N.size<=1000000000/\yA a[i].M<=2000000/\yA a[i].Z<=2000000/\(∀j(b:j<yA a[i].M),a[i].M[j].s.size<=1000000000)/\(∀j(b:j<yA a[i].Z),a[i].Z[j].s.size<=1000000000)
def AR(a:List fB)(k:Nat):(rF (a.take k)).size<=(rF a).size:=by
 have:=pR (a.take k) (a.drop k);rw[Za]at this;rw[this,Ka];omega
def cd:∀(a:List fB),qF (a.map lU)=rF a
 |[]=>rfl
 |t::q=>by rw[Fc,qF,cd q,rF]
def OQ(v m:Int)(w:eA):hI 64 #[zA v,zA m] w (qA (decide (0<=v/\v<=m))):=by
 by_cases a:0<=v
 .have e:decide (0<=v/\v<=m)=decide (v<=m):=by simp[a]
  rw[e];go_enter func64,ntmps64;go_wp2;go_ret;exact⟨rfl,rfl⟩
 have e:decide (0<=v/\v<=m)=cA:=by simp[a]
 rw[e];go_enter func64,ntmps64;go_wp2;go_ret;exact⟨rfl,rfl⟩
def ee(d f:Int)(a:jC)(y:Nat)(c:List fB)(w:eA)(G:uC w a c)(J:aJx c)(e:yA c<=2000000)(e:(rF c).size<=100000000):
 vE 194 #[zA d,tA #[zA f,pA a (yA c) y]] w (oA (eO d f c)):=by
 have F:bB (∀W,hI 64 #[zA d,zA 1000000000000000] W (qA (decide (0<=d/\d<=1000000000000000)))):=λW=>OQ _ _ W;by_cases P:¬(0<=d/\d<=1000000000000000)
 .have E:bB (eO d f c=kA):=MD λh=>P ⟨h.1,h.2.1⟩;rw[E.o];rw[show decide (0<=d/\d<=1000000000000000)=cA from Ub P]at F;clear G J P;go_enter func194,ntmps194;go_wp2_with fail;apply cO (F.o _);go_wp2;go_ret;exact⟨rfl,yB⟩
 replace P:=Classical.not_not.1 P;rw[Ac P]at F;have HF:bB (uC w a c):=G;have HB:bB (aJx c):=J;have I:bB _:=λW=>rO d W;have U:bB _:=λW=>rO f W;have Y:bB (∀W,vE 165 #[zA (yA c:Nat)] W (oA (qB 4 (yA c:Nat)))):=λW=>qQ _ W;have e:=kB 8 d;have e:=kB 8 f;have e:=kB 4 (yA c:Nat);have e:(yM d f c).size=24+(rF c).size:=by unfold yM;rw[Ka,FZ]
 have HX:bB (yM d f c=ckB++qB 8 d++qB 8 f++qB 4 (yA c:Nat)++rF c):=rfl;have HOK:bB ((∀i(h:i<yA c),vK c[i])->eO d f c=yM d f c++qB 4 (lL (yM d f c):Nat)):=λh=>ME ⟨P.1,P.2,h⟩;have HNO:bB _:=λk(h:k<yA c)(e:¬vK c[k])=>tf h e d f;have HCR:bB (∀W,vE 240 #[oA (yM d f c)] W (zA (lL (yM d f c):Nat))):=λW=>JY _ W (by unfold maxLen;omega);have HU4:bB (∀W,vE 165 #[zA (lL (yM d f c):Nat)] W (oA (qB 4 (lL (yM d f c):Nat)))):=λW=>qQ _ W;have e:=kB 4 (lL (yM d f c):Nat);generalize qB 4 (lL (yM d f c):Nat)=e at *;generalize lL (yM d f c)=e at *;generalize yM d f c=SX at *;generalize eO d f c=e at *;generalize qB 8 d=N1 at *;generalize qB 8 f=N2 at *;generalize qB 4 (yA c:Nat)=N3 at *;obtain⟨e,L⟩:∃C:nB,C=ckB:=⟨_,rfl⟩
 have m:e.size=4:=by rw[L];rfl
 have Z:bB _:=L;rw[<-L]at HX;clear L;obtain⟨ti,m,ht0,ht1,ht2⟩:=wZ;have HI:bB _:=m;clear G J m;go_enter func194,ntmps194;go_wp2_with fail;apply cO (F.o _);clear F;go_upto_region 3 with fail;have X6:bB (gB (w.alloc (vA #[zA f,pA a (yA c) y] 40)) w.1.size #[zA f,pA a (yA c) y] 40):=gB.new _ _ _;have B0:bB (tB w (w.alloc (vA #[zA f,pA a (yA c) y] 40))):=yB;generalize w.alloc (vA #[zA f,pA a (yA c) y] 40)=B at *;have m:bB (∀r,tB B r->tC r w.1.size 0 (zA f)/\tC r w.1.size 1 (pA a (yA c) y)):=λr h=>by
  have q:=X6.o.z h;exact⟨q.cell 0,q.cell 1⟩
 obtain⟨x0,x1⟩:=m.o B bD;go_cut [5] (λs G=>∃g,s=pA (pB g) 4 4/\B.1.size<=g/\G.heap[g]?=bA (vA #[oA e,oA N1,oA N2,oA N3] 9 (0,0))/\tB B G)
 case first=>
  go_region_held3 (λr=>r.cell? (dB w.1.size 0)=bA (zA f)/\r.cell? (dB w.1.size 1)=bA (pA a (yA c) y))
   (first|go_keep|exact m.o _ k4|exact m.o _ k3|exact m.o _ G)
   (first
    |(go_at_call 164;(fail_if_success (have q:=G));apply hC (I.o _);intro w2 J;have G:tB B w2:=(by exact vB bD.drew J))
    |(go_at_call 164;have q:=G;clear q;apply hC (U.o _);intro w3 K;have k3:tB B w3:=(by exact vB G K))
    |(go_at_call 165;apply hC (Y.o _);intro O n;have k4:tB B O:=(by exact vB k3 n)))
  all_goals(go_wp2_with fail;go_meet)
  all_goals exact⟨_,rfl,k4.size,by rw[Z.o];exact heap_alloc_new _ _,vB k4 yB⟩
 obtain⟨g0,rfl,Z,G,V⟩:=hcut;rename eA=>w5;have B5:bB _:=vB B0.o V;have HBL:bB (w5.heap[g0]?=bA (vA #[oA e,oA N1,oA N2,oA N3] 9 (0,0))/\w.1.size<=g0):=⟨G,Ua B0.o.size Z⟩
 have HK5:bB _:=(m.o w5 V).2;have y1:=HK5.o;clear x0 x1 m X6 G Z V B0 I U Y HK5;go_wp2;go_loopw [5,26] (λG i wr=>∃(k:Nat)(m:List nB)(g T:Nat),k<=yA c/\i=zA k/\G=pA (pB g) (yA m) T/\yA m<=4+k/\yF m<=24+(rF (c.take k)).size/\bB (m=[e,N1,N2,N3]++(c.take k).map lU)/\bB (∀j(h:j<yA c),j<k->vK c[j])/\bB (wr.ownsRow w.1.size 9 1 (pA (pB g) (yA m) T) (yA m) (m.map iA.string))/\tB w wr) (λ_ i _=>yA c-(intOf i).toNat)
 case atStart=>
  exact⟨0,[e,N1,N2,N3],_,_,Oa _,rfl,rfl,by simp,by simp[yF,rF];omega,by show _=_;simp,λj _ h=>absurd h (by omega),⟨rfl,La ⟨g0,4,_,rfl,HBL.o.2,HBL.o.1,Ia _,by simp[maxLen],rfl,rfl⟩⟩,B5.o⟩
 case round=>
  obtain⟨k,m,g,T,G,rfl,rfl,G,G,G,t,u,p⟩:=hrel;by_cases H:k<yA c
  .obtain ⟨b,o,a1,c1',a2,c2',rfl,hb,d0,d1,d2,d3,p1,p2⟩:=(HF.o.z p).at H;obtain⟨q1,q2,q3,q4,q5⟩:=HB.o k H;have z:bB _:=λW(I:tB wr W)=>eh c[k] a1 a2 c1' c2' W (p1.z I) (p2.z I) q1 q2 q3 q4 q5;have Z:=AR c (k+1);have W:=NU c k H;have U:=UI c[k];have Y:(rF (c.take (k+1))).size=(rF (c.take k)).size+(lU c[k]).size:=by rw[W,Ka]
   have I:=p.size;by_cases A:vK c[k]
   .rw[tr A]at z;have HA2:bB (∀j(h:j<yA c),j<k+1->vK c[j]):=λj h I=>by
     rcases Gc j k with I|I;exact t.o j h I;obtain rfl:j=k:=by omega
     exact A
    have E2:bB (m++[lU c[k]]=[e,N1,N2,N3]++(c.take (k+1)).map lU):=by
     show _=_;rw[G.o,Pa H,Ld,Nd];rfl
    have X:(lU c[k]).toList.isEmpty=cA:=by
     rw[ByteArray.toList_eq];cases h:(lU c[k]).data.toList with
     |nil=>have e:(lU c[k]).size=0:=by rw[ByteArray.size,<-Qg,h];rfl
           omega
     |cons x l=>rfl
    have R:((lU c[k]).toList==[])=cA:=by simpa using X
    have HSS:bB ((rF (c.take (k+1))).size=(rF (c.take k)).size+(lU c[k]).size/\(rF (c.take (k+1))).size<=(rF c).size):=⟨Y,Z⟩
    clear A t W U Y Z q1 q2 q3 q4 q5 p1 p2;generalize lU c[k]=S at *;generalize c[k].N=nm at *;generalize c[k].L=li at *;generalize yA c[k].M=m1 at *;generalize yA c[k].Z=m2 at *;go_wp2_with fail;apply hC (z.o _ yB);intro O n;have e:w.1.size<=O.1.size:=by have:=n.size;simp at this;omega
    have v:bB (O.ownsRow w.1.size 9 1 (pA (pB g) (yA m) T) (yA m) (m.map iA.string)/\tB w O):=⟨eC (eC u.o yB) n,vB (vB p yB) n⟩
    clear n u p z d0 d1 d2 d3;go_wp2_with(at_builtin;refine wpList_append_lies _ rfl _ _ _ rfl w.1.size 9 ti _ 1 16 underlying30 HI.o ht0 ht1 ht2 rfl (by omega) (pA (pB g) (yA m) T) (yA m) (m.map iA.string) rfl (by exact eC v.o.1 yB) (dB O.1.size 0) 1 1 [oA S] rfl rfl (by exact eA.news_of_block (heap_alloc_new _ _)) (by simp[iA.oneCell']) (by omega) (by simp[maxLen];omega) (by omega) (by simp;omega) (O.1.size+1) (by simp) ?_;intro g5 e w5 I M hat5 hlt5);have hgw:=mH v.o.1 g rfl;have hB5:=(vB v.o.2 yB).grown M (by simp;omega) (λq hq=>by simp[iA.ownBlock]at hq;omega);have hxs:m.map iA.string++[iA.string S]=(m++[S]).map iA.string:=by simp
    have N:yA (m++[S])=yA m+1:=by simp
    have hsm:yF (m++[S])=yF m+S.size:=by rw[oH];simp[yF]
    rw[hxs,<-N]at I;exact⟨⟨k+1,m++[S],g5,e,by omega,by go_num,by rw[N],by rw[N];omega,by have:=HSS.o;omega,E2.o,HA2.o,I,hB5⟩,by simp[intOf];omega⟩
   .rw[MH A]at z;have E:bB _:=HNO.o k H A;have D:bB _:=z;have X:ByteArray.empty.toList.isEmpty=dA:=by rw[ByteArray.toList_eq];rfl
    have R:(ByteArray.empty.toList==[])=dA:=by rw[ByteArray.toList_eq];rfl
    clear A t W U Y Z q1 q2 q3 q4 q5 p1 p2 u z;obtain⟨e,U⟩:∃E:nB,E=kA:=⟨_,rfl⟩
    rw[<-U]at D X R E;have e:bB _:=U;clear U;generalize c[k].N=nm at *;generalize c[k].L=li at *;generalize yA c[k].M=m1 at *;generalize yA c[k].Z=m2 at *;go_wp2_with fail;apply hC (D.o _ yB);intro O n;have I:bB _:=vB (vB p yB) n;clear n d0 d1 d2 d3 D;go_wp2;go_ret;exact⟨by rw[E.o,e.o];rfl,I.o⟩
  have E2:bB (qF m=SX):=by
   show _=_;rw[G.o,Ra (by omega),eG,cd,HX.o];simp[qF,Wa]
  have Q:=λj h=>t.o j h (by omega);have I:bB _:=HOK.o Q;have N:=AR c k;obtain⟨h,U,e⟩:=xG u.o;have G:bB (vE 159 #[pA (pB g) (yA m) T] wr (oA (qF m))):=iI g (yA m) T m wr rfl e U h (by omega) (by omega);rw[E2.o]at G;clear u e Q t;go_wp2_with fail;apply hC G.o;intro w2 J;have e:bB _:=vB p J;clear J;go_wp2_with fail;apply hC (HCR.o _);intro w3 K;have h:bB _:=vB e.o K;clear K;go_wp2_with fail;apply hC (HU4.o _);intro O n;have e:bB _:=vB h.o n;clear n;go_wp2;go_ret;exact⟨by rw[I.o];rfl,e.o⟩
def aKk{a:List fB}(h:aFy a)(k:nB):aAr (xB a k).Z/\yA (xB a k).M<=1000000000/\yA (xB a k).Z<=1000000000:=by
 unfold xB;cases hg:xC (·.N) k a with
 |none=>exact⟨λi h=>absurd h (by simp),by simp,by simp⟩
 |some t=>
  obtain⟨i,b,e⟩:=Ib (bM hg).1;have:=h i b;rw[e]at this;exact⟨this.2.2.1,this.2.2.2.1,this.2.2.2.2⟩
def LK(c:gC)(f:Int)(a:jC)(j:Nat)(g:List fB)(b met:nB)(w:eA)(Y:uC w a g)(o:aFy g)(y:yA g<=1000000000)(h:b.size<=1048576)(h:met.size<=1048576):
 vE 60 #[jE c,tA #[zA f,pA a (yA g) j],oA b,oA met] w (xA #[zA (fG c f g b met).1,zA (fG c f g b met).2]):=by
 have h:bB (∀W,tB w W->vE 49 #[jE c,tA #[zA f,pA a (yA g) j]] W (qA (kC c f g))):=λW U=>jH c f a j g W (Y.z U) o y;have F:bB (∀W,hI 52 #[oA b] W (qA (oC b))):=λW=>iG b W (by unfold maxLen;omega);have M:bB (∀W,vE 112 #[oA met] W (qA (xE met))):=λW=>eM met W (by omega);have B:bB (∀W,tB w W->gA prog 61 #[tA #[zA f,pA a (yA g) j],oA b] W λe d=>aGb d e (xB g b)/\tB W d):=λW U=>tW f a j g b W (Y.z U) y;obtain⟨G,I,O⟩:=aKk o b;have U:bB (∀W v x C D,lC W v (xB g b).M->lC W x (xB g b).Z->vE 122 #[jE c,tA #[oA (xB g b).N,zA (xB g b).L,.slice v (yA (xB g b).M) C,.slice x (yA (xB g b).Z) D],oA met] W (xA #[zA (kE c (xB g b) met).1,zA (kE c (xB g b) met).2])):=λW v x C D J K=>KD c _ v x C D met W J K G I O;have m:bB (fG c f g b met=if (kC c f g&&oC b&&(met.toList.isEmpty||xE met))=dA then kE c (xB g b) met else(-1,-1)):=rfl;clear Y o G I O;unfold aGb at B;unfold jE at *;generalize oC b=o at *;generalize xE met=W at *;generalize kC c f g=G at *;generalize xB g b=t at *;generalize fG c f g b met=n at *;generalize kE c t met=Y at *;go_enter func60,ntmps60;go_wp2_with fail;apply hC (h.o _ (vB yB yB));intro r s;have z:bB (tB w r):=vB (vB yB yB) s;have Q:bB (gB r w.1.size #[zA c.w,zA c.tl,zA c.ml,zA c.sh,zA c.ha,zA c.sg] 24):=cB (((gB.new _ _ _).alloc _).z s);have R:bB (gB r (w.1.size+1) #[zA f,pA a (yA g) j] 40):=cB (by have:=(gB.new (w.alloc (vA #[zA c.w,zA c.tl,zA c.ml,zA c.sh,zA c.ha,zA c.sg] 24)) #[zA f,pA a (yA g) j] 40).z s;simpa using this);clear s h;by_cases N:G=cA
 .have i:bB (n=(-1,-1)):=by show _=_;rw[m.o,N];rfl
  subst N;clear m;go_wp2;go_ret2;exact⟨aL (by rw[i.o]) (by rw[i.o]),z.o⟩
 have S:G=dA:=by simpa using N
 subst S;clear N;by_cases O:o=cA
 .have i:bB (n=(-1,-1)):=by show _=_;rw[m.o,O];simp
  subst O;clear m;go_wp2_with fail;apply cO (F.o _);go_wp2;go_ret2;exact⟨aL (by rw[i.o]) (by rw[i.o]),z.o⟩
 have T:o=dA:=by simpa using O
 subst T;clear O;by_cases V:met.toList.isEmpty=dA
 .have i:bB (n=Y):=by show _=_;rw[m.o,V];rfl
  clear m;go_wp2_with fail;apply cO (F.o _);clear F M;have A:bB (∀d,tB r d->tC d w.1.size 0 (zA c.w)/\tC d w.1.size 1 (zA c.tl)/\tC d w.1.size 2 (zA c.ml)/\tC d w.1.size 3 (zA c.sh)/\tC d w.1.size 4 (zA c.ha)/\tC d w.1.size 5 (zA c.sg)/\tC d (w.1.size+1) 0 (zA f)/\tC d (w.1.size+1) 1 (pA a (yA g) j)):=λd h=>by
   have q:=Q.o.z h;have p:=R.o.z h;exact⟨q.cell 0,q.cell 1,q.cell 2,q.cell 3,q.cell 4,q.cell 5,p.cell 0,p.cell 1⟩
  obtain⟨x0,x1,x2,o,O,x5,y0,y1⟩:=A.o r bD;go_upto_region 3 with fail;go_region_held3 (λd=>d.cell? (dB w.1.size 0)=bA (zA c.w)/\d.cell? (dB w.1.size 1)=bA (zA c.tl)/\d.cell? (dB w.1.size 2)=bA (zA c.ml)/\d.cell? (dB w.1.size 3)=bA (zA c.sh)/\d.cell? (dB w.1.size 4)=bA (zA c.ha)/\d.cell? (dB w.1.size 5)=bA (zA c.sg)/\d.cell? (dB (w.1.size+1) 0)=bA (zA f)/\d.cell? (dB (w.1.size+1) 1)=bA (pA a (yA g) j))
   (first|go_keep|exact A.o _ I|exact A.o _ H)
   (first
    |(go_at_call 61;refine(B.o _ (z.o.drew)).mono ?_;rintro e L ⟨⟨v,C,x,D,rfl,J,K⟩,k⟩;have H:tB r L:=(by exact vB bD.drew k))
    |(go_at_call 122;apply hC (U.o _ v x C D J K);intro Z E;have I:tB r Z:=(by exact vB H E)))
  all_goals(go_wp2;go_ret2)
  all_goals exact⟨aL (by rw[i.o]) (by rw[i.o]),vB z.o I⟩
 have X:met.toList.isEmpty=cA:=by simpa using V
 clear V;rw[X]at m;by_cases P:W=cA
 .have i:bB (n=(-1,-1)):=by show _=_;rw[m.o,P];simp
  subst P;clear m;go_wp2_with fail;apply cO (F.o _);go_wp2_with fail;apply hC (M.o _);intro L k;have G:bB (tB w L):=vB z.o k;clear k;go_wp2;go_ret2;exact⟨aL (by rw[i.o]) (by rw[i.o]),G.o⟩
 have G:W=dA:=by simpa using P
 have i:bB (n=Y):=by show _=_;rw[m.o,G];rfl
 subst G;clear m P;go_wp2_with fail;apply cO (F.o _);go_wp2_with fail;apply hC (M.o _);intro l u;have m:bB (tB w l):=vB z.o u;have A:bB (∀d,tB l d->tC d w.1.size 0 (zA c.w)/\tC d w.1.size 1 (zA c.tl)/\tC d w.1.size 2 (zA c.ml)/\tC d w.1.size 3 (zA c.sh)/\tC d w.1.size 4 (zA c.ha)/\tC d w.1.size 5 (zA c.sg)/\tC d (w.1.size+1) 0 (zA f)/\tC d (w.1.size+1) 1 (pA a (yA g) j)):=λd h=>by
  have q:=(Q.o.z u).z h;have p:=(R.o.z u).z h;exact⟨q.cell 0,q.cell 1,q.cell 2,q.cell 3,q.cell 4,q.cell 5,p.cell 0,p.cell 1⟩
 clear F M Q R z u;obtain⟨x0,x1,x2,o,O,x5,y0,y1⟩:=A.o l bD;go_upto_region 3 with fail;go_region_held3 (λd=>d.cell? (dB w.1.size 0)=bA (zA c.w)/\d.cell? (dB w.1.size 1)=bA (zA c.tl)/\d.cell? (dB w.1.size 2)=bA (zA c.ml)/\d.cell? (dB w.1.size 3)=bA (zA c.sh)/\d.cell? (dB w.1.size 4)=bA (zA c.ha)/\d.cell? (dB w.1.size 5)=bA (zA c.sg)/\d.cell? (dB (w.1.size+1) 0)=bA (zA f)/\d.cell? (dB (w.1.size+1) 1)=bA (pA a (yA g) j))
  (first|go_keep|exact A.o _ I|exact A.o _ H)
  (first
   |(go_at_call 61;refine(B.o _ (m.o.drew)).mono ?_;rintro e L ⟨⟨v,C,x,D,rfl,J,K⟩,k⟩;have H:tB l L:=(by exact vB bD.drew k))
   |(go_at_call 122;apply hC (U.o _ v x C D J K);intro Z E;have I:tB l Z:=(by exact vB H E)))
 all_goals(go_wp2;go_ret2)
 all_goals exact⟨aL (by rw[i.o]) (by rw[i.o]),vB m.o I⟩
section
open Go.Maps
def aEk{H:Type}{P:Program}{w:eA}{k:jA}{R:iA->Option (DataW H×List MemPlace)}{b n:Nat}{D:DataW H}(h:w.ownsMap P k R b n D):Maps.size D<=n:=by
 obtain⟨d,a,e,F,c,rfl⟩:=h;rw[size_eq,length_sorted,Xa,Qg];exact c
def sk{H:Type}{P:Program}{w:eA}{k:jA}{R:iA->Option (DataW H×List MemPlace)}{b n l:Nat}{D e:DataW H}(h:w.ownsMap P k R b n D)(g:w.ownsMap P k R b l e):D=e:=by
 obtain⟨o,d,i,F,p,rfl⟩:=h;obtain⟨f,c,a,m,j,rfl⟩:=g;rw[i]at a;simp only[Qa,Obj.map.injEq]at a;rw[a.1]
def aEj{w:eA}{b n M:Nat}{D:DataW Unit}{m:nB}{c d:Int}(h:w.ownsMap prog 9 (plainElem prog 3) b n (D.put (kL m) (qI d)))(g:Tidy D)(f:Maps.size D<=M)(a:D.atKey (kL m) (qI 0)=qI c)(i:c≠0):w.ownsMap prog 9 (plainElem prog 3) b M (D.put (kL m) (qI d)):=by
 have j:has D (kL m)=dA:=by
  cases e:has D (kL m) with
  |true=>rfl
  |false=>
   rw[atKey_of_not_has e]at a;simp[qI]at a;exact absurd a.symm i
 have:=RF h;rw[Maps.size_put g,j,Ma rfl]at this;exact this.mono f
structure MN(w w1:World)(x:Nat)(lim:Int)(lm sm cm:Nat)(iv iv':Value)(hs:List mI):Prop where
 blk:gB w1 x #[zA lim,.map (bA lm),.map (bA sm),.map (bA cm),iv'] 192
 row:w1.ownsRow 0 334 2 iv' (yA hs-1) (jK (aP hs))
 same:iv'.ownBlock=iv.ownBlock
 turn:eB (λk=>k=x∨iv.ownBlock=bA k) w w1
def nR.top{w:eA}{S:Nat->Prop}{x:Nat}{t:fB}{M i j d:Nat}{g:iA}{Q:List (iB×Nat)}{a:List mI}{D:DataW Unit}(h:nR w S x t M i j d g Q a D)(c:0<yA a):∃q∈Q,q.2=(jD a 0).b:=by
 have:(jD a 0).b∈Q.map (·.2):=h.perm.mem_iff.1 (Md.2 ⟨jD a 0,by rw[EM c];exact Gb c,rfl⟩);obtain⟨q,f,e⟩:=Md.1 this;exact⟨q,f,e⟩
def zj{a:List mI}{Q:List (iB×Nat)}{q:iB×Nat}(h:mJ a)(d:0<yA a)(i:(a.map (·.b)).Perm (Q.map (·.2)))(c:sC (λq:iB×Nat=>q.1.s) Q)(j:q∈Q)(g:q.2=(jD a 0).b):
 ((aP a).map (·.b)).Perm ((rE (λq:iB×Nat=>q.1.s) q.1.s Q).map (·.2)):=by
 obtain⟨_,k,_⟩:=wP h d;have e:(q.2::(aP a).map (·.b)).Perm (Q.map (·.2)):=by
  rw[g];exact(k.map (·.b)).trans i
 have f:(q.2::(rE (λq:iB×Nat=>q.1.s) q.1.s Q).map (·.2)).Perm (Q.map (·.2)):=(NI c j).map (λq:iB×Nat=>q.2);exact(List.perm_cons _).1 (e.trans f.symm)
def nR.dropped {w V v:eA} {S:Nat->Prop} {x:Nat} {t:fB} {M J u r n:Nat} {I A:iA} {Q:List (iB×Nat)} {z:List mI} {D:DataW Unit} {q:iB×Nat} {c:Nat} (h:nR w S x t M J u r I Q z D) (T:0<yA z) (U:q∈Q) (Z:q.2=(jD z 0).b)
 (j:MN w V x t.L J u r I A z) (a:eB (λk=>k=u\/k=r) V v) (B:v.ownsMap prog 9 nE u n (DataW.del (aE (Q.map λq=>(q.1.s,fF q.2))) (kL q.1.s)))
 (C:v.ownsMap prog 9 (plainElem prog 3) r M (D.put (kL (wD q.1.s)) (qI c))) (b:oI wD t.Z (wD q.1.s)=c+1):
 nR v S x ⟨t.N,t.L,t.M,rE (·.s) q.1.s t.Z⟩ M J u r A (rE (λq:iB×Nat=>q.1.s) q.1.s Q) (aP z) (D.put (kL (wD q.1.s)) (qI c))/\eB S w v:=by
 have P:=yC h.Z h.blk;have R:=yC h.cnts h.blk;have O:=yC h.lims h.blk;have K:=sG h.lims h.row;have L:=sG h.Z h.row;have N:=sG h.cnts h.row;have G:sC (λq:iB×Nat=>q.1.s) Q:=by
  rw[<-xW (key':=λp:iB=>p.s) (λq:iB×Nat=>q.1) (λ_=>rfl),h.q1];exact h.rs
 obtain⟨b,J,p3⟩:=wP h.heap T;have F:q.1∈t.Z:=by rw[<-h.q1];exact List.mem_map_of_mem U
 have f:∀p∈rE (λq:iB×Nat=>q.1.s) q.1.s Q,p∈Q:=λp j=>(xR.1 j).1
 have y:DataW.del (aE (Q.map λq=>(q.1.s,fF q.2))) (kL q.1.s)=aE ((rE (λq:iB×Nat=>q.1.s) q.1.s Q).map λq=>(q.1.s,fF q.2)):=
  XT (key:=λq:iB×Nat=>q.1.s) (λq=>fF q.2) q.1.s Q
 have o:∀g,¬(g=x\/I.ownBlock=bA g)->¬(g=u\/g=r)->g<w.1.size->v.heap[g]?=w.heap[g]?:=λg X Y l=>by
  rw[a.block g (by have:=j.turn.size;omega) Y,j.turn.block g l X]
 refine⟨?_,?_⟩
 ·exact {
   blk:=a.blk j.blk (λe=>by obtain e|e:=e;exact P e.symm;exact R e.symm)
   lims:=a.map (j.turn.map h.lims (λe=>by obtain e|e:=e;exact O e;exact K e)) (λe=>by obtain e|e:=e;exact h.d1 e;exact h.d2 e)
   Z:=by
    have:=RF B;rw[y,kM]at this;exact this
   cnts:=C
   cnt:=λm=>by
    have E:=ck (met:=wD) h.rs F m
    by_cases e:wD q.1.s=m
    ·rw[if_pos e]at E
     rw[<-e,atKey_put_same (k:=kL (wD q.1.s)) h.cnts.isMap trivial];rw[<-e]at E;have:oI wD (rE (·.s) q.1.s t.Z) (wD q.1.s)=c:=by omega
     rw[this]
    ·rw[if_neg e]at E
     rw[atKey_put_other (λW=>e (aDg W).symm),h.cnt m,E];rfl
   q1:=by rw[sZ (key':=λp:iB=>p.s) (λq:iB×Nat=>q.1) (λ_=>rfl),h.q1]
   cells:=λp d=>by
    have i:=f p d;refine(o p.2 (λe=>?_) (λe=>?_) (aB (h.cells p i))).trans (h.cells p i)
    ·obtain e|e:=e
     ·exact h.dx p i e
     ·exact(h.di _ e).2 p i rfl
    ·obtain e|e:=e
     ·exact yC h.Z (h.cells p i) e.symm
     ·exact yC h.cnts (h.cells p i) e.symm
   row:=by
    rw[p3];exact a.row j.row (λg l e=>by
     rw[j.same]at l;obtain rfl|rfl:=e
     ·exact L l
     ·exact N l)
   heap:=b
   perm:=zj h.heap T h.perm G U Z
   early:=λs H p d e=>h.early s (J.mem_iff.1 (List.mem_cons_of_mem _ H)) p (f p d) e
   rm:=h.rm
   rs:=nP h.rs
   sx:=h.sx
   sl:=h.sl
   ss:=h.ss
   sc:=h.sc
   sq:=λp d=>h.sq p (f p d)
   si:=λg l=>h.si g (by rw[<-j.same];exact l)
   d1:=h.d1
   d2:=h.d2
   d3:=h.d3
   nd:=h.nd.sublist (List.Sublist.map _ List.filter_sublist)
   dx:=λp d=>h.dx p (f p d)
   di:=λg l=>⟨(h.di g (by rw[<-j.same];exact l)).1,λp d=>(h.di g (by rw[<-j.same];exact l)).2 p (f p d)⟩ }
 ·refine(j.turn.mono λk _ e=>by obtain rfl|e:=e;exact h.sx;exact h.si _ e).trans' (a.mono λk _ e=>?_)
  obtain rfl|rfl:=e
  ·exact h.ss
  ·exact h.sc
def nR.again{w O r:eA}{S:Nat->Prop}{x:Nat}{t:fB}{M y z u:Nat}{F n:iA}{Q:List (iB×Nat)}{j:List mI}{D:DataW Unit}{q:iB×Nat}{g l B:Nat}(h:nR w S x t M y z u F Q j D)(U:0<yA j)(C:q∈Q)(W:q.2=(jD j 0).b)
(v:MN w O x t.L y z u F n j)
(A:gB r x #[zA t.L,.map (bA y),.map (bA z),.map (bA u),pA (pB g) (yA (aP j)+1) l] 192)
(E:r.ownsRow 0 334 2 (pA (pB g) (yA (aP j)+1) l) (yA (aP j)+1) (jK (lR (aP j) ⟨q.2,q.1.n⟩)))(o:n.ownBlock=bA g\/O.1.size<=g)(c:eB (λk=>k=x\/n.ownBlock=bA k) O r)(b:B<=w.1.size)(V:∀g,B<=g->w.1.size<=g->S g):
 nR r S x t M y z u (pA (pB g) (yA (aP j)+1) l) Q (lR (aP j) ⟨q.2,q.1.n⟩) D/\eB S w r:=by
 have K:=yC h.Z h.blk;have L:=yC h.cnts h.blk;have J:=yC h.lims h.blk;have G:=sG h.lims h.row;have H:=sG h.Z h.row;have I:=sG h.cnts h.row;obtain⟨Z,P,b⟩:=wP h.heap U;obtain⟨b,R,m⟩:=CM Z ⟨q.2,q.1.n⟩;have X:=v.turn.size;have a:=v.turn.trans' (c.mono λk _ e=>by rw[<-v.same];exact e);have N:=λq C=>aB (h.cells q C);have Y:=aB h.blk;have i:F.ownBlock=bA g\/w.1.size<=g:=by
  obtain e|e:=o;exact Ca (by rw[<-v.same];exact e);exact La (by omega)
 refine⟨?_,?_⟩
 .exact { h with
   blk:=A
   lims:=a.map h.lims (λe=>by obtain e|e:=e;exact J e;exact G e)
   Z:=a.map h.Z (λe=>by obtain e|e:=e;exact K e;exact H e)
   cnts:=a.map h.cnts (λe=>by obtain e|e:=e;exact L e;exact I e)
   cells:=λp d=>a.blk (h.cells p d) (λe=>by
    obtain e|e:=e;exact h.dx p d e;exact (h.di _ e).2 p d rfl)
   row:=by rw[m];exact E
   heap:=b
   perm:=by
    refine(R.map _).trans ?_;rw[Fc];show(q.2::(aP j).map (·.b)).Perm _;rw[W];exact(P.map (·.b)).trans h.perm
   early:=λs m p d e=>by
    rcases Lb.1 (R.mem_iff.1 m) with rfl|m;have:=zR h.nd d C e;rw[this];exact Xd _;exact h.early s (P.mem_iff.1 (Sb _ m)) p d e
   si:=λT f=>by
    simp only[iA.ownBlock,Qa]at f;subst f;obtain e|e:=i;exact h.si g e;exact V g (by omega) e
   di:=λT f=>by
    simp only[iA.ownBlock,Qa]at f;subst f;obtain e|e:=i;exact h.di g e;exact ⟨by omega,λp d=>by have:=N p d;omega⟩ }
 exact a.mono λk _ e=>by
  obtain rfl|e:=e;exact h.sx;exact h.si _ e
def ft{a:List mI}{u:Int}(c:mJ a)(b:0<yA a)(d:(jD a 0).t<=u):(aP a).countP (λs=>decide (s.t<=u))+1=a.countP (λs=>decide (s.t<=u)):=by
 obtain⟨_,e,_⟩:=wP c b;rw[<-e.countP_eq,List.countP_cons_of_pos (by simpa using d)]
def yg{a:List mI}{u:Int}{s:mI}(b:mJ a)(c:u<s.t):(lR a s).countP (λs=>decide (s.t<=u))=a.countP (λs=>decide (s.t<=u)):=by
 obtain⟨_,d,_⟩:=CM b s;rw[d.countP_eq,List.countP_cons_of_neg (by simp;omega)]
def aDn{R:Nat->Prop}(h:∃n,R n):∃m,R m/\∀k,R k->m<=k:=by
 obtain⟨n,d⟩:=h;induction n using Nat.strongRecOn with
 |_ n e=>
  by_cases a:∃k,k<n/\R k
  .obtain ⟨k,a,c⟩:=a;exact e k a c
  exact ⟨n,d,λk c=>Nat.le_of_not_lt λb=>a ⟨k,b,c⟩⟩
end
section
open Go.Maps
def ke{P:Program}{w:eA}{b:Array Oper}{o:Oper}{a:Act}{K:Act->eA->Prop}{Q:Exit->Act->eA->Prop}{E:Prop}{f:FuncId}{args:Array iA}(c:o.guard=aA)(i:(execOp a.eval o).run P w=.ok (.enter f args) w)
(h:gA P f args w (λe d=>∃v,e=uA v/\K (a.put o.dst v) d)):if Region.wanted o (yielded b a.tmps)=dA then Oper.wp P o a w K Q else E:=by
 have j:Region.wanted o (yielded b a.tmps)=dA:=by simp[Region.wanted,c]
 rw[Ma j];unfold Oper.wp;rw[i];refine h.mono ?_;rintro e d ⟨v,rfl,g⟩;exact g
def aCm(x Y m a:Nat)(t:Int)(X:iA)(key:nB)(Q:List (iB×Nat))(D:DataW Unit)(M c:Nat)(w:eA)(z:gB w x #[zA t,.map (bA Y),.map (bA m),.map (bA a),X] 192)
(I:w.ownsMap prog 9 nE m (yA Q) (aE (Q.map λq=>(q.1.s,fF q.2))))(U:w.ownsMap prog 9 (plainElem prog 3) a M D)(l:D.atKey (kL (wD key)) (qI 0)=qI ((c+1:Nat):Int))(V:m≠a)(h:key.size<=1000000000)(o:M<=1000000000)(o:c<=1000000000)(T:∀W,eB (·=m) w W->bH W):
 gA prog 319 #[.pointer (pB x),oA key] w λe v=>e=uA (xA #[])/\v.ownsMap prog 9 nE m (yA Q) (DataW.del (aE (Q.map λq=>(q.1.s,fF q.2))) (kL key))/\v.ownsMap prog 9 (plainElem prog 3) a M (D.put (kL (wD key)) (qI c))/\eB (λk=>k=m\/k=a) w v:=by
 have o:bB (keyOf prog 9 (oA key)=bA (kL key)):=wM (by unfold maxLen;omega);have C:bB _:=wM (yR key);have F:bB (∀W,bH W->vE 210 #[oA key] W (oA (wD key))):=λW G=>rY key W h G;obtain⟨u,s⟩:∃u,u=c+1:=⟨_,rfl⟩
 rw[<-s]at l;have h:(u:Int)-1=(c:Nat):=by omega
 have H:(u:Int)≠0:=by omega
 have h:IntKind.i64.wrap ((c:Nat):Int)=(c:Nat):=by
  simp only[IntKind.wrap,IntKind.bits,IntKind.signed];simp;omega
 have E:bB (∀W,W.ownsMap prog 9 (plainElem prog 3) a M D->(Instr.lookup 187 (.map (bA a)) (oA (wD key)) cA).run prog W=.ok (zA (u:Int)) W):=λW h=>PN h l (yR key);have P:=cB z;have N:=cB I;have L:=cB U;have O:=cB T;have J:=yC I z;have x2:tC w x 2 (.map (bA m)):=z.cell 2;have B:bB (∀W,W.ownsMap prog 9 (plainElem prog 3) a M D->∃r,(Instr.mapUpdate 187 (.map (bA a)) (oA (wD key)) (zA (c:Nat))).run prog W=.ok () r/\r.ownsMap prog 9 (plainElem prog 3) a M (D.put (kL (wD key)) (qI c))/\eB (·=a) W r):=λW h=>by
  obtain⟨r,p,j,n⟩:=h.store qL underlying187 (by unfold maxLen;omega) (val:=zA (c:Nat)) C.o (plainElem_int underlying3 (WalkArith.wf_i64 (by omega)));exact⟨r,p,aEj j (h.tidy qL) (aEk h) l H,eB.mapped n⟩
 clear z I U l T s;generalize wD key=mk at *;go_enter func319,ntmps319;go_upto_region 1 with(at_delete;refine wpList_delete_own _ rfl _ _ 185 9 rfl 186 qL underlying185 nE m _ _ rfl N.o _ _ rfl o.o ?_;intro o d b)
 have g:=eB.mapped b;have h:=cB d;have I:=cB g;have R:bB (gB o x #[zA t,.map (bA Y),.map (bA m),.map (bA a),X] 192):=g.blk P.o J.symm;have Z:bB (o.ownsMap prog 9 (plainElem prog 3) a M D):=g.map L.o V.symm;have m:bB (bH o):=O.o o g;have G:tC o x 3 (.map (bA a)):=R.o.cell 3;clear d b g P N L O x2;go_region_law (refine ke (f:=210) (args:=#[oA key]) rfl (by go_simp) ?_;apply hC (F.o _ (m.o.z bD.drew));intro A G;have y:tB o A:=(vB (Below.refl o.1.size o).drew G);have K:=(eB.of (S:=λ_=>False) y).map Z.o (λe=>e);have m:=E.o A K;obtain⟨r,p,j,n⟩:=B.o A K;have m:tC A x 3 (.map (bA a)):=(R.o.z y).cell 3;refine⟨_,rfl,?_⟩)
 all_goals(go_wp2;go_end0)
 all_goals exact⟨rfl,n.map ((eB.of (S:=λ_=>False) y).map h.o (λe=>e)) V,j,((I.o.mono λi _ e=>Ca e).trans' (eB.of y)).trans' (n.mono λi _ e=>La e)⟩
end
section
open Go.Maps
def wk(p q:iA)(w:eA):(Instr.field 334 (tA #[p,q]) 0).run prog w=.ok p w:=by kernel_rfl
def lb(S:Nat->Prop)(x:Nat)(t:fB)(M:Nat)(u:Int)(wr:eA)(n:Nat):Prop:=
 ∃a e f c d Q b D,nR wr S x ⟨t.N,t.L,t.M,a⟩ M e f c d Q b D/\a.filter (λp=>decide (u<p.n))=t.Z.filter (λp=>decide (u<p.n))/\(∀p∈a,p∈t.Z)/\yA a<=yA t.Z/\b.countP (λs=>decide (s.t<=u))=n
def CH{R:Nat->Prop}(h:∃n,R n):R (Classical.epsilon λm=>R m/\∀k,R k->m<=k)/\∀k,R k->(Classical.epsilon λm=>R m/\∀k,R k->m<=k)<=k:=Classical.epsilon_spec (aDn h)
def aDo{R a:Nat->Prop}{n:Nat}(h:a n)(b:n<Classical.epsilon λm=>R m/\∀k,R k->m<=k):(Classical.epsilon λm=>a m/\∀k,a k->m<=k)<Classical.epsilon λm=>R m/\∀k,R k->m<=k:=
 Nat.lt_of_le_of_lt ((CH ⟨n,h⟩).2 n h) b
def aCp{w:eA}{S:Nat->Prop}{x:Nat}{t:fB}{M m o j:Nat}{l:iA}{Q:List (iB×Nat)}{b:List mI}{D:DataW Unit}{i:List iB}{u d c:Int}(h:nR w S x ⟨t.N,t.L,t.M,i⟩ M m o j l Q b D)(C:u=c-d)(A:i.filter (λp=>decide (u<p.n))=t.Z.filter (λp=>decide (u<p.n)))(f:¬(0<yA b/\(jD b 0).t<=u)):
 mD w S x (uE d c t) M:=by
 have y:∀p∈i,u<p.n:=λp B=>by
  have g:p∈Q.map (·.1):=by rw[h.q1];exact B
  obtain⟨q,k,rfl⟩:=Md.1 g;have z:=h.perm.mem_iff.2 (Tc k);obtain⟨s,a,e⟩:=Md.1 z;have E:=h.early s a q k e.symm;have F:=aMl h.heap a;have v:=List.length_pos_of_mem a;have G:¬(jD b 0).t<=u:=λr=>f ⟨v,r⟩;omega
 rw[xz C A y];exact⟨m,o,j,l,Q,b,D,h⟩
def aGy{w F y:eA}{S:Nat->Prop}{x:Nat}{t:fB}{M A v j n:Nat}{E m:iA}{Q:List (iB×Nat)}{i:List mI}{D:DataW Unit}{d:List iB}{u:Int}{q:iB×Nat}{c:Nat}(h:nR w S x ⟨t.N,t.L,t.M,d⟩ M A v j E Q i D)(O:d.filter (λp=>decide (u<p.n))=t.Z.filter (λp=>decide (u<p.n)))(l:∀p∈d,p∈t.Z)(P:yA d<=yA t.Z)
(B:0<yA i)(T:(jD i 0).t<=u)(C:q∈Q)(L:q.2=(jD i 0).b)(U:q.1.n<=u)(R:MN w F x t.L A v j E m i)(a:eB (λk=>k=v\/k=j) F y)(o:y.ownsMap prog 9 nE v n (DataW.del (aE (Q.map λq=>(q.1.s,fF q.2))) (kL q.1.s)))
(r:y.ownsMap prog 9 (plainElem prog 3) j M (D.put (kL (wD q.1.s)) (qI c)))(N:oI wD d (wD q.1.s)=c+1):
 (∃k,lb S x t M u y k/\k<i.countP (λs=>decide (s.t<=u)))/\eB S w y:=by
 obtain⟨J,K⟩:=h.dropped (c:=c) B C L R a o r N;refine⟨⟨_,⟨_,A,v,j,m,_,_,_,J,?_,λp g=>l p (xR.1 g).1,?_,rfl⟩,?_⟩,K⟩
 .rw[<-O];unfold rE;rw[List.filter_filter];apply List.filter_congr;intro p g;by_cases e:p.s=q.1.s
  .have z:q.1∈d:=by have:=Tc (f:=(·.1)) C;rw[h.q1]at this;exact this
   have G:=cK h.rs g;have H:=cK h.rs z;have:p=q.1:=by
    have I:bA p=bA q.1:=by rw[<-G,<-H];show xC (λp:iB=>p.s) p.s d=xC (λp:iB=>p.s) q.1.s d;rw[e]
    exact Lc I
   rw[this,Ub (by omega)];simp
  rw[zD e];simp
 .have:yA (rE (·.s) q.1.s d)<=yA d:=Pc _ _;exact Ua this P
 have:=ft h.heap B T;omega
def aCo{w A j:eA}{S:Nat->Prop}{x:Nat}{t:fB}{M o r m:Nat}{C d:iA}{Q:List (iB×Nat)}{c:List mI}{D:DataW Unit}{l:List iB}{u:Int}{q:iB×Nat}{g e B:Nat}(h:nR w S x ⟨t.N,t.L,t.M,l⟩ M o r m C Q c D)(K:l.filter (λp=>decide (u<p.n))=t.Z.filter (λp=>decide (u<p.n)))(i:∀p∈l,p∈t.Z)(L:yA l<=yA t.Z)
(v:0<yA c)(P:(jD c 0).t<=u)(O:q∈Q)(J:q.2=(jD c 0).b)(H:u<q.1.n)(N:MN w A x t.L o r m C d c)
(y:gB j x #[zA t.L,.map (bA o),.map (bA r),.map (bA m),pA (pB g) (yA (aP c)+1) e] 192)
(z:j.ownsRow 0 334 2 (pA (pB g) (yA (aP c)+1) e) (yA (aP c)+1) (jK (lR (aP c) ⟨q.2,q.1.n⟩)))(f:d.ownBlock=bA g\/A.1.size<=g)(a:eB (λk=>k=x\/d.ownBlock=bA k) A j)(G:B<=w.1.size)(I:∀g,B<=g->w.1.size<=g->S g):
 (∃k,lb S x t M u j k/\k<c.countP (λs=>decide (s.t<=u)))/\eB S w j:=by
 obtain⟨E,F⟩:=h.again v O J N y z f a G I;refine⟨⟨_,⟨l,o,r,m,_,_,_,_,E,K,i,L,rfl⟩,?_⟩,F⟩;have R:=ft h.heap v P;rw[yg (wP h.heap v).1 (by exact H)];omega
def mx(x:Nat)(t:fB)(J I u:Int)(S:Nat->Prop)(M:Nat)(b w:eA)(h:mD w S x t M)(r:tB b w)(Z:bH b)(hS:∀g,S g->b.1.size<=g)(hu:u=I-J)(hl:yA t.Z<=1000000000)(hM:M<=1000000000)(Y:∀p∈t.Z,p.s.size<=1000000000):
 gA prog 286 #[.pointer (pB x),zA u] w λe o=>e=uA (xA #[])/\mD o (λg=>S g\/w.1.size<=g) x (uE J I t) M/\eB S w o:=by
 have G:bB (lb (λg=>S g\/w.1.size<=g) x t M u w ((Classical.epsilon λm=>lb (λg=>S g\/w.1.size<=g) x t M u w m/\∀k,lb (λg=>S g\/w.1.size<=g) x t M u w k->m<=k))):=by
  refine(CH ?_).1;obtain⟨b,U,K,iv,Q,i,D,h⟩:=h;exact⟨_,t.Z,b,U,K,iv,Q,i,D,h.keep λg _ i=>⟨rfl,Ca i⟩,rfl,λp s=>s,Ia _,rfl⟩
 have HUT:bB (∀W,eB S w W->bH W):=λW s=>Z.z (r.trans (s.below r.size λk Y i=>by have:=hS k i;omega));have HKS:bB _:=Y;have HEU:bB _:=hu;have O:bB _:=hl;clear h r Z hS Y hu hl;go_enter func286,ntmps286;go_wp2;go_loopw [4] (λ_ wr=>bB (∃n,lb (λg=>S g\/w.1.size<=g) x t M u wr n)/\bB (eB S w wr)) (λ_ wr=>Classical.epsilon λm=>lb (λg=>S g\/w.1.size<=g) x t M u wr m/\∀k,lb (λg=>S g\/w.1.size<=g) x t M u wr k->m<=k)
 case atStart=>exact⟨⟨_,G.o⟩,eB.refl _ _⟩
 case round=>
  obtain⟨HN,Y⟩:=hrel;obtain⟨Z,_⟩:=CH HN.o;have HLT:bB (∀W k,lb (λg=>S g\/w.1.size<=g) x t M u W k->k<(Classical.epsilon λm=>lb (λg=>S g\/w.1.size<=g) x t M u wr m/\∀k,lb (λg=>S g\/w.1.size<=g) x t M u wr k->m<=k)->(Classical.epsilon λm=>lb (λg=>S g\/w.1.size<=g) x t M u W m/\∀k,lb (λg=>S g\/w.1.size<=g) x t M u W k->m<=k)<(Classical.epsilon λm=>lb (λg=>S g\/w.1.size<=g) x t M u wr m/\∀k,lb (λg=>S g\/w.1.size<=g) x t M u wr k->m<=k)):=λW k h1 h2=>aDo h1 h2;obtain⟨xs,b,U,K,iv,Q,i,D,d,hf,P,N,L⟩:=Z;have HI:=cB d;have HF:=cB hf;have X:=cB P;have F:=cB N;have m:=cB L;have hwr:=Y.o.size;clear G hf P N L HN;by_cases r:0<yA i
  .obtain ⟨g,a,hiv⟩:∃g a,iv=pA (pB g) (yA i) a:=by
    obtain⟨_,e⟩|⟨g,a,cur,e,_⟩:=d.row.2;exact absurd e (by omega);exact ⟨g,a,e⟩
   subst hiv;obtain⟨G,_⟩:=EK d.row rfl;have H:=(d.di g rfl).1;have Z:=cB G;have x4:tC wr x 4 (pA (pB g) (yA i) a):=d.blk.cell 4;have c1:tC wr g 1 (zA (jD i 0).t):=by have:=(G.cells (k:=0) r).2.1;simpa using this
   by_cases ht:(jD i 0).t<=u
   .have hhl:yA i=yA xs:=by
     have h1:=d.perm.length_eq;have h2:=Kd List.length d.q1;simp only[Xa]at h1 h2;omega
    have hh9:yA i<=1000000000:=by have:=F.o;have:=O.o;omega
    obtain⟨q,Z,a0⟩:=d.top r;have HQ:=cB Z;have HQB:=cB a0;have V:bB (gA prog 318 #[.pointer (bA (dB x 4))] wr λe o=>e=uA (tA #[.pointer (pB ((jD i 0).b)),zA (jD i 0).t])/\gB o x (#[zA t.L,.map (bA b),.map (bA U),.map (bA K),pA (pB g) (yA i) a].setIfInBounds 4 (pA (pB g) (yA i-1) a)) 192/\rH o g a (aP i)/\eB (λk=>k=x\/k=g) wr o):=aIk x 4 g a i wr _ _ d.blk rfl G H r hh9;have HTL:=cB ht;clear hhl G;rw[<-a0]at V;clear a0;generalize G:(jD i 0).t=TT at *;have HTT:bB _:=G;clear G;go_wp2_with fail;apply hC V.o;rintro y ⟨G,hm1,j⟩;have hp3:=(wP d.heap r).2.2;have PP:bB (MN wr y x t.L b U K (pA (pB g) (yA i) a) (pA (pB g) (yA i-1) a) i):=cB {
     blk:=by simpa using G
     row:=by have:=zW (B:=0) hm1 (Oa _);rw[hp3]at this;exact this
     same:=rfl
     turn:=j.mono λk _ e=>by obtain e|e:=e;exact Ca e;exact La (by rw[e];rfl) }
    have hqc:=d.cells q Z;have hqg:=(d.di g rfl).2 q Z;have hqx:=d.dx q Z;have Q1:bB (gB y q.2 #[oA q.1.s,zA q.1.n] 58):=j.blk hqc (λe=>by obtain e|e:=e;exact hqx e;exact hqg e);have hfd:=wk (.pointer (pB q.2)) (zA TT);have v0:tC y q.2 0 (oA q.1.s):=Q1.o.cell 0;have v1:tC y q.2 1 (zA q.1.n):=Q1.o.cell 1;have TS1:bB (eB S w y):=Y.o.trans (j.mono λk _ e=>by
     obtain rfl|rfl:=e;exact d.sx;exact d.si _ rfl)
    have hqs:q.1∈xs:=by have:=Tc (f:=(·.1)) Z;rw[d.q1]at this;exact this
    have Z:=HKS.o q.1 (X.o q.1 hqs);clear G hm1 hqc x4 c1 V H hp3;by_cases hL:q.1.n<=u
    .obtain ⟨c,hc⟩:∃c,oI wD xs (wD q.1.s)=c+1:=⟨oI wD (rE (·.s) q.1.s xs) (wD q.1.s),by have:=ck (met:=wD) d.rs hqs (wD q.1.s);rw[Ma rfl]at this;exact this⟩
     have hc9:c<=1000000000:=by have:=XK wD xs (wD q.1.s);have:=F.o;have:=O.o;omega
     have G:bB (gA prog 319 #[.pointer (pB x),oA q.1.s] y λe o=>e=uA (xA #[])/\o.ownsMap prog 9 nE U (yA Q) (DataW.del (aE (Q.map λq=>(q.1.s,fF q.2))) (kL q.1.s))/\o.ownsMap prog 9 (plainElem prog 3) K M (D.put (kL (wD q.1.s)) (qI c))/\eB (λk=>k=U\/k=K) y o):=
      aCm x b U K t.L _ q.1.s Q D M c y PP.o.blk (j.map d.Z (λe=>by obtain e|e:=e;exact yC d.Z d.blk e;exact sG d.Z d.row (by rw[e];rfl))) (j.map d.cnts (λe=>by obtain e|e:=e;exact yC d.cnts d.blk e;exact sG d.cnts d.row (by rw[e];rfl))) (by rw[d.cnt,hc]) d.d3 Z hM hc9 (λW s=>HUT.o W (TS1.o.trans (s.mono λk _ e=>by rw[e];exact d.ss)))
     have O:=cB hc;clear hc d j;go_wp2_with fail;apply hC G.o;rintro w4 ⟨R,T,E⟩;have HE:=cB (aGy HI.o HF.o X.o F.o r (by rw[HTT.o];exact HTL.o) HQ.o HQB.o hL PP.o E R T O.o);clear R T E G;go_wp2;obtain⟨⟨k,A,C⟩,Z⟩:=HE.o;exact⟨⟨⟨k,A⟩,Y.o.trans Z⟩,HLT.o _ k A (by rw[m.o]at C;exact C)⟩
    have hL':u<q.1.n:=by omega
    have hpl:=(wP d.heap r).2.2;have G:bB (∀W,tB y W->gA prog 262 #[.pointer (bA (dB x 4)),tA #[.pointer (pB q.2),zA q.1.n]] W λe o=>e=uA (xA #[])/\∃O z,gB o x (#[zA t.L,.map (bA b),.map (bA U),.map (bA K),pA (pB g) (yA i-1) a].setIfInBounds 4 (pA (pB O) (yA (aP i)+1) z)) 192/\
     o.ownsRow 0 334 2 (pA (pB O) (yA (aP i)+1) z) (yA (aP i)+1) (jK (lR (aP i) ⟨q.2,q.1.n⟩))/\((iA.slice (pB g) (yA i-1) a).ownBlock=bA O\/W.1.size<=O)/\eB (λk=>k=x\/(iA.slice (pB g) (yA i-1) a).ownBlock=bA k) W o):=λW s=>by
     have H:=(d.di g rfl).1;exact im x 4 0 (pA (pB g) (yA i-1) a) (aP i) ⟨q.2,q.1.n⟩ W _ _ (PP.o.blk.z s) rfl (by rw[hpl];exact(eB.of (S:=λ_=>False) s).row PP.o.row (λ_ _ e=>e)) (λe=>H (by simpa[iA.ownBlock]using e)) (Oa _) (by omega)
    clear d j v0;go_upto_region 4 with fail;refine aR 9 (by kernel_rfl) (by kernel_rfl) ?_;simp only[Rg,List.take_zero,Sg,Kf];have b:Nonempty Unit:=⟨()⟩
    repeat (go_big_quiet_step (fail))
    refine wpQuiet_nil ?_;go_wp2_with(first|(go_at_call 262;apply hC (G.o _ bD.drew);rintro w4 ⟨O,z,b,o,O,E⟩));have HE:=cB (aCo (B:=w.1.size) HI.o HF.o X.o F.o r (by rw[HTT.o];exact HTL.o) HQ.o HQB.o hL' PP.o (by simpa using b) o O ((eB.of (S:=λk=>k=x\/(iA.slice (pB g) (yA i-1) a).ownBlock=bA k) ((Below.refl y.1.size y).drew)).trans' E) hwr (λg s _=>La s));clear b o O E G;obtain⟨⟨k,A,C⟩,Z⟩:=HE.o;exact⟨⟨⟨k,A⟩,Y.o.trans Z⟩,HLT.o _ k A (by rw[m.o]at C;exact C)⟩
   .have l:bB (mD wr (λg=>S g\/w.1.size<=g) x (uE J I t) M):=aCp d HEU.o HF.o (λh=>ht h.2);clear d;generalize (jD i 0).t=TT at *;go_wp2;go_end0;exact⟨rfl,l.o,Y.o⟩
  .have l:bB (mD wr (λg=>S g\/w.1.size<=g) x (uE J I t) M):=aCp d HEU.o HF.o (λh=>r h.1);have b:yA i=0:=by omega
   have x4:∃v,tC wr x 4 v/\(v=pA aA 0 0\/∃g a,v=pA (pB g) 0 a):=by
    refine⟨iv,d.blk.cell 4,?_⟩;obtain⟨e,_⟩|⟨g,a,cur,e,_⟩:=d.row.2;exact Ca e;rw[b]at e;exact La ⟨g,a,e⟩
   clear d b;obtain⟨v,x4,b⟩:=x4;obtain rfl|⟨g,a,rfl⟩:=b
   .go_wp2;go_end0;exact⟨rfl,l.o,Y.o⟩
   go_wp2;go_end0;exact⟨rfl,l.o,Y.o⟩
end
section
open Go.Maps
def KK{H:Type}{P:Program}{k:jA}{R:iA->Option (DataW H×List MemPlace)}{w g:eA}{b r n:Nat}{D:DataW H}{left:Lit->Bool}{m:Nat}{S:Nat->Prop}(h:w.ranges P k R b r n D left m)(f:eB S w g)(s:¬S b)(t:¬S r):g.ranges P k R b r n D left m:=by
 have o:=h.owns.lt;have p:=h.lt;obtain⟨m,a,c,e,i,j,F,u,q,l,d⟩:=h;exact⟨m,a,c,e,i,(f.block b o s).trans j,F,u,q,(f.block r p t).trans l,d⟩
def tk{key:iA}{a:Lit}(h:keyOf prog 9 key=bA a):∃s,key=oA s/\a=kL s/\s.size<=maxLen:=WideMaps.string_of_keyOf underlying9 h
def cL.trim{w:eA}{B:Nat->Prop}{T:Nat->Option Nat}{l m:Nat}{c:gC}{a:Int}{L:List (fB×Nat)}{M:Nat}(h:cL w B T l m c a L M):cL w B (λg=>if g<w.1.size then T g else aA) l m c a L M:=
 { h with
  idx:=λp e=>(h.idx p e).keep λg d b=>⟨rfl,b.1,by show(if g<w.1.size then T g else aA)=_;rw[Ma d];exact b.2⟩
  tl:=by show(if l<w.1.size then T l else aA)=aA;rw[Ma (aB h.blk)];exact h.tl
  tm:=by show(if m<w.1.size then T m else aA)=aA;rw[Ma h.ten.lt];exact h.tm}
def cL.aside{w f:eA}{B:Nat->Prop}{T:Nat->Option Nat}{l m r:Nat}{c:gC}{a:Int}{L:List (fB×Nat)}{M:Nat}(h:cL w B T l m c a L M)(d:eB (·=r) w f)(o:T r=aA)(j:l≠r)(k:m≠r):cL f B T l m c a L M:=
 { h with
  blk:=d.blk h.blk j
  ten:=d.map h.ten k
  idx:=λp n=>(h.idx p n).keep λg i b=>⟨d.block g i (λe=>by rw[e,o]at b;cases b.2),b⟩ }
def cL.moved{w f:eA}{B:Nat->Prop}{T:Nat->Option Nat}{l m:Nat}{c:gC}{d a:Int}{L:List (fB×Nat)}{M:Nat}(h:cL w B T l m c d L M)(i:eB (·=l) w f)(j:gB f l (kV c a m) 161):cL f B T l m c a L M:=
 { h with
  blk:=j
  ten:=i.map h.ten h.lm
  idx:=λp n=>(h.idx p n).keep λg k b=>⟨i.block g k (λe=>by rw[e,h.tl]at b;cases b.2),b⟩ }
def cL.turned{w v:eA}{B:Nat->Prop}{T:Nat->Option Nat}{l m:Nat}{c:gC}{o:Int}{L:List (fB×Nat)}{M:Nat}{p:fB×Nat}{t':fB}(h:cL w B T l m c o L M)(x:∀g,w.1.size<=g->B g)(u:p∈L)(r:t'.N=p.1.N)
(b:eB (λg=>B g/\T g=bA p.2) w v)(y:mD v (λg=>(B g/\T g=bA p.2)\/w.1.size<=g) p.2 t' M):
 cL v B (λg=>if g<w.1.size then T g else bA p.2) l m c o (cC (λp:fB×Nat=>p.1.N) (t',p.2) L) M:=by
 have z:=aB h.blk;have A:=h.ten.lt;have i:(cC (λp:fB×Nat=>p.1.N) (t',p.2) L).map (λp=>(p.1.N,fF p.2))=L.map λp=>(p.1.N,fF p.2):=
  FB (key:=λp:fB×Nat=>p.1.N) (a:=(t',p.2)) (λp:fB×Nat=>(p.1.N,fF p.2)) h.rise u r.symm (by simp[r])
 have n:yA (cC (λp:fB×Nat=>p.1.N) (t',p.2) L)=yA L:=by
  have:=Kd List.length i;simpa using this
 have t:∀q∈L,q.1.N≠t'.N->q.2≠p.2:=λq j f e=>by
  have:=zR h.nd j u e;rw[this,r]at f;exact f rfl
 exact {
  blk:=b.blk h.blk (λe=>by rw[h.tl]at e;cases e.2)
  ten:=by rw[i,n];exact b.map h.ten (λe=>by rw[h.tm]at e;cases e.2)
  rise:=dK h.rise
  idx:=λq j=>by
   rcases YV h.rise j with rfl|⟨j,f⟩
   .refine y.keep λg s d=>⟨rfl,?_,?_⟩
    .rcases d with d|d
     .exact d.1
     exact x g d
    show (if g<w.1.size then T g else bA p.2)=bA p.2;by_cases k:g<w.1.size
    .rw[Ma k];obtain d|d:=d
     .exact d.2
     omega
    rw[Ja k]
   refine (h.idx q j).keep λg s d=>⟨b.block g s (λe=>?_),d.1,?_⟩
   .have:=t q j f;rw[e.2]at d;exact this (Lc d.2).symm
   show (if g<w.1.size then T g else bA p.2)=_;rw[Ma s];exact d.2
  nd:=by
   rw[FB (key:=λp:fB×Nat=>p.1.N) (a:=(t',p.2)) (·.2) h.rise u r.symm rfl];exact h.nd
  tl:=by show(if l<w.1.size then T l else _)=aA;rw[Ma z];exact h.tl
  tm:=by show(if m<w.1.size then T m else _)=aA;rw[Ma A];exact h.tm
  lB:=h.lB
  mB:=h.mB}
def cL.left{w y s:eA}{B:Nat->Prop}{T:Nat->Option Nat}{l m n:Nat}{c:gC}{i:Int}{L:List (fB×Nat)}{M:Nat}{k:nB}{S:Nat->Prop}(h:cL w B T l m c i L M)(C:∀g,S g->∀q∈L,q.1.N≠k->T g≠bA q.2)(t:∀g,g<w.1.size->S g->T g≠aA)
(a:eB S w y)(b:eB (·=m) y s)(j:s.ownsMap prog 9 nE m n (DataW.del (aE (L.map λp=>(p.1.N,fF p.2))) (kL k))):
 cL s B T l m c i (rE (λp:fB×Nat=>p.1.N) k L) M:=by
 have x:=aB h.blk;have D:=a.size;have f:DataW.del (aE (L.map λp=>(p.1.N,fF p.2))) (kL k)=aE ((rE (λp:fB×Nat=>p.1.N) k L).map λp=>(p.1.N,fF p.2)):=
  XT (key:=λp:fB×Nat=>p.1.N) (λp=>fF p.2) k L
 have d:∀g,g<w.1.size->¬S g->g≠m->s.heap[g]?=w.heap[g]?:=λg u z A=>by
  rw[b.block g (by omega) A,a.block g u z]
 exact {
  blk:=(d l x (λe=>t l x e h.tl) h.lm.symm).trans h.blk
  ten:=by
   have:=RF j;rw[f,kM]at this;exact this
  rise:=nP h.rise
  idx:=λq o=>by
   obtain⟨o,v⟩:=xR.1 o;exact(h.idx q o).keep λg u r=>⟨d g u (λe=>C g e q o v r.2) (λe=>by rw[e,h.tm]at r;cases r.2),r⟩
  nd:=h.nd.sublist (List.Sublist.map _ Pf)
  tl:=h.tl
  tm:=h.tm
  lB:=h.lB
  mB:=h.mB}
def TkR(c:gC)(a:Int)(b:List fB)(M:Nat)(B:Nat->Prop)(l m r:Nat)(left:Lit->Bool)(wr:eA):Prop:=
 ∃T L,cL wr B T l m c a L M/\L.map (·.1)=jI c.w a (λs=>left (kL s)) b/\T r=aA
def aFp{c:gC}{a:Int}{o:List fB}{M l m n:Nat}{B:Nat->Prop}{left:Lit->Bool}{wr:eA}{T:Nat->Option Nat}{L:List (fB×Nat)}{D:DataW Unit}{s:nB}{v:iA}{y:DataW Unit×List MemPlace}(h:cL wr B T l m c a L M)(u:L.map (·.1)=jI c.w a (λs=>left (kL s)) o)(g:wr.ownsMap prog 9 nE m n D)(x:left (kL s)=dA)(C:nE v=bA y)(f:∀zd,D.atKey (kL s) zd=y.1):
 ∃p∈L,p.1.N=s/\p.1∈o/\v=.pointer (pB p.2):=by
 rw[sk g h.ten]at f;have d:∀zd:DataW Unit,((xC (λp:fB×Nat=>p.1.N) s L).map λp=>fF p.2).getD zd=y.1:=λzd=>by
  rw[<-gS (key:=λp:fB×Nat=>p.1.N) (λp=>fF p.2)];exact f zd
 cases hg:xC (λp:fB×Nat=>p.1.N) s L with
 |none=>
  rw[hg]at d;have b:=d (qI 0);have j:=d (qI 1);simp only[Option.map_none,Option.getD_none]at b j;rw[<-b]at j;simp[qI]at j
 |some p=>
  rw[hg]at d;have b:=d .nil;simp only[Option.map_some,Option.getD_some]at b;obtain⟨q,i⟩:=bM hg;have z:p.1∈jI c.w a (λs=>left (kL s)) o:=by rw[<-u];exact Tc q
  obtain⟨t,A,e,r⟩:=VF z;have k:left (kL t.N)=dA:=by rw[<-r,i];exact x
  rw[Ma k]at e;refine⟨p,q,i,by rw[e];exact A,wQ (ps:=y.2) (by rw[C,b])⟩
end
