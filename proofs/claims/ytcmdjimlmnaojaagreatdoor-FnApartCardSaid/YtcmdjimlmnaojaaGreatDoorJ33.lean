import Derived.Test.YtcmdjimlmnaojaaGreatDoorJ29
set_option maxRecDepth 100000
set_option maxHeartbeats 8000000
set_option linter.defProp false
open Option renaming some->cA,none->aA
open Bool renaming true->eA,false->dA
open ByteArray renaming empty->lA
open List renaming length->zA
namespace Go.Proofs.YtcmdjimlmnaojaaGreatDoor
open Go renaming World->fA,Value->jA,TypeId->kA,Calls->iA
open Obj renaming cells->xA
open Value renaming agg->uA,slice->qA,string->pA,bool->sA,tuple->yA
open Ending renaming returned->vA
open Go.RowKit Tryz
def zI{C:fA->Prop}{w:fA}{cs:Array jA}{t:kA}(k:∀W,xB w W->jB W w.1.size cs t->W.1.size=w.1.size+1->C W):C (w.alloc (xA cs t)):=
 k _ bC (jB.new w _ _) (by simp)
def aGd{C:fA->Prop}{w:fA}{O:Nat}{a b d c u:jA}{t:kA}(h:jB w O #[a,b,d,c] t)(k:∀W,jB W O #[a,b,u,c] t->fB (·=O) w W->C W):C (w.setCell (eB O 2) u):=
 k _ (by have:=h.set 2 u;simpa using this) ((fB.refl (·=O) w).setCell (Ca rfl) 2 u)
def aGe{C:fA->Prop}{w:fA}{O:Nat}{a b c d u:jA}{t:kA}(h:jB w O #[a,b,c,d] t)(k:∀W,jB W O #[a,b,c,u] t->fB (·=O) w W->C W):C (w.setCell (eB O 3) u):=
 k _ (by have:=h.set 3 u;simpa using this) ((fB.refl (·=O) w).setCell (Ca rfl) 3 u)
def lD.turned{S:Nat->Prop}{w c:fA}{B:Nat}{a:nC}{l:List kB}(h:lD w B a l)(q:fB S w c)(m:∀g,B<=g->¬S g):lD c B a l:=by
 obtain h|⟨g,o,b,t,e,d,f,h⟩:=h;exact Ca h;have k:=q.block g (bB f) (m g d);have n:∀j,c.cell? (eB g j)=w.cell? (eB g j):=λj=>fA.cell?_of_block k;exact La ⟨g,o,b,t,e,d,k.trans f,λi p=>by simp only[n];exact h i p⟩
def vN(a b:nC)(ca cb:Nat)(N:sC)(w:fA)(d:uB w a N.d.fs)(l:zA N.d.fs<=1048576)(c:aD w b N.ts)(h:zA N.ts<=2000000)(h:∀t∈N.ts,zA t.M<=2000000/\zA t.Z<=2000000):
 iA prog 43 #[uA (gC a ca b cb N)] w λe w'=>∃a' Q b' R,e=vA (uA (gC a' Q b' R N))/\mJ w' (λx=>w.1.size<=x) a' N.d.fs/\tQ w' (λx=>w.1.size<=x) b' N.ts/\xB w w':=by
 unfold gC;have O:=dB (λW(m:xB w W)=>PH a ca N.d W (d.z m) l);have HT:=dB c;have o:=dB h;clear d c h;go_enter func43,ntmps43;go_wp2_with fail;refine(O.o _ (aC bC bC)).mono ?_;rintro e w1 ⟨a',Q,rfl,d,J⟩;have l:=dB (((jB.new w _ _).alloc _).z J);have G:=dB ((jB.new (w.alloc _) _ _).z J);simp only[fA.size_alloc]at G d;have I:=dB (aC (aC bC bC) J);have h:=J.size;simp only[fA.size_alloc]at h;have F1:=dB d;obtain⟨o0,o1,o2,o3,o4,o5,o6,o7,o8,o9,Y,Z,a0,b0⟩:=l.o.n14;obtain⟨s,u,q,r,y,z,A,B,D,E,f,m,n,p⟩:=l.o.frees;clear J d O;go_upto_region 2 with fail;refine aGg (C:=λW=>Code.wp prog _ _ _ W) l.o ?_;intro w2 d h;have R2:=dB (h.blk G.o (by omega));have F2:=dB (F1.o.turned h (λx hx _ e=>by omega));have J:=h.size;have B2:=dB (I.o.trans (h.below (by have:=I.o.size;omega) (λk hk e=>by omega)));clear o0 o1 o2 o3 o4 o5 o6 o7 o8 o9 Y Z a0 b0 s u q r y z A B D E f m n p l G F1 I h;obtain⟨o0,o1,o2,o3,o4,o5,o6,o7,o8,o9,Y,Z,a0,b0⟩:=d.n14;replace d:=dB d;have l:w.1.size<w2.1.size:=by omega
 go_wp2;obtain⟨i3,h,hq0,hq1,hq2⟩:=info_parts fc;have HI3:=dB h;clear o0 o1 o2 o3 o4 o5 o6 o7 o8 o9 Y Z a0 b0 h;go_loopw [3,15] (λh i wr=>∃(j:Nat)(v:jA),j<=zA N.ts/\i=aB j/\v=h/\cB (iS wr w2.1.size 131 v j (N.ts.take j))/\cB (xB w2 wr)/\w2.1.size<wr.1.size) (λ_ i _=>zA N.ts-(RowKit.intOf i).toNat)
 case atStart=>exact⟨0,_,Oa _,rfl,rfl,⟨λ_=>0,[],fA.ownsRow_made w2 #[] 0 (Ia _) (by simp[maxLen]) (by simp),by simp,λ_ _=>rfl,λi h=>absurd h (by simp)⟩,bC,by simp⟩
 case round=>
  obtain⟨j,v,G,rfl,rfl,I,F,G⟩:=hrel;by_cases L:j<zA N.ts
  .obtain ⟨bb,oo,a1,c1,a2,c2,rfl,hbb,k0,k1,k2,k3,p1,p2⟩:=((HT.o.z B2.o).z F.o).at (i:=j) L;have h0:=o.o _ (Gb L);obtain⟨t,c⟩:∃t,t=N.ts[j]:=⟨_,rfl⟩
   have HE:=dB (show N.ts.take (j+1)=N.ts.take j++[t] by rw[c,Pa L]);rw[<-c]at k0 k1 k2 k3 p1 p2 h0;clear c;go_upto_region 6 with fail;refine zI (C:=λW=>Code.wp prog _ _ _ W) ?_;intro w3 d0 X3 H;obtain⟨G,c,w4,o,J,U,O⟩:=vm w3 a1 c1 t.M (p1.z d0) h0.1;have HR4:=dB o;have x2:yC w3 wr.1.size 2 (qA a1 (zA t.M) c1):=X3.cell 2;have l:wr.1.size<w3.1.size:=by omega
   have X4:=dB (X3.z U);have y2:yC w4 wr.1.size 2 (qA a1 (zA t.M) c1):=X4.o.cell 2;have q:=X4.o.free 2;have HZ:=dB H;have hz3':wr.1.size<=w3.1.size:=by omega
   have hz4:=U.size;have P4:=dB p2;have B4:=dB (aC d0 U);have O4:=dB J;have Q4:=dB O;clear O k0 k1 k2 k3 p1 p2 o J U X3 H d0;go_upto_region 7 with(at_builtin;refine Lib.wpList_append_run _ rfl _ _ _ _ rfl _ _ rfl rfl _ _ HR4.o ?_)
   refine aGd (C:=λW=>Code.wp prog _ _ _ W) X4.o ?_;intro J X5 T5;have H:=HZ.o;have o:=T5.size;have B5:=dB (B4.o.trans (T5.below (by omega) (λk hk e=>by omega)));have M5:=dB (O4.o.turned T5 (λg V e=>by omega));have hM:∀g o,G=cA (eB g o)->g<J.1.size:=λg o e=>by have:=Q4.o g o e;omega
   obtain⟨q2,d2,w6,o,O,K,_⟩:=vn J a2 c2 t.Z (P4.o.z B5.o) h0.2;have HR6:=dB o;have x3:yC J wr.1.size 3 (qA a2 (zA t.Z) c2):=X5.cell 3;have hn2:wr.1.size<J.1.size:=by omega
   have X6:=dB (X5.z K);have y3:yC w6 wr.1.size 3 (qA a2 (zA t.Z) c2):=X6.o.cell 3;have r:=X6.o.free 3;have hz6:=K.size;have B6:=dB (aC B5.o (K.mono (by omega)));have M6:=dB (M5.o.z K);have O6:=dB O;have HM:=dB hM;clear x2 y2 q l o O K X5 hM T5 X4 O4 Q4 P4 M5 HR4 B4 B5 H;go_upto_region 8 with(at_builtin;refine Lib.wpList_append_run _ rfl _ _ _ _ rfl _ _ rfl rfl _ _ HR6.o ?_)
   refine aGe (C:=λW=>Code.wp prog _ _ _ W) X6.o ?_;intro P l o;have H:=HZ.o;have O:=o.size;have B7:=dB (B6.o.trans (o.below (by omega) (λk hk e=>by omega)));have M7:=dB (M6.o.turned o (λg V e=>by omega));have S7:=dB (O6.o.turned o (λg V e=>by omega));obtain⟨av,cv,rfl⟩:=I.o.row;obtain⟨T,ys,l0,m0,O,hv4⟩:=I.o;have hyk:zA ys=j:=by have:=Kd List.length m0;simp at this;omega
   have V1:=dB (hC l0 B7.o);have V2:=dB m0;have V3:=dB O;have V4:=dB hv4;have hob:=dB (λg V=>l0.lt g V);have z0:yC P wr.1.size 0 (pA t.N):=l.cell 0;have z1:yC P wr.1.size 1 (aB t.L):=l.cell 1;have z2:yC P wr.1.size 2 (qA G (zA t.M) c):=l.cell 2;have z3:yC P wr.1.size 3 (qA q2 (zA t.Z) d2):=l.cell 3;have HYK:=dB hyk;clear x3 y3 r hn2 X6 l o M6 O6 HR6 B6 l0 m0 O hv4 hyk H;go_wp2_with(at_builtin;refine wpList_append_lies _ rfl _ _ _ rfl w2.1.size 131 i3 _ 4 72 underlying38 HI3.o hq0 hq1 hq2 rfl (by omega) (qA av j cv) j (iF ys) rfl (by exact V1.o.alloc _) (eB P.1.size 0) 1 1 [pA t.N,aB t.L,qA G (zA t.M) c,qA q2 (zA t.Z) d2] rfl rfl (by have:=fA.news_of_block (cs:=#[pA t.N,aB t.L,qA G (zA t.M) c,qA q2 (zA t.Z) d2]) (t:=131) (fr:=(0,0)) (heap_alloc_new P (xA #[pA t.N,aB t.L,qA G (zA t.M) c,qA q2 (zA t.Z) d2] 131));simpa using this) (by simp[jA.oneCell']) (by omega) (by simp[maxLen];omega) (by omega) (by simp;omega) (P.1.size+1) (by simp) ?_;intro l o w8 j0 G hat5 O);have H:=HZ.o;have O:=hob.o;have hgg:((jA.slice av j cv).ownBlock=cA l/\l<wr.1.size)\/P.1.size<=l:=by
    obtain h|h:=hat5;exact Ca ⟨h,(O _ h).2⟩;exact La (by omega)
   have h:∀g,g<P.1.size->(jA.slice av j cv).ownBlock≠cA g->w8.heap[g]?=P.heap[g]?:=λg V i0=>by
    rw[(fB.grown G).block g (by simp;omega) i0];exact bC.block g V
   refine⟨⟨j+1,(qA (vB l) (j+1) o),by omega,by go_num,rfl,?_,?_,?_⟩,by simp[RowKit.intOf];omega⟩
   .show iS _ _ _ _ _ _;rw[HE.o];exact iS.snoc (wr:=wr) (w4:=P) (M:=J.1.size) (v:=qA av j cv) (T:=T) (ys:=ys) (t:=t) j0 V2.o HYK.o V3.o V4.o (by omega) (by omega)
     (λg V _ i0=>(h g (by omega) i0).trans (B7.o.block g V))
     (λg V o=>h g o (λe=>by have:=(O _ e).2;omega))
     (M7.o.mono (by omega)) HM.o S7.o hgg (by omega) (by omega)
   .exact (F.o.trans (B7.o.mono (by omega))).trans ((bC.mono (by omega)).trans ((fB.grown G).below (by simp;omega) (λk hk e=>by have:=(O _ e).1;omega)))
   have:=G.size;simp at this;omega
  obtain rfl:j=zA N.ts:=by omega
  have X:=I.o;rw[Rb]at X;obtain⟨b',R,rfl⟩:=X.row;have J:=dB ((X.own rfl).toA (Ia _));have O:=dB (F2.o.z F.o);have G:=dB (aC B2.o F.o);obtain⟨o0,o1,o2,o3,o4,o5,o6,o7,o8,o9,Y,Z,a0,b0⟩:=(d.o.z F.o).n14;obtain⟨s,u,q,r,y,z,A,B,D,E,f,m,n,p⟩:=(d.o.z F.o).frees;obtain⟨Y,Z,r2,r3,r4,r5,r6,r7,r8,r9,d,h,m,o⟩:=(R2.o.z F.o).n14;obtain⟨g0,g1,g2,g3,g4,l,l,l,l,l,l,l,l,l⟩:=(R2.o.z F.o).frees;clear I X;go_wp2;refine bodyPost_ret (v:=uA #[qA a' (zA N.d.fs) Q,aB N.d.c,aB N.d.k,aB N.d.cr,aB N.d.fl,sA N.d.dn,aB N.l.first,aB N.l.last,aB N.l.size,aB N.now,qA b' (zA N.ts) R,aB N.lsn,sA N.deg,sA N.up]) (by simp[results,results43,go_sem,Y,Z,r2,r3,r4,r5,r6,r7,r8,r9,d,h,m,o]) rfl ?_;refine fB.end2 (S:=λx=>x=w.1.size\/x=w.1.size+1) (C:=λW=>∃a1 c1 d c,Ending.returned (uA #[qA a' (zA N.d.fs) Q,aB N.d.c,aB N.d.k,aB N.d.cr,aB N.d.fl,sA N.d.dn,aB N.l.first,aB N.l.last,aB N.l.size,aB N.now,qA b' (zA N.ts) R,aB N.lsn,sA N.deg,sA N.up])=Ending.returned (uA #[qA a1 (zA N.d.fs) c1,aB N.d.c,aB N.d.k,aB N.d.cr,aB N.d.fl,sA N.d.dn,aB N.l.first,aB N.l.last,aB N.l.size,aB N.now,qA d (zA N.ts) c,aB N.lsn,sA N.deg,sA N.up])/\mJ W (λx=>w.1.size<=x) a1 N.d.fs/\tQ W (λx=>w.1.size<=x) d N.ts/\xB w W) wr (by
   repeat (with_reducible first|exact fB.refl _ _|refine fB.setCell ?_ (Ca (by first|exact Ca rfl|exact La rfl)) _ _)) ?_
  intro w6 c;exact⟨_,_,_,_,rfl,(O.o.turned c (λx hx _ e=>by omega)).mono (λx hx=>by omega),(J.o.turned c (λx hx _ e=>by omega)).mono (λx hx=>by omega),G.o.trans (c.below (by have:=G.o.size;omega) (λk hk e=>by omega))⟩
def FC(a b G:nC)(ca cb z:Nat)(N:sC)(K:xD)(L:jG)(w:fA)(d:uB w a N.d.fs)(o:zA N.d.fs<=1048576)(h:aD w b N.ts)(c:zA N.ts<=2000000)(B:∀t∈N.ts,zA t.M<=2000000/\zA t.Z<=2000000)(J:N.up=eA):
 iA prog 110 #[uA (gC a ca b cb N),uA #[qA G (zA K.fs) z,aB K.c,aB K.k,aB K.cr,aB K.fl,sA K.dn],uA #[aB L.first,aB L.last,aB L.size]] w λe w'=>∃H E,e=vA (uA #[qA G (zA K.fs) z,aB K.c,aB K.k,aB K.cr,aB K.fl,sA K.dn,aB L.first,aB L.last,aB L.size,aB N.now,qA H (zA N.ts) E,aB N.lsn,sA eA,sA (!K.dn)])/\tQ w' (λx=>w.1.size<=x) H N.ts/\xB w w':=by
 unfold gC;have T:=dB (λW(m:xB w W)=>vN a b ca cb N W (d.z m) o (h.z m) c B);unfold gC at T;have U:=dB J;clear d h B J;go_enter func110,ntmps110;go_wp2_with fail;refine(T.o _ (aC (aC (aC bC bC) bC) bC)).mono ?_;rintro e w1 ⟨a1,c1,b1,d1,rfl,_,I,y⟩;have P:=dB (((((jB.new w _ _).alloc _).alloc _).alloc _).z y);have Z:=dB ((((jB.new (w.alloc _) _ _).alloc _).alloc _).z y);have c:=dB (((jB.new ((w.alloc _).alloc _) _ _).alloc _).z y);have X:=dB ((jB.new (((w.alloc _).alloc _).alloc _) _ _).z y);have R:=dB (aC (aC (aC (aC bC bC) bC) bC) y);have d:=y.size;simp only[fA.size_alloc]at Z c X d;have T1:=dB I;obtain⟨o0,o1,o2,o3,o4,o5,o6,o7,o8,o9,d,J,o12,O⟩:=P.o.n14;obtain⟨j,l,m,n,o,p,q,r,s,u,f,g,h,i⟩:=P.o.frees;clear y I T;go_upto_region 2 with fail;refine ux (C:=λW=>Code.wp prog _ _ _ W) P.o ?_;intro A V F;have D:=F.blk Z.o (by omega);have Q:=F.blk c.o (by omega);have Y:=F.blk X.o (by omega);have I:=dB (R.o.trans (F.below R.o.size (λk hk e=>by omega)));have T3:=dB (T1.o.turned F (λx M _ e=>by simp only[fA.size_alloc]at M;omega));obtain⟨o0,o1,o2,o3,o4,o5,o6,o7,o8,o9,d,J,o12,O⟩:=V.n14;obtain⟨j,l,m,n,o,p,q,r,s,u,f,g,h,i⟩:=V.frees;obtain⟨J,r1,r2,r3,r4,r5,r6,r7,r8,r9,d,h,m,o⟩:=Y.n14;obtain⟨g0,g1,g2,g3,g4,g5,g6,g7,g8,g9,g10,g11,g12,g13⟩:=Y.frees;have x0:yC A (w.1.size+1) 0 (qA G (zA K.fs) z):=D.cell 0;have x1:yC A (w.1.size+1) 1 (aB K.c):=D.cell 1;have x2:yC A (w.1.size+1) 2 (aB K.k):=D.cell 2;have x3:yC A (w.1.size+1) 3 (aB K.cr):=D.cell 3;have x4:yC A (w.1.size+1) 4 (aB K.fl):=D.cell 4;have x5:yC A (w.1.size+1) 5 (sA K.dn):=D.cell 5;have y0:yC A (w.1.size+1+1) 0 (aB L.first):=Q.cell 0;have y1:yC A (w.1.size+1+1) 1 (aB L.last):=Q.cell 1;have y2:yC A (w.1.size+1+1) 2 (aB L.size):=Q.cell 2;rw[U.o]at O;clear V D Q Y F P Z c X R T1;cases hdn:K.dn
 all_goals(
  rw[hdn]at x5
  go_wp2
  refine bodyPost_ret (v:=uA #[qA G (zA K.fs) z,aB K.c,aB K.k,aB K.cr,aB K.fl,sA _,aB L.first,aB L.last,aB L.size,aB N.now,qA b1 (zA N.ts) d1,aB N.lsn,sA eA,sA _]) (by simp[results,results110,go_sem,J,r1,r2,r3,r4,r5,r6,r7,r8,r9,d,h,m,o];exact⟨rfl,rfl⟩) rfl ?_;refine fB.end2 (S:=λx=>x=w.1.size\/x=w.1.size+1+1+1) (C:=λW=>∃H E,_=Ending.returned (uA #[qA G (zA K.fs) z,aB K.c,aB K.k,aB K.cr,aB K.fl,_,aB L.first,aB L.last,aB L.size,aB N.now,qA H (zA N.ts) E,aB N.lsn,sA eA,_])/\tQ W (λx=>w.1.size<=x) H N.ts/\xB w W) A (by
   repeat (with_reducible first|exact fB.refl _ _|refine fB.setCell ?_ (Ca (by first|exact Ca rfl|exact La rfl)) _ _)) ?_
  intro w6 c;exact⟨_,_,by rw[hdn];rfl,(T3.o.turned c (λx M _ e=>by simp only[fA.size_alloc]at M;omega)).mono (λx M=>by simp only[fA.size_alloc]at M;omega),I.o.trans (c.below I.o.size (λk hk e=>by omega))⟩)
def aJt(a:List gB):Prop:=∀i(h:i<zA a),a[i].N.size<=1000000000/\zA a[i].M<=2000000/\zA a[i].Z<=2000000/\(∀j(b:j<zA a[i].M),a[i].M[j].s.size<=1000000000)/\(∀j(b:j<zA a[i].Z),a[i].Z[j].s.size<=1000000000)
def AR(a:List gB)(k:Nat):(wF (a.take k)).size<=(wF a).size:=by
 have:=uR (a.take k) (a.drop k);rw[Za]at this;rw[this,Ka];omega
def cf:∀(a:List gB),vF (a.map mU)=wF a
 |[]=>rfl
 |t::q=>by rw[Fc,vF,cf q,wF]
def OV(v m:Int)(w:fA):rI 59 #[aB v,aB m] w (sA (decide (0<=v/\v<=m))):=by
 by_cases a:0<=v
 .have e:decide (0<=v/\v<=m)=decide (v<=m):=by simp[a]
  rw[e];go_enter func59,ntmps59;go_wp2;go_ret;exact⟨rfl,rfl⟩
 have e:decide (0<=v/\v<=m)=dA:=by simp[a]
 rw[e];go_enter func59,ntmps59;go_wp2;go_ret;exact⟨rfl,rfl⟩
def eh(d f:Int)(a:nC)(y:Nat)(c:List gB)(w:fA)(G:aD w a c)(J:aJt c)(e:zA c<=2000000)(e:(wF c).size<=100000000):
 cF 188 #[aB d,uA #[aB f,qA a (zA c) y]] w (pA (yN d f c)):=by
 have F:cB (∀W,rI 59 #[aB d,aB 1000000000000000] W (sA (decide (0<=d/\d<=1000000000000000)))):=λW=>OV _ _ W;by_cases P:¬(0<=d/\d<=1000000000000000)
 .have E:cB (yN d f c=lA):=MO λh=>P ⟨h.1,h.2.1⟩;rw[E.o];rw[show decide (0<=d/\d<=1000000000000000)=dA from Ub P]at F;clear G J P;go_enter func188,ntmps188;go_wp2_with fail;apply kO (F.o _);go_wp2;go_ret;exact⟨rfl,bC⟩
 replace P:=Classical.not_not.1 P;rw[Ac P]at F;have HF:cB (aD w a c):=G;have HB:cB (aJt c):=J;have I:cB _:=λW=>wO d W;have Y:cB _:=λW=>wO f W;have Z:cB (∀W,cF 161 #[aB (zA c:Nat)] W (pA (tB 4 (zA c:Nat)))):=λW=>vQ _ W;have e:=nB 8 d;have e:=nB 8 f;have e:=nB 4 (zA c:Nat);have e:(iN d f c).size=24+(wF c).size:=by unfold iN;rw[Ka,GC]
 have HX:cB (iN d f c=ckB++tB 8 d++tB 8 f++tB 4 (zA c:Nat)++wF c):=rfl;have HOK:cB ((∀i(h:i<zA c),xK c[i])->yN d f c=iN d f c++tB 4 (pL (iN d f c):Nat)):=λh=>MP ⟨P.1,P.2,h⟩;have HNO:cB _:=λk(h:k<zA c)(e:¬xK c[k])=>tk h e d f;have HCR:cB (∀W,cF 235 #[pA (iN d f c)] W (aB (pL (iN d f c):Nat))):=λW=>KE _ W (by unfold maxLen;omega);have HU4:cB (∀W,cF 161 #[aB (pL (iN d f c):Nat)] W (pA (tB 4 (pL (iN d f c):Nat)))):=λW=>vQ _ W;have e:=nB 4 (pL (iN d f c):Nat);generalize tB 4 (pL (iN d f c):Nat)=e at *;generalize pL (iN d f c)=e at *;generalize iN d f c=SX at *;generalize yN d f c=e at *;generalize tB 8 d=N1 at *;generalize tB 8 f=N2 at *;generalize tB 4 (zA c:Nat)=N3 at *;obtain⟨e,L⟩:∃C:pB,C=ckB:=⟨_,rfl⟩
 have m:e.size=4:=by rw[L];rfl
 have HCK:cB _:=L;rw[<-L]at HX;clear L;obtain⟨ti,m,ht0,ht1,ht2⟩:=xZ;have HI:cB _:=m;clear G J m;go_enter func188,ntmps188;go_wp2_with fail;apply kO (F.o _);clear F;go_upto_region 3 with fail;have X6:cB (jB (w.alloc (xA #[aB f,qA a (zA c) y] 40)) w.1.size #[aB f,qA a (zA c) y] 40):=jB.new _ _ _;have B0:cB (xB w (w.alloc (xA #[aB f,qA a (zA c) y] 40))):=bC;generalize w.alloc (xA #[aB f,qA a (zA c) y] 40)=B at *;have m:cB (∀r,xB B r->yC r w.1.size 0 (aB f)/\yC r w.1.size 1 (qA a (zA c) y)):=λr h=>by
  have q:=X6.o.z h;exact⟨q.cell 0,q.cell 1⟩
 obtain⟨x0,x1⟩:=m.o B gD;go_cut [5] (λs G=>∃g,s=qA (vB g) 4 4/\B.1.size<=g/\G.heap[g]?=cA (xA #[pA e,pA N1,pA N2,pA N3] 9 (0,0))/\xB B G)
 case first=>
  go_region_held3 (λr=>r.cell? (eB w.1.size 0)=cA (aB f)/\r.cell? (eB w.1.size 1)=cA (qA a (zA c) y))
   (first|go_keep|exact m.o _ k4|exact m.o _ k3|exact m.o _ G)
   (first
    |(go_at_call 159;(fail_if_success (have q:=G));apply jC (I.o _);intro w2 J;have G:xB B w2:=(by exact aC gD.drew J))
    |(go_at_call 159;have q:=G;clear q;apply jC (Y.o _);intro w3 K;have k3:xB B w3:=(by exact aC G K))
    |(go_at_call 161;apply jC (Z.o _);intro O n;have k4:xB B O:=(by exact aC k3 n)))
  all_goals(go_wp2_with fail;go_meet)
  all_goals exact⟨_,rfl,k4.size,by rw[HCK.o];exact heap_alloc_new _ _,aC k4 bC⟩
 obtain⟨g0,rfl,hg0,G,V⟩:=hcut;rename fA=>w5;have B5:cB _:=aC B0.o V;have HBL:cB (w5.heap[g0]?=cA (xA #[pA e,pA N1,pA N2,pA N3] 9 (0,0))/\w.1.size<=g0):=⟨G,Ua B0.o.size hg0⟩
 have HK5:cB _:=(m.o w5 V).2;have y1:=HK5.o;clear x0 x1 m X6 G hg0 V B0 I Y Z HK5;go_wp2;go_loopw [5,26] (λG i wr=>∃(k:Nat)(m:List pB)(g T:Nat),k<=zA c/\i=aB k/\G=qA (vB g) (zA m) T/\zA m<=4+k/\iG m<=24+(wF (c.take k)).size/\cB (m=[e,N1,N2,N3]++(c.take k).map mU)/\cB (∀j(h:j<zA c),j<k->xK c[j])/\cB (wr.ownsRow w.1.size 9 1 (qA (vB g) (zA m) T) (zA m) (m.map jA.string))/\xB w wr) (λ_ i _=>zA c-(intOf i).toNat)
 case atStart=>
  exact⟨0,[e,N1,N2,N3],_,_,Oa _,rfl,rfl,by simp,by simp[iG,wF];omega,by show _=_;simp,λj _ h=>absurd h (by omega),⟨rfl,La ⟨g0,4,_,rfl,HBL.o.2,HBL.o.1,Ia _,by simp[maxLen],rfl,rfl⟩⟩,B5.o⟩
 case round=>
  obtain⟨k,m,g,T,G,rfl,rfl,G,G,G,t,u,p⟩:=hrel;by_cases H:k<zA c
  .obtain ⟨b,o,a1,c1',a2,c2',rfl,hb,d0,d1,d2,d3,p1,p2⟩:=(HF.o.z p).at H;obtain⟨q1,q2,q3,q4,q5⟩:=HB.o k H;have z:cB _:=λW(I:xB wr W)=>en c[k] a1 a2 c1' c2' W (p1.z I) (p2.z I) q1 q2 q3 q4 q5;have Z:=AR c (k+1);have a0:=OC c k H;have W:=UM c[k];have Y:(wF (c.take (k+1))).size=(wF (c.take k)).size+(mU c[k]).size:=by rw[a0,Ka]
   have I:=p.size;by_cases A:xK c[k]
   .rw[tv A]at z;have HA2:cB (∀j(h:j<zA c),j<k+1->xK c[j]):=λj h I=>by
     rcases Gc j k with I|I;exact t.o j h I;obtain rfl:j=k:=by omega
     exact A
    have E2:cB (m++[mU c[k]]=[e,N1,N2,N3]++(c.take (k+1)).map mU):=by
     show _=_;rw[G.o,Pa H,Ld,Nd];rfl
    have X:(mU c[k]).toList.isEmpty=dA:=by
     rw[ByteArray.toList_eq];cases h:(mU c[k]).data.toList with
     |nil=>have e:(mU c[k]).size=0:=by rw[ByteArray.size,<-Qg,h];rfl
           omega
     |cons x l=>rfl
    have R:((mU c[k]).toList==[])=dA:=by simpa using X
    have HSS:cB ((wF (c.take (k+1))).size=(wF (c.take k)).size+(mU c[k]).size/\(wF (c.take (k+1))).size<=(wF c).size):=⟨Y,Z⟩
    clear A t a0 W Y Z q1 q2 q3 q4 q5 p1 p2;generalize mU c[k]=S at *;generalize c[k].N=nm at *;generalize c[k].L=li at *;generalize zA c[k].M=m1 at *;generalize zA c[k].Z=m2 at *;go_wp2_with fail;apply jC (z.o _ bC);intro O n;have e:w.1.size<=O.1.size:=by have:=n.size;simp at this;omega
    have v:cB (O.ownsRow w.1.size 9 1 (qA (vB g) (zA m) T) (zA m) (m.map jA.string)/\xB w O):=⟨hC (hC u.o bC) n,aC (aC p bC) n⟩
    clear n u p z d0 d1 d2 d3;go_wp2_with(at_builtin;refine wpList_append_lies _ rfl _ _ _ rfl w.1.size 9 ti _ 1 16 underlying30 HI.o ht0 ht1 ht2 rfl (by omega) (qA (vB g) (zA m) T) (zA m) (m.map jA.string) rfl (by exact hC v.o.1 bC) (eB O.1.size 0) 1 1 [pA S] rfl rfl (by exact fA.news_of_block (heap_alloc_new _ _)) (by simp[jA.oneCell']) (by omega) (by simp[maxLen];omega) (by omega) (by simp;omega) (O.1.size+1) (by simp) ?_;intro g5 e w5 I M hat5 hlt5);have hgw:=uH v.o.1 g rfl;have hB5:=(aC v.o.2 bC).grown M (by simp;omega) (λq hq=>by simp[jA.ownBlock]at hq;omega);have hxs:m.map jA.string++[jA.string S]=(m++[S]).map jA.string:=by simp
    have N:zA (m++[S])=zA m+1:=by simp
    have hsm:iG (m++[S])=iG m+S.size:=by rw[wH];simp[iG]
    rw[hxs,<-N]at I;exact⟨⟨k+1,m++[S],g5,e,by omega,by go_num,by rw[N],by rw[N];omega,by have:=HSS.o;omega,E2.o,HA2.o,I,hB5⟩,by simp[intOf];omega⟩
   .rw[MS A]at z;have E:cB _:=HNO.o k H A;have D:cB _:=z;have X:ByteArray.empty.toList.isEmpty=eA:=by rw[ByteArray.toList_eq];rfl
    have R:(ByteArray.empty.toList==[])=eA:=by rw[ByteArray.toList_eq];rfl
    clear A t a0 W Y Z q1 q2 q3 q4 q5 p1 p2 u z;obtain⟨e,U⟩:∃E:pB,E=lA:=⟨_,rfl⟩
    rw[<-U]at D X R E;have e:cB _:=U;clear U;generalize c[k].N=nm at *;generalize c[k].L=li at *;generalize zA c[k].M=m1 at *;generalize zA c[k].Z=m2 at *;go_wp2_with fail;apply jC (D.o _ bC);intro O n;have I:cB _:=aC (aC p bC) n;clear n d0 d1 d2 d3 D;go_wp2;go_ret;exact⟨by rw[E.o,e.o];rfl,I.o⟩
  have E2:cB (vF m=SX):=by
   show _=_;rw[G.o,Ra (by omega),oG,cf,HX.o];simp[vF,Wa]
  have Q:=λj h=>t.o j h (by omega);have I:cB _:=HOK.o Q;have N:=AR c k;obtain⟨h,W,e⟩:=fH u.o;have G:cB (cF 154 #[qA (vB g) (zA m) T] wr (pA (vF m))):=nI g (zA m) T m wr rfl e W h (by omega) (by omega);rw[E2.o]at G;clear u e Q t;go_wp2_with fail;apply jC G.o;intro w2 J;have e:cB _:=aC p J;clear J;go_wp2_with fail;apply jC (HCR.o _);intro w3 K;have h:cB _:=aC e.o K;clear K;go_wp2_with fail;apply jC (HU4.o _);intro O n;have e:cB _:=aC h.o n;clear n;go_wp2;go_ret;exact⟨by rw[I.o];rfl,e.o⟩
def aKi{a:List gB}(h:aFu a)(k:pB):aAl (rB a k).Z/\zA (rB a k).M<=1000000000/\zA (rB a k).Z<=1000000000:=by
 unfold rB;cases hg:xC (·.N) k a with
 |none=>exact⟨λi h=>absurd h (by simp),by simp,by simp⟩
 |some t=>
  obtain⟨i,b,e⟩:=Ib (jM hg).1;have:=h i b;rw[e]at this;exact⟨this.2.2.1,this.2.2.2.1,this.2.2.2.2⟩
def LR(c:lC)(f:Int)(a:nC)(j:Nat)(g:List gB)(b met:pB)(w:fA)(Y:aD w a g)(o:aFu g)(y:zA g<=1000000000)(h:b.size<=1048576)(h:met.size<=1048576):
 cF 55 #[uE c,uA #[aB f,qA a (zA g) j],pA b,pA met] w (yA #[aB (pG c f g b met).1,aB (pG c f g b met).2]):=by
 have h:cB (∀W,xB w W->cF 44 #[uE c,uA #[aB f,qA a (zA g) j]] W (sA (iC c f g))):=λW U=>tH c f a j g W (Y.z U) o y;have F:cB (∀W,rI 47 #[pA b] W (sA (uC b))):=λW=>rG b W (by unfold maxLen;omega);have M:cB (∀W,cF 104 #[pA met] W (sA (aF met))):=λW=>qM met W (by omega);have B:cB (∀W,xB w W->iA prog 56 #[uA #[aB f,qA a (zA g) j],pA b] W λe d=>aFw d e (rB g b)/\xB W d):=λW U=>tW f a j g b W (Y.z U) y;obtain⟨G,I,O⟩:=aKi o b;have HC:cB (∀W v x C D,mC W v (rB g b).M->mC W x (rB g b).Z->cF 114 #[uE c,uA #[pA (rB g b).N,aB (rB g b).L,.slice v (zA (rB g b).M) C,.slice x (zA (rB g b).Z) D],pA met] W (yA #[aB (pE c (rB g b) met).1,aB (pE c (rB g b) met).2])):=λW v x C D J K=>KJ c _ v x C D met W J K G I O;have m:cB (pG c f g b met=if (iC c f g&&uC b&&(met.toList.isEmpty||aF met))=eA then pE c (rB g b) met else(-1,-1)):=rfl;clear Y o G I O;unfold aFw at B;unfold uE at *;generalize uC b=o at *;generalize aF met=W at *;generalize iC c f g=G at *;generalize rB g b=t at *;generalize pG c f g b met=n at *;generalize pE c t met=Y at *;go_enter func55,ntmps55;go_wp2_with fail;apply jC (h.o _ (aC bC bC));intro r s;have z:cB (xB w r):=aC (aC bC bC) s;have Q:cB (jB r w.1.size #[aB c.w,aB c.tl,aB c.ml,aB c.sh,aB c.ha,aB c.sg] 24):=dB (((jB.new _ _ _).alloc _).z s);have R:cB (jB r (w.1.size+1) #[aB f,qA a (zA g) j] 40):=dB (by have:=(jB.new (w.alloc (xA #[aB c.w,aB c.tl,aB c.ml,aB c.sh,aB c.ha,aB c.sg] 24)) #[aB f,qA a (zA g) j] 40).z s;simpa using this);clear s h;by_cases N:G=dA
 .have i:cB (n=(-1,-1)):=by show _=_;rw[m.o,N];rfl
  subst N;clear m;go_wp2;go_ret2;exact⟨eL (by rw[i.o]) (by rw[i.o]),z.o⟩
 have S:G=eA:=by simpa using N
 subst S;clear N;by_cases O:o=dA
 .have i:cB (n=(-1,-1)):=by show _=_;rw[m.o,O];simp
  subst O;clear m;go_wp2_with fail;apply kO (F.o _);go_wp2;go_ret2;exact⟨eL (by rw[i.o]) (by rw[i.o]),z.o⟩
 have T:o=eA:=by simpa using O
 subst T;clear O;by_cases V:met.toList.isEmpty=eA
 .have i:cB (n=Y):=by show _=_;rw[m.o,V];rfl
  clear m;go_wp2_with fail;apply kO (F.o _);clear F M;have A:cB (∀d,xB r d->yC d w.1.size 0 (aB c.w)/\yC d w.1.size 1 (aB c.tl)/\yC d w.1.size 2 (aB c.ml)/\yC d w.1.size 3 (aB c.sh)/\yC d w.1.size 4 (aB c.ha)/\yC d w.1.size 5 (aB c.sg)/\yC d (w.1.size+1) 0 (aB f)/\yC d (w.1.size+1) 1 (qA a (zA g) j)):=λd h=>by
   have q:=Q.o.z h;have p:=R.o.z h;exact⟨q.cell 0,q.cell 1,q.cell 2,q.cell 3,q.cell 4,q.cell 5,p.cell 0,p.cell 1⟩
  obtain⟨x0,x1,x2,o,O,x5,y0,y1⟩:=A.o r gD;go_upto_region 3 with fail;go_region_held3 (λd=>d.cell? (eB w.1.size 0)=cA (aB c.w)/\d.cell? (eB w.1.size 1)=cA (aB c.tl)/\d.cell? (eB w.1.size 2)=cA (aB c.ml)/\d.cell? (eB w.1.size 3)=cA (aB c.sh)/\d.cell? (eB w.1.size 4)=cA (aB c.ha)/\d.cell? (eB w.1.size 5)=cA (aB c.sg)/\d.cell? (eB (w.1.size+1) 0)=cA (aB f)/\d.cell? (eB (w.1.size+1) 1)=cA (qA a (zA g) j))
   (first|go_keep|exact A.o _ I|exact A.o _ H)
   (first
    |(go_at_call 56;refine(B.o _ (z.o.drew)).mono ?_;rintro e L ⟨⟨v,C,x,D,rfl,J,K⟩,k⟩;have H:xB r L:=(by exact aC gD.drew k))
    |(go_at_call 114;apply jC (HC.o _ v x C D J K);intro Z E;have I:xB r Z:=(by exact aC H E)))
  all_goals(go_wp2;go_ret2)
  all_goals exact⟨eL (by rw[i.o]) (by rw[i.o]),aC z.o I⟩
 have X:met.toList.isEmpty=dA:=by simpa using V
 clear V;rw[X]at m;by_cases P:W=dA
 .have i:cB (n=(-1,-1)):=by show _=_;rw[m.o,P];simp
  subst P;clear m;go_wp2_with fail;apply kO (F.o _);go_wp2_with fail;apply jC (M.o _);intro L k;have G:cB (xB w L):=aC z.o k;clear k;go_wp2;go_ret2;exact⟨eL (by rw[i.o]) (by rw[i.o]),G.o⟩
 have G:W=eA:=by simpa using P
 have i:cB (n=Y):=by show _=_;rw[m.o,G];rfl
 subst G;clear m P;go_wp2_with fail;apply kO (F.o _);go_wp2_with fail;apply jC (M.o _);intro l u;have m:cB (xB w l):=aC z.o u;have A:cB (∀d,xB l d->yC d w.1.size 0 (aB c.w)/\yC d w.1.size 1 (aB c.tl)/\yC d w.1.size 2 (aB c.ml)/\yC d w.1.size 3 (aB c.sh)/\yC d w.1.size 4 (aB c.ha)/\yC d w.1.size 5 (aB c.sg)/\yC d (w.1.size+1) 0 (aB f)/\yC d (w.1.size+1) 1 (qA a (zA g) j)):=λd h=>by
  have q:=(Q.o.z u).z h;have p:=(R.o.z u).z h;exact⟨q.cell 0,q.cell 1,q.cell 2,q.cell 3,q.cell 4,q.cell 5,p.cell 0,p.cell 1⟩
 clear F M Q R z u;obtain⟨x0,x1,x2,o,O,x5,y0,y1⟩:=A.o l gD;go_upto_region 3 with fail;go_region_held3 (λd=>d.cell? (eB w.1.size 0)=cA (aB c.w)/\d.cell? (eB w.1.size 1)=cA (aB c.tl)/\d.cell? (eB w.1.size 2)=cA (aB c.ml)/\d.cell? (eB w.1.size 3)=cA (aB c.sh)/\d.cell? (eB w.1.size 4)=cA (aB c.ha)/\d.cell? (eB w.1.size 5)=cA (aB c.sg)/\d.cell? (eB (w.1.size+1) 0)=cA (aB f)/\d.cell? (eB (w.1.size+1) 1)=cA (qA a (zA g) j))
  (first|go_keep|exact A.o _ I|exact A.o _ H)
  (first
   |(go_at_call 56;refine(B.o _ (m.o.drew)).mono ?_;rintro e L ⟨⟨v,C,x,D,rfl,J,K⟩,k⟩;have H:xB l L:=(by exact aC gD.drew k))
   |(go_at_call 114;apply jC (HC.o _ v x C D J K);intro Z E;have I:xB l Z:=(by exact aC H E)))
 all_goals(go_wp2;go_ret2)
 all_goals exact⟨eL (by rw[i.o]) (by rw[i.o]),aC m.o I⟩
section
open Go.Maps
def aEh{H:Type}{P:Program}{w:fA}{k:kA}{R:jA->Option (DataW H×List MemPlace)}{b n:Nat}{D:DataW H}(h:w.ownsMap P k R b n D):Maps.size D<=n:=by
 obtain⟨d,a,e,F,c,rfl⟩:=h;rw[size_eq,length_sorted,Xa,Qg];exact c
def sr{H:Type}{P:Program}{w:fA}{k:kA}{R:jA->Option (DataW H×List MemPlace)}{b n l:Nat}{D e:DataW H}(h:w.ownsMap P k R b n D)(g:w.ownsMap P k R b l e):D=e:=by
 obtain⟨o,d,i,F,p,rfl⟩:=h;obtain⟨f,c,a,m,j,rfl⟩:=g;rw[i]at a;simp only[Qa,Obj.map.injEq]at a;rw[a.1]
def aEg{w:fA}{b n M:Nat}{D:DataW Unit}{m:pB}{c d:Int}(h:w.ownsMap prog 9 (plainElem prog 3) b n (D.put (kL m) (aJ d)))(g:Tidy D)(f:Maps.size D<=M)(a:D.atKey (kL m) (aJ 0)=aJ c)(i:c≠0):w.ownsMap prog 9 (plainElem prog 3) b M (D.put (kL m) (aJ d)):=by
 have j:has D (kL m)=eA:=by
  cases e:has D (kL m) with
  |true=>rfl
  |false=>
   rw[atKey_of_not_has e]at a;simp[aJ]at a;exact absurd a.symm i
 have:=RP h;rw[Maps.size_put g,j,Ma rfl]at this;exact this.mono f
structure MY(w w1:World)(x:Nat)(lim:Int)(lm sm cm:Nat)(iv iv':Value)(hs:List qI):Prop where
 blk:jB w1 x #[aB lim,.map (cA lm),.map (cA sm),.map (cA cm),iv'] 222
 row:w1.ownsRow 0 331 2 iv' (zA hs-1) (pK (eP hs))
 same:iv'.ownBlock=iv.ownBlock
 turn:fB (λk=>k=x∨iv.ownBlock=cA k) w w1
def sR.top{w:fA}{S:Nat->Prop}{x:Nat}{t:gB}{M i j d:Nat}{g:jA}{Q:List (kB×Nat)}{a:List qI}{D:DataW Unit}(h:sR w S x t M i j d g Q a D)(c:0<zA a):∃q∈Q,q.2=(oD a 0).b:=by
 have:(oD a 0).b∈Q.map (·.2):=h.perm.mem_iff.1 (Md.2 ⟨oD a 0,by rw[EU c];exact Gb c,rfl⟩);obtain⟨q,f,e⟩:=Md.1 this;exact⟨q,f,e⟩
def ze{a:List qI}{Q:List (kB×Nat)}{q:kB×Nat}(h:uJ a)(d:0<zA a)(i:(a.map (·.b)).Perm (Q.map (·.2)))(c:tC (λq:kB×Nat=>q.1.s) Q)(j:q∈Q)(g:q.2=(oD a 0).b):
 ((eP a).map (·.b)).Perm ((sE (λq:kB×Nat=>q.1.s) q.1.s Q).map (·.2)):=by
 obtain⟨_,k,_⟩:=yP h d;have e:(q.2::(eP a).map (·.b)).Perm (Q.map (·.2)):=by
  rw[g];exact(k.map (·.b)).trans i
 have f:(q.2::(sE (λq:kB×Nat=>q.1.s) q.1.s Q).map (·.2)).Perm (Q.map (·.2)):=(NV c j).map (λq:kB×Nat=>q.2);exact(List.perm_cons _).1 (e.trans f.symm)
def sR.dropped {w V v:fA} {S:Nat->Prop} {x:Nat} {t:gB} {M J u r n:Nat} {I A:jA} {Q:List (kB×Nat)} {z:List qI} {D:DataW Unit} {q:kB×Nat} {c:Nat} (h:sR w S x t M J u r I Q z D) (T:0<zA z) (U:q∈Q) (Z:q.2=(oD z 0).b)
 (j:MY w V x t.L J u r I A z) (a:fB (λk=>k=u\/k=r) V v) (B:v.ownsMap prog 9 tE u n (DataW.del (jE (Q.map λq=>(q.1.s,kF q.2))) (kL q.1.s)))
 (C:v.ownsMap prog 9 (plainElem prog 3) r M (D.put (kL (dE q.1.s)) (aJ c))) (b:tI dE t.Z (dE q.1.s)=c+1):
 sR v S x ⟨t.N,t.L,t.M,sE (·.s) q.1.s t.Z⟩ M J u r A (sE (λq:kB×Nat=>q.1.s) q.1.s Q) (eP z) (D.put (kL (dE q.1.s)) (aJ c))/\fB S w v:=by
 have P:=cD h.Z h.blk;have R:=cD h.cnts h.blk;have O:=cD h.lims h.blk;have K:=bH h.lims h.row;have L:=bH h.Z h.row;have N:=bH h.cnts h.row;have G:tC (λq:kB×Nat=>q.1.s) Q:=by
  rw[<-xW (key':=λp:kB=>p.s) (λq:kB×Nat=>q.1) (λ_=>rfl),h.q1];exact h.rs
 obtain⟨b,J,p3⟩:=yP h.heap T;have F:q.1∈t.Z:=by rw[<-h.q1];exact List.mem_map_of_mem U
 have f:∀p∈sE (λq:kB×Nat=>q.1.s) q.1.s Q,p∈Q:=λp j=>(vP.1 j).1
 have y:DataW.del (jE (Q.map λq=>(q.1.s,kF q.2))) (kL q.1.s)=jE ((sE (λq:kB×Nat=>q.1.s) q.1.s Q).map λq=>(q.1.s,kF q.2)):=
  XS (key:=λq:kB×Nat=>q.1.s) (λq=>kF q.2) q.1.s Q
 have o:∀g,¬(g=x\/I.ownBlock=cA g)->¬(g=u\/g=r)->g<w.1.size->v.heap[g]?=w.heap[g]?:=λg X Y l=>by
  rw[a.block g (by have:=j.turn.size;omega) Y,j.turn.block g l X]
 refine⟨?_,?_⟩
 ·exact {
   blk:=a.blk j.blk (λe=>by obtain e|e:=e;exact P e.symm;exact R e.symm)
   lims:=a.map (j.turn.map h.lims (λe=>by obtain e|e:=e;exact O e;exact K e)) (λe=>by obtain e|e:=e;exact h.d1 e;exact h.d2 e)
   Z:=by
    have:=RP B;rw[y,vM]at this;exact this
   cnts:=C
   cnt:=λm=>by
    have E:=cl (met:=dE) h.rs F m
    by_cases e:dE q.1.s=m
    ·rw[if_pos e]at E
     rw[<-e,atKey_put_same (k:=kL (dE q.1.s)) h.cnts.isMap trivial];rw[<-e]at E;have:tI dE (sE (·.s) q.1.s t.Z) (dE q.1.s)=c:=by omega
     rw[this]
    ·rw[if_neg e]at E
     rw[atKey_put_other (λW=>e (aDc W).symm),h.cnt m,E];rfl
   q1:=by rw[sZ (key':=λp:kB=>p.s) (λq:kB×Nat=>q.1) (λ_=>rfl),h.q1]
   cells:=λp d=>by
    have i:=f p d;refine(o p.2 (λe=>?_) (λe=>?_) (bB (h.cells p i))).trans (h.cells p i)
    ·obtain e|e:=e
     ·exact h.dx p i e
     ·exact(h.di _ e).2 p i rfl
    ·obtain e|e:=e
     ·exact cD h.Z (h.cells p i) e.symm
     ·exact cD h.cnts (h.cells p i) e.symm
   row:=by
    rw[p3];exact a.row j.row (λg l e=>by
     rw[j.same]at l;obtain rfl|rfl:=e
     ·exact L l
     ·exact N l)
   heap:=b
   perm:=ze h.heap T h.perm G U Z
   early:=λs H p d e=>h.early s (J.mem_iff.1 (List.mem_cons_of_mem _ H)) p (f p d) e
   rm:=h.rm
   rs:=pP h.rs
   sx:=h.sx
   sl:=h.sl
   ss:=h.ss
   sc:=h.sc
   sq:=λp d=>h.sq p (f p d)
   si:=λg l=>h.si g (by rw[<-j.same];exact l)
   d1:=h.d1
   d2:=h.d2
   d3:=h.d3
   nd:=h.nd.sublist (List.Sublist.map _ List.filter_sublist)
   dx:=λp d=>h.dx p (f p d)
   di:=λg l=>⟨(h.di g (by rw[<-j.same];exact l)).1,λp d=>(h.di g (by rw[<-j.same];exact l)).2 p (f p d)⟩ }
 ·refine(j.turn.mono λk _ e=>by obtain rfl|e:=e;exact h.sx;exact h.si _ e).trans' (a.mono λk _ e=>?_)
  obtain rfl|rfl:=e
  ·exact h.ss
  ·exact h.sc
def sR.again{w O r:fA}{S:Nat->Prop}{x:Nat}{t:gB}{M y z u:Nat}{F n:jA}{Q:List (kB×Nat)}{j:List qI}{D:DataW Unit}{q:kB×Nat}{g l B:Nat}(h:sR w S x t M y z u F Q j D)(U:0<zA j)(C:q∈Q)(W:q.2=(oD j 0).b)
(v:MY w O x t.L y z u F n j)
(A:jB r x #[aB t.L,.map (cA y),.map (cA z),.map (cA u),qA (vB g) (zA (eP j)+1) l] 222)
(E:r.ownsRow 0 331 2 (qA (vB g) (zA (eP j)+1) l) (zA (eP j)+1) (pK (qR (eP j) ⟨q.2,q.1.n⟩)))(o:n.ownBlock=cA g\/O.1.size<=g)(c:fB (λk=>k=x\/n.ownBlock=cA k) O r)(b:B<=w.1.size)(V:∀g,B<=g->w.1.size<=g->S g):
 sR r S x t M y z u (qA (vB g) (zA (eP j)+1) l) Q (qR (eP j) ⟨q.2,q.1.n⟩) D/\fB S w r:=by
 have K:=cD h.Z h.blk;have L:=cD h.cnts h.blk;have J:=cD h.lims h.blk;have G:=bH h.lims h.row;have H:=bH h.Z h.row;have I:=bH h.cnts h.row;obtain⟨Z,P,b⟩:=yP h.heap U;obtain⟨b,R,m⟩:=CT Z ⟨q.2,q.1.n⟩;have X:=v.turn.size;have a:=v.turn.trans' (c.mono λk _ e=>by rw[<-v.same];exact e);have N:=λq C=>bB (h.cells q C);have Y:=bB h.blk;have i:F.ownBlock=cA g\/w.1.size<=g:=by
  obtain e|e:=o;exact Ca (by rw[<-v.same];exact e);exact La (by omega)
 refine⟨?_,?_⟩
 .exact { h with
   blk:=A
   lims:=a.map h.lims (λe=>by obtain e|e:=e;exact J e;exact G e)
   Z:=a.map h.Z (λe=>by obtain e|e:=e;exact K e;exact H e)
   cnts:=a.map h.cnts (λe=>by obtain e|e:=e;exact L e;exact I e)
   cells:=λp d=>a.blk (h.cells p d) (λe=>by
    obtain e|e:=e;exact h.dx p d e;exact (h.di _ e).2 p d rfl)
   row:=by rw[m];exact E
   heap:=b
   perm:=by
    refine(R.map _).trans ?_;rw[Fc];show(q.2::(eP j).map (·.b)).Perm _;rw[W];exact(P.map (·.b)).trans h.perm
   early:=λs m p d e=>by
    rcases Lb.1 (R.mem_iff.1 m) with rfl|m;have:=eS h.nd d C e;rw[this];exact Xd _;exact h.early s (P.mem_iff.1 (Sb _ m)) p d e
   si:=λT f=>by
    simp only[jA.ownBlock,Qa]at f;subst f;obtain e|e:=i;exact h.si g e;exact V g (by omega) e
   di:=λT f=>by
    simp only[jA.ownBlock,Qa]at f;subst f;obtain e|e:=i;exact h.di g e;exact ⟨by omega,λp d=>by have:=N p d;omega⟩ }
 exact a.mono λk _ e=>by
  obtain rfl|e:=e;exact h.sx;exact h.si _ e
def fw{a:List qI}{u:Int}(c:uJ a)(b:0<zA a)(d:(oD a 0).t<=u):(eP a).countP (λs=>decide (s.t<=u))+1=a.countP (λs=>decide (s.t<=u)):=by
 obtain⟨_,e,_⟩:=yP c b;rw[<-e.countP_eq,List.countP_cons_of_pos (by simpa using d)]
def yb{a:List qI}{u:Int}{s:qI}(b:uJ a)(c:u<s.t):(qR a s).countP (λs=>decide (s.t<=u))=a.countP (λs=>decide (s.t<=u)):=by
 obtain⟨_,d,_⟩:=CT b s;rw[d.countP_eq,List.countP_cons_of_neg (by simp;omega)]
def aDk{R:Nat->Prop}(h:∃n,R n):∃m,R m/\∀k,R k->m<=k:=by
 obtain⟨n,d⟩:=h;induction n using Nat.strongRecOn with
 |_ n e=>
  by_cases a:∃k,k<n/\R k
  .obtain ⟨k,a,c⟩:=a;exact e k a c
  exact ⟨n,d,λk c=>Nat.le_of_not_lt λb=>a ⟨k,b,c⟩⟩
end
section
open Go.Maps
def kf{P:Program}{w:fA}{b:Array Oper}{o:Oper}{a:Act}{K:Act->fA->Prop}{Q:Exit->Act->fA->Prop}{E:Prop}{f:FuncId}{args:Array jA}(c:o.guard=aA)(i:(execOp a.eval o).run P w=.ok (.enter f args) w)
(h:iA P f args w (λe d=>∃v,e=vA v/\K (a.put o.dst v) d)):if Region.wanted o (yielded b a.tmps)=eA then Oper.wp P o a w K Q else E:=by
 have j:Region.wanted o (yielded b a.tmps)=eA:=by simp[Region.wanted,c]
 rw[Ma j];unfold Oper.wp;rw[i];refine h.mono ?_;rintro e d ⟨v,rfl,g⟩;exact g
def aCf(x Y m a:Nat)(t:Int)(X:jA)(key:pB)(Q:List (kB×Nat))(D:DataW Unit)(M c:Nat)(w:fA)(z:jB w x #[aB t,.map (cA Y),.map (cA m),.map (cA a),X] 222)
(I:w.ownsMap prog 9 tE m (zA Q) (jE (Q.map λq=>(q.1.s,kF q.2))))(U:w.ownsMap prog 9 (plainElem prog 3) a M D)(l:D.atKey (kL (dE key)) (aJ 0)=aJ ((c+1:Nat):Int))(V:m≠a)(h:key.size<=1000000000)(o:M<=1000000000)(o:c<=1000000000)(T:∀W,fB (·=m) w W->kH W):
 iA prog 316 #[.pointer (vB x),pA key] w λe v=>e=vA (yA #[])/\v.ownsMap prog 9 tE m (zA Q) (DataW.del (jE (Q.map λq=>(q.1.s,kF q.2))) (kL key))/\v.ownsMap prog 9 (plainElem prog 3) a M (D.put (kL (dE key)) (aJ c))/\fB (λk=>k=m\/k=a) w v:=by
 have o:cB (keyOf prog 9 (pA key)=cA (kL key)):=eN (by unfold maxLen;omega);have C:cB _:=eN (dS key);have F:cB (∀W,kH W->cF 205 #[pA key] W (pA (dE key))):=λW G=>tY key W h G;obtain⟨u,s⟩:∃u,u=c+1:=⟨_,rfl⟩
 rw[<-s]at l;have h:(u:Int)-1=(c:Nat):=by omega
 have H:(u:Int)≠0:=by omega
 have h:IntKind.i64.wrap ((c:Nat):Int)=(c:Nat):=by
  simp only[IntKind.wrap,IntKind.bits,IntKind.signed];simp;omega
 have E:cB (∀W,W.ownsMap prog 9 (plainElem prog 3) a M D->(Instr.lookup 216 (.map (cA a)) (pA (dE key)) dA).run prog W=.ok (aB (u:Int)) W):=λW h=>PY h l (dS key);have P:=dB z;have N:=dB I;have L:=dB U;have O:=dB T;have J:=cD I z;have x2:yC w x 2 (.map (cA m)):=z.cell 2;have B:cB (∀W,W.ownsMap prog 9 (plainElem prog 3) a M D->∃r,(Instr.mapUpdate 216 (.map (cA a)) (pA (dE key)) (aB (c:Nat))).run prog W=.ok () r/\r.ownsMap prog 9 (plainElem prog 3) a M (D.put (kL (dE key)) (aJ c))/\fB (·=a) W r):=λW h=>by
  obtain⟨r,p,j,n⟩:=h.store vL underlying216 (by unfold maxLen;omega) (val:=aB (c:Nat)) C.o (plainElem_int underlying3 (WalkArith.wf_i64 (by omega)));exact⟨r,p,aEg j (h.tidy vL) (aEh h) l H,fB.mapped n⟩
 clear z I U l T s;generalize dE key=mk at *;go_enter func316,ntmps316;go_upto_region 1 with(at_delete;refine wpList_delete_own _ rfl _ _ 217 9 rfl 225 vL underlying217 tE m _ _ rfl N.o _ _ rfl o.o ?_;intro o d b)
 have g:=fB.mapped b;have h:=dB d;have I:=dB g;have R:cB (jB o x #[aB t,.map (cA Y),.map (cA m),.map (cA a),X] 222):=g.blk P.o J.symm;have Z:cB (o.ownsMap prog 9 (plainElem prog 3) a M D):=g.map L.o V.symm;have m:cB (kH o):=O.o o g;have G:yC o x 3 (.map (cA a)):=R.o.cell 3;clear d b g P N L O x2;go_region_law (refine kf (f:=205) (args:=#[pA key]) rfl (by go_simp) ?_;apply jC (F.o _ (m.o.z gD.drew));intro A G;have y:xB o A:=(aC (Below.refl o.1.size o).drew G);have K:=(fB.of (S:=λ_=>False) y).map Z.o (λe=>e);have m:=E.o A K;obtain⟨r,p,j,n⟩:=B.o A K;have m:yC A x 3 (.map (cA a)):=(R.o.z y).cell 3;refine⟨_,rfl,?_⟩)
 all_goals(go_wp2;go_end0)
 all_goals exact⟨rfl,n.map ((fB.of (S:=λ_=>False) y).map h.o (λe=>e)) V,j,((I.o.mono λi _ e=>Ca e).trans' (fB.of y)).trans' (n.mono λi _ e=>La e)⟩
end
section
open Go.Maps
def wk(p q:jA)(w:fA):(Instr.field 331 (uA #[p,q]) 0).run prog w=.ok p w:=by kernel_rfl
def lg(S:Nat->Prop)(x:Nat)(t:gB)(M:Nat)(u:Int)(wr:fA)(n:Nat):Prop:=
 ∃a e f c d Q b D,sR wr S x ⟨t.N,t.L,t.M,a⟩ M e f c d Q b D/\a.filter (λp=>decide (u<p.n))=t.Z.filter (λp=>decide (u<p.n))/\(∀p∈a,p∈t.Z)/\zA a<=zA t.Z/\b.countP (λs=>decide (s.t<=u))=n
def CM{R:Nat->Prop}(h:∃n,R n):R (Classical.epsilon λm=>R m/\∀k,R k->m<=k)/\∀k,R k->(Classical.epsilon λm=>R m/\∀k,R k->m<=k)<=k:=Classical.epsilon_spec (aDk h)
def aDl{R a:Nat->Prop}{n:Nat}(h:a n)(b:n<Classical.epsilon λm=>R m/\∀k,R k->m<=k):(Classical.epsilon λm=>a m/\∀k,a k->m<=k)<Classical.epsilon λm=>R m/\∀k,R k->m<=k:=
 Nat.lt_of_le_of_lt ((CM ⟨n,h⟩).2 n h) b
def aCi{w:fA}{S:Nat->Prop}{x:Nat}{t:gB}{M m o j:Nat}{l:jA}{Q:List (kB×Nat)}{b:List qI}{D:DataW Unit}{i:List kB}{u d c:Int}(h:sR w S x ⟨t.N,t.L,t.M,i⟩ M m o j l Q b D)(C:u=c-d)(A:i.filter (λp=>decide (u<p.n))=t.Z.filter (λp=>decide (u<p.n)))(f:¬(0<zA b/\(oD b 0).t<=u)):
 tD w S x (oE d c t) M:=by
 have y:∀p∈i,u<p.n:=λp B=>by
  have g:p∈Q.map (·.1):=by rw[h.q1];exact B
  obtain⟨q,k,rfl⟩:=Md.1 g;have z:=h.perm.mem_iff.2 (Tc k);obtain⟨s,a,e⟩:=Md.1 z;have E:=h.early s a q k e.symm;have F:=aMk h.heap a;have v:=List.length_pos_of_mem a;have G:¬(oD b 0).t<=u:=λr=>f ⟨v,r⟩;omega
 rw[xv C A y];exact⟨m,o,j,l,Q,b,D,h⟩
def aGu{w F y:fA}{S:Nat->Prop}{x:Nat}{t:gB}{M A v j n:Nat}{E m:jA}{Q:List (kB×Nat)}{i:List qI}{D:DataW Unit}{d:List kB}{u:Int}{q:kB×Nat}{c:Nat}(h:sR w S x ⟨t.N,t.L,t.M,d⟩ M A v j E Q i D)(O:d.filter (λp=>decide (u<p.n))=t.Z.filter (λp=>decide (u<p.n)))(l:∀p∈d,p∈t.Z)(P:zA d<=zA t.Z)
(B:0<zA i)(T:(oD i 0).t<=u)(C:q∈Q)(L:q.2=(oD i 0).b)(U:q.1.n<=u)(R:MY w F x t.L A v j E m i)(a:fB (λk=>k=v\/k=j) F y)(o:y.ownsMap prog 9 tE v n (DataW.del (jE (Q.map λq=>(q.1.s,kF q.2))) (kL q.1.s)))
(r:y.ownsMap prog 9 (plainElem prog 3) j M (D.put (kL (dE q.1.s)) (aJ c)))(N:tI dE d (dE q.1.s)=c+1):
 (∃k,lg S x t M u y k/\k<i.countP (λs=>decide (s.t<=u)))/\fB S w y:=by
 obtain⟨J,K⟩:=h.dropped (c:=c) B C L R a o r N;refine⟨⟨_,⟨_,A,v,j,m,_,_,_,J,?_,λp g=>l p (vP.1 g).1,?_,rfl⟩,?_⟩,K⟩
 .rw[<-O];unfold sE;rw[List.filter_filter];apply List.filter_congr;intro p g;by_cases e:p.s=q.1.s
  .have z:q.1∈d:=by have:=Tc (f:=(·.1)) C;rw[h.q1]at this;exact this
   have G:=kM h.rs g;have H:=kM h.rs z;have:p=q.1:=by
    have I:cA p=cA q.1:=by rw[<-G,<-H];show xC (λp:kB=>p.s) p.s d=xC (λp:kB=>p.s) q.1.s d;rw[e]
    exact Lc I
   rw[this,Ub (by omega)];simp
  rw[yD e];simp
 .have:zA (sE (·.s) q.1.s d)<=zA d:=Pc _ _;exact Ua this P
 have:=fw h.heap B T;omega
def aCh{w A j:fA}{S:Nat->Prop}{x:Nat}{t:gB}{M o r m:Nat}{C d:jA}{Q:List (kB×Nat)}{c:List qI}{D:DataW Unit}{l:List kB}{u:Int}{q:kB×Nat}{g e B:Nat}(h:sR w S x ⟨t.N,t.L,t.M,l⟩ M o r m C Q c D)(K:l.filter (λp=>decide (u<p.n))=t.Z.filter (λp=>decide (u<p.n)))(i:∀p∈l,p∈t.Z)(L:zA l<=zA t.Z)
(v:0<zA c)(P:(oD c 0).t<=u)(O:q∈Q)(J:q.2=(oD c 0).b)(H:u<q.1.n)(N:MY w A x t.L o r m C d c)
(y:jB j x #[aB t.L,.map (cA o),.map (cA r),.map (cA m),qA (vB g) (zA (eP c)+1) e] 222)
(z:j.ownsRow 0 331 2 (qA (vB g) (zA (eP c)+1) e) (zA (eP c)+1) (pK (qR (eP c) ⟨q.2,q.1.n⟩)))(f:d.ownBlock=cA g\/A.1.size<=g)(a:fB (λk=>k=x\/d.ownBlock=cA k) A j)(G:B<=w.1.size)(I:∀g,B<=g->w.1.size<=g->S g):
 (∃k,lg S x t M u j k/\k<c.countP (λs=>decide (s.t<=u)))/\fB S w j:=by
 obtain⟨E,F⟩:=h.again v O J N y z f a G I;refine⟨⟨_,⟨l,o,r,m,_,_,_,_,E,K,i,L,rfl⟩,?_⟩,F⟩;have R:=fw h.heap v P;rw[yb (yP h.heap v).1 (by exact H)];omega
def my(x:Nat)(t:gB)(J I u:Int)(S:Nat->Prop)(M:Nat)(b w:fA)(h:tD w S x t M)(r:xB b w)(Z:kH b)(hS:∀g,S g->b.1.size<=g)(hu:u=I-J)(hl:zA t.Z<=1000000000)(hM:M<=1000000000)(Y:∀p∈t.Z,p.s.size<=1000000000):
 iA prog 282 #[.pointer (vB x),aB u] w λe o=>e=vA (yA #[])/\tD o (λg=>S g\/w.1.size<=g) x (oE J I t) M/\fB S w o:=by
 have G:cB (lg (λg=>S g\/w.1.size<=g) x t M u w ((Classical.epsilon λm=>lg (λg=>S g\/w.1.size<=g) x t M u w m/\∀k,lg (λg=>S g\/w.1.size<=g) x t M u w k->m<=k))):=by
  refine(CM ?_).1;obtain⟨b,U,K,iv,Q,i,D,h⟩:=h;exact⟨_,t.Z,b,U,K,iv,Q,i,D,h.keep λg _ i=>⟨rfl,Ca i⟩,rfl,λp s=>s,Ia _,rfl⟩
 have HUT:cB (∀W,fB S w W->kH W):=λW s=>Z.z (r.trans (s.below r.size λk Y i=>by have:=hS k i;omega));have HKS:cB _:=Y;have HEU:cB _:=hu;have O:cB _:=hl;clear h r Z hS Y hu hl;go_enter func282,ntmps282;go_wp2;go_loopw [4] (λ_ wr=>cB (∃n,lg (λg=>S g\/w.1.size<=g) x t M u wr n)/\cB (fB S w wr)) (λ_ wr=>Classical.epsilon λm=>lg (λg=>S g\/w.1.size<=g) x t M u wr m/\∀k,lg (λg=>S g\/w.1.size<=g) x t M u wr k->m<=k)
 case atStart=>exact⟨⟨_,G.o⟩,fB.refl _ _⟩
 case round=>
  obtain⟨HN,Y⟩:=hrel;obtain⟨Z,_⟩:=CM HN.o;have HLT:cB (∀W k,lg (λg=>S g\/w.1.size<=g) x t M u W k->k<(Classical.epsilon λm=>lg (λg=>S g\/w.1.size<=g) x t M u wr m/\∀k,lg (λg=>S g\/w.1.size<=g) x t M u wr k->m<=k)->(Classical.epsilon λm=>lg (λg=>S g\/w.1.size<=g) x t M u W m/\∀k,lg (λg=>S g\/w.1.size<=g) x t M u W k->m<=k)<(Classical.epsilon λm=>lg (λg=>S g\/w.1.size<=g) x t M u wr m/\∀k,lg (λg=>S g\/w.1.size<=g) x t M u wr k->m<=k)):=λW k h1 h2=>aDl h1 h2;obtain⟨xs,b,U,K,iv,Q,i,D,d,hf,P,N,L⟩:=Z;have HI:=dB d;have HF:=dB hf;have X:=dB P;have F:=dB N;have m:=dB L;have hwr:=Y.o.size;clear G hf P N L HN;by_cases r:0<zA i
  .obtain ⟨g,a,hiv⟩:∃g a,iv=qA (vB g) (zA i) a:=by
    obtain⟨_,e⟩|⟨g,a,cur,e,_⟩:=d.row.2;exact absurd e (by omega);exact ⟨g,a,e⟩
   subst hiv;obtain⟨G,_⟩:=ER d.row rfl;have H:=(d.di g rfl).1;have Z:=dB G;have x4:yC wr x 4 (qA (vB g) (zA i) a):=d.blk.cell 4;have c1:yC wr g 1 (aB (oD i 0).t):=by have:=(G.cells (k:=0) r).2.1;simpa using this
   by_cases ht:(oD i 0).t<=u
   .have hhl:zA i=zA xs:=by
     have h1:=d.perm.length_eq;have h2:=Kd List.length d.q1;simp only[Xa]at h1 h2;omega
    have hh9:zA i<=1000000000:=by have:=F.o;have:=O.o;omega
    obtain⟨q,Z,a0⟩:=d.top r;have HQ:=dB Z;have HQB:=dB a0;have V:cB (iA prog 315 #[.pointer (cA (eB x 4))] wr λe o=>e=vA (uA #[.pointer (vB ((oD i 0).b)),aB (oD i 0).t])/\jB o x (#[aB t.L,.map (cA b),.map (cA U),.map (cA K),qA (vB g) (zA i) a].setIfInBounds 4 (qA (vB g) (zA i-1) a)) 222/\zH o g a (eP i)/\fB (λk=>k=x\/k=g) wr o):=aIi x 4 g a i wr _ _ d.blk rfl G H r hh9;have HTL:=dB ht;clear hhl G;rw[<-a0]at V;clear a0;generalize G:(oD i 0).t=TT at *;have HTT:cB _:=G;clear G;go_wp2_with fail;apply jC V.o;rintro y ⟨G,hm1,j⟩;have hp3:=(yP d.heap r).2.2;have PP:cB (MY wr y x t.L b U K (qA (vB g) (zA i) a) (qA (vB g) (zA i-1) a) i):=dB {
     blk:=by simpa using G
     row:=by have:=zW (B:=0) hm1 (Oa _);rw[hp3]at this;exact this
     same:=rfl
     turn:=j.mono λk _ e=>by obtain e|e:=e;exact Ca e;exact La (by rw[e];rfl) }
    have hqc:=d.cells q Z;have hqg:=(d.di g rfl).2 q Z;have hqx:=d.dx q Z;have Q1:cB (jB y q.2 #[pA q.1.s,aB q.1.n] 134):=j.blk hqc (λe=>by obtain e|e:=e;exact hqx e;exact hqg e);have hfd:=wk (.pointer (vB q.2)) (aB TT);have v0:yC y q.2 0 (pA q.1.s):=Q1.o.cell 0;have v1:yC y q.2 1 (aB q.1.n):=Q1.o.cell 1;have TS1:cB (fB S w y):=Y.o.trans (j.mono λk _ e=>by
     obtain rfl|rfl:=e;exact d.sx;exact d.si _ rfl)
    have hqs:q.1∈xs:=by have:=Tc (f:=(·.1)) Z;rw[d.q1]at this;exact this
    have Z:=HKS.o q.1 (X.o q.1 hqs);clear G hm1 hqc x4 c1 V H hp3;by_cases hL:q.1.n<=u
    .obtain ⟨c,hc⟩:∃c,tI dE xs (dE q.1.s)=c+1:=⟨tI dE (sE (·.s) q.1.s xs) (dE q.1.s),by have:=cl (met:=dE) d.rs hqs (dE q.1.s);rw[Ma rfl]at this;exact this⟩
     have hc9:c<=1000000000:=by have:=XJ dE xs (dE q.1.s);have:=F.o;have:=O.o;omega
     have G:cB (iA prog 316 #[.pointer (vB x),pA q.1.s] y λe o=>e=vA (yA #[])/\o.ownsMap prog 9 tE U (zA Q) (DataW.del (jE (Q.map λq=>(q.1.s,kF q.2))) (kL q.1.s))/\o.ownsMap prog 9 (plainElem prog 3) K M (D.put (kL (dE q.1.s)) (aJ c))/\fB (λk=>k=U\/k=K) y o):=
      aCf x b U K t.L _ q.1.s Q D M c y PP.o.blk (j.map d.Z (λe=>by obtain e|e:=e;exact cD d.Z d.blk e;exact bH d.Z d.row (by rw[e];rfl))) (j.map d.cnts (λe=>by obtain e|e:=e;exact cD d.cnts d.blk e;exact bH d.cnts d.row (by rw[e];rfl))) (by rw[d.cnt,hc]) d.d3 Z hM hc9 (λW s=>HUT.o W (TS1.o.trans (s.mono λk _ e=>by rw[e];exact d.ss)))
     have O:=dB hc;clear hc d j;go_wp2_with fail;apply jC G.o;rintro w4 ⟨R,T,E⟩;have HE:=dB (aGu HI.o HF.o X.o F.o r (by rw[HTT.o];exact HTL.o) HQ.o HQB.o hL PP.o E R T O.o);clear R T E G;go_wp2;obtain⟨⟨k,A,C⟩,Z⟩:=HE.o;exact⟨⟨⟨k,A⟩,Y.o.trans Z⟩,HLT.o _ k A (by rw[m.o]at C;exact C)⟩
    have hL':u<q.1.n:=by omega
    have hpl:=(yP d.heap r).2.2;have G:cB (∀W,xB y W->iA prog 258 #[.pointer (cA (eB x 4)),uA #[.pointer (vB q.2),aB q.1.n]] W λe o=>e=vA (yA #[])/\∃O z,jB o x (#[aB t.L,.map (cA b),.map (cA U),.map (cA K),qA (vB g) (zA i-1) a].setIfInBounds 4 (qA (vB O) (zA (eP i)+1) z)) 222/\
     o.ownsRow 0 331 2 (qA (vB O) (zA (eP i)+1) z) (zA (eP i)+1) (pK (qR (eP i) ⟨q.2,q.1.n⟩))/\((jA.slice (vB g) (zA i-1) a).ownBlock=cA O\/W.1.size<=O)/\fB (λk=>k=x\/(jA.slice (vB g) (zA i-1) a).ownBlock=cA k) W o):=λW s=>by
     have H:=(d.di g rfl).1;exact iu x 4 0 (qA (vB g) (zA i-1) a) (eP i) ⟨q.2,q.1.n⟩ W _ _ (PP.o.blk.z s) rfl (by rw[hpl];exact(fB.of (S:=λ_=>False) s).row PP.o.row (λ_ _ e=>e)) (λe=>H (by simpa[jA.ownBlock]using e)) (Oa _) (by omega)
    clear d j v0;go_upto_region 4 with fail;refine eR 9 (by kernel_rfl) (by kernel_rfl) ?_;simp only[Rg,List.take_zero,Sg,Kf];have b:Nonempty Unit:=⟨()⟩
    repeat (go_big_quiet_step (fail))
    refine wpQuiet_nil ?_;go_wp2_with(first|(go_at_call 258;apply jC (G.o _ gD.drew);rintro w4 ⟨O,z,b,o,O,E⟩));have HE:=dB (aCh (B:=w.1.size) HI.o HF.o X.o F.o r (by rw[HTT.o];exact HTL.o) HQ.o HQB.o hL' PP.o (by simpa using b) o O ((fB.of (S:=λk=>k=x\/(jA.slice (vB g) (zA i-1) a).ownBlock=cA k) ((Below.refl y.1.size y).drew)).trans' E) hwr (λg s _=>La s));clear b o O E G;obtain⟨⟨k,A,C⟩,Z⟩:=HE.o;exact⟨⟨⟨k,A⟩,Y.o.trans Z⟩,HLT.o _ k A (by rw[m.o]at C;exact C)⟩
   .have l:cB (tD wr (λg=>S g\/w.1.size<=g) x (oE J I t) M):=aCi d HEU.o HF.o (λh=>ht h.2);clear d;generalize (oD i 0).t=TT at *;go_wp2;go_end0;exact⟨rfl,l.o,Y.o⟩
  .have l:cB (tD wr (λg=>S g\/w.1.size<=g) x (oE J I t) M):=aCi d HEU.o HF.o (λh=>r h.1);have b:zA i=0:=by omega
   have x4:∃v,yC wr x 4 v/\(v=qA aA 0 0\/∃g a,v=qA (vB g) 0 a):=by
    refine⟨iv,d.blk.cell 4,?_⟩;obtain⟨e,_⟩|⟨g,a,cur,e,_⟩:=d.row.2;exact Ca e;rw[b]at e;exact La ⟨g,a,e⟩
   clear d b;obtain⟨v,x4,b⟩:=x4;obtain rfl|⟨g,a,rfl⟩:=b
   .go_wp2;go_end0;exact⟨rfl,l.o,Y.o⟩
   go_wp2;go_end0;exact⟨rfl,l.o,Y.o⟩
end
section
open Go.Maps
def KR{H:Type}{P:Program}{k:kA}{R:jA->Option (DataW H×List MemPlace)}{w g:fA}{b r n:Nat}{D:DataW H}{left:Lit->Bool}{m:Nat}{S:Nat->Prop}(h:w.ranges P k R b r n D left m)(f:fB S w g)(s:¬S b)(t:¬S r):g.ranges P k R b r n D left m:=by
 have o:=h.owns.lt;have p:=h.lt;obtain⟨m,a,c,e,i,j,F,u,q,l,d⟩:=h;exact⟨m,a,c,e,i,(f.block b o s).trans j,F,u,q,(f.block r p t).trans l,d⟩
def tr{key:jA}{a:Lit}(h:keyOf prog 9 key=cA a):∃s,key=pA s/\a=kL s/\s.size<=maxLen:=WideMaps.string_of_keyOf underlying9 h
def iL.trim{w:fA}{B:Nat->Prop}{T:Nat->Option Nat}{l m:Nat}{c:lC}{a:Int}{L:List (gB×Nat)}{M:Nat}(h:iL w B T l m c a L M):iL w B (λg=>if g<w.1.size then T g else aA) l m c a L M:=
 { h with
  idx:=λp e=>(h.idx p e).keep λg d b=>⟨rfl,b.1,by show(if g<w.1.size then T g else aA)=_;rw[Ma d];exact b.2⟩
  tl:=by show(if l<w.1.size then T l else aA)=aA;rw[Ma (bB h.blk)];exact h.tl
  tm:=by show(if m<w.1.size then T m else aA)=aA;rw[Ma h.ten.lt];exact h.tm}
def iL.aside{w f:fA}{B:Nat->Prop}{T:Nat->Option Nat}{l m r:Nat}{c:lC}{a:Int}{L:List (gB×Nat)}{M:Nat}(h:iL w B T l m c a L M)(d:fB (·=r) w f)(o:T r=aA)(j:l≠r)(k:m≠r):iL f B T l m c a L M:=
 { h with
  blk:=d.blk h.blk j
  ten:=d.map h.ten k
  idx:=λp n=>(h.idx p n).keep λg i b=>⟨d.block g i (λe=>by rw[e,o]at b;cases b.2),b⟩ }
def iL.moved{w f:fA}{B:Nat->Prop}{T:Nat->Option Nat}{l m:Nat}{c:lC}{d a:Int}{L:List (gB×Nat)}{M:Nat}(h:iL w B T l m c d L M)(i:fB (·=l) w f)(j:jB f l (iV c a m) 154):iL f B T l m c a L M:=
 { h with
  blk:=j
  ten:=i.map h.ten h.lm
  idx:=λp n=>(h.idx p n).keep λg k b=>⟨i.block g k (λe=>by rw[e,h.tl]at b;cases b.2),b⟩ }
def iL.turned{w v:fA}{B:Nat->Prop}{T:Nat->Option Nat}{l m:Nat}{c:lC}{o:Int}{L:List (gB×Nat)}{M:Nat}{p:gB×Nat}{t':gB}(h:iL w B T l m c o L M)(x:∀g,w.1.size<=g->B g)(u:p∈L)(r:t'.N=p.1.N)
(b:fB (λg=>B g/\T g=cA p.2) w v)(y:tD v (λg=>(B g/\T g=cA p.2)\/w.1.size<=g) p.2 t' M):
 iL v B (λg=>if g<w.1.size then T g else cA p.2) l m c o (fC (λp:gB×Nat=>p.1.N) (t',p.2) L) M:=by
 have z:=bB h.blk;have A:=h.ten.lt;have i:(fC (λp:gB×Nat=>p.1.N) (t',p.2) L).map (λp=>(p.1.N,kF p.2))=L.map λp=>(p.1.N,kF p.2):=
  FG (key:=λp:gB×Nat=>p.1.N) (a:=(t',p.2)) (λp:gB×Nat=>(p.1.N,kF p.2)) h.rise u r.symm (by simp[r])
 have n:zA (fC (λp:gB×Nat=>p.1.N) (t',p.2) L)=zA L:=by
  have:=Kd List.length i;simpa using this
 have t:∀q∈L,q.1.N≠t'.N->q.2≠p.2:=λq j f e=>by
  have:=eS h.nd j u e;rw[this,r]at f;exact f rfl
 exact {
  blk:=b.blk h.blk (λe=>by rw[h.tl]at e;cases e.2)
  ten:=by rw[i,n];exact b.map h.ten (λe=>by rw[h.tm]at e;cases e.2)
  rise:=jK h.rise
  idx:=λq j=>by
   rcases YT h.rise j with rfl|⟨j,f⟩
   .refine y.keep λg s d=>⟨rfl,?_,?_⟩
    .rcases d with d|d
     .exact d.1
     exact x g d
    show (if g<w.1.size then T g else cA p.2)=cA p.2;by_cases k:g<w.1.size
    .rw[Ma k];obtain d|d:=d
     .exact d.2
     omega
    rw[Ja k]
   refine (h.idx q j).keep λg s d=>⟨b.block g s (λe=>?_),d.1,?_⟩
   .have:=t q j f;rw[e.2]at d;exact this (Lc d.2).symm
   show (if g<w.1.size then T g else cA p.2)=_;rw[Ma s];exact d.2
  nd:=by
   rw[FG (key:=λp:gB×Nat=>p.1.N) (a:=(t',p.2)) (·.2) h.rise u r.symm rfl];exact h.nd
  tl:=by show(if l<w.1.size then T l else _)=aA;rw[Ma z];exact h.tl
  tm:=by show(if m<w.1.size then T m else _)=aA;rw[Ma A];exact h.tm
  lB:=h.lB
  mB:=h.mB}
def iL.left{w y s:fA}{B:Nat->Prop}{T:Nat->Option Nat}{l m n:Nat}{c:lC}{i:Int}{L:List (gB×Nat)}{M:Nat}{k:pB}{S:Nat->Prop}(h:iL w B T l m c i L M)(C:∀g,S g->∀q∈L,q.1.N≠k->T g≠cA q.2)(t:∀g,g<w.1.size->S g->T g≠aA)
(a:fB S w y)(b:fB (·=m) y s)(j:s.ownsMap prog 9 tE m n (DataW.del (jE (L.map λp=>(p.1.N,kF p.2))) (kL k))):
 iL s B T l m c i (sE (λp:gB×Nat=>p.1.N) k L) M:=by
 have x:=bB h.blk;have D:=a.size;have f:DataW.del (jE (L.map λp=>(p.1.N,kF p.2))) (kL k)=jE ((sE (λp:gB×Nat=>p.1.N) k L).map λp=>(p.1.N,kF p.2)):=
  XS (key:=λp:gB×Nat=>p.1.N) (λp=>kF p.2) k L
 have d:∀g,g<w.1.size->¬S g->g≠m->s.heap[g]?=w.heap[g]?:=λg u z A=>by
  rw[b.block g (by omega) A,a.block g u z]
 exact {
  blk:=(d l x (λe=>t l x e h.tl) h.lm.symm).trans h.blk
  ten:=by
   have:=RP j;rw[f,vM]at this;exact this
  rise:=pP h.rise
  idx:=λq o=>by
   obtain⟨o,v⟩:=vP.1 o;exact(h.idx q o).keep λg u r=>⟨d g u (λe=>C g e q o v r.2) (λe=>by rw[e,h.tm]at r;cases r.2),r⟩
  nd:=h.nd.sublist (List.Sublist.map _ Pf)
  tl:=h.tl
  tm:=h.tm
  lB:=h.lB
  mB:=h.mB}
def TkR(c:lC)(a:Int)(b:List gB)(M:Nat)(B:Nat->Prop)(l m r:Nat)(left:Lit->Bool)(wr:fA):Prop:=
 ∃T L,iL wr B T l m c a L M/\L.map (·.1)=oI c.w a (λs=>left (kL s)) b/\T r=aA
def aFm{c:lC}{a:Int}{o:List gB}{M l m n:Nat}{B:Nat->Prop}{left:Lit->Bool}{wr:fA}{T:Nat->Option Nat}{L:List (gB×Nat)}{D:DataW Unit}{s:pB}{v:jA}{y:DataW Unit×List MemPlace}(h:iL wr B T l m c a L M)(u:L.map (·.1)=oI c.w a (λs=>left (kL s)) o)(g:wr.ownsMap prog 9 tE m n D)(x:left (kL s)=eA)(C:tE v=cA y)(f:∀zd,D.atKey (kL s) zd=y.1):
 ∃p∈L,p.1.N=s/\p.1∈o/\v=.pointer (vB p.2):=by
 rw[sr g h.ten]at f;have d:∀zd:DataW Unit,((xC (λp:gB×Nat=>p.1.N) s L).map λp=>kF p.2).getD zd=y.1:=λzd=>by
  rw[<-lS (key:=λp:gB×Nat=>p.1.N) (λp=>kF p.2)];exact f zd
 cases hg:xC (λp:gB×Nat=>p.1.N) s L with
 |none=>
  rw[hg]at d;have b:=d (aJ 0);have j:=d (aJ 1);simp only[Option.map_none,Option.getD_none]at b j;rw[<-b]at j;simp[aJ]at j
 |some p=>
  rw[hg]at d;have b:=d .nil;simp only[Option.map_some,Option.getD_some]at b;obtain⟨q,i⟩:=jM hg;have z:p.1∈oI c.w a (λs=>left (kL s)) o:=by rw[<-u];exact Tc q
  obtain⟨t,A,e,r⟩:=VJ z;have k:left (kL t.N)=eA:=by rw[<-r,i];exact x
  rw[Ma k]at e;refine⟨p,q,i,by rw[e];exact A,aR (ps:=y.2) (by rw[C,b])⟩
end
