import Derived.Test.YtejebmgbenmimaaGreatDoorJ28
set_option maxRecDepth 100000
set_option maxHeartbeats 8000000
set_option linter.defProp false
open Option renaming some->fA,none->eA
open Bool renaming false->gA,true->iA
open ByteArray renaming empty->pA
open List renaming length->cB
namespace Go.Proofs.YtejebmgbenmimaaGreatDoor
open Go renaming World->jA,Value->mA,TypeId->oA,Calls->lA
open Obj renaming cells->aB
open Value renaming agg->yA,slice->uA,string->tA,bool->vA,tuple->bB
open Ending renaming returned->zA
open Go.RowKit Tryz
def uI{C:jA->Prop}{w:jA}{cs:Array mA}{t:oA}(k:∀W,zB w W->rB W w.1.size cs t->W.1.size=w.1.size+1->C W):C (w.alloc (aB cs t)):=
 k _ aC (rB.new w _ _) (by simp)
def aEf{C:jA->Prop}{w:jA}{O:Nat}{a b d c u:mA}{t:oA}(h:rB w O #[a,b,d,c] t)(k:∀W,rB W O #[a,b,u,c] t->jB (·=O) w W->C W):C (w.setCell (iB O 2) u):=
 k _ (by have:=h.set 2 u;simpa using this) ((jB.refl (·=O) w).setCell (Ca rfl) 2 u)
def aEg{C:jA->Prop}{w:jA}{O:Nat}{a b c d u:mA}{t:oA}(h:rB w O #[a,b,c,d] t)(k:∀W,rB W O #[a,b,c,u] t->jB (·=O) w W->C W):C (w.setCell (iB O 3) u):=
 k _ (by have:=h.set 3 u;simpa using this) ((jB.refl (·=O) w).setCell (Ca rfl) 3 u)
def kD.turned{S:Nat->Prop}{w c:jA}{B:Nat}{a:nC}{l:List pB}(h:kD w B a l)(q:jB S w c)(m:∀g,B<=g->¬S g):kD c B a l:=by
 obtain h|⟨g,o,b,t,e,d,f,h⟩:=h;exact Ca h;have k:=q.block g (eB f) (m g d);have n:∀j,c.cell? (iB g j)=w.cell? (iB g j):=λj=>jA.cell?_of_block k;exact La ⟨g,o,b,t,e,d,k.trans f,λi p=>by simp only[n];exact h i p⟩
def yS(a b:nC)(ca cb:Nat)(N:vC)(w:jA)(d:wB w a N.d.fs)(l:cB N.d.fs<=1048576)(c:uC w b N.ts)(h:cB N.ts<=2000000)(h:∀t∈N.ts,cB t.M<=2000000/\cB t.Z<=2000000):
 lA prog 63 #[yA (sC a ca b cb N)] w λe w'=>∃a' Q b' R,e=zA (yA (sC a' Q b' R N))/\fJ w' (λx=>w.1.size<=x) a' N.d.fs/\jS w' (λx=>w.1.size<=x) b' N.ts/\zB w w':=by
 unfold sC;have O:=gB (λW(m:zB w W)=>ON a ca N.d W (d.z m) l);have HT:=gB c;have o:=gB h;clear d c h;go_enter func63,ntmps63;go_wp2_with fail;refine(O.o _ (xB aC aC)).mono ?_;rintro e w1 ⟨a',Q,rfl,d,J⟩;have l:=gB (((rB.new w _ _).alloc _).z J);have G:=gB ((rB.new (w.alloc _) _ _).z J);simp only[jA.size_alloc]at G d;have I:=gB (xB (xB aC aC) J);have h:=J.size;simp only[jA.size_alloc]at h;have U:=gB d;obtain⟨o0,o1,o2,o3,o4,o5,o6,o7,o8,o9,Y,Z,a0,b0⟩:=l.o.n14;obtain⟨s,u,q,r,y,z,A,B,D,E,f,m,n,p⟩:=l.o.frees;clear J d O;go_upto_region 2 with fail;refine aEi (C:=λW=>Code.wp prog _ _ _ W) l.o ?_;intro w2 d h;have R2:=gB (h.blk G.o (by omega));have F2:=gB (U.o.turned h (λx hx _ e=>by omega));have J:=h.size;have B2:=gB (I.o.trans (h.below (by have:=I.o.size;omega) (λk hk e=>by omega)));clear o0 o1 o2 o3 o4 o5 o6 o7 o8 o9 Y Z a0 b0 s u q r y z A B D E f m n p l G U I h;obtain⟨o0,o1,o2,o3,o4,o5,o6,o7,o8,o9,Y,Z,a0,b0⟩:=d.n14;replace d:=gB d;have l:w.1.size<w2.1.size:=by omega
 go_wp2;obtain⟨i3,h,hq0,hq1,hq2⟩:=info_parts db;have HI3:=gB h;clear o0 o1 o2 o3 o4 o5 o6 o7 o8 o9 Y Z a0 b0 h;go_loopw [3,15] (λh i wr=>∃(j:Nat)(v:mA),j<=cB N.ts/\i=dB j/\v=h/\fB (jQ wr w2.1.size 105 v j (N.ts.take j))/\fB (zB w2 wr)/\w2.1.size<wr.1.size) (λ_ i _=>cB N.ts-(RowKit.intOf i).toNat)
 case atStart=>exact⟨0,_,Oa _,rfl,rfl,⟨λ_=>0,[],jA.ownsRow_made w2 #[] 0 (Ia _) (by simp[maxLen]) (by simp),by simp,λ_ _=>rfl,λi h=>absurd h (by simp)⟩,aC,by simp⟩
 case round=>
  obtain⟨j,v,G,rfl,rfl,I,F,G⟩:=hrel;by_cases L:j<cB N.ts
  .obtain ⟨bb,oo,a1,c1,a2,c2,rfl,hbb,k0,k1,k2,k3,p1,p2⟩:=((HT.o.z B2.o).z F.o).at (i:=j) L;have h0:=o.o _ (Gb L);obtain⟨t,c⟩:∃t,t=N.ts[j]:=⟨_,rfl⟩
   have HE:=gB (show N.ts.take (j+1)=N.ts.take j++[t] by rw[c,Pa L]);rw[<-c]at k0 k1 k2 k3 p1 p2 h0;clear c;go_upto_region 6 with fail;refine uI (C:=λW=>Code.wp prog _ _ _ W) ?_;intro w3 d0 X3 H;obtain⟨G,c,w4,o,J,U,O⟩:=se w3 a1 c1 t.M (p1.z d0) h0.1;have HR4:=gB o;have x2:gD w3 wr.1.size 2 (uA a1 (cB t.M) c1):=X3.cell 2;have l:wr.1.size<w3.1.size:=by omega
   have X4:=gB (X3.z U);have y2:gD w4 wr.1.size 2 (uA a1 (cB t.M) c1):=X4.o.cell 2;have q:=X4.o.free 2;have HZ:=gB H;have hz3':wr.1.size<=w3.1.size:=by omega
   have hz4:=U.size;have P4:=gB p2;have B4:=gB (xB d0 U);have O4:=gB J;have Q4:=gB O;clear O k0 k1 k2 k3 p1 p2 o J U X3 H d0;go_upto_region 7 with(at_builtin;refine Lib.wpList_append_run _ rfl _ _ _ _ rfl _ _ rfl rfl _ _ HR4.o ?_)
   refine aEf (C:=λW=>Code.wp prog _ _ _ W) X4.o ?_;intro J X5 T5;have H:=HZ.o;have o:=T5.size;have B5:=gB (B4.o.trans (T5.below (by omega) (λk hk e=>by omega)));have M5:=gB (O4.o.turned T5 (λg V e=>by omega));have hM:∀g o,G=fA (iB g o)->g<J.1.size:=λg o e=>by have:=Q4.o g o e;omega
   obtain⟨q2,d2,w6,o,O,K,_⟩:=sf J a2 c2 t.Z (P4.o.z B5.o) h0.2;have U:=gB o;have x3:gD J wr.1.size 3 (uA a2 (cB t.Z) c2):=X5.cell 3;have hn2:wr.1.size<J.1.size:=by omega
   have X6:=gB (X5.z K);have y3:gD w6 wr.1.size 3 (uA a2 (cB t.Z) c2):=X6.o.cell 3;have r:=X6.o.free 3;have hz6:=K.size;have B6:=gB (xB B5.o (K.mono (by omega)));have M6:=gB (M5.o.z K);have O6:=gB O;have HM:=gB hM;clear x2 y2 q l o O K X5 hM T5 X4 O4 Q4 P4 M5 HR4 B4 B5 H;go_upto_region 8 with(at_builtin;refine Lib.wpList_append_run _ rfl _ _ _ _ rfl _ _ rfl rfl _ _ U.o ?_)
   refine aEg (C:=λW=>Code.wp prog _ _ _ W) X6.o ?_;intro P l o;have H:=HZ.o;have O:=o.size;have B7:=gB (B6.o.trans (o.below (by omega) (λk hk e=>by omega)));have M7:=gB (M6.o.turned o (λg V e=>by omega));have S7:=gB (O6.o.turned o (λg V e=>by omega));obtain⟨av,cv,rfl⟩:=I.o.row;obtain⟨T,ys,l0,m0,O,hv4⟩:=I.o;have hyk:cB ys=j:=by have:=Kd List.length m0;simp at this;omega
   have V1:=gB (lC l0 B7.o);have V2:=gB m0;have V3:=gB O;have V4:=gB hv4;have hob:=gB (λg V=>l0.lt g V);have z0:gD P wr.1.size 0 (tA t.N):=l.cell 0;have z1:gD P wr.1.size 1 (dB t.L):=l.cell 1;have z2:gD P wr.1.size 2 (uA G (cB t.M) c):=l.cell 2;have z3:gD P wr.1.size 3 (uA q2 (cB t.Z) d2):=l.cell 3;have HYK:=gB hyk;clear x3 y3 r hn2 X6 l o M6 O6 U B6 l0 m0 O hv4 hyk H;go_wp2_with(at_builtin;refine wpList_append_lies _ rfl _ _ _ rfl w2.1.size 105 i3 _ 4 72 underlying38 HI3.o hq0 hq1 hq2 rfl (by omega) (uA av j cv) j (mF ys) rfl (by exact V1.o.alloc _) (iB P.1.size 0) 1 1 [tA t.N,dB t.L,uA G (cB t.M) c,uA q2 (cB t.Z) d2] rfl rfl (by have:=jA.news_of_block (cs:=#[tA t.N,dB t.L,uA G (cB t.M) c,uA q2 (cB t.Z) d2]) (t:=105) (fr:=(0,0)) (heap_alloc_new P (aB #[tA t.N,dB t.L,uA G (cB t.M) c,uA q2 (cB t.Z) d2] 105));simpa using this) (by simp[mA.oneCell']) (by omega) (by simp[maxLen];omega) (by omega) (by simp;omega) (P.1.size+1) (by simp) ?_;intro l o w8 j0 G U O);have H:=HZ.o;have O:=hob.o;have hgg:((mA.slice av j cv).ownBlock=fA l/\l<wr.1.size)\/P.1.size<=l:=by
    obtain h|h:=U;exact Ca ⟨h,(O _ h).2⟩;exact La (by omega)
   have h:∀g,g<P.1.size->(mA.slice av j cv).ownBlock≠fA g->w8.heap[g]?=P.heap[g]?:=λg V U=>by
    rw[(jB.grown G).block g (by simp;omega) U];exact aC.block g V
   refine⟨⟨j+1,(uA (cC l) (j+1) o),by omega,by go_num,rfl,?_,?_,?_⟩,by simp[RowKit.intOf];omega⟩
   .show jQ _ _ _ _ _ _;rw[HE.o];exact jQ.snoc (wr:=wr) (w4:=P) (M:=J.1.size) (v:=uA av j cv) (T:=T) (ys:=ys) (t:=t) j0 V2.o HYK.o V3.o V4.o (by omega) (by omega)
     (λg V _ U=>(h g (by omega) U).trans (B7.o.block g V))
     (λg V o=>h g o (λe=>by have:=(O _ e).2;omega))
     (M7.o.mono (by omega)) HM.o S7.o hgg (by omega) (by omega)
   .exact (F.o.trans (B7.o.mono (by omega))).trans ((aC.mono (by omega)).trans ((jB.grown G).below (by simp;omega) (λk hk e=>by have:=(O _ e).1;omega)))
   have:=G.size;simp at this;omega
  obtain rfl:j=cB N.ts:=by omega
  have X:=I.o;rw[Rb]at X;obtain⟨b',R,rfl⟩:=X.row;have J:=gB ((X.own rfl).toA (Ia _));have O:=gB (F2.o.z F.o);have G:=gB (xB B2.o F.o);obtain⟨o0,o1,o2,o3,o4,o5,o6,o7,o8,o9,Y,Z,a0,b0⟩:=(d.o.z F.o).n14;obtain⟨s,u,q,r,y,z,A,B,D,E,f,m,n,p⟩:=(d.o.z F.o).frees;obtain⟨U,Y,Z,r3,r4,r5,r6,r7,r8,r9,d,h,m,o⟩:=(R2.o.z F.o).n14;obtain⟨g0,g1,g2,g3,g4,l,l,l,l,l,l,l,l,l⟩:=(R2.o.z F.o).frees;clear I X;go_wp2;refine bodyPost_ret (v:=yA #[uA a' (cB N.d.fs) Q,dB N.d.c,dB N.d.k,dB N.d.cr,dB N.d.fl,vA N.d.dn,dB N.l.first,dB N.l.last,dB N.l.size,dB N.now,uA b' (cB N.ts) R,dB N.lsn,vA N.deg,vA N.up]) (by simp[results,results63,go_sem,U,Y,Z,r3,r4,r5,r6,r7,r8,r9,d,h,m,o]) rfl ?_;refine jB.end2 (S:=λx=>x=w.1.size\/x=w.1.size+1) (C:=λW=>∃a1 c1 d c,Ending.returned (yA #[uA a' (cB N.d.fs) Q,dB N.d.c,dB N.d.k,dB N.d.cr,dB N.d.fl,vA N.d.dn,dB N.l.first,dB N.l.last,dB N.l.size,dB N.now,uA b' (cB N.ts) R,dB N.lsn,vA N.deg,vA N.up])=Ending.returned (yA #[uA a1 (cB N.d.fs) c1,dB N.d.c,dB N.d.k,dB N.d.cr,dB N.d.fl,vA N.d.dn,dB N.l.first,dB N.l.last,dB N.l.size,dB N.now,uA d (cB N.ts) c,dB N.lsn,vA N.deg,vA N.up])/\fJ W (λx=>w.1.size<=x) a1 N.d.fs/\jS W (λx=>w.1.size<=x) d N.ts/\zB w W) wr (by
   repeat (with_reducible first|exact jB.refl _ _|refine jB.setCell ?_ (Ca (by first|exact Ca rfl|exact La rfl)) _ _)) ?_
  intro w6 c;exact⟨_,_,_,_,rfl,(O.o.turned c (λx hx _ e=>by omega)).mono (λx hx=>by omega),(J.o.turned c (λx hx _ e=>by omega)).mono (λx hx=>by omega),G.o.trans (c.below (by have:=G.o.size;omega) (λk hk e=>by omega))⟩
def aHu(a:List kB):Prop:=∀i(h:i<cB a),a[i].N.size<=1000000000/\cB a[i].M<=2000000/\cB a[i].Z<=2000000/\(∀j(b:j<cB a[i].M),a[i].M[j].s.size<=1000000000)/\(∀j(b:j<cB a[i].Z),a[i].Z[j].s.size<=1000000000)
def AS(a:List kB)(k:Nat):(sE (a.take k)).size<=(sE a).size:=by
 have:=lO (a.take k) (a.drop k);rw[Za]at this;rw[this,Ka];omega
def ak:∀(a:List kB),xF (a.map mQ)=sE a
 |[]=>rfl
 |t::q=>by rw[Fc,xF,ak q,sE]
def OF(v m:Int)(w:jA):bM 41 #[dB v,dB m] w (vA (decide (0<=v/\v<=m))):=by
 by_cases a:0<=v
 .have e:decide (0<=v/\v<=m)=decide (v<=m):=by simp[a]
  rw[e];go_enter func41,ntmps41;go_wp2;go_ret;exact⟨rfl,rfl⟩
 have e:decide (0<=v/\v<=m)=gA:=by simp[a]
 rw[e];go_enter func41,ntmps41;go_wp2;go_ret;exact⟨rfl,rfl⟩
def JO(d f:Int)(a:nC)(y:Nat)(c:List kB)(w:jA)(G:uC w a c)(J:aHu c)(e:cB c<=2000000)(e:(sE c).size<=100000000):
 gF 33 #[dB d,yA #[dB f,uA a (cB c) y]] w (tA (bH d f c)):=by
 have F:fB (∀W,bM 41 #[dB d,dB 1000000000000000] W (vA (decide (0<=d/\d<=1000000000000000)))):=λW=>OF _ _ W;by_cases P:¬(0<=d/\d<=1000000000000000)
 .have E:fB (bH d f c=pA):=LX λh=>P ⟨h.1,h.2.1⟩;rw[E.o];rw[show decide (0<=d/\d<=1000000000000000)=gA from Ub P]at F;clear G J P;go_enter func33,ntmps33;go_wp2_with fail;apply dR (F.o _);go_wp2;go_ret;exact⟨rfl,aC⟩
 replace P:=Classical.not_not.1 P;rw[Ac P]at F;have HF:fB (uC w a c):=G;have HB:fB (aHu c):=J;have I:fB _:=λW=>oO d W;have U:fB _:=λW=>oO f W;have Y:fB (∀W,gF 106 #[dB (cB c:Nat)] W (tA (uB 4 (cB c:Nat)))):=λW=>oQ _ W;have e:=oB 8 d;have e:=oB 8 f;have e:=oB 4 (cB c:Nat);have e:(cL d f c).size=24+(sE c).size:=by unfold cL;rw[Ka,FO]
 have HX:fB (cL d f c=rx++uB 8 d++uB 8 f++uB 4 (cB c:Nat)++sE c):=rfl;have HOK:fB ((∀i(h:i<cB c),sJ c[i])->bH d f c=cL d f c++uB 4 (qK (cL d f c):Nat)):=λh=>FN ⟨P.1,P.2,h⟩;have HNO:fB _:=λk(h:k<cB c)(e:¬sJ c[k])=>qm h e d f;have HCR:fB (∀W,gF 109 #[tA (cL d f c)] W (dB (qK (cL d f c):Nat))):=λW=>JN _ W (by unfold maxLen;omega);have HU4:fB (∀W,gF 106 #[dB (qK (cL d f c):Nat)] W (tA (uB 4 (qK (cL d f c):Nat)))):=λW=>oQ _ W;have e:=oB 4 (qK (cL d f c):Nat);generalize uB 4 (qK (cL d f c):Nat)=e at *;generalize qK (cL d f c)=e at *;generalize cL d f c=SX at *;generalize bH d f c=e at *;generalize uB 8 d=N1 at *;generalize uB 8 f=N2 at *;generalize uB 4 (cB c:Nat)=N3 at *;obtain⟨e,L⟩:∃C:vB,C=rx:=⟨_,rfl⟩
 have m:e.size=4:=by rw[L];rfl
 have Z:fB _:=L;rw[<-L]at HX;clear L;obtain⟨ti,m,ht0,ht1,ht2⟩:=AC;have HI:fB _:=m;clear G J m;go_enter func33,ntmps33;go_wp2_with fail;apply dR (F.o _);clear F;go_upto_region 3 with fail;have X6:fB (rB (w.alloc (aB #[dB f,uA a (cB c) y] 40)) w.1.size #[dB f,uA a (cB c) y] 40):=rB.new _ _ _;have B0:fB (zB w (w.alloc (aB #[dB f,uA a (cB c) y] 40))):=aC;generalize w.alloc (aB #[dB f,uA a (cB c) y] 40)=B at *;have m:fB (∀r,zB B r->gD r w.1.size 0 (dB f)/\gD r w.1.size 1 (uA a (cB c) y)):=λr h=>by
  have q:=X6.o.z h;exact⟨q.cell 0,q.cell 1⟩
 obtain⟨x0,x1⟩:=m.o B jD;go_cut [5] (λs G=>∃g,s=uA (cC g) 4 4/\B.1.size<=g/\G.heap[g]?=fA (aB #[tA e,tA N1,tA N2,tA N3] 9 (0,0))/\zB B G)
 case first=>
  go_region_held3 (λr=>r.cell? (iB w.1.size 0)=fA (dB f)/\r.cell? (iB w.1.size 1)=fA (uA a (cB c) y))
   (first|go_keep|exact m.o _ k4|exact m.o _ k3|exact m.o _ G)
   (first
    |(go_at_call 105;(fail_if_success (have q:=G));apply oC (I.o _);intro w2 J;have G:zB B w2:=(by exact xB jD.drew J))
    |(go_at_call 105;have q:=G;clear q;apply oC (U.o _);intro w3 K;have k3:zB B w3:=(by exact xB G K))
    |(go_at_call 106;apply oC (Y.o _);intro O n;have k4:zB B O:=(by exact xB k3 n)))
  all_goals(go_wp2_with fail;go_meet)
  all_goals exact⟨_,rfl,k4.size,by rw[Z.o];exact heap_alloc_new _ _,xB k4 aC⟩
 obtain⟨g0,rfl,Z,G,V⟩:=hcut;rename jA=>w5;have B5:fB _:=xB B0.o V;have HBL:fB (w5.heap[g0]?=fA (aB #[tA e,tA N1,tA N2,tA N3] 9 (0,0))/\w.1.size<=g0):=⟨G,Ua B0.o.size Z⟩
 have HK5:fB _:=(m.o w5 V).2;have y1:=HK5.o;clear x0 x1 m X6 G Z V B0 I U Y HK5;go_wp2;go_loopw [5,26] (λG i wr=>∃(k:Nat)(m:List vB)(g T:Nat),k<=cB c/\i=dB k/\G=uA (cC g) (cB m) T/\cB m<=4+k/\jG m<=24+(sE (c.take k)).size/\fB (m=[e,N1,N2,N3]++(c.take k).map mQ)/\fB (∀j(h:j<cB c),j<k->sJ c[j])/\fB (wr.ownsRow w.1.size 9 1 (uA (cC g) (cB m) T) (cB m) (m.map mA.string))/\zB w wr) (λ_ i _=>cB c-(intOf i).toNat)
 case atStart=>
  exact⟨0,[e,N1,N2,N3],_,_,Oa _,rfl,rfl,by simp,by simp[jG,sE];omega,by show _=_;simp,λj _ h=>absurd h (by omega),⟨rfl,La ⟨g0,4,_,rfl,HBL.o.2,HBL.o.1,Ia _,by simp[maxLen],rfl,rfl⟩⟩,B5.o⟩
 case round=>
  obtain⟨k,m,g,T,G,rfl,rfl,G,G,G,t,u,p⟩:=hrel;by_cases H:k<cB c
  .obtain ⟨b,o,a1,c1',a2,c2',rfl,hb,d0,d1,d2,d3,p1,p2⟩:=(HF.o.z p).at H;obtain⟨q1,q2,q3,q4,q5⟩:=HB.o k H;have z:fB _:=λW(I:zB wr W)=>cq c[k] a1 a2 c1' c2' W (p1.z I) (p2.z I) q1 q2 q3 q4 q5;have Z:=AS c (k+1);have W:=NL c k H;have U:=yZ c[k];have Y:(sE (c.take (k+1))).size=(sE (c.take k)).size+(mQ c[k]).size:=by rw[W,Ka]
   have I:=p.size;by_cases A:sJ c[k]
   .rw[qp A]at z;have HA2:fB (∀j(h:j<cB c),j<k+1->sJ c[j]):=λj h I=>by
     rcases Gc j k with I|I;exact t.o j h I;obtain rfl:j=k:=by omega
     exact A
    have E2:fB (m++[mQ c[k]]=[e,N1,N2,N3]++(c.take (k+1)).map mQ):=by
     show _=_;rw[G.o,Pa H,Ld,Nd];rfl
    have X:(mQ c[k]).toList.isEmpty=gA:=by
     rw[ByteArray.toList_eq];cases h:(mQ c[k]).data.toList with
     |nil=>have e:(mQ c[k]).size=0:=by rw[ByteArray.size,<-Qg,h];rfl
           omega
     |cons x l=>rfl
    have R:((mQ c[k]).toList==[])=gA:=by simpa using X
    have HSS:fB ((sE (c.take (k+1))).size=(sE (c.take k)).size+(mQ c[k]).size/\(sE (c.take (k+1))).size<=(sE c).size):=⟨Y,Z⟩
    clear A t W U Y Z q1 q2 q3 q4 q5 p1 p2;generalize mQ c[k]=S at *;generalize c[k].N=nm at *;generalize c[k].L=li at *;generalize cB c[k].M=m1 at *;generalize cB c[k].Z=m2 at *;go_wp2_with fail;apply oC (z.o _ aC);intro O n;have e:w.1.size<=O.1.size:=by have:=n.size;simp at this;omega
    have v:fB (O.ownsRow w.1.size 9 1 (uA (cC g) (cB m) T) (cB m) (m.map mA.string)/\zB w O):=⟨lC (lC u.o aC) n,xB (xB p aC) n⟩
    clear n u p z d0 d1 d2 d3;go_wp2_with(at_builtin;refine wpList_append_lies _ rfl _ _ _ rfl w.1.size 9 ti _ 1 16 underlying30 HI.o ht0 ht1 ht2 rfl (by omega) (uA (cC g) (cB m) T) (cB m) (m.map mA.string) rfl (by exact lC v.o.1 aC) (iB O.1.size 0) 1 1 [tA S] rfl rfl (by exact jA.news_of_block (heap_alloc_new _ _)) (by simp[mA.oneCell']) (by omega) (by simp[maxLen];omega) (by omega) (by simp;omega) (O.1.size+1) (by simp) ?_;intro g5 e w5 I M hat5 hlt5);have hgw:=qI v.o.1 g rfl;have hB5:=(xB v.o.2 aC).grown M (by simp;omega) (λq hq=>by simp[mA.ownBlock]at hq;omega);have hxs:m.map mA.string++[mA.string S]=(m++[S]).map mA.string:=by simp
    have N:cB (m++[S])=cB m+1:=by simp
    have hsm:jG (m++[S])=jG m+S.size:=by rw[vH];simp[jG]
    rw[hxs,<-N]at I;exact⟨⟨k+1,m++[S],g5,e,by omega,by go_num,by rw[N],by rw[N];omega,by have:=HSS.o;omega,E2.o,HA2.o,I,hB5⟩,by simp[intOf];omega⟩
   .rw[LZ A]at z;have E:fB _:=HNO.o k H A;have D:fB _:=z;have X:ByteArray.empty.toList.isEmpty=iA:=by rw[ByteArray.toList_eq];rfl
    have R:(ByteArray.empty.toList==[])=iA:=by rw[ByteArray.toList_eq];rfl
    clear A t W U Y Z q1 q2 q3 q4 q5 p1 p2 u z;obtain⟨e,U⟩:∃E:vB,E=pA:=⟨_,rfl⟩
    rw[<-U]at D X R E;have e:fB _:=U;clear U;generalize c[k].N=nm at *;generalize c[k].L=li at *;generalize cB c[k].M=m1 at *;generalize cB c[k].Z=m2 at *;go_wp2_with fail;apply oC (D.o _ aC);intro O n;have I:fB _:=xB (xB p aC) n;clear n d0 d1 d2 d3 D;go_wp2;go_ret;exact⟨by rw[E.o,e.o];rfl,I.o⟩
  have E2:fB (xF m=SX):=by
   show _=_;rw[G.o,Ra (by omega),oG,ak,HX.o];simp[xF,Wa]
  have Q:=λj h=>t.o j h (by omega);have I:fB _:=HOK.o Q;have N:=AS c k;obtain⟨h,U,e⟩:=cH u.o;have G:fB (gF 108 #[uA (cC g) (cB m) T] wr (tA (xF m))):=mI g (cB m) T m wr rfl e U h (by omega) (by omega);rw[E2.o]at G;clear u e Q t;go_wp2_with fail;apply oC G.o;intro w2 J;have e:fB _:=xB p J;clear J;go_wp2_with fail;apply oC (HCR.o _);intro w3 K;have h:fB _:=xB e.o K;clear K;go_wp2_with fail;apply oC (HU4.o _);intro O n;have e:fB _:=xB h.o n;clear n;go_wp2;go_ret;exact⟨by rw[I.o];rfl,e.o⟩
def aIh{a:List kB}(h:aDw a)(k:vB):ye (eC a k).Z/\cB (eC a k).M<=1000000000/\cB (eC a k).Z<=1000000000:=by
 unfold eC;cases hg:eD (·.N) k a with
 |none=>exact⟨λi h=>absurd h (by simp),by simp,by simp⟩
 |some t=>
  obtain⟨i,b,e⟩:=Ib (eM hg).1;have:=h i b;rw[e]at this;exact⟨this.2.2.1,this.2.2.2.1,this.2.2.2.2⟩
def LF(c:kC)(f:Int)(a:nC)(j:Nat)(g:List kB)(b met:vB)(w:jA)(Y:uC w a g)(o:aDw g)(y:cB g<=1000000000)(h:b.size<=1048576)(h:met.size<=1048576):
 gF 73 #[oE c,yA #[dB f,uA a (cB g) j],tA b,tA met] w (bB #[dB (sH c f g b met).1,dB (sH c f g b met).2]):=by
 have h:fB (∀W,zB w W->gF 44 #[oE c,yA #[dB f,uA a (cB g) j]] W (vA (pC c f g))):=λW U=>rH c f a j g W (Y.z U) o y;have F:fB (∀W,bM 66 #[tA b] W (vA (xC b))):=λW=>qG b W (by unfold maxLen;omega);have M:fB (∀W,gF 122 #[tA met] W (vA (dF met))):=λW=>kM met W (by omega);have B:fB (∀W,zB w W->lA prog 74 #[yA #[dB f,uA a (cB g) j],tA b] W λe d=>aDy d e (eC g b)/\zB W d):=λW U=>uW f a j g b W (Y.z U) y;obtain⟨G,I,O⟩:=aIh o b;have U:fB (∀W v x C D,jC W v (eC g b).M->jC W x (eC g b).Z->gF 145 #[oE c,yA #[tA (eC g b).N,dB (eC g b).L,.slice v (cB (eC g b).M) C,.slice x (cB (eC g b).Z) D],tA met] W (bB #[dB (uE c (eC g b) met).1,dB (uE c (eC g b) met).2])):=λW v x C D J K=>JU c _ v x C D met W J K G I O;have m:fB (sH c f g b met=if (pC c f g&&xC b&&(met.toList.isEmpty||dF met))=iA then uE c (eC g b) met else(-1,-1)):=rfl;clear Y o G I O;unfold aDy at B;unfold oE at *;generalize xC b=o at *;generalize dF met=W at *;generalize pC c f g=G at *;generalize eC g b=t at *;generalize sH c f g b met=n at *;generalize uE c t met=Y at *;go_enter func73,ntmps73;go_wp2_with fail;apply oC (h.o _ (xB aC aC));intro r s;have z:fB (zB w r):=xB (xB aC aC) s;have Q:fB (rB r w.1.size #[dB c.w,dB c.tl,dB c.ml,dB c.sh,dB c.ha,dB c.sg] 24):=gB (((rB.new _ _ _).alloc _).z s);have R:fB (rB r (w.1.size+1) #[dB f,uA a (cB g) j] 40):=gB (by have:=(rB.new (w.alloc (aB #[dB c.w,dB c.tl,dB c.ml,dB c.sh,dB c.ha,dB c.sg] 24)) #[dB f,uA a (cB g) j] 40).z s;simpa using this);clear s h;by_cases N:G=gA
 .have i:fB (n=(-1,-1)):=by show _=_;rw[m.o,N];rfl
  subst N;clear m;go_wp2;go_ret2;exact⟨tK (by rw[i.o]) (by rw[i.o]),z.o⟩
 have S:G=iA:=by simpa using N
 subst S;clear N;by_cases O:o=gA
 .have i:fB (n=(-1,-1)):=by show _=_;rw[m.o,O];simp
  subst O;clear m;go_wp2_with fail;apply dR (F.o _);go_wp2;go_ret2;exact⟨tK (by rw[i.o]) (by rw[i.o]),z.o⟩
 have T:o=iA:=by simpa using O
 subst T;clear O;by_cases V:met.toList.isEmpty=iA
 .have i:fB (n=Y):=by show _=_;rw[m.o,V];rfl
  clear m;go_wp2_with fail;apply dR (F.o _);clear F M;have A:fB (∀d,zB r d->gD d w.1.size 0 (dB c.w)/\gD d w.1.size 1 (dB c.tl)/\gD d w.1.size 2 (dB c.ml)/\gD d w.1.size 3 (dB c.sh)/\gD d w.1.size 4 (dB c.ha)/\gD d w.1.size 5 (dB c.sg)/\gD d (w.1.size+1) 0 (dB f)/\gD d (w.1.size+1) 1 (uA a (cB g) j)):=λd h=>by
   have q:=Q.o.z h;have p:=R.o.z h;exact⟨q.cell 0,q.cell 1,q.cell 2,q.cell 3,q.cell 4,q.cell 5,p.cell 0,p.cell 1⟩
  obtain⟨o,O,x2,x3,x4,x5,y0,y1⟩:=A.o r jD;go_upto_region 3 with fail;go_region_held3 (λd=>d.cell? (iB w.1.size 0)=fA (dB c.w)/\d.cell? (iB w.1.size 1)=fA (dB c.tl)/\d.cell? (iB w.1.size 2)=fA (dB c.ml)/\d.cell? (iB w.1.size 3)=fA (dB c.sh)/\d.cell? (iB w.1.size 4)=fA (dB c.ha)/\d.cell? (iB w.1.size 5)=fA (dB c.sg)/\d.cell? (iB (w.1.size+1) 0)=fA (dB f)/\d.cell? (iB (w.1.size+1) 1)=fA (uA a (cB g) j))
   (first|go_keep|exact A.o _ I|exact A.o _ H)
   (first
    |(go_at_call 74;refine(B.o _ (z.o.drew)).mono ?_;rintro e L ⟨⟨v,C,x,D,rfl,J,K⟩,k⟩;have H:zB r L:=(by exact xB jD.drew k))
    |(go_at_call 145;apply oC (U.o _ v x C D J K);intro Z E;have I:zB r Z:=(by exact xB H E)))
  all_goals(go_wp2;go_ret2)
  all_goals exact⟨tK (by rw[i.o]) (by rw[i.o]),xB z.o I⟩
 have X:met.toList.isEmpty=gA:=by simpa using V
 clear V;rw[X]at m;by_cases P:W=gA
 .have i:fB (n=(-1,-1)):=by show _=_;rw[m.o,P];simp
  subst P;clear m;go_wp2_with fail;apply dR (F.o _);go_wp2_with fail;apply oC (M.o _);intro L k;have G:fB (zB w L):=xB z.o k;clear k;go_wp2;go_ret2;exact⟨tK (by rw[i.o]) (by rw[i.o]),G.o⟩
 have G:W=iA:=by simpa using P
 have i:fB (n=Y):=by show _=_;rw[m.o,G];rfl
 subst G;clear m P;go_wp2_with fail;apply dR (F.o _);go_wp2_with fail;apply oC (M.o _);intro l u;have m:fB (zB w l):=xB z.o u;have A:fB (∀d,zB l d->gD d w.1.size 0 (dB c.w)/\gD d w.1.size 1 (dB c.tl)/\gD d w.1.size 2 (dB c.ml)/\gD d w.1.size 3 (dB c.sh)/\gD d w.1.size 4 (dB c.ha)/\gD d w.1.size 5 (dB c.sg)/\gD d (w.1.size+1) 0 (dB f)/\gD d (w.1.size+1) 1 (uA a (cB g) j)):=λd h=>by
  have q:=(Q.o.z u).z h;have p:=(R.o.z u).z h;exact⟨q.cell 0,q.cell 1,q.cell 2,q.cell 3,q.cell 4,q.cell 5,p.cell 0,p.cell 1⟩
 clear F M Q R z u;obtain⟨o,O,x2,x3,x4,x5,y0,y1⟩:=A.o l jD;go_upto_region 3 with fail;go_region_held3 (λd=>d.cell? (iB w.1.size 0)=fA (dB c.w)/\d.cell? (iB w.1.size 1)=fA (dB c.tl)/\d.cell? (iB w.1.size 2)=fA (dB c.ml)/\d.cell? (iB w.1.size 3)=fA (dB c.sh)/\d.cell? (iB w.1.size 4)=fA (dB c.ha)/\d.cell? (iB w.1.size 5)=fA (dB c.sg)/\d.cell? (iB (w.1.size+1) 0)=fA (dB f)/\d.cell? (iB (w.1.size+1) 1)=fA (uA a (cB g) j))
  (first|go_keep|exact A.o _ I|exact A.o _ H)
  (first
   |(go_at_call 74;refine(B.o _ (m.o.drew)).mono ?_;rintro e L ⟨⟨v,C,x,D,rfl,J,K⟩,k⟩;have H:zB l L:=(by exact xB jD.drew k))
   |(go_at_call 145;apply oC (U.o _ v x C D J K);intro Z E;have I:zB l Z:=(by exact xB H E)))
 all_goals(go_wp2;go_ret2)
 all_goals exact⟨tK (by rw[i.o]) (by rw[i.o]),xB m.o I⟩
section
open Go.Maps
def aCh{H:Type}{P:Program}{w:jA}{k:oA}{R:mA->Option (DataW H×List MemPlace)}{b n:Nat}{D:DataW H}(h:w.ownsMap P k R b n D):Maps.size D<=n:=by
 obtain⟨d,a,e,F,c,rfl⟩:=h;rw[size_eq,length_sorted,Xa,Qg];exact c
def qb{H:Type}{P:Program}{w:jA}{k:oA}{R:mA->Option (DataW H×List MemPlace)}{b n l:Nat}{D e:DataW H}(h:w.ownsMap P k R b n D)(g:w.ownsMap P k R b l e):D=e:=by
 obtain⟨o,d,i,F,p,rfl⟩:=h;obtain⟨f,c,a,m,j,rfl⟩:=g;rw[i]at a;simp only[Qa,Obj.map.injEq]at a;rw[a.1]
def aCg{w:jA}{b n M:Nat}{D:DataW Unit}{m:vB}{c d:Int}(h:w.ownsMap prog 9 (plainElem prog 3) b n (D.put (kL m) (vI d)))(g:Tidy D)(f:Maps.size D<=M)(a:D.atKey (kL m) (vI 0)=vI c)(i:c≠0):w.ownsMap prog 9 (plainElem prog 3) b M (D.put (kL m) (vI d)):=by
 have j:has D (kL m)=iA:=by
  cases e:has D (kL m) with
  |true=>rfl
  |false=>
   rw[atKey_of_not_has e]at a;simp[vI]at a;exact absurd a.symm i
 have:=QJ h;rw[Maps.size_put g,j,Ma rfl]at this;exact this.mono f
structure MH(w w1:World)(x:Nat)(lim:Int)(lm sm cm:Nat)(iv iv':Value)(hs:List rI):Prop where
 blk:rB w1 x #[dB lim,.map (fA lm),.map (fA sm),.map (fA cm),iv'] 233
 row:w1.ownsRow 0 342 2 iv' (cB hs-1) (fK (yO hs))
 same:iv'.ownBlock=iv.ownBlock
 turn:jB (λk=>k=x∨iv.ownBlock=fA k) w w1
def kR.top{w:jA}{S:Nat->Prop}{x:Nat}{t:kB}{M i j d:Nat}{g:mA}{Q:List (pB×Nat)}{a:List rI}{D:DataW Unit}(h:kR w S x t M i j d g Q a D)(c:0<cB a):∃q∈Q,q.2=(qD a 0).b:=by
 have:(qD a 0).b∈Q.map (·.2):=h.perm.mem_iff.1 (Md.2 ⟨qD a 0,by rw[EI c];exact Gb c,rfl⟩);obtain⟨q,f,e⟩:=Md.1 this;exact⟨q,f,e⟩
def we{a:List rI}{Q:List (pB×Nat)}{q:pB×Nat}(h:nJ a)(d:0<cB a)(i:(a.map (·.b)).Perm (Q.map (·.2)))(c:zC (λq:pB×Nat=>q.1.s) Q)(j:q∈Q)(g:q.2=(qD a 0).b):
 ((yO a).map (·.b)).Perm ((yE (λq:pB×Nat=>q.1.s) q.1.s Q).map (·.2)):=by
 obtain⟨_,k,_⟩:=qP h d;have e:(q.2::(yO a).map (·.b)).Perm (Q.map (·.2)):=by
  rw[g];exact(k.map (·.b)).trans i
 have f:(q.2::(yE (λq:pB×Nat=>q.1.s) q.1.s Q).map (·.2)).Perm (Q.map (·.2)):=(NC c j).map (λq:pB×Nat=>q.2);exact(List.perm_cons _).1 (e.trans f.symm)
def kR.dropped {w V v:jA} {S:Nat->Prop} {x:Nat} {t:kB} {M J u r n:Nat} {I A:mA} {Q:List (pB×Nat)} {z:List rI} {D:DataW Unit} {q:pB×Nat} {c:Nat} (h:kR w S x t M J u r I Q z D) (T:0<cB z) (U:q∈Q) (Z:q.2=(qD z 0).b)
 (j:MH w V x t.L J u r I A z) (a:jB (λk=>k=u\/k=r) V v) (B:v.ownsMap prog 9 wE u n (DataW.del (fE (Q.map λq=>(q.1.s,nF q.2))) (kL q.1.s)))
 (C:v.ownsMap prog 9 (plainElem prog 3) r M (D.put (kL (cE q.1.s)) (vI c))) (b:sI cE t.Z (cE q.1.s)=c+1):
 kR v S x ⟨t.N,t.L,t.M,yE (·.s) q.1.s t.Z⟩ M J u r A (yE (λq:pB×Nat=>q.1.s) q.1.s Q) (yO z) (D.put (kL (cE q.1.s)) (vI c))/\jB S w v:=by
 have P:=fD h.Z h.blk;have R:=fD h.cnts h.blk;have O:=fD h.lims h.blk;have K:=yG h.lims h.row;have L:=yG h.Z h.row;have N:=yG h.cnts h.row;have G:zC (λq:pB×Nat=>q.1.s) Q:=by
  rw[<-zW (key':=λp:pB=>p.s) (λq:pB×Nat=>q.1) (λ_=>rfl),h.q1];exact h.rs
 obtain⟨b,J,p3⟩:=qP h.heap T;have F:q.1∈t.Z:=by rw[<-h.q1];exact List.mem_map_of_mem U
 have f:∀p∈yE (λq:pB×Nat=>q.1.s) q.1.s Q,p∈Q:=λp j=>(aS.1 j).1
 have y:DataW.del (fE (Q.map λq=>(q.1.s,nF q.2))) (kL q.1.s)=fE ((yE (λq:pB×Nat=>q.1.s) q.1.s Q).map λq=>(q.1.s,nF q.2)):=
  WS (key:=λq:pB×Nat=>q.1.s) (λq=>nF q.2) q.1.s Q
 have o:∀g,¬(g=x\/I.ownBlock=fA g)->¬(g=u\/g=r)->g<w.1.size->v.heap[g]?=w.heap[g]?:=λg X Y l=>by
  rw[a.block g (by have:=j.turn.size;omega) Y,j.turn.block g l X]
 refine⟨?_,?_⟩
 ·exact {
   blk:=a.blk j.blk (λe=>by obtain e|e:=e;exact P e.symm;exact R e.symm)
   lims:=a.map (j.turn.map h.lims (λe=>by obtain e|e:=e;exact O e;exact K e)) (λe=>by obtain e|e:=e;exact h.d1 e;exact h.d2 e)
   Z:=by
    have:=QJ B;rw[y,pM]at this;exact this
   cnts:=C
   cnt:=λm=>by
    have E:=au (met:=cE) h.rs F m
    by_cases e:cE q.1.s=m
    ·rw[if_pos e]at E
     rw[<-e,atKey_put_same (k:=kL (cE q.1.s)) h.cnts.isMap trivial];rw[<-e]at E;have:sI cE (yE (·.s) q.1.s t.Z) (cE q.1.s)=c:=by omega
     rw[this]
    ·rw[if_neg e]at E
     rw[atKey_put_other (λW=>e (aBc W).symm),h.cnt m,E];rfl
   q1:=by rw[xZ (key':=λp:pB=>p.s) (λq:pB×Nat=>q.1) (λ_=>rfl),h.q1]
   cells:=λp d=>by
    have i:=f p d;refine(o p.2 (λe=>?_) (λe=>?_) (eB (h.cells p i))).trans (h.cells p i)
    ·obtain e|e:=e
     ·exact h.dx p i e
     ·exact(h.di _ e).2 p i rfl
    ·obtain e|e:=e
     ·exact fD h.Z (h.cells p i) e.symm
     ·exact fD h.cnts (h.cells p i) e.symm
   row:=by
    rw[p3];exact a.row j.row (λg l e=>by
     rw[j.same]at l;obtain rfl|rfl:=e
     ·exact L l
     ·exact N l)
   heap:=b
   perm:=we h.heap T h.perm G U Z
   early:=λs H p d e=>h.early s (J.mem_iff.1 (List.mem_cons_of_mem _ H)) p (f p d) e
   rm:=h.rm
   rs:=gP h.rs
   sx:=h.sx
   sl:=h.sl
   ss:=h.ss
   sc:=h.sc
   sq:=λp d=>h.sq p (f p d)
   si:=λg l=>h.si g (by rw[<-j.same];exact l)
   d1:=h.d1
   d2:=h.d2
   d3:=h.d3
   nd:=h.nd.sublist (List.Sublist.map _ List.filter_sublist)
   dx:=λp d=>h.dx p (f p d)
   di:=λg l=>⟨(h.di g (by rw[<-j.same];exact l)).1,λp d=>(h.di g (by rw[<-j.same];exact l)).2 p (f p d)⟩ }
 ·refine(j.turn.mono λk _ e=>by obtain rfl|e:=e;exact h.sx;exact h.si _ e).trans' (a.mono λk _ e=>?_)
  obtain rfl|rfl:=e
  ·exact h.ss
  ·exact h.sc
def kR.again{w O r:jA}{S:Nat->Prop}{x:Nat}{t:kB}{M y z u:Nat}{F n:mA}{Q:List (pB×Nat)}{j:List rI}{D:DataW Unit}{q:pB×Nat}{g l B:Nat}(h:kR w S x t M y z u F Q j D)(U:0<cB j)(C:q∈Q)(W:q.2=(qD j 0).b)
(v:MH w O x t.L y z u F n j)
(A:rB r x #[dB t.L,.map (fA y),.map (fA z),.map (fA u),uA (cC g) (cB (yO j)+1) l] 233)
(E:r.ownsRow 0 342 2 (uA (cC g) (cB (yO j)+1) l) (cB (yO j)+1) (fK (gR (yO j) ⟨q.2,q.1.n⟩)))(o:n.ownBlock=fA g\/O.1.size<=g)(c:jB (λk=>k=x\/n.ownBlock=fA k) O r)(b:B<=w.1.size)(V:∀g,B<=g->w.1.size<=g->S g):
 kR r S x t M y z u (uA (cC g) (cB (yO j)+1) l) Q (gR (yO j) ⟨q.2,q.1.n⟩) D/\jB S w r:=by
 have K:=fD h.Z h.blk;have L:=fD h.cnts h.blk;have J:=fD h.lims h.blk;have G:=yG h.lims h.row;have H:=yG h.Z h.row;have I:=yG h.cnts h.row;obtain⟨Z,P,b⟩:=qP h.heap U;obtain⟨b,R,m⟩:=CQ Z ⟨q.2,q.1.n⟩;have X:=v.turn.size;have a:=v.turn.trans' (c.mono λk _ e=>by rw[<-v.same];exact e);have N:=λq C=>eB (h.cells q C);have Y:=eB h.blk;have i:F.ownBlock=fA g\/w.1.size<=g:=by
  obtain e|e:=o;exact Ca (by rw[<-v.same];exact e);exact La (by omega)
 refine⟨?_,?_⟩
 .exact { h with
   blk:=A
   lims:=a.map h.lims (λe=>by obtain e|e:=e;exact J e;exact G e)
   Z:=a.map h.Z (λe=>by obtain e|e:=e;exact K e;exact H e)
   cnts:=a.map h.cnts (λe=>by obtain e|e:=e;exact L e;exact I e)
   cells:=λp d=>a.blk (h.cells p d) (λe=>by
    obtain e|e:=e;exact h.dx p d e;exact (h.di _ e).2 p d rfl)
   row:=by rw[m];exact E
   heap:=b
   perm:=by
    refine(R.map _).trans ?_;rw[Fc];show(q.2::(yO j).map (·.b)).Perm _;rw[W];exact(P.map (·.b)).trans h.perm
   early:=λs m p d e=>by
    rcases Lb.1 (R.mem_iff.1 m) with rfl|m;have:=cS h.nd d C e;rw[this];exact Xd _;exact h.early s (P.mem_iff.1 (Sb _ m)) p d e
   si:=λT f=>by
    simp only[mA.ownBlock,Qa]at f;subst f;obtain e|e:=i;exact h.si g e;exact V g (by omega) e
   di:=λT f=>by
    simp only[mA.ownBlock,Qa]at f;subst f;obtain e|e:=i;exact h.di g e;exact ⟨by omega,λp d=>by have:=N p d;omega⟩ }
 exact a.mono λk _ e=>by
  obtain rfl|e:=e;exact h.sx;exact h.si _ e
def dw{a:List rI}{u:Int}(c:nJ a)(b:0<cB a)(d:(qD a 0).t<=u):(yO a).countP (λs=>decide (s.t<=u))+1=a.countP (λs=>decide (s.t<=u)):=by
 obtain⟨_,e,_⟩:=qP c b;rw[<-e.countP_eq,List.countP_cons_of_pos (by simpa using d)]
def vh{a:List rI}{u:Int}{s:rI}(b:nJ a)(c:u<s.t):(gR a s).countP (λs=>decide (s.t<=u))=a.countP (λs=>decide (s.t<=u)):=by
 obtain⟨_,d,_⟩:=CQ b s;rw[d.countP_eq,List.countP_cons_of_neg (by simp;omega)]
def aBk{R:Nat->Prop}(h:∃n,R n):∃m,R m/\∀k,R k->m<=k:=by
 obtain⟨n,d⟩:=h;induction n using Nat.strongRecOn with
 |_ n e=>
  by_cases a:∃k,k<n/\R k
  .obtain ⟨k,a,c⟩:=a;exact e k a c
  exact ⟨n,d,λk c=>Nat.le_of_not_lt λb=>a ⟨k,b,c⟩⟩
end
section
open Go.Maps
def ia{P:Program}{w:jA}{b:Array Oper}{o:Oper}{a:Act}{K:Act->jA->Prop}{Q:Exit->Act->jA->Prop}{E:Prop}{f:FuncId}{args:Array mA}(c:o.guard=eA)(i:(execOp a.eval o).run P w=.ok (.enter f args) w)
(h:lA P f args w (λe d=>∃v,e=zA v/\K (a.put o.dst v) d)):if Region.wanted o (yielded b a.tmps)=iA then Oper.wp P o a w K Q else E:=by
 have j:Region.wanted o (yielded b a.tmps)=iA:=by simp[Region.wanted,c]
 rw[Ma j];unfold Oper.wp;rw[i];refine h.mono ?_;rintro e d ⟨v,rfl,g⟩;exact g
def aAg(x Y m a:Nat)(t:Int)(X:mA)(key:vB)(Q:List (pB×Nat))(D:DataW Unit)(M c:Nat)(w:jA)(z:rB w x #[dB t,.map (fA Y),.map (fA m),.map (fA a),X] 233)
(I:w.ownsMap prog 9 wE m (cB Q) (fE (Q.map λq=>(q.1.s,nF q.2))))(U:w.ownsMap prog 9 (plainElem prog 3) a M D)(l:D.atKey (kL (cE key)) (vI 0)=vI ((c+1:Nat):Int))(V:m≠a)(h:key.size<=1000000000)(o:M<=1000000000)(o:c<=1000000000)(T:∀W,jB (·=m) w W->iH W):
 lA prog 317 #[.pointer (cC x),tA key] w λe v=>e=zA (bB #[])/\v.ownsMap prog 9 wE m (cB Q) (DataW.del (fE (Q.map λq=>(q.1.s,nF q.2))) (kL key))/\v.ownsMap prog 9 (plainElem prog 3) a M (D.put (kL (cE key)) (vI c))/\jB (λk=>k=m\/k=a) w v:=by
 have o:fB (keyOf prog 9 (tA key)=fA (kL key)):=zM (by unfold maxLen;omega);have C:fB _:=zM (bS key);have F:fB (∀W,iH W->gF 228 #[tA key] W (tA (cE key))):=λW G=>uY key W h G;obtain⟨u,s⟩:∃u,u=c+1:=⟨_,rfl⟩
 rw[<-s]at l;have h:(u:Int)-1=(c:Nat):=by omega
 have H:(u:Int)≠0:=by omega
 have h:IntKind.i64.wrap ((c:Nat):Int)=(c:Nat):=by
  simp only[IntKind.wrap,IntKind.bits,IntKind.signed];simp;omega
 have E:fB (∀W,W.ownsMap prog 9 (plainElem prog 3) a M D->(Instr.lookup 227 (.map (fA a)) (tA (cE key)) gA).run prog W=.ok (dB (u:Int)) W):=λW h=>OW h l (bS key);have P:=gB z;have N:=gB I;have L:=gB U;have O:=gB T;have J:=fD I z;have G:gD w x 2 (.map (fA m)):=z.cell 2;have B:fB (∀W,W.ownsMap prog 9 (plainElem prog 3) a M D->∃r,(Instr.mapUpdate 227 (.map (fA a)) (tA (cE key)) (dB (c:Nat))).run prog W=.ok () r/\r.ownsMap prog 9 (plainElem prog 3) a M (D.put (kL (cE key)) (vI c))/\jB (·=a) W r):=λW h=>by
  obtain⟨r,p,j,n⟩:=h.store pL underlying227 (by unfold maxLen;omega) (val:=dB (c:Nat)) C.o (plainElem_int underlying3 (WalkArith.wf_i64 (by omega)));exact⟨r,p,aCg j (h.tidy pL) (aCh h) l H,jB.mapped n⟩
 clear z I U l T s;generalize cE key=mk at *;go_enter func317,ntmps317;go_upto_region 1 with(at_delete;refine wpList_delete_own _ rfl _ _ 228 9 rfl 236 pL underlying228 wE m _ _ rfl N.o _ _ rfl o.o ?_;intro o d b)
 have g:=jB.mapped b;have h:=gB d;have I:=gB g;have R:fB (rB o x #[dB t,.map (fA Y),.map (fA m),.map (fA a),X] 233):=g.blk P.o J.symm;have Z:fB (o.ownsMap prog 9 (plainElem prog 3) a M D):=g.map L.o V.symm;have m:fB (iH o):=O.o o g;have J:gD o x 3 (.map (fA a)):=R.o.cell 3;clear d b g P N L O G;go_region_law (refine ia (f:=228) (args:=#[tA key]) rfl (by go_simp) ?_;apply oC (F.o _ (m.o.z jD.drew));intro A G;have y:zB o A:=(xB (Below.refl o.1.size o).drew G);have K:=(jB.of (S:=λ_=>False) y).map Z.o (λe=>e);have m:=E.o A K;obtain⟨r,p,j,n⟩:=B.o A K;have m:gD A x 3 (.map (fA a)):=(R.o.z y).cell 3;refine⟨_,rfl,?_⟩)
 all_goals(go_wp2;go_end0)
 all_goals exact⟨rfl,n.map ((jB.of (S:=λ_=>False) y).map h.o (λe=>e)) V,j,((I.o.mono λi _ e=>Ca e).trans' (jB.of y)).trans' (n.mono λi _ e=>La e)⟩
end
section
open Go.Maps
def ua(p q:mA)(w:jA):(Instr.field 342 (yA #[p,q]) 0).run prog w=.ok p w:=by kernel_rfl
def iq(S:Nat->Prop)(x:Nat)(t:kB)(M:Nat)(u:Int)(wr:jA)(n:Nat):Prop:=
 ∃a e f c d Q b D,kR wr S x ⟨t.N,t.L,t.M,a⟩ M e f c d Q b D/\a.filter (λp=>decide (u<p.n))=t.Z.filter (λp=>decide (u<p.n))/\(∀p∈a,p∈t.Z)/\cB a<=cB t.Z/\b.countP (λs=>decide (s.t<=u))=n
def CJ{R:Nat->Prop}(h:∃n,R n):R (Classical.epsilon λm=>R m/\∀k,R k->m<=k)/\∀k,R k->(Classical.epsilon λm=>R m/\∀k,R k->m<=k)<=k:=Classical.epsilon_spec (aBk h)
def aBl{R a:Nat->Prop}{n:Nat}(h:a n)(b:n<Classical.epsilon λm=>R m/\∀k,R k->m<=k):(Classical.epsilon λm=>a m/\∀k,a k->m<=k)<Classical.epsilon λm=>R m/\∀k,R k->m<=k:=
 Nat.lt_of_le_of_lt ((CJ ⟨n,h⟩).2 n h) b
def aAj{w:jA}{S:Nat->Prop}{x:Nat}{t:kB}{M m o j:Nat}{l:mA}{Q:List (pB×Nat)}{b:List rI}{D:DataW Unit}{i:List pB}{u d c:Int}(h:kR w S x ⟨t.N,t.L,t.M,i⟩ M m o j l Q b D)(C:u=c-d)(A:i.filter (λp=>decide (u<p.n))=t.Z.filter (λp=>decide (u<p.n)))(f:¬(0<cB b/\(qD b 0).t<=u)):
 yD w S x (aF d c t) M:=by
 have y:∀p∈i,u<p.n:=λp B=>by
  have g:p∈Q.map (·.1):=by rw[h.q1];exact B
  obtain⟨q,k,rfl⟩:=Md.1 g;have z:=h.perm.mem_iff.2 (Tc k);obtain⟨s,a,e⟩:=Md.1 z;have E:=h.early s a q k e.symm;have F:=aKl h.heap a;have v:=List.length_pos_of_mem a;have G:¬(qD b 0).t<=u:=λr=>f ⟨v,r⟩;omega
 rw[uz C A y];exact⟨m,o,j,l,Q,b,D,h⟩
def aEv{w F y:jA}{S:Nat->Prop}{x:Nat}{t:kB}{M A v j n:Nat}{E m:mA}{Q:List (pB×Nat)}{i:List rI}{D:DataW Unit}{d:List pB}{u:Int}{q:pB×Nat}{c:Nat}(h:kR w S x ⟨t.N,t.L,t.M,d⟩ M A v j E Q i D)(O:d.filter (λp=>decide (u<p.n))=t.Z.filter (λp=>decide (u<p.n)))(l:∀p∈d,p∈t.Z)(P:cB d<=cB t.Z)
(B:0<cB i)(T:(qD i 0).t<=u)(C:q∈Q)(L:q.2=(qD i 0).b)(U:q.1.n<=u)(R:MH w F x t.L A v j E m i)(a:jB (λk=>k=v\/k=j) F y)(o:y.ownsMap prog 9 wE v n (DataW.del (fE (Q.map λq=>(q.1.s,nF q.2))) (kL q.1.s)))
(r:y.ownsMap prog 9 (plainElem prog 3) j M (D.put (kL (cE q.1.s)) (vI c)))(N:sI cE d (cE q.1.s)=c+1):
 (∃k,iq S x t M u y k/\k<i.countP (λs=>decide (s.t<=u)))/\jB S w y:=by
 obtain⟨J,K⟩:=h.dropped (c:=c) B C L R a o r N;refine⟨⟨_,⟨_,A,v,j,m,_,_,_,J,?_,λp g=>l p (aS.1 g).1,?_,rfl⟩,?_⟩,K⟩
 .rw[<-O];unfold yE;rw[List.filter_filter];apply List.filter_congr;intro p g;by_cases e:p.s=q.1.s
  .have z:q.1∈d:=by have:=Tc (f:=(·.1)) C;rw[h.q1]at this;exact this
   have G:=gM h.rs g;have H:=gM h.rs z;have:p=q.1:=by
    have I:fA p=fA q.1:=by rw[<-G,<-H];show eD (λp:pB=>p.s) p.s d=eD (λp:pB=>p.s) q.1.s d;rw[e]
    exact Lc I
   rw[this,Ub (by omega)];simp
  rw[aE e];simp
 .have:cB (yE (·.s) q.1.s d)<=cB d:=Pc _ _;exact Ua this P
 have:=dw h.heap B T;omega
def aAi{w A j:jA}{S:Nat->Prop}{x:Nat}{t:kB}{M o r m:Nat}{C d:mA}{Q:List (pB×Nat)}{c:List rI}{D:DataW Unit}{l:List pB}{u:Int}{q:pB×Nat}{g e B:Nat}(h:kR w S x ⟨t.N,t.L,t.M,l⟩ M o r m C Q c D)(K:l.filter (λp=>decide (u<p.n))=t.Z.filter (λp=>decide (u<p.n)))(i:∀p∈l,p∈t.Z)(L:cB l<=cB t.Z)
(v:0<cB c)(P:(qD c 0).t<=u)(O:q∈Q)(J:q.2=(qD c 0).b)(H:u<q.1.n)(N:MH w A x t.L o r m C d c)
(y:rB j x #[dB t.L,.map (fA o),.map (fA r),.map (fA m),uA (cC g) (cB (yO c)+1) e] 233)
(z:j.ownsRow 0 342 2 (uA (cC g) (cB (yO c)+1) e) (cB (yO c)+1) (fK (gR (yO c) ⟨q.2,q.1.n⟩)))(f:d.ownBlock=fA g\/A.1.size<=g)(a:jB (λk=>k=x\/d.ownBlock=fA k) A j)(G:B<=w.1.size)(I:∀g,B<=g->w.1.size<=g->S g):
 (∃k,iq S x t M u j k/\k<c.countP (λs=>decide (s.t<=u)))/\jB S w j:=by
 obtain⟨E,F⟩:=h.again v O J N y z f a G I;refine⟨⟨_,⟨l,o,r,m,_,_,_,_,E,K,i,L,rfl⟩,?_⟩,F⟩;have R:=dw h.heap v P;rw[vh (qP h.heap v).1 (by exact H)];omega
def jy(x:Nat)(t:kB)(J I u:Int)(S:Nat->Prop)(M:Nat)(b w:jA)(h:yD w S x t M)(r:zB b w)(Z:iH b)(hS:∀g,S g->b.1.size<=g)(hu:u=I-J)(hl:cB t.Z<=1000000000)(hM:M<=1000000000)(Y:∀p∈t.Z,p.s.size<=1000000000):
 lA prog 288 #[.pointer (cC x),dB u] w λe o=>e=zA (bB #[])/\yD o (λg=>S g\/w.1.size<=g) x (aF J I t) M/\jB S w o:=by
 have G:fB (iq (λg=>S g\/w.1.size<=g) x t M u w ((Classical.epsilon λm=>iq (λg=>S g\/w.1.size<=g) x t M u w m/\∀k,iq (λg=>S g\/w.1.size<=g) x t M u w k->m<=k))):=by
  refine(CJ ?_).1;obtain⟨b,U,K,iv,Q,i,D,h⟩:=h;exact⟨_,t.Z,b,U,K,iv,Q,i,D,h.keep λg _ i=>⟨rfl,Ca i⟩,rfl,λp s=>s,Ia _,rfl⟩
 have HUT:fB (∀W,jB S w W->iH W):=λW s=>Z.z (r.trans (s.below r.size λk Y i=>by have:=hS k i;omega));have HKS:fB _:=Y;have HEU:fB _:=hu;have O:fB _:=hl;clear h r Z hS Y hu hl;go_enter func288,ntmps288;go_wp2;go_loopw [4] (λ_ wr=>fB (∃n,iq (λg=>S g\/w.1.size<=g) x t M u wr n)/\fB (jB S w wr)) (λ_ wr=>Classical.epsilon λm=>iq (λg=>S g\/w.1.size<=g) x t M u wr m/\∀k,iq (λg=>S g\/w.1.size<=g) x t M u wr k->m<=k)
 case atStart=>exact⟨⟨_,G.o⟩,jB.refl _ _⟩
 case round=>
  obtain⟨HN,Y⟩:=hrel;obtain⟨Z,_⟩:=CJ HN.o;have HLT:fB (∀W k,iq (λg=>S g\/w.1.size<=g) x t M u W k->k<(Classical.epsilon λm=>iq (λg=>S g\/w.1.size<=g) x t M u wr m/\∀k,iq (λg=>S g\/w.1.size<=g) x t M u wr k->m<=k)->(Classical.epsilon λm=>iq (λg=>S g\/w.1.size<=g) x t M u W m/\∀k,iq (λg=>S g\/w.1.size<=g) x t M u W k->m<=k)<(Classical.epsilon λm=>iq (λg=>S g\/w.1.size<=g) x t M u wr m/\∀k,iq (λg=>S g\/w.1.size<=g) x t M u wr k->m<=k)):=λW k h1 h2=>aBl h1 h2;obtain⟨m,b,U,K,iv,Q,i,D,d,hf,P,N,L⟩:=Z;have HI:=gB d;have HF:=gB hf;have X:=gB P;have F:=gB N;have HCN:=gB L;have hwr:=Y.o.size;clear G hf P N L HN;by_cases r:0<cB i
  .obtain ⟨g,a,hiv⟩:∃g a,iv=uA (cC g) (cB i) a:=by
    obtain⟨_,e⟩|⟨g,a,cur,e,_⟩:=d.row.2;exact absurd e (by omega);exact ⟨g,a,e⟩
   subst hiv;obtain⟨G,_⟩:=EH d.row rfl;have H:=(d.di g rfl).1;have Z:=gB G;have x4:gD wr x 4 (uA (cC g) (cB i) a):=d.blk.cell 4;have c1:gD wr g 1 (dB (qD i 0).t):=by have:=(G.cells (k:=0) r).2.1;simpa using this
   by_cases ht:(qD i 0).t<=u
   .have hhl:cB i=cB m:=by
     have h1:=d.perm.length_eq;have h2:=Kd List.length d.q1;simp only[Xa]at h1 h2;omega
    have hh9:cB i<=1000000000:=by have:=F.o;have:=O.o;omega
    obtain⟨q,Z,a0⟩:=d.top r;have HQ:=gB Z;have HQB:=gB a0;have V:fB (lA prog 316 #[.pointer (fA (iB x 4))] wr λe o=>e=zA (yA #[.pointer (cC ((qD i 0).b)),dB (qD i 0).t])/\rB o x (#[dB t.L,.map (fA b),.map (fA U),.map (fA K),uA (cC g) (cB i) a].setIfInBounds 4 (uA (cC g) (cB i-1) a)) 233/\yH o g a (yO i)/\jB (λk=>k=x\/k=g) wr o):=aGg x 4 g a i wr _ _ d.blk rfl G H r hh9;have HTL:=gB ht;clear hhl G;rw[<-a0]at V;clear a0;generalize G:(qD i 0).t=TT at *;have HTT:fB _:=G;clear G;go_wp2_with fail;apply oC V.o;rintro y ⟨G,hm1,j⟩;have hp3:=(qP d.heap r).2.2;have PP:fB (MH wr y x t.L b U K (uA (cC g) (cB i) a) (uA (cC g) (cB i-1) a) i):=gB {
     blk:=by simpa using G
     row:=by have:=bX (B:=0) hm1 (Oa _);rw[hp3]at this;exact this
     same:=rfl
     turn:=j.mono λk _ e=>by obtain e|e:=e;exact Ca e;exact La (by rw[e];rfl) }
    have hqc:=d.cells q Z;have hqg:=(d.di g rfl).2 q Z;have hqx:=d.dx q Z;have Q1:fB (rB y q.2 #[tA q.1.s,dB q.1.n] 109):=j.blk hqc (λe=>by obtain e|e:=e;exact hqx e;exact hqg e);have hfd:=ua (.pointer (cC q.2)) (dB TT);have v0:gD y q.2 0 (tA q.1.s):=Q1.o.cell 0;have v1:gD y q.2 1 (dB q.1.n):=Q1.o.cell 1;have TS1:fB (jB S w y):=Y.o.trans (j.mono λk _ e=>by
     obtain rfl|rfl:=e;exact d.sx;exact d.si _ rfl)
    have hqs:q.1∈m:=by have:=Tc (f:=(·.1)) Z;rw[d.q1]at this;exact this
    have Z:=HKS.o q.1 (X.o q.1 hqs);clear G hm1 hqc x4 c1 V H hp3;by_cases hL:q.1.n<=u
    .obtain ⟨c,hc⟩:∃c,sI cE m (cE q.1.s)=c+1:=⟨sI cE (yE (·.s) q.1.s m) (cE q.1.s),by have:=au (met:=cE) d.rs hqs (cE q.1.s);rw[Ma rfl]at this;exact this⟩
     have G:c<=1000000000:=by have:=WJ cE m (cE q.1.s);have:=F.o;have:=O.o;omega
     have m:fB (lA prog 317 #[.pointer (cC x),tA q.1.s] y λe o=>e=zA (bB #[])/\o.ownsMap prog 9 wE U (cB Q) (DataW.del (fE (Q.map λq=>(q.1.s,nF q.2))) (kL q.1.s))/\o.ownsMap prog 9 (plainElem prog 3) K M (D.put (kL (cE q.1.s)) (vI c))/\jB (λk=>k=U\/k=K) y o):=
      aAg x b U K t.L _ q.1.s Q D M c y PP.o.blk (j.map d.Z (λe=>by obtain e|e:=e;exact fD d.Z d.blk e;exact yG d.Z d.row (by rw[e];rfl))) (j.map d.cnts (λe=>by obtain e|e:=e;exact fD d.cnts d.blk e;exact yG d.cnts d.row (by rw[e];rfl))) (by rw[d.cnt,hc]) d.d3 Z hM G (λW s=>HUT.o W (TS1.o.trans (s.mono λk _ e=>by rw[e];exact d.ss)))
     have G:=gB hc;clear hc d j;go_wp2_with fail;apply oC m.o;rintro w4 ⟨R,T,E⟩;have HE:=gB (aEv HI.o HF.o X.o F.o r (by rw[HTT.o];exact HTL.o) HQ.o HQB.o hL PP.o E R T G.o);clear R T E m;go_wp2;obtain⟨⟨k,A,C⟩,Z⟩:=HE.o;exact⟨⟨⟨k,A⟩,Y.o.trans Z⟩,HLT.o _ k A (by rw[HCN.o]at C;exact C)⟩
    have hL':u<q.1.n:=by omega
    have O:=(qP d.heap r).2.2;have m:fB (∀W,zB y W->lA prog 274 #[.pointer (fA (iB x 4)),yA #[.pointer (cC q.2),dB q.1.n]] W λe o=>e=zA (bB #[])/\∃G z,rB o x (#[dB t.L,.map (fA b),.map (fA U),.map (fA K),uA (cC g) (cB i-1) a].setIfInBounds 4 (uA (cC G) (cB (yO i)+1) z)) 233/\
     o.ownsRow 0 342 2 (uA (cC G) (cB (yO i)+1) z) (cB (yO i)+1) (fK (gR (yO i) ⟨q.2,q.1.n⟩))/\((mA.slice (cC g) (cB i-1) a).ownBlock=fA G\/W.1.size<=G)/\jB (λk=>k=x\/(mA.slice (cC g) (cB i-1) a).ownBlock=fA k) W o):=λW s=>by
     have H:=(d.di g rfl).1;exact fo x 4 0 (uA (cC g) (cB i-1) a) (yO i) ⟨q.2,q.1.n⟩ W _ _ (PP.o.blk.z s) rfl (by rw[O];exact(jB.of (S:=λ_=>False) s).row PP.o.row (λ_ _ e=>e)) (λe=>H (by simpa[mA.ownBlock]using e)) (Oa _) (by omega)
    clear d j v0;go_upto_region 4 with fail;refine uQ 9 (by kernel_rfl) (by kernel_rfl) ?_;simp only[Rg,List.take_zero,Sg,Kf];have b:Nonempty Unit:=⟨()⟩
    repeat (go_big_quiet_step (fail))
    refine wpQuiet_nil ?_;go_wp2_with(first|(go_at_call 274;apply oC (m.o _ jD.drew);rintro w4 ⟨G,z,b,o,O,E⟩));have HE:=gB (aAi (B:=w.1.size) HI.o HF.o X.o F.o r (by rw[HTT.o];exact HTL.o) HQ.o HQB.o hL' PP.o (by simpa using b) o O ((jB.of (S:=λk=>k=x\/(mA.slice (cC g) (cB i-1) a).ownBlock=fA k) ((Below.refl y.1.size y).drew)).trans' E) hwr (λg s _=>La s));clear b o O E m;obtain⟨⟨k,A,C⟩,Z⟩:=HE.o;exact⟨⟨⟨k,A⟩,Y.o.trans Z⟩,HLT.o _ k A (by rw[HCN.o]at C;exact C)⟩
   .have l:fB (yD wr (λg=>S g\/w.1.size<=g) x (aF J I t) M):=aAj d HEU.o HF.o (λh=>ht h.2);clear d;generalize (qD i 0).t=TT at *;go_wp2;go_end0;exact⟨rfl,l.o,Y.o⟩
  .have l:fB (yD wr (λg=>S g\/w.1.size<=g) x (aF J I t) M):=aAj d HEU.o HF.o (λh=>r h.1);have b:cB i=0:=by omega
   have x4:∃v,gD wr x 4 v/\(v=uA eA 0 0\/∃g a,v=uA (cC g) 0 a):=by
    refine⟨iv,d.blk.cell 4,?_⟩;obtain⟨e,_⟩|⟨g,a,cur,e,_⟩:=d.row.2;exact Ca e;rw[b]at e;exact La ⟨g,a,e⟩
   clear d b;obtain⟨v,x4,b⟩:=x4;obtain rfl|⟨g,a,rfl⟩:=b
   .go_wp2;go_end0;exact⟨rfl,l.o,Y.o⟩
   go_wp2;go_end0;exact⟨rfl,l.o,Y.o⟩
end
section
open Go.Maps
def KC{H:Type}{P:Program}{k:oA}{R:mA->Option (DataW H×List MemPlace)}{w g:jA}{b r n:Nat}{D:DataW H}{left:Lit->Bool}{m:Nat}{S:Nat->Prop}(h:w.ranges P k R b r n D left m)(f:jB S w g)(s:¬S b)(t:¬S r):g.ranges P k R b r n D left m:=by
 have o:=h.owns.lt;have p:=h.lt;obtain⟨m,a,c,e,i,j,F,u,q,l,d⟩:=h;exact⟨m,a,c,e,i,(f.block b o s).trans j,F,u,q,(f.block r p t).trans l,d⟩
def qo{key:mA}{a:Lit}(h:keyOf prog 9 key=fA a):∃s,key=tA s/\a=kL s/\s.size<=maxLen:=WideMaps.string_of_keyOf underlying9 h
def xK.trim{w:jA}{B:Nat->Prop}{T:Nat->Option Nat}{l m:Nat}{c:kC}{a:Int}{L:List (kB×Nat)}{M:Nat}(h:xK w B T l m c a L M):xK w B (λg=>if g<w.1.size then T g else eA) l m c a L M:=
 { h with
  idx:=λp e=>(h.idx p e).keep λg d b=>⟨rfl,b.1,by show(if g<w.1.size then T g else eA)=_;rw[Ma d];exact b.2⟩
  tl:=by show(if l<w.1.size then T l else eA)=eA;rw[Ma (eB h.blk)];exact h.tl
  tm:=by show(if m<w.1.size then T m else eA)=eA;rw[Ma h.ten.lt];exact h.tm}
def xK.aside{w f:jA}{B:Nat->Prop}{T:Nat->Option Nat}{l m r:Nat}{c:kC}{a:Int}{L:List (kB×Nat)}{M:Nat}(h:xK w B T l m c a L M)(d:jB (·=r) w f)(o:T r=eA)(j:l≠r)(k:m≠r):xK f B T l m c a L M:=
 { h with
  blk:=d.blk h.blk j
  ten:=d.map h.ten k
  idx:=λp n=>(h.idx p n).keep λg i b=>⟨d.block g i (λe=>by rw[e,o]at b;cases b.2),b⟩ }
def xK.moved{w f:jA}{B:Nat->Prop}{T:Nat->Option Nat}{l m:Nat}{c:kC}{d a:Int}{L:List (kB×Nat)}{M:Nat}(h:xK w B T l m c d L M)(i:jB (·=l) w f)(j:rB f l (fV c a m) 169):xK f B T l m c a L M:=
 { h with
  blk:=j
  ten:=i.map h.ten h.lm
  idx:=λp n=>(h.idx p n).keep λg k b=>⟨i.block g k (λe=>by rw[e,h.tl]at b;cases b.2),b⟩ }
def xK.turned{w v:jA}{B:Nat->Prop}{T:Nat->Option Nat}{l m:Nat}{c:kC}{o:Int}{L:List (kB×Nat)}{M:Nat}{p:kB×Nat}{t':kB}(h:xK w B T l m c o L M)(x:∀g,w.1.size<=g->B g)(u:p∈L)(r:t'.N=p.1.N)
(b:jB (λg=>B g/\T g=fA p.2) w v)(y:yD v (λg=>(B g/\T g=fA p.2)\/w.1.size<=g) p.2 t' M):
 xK v B (λg=>if g<w.1.size then T g else fA p.2) l m c o (iC (λp:kB×Nat=>p.1.N) (t',p.2) L) M:=by
 have z:=eB h.blk;have A:=h.ten.lt;have i:(iC (λp:kB×Nat=>p.1.N) (t',p.2) L).map (λp=>(p.1.N,nF p.2))=L.map λp=>(p.1.N,nF p.2):=
  EP (key:=λp:kB×Nat=>p.1.N) (a:=(t',p.2)) (λp:kB×Nat=>(p.1.N,nF p.2)) h.rise u r.symm (by simp[r])
 have n:cB (iC (λp:kB×Nat=>p.1.N) (t',p.2) L)=cB L:=by
  have:=Kd List.length i;simpa using this
 have t:∀q∈L,q.1.N≠t'.N->q.2≠p.2:=λq j f e=>by
  have:=cS h.nd j u e;rw[this,r]at f;exact f rfl
 exact {
  blk:=b.blk h.blk (λe=>by rw[h.tl]at e;cases e.2)
  ten:=by rw[i,n];exact b.map h.ten (λe=>by rw[h.tm]at e;cases e.2)
  rise:=bK h.rise
  idx:=λq j=>by
   rcases XX h.rise j with rfl|⟨j,f⟩
   .refine y.keep λg s d=>⟨rfl,?_,?_⟩
    .rcases d with d|d
     .exact d.1
     exact x g d
    show (if g<w.1.size then T g else fA p.2)=fA p.2;by_cases k:g<w.1.size
    .rw[Ma k];obtain d|d:=d
     .exact d.2
     omega
    rw[Ja k]
   refine (h.idx q j).keep λg s d=>⟨b.block g s (λe=>?_),d.1,?_⟩
   .have:=t q j f;rw[e.2]at d;exact this (Lc d.2).symm
   show (if g<w.1.size then T g else fA p.2)=_;rw[Ma s];exact d.2
  nd:=by
   rw[EP (key:=λp:kB×Nat=>p.1.N) (a:=(t',p.2)) (·.2) h.rise u r.symm rfl];exact h.nd
  tl:=by show(if l<w.1.size then T l else _)=eA;rw[Ma z];exact h.tl
  tm:=by show(if m<w.1.size then T m else _)=eA;rw[Ma A];exact h.tm
  lB:=h.lB
  mB:=h.mB}
def xK.left{w y s:jA}{B:Nat->Prop}{T:Nat->Option Nat}{l m n:Nat}{c:kC}{i:Int}{L:List (kB×Nat)}{M:Nat}{k:vB}{S:Nat->Prop}(h:xK w B T l m c i L M)(C:∀g,S g->∀q∈L,q.1.N≠k->T g≠fA q.2)(t:∀g,g<w.1.size->S g->T g≠eA)
(a:jB S w y)(b:jB (·=m) y s)(j:s.ownsMap prog 9 wE m n (DataW.del (fE (L.map λp=>(p.1.N,nF p.2))) (kL k))):
 xK s B T l m c i (yE (λp:kB×Nat=>p.1.N) k L) M:=by
 have x:=eB h.blk;have D:=a.size;have f:DataW.del (fE (L.map λp=>(p.1.N,nF p.2))) (kL k)=fE ((yE (λp:kB×Nat=>p.1.N) k L).map λp=>(p.1.N,nF p.2)):=
  WS (key:=λp:kB×Nat=>p.1.N) (λp=>nF p.2) k L
 have d:∀g,g<w.1.size->¬S g->g≠m->s.heap[g]?=w.heap[g]?:=λg u z A=>by
  rw[b.block g (by omega) A,a.block g u z]
 exact {
  blk:=(d l x (λe=>t l x e h.tl) h.lm.symm).trans h.blk
  ten:=by
   have:=QJ j;rw[f,pM]at this;exact this
  rise:=gP h.rise
  idx:=λq o=>by
   obtain⟨o,v⟩:=aS.1 o;exact(h.idx q o).keep λg u r=>⟨d g u (λe=>C g e q o v r.2) (λe=>by rw[e,h.tm]at r;cases r.2),r⟩
  nd:=h.nd.sublist (List.Sublist.map _ Pf)
  tl:=h.tl
  tm:=h.tm
  lB:=h.lB
  mB:=h.mB}
def TkR(c:kC)(a:Int)(b:List kB)(M:Nat)(B:Nat->Prop)(l m r:Nat)(left:Lit->Bool)(wr:jA):Prop:=
 ∃T L,xK wr B T l m c a L M/\L.map (·.1)=oI c.w a (λs=>left (kL s)) b/\T r=eA
def aDn{c:kC}{a:Int}{o:List kB}{M l m n:Nat}{B:Nat->Prop}{left:Lit->Bool}{wr:jA}{T:Nat->Option Nat}{L:List (kB×Nat)}{D:DataW Unit}{s:vB}{v:mA}{y:DataW Unit×List MemPlace}(h:xK wr B T l m c a L M)(u:L.map (·.1)=oI c.w a (λs=>left (kL s)) o)(g:wr.ownsMap prog 9 wE m n D)(x:left (kL s)=iA)(C:wE v=fA y)(f:∀zd,D.atKey (kL s) zd=y.1):
 ∃p∈L,p.1.N=s/\p.1∈o/\v=.pointer (cC p.2):=by
 rw[qb g h.ten]at f;have d:∀zd:DataW Unit,((eD (λp:kB×Nat=>p.1.N) s L).map λp=>nF p.2).getD zd=y.1:=λzd=>by
  rw[<-lS (key:=λp:kB×Nat=>p.1.N) (λp=>nF p.2)];exact f zd
 cases hg:eD (λp:kB×Nat=>p.1.N) s L with
 |none=>
  rw[hg]at d;have b:=d (vI 0);have j:=d (vI 1);simp only[Option.map_none,Option.getD_none]at b j;rw[<-b]at j;simp[vI]at j
 |some p=>
  rw[hg]at d;have b:=d .nil;simp only[Option.map_some,Option.getD_some]at b;obtain⟨q,i⟩:=eM hg;have z:p.1∈oI c.w a (λs=>left (kL s)) o:=by rw[<-u];exact Tc q
  obtain⟨t,A,e,r⟩:=UG z;have k:left (kL t.N)=iA:=by rw[<-r,i];exact x
  rw[Ma k]at e;refine⟨p,q,i,by rw[e];exact A,rQ (ps:=y.2) (by rw[C,b])⟩
end
