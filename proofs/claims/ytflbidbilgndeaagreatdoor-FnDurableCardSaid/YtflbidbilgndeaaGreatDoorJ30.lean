import Derived.Test.YtflbidbilgndeaaGreatDoorJ27
set_option maxRecDepth 100000
set_option maxHeartbeats 8000000
set_option linter.defProp false
open Option renaming some->bA,none->aA
open Bool renaming false->cA,true->dA
open ByteArray renaming empty->kA
open List renaming length->yA
namespace Go.Proofs.YtflbidbilgndeaaGreatDoor
open Go renaming World->eA,Value->iA,TypeId->jA,Calls->gA
open Value renaming agg->tA,slice->pA,string->oA,bool->qA,int->lA,tuple->xA
open Ending renaming returned->uA
open Obj renaming cells->vA
open IntKind renaming i64->mA
open Go.RowKit Tryz
def aIg{C:eA->Prop}{w:eA}{O:Nat}{a b d c u:iA}{t:jA}(h:nB w O #[a,b,d,c] t)(k:∀W,nB W O #[a,b,u,c] t->eB (·=O) w W->C W):C (w.setCell (dB O 2) u):=
 k _ (by have:=h.set 2 u;simpa using this) ((eB.refl (·=O) w).setCell (Ca rfl) 2 u)
def aIh{C:eA->Prop}{w:eA}{O:Nat}{a b c d u:iA}{t:jA}(h:nB w O #[a,b,c,d] t)(k:∀W,nB W O #[a,b,c,u] t->eB (·=O) w W->C W):C (w.setCell (dB O 3) u):=
 k _ (by have:=h.set 3 u;simpa using this) ((eB.refl (·=O) w).setCell (Ca rfl) 3 u)
def fD.turned{S:Nat->Prop}{w c:eA}{B:Nat}{a:mC}{l:List kB}(h:fD w B a l)(q:eB S w c)(m:∀g,B<=g->¬S g):fD c B a l:=by
 obtain h|⟨g,o,b,t,e,d,f,h⟩:=h;exact Ca h;have k:=q.block g (aB f) (m g d);have n:∀j,c.cell? (dB g j)=w.cell? (dB g j):=λj=>eA.cell?_of_block k;exact La ⟨g,o,b,t,e,d,k.trans f,λi p=>by simp only[n];exact h i p⟩
def EK(a b:mC)(ca cb:Nat)(N:wC)(w:eA)(d:tB w a N.d.fs)(f:yA N.d.fs<=1048576)(c:xC w b N.ts)(h:yA N.ts<=2000000)(h:∀t∈N.ts,yA t.M<=2000000/\yA t.Z<=2000000):
 gA prog 48 #[tA (sC a ca b cb N)] w λe w'=>∃a' Q b' R,e=uA (tA (sC a' Q b' R N))/\oJ w' (λx=>w.1.size<=x) a' N.d.fs/\fT w' (λx=>w.1.size<=x) b' N.ts/\uB w w':=by
 unfold sC;have m:=bB (λW(l:uB w W)=>RH a ca N.d W (d.z l) f);have y:=bB c;have l:=bB h;go_enter func48,ntmps48;go_wp2_with fail;refine(m.o _ (vB zB zB)).mono ?_;rintro e w1 ⟨a',Q,rfl,h,J⟩;have d:=bB (((nB.new w _ _).alloc _).z J);have m:=bB ((nB.new (w.alloc _) _ _).z J);simp only[eA.size_alloc]at m h;have n:=bB (vB (vB zB zB) J);have f:=J.size;simp only[eA.size_alloc]at f;have p:=bB h;have o0:=d.o.n14;have s:=d.o.frees;go_upto_region 2 with fail;refine aIj (C:=λW=>Code.wp prog _ _ _ W) d.o ?_;intro w2 d f;have R2:=bB (f.blk m.o (by omega));have F2:=bB (p.o.turned f (λx p _ e=>by omega));have h:=f.size;have B2:=bB (n.o.trans (f.below (by have:=n.o.size;omega) (λk u e=>by omega)));have o0:=d.n14;replace d:=bB d;have z:w.1.size<w2.1.size:=by omega
 go_wp2;obtain⟨i3,f,B,D,E⟩:=info_parts iy;have G:=bB f;go_loopw [3,15] (λf i wr=>∃(j:Nat)(v:iA),j<=yA N.ts/\i=zA j/\v=f/\cB (eR wr w2.1.size 94 v j (N.ts.take j))/\cB (uB w2 wr)/\w2.1.size<wr.1.size) (λ_ i _=>yA N.ts-(RowKit.intOf i).toNat)
 case atStart=>exact⟨0,_,Oa _,rfl,rfl,⟨λ_=>0,[],eA.ownsRow_made w2 #[] 0 (Ia _) (by simp[maxLen]) (by simp),by simp,λ_ _=>rfl,λi h=>absurd h (by simp)⟩,zB,by simp⟩
 case round=>
  obtain⟨j,v,f,rfl,rfl,I,F,f⟩:=hrel;by_cases L:j<yA N.ts
  .obtain ⟨bb,oo,a1,c1,a2,c2,rfl,hbb,k0,k1,k2,k3,p1,p2⟩:=((y.o.z B2.o).z F.o).at (i:=j) L;have A:=l.o _ (Gb L);obtain⟨t,c⟩:∃t,t=N.ts[j]:=⟨_,rfl⟩
   have HE:=bB (show N.ts.take (j+1)=N.ts.take j++[t] by rw[c,Pa L]);rw[<-c]at k0 k1 k2 k3 p1 p2 A;clear c;go_upto_region 6 with fail;refine eI (C:=λW=>Code.wp prog _ _ _ W) ?_;intro y J O H;obtain⟨f,c,w4,l,m,U,n⟩:=yt y a1 c1 t.M (p1.z J) A.1;have Y:=bB l;have Z:tC y wr.1.size 2 (pA a1 (yA t.M) c1):=O.cell 2;have z:wr.1.size<y.1.size:=by omega
   have z:=bB (O.z U);have Z:tC w4 wr.1.size 2 (pA a1 (yA t.M) c1):=z.o.cell 2;have q:=z.o.free 2;have Z:=bB H;have hz3':wr.1.size<=y.1.size:=by omega
   have y:=U.size;have P4:=bB p2;have y:=bB (vB J U);have O4:=bB m;have Q4:=bB n;clear n k0 k1 k2 k3 p1 p2 l m U O H J;go_upto_region 7 with(at_builtin;refine Lib.wpList_append_run _ rfl _ _ _ _ rfl _ _ rfl rfl _ _ Y.o ?_)
   refine aIg (C:=λW=>Code.wp prog _ _ _ W) z.o ?_;intro l J m;have H:=Z.o;have n:=m.size;have O:=bB (y.o.trans (m.below (by omega) (λk u e=>by omega)));have U:=bB (O4.o.turned m (λg V e=>by omega));have Y:∀g o,f=bA (dB g o)->g<l.1.size:=λg o e=>by have:=Q4.o g o e;omega
   obtain⟨m,n,w6,y,z,K,_⟩:=yu l a2 c2 t.Z (P4.o.z O.o) A.2;have A:=bB y;have y:tC l wr.1.size 3 (pA a2 (yA t.Z) c2):=J.cell 3;have y:wr.1.size<l.1.size:=by omega
   have y:=bB (J.z K);have J:tC w6 wr.1.size 3 (pA a2 (yA t.Z) c2):=y.o.cell 3;have r:=y.o.free 3;have J:=K.size;have B6:=bB (vB O.o (K.mono (by omega)));have O:=bB (U.o.z K);have U:=bB z;have HM:=bB Y;go_upto_region 8 with(at_builtin;refine Lib.wpList_append_run _ rfl _ _ _ _ rfl _ _ rfl rfl _ _ A.o ?_)
   refine aIh (C:=λW=>Code.wp prog _ _ _ W) y.o ?_;intro P y z;have H:=Z.o;have A:=z.size;have J:=bB (B6.o.trans (z.below (by omega) (λk u e=>by omega)));have M7:=bB (O.o.turned z (λg V e=>by omega));have S7:=bB (U.o.turned z (λg V e=>by omega));obtain⟨z,A,rfl⟩:=I.o.row;obtain⟨T,ys,l0,m0,O,U⟩:=I.o;have Y:yA ys=j:=by have:=Kd List.length m0;simp at this;omega
   have V1:=bB (hC l0 J.o);have V2:=bB m0;have V3:=bB O;have V4:=bB U;have U:=bB (λg V=>l0.lt g V);have O:tC P wr.1.size 0 (oA t.N):=y.cell 0;have O:tC P wr.1.size 1 (zA t.L):=y.cell 1;have O:tC P wr.1.size 2 (pA f (yA t.M) c):=y.cell 2;have O:tC P wr.1.size 3 (pA m (yA t.Z) n):=y.cell 3;have y:=bB Y;go_wp2_with(at_builtin;refine wpList_append_lies _ rfl _ _ _ rfl w2.1.size 94 i3 _ 4 72 underlying38 G.o B D E rfl (by omega) (pA z j A) j (lF ys) rfl (by exact V1.o.alloc _) (dB P.1.size 0) 1 1 [oA t.N,zA t.L,pA f (yA t.M) c,pA m (yA t.Z) n] rfl rfl (by have:=eA.news_of_block (cs:=#[oA t.N,zA t.L,pA f (yA t.M) c,pA m (yA t.Z) n]) (t:=94) (fr:=(0,0)) (heap_alloc_new P (vA #[oA t.N,zA t.L,pA f (yA t.M) c,pA m (yA t.Z) n] 94));simpa using this) (by simp[iA.oneCell']) (by omega) (by simp[maxLen];omega) (by omega) (by simp;omega) (P.1.size+1) (by simp) ?_;intro n f D E G m B);have H:=Z.o;have O:=U.o;have B:((iA.slice z j A).ownBlock=bA n/\n<wr.1.size)\/P.1.size<=n:=by
    obtain h|h:=m;exact Ca ⟨h,(O _ h).2⟩;exact La (by omega)
   have h:∀g,g<P.1.size->(iA.slice z j A).ownBlock≠bA g->D.heap[g]?=P.heap[g]?:=λg V m=>by
    rw[(eB.grown G).block g (by simp;omega) m];exact zB.block g V
   refine⟨⟨j+1,(pA (yB n) (j+1) f),by omega,by go_num,rfl,?_,?_,?_⟩,by simp[RowKit.intOf];omega⟩
   .show eR _ _ _ _ _ _;rw[HE.o];exact eR.snoc (wr:=wr) (w4:=P) (M:=l.1.size) (v:=pA z j A) (T:=T) (ys:=ys) (t:=t) E V2.o y.o V3.o V4.o (by omega) (by omega)
     (λg V _ m=>(h g (by omega) m).trans (J.o.block g V))
     (λg V f=>h g f (λe=>by have:=(O _ e).2;omega))
     (M7.o.mono (by omega)) HM.o S7.o B (by omega) (by omega)
   .exact (F.o.trans (J.o.mono (by omega))).trans ((zB.mono (by omega)).trans ((eB.grown G).below (by simp;omega) (λk u e=>by have:=(O _ e).1;omega)))
   have:=G.size;simp at this;omega
  obtain rfl:j=yA N.ts:=by omega
  have X:=I.o;rw[Rb]at X;obtain⟨b',R,rfl⟩:=X.row;have n:=bB ((X.own rfl).toA (Ia _));have y:=bB (F2.o.z F.o);have m:=bB (vB B2.o F.o);have o0:=(d.o.z F.o).n14;have s:=(d.o.z F.o).frees;obtain⟨z,A,B,D,E,G,I,J,O,U,d,f,h,l⟩:=(R2.o.z F.o).n14;have Y:=(R2.o.z F.o).frees;go_wp2;refine bodyPost_ret (v:=tA #[pA a' (yA N.d.fs) Q,zA N.d.c,zA N.d.k,zA N.d.cr,zA N.d.fl,qA N.d.dn,zA N.l.first,zA N.l.last,zA N.l.size,zA N.now,pA b' (yA N.ts) R,zA N.lsn,qA N.deg,qA N.up]) (by simp[results,results48,go_sem,z,A,B,D,E,G,I,J,O,U,d,f,h,l]) rfl ?_;refine eB.end2 (S:=λx=>x=w.1.size\/x=w.1.size+1) (C:=λW=>∃a1 c1 d c,Ending.returned (tA #[pA a' (yA N.d.fs) Q,zA N.d.c,zA N.d.k,zA N.d.cr,zA N.d.fl,qA N.d.dn,zA N.l.first,zA N.l.last,zA N.l.size,zA N.now,pA b' (yA N.ts) R,zA N.lsn,qA N.deg,qA N.up])=Ending.returned (tA #[pA a1 (yA N.d.fs) c1,zA N.d.c,zA N.d.k,zA N.d.cr,zA N.d.fl,qA N.d.dn,zA N.l.first,zA N.l.last,zA N.l.size,zA N.now,pA d (yA N.ts) c,zA N.lsn,qA N.deg,qA N.up])/\oJ W (λx=>w.1.size<=x) a1 N.d.fs/\fT W (λx=>w.1.size<=x) d N.ts/\uB w W) wr (by
   repeat (with_reducible first|exact eB.refl _ _|refine eB.setCell ?_ (Ca (by first|exact Ca rfl|exact La rfl)) _ _)) ?_
  intro w6 c;exact⟨_,_,_,_,rfl,(y.o.turned c (λx p _ e=>by omega)).mono (λx p=>by omega),(n.o.turned c (λx p _ e=>by omega)).mono (λx p=>by omega),m.o.trans (c.below (by have:=m.o.size;omega) (λk u e=>by omega))⟩
def fo:∀(a:List fB),xF (a.map kR)=sE a
 |[]=>rfl
 |t::q=>by rw[Fc,xF,fo q,sE]
def QT(v m:Int)(w:eA):rL 64 #[zA v,zA m] w (qA (decide (0<=v/\v<=m))):=by
 by_cases a:0<=v
 .have e:decide (0<=v/\v<=m)=decide (v<=m):=by simp[a]
  rw[e];go_enter func64,ntmps64;go_wp2;go_ret;exact⟨rfl,rfl⟩
 have e:decide (0<=v/\v<=m)=cA:=by simp[a]
 rw[e];go_enter func64,ntmps64;go_wp2;go_ret;exact⟨rfl,rfl⟩
def LQ(d f:Int)(a:mC)(y:Nat)(c:List fB)(w:eA)(hf:xC w a c)(hB:aCx c)(hlen:yA c<=2000000)(hz:(sE c).size<=100000000):
 dF 193 #[lA mA d,tA #[lA mA f,pA a (yA c) y]] w (oA (rI d f c)):=by
 have F:cB (∀W,rL 64 #[lA mA d,lA mA 1000000000000000] W (qA (decide (0<=d/\d<=1000000000000000)))):=λW=>QT _ _ W;by_cases P:¬(0<=d/\d<=1000000000000000)
 .have E:cB (rI d f c=kA):=OH λh=>P ⟨h.1,h.2.1⟩;rw[E.o];rw[show decide (0<=d/\d<=1000000000000000)=cA from Ub P]at F;go_enter func193,ntmps193;go_wp2_with fail;apply dR (F.o _);go_wp2;go_ret;exact⟨rfl,zB⟩
 replace P:=Classical.not_not.1 P;rw[Ac P]at F;have HF:cB (xC w a c):=hf;have HB:cB (aCx c):=hB;have HU1:cB _:=λW=>mI d W;have HU2:cB _:=λW=>mI f W;have HU3:cB (∀W,dF 167 #[lA mA (yA c:Nat)] W (oA (pB 4 (yA c:Nat)))):=λW=>lR _ W;have hz1:=gB 8 d;have hz2:=gB 8 f;have hz3:=gB 4 (yA c:Nat);have hzx:(qL d f c).size=24+(sE c).size:=by unfold qL;rw[Ka,IX]
 have HX:cB (qL d f c=yk++pB 8 d++pB 8 f++pB 4 (yA c:Nat)++sE c):=rfl;have HOK:cB ((∀i(h:i<yA c),cK c[i])->rI d f c=qL d f c++pB 4 (cJ (qL d f c):Nat)):=λh=>IW ⟨P.1,P.2,h⟩;have HNO:cB _:=λk(h:k<yA c)(h2:¬cK c[k])=>wt h h2 d f;have HCR:cB (∀W,dF 240 #[oA (qL d f c)] W (lA mA (cJ (qL d f c):Nat))):=λW=>LP _ W (by unfold maxLen;omega);have HU4:cB (∀W,dF 167 #[lA mA (cJ (qL d f c):Nat)] W (oA (pB 4 (cJ (qL d f c):Nat)))):=λW=>lR _ W;have hz4:=gB 4 (cJ (qL d f c):Nat);generalize pB 4 (cJ (qL d f c):Nat)=N4 at *;generalize cJ (qL d f c)=CR at *;generalize qL d f c=SX at *;generalize rI d f c=SB at *;generalize pB 8 d=N1 at *;generalize pB 8 f=N2 at *;generalize pB 4 (yA c:Nat)=N3 at *;obtain⟨CK,L⟩:∃C:jB,C=yk:=⟨_,rfl⟩
 have hzc:CK.size=4:=by rw[L];rfl
 have HCK:cB _:=L;rw[<-L]at HX;obtain⟨ti,hti,ht0,ht1,ht2⟩:=lW;have HI:cB _:=hti;go_enter func193,ntmps193;go_wp2_with fail;apply dR (F.o _);go_upto_region 3 with fail;have X6:cB (nB (w.alloc (vA #[lA mA f,pA a (yA c) y] 40)) w.1.size #[lA mA f,pA a (yA c) y] 40):=nB.new _ _ _;have B0:cB (uB w (w.alloc (vA #[lA mA f,pA a (yA c) y] 40))):=zB;generalize w.alloc (vA #[lA mA f,pA a (yA c) y] 40)=B at *;have HK:cB (∀r,uB B r->r.cell? ⟨w.1.size,0,aA⟩=bA (lA mA f)/\r.cell? ⟨w.1.size,1,aA⟩=bA (pA a (yA c) y)):=λr h=>by
  have q:=X6.o.z h;exact⟨q.cell 0,q.cell 1⟩
 have x0:=HK.o B iD;go_cut [5] (λs wx=>∃g,s=pA (bA ⟨g,0,aA⟩) 4 4/\B.1.size<=g/\wx.heap[g]?=bA (vA #[oA CK,oA N1,oA N2,oA N3] 9 (0,0))/\uB B wx)
 case first=>
  go_region_held3 (λr=>r.cell? ⟨w.1.size,0,aA⟩=bA (lA mA f)/\r.cell? ⟨w.1.size,1,aA⟩=bA (pA a (yA c) y))
   (first|go_keep|exact HK.o _ k4|exact HK.o _ k3|exact HK.o _ k2)
   (first
    |(go_at_call 165;(fail_if_success (have q:=k2));apply lC (HU1.o _);intro w2 J;have k2:uB B w2:=(by exact vB iD.drew J))
    |(go_at_call 165;have q:=k2;apply lC (HU2.o _);intro w3 K;have k3:uB B w3:=(by exact vB k2 K))
    |(go_at_call 167;apply lC (HU3.o _);intro O n;have k4:uB B O:=(by exact vB k3 n)))
  all_goals(go_wp2_with fail;go_meet)
  all_goals exact⟨_,rfl,k4.size,by rw[HCK.o];exact heap_alloc_new _ _,vB k4 zB⟩
 obtain⟨g0,rfl,hg0,G,V⟩:=hcut;rename eA=>w5;have B5:cB _:=vB B0.o V;have HBL:cB (w5.heap[g0]?=bA (vA #[oA CK,oA N1,oA N2,oA N3] 9 (0,0))/\w.1.size<=g0):=⟨G,Ua B0.o.size hg0⟩
 have HK5:cB _:=(HK.o w5 V).2;have y1:=HK5.o;go_wp2;go_loopw [5,26] (λout i wr=>∃(k:Nat)(m:List jB)(g T:Nat),k<=yA c/\i=lA mA k/\out=pA (bA ⟨g,0,aA⟩) (yA m) T/\yA m<=4+k/\fG m<=24+(sE (c.take k)).size/\cB (m=[CK,N1,N2,N3]++(c.take k).map kR)/\cB (∀j(h:j<yA c),j<k->cK c[j])/\cB (wr.ownsRow w.1.size 9 1 (pA (bA ⟨g,0,aA⟩) (yA m) T) (yA m) (m.map iA.string))/\uB w wr) (λ_ i _=>yA c-(intOf i).toNat)
 case atStart=>
  exact⟨0,[CK,N1,N2,N3],_,_,Oa _,rfl,rfl,by simp,by simp[fG,sE];omega,by show _=_;simp,λj _ h=>absurd h (by omega),⟨rfl,La ⟨g0,4,_,rfl,HBL.o.2,HBL.o.1,Ia _,by simp[maxLen],rfl,rfl⟩⟩,B5.o⟩
 case round=>
  obtain⟨k,m,g,T,hk,rfl,rfl,hpl,hps,HPS,t,u,p⟩:=hrel;by_cases H:k<yA c
  .obtain ⟨b,o,a1,c1',a2,c2',rfl,hb,d0,d1,d2,d3,p1,p2⟩:=(HF.o.z p).at H;obtain⟨q1,q2,q3,q4,q5⟩:=HB.o k H;have z:cB _:=λW(hW:uB wr W)=>iu c[k] a1 a2 c1' c2' W (p1.z hW) (p2.z hW) q1 q2 q3 q4 q5;have Z:=sV c (k+1);have a0:=PY c k H;have hes:=BP c[k];have Y:(sE (c.take (k+1))).size=(sE (c.take k)).size+(kR c[k]).size:=by rw[a0,Ka]
   have hsz:=p.size;by_cases A:cK c[k]
   .rw[xb A]at z;have HA2:cB (∀j(h:j<yA c),j<k+1->cK c[j]):=λj h hj=>by
     rcases Gc j k with h1|h1;exact t.o j h h1;obtain rfl:j=k:=by omega
     exact A
    have E2:cB (m++[kR c[k]]=[CK,N1,N2,N3]++(c.take (k+1)).map kR):=by
     show _=_;rw[HPS.o,Pa H,Ld,Nd];rfl
    have X:(kR c[k]).toList.isEmpty=cA:=by
     rw[ByteArray.toList_eq];cases h:(kR c[k]).data.toList with
     |nil=>have h9:(kR c[k]).size=0:=by rw[ByteArray.size,<-Qg,h];rfl
           omega
     |cons x l=>rfl
    have R:((kR c[k]).toList==[])=cA:=by simpa using X
    have HSS:cB ((sE (c.take (k+1))).size=(sE (c.take k)).size+(kR c[k]).size/\(sE (c.take (k+1))).size<=(sE c).size):=⟨Y,Z⟩
    clear A t a0 hes Y Z q1 q2 q3 q4 q5 p1 p2;generalize kR c[k]=S at *;generalize c[k].N=nm at *;generalize c[k].L=li at *;generalize yA c[k].M=m1 at *;generalize yA c[k].Z=m2 at *;go_wp2_with fail;apply lC (z.o _ zB);intro O n;have hwB:w.1.size<=O.1.size:=by have:=n.size;simp at this;omega
    have v:cB (O.ownsRow w.1.size 9 1 (pA (bA ⟨g,0,aA⟩) (yA m) T) (yA m) (m.map iA.string)/\uB w O):=⟨hC (hC u.o zB) n,vB (vB p zB) n⟩
    go_wp2_with(at_builtin;refine wpList_append_lies _ rfl _ _ _ rfl w.1.size 9 ti _ 1 16 underlying30 HI.o ht0 ht1 ht2 rfl (by omega) (pA (bA ⟨g,0,aA⟩) (yA m) T) (yA m) (m.map iA.string) rfl (by exact hC v.o.1 zB) ⟨O.1.size,0,aA⟩ 1 1 [oA S] rfl rfl (by exact eA.news_of_block (heap_alloc_new _ _)) (by simp[iA.oneCell']) (by omega) (by simp[maxLen];omega) (by omega) (by simp;omega) (O.1.size+1) (by simp) ?_;intro g5 cap5 w5 I M hat5 hlt5);have hgw:=zH v.o.1 g rfl;have hB5:=(vB v.o.2 zB).grown M (by simp;omega) (λq hq=>by simp[iA.ownBlock]at hq;omega);have hxs:m.map iA.string++[iA.string S]=(m++[S]).map iA.string:=by simp
    have N:yA (m++[S])=yA m+1:=by simp
    have hsm:fG (m++[S])=fG m+S.size:=by rw[rH];simp[fG]
    rw[hxs,<-N]at I;exact⟨⟨k+1,m++[S],g5,cap5,by omega,by go_num,by rw[N],by rw[N];omega,by have:=HSS.o;omega,E2.o,HA2.o,I,hB5⟩,by simp[intOf];omega⟩
   .rw[OJ A]at z;have E:cB _:=HNO.o k H A;have D:cB _:=z;have X:ByteArray.empty.toList.isEmpty=dA:=by rw[ByteArray.toList_eq];rfl
    have R:(ByteArray.empty.toList==[])=dA:=by rw[ByteArray.toList_eq];rfl
    clear A t a0 hes Y Z q1 q2 q3 q4 q5 p1 p2 u z;obtain⟨EM,U⟩:∃E:jB,E=kA:=⟨_,rfl⟩
    rw[<-U]at D X R E;have HEM:cB _:=U;generalize c[k].N=nm at *;generalize c[k].L=li at *;generalize yA c[k].M=m1 at *;generalize yA c[k].Z=m2 at *;go_wp2_with fail;apply lC (D.o _ zB);intro O n;have BW:cB _:=vB (vB p zB) n;go_wp2;go_ret;exact⟨by rw[E.o,HEM.o];rfl,BW.o⟩
  have E2:cB (xF m=SX):=by
   show _=_;rw[HPS.o,Ra (by omega),lG,fo,HX.o];simp[xF,Wa]
  have Q:=λj h=>t.o j h (by omega);have E3:cB _:=HOK.o Q;have N:=sV c k;obtain⟨hcv,hg,hcs⟩:=bH u.o;have HJ:cB (dF 160 #[pA (bA ⟨g,0,aA⟩) (yA m) T] wr (oA (xF m))):=uI g (yA m) T m wr rfl hcs hg hcv (by omega) (by omega);rw[E2.o]at HJ;go_wp2_with fail;apply lC HJ.o;intro w2 J;have B2:cB _:=vB p J;go_wp2_with fail;apply lC (HCR.o _);intro w3 K;have B3:cB _:=vB B2.o K;go_wp2_with fail;apply lC (HU4.o _);intro O n;have B4:cB _:=vB B3.o n;go_wp2;go_ret;exact⟨by rw[E3.o];rfl,B4.o⟩
def aMk{a:List fB}(h:aHv a)(k:jB):aCy (aC a k).Z/\yA (aC a k).M<=1000000000/\yA (aC a k).Z<=1000000000:=by
 unfold aC;cases hg:dD (·.N) k a with
 |none=>exact⟨λi h=>absurd h (by simp),by simp,by simp⟩
 |some t=>
  obtain⟨i,b,e⟩:=Ib (uM hg).1;have:=h i b;rw[e]at this;exact⟨this.2.2.1,this.2.2.2.1,this.2.2.2.2⟩
def NQ(c:iC)(f:Int)(a:mC)(j:Nat)(g:List fB)(b met:jB)(w:eA)(Y:xC w a g)(o:aHv g)(y:yA g<=1000000000)(h:b.size<=1048576)(h:met.size<=1048576):
 dF 60 #[rE c,tA #[zA f,pA a (yA g) j],oA b,oA met] w (xA #[zA (oH c f g b met).1,zA (oH c f g b met).2]):=by
 have h:cB (∀W,uB w W->dF 49 #[rE c,tA #[zA f,pA a (yA g) j]] W (qA (nC c f g))):=λW U=>sJ c f a j g W (Y.z U) o y;have F:cB (∀W,rL 52 #[oA b] W (qA (bD b))):=λW=>pI b W (by unfold maxLen;omega);have M:cB (∀W,dF 110 #[oA met] W (qA (bF met))):=λW=>xM met W (by omega);have B:cB (∀W,uB w W->gA prog 61 #[tA #[zA f,pA a (yA g) j],oA b] W λe d=>aHy d e (aC g b)/\uB W d):=λW U=>bY f a j g b W (Y.z U) y;obtain⟨G,I,O⟩:=aMk o b;have U:cB (∀W v x C D,jC W v (aC g b).M->jC W x (aC g b).Z->dF 120 #[rE c,tA #[oA (aC g b).N,zA (aC g b).L,.slice v (yA (aC g b).M) C,.slice x (yA (aC g b).Z) D],oA met] W (xA #[zA (qE c (aC g b) met).1,zA (qE c (aC g b) met).2])):=λW v x C D J K=>LX c _ v x C D met W J K G I O;have m:cB (oH c f g b met=if (nC c f g&&bD b&&(met.toList.isEmpty||bF met))=dA then qE c (aC g b) met else(-1,-1)):=rfl;clear Y o G I O;unfold aHy at B;unfold rE at *;generalize bD b=G at *;generalize bF met=W at *;generalize nC c f g=I at *;generalize aC g b=t at *;generalize oH c f g b met=n at *;generalize qE c t met=Y at *;go_enter func60,ntmps60;go_wp2_with fail;apply lC (h.o _ (vB zB zB));intro r s;have z:cB (uB w r):=vB (vB zB zB) s;have Q:cB (nB r w.1.size #[zA c.w,zA c.tl,zA c.ml,zA c.sh,zA c.ha,zA c.sg] 24):=bB (((nB.new _ _ _).alloc _).z s);have R:cB (nB r (w.1.size+1) #[zA f,pA a (yA g) j] 40):=bB (by have:=(nB.new (w.alloc (vA #[zA c.w,zA c.tl,zA c.ml,zA c.sh,zA c.ha,zA c.sg] 24)) #[zA f,pA a (yA g) j] 40).z s;simpa using this);clear s h;by_cases N:I=cA
 .have i:cB (n=(-1,-1)):=by show _=_;rw[m.o,N];rfl
  subst N;clear m;go_wp2;go_ret2;exact⟨fL (by rw[i.o]) (by rw[i.o]),z.o⟩
 have S:I=dA:=by simpa using N
 subst S;clear N;by_cases O:G=cA
 .have i:cB (n=(-1,-1)):=by show _=_;rw[m.o,O];simp
  subst O;clear m;go_wp2_with fail;apply dR (F.o _);go_wp2;go_ret2;exact⟨fL (by rw[i.o]) (by rw[i.o]),z.o⟩
 have T:G=dA:=by simpa using O
 subst T;clear O;by_cases V:met.toList.isEmpty=dA
 .have i:cB (n=Y):=by show _=_;rw[m.o,V];rfl
  clear m;go_wp2_with fail;apply dR (F.o _);clear F M;have A:cB (∀d,uB r d->tC d w.1.size 0 (zA c.w)/\tC d w.1.size 1 (zA c.tl)/\tC d w.1.size 2 (zA c.ml)/\tC d w.1.size 3 (zA c.sh)/\tC d w.1.size 4 (zA c.ha)/\tC d w.1.size 5 (zA c.sg)/\tC d (w.1.size+1) 0 (zA f)/\tC d (w.1.size+1) 1 (pA a (yA g) j)):=λd h=>by
   have q:=Q.o.z h;have p:=R.o.z h;exact⟨q.cell 0,q.cell 1,q.cell 2,q.cell 3,q.cell 4,q.cell 5,p.cell 0,p.cell 1⟩
  obtain⟨O,x1,x2,x3,x4,x5,y0,y1⟩:=A.o r iD;go_upto_region 3 with fail;go_region_held3 (λd=>d.cell? (dB w.1.size 0)=bA (zA c.w)/\d.cell? (dB w.1.size 1)=bA (zA c.tl)/\d.cell? (dB w.1.size 2)=bA (zA c.ml)/\d.cell? (dB w.1.size 3)=bA (zA c.sh)/\d.cell? (dB w.1.size 4)=bA (zA c.ha)/\d.cell? (dB w.1.size 5)=bA (zA c.sg)/\d.cell? (dB (w.1.size+1) 0)=bA (zA f)/\d.cell? (dB (w.1.size+1) 1)=bA (pA a (yA g) j))
   (first|go_keep|exact A.o _ I|exact A.o _ H)
   (first
    |(go_at_call 61;refine(B.o _ (z.o.drew)).mono ?_;rintro e L ⟨⟨v,C,x,D,rfl,J,K⟩,k⟩;have H:uB r L:=(by exact vB iD.drew k))
    |(go_at_call 120;apply lC (U.o _ v x C D J K);intro Z E;have I:uB r Z:=(by exact vB H E)))
  all_goals(go_wp2;go_ret2)
  all_goals exact⟨fL (by rw[i.o]) (by rw[i.o]),vB z.o I⟩
 have X:met.toList.isEmpty=cA:=by simpa using V
 clear V;rw[X]at m;by_cases P:W=cA
 .have i:cB (n=(-1,-1)):=by show _=_;rw[m.o,P];simp
  subst P;clear m;go_wp2_with fail;apply dR (F.o _);go_wp2_with fail;apply lC (M.o _);intro L k;have G:cB (uB w L):=vB z.o k;clear k;go_wp2;go_ret2;exact⟨fL (by rw[i.o]) (by rw[i.o]),G.o⟩
 have G:W=dA:=by simpa using P
 have i:cB (n=Y):=by show _=_;rw[m.o,G];rfl
 subst G;clear m P;go_wp2_with fail;apply dR (F.o _);go_wp2_with fail;apply lC (M.o _);intro l u;have G:cB (uB w l):=vB z.o u;have A:cB (∀d,uB l d->tC d w.1.size 0 (zA c.w)/\tC d w.1.size 1 (zA c.tl)/\tC d w.1.size 2 (zA c.ml)/\tC d w.1.size 3 (zA c.sh)/\tC d w.1.size 4 (zA c.ha)/\tC d w.1.size 5 (zA c.sg)/\tC d (w.1.size+1) 0 (zA f)/\tC d (w.1.size+1) 1 (pA a (yA g) j)):=λd h=>by
  have q:=(Q.o.z u).z h;have p:=(R.o.z u).z h;exact⟨q.cell 0,q.cell 1,q.cell 2,q.cell 3,q.cell 4,q.cell 5,p.cell 0,p.cell 1⟩
 clear F M Q R z u;obtain⟨O,x1,x2,x3,x4,x5,y0,y1⟩:=A.o l iD;go_upto_region 3 with fail;go_region_held3 (λd=>d.cell? (dB w.1.size 0)=bA (zA c.w)/\d.cell? (dB w.1.size 1)=bA (zA c.tl)/\d.cell? (dB w.1.size 2)=bA (zA c.ml)/\d.cell? (dB w.1.size 3)=bA (zA c.sh)/\d.cell? (dB w.1.size 4)=bA (zA c.ha)/\d.cell? (dB w.1.size 5)=bA (zA c.sg)/\d.cell? (dB (w.1.size+1) 0)=bA (zA f)/\d.cell? (dB (w.1.size+1) 1)=bA (pA a (yA g) j))
  (first|go_keep|exact A.o _ I|exact A.o _ H)
  (first
   |(go_at_call 61;refine(B.o _ (G.o.drew)).mono ?_;rintro e L ⟨⟨v,C,x,D,rfl,J,K⟩,k⟩;have H:uB l L:=(by exact vB iD.drew k))
   |(go_at_call 120;apply lC (U.o _ v x C D J K);intro Z E;have I:uB l Z:=(by exact vB H E)))
 all_goals(go_wp2;go_ret2)
 all_goals exact⟨fL (by rw[i.o]) (by rw[i.o]),vB G.o I⟩
section
open Go.Maps
def aGk{H:Type}{P:Program}{w:eA}{k:jA}{R:iA->Option (DataW H×List MemPlace)}{b n:Nat}{D:DataW H}(h:w.ownsMap P k R b n D):Maps.size D<=n:=by
 obtain⟨d,a,e,F,c,rfl⟩:=h;rw[size_eq,length_sorted,Xa,Qg];exact c
def vv{H:Type}{P:Program}{w:eA}{k:jA}{R:iA->Option (DataW H×List MemPlace)}{b n l:Nat}{D e:DataW H}(h:w.ownsMap P k R b n D)(g:w.ownsMap P k R b l e):D=e:=by
 obtain⟨o,d,i,F,p,rfl⟩:=h;obtain⟨f,c,a,m,j,rfl⟩:=g;rw[i]at a;simp only[Qa,Obj.map.injEq]at a;rw[a.1]
def aGj{w:eA}{b n M:Nat}{D:DataW Unit}{m:jB}{c d:Int}(h:w.ownsMap prog 9 (plainElem prog 3) b n (D.put (kL m) (eJ d)))(g:Tidy D)(f:Maps.size D<=M)(a:D.atKey (kL m) (eJ 0)=eJ c)(i:c≠0):w.ownsMap prog 9 (plainElem prog 3) b M (D.put (kL m) (eJ d)):=by
 have j:has D (kL m)=dA:=by
  cases e:has D (kL m) with
  |true=>rfl
  |false=>
   rw[atKey_of_not_has e]at a;simp[eJ]at a;exact absurd a.symm i
 have:=TM h;rw[Maps.size_put g,j,Ma rfl]at this;exact this.mono f
structure OP(w w1:World)(x:Nat)(lim:Int)(lm sm cm:Nat)(iv iv':Value)(hs:List zI):Prop where
 blk:nB w1 x #[zA lim,.map (bA lm),.map (bA sm),.map (bA cm),iv'] 228
 row:w1.ownsRow 0 334 2 iv' (yA hs-1) (qK (pP hs))
 same:iv'.ownBlock=iv.ownBlock
 turn:eB (λk=>k=x∨iv.ownBlock=bA k) w w1
def jS.top{w:eA}{S:Nat->Prop}{x:Nat}{t:fB}{M i j d:Nat}{g:iA}{Q:List (kB×Nat)}{a:List zI}{D:DataW Unit}(h:jS w S x t M i j d g Q a D)(c:0<yA a):∃q∈Q,q.2=(nD a 0).b:=by
 have:(nD a 0).b∈Q.map (·.2):=h.perm.mem_iff.1 (Md.2 ⟨nD a 0,by rw[GN c];exact Gb c,rfl⟩);obtain⟨q,f,e⟩:=Md.1 this;exact⟨q,f,e⟩
def aBt{a:List zI}{Q:List (kB×Nat)}{q:kB×Nat}(h:uJ a)(d:0<yA a)(i:(a.map (·.b)).Perm (Q.map (·.2)))(c:zC (λq:kB×Nat=>q.1.s) Q)(j:q∈Q)(g:q.2=(nD a 0).b):
 ((pP a).map (·.b)).Perm ((vE (λq:kB×Nat=>q.1.s) q.1.s Q).map (·.2)):=by
 obtain⟨_,k,_⟩:=gQ h d;have e:(q.2::(pP a).map (·.b)).Perm (Q.map (·.2)):=by
  rw[g];exact(k.map (·.b)).trans i
 have f:(q.2::(vE (λq:kB×Nat=>q.1.s) q.1.s Q).map (·.2)).Perm (Q.map (·.2)):=(PM c j).map (λq:kB×Nat=>q.2);exact(List.perm_cons _).1 (e.trans f.symm)
def jS.dropped {w V v:eA} {S:Nat->Prop} {x:Nat} {t:fB} {M J u r n:Nat} {I A:iA} {Q:List (kB×Nat)} {z:List zI} {D:DataW Unit} {q:kB×Nat} {c:Nat} (h:jS w S x t M J u r I Q z D) (T:0<yA z) (U:q∈Q) (Z:q.2=(nD z 0).b)
 (j:OP w V x t.L J u r I A z) (a:eB (λk=>k=u\/k=r) V v) (B:v.ownsMap prog 9 tE u n (DataW.del (fE (Q.map λq=>(q.1.s,mF q.2))) (kL q.1.s)))
 (C:v.ownsMap prog 9 (plainElem prog 3) r M (D.put (kL (cE q.1.s)) (eJ c))) (b:bJ cE t.Z (cE q.1.s)=c+1):
 jS v S x ⟨t.N,t.L,t.M,vE (·.s) q.1.s t.Z⟩ M J u r A (vE (λq:kB×Nat=>q.1.s) q.1.s Q) (pP z) (D.put (kL (cE q.1.s)) (eJ c))/\eB S w v:=by
 have P:=eD h.Z h.blk;have R:=eD h.cnts h.blk;have O:=eD h.lims h.blk;have K:=wG h.lims h.row;have L:=wG h.Z h.row;have N:=wG h.cnts h.row;have G:zC (λq:kB×Nat=>q.1.s) Q:=by
  rw[<-fY (key':=λp:kB=>p.s) (λq:kB×Nat=>q.1) (λ_=>rfl),h.q1];exact h.rs
 obtain⟨b,J,p3⟩:=gQ h.heap T;have F:q.1∈t.Z:=by rw[<-h.q1];exact List.mem_map_of_mem U
 have f:∀p∈vE (λq:kB×Nat=>q.1.s) q.1.s Q,p∈Q:=λp j=>(yS.1 j).1
 have y:DataW.del (fE (Q.map λq=>(q.1.s,mF q.2))) (kL q.1.s)=fE ((vE (λq:kB×Nat=>q.1.s) q.1.s Q).map λq=>(q.1.s,mF q.2)):=
  ZU (key:=λq:kB×Nat=>q.1.s) (λq=>mF q.2) q.1.s Q
 have o:∀g,¬(g=x\/I.ownBlock=bA g)->¬(g=u\/g=r)->g<w.1.size->v.heap[g]?=w.heap[g]?:=λg X Y l=>by
  rw[a.block g (by have:=j.turn.size;omega) Y,j.turn.block g l X]
 refine⟨?_,?_⟩
 ·exact {
   blk:=a.blk j.blk (λe=>by obtain e|e:=e;exact P e.symm;exact R e.symm)
   lims:=a.map (j.turn.map h.lims (λe=>by obtain e|e:=e;exact O e;exact K e)) (λe=>by obtain e|e:=e;exact h.d1 e;exact h.d2 e)
   Z:=by
    have:=TM B;rw[y,bN]at this;exact this
   cnts:=C
   cnt:=λm=>by
    have E:=fw (met:=cE) h.rs F m
    by_cases e:cE q.1.s=m
    ·rw[if_pos e]at E
     rw[<-e,atKey_put_same (k:=kL (cE q.1.s)) h.cnts.isMap trivial];rw[<-e]at E;have:bJ cE (vE (·.s) q.1.s t.Z) (cE q.1.s)=c:=by omega
     rw[this]
    ·rw[if_neg e]at E
     rw[atKey_put_other (λW=>e (aFi W).symm),h.cnt m,E];rfl
   q1:=by rw[BO (key':=λp:kB=>p.s) (λq:kB×Nat=>q.1) (λ_=>rfl),h.q1]
   cells:=λp d=>by
    have i:=f p d;refine(o p.2 (λe=>?_) (λe=>?_) (aB (h.cells p i))).trans (h.cells p i)
    ·obtain e|e:=e
     ·exact h.dx p i e
     ·exact(h.di _ e).2 p i rfl
    ·obtain e|e:=e
     ·exact eD h.Z (h.cells p i) e.symm
     ·exact eD h.cnts (h.cells p i) e.symm
   row:=by
    rw[p3];exact a.row j.row (λg l e=>by
     rw[j.same]at l;obtain rfl|rfl:=e
     ·exact L l
     ·exact N l)
   heap:=b
   perm:=aBt h.heap T h.perm G U Z
   early:=λs H p d e=>h.early s (J.mem_iff.1 (List.mem_cons_of_mem _ H)) p (f p d) e
   rm:=h.rm
   rs:=yP h.rs
   sx:=h.sx
   sl:=h.sl
   ss:=h.ss
   sc:=h.sc
   sq:=λp d=>h.sq p (f p d)
   si:=λg l=>h.si g (by rw[<-j.same];exact l)
   d1:=h.d1
   d2:=h.d2
   d3:=h.d3
   nd:=h.nd.sublist (List.Sublist.map _ List.filter_sublist)
   dx:=λp d=>h.dx p (f p d)
   di:=λg l=>⟨(h.di g (by rw[<-j.same];exact l)).1,λp d=>(h.di g (by rw[<-j.same];exact l)).2 p (f p d)⟩ }
 ·refine(j.turn.mono λk _ e=>by obtain rfl|e:=e;exact h.sx;exact h.si _ e).trans' (a.mono λk _ e=>?_)
  obtain rfl|rfl:=e
  ·exact h.ss
  ·exact h.sc
def jS.again{w O r:eA}{S:Nat->Prop}{x:Nat}{t:fB}{M y z u:Nat}{F n:iA}{Q:List (kB×Nat)}{j:List zI}{D:DataW Unit}{q:kB×Nat}{g l B:Nat}(h:jS w S x t M y z u F Q j D)(U:0<yA j)(C:q∈Q)(W:q.2=(nD j 0).b)
(v:OP w O x t.L y z u F n j)
(A:nB r x #[zA t.L,.map (bA y),.map (bA z),.map (bA u),pA (yB g) (yA (pP j)+1) l] 228)
(E:r.ownsRow 0 334 2 (pA (yB g) (yA (pP j)+1) l) (yA (pP j)+1) (qK (gS (pP j) ⟨q.2,q.1.n⟩)))(o:n.ownBlock=bA g\/O.1.size<=g)(c:eB (λk=>k=x\/n.ownBlock=bA k) O r)(b:B<=w.1.size)(V:∀g,B<=g->w.1.size<=g->S g):
 jS r S x t M y z u (pA (yB g) (yA (pP j)+1) l) Q (gS (pP j) ⟨q.2,q.1.n⟩) D/\eB S w r:=by
 have K:=eD h.Z h.blk;have L:=eD h.cnts h.blk;have J:=eD h.lims h.blk;have G:=wG h.lims h.row;have H:=wG h.Z h.row;have I:=wG h.cnts h.row;obtain⟨Z,P,b⟩:=gQ h.heap U;obtain⟨b,R,O⟩:=ET Z ⟨q.2,q.1.n⟩;have X:=v.turn.size;have a:=v.turn.trans' (c.mono λk _ e=>by rw[<-v.same];exact e);have N:=λq C=>aB (h.cells q C);have Y:=aB h.blk;have i:F.ownBlock=bA g\/w.1.size<=g:=by
  obtain e|e:=o;exact Ca (by rw[<-v.same];exact e);exact La (by omega)
 refine⟨?_,?_⟩
 .exact { h with
   blk:=A
   lims:=a.map h.lims (λe=>by obtain e|e:=e;exact J e;exact G e)
   Z:=a.map h.Z (λe=>by obtain e|e:=e;exact K e;exact H e)
   cnts:=a.map h.cnts (λe=>by obtain e|e:=e;exact L e;exact I e)
   cells:=λp d=>a.blk (h.cells p d) (λe=>by
    obtain e|e:=e;exact h.dx p d e;exact (h.di _ e).2 p d rfl)
   row:=by rw[O];exact E
   heap:=b
   perm:=by
    refine(R.map _).trans ?_;rw[Fc];show(q.2::(pP j).map (·.b)).Perm _;rw[W];exact(P.map (·.b)).trans h.perm
   early:=λs m p d e=>by
    rcases Lb.1 (R.mem_iff.1 m) with rfl|m;have:=aT h.nd d C e;rw[this];exact Xd _;exact h.early s (P.mem_iff.1 (Sb _ m)) p d e
   si:=λT f=>by
    simp only[iA.ownBlock,Qa]at f;subst f;obtain e|e:=i;exact h.si g e;exact V g (by omega) e
   di:=λT f=>by
    simp only[iA.ownBlock,Qa]at f;subst f;obtain e|e:=i;exact h.di g e;exact ⟨by omega,λp d=>by have:=N p d;omega⟩ }
 exact a.mono λk _ e=>by
  obtain rfl|e:=e;exact h.sx;exact h.si _ e
def jo{a:List zI}{u:Int}(c:uJ a)(b:0<yA a)(d:(nD a 0).t<=u):(pP a).countP (λs=>decide (s.t<=u))+1=a.countP (λs=>decide (s.t<=u)):=by
 obtain⟨_,e,_⟩:=gQ c b;rw[<-e.countP_eq,List.countP_cons_of_pos (by simpa using d)]
def aAz{a:List zI}{u:Int}{s:zI}(b:uJ a)(c:u<s.t):(gS a s).countP (λs=>decide (s.t<=u))=a.countP (λs=>decide (s.t<=u)):=by
 obtain⟨_,d,_⟩:=ET b s;rw[d.countP_eq,List.countP_cons_of_neg (by simp;omega)]
def aFp{R:Nat->Prop}(h:∃n,R n):∃m,R m/\∀k,R k->m<=k:=by
 obtain⟨n,d⟩:=h;induction n using Nat.strongRecOn with
 |_ n e=>
  by_cases a:∃k,k<n/\R k
  .obtain ⟨k,a,c⟩:=a;exact e k a c
  exact ⟨n,d,λk c=>Nat.le_of_not_lt λb=>a ⟨k,b,c⟩⟩
end
section
open Go.Maps
def aEn(x Y m a:Nat)(t:Int)(X:iA)(key:jB)(Q:List (kB×Nat))(D:DataW Unit)(M c:Nat)(w:eA)(z:nB w x #[zA t,.map (bA Y),.map (bA m),.map (bA a),X] 228)
(I:w.ownsMap prog 9 tE m (yA Q) (fE (Q.map λq=>(q.1.s,mF q.2))))(U:w.ownsMap prog 9 (plainElem prog 3) a M D)(l:D.atKey (kL (cE key)) (eJ 0)=eJ ((c+1:Nat):Int))(V:m≠a)(h:key.size<=1000000000)(G:M<=1000000000)(G:c<=1000000000)(T:∀W,eB (·=m) w W->uG W):
 gA prog 321 #[.pointer (yB x),oA key] w λe v=>e=uA (xA #[])/\v.ownsMap prog 9 tE m (yA Q) (DataW.del (fE (Q.map λq=>(q.1.s,mF q.2))) (kL key))/\v.ownsMap prog 9 (plainElem prog 3) a M (D.put (kL (cE key)) (eJ c))/\eB (λk=>k=m\/k=a) w v:=by
 have G:cB (keyOf prog 9 (oA key)=bA (kL key)):=lN (by unfold maxLen;omega);have C:cB _:=lN (zS key);have F:cB (∀W,uG W->dF 210 #[oA key] W (oA (cE key))):=λW J=>AA key W h J;obtain⟨u,s⟩:∃u,u=c+1:=⟨_,rfl⟩
 rw[<-s]at l;have h:(u:Int)-1=(c:Nat):=by omega
 have H:(u:Int)≠0:=by omega
 have h:IntKind.i64.wrap ((c:Nat):Int)=(c:Nat):=by
  simp only[IntKind.wrap,IntKind.bits,IntKind.signed];simp;omega
 have E:cB (∀W,W.ownsMap prog 9 (plainElem prog 3) a M D->(Instr.lookup 222 (.map (bA a)) (oA (cE key)) cA).run prog W=.ok (zA (u:Int)) W):=λW h=>RR h l (zS key);have P:=bB z;have N:=bB I;have L:=bB U;have O:=bB T;have J:=eD I z;have x2:tC w x 2 (.map (bA m)):=z.cell 2;have B:cB (∀W,W.ownsMap prog 9 (plainElem prog 3) a M D->∃r,(Instr.mapUpdate 222 (.map (bA a)) (oA (cE key)) (zA (c:Nat))).run prog W=.ok () r/\r.ownsMap prog 9 (plainElem prog 3) a M (D.put (kL (cE key)) (eJ c))/\eB (·=a) W r):=λW h=>by
  obtain⟨r,p,j,n⟩:=h.store aM underlying222 (by unfold maxLen;omega) (val:=zA (c:Nat)) C.o (plainElem_int underlying3 (WalkArith.wf_i64 (by omega)));exact⟨r,p,aGj j (h.tidy aM) (aGk h) l H,eB.mapped n⟩
 clear z I U l T s;generalize cE key=mk at *;go_enter func321,ntmps321;go_upto_region 1 with(at_delete;refine wpList_delete_own _ rfl _ _ 223 9 rfl 231 aM underlying223 tE m _ _ rfl N.o _ _ rfl G.o ?_;intro o d b)
 have g:=eB.mapped b;have h:=bB d;have I:=bB g;have R:cB (nB o x #[zA t,.map (bA Y),.map (bA m),.map (bA a),X] 228):=g.blk P.o J.symm;have Z:cB (o.ownsMap prog 9 (plainElem prog 3) a M D):=g.map L.o V.symm;have G:cB (uG o):=O.o o g;have J:tC o x 3 (.map (bA a)):=R.o.cell 3;clear d b g P N L O x2;go_region_law (refine eE (f:=210) (args:=#[oA key]) rfl (by go_simp) ?_;apply lC (F.o _ (G.o.z iD.drew));intro A G;have y:uB o A:=(vB (Below.refl o.1.size o).drew G);have K:=(eB.of (S:=λ_=>False) y).map Z.o (λe=>e);have G:=E.o A K;obtain⟨r,p,j,n⟩:=B.o A K;have G:tC A x 3 (.map (bA a)):=(R.o.z y).cell 3;refine⟨_,rfl,?_⟩)
 all_goals(go_wp2;go_end0)
 all_goals exact⟨rfl,n.map ((eB.of (S:=λ_=>False) y).map h.o (λe=>e)) V,j,((I.o.mono λi _ e=>Ca e).trans' (eB.of y)).trans' (n.mono λi _ e=>La e)⟩
end
section
open Go.Maps
def zu(p q:iA)(w:eA):(Instr.field 334 (tA #[p,q]) 0).run prog w=.ok p w:=by kernel_rfl
def nz(S:Nat->Prop)(x:Nat)(t:fB)(M:Nat)(u:Int)(wr:eA)(n:Nat):Prop:=
 ∃a e f c d Q b D,jS wr S x ⟨t.N,t.L,t.M,a⟩ M e f c d Q b D/\a.filter (λp=>decide (u<p.n))=t.Z.filter (λp=>decide (u<p.n))/\(∀p∈a,p∈t.Z)/\yA a<=yA t.Z/\b.countP (λs=>decide (s.t<=u))=n
def EM{R:Nat->Prop}(h:∃n,R n):R (Classical.epsilon λm=>R m/\∀k,R k->m<=k)/\∀k,R k->(Classical.epsilon λm=>R m/\∀k,R k->m<=k)<=k:=Classical.epsilon_spec (aFp h)
def aFq{R a:Nat->Prop}{n:Nat}(h:a n)(b:n<Classical.epsilon λm=>R m/\∀k,R k->m<=k):(Classical.epsilon λm=>a m/\∀k,a k->m<=k)<Classical.epsilon λm=>R m/\∀k,R k->m<=k:=
 Nat.lt_of_le_of_lt ((EM ⟨n,h⟩).2 n h) b
def aEq{w:eA}{S:Nat->Prop}{x:Nat}{t:fB}{M m o j:Nat}{l:iA}{Q:List (kB×Nat)}{b:List zI}{D:DataW Unit}{i:List kB}{u d c:Int}(h:jS w S x ⟨t.N,t.L,t.M,i⟩ M m o j l Q b D)(C:u=c-d)(A:i.filter (λp=>decide (u<p.n))=t.Z.filter (λp=>decide (u<p.n)))(f:¬(0<yA b/\(nD b 0).t<=u)):
 vD w S x (xE d c t) M:=by
 have y:∀p∈i,u<p.n:=λp B=>by
  have g:p∈Q.map (·.1):=by rw[h.q1];exact B
  obtain⟨q,k,rfl⟩:=Md.1 g;have z:=h.perm.mem_iff.2 (Tc k);obtain⟨s,a,e⟩:=Md.1 z;have E:=h.early s a q k e.symm;have F:=aOo h.heap a;have v:=List.length_pos_of_mem a;have G:¬(nD b 0).t<=u:=λr=>f ⟨v,r⟩;omega
 rw[aAu C A y];exact⟨m,o,j,l,Q,b,D,h⟩
def aIy{w F y:eA}{S:Nat->Prop}{x:Nat}{t:fB}{M A v j n:Nat}{E m:iA}{Q:List (kB×Nat)}{i:List zI}{D:DataW Unit}{d:List kB}{u:Int}{q:kB×Nat}{c:Nat}(h:jS w S x ⟨t.N,t.L,t.M,d⟩ M A v j E Q i D)(O:d.filter (λp=>decide (u<p.n))=t.Z.filter (λp=>decide (u<p.n)))(l:∀p∈d,p∈t.Z)(P:yA d<=yA t.Z)
(B:0<yA i)(T:(nD i 0).t<=u)(C:q∈Q)(L:q.2=(nD i 0).b)(U:q.1.n<=u)(R:OP w F x t.L A v j E m i)(a:eB (λk=>k=v\/k=j) F y)(o:y.ownsMap prog 9 tE v n (DataW.del (fE (Q.map λq=>(q.1.s,mF q.2))) (kL q.1.s)))
(r:y.ownsMap prog 9 (plainElem prog 3) j M (D.put (kL (cE q.1.s)) (eJ c)))(N:bJ cE d (cE q.1.s)=c+1):
 (∃k,nz S x t M u y k/\k<i.countP (λs=>decide (s.t<=u)))/\eB S w y:=by
 obtain⟨J,K⟩:=h.dropped (c:=c) B C L R a o r N;refine⟨⟨_,⟨_,A,v,j,m,_,_,_,J,?_,λp g=>l p (yS.1 g).1,?_,rfl⟩,?_⟩,K⟩
 .rw[<-O];unfold vE;rw[List.filter_filter];apply List.filter_congr;intro p g;by_cases e:p.s=q.1.s
  .have z:q.1∈d:=by have:=Tc (f:=(·.1)) C;rw[h.q1]at this;exact this
   have G:=vM h.rs g;have H:=vM h.rs z;have:p=q.1:=by
    have I:bA p=bA q.1:=by rw[<-G,<-H];show dD (λp:kB=>p.s) p.s d=dD (λp:kB=>p.s) q.1.s d;rw[e]
    exact Lc I
   rw[this,Ub (by omega)];simp
  rw[zD e];simp
 .have:yA (vE (·.s) q.1.s d)<=yA d:=Pc _ _;exact Ua this P
 have:=jo h.heap B T;omega
def aEp{w A j:eA}{S:Nat->Prop}{x:Nat}{t:fB}{M o r m:Nat}{C d:iA}{Q:List (kB×Nat)}{c:List zI}{D:DataW Unit}{l:List kB}{u:Int}{q:kB×Nat}{g e B:Nat}(h:jS w S x ⟨t.N,t.L,t.M,l⟩ M o r m C Q c D)(K:l.filter (λp=>decide (u<p.n))=t.Z.filter (λp=>decide (u<p.n)))(i:∀p∈l,p∈t.Z)(L:yA l<=yA t.Z)
(v:0<yA c)(P:(nD c 0).t<=u)(O:q∈Q)(J:q.2=(nD c 0).b)(H:u<q.1.n)(N:OP w A x t.L o r m C d c)
(y:nB j x #[zA t.L,.map (bA o),.map (bA r),.map (bA m),pA (yB g) (yA (pP c)+1) e] 228)
(z:j.ownsRow 0 334 2 (pA (yB g) (yA (pP c)+1) e) (yA (pP c)+1) (qK (gS (pP c) ⟨q.2,q.1.n⟩)))(f:d.ownBlock=bA g\/A.1.size<=g)(a:eB (λk=>k=x\/d.ownBlock=bA k) A j)(G:B<=w.1.size)(I:∀g,B<=g->w.1.size<=g->S g):
 (∃k,nz S x t M u j k/\k<c.countP (λs=>decide (s.t<=u)))/\eB S w j:=by
 obtain⟨E,F⟩:=h.again v O J N y z f a G I;refine⟨⟨_,⟨l,o,r,m,_,_,_,_,E,K,i,L,rfl⟩,?_⟩,F⟩;have R:=jo h.heap v P;rw[aAz (gQ h.heap v).1 (by exact H)];omega
def pq(x:Nat)(t:fB)(J I u:Int)(S:Nat->Prop)(M:Nat)(b w:eA)(h:vD w S x t M)(r:uB b w)(Z:uG b)(hS:∀g,S g->b.1.size<=g)(hu:u=I-J)(hl:yA t.Z<=1000000000)(hM:M<=1000000000)(Y:∀p∈t.Z,p.s.size<=1000000000):
 gA prog 287 #[.pointer (yB x),zA u] w λe o=>e=uA (xA #[])/\vD o (λg=>S g\/w.1.size<=g) x (xE J I t) M/\eB S w o:=by
 have G:cB (nz (λg=>S g\/w.1.size<=g) x t M u w ((Classical.epsilon λm=>nz (λg=>S g\/w.1.size<=g) x t M u w m/\∀k,nz (λg=>S g\/w.1.size<=g) x t M u w k->m<=k))):=by
  refine(EM ?_).1;obtain⟨b,U,K,iv,Q,i,D,h⟩:=h;exact⟨_,t.Z,b,U,K,iv,Q,i,D,h.keep λg _ i=>⟨rfl,Ca i⟩,rfl,λp s=>s,Ia _,rfl⟩
 have HUT:cB (∀W,eB S w W->uG W):=λW s=>Z.z (r.trans (s.below r.size λk Y i=>by have:=hS k i;omega));have HKS:cB _:=Y;have HEU:cB _:=hu;have O:cB _:=hl;clear h r Z hS Y hu hl;go_enter func287,ntmps287;go_wp2;go_loopw [4] (λ_ wr=>cB (∃n,nz (λg=>S g\/w.1.size<=g) x t M u wr n)/\cB (eB S w wr)) (λ_ wr=>Classical.epsilon λm=>nz (λg=>S g\/w.1.size<=g) x t M u wr m/\∀k,nz (λg=>S g\/w.1.size<=g) x t M u wr k->m<=k)
 case atStart=>exact⟨⟨_,G.o⟩,eB.refl _ _⟩
 case round=>
  obtain⟨HN,Y⟩:=hrel;obtain⟨hsp,_⟩:=EM HN.o;have HLT:cB (∀W k,nz (λg=>S g\/w.1.size<=g) x t M u W k->k<(Classical.epsilon λm=>nz (λg=>S g\/w.1.size<=g) x t M u wr m/\∀k,nz (λg=>S g\/w.1.size<=g) x t M u wr k->m<=k)->(Classical.epsilon λm=>nz (λg=>S g\/w.1.size<=g) x t M u W m/\∀k,nz (λg=>S g\/w.1.size<=g) x t M u W k->m<=k)<(Classical.epsilon λm=>nz (λg=>S g\/w.1.size<=g) x t M u wr m/\∀k,nz (λg=>S g\/w.1.size<=g) x t M u wr k->m<=k)):=λW k h1 h2=>aFq h1 h2;obtain⟨Z,b,U,K,iv,Q,i,D,d,hf,P,N,L⟩:=hsp;have HI:=bB d;have HF:=bB hf;have X:=bB P;have F:=bB N;have HCN:=bB L;have hwr:=Y.o.size;clear G hf P N L HN;by_cases r:0<yA i
  .obtain ⟨g,a,hiv⟩:∃g a,iv=pA (yB g) (yA i) a:=by
    obtain⟨_,e⟩|⟨g,a,cur,e,_⟩:=d.row.2;exact absurd e (by omega);exact ⟨g,a,e⟩
   subst hiv;obtain⟨G,_⟩:=GM d.row rfl;have H:=(d.di g rfl).1;have HMM:=bB G;have x4:tC wr x 4 (pA (yB g) (yA i) a):=d.blk.cell 4;have c1:tC wr g 1 (zA (nD i 0).t):=by have:=(G.cells (k:=0) r).2.1;simpa using this
   by_cases ht:(nD i 0).t<=u
   .have hhl:yA i=yA Z:=by
     have h1:=d.perm.length_eq;have h2:=Kd List.length d.q1;simp only[Xa]at h1 h2;omega
    have hh9:yA i<=1000000000:=by have:=F.o;have:=O.o;omega
    obtain⟨q,hq,a0⟩:=d.top r;have HQ:=bB hq;have HQB:=bB a0;have V:cB (gA prog 320 #[.pointer (bA (dB x 4))] wr λe o=>e=uA (tA #[.pointer (yB ((nD i 0).b)),zA (nD i 0).t])/\nB o x (#[zA t.L,.map (bA b),.map (bA U),.map (bA K),pA (yB g) (yA i) a].setIfInBounds 4 (pA (yB g) (yA i-1) a)) 228/\tH o g a (pP i)/\eB (λk=>k=x\/k=g) wr o):=aKl x 4 g a i wr _ _ d.blk rfl G H r hh9;have HTL:=bB ht;clear hhl G;rw[<-a0]at V;clear a0;generalize G:(nD i 0).t=TT at *;have HTT:cB _:=G;clear G;go_wp2_with fail;apply lC V.o;rintro y ⟨G,hm1,j⟩;have hp3:=(gQ d.heap r).2.2;have PP:cB (OP wr y x t.L b U K (pA (yB g) (yA i) a) (pA (yB g) (yA i-1) a) i):=bB {
     blk:=by simpa using G
     row:=by have:=hY (B:=0) hm1 (Oa _);rw[hp3]at this;exact this
     same:=rfl
     turn:=j.mono λk _ e=>by obtain e|e:=e;exact Ca e;exact La (by rw[e];rfl) }
    have hqc:=d.cells q hq;have hqg:=(d.di g rfl).2 q hq;have hqx:=d.dx q hq;have Q1:cB (nB y q.2 #[oA q.1.s,zA q.1.n] 98):=j.blk hqc (λe=>by obtain e|e:=e;exact hqx e;exact hqg e);have hfd:=zu (.pointer (yB q.2)) (zA TT);have v0:tC y q.2 0 (oA q.1.s):=Q1.o.cell 0;have v1:tC y q.2 1 (zA q.1.n):=Q1.o.cell 1;have TS1:cB (eB S w y):=Y.o.trans (j.mono λk _ e=>by
     obtain rfl|rfl:=e;exact d.sx;exact d.si _ rfl)
    have hqs:q.1∈Z:=by have:=Tc (f:=(·.1)) hq;rw[d.q1]at this;exact this
    have hks:=HKS.o q.1 (X.o q.1 hqs);clear G hm1 hqc x4 c1 V H hp3;by_cases hL:q.1.n<=u
    .obtain ⟨c,hc⟩:∃c,bJ cE Z (cE q.1.s)=c+1:=⟨bJ cE (vE (·.s) q.1.s Z) (cE q.1.s),by have:=fw (met:=cE) d.rs hqs (cE q.1.s);rw[Ma rfl]at this;exact this⟩
     have hc9:c<=1000000000:=by have:=ZL cE Z (cE q.1.s);have:=F.o;have:=O.o;omega
     have G:cB (gA prog 321 #[.pointer (yB x),oA q.1.s] y λe o=>e=uA (xA #[])/\o.ownsMap prog 9 tE U (yA Q) (DataW.del (fE (Q.map λq=>(q.1.s,mF q.2))) (kL q.1.s))/\o.ownsMap prog 9 (plainElem prog 3) K M (D.put (kL (cE q.1.s)) (eJ c))/\eB (λk=>k=U\/k=K) y o):=
      aEn x b U K t.L _ q.1.s Q D M c y PP.o.blk (j.map d.Z (λe=>by obtain e|e:=e;exact eD d.Z d.blk e;exact wG d.Z d.row (by rw[e];rfl))) (j.map d.cnts (λe=>by obtain e|e:=e;exact eD d.cnts d.blk e;exact wG d.cnts d.row (by rw[e];rfl))) (by rw[d.cnt,hc]) d.d3 hks hM hc9 (λW s=>HUT.o W (TS1.o.trans (s.mono λk _ e=>by rw[e];exact d.ss)))
     have O:=bB hc;clear hc d j;go_wp2_with fail;apply lC G.o;rintro w4 ⟨R,T,E⟩;have HE:=bB (aIy HI.o HF.o X.o F.o r (by rw[HTT.o];exact HTL.o) HQ.o HQB.o hL PP.o E R T O.o);clear R T E G;go_wp2;obtain⟨⟨k,A,C⟩,Z⟩:=HE.o;exact⟨⟨⟨k,A⟩,Y.o.trans Z⟩,HLT.o _ k A (by rw[HCN.o]at C;exact C)⟩
    have hL':u<q.1.n:=by omega
    have hpl:=(gQ d.heap r).2.2;have G:cB (∀W,uB y W->gA prog 263 #[.pointer (bA (dB x 4)),tA #[.pointer (yB q.2),zA q.1.n]] W λe o=>e=uA (xA #[])/\∃O z,nB o x (#[zA t.L,.map (bA b),.map (bA U),.map (bA K),pA (yB g) (yA i-1) a].setIfInBounds 4 (pA (yB O) (yA (pP i)+1) z)) 228/\
     o.ownsRow 0 334 2 (pA (yB O) (yA (pP i)+1) z) (yA (pP i)+1) (qK (gS (pP i) ⟨q.2,q.1.n⟩))/\((iA.slice (yB g) (yA i-1) a).ownBlock=bA O\/W.1.size<=O)/\eB (λk=>k=x\/(iA.slice (yB g) (yA i-1) a).ownBlock=bA k) W o):=λW s=>by
     have H:=(d.di g rfl).1;exact ln x 4 0 (pA (yB g) (yA i-1) a) (pP i) ⟨q.2,q.1.n⟩ W _ _ (PP.o.blk.z s) rfl (by rw[hpl];exact(eB.of (S:=λ_=>False) s).row PP.o.row (λ_ _ e=>e)) (λe=>H (by simpa[iA.ownBlock]using e)) (Oa _) (by omega)
    clear d j v0;go_upto_region 4 with fail;refine pM 9 (by kernel_rfl) (by kernel_rfl) ?_;simp only[Rg,List.take_zero,Sg,Kf];have b:Nonempty Unit:=⟨()⟩
    repeat (go_big_quiet_step (fail))
    refine wpQuiet_nil ?_;go_wp2_with(first|(go_at_call 263;apply lC (G.o _ iD.drew);rintro w4 ⟨O,z,b,s,O,E⟩));have HE:=bB (aEp (B:=w.1.size) HI.o HF.o X.o F.o r (by rw[HTT.o];exact HTL.o) HQ.o HQB.o hL' PP.o (by simpa using b) s O ((eB.of (S:=λk=>k=x\/(iA.slice (yB g) (yA i-1) a).ownBlock=bA k) ((Below.refl y.1.size y).drew)).trans' E) hwr (λg U _=>La U));clear b s O E G;obtain⟨⟨k,A,C⟩,Z⟩:=HE.o;exact⟨⟨⟨k,A⟩,Y.o.trans Z⟩,HLT.o _ k A (by rw[HCN.o]at C;exact C)⟩
   .have l:cB (vD wr (λg=>S g\/w.1.size<=g) x (xE J I t) M):=aEq d HEU.o HF.o (λh=>ht h.2);clear d;generalize (nD i 0).t=TT at *;go_wp2;go_end0;exact⟨rfl,l.o,Y.o⟩
  .have l:cB (vD wr (λg=>S g\/w.1.size<=g) x (xE J I t) M):=aEq d HEU.o HF.o (λh=>r h.1);have b:yA i=0:=by omega
   have x4:∃v,tC wr x 4 v/\(v=pA aA 0 0\/∃g a,v=pA (yB g) 0 a):=by
    refine⟨iv,d.blk.cell 4,?_⟩;obtain⟨e,_⟩|⟨g,a,cur,e,_⟩:=d.row.2;exact Ca e;rw[b]at e;exact La ⟨g,a,e⟩
   clear d b;obtain⟨v,x4,b⟩:=x4;obtain rfl|⟨g,a,rfl⟩:=b
   .go_wp2;go_end0;exact⟨rfl,l.o,Y.o⟩
   go_wp2;go_end0;exact⟨rfl,l.o,Y.o⟩
end
section
open Go.Maps
def MG{H:Type}{P:Program}{k:jA}{R:iA->Option (DataW H×List MemPlace)}{w g:eA}{b r n:Nat}{D:DataW H}{left:Lit->Bool}{v:Nat}{S:Nat->Prop}(h:w.ranges P k R b r n D left v)(f:eB S w g)(s:¬S b)(t:¬S r):g.ranges P k R b r n D left v:=by
 have o:=h.owns.lt;have p:=h.lt;obtain⟨m,a,c,e,i,j,F,u,q,l,d⟩:=h;exact⟨m,a,c,e,i,(f.block b o s).trans j,F,u,q,(f.block r p t).trans l,d⟩
def wy{key:iA}{a:Lit}(h:keyOf prog 9 key=bA a):∃s,key=oA s/\a=kL s/\s.size<=maxLen:=WideMaps.string_of_keyOf underlying9 h
def mL.trim{w:eA}{B:Nat->Prop}{T:Nat->Option Nat}{l m:Nat}{c:iC}{a:Int}{L:List (fB×Nat)}{M:Nat}(h:mL w B T l m c a L M):mL w B (λg=>if g<w.1.size then T g else aA) l m c a L M:=
 { h with
  idx:=λp e=>(h.idx p e).keep λg d b=>⟨rfl,b.1,by show(if g<w.1.size then T g else aA)=_;rw[Ma d];exact b.2⟩
  tl:=by show(if l<w.1.size then T l else aA)=aA;rw[Ma (aB h.blk)];exact h.tl
  tm:=by show(if m<w.1.size then T m else aA)=aA;rw[Ma h.ten.lt];exact h.tm}
def mL.aside{w f:eA}{B:Nat->Prop}{T:Nat->Option Nat}{l m r:Nat}{c:iC}{a:Int}{L:List (fB×Nat)}{M:Nat}(h:mL w B T l m c a L M)(d:eB (·=r) w f)(o:T r=aA)(j:l≠r)(k:m≠r):mL f B T l m c a L M:=
 { h with
  blk:=d.blk h.blk j
  ten:=d.map h.ten k
  idx:=λp n=>(h.idx p n).keep λg i b=>⟨d.block g i (λe=>by rw[e,o]at b;cases b.2),b⟩ }
def mL.moved{w f:eA}{B:Nat->Prop}{T:Nat->Option Nat}{l m:Nat}{c:iC}{d a:Int}{L:List (fB×Nat)}{M:Nat}(h:mL w B T l m c d L M)(i:eB (·=l) w f)(j:nB f l (oW c a m) 160):mL f B T l m c a L M:=
 { h with
  blk:=j
  ten:=i.map h.ten h.lm
  idx:=λp n=>(h.idx p n).keep λg k b=>⟨i.block g k (λe=>by rw[e,h.tl]at b;cases b.2),b⟩ }
def mL.turned{w v:eA}{B:Nat->Prop}{T:Nat->Option Nat}{l m:Nat}{c:iC}{o:Int}{L:List (fB×Nat)}{M:Nat}{p:fB×Nat}{t':fB}(h:mL w B T l m c o L M)(x:∀g,w.1.size<=g->B g)(u:p∈L)(r:t'.N=p.1.N)
(b:eB (λg=>B g/\T g=bA p.2) w v)(y:vD v (λg=>(B g/\T g=bA p.2)\/w.1.size<=g) p.2 t' M):
 mL v B (λg=>if g<w.1.size then T g else bA p.2) l m c o (fC (λp:fB×Nat=>p.1.N) (t',p.2) L) M:=by
 have z:=aB h.blk;have A:=h.ten.lt;have i:(fC (λp:fB×Nat=>p.1.N) (t',p.2) L).map (λp=>(p.1.N,mF p.2))=L.map λp=>(p.1.N,mF p.2):=
  GY (key:=λp:fB×Nat=>p.1.N) (a:=(t',p.2)) (λp:fB×Nat=>(p.1.N,mF p.2)) h.rise u r.symm (by simp[r])
 have n:yA (fC (λp:fB×Nat=>p.1.N) (t',p.2) L)=yA L:=by
  have:=Kd List.length i;simpa using this
 have t:∀q∈L,q.1.N≠t'.N->q.2≠p.2:=λq j f e=>by
  have:=aT h.nd j u e;rw[this,r]at f;exact f rfl
 exact {
  blk:=b.blk h.blk (λe=>by rw[h.tl]at e;cases e.2)
  ten:=by rw[i,n];exact b.map h.ten (λe=>by rw[h.tm]at e;cases e.2)
  rise:=kK h.rise
  idx:=λq j=>by
   rcases bg h.rise j with rfl|⟨j,f⟩
   .refine y.keep λg s d=>⟨rfl,?_,?_⟩
    .rcases d with d|d
     .exact d.1
     exact x g d
    show (if g<w.1.size then T g else bA p.2)=bA p.2;by_cases k:g<w.1.size
    .rw[Ma k];obtain d|d:=d
     .exact d.2
     omega
    rw[Ja k]
   refine (h.idx q j).keep λg s d=>⟨b.block g s (λe=>?_),d.1,?_⟩
   .have:=t q j f;rw[e.2]at d;exact this (Lc d.2).symm
   show (if g<w.1.size then T g else bA p.2)=_;rw[Ma s];exact d.2
  nd:=by
   rw[GY (key:=λp:fB×Nat=>p.1.N) (a:=(t',p.2)) (·.2) h.rise u r.symm rfl];exact h.nd
  tl:=by show(if l<w.1.size then T l else _)=aA;rw[Ma z];exact h.tl
  tm:=by show(if m<w.1.size then T m else _)=aA;rw[Ma A];exact h.tm
  lB:=h.lB
  mB:=h.mB}
def mL.left{w y s:eA}{B:Nat->Prop}{T:Nat->Option Nat}{l m n:Nat}{c:iC}{i:Int}{L:List (fB×Nat)}{M:Nat}{k:jB}{S:Nat->Prop}(h:mL w B T l m c i L M)(C:∀g,S g->∀q∈L,q.1.N≠k->T g≠bA q.2)(t:∀g,g<w.1.size->S g->T g≠aA)
(a:eB S w y)(b:eB (·=m) y s)(j:s.ownsMap prog 9 tE m n (DataW.del (fE (L.map λp=>(p.1.N,mF p.2))) (kL k))):
 mL s B T l m c i (vE (λp:fB×Nat=>p.1.N) k L) M:=by
 have x:=aB h.blk;have D:=a.size;have f:DataW.del (fE (L.map λp=>(p.1.N,mF p.2))) (kL k)=fE ((vE (λp:fB×Nat=>p.1.N) k L).map λp=>(p.1.N,mF p.2)):=
  ZU (key:=λp:fB×Nat=>p.1.N) (λp=>mF p.2) k L
 have d:∀g,g<w.1.size->¬S g->g≠m->s.heap[g]?=w.heap[g]?:=λg u z A=>by
  rw[b.block g (by omega) A,a.block g u z]
 exact {
  blk:=(d l x (λe=>t l x e h.tl) h.lm.symm).trans h.blk
  ten:=by
   have:=TM j;rw[f,bN]at this;exact this
  rise:=yP h.rise
  idx:=λq o=>by
   obtain⟨o,v⟩:=yS.1 o;exact(h.idx q o).keep λg u r=>⟨d g u (λe=>C g e q o v r.2) (λe=>by rw[e,h.tm]at r;cases r.2),r⟩
  nd:=h.nd.sublist (List.Sublist.map _ Pf)
  tl:=h.tl
  tm:=h.tm
  lB:=h.lB
  mB:=h.mB}
def TkR(c:iC)(a:Int)(b:List fB)(M:Nat)(B:Nat->Prop)(l m r:Nat)(left:Lit->Bool)(wr:eA):Prop:=
 ∃T L,mL wr B T l m c a L M/\L.map (·.1)=wI c.w a (λs=>left (kL s)) b/\T r=aA
def aHl{c:iC}{a:Int}{o:List fB}{M l m n:Nat}{B:Nat->Prop}{left:Lit->Bool}{wr:eA}{T:Nat->Option Nat}{L:List (fB×Nat)}{D:DataW Unit}{s:jB}{v:iA}{y:DataW Unit×List MemPlace}(h:mL wr B T l m c a L M)(u:L.map (·.1)=wI c.w a (λs=>left (kL s)) o)(g:wr.ownsMap prog 9 tE m n D)(x:left (kL s)=dA)(C:tE v=bA y)(f:∀zd,D.atKey (kL s) zd=y.1):
 ∃p∈L,p.1.N=s/\p.1∈o/\v=.pointer (yB p.2):=by
 rw[vv g h.ten]at f;have d:∀zd:DataW Unit,((dD (λp:fB×Nat=>p.1.N) s L).map λp=>mF p.2).getD zd=y.1:=λzd=>by
  rw[<-iT (key:=λp:fB×Nat=>p.1.N) (λp=>mF p.2)];exact f zd
 cases hg:dD (λp:fB×Nat=>p.1.N) s L with
 |none=>
  rw[hg]at d;have b:=d (eJ 0);have j:=d (eJ 1);simp only[Option.map_none,Option.getD_none]at b j;rw[<-b]at j;simp[eJ]at j
 |some p=>
  rw[hg]at d;have b:=d .nil;simp only[Option.map_some,Option.getD_some]at b;obtain⟨q,i⟩:=uM hg;have z:p.1∈wI c.w a (λs=>left (kL s)) o:=by rw[<-u];exact Tc q
  obtain⟨t,A,e,r⟩:=XK z;have k:left (kL t.N)=dA:=by rw[<-r,i];exact x
  rw[Ma k]at e;refine⟨p,q,i,by rw[e];exact A,pR (ps:=y.2) (by rw[C,b])⟩
end
