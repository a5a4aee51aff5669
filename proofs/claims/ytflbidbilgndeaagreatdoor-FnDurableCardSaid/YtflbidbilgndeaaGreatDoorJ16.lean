import Derived.Test.YtflbidbilgndeaaGreatDoorJ14
set_option maxRecDepth 100000
set_option maxHeartbeats 8000000
open Option renaming some->bA
open ByteArray renaming empty->kA
open List renaming length->yA
namespace Go.Proofs.YtflbidbilgndeaaGreatDoor
open Value renaming string->oA,slice->pA,int->lA
open IntKind renaming i64->mA
open Go.RowKit Tryz
theorem bnE{x:jB}(h:x.size=0):x.toList.isEmpty=true:=by
 rw[ByteArray.toList_eq,List.isEmpty_iff,<-Nb];simpa using h
theorem XM{v v':Value}{n b:Nat}(h:v.ownBlock≠bA b)(a:v'.ownBlock=v.ownBlock\/v'.ownBlock=bA n)(c:b<n):v'.ownBlock≠bA b:=by grind
structure GP(w W:World)(cs:Array Value)(v:Value)(st:jB):Prop where
 Q:nB W w.1.size cs 47
 O:jN W (w.1.size+1) v st
 N:uB w W
section
variable {w W W':World} {cs:Array Value} {v v':Value} {st x:jB}
theorem GP.z(h:GP w W cs v st)(a:uB W W'):GP w W' cs v st:=⟨h.Q.z a,h.O.z a,vB h.N a⟩
theorem GP.size(h:GP w W cs v st):w.1.size+1<=W.1.size:=aB h.Q
theorem GP.grow(h:GP w W cs v st)(b:jN W' (w.1.size+1) v' x)(a:Below (w.1.size+1) W W'):GP w W' cs v' x:=⟨(a.block w.1.size (Nat.lt_succ_self _)).trans h.Q,b,h.N.trans (a.mono (by omega))⟩
end
theorem ye(r:gG)(a:mC)(o:Nat)(w:World)(h:VR r)(p:r.K≠1):
 dF 29 #[.agg #[zA r.K,oA r.T,oA r.R,zA r.U,pA a (yA r.P) o]] w (.tuple #[oA (sK r),.bool true]):=by
 obtain⟨P,C,D,E,F,e,e,-,-⟩:=h.ok;have i:=h.U;obtain⟨k,m,l,j,e⟩:=r;dsimp only at *;obtain rfl:=F p;have g:=bB (λW=>dE k 1 6 W);have M:=bB (λW=>lD 1 k W (by omega) (by omega) (by omega));have L:=bB (λW=>jQ m W (by omega));have J:=bB (λW=>rO l W (by omega));have K:=bB (λW=>lD 8 j W (by omega) i.1 i.2);have e:=gB 1 k;have e:=rF m;have e:=iF l;have e:=gB 8 j;have I:cB (sK ⟨k,m,l,j,[]⟩=pB 1 k++((if bW k=true then aN m else kA)++((if aW k=true then aG l else kA)++(if qW k=true then pB 8 j else kA)))):=by
  show _=_;rw[sK];dsimp only;rw[Ja p,zn]
 generalize sK ⟨k,m,l,j,[]⟩=Y at *;generalize pB 1 k=y at *;generalize aN m=e at *;generalize aG l=Z at *;generalize pB 8 j=e at *;obtain⟨u,t,s,n⟩:=GA y (by omega);have b:=bB n;clear n i F;rcases(show k=2\/k=3\/k=4\/k=5\/k=6 by omega) with rfl|rfl|rfl|rfl|rfl
 all_goals
  clear p P;rw[show bC _ 1 6=true from rfl]at g;(try have e:=bnE (C rfl));(try have e:=bnE (D rfl));(try have e:(j != 0)=false:=by rw[E rfl];rfl);clear C D E;go_enter func29,ntmps29;go_upto_region 10 with(go_at_call 91;refine tD (g.o _) ?_)
  clear g;go_wp2_with fail;apply lC (M.o _);intro f c;have B:w.1.size+1<=f.1.size:=by have:=c.size;simpa using this
  have G:cB (GP w (t f) _ (u f) y):=⟨((nB.new _ _ _).z c).z (b.o f).2,(b.o f).1.mono B,vB (vB zB c) (b.o f).2⟩
  clear c B;go_upto_region 11 with fail;generalize t f=W at *;generalize u f=v at *;clear s b;have R:=G.o.Q.c5;have q:=DQ G.o.O;go_wp2_with(first|(go_at_call 92;apply lC (L.o _);intro H d;replace G:=bB (G.o.z d);clear d)|(go_at_call 62;apply lC (J.o _);intro H d;replace G:=bB (G.o.z d);clear d)|(go_at_call 54;apply lC (K.o _);intro H d;replace G:=bB (G.o.z d);clear d)|(at_builtin;refine tK _ rfl _ _ rfl (w.1.size+1) _ _ _ rfl G.o.O rfl (by have:=G.o.size;omega) (by first|omega|(simp only[Ka];omega)) ?_;intro v5 e A z _ _ _;replace G:=bB (G.o.grow A z);clear A z;have R:=G.o.Q.c5;have q:=DQ G.o.O));go_ret2;exact⟨by rw[I.o];simp[bW,aW,qW,Wa],G.o.N⟩
theorem yf(r:gG)(a:mC)(cap:Nat)(w:World)(hf:pJ w a r.P)(h:VR r)(h1:r.K=1):
 dF 29 #[.agg #[lA mA r.K,oA r.T,oA r.R,lA mA r.U,pA a (yA r.P) cap]] w (.tuple #[oA (sK r),.bool true]):=by
 obtain⟨-,-,q2,q3,-,q5,q6,q7,q8⟩:=h.ok;have hbi:=h.bits;have U:=h.sz;obtain⟨k,te,me,nu,f⟩:=r;dsimp only at *;subst h1;have HBT:=bB (λW=>dE 1 1 6 W);rw[show bC 1 1 6=true from rfl]at HBT;have HU:=bB (λW=>lD 1 1 W (by omega) (by omega) (by omega));have HT:=bB (λW=>jQ te W (by omega));have HC:=bB (λW=>lD 2 (yA f:Nat) W (by omega) (by omega) (by omega));have z1:=gB 1 1;have z2:=rF te;have z3:=gB 2 (yA f:Nat);rw[aPw]at U |-
 have HXZ:cB ((iE f).size<=60000):=by show _<=_;simp only[Ka]at U;omega
 obtain⟨V,hV⟩:∃V,V=pB 1 1++aN te++pB 2 (yA f:Nat)++iE f:=⟨_,rfl⟩
 rw[<-hV];replace hV:=bB hV;have g2:=bnE (q2 rfl);have g3:(nu != 0)=false:=by rw[q3 rfl];rfl
 clear q2 q3 U;generalize pB 1 1=N1 at *;generalize aN te=ST at *;generalize pB 2 (yA f:Nat)=SC at *;obtain⟨CV,CN,hcv,hcn⟩:=GA N1 (by omega);have P:=bB hcn;have HF:=bB hf;have HBI:=bB hbi;have HAX:=bB q8;clear hcn hf hbi q8;go_enter func29,ntmps29;go_upto_region 10 with(go_at_call 91;refine tD (HBT.o _) ?_)
 clear HBT;go_wp2_with fail;apply lC (HU.o _);intro K y;have hs:w.1.size+1<=K.1.size:=by have:=y.size;simpa using this
 have G:cB (GP w (CN K) _ (CV K) N1):=⟨((nB.new _ _ _).z y).z (P.o K).2,(P.o K).1.mono hs,vB (vB zB y) (P.o K).2⟩
 clear y hs;go_upto_region 11 with fail;generalize CN K=W at *;generalize CV K=v at *;clear hcv P;obtain⟨r0,r1,r2,r3,r4⟩:=G.o.Q.c5;have hbk:=DQ G.o.O;go_wp2_with(first|(go_at_call 92;apply lC (HT.o _);intro wx hb;replace G:=bB (G.o.z hb);clear hb)|(go_at_call 54;apply lC (HC.o _);intro wx hb;replace G:=bB (G.o.z hb);clear hb)|(at_builtin;refine tK _ rfl _ _ rfl (w.1.size+1) _ _ _ rfl G.o.O rfl (by have:=G.o.size;omega) (by first|omega|(simp only[Ka];omega)) ?_;intro v5 w5 hr hB _ _ _;replace G:=bB (G.o.grow hr hB);clear hr hB;have r0:=G.o.Q.c5;have hbk:=DQ G.o.O));have hst0:(N1++ST++SC).size<=9000000:=by simp only[Ka];omega
 generalize N1++ST++SC=H0 at *;clear r0 hbk z1 z2 z3 HT HC HU;go_loopw [7,138] (λY i wr=>∃(k:Nat)(st:jB),k<=yA f/\i=lA mA k/\cB (st=H0++iE (f.take k))/\cB (GP w wr #[lA mA 1,oA te,oA me,lA mA nu,pA a (yA f) cap] Y st)) (λ_ i _=>yA f-(intOf i).toNat)
 case atStart=>exact⟨0,H0,Oa _,rfl,by show _=_;simp[iE],G.o⟩
 case round=>
  obtain⟨k,st,hk,rfl,B,L⟩:=hrel;clear G;by_cases T:k<yA f
  .obtain ⟨b,o,a1,q1,rfl,hb,c0',c1',p1⟩:=HF.o.at T;have c0:=(L.o.N.cell (p:=⟨b,o+k*2,none⟩) hb).trans c0';have c1:=(L.o.N.cell (p:=⟨b,o+k*2+1,none⟩) hb).trans c1';have hr1:=HBI.o k T;obtain⟨hx1,hx2⟩:=HAX.o k T;have U:=L.o.size;have ht:=aQ f k T;obtain⟨he1,he2⟩:(iE (f.take k)).size<=60000/\(qX f[k]).size<=60000:=by
    have h1:=gI (f.take (k+1)) (f.drop (k+1));rw[Za,ht]at h1;have h2:=Kd ByteArray.size h1;have:=HXZ.o;simp only[Ka]at h2;omega
   have hst:st.size<=10000000:=by rw[B.o,Ka];omega
   have hlb:yA f[k].B+bE f[k].B<=60000:=by have:=zP f[k];omega
   have E2:cB (∀SL Z,SL=pB 1 (yA f[k].B:Nat)->Z=pB 8 f[k].bits->st++SL++mD f[k].B++Z=H0++iE (f.take (k+1))):=λSL Z e1 e2=>by rw[ht,B.o,qX,uH,e1,e2];simp only[Wa]
   have HLN:=bB (λW=>lD 1 (yA f[k].B:Nat) W (by omega) (by omega) (by omega));have HB8:=bB (λW=>lD 8 f[k].bits W (by omega) hr1.1 hr1.2);have zl:=gB 1 (yA f[k].B:Nat);have z8:=gB 8 f[k].bits;have HPL:=bB p1;have HLO:=bB hx2;clear p1 c0' c1' B hr1 hx2 ht he1 he2;generalize pB 1 (yA f[k].B:Nat)=SL at *;generalize pB 8 f[k].bits=Z at *;replace E2:=bB (E2.o SL Z rfl rfl);generalize f[k].B=g at *;generalize f[k].bits=bi at *;obtain⟨gv,D,F,H⟩:=L.o.O.lt;have A:cB (u7.ownBlock≠bA wr.1.size):=by show _≠_;rw[D];intro e;have:=Lc e;omega
   have G:=bB (L.o.z (wF wr (.cells #[pA a1 (yA g) q1,lA mA bi] 111)));have X:=bB (nB.new wr #[pA a1 (yA g) q1,lA mA bi] 111);have d1:¬(yA g:Int) > 255:=by omega
   clear D F H gv L;go_wp2_with fail;apply lC (HLN.o _);intro W hbW;replace G:=bB (G.o.z hbW);replace X:=bB (X.o.z hbW);have u:=aB X.o;clear hbW HLN c0 c1;generalize wr.1.size=BX at *;clear wr;go_wp2_with(at_builtin;refine tK _ rfl _ _ rfl (w.1.size+1) _ st SL rfl G.o.O rfl (by omega) (by omega) ?_;intro v5 w5 hr hB z hat _;have X5:=bB ((z BX u A.o).trans X.o);have N5:=bB (XM A.o hat u);replace G:=bB (G.o.grow hr hB);clear hr hB z hat;have y0:=nB.cell X5.o 0);have hst1:(st++SL).size<=60000001:=by rw[Ka];omega
   clear X A u hst;generalize st++SL=st1 at *;go_loopw [7,155] (λY j wr=>∃(m:Nat)(n:jB),m<=yA g/\j=lA mA m/\cB (n=st1++mD (g.take m))/\cB (GP w wr #[lA mA 1,oA te,oA me,lA mA nu,pA (bA ⟨b,o,none⟩) (yA f) cap] Y n)/\cB (Y.ownBlock≠bA BX)/\cB (nB wr BX #[pA a1 (yA g) q1,lA mA bi] 111)) (λ_ j _=>yA g-(intOf j).toNat)
   case atStart=>exact⟨0,st1,Oa _,rfl,by show _=_;simp[mD],G.o,N5.o,X5.o⟩
   case round=>
    obtain⟨m,n,hm,rfl,t,s,N2,X2⟩:=hrel;have hst2:n.size<=100000000:=by have h1:=lQ (g.take m);have h2:=xR g m;rw[Hb]at h1;rw[t.o,Ka];omega
    clear G N5 X5 y0;by_cases I:m<yA g
    .obtain ⟨b2,o2,rfl,C,f0',f1'⟩:=HPL.o.at I;have c:=(s.o.N.cell (p:=⟨b2,o2+m*2,none⟩) C).trans f0';have d:=(s.o.N.cell (p:=⟨b2,o2+m*2+1,none⟩) C).trans f1';have hsz2:=s.o.size;obtain⟨k1,k2⟩:=HLO.o m I;have HS8:=bB (λW=>jQ g[m].N W (by omega));have HS16:=bB (λW=>rO g[m].V W (by omega));have hs3:=rF g[m].N;have hs4:=iF g[m].V;have E3:cB (∀R S,R=aN g[m].N->S=aG g[m].V->n++(R++S)=st1++mD (g.take (m+1))):=λR S e1 e2=>by rw[pU g m I,t.o,e1,e2];simp only[Wa]
     clear t f0' f1';generalize aN g[m].N=R at *;generalize aG g[m].V=S at *;replace E3:=bB (E3.o R S rfl rfl);generalize g[m].N=nm at *;generalize g[m].V=va at *;have g1:¬(nm.size:Int) > 255:=by omega
     have g2:¬(va.size:Int) > 65535:=by omega
     have m1:¬(9223372036854775807<R.size+S.size):=by omega
     have HQ2:cB (R.size=1+nm.size/\S.size=2+va.size):=⟨by omega,by omega⟩
     obtain⟨gv,D,F,H⟩:=s.o.O.lt;have A:cB (u7.ownBlock≠bA wr.1.size):=by show _≠_;rw[D];intro e;have:=Lc e;omega
     have M:=bB (nB.new wr #[oA nm,oA va] 181);have hbn:=wF wr (.cells #[oA nm,oA va] 181);replace s:=bB (s.o.z hbn);replace X2:=bB (X2.o.z hbn);clear hs3 hs4 D F H gv hbn;go_upto_region 31 with fail;generalize wr.alloc (.cells #[oA nm,oA va] 181)=W at *;have hBX2:=aB M.o;have u:=aB X2.o;clear C c d hsz2;generalize wr.1.size=BY at *;clear wr;have HKX:=bB (λw'(h:uB W w')=>(M.o.z h).c2);have x0:=M.o.c2;go_region_held3 (λw'=>w'.cell? ⟨BY,0,none⟩=bA (oA nm)/\w'.cell? ⟨BY,1,none⟩=bA (oA va))
      (first
       |go_keep
       |exact hkx5
       |exact HKX.o _ l
       |exact HKX.o _ hc1)
      ((first
        |(go_at_call 92;apply lC (HS8.o _);intro K y;have hc1:uB W K:=(Below.refl _ W).drew.trans y)
        |(go_at_call 62;apply lC (HS16.o _);intro w2 C;have l:uB W w2:=hc1.trans (C.mono hc1.size))
        |(have q:=l;clear q;refine mP _ (by rfl) _ _ (by rfl) (w.1.size+1) _ n (R++S) (by rfl) (by exact s.o.O.z l) (by rfl) (by have:=l.size;omega) (by have:=HQ2.o;rw[Ka];omega) ?_;intro v5 w5 J hB5 z hat5 hle5;have hX5:nB w5 BX #[pA (bA ⟨b2,o2,none⟩) (yA g) q1,lA mA bi] 111:=(z BX (by have:=l.size;omega) N2.o).trans (X2.o.z l);have hN5:v5.ownBlock≠bA BX:=XM N2.o hat5 (by have:=l.size;omega);have hkx5:tC w5 BY 0 (oA nm)/\tC w5 BY 1 (oA va):=nB.c2 ((z BY (by have:=l.size;omega) A.o).trans (M.o.z l));have hG5:=GP.grow (s.o.z l) J hB5)))
     replace s:=bB hG5;replace X2:=bB hX5;replace N2:=bB hN5;clear J hB5 hG5 z hkx5 hat5 hle5 hX5 hN5 m1 hst2;generalize n++(R++S)=st5 at *;go_wp2;exact⟨⟨m+1,st5,by omega,by go_num,E3.o,s.o,N2.o,X2.o⟩,by simp[intOf];omega⟩
    replace E2:cB (n++Z=H0++iE (f.take (k+1))):=by show _=_;rw[<-E2.o,t.o,Ra (by omega)]
    have y1:=X2.o.cell 1;clear t;go_wp2_with fail;apply lC (HB8.o _);intro w4 hb4;replace s:=bB (s.o.z hb4);have hsz4:=s.o.size;clear hb4 y1 X2 N2;go_wp2_with(at_builtin;refine tK _ rfl _ _ rfl (w.1.size+1) _ n Z rfl s.o.O rfl (by omega) (by omega) ?_;intro v5 w5 hr hB _ _ _;replace s:=bB (s.o.grow hr hB);clear hr hB);clear hst2;generalize n++Z=st7 at *;exact⟨⟨k+1,st7,by omega,by go_num,E2.o,s.o⟩,by simp[intOf];omega⟩
  .have E:cB (V=st):=by show _=_;rw[hV.o,B.o,Ra (by omega)]
   have hbk:=DQ L.o.O;have BW:=bB L.o.N;clear B L;go_wp2;go_ret2;exact⟨by rw[E.o];rfl,BW.o⟩
theorem oU(r:gG)(a:mC)(b:Nat)(w:World)(f:pJ w a r.P)(h:VR r):
 dF 8 #[.agg #[zA r.K,oA r.T,oA r.R,zA r.U,pA a (yA r.P) b]] w (oA (sK r)):=by
 have i:=bB (λW(j:uB w W)=>if d:r.K=1 then yf r a b W (f.z j) h d else ye r a b W h d);have l:=h.sz;generalize sK r=V at *;go_enter func8,ntmps8;go_wp2_with fail;apply lC (i.o _ zB);intro m c;have g:=bB (vB zB c);go_wp2;go_ret;exact⟨rfl,g.o⟩
