import Derived.Test.YtcmdjimlmnaojaaGreatDoorJ15
set_option maxRecDepth 100000
set_option maxHeartbeats 8000000
open Option renaming some->cA
open ByteArray renaming empty->lA
open List renaming length->zA
namespace Go.Proofs.YtcmdjimlmnaojaaGreatDoor
open Value renaming string->pA,slice->qA,int->mA
open IntKind renaming i64->oA
open Go.RowKit Tryz
theorem bnE{x:pB}(h:x.size=0):x.toList.isEmpty=true:=by
 rw[ByteArray.toList_eq,List.isEmpty_iff,<-Nb];simpa using h
theorem VL{v v':Value}{n b:Nat}(h:v.ownBlock≠cA b)(a:v'.ownBlock=v.ownBlock\/v'.ownBlock=cA n)(c:b<n):v'.ownBlock≠cA b:=by grind
structure GP(w W:World)(cs:Array Value)(v:Value)(st:pB):Prop where
 Q:jB W w.1.size cs 47
 O:dN W (w.1.size+1) v st
 N:xB w W
section
variable {w W W':World} {cs:Array Value} {v v':Value} {st x:pB}
theorem GP.z(h:GP w W cs v st)(a:xB W W'):GP w W' cs v st:=⟨h.Q.z a,h.O.z a,aC h.N a⟩
theorem GP.size(h:GP w W cs v st):w.1.size+1<=W.1.size:=bB h.Q
theorem GP.grow(h:GP w W cs v st)(b:dN W' (w.1.size+1) v' x)(a:Below (w.1.size+1) W W'):GP w W' cs v' x:=⟨(a.block w.1.size (Nat.lt_succ_self _)).trans h.Q,b,h.N.trans (a.mono (by omega))⟩
end
theorem uy(r:eG)(a:nC)(o:Nat)(w:World)(h:VR r)(p:r.K≠1):
 cF 26 #[.agg #[aB r.K,pA r.T,pA r.R,aB r.U,qA a (zA r.P) o]] w (.tuple #[pA (wK r),.bool true]):=by
 obtain⟨P,C,D,E,F,e,e,-,-⟩:=h.ok;have i:=h.U;clear h;obtain⟨k,m,l,j,xs⟩:=r;dsimp only at *;obtain rfl:=F p;have g:=dB (λW=>uD k 1 6 W);have M:=dB (λW=>mD 1 k W (by omega) (by omega) (by omega));have L:=dB (λW=>cQ m W (by omega));have J:=dB (λW=>gO l W (by omega));have K:=dB (λW=>mD 8 j W (by omega) i.1 i.2);have e:=nB 1 k;have e:=sF m;have e:=eF l;have e:=nB 8 j;have I:cB (wK ⟨k,m,l,j,[]⟩=tB 1 k++((if yU k=true then gN m else lA)++((if xU k=true then dG l else lA)++(if kV k=true then tB 8 j else lA)))):=by
  show _=_;rw[wK];dsimp only;rw[Ja p,we]
 generalize wK ⟨k,m,l,j,[]⟩=Y at *;generalize tB 1 k=y at *;generalize gN m=e at *;generalize dG l=Z at *;generalize tB 8 j=e at *;obtain⟨u,t,s,n⟩:=DZ y (by omega);have b:=dB n;clear n i F;rcases(show k=2\/k=3\/k=4\/k=5\/k=6 by omega) with rfl|rfl|rfl|rfl|rfl
 all_goals
  clear p P;rw[show yB _ 1 6=true from rfl]at g;(try have e:=bnE (C rfl));(try have e:=bnE (D rfl));(try have e:(j != 0)=false:=by rw[E rfl];rfl);clear C D E;go_enter func26,ntmps26;go_upto_region 10 with(go_at_call 86;refine rD (g.o _) ?_)
  clear g;go_wp2_with fail;apply jC (M.o _);intro f c;have B:w.1.size+1<=f.1.size:=by have:=c.size;simpa using this
  have G:cB (GP w (t f) _ (u f) y):=⟨((jB.new _ _ _).z c).z (b.o f).2,(b.o f).1.mono B,aC (aC bC c) (b.o f).2⟩
  clear c B;go_upto_region 11 with fail;generalize t f=W at *;generalize u f=v at *;clear s b;obtain⟨R,S,T,U,V⟩:=G.o.Q.c5;have q:=BN G.o.O;go_wp2_with(first|(go_at_call 87;apply jC (L.o _);intro H d;replace G:=dB (G.o.z d);clear d)|(go_at_call 57;apply jC (J.o _);intro H d;replace G:=dB (G.o.z d);clear d)|(go_at_call 49;apply jC (K.o _);intro H d;replace G:=dB (G.o.z d);clear d)|(at_builtin;refine rK _ rfl _ _ rfl (w.1.size+1) _ _ _ rfl G.o.O rfl (by have:=G.o.size;omega) (by first|omega|(simp only[Ka];omega)) ?_;intro v5 e A z _ _ _;replace G:=dB (G.o.grow A z);clear A z;obtain⟨R,S,T,U,V⟩:=G.o.Q.c5;have q:=BN G.o.O));go_ret2;exact⟨by rw[I.o];simp[yU,xU,kV,Wa],G.o.N⟩
theorem uz(r:eG)(a:nC)(cap:Nat)(w:World)(hf:oJ w a r.P)(h:VR r)(h1:r.K=1):
 cF 26 #[.agg #[mA oA r.K,pA r.T,pA r.R,mA oA r.U,qA a (zA r.P) cap]] w (.tuple #[pA (wK r),.bool true]):=by
 obtain⟨-,-,q2,q3,-,q5,q6,q7,q8⟩:=h.ok;have hbi:=h.bits;have U:=h.sz;clear h;obtain⟨k,te,me,nu,f⟩:=r;dsimp only at *;subst h1;have HBT:=dB (λW=>uD 1 1 6 W);rw[show yB 1 1 6=true from rfl]at HBT;have HU:=dB (λW=>mD 1 1 W (by omega) (by omega) (by omega));have HT:=dB (λW=>cQ te W (by omega));have HC:=dB (λW=>mD 2 (zA f:Nat) W (by omega) (by omega) (by omega));have z1:=nB 1 1;have z2:=sF te;have z3:=nB 2 (zA f:Nat);rw[aNm]at U |-
 have HXZ:cB ((iE f).size<=60000):=by show _<=_;simp only[Ka]at U;omega
 obtain⟨V,hV⟩:∃V,V=tB 1 1++gN te++tB 2 (zA f:Nat)++iE f:=⟨_,rfl⟩
 rw[<-hV];replace hV:=dB hV;have g2:=bnE (q2 rfl);have g3:(nu != 0)=false:=by rw[q3 rfl];rfl
 clear q2 q3 U;generalize tB 1 1=N1 at *;generalize gN te=ST at *;generalize tB 2 (zA f:Nat)=SC at *;obtain⟨CV,CN,hcv,hcn⟩:=DZ N1 (by omega);have P:=dB hcn;have HF:=dB hf;have HBI:=dB hbi;have HAX:=dB q8;clear hcn hf hbi q8;go_enter func26,ntmps26;go_upto_region 10 with(go_at_call 86;refine rD (HBT.o _) ?_)
 clear HBT;go_wp2_with fail;apply jC (HU.o _);intro K y;have hs:w.1.size+1<=K.1.size:=by have:=y.size;simpa using this
 have G:cB (GP w (CN K) _ (CV K) N1):=⟨((jB.new _ _ _).z y).z (P.o K).2,(P.o K).1.mono hs,aC (aC bC y) (P.o K).2⟩
 clear y hs;go_upto_region 11 with fail;generalize CN K=W at *;generalize CV K=v at *;clear hcv P;obtain⟨r0,r1,r2,r3,r4⟩:=G.o.Q.c5;have hbk:=BN G.o.O;go_wp2_with(first|(go_at_call 87;apply jC (HT.o _);intro wx hb;replace G:=dB (G.o.z hb);clear hb)|(go_at_call 49;apply jC (HC.o _);intro wx hb;replace G:=dB (G.o.z hb);clear hb)|(at_builtin;refine rK _ rfl _ _ rfl (w.1.size+1) _ _ _ rfl G.o.O rfl (by have:=G.o.size;omega) (by first|omega|(simp only[Ka];omega)) ?_;intro v5 w5 hr hB _ _ _;replace G:=dB (G.o.grow hr hB);clear hr hB;obtain⟨r0,r1,r2,r3,r4⟩:=G.o.Q.c5;have hbk:=BN G.o.O));have hst0:(N1++ST++SC).size<=9000000:=by simp only[Ka];omega
 generalize N1++ST++SC=H0 at *;clear r0 r1 r2 r3 r4 hbk z1 z2 z3 HT HC HU;go_loopw [7,138] (λY i wr=>∃(k:Nat)(st:pB),k<=zA f/\i=mA oA k/\cB (st=H0++iE (f.take k))/\cB (GP w wr #[mA oA 1,pA te,pA me,mA oA nu,qA a (zA f) cap] Y st)) (λ_ i _=>zA f-(intOf i).toNat)
 case atStart=>exact⟨0,H0,Oa _,rfl,by show _=_;simp[iE],G.o⟩
 case round=>
  obtain⟨k,st,hk,rfl,B,L⟩:=hrel;clear G;by_cases T:k<zA f
  .obtain ⟨b,o,a1,q1,rfl,hb,c0',c1',p1⟩:=HF.o.at T;have c0:=(L.o.N.cell (p:=⟨b,o+k*2,none⟩) hb).trans c0';have c1:=(L.o.N.cell (p:=⟨b,o+k*2+1,none⟩) hb).trans c1';have hr1:=HBI.o k T;obtain⟨hx1,hx2⟩:=HAX.o k T;have U:=L.o.size;have ht:=rP f k T;obtain⟨he1,he2⟩:(iE (f.take k)).size<=60000/\(gW f[k]).size<=60000:=by
    have h1:=eI (f.take (k+1)) (f.drop (k+1));rw[Za,ht]at h1;have h2:=Kd ByteArray.size h1;have:=HXZ.o;simp only[Ka]at h2;omega
   have hst:st.size<=10000000:=by rw[B.o,Ka];omega
   have hlb:zA f[k].B+aE f[k].B<=60000:=by have:=qP f[k];omega
   have E2:cB (∀SL Z,SL=tB 1 (zA f[k].B:Nat)->Z=tB 8 f[k].bits->st++SL++nD f[k].B++Z=H0++iE (f.take (k+1))):=λSL Z e1 e2=>by rw[ht,B.o,gW,aI,e1,e2];simp only[Wa]
   have HLN:=dB (λW=>mD 1 (zA f[k].B:Nat) W (by omega) (by omega) (by omega));have HB8:=dB (λW=>mD 8 f[k].bits W (by omega) hr1.1 hr1.2);have zl:=nB 1 (zA f[k].B:Nat);have z8:=nB 8 f[k].bits;have HPL:=dB p1;have HLO:=dB hx2;clear p1 c0' c1' B hr1 hx2 ht he1 he2;generalize tB 1 (zA f[k].B:Nat)=SL at *;generalize tB 8 f[k].bits=Z at *;replace E2:=dB (E2.o SL Z rfl rfl);generalize f[k].B=g at *;generalize f[k].bits=bi at *;obtain⟨gv,D,F,H⟩:=L.o.O.lt;have A:cB (u7.ownBlock≠cA wr.1.size):=by show _≠_;rw[D];intro e;have:=Lc e;omega
   have G:=dB (L.o.z (zF wr (.cells #[qA a1 (zA g) q1,mA oA bi] 93)));have X:=dB (jB.new wr #[qA a1 (zA g) q1,mA oA bi] 93);have d1:¬(zA g:Int) > 255:=by omega
   clear D F H gv L;go_wp2_with fail;apply jC (HLN.o _);intro W hbW;replace G:=dB (G.o.z hbW);replace X:=dB (X.o.z hbW);have u:=bB X.o;clear hbW HLN c0 c1;generalize wr.1.size=BX at *;clear wr;go_wp2_with(at_builtin;refine rK _ rfl _ _ rfl (w.1.size+1) _ st SL rfl G.o.O rfl (by omega) (by omega) ?_;intro v5 w5 hr hB z hat _;have X5:=dB ((z BX u A.o).trans X.o);have N5:=dB (VL A.o hat u);replace G:=dB (G.o.grow hr hB);clear hr hB z hat;have y0:=jB.cell X5.o 0);have hst1:(st++SL).size<=60000001:=by rw[Ka];omega
   clear X A u hst;generalize st++SL=st1 at *;go_loopw [7,155] (λY j wr=>∃(m:Nat)(n:pB),m<=zA g/\j=mA oA m/\cB (n=st1++nD (g.take m))/\cB (GP w wr #[mA oA 1,pA te,pA me,mA oA nu,qA (cA ⟨b,o,none⟩) (zA f) cap] Y n)/\cB (Y.ownBlock≠cA BX)/\cB (jB wr BX #[qA a1 (zA g) q1,mA oA bi] 93)) (λ_ j _=>zA g-(intOf j).toNat)
   case atStart=>exact⟨0,st1,Oa _,rfl,by show _=_;simp[nD],G.o,N5.o,X5.o⟩
   case round=>
    obtain⟨m,n,hm,rfl,t,s,N2,X2⟩:=hrel;have hst2:n.size<=100000000:=by have h1:=eQ (g.take m);have h2:=iR g m;rw[Hb]at h1;rw[t.o,Ka];omega
    clear G N5 X5 y0;by_cases I:m<zA g
    .obtain ⟨b2,o2,rfl,C,f0',f1'⟩:=HPL.o.at I;have c:=(s.o.N.cell (p:=⟨b2,o2+m*2,none⟩) C).trans f0';have d:=(s.o.N.cell (p:=⟨b2,o2+m*2+1,none⟩) C).trans f1';have hsz2:=s.o.size;obtain⟨k1,k2⟩:=HLO.o m I;have HS8:=dB (λW=>cQ g[m].N W (by omega));have HS16:=dB (λW=>gO g[m].V W (by omega));have hs3:=sF g[m].N;have hs4:=eF g[m].V;have E3:cB (∀R S,R=gN g[m].N->S=dG g[m].V->n++(R++S)=st1++nD (g.take (m+1))):=λR S e1 e2=>by rw[iT g m I,t.o,e1,e2];simp only[Wa]
     clear t f0' f1';generalize gN g[m].N=R at *;generalize dG g[m].V=S at *;replace E3:=dB (E3.o R S rfl rfl);generalize g[m].N=nm at *;generalize g[m].V=va at *;have g1:¬(nm.size:Int) > 255:=by omega
     have g2:¬(va.size:Int) > 65535:=by omega
     have m1:¬(9223372036854775807<R.size+S.size):=by omega
     have HQ2:cB (R.size=1+nm.size/\S.size=2+va.size):=⟨by omega,by omega⟩
     obtain⟨gv,D,F,H⟩:=s.o.O.lt;have A:cB (u7.ownBlock≠cA wr.1.size):=by show _≠_;rw[D];intro e;have:=Lc e;omega
     have M:=dB (jB.new wr #[pA nm,pA va] 175);have hbn:=zF wr (.cells #[pA nm,pA va] 175);replace s:=dB (s.o.z hbn);replace X2:=dB (X2.o.z hbn);clear hs3 hs4 D F H gv hbn;go_upto_region 31 with fail;generalize wr.alloc (.cells #[pA nm,pA va] 175)=W at *;have hBX2:=bB M.o;have u:=bB X2.o;clear C c d hsz2;generalize wr.1.size=BY at *;clear wr;have HKX:=dB (λw'(h:xB W w')=>(M.o.z h).c2);obtain⟨x0,x1⟩:=M.o.c2;go_region_held3 (λw'=>w'.cell? ⟨BY,0,none⟩=cA (pA nm)/\w'.cell? ⟨BY,1,none⟩=cA (pA va))
      (first
       |go_keep
       |exact hkx5
       |exact HKX.o _ l
       |exact HKX.o _ hc1)
      ((first
        |(go_at_call 87;apply jC (HS8.o _);intro K y;have hc1:xB W K:=(Below.refl _ W).drew.trans y)
        |(go_at_call 57;apply jC (HS16.o _);intro w2 C;have l:xB W w2:=hc1.trans (C.mono hc1.size))
        |(have q:=l;clear q;refine bP _ (by rfl) _ _ (by rfl) (w.1.size+1) _ n (R++S) (by rfl) (by exact s.o.O.z l) (by rfl) (by have:=l.size;omega) (by have:=HQ2.o;rw[Ka];omega) ?_;intro v5 w5 J hB5 z hat5 hle5;have hX5:jB w5 BX #[qA (cA ⟨b2,o2,none⟩) (zA g) q1,mA oA bi] 93:=(z BX (by have:=l.size;omega) N2.o).trans (X2.o.z l);have hN5:v5.ownBlock≠cA BX:=VL N2.o hat5 (by have:=l.size;omega);have hkx5:yC w5 BY 0 (pA nm)/\yC w5 BY 1 (pA va):=jB.c2 ((z BY (by have:=l.size;omega) A.o).trans (M.o.z l));have hG5:=GP.grow (s.o.z l) J hB5)))
     replace s:=dB hG5;replace X2:=dB hX5;replace N2:=dB hN5;clear J hB5 hG5 z hkx5 hat5 hle5 hX5 hN5 m1 hst2;generalize n++(R++S)=st5 at *;go_wp2;exact⟨⟨m+1,st5,by omega,by go_num,E3.o,s.o,N2.o,X2.o⟩,by simp[intOf];omega⟩
    replace E2:cB (n++Z=H0++iE (f.take (k+1))):=by show _=_;rw[<-E2.o,t.o,Ra (by omega)]
    have y1:=X2.o.cell 1;clear t;go_wp2_with fail;apply jC (HB8.o _);intro w4 hb4;replace s:=dB (s.o.z hb4);have hsz4:=s.o.size;clear hb4 y1 X2 N2;go_wp2_with(at_builtin;refine rK _ rfl _ _ rfl (w.1.size+1) _ n Z rfl s.o.O rfl (by omega) (by omega) ?_;intro v5 w5 hr hB _ _ _;replace s:=dB (s.o.grow hr hB);clear hr hB);clear hst2;generalize n++Z=st7 at *;exact⟨⟨k+1,st7,by omega,by go_num,E2.o,s.o⟩,by simp[intOf];omega⟩
  .have E:cB (V=st):=by show _=_;rw[hV.o,B.o,Ra (by omega)]
   have hbk:=BN L.o.O;have BW:=dB L.o.N;clear B L;go_wp2;go_ret2;exact⟨by rw[E.o];rfl,BW.o⟩
theorem DC(r:eG)(a:nC)(b:Nat)(w:World)(f:oJ w a r.P)(h:VR r):
 cF 8 #[.agg #[aB r.K,pA r.T,pA r.R,aB r.U,qA a (zA r.P) b]] w (pA (wK r)):=by
 have i:=dB (λW(j:xB w W)=>if d:r.K=1 then uz r a b W (f.z j) h d else uy r a b W h d);have l:=h.sz;clear f h;generalize wK r=V at *;go_enter func8,ntmps8;go_wp2_with fail;apply jC (i.o _ bC);intro m c;have g:=dB (aC bC c);clear c;go_wp2;go_ret;exact⟨rfl,g.o⟩
