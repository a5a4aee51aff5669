import Derived.Test.YtiegonaogehghaaGreatDoorJ15
set_option maxRecDepth 100000
set_option maxHeartbeats 8000000
open Option renaming some->bA
open ByteArray renaming empty->kA
open List renaming length->yA
namespace Go.Proofs.YtiegonaogehghaaGreatDoor
open Value renaming string->oA,slice->pA,int->lA
open IntKind renaming i64->mA
open Go.RowKit Tryz
theorem bnE{x:nB}(h:x.size=0):x.toList.isEmpty=true:=by
 rw[ByteArray.toList_eq,List.isEmpty_iff,<-Nb];simpa using h
theorem VH{v v':Value}{n b:Nat}(h:v.ownBlock≠bA b)(a:v'.ownBlock=v.ownBlock\/v'.ownBlock=bA n)(c:b<n):v'.ownBlock≠bA b:=by grind
structure GP(w W:World)(cs:Array Value)(v:Value)(st:nB):Prop where
 Q:gB W w.1.size cs 47
 O:vM W (w.1.size+1) v st
 N:tB w W
section
variable {w W W':World} {cs:Array Value} {v v':Value} {st x:nB}
theorem GP.z(h:GP w W cs v st)(a:tB W W'):GP w W' cs v st:=⟨h.Q.z a,h.O.z a,vB h.N a⟩
theorem GP.size(h:GP w W cs v st):w.1.size+1<=W.1.size:=aB h.Q
theorem GP.grow(h:GP w W cs v st)(b:vM W' (w.1.size+1) v' x)(a:Below (w.1.size+1) W W'):GP w W' cs v' x:=⟨(a.block w.1.size (Nat.lt_succ_self _)).trans h.Q,b,h.N.trans (a.mono (by omega))⟩
end
theorem ux(r:dG)(a:jC)(o:Nat)(w:World)(h:VR r)(p:r.K≠1):
 vE 27 #[.agg #[zA r.K,oA r.T,oA r.R,zA r.U,pA a (yA r.P) o]] w (.tuple #[oA (uK r),.bool true]):=by
 obtain⟨P,C,D,E,F,e,e,-,-⟩:=h.ok;have i:=h.U;clear h;obtain⟨k,m,l,j,xs⟩:=r;dsimp only at *;obtain rfl:=F p;have g:=cB (λW=>qD k 1 6 W);have M:=cB (λW=>fD 1 k W (by omega) (by omega) (by omega));have L:=cB (λW=>zP m W (by omega));have J:=cB (λW=>aO l W (by omega));have K:=cB (λW=>fD 8 j W (by omega) i.1 i.2);have e:=kB 1 k;have e:=lF m;have e:=bF l;have e:=kB 8 j;have I:bB (uK ⟨k,m,l,j,[]⟩=qB 1 k++((if zU k=true then xM m else kA)++((if yU k=true then vF l else kA)++(if mV k=true then qB 8 j else kA)))):=by
  show _=_;rw[uK];dsimp only;rw[Ja p,we]
 generalize uK ⟨k,m,l,j,[]⟩=Y at *;generalize qB 1 k=y at *;generalize xM m=e at *;generalize vF l=Z at *;generalize qB 8 j=e at *;obtain⟨u,t,s,n⟩:=DU y (by omega);have b:=cB n;clear n i F;rcases(show k=2\/k=3\/k=4\/k=5\/k=6 by omega) with rfl|rfl|rfl|rfl|rfl
 all_goals
  clear p P;rw[show zB _ 1 6=true from rfl]at g;(try have e:=bnE (C rfl));(try have e:=bnE (D rfl));(try have e:(j != 0)=false:=by rw[E rfl];rfl);clear C D E;go_enter func27,ntmps27;go_upto_region 10 with(go_at_call 90;refine oD (g.o _) ?_)
  clear g;go_wp2_with fail;apply hC (M.o _);intro f c;have B:w.1.size+1<=f.1.size:=by have:=c.size;simpa using this
  have G:bB (GP w (t f) _ (u f) y):=⟨((gB.new _ _ _).z c).z (b.o f).2,(b.o f).1.mono B,vB (vB yB c) (b.o f).2⟩
  clear c B;go_upto_region 11 with fail;generalize t f=W at *;generalize u f=v at *;clear s b;obtain⟨R,S,T,U,V⟩:=G.o.Q.c5;have q:=BM G.o.O;go_wp2_with(first|(go_at_call 91;apply hC (L.o _);intro H d;replace G:=cB (G.o.z d);clear d)|(go_at_call 62;apply hC (J.o _);intro H d;replace G:=cB (G.o.z d);clear d)|(go_at_call 54;apply hC (K.o _);intro H d;replace G:=cB (G.o.z d);clear d)|(at_builtin;refine nK _ rfl _ _ rfl (w.1.size+1) _ _ _ rfl G.o.O rfl (by have:=G.o.size;omega) (by first|omega|(simp only[Ka];omega)) ?_;intro v5 e A z _ _ _;replace G:=cB (G.o.grow A z);clear A z;obtain⟨R,S,T,U,V⟩:=G.o.Q.c5;have q:=BM G.o.O));go_ret2;exact⟨by rw[I.o];simp[zU,yU,mV,Wa],G.o.N⟩
theorem uy(r:dG)(a:jC)(cap:Nat)(w:World)(hf:dJ w a r.P)(h:VR r)(h1:r.K=1):
 vE 27 #[.agg #[lA mA r.K,oA r.T,oA r.R,lA mA r.U,pA a (yA r.P) cap]] w (.tuple #[oA (uK r),.bool true]):=by
 obtain⟨-,-,q2,q3,-,q5,q6,q7,q8⟩:=h.ok;have hbi:=h.bits;have U:=h.sz;clear h;obtain⟨k,te,me,nu,f⟩:=r;dsimp only at *;subst h1;have HBT:=cB (λW=>qD 1 1 6 W);rw[show zB 1 1 6=true from rfl]at HBT;have HU:=cB (λW=>fD 1 1 W (by omega) (by omega) (by omega));have HT:=cB (λW=>zP te W (by omega));have HC:=cB (λW=>fD 2 (yA f:Nat) W (by omega) (by omega) (by omega));have z1:=kB 1 1;have z2:=lF te;have z3:=kB 2 (yA f:Nat);rw[aNn]at U |-
 have HXZ:bB ((cE f).size<=60000):=by show _<=_;simp only[Ka]at U;omega
 obtain⟨V,hV⟩:∃V,V=qB 1 1++xM te++qB 2 (yA f:Nat)++cE f:=⟨_,rfl⟩
 rw[<-hV];replace hV:=cB hV;have g2:=bnE (q2 rfl);have g3:(nu != 0)=false:=by rw[q3 rfl];rfl
 clear q2 q3 U;generalize qB 1 1=N1 at *;generalize xM te=ST at *;generalize qB 2 (yA f:Nat)=SC at *;obtain⟨CV,CN,hcv,hcn⟩:=DU N1 (by omega);have P:=cB hcn;have HF:=cB hf;have HBI:=cB hbi;have HAX:=cB q8;clear hcn hf hbi q8;go_enter func27,ntmps27;go_upto_region 10 with(go_at_call 90;refine oD (HBT.o _) ?_)
 clear HBT;go_wp2_with fail;apply hC (HU.o _);intro K y;have hs:w.1.size+1<=K.1.size:=by have:=y.size;simpa using this
 have G:bB (GP w (CN K) _ (CV K) N1):=⟨((gB.new _ _ _).z y).z (P.o K).2,(P.o K).1.mono hs,vB (vB yB y) (P.o K).2⟩
 clear y hs;go_upto_region 11 with fail;generalize CN K=W at *;generalize CV K=v at *;clear hcv P;obtain⟨r0,r1,r2,r3,r4⟩:=G.o.Q.c5;have hbk:=BM G.o.O;go_wp2_with(first|(go_at_call 91;apply hC (HT.o _);intro wx hb;replace G:=cB (G.o.z hb);clear hb)|(go_at_call 54;apply hC (HC.o _);intro wx hb;replace G:=cB (G.o.z hb);clear hb)|(at_builtin;refine nK _ rfl _ _ rfl (w.1.size+1) _ _ _ rfl G.o.O rfl (by have:=G.o.size;omega) (by first|omega|(simp only[Ka];omega)) ?_;intro v5 w5 hr hB _ _ _;replace G:=cB (G.o.grow hr hB);clear hr hB;obtain⟨r0,r1,r2,r3,r4⟩:=G.o.Q.c5;have hbk:=BM G.o.O));have hst0:(N1++ST++SC).size<=9000000:=by simp only[Ka];omega
 generalize N1++ST++SC=H0 at *;clear r0 r1 r2 r3 r4 hbk z1 z2 z3 HT HC HU;go_loopw [7,138] (λY i wr=>∃(k:Nat)(st:nB),k<=yA f/\i=lA mA k/\bB (st=H0++cE (f.take k))/\bB (GP w wr #[lA mA 1,oA te,oA me,lA mA nu,pA a (yA f) cap] Y st)) (λ_ i _=>yA f-(intOf i).toNat)
 case atStart=>exact⟨0,H0,Oa _,rfl,by show _=_;simp[cE],G.o⟩
 case round=>
  obtain⟨k,st,hk,rfl,B,L⟩:=hrel;clear G;by_cases T:k<yA f
  .obtain ⟨b,o,a1,q1,rfl,hb,c0',c1',p1⟩:=HF.o.at T;have c0:=(L.o.N.cell (p:=⟨b,o+k*2,none⟩) hb).trans c0';have c1:=(L.o.N.cell (p:=⟨b,o+k*2+1,none⟩) hb).trans c1';have hr1:=HBI.o k T;obtain⟨hx1,hx2⟩:=HAX.o k T;have U:=L.o.size;have ht:=pP f k T;obtain⟨he1,he2⟩:(cE (f.take k)).size<=60000/\(gW f[k]).size<=60000:=by
    have h1:=zH (f.take (k+1)) (f.drop (k+1));rw[Za,ht]at h1;have h2:=Kd ByteArray.size h1;have:=HXZ.o;simp only[Ka]at h2;omega
   have hst:st.size<=10000000:=by rw[B.o,Ka];omega
   have hlb:yA f[k].B+rD f[k].B<=60000:=by have:=oP f[k];omega
   have E2:bB (∀SL Z,SL=qB 1 (yA f[k].B:Nat)->Z=qB 8 f[k].bits->st++SL++gD f[k].B++Z=H0++cE (f.take (k+1))):=λSL Z e1 e2=>by rw[ht,B.o,gW,tH,e1,e2];simp only[Wa]
   have HLN:=cB (λW=>fD 1 (yA f[k].B:Nat) W (by omega) (by omega) (by omega));have HB8:=cB (λW=>fD 8 f[k].bits W (by omega) hr1.1 hr1.2);have zl:=kB 1 (yA f[k].B:Nat);have z8:=kB 8 f[k].bits;have HPL:=cB p1;have HLO:=cB hx2;clear p1 c0' c1' B hr1 hx2 ht he1 he2;generalize qB 1 (yA f[k].B:Nat)=SL at *;generalize qB 8 f[k].bits=Z at *;replace E2:=cB (E2.o SL Z rfl rfl);generalize f[k].B=g at *;generalize f[k].bits=bi at *;obtain⟨gv,D,F,H⟩:=L.o.O.lt;have A:bB (u7.ownBlock≠bA wr.1.size):=by show _≠_;rw[D];intro e;have:=Lc e;omega
   have G:=cB (L.o.z (pF wr (.cells #[pA a1 (yA g) q1,lA mA bi] 107)));have X:=cB (gB.new wr #[pA a1 (yA g) q1,lA mA bi] 107);have d1:¬(yA g:Int) > 255:=by omega
   clear D F H gv L;go_wp2_with fail;apply hC (HLN.o _);intro W hbW;replace G:=cB (G.o.z hbW);replace X:=cB (X.o.z hbW);have u:=aB X.o;clear hbW HLN c0 c1;generalize wr.1.size=BX at *;clear wr;go_wp2_with(at_builtin;refine nK _ rfl _ _ rfl (w.1.size+1) _ st SL rfl G.o.O rfl (by omega) (by omega) ?_;intro v5 w5 hr hB z hat _;have X5:=cB ((z BX u A.o).trans X.o);have N5:=cB (VH A.o hat u);replace G:=cB (G.o.grow hr hB);clear hr hB z hat;have y0:=gB.cell X5.o 0);have hst1:(st++SL).size<=60000001:=by rw[Ka];omega
   clear X A u hst;generalize st++SL=st1 at *;go_loopw [7,155] (λY j wr=>∃(m:Nat)(n:nB),m<=yA g/\j=lA mA m/\bB (n=st1++gD (g.take m))/\bB (GP w wr #[lA mA 1,oA te,oA me,lA mA nu,pA (bA ⟨b,o,none⟩) (yA f) cap] Y n)/\bB (Y.ownBlock≠bA BX)/\bB (gB wr BX #[pA a1 (yA g) q1,lA mA bi] 107)) (λ_ j _=>yA g-(intOf j).toNat)
   case atStart=>exact⟨0,st1,Oa _,rfl,by show _=_;simp[gD],G.o,N5.o,X5.o⟩
   case round=>
    obtain⟨m,n,hm,rfl,t,s,N2,X2⟩:=hrel;have hst2:n.size<=100000000:=by have h1:=bQ (g.take m);have h2:=dR g m;rw[Hb]at h1;rw[t.o,Ka];omega
    clear G N5 X5 y0;by_cases I:m<yA g
    .obtain ⟨b2,o2,rfl,C,f0',f1'⟩:=HPL.o.at I;have c:=(s.o.N.cell (p:=⟨b2,o2+m*2,none⟩) C).trans f0';have d:=(s.o.N.cell (p:=⟨b2,o2+m*2+1,none⟩) C).trans f1';have hsz2:=s.o.size;obtain⟨k1,k2⟩:=HLO.o m I;have HS8:=cB (λW=>zP g[m].N W (by omega));have HS16:=cB (λW=>aO g[m].V W (by omega));have hs3:=lF g[m].N;have hs4:=bF g[m].V;have E3:bB (∀R S,R=xM g[m].N->S=vF g[m].V->n++(R++S)=st1++gD (g.take (m+1))):=λR S e1 e2=>by rw[eT g m I,t.o,e1,e2];simp only[Wa]
     clear t f0' f1';generalize xM g[m].N=R at *;generalize vF g[m].V=S at *;replace E3:=cB (E3.o R S rfl rfl);generalize g[m].N=nm at *;generalize g[m].V=va at *;have g1:¬(nm.size:Int) > 255:=by omega
     have g2:¬(va.size:Int) > 65535:=by omega
     have m1:¬(9223372036854775807<R.size+S.size):=by omega
     have HQ2:bB (R.size=1+nm.size/\S.size=2+va.size):=⟨by omega,by omega⟩
     obtain⟨gv,D,F,H⟩:=s.o.O.lt;have A:bB (u7.ownBlock≠bA wr.1.size):=by show _≠_;rw[D];intro e;have:=Lc e;omega
     have M:=cB (gB.new wr #[oA nm,oA va] 181);have hbn:=pF wr (.cells #[oA nm,oA va] 181);replace s:=cB (s.o.z hbn);replace X2:=cB (X2.o.z hbn);clear hs3 hs4 D F H gv hbn;go_upto_region 31 with fail;generalize wr.alloc (.cells #[oA nm,oA va] 181)=W at *;have hBX2:=aB M.o;have u:=aB X2.o;clear C c d hsz2;generalize wr.1.size=BY at *;clear wr;have HKX:=cB (λw'(h:tB W w')=>(M.o.z h).c2);obtain⟨x0,x1⟩:=M.o.c2;go_region_held3 (λw'=>w'.cell? ⟨BY,0,none⟩=bA (oA nm)/\w'.cell? ⟨BY,1,none⟩=bA (oA va))
      (first
       |go_keep
       |exact hkx5
       |exact HKX.o _ l
       |exact HKX.o _ hc1)
      ((first
        |(go_at_call 91;apply hC (HS8.o _);intro K y;have hc1:tB W K:=(Below.refl _ W).drew.trans y)
        |(go_at_call 62;apply hC (HS16.o _);intro w2 C;have l:tB W w2:=hc1.trans (C.mono hc1.size))
        |(have q:=l;clear q;refine xO _ (by rfl) _ _ (by rfl) (w.1.size+1) _ n (R++S) (by rfl) (by exact s.o.O.z l) (by rfl) (by have:=l.size;omega) (by have:=HQ2.o;rw[Ka];omega) ?_;intro v5 w5 J hB5 z hat5 hle5;have hX5:gB w5 BX #[pA (bA ⟨b2,o2,none⟩) (yA g) q1,lA mA bi] 107:=(z BX (by have:=l.size;omega) N2.o).trans (X2.o.z l);have hN5:v5.ownBlock≠bA BX:=VH N2.o hat5 (by have:=l.size;omega);have hkx5:tC w5 BY 0 (oA nm)/\tC w5 BY 1 (oA va):=gB.c2 ((z BY (by have:=l.size;omega) A.o).trans (M.o.z l));have hG5:=GP.grow (s.o.z l) J hB5)))
     replace s:=cB hG5;replace X2:=cB hX5;replace N2:=cB hN5;clear J hB5 hG5 z hkx5 hat5 hle5 hX5 hN5 m1 hst2;generalize n++(R++S)=st5 at *;go_wp2;exact⟨⟨m+1,st5,by omega,by go_num,E3.o,s.o,N2.o,X2.o⟩,by simp[intOf];omega⟩
    replace E2:bB (n++Z=H0++cE (f.take (k+1))):=by show _=_;rw[<-E2.o,t.o,Ra (by omega)]
    have y1:=X2.o.cell 1;clear t;go_wp2_with fail;apply hC (HB8.o _);intro w4 hb4;replace s:=cB (s.o.z hb4);have hsz4:=s.o.size;clear hb4 y1 X2 N2;go_wp2_with(at_builtin;refine nK _ rfl _ _ rfl (w.1.size+1) _ n Z rfl s.o.O rfl (by omega) (by omega) ?_;intro v5 w5 hr hB _ _ _;replace s:=cB (s.o.grow hr hB);clear hr hB);clear hst2;generalize n++Z=st7 at *;exact⟨⟨k+1,st7,by omega,by go_num,E2.o,s.o⟩,by simp[intOf];omega⟩
  .have E:bB (V=st):=by show _=_;rw[hV.o,B.o,Ra (by omega)]
   have hbk:=BM L.o.O;have BW:=cB L.o.N;clear B L;go_wp2;go_ret2;exact⟨by rw[E.o];rfl,BW.o⟩
theorem CW(r:dG)(a:jC)(b:Nat)(w:World)(f:dJ w a r.P)(h:VR r):
 vE 8 #[.agg #[zA r.K,oA r.T,oA r.R,zA r.U,pA a (yA r.P) b]] w (oA (uK r)):=by
 have i:=cB (λW(j:tB w W)=>if d:r.K=1 then uy r a b W (f.z j) h d else ux r a b W h d);have l:=h.sz;clear f h;generalize uK r=V at *;go_enter func8,ntmps8;go_wp2_with fail;apply hC (i.o _ yB);intro m c;have g:=cB (vB yB c);clear c;go_wp2;go_ret;exact⟨rfl,g.o⟩
