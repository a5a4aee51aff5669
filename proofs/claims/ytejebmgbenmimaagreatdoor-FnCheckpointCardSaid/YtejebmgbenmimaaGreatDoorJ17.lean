import Derived.Test.YtejebmgbenmimaaGreatDoorJ14
set_option maxRecDepth 100000
set_option maxHeartbeats 8000000
open Option renaming some->fA
open ByteArray renaming empty->pA
open List renaming length->cB
namespace Go.Proofs.YtejebmgbenmimaaGreatDoor
open Value renaming string->tA,slice->uA,int->qA
open IntKind renaming i64->sA
open Go.RowKit Tryz
theorem bnE{x:vB}(h:x.size=0):x.toList.isEmpty=true:=by
 rw[ByteArray.toList_eq,List.isEmpty_iff,<-Nb];simpa using h
theorem UI{v v':Value}{n b:Nat}(h:v.ownBlock≠fA b)(a:v'.ownBlock=v.ownBlock\/v'.ownBlock=fA n)(c:b<n):v'.ownBlock≠fA b:=by grind
structure GP(w W:World)(cs:Array Value)(v:Value)(st:vB):Prop where
 Q:rB W w.1.size cs 47
 O:yM W (w.1.size+1) v st
 N:zB w W
section
variable {w W W':World} {cs:Array Value} {v v':Value} {st x:vB}
theorem GP.z(h:GP w W cs v st)(a:zB W W'):GP w W' cs v st:=⟨h.Q.z a,h.O.z a,xB h.N a⟩
theorem GP.size(h:GP w W cs v st):w.1.size+1<=W.1.size:=eB h.Q
theorem GP.grow(h:GP w W cs v st)(b:yM W' (w.1.size+1) v' x)(a:Below (w.1.size+1) W W'):GP w W' cs v' x:=⟨(a.block w.1.size (Nat.lt_succ_self _)).trans h.Q,b,h.N.trans (a.mono (by omega))⟩
end
theorem ro(r:fH)(a:nC)(o:Nat)(w:World)(h:VR r)(p:r.K≠1):
 gF 31 #[.agg #[dB r.K,tA r.T,tA r.R,dB r.U,uA a (cB r.P) o]] w (.tuple #[tA (oK r),.bool true]):=by
 obtain⟨P,C,D,E,F,e,e,-,-⟩:=h.ok;have i:=h.U;clear h;obtain⟨k,m,l,j,e⟩:=r;dsimp only at *;obtain rfl:=F p;have g:=gB (λW=>zD k 1 6 W);have M:=gB (λW=>oD 1 k W (by omega) (by omega) (by omega));have L:=gB (λW=>sP m W (by omega));have J:=gB (λW=>bO l W (by omega));have K:=gB (λW=>oD 8 j W (by omega) i.1 i.2);have e:=oB 1 k;have e:=sF m;have e:=kF l;have e:=oB 8 j;have I:fB (oK ⟨k,m,l,j,[]⟩=uB 1 k++((if wU k=true then vM m else pA)++((if vU k=true then eG l else pA)++(if iV k=true then uB 8 j else pA)))):=by
  show _=_;rw[oK];dsimp only;rw[Ja p,tr]
 generalize oK ⟨k,m,l,j,[]⟩=Y at *;generalize uB 1 k=y at *;generalize vM m=e at *;generalize eG l=Z at *;generalize uB 8 j=e at *;obtain⟨u,t,s,n⟩:=DU y (by omega);have b:=gB n;clear n i F;rcases(show k=2\/k=3\/k=4\/k=5\/k=6 by omega) with rfl|rfl|rfl|rfl|rfl
 all_goals
  clear p P;rw[show dC _ 1 6=true from rfl]at g;(try have e:=bnE (C rfl));(try have e:=bnE (D rfl));(try have e:(j != 0)=false:=by rw[E rfl];rfl);clear C D E;go_enter func31,ntmps31;go_upto_region 10 with(go_at_call 103;refine tD (g.o _) ?_)
  clear g;go_wp2_with fail;apply oC (M.o _);intro f c;have B:w.1.size+1<=f.1.size:=by have:=c.size;simpa using this
  have G:fB (GP w (t f) _ (u f) y):=⟨((rB.new _ _ _).z c).z (b.o f).2,(b.o f).1.mono B,xB (xB aC c) (b.o f).2⟩
  clear c B;go_upto_region 11 with fail;generalize t f=W at *;generalize u f=v at *;clear s b;obtain⟨R,S,T,U,V⟩:=G.o.Q.c5;have q:=BN G.o.O;go_wp2_with(first|(go_at_call 104;apply oC (L.o _);intro H d;replace G:=gB (G.o.z d);clear d)|(go_at_call 75;apply oC (J.o _);intro H d;replace G:=gB (G.o.z d);clear d)|(go_at_call 68;apply oC (K.o _);intro H d;replace G:=gB (G.o.z d);clear d)|(at_builtin;refine jK _ rfl _ _ rfl (w.1.size+1) _ _ _ rfl G.o.O rfl (by have:=G.o.size;omega) (by first|omega|(simp only[Ka];omega)) ?_;intro v5 e A z _ _ _;replace G:=gB (G.o.grow A z);clear A z;obtain⟨R,S,T,U,V⟩:=G.o.Q.c5;have q:=BN G.o.O));go_ret2;exact⟨by rw[I.o];simp[wU,vU,iV,Wa],G.o.N⟩
theorem rr(r:fH)(a:nC)(cap:Nat)(w:World)(hf:gJ w a r.P)(h:VR r)(h1:r.K=1):
 gF 31 #[.agg #[qA sA r.K,tA r.T,tA r.R,qA sA r.U,uA a (cB r.P) cap]] w (.tuple #[tA (oK r),.bool true]):=by
 obtain⟨-,-,q2,q3,-,q5,q6,q7,q8⟩:=h.ok;have hbi:=h.bits;have U:=h.sz;clear h;obtain⟨k,te,me,nu,f⟩:=r;dsimp only at *;subst h1;have HBT:=gB (λW=>zD 1 1 6 W);rw[show dC 1 1 6=true from rfl]at HBT;have HU:=gB (λW=>oD 1 1 W (by omega) (by omega) (by omega));have HT:=gB (λW=>sP te W (by omega));have HC:=gB (λW=>oD 2 (cB f:Nat) W (by omega) (by omega) (by omega));have z1:=oB 1 1;have z2:=sF te;have z3:=oB 2 (cB f:Nat);rw[aLr]at U |-
 have HXZ:fB ((kE f).size<=60000):=by show _<=_;simp only[Ka]at U;omega
 obtain⟨V,hV⟩:∃V,V=uB 1 1++vM te++uB 2 (cB f:Nat)++kE f:=⟨_,rfl⟩
 rw[<-hV];replace hV:=gB hV;have g2:=bnE (q2 rfl);have g3:(nu != 0)=false:=by rw[q3 rfl];rfl
 clear q2 q3 U;generalize uB 1 1=N1 at *;generalize vM te=ST at *;generalize uB 2 (cB f:Nat)=SC at *;obtain⟨CV,CN,hcv,hcn⟩:=DU N1 (by omega);have P:=gB hcn;have HF:=gB hf;have HBI:=gB hbi;have HAX:=gB q8;clear hcn hf hbi q8;go_enter func31,ntmps31;go_upto_region 10 with(go_at_call 103;refine tD (HBT.o _) ?_)
 clear HBT;go_wp2_with fail;apply oC (HU.o _);intro K y;have hs:w.1.size+1<=K.1.size:=by have:=y.size;simpa using this
 have G:fB (GP w (CN K) _ (CV K) N1):=⟨((rB.new _ _ _).z y).z (P.o K).2,(P.o K).1.mono hs,xB (xB aC y) (P.o K).2⟩
 clear y hs;go_upto_region 11 with fail;generalize CN K=W at *;generalize CV K=v at *;clear hcv P;obtain⟨r0,r1,r2,r3,r4⟩:=G.o.Q.c5;have hbk:=BN G.o.O;go_wp2_with(first|(go_at_call 104;apply oC (HT.o _);intro wx hb;replace G:=gB (G.o.z hb);clear hb)|(go_at_call 68;apply oC (HC.o _);intro wx hb;replace G:=gB (G.o.z hb);clear hb)|(at_builtin;refine jK _ rfl _ _ rfl (w.1.size+1) _ _ _ rfl G.o.O rfl (by have:=G.o.size;omega) (by first|omega|(simp only[Ka];omega)) ?_;intro v5 w5 hr hB _ _ _;replace G:=gB (G.o.grow hr hB);clear hr hB;obtain⟨r0,r1,r2,r3,r4⟩:=G.o.Q.c5;have hbk:=BN G.o.O));have hst0:(N1++ST++SC).size<=9000000:=by simp only[Ka];omega
 generalize N1++ST++SC=H0 at *;clear r0 r1 r2 r3 r4 hbk z1 z2 z3 HT HC HU;go_loopw [7,138] (λY i wr=>∃(k:Nat)(st:vB),k<=cB f/\i=qA sA k/\fB (st=H0++kE (f.take k))/\fB (GP w wr #[qA sA 1,tA te,tA me,qA sA nu,uA a (cB f) cap] Y st)) (λ_ i _=>cB f-(intOf i).toNat)
 case atStart=>exact⟨0,H0,Oa _,rfl,by show _=_;simp[kE],G.o⟩
 case round=>
  obtain⟨k,st,hk,rfl,B,L⟩:=hrel;clear G;by_cases T:k<cB f
  .obtain ⟨b,o,a1,q1,rfl,hb,c0',c1',p1⟩:=HF.o.at T;have c0:=(L.o.N.cell (p:=⟨b,o+k*2,none⟩) hb).trans c0';have c1:=(L.o.N.cell (p:=⟨b,o+k*2+1,none⟩) hb).trans c1';have hr1:=HBI.o k T;obtain⟨hx1,hx2⟩:=HAX.o k T;have U:=L.o.size;have ht:=jP f k T;obtain⟨he1,he2⟩:(kE (f.take k)).size<=60000/\(jW f[k]).size<=60000:=by
    have h1:=dI (f.take (k+1)) (f.drop (k+1));rw[Za,ht]at h1;have h2:=Kd ByteArray.size h1;have:=HXZ.o;simp only[Ka]at h2;omega
   have hst:st.size<=10000000:=by rw[B.o,Ka];omega
   have hlb:cB f[k].B+bE f[k].B<=60000:=by have:=iP f[k];omega
   have E2:fB (∀SL Z,SL=uB 1 (cB f[k].B:Nat)->Z=uB 8 f[k].bits->st++SL++pD f[k].B++Z=H0++kE (f.take (k+1))):=λSL Z e1 e2=>by rw[ht,B.o,jW,bI,e1,e2];simp only[Wa]
   have HLN:=gB (λW=>oD 1 (cB f[k].B:Nat) W (by omega) (by omega) (by omega));have HB8:=gB (λW=>oD 8 f[k].bits W (by omega) hr1.1 hr1.2);have zl:=oB 1 (cB f[k].B:Nat);have z8:=oB 8 f[k].bits;have HPL:=gB p1;have HLO:=gB hx2;clear p1 c0' c1' B hr1 hx2 ht he1 he2;generalize uB 1 (cB f[k].B:Nat)=SL at *;generalize uB 8 f[k].bits=Z at *;replace E2:=gB (E2.o SL Z rfl rfl);generalize f[k].B=g at *;generalize f[k].bits=bi at *;obtain⟨gv,D,F,H⟩:=L.o.O.lt;have A:fB (u7.ownBlock≠fA wr.1.size):=by show _≠_;rw[D];intro e;have:=Lc e;omega
   have G:=gB (L.o.z (uF wr (.cells #[uA a1 (cB g) q1,qA sA bi] 132)));have X:=gB (rB.new wr #[uA a1 (cB g) q1,qA sA bi] 132);have d1:¬(cB g:Int) > 255:=by omega
   clear D F H gv L;go_wp2_with fail;apply oC (HLN.o _);intro W hbW;replace G:=gB (G.o.z hbW);replace X:=gB (X.o.z hbW);have u:=eB X.o;clear hbW HLN c0 c1;generalize wr.1.size=BX at *;clear wr;go_wp2_with(at_builtin;refine jK _ rfl _ _ rfl (w.1.size+1) _ st SL rfl G.o.O rfl (by omega) (by omega) ?_;intro v5 w5 hr hB z hat _;have X5:=gB ((z BX u A.o).trans X.o);have N5:=gB (UI A.o hat u);replace G:=gB (G.o.grow hr hB);clear hr hB z hat;have y0:=rB.cell X5.o 0);have hst1:(st++SL).size<=60000001:=by rw[Ka];omega
   clear X A u hst;generalize st++SL=st1 at *;go_loopw [7,155] (λY j wr=>∃(m:Nat)(n:vB),m<=cB g/\j=qA sA m/\fB (n=st1++pD (g.take m))/\fB (GP w wr #[qA sA 1,tA te,tA me,qA sA nu,uA (fA ⟨b,o,none⟩) (cB f) cap] Y n)/\fB (Y.ownBlock≠fA BX)/\fB (rB wr BX #[uA a1 (cB g) q1,qA sA bi] 132)) (λ_ j _=>cB g-(intOf j).toNat)
   case atStart=>exact⟨0,st1,Oa _,rfl,by show _=_;simp[pD],G.o,N5.o,X5.o⟩
   case round=>
    obtain⟨m,n,hm,rfl,t,s,N2,X2⟩:=hrel;have hst2:n.size<=100000000:=by have h1:=uP (g.take m);have h2:=xQ g m;rw[Hb]at h1;rw[t.o,Ka];omega
    clear G N5 X5 y0;by_cases I:m<cB g
    .obtain ⟨b2,o2,rfl,C,f0',f1'⟩:=HPL.o.at I;have c:=(s.o.N.cell (p:=⟨b2,o2+m*2,none⟩) C).trans f0';have d:=(s.o.N.cell (p:=⟨b2,o2+m*2+1,none⟩) C).trans f1';have hsz2:=s.o.size;obtain⟨k1,k2⟩:=HLO.o m I;have HS8:=gB (λW=>sP g[m].N W (by omega));have HS16:=gB (λW=>bO g[m].V W (by omega));have hs3:=sF g[m].N;have hs4:=kF g[m].V;have E3:fB (∀R S,R=vM g[m].N->S=eG g[m].V->n++(R++S)=st1++pD (g.take (m+1))):=λR S e1 e2=>by rw[kT g m I,t.o,e1,e2];simp only[Wa]
     clear t f0' f1';generalize vM g[m].N=R at *;generalize eG g[m].V=S at *;replace E3:=gB (E3.o R S rfl rfl);generalize g[m].N=nm at *;generalize g[m].V=va at *;have g1:¬(nm.size:Int) > 255:=by omega
     have g2:¬(va.size:Int) > 65535:=by omega
     have m1:¬(9223372036854775807<R.size+S.size):=by omega
     have HQ2:fB (R.size=1+nm.size/\S.size=2+va.size):=⟨by omega,by omega⟩
     obtain⟨gv,D,F,H⟩:=s.o.O.lt;have A:fB (u7.ownBlock≠fA wr.1.size):=by show _≠_;rw[D];intro e;have:=Lc e;omega
     have M:=gB (rB.new wr #[tA nm,tA va] 190);have hbn:=uF wr (.cells #[tA nm,tA va] 190);replace s:=gB (s.o.z hbn);replace X2:=gB (X2.o.z hbn);clear hs3 hs4 D F H gv hbn;go_upto_region 31 with fail;generalize wr.alloc (.cells #[tA nm,tA va] 190)=W at *;have hBX2:=eB M.o;have u:=eB X2.o;clear C c d hsz2;generalize wr.1.size=BY at *;clear wr;have HKX:=gB (λw'(h:zB W w')=>(M.o.z h).c2);obtain⟨x0,x1⟩:=M.o.c2;go_region_held3 (λw'=>w'.cell? ⟨BY,0,none⟩=fA (tA nm)/\w'.cell? ⟨BY,1,none⟩=fA (tA va))
      (first
       |go_keep
       |exact hkx5
       |exact HKX.o _ l
       |exact HKX.o _ hc1)
      ((first
        |(go_at_call 104;apply oC (HS8.o _);intro K y;have hc1:zB W K:=(Below.refl _ W).drew.trans y)
        |(go_at_call 75;apply oC (HS16.o _);intro w2 C;have l:zB W w2:=hc1.trans (C.mono hc1.size))
        |(have q:=l;clear q;refine uO _ (by rfl) _ _ (by rfl) (w.1.size+1) _ n (R++S) (by rfl) (by exact s.o.O.z l) (by rfl) (by have:=l.size;omega) (by have:=HQ2.o;rw[Ka];omega) ?_;intro v5 w5 J hB5 z hat5 hle5;have hX5:rB w5 BX #[uA (fA ⟨b2,o2,none⟩) (cB g) q1,qA sA bi] 132:=(z BX (by have:=l.size;omega) N2.o).trans (X2.o.z l);have hN5:v5.ownBlock≠fA BX:=UI N2.o hat5 (by have:=l.size;omega);have hkx5:gD w5 BY 0 (tA nm)/\gD w5 BY 1 (tA va):=rB.c2 ((z BY (by have:=l.size;omega) A.o).trans (M.o.z l));have hG5:=GP.grow (s.o.z l) J hB5)))
     replace s:=gB hG5;replace X2:=gB hX5;replace N2:=gB hN5;clear J hB5 hG5 z hkx5 hat5 hle5 hX5 hN5 m1 hst2;generalize n++(R++S)=st5 at *;go_wp2;exact⟨⟨m+1,st5,by omega,by go_num,E3.o,s.o,N2.o,X2.o⟩,by simp[intOf];omega⟩
    replace E2:fB (n++Z=H0++kE (f.take (k+1))):=by show _=_;rw[<-E2.o,t.o,Ra (by omega)]
    have y1:=X2.o.cell 1;clear t;go_wp2_with fail;apply oC (HB8.o _);intro w4 hb4;replace s:=gB (s.o.z hb4);have hsz4:=s.o.size;clear hb4 y1 X2 N2;go_wp2_with(at_builtin;refine jK _ rfl _ _ rfl (w.1.size+1) _ n Z rfl s.o.O rfl (by omega) (by omega) ?_;intro v5 w5 hr hB _ _ _;replace s:=gB (s.o.grow hr hB);clear hr hB);clear hst2;generalize n++Z=st7 at *;exact⟨⟨k+1,st7,by omega,by go_num,E2.o,s.o⟩,by simp[intOf];omega⟩
  .have E:fB (V=st):=by show _=_;rw[hV.o,B.o,Ra (by omega)]
   have hbk:=BN L.o.O;have BW:=gB L.o.N;clear B L;go_wp2;go_ret2;exact⟨by rw[E.o];rfl,BW.o⟩
theorem CZ(r:fH)(a:nC)(b:Nat)(w:World)(f:gJ w a r.P)(h:VR r):
 gF 8 #[.agg #[dB r.K,tA r.T,tA r.R,dB r.U,uA a (cB r.P) b]] w (tA (oK r)):=by
 have i:=gB (λW(j:zB w W)=>if d:r.K=1 then rr r a b W (f.z j) h d else ro r a b W h d);have l:=h.sz;clear f h;generalize oK r=V at *;go_enter func8,ntmps8;go_wp2_with fail;apply oC (i.o _ aC);intro m c;have g:=gB (xB aC c);clear c;go_wp2;go_ret;exact⟨rfl,g.o⟩
