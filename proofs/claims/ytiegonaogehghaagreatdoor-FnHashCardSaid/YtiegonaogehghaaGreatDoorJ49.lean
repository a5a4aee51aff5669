import Derived.Test.YtiegonaogehghaaGreatDoorJ16
set_option maxRecDepth 100000
set_option maxHeartbeats 8000000
set_option linter.defProp false
open Option renaming none->aA,some->bA
open List renaming length->yA
namespace Go.Proofs.YtiegonaogehghaaGreatDoor
open Go renaming World->eA,Value->iA
open Value renaming string->oA,slice->pA,int->lA
open Obj renaming cells->vA
open IntKind renaming i64->mA
open Go.RowKit Tryz
def xx(p:iB->Bool)(a:List iB)(j:Nat)(h:j<yA a):(a.take (j+1)).filter p=(a.take j).filter p++if p a[j]=true then [a[j]] else []:=by
 rw[Pa h,Vf];congr 1;by_cases e:p a[j]=true
 .rw[Ma e,Wc e];rfl
 rw[Ja e,A0 e];rfl
def aHj(p:iB->Bool)(a:List iB)(j:Nat):yA ((a.take j).filter p)<=yA a:=by grind
def aJn(a:eA)(t:fB)(X:Nat)(c:eA):Prop:=
 ∃b d,gB c X #[oA t.N,zA t.L,pA (pB b) (yA t.M) d,pA aA 0 0] 54/\c.ownsRow a.1.size 203 2 (pA (pB b) (yA t.M) d) (yA t.M) (flatK t.M)/\a.1.size<=X/\b≠X/\tB a c
def aHz(W:eA)(cs a:Array iA){t b:TypeId}:((W.alloc (vA cs t)).alloc (vA a b)).drew.heap[W.1.size+1]?=bA (vA a b (0,0)):=by
 have h:gB ((W.alloc (vA cs t)).alloc (vA a b)) (W.alloc (vA cs t)).1.size a b:=gB.new _ _ _;have e:(W.alloc (vA cs t)).1.size=W.1.size+1:=by simp
 rw[e]at h;exact h
def aHy(W:eA)(cs:Array iA){t:TypeId}(o:Obj):((W.alloc (vA cs t)).alloc o).drew.heap[W.1.size]?=bA (vA cs t (0,0)):=((gB.new W cs t).alloc o)
def ZO{a c:eA}{X:Nat}{d e f g:iA}(h:tB a c)(b:a.1.size<=X):tB a ((((c.setCell (dB X 0) d).setCell (dB X 1) e).setCell (dB X 2) f).setCell (dB X 3) g):=(((h.setCell b _).setCell b _).setCell b _).setCell b _
def kr{w:eA}{X:Nat}{v0 v1 v2 v3:iA}:eB (·=X) w ((((w.setCell ⟨X,0,aA⟩ v0).setCell ⟨X,1,aA⟩ v1).setCell ⟨X,2,aA⟩ v2).setCell ⟨X,3,aA⟩ v3):=((((eB.refl (·=X) w).setCell (Ca rfl) 0 _).setCell (Ca rfl) 1 _).setCell (Ca rfl) 2 _).setCell (Ca rfl) 3 _
def aHk{c d:eA}{t:fB}{X b a n:Nat}(h:gB d X #[oA ⟨#[]⟩,zA 0,pA aA 0 0,pA aA 0 0] 54)(f:c.1.size<=X)(l:tB c d)(g:d.ownsRow c.1.size 203 2 (pA (pB b) (0+yA t.M) a) (0+yA t.M) ([]++flatK t.M))(i:b≠X)(j:n=yA t.M):
 aJn c t X ((((d.setCell (dB X 0) (oA t.N)).setCell (dB X 1) (zA t.L)).setCell (dB X 2) (pA (pB b) n a)).setCell (dB X 3) (pA aA 0 0)):=by
 subst j;rw[Ya,Mb]at g;refine⟨b,a,?_,kr.row g (λq k e=>by simp[iA.ownBlock]at k;omega),f,i,ZO l f⟩;have:=(((h.set 0 (oA t.N)).set 1 (zA t.L)).set 2 (pA (pB b) (yA t.M) a)).set 3 (pA aA 0 0);simpa using this
def aOk(W:eA):(W.alloc (vA #[] 203)).drew.ownsRow W.1.size 203 2 (pA (pB W.1.size) 0 0) 0 []:=(eA.ownsRow_made W #[] 0 (Ia _) (by simp[maxLen]) (by simp)).drew
def aOl(W:eA)(o:Obj):((W.alloc (vA #[] 203)).alloc o).drew.ownsRow W.1.size 203 2 (pA (pB W.1.size) 0 0) 0 []:=((eA.ownsRow_made W #[] 0 (Ia _) (by simp[maxLen]) (by simp)).alloc o).drew
def aOm(W:eA)(o:Obj):((W.alloc o).alloc (vA #[] 203)).drew.ownsRow W.1.size 203 2 (pA (pB (W.1.size+1)) 0 0) 0 []:=by
 have:=(eA.ownsRow_made (e:=203) (size:=2) (base:=W.1.size) (W.alloc o) #[] 0 (by simp) (by simp[maxLen]) (by simp)).drew;simpa using this
def KE(t:fB)(F O:jC)(Q V:Nat)(r u:Int)(w:eA)(p1:lC w F t.M)(p2:lC w O t.Z)(hl1:yA t.M<=2000000)(hl2:yA t.Z<=2000000)(hn0:0<=r)(hn1:r<=2000000000000)(hx:∀i(h:i<yA t.Z),0<=t.Z[i].n/\t.Z[i].n<=2000000000000):
 Calls prog 120 #[.agg #[oA t.N,lA mA t.L,pA F (yA t.M) Q,pA O (yA t.Z) V],lA mA r,lA mA u] w λe E=>WU w t.N (uE u r t) e E:=by
 have P1:=cB p1;have P2:=cB p2;have HX0:=cB hx;clear p1 p2 hx;go_enter func120,ntmps120;have B1:bB (tB w ((w.alloc (vA #[oA t.N,lA mA t.L,pA F (yA t.M) Q,pA O (yA t.Z) V] 54)).alloc (vA #[oA ⟨#[]⟩,lA mA 0,pA aA 0 0,pA aA 0 0] 54))):=vB yB yB;have T1:bB (gB ((w.alloc (vA #[oA t.N,lA mA t.L,pA F (yA t.M) Q,pA O (yA t.Z) V] 54)).alloc (vA #[oA ⟨#[]⟩,lA mA 0,pA aA 0 0,pA aA 0 0] 54)) w.1.size #[oA t.N,lA mA t.L,pA F (yA t.M) Q,pA O (yA t.Z) V] 54):=(gB.new _ _ _).alloc _;have R1:bB _:=cB (by have:=gB.new (w.alloc (vA #[oA t.N,lA mA t.L,pA F (yA t.M) Q,pA O (yA t.Z) V] 54)) #[oA ⟨#[]⟩,lA mA 0,pA aA 0 0,pA aA 0 0] 54;simpa using this);go_upto_region 1 with fail;generalize (w.alloc (vA #[oA t.N,lA mA t.L,pA F (yA t.M) Q,pA O (yA t.Z) V] 54)).alloc (vA #[oA ⟨#[]⟩,lA mA 0,pA aA 0 0,pA aA 0 0] 54)=y at *;have HFL:bB (yA (flatK t.M)=yA t.M*2):=aM _;have D:bB (∀W,tB y W->dS W F (yA t.M) (flatK t.M)):=λW hW=>by
  rcases P1.o.z (vB B1.o hW) with h0|⟨b,o,rfl,L,h⟩;exact Ca (by rw[h0];rfl);exact La ⟨_,rfl,sN h⟩
 have M:bB (∀E,tB y E->tC E w.1.size 0 (oA t.N)/\tC E w.1.size 1 (lA mA t.L)/\tC E w.1.size 2 (pA F (yA t.M) Q)):=λE h=>by
  have q:=T1.o.z h;exact⟨q.cell 0,q.cell 1,q.cell 2⟩
 obtain⟨x0,x1,x2⟩:=M.o y bD;have hw1:=aB R1.o;go_cut [7] (λp wx=>∃X,p=.pointer (bA ⟨X,0,aA⟩)/\aJn y t X wx)
 case first=>
  go_region_held3 (λE=>E.cell? ⟨w.1.size,0,aA⟩=bA (oA t.N)/\E.cell? ⟨w.1.size,1,aA⟩=bA (lA mA t.L)/\E.cell? ⟨w.1.size,2,aA⟩=bA (pA F (yA t.M) Q))
   (first|go_keep|exact M.o _ Y|exact M.o _ (ZO Y (Ia _))|exact M.o _ (ZO Y (Gf _))|exact M.o _ (JH y _)|exact M.o _ (JI y _ _))
   (first
    |(refine aS (by rfl) _ _ (by rfl) underlying51 sY rfl (by omega) (by omega) (B:=y.1.size) (by rfl) (by first|exact aOk y|exact aOl y _|exact aOm y _) (flatK t.M) (by rfl) HFL.o (by first|exact D.o _ (JH y _)|exact D.o _ (JI y _ _)) (sP _) (by omega) (by first|exact(JH y _).size|exact(JI y _ _).size) ?_;intro g5 cap5 Z z hB5 hk5 hat5;have Y:tB y Z:=(by first|exact(JH y _).trans hB5|exact(JI y _ _).trans hB5);have c5:=M.o _ Y
      try (first
       |(have x:bB (gB Z (y.1.size+1) #[oA ⟨#[]⟩,lA mA 0,pA aA 0 0,pA aA 0 0] 54):=(hk5 (y.1.size+1) (by show _<(eA.alloc _ _).1.size;simp) (by omega)).trans (aHz y _ _))
       |(have x:bB (gB Z y.1.size #[oA ⟨#[]⟩,lA mA 0,pA aA 0 0,pA aA 0 0] 54):=(hk5 y.1.size (by show _<(eA.alloc _ _).1.size;simp;omega) (by omega)).trans (aHy y _ _)))
      try (have s0:=x.o.cell 0;have s1:=x.o.cell 1;have s2:=x.o.cell 2;have s3:=x.o.cell 3;have d:=x.o.free 0;have f:=x.o.free 1;have j:=x.o.free 2;have l:=x.o.free 3)))
  all_goals(go_wp2_with fail;go_meet)
  .rw[Ya,Mb]at z;exact⟨_,rfl,g5,cap5,gB.new _ _ _,eC z yB,Y.size,(by have:=(z.lt g5 rfl).2;omega),vB Y yB⟩
  all_goals
   have e:∀o o':Obj,((y.alloc o).alloc o').drew.1.size=y.1.size+1+1:=λo o'=>by show(eA.alloc _ _).1.size=_;simp
   rw[e]at hat5;exact⟨_,rfl,aHk x.o (by omega) Y z (by omega) rfl⟩
 obtain⟨X,rfl,J,I,hX,hO,hXw,hgX,K⟩:=hcut;rename eA=>G;have HXB:=cB hX;have HO1:=cB hO;have B2:bB _:=K;have y3:tC G w.1.size 3 (pA O (yA t.Z) V):=(T1.o.z K).cell 3;have hX2:=aB hX;have HR2:bB (gB G (w.1.size+1) #[oA ⟨#[]⟩,lA mA 0,pA aA 0 0,pA aA 0 0] 54):=R1.o.z K;have HG1:bB (∀q,(iA.slice (bA ⟨J,0,aA⟩) (yA t.M) I).ownBlock=bA q->q<G.1.size/\q≠X):=λq R=>⟨(hO.lt q R).2,by simp[iA.ownBlock]at R;omega⟩
 clear hX hO K M D HFL x0 x1 x2 P1;go_wp2;clear y3;go_loopw [9,22] (λ_ i wr=>∃(k:Nat)(v:iA),k<=yA t.Z/\i=lA mA k/\bB (gB wr X #[oA t.N,lA mA t.L,pA (bA ⟨J,0,aA⟩) (yA t.M) I,v] 54)/\bB (wr.ownsRow G.1.size 58 2 v (yA ((t.Z.take k).filter λp=>decide (r-p.n<u))) (flatK ((t.Z.take k).filter λp=>decide (r-p.n<u))))/\bB (eB (·=X) G wr)) (λ_ i _=>yA t.Z-(intOf i).toNat)
 case atStart=>exact⟨0,pA aA 0 0,Oa _,rfl,HXB.o,eA.ownsRow_nil _ _ _ _,eB.refl _ _⟩
 case round=>
  obtain⟨k,v,hk,rfl,T,C,A⟩:=hrel;have hs2:=A.o.size;have HBW:bB _:=(vB B1.o B2.o).trans (A.o.below (by omega) λi hi e=>by omega);by_cases L:k<yA t.Z
  .obtain ⟨pb,po,rfl,hpl,z0,z1⟩:=(P2.o.z HBW.o).at L;have HYS:bB ((t.Z.take (k+1)).filter (λp=>decide (r-p.n<u))=(t.Z.take k).filter (λp=>decide (r-p.n<u))++if decide (r-t.Z[k].n<u)=true then [t.Z[k]] else []):=xx _ _ _ L;have hyl:yA ((t.Z.take k).filter λp=>decide (r-p.n<u))<=2000000:=by
    have:=aHj (λp=>decide (r-p.n<u)) t.Z k;omega
   obtain⟨hb0,hb1⟩:=HX0.o k L;generalize (t.Z.take k).filter (λp=>decide (r-p.n<u))=ys at *;generalize t.Z[k]=P at *;have hwrp:IntKind.i64.wrap (r-P.n)=r-P.n:=by
    simp only[IntKind.wrap,IntKind.bits,IntKind.signed];simp;omega
   by_cases hc:r-P.n<u
   .have HY:bB ((t.Z.take (k+1)).filter (λp=>decide (r-p.n<u))=ys++[P]):=by show _=_;rw[HYS.o,Ma (by simpa using hc)]
    go_upto_region 6 with fail;have U:bB (tB wr (wr.alloc (vA #[oA P.s,lA mA P.n] 58))):=yB;have u0:(wr.alloc (vA #[oA P.s,lA mA P.n] 58)).cell? ⟨wr.1.size,0,aA⟩=bA (oA P.s):=(gB.new _ _ _).cell 0;have u1:(wr.alloc (vA #[oA P.s,lA mA P.n] 58)).cell? ⟨wr.1.size,1,aA⟩=bA (lA mA P.n):=(gB.new _ _ _).cell 1;have hs5:wr.1.size<(wr.alloc (vA #[oA P.s,lA mA P.n] 58)).1.size:=by simp
    clear z0 z1;generalize wr.alloc (vA #[oA P.s,lA mA P.n] 58)=Z at *;have x:bB (gB Z X #[oA t.N,lA mA t.L,pA (bA ⟨J,0,aA⟩) (yA t.M) I,v] 54):=T.o.z U.o;have x3:tC Z X 3 v:=x.o.cell 3;have R5:bB (Z.ownsRow G.1.size 58 2 v (yA ys) (flatK ys)):=eC C.o U.o;have T5:=cB (A.o.trans (eB.of U.o));go_wp2_with(at_builtin;refine qM rfl _ _ rfl underlying52 ER rfl (by omega) (by omega) rfl R5.o rfl rfl (cs:=#[oA P.s,lA mA P.n]) rfl (by simp[iA.oneCell']) (by omega) (by omega) ?_;intro gg cap6 w6 O6 T6 A6;have BX6:=cB (T6.o.blk x.o (λe=>by have:=e.1;omega));have s6:=BX6.o.cell 3;have m:=BX6.o.free 3);obtain⟨h1,h3,h4⟩:=tZ x.o T6.o O6.o hX2 3;refine⟨⟨k+1,pA (bA ⟨gg,0,aA⟩) (yA ys+1) cap6,by omega,by go_num,cB (by simpa using h1),?_,T5.o.trans (h4.mono λi _ e=>e.imp_right And.left)⟩,by simp[intOf];omega⟩;rw[HY.o,mW,Kb];exact h3
   have HY:bB ((t.Z.take (k+1)).filter (λp=>decide (r-p.n<u))=ys):=by show _=_;rw[HYS.o,Ja (by simpa using hc),Cd]
   have x:bB (gB (wr.alloc (vA #[oA P.s,lA mA P.n] 58)) X #[oA t.N,lA mA t.L,pA (bA ⟨J,0,aA⟩) (yA t.M) I,v] 54):=T.o.alloc _;have R5:bB ((wr.alloc (vA #[oA P.s,lA mA P.n] 58)).ownsRow G.1.size 58 2 v (yA ys) (flatK ys)):=eC C.o yB;have T5:bB (eB (·=X) G (wr.alloc (vA #[oA P.s,lA mA P.n] 58))):=A.o.trans (eB.of yB);go_wp2;refine⟨⟨k+1,v,by omega,by go_num,x.o,?_,T5.o⟩,by simp[intOf];omega⟩;rw[HY.o];exact R5
  .have ek:t.Z.take k=t.Z:=Ra (by omega);rw[ek]at C;have H:bB (wr.ownsRow G.1.size 58 2 v (yA (uE u r t).Z) (flatK (uE u r t).Z)):=C.o;obtain⟨sa,sc,hv⟩:∃a c,v=.slice a (yA (uE u r t).Z) c:=by
    obtain⟨e1,e2⟩|⟨g,cap,_,e1,_⟩:=H.o.2;exact ⟨aA,0,by rw[e1,e2]⟩;exact ⟨_,_,e1⟩
   rw[hv]at T H;clear C hv ek;generalize hKS:(uE u r t).Z=KS at *;have N:bB (gB wr (w.1.size+1) #[oA ⟨#[]⟩,lA mA 0,pA aA 0 0,pA aA 0 0] 54):=A.o.blk HR2.o (by omega);have a0:tC wr X 0 (oA t.N):=T.o.cell 0;have a1':tC wr X 1 (lA mA t.L):=T.o.cell 1;have a2':tC wr X 2 (pA (bA ⟨J,0,aA⟩) (yA t.M) I):=T.o.cell 2;have a3:tC wr X 3 (pA sa (yA KS) sc):=T.o.cell 3;have b0:tC wr (w.1.size+1) 0 (oA ⟨#[]⟩):=N.o.cell 0;have b1:tC wr (w.1.size+1) 1 (lA mA 0):=N.o.cell 1;have b2:tC wr (w.1.size+1) 2 (pA aA 0 0):=N.o.cell 2;have b3:tC wr (w.1.size+1) 3 (pA aA 0 0):=N.o.cell 3;have e0:=N.o.free 0;have e1:=N.o.free 1;have e2:=N.o.free 2;have e3:=N.o.free 3;have HOM:bB (wr.ownsRow y.1.size 203 2 (pA (bA ⟨J,0,aA⟩) (yA t.M) I) (yA t.M) (flatK t.M)):=A.o.row HO1.o (λq R e=>(HG1.o q R).2 e);go_wp2;refine bodyPost_ret (v:=.agg #[oA t.N,lA mA t.L,pA (bA ⟨J,0,aA⟩) (yA t.M) I,pA sa (yA KS) sc]) (by simp[results,results120,go_sem,b0,b1,b2,b3]) rfl ⟨G.1.size,bA ⟨J,0,aA⟩,I,sa,sc,by rw[hKS];rfl,by omega,?_,λg o e=>(HG1.o g (by cases e;rfl)).1,?_,?_,?_⟩
   .exact (vD (kr.row HOM.o (λq R e=>by have:=(HOM.o.lt q R).1;omega))).mono (by omega)
   .rw[hKS];exact kr.row H.o (λq R e=>by have:=(H.o.lt q R).1;omega)
   .have:=(kr (w:=wr) (X:=w.1.size+1) (v0:=oA t.N) (v1:=lA mA t.L) (v2:=pA (bA ⟨J,0,aA⟩) (yA t.M) I) (v3:=pA sa (yA KS) sc)).size;omega
   exact ((eB.of (S:=λi=>w.1.size<=i) HBW.o).trans' (kr.mono λi _ e=>by omega)).below (Ia _) λi hi h=>by omega
def oh(t:fB)(c d:jC)(l m:Nat)(a b:Int)(w:eA)(p:lC w c t.M)(q:lC w d t.Z)(f:yA t.M<=2000000)(g:yA t.Z<=2000000)(j:0<=a)(k:a<=2000000000000)(o:∀i(h:i<yA t.Z),0<=t.Z[i].n/\t.Z[i].n<=2000000000000):
 Calls prog 120 #[.agg #[oA t.N,zA t.L,pA c (yA t.M) l,pA d (yA t.Z) m],zA a,zA b] w λe r=>GK w t.N (uE b a t) e r:=
 (KE t c d l m a b w p q f g j k o).mono λ_ _ h=>h.tel
