import Derived.Test.YtcmdjimlmnaojaaGreatDoorJ16
set_option maxRecDepth 100000
set_option maxHeartbeats 8000000
set_option linter.defProp false
open Option renaming none->aA,some->cA
open List renaming length->zA
namespace Go.Proofs.YtcmdjimlmnaojaaGreatDoor
open Go renaming World->fA,Value->jA
open Value renaming string->pA,slice->qA,int->mA
open Obj renaming cells->xA
open IntKind renaming i64->oA
open Go.RowKit Tryz
def xu(p:kB->Bool)(a:List kB)(j:Nat)(h:j<zA a):(a.take (j+1)).filter p=(a.take j).filter p++if p a[j]=true then [a[j]] else []:=by
 rw[Pa h,Vf];congr 1;by_cases e:p a[j]=true
 .rw[Ma e,Wc e];rfl
 rw[Ja e,A0 e];rfl
def aHi(p:kB->Bool)(a:List kB)(j:Nat):zA ((a.take j).filter p)<=zA a:=by grind
def aJi(a:fA)(t:gB)(X:Nat)(c:fA):Prop:=
 ∃b d,jB c X #[pA t.N,aB t.L,qA (vB b) (zA t.M) d,qA aA 0 0] 131/\c.ownsRow a.1.size 184 2 (qA (vB b) (zA t.M) d) (zA t.M) (flatK t.M)/\a.1.size<=X/\b≠X/\xB a c
def aHx(W:fA)(cs a:Array jA){t b:TypeId}:((W.alloc (xA cs t)).alloc (xA a b)).drew.heap[W.1.size+1]?=cA (xA a b (0,0)):=by
 have h:jB ((W.alloc (xA cs t)).alloc (xA a b)) (W.alloc (xA cs t)).1.size a b:=jB.new _ _ _;have e:(W.alloc (xA cs t)).1.size=W.1.size+1:=by simp
 rw[e]at h;exact h
def aHw(W:fA)(cs:Array jA){t:TypeId}(o:Obj):((W.alloc (xA cs t)).alloc o).drew.heap[W.1.size]?=cA (xA cs t (0,0)):=((jB.new W cs t).alloc o)
def ZM{a c:fA}{X:Nat}{d e f g:jA}(h:xB a c)(b:a.1.size<=X):xB a ((((c.setCell (eB X 0) d).setCell (eB X 1) e).setCell (eB X 2) f).setCell (eB X 3) g):=(((h.setCell b _).setCell b _).setCell b _).setCell b _
def kt{w:fA}{X:Nat}{v0 v1 v2 v3:jA}:fB (·=X) w ((((w.setCell ⟨X,0,aA⟩ v0).setCell ⟨X,1,aA⟩ v1).setCell ⟨X,2,aA⟩ v2).setCell ⟨X,3,aA⟩ v3):=((((fB.refl (·=X) w).setCell (Ca rfl) 0 _).setCell (Ca rfl) 1 _).setCell (Ca rfl) 2 _).setCell (Ca rfl) 3 _
def aHj{c d:fA}{t:gB}{X b a n:Nat}(h:jB d X #[pA ⟨#[]⟩,aB 0,qA aA 0 0,qA aA 0 0] 131)(f:c.1.size<=X)(l:xB c d)(g:d.ownsRow c.1.size 184 2 (qA (vB b) (0+zA t.M) a) (0+zA t.M) ([]++flatK t.M))(i:b≠X)(j:n=zA t.M):
 aJi c t X ((((d.setCell (eB X 0) (pA t.N)).setCell (eB X 1) (aB t.L)).setCell (eB X 2) (qA (vB b) n a)).setCell (eB X 3) (qA aA 0 0)):=by
 subst j;rw[Ya,Mb]at g;refine⟨b,a,?_,kt.row g (λq k e=>by simp[jA.ownBlock]at k;omega),f,i,ZM l f⟩;have:=(((h.set 0 (pA t.N)).set 1 (aB t.L)).set 2 (qA (vB b) (zA t.M) a)).set 3 (qA aA 0 0);simpa using this
def aOi(W:fA):(W.alloc (xA #[] 184)).drew.ownsRow W.1.size 184 2 (qA (vB W.1.size) 0 0) 0 []:=(fA.ownsRow_made W #[] 0 (Ia _) (by simp[maxLen]) (by simp)).drew
def aOj(W:fA)(o:Obj):((W.alloc (xA #[] 184)).alloc o).drew.ownsRow W.1.size 184 2 (qA (vB W.1.size) 0 0) 0 []:=((fA.ownsRow_made W #[] 0 (Ia _) (by simp[maxLen]) (by simp)).alloc o).drew
def aOk(W:fA)(o:Obj):((W.alloc o).alloc (xA #[] 184)).drew.ownsRow W.1.size 184 2 (qA (vB (W.1.size+1)) 0 0) 0 []:=by
 have:=(fA.ownsRow_made (e:=184) (size:=2) (base:=W.1.size) (W.alloc o) #[] 0 (by simp) (by simp[maxLen]) (by simp)).drew;simpa using this
def KK(t:gB)(F O:nC)(Q V:Nat)(r u:Int)(w:fA)(p1:mC w F t.M)(p2:mC w O t.Z)(hl1:zA t.M<=2000000)(hl2:zA t.Z<=2000000)(hn0:0<=r)(hn1:r<=2000000000000)(hx:∀i(h:i<zA t.Z),0<=t.Z[i].n/\t.Z[i].n<=2000000000000):
 Calls prog 112 #[.agg #[pA t.N,mA oA t.L,qA F (zA t.M) Q,qA O (zA t.Z) V],mA oA r,mA oA u] w λe E=>WW w t.N (oE u r t) e E:=by
 have P1:=dB p1;have P2:=dB p2;have HX0:=dB hx;clear p1 p2 hx;go_enter func112,ntmps112;have B1:cB (xB w ((w.alloc (xA #[pA t.N,mA oA t.L,qA F (zA t.M) Q,qA O (zA t.Z) V] 131)).alloc (xA #[pA ⟨#[]⟩,mA oA 0,qA aA 0 0,qA aA 0 0] 131))):=aC bC bC;have T1:cB (jB ((w.alloc (xA #[pA t.N,mA oA t.L,qA F (zA t.M) Q,qA O (zA t.Z) V] 131)).alloc (xA #[pA ⟨#[]⟩,mA oA 0,qA aA 0 0,qA aA 0 0] 131)) w.1.size #[pA t.N,mA oA t.L,qA F (zA t.M) Q,qA O (zA t.Z) V] 131):=(jB.new _ _ _).alloc _;have R1:cB _:=dB (by have:=jB.new (w.alloc (xA #[pA t.N,mA oA t.L,qA F (zA t.M) Q,qA O (zA t.Z) V] 131)) #[pA ⟨#[]⟩,mA oA 0,qA aA 0 0,qA aA 0 0] 131;simpa using this);go_upto_region 1 with fail;generalize (w.alloc (xA #[pA t.N,mA oA t.L,qA F (zA t.M) Q,qA O (zA t.Z) V] 131)).alloc (xA #[pA ⟨#[]⟩,mA oA 0,qA aA 0 0,qA aA 0 0] 131)=y at *;have HFL:cB (zA (flatK t.M)=zA t.M*2):=iM _;have D:cB (∀W,xB y W->jS W F (zA t.M) (flatK t.M)):=λW hW=>by
  rcases P1.o.z (aC B1.o hW) with h0|⟨b,o,rfl,L,h⟩;exact Ca (by rw[h0];rfl);exact La ⟨_,rfl,xN h⟩
 have M:cB (∀E,xB y E->yC E w.1.size 0 (pA t.N)/\yC E w.1.size 1 (mA oA t.L)/\yC E w.1.size 2 (qA F (zA t.M) Q)):=λE h=>by
  have q:=T1.o.z h;exact⟨q.cell 0,q.cell 1,q.cell 2⟩
 obtain⟨x0,x1,x2⟩:=M.o y gD;have hw1:=bB R1.o;go_cut [7] (λp wx=>∃X,p=.pointer (cA ⟨X,0,aA⟩)/\aJi y t X wx)
 case first=>
  go_region_held3 (λE=>E.cell? ⟨w.1.size,0,aA⟩=cA (pA t.N)/\E.cell? ⟨w.1.size,1,aA⟩=cA (mA oA t.L)/\E.cell? ⟨w.1.size,2,aA⟩=cA (qA F (zA t.M) Q))
   (first|go_keep|exact M.o _ Y|exact M.o _ (ZM Y (Ia _))|exact M.o _ (ZM Y (Gf _))|exact M.o _ (JN y _)|exact M.o _ (JO y _ _))
   (first
    |(refine fS (by rfl) _ _ (by rfl) underlying128 uY rfl (by omega) (by omega) (B:=y.1.size) (by rfl) (by first|exact aOi y|exact aOj y _|exact aOk y _) (flatK t.M) (by rfl) HFL.o (by first|exact D.o _ (JN y _)|exact D.o _ (JO y _ _)) (tP _) (by omega) (by first|exact(JN y _).size|exact(JO y _ _).size) ?_;intro g5 cap5 Z z hB5 hk5 hat5;have Y:xB y Z:=(by first|exact(JN y _).trans hB5|exact(JO y _ _).trans hB5);have c5:=M.o _ Y
      try (first
       |(have x:cB (jB Z (y.1.size+1) #[pA ⟨#[]⟩,mA oA 0,qA aA 0 0,qA aA 0 0] 131):=(hk5 (y.1.size+1) (by show _<(fA.alloc _ _).1.size;simp) (by omega)).trans (aHx y _ _))
       |(have x:cB (jB Z y.1.size #[pA ⟨#[]⟩,mA oA 0,qA aA 0 0,qA aA 0 0] 131):=(hk5 y.1.size (by show _<(fA.alloc _ _).1.size;simp;omega) (by omega)).trans (aHw y _ _)))
      try (have s0:=x.o.cell 0;have s1:=x.o.cell 1;have s2:=x.o.cell 2;have s3:=x.o.cell 3;have d:=x.o.free 0;have f:=x.o.free 1;have j:=x.o.free 2;have l:=x.o.free 3)))
  all_goals(go_wp2_with fail;go_meet)
  .rw[Ya,Mb]at z;exact⟨_,rfl,g5,cap5,jB.new _ _ _,hC z bC,Y.size,(by have:=(z.lt g5 rfl).2;omega),aC Y bC⟩
  all_goals
   have e:∀o o':Obj,((y.alloc o).alloc o').drew.1.size=y.1.size+1+1:=λo o'=>by show(fA.alloc _ _).1.size=_;simp
   rw[e]at hat5;exact⟨_,rfl,aHj x.o (by omega) Y z (by omega) rfl⟩
 obtain⟨X,rfl,J,I,hX,hO,hXw,hgX,K⟩:=hcut;rename fA=>G;have HXB:=dB hX;have HO1:=dB hO;have B2:cB _:=K;have y3:yC G w.1.size 3 (qA O (zA t.Z) V):=(T1.o.z K).cell 3;have hX2:=bB hX;have HR2:cB (jB G (w.1.size+1) #[pA ⟨#[]⟩,mA oA 0,qA aA 0 0,qA aA 0 0] 131):=R1.o.z K;have HG1:cB (∀q,(jA.slice (cA ⟨J,0,aA⟩) (zA t.M) I).ownBlock=cA q->q<G.1.size/\q≠X):=λq R=>⟨(hO.lt q R).2,by simp[jA.ownBlock]at R;omega⟩
 clear hX hO K M D HFL x0 x1 x2 P1;go_wp2;clear y3;go_loopw [9,22] (λ_ i wr=>∃(k:Nat)(v:jA),k<=zA t.Z/\i=mA oA k/\cB (jB wr X #[pA t.N,mA oA t.L,qA (cA ⟨J,0,aA⟩) (zA t.M) I,v] 131)/\cB (wr.ownsRow G.1.size 134 2 v (zA ((t.Z.take k).filter λp=>decide (r-p.n<u))) (flatK ((t.Z.take k).filter λp=>decide (r-p.n<u))))/\cB (fB (·=X) G wr)) (λ_ i _=>zA t.Z-(intOf i).toNat)
 case atStart=>exact⟨0,qA aA 0 0,Oa _,rfl,HXB.o,fA.ownsRow_nil _ _ _ _,fB.refl _ _⟩
 case round=>
  obtain⟨k,v,hk,rfl,T,C,A⟩:=hrel;have hs2:=A.o.size;have HBW:cB _:=(aC B1.o B2.o).trans (A.o.below (by omega) λi hi e=>by omega);by_cases L:k<zA t.Z
  .obtain ⟨pb,po,rfl,hpl,z0,z1⟩:=(P2.o.z HBW.o).at L;have HYS:cB ((t.Z.take (k+1)).filter (λp=>decide (r-p.n<u))=(t.Z.take k).filter (λp=>decide (r-p.n<u))++if decide (r-t.Z[k].n<u)=true then [t.Z[k]] else []):=xu _ _ _ L;have hyl:zA ((t.Z.take k).filter λp=>decide (r-p.n<u))<=2000000:=by
    have:=aHi (λp=>decide (r-p.n<u)) t.Z k;omega
   obtain⟨hb0,hb1⟩:=HX0.o k L;generalize (t.Z.take k).filter (λp=>decide (r-p.n<u))=ys at *;generalize t.Z[k]=P at *;have hwrp:IntKind.i64.wrap (r-P.n)=r-P.n:=by
    simp only[IntKind.wrap,IntKind.bits,IntKind.signed];simp;omega
   by_cases hc:r-P.n<u
   .have HY:cB ((t.Z.take (k+1)).filter (λp=>decide (r-p.n<u))=ys++[P]):=by show _=_;rw[HYS.o,Ma (by simpa using hc)]
    go_upto_region 6 with fail;have U:cB (xB wr (wr.alloc (xA #[pA P.s,mA oA P.n] 134))):=bC;have u0:(wr.alloc (xA #[pA P.s,mA oA P.n] 134)).cell? ⟨wr.1.size,0,aA⟩=cA (pA P.s):=(jB.new _ _ _).cell 0;have u1:(wr.alloc (xA #[pA P.s,mA oA P.n] 134)).cell? ⟨wr.1.size,1,aA⟩=cA (mA oA P.n):=(jB.new _ _ _).cell 1;have hs5:wr.1.size<(wr.alloc (xA #[pA P.s,mA oA P.n] 134)).1.size:=by simp
    clear z0 z1;generalize wr.alloc (xA #[pA P.s,mA oA P.n] 134)=Z at *;have x:cB (jB Z X #[pA t.N,mA oA t.L,qA (cA ⟨J,0,aA⟩) (zA t.M) I,v] 131):=T.o.z U.o;have x3:yC Z X 3 v:=x.o.cell 3;have R5:cB (Z.ownsRow G.1.size 134 2 v (zA ys) (flatK ys)):=hC C.o U.o;have T5:=dB (A.o.trans (fB.of U.o));go_wp2_with(at_builtin;refine zM rfl _ _ rfl underlying129 EY rfl (by omega) (by omega) rfl R5.o rfl rfl (cs:=#[pA P.s,mA oA P.n]) rfl (by simp[jA.oneCell']) (by omega) (by omega) ?_;intro gg cap6 w6 O6 T6 A6;have BX6:=dB (T6.o.blk x.o (λe=>by have:=e.1;omega));have s6:=BX6.o.cell 3;have m:=BX6.o.free 3);obtain⟨h1,h3,h4⟩:=tZ x.o T6.o O6.o hX2 3;refine⟨⟨k+1,qA (cA ⟨gg,0,aA⟩) (zA ys+1) cap6,by omega,by go_num,dB (by simpa using h1),?_,T5.o.trans (h4.mono λi _ e=>e.imp_right And.left)⟩,by simp[intOf];omega⟩;rw[HY.o,mW,Kb];exact h3
   have HY:cB ((t.Z.take (k+1)).filter (λp=>decide (r-p.n<u))=ys):=by show _=_;rw[HYS.o,Ja (by simpa using hc),Cd]
   have x:cB (jB (wr.alloc (xA #[pA P.s,mA oA P.n] 134)) X #[pA t.N,mA oA t.L,qA (cA ⟨J,0,aA⟩) (zA t.M) I,v] 131):=T.o.alloc _;have R5:cB ((wr.alloc (xA #[pA P.s,mA oA P.n] 134)).ownsRow G.1.size 134 2 v (zA ys) (flatK ys)):=hC C.o bC;have T5:cB (fB (·=X) G (wr.alloc (xA #[pA P.s,mA oA P.n] 134))):=A.o.trans (fB.of bC);go_wp2;refine⟨⟨k+1,v,by omega,by go_num,x.o,?_,T5.o⟩,by simp[intOf];omega⟩;rw[HY.o];exact R5
  .have ek:t.Z.take k=t.Z:=Ra (by omega);rw[ek]at C;have H:cB (wr.ownsRow G.1.size 134 2 v (zA (oE u r t).Z) (flatK (oE u r t).Z)):=C.o;obtain⟨sa,sc,hv⟩:∃a c,v=.slice a (zA (oE u r t).Z) c:=by
    obtain⟨e1,e2⟩|⟨g,cap,_,e1,_⟩:=H.o.2;exact ⟨aA,0,by rw[e1,e2]⟩;exact ⟨_,_,e1⟩
   rw[hv]at T H;clear C hv ek;generalize hKS:(oE u r t).Z=KS at *;have N:cB (jB wr (w.1.size+1) #[pA ⟨#[]⟩,mA oA 0,qA aA 0 0,qA aA 0 0] 131):=A.o.blk HR2.o (by omega);have a0:yC wr X 0 (pA t.N):=T.o.cell 0;have a1':yC wr X 1 (mA oA t.L):=T.o.cell 1;have a2':yC wr X 2 (qA (cA ⟨J,0,aA⟩) (zA t.M) I):=T.o.cell 2;have a3:yC wr X 3 (qA sa (zA KS) sc):=T.o.cell 3;have b0:yC wr (w.1.size+1) 0 (pA ⟨#[]⟩):=N.o.cell 0;have b1:yC wr (w.1.size+1) 1 (mA oA 0):=N.o.cell 1;have b2:yC wr (w.1.size+1) 2 (qA aA 0 0):=N.o.cell 2;have b3:yC wr (w.1.size+1) 3 (qA aA 0 0):=N.o.cell 3;have e0:=N.o.free 0;have e1:=N.o.free 1;have e2:=N.o.free 2;have e3:=N.o.free 3;have HOM:cB (wr.ownsRow y.1.size 184 2 (qA (cA ⟨J,0,aA⟩) (zA t.M) I) (zA t.M) (flatK t.M)):=A.o.row HO1.o (λq R e=>(HG1.o q R).2 e);go_wp2;refine bodyPost_ret (v:=.agg #[pA t.N,mA oA t.L,qA (cA ⟨J,0,aA⟩) (zA t.M) I,qA sa (zA KS) sc]) (by simp[results,results112,go_sem,b0,b1,b2,b3]) rfl ⟨G.1.size,cA ⟨J,0,aA⟩,I,sa,sc,by rw[hKS];rfl,by omega,?_,λg o e=>(HG1.o g (by cases e;rfl)).1,?_,?_,?_⟩
   .exact (bE (kt.row HOM.o (λq R e=>by have:=(HOM.o.lt q R).1;omega))).mono (by omega)
   .rw[hKS];exact kt.row H.o (λq R e=>by have:=(H.o.lt q R).1;omega)
   .have:=(kt (w:=wr) (X:=w.1.size+1) (v0:=pA t.N) (v1:=mA oA t.L) (v2:=qA (cA ⟨J,0,aA⟩) (zA t.M) I) (v3:=qA sa (zA KS) sc)).size;omega
   exact ((fB.of (S:=λi=>w.1.size<=i) HBW.o).trans' (kt.mono λi _ e=>by omega)).below (Ia _) λi hi h=>by omega
def oh(t:gB)(c d:nC)(l m:Nat)(a b:Int)(w:fA)(p:mC w c t.M)(q:mC w d t.Z)(f:zA t.M<=2000000)(g:zA t.Z<=2000000)(j:0<=a)(k:a<=2000000000000)(o:∀i(h:i<zA t.Z),0<=t.Z[i].n/\t.Z[i].n<=2000000000000):
 Calls prog 112 #[.agg #[pA t.N,aB t.L,qA c (zA t.M) l,qA d (zA t.Z) m],aB a,aB b] w λe r=>GU w t.N (oE b a t) e r:=
 (KK t c d l m a b w p q f g j k o).mono λ_ _ h=>h.tel
