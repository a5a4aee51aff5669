import Derived.Test.YtejebmgbenmimaaGreatDoorJ15
set_option maxRecDepth 100000
set_option maxHeartbeats 8000000
set_option linter.defProp false
open Option renaming none->eA,some->fA
open List renaming length->cB
namespace Go.Proofs.YtejebmgbenmimaaGreatDoor
open Go renaming World->jA,Value->mA
open Value renaming string->tA,slice->uA,int->qA
open Obj renaming cells->aB
open IntKind renaming i64->sA
open Go.RowKit Tryz
def uy(p:pB->Bool)(a:List pB)(j:Nat)(h:j<cB a):(a.take (j+1)).filter p=(a.take j).filter p++if p a[j]=true then [a[j]] else []:=by
 rw[Pa h,Vf];congr 1;by_cases e:p a[j]=true
 .rw[Ma e,Wc e];rfl
 rw[Ja e,Id e];rfl
def aFf(p:pB->Bool)(a:List pB)(j:Nat):cB ((a.take j).filter p)<=cB a:=by grind
def aHl(a:jA)(t:kB)(X:Nat)(c:jA):Prop:=
 ∃b d,rB c X #[tA t.N,dB t.L,uA (cC b) (cB t.M) d,uA eA 0 0] 105/\c.ownsRow a.1.size 107 2 (uA (cC b) (cB t.M) d) (cB t.M) (flatK t.M)/\a.1.size<=X/\b≠X/\zB a c
def aFv(W:jA)(cs a:Array mA){t b:TypeId}:((W.alloc (aB cs t)).alloc (aB a b)).drew.heap[W.1.size+1]?=fA (aB a b (0,0)):=by
 have h:rB ((W.alloc (aB cs t)).alloc (aB a b)) (W.alloc (aB cs t)).1.size a b:=rB.new _ _ _;have e:(W.alloc (aB cs t)).1.size=W.1.size+1:=by simp
 rw[e]at h;exact h
def aFu(W:jA)(cs:Array mA){t:TypeId}(o:Obj):((W.alloc (aB cs t)).alloc o).drew.heap[W.1.size]?=fA (aB cs t (0,0)):=((rB.new W cs t).alloc o)
def YS{a c:jA}{X:Nat}{d e f g:mA}(h:zB a c)(b:a.1.size<=X):zB a ((((c.setCell (iB X 0) d).setCell (iB X 1) e).setCell (iB X 2) f).setCell (iB X 3) g):=(((h.setCell b _).setCell b _).setCell b _).setCell b _
def ij{w:jA}{X:Nat}{v0 v1 v2 v3:mA}:jB (·=X) w ((((w.setCell ⟨X,0,eA⟩ v0).setCell ⟨X,1,eA⟩ v1).setCell ⟨X,2,eA⟩ v2).setCell ⟨X,3,eA⟩ v3):=((((jB.refl (·=X) w).setCell (Ca rfl) 0 _).setCell (Ca rfl) 1 _).setCell (Ca rfl) 2 _).setCell (Ca rfl) 3 _
def aFg{c d:jA}{t:kB}{X b a n:Nat}(h:rB d X #[tA ⟨#[]⟩,dB 0,uA eA 0 0,uA eA 0 0] 105)(f:c.1.size<=X)(l:zB c d)(g:d.ownsRow c.1.size 107 2 (uA (cC b) (0+cB t.M) a) (0+cB t.M) ([]++flatK t.M))(i:b≠X)(j:n=cB t.M):
 aHl c t X ((((d.setCell (iB X 0) (tA t.N)).setCell (iB X 1) (dB t.L)).setCell (iB X 2) (uA (cC b) n a)).setCell (iB X 3) (uA eA 0 0)):=by
 subst j;rw[Ya,Mb]at g;refine⟨b,a,?_,ij.row g (λq k e=>by simp[mA.ownBlock]at k;omega),f,i,YS l f⟩;have:=(((h.set 0 (tA t.N)).set 1 (dB t.L)).set 2 (uA (cC b) (cB t.M) a)).set 3 (uA eA 0 0);simpa using this
def aMi(W:jA):(W.alloc (aB #[] 107)).drew.ownsRow W.1.size 107 2 (uA (cC W.1.size) 0 0) 0 []:=(jA.ownsRow_made W #[] 0 (Ia _) (by simp[maxLen]) (by simp)).drew
def aMj(W:jA)(o:Obj):((W.alloc (aB #[] 107)).alloc o).drew.ownsRow W.1.size 107 2 (uA (cC W.1.size) 0 0) 0 []:=((jA.ownsRow_made W #[] 0 (Ia _) (by simp[maxLen]) (by simp)).alloc o).drew
def aMk(W:jA)(o:Obj):((W.alloc o).alloc (aB #[] 107)).drew.ownsRow W.1.size 107 2 (uA (cC (W.1.size+1)) 0 0) 0 []:=by
 have:=(jA.ownsRow_made (e:=107) (size:=2) (base:=W.1.size) (W.alloc o) #[] 0 (by simp) (by simp[maxLen]) (by simp)).drew;simpa using this
def JV(t:kB)(F O:nC)(Q V:Nat)(r u:Int)(w:jA)(p1:jC w F t.M)(p2:jC w O t.Z)(hl1:cB t.M<=2000000)(hl2:cB t.Z<=2000000)(hn0:0<=r)(hn1:r<=2000000000000)(hx:∀i(h:i<cB t.Z),0<=t.Z[i].n/\t.Z[i].n<=2000000000000):
 Calls prog 124 #[.agg #[tA t.N,qA sA t.L,uA F (cB t.M) Q,uA O (cB t.Z) V],qA sA r,qA sA u] w λe E=>VT w t.N (aF u r t) e E:=by
 have P1:=gB p1;have P2:=gB p2;have HX0:=gB hx;clear p1 p2 hx;go_enter func124,ntmps124;have B1:fB (zB w ((w.alloc (aB #[tA t.N,qA sA t.L,uA F (cB t.M) Q,uA O (cB t.Z) V] 105)).alloc (aB #[tA ⟨#[]⟩,qA sA 0,uA eA 0 0,uA eA 0 0] 105))):=xB aC aC;have T1:fB (rB ((w.alloc (aB #[tA t.N,qA sA t.L,uA F (cB t.M) Q,uA O (cB t.Z) V] 105)).alloc (aB #[tA ⟨#[]⟩,qA sA 0,uA eA 0 0,uA eA 0 0] 105)) w.1.size #[tA t.N,qA sA t.L,uA F (cB t.M) Q,uA O (cB t.Z) V] 105):=(rB.new _ _ _).alloc _;have R1:fB _:=gB (by have:=rB.new (w.alloc (aB #[tA t.N,qA sA t.L,uA F (cB t.M) Q,uA O (cB t.Z) V] 105)) #[tA ⟨#[]⟩,qA sA 0,uA eA 0 0,uA eA 0 0] 105;simpa using this);go_upto_region 1 with fail;generalize (w.alloc (aB #[tA t.N,qA sA t.L,uA F (cB t.M) Q,uA O (cB t.Z) V] 105)).alloc (aB #[tA ⟨#[]⟩,qA sA 0,uA eA 0 0,uA eA 0 0] 105)=y at *;have HFL:fB (cB (flatK t.M)=cB t.M*2):=dM _;have D:fB (∀W,zB y W->gS W F (cB t.M) (flatK t.M)):=λW hW=>by
  rcases P1.o.z (xB B1.o hW) with h0|⟨b,o,rfl,L,h⟩;exact Ca (by rw[h0];rfl);exact La ⟨_,rfl,qN h⟩
 have M:fB (∀E,zB y E->gD E w.1.size 0 (tA t.N)/\gD E w.1.size 1 (qA sA t.L)/\gD E w.1.size 2 (uA F (cB t.M) Q)):=λE h=>by
  have q:=T1.o.z h;exact⟨q.cell 0,q.cell 1,q.cell 2⟩
 obtain⟨x0,x1,x2⟩:=M.o y jD;have hw1:=eB R1.o;go_cut [7] (λp wx=>∃X,p=.pointer (fA ⟨X,0,eA⟩)/\aHl y t X wx)
 case first=>
  go_region_held3 (λE=>E.cell? ⟨w.1.size,0,eA⟩=fA (tA t.N)/\E.cell? ⟨w.1.size,1,eA⟩=fA (qA sA t.L)/\E.cell? ⟨w.1.size,2,eA⟩=fA (uA F (cB t.M) Q))
   (first|go_keep|exact M.o _ Y|exact M.o _ (YS Y (Ia _))|exact M.o _ (YS Y (Gf _))|exact M.o _ (IT y _)|exact M.o _ (IU y _ _))
   (first
    |(refine eS (by rfl) _ _ (by rfl) underlying102 cV rfl (by omega) (by omega) (B:=y.1.size) (by rfl) (by first|exact aMi y|exact aMj y _|exact aMk y _) (flatK t.M) (by rfl) HFL.o (by first|exact D.o _ (IT y _)|exact D.o _ (IU y _ _)) (lP _) (by omega) (by first|exact(IT y _).size|exact(IU y _ _).size) ?_;intro g5 cap5 Z z hB5 hk5 hat5;have Y:zB y Z:=(by first|exact(IT y _).trans hB5|exact(IU y _ _).trans hB5);have c5:=M.o _ Y
      try (first
       |(have x:fB (rB Z (y.1.size+1) #[tA ⟨#[]⟩,qA sA 0,uA eA 0 0,uA eA 0 0] 105):=(hk5 (y.1.size+1) (by show _<(jA.alloc _ _).1.size;simp) (by omega)).trans (aFv y _ _))
       |(have x:fB (rB Z y.1.size #[tA ⟨#[]⟩,qA sA 0,uA eA 0 0,uA eA 0 0] 105):=(hk5 y.1.size (by show _<(jA.alloc _ _).1.size;simp;omega) (by omega)).trans (aFu y _ _)))
      try (have s0:=x.o.cell 0;have s1:=x.o.cell 1;have s2:=x.o.cell 2;have s3:=x.o.cell 3;have d:=x.o.free 0;have f:=x.o.free 1;have j:=x.o.free 2;have l:=x.o.free 3)))
  all_goals(go_wp2_with fail;go_meet)
  .rw[Ya,Mb]at z;exact⟨_,rfl,g5,cap5,rB.new _ _ _,lC z aC,Y.size,(by have:=(z.lt g5 rfl).2;omega),xB Y aC⟩
  all_goals
   have e:∀o o':Obj,((y.alloc o).alloc o').drew.1.size=y.1.size+1+1:=λo o'=>by show(jA.alloc _ _).1.size=_;simp
   rw[e]at hat5;exact⟨_,rfl,aFg x.o (by omega) Y z (by omega) rfl⟩
 obtain⟨X,rfl,J,I,hX,hO,hXw,hgX,K⟩:=hcut;rename jA=>G;have HXB:=gB hX;have HO1:=gB hO;have B2:fB _:=K;have y3:gD G w.1.size 3 (uA O (cB t.Z) V):=(T1.o.z K).cell 3;have hX2:=eB hX;have HR2:fB (rB G (w.1.size+1) #[tA ⟨#[]⟩,qA sA 0,uA eA 0 0,uA eA 0 0] 105):=R1.o.z K;have HG1:fB (∀q,(mA.slice (fA ⟨J,0,eA⟩) (cB t.M) I).ownBlock=fA q->q<G.1.size/\q≠X):=λq R=>⟨(hO.lt q R).2,by simp[mA.ownBlock]at R;omega⟩
 clear hX hO K M D HFL x0 x1 x2 P1;go_wp2;clear y3;go_loopw [9,22] (λ_ i wr=>∃(k:Nat)(v:mA),k<=cB t.Z/\i=qA sA k/\fB (rB wr X #[tA t.N,qA sA t.L,uA (fA ⟨J,0,eA⟩) (cB t.M) I,v] 105)/\fB (wr.ownsRow G.1.size 109 2 v (cB ((t.Z.take k).filter λp=>decide (r-p.n<u))) (flatK ((t.Z.take k).filter λp=>decide (r-p.n<u))))/\fB (jB (·=X) G wr)) (λ_ i _=>cB t.Z-(intOf i).toNat)
 case atStart=>exact⟨0,uA eA 0 0,Oa _,rfl,HXB.o,jA.ownsRow_nil _ _ _ _,jB.refl _ _⟩
 case round=>
  obtain⟨k,v,hk,rfl,T,C,A⟩:=hrel;have hs2:=A.o.size;have HBW:fB _:=(xB B1.o B2.o).trans (A.o.below (by omega) λi hi e=>by omega);by_cases L:k<cB t.Z
  .obtain ⟨pb,po,rfl,hpl,z0,z1⟩:=(P2.o.z HBW.o).at L;have HYS:fB ((t.Z.take (k+1)).filter (λp=>decide (r-p.n<u))=(t.Z.take k).filter (λp=>decide (r-p.n<u))++if decide (r-t.Z[k].n<u)=true then [t.Z[k]] else []):=uy _ _ _ L;have hyl:cB ((t.Z.take k).filter λp=>decide (r-p.n<u))<=2000000:=by
    have:=aFf (λp=>decide (r-p.n<u)) t.Z k;omega
   obtain⟨hb0,hb1⟩:=HX0.o k L;generalize (t.Z.take k).filter (λp=>decide (r-p.n<u))=ys at *;generalize t.Z[k]=P at *;have hwrp:IntKind.i64.wrap (r-P.n)=r-P.n:=by
    simp only[IntKind.wrap,IntKind.bits,IntKind.signed];simp;omega
   by_cases hc:r-P.n<u
   .have HY:fB ((t.Z.take (k+1)).filter (λp=>decide (r-p.n<u))=ys++[P]):=by show _=_;rw[HYS.o,Ma (by simpa using hc)]
    go_upto_region 6 with fail;have U:fB (zB wr (wr.alloc (aB #[tA P.s,qA sA P.n] 109))):=aC;have u0:(wr.alloc (aB #[tA P.s,qA sA P.n] 109)).cell? ⟨wr.1.size,0,eA⟩=fA (tA P.s):=(rB.new _ _ _).cell 0;have u1:(wr.alloc (aB #[tA P.s,qA sA P.n] 109)).cell? ⟨wr.1.size,1,eA⟩=fA (qA sA P.n):=(rB.new _ _ _).cell 1;have hs5:wr.1.size<(wr.alloc (aB #[tA P.s,qA sA P.n] 109)).1.size:=by simp
    clear z0 z1;generalize wr.alloc (aB #[tA P.s,qA sA P.n] 109)=Z at *;have x:fB (rB Z X #[tA t.N,qA sA t.L,uA (fA ⟨J,0,eA⟩) (cB t.M) I,v] 105):=T.o.z U.o;have x3:gD Z X 3 v:=x.o.cell 3;have R5:fB (Z.ownsRow G.1.size 109 2 v (cB ys) (flatK ys)):=lC C.o U.o;have T5:=gB (A.o.trans (jB.of U.o));go_wp2_with(at_builtin;refine gI rfl _ _ rfl underlying103 vY rfl (by omega) (by omega) rfl R5.o rfl rfl (cs:=#[tA P.s,qA sA P.n]) rfl (by simp[mA.oneCell']) (by omega) (by omega) ?_;intro gg cap6 w6 O6 T6 A6;have BX6:=gB (T6.o.blk x.o (λe=>by have:=e.1;omega));have s6:=BX6.o.cell 3;have m:=BX6.o.free 3);obtain⟨h1,h3,h4⟩:=oR x.o T6.o O6.o hX2 3;refine⟨⟨k+1,uA (fA ⟨gg,0,eA⟩) (cB ys+1) cap6,by omega,by go_num,gB (by simpa using h1),?_,T5.o.trans (h4.mono λi _ e=>e.imp_right And.left)⟩,by simp[intOf];omega⟩;rw[HY.o,nW,Kb];exact h3
   have HY:fB ((t.Z.take (k+1)).filter (λp=>decide (r-p.n<u))=ys):=by show _=_;rw[HYS.o,Ja (by simpa using hc),Cd]
   have x:fB (rB (wr.alloc (aB #[tA P.s,qA sA P.n] 109)) X #[tA t.N,qA sA t.L,uA (fA ⟨J,0,eA⟩) (cB t.M) I,v] 105):=T.o.alloc _;have R5:fB ((wr.alloc (aB #[tA P.s,qA sA P.n] 109)).ownsRow G.1.size 109 2 v (cB ys) (flatK ys)):=lC C.o aC;have T5:fB (jB (·=X) G (wr.alloc (aB #[tA P.s,qA sA P.n] 109))):=A.o.trans (jB.of aC);go_wp2;refine⟨⟨k+1,v,by omega,by go_num,x.o,?_,T5.o⟩,by simp[intOf];omega⟩;rw[HY.o];exact R5
  .have ek:t.Z.take k=t.Z:=Ra (by omega);rw[ek]at C;have H:fB (wr.ownsRow G.1.size 109 2 v (cB (aF u r t).Z) (flatK (aF u r t).Z)):=C.o;obtain⟨sa,sc,hv⟩:∃a c,v=.slice a (cB (aF u r t).Z) c:=by
    obtain⟨e1,e2⟩|⟨g,cap,_,e1,_⟩:=H.o.2;exact ⟨eA,0,by rw[e1,e2]⟩;exact ⟨_,_,e1⟩
   rw[hv]at T H;clear C hv ek;generalize hKS:(aF u r t).Z=KS at *;have N:fB (rB wr (w.1.size+1) #[tA ⟨#[]⟩,qA sA 0,uA eA 0 0,uA eA 0 0] 105):=A.o.blk HR2.o (by omega);have a0:gD wr X 0 (tA t.N):=T.o.cell 0;have a1':gD wr X 1 (qA sA t.L):=T.o.cell 1;have a2':gD wr X 2 (uA (fA ⟨J,0,eA⟩) (cB t.M) I):=T.o.cell 2;have a3:gD wr X 3 (uA sa (cB KS) sc):=T.o.cell 3;have b0:gD wr (w.1.size+1) 0 (tA ⟨#[]⟩):=N.o.cell 0;have b1:gD wr (w.1.size+1) 1 (qA sA 0):=N.o.cell 1;have b2:gD wr (w.1.size+1) 2 (uA eA 0 0):=N.o.cell 2;have b3:gD wr (w.1.size+1) 3 (uA eA 0 0):=N.o.cell 3;have e0:=N.o.free 0;have e1:=N.o.free 1;have e2:=N.o.free 2;have e3:=N.o.free 3;have HOM:fB (wr.ownsRow y.1.size 107 2 (uA (fA ⟨J,0,eA⟩) (cB t.M) I) (cB t.M) (flatK t.M)):=A.o.row HO1.o (λq R e=>(HG1.o q R).2 e);go_wp2;refine bodyPost_ret (v:=.agg #[tA t.N,qA sA t.L,uA (fA ⟨J,0,eA⟩) (cB t.M) I,uA sa (cB KS) sc]) (by simp[results,results124,go_sem,b0,b1,b2,b3]) rfl ⟨G.1.size,fA ⟨J,0,eA⟩,I,sa,sc,by rw[hKS];rfl,by omega,?_,λg o e=>(HG1.o g (by cases e;rfl)).1,?_,?_,?_⟩
   .exact (rD (ij.row HOM.o (λq R e=>by have:=(HOM.o.lt q R).1;omega))).mono (by omega)
   .rw[hKS];exact ij.row H.o (λq R e=>by have:=(H.o.lt q R).1;omega)
   .have:=(ij (w:=wr) (X:=w.1.size+1) (v0:=tA t.N) (v1:=qA sA t.L) (v2:=uA (fA ⟨J,0,eA⟩) (cB t.M) I) (v3:=uA sa (cB KS) sc)).size;omega
   exact ((jB.of (S:=λi=>w.1.size<=i) HBW.o).trans' (ij.mono λi _ e=>by omega)).below (Ia _) λi hi h=>by omega
def lw(t:kB)(c d:nC)(l m:Nat)(a b:Int)(w:jA)(p:jC w c t.M)(q:jC w d t.Z)(f:cB t.M<=2000000)(g:cB t.Z<=2000000)(j:0<=a)(k:a<=2000000000000)(o:∀i(h:i<cB t.Z),0<=t.Z[i].n/\t.Z[i].n<=2000000000000):
 Calls prog 124 #[.agg #[tA t.N,dB t.L,uA c (cB t.M) l,uA d (cB t.Z) m],dB a,dB b] w λe r=>GF w t.N (aF b a t) e r:=
 (JV t c d l m a b w p q f g j k o).mono λ_ _ h=>h.tel
