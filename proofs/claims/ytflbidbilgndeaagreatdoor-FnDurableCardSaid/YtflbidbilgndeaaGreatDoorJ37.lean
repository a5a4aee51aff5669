import Derived.Test.YtflbidbilgndeaaGreatDoorJ15
set_option maxRecDepth 100000
set_option maxHeartbeats 8000000
set_option linter.defProp false
open Option renaming none->aA,some->bA
open List renaming length->yA
namespace Go.Proofs.YtflbidbilgndeaaGreatDoor
open Go renaming World->eA,Value->iA
open Value renaming string->oA,slice->pA,int->lA
open Obj renaming cells->vA
open IntKind renaming i64->mA
open Go.RowKit Tryz
def aAt(p:kB->Bool)(a:List kB)(j:Nat)(h:j<yA a):(a.take (j+1)).filter p=(a.take j).filter p++if p a[j]=true then [a[j]] else []:=by
 rw[Pa h,Vf];congr 1;by_cases e:p a[j]=true
 .rw[Ma e,Wc e];rfl
 rw[Ja e,A0 e];rfl
def aJh(p:kB->Bool)(a:List kB)(j:Nat):yA ((a.take j).filter p)<=yA a:=by grind
def aLo(a:eA)(t:fB)(X:Nat)(c:eA):Prop:=
 ∃b d,nB c X #[oA t.N,zA t.L,pA (yB b) (yA t.M) d,pA aA 0 0] 94/\c.ownsRow a.1.size 96 2 (pA (yB b) (yA t.M) d) (yA t.M) (flatK t.M)/\a.1.size<=X/\b≠X/\uB a c
def aKb(W:eA)(cs a:Array iA){t b:TypeId}:((W.alloc (vA cs t)).alloc (vA a b)).drew.heap[W.1.size+1]?=bA (vA a b (0,0)):=by
 have h:nB ((W.alloc (vA cs t)).alloc (vA a b)) (W.alloc (vA cs t)).1.size a b:=nB.new _ _ _;have e:(W.alloc (vA cs t)).1.size=W.1.size+1:=by simp
 rw[e]at h;exact h
def aKa(W:eA)(cs:Array iA){t:TypeId}(o:Obj):((W.alloc (vA cs t)).alloc o).drew.heap[W.1.size]?=bA (vA cs t (0,0)):=((nB.new W cs t).alloc o)
def db{a c:eA}{X:Nat}{d e f g:iA}(h:uB a c)(b:a.1.size<=X):uB a ((((c.setCell (dB X 0) d).setCell (dB X 1) e).setCell (dB X 2) f).setCell (dB X 3) g):=(((h.setCell b _).setCell b _).setCell b _).setCell b _
def nr{w:eA}{X:Nat}{v0 v1 v2 v3:iA}:eB (·=X) w ((((w.setCell ⟨X,0,aA⟩ v0).setCell ⟨X,1,aA⟩ v1).setCell ⟨X,2,aA⟩ v2).setCell ⟨X,3,aA⟩ v3):=((((eB.refl (·=X) w).setCell (Ca rfl) 0 _).setCell (Ca rfl) 1 _).setCell (Ca rfl) 2 _).setCell (Ca rfl) 3 _
def aJi{c d:eA}{t:fB}{X b a n:Nat}(h:nB d X #[oA ⟨#[]⟩,zA 0,pA aA 0 0,pA aA 0 0] 94)(f:c.1.size<=X)(l:uB c d)(g:d.ownsRow c.1.size 96 2 (pA (yB b) (0+yA t.M) a) (0+yA t.M) ([]++flatK t.M))(i:b≠X)(j:n=yA t.M):
 aLo c t X ((((d.setCell (dB X 0) (oA t.N)).setCell (dB X 1) (zA t.L)).setCell (dB X 2) (pA (yB b) n a)).setCell (dB X 3) (pA aA 0 0)):=by
 subst j;rw[Ya,Mb]at g;refine⟨b,a,?_,nr.row g (λq k e=>by simp[iA.ownBlock]at k;omega),f,i,db l f⟩;have:=(((h.set 0 (oA t.N)).set 1 (zA t.L)).set 2 (pA (yB b) (yA t.M) a)).set 3 (pA aA 0 0);simpa using this
def aQk(W:eA):(W.alloc (vA #[] 96)).drew.ownsRow W.1.size 96 2 (pA (yB W.1.size) 0 0) 0 []:=(eA.ownsRow_made W #[] 0 (Ia _) (by simp[maxLen]) (by simp)).drew
def aQl(W:eA)(o:Obj):((W.alloc (vA #[] 96)).alloc o).drew.ownsRow W.1.size 96 2 (pA (yB W.1.size) 0 0) 0 []:=((eA.ownsRow_made W #[] 0 (Ia _) (by simp[maxLen]) (by simp)).alloc o).drew
def aQm(W:eA)(o:Obj):((W.alloc o).alloc (vA #[] 96)).drew.ownsRow W.1.size 96 2 (pA (yB (W.1.size+1)) 0 0) 0 []:=by
 have:=(eA.ownsRow_made (e:=96) (size:=2) (base:=W.1.size) (W.alloc o) #[] 0 (by simp) (by simp[maxLen]) (by simp)).drew;simpa using this
def LY(t:fB)(F O:mC)(Q V:Nat)(r u:Int)(w:eA)(p1:jC w F t.M)(p2:jC w O t.Z)(hl1:yA t.M<=2000000)(hl2:yA t.Z<=2000000)(hn0:0<=r)(hn1:r<=2000000000000)(hx:∀i(h:i<yA t.Z),0<=t.Z[i].n/\t.Z[i].n<=2000000000000):
 Calls prog 118 #[.agg #[oA t.N,lA mA t.L,pA F (yA t.M) Q,pA O (yA t.Z) V],lA mA r,lA mA u] w λe E=>ZD w t.N (xE u r t) e E:=by
 have P1:=bB p1;have P2:=bB p2;have HX0:=bB hx;clear p1 p2 hx;go_enter func118,ntmps118;have B1:cB (uB w ((w.alloc (vA #[oA t.N,lA mA t.L,pA F (yA t.M) Q,pA O (yA t.Z) V] 94)).alloc (vA #[oA ⟨#[]⟩,lA mA 0,pA aA 0 0,pA aA 0 0] 94))):=vB zB zB;have T1:cB (nB ((w.alloc (vA #[oA t.N,lA mA t.L,pA F (yA t.M) Q,pA O (yA t.Z) V] 94)).alloc (vA #[oA ⟨#[]⟩,lA mA 0,pA aA 0 0,pA aA 0 0] 94)) w.1.size #[oA t.N,lA mA t.L,pA F (yA t.M) Q,pA O (yA t.Z) V] 94):=(nB.new _ _ _).alloc _;have R1:cB _:=bB (by have:=nB.new (w.alloc (vA #[oA t.N,lA mA t.L,pA F (yA t.M) Q,pA O (yA t.Z) V] 94)) #[oA ⟨#[]⟩,lA mA 0,pA aA 0 0,pA aA 0 0] 94;simpa using this);go_upto_region 1 with fail;generalize (w.alloc (vA #[oA t.N,lA mA t.L,pA F (yA t.M) Q,pA O (yA t.Z) V] 94)).alloc (vA #[oA ⟨#[]⟩,lA mA 0,pA aA 0 0,pA aA 0 0] 94)=y at *;have HFL:cB (yA (flatK t.M)=yA t.M*2):=tM _;have D:cB (∀W,uB y W->eT W F (yA t.M) (flatK t.M)):=λW hW=>by
  rcases P1.o.z (vB B1.o hW) with h0|⟨b,o,rfl,L,h⟩;exact Ca (by rw[h0];rfl);exact La ⟨_,rfl,fO h⟩
 have M:cB (∀E,uB y E->tC E w.1.size 0 (oA t.N)/\tC E w.1.size 1 (lA mA t.L)/\tC E w.1.size 2 (pA F (yA t.M) Q)):=λE h=>by
  have q:=T1.o.z h;exact⟨q.cell 0,q.cell 1,q.cell 2⟩
 obtain⟨x0,x1,x2⟩:=M.o y iD;have hw1:=aB R1.o;go_cut [7] (λp wx=>∃X,p=.pointer (bA ⟨X,0,aA⟩)/\aLo y t X wx)
 case first=>
  go_region_held3 (λE=>E.cell? ⟨w.1.size,0,aA⟩=bA (oA t.N)/\E.cell? ⟨w.1.size,1,aA⟩=bA (lA mA t.L)/\E.cell? ⟨w.1.size,2,aA⟩=bA (pA F (yA t.M) Q))
   (first|go_keep|exact M.o _ Y|exact M.o _ (db Y (Ia _))|exact M.o _ (db Y (Gf _))|exact M.o _ (KU y _)|exact M.o _ (KV y _ _))
   (first
    |(refine bT (by rfl) _ _ (by rfl) underlying91 mR rfl (by omega) (by omega) (B:=y.1.size) (by rfl) (by first|exact aQk y|exact aQl y _|exact aQm y _) (flatK t.M) (by rfl) HFL.o (by first|exact D.o _ (KU y _)|exact D.o _ (KV y _ _)) (cQ _) (by omega) (by first|exact(KU y _).size|exact(KV y _ _).size) ?_;intro g5 cap5 Z z hB5 hk5 hat5;have Y:uB y Z:=(by first|exact(KU y _).trans hB5|exact(KV y _ _).trans hB5);have c5:=M.o _ Y
      try (first
       |(have x:cB (nB Z (y.1.size+1) #[oA ⟨#[]⟩,lA mA 0,pA aA 0 0,pA aA 0 0] 94):=(hk5 (y.1.size+1) (by show _<(eA.alloc _ _).1.size;simp) (by omega)).trans (aKb y _ _))
       |(have x:cB (nB Z y.1.size #[oA ⟨#[]⟩,lA mA 0,pA aA 0 0,pA aA 0 0] 94):=(hk5 y.1.size (by show _<(eA.alloc _ _).1.size;simp;omega) (by omega)).trans (aKa y _ _)))
      try (have s0:=x.o.cell 0;have s1:=x.o.cell 1;have s2:=x.o.cell 2;have s3:=x.o.cell 3;have d:=x.o.free 0;have f:=x.o.free 1;have j:=x.o.free 2;have l:=x.o.free 3)))
  all_goals(go_wp2_with fail;go_meet)
  .rw[Ya,Mb]at z;exact⟨_,rfl,g5,cap5,nB.new _ _ _,hC z zB,Y.size,(by have:=(z.lt g5 rfl).2;omega),vB Y zB⟩
  all_goals
   have e:∀o o':Obj,((y.alloc o).alloc o').drew.1.size=y.1.size+1+1:=λo o'=>by show(eA.alloc _ _).1.size=_;simp
   rw[e]at hat5;exact⟨_,rfl,aJi x.o (by omega) Y z (by omega) rfl⟩
 obtain⟨X,rfl,J,I,hX,hO,hXw,hgX,K⟩:=hcut;rename eA=>G;have HXB:=bB hX;have HO1:=bB hO;have B2:cB _:=K;have y3:tC G w.1.size 3 (pA O (yA t.Z) V):=(T1.o.z K).cell 3;have hX2:=aB hX;have HR2:cB (nB G (w.1.size+1) #[oA ⟨#[]⟩,lA mA 0,pA aA 0 0,pA aA 0 0] 94):=R1.o.z K;have HG1:cB (∀q,(iA.slice (bA ⟨J,0,aA⟩) (yA t.M) I).ownBlock=bA q->q<G.1.size/\q≠X):=λq R=>⟨(hO.lt q R).2,by simp[iA.ownBlock]at R;omega⟩
 clear hX hO K M D HFL x0 x1 x2 P1;go_wp2;clear y3;go_loopw [9,22] (λ_ i wr=>∃(k:Nat)(v:iA),k<=yA t.Z/\i=lA mA k/\cB (nB wr X #[oA t.N,lA mA t.L,pA (bA ⟨J,0,aA⟩) (yA t.M) I,v] 94)/\cB (wr.ownsRow G.1.size 98 2 v (yA ((t.Z.take k).filter λp=>decide (r-p.n<u))) (flatK ((t.Z.take k).filter λp=>decide (r-p.n<u))))/\cB (eB (·=X) G wr)) (λ_ i _=>yA t.Z-(intOf i).toNat)
 case atStart=>exact⟨0,pA aA 0 0,Oa _,rfl,HXB.o,eA.ownsRow_nil _ _ _ _,eB.refl _ _⟩
 case round=>
  obtain⟨k,v,hk,rfl,T,C,A⟩:=hrel;have hs2:=A.o.size;have HBW:cB _:=(vB B1.o B2.o).trans (A.o.below (by omega) λi hi e=>by omega);by_cases L:k<yA t.Z
  .obtain ⟨pb,po,rfl,hpl,z0,z1⟩:=(P2.o.z HBW.o).at L;have HYS:cB ((t.Z.take (k+1)).filter (λp=>decide (r-p.n<u))=(t.Z.take k).filter (λp=>decide (r-p.n<u))++if decide (r-t.Z[k].n<u)=true then [t.Z[k]] else []):=aAt _ _ _ L;have hyl:yA ((t.Z.take k).filter λp=>decide (r-p.n<u))<=2000000:=by
    have:=aJh (λp=>decide (r-p.n<u)) t.Z k;omega
   obtain⟨hb0,hb1⟩:=HX0.o k L;generalize (t.Z.take k).filter (λp=>decide (r-p.n<u))=ys at *;generalize t.Z[k]=P at *;have hwrp:IntKind.i64.wrap (r-P.n)=r-P.n:=by
    simp only[IntKind.wrap,IntKind.bits,IntKind.signed];simp;omega
   by_cases hc:r-P.n<u
   .have HY:cB ((t.Z.take (k+1)).filter (λp=>decide (r-p.n<u))=ys++[P]):=by show _=_;rw[HYS.o,Ma (by simpa using hc)]
    go_upto_region 6 with fail;have U:cB (uB wr (wr.alloc (vA #[oA P.s,lA mA P.n] 98))):=zB;have u0:(wr.alloc (vA #[oA P.s,lA mA P.n] 98)).cell? ⟨wr.1.size,0,aA⟩=bA (oA P.s):=(nB.new _ _ _).cell 0;have u1:(wr.alloc (vA #[oA P.s,lA mA P.n] 98)).cell? ⟨wr.1.size,1,aA⟩=bA (lA mA P.n):=(nB.new _ _ _).cell 1;have hs5:wr.1.size<(wr.alloc (vA #[oA P.s,lA mA P.n] 98)).1.size:=by simp
    clear z0 z1;generalize wr.alloc (vA #[oA P.s,lA mA P.n] 98)=Z at *;have x:cB (nB Z X #[oA t.N,lA mA t.L,pA (bA ⟨J,0,aA⟩) (yA t.M) I,v] 94):=T.o.z U.o;have x3:tC Z X 3 v:=x.o.cell 3;have R5:cB (Z.ownsRow G.1.size 98 2 v (yA ys) (flatK ys)):=hC C.o U.o;have T5:=bB (A.o.trans (eB.of U.o));go_wp2_with(at_builtin;refine kI rfl _ _ rfl underlying92 uT rfl (by omega) (by omega) rfl R5.o rfl rfl (cs:=#[oA P.s,lA mA P.n]) rfl (by simp[iA.oneCell']) (by omega) (by omega) ?_;intro gg cap6 w6 O6 T6 A6;have BX6:=bB (T6.o.blk x.o (λe=>by have:=e.1;omega));have s6:=BX6.o.cell 3;have m:=BX6.o.free 3);obtain⟨h1,h3,h4⟩:=vQ x.o T6.o O6.o hX2 3;refine⟨⟨k+1,pA (bA ⟨gg,0,aA⟩) (yA ys+1) cap6,by omega,by go_num,bB (by simpa using h1),?_,T5.o.trans (h4.mono λi _ e=>e.imp_right And.left)⟩,by simp[intOf];omega⟩;rw[HY.o,sX,Kb];exact h3
   have HY:cB ((t.Z.take (k+1)).filter (λp=>decide (r-p.n<u))=ys):=by show _=_;rw[HYS.o,Ja (by simpa using hc),Cd]
   have x:cB (nB (wr.alloc (vA #[oA P.s,lA mA P.n] 98)) X #[oA t.N,lA mA t.L,pA (bA ⟨J,0,aA⟩) (yA t.M) I,v] 94):=T.o.alloc _;have R5:cB ((wr.alloc (vA #[oA P.s,lA mA P.n] 98)).ownsRow G.1.size 98 2 v (yA ys) (flatK ys)):=hC C.o zB;have T5:cB (eB (·=X) G (wr.alloc (vA #[oA P.s,lA mA P.n] 98))):=A.o.trans (eB.of zB);go_wp2;refine⟨⟨k+1,v,by omega,by go_num,x.o,?_,T5.o⟩,by simp[intOf];omega⟩;rw[HY.o];exact R5
  .have ek:t.Z.take k=t.Z:=Ra (by omega);rw[ek]at C;have H:cB (wr.ownsRow G.1.size 98 2 v (yA (xE u r t).Z) (flatK (xE u r t).Z)):=C.o;obtain⟨sa,sc,hv⟩:∃a c,v=.slice a (yA (xE u r t).Z) c:=by
    obtain⟨e1,e2⟩|⟨g,cap,_,e1,_⟩:=H.o.2;exact ⟨aA,0,by rw[e1,e2]⟩;exact ⟨_,_,e1⟩
   rw[hv]at T H;clear C hv ek;generalize hKS:(xE u r t).Z=KS at *;have N:cB (nB wr (w.1.size+1) #[oA ⟨#[]⟩,lA mA 0,pA aA 0 0,pA aA 0 0] 94):=A.o.blk HR2.o (by omega);have a0:tC wr X 0 (oA t.N):=T.o.cell 0;have a1':tC wr X 1 (lA mA t.L):=T.o.cell 1;have a2':tC wr X 2 (pA (bA ⟨J,0,aA⟩) (yA t.M) I):=T.o.cell 2;have a3:tC wr X 3 (pA sa (yA KS) sc):=T.o.cell 3;have b0:tC wr (w.1.size+1) 0 (oA ⟨#[]⟩):=N.o.cell 0;have b1:tC wr (w.1.size+1) 1 (lA mA 0):=N.o.cell 1;have b2:tC wr (w.1.size+1) 2 (pA aA 0 0):=N.o.cell 2;have b3:tC wr (w.1.size+1) 3 (pA aA 0 0):=N.o.cell 3;have e0:=N.o.free 0;have e1:=N.o.free 1;have e2:=N.o.free 2;have e3:=N.o.free 3;have HOM:cB (wr.ownsRow y.1.size 96 2 (pA (bA ⟨J,0,aA⟩) (yA t.M) I) (yA t.M) (flatK t.M)):=A.o.row HO1.o (λq R e=>(HG1.o q R).2 e);go_wp2;refine bodyPost_ret (v:=.agg #[oA t.N,lA mA t.L,pA (bA ⟨J,0,aA⟩) (yA t.M) I,pA sa (yA KS) sc]) (by simp[results,results118,go_sem,b0,b1,b2,b3]) rfl ⟨G.1.size,bA ⟨J,0,aA⟩,I,sa,sc,by rw[hKS];rfl,by omega,?_,λg o e=>(HG1.o g (by cases e;rfl)).1,?_,?_,?_⟩
   .exact (oD (nr.row HOM.o (λq R e=>by have:=(HOM.o.lt q R).1;omega))).mono (by omega)
   .rw[hKS];exact nr.row H.o (λq R e=>by have:=(H.o.lt q R).1;omega)
   .have:=(nr (w:=wr) (X:=w.1.size+1) (v0:=oA t.N) (v1:=lA mA t.L) (v2:=pA (bA ⟨J,0,aA⟩) (yA t.M) I) (v3:=pA sa (yA KS) sc)).size;omega
   exact ((eB.of (S:=λi=>w.1.size<=i) HBW.o).trans' (nr.mono λi _ e=>by omega)).below (Ia _) λi hi h=>by omega
def qw(t:fB)(c d:mC)(l m:Nat)(a b:Int)(w:eA)(p:jC w c t.M)(q:jC w d t.Z)(f:yA t.M<=2000000)(g:yA t.Z<=2000000)(j:0<=a)(k:a<=2000000000000)(o:∀i(h:i<yA t.Z),0<=t.Z[i].n/\t.Z[i].n<=2000000000000):
 Calls prog 118 #[.agg #[oA t.N,zA t.L,pA c (yA t.M) l,pA d (yA t.Z) m],zA a,zA b] w λe r=>JM w t.N (xE b a t) e r:=
 (LY t c d l m a b w p q f g j k o).mono λ_ _ h=>h.tel
