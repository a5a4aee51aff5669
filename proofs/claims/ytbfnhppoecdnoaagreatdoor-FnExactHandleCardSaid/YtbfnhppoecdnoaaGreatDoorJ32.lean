import Derived.Test.YtbfnhppoecdnoaaGreatDoorJ15
import Derived.Test.YtbfnhppoecdnoaaGreatDoorJ27
import Derived.Test.YtbfnhppoecdnoaaGreatDoorJ28
set_option maxRecDepth 100000
set_option maxHeartbeats 8000000
set_option linter.defProp false
open Bool renaming true->dA,false->cA
open Option renaming some->bA,none->aA
open ByteArray renaming empty->kA
open List renaming length->vA
namespace Go.Proofs.YtbfnhppoecdnoaaGreatDoor
open Go renaming World->eA,Value->iA
open Value renaming string->nA,int->lA,slice->oA
open IntKind renaming i64->mA
open Obj renaming cells->tA
open Go.RowKit Tryz
def aFk(p:dB->Bool)(a:List dB)(j:Nat)(h:j<vA a):(a.take (j+1)).filter p=(a.take j).filter p++if p a[j]=dA then [a[j]] else []:=by
 rw[Pa h,Vf];congr 1;by_cases e:p a[j]=dA
 .rw[Ma e,Wc e];rfl
 rw[Ja e,A7 e];rfl
def aOh(p:dB->Bool)(a:List dB)(j:Nat):vA ((a.take j).filter p)<=vA a:=by grind
def aQq(a:eA)(t:aB)(X:Nat)(c:eA):Prop:=
 ∃b d,iB c X #[nA t.N,lA mA t.L,oA (bA ⟨b,0,aA⟩) (vA t.M) d,oA aA 0 0] 85/\c.ownsRow a.1.size 111 2 (oA (bA ⟨b,0,aA⟩) (vA t.M) d) (vA t.M) (flatK t.M)/\a.1.size<=X/\b≠X/\kB a c
def aOx(W:eA)(cs a:Array iA){t b:TypeId}:((W.alloc (tA cs t)).alloc (tA a b)).drew.heap[W.1.size+1]?=bA (tA a b (0,0)):=by
 have h:iB ((W.alloc (tA cs t)).alloc (tA a b)) (W.alloc (tA cs t)).1.size a b:=iB.new _ _ _;have e:(W.alloc (tA cs t)).1.size=W.1.size+1:=by simp
 rw[e]at h;exact h
def aOw(W:eA)(cs:Array iA){t:TypeId}(o:Obj):((W.alloc (tA cs t)).alloc o).drew.heap[W.1.size]?=bA (tA cs t (0,0)):=((iB.new W cs t).alloc o)
def gz{a c:eA}{X:Nat}{d e f g:iA}(h:kB a c)(b:a.1.size<=X):kB a ((((c.setCell ⟨X,0,aA⟩ d).setCell ⟨X,1,aA⟩ e).setCell ⟨X,2,aA⟩ f).setCell ⟨X,3,aA⟩ g):=(((h.setCell b _).setCell b _).setCell b _).setCell b _
def um{w:eA}{X:Nat}{v0 v1 v2 v3:iA}:bB (·=X) w ((((w.setCell ⟨X,0,aA⟩ v0).setCell ⟨X,1,aA⟩ v1).setCell ⟨X,2,aA⟩ v2).setCell ⟨X,3,aA⟩ v3):=((((bB.refl (·=X) w).setCell (Ca rfl) 0 _).setCell (Ca rfl) 1 _).setCell (Ca rfl) 2 _).setCell (Ca rfl) 3 _
def aOi{c d:eA}{t:aB}{X b a n:Nat}(h:iB d X #[nA ⟨#[]⟩,lA mA 0,oA aA 0 0,oA aA 0 0] 85)(f:c.1.size<=X)(l:kB c d)(g:d.ownsRow c.1.size 111 2 (oA (bA ⟨b,0,aA⟩) (0+vA t.M) a) (0+vA t.M) ([]++flatK t.M))(i:b≠X)(j:n=vA t.M):
 aQq c t X ((((d.setCell ⟨X,0,aA⟩ (nA t.N)).setCell ⟨X,1,aA⟩ (lA mA t.L)).setCell ⟨X,2,aA⟩ (oA (bA ⟨b,0,aA⟩) n a)).setCell ⟨X,3,aA⟩ (oA aA 0 0)):=by
 subst j;rw[Ya,Mb]at g;refine⟨b,a,?_,um.row g (fun q k e=>by simp[iA.ownBlock]at k;omega),f,i,gz l f⟩;have:=(((h.set 0 (nA t.N)).set 1 (lA mA t.L)).set 2 (oA (bA ⟨b,0,aA⟩) (vA t.M) a)).set 3 (oA aA 0 0);simpa using this
def aVa(W:eA):(W.alloc (tA #[] 111)).drew.ownsRow W.1.size 111 2 (oA (bA ⟨W.1.size,0,aA⟩) 0 0) 0 []:=(eA.ownsRow_made W #[] 0 (Ia _) (by simp[maxLen]) (by simp)).drew
def aVb(W:eA)(o:Obj):((W.alloc (tA #[] 111)).alloc o).drew.ownsRow W.1.size 111 2 (oA (bA ⟨W.1.size,0,aA⟩) 0 0) 0 []:=((eA.ownsRow_made W #[] 0 (Ia _) (by simp[maxLen]) (by simp)).alloc o).drew
def aVc(W:eA)(o:Obj):((W.alloc o).alloc (tA #[] 111)).drew.ownsRow W.1.size 111 2 (oA (bA ⟨W.1.size+1,0,aA⟩) 0 0) 0 []:=by
 have:=(eA.ownsRow_made (e:=111) (size:=2) (base:=W.1.size) (W.alloc o) #[] 0 (by simp) (by simp[maxLen]) (by simp)).drew;simpa using this
theorem NB(t:aB)(F O:Option Addr)(Q V:Nat)(r u:Int)(w:World)(p1:yB w F t.M)(p2:yB w O t.Z)(hl1:t.M.length<=2000000)(hl2:t.Z.length<=2000000)(hn0:0<=r)(hn1:r<=2000000000000)(hx:∀i(h:i<t.Z.length),0<=t.Z[i].n/\t.Z[i].n<=2000000000000):
 Calls prog 65 #[.agg #[.string t.N,.int .i64 t.L,.slice F t.M.length Q,.slice O t.Z.length V],.int .i64 r,.int .i64 u] w fun e E=>bo w t.N (bF u r t) e E:=by
 have P1:=yA p1;have P2:=yA p2;have HX0:=yA hx;clear p1 p2 hx;go_enter func65,ntmps65;have B1:xA (Below w.1.size w ((w.alloc (.cells #[.string t.N,.int .i64 t.L,.slice F t.M.length Q,.slice O t.Z.length V] 85)).alloc (.cells #[.string ⟨#[]⟩,.int .i64 0,.slice none 0 0,.slice none 0 0] 85))):=oB vB vB;have T1:xA (iB ((w.alloc (.cells #[.string t.N,.int .i64 t.L,.slice F t.M.length Q,.slice O t.Z.length V] 85)).alloc (.cells #[.string ⟨#[]⟩,.int .i64 0,.slice none 0 0,.slice none 0 0] 85)) w.1.size #[.string t.N,.int .i64 t.L,.slice F t.M.length Q,.slice O t.Z.length V] 85):=(iB.new _ _ _).alloc _;have R1:xA _:=yA (by have:=iB.new (w.alloc (.cells #[.string t.N,.int .i64 t.L,.slice F t.M.length Q,.slice O t.Z.length V] 85)) #[.string ⟨#[]⟩,.int .i64 0,.slice none 0 0,.slice none 0 0] 85;simpa using this);go_upto_region 1 with fail;generalize (w.alloc (.cells #[.string t.N,.int .i64 t.L,.slice F t.M.length Q,.slice O t.Z.length V] 85)).alloc (.cells #[.string ⟨#[]⟩,.int .i64 0,.slice none 0 0,.slice none 0 0] 85)=y at *;have HFL:xA ((flatK t.M).length=t.M.length*2):=xM _;have D:xA (∀W,Below y.1.size y W->sU W F t.M.length (flatK t.M)):=fun W hW=>by
  rcases P1.o.z (oB B1.o hW) with h0|⟨b,o,rfl,L,h⟩
  .exact Ca (by rw[h0];rfl)
  .exact La ⟨_,rfl,jO h⟩
 have M:xA (∀E,Below y.1.size y E->E.cell? ⟨w.1.size,0,none⟩=some (.string t.N)/\E.cell? ⟨w.1.size,1,none⟩=some (.int .i64 t.L)/\E.cell? ⟨w.1.size,2,none⟩=some (.slice F t.M.length Q)):=fun E h=>by
  have q:=T1.o.z h;exact⟨q.cell 0,q.cell 1,q.cell 2⟩
 obtain⟨x0,x1,x2⟩:=M.o y eD;have hw1:=zA R1.o;go_cut [7] (fun p wx=>∃X,p=.pointer (some ⟨X,0,none⟩)/\aQq y t X wx)
 case first=>
  go_region_held3 (fun E=>E.cell? ⟨w.1.size,0,none⟩=some (.string t.N)/\E.cell? ⟨w.1.size,1,none⟩=some (.int .i64 t.L)/\E.cell? ⟨w.1.size,2,none⟩=some (.slice F t.M.length Q))
   (first|go_keep|exact M.o _ Y|exact M.o _ (gz Y (Ia _))|exact M.o _ (gz Y (Gf _))|exact M.o _ (MC y _)|exact M.o _ (MD y _ _))
   (first
    |(refine dT (by rfl) _ _ (by rfl) underlying82 AJ rfl (by omega) (by omega) (B:=y.1.size) (by rfl) (by first|exact aVa y|exact aVb y _|exact aVc y _) (flatK t.M) (by rfl) HFL.o (by first|exact D.o _ (MC y _)|exact D.o _ (MD y _ _)) (lQ _) (by omega) (by first|exact(MC y _).size|exact(MD y _ _).size) ?_;intro g5 cap5 Z z hB5 hk5 hat5;have Y:Below y.1.size y Z:=(by first|exact(MC y _).trans hB5|exact(MD y _ _).trans hB5);have c5:=M.o _ Y
      try (first
       |(have x:xA (iB Z (y.1.size+1) #[.string ⟨#[]⟩,.int .i64 0,.slice none 0 0,.slice none 0 0] 85):=(hk5 (y.1.size+1) (by show _<(World.alloc _ _).1.size;simp) (by omega)).trans (aOx y _ _))
       |(have x:xA (iB Z y.1.size #[.string ⟨#[]⟩,.int .i64 0,.slice none 0 0,.slice none 0 0] 85):=(hk5 y.1.size (by show _<(World.alloc _ _).1.size;simp;omega) (by omega)).trans (aOw y _ _)))
      try (have s0:=x.o.cell 0;have s1:=x.o.cell 1;have s2:=x.o.cell 2;have s3:=x.o.cell 3;have d:=x.o.free 0;have f:=x.o.free 1;have j:=x.o.free 2;have l:=x.o.free 3)))
  all_goals(go_wp2_with fail;go_meet)
  .rw[Ya,Mb]at z;exact⟨_,rfl,g5,cap5,iB.new _ _ _,jC z vB,Y.size,(by have:=(z.lt g5 rfl).2;omega),oB Y vB⟩
  all_goals
   have e:∀o o':Obj,((y.alloc o).alloc o').drew.1.size=y.1.size+1+1:=fun o o'=>by show(World.alloc _ _).1.size=_;simp
   rw[e]at hat5;exact⟨_,rfl,aOi x.o (by omega) Y z (by omega) rfl⟩
 obtain⟨X,rfl,J,I,hX,hO,hXw,hgX,K⟩:=hcut;rename World=>G;have HXB:=yA hX;have HO1:=yA hO;have B2:xA _:=K;have y3:G.cell? ⟨w.1.size,3,none⟩=some (.slice O t.Z.length V):=(T1.o.z K).cell 3;have hX2:=zA hX;have HR2:xA (iB G (w.1.size+1) #[.string ⟨#[]⟩,.int .i64 0,.slice none 0 0,.slice none 0 0] 85):=R1.o.z K;have HG1:xA (∀q,(Value.slice (some ⟨J,0,none⟩) t.M.length I).ownBlock=some q->q<G.1.size/\q≠X):=fun q R=>⟨(hO.lt q R).2,by simp[Value.ownBlock]at R;omega⟩
 clear hX hO K M D HFL x0 x1 x2 P1;go_wp2;clear y3;go_loopw [9,22] (fun _ i wr=>∃(k:Nat)(v:Value),k<=t.Z.length/\i=.int .i64 k/\xA (iB wr X #[.string t.N,.int .i64 t.L,.slice (some ⟨J,0,none⟩) t.M.length I,v] 85)/\xA (wr.ownsRow G.1.size 88 2 v ((t.Z.take k).filter fun p=>decide (r-p.n<u)).length (flatK ((t.Z.take k).filter fun p=>decide (r-p.n<u))))/\xA (bB (·=X) G wr)) (fun _ i _=>t.Z.length-(intOf i).toNat)
 case atStart=>exact⟨0,.slice none 0 0,Oa _,rfl,HXB.o,World.ownsRow_nil _ _ _ _,bB.refl _ _⟩
 case round=>
  obtain⟨k,v,hk,rfl,T,C,A⟩:=hrel;have hs2:=A.o.size;have HBW:xA _:=(oB B1.o B2.o).trans (A.o.below (by omega) fun i hi e=>by omega);by_cases L:k<t.Z.length
  .obtain ⟨pb,po,rfl,hpl,z0,z1⟩:=(P2.o.z HBW.o).at L;have HYS:xA ((t.Z.take (k+1)).filter (fun p=>decide (r-p.n<u))=(t.Z.take k).filter (fun p=>decide (r-p.n<u))++if decide (r-t.Z[k].n<u)=true then [t.Z[k]] else []):=aFk _ _ _ L;have hyl:((t.Z.take k).filter fun p=>decide (r-p.n<u)).length<=2000000:=by
    have:=aOh (fun p=>decide (r-p.n<u)) t.Z k;omega
   obtain⟨hb0,hb1⟩:=HX0.o k L;generalize (t.Z.take k).filter (fun p=>decide (r-p.n<u))=ys at *;generalize t.Z[k]=P at *;have hwrp:IntKind.i64.wrap (r-P.n)=r-P.n:=by
    simp only[IntKind.wrap,IntKind.bits,IntKind.signed];simp;omega
   by_cases hc:r-P.n<u
   .have HY:xA ((t.Z.take (k+1)).filter (fun p=>decide (r-p.n<u))=ys++[P]):=by show _=_;rw[HYS.o,Ma (by simpa using hc)]
    go_upto_region 6 with fail;have U:xA (Below wr.1.size wr (wr.alloc (.cells #[.string P.s,.int .i64 P.n] 88))):=vB;have u0:(wr.alloc (.cells #[.string P.s,.int .i64 P.n] 88)).cell? ⟨wr.1.size,0,none⟩=some (.string P.s):=(iB.new _ _ _).cell 0;have u1:(wr.alloc (.cells #[.string P.s,.int .i64 P.n] 88)).cell? ⟨wr.1.size,1,none⟩=some (.int .i64 P.n):=(iB.new _ _ _).cell 1;have hs5:wr.1.size<(wr.alloc (.cells #[.string P.s,.int .i64 P.n] 88)).1.size:=by simp
    clear z0 z1;generalize wr.alloc (.cells #[.string P.s,.int .i64 P.n] 88)=Z at *;have x:xA (iB Z X #[.string t.N,.int .i64 t.L,.slice (some ⟨J,0,none⟩) t.M.length I,v] 85):=T.o.z U.o;have x3:Z.cell? ⟨X,3,none⟩=some v:=x.o.cell 3;have R5:xA (Z.ownsRow G.1.size 88 2 v ys.length (flatK ys)):=jC C.o U.o;have T5:=yA (A.o.trans (bB.of U.o));go_wp2_with(at_builtin;refine eO rfl _ _ rfl underlying83 II rfl (by omega) (by omega) rfl R5.o rfl rfl (cs:=#[.string P.s,.int .i64 P.n]) rfl (by simp[Value.oneCell']) (by omega) (by omega) ?_;intro gg cap6 w6 O6 T6 A6;have BX6:=yA (T6.o.blk x.o (fun e=>by have:=e.1;omega));have s6:=BX6.o.cell 3;have m:=BX6.o.free 3);obtain⟨h1,h3,h4⟩:=BO x.o T6.o O6.o hX2 3;refine⟨⟨k+1,.slice (some ⟨gg,0,none⟩) (ys.length+1) cap6,by omega,by go_num,yA (by simpa using h1),?_,T5.o.trans (h4.mono fun i _ e=>e.imp_right And.left)⟩,by simp[intOf];omega⟩;rw[HY.o,xX,Kb];exact h3
   .have HY:xA ((t.Z.take (k+1)).filter (fun p=>decide (r-p.n<u))=ys):=by show _=_;rw[HYS.o,Ja (by simpa using hc),Cd]
    have x:xA (iB (wr.alloc (.cells #[.string P.s,.int .i64 P.n] 88)) X #[.string t.N,.int .i64 t.L,.slice (some ⟨J,0,none⟩) t.M.length I,v] 85):=T.o.alloc _;have R5:xA ((wr.alloc (.cells #[.string P.s,.int .i64 P.n] 88)).ownsRow G.1.size 88 2 v ys.length (flatK ys)):=jC C.o vB;have T5:xA (bB (·=X) G (wr.alloc (.cells #[.string P.s,.int .i64 P.n] 88))):=A.o.trans (bB.of vB);go_wp2;refine⟨⟨k+1,v,by omega,by go_num,x.o,?_,T5.o⟩,by simp[intOf];omega⟩;rw[HY.o];exact R5
  .have ek:t.Z.take k=t.Z:=Ra (by omega);rw[ek]at C;have H:xA (wr.ownsRow G.1.size 88 2 v (bF u r t).Z.length (flatK (bF u r t).Z)):=C.o;obtain⟨sa,sc,hv⟩:∃a c,v=.slice a (bF u r t).Z.length c:=by
    rcases H.o.2 with⟨e1,e2⟩|⟨g,cap,_,e1,_⟩
    .exact ⟨none,0,by rw[e1,e2]⟩
    .exact ⟨_,_,e1⟩
   rw[hv]at T H;clear C hv ek;generalize hKS:(bF u r t).Z=KS at *;have N:xA (iB wr (w.1.size+1) #[.string ⟨#[]⟩,.int .i64 0,.slice none 0 0,.slice none 0 0] 85):=A.o.blk HR2.o (by omega);have a0:wr.cell? ⟨X,0,none⟩=some (.string t.N):=T.o.cell 0;have a1':wr.cell? ⟨X,1,none⟩=some (.int .i64 t.L):=T.o.cell 1;have a2':wr.cell? ⟨X,2,none⟩=some (.slice (some ⟨J,0,none⟩) t.M.length I):=T.o.cell 2;have a3:wr.cell? ⟨X,3,none⟩=some (.slice sa KS.length sc):=T.o.cell 3;have b0:wr.cell? ⟨w.1.size+1,0,none⟩=some (.string ⟨#[]⟩):=N.o.cell 0;have b1:wr.cell? ⟨w.1.size+1,1,none⟩=some (.int .i64 0):=N.o.cell 1;have b2:wr.cell? ⟨w.1.size+1,2,none⟩=some (.slice none 0 0):=N.o.cell 2;have b3:wr.cell? ⟨w.1.size+1,3,none⟩=some (.slice none 0 0):=N.o.cell 3;have e0:=N.o.free 0;have e1:=N.o.free 1;have e2:=N.o.free 2;have e3:=N.o.free 3;have HOM:xA (wr.ownsRow y.1.size 111 2 (.slice (some ⟨J,0,none⟩) t.M.length I) t.M.length (flatK t.M)):=A.o.row HO1.o (fun q R e=>(HG1.o q R).2 e);go_wp2;refine bodyPost_ret (v:=.agg #[.string t.N,.int .i64 t.L,.slice (some ⟨J,0,none⟩) t.M.length I,.slice sa KS.length sc]) (by simp[results,results65,go_sem,b0,b1,b2,b3]) rfl ⟨G.1.size,some ⟨J,0,none⟩,I,sa,sc,by rw[hKS];rfl,by omega,?_,fun g o e=>(HG1.o g (by cases e;rfl)).1,?_,?_,?_⟩
   .exact (zD (um.row HOM.o (fun q R e=>by have:=(HOM.o.lt q R).1;omega))).mono (by omega)
   .rw[hKS];exact um.row H.o (fun q R e=>by have:=(H.o.lt q R).1;omega)
   .have:=(um (w:=wr) (X:=w.1.size+1) (v0:=.string t.N) (v1:=.int .i64 t.L) (v2:=.slice (some ⟨J,0,none⟩) t.M.length I) (v3:=.slice sa KS.length sc)).size;omega
   .exact ((bB.of (S:=fun i=>w.1.size<=i) HBW.o).trans' (um.mono fun i _ e=>by omega)).below (Ia _) fun i hi h=>by omega
def yc(t:aB)(c d:iC)(l m:Nat)(a b:Int)(w:eA)(p:yB w c t.M)(q:yB w d t.Z)(f:vA t.M<=2000000)(g:vA t.Z<=2000000)(j:0<=a)(k:a<=2000000000000)(o:∀i(h:i<vA t.Z),0<=t.Z[i].n/\t.Z[i].n<=2000000000000):
 Calls prog 65 #[.agg #[nA t.N,lA mA t.L,oA c (vA t.M) l,oA d (vA t.Z) m],lA mA a,lA mA b] w fun e r=>KF w t.N (bF b a t) e r:=
 (NB t c d l m a b w p q f g j k o).mono fun _ _ h=>h.tel
def vC.turned{S:Nat->Prop}{w q:eA}{B:Nat}{a:iC}{p:List aB}(h:vC w B a p)(n:bB S w q)(l:∀g,B<=g->g<w.1.size->¬S g):vC q B a p:=by
 rcases h with h|⟨g,o,c,t,T,rfl,k,e,r,h⟩;exact Ca h;have m:=n.block g (zA e) (l g k (zA e));exact La ⟨g,o,c,t,T,rfl,k,m.trans e,r,fun i s=>(h i s).keep (fun j _=>eA.cell?_of_block m) fun f b d _=>⟨n.block f b (l f d b),rfl⟩⟩
theorem QL{f:Nat->Bool}{n:Nat}(h:∀k,k<n->f k=dA):eI f n=dA:=by induction n<;>grind [eI,sL]
theorem UR{l:List dB}(b:wC (·.s) l){k:Nat}(a:k<vA l):mM l k=dA:=by
 cases k with
 |zero=>rfl
 |succ k=>
  rw[bU (by omega) a];have:=Qe.1 b k (k+1) (by omega) a (by omega);simpa using this
theorem zo{l:List aB}(b:wC (·.N) l){k:Nat}(a:k<vA l):qO l k=dA:=by
 cases k with
 |zero=>rfl
 |succ k=>
  rw[rW (by omega) a];have:=Qe.1 b k (k+1) (by omega) a (by omega);simpa using this
def qf{a:List dB}(b:wC (·.s) a)(h:∀m∈a,yE m.s=dA/\wB m.n 0 1000000=dA):jM a=dA:=by grind [wC,yE,wB,jM,QL,AP,UR]
def rt{b a:Int}{c:List dB}(d:wC (·.s) c)(h:∀x∈c,pK x.s=dA/\wB x.n 0 a=dA/\a-x.n<b):fL b a c=dA:=by grind [wC,pK,wB,fL,QL,tW,UR]
theorem VM{b a:Int}{c:List aB}(d:wC (·.N) c)(h:∀t∈c,yP b a t=dA):mN b a c=dA:=by grind [wC,yP,mN,QL,zW,zo]
def yW{c:lC}{a:Int}{b:List aB}(d:pH c=dA)(e:wB a 0 1000000000000=dA)(f:vA b<=10000)(g:mN c.w a b=dA):kC c a b=dA:=by
 unfold kC;rw[d,e,g,Ac f];rfl
def fw{a:List dB}(h:jM a=dA):(∀m∈a,yE m.s=dA/\wB m.n 0 1000000=dA)/\wC (·.s) a:=by
 refine⟨fun m c=>?_,?_⟩;obtain ⟨i,b,rfl⟩:=Ib c;have:=yO h b;rw[AP b]at this;simp only[Sa]at this;exact⟨this.1.2,this.2⟩;have:=LB (n:=vA a) h (Ia _);rwa [Rb]at this
def UX{b a:Int}{c:List dB}(h:fL b a c=dA):(∀x∈c,pK x.s=dA/\wB x.n 0 a=dA/\a-x.n<b)/\wC (·.s) c:=by
 refine⟨fun x e=>?_,?_⟩;obtain ⟨i,d,rfl⟩:=Ib e;have:=yO h d;rw[tW d]at this;simp only[Sa,Ab]at this;exact⟨this.1.1.2,this.1.2,this.2⟩;have:=LP (n:=vA c) h (Ia _);rwa [Rb]at this
def uc{b a:Int}{t:aB}(h:yP b a t=dA):tC t.N=dA/\wB t.L (-1) 1000000=dA/\jM t.M=dA/\fL b a t.Z=dA/\aF t=cA:=by grind [yP,tC,wB,jM,fL,aF]
def jf{b a:Int}{t:aB}(c:tC t.N=dA)(d:wB t.L (-1) 1000000=dA)(e:jM t.M=dA)(f:fL b a t.Z=dA)(g:aF t=cA):yP b a t=dA:=by
 unfold yP;rw[c,d,e,f,g];rfl
def KN{n a b:Int}(c:a<=n)(d:n<=b):wB n a b=dA:=by
 unfold wB;rw[Ac c,Ac d];rfl
def aCp{c:lC}(h:pH c=dA):1<=c.w/\c.w<=1000000000:=by
 simp only[pH,Sa]at h;exact uL h.1.1.1.1.1
def kV{c b:Int}{a:List aB}(h:mN c b a=dA){name:gB}:wB (bC a name).L (-1) 1000000=dA/\jM (bC a name).M=dA/\fL c b (bC a name).Z=dA:=by
 rcases yN (ts:=a) (name:=name) with⟨d,_⟩|⟨d,_⟩;obtain ⟨_,e,f,g,_⟩:=uc (pJ h _ d);exact⟨e,f,g⟩;rw[d];exact⟨rfl,rfl,rfl⟩
def eu{b:List aB}{t:aB}(d:wC (·.N) b)(e:vA b<=10000)(h:((zC (·.N) t.N b).isNone&&decide (10000<=vA b))=cA):vA (gC (·.N) t b)<=10000:=by
 have c:=IK (a:=t) d;cases hg:zC (·.N) t.N b with
 |some q=>simp only[hg,Wf,Td]at c;omega
 |none=>
  rw[hg]at h;simp only[hg,Xf,Bd,Cf]at c;simp only[Option.isNone_none,Oc,Xe]at h;omega
def SY{b a:Int}{c:List aB}{t:aB}(h:mN b a c=dA)(d:yP b a t=dA):mN b a (gC (·.N) t c)=dA:=by grind [mN,yP,gC,VM,gK,lV,yK,pJ]
def aAu{c:lC}{b:Int}{d:List aB}(f:kC c b d=dA){a key:gB}(e:(tC a&&pK key)=dA):yP c.w b (mK (bC d a) key b)=dA:=by
 obtain⟨i,h,p,q,j⟩:=cI f;obtain⟨k,l,m⟩:=kV j (name:=a);obtain⟨n,o⟩:=UX m;rw[Sa]at e;refine jf (by show tC (bC d a).N=dA;rw[kJ];exact e.1) k l ?_ XM;refine rt (gK o) fun x g=>?_;rcases yK (show x∈gC (·.s) ⟨key,b⟩ (bC d a).Z from g) with rfl|g
 .exact ⟨e.2,KN h (Xd _),by have:=(aCp i).1;show b-b<_;omega⟩
 exact n x g
theorem aAw{c:lC}{d:Int}{b:List aB}(f:kC c d b=dA){a key:gB}(g:(qL c d b a key).2=1\/(qL c d b a key).2=2):kC c d (qL c d b a key).1=dA:=by
 obtain⟨p,v,w,r,m⟩:=cI f;have o:=KN v w;have t:=lV m;have i:(mK (bC b a) key d).N=a:=kJ;unfold qL at g |-
 by_cases k:(tC a&&pK key)=cA
 .rw[Ma k]at g;omega
 rw[Ja k]at g |-
 have h:(tC a&&pK key)=dA:=by simpa using k
 by_cases j:(zC (·.s) key (bC b a).Z).isSome=dA
 .rw[Ma j];refine yW p o (eu t r ?_) (SY m (aAu f h));rw[i];rcases yN (ts:=b) (name:=a) with⟨_,u⟩|⟨e,_⟩
  .cases hg:zC (·.N) a b with
   |none=>rw[hg]at u;cases u
   |some q=>rfl
  rw[e]at j;cases j
 rw[Ja j]at g |-
 by_cases l:(if (bC b a).L = -1 then c.tl else(bC b a).L)<=(vA (bC b a).Z:Nat)\/((zC (·.N) a b).isNone&&decide (10000<=vA b))=dA
 .rw[Ma l]at g;omega
 rw[Ja l]at g |-
 by_cases n:mG (bC b a).M (aE key) c.ml<=(uI aE (bC b a).Z (aE key):Nat)
 .rw[Ma n]at g;omega
 rw[Ja n];refine yW p o (eu t r ?_) (SY m (aAu f h));rw[i];cases hd:((zC (·.N) a b).isNone&&decide (10000<=vA b)) with
 |false=>rfl
 |true=>exact absurd (La hd) l
theorem aPy{c:lC}{k:Int}{g:List aB}(f:kC c k g=dA){a b:gB}{d:Int}:kC c k (iU g a b d).1=dA:=by
 obtain⟨v,C,D,w,l⟩:=cI f;have u:=KN C D;have y:=lV l;obtain⟨E,z,F⟩:=kV l (name:=a);obtain⟨A,B⟩:=fw z;unfold iU;by_cases n:(tC a&&(b.toList.isEmpty||yE b) &&wB d (-1) 1000000)=cA
 .rw[Ma n];exact f
 rw[Ja n];have e:=(Bool.not_eq_false _).mp n;simp only[Sa]at e;by_cases o:aF (vI (bC g a) b d)=dA
 .rw[Ma o];refine yW v u (Ua (Pc _ _) w) (VM (iQ y) fun t s=>pJ l t (wS.1 s).1)
 rw[Ja o];by_cases p:((zC (·.N) a g).isNone&&decide (10000<=vA g))=dA
 .rw[Ma p];exact f
 rw[Ja p];have j:(vI (bC g a) b d).N=a:=by rw[pW,kJ]
 refine yW v u (eu y w (by rw[j];simpa using p)) (SY l ?_);refine jf (by rw[j];exact e.1.1) ?_ ?_ (by rw[ZE];exact F) (by simpa using o)
 .unfold vI;split
  .exact e.2
  exact E
 unfold vI;split;exact z
 rename_i q;have r:yE b=dA:=by
  have:=e.1.2;rw[Fe]at this;rcases this with h|h;exact absurd h q;exact h
 simp only;split
 .exact qf (iQ B) fun m i=>A m (wS.1 i).1
 rename_i x;refine qf (gK B) fun m i=>?_;rcases yK i with rfl|i
 .have:=uL e.2;exact⟨r,KN (by show 0<=d;omega) this.2⟩
 exact A m i
theorem aMp{c:lC}{a:Int}{d:List aB}(e:kC c a d=dA){b:Int}:kC c (gL c.w a d b).1 (gL c.w a d b).2.1=dA:=by
 obtain⟨k,D,E,l,h⟩:=cI e;have n:=lV h;unfold gL;split;exact e
 rename_i F;have f:vA (dE c.w (a+b) d)<=vA d:=by
  unfold dE;have:=Pc (fun t=>!aF t) (d.map (bF c.w (a+b)));rw[Xa]at this;exact this
 refine yW k (KN (by omega) (by omega)) (Ua f l) (VM ?_ fun t g=>?_);exact Mf _ (Te.2 n);obtain ⟨i,j⟩:=De.1 g;obtain⟨q,m,rfl⟩:=Md.1 i;obtain⟨p,r,s,u,_⟩:=uc (pJ h q m);obtain⟨v,y⟩:=UX u;refine jf p r s (rt (Mf _ y) fun x o=>?_) (by simpa using j);obtain⟨z,A⟩:=De.1 o;obtain⟨B,C,_⟩:=v x z;have:=uL C;exact⟨B,KN this.1 (by omega),by simpa using A⟩
def zE(c:lC)(a:Int)(b:List aB)(r:vE):Int×List aB×Bool:=
 if r.K=1 then(a,(qL c a b r.T r.X).1,decide ((qL c a b r.T r.X).2=1) ||decide ((qL c a b r.T r.X).2=2))
 else if r.K=2 then gL c.w a b r.U
 else if r.K=3 then(a,(iU b r.T r.X r.U).1,(iU b r.T r.X r.U).2)
 else(a,b,cA)
def sH(c:lC):Int->List aB->List vE->Int×List aB×Bool
 |a,b,[]=>(a,b,dA)
 |a,b,r::d=>if (zE c a b r).2.2=dA then sH c (zE c a b r).1 (zE c a b r).2.1 d else((zE c a b r).1,(zE c a b r).2.1,cA)
def eG(c:lC)(a:Int)(b:List aB)(d:List vE):Int×List aB×Bool:=
 if kC c a b=cA then(0,[],cA) else if 500<vA d then(a,b,cA) else if (sH c a b d).2.2=dA then sH c a b d else(a,b,cA)
def VD{c:lC}{a:Int}{b:List aB}(h:kC c a b=dA){r:vE}(d:(zE c a b r).2.2=dA):kC c (zE c a b r).1 (zE c a b r).2.1=dA:=by grind [kC,zE,aAw,aMp,aPy]
theorem JD{p:dB}(l:List dB):pC (gC (·.s) p l)<=pC l+p.s.size/\vA (gC (·.s) p l)<=vA l+1:=by induction l<;>grind [pC,gC]
theorem bZ(f:dB->Bool)(l:List dB):pC (l.filter f)<=pC l/\vA (l.filter f)<=vA l:=by induction l<;>grind [pC]
theorem hZ(f:aB->Bool)(l:List aB):nB (l.filter f)<=nB l/\vA (l.filter f)<=vA l:=by induction l<;>grind [nB]
def JR{a:List aB}(f:wC (·.N) a){t:aB}{k:Nat}(h:iE t<=iE (bC a t.N)+k):vA (gC (·.N) t a)+nB (gC (·.N) t a)<=vA a+nB a+1+t.N.size+k:=by
 have g:iE ⟨t.N,-1,[],[]⟩=t.N.size:=by simp[iE,pC]
 have key:(∃q∈a,q.N=t.N/\iE t<=iE q+k)\/(iE t<=t.N.size+k):=by
  rcases yN (ts:=a) (name:=t.N) with⟨m,_⟩|⟨e,_⟩;exact Ca ⟨_,m,kJ,h⟩;rw[e,g]at h;exact La h
 clear h g;rcases key with⟨q,c,d,j⟩|j
 .have:vA (gC (·.N) t a)+nB (gC (·.N) t a)<=vA a+nB a+k:=by
   induction a with
   |nil=>cases c
   |cons p r i=>
    rw[gC];rcases Lb.1 c with rfl|c;rw[Ja (by rw[d,gQ];simp),Ma ((jE _ _).2 d)];simp only[Zb,nB];omega;have b:=f.head q c;simp only[d]at b;rw[Ma b];have:=i f.tail c;simp only[Zb,nB];omega
  omega
 .have:∀l:List aB,vA (gC (·.N) t l)+nB (gC (·.N) t l)<=vA l+nB l+1+iE t:=fun l=>by
   induction l with
   |nil=>simp[gC,nB]
   |cons p r i=>
    rw[gC];split;simp only[Zb,nB];omega;split<;>(simp only[Zb,nB];omega)
  have:=this a;omega
def aCu{c:List aB}{a key:gB}{b:Int}:iE (mK (bC c a) key b)<=iE (bC c (mK (bC c a) key b).N)+(1+key.size):=by grind [iE,mK,bC,kJ,JD]
def aFt{d:List aB}{b a:gB}{c:Int}:iE (vI (bC d b) a c)<=iE (bC d (vI (bC d b) a c).N)+(1+a.size):=by grind [iE,vI,bC,pC,xE,pW,kJ,JD,bZ]
def aFm{win now:Int}(a:List aB):vA (dE win now a)+nB (dE win now a)<=vA a+nB a:=by induction a<;>grind [dE,nB,aF,bF,iE,hZ,bZ]
def tY{c:lC}{b:Int}{a:List aB}(h:kC c b a=dA)(r:vE):vA (zE c b a r).2.1+nB (zE c b a r).2.1<=vA a+nB a+2+r.T.size+r.X.size:=by
 have g:=lV (cI h).2.2.2.2;have d:vA a+nB a<=vA a+nB a+2+r.T.size+r.X.size:=by omega
 have f:vA (gC (·.N) (mK (bC a r.T) r.X b) a)+nB (gC (·.N) (mK (bC a r.T) r.X b) a)<=vA a+nB a+2+r.T.size+r.X.size:=by
  have:=JR g (t:=mK (bC a r.T) r.X b) aCu;have e:(mK (bC a r.T) r.X b).N=r.T:=kJ;rw[e]at this;omega
 have i:vA (gC (·.N) (vI (bC a r.T) r.X r.U) a)+nB (gC (·.N) (vI (bC a r.T) r.X r.U) a)<=vA a+nB a+2+r.T.size+r.X.size:=by
  have:=JR g (t:=vI (bC a r.T) r.X r.U) aFt;have e:(vI (bC a r.T) r.X r.U).N=r.T:=by rw[pW,kJ]
  rw[e]at this;omega
 unfold zE;split
 .unfold qL;split
  .exact d
  split;exact f;generalize (if (bC a r.T).L = -1 then c.tl else(bC a r.T).L)=j;split;exact d;split;exact d;exact f
 split
 .unfold gL;split
  .exact d
  have:=aFm (win:=c.w) (now:=b+r.U) a;show(dE c.w (b+r.U) a).length+nB (dE c.w (b+r.U) a)<=_;omega
 split
 .unfold iU;split
  .exact d
  split;have:=hZ (fun p=>!((fun q:aB=>q.N) p).toList==r.T.toList) a;show(xE (·.N) r.T a).length+nB (xE (·.N) r.T a)<=_;unfold xE;omega;split;exact d;exact i
 exact d
def LN{c:lC}:∀{rs:List vE}{now:Int}{ts:List aB},kC c now ts=dA->vA (sH c now ts rs).2.1+nB (sH c now ts rs).2.1<=vA ts+nB ts+2*vA rs+sD rs
 |[],now,ts,_=>by simp[sH,sD]
 |r::rs,now,ts,h=>by
  have b:=tY h r;rw[sH];simp only[Zb,sD];split
  .rename_i a;have d:=LN (rs:=rs) (VD h a);omega
  show vA (zE c now ts r).2.1+nB (zE c now ts r).2.1<=_;omega
def ah{c:lC}{a:Int}{d:List aB}{b:List vE}{k:Nat}(e:k<vA b)(f:(zE c a d b[k]).2.2=dA):sH c a d (b.drop k)=sH c (zE c a d b[k]).1 (zE c a d b[k]).2.1 (b.drop (k+1)):=by
 rw[Cb e,sH,Ma f]
def ai{c:lC}{a:Int}{d:List aB}{b:List vE}{k:Nat}(e:k<vA b)(f:(zE c a d b[k]).2.2=cA):sH c a d (b.drop k)=((zE c a d b[k]).1,(zE c a d b[k]).2.1,cA):=by
 rw[Cb e,sH,Ja (by rw[f];decide)]
def JE(a:List vE){k:Nat}(b:k<vA a):sD (a.drop k)=a[k].T.size+a[k].X.size+sD (a.drop (k+1)):=by
 rw[Cb b,sD]
def yy(N:oC)(R:mE×kG×Nat)(S:Int×List aB×Bool):oC×Int:=
 if R.2.2=0 then(⟨R.1,R.2.1,S.1,S.2.1,N.lsn+1,cA,dA⟩,0)
 else if R.2.2=22\/R.2.2=23\/R.2.2=21 then(N,R.2.2)
 else(⟨R.1,R.2.1,N.now,N.ts,N.lsn,dA,!R.1.dn⟩,R.2.2)
def pF(c:lC)(N:oC)(rs:List vE):oC×Int:=
 if pH c=cA then(qK,61) else if upB N=cA then(N,60)
 else if (eG c N.now N.ts rs).2.2=cA\/wB N.lsn 0 999999999999999=cA\/dR (N.lsn+1) rs=kA then(N,62)
 else yy N (rE N.d N.l (dR (N.lsn+1) rs) c.sg) (eG c N.now N.ts rs)
section
variable {c:lC} {N:oC} {rs:List vE} {R:mE×kG×Nat} {S:Int×List aB×Bool}
theorem aQv(h:pH c=cA):pF c N rs=(qK,61):=by unfold pF;rw[Ma h]
theorem aQx(h:pH c=dA):upB N=cA/\pF c N rs=(N,60)\/upB N=dA/\((eG c N.now N.ts rs).2.2=cA/\pF c N rs=(N,62)\/(eG c N.now N.ts rs).2.2=dA/\(wB N.lsn 0 999999999999999=cA/\pF c N rs=(N,62)\/wB N.lsn 0 999999999999999=dA/\(dR (N.lsn+1) rs=kA/\pF c N rs=(N,62)\/(dR (N.lsn+1) rs).toList.isEmpty=cA/\pF c N rs=yy N (rE N.d N.l (dR (N.lsn+1) rs) c.sg) (eG c N.now N.ts rs)))):=by
 unfold pF;rw[Ja (by simp[h])];cases h1:upB N
 .exact Ca ⟨rfl,Ma rfl⟩
 refine La ⟨rfl,?_⟩;rw[Ja (by simp)];cases h2:(eG c N.now N.ts rs).2.2
 .exact Ca ⟨rfl,Ma (Ca rfl)⟩
 refine La ⟨rfl,?_⟩;cases h3:wB N.lsn 0 999999999999999
 .exact Ca ⟨rfl,Ma (La (Ca rfl))⟩
 refine La ⟨rfl,?_⟩;by_cases a:dR (N.lsn+1) rs=kA
 .exact Ca ⟨a,Ma (La (La a))⟩
 exact La ⟨BE.2 a,Ja (by simp[a])⟩
theorem aQw:(((R.2.2:Int)==0)=dA/\((R.2.2:Int)==22)=cA/\((R.2.2:Int)==23)=cA/\((R.2.2:Int)==21)=cA/\yy N R S=(⟨R.1,R.2.1,S.1,S.2.1,N.lsn+1,cA,dA⟩,0))\/
 (((R.2.2:Int)==0)=cA/\¬(R.2.2:Int)=0/\((((R.2.2:Int)==22)=dA\/((R.2.2:Int)==22)=cA/\(((R.2.2:Int)==23)=dA\/((R.2.2:Int)==23)=cA/\((R.2.2:Int)==21)=dA))/\yy N R S=(N,(R.2.2:Int))\/
   ((R.2.2:Int)==22)=cA/\((R.2.2:Int)==23)=cA/\((R.2.2:Int)==21)=cA/\yy N R S=(⟨R.1,R.2.1,N.now,N.ts,N.lsn,dA,!R.1.dn⟩,(R.2.2:Int)))):=by
 unfold yy;by_cases a:R.2.2=0
 .exact Ca ⟨by simp[a],by simp[a],by simp[a],by simp[a],by simp[a]⟩
 refine La ⟨by simp;omega,by omega,?_⟩;by_cases b:R.2.2=22\/R.2.2=23\/R.2.2=21
 .refine Ca ⟨?_,by simp[a,b]⟩;rcases b with h|h|h<;>simp[h]
 refine La ⟨by simp;omega,by simp;omega,by simp;omega,by simp[a,b]⟩
end
def RM:∀rs:List vE,(lN rs).size=12*vA rs+sD rs
 |[]=>rfl
 |r::q=>by
  have:=RM q;show(dq r++lN q).size=12*(vA q+1)+(r.T.size+r.X.size+sD q)
  rw[Ka,aEj];omega
def aBd{a:Int}{rs:List vE}(h:vA rs+sD rs<=1400000):(dR a rs).size<=1900000:=by
 by_cases b:DA a rs
 .have:=b.2.2.2.1;rw[cf b,Ka,ck,RM];omega
 rw[PA b];exact Oa _
def MT{D:mE}{L:kG}{f:gB}(h:CO D.fs):CO (xH D L f).1.fs:=by
 have b:(jN L.last).size<=maxLen:=by have:=cT (L.last);unfold maxLen;omega
 have a:CO (lE D (oI L.last f)).1.fs:=AA h b (Oa _);have d:=AA (op:=yT L.last) a b (Oa _);unfold xH;split;exact a;split<;>exact d
def my{D:mE}{L:kG}{p:gB}{most:Int}(h:CO D.fs):CO (rE D L p most).1.fs:=by
 have a:CO (lE D (tJ (L.last+1))).1.fs:=AA h (by have:=cT (L.last+1);unfold maxLen;show(jN (L.last+1)).size<=_;omega) (Oa _);unfold rE;repeat' split
 all_goals first|exact h|exact a|exact MT a|exact MT h
def bu{c:lC}{now:Int}{a:List aB}{rs:List vE}(d:vA a+nB a+vA rs+sD rs<=1400000):vA (eG c now a rs).2.1+nB (eG c now a rs).2.1<=1900000:=by
 have b:vA a+nB a<=1900000:=by omega
 unfold eG;split;exact Oa _
 rename_i e;have:=LN (rs:=rs) (c:=c) (now:=now) (ts:=a) (by simpa using e);repeat' split
 all_goals first|exact b|omega
def aGh{c:lC}{N:oC}{rs:List vE}(f:CO N.d.fs)(a:vA N.ts+nB N.ts+vA rs+sD rs<=1400000):CO (pF c N rs).1.d.fs/\vA (pF c N rs).1.ts+nB (pF c N rs).1.ts<=1900000:=by
 have b:vA N.ts+nB N.ts<=1900000:=by omega
 have e:=my (L:=N.l) (p:=dR (N.lsn+1) rs) (most:=c.sg) f;have g:=bu (c:=c) (now:=N.now) a;unfold pF yy;repeat' split
 all_goals first|exact⟨dw,Oa _⟩|exact⟨f,b⟩|exact⟨e,g⟩|exact⟨e,b⟩
structure aNb(w:World)(a b:iC)(N:oC)(ar:iC)(rs:List vE):Prop where
 files:eB w a N.d.fs
 fit:CO N.d.fs
 tens:nC w b N.ts
 recs:wI w ar rs
 bulk:vA N.ts+nB N.ts+vA rs+sD rs≤1400000
 rng:bn rs
 lsn:GA N.lsn
def tP{a:List aB}(h:vA a+nB a<=1400000):∀t∈a,vA t.M<=2000000/\vA t.Z<=2000000:=fun t e=>by
 obtain⟨i,d,rfl⟩:=Ib e;have b:=rI a i d;have f:=zJ a (i+1);unfold iE at b;omega
def aJo:(prog.info? 141).map (fun i=>(i.zero,i.size,i.bytes))=bA (bA (.agg #[lA mA 0,nA ⟨#[]⟩,nA ⟨#[]⟩,nA ⟨#[]⟩,lA mA 0]),5,64):=by kernel_rfl
def KA(w:eA)(B:Nat)(v:iA)(n:Nat)(l:List vK):Prop:=w.ownsRow B 141 5 v n (oO l)
def KA.z{w a:eA}{B n:Nat}{v:iA}{l:List vK}(h:KA w B v n l)(b:kB w a):KA a B v n l:=jC h b
def KA.new(w:eA):KA (w.alloc (tA #[] 141)) w.1.size (oA (bA ⟨w.1.size,0,aA⟩) 0 0) 0 []:=eA.ownsRow_made w #[] 0 (Ia _) (by simp[maxLen]) (by simp)
def xf(l:List vK)(o:vK):oO (l++[o])=oO l++[lA mA o.K,nA o.N,nA o.tq,nA o.data,lA mA o.size]:=by simp[oO]
def LX{A:Array Oper}{c:List Oper}{o:Oper}{a:Act}{Q:Exit->Act->eA->Prop}{w:eA}(u:o.guard=aA)(s x:Operand)
(H:o.op=.call { callee:=.builtin .append,args:=#[s,x],argTypes:=#[138,138] })
(B n:Nat)(v:iA)(l:List vK)(k z:Int)(m p f:gB)(I:a.eval s=v)(y:xA (KA w B v n l))(J:a.eval x=oA (bA ⟨w.1.size,0,aA⟩) 1 1)(K:n<=2000000)(F:B<=w.1.size)
(h:∀g b r,xA (KA r B (oA (bA ⟨g,0,aA⟩) (n+1) b) (n+1) (l++[⟨k,m,p,f,z⟩]))->Below B w r->wpList prog A Q c (a.put o.dst (oA (bA ⟨g,0,aA⟩) (n+1) b)) r):
 wpList prog A Q (o::c) a (w.alloc (tA #[lA mA k,nA m,nA p,nA f,lA mA z] 141)):=by
 obtain⟨i,G,C,D,E⟩:=info_parts aJo;refine wpList_append_lies _ u s x _ H B 141 i _ 5 64 underlying138 G C D E rfl (by omega) v n (oO l) I (eA.ownsRow.alloc y.o _) ⟨w.1.size,0,aA⟩ 1 1 [lA mA k,nA m,nA p,nA f,lA mA z] J rfl (by
  have:=eA.news_of_block (cs:=#[lA mA k,nA m,nA p,nA f,lA mA z]) (t:=141) (fr:=(0,0)) (heap_alloc_new w (tA #[lA mA k,nA m,nA p,nA f,lA mA z] 141));simpa using this) (by simp[iA.oneCell']) (by omega) (by simp[maxLen];omega) (by omega) (by simp;omega) (w.1.size+1) (by simp) ?_
 intro g b r j d _ _;refine h g b r ?_ ?_;show eA.ownsRow _ _ _ _ _ _ _;rw[xf];exact j;exact (vB.mono F).trans ((bB.grown d).below (by simp;omega) (fun q L e=>by have:=(y.o.lt q e).1;omega))
def tO(s:gB)(w:eA)(e:Ending)(c:eA):Prop:=
 ∃b a,e=.returned (.tuple #[.agg #[lA mA (aG s).1.K,nA (aG s).1.T,nA (aG s).1.R,lA mA (aG s).1.U,.slice b (vA (aG s).1.P) a],.bool (aG s).2])/\rF c w.1.size b (aG s).1.P/\kB w c
theorem vX:∀(a:List eC)(i:Nat),cD a i=aA ↔ ∀l∈a,iR l=0
 |[],i=>by simp[cD]
 |l::r,i=>by
  rw[cD];by_cases h:iR l=0
  .rw[Ma h,vX r (i+1)];simp[h]
  rw[Ja h];simp[h]
theorem DD:∀(b:List eC)(i c k:Nat),cD b i=bA (c,k)->c≠0
 |[],i,c,k,h=>by simp[cD]at h
 |l::r,i,c,k,h=>by
  rw[cD]at h;by_cases a:iR l=0
  .rw[Ma a]at h;exact DD r _ c k h
  rw[Ja a]at h;simp only[Qa,Dc]at h;omega
theorem SJ:∀(r a:List eC)(i:Nat),pV (a++r)->gF a r i=aA
 |[],_,_,_=>by simp[gF]
 |l::r,a,i,h=>by
  rw[gF];have c:¬a.any (fun x=>cS x l)=dA:=by
   intro b;rw[Zd]at b;obtain⟨x,d,e⟩:=b;unfold pV at h;rw[Ae]at h;exact h.2.2 x d l (by simp) ((ak _ _).1 e)
  rw[Ja c];exact SJ r _ _ (by simpa using h)
def QR{a:List eC}(b:vA a<=16)(c:∀l∈a,iR l=0)(d:pV a)(e:kS a=dA):uB a=(yF [] a,0,0):=by grind [QT,vX,SJ]
def aDe{a:List eC}(h:(uB a).2.1=0):vA a<=16/\(∀l∈a,iR l=0)/\pV a/\kS a=dA:=by grind [uB,iR,pV,kS,cD,gF,EE,BL,DD,qZ,KO,vX,aBr]
def aGj{b a:List eC}(c:a.Perm b)(h:pV b):pV a:=by
 unfold pV at *;exact(c.pairwise_iff (fun{x y} e=>Ne.symm e)).2 h
def vi{a:List eC}(h:(uB a).2.1=0):uB (uB a).1=((uB a).1,0,0):=by
 obtain⟨m,g,i,j⟩:=aDe h;rw[QR m g i j];simp only;have d:(yF [] a).Perm (cM a):=(bM a []).trans (by rw[Mb]);have k:∀l∈yF [] a,l∈a/\tT l=cA:=fun l c=>by
  have:=De.1 (d.mem_iff.1 c);exact⟨this.1,by simpa using this.2⟩
 have b:pV (yF [] a):=aGj d (i.sublist Pf);have n:cM (yF [] a)=yF [] a:=by
  unfold cM;rw[Jc];intro l c;rw[(k l c).2];rfl
 have f:kS (yF [] a)=dA:=by
  unfold kS at *;rw[Zd]at *;obtain⟨x,o,e⟩:=j;refine⟨x,d.mem_iff.2 (De.2 ⟨o,?_⟩),e⟩;simp only[Sa]at e;exact e.1
 rw[QR (by rw[d.length_eq];have:=BS a;omega) (fun l c=>g l (k l c).1) b f];congr 1;exact(aq b (by rw[n]) (uV a [] Gd)).symm
def nc{a:List eC}(h:(uB a).2.1=0):vP (uB a).1=dA:=by
 unfold vP;rw[vi h];simp[qY]
def nf{a:List eC}(h:(uB a).2.1=0):yI (uB a).1=bI (uB a).1/\gG (bI (uB a).1)=((uB a).1,dA):=⟨by unfold yI;rw[Ma (nc h)],mf (nc h)⟩
