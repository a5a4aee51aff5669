import Derived.Test.YtabgbmfcbobamaaGreatDoorJ20
set_option maxRecDepth 100000
set_option maxHeartbeats 16000000
namespace Go.Proofs.YtabgbmfcbobamaaGreatDoor
open Go.RowKit Tryz
theorem yN:(prog.info? 100).map (fun i=>(i.zero,i.size,i.bytes))=some (some (.agg #[.string ByteArray.empty,.int .i64 0,.slice none 0 0,.slice none 0 0]),4,72):=by kernel_rfl
def aDk (a:List dA):Prop:=∀i (h:i<a.length),a[i].m9.length<=1048576/\a[i].s9.length<=1048576
theorem oC.mono {B B':Nat} {w:World} {a:Option Addr} {k:List dA} (h:oC w B a k) (f:B'<=B):oC w B' a k:=by
 rcases h with h|⟨d,o,c,t,T,rfl,G,g,u,h⟩
 ·exact Ca h
 ·have m:∀{n a j},bF w B T n a j->bF w B' T n a j:=fun {n a j} h=>by
   rcases h with h|⟨d,E,b,F,e,f,r⟩
   ·exact Ca h
   ·exact Ja ⟨d,E,b,F,e,by omega,r⟩
  refine Ja ⟨d,o,c,t,T,rfl,by omega,g,u,fun i v=>?_⟩;obtain⟨l,q,p,s,x,y,z,A,C,D⟩:=h i v;exact⟨l,q,p,s,x,y,z,A,m C,m D⟩
theorem ob (p:lA->Bool) (a:List lA) (j:Nat) (h:j<a.length):(a.take (j+1)).filter p=(a.take j).filter p++if p a[j]=true then [a[j]] else []:=by
 rw[Ma h,Cf];congr 1;by_cases e:p a[j]=true
 ·rw[Qa e,Mc e];rfl
 ·rw[Oa e,Uc e];rfl
theorem aAe (p:lA->Bool) (a:List lA) (j:Nat):((a.take j).filter p).length<=a.length:=by
 have b:=Gc p (a.take j);rw[Hb]at b;omega
def aCp (a:World) (t:dA) (X:Nat) (c:World):Prop:=
 ∃b d,eA c X #[.string t.name,.int .i64 t.l9,.slice (some ⟨b,0,none⟩) t.m9.length d,.slice none 0 0] 100/\c.ownsRow a.heap.size 107 2 (.slice (some ⟨b,0,none⟩) t.m9.length d) t.m9.length (flatK t.m9)/\a.heap.size<=X/\b≠X/\Below a.heap.size a c
theorem aAu (W:World) (cs a:Array Value) {t b:TypeId}:((W.alloc (.cells cs t)).alloc (.cells a b)).drew.heap[W.heap.size+1]?=some (.cells a b (0,0)):=by
 have h:eA ((W.alloc (.cells cs t)).alloc (.cells a b)) (W.alloc (.cells cs t)).heap.size a b:=eA.new _ _ _;have e:(W.alloc (.cells cs t)).heap.size=W.heap.size+1:=by simp
 rw[e]at h;exact h
theorem aAt (W:World) (cs:Array Value) {t:TypeId} (o:Obj):((W.alloc (.cells cs t)).alloc o).drew.heap[W.heap.size]?=some (.cells cs t (0,0)):=((eA.new W cs t).alloc o)
theorem VD {a c:World} {X:Nat} {d e f g:Value} (h:Below a.heap.size a c) (b:a.heap.size<=X):Below a.heap.size a ((((c.setCell ⟨X,0,none⟩ d).setCell ⟨X,1,none⟩ e).setCell ⟨X,2,none⟩ f).setCell ⟨X,3,none⟩ g):=(((h.setCell b _).setCell b _).setCell b _).setCell b _
theorem ct {w:World} {X:Nat} {v0 v1 v2 v3:Value}:gA (·=X) w ((((w.setCell ⟨X,0,none⟩ v0).setCell ⟨X,1,none⟩ v1).setCell ⟨X,2,none⟩ v2).setCell ⟨X,3,none⟩ v3):=((((gA.refl (·=X) w).setCell (Ca rfl) 0 _).setCell (Ca rfl) 1 _).setCell (Ca rfl) 2 _).setCell (Ca rfl) 3 _
theorem aAf {c d:World} {t:dA} {X b a n:Nat} (h:eA d X #[.string ⟨#[]⟩,.int .i64 0,.slice none 0 0,.slice none 0 0] 100) (f:c.heap.size<=X) (l:Below c.heap.size c d) (g:d.ownsRow c.heap.size 107 2 (.slice (some ⟨b,0,none⟩) (0+t.m9.length) a) (0+t.m9.length) ([]++flatK t.m9)) (i:b≠X) (j:n=t.m9.length):
 aCp c t X ((((d.setCell ⟨X,0,none⟩ (.string t.name)).setCell ⟨X,1,none⟩ (.int .i64 t.l9)).setCell ⟨X,2,none⟩ (.slice (some ⟨b,0,none⟩) n a)).setCell ⟨X,3,none⟩ (.slice none 0 0)):=by
 subst j;rw[Wa,Nb]at g;refine⟨b,a,?_,ct.row g (fun q k e=>by simp[Value.ownBlock]at k;omega),f,i,VD l f⟩;have:=(((h.set 0 (.string t.name)).set 1 (.int .i64 t.l9)).set 2 (.slice (some ⟨b,0,none⟩) t.m9.length a)).set 3 (.slice none 0 0);simpa using this
theorem aHf (W:World):(W.alloc (.cells #[] 107)).drew.ownsRow W.heap.size 107 2 (.slice (some ⟨W.heap.size,0,none⟩) 0 0) 0 []:=(World.ownsRow_made W #[] 0 (Ka _) (by simp[maxLen]) (by simp)).drew
theorem aHg (W:World) (o:Obj):((W.alloc (.cells #[] 107)).alloc o).drew.ownsRow W.heap.size 107 2 (.slice (some ⟨W.heap.size,0,none⟩) 0 0) 0 []:=((World.ownsRow_made W #[] 0 (Ka _) (by simp[maxLen]) (by simp)).alloc o).drew
theorem aHh (W:World) (o:Obj):((W.alloc o).alloc (.cells #[] 107)).drew.ownsRow W.heap.size 107 2 (.slice (some ⟨W.heap.size+1,0,none⟩) 0 0) 0 []:=by
 have:=(World.ownsRow_made (e:=107) (size:=2) (base:=W.heap.size) (W.alloc o) #[] 0 (by simp) (by simp[maxLen]) (by simp)).drew;simpa using this
theorem Fs7 (t:dA) (F O:Option Addr) (Q V:Nat) (r u:Int) (w:World) (p1:yA w F t.m9) (p2:yA w O t.s9) (hl1:t.m9.length<=2000000) (hl2:t.s9.length<=2000000) (hn0:0<=r) (hn1:r<=2000000000000) (hx:∀i (h:i<t.s9.length),0<=t.s9[i].n/\t.s9[i].n<=2000000000000):
 Calls prog 128 #[.agg #[.string t.name,.int .i64 t.l9,.slice F t.m9.length Q,.slice O t.s9.length V],.int .i64 r,.int .i64 u] w fun e E=>RW w t.name (fG u r t) e E:=by
 have P1:=bA p1;have P2:=bA p2;have HX0:=bA hx;clear p1 p2 hx;go_enter func128,ntmps128;have B1:Hid (Below w.heap.size w ((w.alloc (.cells #[.string t.name,.int .i64 t.l9,.slice F t.m9.length Q,.slice O t.s9.length V] 100)).alloc (.cells #[.string ⟨#[]⟩,.int .i64 0,.slice none 0 0,.slice none 0 0] 100))):=nA (cA _ _) (cA _ _);have T1:Hid (eA ((w.alloc (.cells #[.string t.name,.int .i64 t.l9,.slice F t.m9.length Q,.slice O t.s9.length V] 100)).alloc (.cells #[.string ⟨#[]⟩,.int .i64 0,.slice none 0 0,.slice none 0 0] 100)) w.heap.size #[.string t.name,.int .i64 t.l9,.slice F t.m9.length Q,.slice O t.s9.length V] 100):=(eA.new _ _ _).alloc _;have R1:Hid _:=bA (by have:=eA.new (w.alloc (.cells #[.string t.name,.int .i64 t.l9,.slice F t.m9.length Q,.slice O t.s9.length V] 100)) #[.string ⟨#[]⟩,.int .i64 0,.slice none 0 0,.slice none 0 0] 100;simpa using this);go_upto_region 1 with fail;generalize (w.alloc (.cells #[.string t.name,.int .i64 t.l9,.slice F t.m9.length Q,.slice O t.s9.length V] 100)).alloc (.cells #[.string ⟨#[]⟩,.int .i64 0,.slice none 0 0,.slice none 0 0] 100)=y at *;have HFL:Hid ((flatK t.m9).length=t.m9.length*2):=wO _;have D:Hid (∀W,Below y.heap.size y W->iS W F t.m9.length (flatK t.m9)):=fun W hW=>by
  rcases P1.out.later (nA B1.out hW) with h0|⟨b,o,rfl,L,h⟩
  ·exact Ca (by rw[h0];rfl)
  ·exact Ja ⟨_,rfl,cQ h⟩
 have M:Hid (∀E,Below y.heap.size y E->E.cell? ⟨w.heap.size,0,none⟩=some (.string t.name)/\E.cell? ⟨w.heap.size,1,none⟩=some (.int .i64 t.l9)/\E.cell? ⟨w.heap.size,2,none⟩=some (.slice F t.m9.length Q)):=fun E h=>by
  have q:=T1.out.later h;exact⟨q.cell 0,q.cell 1,q.cell 2⟩
 obtain⟨x0,x1,x2⟩:=M.out y (Below.refl _ _);have hw1:=aA R1.out;go_cut [7] (fun p wx=>∃X,p=.pointer (some ⟨X,0,none⟩)/\aCp y t X wx)
 case first=>
  go_region_held3 (fun E=>E.cell? ⟨w.heap.size,0,none⟩=some (.string t.name)/\E.cell? ⟨w.heap.size,1,none⟩=some (.int .i64 t.l9)/\E.cell? ⟨w.heap.size,2,none⟩=some (.slice F t.m9.length Q))
   (first|go_keep|exact M.out _ Y|exact M.out _ (VD Y (Ka _))|exact M.out _ (VD Y (Yg _))|exact M.out _ (ER y _)|exact M.out _ (EU y _ _))
   (first
    |(refine kP (by rfl) _ _ (by rfl) underlying97 wV rfl (by omega) (by omega) (B:=y.heap.size) (by rfl) (by first|exact aHf y|exact aHg y _|exact aHh y _) (flatK t.m9) (by rfl) HFL.out (by first|exact D.out _ (ER y _)|exact D.out _ (EU y _ _)) (oT _) (by omega) (by first|exact(ER y _).size|exact(EU y _ _).size) ?_;intro g5 cap5 Z z hB5 hk5 hat5;have Y:Below y.heap.size y Z:=(by first|exact(ER y _).trans hB5|exact(EU y _ _).trans hB5);have c5:=M.out _ Y
      try (first
       |(have x:Hid (eA Z (y.heap.size+1) #[.string ⟨#[]⟩,.int .i64 0,.slice none 0 0,.slice none 0 0] 100):=(hk5 (y.heap.size+1) (by show _<(World.alloc _ _).heap.size;simp) (by omega)).trans (aAu y _ _))
       |(have x:Hid (eA Z y.heap.size #[.string ⟨#[]⟩,.int .i64 0,.slice none 0 0,.slice none 0 0] 100):=(hk5 y.heap.size (by show _<(World.alloc _ _).heap.size;simp;omega) (by omega)).trans (aAt y _ _)))
      try (have s0:=x.out.cell 0;have s1:=x.out.cell 1;have s2:=x.out.cell 2;have s3:=x.out.cell 3;have d:=x.out.free 0;have f:=x.out.free 1;have j:=x.out.free 2;have l:=x.out.free 3)))
  all_goals(go_wp2_with fail;go_meet)
  ·rw[Wa,Nb]at z;exact⟨_,rfl,g5,cap5,eA.new _ _ _,vA z (cA _ _),Y.size,(by have:=(z.lt g5 rfl).2;omega),nA Y (cA _ _)⟩
  all_goals
   have e:∀o o':Obj,((y.alloc o).alloc o').drew.heap.size=y.heap.size+1+1:=fun o o'=>by show(World.alloc _ _).heap.size=_;simp
   rw[e]at hat5;exact⟨_,rfl,aAf x.out (by omega) Y z (by omega) rfl⟩
 obtain⟨X,rfl,J,I,hX,hO,hXw,hgX,K⟩:=hcut;rename World=>G;have HXB:=bA hX;have HO1:=bA hO;have B2:Hid _:=K;have y3:G.cell? ⟨w.heap.size,3,none⟩=some (.slice O t.s9.length V):=(T1.out.later K).cell 3;have hX2:=aA hX;have HR2:Hid (eA G (w.heap.size+1) #[.string ⟨#[]⟩,.int .i64 0,.slice none 0 0,.slice none 0 0] 100):=R1.out.later K;have HG1:Hid (∀q,(Value.slice (some ⟨J,0,none⟩) t.m9.length I).ownBlock=some q->q<G.heap.size/\q≠X):=fun q R=>⟨(hO.lt q R).2,by simp[Value.ownBlock]at R;omega⟩
 clear hX hO K M D HFL x0 x1 x2 P1;go_wp2;clear y3;go_loopw [9,22] (fun _ i wr=>∃(k:Nat) (v:Value),k<=t.s9.length/\i=.int .i64 k/\Hid (eA wr X #[.string t.name,.int .i64 t.l9,.slice (some ⟨J,0,none⟩) t.m9.length I,v] 100)/\Hid (wr.ownsRow G.heap.size 109 2 v ((t.s9.take k).filter fun p=>decide (r-p.n<u)).length (flatK ((t.s9.take k).filter fun p=>decide (r-p.n<u))))/\Hid (gA (·=X) G wr)) (fun _ i _=>t.s9.length-(intOf i).toNat)
 case atStart=>exact⟨0,.slice none 0 0,La _,rfl,HXB.out,World.ownsRow_nil _ _ _ _,gA.refl _ _⟩
 case round=>
  obtain⟨k,v,hk,rfl,T,C,A⟩:=hrel;have hs2:=A.out.size;have HBW:Hid _:=(nA B1.out B2.out).trans (A.out.below (by omega) fun i hi e=>by omega);by_cases L:k<t.s9.length
  ·obtain⟨pb,po,rfl,hpl,z0,z1⟩:=(P2.out.later HBW.out).at L;have HYS:Hid ((t.s9.take (k+1)).filter (fun p=>decide (r-p.n<u))=(t.s9.take k).filter (fun p=>decide (r-p.n<u))++if decide (r-t.s9[k].n<u)=true then [t.s9[k]] else []):=ob _ _ _ L;have hyl:((t.s9.take k).filter fun p=>decide (r-p.n<u)).length<=2000000:=by
    have:=aAe (fun p=>decide (r-p.n<u)) t.s9 k;omega
   obtain⟨hb0,hb1⟩:=HX0.out k L;generalize (t.s9.take k).filter (fun p=>decide (r-p.n<u))=ys at *;generalize t.s9[k]=P at *;have hwrp:IntKind.i64.wrap (r-P.n)=r-P.n:=by
    simp only[IntKind.wrap,IntKind.bits,IntKind.signed];simp;omega
   by_cases hc:r-P.n<u
   ·have HY:Hid ((t.s9.take (k+1)).filter (fun p=>decide (r-p.n<u))=ys++[P]):=by show _=_;rw[HYS.out,Qa (by simpa using hc)]
    go_upto_region 6 with fail;have U:Hid (Below wr.heap.size wr (wr.alloc (.cells #[.string P.s,.int .i64 P.n] 109))):=cA _ _;have u0:(wr.alloc (.cells #[.string P.s,.int .i64 P.n] 109)).cell? ⟨wr.heap.size,0,none⟩=some (.string P.s):=(eA.new _ _ _).cell 0;have u1:(wr.alloc (.cells #[.string P.s,.int .i64 P.n] 109)).cell? ⟨wr.heap.size,1,none⟩=some (.int .i64 P.n):=(eA.new _ _ _).cell 1;have hs5:wr.heap.size<(wr.alloc (.cells #[.string P.s,.int .i64 P.n] 109)).heap.size:=by simp
    clear z0 z1;generalize wr.alloc (.cells #[.string P.s,.int .i64 P.n] 109)=Z at *;have x:Hid (eA Z X #[.string t.name,.int .i64 t.l9,.slice (some ⟨J,0,none⟩) t.m9.length I,v] 100):=T.out.later U.out;have x3:Z.cell? ⟨X,3,none⟩=some v:=x.out.cell 3;have R5:Hid (Z.ownsRow G.heap.size 109 2 v ys.length (flatK ys)):=vA C.out U.out;have T5:=bA (A.out.trans (gA.of U.out));go_wp2_with(at_builtin;refine cK rfl _ _ rfl underlying98 BD rfl (by omega) (by omega) rfl R5.out rfl rfl (cs:=#[.string P.s,.int .i64 P.n]) rfl (by simp[Value.oneCell']) (by omega) (by omega) ?_;intro gg cap6 w6 O6 T6 A6;have BX6:=bA (T6.out.blk x.out (fun e=>by have:=e.1;omega));have s6:=BX6.out.cell 3;have m:=BX6.out.free 3);obtain⟨h1,h3,h4⟩:=pT x.out T6.out O6.out hX2 3;refine⟨⟨k+1,.slice (some ⟨gg,0,none⟩) (ys.length+1) cap6,by omega,by go_num,bA (by simpa using h1),?_,T5.out.trans (h4.mono fun i _ e=>e.imp_right And.left)⟩,by simp[intOf];omega⟩;rw[HY.out,nT,Za];exact h3
   ·have HY:Hid ((t.s9.take (k+1)).filter (fun p=>decide (r-p.n<u))=ys):=by show _=_;rw[HYS.out,Oa (by simpa using hc),Id]
    have x:Hid (eA (wr.alloc (.cells #[.string P.s,.int .i64 P.n] 109)) X #[.string t.name,.int .i64 t.l9,.slice (some ⟨J,0,none⟩) t.m9.length I,v] 100):=T.out.alloc _;have R5:Hid ((wr.alloc (.cells #[.string P.s,.int .i64 P.n] 109)).ownsRow G.heap.size 109 2 v ys.length (flatK ys)):=vA C.out (cA _ _);have T5:Hid (gA (·=X) G (wr.alloc (.cells #[.string P.s,.int .i64 P.n] 109))):=A.out.trans (gA.of (cA _ _));go_wp2;refine⟨⟨k+1,v,by omega,by go_num,x.out,?_,T5.out⟩,by simp[intOf];omega⟩;rw[HY.out];exact R5
  ·have ek:t.s9.take k=t.s9:=Ua (by omega);rw[ek]at C;have H:Hid (wr.ownsRow G.heap.size 109 2 v (fG u r t).s9.length (flatK (fG u r t).s9)):=C.out;obtain⟨sa,sc,hv⟩:∃a c,v=.slice a (fG u r t).s9.length c:=by
    rcases H.out.2 with⟨e1,e2⟩|⟨g,cap,_,e1,_⟩
    ·exact⟨none,0,by rw[e1,e2]⟩
    ·exact⟨_,_,e1⟩
   rw[hv]at T H;clear C hv ek;generalize hKS:(fG u r t).s9=KS at *;have N:Hid (eA wr (w.heap.size+1) #[.string ⟨#[]⟩,.int .i64 0,.slice none 0 0,.slice none 0 0] 100):=A.out.blk HR2.out (by omega);have a0:wr.cell? ⟨X,0,none⟩=some (.string t.name):=T.out.cell 0;have a1':wr.cell? ⟨X,1,none⟩=some (.int .i64 t.l9):=T.out.cell 1;have a2':wr.cell? ⟨X,2,none⟩=some (.slice (some ⟨J,0,none⟩) t.m9.length I):=T.out.cell 2;have a3:wr.cell? ⟨X,3,none⟩=some (.slice sa KS.length sc):=T.out.cell 3;have b0:wr.cell? ⟨w.heap.size+1,0,none⟩=some (.string ⟨#[]⟩):=N.out.cell 0;have b1:wr.cell? ⟨w.heap.size+1,1,none⟩=some (.int .i64 0):=N.out.cell 1;have b2:wr.cell? ⟨w.heap.size+1,2,none⟩=some (.slice none 0 0):=N.out.cell 2;have b3:wr.cell? ⟨w.heap.size+1,3,none⟩=some (.slice none 0 0):=N.out.cell 3;have e0:=N.out.free 0;have e1:=N.out.free 1;have e2:=N.out.free 2;have e3:=N.out.free 3;have HOM:Hid (wr.ownsRow y.heap.size 107 2 (.slice (some ⟨J,0,none⟩) t.m9.length I) t.m9.length (flatK t.m9)):=A.out.row HO1.out (fun q R e=>(HG1.out q R).2 e);go_wp2;refine bodyPost_ret (v:=.agg #[.string t.name,.int .i64 t.l9,.slice (some ⟨J,0,none⟩) t.m9.length I,.slice sa KS.length sc]) (by simp[results,results128,go_sem,b0,b1,b2,b3]) rfl ⟨G.heap.size,some ⟨J,0,none⟩,I,sa,sc,by rw[hKS];rfl,by omega,?_,fun g o e=>(HG1.out g (by cases e;rfl)).1,?_,?_,?_⟩
   ·exact(vC (ct.row HOM.out (fun q R e=>by have:=(HOM.out.lt q R).1;omega))).mono (by omega)
   ·rw[hKS];exact ct.row H.out (fun q R e=>by have:=(H.out.lt q R).1;omega)
   ·have:=(ct (w:=wr) (X:=w.heap.size+1) (v0:=.string t.name) (v1:=.int .i64 t.l9) (v2:=.slice (some ⟨J,0,none⟩) t.m9.length I) (v3:=.slice sa KS.length sc)).size;omega
   ·exact((gA.of (S:=fun i=>w.heap.size<=i) HBW.out).trans' (ct.mono fun i _ e=>by omega)).below (Ka _) fun i hi h=>by omega
theorem fe (t:dA) (c d:Option Addr) (l m:Nat) (a b:Int) (w:World) (p:yA w c t.m9) (q:yA w d t.s9) (f:t.m9.length<=2000000) (g:t.s9.length<=2000000) (j:0<=a) (k:a<=2000000000000) (o:∀i (h:i<t.s9.length),0<=t.s9[i].n/\t.s9[i].n<=2000000000000):
 Calls prog 128 #[.agg #[.string t.name,.int .i64 t.l9,.slice c t.m9.length l,.slice d t.s9.length m],.int .i64 a,.int .i64 b] w fun e r=>RU w t.name (fG b a t) e r:=
 (Fs7 t c d l m a b w p q f g j k o).mono fun _ _ h=>h.tel
def RM (x:dA):Prop:=x.m9.length<=2000000/\x.s9.length<=2000000/\∀i (h:i<x.s9.length),0<=x.s9[i].n/\x.s9[i].n<=2000000000000
theorem aCj (t p:dA) (l:List dA) (b:Bool):b=true/\(p.name.toList==t.name.toList)=true/\vG t (l,b) p=(l,true)\/b=true/\(p.name.toList==t.name.toList)=false/\vG t (l,b) p=(l++[p],true)\/
 b=false/\(p.name.toList==t.name.toList)=false/\(t.name.toList==p.name.toList)=false/\Op.bytesLess t.name.toList p.name.toList=false/\vG t (l,b) p=(l++[p],false)\/b=false/\(p.name.toList==t.name.toList)=false/\Op.bytesLess t.name.toList p.name.toList=true/\vG t (l,b) p=(l++[t]++[p],true)\/
 b=false/\(p.name.toList==t.name.toList)=true/\(t.name.toList==p.name.toList)=true/\Op.bytesLess t.name.toList p.name.toList=false/\vG t (l,b) p=(l++[t],true):=by
 cases b with
 |true=>cases h:(p.name.toList==t.name.toList)<;>simp[vG,h]
 |false=>
  by_cases f:wH p.name t.name=true
  ·have d:=dD (yK f);exact Ja (Ja (Ca ⟨rfl,d,dD (yK f).symm,tW f,by simp[vG,f,d]⟩))
  ·have e:wH p.name t.name=false:=by simpa using f
   by_cases g:wH t.name p.name=true
   ·have d:=dD (yK g).symm;exact Ja (Ja (Ja (Ca ⟨rfl,d,g,by simp[vG,e,d]⟩)))
   ·have j:=Decidable.byContradiction fun i=>g (jS e i);have d:=(wC _ _).2 j;exact Ja (Ja (Ja (Ja ⟨rfl,d,(wC _ _).2 j.symm,by simpa[wH]using g,by simp[vG,e,d]⟩)))
structure PW (w W:World) (c:vB) (now:Int) (a:Option Addr) (n cap:Nat) (t:dA) (a1:Option Addr) (c1:Nat) (a2:Option Addr) (c2:Nat):Prop where
 C:eA W w.heap.size #[.int .i64 c.w,.int .i64 c.tl,.int .i64 c.ml,.int .i64 c.sh,.int .i64 c.ha,.int .i64 c.sg] 33
 S:eA W (w.heap.size+1) #[.int .i64 now,.slice a n cap] 51
 T:eA W (w.heap.size+1+1) #[.string t.name,.int .i64 t.l9,.slice a1 t.m9.length c1,.slice a2 t.s9.length c2] 100
 R:eA W (w.heap.size+1+1+1) #[.int .i64 0,.slice none 0 0] 51
 B:Below w.heap.size w W
section
variable {w W W':World} {c:vB} {now:Int} {a:Option Addr} {n cap:Nat} {t:dA} {a1:Option Addr} {c1:Nat} {a2:Option Addr} {c2:Nat}
theorem PW.new (h:W=((((w.alloc (.cells #[.int .i64 c.w,.int .i64 c.tl,.int .i64 c.ml,.int .i64 c.sh,.int .i64 c.ha,.int .i64 c.sg] 33)).alloc (.cells #[.int .i64 now,.slice a n cap] 51)).alloc (.cells #[.string t.name,.int .i64 t.l9,.slice a1 t.m9.length c1,.slice a2 t.s9.length c2] 100)).alloc (.cells #[.int .i64 0,.slice none 0 0] 51))):
 PW w (W.alloc (.cells #[] 100)) c now a n cap t a1 c1 a2 c2/\(W.alloc (.cells #[] 100)).ownsRow (w.heap.size+4) 100 4 (.slice (some ⟨w.heap.size+1+1+1+1,0,none⟩) 0 0) 0 []/\w.heap.size+4<(W.alloc (.cells #[] 100)).heap.size:=by
 subst h;refine⟨⟨((((eA.new _ _ _).alloc _).alloc _).alloc _).alloc _,?_,?_,?_,nA (nA (nA (nA (cA _ _) (cA _ _)) (cA _ _)) (cA _ _)) (cA _ _)⟩,?_,by simp⟩
 ·have:=(((eA.new (w.alloc (.cells #[.int .i64 c.w,.int .i64 c.tl,.int .i64 c.ml,.int .i64 c.sh,.int .i64 c.ha,.int .i64 c.sg] 33)) #[.int .i64 now,.slice a n cap] 51).alloc (.cells #[.string t.name,.int .i64 t.l9,.slice a1 t.m9.length c1,.slice a2 t.s9.length c2] 100)).alloc (.cells #[.int .i64 0,.slice none 0 0] 51)).alloc (.cells #[] 100);simpa using this
 ·have:=((eA.new ((w.alloc (.cells #[.int .i64 c.w,.int .i64 c.tl,.int .i64 c.ml,.int .i64 c.sh,.int .i64 c.ha,.int .i64 c.sg] 33)).alloc (.cells #[.int .i64 now,.slice a n cap] 51)) #[.string t.name,.int .i64 t.l9,.slice a1 t.m9.length c1,.slice a2 t.s9.length c2] 100).alloc (.cells #[.int .i64 0,.slice none 0 0] 51)).alloc (.cells #[] 100);simpa using this
 ·have:=(eA.new (((w.alloc (.cells #[.int .i64 c.w,.int .i64 c.tl,.int .i64 c.ml,.int .i64 c.sh,.int .i64 c.ha,.int .i64 c.sg] 33)).alloc (.cells #[.int .i64 now,.slice a n cap] 51)).alloc (.cells #[.string t.name,.int .i64 t.l9,.slice a1 t.m9.length c1,.slice a2 t.s9.length c2] 100)) #[.int .i64 0,.slice none 0 0] 51).alloc (.cells #[] 100);simpa using this
 ·have:=World.ownsRow_made (e:=100) (size:=4) (base:=w.heap.size+4) ((((w.alloc (.cells #[.int .i64 c.w,.int .i64 c.tl,.int .i64 c.ml,.int .i64 c.sh,.int .i64 c.ha,.int .i64 c.sg] 33)).alloc (.cells #[.int .i64 now,.slice a n cap] 51)).alloc (.cells #[.string t.name,.int .i64 t.l9,.slice a1 t.m9.length c1,.slice a2 t.s9.length c2] 100)).alloc (.cells #[.int .i64 0,.slice none 0 0] 51)) #[] 0 (by simp) (by simp[maxLen]) (by simp);simpa using this
theorem PW.keep (h:PW w W c now a n cap t a1 c1 a2 c2) (b:Below (w.heap.size+4) W W'):PW w W' c now a n cap t a1 c1 a2 c2:=
 ⟨(b.block _ (by omega)).trans h.C,(b.block _ (by omega)).trans h.S,(b.block _ (by omega)).trans h.T,(b.block _ (by omega)).trans h.R,h.B.trans (b.mono (by omega))⟩
end
theorem qZ (c:vB) (Q now:Int) (a:Option Addr) (cap:Nat) (p:List dA) (t:dA) (a1 a2:Option Addr) (c1 c2:Nat) (w:World) (hf:oB w a p) (p1:yA w a1 t.m9) (p2:yA w a2 t.s9) (hlen:p.length<=2000000) (hfit:∀x,x=t\/x∈p->RM x) (hn0:0<=now) (hn1:now<=2000000000000):
 Calls prog 127 #[iD c,.agg #[.int .i64 Q,.slice a p.length cap],.int .i64 now,.agg #[.string t.name,.int .i64 t.l9,.slice a1 t.m9.length c1,.slice a2 t.s9.length c2]] w fun e w'=>∃a' cap',e=.returned (.agg #[.int .i64 now,.slice a' (uC c.w now (CP t t.name.toList.isEmpty p)).length cap'])/\oC w' w.heap.size a' (uC c.w now (CP t t.name.toList.isEmpty p))/\Below w.heap.size w w':=by
 have HF:=bA hf;have HP:=bA (Ud p1 p2);have HFT:=bA hfit;clear hf p1 p2 hfit;obtain⟨RES,L⟩:∃R,R=uC c.w now (CP t t.name.toList.isEmpty p):=⟨_,rfl⟩
 rw[<-L];have HRES:=bA L;clear L;have HW:=bA (PW.new (w:=w) (c:=c) (now:=Q) (a:=a) (n:=p.length) (cap:=cap) (t:=t) (a1:=a1) (c1:=c1) (a2:=a2) (c2:=c2) rfl);unfold iD;go_enter func127,ntmps127;go_upto_region 3 with fail;generalize (((((w.alloc (.cells #[.int .i64 c.w,.int .i64 c.tl,.int .i64 c.ml,.int .i64 c.sh,.int .i64 c.ha,.int .i64 c.sg] 33)).alloc (.cells #[.int .i64 Q,.slice a p.length cap] 51)).alloc (.cells #[.string t.name,.int .i64 t.l9,.slice a1 t.m9.length c1,.slice a2 t.s9.length c2] 100)).alloc (.cells #[.int .i64 0,.slice none 0 0] 51)).alloc (.cells #[] 100))=w1 at *;generalize t.name.toList.isEmpty=b0 at *;obtain⟨hP,hL,hw1⟩:=HW.out;have P1:=bA hP;have L1:=bA hL;obtain⟨-,y1⟩:=hP.S.c2;clear hP hL HW;go_wp2;clear y1;go_loopw [9,10,12,24] (fun al pl _ i wr=>∃(k:Nat) (V:Option Addr) (X:Nat) (o:List TV),k<=p.length/\i=.int .i64 k/\al=.slice V o.length X/\pl=.bool (gT t b0 (p.take k)).2/\o.length<=2*k/\Hid (wr.ownsRow (w.heap.size+4) 100 4 (.slice V o.length X) o.length (jH o))/\Hid (o.map (·.t)=(gT t b0 (p.take k)).1)/\Hid (ld w o)/\Hid (Below (w.heap.size+4) w1 wr)) (fun _ _ _ i _=>p.length-(intOf i).toNat)
 case atStart=>exact⟨0,_,_,[],La _,rfl,rfl,rfl,La _,L1.out,rfl,fun y hy=>(by cases hy),Below.refl _ _⟩
 case round=>
  obtain⟨k,V,X,o,hk,rfl,rfl,rfl,hyl,HR,J,D,r⟩:=hrel;have hsr:=r.out.size;have Pr:=bA (P1.out.keep r.out);by_cases G:k<p.length
  ·obtain⟨pb,po,q1,d1,q2,d2,rfl,hpl,z0,z1,z2,z3,o1,o2⟩:=HF.out.at G;have HO:=bA (Ud o1 o2);have HU:=bA (ij t b0 p k G);have v0:=(Pr.out.B.cell hpl).trans z0;have v1:=(Pr.out.B.cell hpl).trans z1;have v2:=(Pr.out.B.cell hpl).trans z2;have v3:=(Pr.out.B.cell hpl).trans z3;clear z0 z1 z2 z3 o1 o2;generalize gT t b0 (p.take k)=U at *;generalize p[k]=P at *;obtain⟨LU,PU⟩:=U;have hy:o.map (·.t)=LU:=J.out;subst hy;obtain⟨u0,u1,u2,u3⟩:=Pr.out.T.c4;have hlr:w.heap.size+1+1<wr.heap.size:=by omega
   rcases aCj t P (o.map (·.t)) PU with⟨rfl,hs,hU⟩|⟨rfl,hs,hU⟩|⟨rfl,hs,h1,h2,hU⟩|⟨rfl,hs,h2,hU⟩|⟨rfl,hs,h1,h2,hU⟩
   all_goals
    have z:=bA (HU.out.trans hU);clear J HU hU;go_wp2_with(at_builtin;first
     |(refine gN rfl _ _ rfl underlying49 yN rfl (by omega) (by omega) (v:=.slice (some ⟨g7,0,none⟩) (o.length+1) A) rfl s.out rfl rfl rfl (by simp[Value.oneCell']) (by omega) hs7 ?_;intro g8 cap8 H HR8 HT8)
     |(refine gN rfl _ _ rfl underlying49 yN rfl (by omega) (by omega) (v:=.slice V o.length X) rfl (vA HR.out (cA _ _)) rfl (by simp) rfl (by simp[Value.oneCell']) (by omega) (by simp;omega) ?_;intro g7 A w7 s u;have hs7:w.heap.size+4<=w7.heap.size:=(by have:=u.out.size;simp at this;omega);clear u0 u1 u2 u3;obtain⟨u0,u1,u2,u3⟩:=(u.out.blk (Pr.out.T.alloc _) (fun e=>by omega)).c4;obtain⟨r0,r1,r2,r3⟩:=(u.out.blk (eA.new wr #[.string P.name,.int .i64 P.l9,.slice q1 P.m9.length d1,.slice q2 P.s9.length d2] 100) (fun e=>by have:=(HR.out.lt _ e.2).2;omega)).c4))
    first
     |(have q:=HR8;exact⟨⟨k+1,some ⟨g8,0,none⟩,cap8,o++[⟨t,a1,c1,a2,c2⟩]++[⟨P,q1,d1,q2,d2⟩],by omega,by go_num,by simp,by rw[z.out],by simp;omega,bA (by simpa[jH]using HR8.out),bA (by rw[z.out];simp),(D.out.snoc HP.out.1 HP.out.2).snoc HO.out.1 HO.out.2,bA ((r.out.trans (((cA _ _).mono (by omega)).trans (u.out.below (by simp;omega) fun i hi e=>by omega))).trans (HT8.out.below hs7 fun i hi e=>by omega))⟩,by simp[intOf];omega⟩)
     |(have q:=s;have q:(P.name.toList==t.name.toList)=false:=hs;exact⟨⟨k+1,some ⟨g7,0,none⟩,A,o++[⟨P,q1,d1,q2,d2⟩],by omega,by go_num,by simp,by rw[z.out],by simp;omega,bA (by simpa[jH]using s.out),bA (by rw[z.out];simp),D.out.snoc HO.out.1 HO.out.2,bA (r.out.trans (((cA _ _).mono (by omega)).trans (u.out.below (by simp;omega) fun i hi e=>by omega)))⟩,by simp[intOf];omega⟩)
     |(have q:=s;exact⟨⟨k+1,some ⟨g7,0,none⟩,A,o++[⟨t,a1,c1,a2,c2⟩],by omega,by go_num,by simp,by rw[z.out],by simp;omega,bA (by simpa[jH]using s.out),bA (by rw[z.out];simp),D.out.snoc HP.out.1 HP.out.2,bA (r.out.trans (((cA _ _).mono (by omega)).trans (u.out.below (by simp;omega) fun i hi e=>by omega)))⟩,by simp[intOf];omega⟩)
     |exact⟨⟨k+1,V,X,o,by omega,by go_num,rfl,by rw[z.out],by omega,vA HR.out (cA _ _),bA (by rw[z.out]),D.out,r.out.trans ((cA _ _).mono (by omega))⟩,by simp[intOf];omega⟩
  ·have ek:p.take k=p:=Ua (by omega);rw[ek]at J |-
   have HWA:Hid (CP t b0 p=(gT t b0 p).1++if (gT t b0 p).2=true then [] else [t]):=rfl;generalize gT t b0 p=U at *;obtain⟨LU,PU⟩:=U;have hy:o.map (·.t)=LU:=J.out;subst hy;have hyl2:o.length<=4000000:=by omega
   obtain⟨u0,u1,u2,u3⟩:=Pr.out.T.c4;clear ek hyl J;go_upto_if 52 with fail;go_cut [9] (fun al wx=>∃(V:Option Addr) (X:Nat) (o:List TV),al=.slice V o.length X/\o.length<=4000001/\wx.ownsRow (w.heap.size+4) 100 4 (.slice V o.length X) o.length (jH o)/\o.map (·.t)=CP t b0 p/\ld w o/\Below (w.heap.size+4) w1 wx)
   case first=>
    cases PU
    all_goals
     go_wp2_with(at_builtin;refine gN rfl _ _ rfl underlying49 yN rfl (by omega) (by omega) (v:=.slice V o.length X) rfl HR.out rfl rfl rfl (by simp[Value.oneCell']) (by omega) (by omega) ?_;intro g7 A w7 s u);go_meet;first
      |(have q:=s;exact⟨some ⟨g7,0,none⟩,A,o++[⟨t,a1,c1,a2,c2⟩],by simp,by simp;omega,by simpa[jH]using s.out,by rw[HWA.out];simp,D.out.snoc HP.out.1 HP.out.2,r.out.trans (u.out.below (by omega) fun i hi e=>by omega)⟩)
      |exact⟨_,_,o,rfl,by omega,HR.out,by rw[HWA.out];simp,D.out,r.out⟩
   clear HR D r Pr HWA u0 u1 u2 u3 hyl2;obtain⟨V,X,o,rfl,hyl2,hR,hY,hO,hB⟩:=hcut;rename World=>H;have HTA:=bA (aBo hR hO);have P8:=bA (P1.out.keep hB);have hs8:=hB.size;have HRL:Hid (RES=uC c.w now (o.map (·.t))):=by show _=_;rw[HRES.out,hY]
   have HFY:Hid (∀i (h:i<o.length),RM o[i].t):=fun i h=>HFT.out _ (by
    have hm:o[i].t∈o.map (·.t):=List.mem_map_of_mem (Xa h);rw[hY]at hm;exact yo hm)
   clear hR hY hO hB HRES HFT P1 L1;go_wp2;have HX9:=bA (eA.new H #[.int .i64 now,.slice none 0 0] 51);have B9:=bA (cA H (.cells #[.int .i64 now,.slice none 0 0] 51));have hs9:H.heap.size<(H.alloc (.cells #[.int .i64 now,.slice none 0 0] 51)).heap.size:=by simp
   generalize H.alloc (.cells #[.int .i64 now,.slice none 0 0] 51)=w9 at *;go_loopw [15,16,61] (fun _ _ i wr=>∃(k:Nat) (v:Value),k<=o.length/\i=.int .i64 k/\Hid (eA wr H.heap.size #[.int .i64 now,v] 51)/\Hid (gS wr w9.heap.size 100 v (uC c.w now ((o.map (·.t)).take k)).length (uC c.w now ((o.map (·.t)).take k)))/\Hid (gA (·=H.heap.size) w9 wr)) (fun _ _ i _=>o.length-(intOf i).toNat)
   case atStart=>exact⟨0,.slice none 0 0,La _,rfl,HX9.out,gS.nil _ _ _,gA.refl _ _⟩
   case round=>
    obtain⟨k,v,hk,rfl,HX,I,F⟩:=hrel;have hs9r:=F.out.size;have BWr:=bA ((nA P8.out.B B9.out).trans (F.out.below (by omega) fun i hi e=>by omega));by_cases G:k<o.length
    ·obtain⟨b,hbe,hb8,z0,z1,z2,z3,o1,o2⟩:=HTA.out k G;have N:∀j,wr.cell? ⟨b,j,none⟩=H.cell? ⟨b,j,none⟩:=fun j=>World.cell?_of_block ((F.out.block b (by omega) (by omega)).trans (B9.out.block b hb8));have v0:=(N _).trans z0;have v1:=(N _).trans z1;have v2:=(N _).trans z2;have v3:=(N _).trans z3;clear N z0 z1 z2 z3;cases hbe
     have HT:Hid (uC c.w now ((o.map (·.t)).take (k+1))=uC c.w now ((o.map (·.t)).take k)++if iE (fG c.w now o[k].t)=true then [] else [fG c.w now o[k].t]):=by
      show _=_;rw[vb _ _ _ _ (by rw[Rb];exact G)];simp
     have hkl:(uC c.w now ((o.map (·.t)).take k)).length<=4000001:=by
      have:=aEl c.w now (o.map (·.t)) k;rw[Rb]at this;omega
     obtain⟨d,f,l⟩:=HFY.out k G;have HKT:Hid (∀W,Below w.heap.size w W->Calls prog 128 #[.agg #[.string o[k].t.name,.int .i64 o[k].t.l9,.slice o[k].a1 o[k].t.m9.length o[k].c1,.slice o[k].a2 o[k].t.s9.length o[k].c2],.int .i64 now,.int .i64 c.w] W fun e w'=>RU W (fG c.w now o[k].t).name (fG c.w now o[k].t) e w'):=fun W hW=>fe o[k].t _ _ _ _ now c.w W (o1.later hW) (o2.later hW) d f hn0 hn1 l;unfold RU at HKT;clear o1 o2 d f l;generalize uC c.w now ((o.map (·.t)).take k)=KL at *;generalize fG c.w now o[k].t=K at *;generalize o[k]=Y at *;obtain⟨x0,-⟩:=((F.out.blk (P8.out.C.later B9.out) (by omega)).alloc (.cells #[.string Y.t.name,.int .i64 Y.t.l9,.slice Y.a1 Y.t.m9.length Y.c1,.slice Y.a2 Y.t.s9.length Y.c2] 100)).c6;go_wp2_with fail;refine(HKT.out _ (nA BWr.out (cA _ _))).mono ?_;rintro e w4 ⟨M,x1,e1,x2,e2,rfl,hM,h1,h1M,h2,hM4,hb4⟩;have hM':wr.heap.size<=M:=by simp at hM;omega
     have HH1:Hid (dC w4 wr.heap.size x1 K.m9):=h1.mono (by simp);have HH2:=bA (Ud h1M h2);have B4:=bA (nA (cA _ _) hb4);have hs4:=B4.out.size;clear hM h1 h1M h2 hb4 x0 v0 v1 v2 v3;go_wp2_with fail;refine(pZ K _ _ _ _ _).mono ?_;rintro e w5 ⟨rfl,hb5⟩;have B45:Hid _:=nA (cA _ _) hb5;have B5:=bA (nA B4.out B45.out);have X5:=bA ((eA.new w4 #[.string K.name,.int .i64 K.l9,.slice x1 K.m9.length e1,.slice x2 K.s9.length e2] 100).later hb5);have O5:=bA (HX.out.later B5.out);have T5:Hid _:=F.out.trans (gA.of B5.out);have hs5:=aA X5.out;clear hb5 HKT;cases hidl:iE K with
     |true=>
      have HTT:Hid (uC c.w now ((o.map (·.t)).take (k+1))=KL):=by show _=_;rw[HT.out,Qa hidl,Id]
      clear hidl;go_wp2;refine⟨⟨k+1,v,by omega,by go_num,O5.out,?_,T5.out⟩,by simp[intOf];omega⟩;rw[HTT.out];exact I.out.turn (gA.of (S:=fun _=>False) B5.out) (fun _ e=>e.elim)
     |false=>
      have HTT:Hid (uC c.w now ((o.map (·.t)).take (k+1))=KL++[K]):=by show _=_;rw[HT.out,Oa (by rw[hidl];simp)]
      clear hidl;obtain⟨TG,zs,hV1,hV2,hV3,hV4⟩:=I.out;have HV1:=bA (vA hV1 B5.out);have a0:=bA (⟨hV2,hV3,hV4⟩:_/\_/\_);have HOB:=bA (fun q (hq:v.ownBlock=some q)=>hV1.lt q hq);clear hV1 hV2 hV3 hV4;obtain⟨-,s1⟩:=O5.out.c2;obtain⟨r0,r1,r2,r3⟩:=X5.out.c4;go_wp2_with(at_builtin;refine cK rfl _ _ rfl underlying49 yN rfl (by omega) (by omega) (v:=v) rfl HV1.out rfl rfl rfl (by simp[Value.oneCell']) (by omega) (by omega) ?_;intro gg E w6 HO6 Z HAT6;have BX6:=bA (Z.out.blk O5.out (fun e=>by omega));obtain⟨-,s2⟩:=BX6.out.c2;have s3:=BX6.out.free);have hgg:(v.ownBlock=some gg/\gg<wr.heap.size)\/w4.heap.size<=gg:=HAT6.out.elim (fun h=>Ca ⟨h,(HOB.out _ h).2⟩) fun h=>Ja (by omega);have hgb:=hgg.elim (fun h=>(HOB.out _ h.1).1) fun h=>by omega
      have O:gA (·=H.heap.size) w6 (w6.setCell ⟨H.heap.size,1,none⟩ (.slice (some ⟨gg,0,none⟩) (KL.length+1) E)):=(gA.refl (·=H.heap.size) w6).setCell (Ca rfl) 1 _;have hgs:=Z.out.size;have hk5:∀g,g<w5.heap.size->w9.heap.size<=g->v.ownBlock≠some g->(w6.setCell ⟨H.heap.size,1,none⟩ (.slice (some ⟨gg,0,none⟩) (KL.length+1) E)).heap[g]?=w5.heap[g]?:=fun g hg hgR2 hne=>by
       rw[O.block g (by omega) (by omega),Z.out.block g hg (fun e=>hne e.2)]
      refine⟨⟨k+1,.slice (some ⟨gg,0,none⟩) (KL.length+1) E,by omega,by go_num,bA (by have:=BX6.out.set 1 (.slice (some ⟨gg,0,none⟩) (KL.length+1) E);simpa using this),?_,(T5.out.trans (Z.out.mono fun i _ e=>Ja e.1)).trans' O⟩,by simp[intOf];omega⟩;rw[HTT.out,Za];have hyk:zs.length=KL.length:=by rw[<-a0.out.1,Rb]
      exact gS.snoc (wr:=wr) (w4:=w4) (M:=M) (v:=v) (T:=TG) (ys:=zs) (O.row HO6.out (fun q hq e=>by simp[Value.ownBlock]at hq;omega)) a0.out.1 hyk a0.out.2.1 a0.out.2.2 (by omega) hM'
       (fun g hg hgR2 hne=>(hk5 g (by omega) hgR2 hne).trans (B5.out.block g hg))
       (fun g hg hg4=>(hk5 g (by omega) (by omega) (fun e=>by have:=(HOB.out _ e).2;omega)).trans (B45.out.block g hg4))
       HH1.out HH2.out.1 HH2.out.2 hgg hs4 hM4
    ·have ek:(o.map (·.t)).take k=o.map (·.t):=Ua (by rw[Rb];omega);rw[ek,<-HRL.out]at I;obtain⟨ra,rc,rfl⟩:=I.out.row;have Yr:=bA (F.out.blk (P8.out.R.later B9.out) (by omega));obtain⟨x0,x1⟩:=HX.out.c2;obtain⟨y0,y1⟩:=Yr.out.c2;have m:=Yr.out.free;go_wp2;have HTE:gA (·=w.heap.size+1+1+1) wr ((wr.setCell ⟨w.heap.size+1+1+1,0,none⟩ (.int .i64 now)).setCell ⟨w.heap.size+1+1+1,1,none⟩ (.slice ra RES.length rc)):=((gA.refl (·=w.heap.size+1+1+1) wr).setCell (Ca rfl) 0 _).setCell (Ca rfl) 1 _;refine bodyPost_ret (v:=.agg #[.int .i64 now,.slice ra RES.length rc]) (by simp[results,results127,go_sem,y0,y1]) rfl ⟨ra,⟨rc,rfl⟩,((I.out.turn HTE (fun g e=>by omega)).own rfl).mono (by omega),((gA.of (S:=fun i=>w.heap.size<=i) BWr.out).trans' (HTE.mono fun i _ e=>by omega)).below (Ka _) fun i hi h=>by omega⟩
theorem YA (d:Int) (a q:Option Addr) (p g:Nat) (c:List dA) (w:World) (hf:oB w a c) (H:oB w q c) (I:c.length<=maxLen) (V:∀i (h:i<c.length),c[i].m9.length<=maxLen/\c[i].s9.length<=maxLen):
 Calls prog 15 #[.agg #[.int .i64 d,.slice a c.length p],.agg #[.int .i64 d,.slice q c.length g]] w fun e w'=>e=.returned (.bool true)/\Below w.heap.size w w':=by
 unfold maxLen at I V;have Z:Hid (oB w a c):=hf;have F:Hid (oB w q c):=H;have HL:=bA V;clear hf H V;go_enter func15,ntmps15;go_wp2;have X0:Hid (eA ((w.alloc (.cells #[.int .i64 d,.slice a c.length p] 51)).alloc (.cells #[.int .i64 d,.slice q c.length g] 51)) w.heap.size #[.int .i64 d,.slice a c.length p] 51):=(eA.new _ _ _).alloc _;have Y0:Hid (eA ((w.alloc (.cells #[.int .i64 d,.slice a c.length p] 51)).alloc (.cells #[.int .i64 d,.slice q c.length g] 51)) (w.heap.size+1) #[.int .i64 d,.slice q c.length g] 51):=bA (by have:=eA.new (w.alloc (.cells #[.int .i64 d,.slice a c.length p] 51)) #[.int .i64 d,.slice q c.length g] 51;simpa using this);have B0:Hid (Below w.heap.size w ((w.alloc (.cells #[.int .i64 d,.slice a c.length p] 51)).alloc (.cells #[.int .i64 d,.slice q c.length g] 51))):=nA (cA _ _) (cA _ _);have Y:Hid (oB ((w.alloc (.cells #[.int .i64 d,.slice a c.length p] 51)).alloc (.cells #[.int .i64 d,.slice q c.length g] 51)) a c/\oB ((w.alloc (.cells #[.int .i64 d,.slice a c.length p] 51)).alloc (.cells #[.int .i64 d,.slice q c.length g] 51)) q c):=⟨Z.out.later (nA (cA _ _) (cA _ _)),F.out.later (nA (cA _ _) (cA _ _))⟩
 generalize ((w.alloc (.cells #[.int .i64 d,.slice a c.length p] 51)).alloc (.cells #[.int .i64 d,.slice q c.length g] 51))=L at *;clear Z F;go_loopw [27] (fun i wr=>∃k:Nat,k<=c.length/\i=.int .i64 (k:Nat)/\Hid (Below L.heap.size L wr)) (fun i _=>c.length-(intOf i).toNat)
 case atStart=>exact⟨0,La _,rfl,Below.refl _ _⟩
 case round=>
  obtain⟨k,hk,rfl,D⟩:=hrel;by_cases E:k<c.length
  ·have J:(k:Int)<(c.length:Nat):=by omega
   have XR:=bA (X0.out.later D.out);have R:=bA (Y0.out.later D.out);have x1:=XR.out.cell 1;have y1:=R.out.cell 1;have hy:w.heap.size+1<wr.heap.size:=aA R.out;obtain⟨b,o,r,y,s,z,rfl,hb,c0,c1,c2,c3,p1,p2⟩:=(Y.out.1.later D.out).at E;obtain⟨b',o',t,A,u,B,rfl,S,e0,e1,e2,e3,s1,s2⟩:=(Y.out.2.later D.out).at E;obtain⟨hm1,hm2⟩:=HL.out k E;have G:Hid (yA wr r c[k].m9/\yA wr t c[k].m9/\yA wr s c[k].s9/\yA wr u c[k].s9):=⟨p1,s1,p2,s2⟩
   clear p1 p2 s1 s2;generalize c[k].name=n at *;generalize c[k].l9=m at *;generalize c[k].m9=l at *;generalize c[k].s9=ss at *;go_wp2;have N:Hid (eA ((wr.alloc (.cells #[.string n,.int .i64 m,.slice r l.length y,.slice s ss.length z] 100)).alloc (.cells #[.string n,.int .i64 m,.slice t l.length A,.slice u ss.length B] 100)) wr.heap.size #[.string n,.int .i64 m,.slice r l.length y,.slice s ss.length z] 100):=(eA.new _ _ _).alloc _;have X:Hid (eA ((wr.alloc (.cells #[.string n,.int .i64 m,.slice r l.length y,.slice s ss.length z] 100)).alloc (.cells #[.string n,.int .i64 m,.slice t l.length A,.slice u ss.length B] 100)) (wr.heap.size+1) #[.string n,.int .i64 m,.slice t l.length A,.slice u ss.length B] 100):=bA (by have:=eA.new (wr.alloc (.cells #[.string n,.int .i64 m,.slice r l.length y,.slice s ss.length z] 100)) #[.string n,.int .i64 m,.slice t l.length A,.slice u ss.length B] 100;simpa using this);have WB:Hid (Below L.heap.size L ((wr.alloc (.cells #[.string n,.int .i64 m,.slice r l.length y,.slice s ss.length z] 100)).alloc (.cells #[.string n,.int .i64 m,.slice t l.length A,.slice u ss.length B] 100))):=nA D.out (nA (cA _ _) (cA _ _));have K:Hid (yA ((wr.alloc (.cells #[.string n,.int .i64 m,.slice r l.length y,.slice s ss.length z] 100)).alloc (.cells #[.string n,.int .i64 m,.slice t l.length A,.slice u ss.length B] 100)) r l/\yA ((wr.alloc (.cells #[.string n,.int .i64 m,.slice r l.length y,.slice s ss.length z] 100)).alloc (.cells #[.string n,.int .i64 m,.slice t l.length A,.slice u ss.length B] 100)) t l/\yA ((wr.alloc (.cells #[.string n,.int .i64 m,.slice r l.length y,.slice s ss.length z] 100)).alloc (.cells #[.string n,.int .i64 m,.slice t l.length A,.slice u ss.length B] 100)) s ss/\yA ((wr.alloc (.cells #[.string n,.int .i64 m,.slice r l.length y,.slice s ss.length z] 100)).alloc (.cells #[.string n,.int .i64 m,.slice t l.length A,.slice u ss.length B] 100)) u ss):=⟨G.out.1.later (nA (cA _ _) (cA _ _)),G.out.2.1.later (nA (cA _ _) (cA _ _)),G.out.2.2.1.later (nA (cA _ _) (cA _ _)),G.out.2.2.2.later (nA (cA _ _) (cA _ _))⟩
   generalize ((wr.alloc (.cells #[.string n,.int .i64 m,.slice r l.length y,.slice s ss.length z] 100)).alloc (.cells #[.string n,.int .i64 m,.slice t l.length A,.slice u ss.length B] 100))=M at *;generalize wr.heap.size=BX at *;clear D XR R x1 y1 G c0 c1 c2 c3 e0 e1 e2 e3 hb S hy;clear wr;go_loopw [73] (fun i wr=>∃j:Nat,j<=l.length/\i=.int .i64 (j:Nat)/\Hid (Below M.heap.size M wr)) (fun i _=>l.length-(intOf i).toNat)
   case atStart=>exact⟨0,La _,rfl,Below.refl _ _⟩
   case round=>
    obtain⟨j,hj,rfl,f⟩:=hrel;by_cases v:j<l.length
    ·have x:(j:Int)<(l.length:Nat):=by omega
     have O:=bA (N.out.later f.out);have P:=bA (X.out.later f.out);have u0:=O.out.cell 2;have u1:=P.out.cell 2;obtain⟨g1,o1,rfl,T,d0,d1⟩:=(K.out.1.later f.out).at v;obtain⟨g2,o2,rfl,U,d2,d3⟩:=(K.out.2.1.later f.out).at v;generalize l[j]=pr at *;go_wp2_with fail;go_region
     go_wp2;exact⟨⟨j+1,by omega,by go_num,f.out.drew⟩,by simp[intOf];omega⟩
    ·have x:¬((j:Int)<(l.length:Nat)):=by omega
     have Q:=bA f.out;have c3a:=(N.out.later f.out).cell 3;clear f;go_wp2;obtain⟨wz,W⟩:∃wz:World,wz=wr:=⟨_,rfl⟩
     subst W;go_loopw [91] (fun i wr=>∃C:Nat,C<=ss.length/\i=.int .i64 (C:Nat)/\Hid (Below M.heap.size M wr)) (fun i _=>ss.length-(intOf i).toNat)
     case atStart=>exact⟨0,La _,rfl,Q.out⟩
     case round=>
      obtain⟨C,hjj,rfl,f⟩:=hrel;by_cases v:C<ss.length
      ·have x:(C:Int)<(ss.length:Nat):=by omega
       have O:=bA (N.out.later f.out);have P:=bA (X.out.later f.out);have u0:=O.out.cell 3;have u1:=P.out.cell 3;obtain⟨g1,o1,rfl,T,d0,d1⟩:=(K.out.2.2.1.later f.out).at v;obtain⟨g2,o2,rfl,U,d2,d3⟩:=(K.out.2.2.2.later f.out).at v;generalize ss[C]=pr at *;go_wp2_with fail;go_region
       go_wp2;exact⟨⟨C+1,by omega,by go_num,f.out.drew⟩,by simp[intOf];omega⟩
      ·have x:¬((C:Int)<(ss.length:Nat)):=by omega
       go_wp2;exact⟨⟨k+1,by omega,by go_num,nA WB.out f.out⟩,by simp[intOf];omega⟩
  ·have J:¬((k:Int)<(c.length:Nat)):=by omega
   go_wp2;go_ret;exact⟨rfl,nA B0.out D.out⟩
