import Derived.Test.YtcneojllbkacoaaGreatDoorJ31IPop
import Derived.Test.YtcneojllbkacoaaGreatDoorJ30LogHelp
import Derived.Test.YtcneojllbkacoaaGreatDoorJ40OpNd
set_option maxRecDepth 100000
set_option maxHeartbeats 8000000
namespace Go.Proofs.YtcneojllbkacoaaGreatDoor
open Go.RowKit
theorem gZ {W:World}{B:Nat}{e:TypeId}{size:Nat}{v:Value}{n:Nat}{xs:List Value} (h:W.ownsRow B e size v n xs):∃a c,v=.slice a n c:=by
 rcases h.2 with ⟨rfl,rfl⟩ | ⟨g,cap,cur,rfl,_⟩
 ·exact ⟨none,0,rfl⟩
 ·exact ⟨_,_,rfl⟩
theorem aIa {C:World→Prop}{w:World}{cs cs':Array Value}{t t':TypeId} (k:∀W,Below w.heap.size w W→lA W w.heap.size cs t→lA W (w.heap.size+1) cs' t'→W.heap.size=w.heap.size+1+1→C W):C ((w.alloc (.cells cs t)).alloc (.cells cs' t')):=
 k _ (rA (bA _ _) (bA _ _)) ((lA.new w _ _).alloc _) (by have:=lA.new (w.alloc (.cells cs t)) cs' t';simpa using this) (by simp)
theorem aDz (W:World) (a:Option Addr) (cap:Nat) (fs:List eA) (hf:kA W a fs) (hlen:fs.length≤2000000):
 ∃a1 cap1 w2,(Builtin.append_ #[37,37] 37 #[.slice (some ⟨W.heap.size,0,none⟩) 0 0,.slice a fs.length cap]).run Tryz.prog (W.alloc (.cells #[] 116))=.ok (.slice a1 fs.length cap1) w2∧
  yE w2 W.heap.size a1 fs∧Below W.heap.size W w2∧∀g o,a1=some ⟨g,o,none⟩→g<w2.heap.size:=by
 obtain ⟨i,hi,hz0,hz1,hz2⟩:=cH;cases a with
 | none=>
   have h0:fs=[]:=by
    rcases hf with h | ⟨b,o,e,_⟩
    ·exact h
    ·exact absurd e (by simp)
   subst h0;refine ⟨some ⟨W.heap.size,0,none⟩,0,W.alloc (.cells #[] 116),?_,Or.inl rfl,bA _ _,fun g o e=>by simp only [Option.some.injEq,Addr.mk.injEq] at e;simp;omega⟩;simp [Builtin.append_,run_underlying Tryz.underlying37,sizeOf,typeInfo,hi,Builtin.lenOf,Builtin.firstCells,storeCells]
 | some ad=>
   have hown:=World.ownsRow_made W (e:=116) (size:=3) #[] 0 (Nat.le_refl _) (by simp [maxLen]) (by simp);have hnews:∀j u,(flat fs)[j]?=some u→(W.alloc (.cells #[] 116)).cell? (ad.add j)=some u:=by
    rcases hf.later (bA W (.cells #[] 116)) with rfl | ⟨b,o,e,_,h⟩
    ·intro j u h;simp [flat] at h
    ·simp only [Option.some.injEq] at e;subst e;exact uJ h
   obtain ⟨v',w',hr,h2,h3,_,_⟩:=run_append_own_at (P:=Tryz.prog) (W.alloc (.cells #[] 116)) W.heap.size 37 37 116 i _ 3 40 Tryz.underlying37 hi hz0 hz1 hz2 rfl (by omega) (.slice (some ⟨W.heap.size,0,none⟩) 0 0) 0 [] hown ad fs.length cap (flat fs) (cD fs) hnews (aE fs) (by simp [maxLen];omega) (by omega) (by simp);simp only [Nat.zero_add,List.nil_append] at h2;have hbel:Below W.heap.size W w':=(bA _ _).grown h3 (by simp) (fun k hk=>by
    simp [Value.ownBlock] at hk;omega)
   obtain ⟨a1,cap1,rfl⟩:=gZ h2;exact ⟨a1,cap1,w',hr,(by obtain ⟨a2,c2,e,ho⟩:=kF h2;simp only [Value.slice.injEq] at e;obtain ⟨rfl,_,_⟩:=e;exact ho),hbel,fun g o e=>(h2.lt g (by rw [e];rfl)).2⟩
theorem aEa (W:World) (a:Option Addr) (cap:Nat) (fs:List gA) (hf:sA W a fs) (hlen:fs.length≤2000000):
 ∃a1 cap1 w2,(Builtin.append_ #[92,92] 92 #[.slice (some ⟨W.heap.size,0,none⟩) 0 0,.slice a fs.length cap]).run Tryz.prog (W.alloc (.cells #[] 149))=.ok (.slice a1 fs.length cap1) w2∧
  fB w2 W.heap.size a1 fs∧Below W.heap.size W w2∧∀g o,a1=some ⟨g,o,none⟩→g<w2.heap.size:=by
 obtain ⟨i,hi,hz0,hz1,hz2⟩:=info_parts UH;cases a with
 | none=>
   have h0:fs=[]:=by
    rcases hf with h | ⟨b,o,e,_⟩
    ·exact h
    ·exact absurd e (by simp)
   subst h0;refine ⟨some ⟨W.heap.size,0,none⟩,0,W.alloc (.cells #[] 149),?_,Or.inl rfl,bA _ _,fun g o e=>by simp only [Option.some.injEq,Addr.mk.injEq] at e;simp;omega⟩;simp [Builtin.append_,run_underlying Tryz.underlying92,sizeOf,typeInfo,hi,Builtin.lenOf,Builtin.firstCells,storeCells]
 | some ad=>
   have hown:=World.ownsRow_made W (e:=149) (size:=2) #[] 0 (Nat.le_refl _) (by simp [maxLen]) (by simp);have hnews:∀j u,(flatK fs)[j]?=some u→(W.alloc (.cells #[] 149)).cell? (ad.add j)=some u:=by
    rcases hf.later (bA W (.cells #[] 149)) with rfl | ⟨b,o,e,_,h⟩
    ·intro j u h;simp [flatK] at h
    ·simp only [Option.some.injEq] at e;subst e;exact hJ h
   obtain ⟨v',w',hr,h2,h3,_,_⟩:=run_append_own_at (P:=Tryz.prog) (W.alloc (.cells #[] 149)) W.heap.size 92 92 149 i _ 2 24 Tryz.underlying92 hi hz0 hz1 hz2 rfl (by omega) (.slice (some ⟨W.heap.size,0,none⟩) 0 0) 0 [] hown ad fs.length cap (flatK fs) (fI fs) hnews (aI fs) (by simp [maxLen];omega) (by omega) (by simp);simp only [Nat.zero_add,List.nil_append] at h2;have hbel:Below W.heap.size W w':=(bA _ _).grown h3 (by simp) (fun k hk=>by
    simp [Value.ownBlock] at hk;omega)
   obtain ⟨a1,cap1,rfl⟩:=gZ h2;exact ⟨a1,cap1,w',hr,lC h2,hbel,fun g o e=>(h2.lt g (by rw [e];rfl)).2⟩
theorem aEb (W:World) (a:Option Addr) (cap:Nat) (fs:List gA) (hf:sA W a fs) (hlen:fs.length≤2000000):
 ∃a1 cap1 w2,(Builtin.append_ #[93,93] 93 #[.slice (some ⟨W.heap.size,0,none⟩) 0 0,.slice a fs.length cap]).run Tryz.prog (W.alloc (.cells #[] 151))=.ok (.slice a1 fs.length cap1) w2∧
  fB w2 W.heap.size a1 fs∧Below W.heap.size W w2∧∀g o,a1=some ⟨g,o,none⟩→g<w2.heap.size:=by
 obtain ⟨i,hi,hz0,hz1,hz2⟩:=info_parts UI;cases a with
 | none=>
   have h0:fs=[]:=by
    rcases hf with h | ⟨b,o,e,_⟩
    ·exact h
    ·exact absurd e (by simp)
   subst h0;refine ⟨some ⟨W.heap.size,0,none⟩,0,W.alloc (.cells #[] 151),?_,Or.inl rfl,bA _ _,fun g o e=>by simp only [Option.some.injEq,Addr.mk.injEq] at e;simp;omega⟩;simp [Builtin.append_,run_underlying Tryz.underlying93,sizeOf,typeInfo,hi,Builtin.lenOf,Builtin.firstCells,storeCells]
 | some ad=>
   have hown:=World.ownsRow_made W (e:=151) (size:=2) #[] 0 (Nat.le_refl _) (by simp [maxLen]) (by simp);have hnews:∀j u,(flatK fs)[j]?=some u→(W.alloc (.cells #[] 151)).cell? (ad.add j)=some u:=by
    rcases hf.later (bA W (.cells #[] 151)) with rfl | ⟨b,o,e,_,h⟩
    ·intro j u h;simp [flatK] at h
    ·simp only [Option.some.injEq] at e;subst e;exact hJ h
   obtain ⟨v',w',hr,h2,h3,_,_⟩:=run_append_own_at (P:=Tryz.prog) (W.alloc (.cells #[] 151)) W.heap.size 93 93 151 i _ 2 24 Tryz.underlying93 hi hz0 hz1 hz2 rfl (by omega) (.slice (some ⟨W.heap.size,0,none⟩) 0 0) 0 [] hown ad fs.length cap (flatK fs) (fI fs) hnews (aI fs) (by simp [maxLen];omega) (by omega) (by simp);simp only [Nat.zero_add,List.nil_append] at h2;have hbel:Below W.heap.size W w':=(bA _ _).grown h3 (by simp) (fun k hk=>by
    simp [Value.ownBlock] at hk;omega)
   obtain ⟨a1,cap1,rfl⟩:=gZ h2;exact ⟨a1,cap1,w',hr,lC h2,hbel,fun g o e=>(h2.lt g (by rw [e];rfl)).2⟩
theorem ZT (a:Option Addr) (ca:Nat) (K:cE) (w:World) (hf:kA w a K.fs) (hl:K.fs.length≤1048576):
 Calls Tryz.prog 49 #[.agg #[.slice a K.fs.length ca,.int .i64 K.c,.int .i64 K.k,.int .i64 K.cr,.int .i64 K.fl,.bool K.dn]] w fun e w'=>∃a' ca',e=.returned (.agg #[.slice a' K.fs.length ca',.int .i64 K.c,.int .i64 K.k,.int .i64 K.cr,.int .i64 K.fl,.bool K.dn])∧tF w' (fun x=>w.heap.size≤x∧x<w'.heap.size) a' K.fs∧Below w.heap.size w w':=by
 go_enter Tryz.func49,Tryz.ntmps49;go_upto_region 1 with fail;refine aIa (C:=fun W=>Code.wp Tryz.prog _ _ _ W) ?_;intro w0 hb0 P0 R0 hz0;obtain ⟨a1,c1,w2,hrun,ho,hb2,_⟩:=aDz w0 a ca K.fs (hf.later hb0) (by omega);have HRUN:=iA hrun;have P2:=P0.later hb2;have R2:=R0.later hb2;have W2:=iA (ho.toA (Nat.le_refl _));have B2:=iA (rA hb0 hb2);have hz2:=hb2.size;have q0:w0.cell? ⟨w.heap.size,0,none⟩=some (.slice a K.fs.length ca):=P0.cell 0;have hn0:w.heap.size<w0.heap.size:=by omega
 have hn1:¬w.heap.size=w0.heap.size:=by omega
 have p0:=P2.cell 0;have p1:=P2.cell 1;have p2:=P2.cell 2;have p3:=P2.cell 3;have p4:=P2.cell 4;have p5:=P2.cell 5;have r0:=R2.cell 0;have r1:=R2.cell 1;have r2:=R2.cell 2;have r3:=R2.cell 3;have r4:=R2.cell 4;have r5:=R2.cell 5;simp only [List.getElem?_toArray,List.getElem?_cons_zero,List.getElem?_cons_succ] at p0 p1 p2 p3 p4 p5 r0 r1 r2 r3 r4 r5;obtain ⟨f0,f1,f2,f3,f4,f5,_⟩:=P2.frees;obtain ⟨g0,g1,g2,g3,g4,g5,_⟩:=R2.frees;have HZ:=iA hz0;clear hb0 P0 R0 hrun ho hb2 P2 R2 hf hz0;go_wp2_with (at_builtin;refine Lib.wpList_append_run _ rfl _ _ _ _ rfl _ _ rfl rfl _ _ HRUN.out ?_);refine bodyPost_ret (v:=.agg #[.slice a1 K.fs.length c1,.int .i64 K.c,.int .i64 K.k,.int .i64 K.cr,.int .i64 K.fl,.bool K.dn]) (by simp [results,Tryz.results49,go_sem,r0,r1,r2,r3,r4,r5]) rfl ?_;refine dA.end2 (S:=fun x=>x=w.heap.size∨x=w.heap.size+1) (C:=fun W=>∃a' ca',Ending.returned (.agg #[.slice a1 K.fs.length c1,.int .i64 K.c,.int .i64 K.k,.int .i64 K.cr,.int .i64 K.fl,.bool K.dn])=Ending.returned (.agg #[.slice a' K.fs.length ca',.int .i64 K.c,.int .i64 K.k,.int .i64 K.cr,.int .i64 K.fl,.bool K.dn])∧tF W (fun x=>w.heap.size≤x∧x<W.heap.size) a' K.fs∧Below w.heap.size w W) w2 (by
  repeat (with_reducible first | exact dA.refl _ _ | refine dA.setCell ?_ (Or.inl (by first | exact Or.inl rfl | exact Or.inr rfl)) _ _)) ?_
 intro w6 T6;have hz6:=T6.size;have hz0:=HZ.out;exact ⟨_,_,rfl,(W2.out.turned T6 (fun x hx _ e=>by omega)).mono (fun x hx=>by omega),B2.out.trans (T6.below (by have:=B2.out.size;omega) (fun k hk e=>by omega))⟩
end Go.Proofs.YtcneojllbkacoaaGreatDoor
namespace Go.Proofs.YtcneojllbkacoaaGreatDoor
open Go.RowKit Go.Maps
theorem aEn (p q:Value) (w:World):(Instr.field 309 (.agg #[p,q]) 0).run Tryz.prog w=.ok p w:=by kernel_rfl
def XX (S:Nat→Prop) (x:Nat) (t:cA) (M:Nat) (u:Int) (wr:World) (n:Nat):Prop:=
 ∃xs lm sm cm iv Q hs D,wM wr S x ⟨t.name,t.limit,t.mets,xs⟩ M lm sm cm iv Q hs D∧xs.filter (fun p=>decide (u<p.n))=t.sers.filter (fun p=>decide (u<p.n))∧(∀p∈xs,p∈t.sers)∧xs.length≤t.sers.length∧hs.countP (fun s=>decide (s.t≤u))=n
theorem jV {R:Nat→Prop} (h:∃n,R n):R (Classical.epsilon fun m=>R m∧∀k,R k→m≤k)∧∀k,R k→(Classical.epsilon fun m=>R m∧∀k,R k→m≤k)≤k:=Classical.epsilon_spec (aJj h)
theorem aJk {R R':Nat→Prop}{n:Nat} (h:R' n) (hn:n<Classical.epsilon fun m=>R m∧∀k,R k→m≤k):(Classical.epsilon fun m=>R' m∧∀k,R' k→m≤k)<Classical.epsilon fun m=>R m∧∀k,R k→m≤k:=
 Nat.lt_of_le_of_lt ((jV ⟨n,h⟩).2 n h) hn
theorem aIt {w:World}{S:Nat→Prop}{x:Nat}{t:cA}{M lm sm cm:Nat}{iv:Value}{Q:List (gA×Nat)}{hs:List rF}{D:DataW Unit}{xs:List gA}{u win now:Int} (h:wM w S x ⟨t.name,t.limit,t.mets,xs⟩ M lm sm cm iv Q hs D) (hu:u=now - win) (hf:xs.filter (fun p=>decide (u<p.n))=t.sers.filter (fun p=>decide (u<p.n))) (hno:¬(0<hs.length∧(rB hs 0).t≤u)):
 zB w S x (eD win now t) M:=by
 have ha:∀p∈xs,u<p.n:=fun p hp=>by
  have hpq:p∈Q.map (·.1):=by rw [h.q1];exact hp
  obtain ⟨q,hq,rfl⟩:=List.mem_map.1 hpq;have hb:=h.perm.mem_iff.2 (List.mem_map_of_mem hq);obtain ⟨s,hs',e⟩:=List.mem_map.1 hb;have h1:=h.early s hs' q hq e.symm;have h2:=aPk h.heap hs';have h3:=List.length_pos_of_mem hs';have h4:¬(rB hs 0).t≤u:=fun h'=>hno ⟨h3,h'⟩;omega
 rw [aFh hu hf ha];exact ⟨lm,sm,cm,iv,Q,hs,D,h⟩
theorem aMd {w w1 w4:World}{S:Nat→Prop}{x:Nat}{t:cA}{M lm sm cm n:Nat}{iv iv':Value}{Q:List (gA×Nat)}{hs:List rF}{D:DataW Unit}{xs:List gA}{u:Int}{q:gA×Nat}{c:Nat} (h:wM w S x ⟨t.name,t.limit,t.mets,xs⟩ M lm sm cm iv Q hs D) (hf:xs.filter (fun p=>decide (u<p.n))=t.sers.filter (fun p=>decide (u<p.n))) (hsub:∀p∈xs,p∈t.sers) (hl:xs.length≤t.sers.length)
 (h0:0<hs.length) (ht:(rB hs 0).t≤u) (hq:q∈Q) (hb:q.2=(rB hs 0).b) (hL:q.1.n≤u) (hp:DF w w1 x t.limit lm sm cm iv iv' hs) (t4:dA (fun k=>k=sm∨k=cm) w1 w4) (own2:w4.ownsMap Tryz.prog 9 wC sm n (DataW.del (kC (Q.map fun q=>(q.1.s,kD q.2))) (kL q.1.s)))
 (own4:w4.ownsMap Tryz.prog 9 (plainElem Tryz.prog 3) cm M (D.put (kL (bC q.1.s)) (uF c))) (hc:mF bC xs (bC q.1.s)=c+1):
 (∃k,XX S x t M u w4 k∧k<hs.countP (fun s=>decide (s.t≤u)))∧dA S w w4:=by
 obtain ⟨h1,h2⟩:=h.dropped (c:=c) h0 hq hb hp t4 own2 own4 hc;refine ⟨⟨_,⟨_,lm,sm,cm,iv',_,_,_,h1,?_,fun p hp'=>hsub p (jN.1 hp').1,?_,rfl⟩,?_⟩,h2⟩
 ·rw [←hf];unfold aD;rw [List.filter_filter];apply List.filter_congr;intro p hp';by_cases e:p.s=q.1.s
  ·have hqx:q.1∈xs:=by have:=List.mem_map_of_mem (f:=(·.1)) hq;rw [h.q1] at this;exact this
   have e1:=gI h.rs hp';have e2:=gI h.rs hqx;have:p=q.1:=by
    have e3:some p=some q.1:=by rw [←e1,←e2];show cB (fun p:gA=>p.s) p.s xs=cB (fun p:gA=>p.s) q.1.s xs;rw [e]
    exact Option.some.inj e3
   rw [this,decide_eq_false (by omega)];simp
  ·rw [iC e];simp
 ·have:(aD (·.s) q.1.s xs).length≤xs.length:=List.length_filter_le _ _;exact Nat.le_trans this hl
 ·have:=UX h.heap h0 ht;omega
theorem aIs {w w1 w4:World}{S:Nat→Prop}{x:Nat}{t:cA}{M lm sm cm:Nat}{iv iv':Value}{Q:List (gA×Nat)}{hs:List rF}{D:DataW Unit}{xs:List gA}{u:Int}{q:gA×Nat}{g cap B:Nat} (h:wM w S x ⟨t.name,t.limit,t.mets,xs⟩ M lm sm cm iv Q hs D) (hf:xs.filter (fun p=>decide (u<p.n))=t.sers.filter (fun p=>decide (u<p.n))) (hsub:∀p∈xs,p∈t.sers) (hl:xs.length≤t.sers.length)
 (h0:0<hs.length) (ht:(rB hs 0).t≤u) (hq:q∈Q) (hb:q.2=(rB hs 0).b) (hL:u<q.1.n) (hp:DF w w1 x t.limit lm sm cm iv iv' hs)
 (hb4:lA w4 x #[.int .i64 t.limit,.map (some lm),.map (some sm),.map (some cm),.slice (some ⟨g,0,none⟩) ((lK hs).length+1) cap] 229)
 (hr4:w4.ownsRow 0 309 2 (.slice (some ⟨g,0,none⟩) ((lK hs).length+1) cap) ((lK hs).length+1) (kH (vM (lK hs) ⟨q.2,q.1.n⟩))) (hloc:iv'.ownBlock=some g∨w1.heap.size≤g) (t4:dA (fun k=>k=x∨iv'.ownBlock=some k) w1 w4) (hB:B≤w.heap.size) (hS:∀g,B≤g→w.heap.size≤g→S g):
 (∃k,XX S x t M u w4 k∧k<hs.countP (fun s=>decide (s.t≤u)))∧dA S w w4:=by
 obtain ⟨h1,h2⟩:=h.again h0 hq hb hp hb4 hr4 hloc t4 hB hS;refine ⟨⟨_,⟨xs,lm,sm,cm,_,_,_,_,h1,hf,hsub,hl,rfl⟩,?_⟩,h2⟩;have h3:=UX h.heap h0 ht;rw [aFl (cL h.heap h0).1 (by exact hL)];omega
theorem YY (x:Nat) (t:cA) (win now u:Int) (S:Nat→Prop) (M:Nat) (w0 w:World) (h:zB w S x t M) (h0:Below w0.heap.size w0 w) (hU:wF w0) (hS:∀g,S g→w0.heap.size≤g) (hu:u=now - win) (hl:t.sers.length≤1000000000) (hM:M≤1000000000) (hk:∀p∈t.sers,p.s.size≤1000000000):
 Calls Tryz.prog 195 #[.pointer (some ⟨x,0,none⟩),.int .i64 u] w fun e w'=>e=.returned (.tuple #[])∧zB w' (fun g=>S g∨w.heap.size≤g) x (eD win now t) M∧dA S w w':=by
 have HST:Hid (XX (fun g=>S g∨w.heap.size≤g) x t M u w ((Classical.epsilon fun m=>XX (fun g=>S g∨w.heap.size≤g) x t M u w m∧∀k,XX (fun g=>S g∨w.heap.size≤g) x t M u w k→m≤k))):=by
  refine (jV ?_).1;obtain ⟨lm,sm,cm,iv,Q,hs,D,h⟩:=h;exact ⟨_,t.sers,lm,sm,cm,iv,Q,hs,D,h.keep fun g _ hs=>⟨rfl,Or.inl hs⟩,rfl,fun p hp=>hp,Nat.le_refl _,rfl⟩
 have HUT:Hid (∀W,dA S w W→wF W):=fun W hW=>hU.later (h0.trans (hW.below h0.size fun k hk hs=>by have:=hS k hs;omega));have hw0:=h0.size;have HSS:Hid _:=hS;have HKS:Hid _:=hk;have HEU:Hid _:=hu;have HLX:Hid _:=hl;clear h h0 hU hS hk hu hl;go_enter Tryz.func195,Tryz.ntmps195;go_wp2;go_loopw [4] (fun _ wr=>Hid (∃n,XX (fun g=>S g∨w.heap.size≤g) x t M u wr n)∧Hid (dA S w wr)) (fun _ wr=>Classical.epsilon fun m=>XX (fun g=>S g∨w.heap.size≤g) x t M u wr m∧∀k,XX (fun g=>S g∨w.heap.size≤g) x t M u wr k→m≤k)
 case atStart=>exact ⟨⟨_,HST.out⟩,dA.refl _ _⟩
 case round=>
  obtain ⟨HN,HT⟩:=hrel;obtain ⟨hsp,_⟩:=jV HN.out;have HLT:Hid (∀W k,XX (fun g=>S g∨w.heap.size≤g) x t M u W k→k<(Classical.epsilon fun m=>XX (fun g=>S g∨w.heap.size≤g) x t M u wr m∧∀k,XX (fun g=>S g∨w.heap.size≤g) x t M u wr k→m≤k)→(Classical.epsilon fun m=>XX (fun g=>S g∨w.heap.size≤g) x t M u W m∧∀k,XX (fun g=>S g∨w.heap.size≤g) x t M u W k→m≤k)<(Classical.epsilon fun m=>XX (fun g=>S g∨w.heap.size≤g) x t M u wr m∧∀k,XX (fun g=>S g∨w.heap.size≤g) x t M u wr k→m≤k)):=fun W k h1 h2=>aJk h1 h2;obtain ⟨xs,lm,sm,cm,iv,Q,hs,D,hi,hf,hsub,hlen,hcnt⟩:=hsp;have HI:=iA hi;have HF:=iA hf;have HSB:=iA hsub;have HLE:=iA hlen;have HCN:=iA hcnt;have hwr:=HT.out.size;clear HST hf hsub hlen hcnt HN;by_cases h0:0<hs.length
  ·obtain ⟨g,cap,hiv⟩:∃g cap,iv=.slice (some ⟨g,0,none⟩) hs.length cap:=by
    rcases hi.row.2 with ⟨_,e⟩ | ⟨g,cap,cur,e,_⟩
    ·exact absurd e (by omega)
    ·exact ⟨g,cap,e⟩
   subst hiv;obtain ⟨hMM,_⟩:=vW hi.row rfl;have hgx:=(hi.di g rfl).1;have HMM:=iA hMM;have x4:wr.cell? ⟨x,4,none⟩=some (.slice (some ⟨g,0,none⟩) hs.length cap):=hi.blk.cell 4;have c1:wr.cell? ⟨g,1,none⟩=some (.int .i64 (rB hs 0).t):=by have:=(hMM.cells (k:=0) h0).2.1;simpa using this
   have h0i:(0:Int)<hs.length:=by omega
   by_cases ht:(rB hs 0).t≤u
   ·have hhl:hs.length=xs.length:=by
     have h1:=hi.perm.length_eq;have h2:=congrArg List.length hi.q1;simp only [List.length_map] at h1 h2;omega
    have hh9:hs.length≤1000000000:=by have:=HLE.out;have:=HLX.out;omega
    obtain ⟨q,hq,hqb⟩:=hi.top h0;have HQ:=iA hq;have HQB:=iA hqb;have HPO:Hid (Calls Tryz.prog 223 #[.pointer (some ⟨x,4,none⟩)] wr fun e w'=>e=.returned (.agg #[.pointer (some ⟨(rB hs 0).b,0,none⟩),.int .i64 (rB hs 0).t])∧lA w' x (#[.int .i64 t.limit,.map (some lm),.map (some sm),.map (some cm),.slice (some ⟨g,0,none⟩) hs.length cap].setIfInBounds 4 (.slice (some ⟨g,0,none⟩) (hs.length - 1) cap)) 229∧wD w' g cap (lK hs)∧dA (fun k=>k=x∨k=g) wr w'):=aMw x 4 g cap hs wr _ _ hi.blk rfl hMM hgx h0 hh9;have HTL:=iA ht;clear hhl hMM;rw [←hqb] at HPO;clear hqb;generalize hTT:(rB hs 0).t=TT at *;have HTT:Hid _:=hTT;clear hTT;go_wp2_with fail;refine HPO.out.mono ?_;rintro e w1 ⟨rfl,hb1,hm1,ht1⟩;have hp3:=(cL hi.heap h0).2.2;have PP:Hid (DF wr w1 x t.limit lm sm cm (.slice (some ⟨g,0,none⟩) hs.length cap) (.slice (some ⟨g,0,none⟩) (hs.length - 1) cap) hs):=iA {
     blk:=by simpa using hb1
     row:=by have:=iR (B:=0) hm1 (Nat.zero_le _);rw [hp3] at this;exact this
     same:=rfl
     turn:=ht1.mono fun k _ e=>by rcases e with e | e;exact Or.inl e;exact Or.inr (by rw [e];rfl) }
    have hqc:=hi.cells q hq;have hqg:=(hi.di g rfl).2 q hq;have hqx:=hi.dx q hq;have Q1:Hid (lA w1 q.2 #[.string q.1.s,.int .i64 q.1.n] 151):=ht1.blk hqc (fun e=>by rcases e with e | e;exact hqx e;exact hqg e);have hfd:=aEn (.pointer (some ⟨q.2,0,none⟩)) (.int .i64 TT);have v0:w1.cell? ⟨q.2,0,none⟩=some (.string q.1.s):=Q1.out.cell 0;have v1:w1.cell? ⟨q.2,1,none⟩=some (.int .i64 q.1.n):=Q1.out.cell 1;have TS1:Hid (dA S w w1):=HT.out.trans (ht1.mono fun k _ e=>by
     rcases e with rfl | rfl
     ·exact hi.sx
     ·exact hi.si _ rfl)
    have hqs:q.1∈xs:=by have:=List.mem_map_of_mem (f:=(·.1)) hq;rw [hi.q1] at this;exact this
    have hks:=HKS.out q.1 (HSB.out q.1 hqs);have hs1:=ht1.size;clear hb1 hm1 hqc x4 c1 HPO hgx hp3;by_cases hL:q.1.n≤u
    ·obtain ⟨c,hc⟩:∃c,mF bC xs (bC q.1.s)=c+1:=⟨mF bC (aD (·.s) q.1.s xs) (bC q.1.s),by have:=SM (met:=bC) hi.rs hqs (bC q.1.s);rw [if_pos rfl] at this;exact this⟩
     have hc9:c≤1000000000:=by have:=NT bC xs (bC q.1.s);have:=HLE.out;have:=HLX.out;omega
     have HDR:Hid (Calls Tryz.prog 224 #[.pointer (some ⟨x,0,none⟩),.string q.1.s] w1 fun e w'=>e=.returned (.tuple #[])∧w'.ownsMap Tryz.prog 9 wC sm Q.length (DataW.del (kC (Q.map fun q=>(q.1.s,kD q.2))) (kL q.1.s))∧w'.ownsMap Tryz.prog 9 (plainElem Tryz.prog 3) cm M (D.put (kL (bC q.1.s)) (uF c))∧dA (fun k=>k=sm∨k=cm) w1 w'):=
      aIr x lm sm cm t.limit _ q.1.s Q D M c w1 PP.out.blk (ht1.map hi.sers (fun e=>by rcases e with e | e;exact nB hi.sers hi.blk e;exact dE hi.sers hi.row (by rw [e];rfl))) (ht1.map hi.cnts (fun e=>by rcases e with e | e;exact nB hi.cnts hi.blk e;exact dE hi.cnts hi.row (by rw [e];rfl))) (by rw [hi.cnt,hc]) hi.d3 hks hM hc9 (fun W hW=>HUT.out W (TS1.out.trans (hW.mono fun k _ e=>by rw [e];exact hi.ss)))
     have HCC:=iA hc;clear hc hi ht1;go_wp2_with fail;refine HDR.out.mono ?_;rintro e w4 ⟨rfl,own2,own4,ht4⟩;have HE:=iA (aMd HI.out HF.out HSB.out HLE.out h0 (by rw [HTT.out];exact HTL.out) HQ.out HQB.out hL PP.out ht4 own2 own4 HCC.out);clear own2 own4 ht4 HDR;go_wp2;obtain ⟨⟨k,hk1,hk2⟩,hk3⟩:=HE.out;exact ⟨⟨⟨k,hk1⟩,HT.out.trans hk3⟩,HLT.out _ k hk1 (by rw [HCN.out] at hk2;exact hk2)⟩
    ·have hL':u<q.1.n:=by omega
     have hpl:=(cL hi.heap h0).2.2;have HPU:Hid (∀W,Below w1.heap.size w1 W→Calls Tryz.prog 222 #[.pointer (some ⟨x,4,none⟩),.agg #[.pointer (some ⟨q.2,0,none⟩),.int .i64 q.1.n]] W fun e w'=>e=.returned (.tuple #[])∧∃g' cap',lA w' x (#[.int .i64 t.limit,.map (some lm),.map (some sm),.map (some cm),.slice (some ⟨g,0,none⟩) (hs.length - 1) cap].setIfInBounds 4 (.slice (some ⟨g',0,none⟩) ((lK hs).length+1) cap')) 229∧
      w'.ownsRow 0 309 2 (.slice (some ⟨g',0,none⟩) ((lK hs).length+1) cap') ((lK hs).length+1) (kH (vM (lK hs) ⟨q.2,q.1.n⟩))∧((Value.slice (some ⟨g,0,none⟩) (hs.length - 1) cap).ownBlock=some g'∨W.heap.size≤g')∧dA (fun k=>k=x∨(Value.slice (some ⟨g,0,none⟩) (hs.length - 1) cap).ownBlock=some k) W w'):=fun W hW=>by
      have hgx:=(hi.di g rfl).1;exact WD x 4 0 (.slice (some ⟨g,0,none⟩) (hs.length - 1) cap) (lK hs) ⟨q.2,q.1.n⟩ W _ _ (PP.out.blk.later hW) rfl (by rw [hpl];exact (dA.of (S:=fun _=>False) hW).row PP.out.row (fun _ _ e=>e)) (fun e=>hgx (by simpa [Value.ownBlock] using e)) (Nat.zero_le _) (by omega)
     clear hi ht1 v0;go_upto_region 4 with fail;refine eM 9 (by kernel_rfl) (by kernel_rfl) ?_;simp only [List.take_succ_cons,List.take_zero,List.drop_succ_cons,List.drop_zero];have hnel:Nonempty Unit:=⟨()⟩
     repeat (go_big_quiet_step (fail))
     refine wpQuiet_nil ?_;go_wp2_with (first | (go_at_call 222;refine (HPU.out _ ((Below.refl _ _).drew)).mono ?_;rintro e w4 ⟨rfl,g',cap',hb4,hr4,hloc,ht4⟩));have HE:=iA (aIs (B:=w.heap.size) HI.out HF.out HSB.out HLE.out h0 (by rw [HTT.out];exact HTL.out) HQ.out HQB.out hL' PP.out (by simpa using hb4) hr4 hloc ((dA.of (S:=fun k=>k=x∨(Value.slice (some ⟨g,0,none⟩) (hs.length - 1) cap).ownBlock=some k) ((Below.refl w1.heap.size w1).drew)).trans' ht4) hwr (fun g hg _=>Or.inr hg));clear hb4 hr4 hloc ht4 HPU;obtain ⟨⟨k,hk1,hk2⟩,hk3⟩:=HE.out;exact ⟨⟨⟨k,hk1⟩,HT.out.trans hk3⟩,HLT.out _ k hk1 (by rw [HCN.out] at hk2;exact hk2)⟩
   ·have HEND:Hid (zB wr (fun g=>S g∨w.heap.size≤g) x (eD win now t) M):=aIt hi HEU.out HF.out (fun h=>ht h.2);clear hi;generalize (rB hs 0).t=TT at *;go_wp2;go_end0;exact ⟨rfl,HEND.out,HT.out⟩
  ·have HEND:Hid (zB wr (fun g=>S g∨w.heap.size≤g) x (eD win now t) M):=aIt hi HEU.out HF.out (fun h=>h0 h.1);have hz:hs.length=0:=by omega
   have x4:∃v,wr.cell? ⟨x,4,none⟩=some v∧(v=.slice none 0 0∨∃g cap,v=.slice (some ⟨g,0,none⟩) 0 cap):=by
    refine ⟨iv,hi.blk.cell 4,?_⟩;rcases hi.row.2 with ⟨e,_⟩ | ⟨g,cap,cur,e,_⟩
    ·exact Or.inl e
    ·rw [hz] at e;exact Or.inr ⟨g,cap,e⟩
   clear hi hz;obtain ⟨v,x4,hv⟩:=x4;rcases hv with rfl | ⟨g,cap,rfl⟩
   ·go_wp2;go_end0;exact ⟨rfl,HEND.out,HT.out⟩
   ·go_wp2;go_end0;exact ⟨rfl,HEND.out,HT.out⟩
theorem BG {H:Type}{P:Program}{k:TypeId}{R:Value→Option (DataW H×List MemPlace)}{w w':World}{b r n:Nat}{D:DataW H}{left:Lit→Bool}{cnt:Nat}{S:Nat→Prop} (h:w.ranges P k R b r n D left cnt) (ht:dA S w w') (hb:¬S b) (hr:¬S r):w'.ranges P k R b r n D left cnt:=by
 have h1:=h.owns.lt;have h2:=h.lt;obtain ⟨es,clock,since,seen,c0,e1,F,hs,hD,e2,rest⟩:=h;exact ⟨es,clock,since,seen,c0,(ht.block b h1 hb).trans e1,F,hs,hD,(ht.block r h2 hr).trans e2,rest⟩
theorem aCv {key:Value}{kl:Lit} (h:keyOf Tryz.prog 9 key=some kl):∃s,key=.string s∧kl=kL s∧s.size≤maxLen:=WideMaps.string_of_keyOf Tryz.underlying9 h
theorem vI.trim {w:World}{B:Nat}{T:Nat→Option Nat}{l m:Nat}{c:eC}{now:Int}{L:List (cA×Nat)}{M:Nat} (h:vI w B T l m c now L M):vI w B (fun g=>if g<w.heap.size then T g else none) l m c now L M:=
 { h with
  idx:=fun p hp=>(h.idx p hp).keep fun g hg hs=>⟨rfl,hs.1,by show (if g<w.heap.size then T g else none)=_;rw [if_pos hg];exact hs.2⟩
  tl:=by show (if l<w.heap.size then T l else none)=none;rw [if_pos (aA h.blk)];exact h.tl
  tm:=by show (if m<w.heap.size then T m else none)=none;rw [if_pos h.ten.lt];exact h.tm}
theorem vI.aside {w w':World}{B:Nat}{T:Nat→Option Nat}{l m r:Nat}{c:eC}{now:Int}{L:List (cA×Nat)}{M:Nat} (h:vI w B T l m c now L M) (ht:dA (·=r) w w') (hr:T r=none) (hl:l≠r) (hm:m≠r):vI w' B T l m c now L M:=
 { h with
  blk:=ht.blk h.blk hl
  ten:=ht.map h.ten hm
  idx:=fun p hp=>(h.idx p hp).keep fun g hg hs=>⟨ht.block g hg (fun e=>by rw [e,hr] at hs;cases hs.2),hs⟩ }
theorem vI.moved {w w':World}{B:Nat}{T:Nat→Option Nat}{l m:Nat}{c:eC}{now now':Int}{L:List (cA×Nat)}{M:Nat} (h:vI w B T l m c now L M) (ht:dA (·=l) w w') (hb:lA w' l (yP c now' m) 168):vI w' B T l m c now' L M:=
 { h with
  blk:=hb
  ten:=ht.map h.ten h.lm
  idx:=fun p hp=>(h.idx p hp).keep fun g hg hs=>⟨ht.block g hg (fun e=>by rw [e,h.tl] at hs;cases hs.2),hs⟩ }
theorem vI.turned {w w1:World}{B:Nat}{T:Nat→Option Nat}{l m:Nat}{c:eC}{now:Int}{L:List (cA×Nat)}{M:Nat}{p:cA×Nat}{t':cA} (h:vI w B T l m c now L M) (hB:B≤w.heap.size) (hp:p∈L) (hn:t'.name=p.1.name)
 (t1:dA (fun g=>B≤g∧T g=some p.2) w w1) (hi:zB w1 (fun g=>(B≤g∧T g=some p.2)∨w.heap.size≤g) p.2 t' M):
 vI w1 B (fun g=>if g<w.heap.size then T g else some p.2) l m c now (tA (fun p:cA×Nat=>p.1.name) (t',p.2) L) M:=by
 have hl:=aA h.blk;have hm:=h.ten.lt;have hmap:(tA (fun p:cA×Nat=>p.1.name) (t',p.2) L).map (fun p=>(p.1.name,kD p.2))=L.map fun p=>(p.1.name,kD p.2):=
  eX (key:=fun p:cA×Nat=>p.1.name) (a:=(t',p.2)) (fun p:cA×Nat=>(p.1.name,kD p.2)) h.rise hp hn.symm (by simp [hn])
 have hlen:(tA (fun p:cA×Nat=>p.1.name) (t',p.2) L).length=L.length:=by
  have:=congrArg List.length hmap;simpa using this
 have hnd:∀q∈L,q.1.name≠t'.name→q.2≠p.2:=fun q hq hne e=>by
  have:=lN h.nd hq hp e;rw [this,hn] at hne;exact hne rfl
 exact {
  blk:=t1.blk h.blk (fun e=>by rw [h.tl] at e;cases e.2)
  ten:=by rw [hmap,hlen];exact t1.map h.ten (fun e=>by rw [h.tm] at e;cases e.2)
  rise:=dH h.rise
  idx:=fun q hq=>by
   rcases PG h.rise hq with rfl | ⟨hq,hne⟩
   ·refine hi.keep fun g hg hs=>⟨rfl,?_,?_⟩
    ·rcases hs with hs | hs
     ·exact hs.1
     ·omega
    ·show (if g<w.heap.size then T g else some p.2)=some p.2;by_cases hg':g<w.heap.size
     ·rw [if_pos hg'];rcases hs with hs | hs
      ·exact hs.2
      ·omega
     ·rw [if_neg hg']
   ·refine (h.idx q hq).keep fun g hg hs=>⟨t1.block g hg (fun e=>?_),hs.1,?_⟩
    ·have:=hnd q hq hne;rw [e.2] at hs;exact this (Option.some.inj hs.2).symm
    ·show (if g<w.heap.size then T g else some p.2)=_;rw [if_pos hg];exact hs.2
  nd:=by
   rw [eX (key:=fun p:cA×Nat=>p.1.name) (a:=(t',p.2)) (·.2) h.rise hp hn.symm rfl];exact h.nd
  tl:=by show (if l<w.heap.size then T l else _)=none;rw [if_pos hl];exact h.tl
  tm:=by show (if m<w.heap.size then T m else _)=none;rw [if_pos hm];exact h.tm
  lB:=h.lB
  mB:=h.mB}
theorem vI.left {w w1 w2:World}{B:Nat}{T:Nat→Option Nat}{l m n:Nat}{c:eC}{now:Int}{L:List (cA×Nat)}{M:Nat}{k:ByteArray}{S:Nat→Prop} (h:vI w B T l m c now L M) (hS:∀g,S g→∀q∈L,q.1.name≠k→T g≠some q.2) (hS2:∀g,g<w.heap.size→S g→T g≠none)
 (t1:dA S w w1) (t2:dA (·=m) w1 w2) (own2:w2.ownsMap Tryz.prog 9 wC m n (DataW.del (kC (L.map fun p=>(p.1.name,kD p.2))) (kL k))):
 vI w2 B T l m c now (aD (fun p:cA×Nat=>p.1.name) k L) M:=by
 have hl:=aA h.blk;have h1:=t1.size;have hdel:DataW.del (kC (L.map fun p=>(p.1.name,kD p.2))) (kL k)=kC ((aD (fun p:cA×Nat=>p.1.name) k L).map fun p=>(p.1.name,kD p.2)):=
  OA (key:=fun p:cA×Nat=>p.1.name) (fun p=>kD p.2) k L
 have hkeep:∀g,g<w.heap.size→¬S g→g≠m→w2.heap[g]?=w.heap[g]?:=fun g hg h3 h4=>by
  rw [t2.block g (by omega) h4,t1.block g hg h3]
 exact {
  blk:=(hkeep l hl (fun e=>hS2 l hl e h.tl) h.lm.symm).trans h.blk
  ten:=by
   have:=II own2;rw [hdel,oI] at this;exact this
  rise:=tK h.rise
  idx:=fun q hq=>by
   obtain ⟨hq,hne⟩:=jN.1 hq;exact (h.idx q hq).keep fun g hg hs=>⟨hkeep g hg (fun e=>hS g e q hq hne hs.2) (fun e=>by rw [e,h.tm] at hs;cases hs.2),hs⟩
  nd:=h.nd.sublist (List.Sublist.map _ List.filter_sublist)
  tl:=h.tl
  tm:=h.tm
  lB:=h.lB
  mB:=h.mB}
def TkR (c:eC) (now':Int) (ts:List cA) (M B l m r:Nat) (left:Lit→Bool) (wr:World):Prop:=
 ∃T L,vI wr B T l m c now' L M∧L.map (·.1)=iG c.w now' (fun s=>left (kL s)) ts∧T r=none
theorem aLe {c:eC}{now':Int}{ts:List cA}{M B l m n:Nat}{left:Lit→Bool}{wr:World}{T:Nat→Option Nat}{L:List (cA×Nat)}{D:DataW Unit}{s:ByteArray}{v:Value}{y:DataW Unit×List MemPlace} (h:vI wr B T l m c now' L M) (hL:L.map (·.1)=iG c.w now' (fun s=>left (kL s)) ts) (hown:wr.ownsMap Tryz.prog 9 wC m n D) (hl:left (kL s)=true) (hv:wC v=some y) (hat:∀zd,D.atKey (kL s) zd=y.1):
 ∃p∈L,p.1.name=s∧p.1∈ts∧v=.pointer (some ⟨p.2,0,none⟩):=by
 rw [aCm hown h.ten] at hat;have ha:∀zd:DataW Unit,((cB (fun p:cA×Nat=>p.1.name) s L).map fun p=>kD p.2).getD zd=y.1:=fun zd=>by
  rw [←sN (key:=fun p:cA×Nat=>p.1.name) (fun p=>kD p.2)];exact hat zd
 cases hg:cB (fun p:cA×Nat=>p.1.name) s L with
 | none=>
   rw [hg] at ha;have h1:=ha (uF 0);have h2:=ha (uF 1);simp only [Option.map_none,Option.getD_none] at h1 h2;rw [←h1] at h2;simp [uF] at h2
 | some p=>
   rw [hg] at ha;have h1:=ha .nil;simp only [Option.map_some,Option.getD_some] at h1;obtain ⟨hp,hpn⟩:=gN hg;have hm:p.1∈iG c.w now' (fun s=>left (kL s)) ts:=by rw [←hL];exact List.mem_map_of_mem hp
   obtain ⟨t,ht,e,en⟩:=wq hm;have hts:left (kL t.name)=true:=by rw [←en,hpn];exact hl
   rw [if_pos hts] at e;refine ⟨p,hp,hpn,by rw [e];exact ht,aM (ps:=y.2) (by rw [hv,h1])⟩
theorem aJs {win now:Int}{left:Lit→Bool}{ts:List cA} (hr:oB (·.name) ts){t:cA} (ht:t∈ts) (hl:left (kL t.name)=true):
 iG win now (fun s=>(fun z=>left z&&!z.sameKey (kL t.name)) (kL s)) ts=if dD (eD win now t)=true then aD (·.name) t.name (iG win now (fun s=>left (kL s)) ts) else tA (·.name) (eD win now t) (iG win now (fun s=>left (kL s)) ts):=
 aAd (left:=fun s=>left (kL s)) hr ht hl fun n=>by show (left (kL n) &&!(kL n).sameKey (kL t.name))=_;rw [qV]
theorem aFq (l m:Nat) (by_:Int) (c:eC) (now:Int) (ts:List cA) (M:Nat) (w0 w:World) (h:tC w w0.heap.size l m c now ts M) (h0:Below w0.heap.size w0 w) (hU:wF w0) (hn0:0≤now) (hn1:now≤1000000000000) (hw0:1≤c.w) (hw1:c.w≤1000000000) (hM:M≤1000000000) (hsl:∀t∈ts,t.sers.length≤1000000000) (hks:∀t∈ts,∀p∈t.sers,p.s.size≤1000000000):
 Calls Tryz.prog 153 #[.pointer (some ⟨l,0,none⟩),.int .i64 by_] w fun e w'=>e=.returned (.bool (tH c.w now ts by_).2.2)∧tC w' w0.heap.size l m c (tH c.w now ts by_).1 (tH c.w now ts by_).2.1 M∧dA (fun g=>w0.heap.size≤g) w w':=by
 have HLA:=iA h;obtain ⟨T,L,h,hL⟩:=h;have HV0:Hid (tH c.w now ts by_=if by_<1∨1000000000000 - now<by_ then (now,ts,false) else (now+by_,mC c.w (now+by_) ts,true)):=rfl;have x6:w.cell? ⟨l,6,none⟩=some (.int .i64 now):=h.blk.cell 6;generalize tH c.w now ts by_=R at *;by_cases h1:by_<1
 ·have HV:Hid (R=(now,ts,false)):=by show _=_;rw [HV0.out,if_pos (Or.inl h1)]
  clear h HV0;go_enter Tryz.func153,Tryz.ntmps153;go_wp2;go_ret;exact ⟨jA (by rw [HV.out]),by rw [HV.out];exact HLA.out,dA.refl _ _⟩
 by_cases h2:1000000000000 - now<by_
 ·have HV:Hid (R=(now,ts,false)):=by show _=_;rw [HV0.out,if_pos (Or.inr h2)]
  clear h HV0;go_enter Tryz.func153,Tryz.ntmps153;go_wp2;go_ret;exact ⟨jA (by rw [HV.out]),by rw [HV.out];exact HLA.out,dA.refl _ _⟩
 have HV:Hid (R=(now+by_,mC c.w (now+by_) ts,true)):=by show _=_;rw [HV0.out,if_neg (fun e=>by rcases e with e | e;exact h1 e;exact h2 e)]
 clear HV0 HLA;obtain ⟨now',hnd⟩:∃now',now'=now+by_:=⟨_,rfl⟩
 rw [←hnd] at HV;have hb1:1≤by_:=by omega
 have hb2:by_≤1000000000000:=by omega
 have hnn:=hnd.symm;have hm0:0≤now':=by omega
 have hm1:now'≤1000000000000:=by omega
 have hll:=aA h.blk;have hml:=h.ten.lt;have hB:=h0.size;have hlB:=h.lB;have hmB:=h.mB;have hrise:oB (·.name) ts:=by rw [←hL];exact (fO (key':=fun t:cA=>t.name) (fun p:cA×Nat=>p.1) (fun _=>rfl)).2 h.rise
 have ht1:dA (·=l) w (w.setCell ⟨l,6,none⟩ (.int .i64 now')):=(dA.refl (·=l) w).setCell (Or.inl rfl) 6 _;have HB1:Hid (lA (w.setCell ⟨l,6,none⟩ (.int .i64 now')) l (yP c now' m) 168):=iA (by have:=h.blk.set 6 (.int .i64 now');simpa [yP] using this);have hsz:(w.setCell ⟨l,6,none⟩ (.int .i64 now')).heap.size=w.heap.size:=by simp
 have H1:Hid _:=(h.moved ht1 HB1.out).trim;have HT1:Hid (dA (fun g=>w0.heap.size≤g) w (w.setCell ⟨l,6,none⟩ (.int .i64 now'))):=ht1.mono fun i _ e=>by rw [e];exact hlB
 have y7:(w.setCell ⟨l,6,none⟩ (.int .i64 now')).cell? ⟨l,7,none⟩=some (.map (some m)):=HB1.out.cell 7;have f6:=h.blk.free 6;have HLL:Hid _:=hL;have HUT:Hid (∀W,dA (fun g=>w0.heap.size≤g) w W→Below w0.heap.size w0 W):=fun W hW=>h0.trans (hW.below hB fun k hk hs=>by omega);have HR:=iA hrise;have HSL:=iA hsl;have HKS:=iA hks;have HUU:=iA hU;have HEX:Hid _:=fun W hb=>AJ l m c now' W hb hm0 hm1 hw0 hw1;clear h hL hrise ht1 hsl hks hU h0 hnd;go_enter Tryz.func153,Tryz.ntmps153;go_wp2_with (first | (at_range;refine wpList_range_own _ rfl _ 166 rfl 9 178 zG Tryz.underlying166 wC m _ _ rfl H1.out.ten ?_;intro w2 hrg0 hg0 hs0) | go_in);try rw [hsz] at hrg0
 have HRG0:=iA hrg0;have HT2:Hid _:=HT1.out.trans' ((dA.grown hg0).mono fun i _ e=>by cases e);have K0:Hid (TkR c now' ts M w0.heap.size l m w.heap.size (Maps.has (kC (L.map fun p=>(p.1.name,kD p.2)))) w2):=by
  refine iA ⟨_,L,H1.out.keep fun g hg _=>hg0.block g hg (by simp),?_,?_⟩
  ·rw [aFz fun t ht=>?_,HLL.out];rw [OL (key:=fun p:cA×Nat=>p.1.name) (val:=fun p=>kD p.2)];rw [←HLL.out] at ht;obtain ⟨p,hp,rfl⟩:=List.mem_map.1 ht;rw [gI H1.out.rise hp];rfl
  ·show (if w.heap.size<(w.setCell ⟨l,6,none⟩ (.int .i64 now')).heap.size then T w.heap.size else none)=none;rw [if_neg (by omega)]
 clear hrg0 hg0 H1 HB1 y7 f6 x6 HT1 HLL;generalize hnL:L.length=nL at *;generalize kC (L.map fun p=>(p.1.name,kD p.2))=D0 at *;have hrl:l≠w.heap.size:=by omega
 have hrm:m≠w.heap.size:=by omega
 clear hnL;go_loopw [31] (fun _ wr=>∃(left:Lit→Bool) (cnt:Nat) (D:DataW Unit),Hid (wr.ranges Tryz.prog 9 wC m w.heap.size nL D left cnt)∧Hid (TkR c now' ts M w0.heap.size l m w.heap.size left wr)∧Hid (dA (fun g=>w0.heap.size≤g) w wr)) (fun _ wr=>wr.rangeLeft m w.heap.size)
 case atStart=>exact ⟨_,_,_,HRG0.out,K0.out,HT2.out⟩
 case round=>
  obtain ⟨left,cnt,D,HRG,HK,HT⟩:=hrel;clear HRG0 K0 HT2;go_wp2_with (first
   | (at_next;refine wpList_next_ranges _ rfl _ rfl 9 zG wC Value.string (fun v:Value=>v) (fun key kl hk=>by obtain ⟨x,hx,_⟩:=aCv hk;exact ⟨x,hx⟩) (fun v y _=>⟨v,rfl⟩) m w.heap.size nL _ _ _ rfl HRG.out ?_ ?_)
   | go_in)
  ·intro hc0 hl0;have HEND:Hid (tC wr w0.heap.size l m c now' (mC c.w now' ts) M):=by
    obtain ⟨T',L',k1,k2,_⟩:=HK.out;refine iA ⟨T',L',k1,?_⟩;rw [k2,aAc fun n=>hl0 _]
   clear hc0 hl0;go_wp2;go_ret;exact ⟨jA (by rw [HV.out]),by rw [HV.out];exact HEND.out,HT.out⟩
  ·intro s v kl yd yp w3 cnt3 hkey hlk hv hat hrg3 hlt hg3 hs3 hen;obtain ⟨s',es,rfl,hss⟩:=aCv hkey;obtain rfl:s=s':=by simpa using es
   obtain ⟨T',L',k1,k2,k3⟩:=HK.out;obtain ⟨p,hp,hpn,hpt,rfl⟩:=aLe (y:=(yd,yp)) k1 k2 HRG.out.owns hlk hv hat;have t3:dA (·=w.heap.size) wr w3:=(dA.grown hg3).mono fun i _ e=>by simp only [Option.some.injEq] at e;exact e.symm
   have k1':=k1.aside t3 k3 hrl hrm;have K1:=iA k1';have K2:=iA k2;have K3:=iA k3;have HP:=iA hp;have HPN:=iA hpn;have HPT:=iA hpt;have RG3:=iA hrg3;have HKEY:=iA hkey;have HLK:=iA hlk;have T3:Hid _:=HT.out.trans (t3.mono fun i _ e=>Or.inr (by omega));have HLB:Hid (lA w3 l (yP c now' m) 168):=k1'.blk;have HCN:Hid _:=HRG.out.left_eq;have HDM:Hid _:=aCm HRG.out.owns k1.ten;have HMN:Hid (iG c.w now' (fun s_1=>(fun z=>left z&&!z.sameKey (kL s)) (kL s_1)) ts=if dD (eD c.w now' p.1)=true then aD (·.name) s (iG c.w now' (fun s=>left (kL s)) ts) else tA (·.name) (eD c.w now' p.1) (iG c.w now' (fun s=>left (kL s)) ts)):=by
    have:=aJs (win:=c.w) (now:=now') (left:=left) HR.out hpt (by rw [hpn];exact hlk);rw [hpn] at this;exact iA this
   have hw3:=T3.out.size;have HRR:Hid _:=hrg3.lt;clear k1 k2 k3 k1' t3 hp hpn hpt hrg3 hkey hlk hv hat hg3 hs3 HK HRG hss es;go_wp2_with fail;refine (HEX.out _ HLB.out).mono ?_;rintro e w4 ⟨rfl,hb4⟩;have K4:Hid _:=K1.out.keep fun g hg _=>hb4.block g hg;have hs4:=hb4.size;have T4:Hid _:=T3.out.trans' (dA.of hb4);have RG4:Hid (w4.ranges Tryz.prog 9 wC m w.heap.size nL D (fun z=>left z&&!z.sameKey (kL s)) cnt3):=BG RG3.out (dA.of (S:=fun _=>False) hb4) (fun e=>e) (fun e=>e);have HXP:Hid (Calls Tryz.prog 195 #[.pointer (some ⟨p.2,0,none⟩),.int .i64 (now' - c.w)] w4 fun e w'=>e=.returned (.tuple #[])∧zB w' (fun g=>(fun g=>w0.heap.size≤g∧T' g=some p.2) g∨w4.heap.size≤g) p.2 (eD c.w now' p.1) M∧dA (fun g=>w0.heap.size≤g∧T' g=some p.2) w4 w'):=YY p.2 p.1 c.w now' (now' - c.w) (fun g=>w0.heap.size≤g∧T' g=some p.2) M w0 w4 (K4.out.idx p HP.out) (HUT.out w4 T4.out) HUU.out (fun g hg=>hg.1) rfl (HSL.out p.1 HPT.out) hM (HKS.out p.1 HPT.out);clear hb4 RG3 K1 HLB T3;go_wp2_with fail;refine HXP.out.mono ?_;rintro e w5 ⟨rfl,hi5,ht5⟩;have HI5:=iA hi5;have HT5:=iA ht5;have hs5:=ht5.size;have HID:Hid (Calls Tryz.prog 150 #[.pointer (some ⟨p.2,0,none⟩)] w5 fun e w'=>e=.returned (.bool (dD (eD c.w now' p.1)))∧w'=w5):=xW p.2 _ _ M w5 hi5;have RG5:Hid (w5.ranges Tryz.prog 9 wC m w.heap.size nL D (fun z=>left z&&!z.sameKey (kL s)) cnt3):=BG RG4.out ht5 (fun e=>by rw [K4.out.tm] at e;cases e.2) (fun e=>by rw [K3.out] at e;cases e.2);have T5:Hid _:=T4.out.trans' (ht5.mono fun i _ e=>e.1);have x7:w5.cell? ⟨l,7,none⟩=some (.map (some m)):=(ht5.blk K4.out.blk (fun e=>by rw [K4.out.tl] at e;cases e.2)).cell 7;clear hi5 ht5 HXP RG4;cases hidl:dD (eD c.w now' p.1) with
   | true=>
     rw [hidl] at HID HMN;rw [if_pos rfl] at HMN;clear hidl;go_wp2_with fail;refine HID.out.mono ?_;rintro e wz ⟨rfl,hw⟩;replace hw:=hw.symm;subst hw;go_wp2_with (at_delete;refine wpList_delete_ranges _ rfl _ _ 166 9 rfl 178 zG Tryz.underlying166 wC m w.heap.size nL _ _ _ rfl RG5.out _ _ rfl HKEY.out ?_;intro w6 cnt6 hrg6 hle6 hturn6);rw [Maps.strike_twice] at hrg6;have ht6:=dA.mapped hturn6;have HK6:Hid (TkR c now' ts M w0.heap.size l m w.heap.size (fun z=>left z&&!z.sameKey (kL s)) w6):=by
      have own6:=hrg6.owns;rw [HDM.out] at own6;refine iA ⟨T',_,vI.left (k:=s) (S:=(fun g=>w0.heap.size≤g∧T' g=some p.2)) K4.out (fun g hs q hq hne e=>?_) (fun g _ hs e=>by rw [e] at hs;cases hs.2) HT5.out ht6 own6,?_,K3.out⟩
      ·rw [hs.2] at e;have:=lN K4.out.nd hq HP.out (Option.some.inj e).symm;rw [this] at hne;exact hne HPN.out
      ·rw [uP (key':=fun t:cA=>t.name) (fun p:cA×Nat=>p.1) (fun _=>rfl),K2.out];exact HMN.out.symm
     have HT6:Hid _:=T5.out.trans' (ht6.mono fun i _ e=>by omega);have RG6:=iA hrg6;clear hrg6 hturn6 ht6;go_wp2;refine ⟨⟨_,_,_,_,_,_,_,_,_,_,_,_,_,_,_,_,_,_,⟨_,cnt6,_,RG6.out,HK6.out,HT6.out⟩,rfl⟩,by rw [RG6.out.left_eq,HCN.out];omega⟩
   | false=>
     rw [hidl] at HID HMN;rw [if_neg (by simp)] at HMN;clear hidl;have HK6:Hid (TkR c now' ts M w0.heap.size l m w.heap.size (fun z=>left z&&!z.sameKey (kL s)) w5):=by
      refine iA ⟨_,_,vI.turned (p:=p) (t':=eD c.w now' p.1) K4.out (by omega) HP.out rfl HT5.out HI5.out,?_,?_⟩
      ·rw [oH (key':=fun t:cA=>t.name) (fun p:cA×Nat=>p.1) (fun _=>rfl),K2.out];exact HMN.out.symm
      ·show (if w.heap.size<w4.heap.size then T' w.heap.size else some p.2)=none;rw [if_pos (by have:=RG5.out.lt;have:=HRR.out;omega)];exact K3.out
     go_wp2_with fail;refine HID.out.mono ?_;rintro e wz ⟨rfl,hw⟩;replace hw:=hw.symm;subst hw;go_wp2;exact ⟨⟨_,cnt3,_,RG5.out,HK6.out,T5.out⟩,by rw [RG5.out.left_eq,HCN.out];exact hlt⟩
theorem FG (n:Nat) (w:World):Calls Tryz.prog 151 #[.int .i64 n] w fun e w'=>e=.returned (.bool (decide (n=1) ||decide (n=2)))∧w'=w:=by
 by_cases h1:n=1
 ·subst h1;go_enter Tryz.func151,Tryz.ntmps151;go_wp2;go_ret;exact ⟨jA (by simp),rfl⟩
 ·have h1':¬((n:Int)=1):=by omega
  by_cases h2:n=2
  ·subst h2;go_enter Tryz.func151,Tryz.ntmps151;go_wp2;go_ret;exact ⟨jA (by simp),rfl⟩
  ·have h2':¬((n:Int)=2):=by omega
   have HV:Hid ((decide (n=1) ||decide (n=2))=false):=by show _=_;simp [h1,h2]
   go_enter Tryz.func151,Tryz.ntmps151;go_wp2;go_ret;exact ⟨jA (by rw [HV.out];simp;omega),rfl⟩
theorem aQl (x:Value) (w:World):(Instr.typeAssert (.iface 215 x) 170 215 true).run Tryz.prog w=.ok (.tuple #[x,.bool true]) w:=by kernel_rfl
theorem aQm (x:Value) (w:World):(Instr.typeAssert (.iface 217 x) 170 215 true).run Tryz.prog w=.ok (.tuple #[.agg #[.int .i64 0,.string ⟨#[]⟩,.string ⟨#[]⟩],.bool false]) w:=by kernel_rfl
theorem aQn (x:Value) (w:World):(Instr.typeAssert (.iface 217 x) 170 217 true).run Tryz.prog w=.ok (.tuple #[x,.bool true]) w:=by kernel_rfl
theorem aQo (x:Value) (w:World):(Instr.typeAssert (.iface 219 x) 170 215 true).run Tryz.prog w=.ok (.tuple #[.agg #[.int .i64 0,.string ⟨#[]⟩,.string ⟨#[]⟩],.bool false]) w:=by kernel_rfl
theorem aQp (x:Value) (w:World):(Instr.typeAssert (.iface 219 x) 170 217 true).run Tryz.prog w=.ok (.tuple #[.agg #[.int .i64 0,.string ⟨#[]⟩,.int .i64 0],.bool false]) w:=by kernel_rfl
theorem aQq (x:Value) (w:World):(Instr.typeAssert (.iface 219 x) 170 219 true).run Tryz.prog w=.ok (.tuple #[x,.bool true]) w:=by kernel_rfl
theorem ZW (l m:Nat) (r:pC) (c:eC) (now:Int) (ts:List cA) (M:Nat) (w0 w:World) (h:tC w w0.heap.size l m c now ts M) (h0:Below w0.heap.size w0 w) (hU:wF w0) (hst:vB c now ts=true) (hbk:ts.length+nA ts≤1100000) (hM1:1≤M) (hM:M≤1000000000) (hn:r.tenant.size≤1048576) (hx:r.text.size≤1048576) (hk:xP r=true):
 Calls Tryz.prog 113 #[.pointer (some ⟨l,0,none⟩),fP r] w fun e w'=>e=.returned (.bool (gD c now ts r).2.2)∧tC w' w0.heap.size l m c (gD c now ts r).1 (gD c now ts r).2.1 (M+1)∧dA (fun g=>w0.heap.size≤g) w w':=by
 obtain ⟨hc,q0,q1,hlen,ht⟩:=gH hst;obtain ⟨v0,v1⟩:=aDb hc;have hB:=h0.size;have hb:∀i (hi:i<ts.length),zC ts[i]≤1100000:=fun i hi=>by have:=oR ts i hi;omega
 have hsl:∀t∈ts,t.sers.length≤1000000000∧t.mets.length≤1000000000∧bB t.sers≤1100000:=fun t hm=>by
  obtain ⟨i,hi,rfl⟩:=List.getElem_of_mem hm;have:=hb i hi;unfold zC at this;omega
 have HSB:∀W,Below w.heap.size w W→Below w0.heap.size w0 W:=fun W hW=>h0.trans (hW.mono hB);have HLW:Hid (∀W,Below w.heap.size w W→tC W w0.heap.size l m c now ts M):=fun W hW=>h.later hW;have HTW:Hid (∀W,Below w.heap.size w W→dA (fun g=>w0.heap.size≤g) w W):=fun W hW=>dA.of hW;have HAD:Hid _:=fun W hW=>ZV l m r.tenant r.text c now w0.heap.size ts M W (h.later hW) (by have:=hW.size;omega) (hU.later (HSB W hW)) hn hx hM1 hM (fun t hm=>(hsl t hm).1) (fun t hm y hy=>(zX (qH (fH ht t hm)).2.2.1 y hy).2.2) (by omega);have HTK:Hid (∀W,Below w.heap.size w W→Calls Tryz.prog 153 #[.pointer (some ⟨l,0,none⟩),.int .i64 r.num] W fun e w'=>e=.returned (.bool (tH c.w now ts r.num).2.2)∧tC w' w0.heap.size l m c (tH c.w now ts r.num).1 (tH c.w now ts r.num).2.1 M∧dA (fun g=>w0.heap.size≤g) W w'):=fun W hW=>aFq l m r.num c now ts M w0 W (h.later hW) (HSB W hW) hU q0 q1 v0 v1 hM (fun t hm=>(hsl t hm).1) (fun t hm p hp=>by
  obtain ⟨j,hj,rfl⟩:=List.getElem_of_mem hp;have h1:=gJ t.sers j hj;have h2:=bL t.sers (j+1);have:=(hsl t hm).2.2;omega)
 have HSE:Hid _:=fun W hW=>JA l m r.tenant r.text r.num c now w0.heap.size ts M W (h.later hW) (by have:=hW.size;omega) (hU.later (HSB W hW)) hn hx (fun t hm=>(hsl t hm).2.1) (by omega);clear h h0 hU hst hbk hb hsl HSB ht hc;have HS:Hid (gD c now ts r=if r.kind=1 then (now,(tJ c now ts r.tenant r.text).1,decide ((tJ c now ts r.tenant r.text).2=1) ||decide ((tJ c now ts r.tenant r.text).2=2)) else if r.kind=2 then tH c.w now ts r.num else if r.kind=3 then (now,(jO ts r.tenant r.text r.num).1,(jO ts r.tenant r.text r.num).2) else (now,ts,false)):=rfl;have HKV:Hid (fP r=if r.kind=1 then .iface 215 (.agg #[.int .i64 1,.string r.tenant,.string r.text]) else if r.kind=2 then .iface 217 (.agg #[.int .i64 2,.string ByteArray.empty,.int .i64 r.num]) else if r.kind=3 then .iface 219 (.agg #[.int .i64 3,.string r.tenant,.string r.text,.int .i64 r.num]) else .nilIface):=rfl;generalize gD c now ts r=SV at *;generalize fP r=KV at *;have hk3:r.kind=1∨r.kind=2∨r.kind=3:=by simpa [xP] using hk
 clear hk;obtain ⟨ki,te,tx,nu⟩:=r;simp only at *;rcases hk3 with rfl | rfl | rfl
 ·have HS1:Hid (SV=(now,(tJ c now ts te tx).1,decide ((tJ c now ts te tx).2=1) ||decide ((tJ c now ts te tx).2=2))):=by show _=_;rw [HS.out,if_pos rfl]
  have e1:KV=.iface 215 (.agg #[.int .i64 1,.string te,.string tx]):=by rw [HKV.out,if_pos rfl]
  clear HS HKV HTK HSE;subst e1;generalize tJ c now ts te tx=AV at *;have t1:=aQl (.agg #[.int .i64 1,.string te,.string tx]);go_enter Tryz.func113,Tryz.ntmps113;go_wp2_with fail;refine (HAD.out _ (bA _ _)).mono ?_;rintro e w1 ⟨rfl,hl1,ht1⟩;have HL1:=iA hl1;have HT1:Hid _:=(HTW.out _ (bA _ _)).trans' ht1;clear hl1 ht1;go_wp2_with fail;refine (FG _ _).mono ?_;rintro e wz ⟨rfl,hw⟩;replace hw:=hw.symm;subst hw;go_wp2;go_ret;exact ⟨jA (by rw [HS1.out]),by rw [HS1.out];exact HL1.out,HT1.out⟩
 ·have HS1:Hid (SV=tH c.w now ts nu):=by show _=_;rw [HS.out,if_neg (by decide),if_pos rfl]
  have e1:KV=.iface 217 (.agg #[.int .i64 2,.string ByteArray.empty,.int .i64 nu]):=by rw [HKV.out,if_neg (by decide),if_pos rfl]
  clear HS HKV HAD HSE;subst e1;generalize tH c.w now ts nu=AV at *;have t1:=aQm (.agg #[.int .i64 2,.string ByteArray.empty,.int .i64 nu]);have t2:=aQn (.agg #[.int .i64 2,.string ByteArray.empty,.int .i64 nu]);go_enter Tryz.func113,Tryz.ntmps113;go_wp2_with fail;refine (HTK.out _ (bA _ _)).mono ?_;rintro e w1 ⟨rfl,hl1,ht1⟩;have HL1:=iA hl1;have HT1:Hid _:=(HTW.out _ (bA _ _)).trans' ht1;clear hl1 ht1;go_wp2;go_ret;exact ⟨jA (by rw [HS1.out]),by rw [HS1.out];exact HL1.out.mono (by omega),HT1.out⟩
 ·have HS1:Hid (SV=(now,(jO ts te tx nu).1,(jO ts te tx nu).2)):=by show _=_;rw [HS.out,if_neg (by decide),if_neg (by decide),if_pos rfl]
  have e1:KV=.iface 219 (.agg #[.int .i64 3,.string te,.string tx,.int .i64 nu]):=by rw [HKV.out,if_neg (by decide),if_neg (by decide),if_pos rfl]
  clear HS HKV HAD HTK;subst e1;generalize jO ts te tx nu=AV at *;have t1:=aQo (.agg #[.int .i64 3,.string te,.string tx,.int .i64 nu]);have t2:=aQp (.agg #[.int .i64 3,.string te,.string tx,.int .i64 nu]);have t3:=aQq (.agg #[.int .i64 3,.string te,.string tx,.int .i64 nu]);go_enter Tryz.func113,Tryz.ntmps113;go_wp2_with fail;refine (HSE.out _ (bA _ _)).mono ?_;rintro e w1 ⟨rfl,hl1,ht1⟩;have HL1:=iA hl1;have HT1:Hid _:=(HTW.out _ (bA _ _)).trans' ht1;clear hl1 ht1;go_wp2;go_ret;exact ⟨jA (by rw [HS1.out]),by rw [HS1.out];exact HL1.out.mono (by omega),HT1.out⟩
end Go.Proofs.YtcneojllbkacoaaGreatDoor
namespace Go.Proofs.YtcneojllbkacoaaGreatDoor
open Go.RowKit
theorem RU {K:cE}{L:fF}{p:ByteArray}{most:Int} (h:bM L p most≠0):yC K L p most=(K,L,bM L p most):=by
 have hfe:mD p=ByteArray.empty ↔ mA p.size 1 60000=false:=by
  constructor
  ·intro e;rw [Bool.eq_false_iff];intro hb;have hz:1≤p.size∧p.size≤60000:=by simp only [mA,Bool.and_eq_true,decide_eq_true_eq] at hb;omega
   have:=lS hz;rw [e,ByteArray.size_empty] at this;omega
  ·intro hb;rw [mD,if_neg];intro hz;have:mA p.size 1 60000=true:=by simp [mA];omega
   rw [this] at hb;cases hb
 unfold bM at h ⊢;unfold yC;split
 ·rfl
 ·rename_i h1;rw [if_neg h1] at h;by_cases h2:mA p.size 1 60000=false
  ·rw [if_pos h2,if_pos (hfe.2 h2)]
  ·rw [if_neg h2,if_neg (fun e=>h2 (hfe.1 e))];rw [if_neg h2] at h;by_cases h3:L.last=999999∧nK L (8+p.size) most=true
   ·rw [if_pos h3];have hz:1≤p.size∧p.size≤60000:=by
     have:mA p.size 1 60000=true:=by simpa using h2
     simp only [mA,Bool.and_eq_true,decide_eq_true_eq] at this;omega
    have hs:=lS hz;have h4:=h3.2;simp only [nK,Bool.and_eq_true,decide_eq_true_eq] at h4;rw [if_pos ⟨h4.1,by rw [hs];have:=h4.2;simp only [Int.natCast_add];omega⟩,if_pos h3.1]
   ·rw [if_neg h3] at h;exact absurd rfl h
theorem RT {K:cE}{L:fF}{p:ByteArray}{most:Int} (h:bM L p most=0):yC K L p most=sJ K L (mD p) most∧mI L=true∧(mD p).size≤60008∧(nK L (mD p).size most=true→L.last≠999999):=by
 unfold bM at h;split at h
 ·cases h
 ·rename_i h1;split at h
  ·cases h
  ·rename_i h2;split at h
   ·cases h
   ·rename_i h3;have hz:1≤p.size∧p.size≤60000:=by
     have:mA p.size 1 60000=true:=by simpa using h2
     simp only [mA,Bool.and_eq_true,decide_eq_true_eq] at this;omega
    have hs:=lS hz;have hl:(mI L&&mA most 1 1000000000)=true:=by simpa using h1
    simp only [Bool.and_eq_true] at hl;have hne:¬mD p=ByteArray.empty:=fun e=>by rw [e,ByteArray.size_empty] at hs;omega
    have e8:(((mD p).size:Nat):Int)=8+(p.size:Int):=by rw [hs];omega
    refine ⟨?_,hl.1,by omega,fun hf h9=>h3 ⟨h9,by rw [←e8];exact hf⟩⟩;unfold yC sJ;rw [if_neg h1,if_neg hne];by_cases hf:nK L (mD p).size most=true
    ·rw [if_pos hf];have h4:=hf;simp only [nK,Bool.and_eq_true,decide_eq_true_eq] at h4;rw [if_pos h4,if_neg (fun h9=>h3 ⟨h9,by rw [←e8];exact hf⟩)]
    ·rw [if_neg hf,if_neg];intro h4;apply hf;simp [nK,h4.1,h4.2]
theorem aHy {K:cE}{L:fF}{f:ByteArray}{most:Int} (h:sD K.fs K.c K.k K.cr K.fl=false):sJ K L f most=(⟨[],0,0,0,0,false⟩,L,6):=by
 have hs:∀op,xD K op=(⟨[],0,0,0,0,false⟩,6):=fun op=>by
  unfold xD zM;rw [if_neg (by simp [h])]
 unfold sJ;split
 ·rw [hs,if_pos (by simp)]
 ·unfold gF;rw [hs,if_pos (by simp)]
theorem aLd {c:eC}{now now':Int}{ts:List cA} (h:vB c now ts=true):mC c.w now' (gY ⟨⟨#[]⟩,0,[],[]⟩ true ts)=mC c.w now' ts:=by
 rw [zO (t:=⟨⟨#[]⟩,0,[],[]⟩) (VO h)]
theorem aMf:MX ⟨⟨#[]⟩,0,[],[]⟩:=⟨Nat.zero_le _,Nat.zero_le _,fun i h=>absurd h (by simp)⟩
theorem QH (c:eC) (now:Int) (a:Option Addr) (cap:Nat) (ts:List cA) (by_:Int) (w:World) (hf:pB w a ts) (hbk:ts.length+nA ts≤1100000) (h0:vB c now ts=true):
 Calls Tryz.prog 53 #[wG c,.agg #[.int .i64 now,.slice a ts.length cap],.int .i64 by_] w fun e w'=>qR (IH c now ts by_) w e w':=by
 obtain ⟨f1,f2,f3,f4⟩:=kS hbk;obtain ⟨-,hn0,hn1,hlen,-⟩:=gH h0;have HO:=iA (fun W (hW:Below w.heap.size w W)=>aJ c now a cap ts W (hf.later hW) f2 (by omega));have HSM:=iA (fun W (hW:Below w.heap.size w W)=>aO c now a cap ts W (hf.later hW) h0 hbk);have HWI:Hid (∀W now',Below w.heap.size w W→0≤now'→now'≤1000000000000→Calls Tryz.prog 97 #[wG c,.agg #[.int .i64 now,.slice a ts.length cap],.int .i64 now',.agg #[.string ⟨#[]⟩,.int .i64 0,.slice none 0 0,.slice none 0 0]] W fun e w'=>∃a' cap',e=.returned (.agg #[.int .i64 now',.slice a' (mC c.w now' ts).length cap'])∧eB w' W.heap.size a' (mC c.w now' ts)∧Below W.heap.size W w'):=fun W now' hW q0 q1=>by
  have:=iV c now now' a cap ts ⟨⟨#[]⟩,0,[],[]⟩ none none 0 0 W (hf.later hW) (Or.inl rfl) (Or.inl rfl) (by omega) (fun x hx=>hx.elim (fun e=>e ▸ aMf) (CZ h0 hbk x)) q0 (by omega);rw [show (⟨⟨#[]⟩,0,[],[]⟩:cA).name.toList.isEmpty=true from by kernel_rfl,aLd h0] at this;exact this
 have hcs:(by_<1∨¬by_<1∧1000000000000 - now<by_)∧IH c now ts by_=(now,ts,false)∨¬by_<1∧¬1000000000000 - now<by_∧IH c now ts by_=(now+by_,mC c.w (now+by_) ts,true):=by
  unfold IH;rw [if_neg (by rw [h0];simp)];by_cases h1:by_<1<;>by_cases h2:1000000000000 - now<by_<;>simp [h1,h2]
 rw [h0] at HO;clear hf hbk f1 f2 f3 f4 h0 hlen;unfold qR;unfold wG at *;have P:=iA (qT.new (w:=w) (c:=c) (now:=now) (a:=a) (n:=ts.length) (cap:=cap));generalize IH c now ts by_=V at *;rcases hcs with ⟨h1 | ⟨h1,h2⟩,E⟩ | ⟨h1,h2,E⟩
 all_goals
  have E:=iA E;go_enter Tryz.func53,Tryz.ntmps53;go_wp2_with (first
   | (go_at_call 50;refine (HO.out _ P.out.B).mono ?_;rintro e wv ⟨rfl,hb⟩;replace P:=iA (P.out.later hb);clear hb HO;obtain ⟨x0,x1,x2,x3,x4,x5,y0,y1,-,-,-,-,hz⟩:=P.out.cells)
   | (go_at_call 51;refine (HSM.out _ P.out.B).mono ?_;rintro e w9 ⟨ra,rc,rfl,ho,hb⟩;have P9:=iA (P.out.later hb);have HO9:=iA ho;clear ho hb x0 x1 x2 x3 x4 x5 y0 y1 HSM;obtain ⟨-,-,-,-,-,-,-,-,z0,z1,g0,g1,hz9⟩:=P9.out.cells)
   | (go_at_call 97;refine (HWI.out _ (now+by_) P.out.B (by omega) (by omega)).mono ?_;rintro e w9 ⟨ra,rc,rfl,ho,hb⟩;have P9:=iA (P.out.later hb);have HO9:=iA ho;clear ho hb x0 x1 x2 x3 x4 x5 y0 y1 HSM;obtain ⟨-,-,-,-,-,-,-,-,z0,z1,g0,g1,hz9⟩:=P9.out.cells))
  refine bodyPost_ret (v:=?_) (by simp [results,Tryz.results53,go_sem,z0,z1];rfl) rfl ?_;rw [E.out];first
   | exact ⟨ra,⟨rc,rfl⟩,P9.out.done HO9.out hz⟩
   | exact ⟨ra,rc,rfl,P9.out.done HO9.out hz⟩
end Go.Proofs.YtcneojllbkacoaaGreatDoor
