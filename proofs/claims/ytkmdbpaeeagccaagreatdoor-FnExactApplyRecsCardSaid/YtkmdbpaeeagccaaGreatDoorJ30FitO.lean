import Derived.Test.YtkmdbpaeeagccaaGreatDoorProg
import Derived.Test.YtkmdbpaeeagccaaGreatDoorJ02LabB
import Derived.Deep.OwnRows
import Derived.Test.YtkmdbpaeeagccaaGreatDoorJ17TkL
import Derived.Test.YtkmdbpaeeagccaaGreatDoorJ29SSta
import Derived.Test.YtkmdbpaeeagccaaGreatDoorJ25SKept
namespace Go.Proofs.YtkmdbpaeeagccaaGreatDoor
open Go.RowKit
set_option maxHeartbeats 400000 in
theorem eqMetricLimit_same (nm : ByteArray) (da : Int) (w : World) :
    Calls Tryz.prog 111 #[.agg #[.string nm,.int .i64 da],.agg #[.string nm,.int .i64 da]] w fun e w'=>e = .returned (.bool true) ∧ Below w.heap.size w w':=by
  go_enter Tryz.func111,Tryz.ntmps111
  go_wp2
  go_ret
  exact ⟨rfl,((Below.refl _ _).alloc (Nat.le_refl _) _).alloc (by simp) _⟩
set_option maxHeartbeats 1000000 in
theorem eqMetricLimitS_same (a a' : Option Addr) (cap cap' : Nat) (fs : List PairD) (w : World) (hf : PairsIn w a fs) (hf' : PairsIn w a' fs) (hlen : fs.length ≤ maxLen) :
    Calls Tryz.prog 85 #[.slice a fs.length cap,.slice a' fs.length cap'] w fun e w'=>e = .returned (.bool true) ∧ Below w.heap.size w w':=by
  unfold maxLen at hlen
  have HF : Hid (PairsIn w a fs):=hf
  have HF' : Hid (PairsIn w a' fs):=hf'
  clear hf hf'
  go_enter Tryz.func85,Tryz.ntmps85
  go_wp2
  go_loopw [5] (fun i wr=>∃ k : Nat,k ≤ fs.length ∧ i = .int .i64 k ∧ Below w.heap.size w wr) (fun i _=>fs.length - (intOf i).toNat)
  case atStart=>exact ⟨0,Nat.zero_le _,rfl,Below.refl _ _⟩
  case round =>
    obtain ⟨k,hk,rfl,hbel⟩:=hrel
    by_cases hlt : k < fs.length
    · obtain ⟨b,o,rfl,hb,c0,c1⟩:=(HF.out.later hbel).at hlt
      obtain ⟨b',o',rfl,hb',c0',c1'⟩:=(HF'.out.later hbel).at hlt
      have d0:=Later.cells c0
      have d1:=Later.cells c1
      have d0':=Later.cells c0'
      have d1':=Later.cells c1'
      clear c0 c1 c0' c1'
      have hne:=Later.there wr
      go_wp2_with fail
      refine wp_region_later (by kernel_rfl) (by kernel_rfl) ?_
      repeat (go_big_quiet_step (refine calls_later (eqMetricLimit_same _ _ _)))
      refine wpQuiet_nil ?_
      rintro _ ⟨x,rfl⟩
      go_wp2
      exact ⟨⟨k + 1,by omega,by go_num,hbel.trans (x.h.mono hbel.size)⟩,by simp [intOf]; omega⟩
    · go_wp2
      go_ret
      exact ⟨rfl,hbel⟩
set_option maxHeartbeats 400000 in
theorem eqSeries_same (nm : ByteArray) (da : Int) (w : World) :
    Calls Tryz.prog 112 #[.agg #[.string nm,.int .i64 da],.agg #[.string nm,.int .i64 da]] w fun e w'=>e = .returned (.bool true) ∧ Below w.heap.size w w':=by
  go_enter Tryz.func112,Tryz.ntmps112
  go_wp2
  go_ret
  exact ⟨rfl,((Below.refl _ _).alloc (Nat.le_refl _) _).alloc (by simp) _⟩
set_option maxHeartbeats 1000000 in
theorem eqSeriesS_same (a a' : Option Addr) (cap cap' : Nat) (fs : List PairD) (w : World) (hf : PairsIn w a fs) (hf' : PairsIn w a' fs) (hlen : fs.length ≤ maxLen) :
    Calls Tryz.prog 86 #[.slice a fs.length cap,.slice a' fs.length cap'] w fun e w'=>e = .returned (.bool true) ∧ Below w.heap.size w w':=by
  unfold maxLen at hlen
  have HF : Hid (PairsIn w a fs):=hf
  have HF' : Hid (PairsIn w a' fs):=hf'
  clear hf hf'
  go_enter Tryz.func86,Tryz.ntmps86
  go_wp2
  go_loopw [5] (fun i wr=>∃ k : Nat,k ≤ fs.length ∧ i = .int .i64 k ∧ Below w.heap.size w wr) (fun i _=>fs.length - (intOf i).toNat)
  case atStart=>exact ⟨0,Nat.zero_le _,rfl,Below.refl _ _⟩
  case round =>
    obtain ⟨k,hk,rfl,hbel⟩:=hrel
    by_cases hlt : k < fs.length
    · obtain ⟨b,o,rfl,hb,c0,c1⟩:=(HF.out.later hbel).at hlt
      obtain ⟨b',o',rfl,hb',c0',c1'⟩:=(HF'.out.later hbel).at hlt
      have d0:=Later.cells c0
      have d1:=Later.cells c1
      have d0':=Later.cells c0'
      have d1':=Later.cells c1'
      clear c0 c1 c0' c1'
      have hne:=Later.there wr
      go_wp2_with fail
      refine wp_region_later (by kernel_rfl) (by kernel_rfl) ?_
      repeat (go_big_quiet_step (refine calls_later (eqSeries_same _ _ _)))
      refine wpQuiet_nil ?_
      rintro _ ⟨x,rfl⟩
      go_wp2
      exact ⟨⟨k + 1,by omega,by go_num,hbel.trans (x.h.mono hbel.size)⟩,by simp [intOf]; omega⟩
    · go_wp2
      go_ret
      exact ⟨rfl,hbel⟩
end Go.Proofs.YtkmdbpaeeagccaaGreatDoor
namespace Go.Proofs.YtkmdbpaeeagccaaGreatDoor
open Go.RowKit
set_option maxRecDepth 100000 in
set_option maxHeartbeats 1000000 in
theorem eqTenant_same (f : TenD) (a1 a2 b1 b2 : Option Addr) (c1 c2 d1 d2 : Nat) (w : World) (p1 : PairsIn w a1 f.mets) (p2 : PairsIn w a2 f.sers) (q1 : PairsIn w b1 f.mets) (q2 : PairsIn w b2 f.sers) (l1 : f.mets.length ≤ maxLen) (l2 : f.sers.length ≤ maxLen) :
    Calls Tryz.prog 58 #[.agg #[.string f.name,.int .i64 f.limit,.slice a1 f.mets.length c1,.slice a2 f.sers.length c2],.agg #[.string f.name,.int .i64 f.limit,.slice b1 f.mets.length d1,.slice b2 f.sers.length d2]] w fun e w'=>e = .returned (.bool true) ∧ Below w.heap.size w w':=by
  have HM : Hid (∀ W,Below w.heap.size w W → Calls Tryz.prog 85 #[.slice a1 f.mets.length c1,.slice b1 f.mets.length d1] W fun e w'=>e = .returned (.bool true) ∧ Below W.heap.size W w') :=
    fun W hW=>eqMetricLimitS_same a1 b1 c1 d1 f.mets W (p1.later hW) (q1.later hW) l1
  have HS : Hid (∀ W,Below w.heap.size w W → Calls Tryz.prog 86 #[.slice a2 f.sers.length c2,.slice b2 f.sers.length d2] W fun e w'=>e = .returned (.bool true) ∧ Below W.heap.size W w') :=
    fun W hW=>eqSeriesS_same a2 b2 c2 d2 f.sers W (p2.later hW) (q2.later hW) l2
  clear p1 p2 q1 q2
  go_enter Tryz.func58,Tryz.ntmps58
  go_wp2_with fail
  refine (HM.out _ (bto (bnew _ _) (bnew _ _))).mono ?_
  rintro e w1 ⟨rfl,hb1⟩
  have B1 : Hid (Below w.heap.size w w1):=bto (bto (bnew _ _) (bnew _ _)) hb1
  have t0 : w1.cell? ⟨w.heap.size,3,none⟩ = some (.slice a2 f.sers.length c2):=(((Blk.new w _ _).alloc _).later hb1).cell 3
  have t1 : w1.cell? ⟨w.heap.size + 1,3,none⟩ = some (.slice b2 f.sers.length d2):=by
    have:=((Blk.new (w.alloc (.cells #[.string f.name,.int .i64 f.limit,.slice a1 f.mets.length c1,.slice a2 f.sers.length c2] 78)) #[.string f.name,.int .i64 f.limit,.slice b1 f.mets.length d1,.slice b2 f.sers.length d2] 78).later hb1).cell 3
    simpa using this
  clear hb1
  go_wp2_with fail
  refine (HS.out _ B1.out).mono ?_
  rintro e w2 ⟨rfl,hb2⟩
  have B2 : Hid (Below w.heap.size w w2):=bto B1.out hb2
  clear hb2
  go_wp2
  go_ret
  exact ⟨rfl,B2.out⟩
def LenT (fs : List TenD) : Prop:=∀ i (h : i < fs.length),fs[i].mets.length ≤ maxLen ∧ fs[i].sers.length ≤ maxLen
set_option maxRecDepth 100000 in
set_option maxHeartbeats 2000000 in
theorem eqTenantS_same (a a' : Option Addr) (cap cap' : Nat) (fs : List TenD) (w : World) (hf : TensIn w a fs) (hf' : TensIn w a' fs) (hlen : fs.length ≤ maxLen) (hl : LenT fs) :
    Calls Tryz.prog 29 #[.slice a fs.length cap,.slice a' fs.length cap'] w fun e w'=>e = .returned (.bool true) ∧ Below w.heap.size w w':=by
  unfold maxLen at hlen
  have HF : Hid (TensIn w a fs):=hf
  have HF' : Hid (TensIn w a' fs):=hf'
  have HL : Hid (LenT fs):=hl
  clear hf hf' hl
  go_enter Tryz.func29,Tryz.ntmps29
  go_wp2
  go_loopw [5] (fun i wr=>∃ k : Nat,k ≤ fs.length ∧ i = .int .i64 k ∧ Below w.heap.size w wr) (fun i _=>fs.length - (intOf i).toNat)
  case atStart=>exact ⟨0,Nat.zero_le _,rfl,Below.refl _ _⟩
  case round =>
    obtain ⟨k,hk,rfl,hbel⟩:=hrel
    by_cases hlt : k < fs.length
    · obtain ⟨b,o,a1,q1,a2,q2,rfl,hb,c0,c1,c2,c3,p1,p2⟩:=(HF.out.later hbel).at hlt
      obtain ⟨b',o',b1,r1,b2,r2,rfl,hb',e0,e1,e2,e3,s1,s2⟩:=(HF'.out.later hbel).at hlt
      have d0:=Later.cells c0
      have d1:=Later.cells c1
      have d2:=Later.cells c2
      have d3:=Later.cells c3
      have g0:=Later.cells e0
      have g1:=Later.cells e1
      have g2:=Later.cells e2
      have g3:=Later.cells e3
      have HC : Hid (∀ x : Later wr,Calls Tryz.prog 58 #[.agg #[.string fs[k].name,.int .i64 fs[k].limit,.slice a1 fs[k].mets.length q1,.slice a2 fs[k].sers.length q2],.agg #[.string fs[k].name,.int .i64 fs[k].limit,.slice b1 fs[k].mets.length r1,.slice b2 fs[k].sers.length r2]] x.w' fun e w'=>e = .returned (.bool true) ∧ Below x.w'.heap.size x.w' w') :=
        fun x=>eqTenant_same fs[k] _ _ _ _ _ _ _ _ x.w' (p1.later x.h) (p2.later x.h) (s1.later x.h) (s2.later x.h) (HL.out k hlt).1 (HL.out k hlt).2
      clear c0 c1 c2 c3 e0 e1 e2 e3 p1 p2 s1 s2
      have hne:=Later.there wr
      go_wp2_with fail
      refine wp_region_later (by kernel_rfl) (by kernel_rfl) ?_
      repeat (go_big_quiet_step (exact calls_later (HC.out _)))
      refine wpQuiet_nil ?_
      rintro _ ⟨x,rfl⟩
      go_wp2
      exact ⟨⟨k + 1,by omega,by go_num,hbel.trans (x.h.mono hbel.size)⟩,by simp [intOf]; omega⟩
    · go_wp2
      go_ret
      exact ⟨rfl,hbel⟩
set_option maxRecDepth 100000 in
set_option maxHeartbeats 1000000 in
theorem eqState_same (now : Int) (a a' : Option Addr) (cap cap' : Nat) (fs : List TenD) (w : World) (hf : TensIn w a fs) (hf' : TensIn w a' fs) (hlen : fs.length ≤ maxLen) (hl : LenT fs) :
    Calls Tryz.prog 11 #[.agg #[.int .i64 now,.slice a fs.length cap],.agg #[.int .i64 now,.slice a' fs.length cap']] w fun e w'=>e = .returned (.bool true) ∧ Below w.heap.size w w':=by
  have HC : Hid (∀ W,Below w.heap.size w W → Calls Tryz.prog 29 #[.slice a fs.length cap,.slice a' fs.length cap'] W fun e w'=>e = .returned (.bool true) ∧ Below W.heap.size W w') :=
    fun W hW=>eqTenantS_same a a' cap cap' fs W (hf.later hW) (hf'.later hW) hlen hl
  clear hf hf' hl
  go_enter Tryz.func11,Tryz.ntmps11
  go_wp2_with fail
  refine (HC.out _ (bto (bnew _ _) (bnew _ _))).mono ?_
  rintro e w1 ⟨rfl,hb1⟩
  have B1 : Hid (Below w.heap.size w w1):=bto (bto (bnew _ _) (bnew _ _)) hb1
  clear hb1
  go_wp2
  go_ret
  exact ⟨rfl,B1.out⟩
end Go.Proofs.YtkmdbpaeeagccaaGreatDoor
namespace Go.Proofs.YtkmdbpaeeagccaaGreatDoor
open Go.RowKit
theorem pair_bulk_at (ps : List PairD) (k : Nat) (h : k < ps.length) : ps[k].s.size ≤ pairBulk ps:=by
  have h1:=pairBulk_take_succ ps k h
  have h2:=pairBulk_take_le ps (k + 1)
  omega
theorem fit_of {ts : List TenD} (h : ts.length + tensBulk ts ≤ 1100000) : FitT ts 1100000 ∧ BigT ts ∧ True ∧ LenT ts:=by
  have hb : ∀ i (hi : i < ts.length),tenBulk ts[i] ≤ 1100000:=fun i hi=>by have:=tenBulk_at ts i hi; omega
  have h1 : ∀ i (hi : i < ts.length),ts[i].name.size ≤ 1100000 ∧ ts[i].mets.length ≤ 1100000 ∧ ts[i].sers.length ≤ 1100000 ∧ pairBulk ts[i].mets ≤ 1100000 ∧ pairBulk ts[i].sers ≤ 1100000:=fun i hi=>by have:=hb i hi; unfold tenBulk at this; omega
  have h2 : ∀ i (hi : i < ts.length),(∀ j (h' : j < ts[i].mets.length),ts[i].mets[j].s.size ≤ 1000000000) ∧ (∀ j (h' : j < ts[i].sers.length),ts[i].sers[j].s.size ≤ 1000000000):=fun i hi =>
    ⟨fun j hj=>by have:=pair_bulk_at _ j hj; have:=h1 i hi; omega,fun j hj=>by have:=pair_bulk_at _ j hj; have:=h1 i hi; omega⟩
  refine ⟨fun i hi=>⟨?_,(h2 i hi).1,(h2 i hi).2,?_,?_,?_⟩,fun i hi=>⟨?_,(h2 i hi).1,(h2 i hi).2,?_,?_⟩,trivial,fun i hi=>⟨?_,?_⟩⟩ <;> (have:=h1 i hi; unfold maxLen at *; omega)
end Go.Proofs.YtkmdbpaeeagccaaGreatDoor
