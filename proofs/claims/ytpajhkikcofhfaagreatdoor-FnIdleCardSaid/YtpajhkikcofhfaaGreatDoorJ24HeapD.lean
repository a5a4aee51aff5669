import Derived.Test.YtpajhkikcofhfaaGreatDoorJ18IAdS
import Derived.Test.YtpajhkikcofhfaaGreatDoorJ02LabB
import Derived.Test.YtpajhkikcofhfaaGreatDoorJ20FitO
import Derived.Test.YtpajhkikcofhfaaGreatDoorJ23SWth
import Derived.Test.YtpajhkikcofhfaaGreatDoorProg
import Derived.Test.YtpajhkikcofhfaaGreatDoorJ19TenF
import Derived.Test.YtpajhkikcofhfaaGreatDoorJ05HpM
namespace Go.Proofs.YtpajhkikcofhfaaGreatDoor
open Go.RowKit

/-- Only blocks outside of those from B on have turned. -/
theorem TensOwn.turned {S : Nat → Prop} {w w' : World} {B : Nat} {a : Option Addr} {ts : List TenD} (h : TensOwn w B a ts) (ht : Turn S w w') (hS : ∀ g, B ≤ g → g < w.heap.size → ¬ S g) : TensOwn w' B a ts := by
  rcases h with h | ⟨g, o, cur, t, T, rfl, hB, hg, hT, h⟩
  · exact Or.inl h
  · have hk := ht.block g (lt_of_block hg) (hS g hB (lt_of_block hg))
    exact Or.inr ⟨g, o, cur, t, T, rfl, hB, hk.trans hg, hT, fun i hi => (h i hi).keep (fun j _ => World.cell?_of_block hk) fun g' hg' hB' _ => ⟨ht.block g' hg' (hS g' hB' hg'), rfl⟩⟩
/-- A state and whether it was done. -/
def StOut (V : Int × List TenD × Bool) (w : World) (e : Ending) (w' : World) : Prop :=
  ∃ a cap, e = .returned (.tuple #[.agg #[.int .i64 V.1, .slice a V.2.1.length cap], .bool V.2.2]) ∧ TensOwn w' w.heap.size a V.2.1 ∧ Below w.heap.size w w'
/-- What every tenant of a state that is read is at most. -/
def FitS (x : TenD) : Prop := x.name.size ≤ 1048576 ∧ (∀ p ∈ x.mets, p.s.size ≤ 1048576) ∧ (∀ p ∈ x.sers, p.s.size ≤ 1048576) ∧ x.mets.length ≤ 1048577 ∧ x.sers.length ≤ 1048577
theorem fitS_of {ts : List TenD} (h : ts.length + tensBulk ts ≤ 1048576) : ∀ x ∈ ts, x.name.size ≤ 1048576 ∧ (∀ p ∈ x.mets, p.s.size ≤ 1048576) ∧ (∀ p ∈ x.sers, p.s.size ≤ 1048576) ∧ x.mets.length ≤ 1048576 ∧ x.sers.length ≤ 1048576 := by
  intro x hx
  obtain ⟨i, hi, rfl⟩ := List.getElem_of_mem hx
  have hb := tenBulk_at ts i hi
  unfold tenBulk at hb
  refine ⟨by omega, fun p hp => ?_, fun p hp => ?_, by omega, by omega⟩
  · obtain ⟨j, hj, rfl⟩ := List.getElem_of_mem hp
    have := pair_bulk_at _ j hj
    omega
  · obtain ⟨j, hj, rfl⟩ := List.getElem_of_mem hp
    have := pair_bulk_at _ j hj
    omega
theorem fitL_of {ts : List TenD} (h : ∀ x ∈ ts, FitS x) : FitL ts := fun x hx => by
  obtain ⟨h1, h2, h3, h4, h5⟩ := h x hx
  exact ⟨by unfold maxLen; omega, fun i hi => by have := h2 _ (List.getElem_mem hi); unfold maxLen; omega, fun i hi => by have := h3 _ (List.getElem_mem hi); unfold maxLen; omega, by omega, by omega⟩
theorem tenOf_fit {ts : List TenD} (h : ∀ x ∈ ts, x.name.size ≤ 1048576 ∧ (∀ p ∈ x.mets, p.s.size ≤ 1048576) ∧ (∀ p ∈ x.sers, p.s.size ≤ 1048576) ∧ x.mets.length ≤ 1048576 ∧ x.sers.length ≤ 1048576) {tenant : ByteArray} (hn : tenant.size ≤ 1048576) :
    (tenOf ts tenant).name.size ≤ 1048576 ∧ (∀ p ∈ (tenOf ts tenant).mets, p.s.size ≤ 1048576) ∧ (∀ p ∈ (tenOf ts tenant).sers, p.s.size ≤ 1048576) ∧ (tenOf ts tenant).mets.length ≤ 1048576 ∧ (tenOf ts tenant).sers.length ≤ 1048576 := by
  rcases tenOf_in (ts := ts) (name := tenant) with ⟨hm, _⟩ | ⟨e, _⟩
  · exact h _ hm
  · rw [e]
    exact ⟨hn, fun p hp => (by cases hp), fun p hp => (by cases hp), Nat.zero_le _, Nat.zero_le _⟩
theorem insBy_len_le {α : Type} {key : α → ByteArray} {a : α} (l : List α) : (insBy key a l).length ≤ l.length + 1 := by
  induction l with
  | nil => simp [insBy]
  | cons p r ih =>
    rw [insBy]
    split
    · simp only [List.length_cons]; omega
    · split <;> simp
theorem limT_fit {t : TenD} {metric : ByteArray} {limit : Int} (h : t.name.size ≤ 1048576 ∧ (∀ p ∈ t.mets, p.s.size ≤ 1048576) ∧ (∀ p ∈ t.sers, p.s.size ≤ 1048576) ∧ t.mets.length ≤ 1048576 ∧ t.sers.length ≤ 1048576) (hm : metric.size ≤ 1048576) : FitS (limT t metric limit) := by
  obtain ⟨h1, h2, h3, h4, h5⟩ := h
  unfold limT
  split
  · exact ⟨h1, h2, h3, Nat.le_succ_of_le h4, Nat.le_succ_of_le h5⟩
  · refine ⟨h1, fun p hp => ?_, h3, ?_, Nat.le_succ_of_le h5⟩
    · simp only at hp
      split at hp
      · exact h2 p (mem_delBy.1 hp).1
      · rcases insBy_mem hp with rfl | hp
        · exact hm
        · exact h2 p hp
    · simp only
      split
      · have : (delBy (·.s) metric t.mets).length ≤ t.mets.length := List.length_filter_le _ _
        omega
      · have := insBy_len_le (key := fun p : PairD => p.s) (a := ⟨metric, limit⟩) t.mets
        omega
theorem setL_fit {ts : List TenD} (h : ∀ x ∈ ts, x.name.size ≤ 1048576 ∧ (∀ p ∈ x.mets, p.s.size ≤ 1048576) ∧ (∀ p ∈ x.sers, p.s.size ≤ 1048576) ∧ x.mets.length ≤ 1048576 ∧ x.sers.length ≤ 1048576) {tenant metric : ByteArray} {limit : Int} (hn : tenant.size ≤ 1048576) (hm : metric.size ≤ 1048576) :
    (∀ x ∈ (setL ts tenant metric limit).1, FitS x) ∧ (setL ts tenant metric limit).1.length ≤ ts.length + 1 := by
  have h0 : ∀ x ∈ ts, FitS x := fun x hx => by
    obtain ⟨h1, h2, h3, h4, h5⟩ := h x hx
    exact ⟨h1, h2, h3, by omega, by omega⟩
  unfold setL
  split
  · exact ⟨h0, by simp⟩
  · split
    · refine ⟨fun x hx => h0 x (mem_delBy.1 hx).1, ?_⟩
      have : (delBy (·.name) tenant ts).length ≤ ts.length := List.length_filter_le _ _
      show (delBy (·.name) tenant ts).length ≤ _
      omega
    · split
      · exact ⟨h0, by simp⟩
      · refine ⟨fun x hx => ?_, insBy_len_le _⟩
        rcases insBy_mem hx with rfl | hx
        · exact limT_fit (tenOf_fit h hn) hm
        · exact h0 x hx
end Go.Proofs.YtpajhkikcofhfaaGreatDoor

namespace Go.Proofs.YtpajhkikcofhfaaGreatDoor
open Go.RowKit Go.Maps

/-- A state and a verdict. -/
def AdOut (V : Int × List TenD × Nat) (w : World) (e : Ending) (w' : World) : Prop :=
  ∃ a cap, e = .returned (.tuple #[.agg #[.int .i64 V.1, .slice a V.2.1.length cap], .int .i64 (V.2.2 : Nat)]) ∧ TensOwn w' w.heap.size a V.2.1 ∧ Below w.heap.size w w'
theorem addT_fit {t : TenD} {key : ByteArray} {now : Int} (h : t.name.size ≤ 1048576 ∧ (∀ p ∈ t.mets, p.s.size ≤ 1048576) ∧ (∀ p ∈ t.sers, p.s.size ≤ 1048576) ∧ t.mets.length ≤ 1048576 ∧ t.sers.length ≤ 1048576) (hk : key.size ≤ 1048576) : FitS (addT t key now) := by
  obtain ⟨h1, h2, h3, h4, h5⟩ := h
  refine ⟨h1, h2, fun p hp => ?_, Nat.le_succ_of_le h4, ?_⟩
  · rcases insBy_mem (show p ∈ insBy (·.s) ⟨key, now⟩ t.sers from hp) with rfl | hp
    · exact hk
    · exact h3 p hp
  · have := insBy_len_le (key := fun p : PairD => p.s) (a := ⟨key, now⟩) t.sers
    show (insBy (·.s) (⟨key, now⟩ : PairD) t.sers).length ≤ _
    omega
theorem admL_fit {ts : List TenD} (h : ∀ x ∈ ts, x.name.size ≤ 1048576 ∧ (∀ p ∈ x.mets, p.s.size ≤ 1048576) ∧ (∀ p ∈ x.sers, p.s.size ≤ 1048576) ∧ x.mets.length ≤ 1048576 ∧ x.sers.length ≤ 1048576) {c : CfgD} {now : Int} {tenant key : ByteArray} (hn : tenant.size ≤ 1048576) (hk : key.size ≤ 1048576) :
    (∀ x ∈ (admL c now ts tenant key).1, FitS x) ∧ (admL c now ts tenant key).1.length ≤ ts.length + 1 := by
  have h0 : ∀ x ∈ ts, FitS x := fun x hx => by
    obtain ⟨h1, h2, h3, h4, h5⟩ := h x hx
    exact ⟨h1, h2, h3, by omega, by omega⟩
  have hi : (∀ x ∈ insBy (·.name) (addT (tenOf ts tenant) key now) ts, FitS x) ∧ (insBy (·.name) (addT (tenOf ts tenant) key now) ts).length ≤ ts.length + 1 := by
    refine ⟨fun x hx => ?_, insBy_len_le _⟩
    rcases insBy_mem hx with rfl | hx
    · exact addT_fit (tenOf_fit h hn) hk
    · exact h0 x hx
  have hs : (∀ x ∈ ts, FitS x) ∧ ts.length ≤ ts.length + 1 := ⟨h0, Nat.le_succ _⟩
  unfold admL
  split
  · exact hs
  · split
    · exact hi
    · generalize (if (tenOf ts tenant).limit = -1 then c.tl else (tenOf ts tenant).limit) = LM
      split
      · exact hs
      · split
        · exact hs
        · exact hi
set_option maxRecDepth 100000 in
set_option maxHeartbeats 4000000 in
theorem implAdmit_any (c : CfgD) (now : Int) (a : Option Addr) (cap : Nat) (ts : List TenD) (tenant key : ByteArray) (w : World) (hf : TensIn w a ts) (hbk : ts.length + tensBulk ts ≤ 1048576) (hU : UTab w) (hn : tenant.size ≤ 1048576) (hk : key.size ≤ 1048576) :
    Calls Tryz.prog 8 #[cfgV c, .agg #[.int .i64 now, .slice a ts.length cap], .string tenant, .string key] w fun e w' => AdOut (admitV c now ts tenant key) w e w' := by
  obtain ⟨f1, f2, f3, f4⟩ := fit_of hbk
  have hfs := fitS_of hbk
  obtain ⟨hfl, hsl⟩ := admL_fit hfs (c := c) (now := now) hn hk
  have HO : Hid (∀ W, Below w.heap.size w W → Calls Tryz.prog 21 #[cfgV c, .agg #[.int .i64 now, .slice a ts.length cap]] W fun e w' => OpenOut c now ts 1048576 W e w') := fun W hW => open_any c now a cap ts 1048576 W (hf.later hW) f1 (by omega) (hU.later hW)
  have HSL : Hid (∀ l m B W, stateB c now ts = true → Below w.heap.size w W → B ≤ W.heap.size → LedAt W B l m c now ts 1048576 → Calls Tryz.prog 22 #[.pointer (some ⟨l, 0, none⟩), .string tenant, .string key] W fun e w' => e = .returned (.int .i64 ((admL c now ts tenant key).2 : Nat)) ∧ LedAt w' B l m c now (admL c now ts tenant key).1 (1048576 + 1) ∧ Turn (fun g => B ≤ g) W w') := fun l m B W hs hW hB h => ladmit_any l m tenant key c now B ts 1048576 W h hB (hU.later hW) hn hk (by omega) (by omega) (fun t ht => by have := (hfs t ht).2.2.2.2; omega) (fun t ht y hy => (sers_at (ten_parts (tens_at (tens_of hs).2.2.2.2 t ht)).2.2.1 y hy).2.2) (by omega)
  have HTL : Hid (∀ l m B W, LedAt W B l m c now (admL c now ts tenant key).1 (1048576 + 1) → Calls Tryz.prog 23 #[.pointer (some ⟨l, 0, none⟩)] W fun e w' => ∃ a cap, e = .returned (.agg #[.int .i64 now, .slice a (admL c now ts tenant key).1.length cap]) ∧ TensOwn w' W.heap.size a (admL c now ts tenant key).1 ∧ Below W.heap.size W w') := fun l m B W h => ltell_any l m c now B _ (1048576 + 1) W h (fitL_of hfl) (by omega)
  have HV0 : Hid (stateB c now ts = false → admitV c now ts tenant key = (0, [], 5)) := fun h => by unfold admitV; rw [if_pos h]
  have HV1 : Hid (stateB c now ts = true → admitV c now ts tenant key = (now, (admL c now ts tenant key).1, (admL c now ts tenant key).2)) := fun h => admL_eq h tenant key
  clear hf f1 f2 f3 f4 hfs hfl hU
  unfold OpenOut at HO
  unfold AdOut
  generalize admitV c now ts tenant key = V at *
  generalize admL c now ts tenant key = R at *
  unfold cfgV at *
  go_enter Tryz.func8, Tryz.ntmps8
  have B1 : Hid (Below w.heap.size w (((w.alloc (.cells #[.int .i64 c.w, .int .i64 c.tl, .int .i64 c.ml, .int .i64 c.sh, .int .i64 c.ha, .int .i64 c.sg] 24)).alloc (.cells #[.int .i64 now, .slice a ts.length cap] 41)).alloc (.cells #[.int .i64 0, .slice none 0 0] 41))) := bto (bto (bnew _ _) (bnew _ _)) (bnew _ _)
  have R1 : Hid (Blk (((w.alloc (.cells #[.int .i64 c.w, .int .i64 c.tl, .int .i64 c.ml, .int .i64 c.sh, .int .i64 c.ha, .int .i64 c.sg] 24)).alloc (.cells #[.int .i64 now, .slice a ts.length cap] 41)).alloc (.cells #[.int .i64 0, .slice none 0 0] 41)) (w.heap.size + 1 + 1) #[.int .i64 0, .slice none 0 0] 41) := hid (by have := Blk.new ((w.alloc (.cells #[.int .i64 c.w, .int .i64 c.tl, .int .i64 c.ml, .int .i64 c.sh, .int .i64 c.ha, .int .i64 c.sg] 24)).alloc (.cells #[.int .i64 now, .slice a ts.length cap] 41)) #[.int .i64 0, .slice none 0 0] 41; simpa using this)
  go_wp2_with fail
  refine (HO.out _ B1.out).mono ?_
  intro e w1 hx
  have HX := hid hx
  clear hx
  rcases HX.out with ⟨hs, rfl, hb⟩ | ⟨hs, l, m, rfl, hlo, hled, hb⟩
  · have HB : Hid (Below w.heap.size w w1) := bto B1.out hb
    have RB : Hid (Blk w1 (w.heap.size + 1 + 1) #[.int .i64 0, .slice none 0 0] 41) := R1.out.later hb
    have HV : Hid (V = (0, [], 5)) := HV0.out hs
    have y0 : w1.cell? ⟨w.heap.size + 1 + 1, 0, none⟩ = some (.int .i64 0) := RB.out.cell 0
    have y1 : w1.cell? ⟨w.heap.size + 1 + 1, 1, none⟩ = some (.slice none 0 0) := RB.out.cell 1
    have f0 := RB.out.free 0
    have f1 := RB.out.free 1
    have hwl : w.heap.size + 1 + 1 < w1.heap.size := lt_of_block RB.out
    clear HX hb hs
    go_wp2
    refine bodyPost_ret (v := .tuple #[.agg #[.int .i64 0, .slice none 0 0], .int .i64 5]) (by simp [results, Tryz.results8, go_sem, y0, y1]) rfl ?_
    rw [HV.out]
    refine ⟨none, 0, rfl, Or.inl rfl, ?_⟩
    first
      | exact (HB.out.setCell (by show w.heap.size ≤ w.heap.size + 1 + 1; omega) _).setCell (by show w.heap.size ≤ w.heap.size + 1 + 1; omega) _
      | exact HB.out
  · have HB : Hid (Below w.heap.size w w1) := bto B1.out hb
    have RB : Hid (Blk w1 (w.heap.size + 1 + 1) #[.int .i64 0, .slice none 0 0] 41) := R1.out.later hb
    have HV : Hid (V = (now, R.1, R.2)) := HV1.out hs
    have HSB := hid hs
    have HL := hid hled
    have hs1 := hb.size
    have hs0 : w.heap.size + 1 + 1 < (((w.alloc (.cells #[.int .i64 c.w, .int .i64 c.tl, .int .i64 c.ml, .int .i64 c.sh, .int .i64 c.ha, .int .i64 c.sg] 24)).alloc (.cells #[.int .i64 now, .slice a ts.length cap] 41)).alloc (.cells #[.int .i64 0, .slice none 0 0] 41)).heap.size := lt_of_block R1.out
    generalize (((w.alloc (.cells #[.int .i64 c.w, .int .i64 c.tl, .int .i64 c.ml, .int .i64 c.sh, .int .i64 c.ha, .int .i64 c.sg] 24)).alloc (.cells #[.int .i64 now, .slice a ts.length cap] 41)).alloc (.cells #[.int .i64 0, .slice none 0 0] 41)) = w0 at *
    clear HX hb hs hled HO HV0 HV1
    go_wp2_with fail
    refine (HSL.out l m _ _ HSB.out HB.out hs1 HL.out).mono ?_
    rintro e w2 ⟨rfl, hl2, ht2⟩
    have HL2 := hid hl2
    have R2 : Hid (Blk w2 (w.heap.size + 1 + 1) #[.int .i64 0, .slice none 0 0] 41) := ht2.blk RB.out (by omega)
    have B2 : Hid (Below w.heap.size w w2) := HB.out.trans (ht2.below (by omega) fun i hi e => by omega)
    clear hl2 ht2 HSL
    go_wp2_with fail
    refine (HTL.out l m _ _ HL2.out).mono ?_
    rintro e w3 ⟨ra, rc, rfl, ho3, hb3⟩
    have HO3 : Hid (TensOwn w3 w2.heap.size ra R.1) := ho3
    have R3 : Hid (Blk w3 (w.heap.size + 1 + 1) #[.int .i64 0, .slice none 0 0] 41) := R2.out.later hb3
    have B3 : Hid (Below w.heap.size w w3) := bto B2.out hb3
    have y0 : w3.cell? ⟨w.heap.size + 1 + 1, 0, none⟩ = some (.int .i64 0) := R3.out.cell 0
    have y1 : w3.cell? ⟨w.heap.size + 1 + 1, 1, none⟩ = some (.slice none 0 0) := R3.out.cell 1
    have f0 := R3.out.free 0
    have f1 := R3.out.free 1
    have hwl : w.heap.size + 1 + 1 < w3.heap.size := lt_of_block R3.out
    have hw2 : w.heap.size + 1 + 1 < w2.heap.size := lt_of_block R2.out
    clear ho3 hb3
    go_wp2
    have HTE : Turn (· = w.heap.size + 1 + 1) w3 ((w3.setCell ⟨w.heap.size + 1 + 1, 0, none⟩ (.int .i64 now)).setCell ⟨w.heap.size + 1 + 1, 1, none⟩ (.slice ra R.1.length rc)) := ((Turn.refl (· = w.heap.size + 1 + 1) w3).setCell (Or.inl rfl) 0 _).setCell (Or.inl rfl) 1 _
    refine bodyPost_ret (v := .tuple #[.agg #[.int .i64 now, .slice ra R.1.length rc], .int .i64 (R.2 : Nat)]) (by simp [results, Tryz.results8, go_sem, y0, y1]) rfl ?_
    rw [HV.out]
    have ho : TensOwn ((w3.setCell ⟨w.heap.size + 1 + 1, 0, none⟩ (.int .i64 now)).setCell ⟨w.heap.size + 1 + 1, 1, none⟩ (.slice ra R.1.length rc)) w.heap.size ra R.1 := (TensOwn.turned HO3.out HTE (fun g h1 h2 e => by omega)).mono (by omega)
    have hbe : Below w.heap.size w ((w3.setCell ⟨w.heap.size + 1 + 1, 0, none⟩ (.int .i64 now)).setCell ⟨w.heap.size + 1 + 1, 1, none⟩ (.slice ra R.1.length rc)) := ((Turn.of (S := fun i => w.heap.size ≤ i) B3.out).trans' (HTE.mono fun i _ e => by omega)).below (Nat.le_refl _) fun i hi h => by omega
    first
      | exact ⟨ra, ⟨rc, rfl⟩, ho, hbe⟩
      | exact ⟨ra, rc, rfl, ho, hbe⟩
end Go.Proofs.YtpajhkikcofhfaaGreatDoor

namespace Go.Proofs.YtpajhkikcofhfaaGreatDoor

/-- The tenants in the midst of a tick: those that are still to come as they were. -/
def midTs (win now : Int) (left : ByteArray → Bool) (ts : List TenD) : List TenD := (ts.map fun t => if left t.name = true then t else keptT win now t).filter fun t => left t.name || !idleB t
theorem mid_name {win now : Int} {left : ByteArray → Bool} (t : TenD) : (if left t.name = true then t else keptT win now t).name = t.name := by split <;> rfl
theorem midTs_all {win now : Int} {left : ByteArray → Bool} {ts : List TenD} (h : ∀ t ∈ ts, left t.name = true) : midTs win now left ts = ts := by
  have h1 : ts.map (fun t => if left t.name = true then t else keptT win now t) = ts := by
    have : ∀ t ∈ ts, (if left t.name = true then t else keptT win now t) = id t := fun t ht => by rw [if_pos (h t ht)]; rfl
    rw [List.map_congr_left this, List.map_id]
  unfold midTs
  rw [h1]
  exact List.filter_eq_self.2 fun t ht => by rw [h t ht]; rfl
theorem midTs_none {win now : Int} {left : ByteArray → Bool} {ts : List TenD} (h : ∀ n, left n = false) : midTs win now left ts = keptTs win now ts := by
  unfold midTs keptTs
  simp only [h, Bool.false_or, Bool.false_eq_true, if_false]
theorem midTs_cons {win now : Int} {left : ByteArray → Bool} {p : TenD} {r : List TenD} : midTs win now left (p :: r) = if (left p.name || !idleB (if left p.name = true then p else keptT win now p)) = true then (if left p.name = true then p else keptT win now p) :: midTs win now left r else midTs win now left r := by
  unfold midTs
  rw [List.map_cons, List.filter_cons, mid_name]
theorem midTs_mem {win now : Int} {left : ByteArray → Bool} {ts : List TenD} {q : TenD} (h : q ∈ midTs win now left ts) : ∃ t ∈ ts, q = (if left t.name = true then t else keptT win now t) ∧ q.name = t.name := by
  have := (List.mem_filter.1 h).1
  obtain ⟨t, ht, rfl⟩ := List.mem_map.1 this
  exact ⟨t, ht, rfl, mid_name t⟩
theorem midTs_congr {win now : Int} {left left' : ByteArray → Bool} {ts : List TenD} (h : ∀ t ∈ ts, left t.name = left' t.name) : midTs win now left ts = midTs win now left' ts := by
  induction ts with
  | nil => rfl
  | cons p r ih =>
    rw [midTs_cons, midTs_cons, ih fun t ht => h t (List.mem_cons_of_mem _ ht), h p (List.mem_cons_self ..)]
/-- One tenant's turn. -/
theorem midTs_step {win now : Int} {left left' : ByteArray → Bool} {ts : List TenD} (hr : RiseBy (·.name) ts) {t : TenD} (ht : t ∈ ts) (hl : left t.name = true) (hl' : ∀ n, left' n = (left n && !(n.toList == t.name.toList))) :
    midTs win now left' ts = if idleB (keptT win now t) = true then delBy (·.name) t.name (midTs win now left ts) else insBy (·.name) (keptT win now t) (midTs win now left ts) := by
  induction ts with
  | nil => cases ht
  | cons p r ih =>
    have hself : left' t.name = false := by rw [hl', (same_iff t.name t.name).2 rfl]; simp
    have hoth : ∀ n, n ≠ t.name → left' n = left n := fun n hne => by rw [hl', same_not hne]; simp
    rcases List.mem_cons.1 ht with rfl | ht
    · have hrest : midTs win now left' r = midTs win now left r := midTs_congr fun q hq => hoth q.name (fun e => blt_ne (hr.head q hq) e.symm)
      have hne : ∀ q ∈ midTs win now left r, q.name ≠ t.name := fun q hq => by
        obtain ⟨s, hs, _, e⟩ := midTs_mem hq
        rw [e]
        exact fun e' => blt_ne (hr.head s hs) e'.symm
      rw [midTs_cons, midTs_cons, hself, hl, hrest]
      simp only [Bool.false_eq_true, if_false, Bool.false_or, if_true, Bool.true_or]
      by_cases hi : idleB (keptT win now t) = true
      · rw [if_pos hi, hi]
        have hd : delBy (·.name) t.name (midTs win now left r) = midTs win now left r := List.filter_eq_self.2 fun q hq => by rw [same_not (hne q hq)]; rfl
        unfold delBy at hd ⊢
        rw [List.filter_cons_of_neg (by simp), hd]
        simp
      · have hi' : idleB (keptT win now t) = false := by simpa using hi
        rw [if_neg hi, hi', if_pos (by rfl), insBy, if_neg (by show ¬ blt t.name t.name = true; rw [blt_irrefl]; simp), if_pos (by exact (same_iff t.name t.name).2 rfl)]
    · have hb := hr.head t ht
      have hpn : p.name ≠ t.name := blt_ne hb
      have ihr := ih hr.tail ht
      rw [midTs_cons, midTs_cons, hoth p.name hpn, ihr]
      by_cases hk : (left p.name || !idleB (if left p.name = true then p else keptT win now p)) = true
      · rw [if_pos hk, if_pos hk]
        have hn := mid_name (win := win) (now := now) (left := left) p
        generalize (if left p.name = true then p else keptT win now p) = q at *
        by_cases hi : idleB (keptT win now t) = true
        · rw [if_pos hi, if_pos hi]
          unfold delBy
          rw [List.filter_cons_of_pos (by show (!(q.name.toList == t.name.toList)) = true; rw [hn, same_not hpn]; rfl)]
        · rw [if_neg hi, if_neg hi, insBy, if_pos (by show blt q.name t.name = true; rw [hn]; exact hb)]
      · rw [if_neg hk, if_neg hk]
/-- The tenants behind tick, its clock and its answer. -/
def tickL (win now : Int) (ts : List TenD) (by_ : Int) : Int × List TenD × Bool := if by_ < 1 ∨ 1000000000000 - now < by_ then (now, ts, false) else (now + by_, keptTs win (now + by_) ts, true)
theorem tickL_eq {c : CfgD} {now : Int} {ts : List TenD} (h : stateB c now ts = true) (by_ : Int) : tickV c now ts by_ = tickL c.w now ts by_ := by
  unfold tickV tickL
  rw [if_neg (by rw [h]; simp)]
theorem keptT_all {win now u : Int} {t : TenD} {xs : List PairD} (hu : u = now - win) (hk : xs.filter (fun p => decide (u < p.n)) = t.sers.filter (fun p => decide (u < p.n))) (ha : ∀ p ∈ xs, u < p.n) : keptT win now t = ⟨t.name, t.limit, t.mets, xs⟩ := by
  unfold keptT
  have e : (fun p : PairD => decide (now - p.n < win)) = fun p => decide (u < p.n) := by
    funext p
    rw [decide_eq_decide]
    omega
  rw [e, ← hk, List.filter_eq_self.2 fun p hp => decide_eq_true (ha p hp)]
theorem getBy_rise_mem {α : Type} {key : α → ByteArray} {l : List α} (hr : RiseBy key l) {a : α} (h : a ∈ l) : getBy key (key a) l = some a := getBy_of_mem hr h
/-- What is left of a list without one. -/
theorem delBy_perm {α : Type} {key : α → ByteArray} {l : List α} (hr : RiseBy key l) {a : α} (h : a ∈ l) : (a :: delBy key (key a) l).Perm l := by
  induction l with
  | nil => cases h
  | cons p r ih =>
    unfold delBy at ih ⊢
    rcases List.mem_cons.1 h with rfl | h
    · rw [List.filter_cons_of_neg (by simp)]
      have : r.filter (fun q => !((key q).toList == (key a).toList)) = r := List.filter_eq_self.2 fun q hq => by rw [same_not (fun e => blt_ne (hr.head q hq) e.symm)]; rfl
      rw [this]
    · rw [List.filter_cons_of_pos (by rw [same_not (blt_ne (hr.head a h))]; rfl)]
      exact (List.Perm.swap _ _ _).trans ((ih hr.tail h).cons p)
theorem cntM_del {met : ByteArray → ByteArray} {l : List PairD} (hr : RiseBy (·.s) l) {p : PairD} (h : p ∈ l) (m : ByteArray) : cntM met l m = cntM met (delBy (·.s) p.s l) m + if met p.s = m then 1 else 0 := by
  rw [← cntM_cons]
  exact cntM_perm (delBy_perm hr h).symm m
end Go.Proofs.YtpajhkikcofhfaaGreatDoor

namespace Go.Proofs.YtpajhkikcofhfaaGreatDoor

/-- The place of the child that comes first. -/
def childL (l : List SgD) (k : Nat) : Nat := if 2 * k + 2 < l.length ∧ (hget l (2 * k + 2)).t < (hget l (2 * k + 1)).t then 2 * k + 2 else 2 * k + 1
theorem childL_two (l : List SgD) (k : Nat) : childL l k = 2 * k + 1 ∨ childL l k = 2 * k + 2 := by
  unfold childL
  split
  · exact Or.inr rfl
  · exact Or.inl rfl
theorem childL_first {l : List SgD} {k i : Nat} (h0 : 0 < i) (hi : i < l.length) (hp : (i - 1) / 2 = k) : childL l k < l.length ∧ (hget l (childL l k)).t ≤ (hget l i).t := by
  have hi2 : i = 2 * k + 1 ∨ i = 2 * k + 2 := by omega
  unfold childL
  split
  · rename_i h
    refine ⟨h.1, ?_⟩
    rcases hi2 with rfl | rfl
    · omega
    · exact Int.le_refl _
  · rename_i h
    refine ⟨by omega, ?_⟩
    rcases hi2 with rfl | rfl
    · exact Int.le_refl _
    · have : ¬ (hget l (2 * k + 2)).t < (hget l (2 * k + 1)).t := fun h' => h ⟨hi, h'⟩
      omega
/-- A heap but perhaps between k and what lies below it. -/
def HeapDn (l : List SgD) (k : Nat) : Prop := (∀ i, 0 < i → i < l.length → (i - 1) / 2 ≠ k → (hget l ((i - 1) / 2)).t ≤ (hget l i).t) ∧ ∀ i, 0 < i → i < l.length → (i - 1) / 2 = k → 0 < k → (hget l ((k - 1) / 2)).t ≤ (hget l i).t
theorem HeapDn.done {l : List SgD} {k : Nat} (h : HeapDn l k) (hk : ¬ (childL l k < l.length ∧ (hget l (childL l k)).t < (hget l k).t)) : HeapOK l := by
  intro i h0 hi
  by_cases e : (i - 1) / 2 = k
  · obtain ⟨h1, h2⟩ := childL_first h0 hi e
    rw [e]
    have : ¬ (hget l (childL l k)).t < (hget l k).t := fun h' => hk ⟨h1, h'⟩
    omega
  · exact h.1 i h0 hi e
theorem HeapDn.step {l : List SgD} {k : Nat} (h : HeapDn l k) (hc : childL l k < l.length) (hlt : (hget l (childL l k)).t < (hget l k).t) : HeapDn (swapL l k (childL l k)) (childL l k) := by
  have h2 := childL_two l k
  have hfirst : ∀ i, 0 < i → i < l.length → (i - 1) / 2 = k → (hget l (childL l k)).t ≤ (hget l i).t := fun i h0 hi e => (childL_first h0 hi e).2
  generalize childL l k = c at *
  have hck : (c - 1) / 2 = k := by omega
  have hk : k < l.length := by omega
  refine ⟨fun i hi0 hi hne => ?_, fun i hi0 hi hpi _ => ?_⟩
  · rw [swapL_length] at hi
    rw [hget_swap hk hc, hget_swap hk hc, if_neg hne]
    by_cases e1 : i = c
    · subst e1
      rw [if_pos rfl, if_pos hck]
      omega
    · rw [if_neg e1]
      by_cases e2 : (i - 1) / 2 = k
      · rw [if_pos e2, if_neg (by omega : i ≠ k)]
        exact hfirst i hi0 hi e2
      · rw [if_neg e2]
        by_cases e3 : i = k
        · subst e3
          rw [if_pos rfl]
          exact h.2 c (by omega) hc hck hi0
        · rw [if_neg e3]
          exact h.1 i hi0 hi e2
  · rw [swapL_length] at hi
    rw [hget_swap hk hc, hget_swap hk hc, hck, if_neg (by omega : k ≠ c), if_pos rfl, if_neg (by omega : i ≠ c), if_neg (by omega : i ≠ k)]
    have := h.1 i hi0 hi (by omega)
    rw [hpi] at this
    exact this

/-- What sifting down from k makes of a list (n: how many steps at most). -/
def siftDnN : Nat → List SgD → Nat → List SgD
  | 0, l, _ => l
  | n + 1, l, k => if childL l k < l.length ∧ (hget l (childL l k)).t < (hget l k).t then siftDnN n (swapL l k (childL l k)) (childL l k) else l
theorem siftDnN_more : ∀ (n m k : Nat) (l : List SgD), l.length - k ≤ n → l.length - k ≤ m → siftDnN n l k = siftDnN m l k
  | 0, 0, _, _, _, _ => rfl
  | 0, m + 1, k, l, hn, _ => by
    have := childL_two l k
    rw [siftDnN, siftDnN, if_neg fun h => by omega]
  | n + 1, 0, k, l, _, hm => by
    have := childL_two l k
    rw [siftDnN, siftDnN, if_neg fun h => by omega]
  | n + 1, m + 1, k, l, hn, hm => by
    have h2 := childL_two l k
    rw [siftDnN, siftDnN]
    by_cases h : childL l k < l.length ∧ (hget l (childL l k)).t < (hget l k).t
    · rw [if_pos h, if_pos h]
      exact siftDnN_more n m _ _ (by rw [swapL_length]; omega) (by rw [swapL_length]; omega)
    · rw [if_neg h, if_neg h]
def siftDn (l : List SgD) (k : Nat) : List SgD := siftDnN (l.length - k) l k
theorem siftDn_go {l : List SgD} {k : Nat} (h : childL l k < l.length ∧ (hget l (childL l k)).t < (hget l k).t) : siftDn l k = siftDn (swapL l k (childL l k)) (childL l k) := by
  have h2 := childL_two l k
  obtain ⟨n, hn⟩ : ∃ n, l.length - k = n + 1 := ⟨l.length - k - 1, by have := h.1; omega⟩
  unfold siftDn
  rw [hn, siftDnN, if_pos h]
  exact siftDnN_more _ _ _ _ (by rw [swapL_length]; omega) (by rw [swapL_length]; omega)
theorem siftDn_end {l : List SgD} {k : Nat} (h : ¬ (childL l k < l.length ∧ (hget l (childL l k)).t < (hget l k).t)) : siftDn l k = l := by
  unfold siftDn
  cases l.length - k with
  | zero => rfl
  | succ n => rw [siftDnN, if_neg h]
theorem siftDn_says : ∀ (n k : Nat) (l : List SgD), l.length - k ≤ n → k ≤ l.length → HeapDn l k → HeapOK (siftDn l k) ∧ (siftDn l k).Perm l ∧ (siftDn l k).length = l.length
  | 0, k, l, hn, hk, h => by
    have hno : ¬ (childL l k < l.length ∧ (hget l (childL l k)).t < (hget l k).t) := fun hh => by
      have := childL_two l k
      have := hh.1
      omega
    rw [siftDn_end hno]
    exact ⟨h.done hno, List.Perm.refl _, rfl⟩
  | n + 1, k, l, hn, hk, h => by
    by_cases hh : childL l k < l.length ∧ (hget l (childL l k)).t < (hget l k).t
    · have h2 := childL_two l k
      rw [siftDn_go hh]
      obtain ⟨a, b, c⟩ := siftDn_says n (childL l k) (swapL l k (childL l k)) (by rw [swapL_length]; have := hh.1; omega) (by rw [swapL_length]; have := hh.1; omega) (h.step hh.1 hh.2)
      exact ⟨a, b.trans (swapL_perm (by have := hh.1; omega) hh.1), c.trans (swapL_length _ _ _)⟩
    · rw [siftDn_end hh]
      exact ⟨h.done hh, List.Perm.refl _, rfl⟩
/-- What is left when the top is taken away. -/
def cutL (l : List SgD) : List SgD := (swapL l 0 (l.length - 1)).take (l.length - 1)
def popL (l : List SgD) : List SgD := siftDn (cutL l) 0
theorem cutL_length (l : List SgD) : (cutL l).length = l.length - 1 := by simp [cutL, swapL_length]
theorem cutL_get {l : List SgD} (h : 0 < l.length) {i : Nat} (hi : i < l.length - 1) : hget (cutL l) i = if i = 0 then hget l (l.length - 1) else hget l i := by
  have e : hget (cutL l) i = hget (swapL l 0 (l.length - 1)) i := by simp [cutL, hget, List.getD, List.getElem?_take_of_lt hi]
  rw [e, hget_swap h (by omega), if_neg (by omega)]
theorem cutL_dn {l : List SgD} (h : HeapOK l) (h0 : 0 < l.length) : HeapDn (cutL l) 0 := by
  refine ⟨fun i hi0 hi hne => ?_, fun _ _ _ _ hk => absurd hk (Nat.lt_irrefl _)⟩
  rw [cutL_length] at hi
  rw [cutL_get h0 hi, cutL_get h0 (by omega), if_neg hne, if_neg (by omega)]
  exact h i hi0 (by omega)
theorem cutL_perm {l : List SgD} (h : 0 < l.length) : (hget l 0 :: cutL l).Perm l := by
  have hp := swapL_perm (l := l) (i := 0) (j := l.length - 1) h (by omega)
  have hl : (swapL l 0 (l.length - 1)).length = l.length := swapL_length _ _ _
  have hlast : (swapL l 0 (l.length - 1)).drop (l.length - 1) = [hget l 0] := by
    have hi : l.length - 1 < (swapL l 0 (l.length - 1)).length := by omega
    rw [List.drop_eq_getElem_cons hi, ← hget_eq hi, hget_swap h (by omega), if_pos rfl, List.drop_eq_nil_of_le (by omega)]
  have e : cutL l ++ [hget l 0] = swapL l 0 (l.length - 1) := by rw [← hlast]; exact List.take_append_drop _ _
  exact (List.perm_append_singleton (hget l 0) (cutL l)).symm.trans (e ▸ hp)
theorem popL_says {l : List SgD} (h : HeapOK l) (h0 : 0 < l.length) : HeapOK (popL l) ∧ (hget l 0 :: popL l).Perm l ∧ (popL l).length = l.length - 1 := by
  obtain ⟨a, b, c⟩ := siftDn_says (cutL l).length 0 (cutL l) (by omega) (Nat.zero_le _) (cutL_dn h h0)
  exact ⟨a, (b.cons _).trans (cutL_perm h0), c.trans (cutL_length l)⟩
/-- None comes before the top. -/
theorem heap_top {l : List SgD} (h : HeapOK l) : ∀ (n i : Nat), i ≤ n → i < l.length → (hget l 0).t ≤ (hget l i).t
  | 0, i, hn, _ => by
    obtain rfl : i = 0 := by omega
    exact Int.le_refl _
  | n + 1, i, hn, hi => by
    by_cases e : i = 0
    · subst e; exact Int.le_refl _
    · exact Int.le_trans (heap_top h n ((i - 1) / 2) (by omega) (by omega)) (h i (by omega) hi)
theorem top_le {l : List SgD} (h : HeapOK l) {x : SgD} (hx : x ∈ l) : (hget l 0).t ≤ x.t := by
  obtain ⟨i, hi, rfl⟩ := List.getElem_of_mem hx
  have := heap_top h i i (Nat.le_refl _) hi
  rw [hget_eq hi] at this
  exact this
end Go.Proofs.YtpajhkikcofhfaaGreatDoor

