import Derived.Test.YtflfopienjjlbaaGreatDoorJ14WLog
import Derived.Test.YtflfopienjjlbaaGreatDoorJ06ScanL
import Derived.Test.YtflfopienjjlbaaGreatDoorJ03Nm
import Derived.Laws.MakeOwn
import Derived.Test.YtflfopienjjlbaaGreatDoorJ07Strs
import Derived.Deep.RegionHeld3
namespace Go.Proofs.YtflfopienjjlbaaGreatDoor
open Go.RowKit

/-- What speaks against a payload ahead of the disk. -/
def refR (L : LogD) (p : ByteArray) (most : Int) : Nat :=
  if (logB L && btwB most 1 1000000000) = false then 21
  else if btwB p.size 1 60000 = false then 22
  else if L.last = 999999 ∧ fullB L (8 + p.size) most = true then 23 else 0

theorem log_size {L : LogD} (h : logB L = true) : 0 ≤ L.size ∧ L.size ≤ 1000000000 ∧ 1 ≤ L.first ∧ L.first ≤ L.last ∧ 1 ≤ L.last ∧ L.last ≤ 999999 := by
  simp only [logB, btwB, Bool.and_eq_true, decide_eq_true_eq] at h
  omega

set_option maxRecDepth 100000 in
set_option maxHeartbeats 2000000 in
theorem refuse_any (P D : Nat) (L : LogD) (p : ByteArray) (most : Int) (w : World) (h : WrAt w P D L) (hp : p.size ≤ 1048576) :
    Calls Tryz.prog 45 #[.pointer (some ⟨P, 0, none⟩), .string p, .int .i64 most] w fun e w' => e = .returned (errW (refR L p most)) ∧ Below w.heap.size w w' := by
  obtain ⟨c0, c1, c2, c3⟩ := h.cells
  have HW : Hid (WrAt w P D L) := h
  clear h c0
  have HL : Hid (∀ W, Calls Tryz.prog 72 #[.agg #[.int .i64 L.first, .int .i64 L.last, .int .i64 L.size]] W fun e w' => e = .returned (.bool (logB L)) ∧ Below W.heap.size W w') := fun W => isLog_any L W
  have HF : Hid (∀ W, Calls Tryz.prog 42 #[.int .i64 (p.size : Int)] W fun e w' => e = .returned (.bool (btwB p.size 1 60000)) ∧ w' = W) := fun W => fits_any _ W
  cases hl : logB L with
  | false =>
    have E : Hid (refR L p most = 21) := by show _ = _; rw [refR, hl]; rfl
    rw [hl] at HL
    clear hl
    go_enter Tryz.func45, Tryz.ntmps45
    go_wp2_with fail
    refine (HL.out _).mono ?_
    rintro e w1 ⟨rfl, hb1⟩
    have HB : Hid (Below w.heap.size w w1) := hb1
    clear hb1
    go_wp2
    go_ret
    rw [E.out]
    exact ⟨rfl, HB.out⟩
  | true =>
    obtain ⟨hs0, hs1, _, _, hl1, hl2⟩ := log_size hl
    rw [hl] at HL
    by_cases hm : 1 ≤ most ∧ most ≤ 1000000000
    · have hmb : btwB most 1 1000000000 = true := by simp [btwB]; omega
      cases hf : btwB p.size 1 60000 with
      | false =>
        have E : Hid (refR L p most = 22) := by show _ = _; simp [refR, hl, hmb, hf]
        rw [hf] at HF
        clear hf hl hmb
        go_enter Tryz.func45, Tryz.ntmps45
        go_wp2_with fail
        refine (HL.out _).mono ?_
        rintro e w1 ⟨rfl, hb1⟩
        have HB : Hid (Below w.heap.size w w1) := hb1
        clear hb1
        go_wp2_with fail
        refine (HF.out _).mono ?_
        rintro e w' ⟨rfl, hw⟩; replace hw := hw.symm; subst hw
        go_wp2
        go_ret
        rw [E.out]
        exact ⟨rfl, HB.out⟩
      | true =>
        have hz : 1 ≤ p.size ∧ p.size ≤ 60000 := by
          simp only [btwB, Bool.and_eq_true, decide_eq_true_eq] at hf; omega
        have E0 : Hid (refR L p most = if L.last = 999999 ∧ fullB L (8 + p.size) most = true then 23 else 0) := by show _ = _; simp [refR, hl, hmb, hf]
        rw [hf] at HF
        clear hf hl hmb
        go_enter Tryz.func45, Tryz.ntmps45
        go_wp2_with fail
        refine (HL.out _).mono ?_
        rintro e w1 ⟨rfl, hb1⟩
        have HB : Hid (Below w.heap.size w w1) := hb1
        have HW1 : Hid (WrAt w1 P D L) := HW.out.later hb1
        obtain ⟨_, _, d2, _⟩ := HW1.out.cells
        clear hb1 c1 c2 c3
        go_wp2_with fail
        refine (HF.out _).mono ?_
        rintro e w' ⟨rfl, hw⟩; replace hw := hw.symm; subst hw
        by_cases h9 : L.last = 999999
        · have h9b : (L.last == 999999) = true := by simpa using h9
          cases hfu : fullB L (8 + p.size) most with
          | true =>
            have E : Hid (refR L p most = 23) := by show _ = _; rw [E0.out, if_pos ⟨h9, hfu⟩]
            have HFU : Hid (Calls Tryz.prog 73 #[.pointer (some ⟨P, 0, none⟩), .int .i64 (8 + (p.size : Int)), .int .i64 most] w1 fun e w' => e = .returned (.bool true) ∧ w' = w1) := by
              have := full_any P D L (8 + (p.size : Int)) most w1 HW1.out ⟨hs0, hs1⟩ (by omega)
              rw [hfu] at this
              exact this
            clear hfu h9
            go_wp2_with fail
            refine HFU.out.mono ?_
            rintro e w' ⟨rfl, hw⟩; replace hw := hw.symm; subst hw
            go_wp2
            go_ret
            rw [E.out]
            exact ⟨rfl, HB.out⟩
          | false =>
            have E : Hid (refR L p most = 0) := by show _ = _; rw [E0.out, if_neg (fun h => by rw [hfu] at h; cases h.2)]
            have HFU : Hid (Calls Tryz.prog 73 #[.pointer (some ⟨P, 0, none⟩), .int .i64 (8 + (p.size : Int)), .int .i64 most] w1 fun e w' => e = .returned (.bool false) ∧ w' = w1) := by
              have := full_any P D L (8 + (p.size : Int)) most w1 HW1.out ⟨hs0, hs1⟩ (by omega)
              rw [hfu] at this
              exact this
            clear hfu h9
            go_wp2_with fail
            refine HFU.out.mono ?_
            rintro e w' ⟨rfl, hw⟩; replace hw := hw.symm; subst hw
            go_wp2
            go_ret
            rw [E.out]
            exact ⟨rfl, HB.out⟩
        · have h9b : (L.last == 999999) = false := by simpa using h9
          have E : Hid (refR L p most = 0) := by show _ = _; rw [E0.out, if_neg (fun h => h9 h.1)]
          clear h9
          go_wp2
          go_ret
          rw [E.out]
          exact ⟨rfl, HB.out⟩
    · have E : Hid (refR L p most = 21) := by
        show _ = _
        have hmb : btwB most 1 1000000000 = false := by simp [btwB]; omega
        simp [refR, hmb]
      by_cases hm1 : most < 1
      · go_enter Tryz.func45, Tryz.ntmps45
        go_wp2_with fail
        refine (HL.out _).mono ?_
        rintro e w1 ⟨rfl, hb1⟩
        have HB : Hid (Below w.heap.size w w1) := hb1
        clear hb1
        go_wp2
        go_ret
        rw [E.out]
        exact ⟨rfl, HB.out⟩
      · have hm2 : 1000000000 < most := by omega
        clear hm
        go_enter Tryz.func45, Tryz.ntmps45
        go_wp2_with fail
        refine (HL.out _).mono ?_
        rintro e w1 ⟨rfl, hb1⟩
        have HB : Hid (Below w.heap.size w w1) := hb1
        clear hb1
        go_wp2
        go_ret
        rw [E.out]
        exact ⟨rfl, HB.out⟩
end Go.Proofs.YtflfopienjjlbaaGreatDoor

namespace Go.Proofs.YtflfopienjjlbaaGreatDoor
open Go.RowKit

theorem filesB_of {fs : List FileD} (h1 : ∀ f ∈ fs, fileB f = true) (h2 : Asc fs) : filesB fs = true := by
  simp only [filesB, okTo, List.all_eq_true, List.mem_range]
  intro i hi
  unfold okAt
  rw [List.getElem?_eq_getElem hi]
  simp only [h1 _ (List.getElem_mem hi), Bool.true_and]
  cases i with
  | zero => rfl
  | succ j =>
    simp only [List.getElem?_eq_getElem (show j < fs.length by omega)]
    exact h2 j (j + 1) (by omega) hi
theorem fileB_of {fs : List FileD} (h : filesB fs = true) : ∀ f ∈ fs, fileB f = true := by
  intro f hf
  obtain ⟨i, hi, rfl⟩ := List.getElem_of_mem hf
  simp only [filesB, okTo, List.all_eq_true, List.mem_range] at h
  have := h i hi
  unfold okAt at this
  rw [List.getElem?_eq_getElem hi] at this
  simp only [Bool.and_eq_true] at this
  exact this.1
def ltF (a b : FileD) : Prop := Op.bytesLess a.name.toList b.name.toList = true
theorem asc_pair {fs : List FileD} : Asc fs ↔ fs.Pairwise ltF := by
  rw [List.pairwise_iff_getElem]
  exact ⟨fun h i j _ hj hij => h i j hij hj, fun h i j hij hj => h i j (by omega) hj hij⟩
theorem asc_ins {fs : List FileD} {f : FileD} (h : Asc fs) (hno : hasB fs f.name (posOf f.name fs) = false) : Asc (insL fs (posOf f.name fs) f) := by
  have hp := posOf_is f.name h
  have hne := hasB_none h hno
  have h' := asc_pair.1 h
  rw [← List.take_append_drop (posOf f.name fs) fs, List.pairwise_append] at h'
  rw [asc_pair, insL, List.pairwise_append, List.pairwise_cons]
  refine ⟨h'.1, ⟨fun b hb => ?_, h'.2.1⟩, fun a ha b hb => ?_⟩
  · obtain ⟨j, hj, rfl⟩ := List.getElem_of_mem hb
    rw [List.length_drop] at hj
    rw [List.getElem_drop]
    have h1 := hp.2.2 (posOf f.name fs + j) (by omega) (by omega)
    exact less_total _ _ h1 (fun e => hne _ (by omega) (toList_inj e))
  · rcases List.mem_cons.1 hb with rfl | hb
    · obtain ⟨j, hj, rfl⟩ := List.getElem_of_mem ha
      rw [List.length_take] at hj
      rw [List.getElem_take]
      exact hp.2.1 j (by omega) (by omega)
    · exact h'.2.2 a ha b hb
theorem asc_set {fs : List FileD} {i : Nat} {f : FileD} (h : Asc fs) (hi : i < fs.length) (hn : f.name = fs[i].name) : Asc (fs.set i f) := by
  have hget : ∀ a (ha : a < (fs.set i f).length) (ha' : a < fs.length), (fs.set i f)[a].name = fs[a].name := fun a ha ha' => by
    rw [List.getElem_set]
    split
    · rename_i e; subst e; exact hn
    · rfl
  intro a b hab hb
  have hb' : b < fs.length := by simpa using hb
  rw [hget a (by omega) (by omega), hget b hb hb']
  exact h a b hab hb'
theorem fileB_mk {n d : ByteArray} {s : Int} (hn : nameB n = true) (h0 : 0 ≤ s) (h1 : s ≤ d.size) : fileB ⟨n, d, s⟩ = true := by
  simp [fileB, btwB, hn, h0, h1]
theorem mem_set_or {fs : List FileD} {i : Nat} {f g : FileD} (h : g ∈ fs.set i f) : g = f ∨ g ∈ fs := (List.mem_or_eq_of_mem_set h).symm

theorem diskB_mk {fs : List FileD} {c k cr fl : Int} (h1 : fs.length ≤ 1000) (h2 : filesB fs = true) (h3 : 0 ≤ c ∧ c ≤ 1000000000) (h4 : (sumLen fs : Int) ≤ c) (h5 : 0 ≤ k ∧ k ≤ 1000000000000000) (h6 : 0 ≤ cr ∧ cr ≤ 1000000000000000) (h7 : 0 ≤ fl ∧ fl ≤ 1000000000000000) : diskB fs c k cr fl = true := by
  simp [diskB, btwB, h1, h2, h3, h4, h5, h6, h7]

theorem do_valid {fs : List FileD} {c : Int} {op : OpD} (hf : filesB fs = true) (hl : fs.length ≤ 1000) (hs : (sumLen fs : Int) ≤ c) (ho : nameB op.name = true) (hk : op.kind ≤ 4) (hk1 : 1 ≤ op.kind) :
    filesB (doR fs c op).2 = true ∧ (doR fs c op).2.length ≤ 1000 ∧ (sumLen (doR fs c op).2 : Int) ≤ c := by
  have ha := asc_of hf
  have hb := fileB_of hf
  unfold doR
  simp only
  split
  · split
    · exact ⟨hf, hl, hs⟩
    · rename_i hno
      split
      · exact ⟨hf, hl, hs⟩
      · rename_i hlt
        have hp := posOf_is op.name ha
        refine ⟨filesB_of (fun f hm => ?_) (asc_ins (f := ⟨op.name, ByteArray.empty, 0⟩) ha (by simpa using hno)), ?_, ?_⟩
        · simp only [insL, List.mem_append, List.mem_cons] at hm
          rcases hm with hm | rfl | hm
          · exact hb _ (List.mem_of_mem_take hm)
          · exact fileB_mk ho (by omega) (by simp)
          · exact hb _ (List.mem_of_mem_drop hm)
        · rw [insL_length _ _ _ hp.1]; omega
        · rw [sumLen_ins]; simpa using hs
  · split
    · exact ⟨hf, hl, hs⟩
    · rename_i f hfi
      obtain ⟨hi, rfl⟩ := List.getElem?_eq_some_iff.1 hfi
      have hbi := hb _ (List.getElem_mem hi)
      simp only [fileB, btwB, Bool.and_eq_true, decide_eq_true_eq] at hbi
      split
      · exact ⟨hf, hl, hs⟩
      · split
        · split
          · exact ⟨hf, hl, hs⟩
          · rename_i hc
            have hset := sumLen_set fs (posOf op.name fs) ⟨fs[posOf op.name fs].name, fs[posOf op.name fs].data ++ op.data, fs[posOf op.name fs].synced⟩ hi
            simp only [ByteArray.size_append] at hset
            refine ⟨filesB_of (fun g hg => ?_) (asc_set ha hi rfl), by simpa using hl, by simp only; omega⟩
            rcases mem_set_or hg with rfl | hg
            · exact fileB_mk hbi.1 hbi.2.1 (by rw [ByteArray.size_append]; omega)
            · exact hb _ hg
        · split
          · have hset := sumLen_set fs (posOf op.name fs) ⟨fs[posOf op.name fs].name, fs[posOf op.name fs].data, fs[posOf op.name fs].data.size⟩ hi
            simp only at hset
            refine ⟨filesB_of (fun g hg => ?_) (asc_set ha hi rfl), by simpa using hl, by simp only; omega⟩
            rcases mem_set_or hg with rfl | hg
            · exact fileB_mk hbi.1 (by omega) (by omega)
            · exact hb _ hg
          · split
            · split
              · rename_i hz
                simp only [btwB, Bool.and_eq_true, decide_eq_true_eq] at hz
                have hset := sumLen_set fs (posOf op.name fs) ⟨fs[posOf op.name fs].name, fs[posOf op.name fs].data.extract 0 op.size.toNat, op.size⟩ hi
                simp only at hset
                have hx : (fs[posOf op.name fs].data.extract 0 op.size.toNat).size = op.size.toNat := by rw [ByteArray.size_extract]; omega
                refine ⟨filesB_of (fun g hg => ?_) (asc_set ha hi rfl), by simpa using hl, by simp only; omega⟩
                rcases mem_set_or hg with rfl | hg
                · exact fileB_mk hbi.1 hz.1 (by rw [hx]; omega)
                · exact hb _ hg
              · exact ⟨hf, hl, hs⟩
            · exfalso; omega

theorem charge_valid {k cr fl : Int} {dn : Bool} (h0 : 0 ≤ k) (h1 : k ≤ 1000000000000000) : 0 ≤ (chargeR k cr fl dn).2.1 ∧ (chargeR k cr fl dn).2.1 ≤ 1000000000000000 := by
  unfold chargeR
  split
  · exact ⟨h0, h1⟩
  · split
    · exact ⟨h0, h1⟩
    · split
      · simp only; omega
      · split <;> (simp only; omega)

theorem diskB_step {fs : List FileD} {c k cr fl : Int} {dn : Bool} {op : OpD} (h : diskB fs c k cr fl = true) (ho : opB op = true) (hk : op.kind ≤ 4) :
    diskB (stepR fs c k cr fl dn op).2.1 c (stepR fs c k cr fl dn op).2.2.1 cr fl = true := by
  obtain ⟨h1, h2, h3, h4, h5, h6, h7, h8, h9, h10, h11⟩ := files_of_disk h
  have hop : nameB op.name = true ∧ 1 ≤ op.kind := by
    simp only [opB, btwB, Bool.and_eq_true, decide_eq_true_eq] at ho
    exact ⟨ho.1.2, ho.1.1.1⟩
  have hc := charge_valid (cr := cr) (fl := fl) (dn := dn) h6 h7
  unfold stepR
  split
  · obtain ⟨d1, d2, d3⟩ := do_valid (op := op) h1 h2 h5 hop.1 hk hop.2
    exact diskB_mk d2 d1 ⟨h3, h4⟩ d3 hc ⟨h8, h9⟩ ⟨h10, h11⟩
  · exact diskB_mk h2 h1 ⟨h3, h4⟩ h5 hc ⟨h8, h9⟩ ⟨h10, h11⟩
end Go.Proofs.YtflfopienjjlbaaGreatDoor

namespace Go.Proofs.YtflfopienjjlbaaGreatDoor
open Go.RowKit

set_option maxRecDepth 100000 in
set_option maxHeartbeats 1000000 in
theorem implCrc_any (s : ByteArray) (w : World) (hs : s.size ≤ maxLen) :
    Calls Tryz.prog 44 #[.string s] w fun e w' => e = .returned (.int .i64 (crcV s : Nat)) ∧ Below w.heap.size w w' := by
  have HS : Hid (s.size ≤ maxLen) := hs
  clear hs
  go_enter Tryz.func44, Tryz.ntmps44
  go_wp2_with fail
  refine (makeTab_any _).mono ?_
  rintro e w1 ⟨b, cur, rfl, _, hB, hcur, hb1⟩
  have HB : Hid (Blk w1 b cur 133 ∧ (∀ i, i < 256 → cur[i]? = some (.int .u32 (crcT i : Nat))) ∧ Below w.heap.size w w1) := ⟨hB, hcur, hb1⟩
  clear hB hcur hb1
  go_wp2_with fail
  refine (tabSum_any b cur s _ HS.out HB.out.1 HB.out.2.1).mono ?_
  rintro e w2 ⟨rfl, hb2⟩
  have HB2 : Hid (Below w.heap.size w w2) := bto HB.out.2.2 hb2
  clear hb2
  go_wp2
  go_ret
  exact ⟨rfl, HB2.out⟩
end Go.Proofs.YtflfopienjjlbaaGreatDoor

namespace Go.Proofs.YtflfopienjjlbaaGreatDoor
open Go.RowKit

theorem shrN_pow (v : Int) : ∀ k, shrN v k = v / 2 ^ (8 * k)
  | 0 => by simp [shrN]
  | k + 1 => by
    rw [shrN, shrN_pow v k, show 8 * (k + 1) = 8 * k + 8 by omega, Int.pow_add, Int.ediv_ediv_of_nonneg (Int.pow_nonneg (by omega))]
    rfl
theorem numI_get (v : Int) : ∀ n i, i < n → (numI v n)[i]? = some (shrN v (n - 1 - i) % 256)
  | 0, i, h => absurd h (by omega)
  | n + 1, 0, _ => by simp [numI]
  | n + 1, i + 1, h => by
    rw [numI, List.getElem?_cons_succ, numI_get v n i (by omega)]
    congr 3
    omega

set_option maxRecDepth 100000 in
set_option maxHeartbeats 1000000 in
theorem implHigh_any (n : Nat) (v : Int) (w : World) (hn : n ≤ 8) :
    Calls Tryz.prog 43 #[.int .i64 v, .int .i64 n] w fun e w' => e = .returned (.string (numS n v)) ∧ Below w.heap.size w w' := by
  obtain ⟨C, hC, hmk⟩ : ∃ C : Array Value, C.size = n ∧ (Instr.makeSlice 41 (.int .i64 n) (.int .i64 n)).run Tryz.prog w = .ok (.slice (some ⟨w.heap.size, 0, none⟩) n n) (w.alloc (.cells C 5)) := by
    obtain ⟨ti, hti, hz0, hz1, hz2⟩ := info_u8
    have h := run_make (P := Tryz.prog) w 41 5 ti _ Tryz.underlying41 hti hz0 .i64 .i64 (n : Int) (n : Int) (by omega) (by omega) (by rw [hz2]; omega) (by omega)
    rw [hz1, Int.toNat_natCast, Nat.mul_one] at h
    exact ⟨_, size_madeCells _ _, h⟩
  have HB : Hid (Blk (w.alloc (.cells C 5)) w.heap.size C 5) := heap_alloc_new _ _
  go_enter Tryz.func43, Tryz.ntmps43
  go_wp2
  go_loopw [6, 11] (fun _ c wr => ∃ (k : Nat) (cur : Array Value), k ≤ n ∧ c = .int .i64 k ∧ Hid (Blk wr w.heap.size cur 5) ∧ cur.size = n ∧ Hid (∀ i, i < k → cur[n - 1 - i]? = some (.int .u8 (shrN v i % 256))) ∧ Hid (Below w.heap.size w wr)) (fun _ c _ => n - (intOf c).toNat)
  case atStart => exact ⟨0, C, by omega, rfl, HB, hC, fun i hi => absurd hi (by omega), bnew _ _⟩
  case round =>
    obtain ⟨k, cur, hk, rfl, hblk, hcs, hcur, hbel⟩ := hrel
    by_cases hlt : k < n
    · obtain ⟨p, hp, hpn⟩ : ∃ p : Nat, (n : Int) - 1 - (k : Int) = (p : Int) ∧ Hid (p = n - 1 - k) := ⟨n - 1 - k, by omega, rfl⟩
      have hc : wr.cell? ⟨w.heap.size, p, none⟩ = some (cur[p]'(by have := hpn.out; omega)) := by rw [hblk.out.cell]; exact Array.getElem?_eq_getElem _
      have hf := hblk.out.free p
      go_wp2
      refine ⟨⟨k + 1, cur.setIfInBounds p (.int .u8 (v / 2 ^ (8 * k) % 256)), by omega, by go_num, hblk.out.set p _, by simp [hcs], ?_, hbel.out.setCell (p := ⟨w.heap.size, p, none⟩) (Nat.le_refl _) _⟩, by simp [intOf]; omega⟩
      intro i hi
      have hp2 := hpn.out
      rw [Array.getElem?_setIfInBounds]
      split
      · rename_i e
        have e2 : i = k := by omega
        subst e2
        rw [if_pos (by omega), shrN_pow]
      · rename_i e
        exact hcur.out i (by omega)
    · have e : k = n := by omega
      subst e
      have hcv : (convert 41 9 (.slice (some ⟨w.heap.size, 0, none⟩) k k)).run Tryz.prog wr = .ok (.string (numS k v)) wr := by
        refine run_convert_bytes_arg wr 41 5 Tryz.underlying41 Tryz.underlying5 w.heap.size 0 _ _ (numI v k) (numI_length v k) (fun i hi => ?_) 9 Tryz.underlying9
        rw [hblk.out.cell, Nat.zero_add]
        have h2 := hcur.out (k - 1 - i) (by omega)
        rw [show k - 1 - (k - 1 - i) = i by omega] at h2
        rw [h2]
        have h3 := numI_get v k i (by omega)
        simp [List.getD, h3]
      go_wp2
      go_ret
      exact ⟨rfl, hbel.out⟩
end Go.Proofs.YtflfopienjjlbaaGreatDoor

namespace Go.Proofs.YtflfopienjjlbaaGreatDoor
open Go.RowKit

set_option maxRecDepth 100000 in
set_option maxHeartbeats 1000000 in
theorem implFrame_any (p : ByteArray) (w : World) (hs : p.size ≤ maxLen) :
    Calls Tryz.prog 17 #[.string p] w fun e w' => e = .returned (.string (frameS p)) ∧ Below w.heap.size w w' := by
  have HS : Hid (p.size ≤ maxLen) := hs
  unfold maxLen at hs
  have HF : Hid (∀ W, Calls Tryz.prog 42 #[.int .i64 (p.size : Int)] W fun e w' => e = .returned (.bool (btwB p.size 1 60000)) ∧ w' = W) := fun W => fits_any _ W
  by_cases h : 1 ≤ p.size ∧ p.size ≤ 60000
  · have hb : btwB p.size 1 60000 = true := by simp [btwB]; omega
    rw [hb] at HF
    have E : Hid (frameS p = numS 4 p.size ++ numS 4 (crcV p : Nat) ++ p) := if_pos h
    have h4 := numS_size 4 (p.size : Int)
    have h4' := numS_size 4 ((crcV p : Nat) : Int)
    have H1 : Hid (∀ W, Calls Tryz.prog 43 #[.int .i64 (p.size : Int), .int .i64 4] W fun e w' => e = .returned (.string (numS 4 p.size)) ∧ Below W.heap.size W w') := fun W => implHigh_any 4 _ W (by omega)
    have H2 : Hid (∀ W, Calls Tryz.prog 43 #[.int .i64 (crcV p : Nat), .int .i64 4] W fun e w' => e = .returned (.string (numS 4 (crcV p : Nat))) ∧ Below W.heap.size W w') := fun W => implHigh_any 4 _ W (by omega)
    generalize numS 4 (p.size : Int) = A at *
    generalize numS 4 ((crcV p : Nat) : Int) = B at *
    go_enter Tryz.func17, Tryz.ntmps17
    go_wp2_with (go_at_call 42; refine (HF.out _).mono ?_; rintro e w' ⟨rfl, hw⟩; replace hw := hw.symm; subst hw)
    refine (H1.out _).mono ?_
    rintro e w1 ⟨rfl, hb1⟩
    go_wp2_with fail
    refine (implCrc_any p _ HS.out).mono ?_
    rintro e w2 ⟨rfl, hb2⟩
    go_wp2_with fail
    refine (H2.out _).mono ?_
    rintro e w3 ⟨rfl, hb3⟩
    have HB : Hid (Below w.heap.size w w3) := bto (bto hb1 hb2) hb3
    clear hb1 hb2 hb3
    go_wp2
    go_ret
    exact ⟨ret_str E.out.symm, HB.out⟩
  · have hb : btwB p.size 1 60000 = false := by simp [btwB]; omega
    rw [hb] at HF
    have E : Hid (frameS p = ByteArray.empty) := if_neg h
    go_enter Tryz.func17, Tryz.ntmps17
    go_wp2_with (go_at_call 42; refine (HF.out _).mono ?_; rintro e w' ⟨rfl, hw⟩; replace hw := hw.symm; subst hw)
    go_ret
    exact ⟨ret_str E.out.symm, Below.refl _ _⟩
end Go.Proofs.YtflfopienjjlbaaGreatDoor

namespace Go.Proofs.YtflfopienjjlbaaGreatDoor
open Go.RowKit

theorem okByte_dig (k : Nat) (h : k < 10) : okByte (48 + UInt8.ofNat k) = true := by
  rcases (show k = 0 ∨ k = 1 ∨ k = 2 ∨ k = 3 ∨ k = 4 ∨ k = 5 ∨ k = 6 ∨ k = 7 ∨ k = 8 ∨ k = 9 by omega) with rfl | rfl | rfl | rfl | rfl | rfl | rfl | rfl | rfl | rfl <;> decide
theorem okBytes_seg (n : Nat) : ∀ i, okBytes (segD n i) = true
  | 0 => rfl
  | i + 1 => by
    have h1 := okBytes_seg n i
    simp only [okBytes, segD, List.all_cons, Bool.and_eq_true] at h1 ⊢
    exact ⟨okByte_dig _ (by omega), h1⟩
theorem segS_is (n : Int) (h1 : 1 ≤ n) (h2 : n ≤ 999999) : segS n = segN n.toNat := if_pos ⟨h1, h2⟩
theorem nameB_seg (n : Int) (h1 : 1 ≤ n) (h2 : n ≤ 999999) : nameB (segS n) = true := by
  rw [segS_is n h1 h2]
  have hz : (segN n.toNat).size = 10 := by
    show (119 :: 97 :: 108 :: 45 :: segD n.toNat 6).toArray.size = 10
    simp [segD_length]
  have hd : (segN n.toNat).data.toList = 119 :: 97 :: 108 :: 45 :: segD n.toNat 6 := rfl
  have hb := okBytes_seg n.toNat 6
  unfold nameB
  rw [hz, hd]
  simp only [okBytes, List.all_cons] at hb ⊢
  rw [hb]
  decide

theorem opB_mk {k : Int} {n : Int} {d : ByteArray} {z : Int} (hk : 1 ≤ k ∧ k ≤ 4) (h1 : 1 ≤ n) (h2 : n ≤ 999999) : opB ⟨k, segS n, ⟨#[]⟩, d, z⟩ = true := by
  have hn := nameB_seg n h1 h2
  have hb : btwB k 1 6 = true := by simp [btwB]; omega
  have h5 : decide (k ≠ 5) = true := by simp; omega
  simp only [opB, hb, hn, h5, Bool.true_and, Bool.true_or]

/-- A writer at work: its log, its drive with a valid disk; what lay at the entry lies on. -/
structure WSt (w0 w : World) (B P D : Nat) (K : DiskD) (L : LogD) : Prop where
  pow : PowTab w0
  below : Below w0.heap.size w0 w
  hB : w0.heap.size ≤ B
  hP : w0.heap.size ≤ P
  wr : WrAt w P D L
  drive : ∃ v, DriveAt w B D K.fs K.c K.k K.cr K.fl K.dn v
  valid : diskB K.fs K.c K.k K.cr K.fl = true
theorem WSt.later {w0 w w' : World} {B P D : Nat} {K : DiskD} {L : LogD} (h : WSt w0 w B P D K L) (hb : Below w.heap.size w w') : WSt w0 w' B P D K L :=
  ⟨h.pow, bto h.below hb, h.hB, h.hP, h.wr.later hb, by obtain ⟨v, hv⟩ := h.drive; exact ⟨v, hv.later hb⟩, h.valid⟩
theorem WSt.tab {w0 w : World} {B P D : Nat} {K : DiskD} {L : LogD} (h : WSt w0 w B P D K L) : PowTab w := h.pow.later h.below
theorem WSt.set {w0 w : World} {B P D : Nat} {K : DiskD} {L L' : LogD} (h : WSt w0 w B P D K L) (j : Nat) (x : Value) (hj : #[Value.pointer (some ⟨D, 0, none⟩), .int .i64 L'.first, .int .i64 L'.last, .int .i64 L'.size] = (#[Value.pointer (some ⟨D, 0, none⟩), .int .i64 L.first, .int .i64 L.last, .int .i64 L.size] : Array Value).setIfInBounds j x) : WSt w0 (w.setCell ⟨P, j, none⟩ x) B P D K L' := by
  refine ⟨h.pow, h.below.setCell (by show w0.heap.size ≤ P; exact h.hP) _, h.hB, h.hP, ?_, ?_, h.valid⟩
  · show Blk _ _ _ _
    rw [hj]
    exact Blk.set h.wr j x
  · obtain ⟨v, hv⟩ := h.drive
    refine ⟨v, hv.from', ?_, ?_, hv.apart⟩
    · refine (Below.heap_setCell _ _ _ D (fun e => ?_)).trans hv.blk
      have e2 : D = P := e
      have e4 := hv.blk
      rw [e2] at e4
      have e3 := (show w.heap[P]? = _ from e4).symm.trans h.wr
      simp at e3
    · refine row_keeps (S := fun k => k = P) hv.row ((Keeps.refl (fun k => k = P) w).setCell (g := P) rfl j x) (fun g hg e => ?_)
      obtain ⟨cur, hc⟩ := own_file hv.row g hg
      rw [e] at hc
      have e3 := (show w.heap[P]? = _ from hc).symm.trans h.wr
      simp at e3

theorem stepD_ok {K : DiskD} {op : OpD} (h : diskB K.fs K.c K.k K.cr K.fl = true) (ho : opB op = true) :
    stepD K op = (⟨(stepR K.fs K.c K.k K.cr K.fl K.dn op).2.1, K.c, (stepR K.fs K.c K.k K.cr K.fl K.dn op).2.2.1, K.cr, K.fl, (stepR K.fs K.c K.k K.cr K.fl K.dn op).2.2.2⟩, (stepR K.fs K.c K.k K.cr K.fl K.dn op).1) := by
  unfold stepD outR
  rw [if_pos (by simp [h, ho])]

theorem stepW {w0 w : World} {B P D : Nat} {K : DiskD} {L : LogD} (op : OpD) (h : WSt w0 w B P D K L) (ho : opB op = true) (hk : op.kind ≤ 4) :
    Calls Tryz.prog 49 #[.pointer (some ⟨D, 0, none⟩), .agg #[.int .i64 op.kind, .string op.name, .string op.to, .string op.data, .int .i64 op.size]] w fun e w' =>
      e = .returned (errV (stepD K op).2) ∧ (stepD K op).2 ≤ 6 ∧ WSt w0 w' B P D (stepD K op).1 L := by
  obtain ⟨v, hv⟩ := h.drive
  obtain ⟨f1, f2, f3, f4, f5, f6, f7, _⟩ := files_of_disk h.valid
  have hop : btwB op.kind 1 6 = true := by simp only [opB, Bool.and_eq_true] at ho; exact ho.1.1
  rw [stepD_ok h.valid ho]
  refine (step_any w B D K.fs K.c K.k K.cr K.fl K.dn v op ⟨hv, asc_of f1, f2, f5, f4, f6, f7⟩ hop).mono ?_
  rintro e w' ⟨rfl, hb, hko, v', hd', hkv⟩
  have hd := Exists.intro v' hd'
  exact ⟨rfl, stepR_code _ _ _ _ _ _ _, h.pow, h.below.trans (hb.mono h.hB), h.hB, h.hP, hko hk P _ _ h.wr (by decide) (by decide), hd, diskB_step h.valid ho hk⟩

/-- LogAppend's disk operations. -/
def addR (K : DiskD) (L : LogD) (f : ByteArray) (most : Int) : DiskD × LogD × Nat :=
  if fullB L f.size most = true then
    if (stepD K (opCreate (L.last + 1))).2 ≠ 0 then ((stepD K (opCreate (L.last + 1))).1, L, (stepD K (opCreate (L.last + 1))).2)
    else appendT (stepD K (opCreate (L.last + 1))).1 ⟨L.first, L.last + 1, 0⟩ f
  else appendT K L f

theorem ret_err {a b : Nat} (h : a = b) : Ending.returned (errV a) = .returned (errV b) := by rw [h]

theorem errV_iface {x : Nat} (h0 : ¬ x = 0) (h6 : x ≤ 6) : ∃ t, errV x = .iface 103 (.string t) := by
  match x, h0, h6 with
  | 1, _, _ => exact ⟨_, rfl⟩
  | 2, _, _ => exact ⟨_, rfl⟩
  | 3, _, _ => exact ⟨_, rfl⟩
  | 4, _, _ => exact ⟨_, rfl⟩
  | 5, _, _ => exact ⟨_, rfl⟩
  | 6, _, _ => exact ⟨_, rfl⟩
theorem stepOf {w0 w : World} {B P D : Nat} {K K' : DiskD} {L : LogD} {x : Nat} (op : OpD) (h : WSt w0 w B P D K L) (ho : opB op = true) (hk : op.kind ≤ 4) (e : stepD K op = (K', x)) :
    Calls Tryz.prog 49 #[.pointer (some ⟨D, 0, none⟩), .agg #[.int .i64 op.kind, .string op.name, .string op.to, .string op.data, .int .i64 op.size]] w fun e w' =>
      e = .returned (errV x) ∧ x ≤ 6 ∧ WSt w0 w' B P D K' L := by
  have := stepW op h ho hk
  rw [e] at this
  exact this

set_option maxRecDepth 100000 in
set_option maxHeartbeats 4000000 in
theorem add_short {w0 w : World} {B P D : Nat} {K : DiskD} {L : LogD} (f : ByteArray) (most : Int) (h : WSt w0 w B P D K L) (hl : logB L = true) (hf : f.size ≤ 60008) (hn : fullB L f.size most = false) :
    Calls Tryz.prog 46 #[.pointer (some ⟨P, 0, none⟩), .string f, .int .i64 most] w fun e w' =>
      e = .returned (errV (addR K L f most).2.2) ∧ (addR K L f most).2.2 ≤ 6 ∧ WSt w0 w' B P D (addR K L f most).1 (addR K L f most).2.1 := by
  obtain ⟨hs0, hs1, _, _, hl1, hl2⟩ := log_size hl
  have E0 : Hid (addR K L f most = appendT K L f) := by show _ = _; rw [addR, if_neg (by rw [hn]; simp)]
  have HFU : Hid (Calls Tryz.prog 73 #[.pointer (some ⟨P, 0, none⟩), .int .i64 (f.size : Int), .int .i64 most] w fun e w' => e = .returned (.bool false) ∧ w' = w) := by
    have := full_any P D L (f.size : Int) most w h.wr ⟨hs0, hs1⟩ (by omega)
    rw [hn] at this
    exact this
  have HW : Hid (WSt w0 w B P D K L) := h
  clear h hl hn
  obtain ⟨c0, c1, c2, c3⟩ := HW.out.wr.cells
  go_enter Tryz.func46, Tryz.ntmps46
  go_wp2_with fail
  refine HFU.out.mono ?_
  rintro e w' ⟨rfl, hw⟩; replace hw := hw.symm; subst hw
  go_wp2_with fail
  refine (implSeg_any L.last _ HW.out.tab).mono ?_
  rintro e w1 ⟨rfl, hb1⟩
  have HW1 : Hid (WSt w0 w1 B P D K L) := HW.out.later hb1
  clear hb1 c0 c1 c2 c3 HFU HW
  obtain ⟨c0, _, _, _⟩ := HW1.out.wr.cells
  obtain ⟨⟨K1, x1⟩, hS1⟩ : ∃ R, stepD K (opAppend L.last f) = R := ⟨_, rfl⟩
  have HS1 : Hid (stepD K (opAppend L.last f) = (K1, x1)) := hS1
  have HC1 : Hid (Calls Tryz.prog 49 #[.pointer (some ⟨D, 0, none⟩), .agg #[.int .i64 2, .string (segS L.last), .string ⟨#[]⟩, .string f, .int .i64 0]] w1 fun e w' => e = .returned (errV x1) ∧ x1 ≤ 6 ∧ WSt w0 w' B P D K1 L) := stepOf (opAppend L.last f) HW1.out (opB_mk (by omega) (by omega) (by omega)) (by show (2 : Int) ≤ 4; omega) hS1
  clear hS1
  go_wp2_with fail
  refine HC1.out.mono ?_
  rintro e w2 ⟨rfl, h6, hw2⟩
  have HW2 : Hid (WSt w0 w2 B P D K1 L) := hw2
  clear hw2 c0 HC1
  by_cases hx : x1 = 0
  · subst hx
    simp only [errV]
    obtain ⟨c0, _, _, _⟩ := HW2.out.wr.cells
    obtain ⟨⟨K2, x2⟩, hS2⟩ : ∃ R, stepD K1 (opSync L.last) = R := ⟨_, rfl⟩
    have HS2 : Hid (stepD K1 (opSync L.last) = (K2, x2)) := hS2
    have HC2 : Hid (Calls Tryz.prog 49 #[.pointer (some ⟨D, 0, none⟩), .agg #[.int .i64 3, .string (segS L.last), .string ⟨#[]⟩, .string ⟨#[]⟩, .int .i64 0]] w2 fun e w' => e = .returned (errV x2) ∧ x2 ≤ 6 ∧ WSt w0 w' B P D K2 L) := stepOf (opSync L.last) HW2.out (opB_mk (by omega) (by omega) (by omega)) (by show (3 : Int) ≤ 4; omega) hS2
    clear hS2 h6
    go_wp2_with fail
    refine HC2.out.mono ?_
    rintro e w3 ⟨rfl, h6, hw3⟩
    have HW3 : Hid (WSt w0 w3 B P D K2 L) := hw3
    have EA : Hid (appendT K L f = if x2 ≠ 0 then (K2, L, x2) else (K2, ⟨L.first, L.last, L.size + f.size⟩, 0)) := appendT_sync (L := L) HS1.out rfl HS2.out
    clear hw3 c0 HC2
    by_cases hx : x2 = 0
    · subst hx
      simp only [errV]
      have EB : Hid (addR K L f most = (K2, ⟨L.first, L.last, L.size + f.size⟩, 0)) := by show _ = _; rw [E0.out, EA.out, if_neg (by simp)]
      have HWF : Hid (WSt w0 (w3.setCell ⟨P, 3, none⟩ (.int .i64 (L.size + (f.size : Int)))) B P D K2 ⟨L.first, L.last, L.size + f.size⟩) := HW3.out.set 3 _ (by simp)
      obtain ⟨_, _, _, c3⟩ := HW3.out.wr.cells
      have q3 := Blk.free HW3.out.wr 3
      have hwz : IntKind.i64.wrap (L.size + (f.size : Int)) = L.size + (f.size : Int) := by rw [IntKind.wrap_i64]; omega
      go_wp2
      go_ret
      rw [EB.out]
      exact ⟨rfl, by omega, HWF.out⟩
    · obtain ⟨t, ht⟩ := errV_iface hx h6
      have EB : Hid (addR K L f most = (K2, L, x2)) := by show _ = _; rw [E0.out, EA.out, if_pos hx]
      have HT : Hid (errV x2 = .iface 103 (.string t)) := ht
      rw [ht]
      clear ht
      go_wp2
      go_ret
      rw [EB.out]
      exact ⟨by rw [HT.out]; rfl, h6, HW3.out⟩
  · obtain ⟨t, ht⟩ := errV_iface hx h6
    have EB : Hid (addR K L f most = (K1, L, x1)) := by show _ = _; rw [E0.out, appendT_fail (L := L) HS1.out hx]
    have HT : Hid (errV x1 = .iface 103 (.string t)) := ht
    rw [ht]
    clear ht
    go_wp2
    go_ret
    rw [EB.out]
    exact ⟨by rw [HT.out]; rfl, h6, HW2.out⟩

set_option maxRecDepth 100000 in
set_option maxHeartbeats 4000000 in
theorem add_full {w0 w : World} {B P D : Nat} {K : DiskD} {L : LogD} (f : ByteArray) (most : Int) (h : WSt w0 w B P D K L) (hl : logB L = true) (hf : f.size ≤ 60008) (hn : fullB L f.size most = true) (h9 : L.last ≠ 999999) :
    Calls Tryz.prog 46 #[.pointer (some ⟨P, 0, none⟩), .string f, .int .i64 most] w fun e w' =>
      e = .returned (errV (addR K L f most).2.2) ∧ (addR K L f most).2.2 ≤ 6 ∧ WSt w0 w' B P D (addR K L f most).1 (addR K L f most).2.1 := by
  obtain ⟨hs0, hs1, _, _, hl1, hl2⟩ := log_size hl
  have HFU : Hid (Calls Tryz.prog 73 #[.pointer (some ⟨P, 0, none⟩), .int .i64 (f.size : Int), .int .i64 most] w fun e w' => e = .returned (.bool true) ∧ w' = w) := by
    have := full_any P D L (f.size : Int) most w h.wr ⟨hs0, hs1⟩ (by omega)
    rw [hn] at this
    exact this
  obtain ⟨⟨K0, x0⟩, hS0⟩ : ∃ R, stepD K (opCreate (L.last + 1)) = R := ⟨_, rfl⟩
  have E0 : Hid (addR K L f most = if x0 ≠ 0 then (K0, L, x0) else appendT K0 ⟨L.first, L.last + 1, 0⟩ f) := by show _ = _; rw [addR, if_pos hn, hS0]
  have HC0 : Hid (∀ W, WSt w0 W B P D K L → Calls Tryz.prog 49 #[.pointer (some ⟨D, 0, none⟩), .agg #[.int .i64 1, .string (segS (L.last + 1)), .string ⟨#[]⟩, .string ⟨#[]⟩, .int .i64 0]] W fun e w' => e = .returned (errV x0) ∧ x0 ≤ 6 ∧ WSt w0 w' B P D K0 L) := fun W hW => stepOf (opCreate (L.last + 1)) hW (opB_mk (by omega) (by omega) (by omega)) (by show (1 : Int) ≤ 4; omega) hS0
  have HW : Hid (WSt w0 w B P D K L) := h
  have hwl : IntKind.i64.wrap (L.last + 1) = L.last + 1 := by rw [IntKind.wrap_i64]; omega
  clear h hl hn hS0
  obtain ⟨c0, c1, c2, c3⟩ := HW.out.wr.cells
  have HK : Hid (∀ W K' , WSt w0 W B P D K' L → W.cell? ⟨P, 0, none⟩ = some (.pointer (some ⟨D, 0, none⟩)) ∧ W.cell? ⟨P, 2, none⟩ = some (.int .i64 L.last)) := fun W K' h => ⟨h.wr.cells.1, h.wr.cells.2.2.1⟩
  go_enter Tryz.func46, Tryz.ntmps46
  go_wp2_with fail
  refine HFU.out.mono ?_
  rintro e w' ⟨rfl, hw⟩; replace hw := hw.symm; subst hw
  go_wp2_with fail
  go_region_held3 (fun w' => w'.cell? ⟨P, 0, none⟩ = some (.pointer (some ⟨D, 0, none⟩)) ∧ w'.cell? ⟨P, 2, none⟩ = some (.int .i64 L.last))
    (first | exact HK.out _ _ HW8.out | exact HK.out _ _ HW7.out | exact HK.out _ _ (HW.out.later (Below.refl _ _).drew))
    (first
    | (go_at_call 22; refine (implSeg_any (L.last + 1) _ (HW.out.later (Below.refl _ _).drew).tab).mono ?_; rintro e w7 ⟨rfl, hb7⟩; have HW7 : Hid (WSt w0 w7 B P D K L) := (HW.out.later (Below.refl _ _).drew).later hb7)
    | (go_at_call 49; refine (HC0.out _ HW7.out).mono ?_; rintro e w8 ⟨rfl, h6, hw8⟩; have HW8 : Hid (WSt w0 w8 B P D K0 L) := hw8))
  clear c0 c1 c2 c3 HK HC0 HFU HW HW7 hb7 hw8
  by_cases hx0 : x0 = 0
  · subst hx0
    simp only [errV]
    have E1 : Hid (addR K L f most = appendT K0 ⟨L.first, L.last + 1, 0⟩ f) := by show _ = _; rw [E0.out, if_neg (by simp)]
    obtain ⟨_, _, c2, c3⟩ := HW8.out.wr.cells
    have q2 := Blk.free HW8.out.wr 2
    have HWA : Hid (WSt w0 (w8.setCell ⟨P, 2, none⟩ (.int .i64 (L.last + 1))) B P D K0 ⟨L.first, L.last + 1, L.size⟩) := HW8.out.set 2 _ (by simp)
    have c3' := HWA.out.wr.cells.2.2.2
    have q3 := Blk.free HWA.out.wr 3
    have HWB0 : Hid (WSt w0 ((w8.setCell ⟨P, 2, none⟩ (.int .i64 (L.last + 1))).setCell ⟨P, 3, none⟩ (.int .i64 0)) B P D K0 ⟨L.first, L.last + 1, 0⟩) := HWA.out.set 3 _ (by simp)
    have c2' := HWB0.out.wr.cells.2.2.1
    go_wp2_with fail
    refine (implSeg_any (L.last + 1) _ HWB0.out.tab).mono ?_
    rintro e w9 ⟨rfl, hb9⟩
    have HWB : Hid (WSt w0 w9 B P D K0 ⟨L.first, L.last + 1, 0⟩) := HWB0.out.later hb9
    clear hb9 HWB0 HWA HW8 c2 c3 c3' q2 q3 c2'
    obtain ⟨c0, _, _, _⟩ := HWB.out.wr.cells
    obtain ⟨⟨K1, x1⟩, hS1⟩ : ∃ R, stepD K0 (opAppend (L.last + 1) f) = R := ⟨_, rfl⟩
    have HS1 : Hid (stepD K0 (opAppend (L.last + 1) f) = (K1, x1)) := hS1
    have HC1 : Hid (Calls Tryz.prog 49 #[.pointer (some ⟨D, 0, none⟩), .agg #[.int .i64 2, .string (segS (L.last + 1)), .string ⟨#[]⟩, .string f, .int .i64 0]] w9 fun e w' => e = .returned (errV x1) ∧ x1 ≤ 6 ∧ WSt w0 w' B P D K1 ⟨L.first, L.last + 1, 0⟩) := stepOf (opAppend (L.last + 1) f) HWB.out (opB_mk (by omega) (by omega) (by omega)) (by show (2 : Int) ≤ 4; omega) hS1
    clear hS1
    go_wp2_with fail
    refine HC1.out.mono ?_
    rintro e w2 ⟨rfl, h6, hw2⟩
    have HW2 : Hid (WSt w0 w2 B P D K1 ⟨L.first, L.last + 1, 0⟩) := hw2
    clear hw2 c0 HC1
    by_cases hx : x1 = 0
    · subst hx
      simp only [errV]
      obtain ⟨c0, _, _, _⟩ := HW2.out.wr.cells
      obtain ⟨⟨K2, x2⟩, hS2⟩ : ∃ R, stepD K1 (opSync (L.last + 1)) = R := ⟨_, rfl⟩
      have HS2 : Hid (stepD K1 (opSync (L.last + 1)) = (K2, x2)) := hS2
      have HC2 : Hid (Calls Tryz.prog 49 #[.pointer (some ⟨D, 0, none⟩), .agg #[.int .i64 3, .string (segS (L.last + 1)), .string ⟨#[]⟩, .string ⟨#[]⟩, .int .i64 0]] w2 fun e w' => e = .returned (errV x2) ∧ x2 ≤ 6 ∧ WSt w0 w' B P D K2 ⟨L.first, L.last + 1, 0⟩) := stepOf (opSync (L.last + 1)) HW2.out (opB_mk (by omega) (by omega) (by omega)) (by show (3 : Int) ≤ 4; omega) hS2
      clear hS2 h6
      go_wp2_with fail
      refine HC2.out.mono ?_
      rintro e w3 ⟨rfl, h6, hw3⟩
      have HW3 : Hid (WSt w0 w3 B P D K2 ⟨L.first, L.last + 1, 0⟩) := hw3
      have EA : Hid (appendT K0 ⟨L.first, L.last + 1, 0⟩ f = if x2 ≠ 0 then (K2, ⟨L.first, L.last + 1, 0⟩, x2) else (K2, ⟨L.first, (L.last + 1), 0 + f.size⟩, 0)) := appendT_sync (L := ⟨L.first, L.last + 1, 0⟩) HS1.out rfl HS2.out
      clear hw3 c0 HC2
      by_cases hx : x2 = 0
      · subst hx
        simp only [errV]
        have EB : Hid (addR K L f most = (K2, ⟨L.first, (L.last + 1), 0 + f.size⟩, 0)) := by show _ = _; rw [E1.out, EA.out, if_neg (by simp)]
        have HWF : Hid (WSt w0 (w3.setCell ⟨P, 3, none⟩ (.int .i64 (f.size : Int))) B P D K2 ⟨L.first, (L.last + 1), 0 + f.size⟩) := HW3.out.set 3 _ (by simp)
        obtain ⟨_, _, _, c3⟩ := HW3.out.wr.cells
        have q3 := Blk.free HW3.out.wr 3
        have hwz : IntKind.i64.wrap ((0 : Int) + (f.size : Int)) = (0 : Int) + (f.size : Int) := by rw [IntKind.wrap_i64]; omega
        go_wp2
        go_ret
        rw [EB.out]
        exact ⟨rfl, by omega, HWF.out⟩
      · obtain ⟨t, ht⟩ := errV_iface hx h6
        have EB : Hid (addR K L f most = (K2, ⟨L.first, L.last + 1, 0⟩, x2)) := by show _ = _; rw [E1.out, EA.out, if_pos hx]
        have HT : Hid (errV x2 = .iface 103 (.string t)) := ht
        rw [ht]
        clear ht
        go_wp2
        go_ret
        rw [EB.out]
        exact ⟨by rw [HT.out]; rfl, h6, HW3.out⟩
    · obtain ⟨t, ht⟩ := errV_iface hx h6
      have EB : Hid (addR K L f most = (K1, ⟨L.first, L.last + 1, 0⟩, x1)) := by show _ = _; rw [E1.out, appendT_fail (L := ⟨L.first, L.last + 1, 0⟩) HS1.out hx]
      have HT : Hid (errV x1 = .iface 103 (.string t)) := ht
      rw [ht]
      clear ht
      go_wp2
      go_ret
      rw [EB.out]
      exact ⟨by rw [HT.out]; rfl, h6, HW2.out⟩
  · obtain ⟨t, ht⟩ := errV_iface hx0 h6
    have EB : Hid (addR K L f most = (K0, L, x0)) := by show _ = _; rw [E0.out, if_pos hx0]
    have HT : Hid (errV x0 = .iface 103 (.string t)) := ht
    rw [ht]
    clear ht
    go_wp2
    go_ret
    rw [EB.out]
    exact ⟨by rw [HT.out]; rfl, h6, HW8.out⟩
end Go.Proofs.YtflfopienjjlbaaGreatDoor

