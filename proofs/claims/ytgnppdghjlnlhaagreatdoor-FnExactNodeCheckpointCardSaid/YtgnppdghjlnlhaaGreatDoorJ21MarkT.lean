import Derived.Test.YtgnppdghjlnlhaaGreatDoorJ20SNum
import Derived.Test.YtgnppdghjlnlhaaGreatDoorJ01Btw
import Derived.Lib.ItoaNum
import Derived.Test.YtgnppdghjlnlhaaGreatDoorJ16SStep
import Derived.Test.YtgnppdghjlnlhaaGreatDoorProg
import Derived.Test.YtgnppdghjlnlhaaGreatDoorJ04Clone
namespace Go.Proofs.YtgnppdghjlnlhaaGreatDoor
open Go.RowKit
def numN (v : Nat) : Nat → List Nat
  | 0 => []
  | n + 1 => v / 256 ^ n % 256 :: numN v n
theorem numN_length (v : Nat) : ∀ n, (numN v n).length = n
  | 0 => rfl
  | n + 1 => by simp [numN, numN_length v n]
theorem shrN_nat (v : Nat) : ∀ k, shrN (v : Int) k = ((v / 256 ^ k : Nat) : Int)
  | 0 => by simp [shrN]
  | k + 1 => by rw [shrN, shrN_nat v k, Nat.pow_succ, ← Nat.div_div_eq_div_mul]; omega
theorem numI_nat (v : Nat) : ∀ n, numI (v : Int) n = (numN v n).map (fun x : Nat => (x : Int))
  | 0 => rfl
  | n + 1 => by rw [numI, numN, List.map_cons, numI_nat v n, shrN_nat]; simp
theorem numN_add (a b n : Nat) : ∀ m, m ≤ n → numN (a * 256 ^ n + b) m = numN b m
  | 0, _ => rfl
  | m + 1, h => by
    rw [numN, numN, numN_add a b n m (by omega)]
    congr 1
    obtain ⟨d, rfl⟩ : ∃ d, n = m + 1 + d := ⟨n - (m + 1), by omega⟩
    have e : a * 256 ^ (m + 1 + d) + b = b + 256 ^ m * (a * 256 ^ d * 256) := by rw [Nat.pow_add, Nat.pow_succ, Nat.add_comm]; congr 1; ac_rfl
    rw [e, Nat.add_mul_div_left _ _ (Nat.pow_pos (by omega))]
    omega
theorem beL_cons (c : UInt8) (l : List UInt8) : beL (c :: l) = c.toNat * 256 ^ l.length + beL l := by
  have hg : ∀ (l : List UInt8) (v : Nat), l.foldl (fun v c => v * 256 + c.toNat) v = v * 256 ^ l.length + beL l := fun l => by
    induction l with
    | nil => intro v; simp [beL]
    | cons d l ih =>
      intro v
      have h1 := ih (v * 256 + d.toNat)
      have h2 := ih (0 * 256 + d.toNat)
      simp only [beL, List.foldl_cons, List.length_cons, Nat.pow_succ] at h1 h2 ⊢
      rw [h1, h2]
      simp only [Nat.add_mul, Nat.zero_mul, Nat.zero_add]
      rw [Nat.add_assoc]
      congr 1
      ac_rfl
  have := hg l (0 * 256 + c.toNat)
  simpa [beL] using this
theorem numN_be : ∀ (l : List UInt8), numN (beL l) l.length = l.map (fun c => c.toNat)
  | [] => rfl
  | c :: l => by
    have hb := beL_lt l
    have hc := c.toNat_lt
    rw [List.length_cons, numN, beL_cons, numN_add _ _ _ _ (Nat.le_refl _), numN_be l, List.map_cons]
    congr 1
    rw [Nat.add_comm, Nat.mul_comm, Nat.add_mul_div_left _ _ (Nat.pow_pos (by omega)), Nat.div_eq_of_lt hb]
    omega
theorem numS_be (l : List UInt8) (n : Nat) (h : l.length = n) : numS n (beL l : Nat) = ⟨l.toArray⟩ := by
  subst h
  rw [numS, numI_nat, numN_be, strOfNums]
  congr 2
  rw [List.map_map, List.map_map]
  conv => rhs; rw [← List.map_id l]
  congr 1
  funext c
  simp
theorem be_numN (v : Nat) : ∀ n, beL ((numN v n).map UInt8.ofNat) = v % 256 ^ n
  | 0 => by simp [numN, beL, Nat.mod_one]
  | n + 1 => by
    rw [numN, List.map_cons, beL_cons, be_numN v n, List.length_map, numN_length, UInt8.toNat_ofNat_of_lt' (by show _ < 256; omega), Nat.pow_succ, Nat.mod_mul]
    rw [Nat.mul_comm, Nat.add_comm]
theorem numS_data (n v : Nat) : (numS n v).data.toList = (numN v n).map UInt8.ofNat := by
  rw [numS, numI_nat, strOfNums_data, List.map_map]
  congr 1
theorem be_numS (n v : Nat) (h : v < 256 ^ n) : beL (numS n v).data.toList = v := by
  rw [numS_data, be_numN, Nat.mod_eq_of_lt h]
end Go.Proofs.YtgnppdghjlnlhaaGreatDoor
namespace Go.Proofs.YtgnppdghjlnlhaaGreatDoor
open Go.RowKit
theorem bytes_ext {a b : ByteArray} (h : a.data.toList = b.data.toList) : a = b := by
  obtain ⟨⟨l⟩⟩ := a
  obtain ⟨⟨m⟩⟩ := b
  simp only at h
  rw [h]
theorem bytes_append (a b : ByteArray) : (a ++ b).data.toList = a.data.toList ++ b.data.toList := by simp
theorem bytes_part (d : ByteArray) (p n : Nat) : (d.extract p (p + n)).data.toList = sectL d p n := by
  simp [sectL, ByteArray.data_extract, Array.toList_extract]
theorem bytes_size (d : ByteArray) : d.data.toList.length = d.size := by simp
def frameS (p : ByteArray) : ByteArray := if 1 ≤ p.size ∧ p.size ≤ 60000 then numS 4 p.size ++ numS 4 (crcV p : Nat) ++ p else ByteArray.empty
def headN (d : ByteArray) : Nat := beL (sectL d 0 4)
def firstS (d : ByteArray) : ByteArray :=
  if d.size < 8 then ByteArray.empty
  else if d.size - 8 < headN d then ByteArray.empty
  else if frameS (d.extract 8 (8 + headN d)) = ByteArray.empty ∨ frameS (d.extract 8 (8 + headN d)) ≠ d.extract 0 (8 + headN d) then ByteArray.empty
  else d.extract 8 (8 + headN d)
def FrameAt (d : ByteArray) : Prop := 8 ≤ d.size ∧ 1 ≤ headN d ∧ headN d ≤ 60000 ∧ headN d ≤ d.size - 8 ∧ beL (sectL d 4 4) = crcV (d.extract 8 (8 + headN d))
def frD (d : ByteArray) : Decidable (FrameAt d) := by unfold FrameAt; infer_instance
def frB (d : ByteArray) : Bool := @decide (FrameAt d) (frD d)
theorem frB_t {d : ByteArray} (h : FrameAt d) : frB d = true := @decide_eq_true _ (frD d) h
theorem frB_f {d : ByteArray} (h : ¬ FrameAt d) : frB d = false := @decide_eq_false _ (frD d) h
theorem part_size {d : ByteArray} {p n : Nat} (h : p + n ≤ d.size) : (d.extract p (p + n)).size = n := by rw [ByteArray.size_extract]; omega
theorem frameS_size {p : ByteArray} (h : 1 ≤ p.size ∧ p.size ≤ 60000) : (frameS p).size = 8 + p.size := by
  rw [frameS, if_pos h, ByteArray.size_append, ByteArray.size_append, numS_size, numS_size]
theorem frame_is {d : ByteArray} (h8 : 8 ≤ d.size) (h1 : 1 ≤ headN d) (h2 : headN d ≤ 60000) (h3 : headN d ≤ d.size - 8) :
    frameS (d.extract 8 (8 + headN d)) = d.extract 0 (8 + headN d) ↔ beL (sectL d 4 4) = crcV (d.extract 8 (8 + headN d)) := by
  have hz : (d.extract 8 (8 + headN d)).size = headN d := part_size (by omega)
  have hw : (d.extract 0 (8 + headN d)).data.toList = sectL d 0 4 ++ sectL d 4 4 ++ (d.extract 8 (8 + headN d)).data.toList := by
    have e0 := bytes_part d 0 (8 + headN d)
    rw [Nat.zero_add] at e0
    rw [e0, bytes_part]
    simp only [sectL, List.drop_zero]
    have hl := bytes_size d
    rw [show 8 + headN d = 4 + (4 + headN d) by omega, List.take_add, List.take_add, List.drop_drop]
    simp
  have hn : numS 4 (headN d : Nat) = ⟨(sectL d 0 4).toArray⟩ := numS_be _ 4 (sectL_length (by omega))
  rw [frameS, if_pos (by rw [hz]; exact ⟨h1, h2⟩), hz, hn]
  constructor
  · intro h
    have h' := congrArg (fun x : ByteArray => x.data.toList) h
    simp only [bytes_append] at h'
    rw [hw, List.append_left_inj, List.append_right_inj] at h'
    rw [← h', be_numS 4 _ (by have := crcV_lt (d.extract 8 (8 + headN d)); omega)]
  · intro h
    apply bytes_ext
    rw [bytes_append, bytes_append, hw, ← h, numS_be _ 4 (sectL_length (by omega))]
theorem firstS_eq (d : ByteArray) : firstS d = haveI := frD d; if FrameAt d then d.extract 8 (8 + headN d) else ByteArray.empty := by
  unfold firstS
  by_cases h8 : d.size < 8
  · rw [if_pos h8, if_neg (fun h => by have := h.1; omega)]
  · rw [if_neg h8]
    by_cases h3 : d.size - 8 < headN d
    · rw [if_pos h3, if_neg (fun h => by have := h.2.2.2.1; omega)]
    · rw [if_neg h3]
      have hz : (d.extract 8 (8 + headN d)).size = headN d := part_size (by omega)
      by_cases h1 : 1 ≤ headN d ∧ headN d ≤ 60000
      · have hne : frameS (d.extract 8 (8 + headN d)) ≠ ByteArray.empty := by
          intro e
          have := frameS_size (p := d.extract 8 (8 + headN d)) (by rw [hz]; exact h1)
          rw [e, ByteArray.size_empty] at this
          omega
        by_cases hc : beL (sectL d 4 4) = crcV (d.extract 8 (8 + headN d))
        · have hf := (frame_is (by omega) h1.1 h1.2 (by omega)).2 hc
          rw [if_neg (by intro h; rcases h with h | h; exact hne h; exact h hf), if_pos ⟨by omega, h1.1, h1.2, by omega, hc⟩]
        · have hf : ¬ frameS (d.extract 8 (8 + headN d)) = d.extract 0 (8 + headN d) := fun h => hc ((frame_is (by omega) h1.1 h1.2 (by omega)).1 h)
          rw [if_pos (Or.inr hf), if_neg (fun h => hc h.2.2.2.2)]
      · have he : frameS (d.extract 8 (8 + headN d)) = ByteArray.empty := by rw [frameS, if_neg (by rw [hz]; exact h1)]
        rw [if_pos (Or.inl he), if_neg (fun h => h1 ⟨h.2.1, h.2.2.1⟩)]
def scanR (d : ByteArray) : Nat → Nat → List ByteArray × Nat
  | 0, p => ([], p)
  | n + 1, p => haveI := frD (d.extract p d.size); if FrameAt (d.extract p d.size) then
      let q := (d.extract p d.size).extract 8 (8 + headN (d.extract p d.size))
      (q :: (scanR d n (p + 8 + q.size)).1, (scanR d n (p + 8 + q.size)).2) else ([], p)
def scanV (d : ByteArray) : List ByteArray × Nat := scanR d (d.size + 1) 0
end Go.Proofs.YtgnppdghjlnlhaaGreatDoor
namespace Go.Proofs.YtgnppdghjlnlhaaGreatDoor
open Go.RowKit
def segD (n : Nat) : Nat → List UInt8
  | 0 => []
  | i + 1 => (48 + UInt8.ofNat (n / 10 ^ i % 10)) :: segD n i
def segN (n : Nat) : ByteArray := ⟨(119 :: 97 :: 108 :: 45 :: segD n 6).toArray⟩
def segS (n : Int) : ByteArray := if 1 ≤ n ∧ n ≤ 999999 then segN n.toNat else ByteArray.empty
theorem segD_length (n : Nat) : ∀ i, (segD n i).length = i
  | 0 => rfl
  | i + 1 => by simp [segD, segD_length n i]
theorem segS_size (n : Int) : (segS n).size ≤ 10 := by
  unfold segS
  split
  · show (119 :: 97 :: 108 :: 45 :: segD n.toNat 6).toArray.size ≤ 10
    simp [segD_length]
  · simp
theorem dig_ofNat (k : Nat) : UInt8.ofNat (48 + k) = 48 + UInt8.ofNat k := by rw [UInt8.ofNat_add]; rfl
theorem itoa_seg (n : Nat) (h : n < 1000000) : Lib.itoa ((1000000 + n : Nat) : Int) = 49 :: segD n 6 := by
  have h7 : Lib.nDigits (1000000 + n) = 7 := Lib.nDigits_unique 6 _ (by omega) (by omega)
  rw [Lib.itoa, if_neg (by omega), Int.toNat_natCast, Lib.decDigits_eq, h7]
  simp only [List.range_succ, List.range_zero, List.map_cons, List.map_nil, List.nil_append, List.cons_append, segD, Lib.dg, dig_ofNat]
  congr 1
  · rw [show (1000000 + n) / 10 ^ (7 - 1 - 0) % 10 = 1 by omega]; rfl
  · simp only [List.cons.injEq, and_true]
    refine ⟨?_, ?_, ?_, ?_, ?_, ?_⟩ <;> congr 2 <;> omega
end Go.Proofs.YtgnppdghjlnlhaaGreatDoor
namespace Go.Proofs.YtgnppdghjlnlhaaGreatDoor
open Go.RowKit
def stepD (D : DiskD) (op : OpD) : DiskD × Nat :=
  (⟨(outR D.fs D.c D.k D.cr D.fl D.dn op).2.1, (outR D.fs D.c D.k D.cr D.fl D.dn op).2.2.1, (outR D.fs D.c D.k D.cr D.fl D.dn op).2.2.2.1, (outR D.fs D.c D.k D.cr D.fl D.dn op).2.2.2.2.1, (outR D.fs D.c D.k D.cr D.fl D.dn op).2.2.2.2.2.1, (outR D.fs D.c D.k D.cr D.fl D.dn op).2.2.2.2.2.2⟩, (outR D.fs D.c D.k D.cr D.fl D.dn op).1)
structure Fit (fs : List FileD) : Prop where
  short : Short fs
  len : fs.length ≤ 1048576
  sum : sumLen fs ≤ 1000000000
theorem fit_nil : Fit [] := ⟨fun i h => absurd h (by simp), by simp, by simp [sumLen]⟩
theorem sumLen_set (fs : List FileD) (i : Nat) (f : FileD) (h : i < fs.length) : sumLen (fs.set i f) + fs[i].data.size = sumLen fs + f.data.size := by
  induction fs generalizing i with
  | nil => exact absurd h (by simp)
  | cons g r ih =>
    cases i with
    | zero => simp [sumLen]; omega
    | succ i =>
      have := ih i (by simpa using h)
      simp only [List.set_cons_succ, List.getElem_cons_succ, sumLen]
      omega
theorem sumLen_mem {fs : List FileD} (i : Nat) (hi : i < fs.length) : fs[i].data.size ≤ sumLen fs := by
  have h1 := sumLen_take_succ fs i hi
  have h2 := sumLen_take_le fs (i + 1)
  omega
theorem short_mem {fs : List FileD} (h : Short fs) {f : FileD} (hf : f ∈ fs) : f.name.size ≤ maxLen ∧ f.data.size ≤ maxLen := by
  obtain ⟨i, hi, rfl⟩ := List.getElem_of_mem hf
  exact h i hi
theorem short_of {fs : List FileD} (h : ∀ f ∈ fs, f.name.size ≤ maxLen ∧ f.data.size ≤ maxLen) : Short fs := fun _ hi => h _ (List.getElem_mem hi)
theorem short_set {fs : List FileD} (h : Short fs) {i : Nat} {f : FileD} (hf : f.name.size ≤ maxLen ∧ f.data.size ≤ maxLen) : Short (fs.set i f) := short_of fun _ hg => by
  rcases List.mem_or_eq_of_mem_set hg with hg | rfl
  · exact short_mem h hg
  · exact hf
theorem sumLen_erase (fs : List FileD) (i : Nat) : sumLen (fs.eraseIdx i) ≤ sumLen fs := by
  induction fs generalizing i with
  | nil => simp
  | cons g r ih =>
    cases i with
    | zero => simp [sumLen]
    | succ i => have := ih i; simp only [List.eraseIdx_cons_succ, sumLen]; omega
theorem sumLen_eraseIdx (fs : List FileD) (i : Nat) (h : i < fs.length) : sumLen (fs.eraseIdx i) + fs[i].data.size = sumLen fs := by
  induction fs generalizing i with
  | nil => exact absurd h (by simp)
  | cons g r ih =>
    cases i with
    | zero => simp [sumLen]; omega
    | succ i =>
      have := ih i (by simpa using h)
      simp only [List.eraseIdx_cons_succ, List.getElem_cons_succ, sumLen]
      omega
theorem sumLen_filter (p : FileD → Bool) (fs : List FileD) : sumLen (fs.filter p) ≤ sumLen fs := by
  induction fs with
  | nil => simp
  | cons g r ih =>
    rw [List.filter_cons]
    split
    · simp only [sumLen]; omega
    · simp only [sumLen]; omega
theorem sumLen_place (fs : List FileD) (f : FileD) : sumLen (placeL fs f) = sumLen fs + f.data.size := by
  induction fs with
  | nil => simp [placeL, sumLen]
  | cons g r ih =>
    unfold placeL
    split
    · simp only [sumLen]; omega
    · simp only [sumLen, ih]; omega
theorem mem_place {fs : List FileD} {f g : FileD} (h : g ∈ placeL fs f) : g = f ∨ g ∈ fs := by
  induction fs with
  | nil => simp [placeL] at h; exact Or.inl h
  | cons x r ih =>
    unfold placeL at h
    split at h
    · simpa using h
    · rcases List.mem_cons.1 h with rfl | h
      · simp
      · rcases ih h with h | h
        · exact Or.inl h
        · exact Or.inr (List.mem_cons_of_mem _ h)
theorem sumLen_ins (fs : List FileD) (i : Nat) (f : FileD) : sumLen (insL fs i f) = sumLen fs + f.data.size := by
  have h := sumLen_append (fs.take i) (fs.drop i)
  rw [List.take_append_drop] at h
  rw [insL, sumLen_append]
  simp only [sumLen]
  omega
theorem fit_do {fs : List FileD} {c : Int} {op : OpD} (h : Fit fs) (h1 : fs.length ≤ 1000) (h3 : c ≤ 1000000000) (hn : op.name.size ≤ maxLen) (ht : op.to.size ≤ maxLen) : Fit (doR fs c op).2 := by
  have hM : (1000000000 : Nat) ≤ maxLen := by unfold maxLen; omega
  unfold doR
  simp only
  split
  · split
    · exact h
    · split
      · exact h
      · refine ⟨short_of fun f hf => ?_, ?_, ?_⟩
        · simp only [insL, List.mem_append, List.mem_cons] at hf
          rcases hf with hf | rfl | hf
          · exact short_mem h.short (List.mem_of_mem_take hf)
          · exact ⟨hn, by simp [maxLen]⟩
          · exact short_mem h.short (List.mem_of_mem_drop hf)
        · show (insL fs _ _).length ≤ _
          rw [insL]
          simp only [List.length_append, List.length_take, List.length_cons, List.length_drop]
          omega
        · show sumLen (insL fs _ _) ≤ _
          rw [sumLen_ins]
          have := h.sum
          simpa using this
  · split
    · exact h
    · rename_i f hf
      obtain ⟨hi, rfl⟩ := List.getElem?_eq_some_iff.1 hf
      have hmem := short_mem h.short (List.getElem_mem hi)
      have hle := sumLen_mem _ hi
      have hs := h.sum
      split
      · exact h
      · split
        · split
          · exact h
          · rename_i hc
            have hset := sumLen_set fs (posOf op.name fs) ⟨fs[posOf op.name fs].name, fs[posOf op.name fs].data ++ op.data, fs[posOf op.name fs].synced⟩ hi
            simp only [ByteArray.size_append] at hset
            refine ⟨short_set h.short ⟨hmem.1, ?_⟩, ?_, ?_⟩
            · show (fs[posOf op.name fs].data ++ op.data).size ≤ maxLen
              rw [ByteArray.size_append]
              omega
            · show (fs.set _ _).length ≤ _
              rw [List.length_set]; omega
            · show sumLen (fs.set _ _) ≤ _
              omega
        · split
          · have hset := sumLen_set fs (posOf op.name fs) ⟨fs[posOf op.name fs].name, fs[posOf op.name fs].data, fs[posOf op.name fs].data.size⟩ hi
            refine ⟨short_set h.short hmem, ?_, ?_⟩
            · show (fs.set _ _).length ≤ _
              rw [List.length_set]; omega
            · show sumLen (fs.set _ _) ≤ _
              simp only at hset
              omega
          · split
            · split
              · have hset := sumLen_set fs (posOf op.name fs) ⟨fs[posOf op.name fs].name, fs[posOf op.name fs].data.extract 0 op.size.toNat, op.size⟩ hi
                have hx : (fs[posOf op.name fs].data.extract 0 op.size.toNat).size ≤ fs[posOf op.name fs].data.size := by rw [ByteArray.size_extract]; omega
                refine ⟨short_set h.short ⟨hmem.1, ?_⟩, ?_, ?_⟩
                · show (fs[posOf op.name fs].data.extract 0 op.size.toNat).size ≤ maxLen
                  omega
                · show (fs.set _ _).length ≤ _
                  rw [List.length_set]; omega
                · show sumLen (fs.set _ _) ≤ _
                  simp only at hset
                  omega
              · exact h
            · split
              · have hlen : (fs.eraseIdx (posOf op.name fs)).length ≤ fs.length := by rw [List.length_eraseIdx]; split <;> omega
                have her := sumLen_eraseIdx fs (posOf op.name fs) hi
                refine ⟨short_of fun g hg => ?_, ?_, ?_⟩
                · rcases mem_place (fs := withoutL (fs.eraseIdx (posOf op.name fs)) op.to) (f := ⟨op.to, fs[posOf op.name fs].data, fs[posOf op.name fs].synced⟩) hg with rfl | hg
                  · exact ⟨ht, hmem.2⟩
                  · exact short_mem h.short (List.mem_of_mem_eraseIdx (List.mem_filter.1 hg).1)
                · show (withL _ _).length ≤ _
                  have hpl : ∀ (l : List FileD) (f : FileD), (placeL l f).length = l.length + 1 := fun l f => by
                    induction l with
                    | nil => rfl
                    | cons g r ih => unfold placeL; split <;> simp [ih]
                  have : (withoutL (fs.eraseIdx (posOf op.name fs)) op.to).length ≤ (fs.eraseIdx (posOf op.name fs)).length := List.length_filter_le _ _
                  rw [withL, hpl]
                  simp only
                  omega
                · show sumLen (withL _ _) ≤ _
                  have := sumLen_filter (fun f => !(f.name.toList == op.to.toList)) (fs.eraseIdx (posOf op.name fs))
                  rw [withL, sumLen_place]
                  simp only [withoutL]
                  omega
              · refine ⟨short_of fun g hg => short_mem h.short (List.mem_of_mem_eraseIdx hg), ?_, ?_⟩
                · show (fs.eraseIdx _).length ≤ _
                  rw [List.length_eraseIdx]; split <;> omega
                · show sumLen (fs.eraseIdx _) ≤ _
                  have := sumLen_erase fs (posOf op.name fs)
                  omega
theorem fit_step {D : DiskD} {op : OpD} (h : Fit D.fs) (hn : op.name.size ≤ maxLen) (ht : op.to.size ≤ maxLen) : Fit (stepD D op).1.fs := by
  show Fit (outR D.fs D.c D.k D.cr D.fl D.dn op).2.1
  unfold outR
  split
  · rename_i hq
    simp only [Bool.and_eq_true] at hq
    obtain ⟨_, h1, _, h3, _⟩ := files_of_disk hq.1
    unfold stepR
    split
    · exact fit_do h h1 h3 hn ht
    · exact h
  · exact fit_nil
def logB (L : LogD) : Bool := btwB L.last 1 999999 && btwB L.first 1 L.last && btwB L.size 0 1000000000
def opCreate (n : Int) : OpD := ⟨1, segS n, ⟨#[]⟩, ⟨#[]⟩, 0⟩
def opAppend (n : Int) (f : ByteArray) : OpD := ⟨2, segS n, ⟨#[]⟩, f, 0⟩
def opSync (n : Int) : OpD := ⟨3, segS n, ⟨#[]⟩, ⟨#[]⟩, 0⟩
def opCut (n : Int) (z : Int) : OpD := ⟨4, segS n, ⟨#[]⟩, ⟨#[]⟩, z⟩
def appendT (D : DiskD) (L : LogD) (f : ByteArray) : DiskD × LogD × Nat :=
  if (stepD D (opAppend L.last f)).2 ≠ 0 then ((stepD D (opAppend L.last f)).1, L, (stepD D (opAppend L.last f)).2)
  else if (stepD (stepD D (opAppend L.last f)).1 (opSync L.last)).2 ≠ 0 then ((stepD (stepD D (opAppend L.last f)).1 (opSync L.last)).1, L, (stepD (stepD D (opAppend L.last f)).1 (opSync L.last)).2)
  else ((stepD (stepD D (opAppend L.last f)).1 (opSync L.last)).1, ⟨L.first, L.last, L.size + f.size⟩, 0)
def appendD (D : DiskD) (L : LogD) (p : ByteArray) (most : Int) : DiskD × LogD × Nat :=
  if (logB L && btwB most 1 1000000000) = false then (D, L, 21)
  else if frameS p = ByteArray.empty then (D, L, 22)
  else if L.size ≠ 0 ∧ most < L.size + (frameS p).size then
    if L.last = 999999 then (D, L, 23)
    else if (stepD D (opCreate (L.last + 1))).2 ≠ 0 then ((stepD D (opCreate (L.last + 1))).1, L, (stepD D (opCreate (L.last + 1))).2)
    else appendT (stepD D (opCreate (L.last + 1))).1 ⟨L.first, L.last + 1, 0⟩ (frameS p)
  else appendT D L (frameS p)
theorem append_new {D D1 : DiskD} {L : LogD} {p F : ByteArray} {most : Int} {x : Nat} (hF : frameS p = F) (h1 : ¬ (logB L && btwB most 1 1000000000) = false) (h2 : ¬ frameS p = ByteArray.empty) (h3 : L.size ≠ 0 ∧ most < L.size + F.size) (h4 : ¬ L.last = 999999) (hs : stepD D (opCreate (L.last + 1)) = (D1, x)) :
    appendD D L p most = if x ≠ 0 then (D1, L, x) else appendT D1 ⟨L.first, L.last + 1, 0⟩ F := by
  subst hF
  unfold appendD
  rw [if_neg h1, if_neg h2, if_pos h3, if_neg h4, hs]
theorem appendT_fail {D D1 : DiskD} {L : LogD} {f : ByteArray} {x : Nat} (hs : stepD D (opAppend L.last f) = (D1, x)) (hx : ¬ x = 0) : appendT D L f = (D1, L, x) := by
  unfold appendT
  rw [hs, if_pos hx]
theorem appendT_sync {D D1 D2 : DiskD} {L : LogD} {f : ByteArray} {x y : Nat} (hs : stepD D (opAppend L.last f) = (D1, x)) (hx : x = 0) (hs2 : stepD D1 (opSync L.last) = (D2, y)) : appendT D L f = if y ≠ 0 then (D2, L, y) else (D2, ⟨L.first, L.last, L.size + f.size⟩, 0) := by
  unfold appendT
  rw [hs, if_neg (by simp [hx])]
  simp only
  rw [hs2]
end Go.Proofs.YtgnppdghjlnlhaaGreatDoor
namespace Go.Proofs.YtgnppdghjlnlhaaGreatDoor
open Go.RowKit
theorem filesB_of {fs : List FileD} (h1 : ∀ f ∈ fs, fileB f = true) (h2 : Asc fs) : filesB fs = true := by
  simp only [filesB, okTo, List.all_eq_true, List.mem_range]
  intro i hi
  unfold okAt
  rw [List.getElem?_eq_getElem hi]
  simp only [h1 _ (List.getElem_mem hi), Bool.true_and]
  cases i with
  | zero => rfl
  | succ j =>
    simp only [List.getElem?_eq_getElem (show j < fs.length by omega)]
    exact h2 j (j + 1) (by omega) hi
theorem fileB_of {fs : List FileD} (h : filesB fs = true) : ∀ f ∈ fs, fileB f = true := by
  intro f hf
  obtain ⟨i, hi, rfl⟩ := List.getElem_of_mem hf
  simp only [filesB, okTo, List.all_eq_true, List.mem_range] at h
  have := h i hi
  unfold okAt at this
  rw [List.getElem?_eq_getElem hi] at this
  simp only [Bool.and_eq_true] at this
  exact this.1
def ltF (a b : FileD) : Prop := Op.bytesLess a.name.toList b.name.toList = true
theorem asc_pair {fs : List FileD} : Asc fs ↔ fs.Pairwise ltF := by
  rw [List.pairwise_iff_getElem]
  exact ⟨fun h i j _ hj hij => h i j hij hj, fun h i j hij hj => h i j (by omega) hj hij⟩
theorem asc_ins {fs : List FileD} {f : FileD} (h : Asc fs) (hno : hasB fs f.name (posOf f.name fs) = false) : Asc (insL fs (posOf f.name fs) f) := by
  have hp := posOf_is f.name h
  have hne := hasB_none h hno
  have h' := asc_pair.1 h
  rw [← List.take_append_drop (posOf f.name fs) fs, List.pairwise_append] at h'
  rw [asc_pair, insL, List.pairwise_append, List.pairwise_cons]
  refine ⟨h'.1, ⟨fun b hb => ?_, h'.2.1⟩, fun a ha b hb => ?_⟩
  · obtain ⟨j, hj, rfl⟩ := List.getElem_of_mem hb
    rw [List.length_drop] at hj
    rw [List.getElem_drop]
    have h1 := hp.2.2 (posOf f.name fs + j) (by omega) (by omega)
    exact less_total _ _ h1 (fun e => hne _ (by omega) (toList_inj e))
  · rcases List.mem_cons.1 hb with rfl | hb
    · obtain ⟨j, hj, rfl⟩ := List.getElem_of_mem ha
      rw [List.length_take] at hj
      rw [List.getElem_take]
      exact hp.2.1 j (by omega) (by omega)
    · exact h'.2.2 a ha b hb
theorem asc_set {fs : List FileD} {i : Nat} {f : FileD} (h : Asc fs) (hi : i < fs.length) (hn : f.name = fs[i].name) : Asc (fs.set i f) := by
  have hget : ∀ a (ha : a < (fs.set i f).length) (ha' : a < fs.length), (fs.set i f)[a].name = fs[a].name := fun a ha ha' => by
    rw [List.getElem_set]
    split
    · rename_i e; subst e; exact hn
    · rfl
  intro a b hab hb
  have hb' : b < fs.length := by simpa using hb
  rw [hget a (by omega) (by omega), hget b hb hb']
  exact h a b hab hb'
theorem fileB_mk {n d : ByteArray} {s : Int} (hn : nameB n = true) (h0 : 0 ≤ s) (h1 : s ≤ d.size) : fileB ⟨n, d, s⟩ = true := by
  simp [fileB, btwB, hn, h0, h1]
theorem mem_set_or {fs : List FileD} {i : Nat} {f g : FileD} (h : g ∈ fs.set i f) : g = f ∨ g ∈ fs := (List.mem_or_eq_of_mem_set h).symm
theorem diskB_mk {fs : List FileD} {c k cr fl : Int} (h1 : fs.length ≤ 1000) (h2 : filesB fs = true) (h3 : 0 ≤ c ∧ c ≤ 1000000000) (h4 : (sumLen fs : Int) ≤ c) (h5 : 0 ≤ k ∧ k ≤ 1000000000000000) (h6 : 0 ≤ cr ∧ cr ≤ 1000000000000000) (h7 : 0 ≤ fl ∧ fl ≤ 1000000000000000) : diskB fs c k cr fl = true := by
  simp [diskB, btwB, h1, h2, h3, h4, h5, h6, h7]
theorem do_valid {fs : List FileD} {c : Int} {op : OpD} (hf : filesB fs = true) (hl : fs.length ≤ 1000) (hs : (sumLen fs : Int) ≤ c) (ho : nameB op.name = true) (ht : op.kind = 5 → nameB op.to = true) :
    filesB (doR fs c op).2 = true ∧ (doR fs c op).2.length ≤ 1000 ∧ (sumLen (doR fs c op).2 : Int) ≤ c := by
  have ha := asc_of hf
  have hb := fileB_of hf
  unfold doR
  simp only
  split
  · split
    · exact ⟨hf, hl, hs⟩
    · rename_i hno
      split
      · exact ⟨hf, hl, hs⟩
      · rename_i hlt
        have hp := posOf_is op.name ha
        refine ⟨filesB_of (fun f hm => ?_) (asc_ins (f := ⟨op.name, ByteArray.empty, 0⟩) ha (by simpa using hno)), ?_, ?_⟩
        · simp only [insL, List.mem_append, List.mem_cons] at hm
          rcases hm with hm | rfl | hm
          · exact hb _ (List.mem_of_mem_take hm)
          · exact fileB_mk ho (by omega) (by simp)
          · exact hb _ (List.mem_of_mem_drop hm)
        · rw [insL_length _ _ _ hp.1]; omega
        · rw [sumLen_ins]; simpa using hs
  · split
    · exact ⟨hf, hl, hs⟩
    · rename_i f hfi
      obtain ⟨hi, rfl⟩ := List.getElem?_eq_some_iff.1 hfi
      have hbi := hb _ (List.getElem_mem hi)
      simp only [fileB, btwB, Bool.and_eq_true, decide_eq_true_eq] at hbi
      split
      · exact ⟨hf, hl, hs⟩
      · split
        · split
          · exact ⟨hf, hl, hs⟩
          · rename_i hc
            have hset := sumLen_set fs (posOf op.name fs) ⟨fs[posOf op.name fs].name, fs[posOf op.name fs].data ++ op.data, fs[posOf op.name fs].synced⟩ hi
            simp only [ByteArray.size_append] at hset
            refine ⟨filesB_of (fun g hg => ?_) (asc_set ha hi rfl), by simpa using hl, by simp only; omega⟩
            rcases mem_set_or hg with rfl | hg
            · exact fileB_mk hbi.1 hbi.2.1 (by rw [ByteArray.size_append]; omega)
            · exact hb _ hg
        · split
          · have hset := sumLen_set fs (posOf op.name fs) ⟨fs[posOf op.name fs].name, fs[posOf op.name fs].data, fs[posOf op.name fs].data.size⟩ hi
            simp only at hset
            refine ⟨filesB_of (fun g hg => ?_) (asc_set ha hi rfl), by simpa using hl, by simp only; omega⟩
            rcases mem_set_or hg with rfl | hg
            · exact fileB_mk hbi.1 (by omega) (by omega)
            · exact hb _ hg
          · split
            · split
              · rename_i hz
                simp only [btwB, Bool.and_eq_true, decide_eq_true_eq] at hz
                have hset := sumLen_set fs (posOf op.name fs) ⟨fs[posOf op.name fs].name, fs[posOf op.name fs].data.extract 0 op.size.toNat, op.size⟩ hi
                simp only at hset
                have hx : (fs[posOf op.name fs].data.extract 0 op.size.toNat).size = op.size.toNat := by rw [ByteArray.size_extract]; omega
                refine ⟨filesB_of (fun g hg => ?_) (asc_set ha hi rfl), by simpa using hl, by simp only; omega⟩
                rcases mem_set_or hg with rfl | hg
                · exact fileB_mk hbi.1 hz.1 (by rw [hx]; omega)
                · exact hb _ hg
              · exact ⟨hf, hl, hs⟩
            · have he : filesB (fs.eraseIdx (posOf op.name fs)) = true := filesB_of (fun g hg => hb _ (List.mem_of_mem_eraseIdx hg)) (ha.erase _)
              have hll : (fs.eraseIdx (posOf op.name fs)).length = fs.length - 1 := by rw [List.length_eraseIdx, if_pos hi]
              have hse := sumLen_eraseIdx fs _ hi
              split
              · rename_i h5
                have hz := (posOf_is op.to (ha.erase (posOf op.name fs)))
                have hf5 := fileB_mk (n := op.to) (d := fs[posOf op.name fs].data) (s := fs[posOf op.name fs].synced) (ht h5) hbi.2.1 hbi.2.2
                cases hq : hasB (fs.eraseIdx (posOf op.name fs)) op.to (posOf op.to (fs.eraseIdx (posOf op.name fs))) with
                | true =>
                  obtain ⟨hj, hjn⟩ := hasB_lt hq
                  have hset := sumLen_set (fs.eraseIdx (posOf op.name fs)) (posOf op.to (fs.eraseIdx (posOf op.name fs))) ⟨op.to, fs[posOf op.name fs].data, fs[posOf op.name fs].synced⟩ hj
                  simp only at hset
                  rw [with_old (f := ⟨op.to, fs[posOf op.name fs].data, fs[posOf op.name fs].synced⟩) (ha.erase _) hj hjn]
                  refine ⟨filesB_of (fun g hg => ?_) (asc_set (ha.erase _) hj hjn.symm), by simp only [List.length_set]; omega, by simp only; omega⟩
                  rcases mem_set_or hg with rfl | hg
                  · exact hf5
                  · exact fileB_of he _ hg
                | false =>
                  rw [with_new (f := ⟨op.to, fs[posOf op.name fs].data, fs[posOf op.name fs].synced⟩) (ha.erase _) hq]
                  refine ⟨filesB_of (fun f hm => ?_) (asc_ins (f := ⟨op.to, fs[posOf op.name fs].data, fs[posOf op.name fs].synced⟩) (ha.erase _) hq), ?_, ?_⟩
                  · simp only [insL, List.mem_append, List.mem_cons] at hm
                    rcases hm with hm | rfl | hm
                    · exact fileB_of he _ (List.mem_of_mem_take hm)
                    · exact hf5
                    · exact fileB_of he _ (List.mem_of_mem_drop hm)
                  · rw [insL_length _ _ _ hz.1]; omega
                  · rw [sumLen_ins]; simp only; omega
              · exact ⟨he, by simp only; omega, by simp only; omega⟩
theorem charge_valid {k cr fl : Int} {dn : Bool} (h0 : 0 ≤ k) (h1 : k ≤ 1000000000000000) : 0 ≤ (chargeR k cr fl dn).2.1 ∧ (chargeR k cr fl dn).2.1 ≤ 1000000000000000 := by
  unfold chargeR
  split
  · exact ⟨h0, h1⟩
  · split
    · exact ⟨h0, h1⟩
    · split
      · simp only; omega
      · split <;> (simp only; omega)
theorem diskB_step {fs : List FileD} {c k cr fl : Int} {dn : Bool} {op : OpD} (h : diskB fs c k cr fl = true) (ho : opB op = true) :
    diskB (stepR fs c k cr fl dn op).2.1 c (stepR fs c k cr fl dn op).2.2.1 cr fl = true := by
  obtain ⟨h1, h2, h3, h4, h5, h6, h7, h8, h9, h10, h11⟩ := files_of_disk h
  have hop : nameB op.name = true ∧ (op.kind = 5 → nameB op.to = true) := by
    simp only [opB, btwB, Bool.and_eq_true, Bool.or_eq_true, decide_eq_true_eq] at ho
    exact ⟨ho.1.2, fun h => ho.2.resolve_left (fun k => k h)⟩
  have hc := charge_valid (cr := cr) (fl := fl) (dn := dn) h6 h7
  unfold stepR
  split
  · obtain ⟨d1, d2, d3⟩ := do_valid (op := op) h1 h2 h5 hop.1 hop.2
    exact diskB_mk d2 d1 ⟨h3, h4⟩ d3 hc ⟨h8, h9⟩ ⟨h10, h11⟩
  · exact diskB_mk h2 h1 ⟨h3, h4⟩ h5 hc ⟨h8, h9⟩ ⟨h10, h11⟩
end Go.Proofs.YtgnppdghjlnlhaaGreatDoor
namespace Go.Proofs.YtgnppdghjlnlhaaGreatDoor
open Go.RowKit
theorem conv_one (w : World) (n : Int) : (convert 95 9 (.slice (some ⟨w.heap.size, 0, none⟩) 1 1)).run Tryz.prog (w.alloc (.cells #[.int .u8 n] 5)) = .ok (.string ⟨#[UInt8.ofNat n.toNat]⟩) (w.alloc (.cells #[.int .u8 n] 5)) := by
  rw [run_convert_bytes_string _ 95 9 5 _ 1 1 Tryz.underlying95 Tryz.underlying5 Tryz.underlying9, run_bytesToString _ _ 1 1 [n] (by simp [go_sem, loadCells])]
  rfl
theorem str_one (c : UInt8) (s : ByteArray) : ((⟨#[c]⟩ : ByteArray) ++ s).data.toList = c :: s.data.toList := by
  simp
theorem str_one_size (c : UInt8) (s : ByteArray) : ((⟨#[c]⟩ : ByteArray) ++ s).size = s.size + 1 := by
  rw [ByteArray.size_append]; show 1 + s.size = _; omega
theorem mk_toList (s : ByteArray) (l : List UInt8) (h : s.data.toList = l) : s = ⟨l.toArray⟩ := by
  subst h; simp
end Go.Proofs.YtgnppdghjlnlhaaGreatDoor
namespace Go.Proofs.YtgnppdghjlnlhaaGreatDoor
open Go.RowKit
theorem digits_pos {n : Nat} (h : 0 < n) (acc : List UInt8) : digits n n acc = digits (n / 10) (n / 10) ((48 + UInt8.ofNat (n % 10)) :: acc) := by
  obtain ⟨m, rfl⟩ : ∃ m, n = m + 1 := ⟨n - 1, by omega⟩
  conv => lhs; rw [digits]
  rw [if_neg (by omega)]
  exact digits_fuel _ _ _ _ (by omega) (Nat.le_refl _)
set_option maxRecDepth 100000 in
set_option maxHeartbeats 1000000 in
theorem markText_any (k : Nat) (w : World) (h0 : 0 < k) (h1 : k ≤ 1000000000) :
    Calls Tryz.prog 107 #[.int .i64 (k : Int)] w fun e w' => e = .returned (.string (mt k)) ∧ Below w.heap.size w w' := by
  have hk : ¬ ((k : Int) ≤ 0) := by omega
  have hcv := conv_one
  go_enter Tryz.func107, Tryz.ntmps107
  go_wp2
  go_loopw [0, 3] (fun a s wr => ∃ (n : Nat) (st : ByteArray), st.size + n ≤ k ∧ a = .int .i64 n ∧ s = .string st ∧ digits n n st.data.toList = digits k k [] ∧ Below w.heap.size w wr) (fun a _ _ => (intOf a).toNat)
  case atStart => exact ⟨k, ByteArray.empty, by simp, rfl, rfl, rfl, Below.refl _ _⟩
  case round =>
    obtain ⟨n, st, hn, rfl, rfl, hd, hbel⟩ := hrel
    have HD : Hid (digits n n st.data.toList = digits k k []) := hd
    clear hd
    have hsz : (st.size : Int) ≤ 1000000000 := by omega
    by_cases hp : 0 < n
    · go_wp2
      refine ⟨⟨n / 10, _, ?_, by go_num, rfl, ?_, hbel.alloc hbel.size _⟩, by simp [intOf]; omega⟩
      · rw [str_one_size]; omega
      · rw [str_one, ← digits_pos hp]; exact HD.out
    · go_wp2
      go_ret
      refine ⟨?_, hbel⟩
      have e0 : n = 0 := by omega
      have hd := HD.out
      rw [e0] at hd
      have e : st.data.toList = digits k k [] := by rw [← hd]; rfl
      have e2 : ((⟨#[109]⟩ : ByteArray) ++ st) = mt k := by
        unfold mt
        exact mk_toList _ _ (by rw [str_one, e])
      exact congrArg (fun x => Ending.returned (.string x)) e2
theorem markText_int (k : Int) (n : Nat) (hk : k = (n : Int)) (w : World) (h0 : 0 < n) (h1 : n ≤ 1000000000) :
    Calls Tryz.prog 107 #[.int .i64 k] w fun e w' => e = .returned (.string (mt n)) ∧ Below w.heap.size w w' := hk ▸ markText_any n w h0 h1
end Go.Proofs.YtgnppdghjlnlhaaGreatDoor
