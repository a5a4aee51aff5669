import Derived.Test.YtgpgacncmoiefaaCrcL
import Derived.Test.YtgpgacncmoiefaaNumL
namespace Go.Proofs.Ytgpgacncmoiefaa
open Go.RowKit

theorem bytes_ext {a b : ByteArray} (h : a.data.toList = b.data.toList) : a = b := by
  obtain ⟨⟨l⟩⟩ := a
  obtain ⟨⟨m⟩⟩ := b
  simp only at h
  rw [h]
theorem bytes_append (a b : ByteArray) : (a ++ b).data.toList = a.data.toList ++ b.data.toList := by simp
theorem bytes_part (d : ByteArray) (p n : Nat) : (d.extract p (p + n)).data.toList = sectL d p n := by
  simp [sectL, ByteArray.data_extract, Array.toList_extract]
theorem bytes_size (d : ByteArray) : d.data.toList.length = d.size := by simp

def frameS (p : ByteArray) : ByteArray := if 1 ≤ p.size ∧ p.size ≤ 60000 then numS 4 p.size ++ numS 4 (crcV p : Nat) ++ p else ByteArray.empty
/-- The length that the head of d tells. -/
def headN (d : ByteArray) : Nat := beL (sectL d 0 4)
def firstS (d : ByteArray) : ByteArray :=
  if d.size < 8 then ByteArray.empty
  else if d.size - 8 < headN d then ByteArray.empty
  else if frameS (d.extract 8 (8 + headN d)) = ByteArray.empty ∨ frameS (d.extract 8 (8 + headN d)) ≠ d.extract 0 (8 + headN d) then ByteArray.empty
  else d.extract 8 (8 + headN d)
/-- A frame begins d. -/
def FrameAt (d : ByteArray) : Prop := 8 ≤ d.size ∧ 1 ≤ headN d ∧ headN d ≤ 60000 ∧ headN d ≤ d.size - 8 ∧ beL (sectL d 4 4) = crcV (d.extract 8 (8 + headN d))
def frD (d : ByteArray) : Decidable (FrameAt d) := by unfold FrameAt; infer_instance
def frB (d : ByteArray) : Bool := @decide (FrameAt d) (frD d)
theorem frB_t {d : ByteArray} (h : FrameAt d) : frB d = true := @decide_eq_true _ (frD d) h
theorem frB_f {d : ByteArray} (h : ¬ FrameAt d) : frB d = false := @decide_eq_false _ (frD d) h

theorem part_size {d : ByteArray} {p n : Nat} (h : p + n ≤ d.size) : (d.extract p (p + n)).size = n := by rw [ByteArray.size_extract]; omega

theorem frameS_size {p : ByteArray} (h : 1 ≤ p.size ∧ p.size ≤ 60000) : (frameS p).size = 8 + p.size := by
  rw [frameS, if_pos h, ByteArray.size_append, ByteArray.size_append, numS_size, numS_size]

theorem frame_is {d : ByteArray} (h8 : 8 ≤ d.size) (h1 : 1 ≤ headN d) (h2 : headN d ≤ 60000) (h3 : headN d ≤ d.size - 8) :
    frameS (d.extract 8 (8 + headN d)) = d.extract 0 (8 + headN d) ↔ beL (sectL d 4 4) = crcV (d.extract 8 (8 + headN d)) := by
  have hz : (d.extract 8 (8 + headN d)).size = headN d := part_size (by omega)
  have hw : (d.extract 0 (8 + headN d)).data.toList = sectL d 0 4 ++ sectL d 4 4 ++ (d.extract 8 (8 + headN d)).data.toList := by
    have e0 := bytes_part d 0 (8 + headN d)
    rw [Nat.zero_add] at e0
    rw [e0, bytes_part]
    simp only [sectL, List.drop_zero]
    have hl := bytes_size d
    rw [show 8 + headN d = 4 + (4 + headN d) by omega, List.take_add, List.take_add, List.drop_drop]
    simp
  have hn : numS 4 (headN d : Nat) = ⟨(sectL d 0 4).toArray⟩ := numS_be _ 4 (sectL_length (by omega))
  rw [frameS, if_pos (by rw [hz]; exact ⟨h1, h2⟩), hz, hn]
  constructor
  · intro h
    have h' := congrArg (fun x : ByteArray => x.data.toList) h
    simp only [bytes_append] at h'
    rw [hw, List.append_left_inj, List.append_right_inj] at h'
    rw [← h', be_numS 4 _ (by have := crcV_lt (d.extract 8 (8 + headN d)); omega)]
  · intro h
    apply bytes_ext
    rw [bytes_append, bytes_append, hw, ← h, numS_be _ 4 (sectL_length (by omega))]

theorem firstS_eq (d : ByteArray) : firstS d = haveI := frD d; if FrameAt d then d.extract 8 (8 + headN d) else ByteArray.empty := by
  unfold firstS
  by_cases h8 : d.size < 8
  · rw [if_pos h8, if_neg (fun h => by have := h.1; omega)]
  · rw [if_neg h8]
    by_cases h3 : d.size - 8 < headN d
    · rw [if_pos h3, if_neg (fun h => by have := h.2.2.2.1; omega)]
    · rw [if_neg h3]
      have hz : (d.extract 8 (8 + headN d)).size = headN d := part_size (by omega)
      by_cases h1 : 1 ≤ headN d ∧ headN d ≤ 60000
      · have hne : frameS (d.extract 8 (8 + headN d)) ≠ ByteArray.empty := by
          intro e
          have := frameS_size (p := d.extract 8 (8 + headN d)) (by rw [hz]; exact h1)
          rw [e, ByteArray.size_empty] at this
          omega
        by_cases hc : beL (sectL d 4 4) = crcV (d.extract 8 (8 + headN d))
        · have hf := (frame_is (by omega) h1.1 h1.2 (by omega)).2 hc
          rw [if_neg (by intro h; rcases h with h | h; exact hne h; exact h hf), if_pos ⟨by omega, h1.1, h1.2, by omega, hc⟩]
        · have hf : ¬ frameS (d.extract 8 (8 + headN d)) = d.extract 0 (8 + headN d) := fun h => hc ((frame_is (by omega) h1.1 h1.2 (by omega)).1 h)
          rw [if_pos (Or.inr hf), if_neg (fun h => hc h.2.2.2.2)]
      · have he : frameS (d.extract 8 (8 + headN d)) = ByteArray.empty := by rw [frameS, if_neg (by rw [hz]; exact h1)]
        rw [if_pos (Or.inl he), if_neg (fun h => h1 ⟨h.2.1, h.2.2.1⟩)]

/-- The payloads from place p on, and where they end. -/
def scanR (d : ByteArray) : Nat → Nat → List ByteArray × Nat
  | 0, p => ([], p)
  | n + 1, p => haveI := frD (d.extract p d.size); if FrameAt (d.extract p d.size) then
      let q := (d.extract p d.size).extract 8 (8 + headN (d.extract p d.size))
      (q :: (scanR d n (p + 8 + q.size)).1, (scanR d n (p + 8 + q.size)).2) else ([], p)
def scanV (d : ByteArray) : List ByteArray × Nat := scanR d (d.size + 1) 0
end Go.Proofs.Ytgpgacncmoiefaa
