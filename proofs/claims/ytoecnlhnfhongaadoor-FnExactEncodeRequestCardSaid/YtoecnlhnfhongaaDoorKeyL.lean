/- The verifier's own text: the key of labels in canonical form. -/
import Derived.Test.YtoecnlhnfhongaaDoorCanonL
import Derived.Test.YtoecnlhnfhongaaDoorNumL
import Derived.Test.YtoecnlhnfhongaaDoorS8L
namespace Go.Proofs.YtoecnlhnfhongaaDoor
open Go.RowKit

def eqLabB (x y : LabD) : Bool := x.name.toList == y.name.toList && x.value.toList == y.value.toList
def sameLs : List LabD → List LabD → Bool
  | [], [] => true
  | x :: r, y :: q => eqLabB x y && sameLs r q
  | _, _ => false
theorem eqLabB_iff (x y : LabD) : eqLabB x y = true ↔ x = y := by
  unfold eqLabB
  rw [Bool.and_eq_true, beq_iff_eq, beq_iff_eq]
  constructor
  · rintro ⟨h1, h2⟩
    cases x; cases y
    simp only [LabD.mk.injEq]
    exact ⟨toList_inj h1, toList_inj h2⟩
  · rintro rfl; exact ⟨rfl, rfl⟩
theorem sameLs_iff : ∀ (a b : List LabD), sameLs a b = true ↔ a = b
  | [], [] => by simp [sameLs]
  | [], _ :: _ => by simp [sameLs]
  | _ :: _, [] => by simp [sameLs]
  | x :: r, y :: q => by
    rw [sameLs, Bool.and_eq_true, eqLabB_iff, sameLs_iff r q]
    simp
theorem sameLs_len {a b : List LabD} (h : a.length ≠ b.length) : sameLs a b = false := by
  rw [Bool.eq_false_iff]
  intro h'
  exact h (by rw [(sameLs_iff a b).1 h'])
theorem sameLs_drop (a b : List LabD) (k : Nat) (ha : k < a.length) (hb : k < b.length) : sameLs (a.drop k) (b.drop k) = (eqLabB a[k] b[k] && sameLs (a.drop (k + 1)) (b.drop (k + 1))) := by
  rw [List.drop_eq_getElem_cons ha, List.drop_eq_getElem_cons hb, sameLs]

def canB (ls : List LabD) : Bool := decide ((canonR ls).2.1 = 0) && sameLs (canonR ls).1 ls
def tailB : List LabD → ByteArray
  | [] => ByteArray.empty
  | l :: r => s8B l.name ++ s16B l.value ++ tailB r
def keyB (ls : List LabD) : ByteArray := numS 1 (ls.length : Nat) ++ tailB ls
def keyV (ls : List LabD) : ByteArray := if canB ls = true then keyB ls else ByteArray.empty

theorem tailB_append : ∀ (a b : List LabD), tailB (a ++ b) = tailB a ++ tailB b
  | [], b => by simp [tailB]
  | l :: r, b => by
    show s8B l.name ++ s16B l.value ++ tailB (r ++ b) = s8B l.name ++ s16B l.value ++ tailB r ++ tailB b
    rw [tailB_append r b, ByteArray.append_assoc (b := tailB r)]
theorem tailB_take (ls : List LabD) (k : Nat) (h : k < ls.length) : tailB (ls.take (k + 1)) = tailB (ls.take k) ++ (s8B ls[k].name ++ s16B ls[k].value) := by
  rw [List.take_succ_eq_append_getElem h, tailB_append]
  simp [tailB]
theorem canon_len0 (ls : List LabD) : (canonR ls).1.length ≤ 16 := by
  unfold canonR
  split
  · simp
  · rename_i h16
    split
    · simp
    · split
      · simp
      · split
        · simp only
          rw [insAll_len]
          have := keptL_len ls
          omega
        · simp
theorem canon_some16 {ls : List LabD} (h : (canonR ls).2.1 = 0) : ls.length ≤ 16 := by
  unfold canonR at h
  split at h
  · exact absurd h (by simp)
  · omega
theorem can_le {ls : List LabD} (h : canB ls = true) : ls.length ≤ 16 := by
  unfold canB at h
  rw [Bool.and_eq_true, decide_eq_true_eq] at h
  exact canon_some16 h.1
theorem can_form {ls : List LabD} (h : canB ls = true) : canonR ls = (ls, 0, (canonR ls).2.2) := by
  unfold canB at h
  rw [Bool.and_eq_true, decide_eq_true_eq] at h
  have h2 := (sameLs_iff _ _).1 h.2
  have h1 := h.1
  generalize canonR ls = c at *
  obtain ⟨x, y, z⟩ := c
  simp only at h1 h2
  rw [h1, h2]
end Go.Proofs.YtoecnlhnfhongaaDoor
