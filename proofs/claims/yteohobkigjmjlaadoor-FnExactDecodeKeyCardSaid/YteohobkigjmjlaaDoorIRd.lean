import Derived.Test.YteohobkigjmjlaaDoorProg
import Derived.Test.YteohobkigjmjlaaDoorDecL
import Derived.Test.YteohobkigjmjlaaDoorIRdB
import Derived.Test.YteohobkigjmjlaaDoorINum
import Derived.Test.YteohobkigjmjlaaDoorLabF
namespace Go.Proofs.YteohobkigjmjlaaDoor
open Go.RowKit

set_option maxRecDepth 100000 in
theorem whole_any (B : Nat) (r : Rd) (w : World) (hB : RB w B r) :
    Calls Tryd.prog 42 #[.pointer (some ⟨B, 0, none⟩)] w fun e w' => e = .returned (.bool (wholeB r)) ∧ w' = w := by
  have x0 := Blk.cell hB 0
  have x1 := Blk.cell hB 1
  simp only [List.getElem?_toArray, List.getElem?_cons_zero, List.getElem?_cons_succ] at x0 x1
  have HE : Hid (ByteArray.empty.toList = []) := by show _ = _; rw [ByteArray.toList_eq]; rfl
  obtain ⟨rest, short⟩ := r
  simp only at x0 x1
  clear hB
  cases short with
  | true =>
    have E : Hid (wholeB ⟨rest, true⟩ = false) := rfl
    go_enter Tryd.func42, Tryd.ntmps42
    go_wp2
    go_ret
    exact ⟨ret_bool E.out.symm, rfl⟩
  | false =>
    have E : Hid (wholeB ⟨rest, false⟩ = rest.toList.isEmpty) := by
      show _ = _
      unfold wholeB
      rw [HE.out]
      cases rest.toList <;> rfl
    go_enter Tryd.func42, Tryd.ntmps42
    go_wp2
    go_ret
    exact ⟨ret_bool E.out.symm, rfl⟩

end Go.Proofs.YteohobkigjmjlaaDoor
