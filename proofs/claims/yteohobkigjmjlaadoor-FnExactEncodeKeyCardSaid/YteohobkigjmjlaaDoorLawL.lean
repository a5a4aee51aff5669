import Derived.Test.YteohobkigjmjlaaDoorProg
import Derived.Test.YteohobkigjmjlaaDoorLabE
import Derived.Test.YteohobkigjmjlaaDoorCanonL
import Derived.Test.YteohobkigjmjlaaDoorIFaultOf
namespace Go.Proofs.YteohobkigjmjlaaDoor
open Go.RowKit

theorem labBulk_get (ls : List LabD) (i : Nat) (h : i < ls.length) : ls[i].name.size + ls[i].value.size ≤ labBulk ls := by
  have h1 := labBulk_take_succ ls i h
  have h2 := labBulk_take_le ls (i + 1)
  omega
theorem big_of {ls : List LabD} (h : labBulk ls ≤ 1048576) : BigL ls := fun i hi => by
  have := labBulk_get ls i hi
  exact ⟨by omega, by omega⟩
theorem LabsIn.lt {w : World} {a : Option Addr} {ls : List LabD} (h : LabsIn w a ls) : ls = [] ∨ ∃ b o, a = some ⟨b, o, none⟩ ∧ b < w.heap.size := by
  rcases h with h | ⟨b, o, e, hlt, _⟩
  · exact Or.inl h
  · exact Or.inr ⟨b, o, e, hlt⟩
theorem canon_len (ls : List LabD) : (canonR ls).1.length ≤ 16 := by
  unfold canonR
  split
  · simp
  · rename_i h16
    split
    · simp
    · split
      · simp
      · split
        · simp only
          rw [insAll_len]
          have := keptL_len ls
          omega
        · simp

theorem eqLabelS_same' (a a' : Option Addr) (cap cap' : Nat) (fs : List LabD) (n : Nat) (hn : n = fs.length) (w : World) (hf : LabsIn w a fs) (hf' : LabsIn w a' fs) (hlen : n ≤ maxLen) :
    Calls Tryd.prog 12 #[.slice a n cap, .slice a' n cap'] w fun e w' => e = .returned (.bool true) ∧ Below w.heap.size w w' := by
  subst hn
  exact eqLabelS_same a a' cap cap' fs w hf hf' hlen
end Go.Proofs.YteohobkigjmjlaaDoor
