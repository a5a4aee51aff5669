import Derived.Test.YtgpgacncmoiefaaProg
import Derived.Test.YtgpgacncmoiefaaOwn
import Derived.Test.YtgpgacncmoiefaaStrN
namespace Go.Proofs.Ytgpgacncmoiefaa
open Go.RowKit

theorem StrsIn.but {g : Nat} {w w' : World} {a : Option Addr} {l : List ByteArray} (h : StrsIn w a l) (hb : But g w w') (hg : l = [] ∨ ∃ b o, a = some ⟨b, o, none⟩ ∧ b ≠ g) : StrsIn w' a l := by
  rcases hg with hg | ⟨b, o, rfl, hne⟩
  · exact Or.inl hg
  · rcases h with h | ⟨b', o', e, hlt, h⟩
    · exact Or.inl h
    · simp only [Option.some.injEq, Addr.mk.injEq, and_true] at e
      obtain ⟨rfl, rfl⟩ := e
      have hk : ∀ j, w'.cell? ⟨b, j, none⟩ = w.cell? ⟨b, j, none⟩ := fun j => World.cell?_of_block (hb.block b hlt hne)
      exact Or.inr ⟨b, o, rfl, Nat.lt_of_lt_of_le hlt hb.size, fun i hi => by rw [hk]; exact h i hi⟩

end Go.Proofs.Ytgpgacncmoiefaa
