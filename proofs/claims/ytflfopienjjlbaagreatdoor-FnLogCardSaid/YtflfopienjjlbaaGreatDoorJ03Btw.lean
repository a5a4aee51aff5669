import Derived.Test.YtflfopienjjlbaaGreatDoorJ01Drive
import Derived.Test.YtflfopienjjlbaaGreatDoorProg
namespace Go.Proofs.YtflfopienjjlbaaGreatDoor
open Go.RowKit

def IntsAt (w : World) (b o : Nat) (zs : List Int) : Prop := ∀ i (h : i < zs.length), w.cell? ⟨b, o + i, none⟩ = some (.int .i64 zs[i])
def IntsIn (w : World) (a : Option Addr) (zs : List Int) : Prop := zs = [] ∨ ∃ b o, a = some ⟨b, o, none⟩ ∧ b < w.heap.size ∧ IntsAt w b o zs

theorem IntsIn.later {w w' : World} {a : Option Addr} {zs : List Int} (h : IntsIn w a zs) (hb : Below w.heap.size w w') : IntsIn w' a zs := by
  rcases h with h | ⟨b, o, rfl, hlt, h⟩
  · exact Or.inl h
  · exact Or.inr ⟨b, o, rfl, Nat.lt_of_lt_of_le hlt hb.size, fun i hi => (hb.cell hlt).trans (h i hi)⟩

theorem IntsIn.at {w : World} {a : Option Addr} {zs : List Int} (h : IntsIn w a zs) {i : Nat} (hi : i < zs.length) :
    ∃ b o, a = some ⟨b, o, none⟩ ∧ b < w.heap.size ∧ w.cell? ⟨b, o + i, none⟩ = some (.int .i64 zs[i]) := by
  rcases h with rfl | ⟨b, o, rfl, hlt, h⟩
  · exact absurd hi (by simp)
  · exact ⟨b, o, rfl, hlt, h i hi⟩

theorem IntsIn.but {g b o : Nat} {w w' : World} {zs : List Int} (h : IntsIn w (some ⟨b, o, none⟩) zs) (hb : But g w w') (hg : b ≠ g) : IntsIn w' (some ⟨b, o, none⟩) zs := by
  rcases h with h | ⟨b', o', e, hlt, h⟩
  · exact Or.inl h
  · simp only [Option.some.injEq, Addr.mk.injEq, and_true] at e
    obtain ⟨rfl, rfl⟩ := e
    exact Or.inr ⟨b, o, rfl, Nat.lt_of_lt_of_le hlt hb.size, fun i hi => (World.cell?_of_block (hb.block b hlt hg)).trans (h i hi)⟩
end Go.Proofs.YtflfopienjjlbaaGreatDoor

namespace Go.Proofs.YtflfopienjjlbaaGreatDoor
open Go.RowKit

def btwB (x lo hi : Int) : Bool := decide (lo ≤ x) && decide (x ≤ hi)

theorem between_any (x lo hi : Int) (w : World) : Calls Tryz.prog 55 #[.int .i64 x, .int .i64 lo, .int .i64 hi] w fun e w' => e = .returned (.bool (btwB x lo hi)) ∧ w' = w := by
  by_cases h1 : lo ≤ x
  · by_cases h2 : x ≤ hi
    · have e : btwB x lo hi = true := by simp [btwB, h1, h2]
      rw [e]
      go_enter Tryz.func55, Tryz.ntmps55
      go_wp2
      go_ret
      exact ⟨rfl, rfl⟩
    · have e : btwB x lo hi = false := by simp [btwB, h2]
      rw [e]
      go_enter Tryz.func55, Tryz.ntmps55
      go_wp2
      go_ret
      exact ⟨rfl, rfl⟩
  · have e : btwB x lo hi = false := by simp [btwB, h1]
    rw [e]
    go_enter Tryz.func55, Tryz.ntmps55
    go_wp2
    go_ret
    exact ⟨rfl, rfl⟩

theorem take_snoc (s : ByteArray) (k : Nat) (h : k < s.size) : s.data.toList.take (k + 1) = s.data.toList.take k ++ [s[k]] := by
  rw [List.take_succ_eq_append_getElem (by simpa using h)]; rfl

end Go.Proofs.YtflfopienjjlbaaGreatDoor

