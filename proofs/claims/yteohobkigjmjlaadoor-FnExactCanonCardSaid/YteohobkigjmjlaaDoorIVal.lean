import Derived.Test.YteohobkigjmjlaaDoorProg
import Derived.Test.YteohobkigjmjlaaDoorRuneL
import Derived.Test.YteohobkigjmjlaaDoorBase
import Derived.Test.YteohobkigjmjlaaDoorShelf
import Derived.Shelf.Unicode.DecodeAny
import Derived.Laws.RangeAny
namespace Go.Proofs.YteohobkigjmjlaaDoor
open Go.RowKit

theorem isControl_any (r : Nat) (w : World) (hr : r ≤ 1114111) : Calls Tryd.prog 85 #[.int .i32 (r : Nat)] w fun e w' => e = .returned (.bool (ctl r)) ∧ w' = w := by
  by_cases h1 : r < 32
  · have E : Hid (ctl r = true) := by show _ = _; simp [ctl, h1]
    go_enter Tryd.func85, Tryd.ntmps85
    go_wp2
    go_ret
    exact ⟨ret_bool (by rw [E.out]), rfl⟩
  by_cases h2 : 127 ≤ r
  · by_cases h3 : r ≤ 159
    · have E : Hid (ctl r = true) := by show _ = _; simp [ctl, h2, h3]
      go_enter Tryd.func85, Tryd.ntmps85
      go_wp2
      go_ret
      exact ⟨ret_bool (by rw [E.out]; simp; omega), rfl⟩
    · have E : Hid (ctl r = false) := by show _ = _; simp [ctl, h1, h3]
      go_enter Tryd.func85, Tryd.ntmps85
      go_wp2
      go_ret
      exact ⟨ret_bool (by rw [E.out]; simp; omega), rfl⟩
  · have E : Hid (ctl r = false) := by show _ = _; simp [ctl, h1, h2]
    go_enter Tryd.func85, Tryd.ntmps85
    go_wp2
    go_ret
    exact ⟨ret_bool (by rw [E.out]; simp; omega), rfl⟩

abbrev UTab (w : World) : Prop := Lib.Utf8Tabs 0 1 w
theorem UTab.later {w w' : World} (h : UTab w) (hb : Below w.heap.size w w') : UTab w' := Utf8Tabs_below h hb

set_option maxRecDepth 100000 in
theorem widthAt_any (s : ByteArray) (p : Nat) (w : World) (hp : p < s.size) (hT : UTab w) :
    Calls Tryd.prog 84 #[.string s, .int .i64 (p : Nat)] w fun e w' => e = .returned (.int .i64 ((Utf8.decode s p).2 : Nat)) ∧ Below w.heap.size w w' := by
  have hz : (s.extract p s.size).size = s.size - p := by simp
  have e : Lib.decodeGo (s.extract p s.size) = Utf8.decode s p := by
    rw [Lib.decodeGo, if_neg (by omega), decode_at]
  have hc : ∀ W, UTab W → Calls Tryd.prog 95 #[.string (s.extract p s.size)] W fun e w' => e = .returned (.tuple #[.int .i32 (Utf8.decode s p).1, .int .i64 (Utf8.decode s p).2]) ∧ Below W.heap.size W w' := fun W hW => by
    have := Tryd.utf8_DecodeRuneInString (s.extract p s.size) W hW
    rw [e] at this
    exact this
  generalize (Utf8.decode s p).1 = R at *
  generalize (Utf8.decode s p).2 = N at *
  have HC : Hid (∀ W, UTab W → Calls Tryd.prog 95 #[.string (s.extract p s.size)] W fun e w' => e = .returned (.tuple #[.int .i32 R, .int .i64 N]) ∧ Below W.heap.size W w') := hc
  have HT : Hid (UTab w) := hT
  clear hc hT e hz
  go_enter Tryd.func84, Tryd.ntmps84
  go_wp2_with fail
  refine (HC.out _ HT.out).mono ?_
  rintro e w1 ⟨rfl, hb1⟩
  have HB : Hid (Below w.heap.size w w1) := hb1
  clear hb1
  go_wp2
  go_ret
  exact ⟨rfl, HB.out⟩

theorem lt_of_heap {w : World} {g : Nat} {x : Obj} (h : w.heap[g]? = some x) : g < w.heap.size := by
  rcases Nat.lt_or_ge g w.heap.size with hlt | hge
  · exact hlt
  · rw [Array.getElem?_eq_none hge] at h; exact absurd h (by simp)
/-- Block B is an iterator over s, at p. -/
def IterAt (W : World) (B : Nat) (s : ByteArray) (p : Nat) : Prop := W.heap[B]? = some (.stringIter s p)
def iterSet (W : World) (B : Nat) (s : ByteArray) (p : Nat) : World := { W with heap := W.heap.setIfInBounds B (.stringIter s p) }
theorem next_any {P : Program} (W : World) (B : Nat) (s : ByteArray) (pos : Nat) (ty : TypeId) (hB : IterAt W B s pos) (h : pos < s.size) :
    (Instr.next (.pointer (some ⟨B, 0, none⟩)) true ty).run P W = .ok (.tuple #[.bool true, .int .i64 pos, .int .i32 (Utf8.decode s pos).1]) (iterSet W B s (pos + (Utf8.decode s pos).2)) := by
  unfold IterAt at hB
  simp only [Instr.next, getObj, setObj, Sem.run_bind, Sem.run, hB, Result.andThen, h, if_true]
  simp [goInt, iterSet]
theorem next_end {P : Program} (W : World) (B : Nat) (s : ByteArray) (pos : Nat) (ty : TypeId) (hB : IterAt W B s pos) (h : ¬ pos < s.size) :
    (Instr.next (.pointer (some ⟨B, 0, none⟩)) true ty).run P W = .ok (.tuple #[.bool false]) W := by
  unfold IterAt at hB
  simp [Instr.next, getObj, Sem.run, hB, h]
theorem IterAt.set {W : World} {B : Nat} {s : ByteArray} {p : Nat} (h : IterAt W B s p) (q : Nat) : IterAt (iterSet W B s q) B s q := by
  have := lt_of_heap h
  unfold IterAt iterSet
  simp [this]
theorem IterAt.later {W W' : World} {B : Nat} {s : ByteArray} {p : Nat} (h : IterAt W B s p) (hb : Below W.heap.size W W') : IterAt W' B s p := (hb.block B (lt_of_heap h)).trans h
theorem iterSet_below {w W : World} {B C : Nat} (h : Below C w W) (hB : C ≤ B) (s : ByteArray) (q : Nat) : Below C w (iterSet W B s q) :=
  h.trans ⟨rfl, rfl, rfl, by simp [iterSet], fun k hk => by simp only [iterSet]; rw [Array.getElem?_setIfInBounds_ne (by omega)]⟩
theorem iterSet_size (W : World) (B : Nat) (s : ByteArray) (q : Nat) : (iterSet W B s q).heap.size = W.heap.size := by simp [iterSet]

end Go.Proofs.YteohobkigjmjlaaDoor
