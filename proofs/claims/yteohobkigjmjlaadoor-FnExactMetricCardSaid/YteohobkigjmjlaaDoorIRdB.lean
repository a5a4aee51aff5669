import Derived.Test.YteohobkigjmjlaaDoorProg
import Derived.Test.YteohobkigjmjlaaDoorRdL
import Derived.Test.YteohobkigjmjlaaDoorINum
import Derived.Test.YteohobkigjmjlaaDoorOwn
namespace Go.Proofs.YteohobkigjmjlaaDoor
open Go.RowKit

/-- The reader r lies in block B. -/
def RB (w : World) (B : Nat) (r : Rd) : Prop := Blk w B #[.string r.rest, .bool r.short] 59

set_option maxRecDepth 100000 in
set_option maxHeartbeats 1000000 in
theorem take_any (B : Nat) (r : Rd) (n : Nat) (w : World) (hB : RB w B r) (hn : n ≤ 70000) (hs : r.rest.size ≤ 1000000000) :
    Calls Tryd.prog 83 #[.pointer (some ⟨B, 0, none⟩), .int .i64 (n : Nat)] w fun e w' => e = .returned (.string (takeR n r).1) ∧ RB w' B (takeR n r).2 ∧ But B w w' := by
  have HB : Hid (RB w B r) := hB
  have x0 := Blk.cell hB 0
  have x1 := Blk.cell hB 1
  simp only [List.getElem?_toArray, List.getElem?_cons_zero, List.getElem?_cons_succ] at x0 x1
  have f0 := Blk.free hB 0
  have f1 := Blk.free hB 1
  obtain ⟨rest, short⟩ := r
  simp only at x0 x1 hs
  clear hB
  by_cases h : rest.size < n
  · have E : Hid (takeR n ⟨rest, short⟩ = (ByteArray.empty, ⟨rest, true⟩)) := by show _ = _; unfold takeR; rw [if_pos h]
    rw [E.out]
    go_enter Tryd.func83, Tryd.ntmps83
    go_wp2
    go_ret
    exact ⟨rfl, Blk.set HB.out 1 (.bool true), (But.refl _ _).setCell _ _⟩
  · have E : Hid (takeR n ⟨rest, short⟩ = (rest.extract 0 n, ⟨rest.extract n rest.size, short⟩)) := by show _ = _; unfold takeR; rw [if_neg h]
    have h' : ¬ ((rest.size : Int) < (n : Int)) := by omega
    rw [E.out]
    go_enter Tryd.func83, Tryd.ntmps83
    go_wp2
    go_ret
    exact ⟨rfl, Blk.set HB.out 0 (.string (rest.extract n rest.size)), (But.refl _ _).setCell _ _⟩

set_option maxRecDepth 100000 in
theorem number_any (B : Nat) (r : Rd) (k : Nat) (w : World) (hB : RB w B r) (hk : k ≤ 2) (hs : r.rest.size ≤ 1000000000) :
    Calls Tryd.prog 60 #[.pointer (some ⟨B, 0, none⟩), .int .i64 (k : Nat)] w fun e w' => e = .returned (.int .i64 ((numR k r).1 : Nat)) ∧ RB w' B (numR k r).2 ∧ But B w w' := by
  have HC : Hid (Calls Tryd.prog 83 #[.pointer (some ⟨B, 0, none⟩), .int .i64 (k : Nat)] w fun e w' => e = .returned (.string (takeR k r).1) ∧ RB w' B (takeR k r).2 ∧ But B w w') := take_any B r k w hB (by omega) hs
  have HN : Hid (∀ W, Calls Tryd.prog 82 #[.string (takeR k r).1] W fun e w' => e = .returned (.int .i64 (beL (takeR k r).1.data.toList : Nat)) ∧ w' = W) := fun W => implNum_any _ W (by have := (take_le k r).1; omega)
  show Calls _ _ _ _ fun e w' => e = .returned (.int .i64 (beL (takeR k r).1.data.toList : Nat)) ∧ RB w' B (takeR k r).2 ∧ But B w w'
  clear hB
  generalize beL (takeR k r).1.data.toList = N at *
  generalize (takeR k r).1 = T at *
  generalize (takeR k r).2 = r' at *
  go_enter Tryd.func60, Tryd.ntmps60
  go_wp2_with fail
  refine HC.out.mono ?_
  rintro e w1 ⟨rfl, hr1, hb1⟩
  have H1 : Hid (RB w1 B r' ∧ But B w w1) := ⟨hr1, hb1⟩
  clear hr1 hb1 HC
  go_wp2_with fail
  refine (HN.out _).mono ?_
  rintro e w2 ⟨rfl, hw⟩
  replace hw := hw.symm
  subst hw
  go_wp2
  go_ret
  exact ⟨rfl, H1.out⟩

set_option maxRecDepth 100000 in
theorem text_any (B : Nat) (r : Rd) (k : Nat) (w : World) (hB : RB w B r) (hk : k ≤ 2) (hs : r.rest.size ≤ 1000000000) :
    Calls Tryd.prog 61 #[.pointer (some ⟨B, 0, none⟩), .int .i64 (k : Nat)] w fun e w' => e = .returned (.string (textR k r).1) ∧ RB w' B (textR k r).2 ∧ But B w w' := by
  have HC : Hid (Calls Tryd.prog 60 #[.pointer (some ⟨B, 0, none⟩), .int .i64 (k : Nat)] w fun e w' => e = .returned (.int .i64 ((numR k r).1 : Nat)) ∧ RB w' B (numR k r).2 ∧ But B w w') := number_any B r k w hB hk hs
  have hlt : (numR k r).1 < 65536 := by
    have h1 := num_lt k r
    have h2 : 256 ^ k ≤ 256 ^ 2 := Nat.pow_le_pow_right (by omega) hk
    omega
  have hsz : (numR k r).2.rest.size ≤ 1000000000 := by
    have := (take_le k r).2.2
    show (takeR k r).2.rest.size ≤ _
    omega
  have HT : Hid (∀ W, RB W B (numR k r).2 → Calls Tryd.prog 83 #[.pointer (some ⟨B, 0, none⟩), .int .i64 ((numR k r).1 : Nat)] W fun e w' => e = .returned (.string (textR k r).1) ∧ RB w' B (textR k r).2 ∧ But B W w') := fun W h => take_any B _ _ W h (by omega) hsz
  clear hB
  generalize (textR k r).1 = T at *
  generalize (textR k r).2 = r' at *
  generalize (numR k r).1 = N at *
  generalize (numR k r).2 = r1 at *
  go_enter Tryd.func61, Tryd.ntmps61
  go_wp2_with fail
  refine HC.out.mono ?_
  rintro e w1 ⟨rfl, hr1, hb1⟩
  have H1 : Hid (RB w1 B r1 ∧ But B w w1) := ⟨hr1, hb1⟩
  clear hr1 hb1 HC
  go_wp2_with fail
  refine (HT.out _ H1.out.1).mono ?_
  rintro e w2 ⟨rfl, hr2, hb2⟩
  have H2 : Hid (RB w2 B r' ∧ But B w w2) := ⟨hr2, H1.out.2.trans hb2⟩
  clear hr2 hb2
  go_wp2
  go_ret
  exact ⟨rfl, H2.out⟩

theorem row_but0 {w w' : World} {B base : Nat} {e : TypeId} {size : Nat} {v : Value} {n : Nat} {xs : List Value} (h : w.ownsRow base e size v n xs) (hb : But B w w') (hB : B < base) : w'.ownsRow base e size v n xs := by
  obtain ⟨h1, h2⟩ := h
  refine ⟨h1, ?_⟩
  rcases h2 with h2 | ⟨g, cap, cur, hv, hg, hh, r⟩
  · exact Or.inl h2
  · exact Or.inr ⟨g, cap, cur, hv, hg, (hb.block g (lt_of_block hh) (by omega)).trans hh, r⟩
theorem But.alloc {B : Nat} {w w' : World} (h : But B w w') (o : Obj) : But B w (w'.alloc o) := h.trans (But.of (bnew _ _))
end Go.Proofs.YteohobkigjmjlaaDoor
