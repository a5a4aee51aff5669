import Derived.Test.YtgpgacncmoiefaaProg
import Derived.Test.YtgpgacncmoiefaaWrN
import Derived.Test.YtgpgacncmoiefaaINum
import Derived.Test.YtgpgacncmoiefaaBlkN
import Derived.Test.YtgpgacncmoiefaaTurn
namespace Go.Proofs.Ytgpgacncmoiefaa
open Go.RowKit

theorem or_high (a b : Nat) (hb : b < 256) (ha : a < 72057594037927936) : bits .or .i64 (IntKind.i64.wrap ((a : Int) * 256)) (b : Int) = wrapN (a * 256 + b) := by
  have hx : a * 256 ||| b = a * 256 + b := by
    have := Nat.two_pow_add_eq_or_of_lt (i := 8) (b := b) (by omega) a
    rw [show 2 ^ 8 * a = a * 256 by omega] at this
    exact this.symm
  have hof : BitVec.ofInt 64 (IntKind.i64.wrap ((a : Int) * 256)) = BitVec.ofNat 64 (a * 256) := by
    have e : ((a : Int) * 256) = ((a * 256 : Nat) : Int) := by omega
    rw [e]
    apply BitVec.eq_of_toNat_eq
    rw [BitVec.toNat_ofInt, BitVec.toNat_ofNat]
    unfold IntKind.wrap
    simp only [IntKind.bits, IntKind.signed]
    simp
    omega
  show IntKind.i64.wrap ((BitVec.ofInt 64 (IntKind.i64.wrap ((a : Int) * 256)) ||| BitVec.ofInt 64 (b : Int)).toNat : Int) = _
  rw [hof, BitVec.toNat_or, BitVec.ofInt_natCast, BitVec.toNat_ofNat, BitVec.toNat_ofNat, Nat.mod_eq_of_lt (by omega), Nat.mod_eq_of_lt (by omega), hx]
  rfl

set_option maxRecDepth 100000 in
set_option maxHeartbeats 1000000 in
theorem implNumW_any (s : ByteArray) (w : World) (hs : s.size ≤ 8) :
    Calls Try.prog 80 #[.string s] w fun e w' => e = .returned (.int .i64 (wrapN (beL s.data.toList))) ∧ w' = w := by
  go_enter Try.func80, Try.ntmps80
  go_wp2
  go_loopw [3, 4, 7] (fun x _ c wr => ∃ (k X : Nat) (Z : Int), k ≤ s.size ∧ c = .int .i64 k ∧ x = .int .i64 Z ∧ X < 256 ^ k ∧ Hid (X = beL (s.data.toList.take k)) ∧ Hid (Z = wrapN X) ∧ wr = w) (fun _ _ c _ => s.size - (intOf c).toNat)
  case atStart => exact ⟨0, 0, 0, by omega, rfl, rfl, by simp, by show _ = _; simp [beL], by show _ = _; rw [wrapN_small (by omega)]; rfl, rfl⟩
  case round =>
    obtain ⟨k, X, Z, hk, rfl, rfl, hX, hx, hZ, rfl⟩ := hrel
    by_cases hlt : k < s.size
    · have hc := (s[k]).toNat_lt
      have hX7 : X < 72057594037927936 := Nat.lt_of_lt_of_le hX (Nat.pow_le_pow_right (n := 256) (by omega) (show k ≤ 7 by omega))
      have hZ2 : Z = (X : Int) := by rw [hZ.out, wrapN_small (by omega)]
      subst hZ2
      have ho := or_high X (s[k]).toNat (by omega) (by omega)
      go_wp2
      refine ⟨⟨k + 1, X * 256 + (s[k]).toNat, wrapN (X * 256 + (s[k]).toNat), by omega, by go_num, ?_, ?_, ?_, rfl, trivial⟩, by simp [intOf]; omega⟩
      · exact congrArg (Value.int .i64) (by rw [← ho, IntKind.wrap_i64, wrap64])
      · rw [Nat.pow_succ]; omega
      · show _ = _
        rw [take_snoc s k hlt, beL_snoc, ← hx.out]
    · have e : k = s.size := by omega
      subst e
      go_wp2
      go_ret
      refine ⟨?_, rfl⟩
      show Ending.returned (.int .i64 Z) = _
      rw [hZ.out, hx.out, List.take_of_length_le (by simp)]

/-- The reader r lies in block B, whatever the block's type. -/
def RT (w : World) (B : Nat) (r : Rd) : Prop := ∃ t, Blk w B #[.string r.rest, .bool r.short] t

set_option maxRecDepth 100000 in
set_option maxHeartbeats 1000000 in
theorem takeT_any (B : Nat) (r : Rd) (n : Nat) (w : World) (hB : RT w B r) (hn : n ≤ 70000) (hs : r.rest.size ≤ 1000000000) :
    Calls Try.prog 94 #[.pointer (some ⟨B, 0, none⟩), .int .i64 (n : Nat)] w fun e w' => e = .returned (.string (takeR n r).1) ∧ RT w' B (takeR n r).2 ∧ But B w w' := by
  obtain ⟨tt, hB⟩ := hB
  have HB : Hid (Blk w B #[.string r.rest, .bool r.short] tt) := hB
  have x0 := Blk.cell hB 0
  have x1 := Blk.cell hB 1
  simp only [List.getElem?_toArray, List.getElem?_cons_zero, List.getElem?_cons_succ] at x0 x1
  have f0 := Blk.free hB 0
  have f1 := Blk.free hB 1
  obtain ⟨rest, short⟩ := r
  simp only at x0 x1 hs
  clear hB
  by_cases h : rest.size < n
  · have E : Hid (takeR n ⟨rest, short⟩ = (ByteArray.empty, ⟨rest, true⟩)) := by show _ = _; unfold takeR; rw [if_pos h]
    rw [E.out]
    go_enter Try.func94, Try.ntmps94
    go_wp2
    go_ret
    exact ⟨rfl, ⟨tt, Blk.set HB.out 1 (.bool true)⟩, (But.refl _ _).setCell _ _⟩
  · have E : Hid (takeR n ⟨rest, short⟩ = (rest.extract 0 n, ⟨rest.extract n rest.size, short⟩)) := by show _ = _; unfold takeR; rw [if_neg h]
    have h' : ¬ ((rest.size : Int) < (n : Int)) := by omega
    rw [E.out]
    go_enter Try.func94, Try.ntmps94
    go_wp2
    go_ret
    exact ⟨rfl, ⟨tt, Blk.set HB.out 0 (.string (rest.extract n rest.size))⟩, (But.refl _ _).setCell _ _⟩

set_option maxRecDepth 100000 in
theorem numberT_any (B : Nat) (r : Rd) (k : Nat) (w : World) (hB : RT w B r) (hk : k ≤ 8) (hs : r.rest.size ≤ 1000000000) :
    Calls Try.prog 84 #[.pointer (some ⟨B, 0, none⟩), .int .i64 (k : Nat)] w fun e w' => e = .returned (.int .i64 (wrapN (numR k r).1)) ∧ RT w' B (numR k r).2 ∧ But B w w' := by
  have HC : Hid (Calls Try.prog 94 #[.pointer (some ⟨B, 0, none⟩), .int .i64 (k : Nat)] w fun e w' => e = .returned (.string (takeR k r).1) ∧ RT w' B (takeR k r).2 ∧ But B w w') := takeT_any B r k w hB (by omega) hs
  have HN : Hid (∀ W, Calls Try.prog 80 #[.string (takeR k r).1] W fun e w' => e = .returned (.int .i64 (wrapN (beL (takeR k r).1.data.toList))) ∧ w' = W) := fun W => implNumW_any _ W (by have := (take_le k r).1; omega)
  show Calls _ _ _ _ fun e w' => e = .returned (.int .i64 (wrapN (beL (takeR k r).1.data.toList))) ∧ RT w' B (takeR k r).2 ∧ But B w w'
  clear hB
  generalize beL (takeR k r).1.data.toList = N at *
  generalize (takeR k r).1 = T at *
  generalize (takeR k r).2 = r' at *
  go_enter Try.func84, Try.ntmps84
  go_wp2_with fail
  refine HC.out.mono ?_
  rintro e w1 ⟨rfl, hr1, hb1⟩
  have H1 : Hid (RT w1 B r' ∧ But B w w1) := ⟨hr1, hb1⟩
  clear hr1 hb1 HC
  go_wp2_with fail
  refine (HN.out _).mono ?_
  rintro e w2 ⟨rfl, hw⟩
  replace hw := hw.symm
  subst hw
  go_wp2
  go_ret
  exact ⟨rfl, H1.out⟩

set_option maxRecDepth 100000 in
theorem textT_any (B : Nat) (r : Rd) (k : Nat) (w : World) (hB : RT w B r) (hk : k ≤ 2) (hs : r.rest.size ≤ 1000000000) :
    Calls Try.prog 85 #[.pointer (some ⟨B, 0, none⟩), .int .i64 (k : Nat)] w fun e w' => e = .returned (.string (textR k r).1) ∧ RT w' B (textR k r).2 ∧ But B w w' := by
  have HC : Hid (Calls Try.prog 84 #[.pointer (some ⟨B, 0, none⟩), .int .i64 (k : Nat)] w fun e w' => e = .returned (.int .i64 (wrapN (numR k r).1)) ∧ RT w' B (numR k r).2 ∧ But B w w') := numberT_any B r k w hB (by omega) hs
  have hlt : (numR k r).1 < 65536 := by
    have h1 := num_lt k r
    have h2 : 256 ^ k ≤ 256 ^ 2 := Nat.pow_le_pow_right (by omega) hk
    omega
  have hsz : (numR k r).2.rest.size ≤ 1000000000 := by
    have := (take_le k r).2.2
    show (takeR k r).2.rest.size ≤ _
    omega
  have HT : Hid (∀ W, RT W B (numR k r).2 → Calls Try.prog 94 #[.pointer (some ⟨B, 0, none⟩), .int .i64 ((numR k r).1 : Nat)] W fun e w' => e = .returned (.string (textR k r).1) ∧ RT w' B (textR k r).2 ∧ But B W w') := fun W h => takeT_any B _ _ W h (by omega) hsz
  rw [wrapN_small (by omega)] at HC
  clear hB
  generalize (textR k r).1 = T at *
  generalize (textR k r).2 = r' at *
  generalize (numR k r).1 = N at *
  generalize (numR k r).2 = r1 at *
  go_enter Try.func85, Try.ntmps85
  go_wp2_with fail
  refine HC.out.mono ?_
  rintro e w1 ⟨rfl, hr1, hb1⟩
  have H1 : Hid (RT w1 B r1 ∧ But B w w1) := ⟨hr1, hb1⟩
  clear hr1 hb1 HC
  go_wp2_with fail
  refine (HT.out _ H1.out.1).mono ?_
  rintro e w2 ⟨rfl, hr2, hb2⟩
  have H2 : Hid (RT w2 B r' ∧ But B w w2) := ⟨hr2, H1.out.2.trans hb2⟩
  clear hr2 hb2
  go_wp2
  go_ret
  exact ⟨rfl, H2.out⟩


/-- What a decoder panics with. -/
def dcdP : List PanicEntry := [{ v := .iface 116 (.string ⟨#[116, 104, 101, 32, 116, 101, 120, 116, 32, 105, 115, 32, 110, 111, 32, 101, 110, 99, 111, 100, 105, 110, 103]⟩), recovered := false }]
theorem must_ok (p : Value) (w : World) : Calls Try.prog 58 #[p, .bool true] w fun e w' => e = .returned (.tuple #[]) ∧ w' = w := by
  go_enter Try.func58, Try.ntmps58
  go_wp2
  go_end0
  exact ⟨rfl, rfl⟩
theorem must_bad (p : Value) (w : World) : Calls Try.prog 58 #[p, .bool false] w fun e w' => e = .panicked dcdP ∧ w' = w := by
  go_enter Try.func58, Try.ntmps58
  go_wp2
  exact ⟨rfl, rfl, rfl⟩

set_option maxRecDepth 100000 in
theorem numD_ok (B : Nat) (r : Rd) (k : Nat) (w : World) (hB : RT w B r) (hk : k ≤ 8) (hs : r.rest.size ≤ 1000000000) (hsh : (numR k r).2.short = false) :
    Calls Try.prog 75 #[.pointer (some ⟨B, 0, none⟩), .int .i64 (k : Nat)] w fun e w' => e = .returned (.int .i64 (wrapN (numR k r).1)) ∧ RT w' B (numR k r).2 ∧ But B w w' := by
  have HC : Hid (Calls Try.prog 84 #[.pointer (some ⟨B, 0, none⟩), .int .i64 (k : Nat)] w fun e w' => e = .returned (.int .i64 (wrapN (numR k r).1)) ∧ RT w' B (numR k r).2 ∧ But B w w') := numberT_any B r k w hB hk hs
  clear hB
  generalize wrapN (numR k r).1 = N at *
  generalize (numR k r).2 = r1 at *
  go_enter Try.func75, Try.ntmps75
  go_wp2_with fail
  refine HC.out.mono ?_
  rintro e w1 ⟨rfl, hr1, hb1⟩
  have H1 : Hid (RT w1 B r1 ∧ But B w w1) := ⟨hr1, hb1⟩
  obtain ⟨tt, hblk⟩ := hr1
  have x1 : w1.cell? ⟨B, 1, none⟩ = some (.bool false) := (hblk.cell 1).trans (by rw [hsh]; rfl)
  clear hb1 hblk HC hsh
  go_wp2_with fail
  refine (must_ok _ _).mono ?_
  rintro e w2 ⟨rfl, hw⟩
  replace hw := hw.symm
  subst hw
  go_wp2
  go_ret
  exact ⟨rfl, H1.out⟩
set_option maxRecDepth 100000 in
theorem numD_bad (B : Nat) (r : Rd) (k : Nat) (w : World) (hB : RT w B r) (hk : k ≤ 8) (hs : r.rest.size ≤ 1000000000) (hsh : (numR k r).2.short = true) :
    Calls Try.prog 75 #[.pointer (some ⟨B, 0, none⟩), .int .i64 (k : Nat)] w fun e w' => e = .panicked dcdP ∧ But B w w' := by
  have HC : Hid (Calls Try.prog 84 #[.pointer (some ⟨B, 0, none⟩), .int .i64 (k : Nat)] w fun e w' => e = .returned (.int .i64 (wrapN (numR k r).1)) ∧ RT w' B (numR k r).2 ∧ But B w w') := numberT_any B r k w hB hk hs
  clear hB
  generalize wrapN (numR k r).1 = N at *
  generalize (numR k r).2 = r1 at *
  go_enter Try.func75, Try.ntmps75
  go_wp2_with fail
  refine HC.out.mono ?_
  rintro e w1 ⟨rfl, hr1, hb1⟩
  have H1 : Hid (RT w1 B r1 ∧ But B w w1) := ⟨hr1, hb1⟩
  obtain ⟨tt, hblk⟩ := hr1
  have x1 : w1.cell? ⟨B, 1, none⟩ = some (.bool true) := (hblk.cell 1).trans (by rw [hsh]; rfl)
  clear hb1 hblk HC hsh
  go_wp2_with fail
  refine (must_bad _ _).mono ?_
  rintro e w2 ⟨rfl, hw⟩
  replace hw := hw.symm
  subst hw
  exact ⟨rfl, rfl, H1.out.2⟩
set_option maxRecDepth 100000 in
theorem strD_ok (B : Nat) (r : Rd) (k : Nat) (w : World) (hB : RT w B r) (hk : k ≤ 2) (hs : r.rest.size ≤ 1000000000) (hsh : (textR k r).2.short = false) :
    Calls Try.prog 76 #[.pointer (some ⟨B, 0, none⟩), .int .i64 (k : Nat)] w fun e w' => e = .returned (.string (textR k r).1) ∧ RT w' B (textR k r).2 ∧ But B w w' := by
  have HC : Hid (Calls Try.prog 85 #[.pointer (some ⟨B, 0, none⟩), .int .i64 (k : Nat)] w fun e w' => e = .returned (.string (textR k r).1) ∧ RT w' B (textR k r).2 ∧ But B w w') := textT_any B r k w hB hk hs
  clear hB
  generalize (textR k r).1 = N at *
  generalize (textR k r).2 = r1 at *
  go_enter Try.func76, Try.ntmps76
  go_wp2_with fail
  refine HC.out.mono ?_
  rintro e w1 ⟨rfl, hr1, hb1⟩
  have H1 : Hid (RT w1 B r1 ∧ But B w w1) := ⟨hr1, hb1⟩
  obtain ⟨tt, hblk⟩ := hr1
  have x1 : w1.cell? ⟨B, 1, none⟩ = some (.bool false) := (hblk.cell 1).trans (by rw [hsh]; rfl)
  clear hb1 hblk HC hsh
  go_wp2_with fail
  refine (must_ok _ _).mono ?_
  rintro e w2 ⟨rfl, hw⟩
  replace hw := hw.symm
  subst hw
  go_wp2
  go_ret
  exact ⟨rfl, H1.out⟩
set_option maxRecDepth 100000 in
theorem strD_bad (B : Nat) (r : Rd) (k : Nat) (w : World) (hB : RT w B r) (hk : k ≤ 2) (hs : r.rest.size ≤ 1000000000) (hsh : (textR k r).2.short = true) :
    Calls Try.prog 76 #[.pointer (some ⟨B, 0, none⟩), .int .i64 (k : Nat)] w fun e w' => e = .panicked dcdP ∧ But B w w' := by
  have HC : Hid (Calls Try.prog 85 #[.pointer (some ⟨B, 0, none⟩), .int .i64 (k : Nat)] w fun e w' => e = .returned (.string (textR k r).1) ∧ RT w' B (textR k r).2 ∧ But B w w') := textT_any B r k w hB hk hs
  clear hB
  generalize (textR k r).1 = N at *
  generalize (textR k r).2 = r1 at *
  go_enter Try.func76, Try.ntmps76
  go_wp2_with fail
  refine HC.out.mono ?_
  rintro e w1 ⟨rfl, hr1, hb1⟩
  have H1 : Hid (RT w1 B r1 ∧ But B w w1) := ⟨hr1, hb1⟩
  obtain ⟨tt, hblk⟩ := hr1
  have x1 : w1.cell? ⟨B, 1, none⟩ = some (.bool true) := (hblk.cell 1).trans (by rw [hsh]; rfl)
  clear hb1 hblk HC hsh
  go_wp2_with fail
  refine (must_bad _ _).mono ?_
  rintro e w2 ⟨rfl, hw⟩
  replace hw := hw.symm
  subst hw
  exact ⟨rfl, rfl, H1.out.2⟩
end Go.Proofs.Ytgpgacncmoiefaa
