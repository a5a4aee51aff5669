import Derived.Test.YteajeifmllogiaaGreatDoorJ01Flat
import Derived.Maps.OwnSet
import Derived.Test.YteajeifmllogiaaGreatDoorProg
import Derived.Test.YteajeifmllogiaaGreatDoorJ02BlkN
import Derived.Laws.Bits64
namespace Go.Proofs.YteajeifmllogiaaGreatDoor
open Go.RowKit

structure Turn (S : Nat → Prop) (w w' : World) : Prop where
  os : w'.os = w.os
  tape : w'.tape = w.tape
  output : w'.output = w.output
  size : w.heap.size ≤ w'.heap.size
  block : ∀ k, k < w.heap.size → ¬ S k → w'.heap[k]? = w.heap[k]?
theorem Turn.refl (S : Nat → Prop) (w : World) : Turn S w w := ⟨rfl, rfl, rfl, Nat.le_refl _, fun _ _ _ => rfl⟩
theorem Turn.trans {S : Nat → Prop} {a b c : World} (h : Turn S a b) (k : Turn (fun i => S i ∨ a.heap.size ≤ i) b c) : Turn S a c :=
  ⟨k.os.trans h.os, k.tape.trans h.tape, k.output.trans h.output, Nat.le_trans h.size k.size, fun i hi hn => (k.block i (Nat.lt_of_lt_of_le hi h.size) (fun h' => by rcases h' with h' | h'; exact hn h'; omega)).trans (h.block i hi hn)⟩
theorem Turn.trans' {S : Nat → Prop} {a b c : World} (h : Turn S a b) (k : Turn S b c) : Turn S a c :=
  ⟨k.os.trans h.os, k.tape.trans h.tape, k.output.trans h.output, Nat.le_trans h.size k.size, fun i hi hn => (k.block i (Nat.lt_of_lt_of_le hi h.size) hn).trans (h.block i hi hn)⟩
theorem Turn.mono {S S' : Nat → Prop} {a b : World} (h : Turn S a b) (hs : ∀ i, i < a.heap.size → S i → S' i) : Turn S' a b :=
  ⟨h.os, h.tape, h.output, h.size, fun i hi hn => h.block i hi (fun h' => hn (hs i hi h'))⟩
theorem Turn.of {S : Nat → Prop} {a b : World} (h : Below a.heap.size a b) : Turn S a b := ⟨h.os, h.tape, h.output, h.size, fun k hk _ => h.block k hk⟩
theorem Turn.but {g : Nat} {a b : World} (h : But g a b) : Turn (· = g) a b := ⟨h.os, h.tape, h.output, h.size, fun k hk hn => h.block k hk hn⟩
theorem Turn.grown {r : Option Nat} {a b : World} (h : a.grownBy b r) : Turn (fun k => r = some k) a b := ⟨h.os, h.tape, h.output, h.size, fun k hk hn => h.block k hk (fun e => hn e.symm)⟩
theorem Turn.below {S : Nat → Prop} {B : Nat} {a b : World} (h : Turn S a b) (hB : B ≤ a.heap.size) (hs : ∀ k, k < B → ¬ S k) : Below B a b :=
  ⟨h.os, h.tape, h.output, h.size, fun k hk => h.block k (by omega) (hs k hk)⟩
theorem Turn.drew {S : Nat → Prop} {a b : World} (h : Turn S a b) : Turn S a b.drew := ⟨h.os, h.tape, h.output, h.size, h.block⟩
theorem Turn.alloc {S : Nat → Prop} {a b : World} (h : Turn S a b) (o : Obj) : Turn S a (b.alloc o) := h.trans' (Turn.of (bnew _ _))
theorem Turn.setCell {S : Nat → Prop} {a b : World} (h : Turn S a b) {g : Nat} (hg : S g ∨ a.heap.size ≤ g) (o : Nat) (v : Value) : Turn S a (b.setCell ⟨g, o, none⟩ v) :=
  h.trans ((Turn.but ((But.refl g b).setCell o v)).mono fun i _ e => by subst e; exact hg)
theorem Turn.blk {S : Nat → Prop} {a b : World} (h : Turn S a b) {g : Nat} {cur : Array Value} {t : TypeId} (hb : Blk a g cur t) (hg : ¬ S g) : Blk b g cur t := (h.block g (lt_of_block hb) hg).trans hb
theorem Turn.row {S : Nat → Prop} {a b : World} (h : Turn S a b) {B : Nat} {e : TypeId} {size : Nat} {v : Value} {n : Nat} {xs : List Value} (hr : a.ownsRow B e size v n xs) (hg : ∀ g, v.ownBlock = some g → ¬ S g) : b.ownsRow B e size v n xs := by
  refine ⟨hr.1, ?_⟩
  rcases hr.2 with h0 | ⟨g, cap, cur, rfl, hB, hb, r⟩
  · exact Or.inl h0
  · exact Or.inr ⟨g, cap, cur, rfl, hB, (h.block g (lt_of_block hb) (hg g rfl)).trans hb, r⟩
theorem Turn.map {H : Type} {S : Nat → Prop} {a b : World} (h : Turn S a b) {P : Program} {k : TypeId} {R : Value → Option (DataW H × List MemPlace)} {m n : Nat} {D : DataW H} (hm : a.ownsMap P k R m n D) (hg : ¬ S m) : b.ownsMap P k R m n D := by
  have hlt := hm.lt
  obtain ⟨es, clock, hb, r⟩ := hm
  exact ⟨es, clock, (h.block m hlt hg).trans hb, r⟩
end Go.Proofs.YteajeifmllogiaaGreatDoor

namespace Go.Proofs.YteajeifmllogiaaGreatDoor
open Go.RowKit

theorem or_high (a b : Nat) (hb : b < 256) (ha : a < 72057594037927936) : bits .or .i64 (IntKind.i64.wrap ((a : Int) * 256)) (b : Int) = wrapN (a * 256 + b) := by
  have hx : a * 256 ||| b = a * 256 + b := by
    have := Nat.two_pow_add_eq_or_of_lt (i := 8) (b := b) (by omega) a
    rw [show 2 ^ 8 * a = a * 256 by omega] at this
    exact this.symm
  have hof : BitVec.ofInt 64 (IntKind.i64.wrap ((a : Int) * 256)) = BitVec.ofNat 64 (a * 256) := by
    have e : ((a : Int) * 256) = ((a * 256 : Nat) : Int) := by omega
    rw [e]
    apply BitVec.eq_of_toNat_eq
    rw [BitVec.toNat_ofInt, BitVec.toNat_ofNat]
    unfold IntKind.wrap
    simp only [IntKind.bits, IntKind.signed]
    simp
    omega
  show IntKind.i64.wrap ((BitVec.ofInt 64 (IntKind.i64.wrap ((a : Int) * 256)) ||| BitVec.ofInt 64 (b : Int)).toNat : Int) = _
  rw [hof, BitVec.toNat_or, BitVec.ofInt_natCast, BitVec.toNat_ofNat, BitVec.toNat_ofNat, Nat.mod_eq_of_lt (by omega), Nat.mod_eq_of_lt (by omega), hx]
  rfl

set_option maxRecDepth 100000 in
set_option maxHeartbeats 1000000 in
theorem implNumW_any (s : ByteArray) (w : World) (hs : s.size ≤ 8) :
    Calls Tryz.prog 66 #[.string s] w fun e w' => e = .returned (.int .i64 (wrapN (beL s.data.toList))) ∧ w' = w := by
  go_enter Tryz.func66, Tryz.ntmps66
  go_wp2
  go_loopw [3, 4, 7] (fun x _ c wr => ∃ (k X : Nat) (Z : Int), k ≤ s.size ∧ c = .int .i64 k ∧ x = .int .i64 Z ∧ X < 256 ^ k ∧ Hid (X = beL (s.data.toList.take k)) ∧ Hid (Z = wrapN X) ∧ wr = w) (fun _ _ c _ => s.size - (intOf c).toNat)
  case atStart => exact ⟨0, 0, 0, by omega, rfl, rfl, by simp, by show _ = _; simp [beL], by show _ = _; rw [wrapN_small (by omega)]; rfl, rfl⟩
  case round =>
    obtain ⟨k, X, Z, hk, rfl, rfl, hX, hx, hZ, rfl⟩ := hrel
    by_cases hlt : k < s.size
    · have hc := (s[k]).toNat_lt
      have hX7 : X < 72057594037927936 := Nat.lt_of_lt_of_le hX (Nat.pow_le_pow_right (n := 256) (by omega) (show k ≤ 7 by omega))
      have hZ2 : Z = (X : Int) := by rw [hZ.out, wrapN_small (by omega)]
      subst hZ2
      have ho := or_high X (s[k]).toNat (by omega) (by omega)
      go_wp2
      refine ⟨⟨k + 1, X * 256 + (s[k]).toNat, wrapN (X * 256 + (s[k]).toNat), by omega, by go_num, ?_, ?_, ?_, rfl, trivial⟩, by simp [intOf]; omega⟩
      · exact congrArg (Value.int .i64) (by rw [← ho, IntKind.wrap_i64, wrap64])
      · rw [Nat.pow_succ]; omega
      · show _ = _
        rw [take_snoc s k hlt, beL_snoc, ← hx.out]
    · have e : k = s.size := by omega
      subst e
      go_wp2
      go_ret
      refine ⟨?_, rfl⟩
      show Ending.returned (.int .i64 Z) = _
      rw [hZ.out, hx.out, List.take_of_length_le (by simp)]

/-- The reader r lies in block B, whatever the block's type. -/
def RT (w : World) (B : Nat) (r : Rd) : Prop := ∃ t, Blk w B #[.string r.rest, .bool r.short] t

set_option maxRecDepth 100000 in
set_option maxHeartbeats 1000000 in
theorem takeT_any (B : Nat) (r : Rd) (n : Nat) (w : World) (hB : RT w B r) (hn : n ≤ 70000) (hs : r.rest.size ≤ 1000000000) :
    Calls Tryz.prog 33 #[.pointer (some ⟨B, 0, none⟩), .int .i64 (n : Nat)] w fun e w' => e = .returned (.string (takeR n r).1) ∧ RT w' B (takeR n r).2 ∧ But B w w' := by
  obtain ⟨tt, hB⟩ := hB
  have HB : Hid (Blk w B #[.string r.rest, .bool r.short] tt) := hB
  have x0 := Blk.cell hB 0
  have x1 := Blk.cell hB 1
  simp only [List.getElem?_toArray, List.getElem?_cons_zero, List.getElem?_cons_succ] at x0 x1
  have f0 := Blk.free hB 0
  have f1 := Blk.free hB 1
  obtain ⟨rest, short⟩ := r
  simp only at x0 x1 hs
  clear hB
  by_cases h : rest.size < n
  · have E : Hid (takeR n ⟨rest, short⟩ = (ByteArray.empty, ⟨rest, true⟩)) := by show _ = _; unfold takeR; rw [if_pos h]
    rw [E.out]
    go_enter Tryz.func33, Tryz.ntmps33
    go_wp2
    go_ret
    exact ⟨rfl, ⟨tt, Blk.set HB.out 1 (.bool true)⟩, (But.refl _ _).setCell _ _⟩
  · have E : Hid (takeR n ⟨rest, short⟩ = (rest.extract 0 n, ⟨rest.extract n rest.size, short⟩)) := by show _ = _; unfold takeR; rw [if_neg h]
    have h' : ¬ ((rest.size : Int) < (n : Int)) := by omega
    rw [E.out]
    go_enter Tryz.func33, Tryz.ntmps33
    go_wp2
    go_ret
    exact ⟨rfl, ⟨tt, Blk.set HB.out 0 (.string (rest.extract n rest.size))⟩, (But.refl _ _).setCell _ _⟩

set_option maxRecDepth 100000 in
theorem numberT_any (B : Nat) (r : Rd) (k : Nat) (w : World) (hB : RT w B r) (hk : k ≤ 8) (hs : r.rest.size ≤ 1000000000) :
    Calls Tryz.prog 52 #[.pointer (some ⟨B, 0, none⟩), .int .i64 (k : Nat)] w fun e w' => e = .returned (.int .i64 (wrapN (numR k r).1)) ∧ RT w' B (numR k r).2 ∧ But B w w' := by
  have HC : Hid (Calls Tryz.prog 33 #[.pointer (some ⟨B, 0, none⟩), .int .i64 (k : Nat)] w fun e w' => e = .returned (.string (takeR k r).1) ∧ RT w' B (takeR k r).2 ∧ But B w w') := takeT_any B r k w hB (by omega) hs
  have HN : Hid (∀ W, Calls Tryz.prog 66 #[.string (takeR k r).1] W fun e w' => e = .returned (.int .i64 (wrapN (beL (takeR k r).1.data.toList))) ∧ w' = W) := fun W => implNumW_any _ W (by have := (take_le k r).1; omega)
  show Calls _ _ _ _ fun e w' => e = .returned (.int .i64 (wrapN (beL (takeR k r).1.data.toList))) ∧ RT w' B (takeR k r).2 ∧ But B w w'
  clear hB
  generalize beL (takeR k r).1.data.toList = N at *
  generalize (takeR k r).1 = T at *
  generalize (takeR k r).2 = r' at *
  go_enter Tryz.func52, Tryz.ntmps52
  go_wp2_with fail
  refine HC.out.mono ?_
  rintro e w1 ⟨rfl, hr1, hb1⟩
  have H1 : Hid (RT w1 B r' ∧ But B w w1) := ⟨hr1, hb1⟩
  clear hr1 hb1 HC
  go_wp2_with fail
  refine (HN.out _).mono ?_
  rintro e w2 ⟨rfl, hw⟩
  replace hw := hw.symm
  subst hw
  go_wp2
  go_ret
  exact ⟨rfl, H1.out⟩

set_option maxRecDepth 100000 in
theorem textT_any (B : Nat) (r : Rd) (k : Nat) (w : World) (hB : RT w B r) (hk : k ≤ 2) (hs : r.rest.size ≤ 1000000000) :
    Calls Tryz.prog 67 #[.pointer (some ⟨B, 0, none⟩), .int .i64 (k : Nat)] w fun e w' => e = .returned (.string (textR k r).1) ∧ RT w' B (textR k r).2 ∧ But B w w' := by
  have HC : Hid (Calls Tryz.prog 52 #[.pointer (some ⟨B, 0, none⟩), .int .i64 (k : Nat)] w fun e w' => e = .returned (.int .i64 (wrapN (numR k r).1)) ∧ RT w' B (numR k r).2 ∧ But B w w') := numberT_any B r k w hB (by omega) hs
  have hlt : (numR k r).1 < 65536 := by
    have h1 := num_lt k r
    have h2 : 256 ^ k ≤ 256 ^ 2 := Nat.pow_le_pow_right (by omega) hk
    omega
  have hsz : (numR k r).2.rest.size ≤ 1000000000 := by
    have := (take_le k r).2.2
    show (takeR k r).2.rest.size ≤ _
    omega
  have HT : Hid (∀ W, RT W B (numR k r).2 → Calls Tryz.prog 33 #[.pointer (some ⟨B, 0, none⟩), .int .i64 ((numR k r).1 : Nat)] W fun e w' => e = .returned (.string (textR k r).1) ∧ RT w' B (textR k r).2 ∧ But B W w') := fun W h => takeT_any B _ _ W h (by omega) hsz
  rw [wrapN_small (by omega)] at HC
  clear hB
  generalize (textR k r).1 = T at *
  generalize (textR k r).2 = r' at *
  generalize (numR k r).1 = N at *
  generalize (numR k r).2 = r1 at *
  go_enter Tryz.func67, Tryz.ntmps67
  go_wp2_with fail
  refine HC.out.mono ?_
  rintro e w1 ⟨rfl, hr1, hb1⟩
  have H1 : Hid (RT w1 B r1 ∧ But B w w1) := ⟨hr1, hb1⟩
  clear hr1 hb1 HC
  go_wp2_with fail
  refine (HT.out _ H1.out.1).mono ?_
  rintro e w2 ⟨rfl, hr2, hb2⟩
  have H2 : Hid (RT w2 B r' ∧ But B w w2) := ⟨hr2, H1.out.2.trans hb2⟩
  clear hr2 hb2
  go_wp2
  go_ret
  exact ⟨rfl, H2.out⟩


/-- What a decoder panics with. -/
def dcdP : List PanicEntry := [{ v := .iface 70 (.string ⟨#[116, 104, 101, 32, 116, 101, 120, 116, 32, 105, 115, 32, 110, 111, 32, 101, 110, 99, 111, 100, 105, 110, 103]⟩), recovered := false }]
theorem must_ok (p : Value) (w : World) : Calls Tryz.prog 16 #[p, .bool true] w fun e w' => e = .returned (.tuple #[]) ∧ w' = w := by
  go_enter Tryz.func16, Tryz.ntmps16
  go_wp2
  go_end0
  exact ⟨rfl, rfl⟩
theorem must_bad (p : Value) (w : World) : Calls Tryz.prog 16 #[p, .bool false] w fun e w' => e = .panicked dcdP ∧ w' = w := by
  go_enter Tryz.func16, Tryz.ntmps16
  go_wp2
  exact ⟨rfl, rfl, rfl⟩

set_option maxRecDepth 100000 in
theorem numD_ok (B : Nat) (r : Rd) (k : Nat) (w : World) (hB : RT w B r) (hk : k ≤ 8) (hs : r.rest.size ≤ 1000000000) (hsh : (numR k r).2.short = false) :
    Calls Tryz.prog 34 #[.pointer (some ⟨B, 0, none⟩), .int .i64 (k : Nat)] w fun e w' => e = .returned (.int .i64 (wrapN (numR k r).1)) ∧ RT w' B (numR k r).2 ∧ But B w w' := by
  have HC : Hid (Calls Tryz.prog 52 #[.pointer (some ⟨B, 0, none⟩), .int .i64 (k : Nat)] w fun e w' => e = .returned (.int .i64 (wrapN (numR k r).1)) ∧ RT w' B (numR k r).2 ∧ But B w w') := numberT_any B r k w hB hk hs
  clear hB
  generalize wrapN (numR k r).1 = N at *
  generalize (numR k r).2 = r1 at *
  go_enter Tryz.func34, Tryz.ntmps34
  go_wp2_with fail
  refine HC.out.mono ?_
  rintro e w1 ⟨rfl, hr1, hb1⟩
  have H1 : Hid (RT w1 B r1 ∧ But B w w1) := ⟨hr1, hb1⟩
  obtain ⟨tt, hblk⟩ := hr1
  have x1 : w1.cell? ⟨B, 1, none⟩ = some (.bool false) := (hblk.cell 1).trans (by rw [hsh]; rfl)
  clear hb1 hblk HC hsh
  go_wp2_with fail
  refine (must_ok _ _).mono ?_
  rintro e w2 ⟨rfl, hw⟩
  replace hw := hw.symm
  subst hw
  go_wp2
  go_ret
  exact ⟨rfl, H1.out⟩
set_option maxRecDepth 100000 in
theorem numD_bad (B : Nat) (r : Rd) (k : Nat) (w : World) (hB : RT w B r) (hk : k ≤ 8) (hs : r.rest.size ≤ 1000000000) (hsh : (numR k r).2.short = true) :
    Calls Tryz.prog 34 #[.pointer (some ⟨B, 0, none⟩), .int .i64 (k : Nat)] w fun e w' => e = .panicked dcdP ∧ But B w w' := by
  have HC : Hid (Calls Tryz.prog 52 #[.pointer (some ⟨B, 0, none⟩), .int .i64 (k : Nat)] w fun e w' => e = .returned (.int .i64 (wrapN (numR k r).1)) ∧ RT w' B (numR k r).2 ∧ But B w w') := numberT_any B r k w hB hk hs
  clear hB
  generalize wrapN (numR k r).1 = N at *
  generalize (numR k r).2 = r1 at *
  go_enter Tryz.func34, Tryz.ntmps34
  go_wp2_with fail
  refine HC.out.mono ?_
  rintro e w1 ⟨rfl, hr1, hb1⟩
  have H1 : Hid (RT w1 B r1 ∧ But B w w1) := ⟨hr1, hb1⟩
  obtain ⟨tt, hblk⟩ := hr1
  have x1 : w1.cell? ⟨B, 1, none⟩ = some (.bool true) := (hblk.cell 1).trans (by rw [hsh]; rfl)
  clear hb1 hblk HC hsh
  go_wp2_with fail
  refine (must_bad _ _).mono ?_
  rintro e w2 ⟨rfl, hw⟩
  replace hw := hw.symm
  subst hw
  exact ⟨rfl, rfl, H1.out.2⟩
set_option maxRecDepth 100000 in
theorem strD_ok (B : Nat) (r : Rd) (k : Nat) (w : World) (hB : RT w B r) (hk : k ≤ 2) (hs : r.rest.size ≤ 1000000000) (hsh : (textR k r).2.short = false) :
    Calls Tryz.prog 53 #[.pointer (some ⟨B, 0, none⟩), .int .i64 (k : Nat)] w fun e w' => e = .returned (.string (textR k r).1) ∧ RT w' B (textR k r).2 ∧ But B w w' := by
  have HC : Hid (Calls Tryz.prog 67 #[.pointer (some ⟨B, 0, none⟩), .int .i64 (k : Nat)] w fun e w' => e = .returned (.string (textR k r).1) ∧ RT w' B (textR k r).2 ∧ But B w w') := textT_any B r k w hB hk hs
  clear hB
  generalize (textR k r).1 = N at *
  generalize (textR k r).2 = r1 at *
  go_enter Tryz.func53, Tryz.ntmps53
  go_wp2_with fail
  refine HC.out.mono ?_
  rintro e w1 ⟨rfl, hr1, hb1⟩
  have H1 : Hid (RT w1 B r1 ∧ But B w w1) := ⟨hr1, hb1⟩
  obtain ⟨tt, hblk⟩ := hr1
  have x1 : w1.cell? ⟨B, 1, none⟩ = some (.bool false) := (hblk.cell 1).trans (by rw [hsh]; rfl)
  clear hb1 hblk HC hsh
  go_wp2_with fail
  refine (must_ok _ _).mono ?_
  rintro e w2 ⟨rfl, hw⟩
  replace hw := hw.symm
  subst hw
  go_wp2
  go_ret
  exact ⟨rfl, H1.out⟩
set_option maxRecDepth 100000 in
theorem strD_bad (B : Nat) (r : Rd) (k : Nat) (w : World) (hB : RT w B r) (hk : k ≤ 2) (hs : r.rest.size ≤ 1000000000) (hsh : (textR k r).2.short = true) :
    Calls Tryz.prog 53 #[.pointer (some ⟨B, 0, none⟩), .int .i64 (k : Nat)] w fun e w' => e = .panicked dcdP ∧ But B w w' := by
  have HC : Hid (Calls Tryz.prog 67 #[.pointer (some ⟨B, 0, none⟩), .int .i64 (k : Nat)] w fun e w' => e = .returned (.string (textR k r).1) ∧ RT w' B (textR k r).2 ∧ But B w w') := textT_any B r k w hB hk hs
  clear hB
  generalize (textR k r).1 = N at *
  generalize (textR k r).2 = r1 at *
  go_enter Tryz.func53, Tryz.ntmps53
  go_wp2_with fail
  refine HC.out.mono ?_
  rintro e w1 ⟨rfl, hr1, hb1⟩
  have H1 : Hid (RT w1 B r1 ∧ But B w w1) := ⟨hr1, hb1⟩
  obtain ⟨tt, hblk⟩ := hr1
  have x1 : w1.cell? ⟨B, 1, none⟩ = some (.bool true) := (hblk.cell 1).trans (by rw [hsh]; rfl)
  clear hb1 hblk HC hsh
  go_wp2_with fail
  refine (must_bad _ _).mono ?_
  rintro e w2 ⟨rfl, hw⟩
  replace hw := hw.symm
  subst hw
  exact ⟨rfl, rfl, H1.out.2⟩
end Go.Proofs.YteajeifmllogiaaGreatDoor

namespace Go.Proofs.YteajeifmllogiaaGreatDoor
open Go.RowKit

structure PairD where
  s : ByteArray
  n : Int

/-- The pairs ls lie from ⟨b, o⟩ on, two cells each. -/
def PairsAt (w : World) (b o : Nat) (ls : List PairD) : Prop :=
  ∀ i (h : i < ls.length), w.cell? ⟨b, o + i * 2, none⟩ = some (.string ls[i].s) ∧ w.cell? ⟨b, o + i * 2 + 1, none⟩ = some (.int .i64 ls[i].n)
/-- A slice's address holds the pairs ls (nothing is asked where there are none). -/
def PairsIn (w : World) (a : Option Addr) (ls : List PairD) : Prop := ls = [] ∨ ∃ b o, a = some ⟨b, o, none⟩ ∧ b < w.heap.size ∧ PairsAt w b o ls
theorem PairsIn.later {w w' : World} {a : Option Addr} {ls : List PairD} (h : PairsIn w a ls) (hb : Below w.heap.size w w') : PairsIn w' a ls := by
  rcases h with h | ⟨b, o, rfl, hlt, h⟩
  · exact Or.inl h
  · refine Or.inr ⟨b, o, rfl, Nat.lt_of_lt_of_le hlt hb.size, fun i hi => ?_⟩
    obtain ⟨h1, h2⟩ := h i hi
    exact ⟨by rw [← h1]; exact hb.cell hlt, by rw [← h2]; exact hb.cell hlt⟩
theorem PairsIn.at {w : World} {a : Option Addr} {ls : List PairD} (h : PairsIn w a ls) {i : Nat} (hi : i < ls.length) :
    ∃ b o, a = some ⟨b, o, none⟩ ∧ b < w.heap.size ∧ w.cell? ⟨b, o + i * 2, none⟩ = some (.string ls[i].s) ∧ w.cell? ⟨b, o + i * 2 + 1, none⟩ = some (.int .i64 ls[i].n) := by
  rcases h with rfl | ⟨b, o, rfl, hlt, h⟩
  · exact absurd hi (by simp)
  · exact ⟨b, o, rfl, hlt, h i hi⟩
theorem PairsIn.but {g : Nat} {w w' : World} {a : Option Addr} {l : List PairD} (h : PairsIn w a l) (hb : But g w w') (hg : l = [] ∨ ∃ b o, a = some ⟨b, o, none⟩ ∧ b ≠ g) : PairsIn w' a l := by
  rcases hg with hg | ⟨b, o, rfl, hne⟩
  · exact Or.inl hg
  · rcases h with h | ⟨b', o', e, hlt, h⟩
    · exact Or.inl h
    · simp only [Option.some.injEq, Addr.mk.injEq, and_true] at e
      obtain ⟨rfl, rfl⟩ := e
      have hk : ∀ j, w'.cell? ⟨b, j, none⟩ = w.cell? ⟨b, j, none⟩ := fun j => World.cell?_of_block (hb.block b hlt hne)
      exact Or.inr ⟨b, o, rfl, Nat.lt_of_lt_of_le hlt hb.size, fun i hi => by simp only [hk]; exact h i hi⟩
theorem PairsIn.take {w : World} {a : Option Addr} {ls : List PairD} (h : PairsIn w a ls) (n : Nat) : PairsIn w a (ls.take n) := by
  rcases h with h | ⟨b, o, e, hlt, h⟩
  · exact Or.inl (by rw [h]; simp)
  · refine Or.inr ⟨b, o, e, hlt, fun i hi => ?_⟩
    rw [List.getElem_take]
    exact h i (by simp at hi; omega)

/-- The pairs lie in a block of their own, from B on, that may be written. -/
def PairsOwn (w : World) (B : Nat) (a : Option Addr) (ls : List PairD) : Prop :=
  ls = [] ∨ ∃ g o cur t, a = some ⟨g, o, none⟩ ∧ B ≤ g ∧ w.heap[g]? = some (.cells cur t (0, 0)) ∧ PairsAt w g o ls
theorem PairsOwn.pairs {w : World} {B : Nat} {a : Option Addr} {ls : List PairD} (h : PairsOwn w B a ls) : PairsIn w a ls := by
  rcases h with h | ⟨g, o, cur, t, rfl, _, hb, h⟩
  · exact Or.inl h
  · exact Or.inr ⟨g, o, rfl, lt_of_block hb, h⟩
theorem PairsOwn.later {w w' : World} {B : Nat} {a : Option Addr} {ls : List PairD} (h : PairsOwn w B a ls) (hb : Below w.heap.size w w') : PairsOwn w' B a ls := by
  rcases h with h | ⟨g, o, cur, t, rfl, hB, hg, h⟩
  · exact Or.inl h
  · have hlt := lt_of_block hg
    have hk : ∀ j, w'.cell? ⟨g, j, none⟩ = w.cell? ⟨g, j, none⟩ := fun j => World.cell?_of_block (hb.block g hlt)
    exact Or.inr ⟨g, o, cur, t, rfl, hB, (hb.block g hlt).trans hg, fun i hi => by simp only [hk]; exact h i hi⟩
theorem PairsOwn.mono {w : World} {B B' : Nat} {a : Option Addr} {ls : List PairD} (h : PairsOwn w B a ls) (hB : B' ≤ B) : PairsOwn w B' a ls := by
  rcases h with h | ⟨g, o, cur, t, rfl, hB', hg, h⟩
  · exact Or.inl h
  · exact Or.inr ⟨g, o, cur, t, rfl, Nat.le_trans hB hB', hg, h⟩

/-- The cells of pair j, from o on. -/
def RowPair (cur : Array Value) (o j : Nat) (f : PairD) : Prop := cur[o + j * 2]? = some (.string f.s) ∧ cur[o + j * 2 + 1]? = some (.int .i64 f.n)
theorem RowPair.set {cur : Array Value} {o j : Nat} {f : PairD} (h : RowPair cur o j f) {p : Nat} (hp : p < o + j * 2 ∨ o + j * 2 + 1 < p) (v : Value) : RowPair (cur.setIfInBounds p v) o j f := by
  obtain ⟨a1, a2⟩ := h
  refine ⟨?_, ?_⟩
  · rw [Array.getElem?_setIfInBounds_ne (by omega)]; exact a1
  · rw [Array.getElem?_setIfInBounds_ne (by omega)]; exact a2
theorem RowPair.made (cur : Array Value) (o j : Nat) (f : PairD) (h : o + j * 2 + 1 < cur.size) :
    RowPair ((cur.setIfInBounds (o + j * 2) (.string f.s)).setIfInBounds (o + j * 2 + 1) (.int .i64 f.n)) o j f := by
  refine ⟨?_, ?_⟩ <;> simp [Array.getElem?_setIfInBounds] <;> omega
theorem pairsAt_of_rows {w : World} {g o : Nat} {cur : Array Value} {t : TypeId} {fs : List PairD} (h : Blk w g cur t) (hr : ∀ j (hj : j < fs.length), RowPair cur o j fs[j]) : PairsAt w g o fs := by
  intro j hj
  simp only [h.cell]
  exact hr j hj
theorem rows_of_pairsAt {w : World} {g o : Nat} {cur : Array Value} {t : TypeId} {fs : List PairD} (h : Blk w g cur t) (hf : PairsAt w g o fs) : ∀ j (hj : j < fs.length), RowPair cur o j fs[j] := by
  intro j hj
  have := hf j hj
  simp only [h.cell] at this
  exact this
theorem pairs_size {cur : Array Value} {o : Nat} {fs : List PairD} (hr : ∀ j (hj : j < fs.length), RowPair cur o j fs[j]) : fs.length = 0 ∨ o + fs.length * 2 ≤ cur.size := by
  by_cases h : fs.length = 0
  · exact Or.inl h
  · right
    have := (hr (fs.length - 1) (by omega)).2
    have := (Array.getElem?_eq_some_iff.1 this).1
    omega
theorem pairs_of_row {w : World} {B : Nat} {e : TypeId} {a : Option Addr} {cap : Nat} {l : List PairD}
    (h : w.ownsRow B e 2 (.slice a l.length cap) l.length (l.flatMap fun x => [.string x.s, .int .i64 x.n])) : PairsOwn w B a l := by
  rcases h.2 with ⟨_, hl⟩ | ⟨g, cap', cur, he, hB, hg, _, _, hsz, htk⟩
  · exact Or.inl (List.length_eq_zero_iff.1 hl)
  · simp only [Value.slice.injEq] at he
    have hf : ∀ (l : List PairD) i (hi : i < l.length), (l.flatMap fun x => [Value.string x.s, .int .i64 x.n])[i * 2]? = some (.string l[i].s) ∧ (l.flatMap fun x => [Value.string x.s, .int .i64 x.n])[i * 2 + 1]? = some (.int .i64 l[i].n) := by
      intro l
      induction l with
      | nil => intro i hi; exact absurd hi (by simp)
      | cons x r ih =>
        intro i hi
        cases i with
        | zero => simp
        | succ i =>
          have := ih i (by simpa using hi)
          simp only [List.flatMap_cons, List.cons_append, List.nil_append, List.getElem_cons_succ]
          rw [show (i + 1) * 2 = i * 2 + 1 + 1 by omega, List.getElem?_cons_succ, List.getElem?_cons_succ, List.getElem?_cons_succ, List.getElem?_cons_succ]
          exact this
    refine Or.inr ⟨g, 0, cur, e, he.1, hB, hg, fun i hi => ?_⟩
    have h2 : ∀ j, j < l.length * 2 → cur[j]? = (l.flatMap fun x => [Value.string x.s, .int .i64 x.n])[j]? := fun j hj => by
      rw [← htk, List.getElem?_take_of_lt hj, Array.getElem?_toList]
    rw [cell_of_row w g _ cur _ _ hg, cell_of_row w g _ cur _ _ hg, Nat.zero_add, h2 _ (by omega), h2 _ (by omega)]
    exact hf l i hi

def pairBulk : List PairD → Nat
  | [] => 0
  | f :: r => f.s.size + pairBulk r
theorem pairBulk_append (a b : List PairD) : pairBulk (a ++ b) = pairBulk a + pairBulk b := by
  induction a with
  | nil => simp [pairBulk]
  | cons f r ih => simp [pairBulk, ih]; omega
theorem pairBulk_take_succ (fs : List PairD) (k : Nat) (h : k < fs.length) : pairBulk (fs.take (k + 1)) = pairBulk (fs.take k) + fs[k].s.size := by
  rw [List.take_succ_eq_append_getElem h, pairBulk_append]; simp [pairBulk]
theorem pairBulk_take_le (fs : List PairD) (k : Nat) : pairBulk (fs.take k) ≤ pairBulk fs := by
  have := pairBulk_append (fs.take k) (fs.drop k)
  rw [List.take_append_drop] at this; omega
def szPair (left : Int) (f : PairD) : Int := if (f.s.size : Int) ≤ left then left - f.s.size else -1
def szPairs (left : Int) (fs : List PairD) : Int := if (fs.length + pairBulk fs : Int) ≤ left then left - fs.length - pairBulk fs else -1
def ShortP (fs : List PairD) : Prop := ∀ i (h : i < fs.length), fs[i].s.size ≤ maxLen

def markP (k : Nat) (i : Nat) : PairD := ⟨mt (k + 2 * i), ((k + 2 * i + 1 : Nat) : Int)⟩
def markPairs (k n : Nat) : List PairD := (List.range n).map (markP k)
theorem markPairs_length (k n : Nat) : (markPairs k n).length = n := by simp [markPairs]
theorem markPairs_get (k n i : Nat) (h : i < (markPairs k n).length) : (markPairs k n)[i] = markP k i := by simp [markPairs]
end Go.Proofs.YteajeifmllogiaaGreatDoor

namespace Go.Proofs.YteajeifmllogiaaGreatDoor
open Go.RowKit

theorem PairsOwn.but {g b o B : Nat} {w w' : World} {fs : List PairD} (h : PairsOwn w B (some ⟨b, o, none⟩) fs) (hb : But g w w') (hg : b ≠ g) : PairsOwn w' B (some ⟨b, o, none⟩) fs := by
  rcases h with h | ⟨b', o', cur, t, e, hB, hblk, h⟩
  · exact Or.inl h
  · simp only [Option.some.injEq, Addr.mk.injEq, and_true] at e
    obtain ⟨rfl, rfl⟩ := e
    have hk := hb.block b (lt_of_block hblk) hg
    have hc : ∀ j, w'.cell? ⟨b, j, none⟩ = w.cell? ⟨b, j, none⟩ := fun j => World.cell?_of_block hk
    exact Or.inr ⟨b, o, cur, t, rfl, hB, hk.trans hblk, fun i hi => by simp only [hc]; exact h i hi⟩

structure TenD where
  name : ByteArray
  limit : Int
  mets : List PairD
  sers : List PairD

/-- The four cells of a tenant lie at ⟨b, o⟩. -/
def TenAt (w : World) (b o : Nat) (t : TenD) : Prop :=
  ∃ a1 c1 a2 c2, w.cell? ⟨b, o, none⟩ = some (.string t.name) ∧ w.cell? ⟨b, o + 1, none⟩ = some (.int .i64 t.limit) ∧ w.cell? ⟨b, o + 2, none⟩ = some (.slice a1 t.mets.length c1) ∧ w.cell? ⟨b, o + 3, none⟩ = some (.slice a2 t.sers.length c2) ∧
    PairsIn w a1 t.mets ∧ PairsIn w a2 t.sers
def TensAt (w : World) (b o : Nat) (ts : List TenD) : Prop := ∀ i (h : i < ts.length), TenAt w b (o + i * 4) ts[i]
/-- A slice's address holds the tenants ts (nothing is asked where there are none). -/
def TensIn (w : World) (a : Option Addr) (ts : List TenD) : Prop := ts = [] ∨ ∃ b o, a = some ⟨b, o, none⟩ ∧ b < w.heap.size ∧ TensAt w b o ts
theorem TenAt.later {w w' : World} {b o : Nat} {t : TenD} (h : TenAt w b o t) (hlt : b < w.heap.size) (hb : Below w.heap.size w w') : TenAt w' b o t := by
  obtain ⟨a1, c1, a2, c2, h0, h1, h2, h3, h4, h5⟩ := h
  exact ⟨a1, c1, a2, c2, (hb.cell hlt).trans h0, (hb.cell hlt).trans h1, (hb.cell hlt).trans h2, (hb.cell hlt).trans h3, h4.later hb, h5.later hb⟩
theorem TensIn.later {w w' : World} {a : Option Addr} {ts : List TenD} (h : TensIn w a ts) (hb : Below w.heap.size w w') : TensIn w' a ts := by
  rcases h with h | ⟨b, o, rfl, hlt, h⟩
  · exact Or.inl h
  · exact Or.inr ⟨b, o, rfl, Nat.lt_of_lt_of_le hlt hb.size, fun i hi => (h i hi).later hlt hb⟩
theorem TensIn.at {w : World} {a : Option Addr} {ts : List TenD} (h : TensIn w a ts) {i : Nat} (hi : i < ts.length) :
    ∃ b o a1 c1 a2 c2, a = some ⟨b, o, none⟩ ∧ b < w.heap.size ∧ w.cell? ⟨b, o + i * 4, none⟩ = some (.string ts[i].name) ∧ w.cell? ⟨b, o + i * 4 + 1, none⟩ = some (.int .i64 ts[i].limit) ∧
      w.cell? ⟨b, o + i * 4 + 2, none⟩ = some (.slice a1 ts[i].mets.length c1) ∧ w.cell? ⟨b, o + i * 4 + 3, none⟩ = some (.slice a2 ts[i].sers.length c2) ∧ PairsIn w a1 ts[i].mets ∧ PairsIn w a2 ts[i].sers := by
  rcases h with rfl | ⟨b, o, rfl, hlt, h⟩
  · exact absurd hi (by simp)
  · obtain ⟨a1, c1, a2, c2, h⟩ := h i hi
    exact ⟨b, o, a1, c1, a2, c2, rfl, hlt, h⟩

/-- The pairs lie in a block of their own, from B on, that may be written, and bears the tag n. -/
def PairsTag (w : World) (B : Nat) (T : Nat → Nat) (n : Nat) (a : Option Addr) (ps : List PairD) : Prop :=
  ps = [] ∨ ∃ g o cur t, a = some ⟨g, o, none⟩ ∧ B ≤ g ∧ T g = n ∧ w.heap[g]? = some (.cells cur t (0, 0)) ∧ PairsAt w g o ps
theorem PairsTag.pairs {w : World} {B n : Nat} {T : Nat → Nat} {a : Option Addr} {ps : List PairD} (h : PairsTag w B T n a ps) : PairsIn w a ps := by
  rcases h with h | ⟨g, o, cur, t, rfl, _, _, hb, h⟩
  · exact Or.inl h
  · exact Or.inr ⟨g, o, rfl, lt_of_block hb, h⟩
theorem PairsTag.own {w : World} {B n : Nat} {T : Nat → Nat} {a : Option Addr} {ps : List PairD} (h : PairsTag w B T n a ps) : PairsOwn w B a ps := by
  rcases h with h | ⟨g, o, cur, t, e, hB, _, hb, h⟩
  · exact Or.inl h
  · exact Or.inr ⟨g, o, cur, t, e, hB, hb, h⟩
/-- A world in which the blocks of the tag n are as they were. -/
theorem PairsTag.keep {w w' : World} {B n : Nat} {T T' : Nat → Nat} {a : Option Addr} {ps : List PairD} (h : PairsTag w B T n a ps)
    (hk : ∀ g, g < w.heap.size → B ≤ g → T g = n → w'.heap[g]? = w.heap[g]? ∧ T' g = n) : PairsTag w' B T' n a ps := by
  rcases h with h | ⟨g, o, cur, t, e, hB, hT, hb, h⟩
  · exact Or.inl h
  · obtain ⟨h1, h2⟩ := hk g (lt_of_block hb) hB hT
    have hc : ∀ j, w'.cell? ⟨g, j, none⟩ = w.cell? ⟨g, j, none⟩ := fun j => World.cell?_of_block h1
    exact Or.inr ⟨g, o, cur, t, e, hB, h2, h1.trans hb, fun i hi => by simp only [hc]; exact h i hi⟩
theorem PairsOwn.tag {w : World} {B n : Nat} {T : Nat → Nat} {a : Option Addr} {ps : List PairD} (h : PairsOwn w B a ps) (hT : ∀ g o, a = some ⟨g, o, none⟩ → T g = n) : PairsTag w B T n a ps := by
  rcases h with h | ⟨g, o, cur, t, e, hB, hb, h⟩
  · exact Or.inl h
  · exact Or.inr ⟨g, o, cur, t, e, hB, hT g o e, hb, h⟩

/-- The tenant i at ⟨b, o⟩ whose lists bear the tags 2 i + 1, 2 i + 2. -/
def TenOwn (w : World) (B : Nat) (T : Nat → Nat) (i b o : Nat) (t : TenD) : Prop :=
  ∃ a1 c1 a2 c2, w.cell? ⟨b, o, none⟩ = some (.string t.name) ∧ w.cell? ⟨b, o + 1, none⟩ = some (.int .i64 t.limit) ∧ w.cell? ⟨b, o + 2, none⟩ = some (.slice a1 t.mets.length c1) ∧ w.cell? ⟨b, o + 3, none⟩ = some (.slice a2 t.sers.length c2) ∧
    PairsTag w B T (2 * i + 1) a1 t.mets ∧ PairsTag w B T (2 * i + 2) a2 t.sers
/-- The tenants lie in blocks of their own, from B on, no two of them one, that may be written. -/
def TensOwn (w : World) (B : Nat) (a : Option Addr) (ts : List TenD) : Prop :=
  ts = [] ∨ ∃ g o cur t T, a = some ⟨g, o, none⟩ ∧ B ≤ g ∧ w.heap[g]? = some (.cells cur t (0, 0)) ∧ T g = 0 ∧ ∀ i (h : i < ts.length), TenOwn w B T i g (o + i * 4) ts[i]
theorem TenOwn.at {w : World} {B i b o : Nat} {T : Nat → Nat} {t : TenD} (h : TenOwn w B T i b o t) : TenAt w b o t := by
  obtain ⟨a1, c1, a2, c2, h0, h1, h2, h3, h4, h5⟩ := h
  exact ⟨a1, c1, a2, c2, h0, h1, h2, h3, h4.pairs, h5.pairs⟩
theorem TensOwn.tens {w : World} {B : Nat} {a : Option Addr} {ts : List TenD} (h : TensOwn w B a ts) : TensIn w a ts := by
  rcases h with h | ⟨g, o, cur, t, T, rfl, _, hb, _, h⟩
  · exact Or.inl h
  · exact Or.inr ⟨g, o, rfl, lt_of_block hb, fun i hi => (h i hi).at⟩
theorem TenOwn.keep {w w' : World} {B i b o : Nat} {T T' : Nat → Nat} {t : TenD} (h : TenOwn w B T i b o t) (hc : ∀ j, j < 4 → w'.cell? ⟨b, o + j, none⟩ = w.cell? ⟨b, o + j, none⟩)
    (hk : ∀ g, g < w.heap.size → B ≤ g → (T g = 2 * i + 1 ∨ T g = 2 * i + 2) → w'.heap[g]? = w.heap[g]? ∧ T' g = T g) : TenOwn w' B T' i b o t := by
  obtain ⟨a1, c1, a2, c2, h0, h1, h2, h3, h4, h5⟩ := h
  refine ⟨a1, c1, a2, c2, (hc 0 (by omega)).trans h0, (hc 1 (by omega)).trans h1, (hc 2 (by omega)).trans h2, (hc 3 (by omega)).trans h3, h4.keep fun g hg hB hT => ?_, h5.keep fun g hg hB hT => ?_⟩
  · obtain ⟨q1, q2⟩ := hk g hg hB (Or.inl hT); exact ⟨q1, q2.trans hT⟩
  · obtain ⟨q1, q2⟩ := hk g hg hB (Or.inr hT); exact ⟨q1, q2.trans hT⟩
theorem TensOwn.later {w w' : World} {B : Nat} {a : Option Addr} {ts : List TenD} (h : TensOwn w B a ts) (hb : Below w.heap.size w w') : TensOwn w' B a ts := by
  rcases h with h | ⟨g, o, cur, t, T, rfl, hB, hg, hT, h⟩
  · exact Or.inl h
  · have hlt := lt_of_block hg
    exact Or.inr ⟨g, o, cur, t, T, rfl, hB, (hb.block g hlt).trans hg, hT, fun i hi => (h i hi).keep (fun j _ => World.cell?_of_block (hb.block g hlt)) fun g' hg' _ _ => ⟨hb.block g' hg', rfl⟩⟩

def tenBulk (t : TenD) : Nat := t.name.size + (t.mets.length + pairBulk t.mets) + (t.sers.length + pairBulk t.sers)
def tensBulk : List TenD → Nat
  | [] => 0
  | f :: r => tenBulk f + tensBulk r
theorem tensBulk_append (a b : List TenD) : tensBulk (a ++ b) = tensBulk a + tensBulk b := by
  induction a with
  | nil => simp [tensBulk]
  | cons f r ih => simp [tensBulk, ih]; omega
theorem tensBulk_take_succ (fs : List TenD) (k : Nat) (h : k < fs.length) : tensBulk (fs.take (k + 1)) = tensBulk (fs.take k) + tenBulk fs[k] := by
  rw [List.take_succ_eq_append_getElem h, tensBulk_append]; simp [tensBulk]
theorem tensBulk_take_le (fs : List TenD) (k : Nat) : tensBulk (fs.take k) ≤ tensBulk fs := by
  have := tensBulk_append (fs.take k) (fs.drop k)
  rw [List.take_append_drop] at this; omega
def szTen (left : Int) (f : TenD) : Int := if (tenBulk f : Int) ≤ left then left - tenBulk f else -1
def szTens (left : Int) (fs : List TenD) : Int := if (fs.length + tensBulk fs : Int) ≤ left then left - fs.length - tensBulk fs else -1
def ShortTen (t : TenD) : Prop := t.name.size ≤ maxLen ∧ ShortP t.mets ∧ t.mets.length ≤ maxLen ∧ ShortP t.sers ∧ t.sers.length ≤ maxLen
def ShortT (fs : List TenD) : Prop := ∀ i (h : i < fs.length), ShortTen fs[i]
theorem tenBulk_at (fs : List TenD) (k : Nat) (h : k < fs.length) : tenBulk fs[k] ≤ tensBulk fs := by
  have h1 := tensBulk_take_succ fs k h
  have h2 := tensBulk_take_le fs (k + 1)
  omega
end Go.Proofs.YteajeifmllogiaaGreatDoor

namespace Go.Proofs.YteajeifmllogiaaGreatDoor
open Go.RowKit

/-- One bit of the register. -/
def crcBit (reg x : Nat) : Nat := if (reg + x) % 2 = 1 then (reg / 2) ^^^ 2197175160 else reg / 2
/-- The first k bits of a byte. -/
def crcBits (reg b : Nat) : Nat → Nat
  | 0 => reg
  | k + 1 => crcBit (crcBits reg b k) (b / 2 ^ k)
def crcByte (reg : Nat) (c : UInt8) : Nat := crcBits reg c.toNat 8
def crcL (l : List UInt8) : Nat := l.foldl crcByte 4294967295
def crcV (s : ByteArray) : Nat := 4294967295 - crcL s.data.toList

theorem crcBit_lt {reg x : Nat} (h : reg < 4294967296) : crcBit reg x < 4294967296 := by
  unfold crcBit
  split
  · exact Nat.xor_lt_two_pow (n := 32) (by omega) (by omega)
  · omega
theorem crcBits_lt {reg b : Nat} (h : reg < 4294967296) : ∀ k, crcBits reg b k < 4294967296
  | 0 => h
  | k + 1 => crcBit_lt (crcBits_lt h k)
theorem crcL_lt (l : List UInt8) : crcL l < 4294967296 := by
  have hg : ∀ (l : List UInt8) (r : Nat), r < 4294967296 → l.foldl crcByte r < 4294967296 := fun l => by
    induction l with
    | nil => exact fun r h => h
    | cons c l ih => exact fun r h => ih _ (crcBits_lt h 8)
  exact hg l _ (by omega)
theorem crcL_snoc (l : List UInt8) (c : UInt8) : crcL (l ++ [c]) = crcByte (crcL l) c := by simp [crcL]
theorem crcV_lt (s : ByteArray) : crcV s < 4294967296 := by unfold crcV; omega

theorem xor_i64 (a b : Nat) (ha : a < 4611686018427387904) (hb : b < 4611686018427387904) : bits .xor .i64 (a : Int) (b : Int) = ((a ^^^ b : Nat) : Int) := by
  have hx : a ^^^ b < 2 ^ 62 := Nat.xor_lt_two_pow (by omega) (by omega)
  show IntKind.i64.wrap ((BitVec.ofInt 64 (a : Int) ^^^ BitVec.ofInt 64 (b : Int)).toNat : Int) = _
  rw [BitVec.toNat_xor, BitVec.ofInt_natCast, BitVec.ofInt_natCast, BitVec.toNat_ofNat, BitVec.toNat_ofNat, Nat.mod_eq_of_lt (by omega), Nat.mod_eq_of_lt (by omega)]
  simp only [IntKind.wrap, IntKind.bits, IntKind.signed]
  simp
  omega
end Go.Proofs.YteajeifmllogiaaGreatDoor

