import Derived.Test.YtoecnlhnfhongaaDoorProg
import Derived.Test.YtoecnlhnfhongaaDoorJ01SmpB
import Derived.Test.YtoecnlhnfhongaaDoorJ03RqD
import Derived.Maps.OwnSet
import Derived.Deep.OwnRows
import Derived.Laws.OwnMore
import Derived.Tactics
import Derived.Deep.AppendLies
namespace Go.Proofs.YtoecnlhnfhongaaDoor
open Go.RowKit

def btwB (x lo hi : Int) : Bool := decide (lo ≤ x) && decide (x ≤ hi)

theorem between_any (x lo hi : Int) (w : World) : Calls Tryd.prog 31 #[.int .i64 x, .int .i64 lo, .int .i64 hi] w fun e w' => e = .returned (.bool (btwB x lo hi)) ∧ w' = w := by
  by_cases h1 : lo ≤ x
  · by_cases h2 : x ≤ hi
    · have e : btwB x lo hi = true := by simp [btwB, h1, h2]
      rw [e]
      go_enter Tryd.func31, Tryd.ntmps31
      go_wp2
      go_ret
      exact ⟨rfl, rfl⟩
    · have e : btwB x lo hi = false := by simp [btwB, h2]
      rw [e]
      go_enter Tryd.func31, Tryd.ntmps31
      go_wp2
      go_ret
      exact ⟨rfl, rfl⟩
  · have e : btwB x lo hi = false := by simp [btwB, h1]
    rw [e]
    go_enter Tryd.func31, Tryd.ntmps31
    go_wp2
    go_ret
    exact ⟨rfl, rfl⟩

theorem take_snoc (s : ByteArray) (k : Nat) (h : k < s.size) : s.data.toList.take (k + 1) = s.data.toList.take k ++ [s[k]] := by
  rw [List.take_succ_eq_append_getElem (by simpa using h)]; rfl

end Go.Proofs.YtoecnlhnfhongaaDoor

namespace Go.Proofs.YtoecnlhnfhongaaDoor
open Go.RowKit

theorem or_i64 (a b : Nat) (ha : a < 4611686018427387904) (hb : b < 4611686018427387904) : bits .or .i64 (a : Int) (b : Int) = ((a ||| b : Nat) : Int) := by
  have hx : a ||| b < 2 ^ 62 := Nat.or_lt_two_pow (by omega) (by omega)
  show IntKind.i64.wrap ((BitVec.ofInt 64 (a : Int) ||| BitVec.ofInt 64 (b : Int)).toNat : Int) = _
  rw [BitVec.toNat_or, BitVec.ofInt_natCast, BitVec.ofInt_natCast, BitVec.toNat_ofNat, BitVec.toNat_ofNat, Nat.mod_eq_of_lt (by omega), Nat.mod_eq_of_lt (by omega)]
  simp only [IntKind.wrap, IntKind.bits, IntKind.signed]
  simp
  omega
theorem or_low (a b : Nat) (hb : b < 256) (ha : a < 281474976710656) : bits .or .i64 ((a : Int) * 256) (b : Int) = ((a * 256 + b : Nat) : Int) := by
  have hx : a * 256 ||| b = a * 256 + b := by
    have := Nat.two_pow_add_eq_or_of_lt (i := 8) (b := b) (by omega) a
    rw [show 2 ^ 8 * a = a * 256 by omega] at this
    exact this.symm
  rw [← hx]
  exact or_i64 (a * 256) b (by omega) (by omega)

set_option maxRecDepth 100000 in
set_option maxHeartbeats 1000000 in
theorem implNum_any (s : ByteArray) (w : World) (hs : s.size ≤ 7) :
    Calls Tryd.prog 68 #[.string s] w fun e w' => e = .returned (.int .i64 (beL s.data.toList : Nat)) ∧ w' = w := by
  go_enter Tryd.func68, Tryd.ntmps68
  go_wp2
  go_loopw [3, 4, 7] (fun x _ c wr => ∃ (k X : Nat), k ≤ s.size ∧ c = .int .i64 k ∧ x = .int .i64 X ∧ X < 256 ^ k ∧ Hid (X = beL (s.data.toList.take k)) ∧ wr = w) (fun _ _ c _ => s.size - (intOf c).toNat)
  case atStart => exact ⟨0, 0, by omega, rfl, rfl, by simp, by show _ = _; simp [beL], rfl⟩
  case round =>
    obtain ⟨k, X, hk, rfl, rfl, hX, hx, rfl⟩ := hrel
    by_cases hlt : k < s.size
    · have hc := (s[k]).toNat_lt
      have hX6 : X < 281474976710656 := Nat.lt_of_lt_of_le hX (Nat.pow_le_pow_right (n := 256) (by omega) (show k ≤ 6 by omega))
      have ho := or_low X (s[k]).toNat (by omega) (by omega)
      go_wp2
      refine ⟨⟨k + 1, X * 256 + (s[k]).toNat, by omega, by go_num, ?_, ?_, ?_, trivial⟩, by simp [intOf]; omega⟩
      · go_num
      · rw [Nat.pow_succ]; omega
      · show _ = _
        rw [take_snoc s k hlt, beL_snoc, ← hx.out]
    · have e : k = s.size := by omega
      subst e
      go_wp2
      go_ret
      refine ⟨?_, rfl⟩
      show Ending.returned (.int .i64 (X : Nat)) = _
      rw [hx.out, List.take_of_length_le (by simp)]
end Go.Proofs.YtoecnlhnfhongaaDoor

namespace Go.Proofs.YtoecnlhnfhongaaDoor
open Go.RowKit

structure Turn (S : Nat → Prop) (w w' : World) : Prop where
  os : w'.os = w.os
  tape : w'.tape = w.tape
  output : w'.output = w.output
  size : w.heap.size ≤ w'.heap.size
  block : ∀ k, k < w.heap.size → ¬ S k → w'.heap[k]? = w.heap[k]?
theorem Turn.refl (S : Nat → Prop) (w : World) : Turn S w w := ⟨rfl, rfl, rfl, Nat.le_refl _, fun _ _ _ => rfl⟩
theorem Turn.trans {S : Nat → Prop} {a b c : World} (h : Turn S a b) (k : Turn (fun i => S i ∨ a.heap.size ≤ i) b c) : Turn S a c :=
  ⟨k.os.trans h.os, k.tape.trans h.tape, k.output.trans h.output, Nat.le_trans h.size k.size, fun i hi hn => (k.block i (Nat.lt_of_lt_of_le hi h.size) (fun h' => by rcases h' with h' | h'; exact hn h'; omega)).trans (h.block i hi hn)⟩
theorem Turn.trans' {S : Nat → Prop} {a b c : World} (h : Turn S a b) (k : Turn S b c) : Turn S a c :=
  ⟨k.os.trans h.os, k.tape.trans h.tape, k.output.trans h.output, Nat.le_trans h.size k.size, fun i hi hn => (k.block i (Nat.lt_of_lt_of_le hi h.size) hn).trans (h.block i hi hn)⟩
theorem Turn.mono {S S' : Nat → Prop} {a b : World} (h : Turn S a b) (hs : ∀ i, i < a.heap.size → S i → S' i) : Turn S' a b :=
  ⟨h.os, h.tape, h.output, h.size, fun i hi hn => h.block i hi (fun h' => hn (hs i hi h'))⟩
theorem Turn.of {S : Nat → Prop} {a b : World} (h : Below a.heap.size a b) : Turn S a b := ⟨h.os, h.tape, h.output, h.size, fun k hk _ => h.block k hk⟩
theorem Turn.but {g : Nat} {a b : World} (h : But g a b) : Turn (· = g) a b := ⟨h.os, h.tape, h.output, h.size, fun k hk hn => h.block k hk hn⟩
theorem Turn.grown {r : Option Nat} {a b : World} (h : a.grownBy b r) : Turn (fun k => r = some k) a b := ⟨h.os, h.tape, h.output, h.size, fun k hk hn => h.block k hk (fun e => hn e.symm)⟩
theorem Turn.below {S : Nat → Prop} {B : Nat} {a b : World} (h : Turn S a b) (hB : B ≤ a.heap.size) (hs : ∀ k, k < B → ¬ S k) : Below B a b :=
  ⟨h.os, h.tape, h.output, h.size, fun k hk => h.block k (by omega) (hs k hk)⟩
theorem Turn.drew {S : Nat → Prop} {a b : World} (h : Turn S a b) : Turn S a b.drew := ⟨h.os, h.tape, h.output, h.size, h.block⟩
theorem Turn.alloc {S : Nat → Prop} {a b : World} (h : Turn S a b) (o : Obj) : Turn S a (b.alloc o) := h.trans' (Turn.of (bnew _ _))
theorem Turn.setCell {S : Nat → Prop} {a b : World} (h : Turn S a b) {g : Nat} (hg : S g ∨ a.heap.size ≤ g) (o : Nat) (v : Value) : Turn S a (b.setCell ⟨g, o, none⟩ v) :=
  h.trans ((Turn.but ((But.refl g b).setCell o v)).mono fun i _ e => by subst e; exact hg)
theorem Turn.blk {S : Nat → Prop} {a b : World} (h : Turn S a b) {g : Nat} {cur : Array Value} {t : TypeId} (hb : Blk a g cur t) (hg : ¬ S g) : Blk b g cur t := (h.block g (lt_of_block hb) hg).trans hb
theorem Turn.row {S : Nat → Prop} {a b : World} (h : Turn S a b) {B : Nat} {e : TypeId} {size : Nat} {v : Value} {n : Nat} {xs : List Value} (hr : a.ownsRow B e size v n xs) (hg : ∀ g, v.ownBlock = some g → ¬ S g) : b.ownsRow B e size v n xs := by
  refine ⟨hr.1, ?_⟩
  rcases hr.2 with h0 | ⟨g, cap, cur, rfl, hB, hb, r⟩
  · exact Or.inl h0
  · exact Or.inr ⟨g, cap, cur, rfl, hB, (h.block g (lt_of_block hb) (hg g rfl)).trans hb, r⟩
theorem Turn.map {H : Type} {S : Nat → Prop} {a b : World} (h : Turn S a b) {P : Program} {k : TypeId} {R : Value → Option (DataW H × List MemPlace)} {m n : Nat} {D : DataW H} (hm : a.ownsMap P k R m n D) (hg : ¬ S m) : b.ownsMap P k R m n D := by
  have hlt := hm.lt
  obtain ⟨es, clock, hb, r⟩ := hm
  exact ⟨es, clock, (h.block m hlt hg).trans hb, r⟩
end Go.Proofs.YtoecnlhnfhongaaDoor

namespace Go.Proofs.YtoecnlhnfhongaaDoor
open Go.RowKit

theorem or_high (a b : Nat) (hb : b < 256) (ha : a < 72057594037927936) : bits .or .i64 (IntKind.i64.wrap ((a : Int) * 256)) (b : Int) = wrapN (a * 256 + b) := by
  have hx : a * 256 ||| b = a * 256 + b := by
    have := Nat.two_pow_add_eq_or_of_lt (i := 8) (b := b) (by omega) a
    rw [show 2 ^ 8 * a = a * 256 by omega] at this
    exact this.symm
  have hof : BitVec.ofInt 64 (IntKind.i64.wrap ((a : Int) * 256)) = BitVec.ofNat 64 (a * 256) := by
    have e : ((a : Int) * 256) = ((a * 256 : Nat) : Int) := by omega
    rw [e]
    apply BitVec.eq_of_toNat_eq
    rw [BitVec.toNat_ofInt, BitVec.toNat_ofNat]
    unfold IntKind.wrap
    simp only [IntKind.bits, IntKind.signed]
    simp
    omega
  show IntKind.i64.wrap ((BitVec.ofInt 64 (IntKind.i64.wrap ((a : Int) * 256)) ||| BitVec.ofInt 64 (b : Int)).toNat : Int) = _
  rw [hof, BitVec.toNat_or, BitVec.ofInt_natCast, BitVec.toNat_ofNat, BitVec.toNat_ofNat, Nat.mod_eq_of_lt (by omega), Nat.mod_eq_of_lt (by omega), hx]
  rfl

set_option maxRecDepth 100000 in
set_option maxHeartbeats 1000000 in
theorem implNumW_any (s : ByteArray) (w : World) (hs : s.size ≤ 8) :
    Calls Tryd.prog 68 #[.string s] w fun e w' => e = .returned (.int .i64 (wrapN (beL s.data.toList))) ∧ w' = w := by
  go_enter Tryd.func68, Tryd.ntmps68
  go_wp2
  go_loopw [3, 4, 7] (fun x _ c wr => ∃ (k X : Nat) (Z : Int), k ≤ s.size ∧ c = .int .i64 k ∧ x = .int .i64 Z ∧ X < 256 ^ k ∧ Hid (X = beL (s.data.toList.take k)) ∧ Hid (Z = wrapN X) ∧ wr = w) (fun _ _ c _ => s.size - (intOf c).toNat)
  case atStart => exact ⟨0, 0, 0, by omega, rfl, rfl, by simp, by show _ = _; simp [beL], by show _ = _; rw [wrapN_small (by omega)]; rfl, rfl⟩
  case round =>
    obtain ⟨k, X, Z, hk, rfl, rfl, hX, hx, hZ, rfl⟩ := hrel
    by_cases hlt : k < s.size
    · have hc := (s[k]).toNat_lt
      have hX7 : X < 72057594037927936 := Nat.lt_of_lt_of_le hX (Nat.pow_le_pow_right (n := 256) (by omega) (show k ≤ 7 by omega))
      have hZ2 : Z = (X : Int) := by rw [hZ.out, wrapN_small (by omega)]
      subst hZ2
      have ho := or_high X (s[k]).toNat (by omega) (by omega)
      go_wp2
      refine ⟨⟨k + 1, X * 256 + (s[k]).toNat, wrapN (X * 256 + (s[k]).toNat), by omega, by go_num, ?_, ?_, ?_, rfl, trivial⟩, by simp [intOf]; omega⟩
      · exact congrArg (Value.int .i64) (by rw [← ho, IntKind.wrap_i64, wrap64])
      · rw [Nat.pow_succ]; omega
      · show _ = _
        rw [take_snoc s k hlt, beL_snoc, ← hx.out]
    · have e : k = s.size := by omega
      subst e
      go_wp2
      go_ret
      refine ⟨?_, rfl⟩
      show Ending.returned (.int .i64 Z) = _
      rw [hZ.out, hx.out, List.take_of_length_le (by simp)]

/-- The reader r lies in block B, whatever the block's type. -/
def RT (w : World) (B : Nat) (r : Rd) : Prop := ∃ t, Blk w B #[.string r.rest, .bool r.short] t

set_option maxRecDepth 100000 in
set_option maxHeartbeats 1000000 in
theorem takeT_any (B : Nat) (r : Rd) (n : Nat) (w : World) (hB : RT w B r) (hn : n ≤ 70000) (hs : r.rest.size ≤ 1000000000) :
    Calls Tryd.prog 69 #[.pointer (some ⟨B, 0, none⟩), .int .i64 (n : Nat)] w fun e w' => e = .returned (.string (takeR n r).1) ∧ RT w' B (takeR n r).2 ∧ But B w w' := by
  obtain ⟨tt, hB⟩ := hB
  have HB : Hid (Blk w B #[.string r.rest, .bool r.short] tt) := hB
  have x0 := Blk.cell hB 0
  have x1 := Blk.cell hB 1
  simp only [List.getElem?_toArray, List.getElem?_cons_zero, List.getElem?_cons_succ] at x0 x1
  have f0 := Blk.free hB 0
  have f1 := Blk.free hB 1
  obtain ⟨rest, short⟩ := r
  simp only at x0 x1 hs
  clear hB
  by_cases h : rest.size < n
  · have E : Hid (takeR n ⟨rest, short⟩ = (ByteArray.empty, ⟨rest, true⟩)) := by show _ = _; unfold takeR; rw [if_pos h]
    rw [E.out]
    go_enter Tryd.func69, Tryd.ntmps69
    go_wp2
    go_ret
    exact ⟨rfl, ⟨tt, Blk.set HB.out 1 (.bool true)⟩, (But.refl _ _).setCell _ _⟩
  · have E : Hid (takeR n ⟨rest, short⟩ = (rest.extract 0 n, ⟨rest.extract n rest.size, short⟩)) := by show _ = _; unfold takeR; rw [if_neg h]
    have h' : ¬ ((rest.size : Int) < (n : Int)) := by omega
    rw [E.out]
    go_enter Tryd.func69, Tryd.ntmps69
    go_wp2
    go_ret
    exact ⟨rfl, ⟨tt, Blk.set HB.out 0 (.string (rest.extract n rest.size))⟩, (But.refl _ _).setCell _ _⟩

set_option maxRecDepth 100000 in
theorem numberT_any (B : Nat) (r : Rd) (k : Nat) (w : World) (hB : RT w B r) (hk : k ≤ 8) (hs : r.rest.size ≤ 1000000000) :
    Calls Tryd.prog 58 #[.pointer (some ⟨B, 0, none⟩), .int .i64 (k : Nat)] w fun e w' => e = .returned (.int .i64 (wrapN (numR k r).1)) ∧ RT w' B (numR k r).2 ∧ But B w w' := by
  have HC : Hid (Calls Tryd.prog 69 #[.pointer (some ⟨B, 0, none⟩), .int .i64 (k : Nat)] w fun e w' => e = .returned (.string (takeR k r).1) ∧ RT w' B (takeR k r).2 ∧ But B w w') := takeT_any B r k w hB (by omega) hs
  have HN : Hid (∀ W, Calls Tryd.prog 68 #[.string (takeR k r).1] W fun e w' => e = .returned (.int .i64 (wrapN (beL (takeR k r).1.data.toList))) ∧ w' = W) := fun W => implNumW_any _ W (by have := (take_le k r).1; omega)
  show Calls _ _ _ _ fun e w' => e = .returned (.int .i64 (wrapN (beL (takeR k r).1.data.toList))) ∧ RT w' B (takeR k r).2 ∧ But B w w'
  clear hB
  generalize beL (takeR k r).1.data.toList = N at *
  generalize (takeR k r).1 = T at *
  generalize (takeR k r).2 = r' at *
  go_enter Tryd.func58, Tryd.ntmps58
  go_wp2_with fail
  refine HC.out.mono ?_
  rintro e w1 ⟨rfl, hr1, hb1⟩
  have H1 : Hid (RT w1 B r' ∧ But B w w1) := ⟨hr1, hb1⟩
  clear hr1 hb1 HC
  go_wp2_with fail
  refine (HN.out _).mono ?_
  rintro e w2 ⟨rfl, hw⟩
  replace hw := hw.symm
  subst hw
  go_wp2
  go_ret
  exact ⟨rfl, H1.out⟩

set_option maxRecDepth 100000 in
theorem textT_any (B : Nat) (r : Rd) (k : Nat) (w : World) (hB : RT w B r) (hk : k ≤ 2) (hs : r.rest.size ≤ 1000000000) :
    Calls Tryd.prog 59 #[.pointer (some ⟨B, 0, none⟩), .int .i64 (k : Nat)] w fun e w' => e = .returned (.string (textR k r).1) ∧ RT w' B (textR k r).2 ∧ But B w w' := by
  have HC : Hid (Calls Tryd.prog 58 #[.pointer (some ⟨B, 0, none⟩), .int .i64 (k : Nat)] w fun e w' => e = .returned (.int .i64 (wrapN (numR k r).1)) ∧ RT w' B (numR k r).2 ∧ But B w w') := numberT_any B r k w hB (by omega) hs
  have hlt : (numR k r).1 < 65536 := by
    have h1 := num_lt k r
    have h2 : 256 ^ k ≤ 256 ^ 2 := Nat.pow_le_pow_right (by omega) hk
    omega
  have hsz : (numR k r).2.rest.size ≤ 1000000000 := by
    have := (take_le k r).2.2
    show (takeR k r).2.rest.size ≤ _
    omega
  have HT : Hid (∀ W, RT W B (numR k r).2 → Calls Tryd.prog 69 #[.pointer (some ⟨B, 0, none⟩), .int .i64 ((numR k r).1 : Nat)] W fun e w' => e = .returned (.string (textR k r).1) ∧ RT w' B (textR k r).2 ∧ But B W w') := fun W h => takeT_any B _ _ W h (by omega) hsz
  rw [wrapN_small (by omega)] at HC
  clear hB
  generalize (textR k r).1 = T at *
  generalize (textR k r).2 = r' at *
  generalize (numR k r).1 = N at *
  generalize (numR k r).2 = r1 at *
  go_enter Tryd.func59, Tryd.ntmps59
  go_wp2_with fail
  refine HC.out.mono ?_
  rintro e w1 ⟨rfl, hr1, hb1⟩
  have H1 : Hid (RT w1 B r1 ∧ But B w w1) := ⟨hr1, hb1⟩
  clear hr1 hb1 HC
  go_wp2_with fail
  refine (HT.out _ H1.out.1).mono ?_
  rintro e w2 ⟨rfl, hr2, hb2⟩
  have H2 : Hid (RT w2 B r' ∧ But B w w2) := ⟨hr2, H1.out.2.trans hb2⟩
  clear hr2 hb2
  go_wp2
  go_ret
  exact ⟨rfl, H2.out⟩


/-- What a decoder panics with. -/
def dcdP : List PanicEntry := [{ v := .iface 84 (.string ⟨#[116, 104, 101, 32, 116, 101, 120, 116, 32, 105, 115, 32, 110, 111, 32, 101, 110, 99, 111, 100, 105, 110, 103]⟩), recovered := false }]
theorem must_ok (p : Value) (w : World) : Calls Tryd.prog 27 #[p, .bool true] w fun e w' => e = .returned (.tuple #[]) ∧ w' = w := by
  go_enter Tryd.func27, Tryd.ntmps27
  go_wp2
  go_end0
  exact ⟨rfl, rfl⟩
theorem must_bad (p : Value) (w : World) : Calls Tryd.prog 27 #[p, .bool false] w fun e w' => e = .panicked dcdP ∧ w' = w := by
  go_enter Tryd.func27, Tryd.ntmps27
  go_wp2
  exact ⟨rfl, rfl, rfl⟩

set_option maxRecDepth 100000 in
theorem numD_ok (B : Nat) (r : Rd) (k : Nat) (w : World) (hB : RT w B r) (hk : k ≤ 8) (hs : r.rest.size ≤ 1000000000) (hsh : (numR k r).2.short = false) :
    Calls Tryd.prog 47 #[.pointer (some ⟨B, 0, none⟩), .int .i64 (k : Nat)] w fun e w' => e = .returned (.int .i64 (wrapN (numR k r).1)) ∧ RT w' B (numR k r).2 ∧ But B w w' := by
  have HC : Hid (Calls Tryd.prog 58 #[.pointer (some ⟨B, 0, none⟩), .int .i64 (k : Nat)] w fun e w' => e = .returned (.int .i64 (wrapN (numR k r).1)) ∧ RT w' B (numR k r).2 ∧ But B w w') := numberT_any B r k w hB hk hs
  clear hB
  generalize wrapN (numR k r).1 = N at *
  generalize (numR k r).2 = r1 at *
  go_enter Tryd.func47, Tryd.ntmps47
  go_wp2_with fail
  refine HC.out.mono ?_
  rintro e w1 ⟨rfl, hr1, hb1⟩
  have H1 : Hid (RT w1 B r1 ∧ But B w w1) := ⟨hr1, hb1⟩
  obtain ⟨tt, hblk⟩ := hr1
  have x1 : w1.cell? ⟨B, 1, none⟩ = some (.bool false) := (hblk.cell 1).trans (by rw [hsh]; rfl)
  clear hb1 hblk HC hsh
  go_wp2_with fail
  refine (must_ok _ _).mono ?_
  rintro e w2 ⟨rfl, hw⟩
  replace hw := hw.symm
  subst hw
  go_wp2
  go_ret
  exact ⟨rfl, H1.out⟩
set_option maxRecDepth 100000 in
theorem numD_bad (B : Nat) (r : Rd) (k : Nat) (w : World) (hB : RT w B r) (hk : k ≤ 8) (hs : r.rest.size ≤ 1000000000) (hsh : (numR k r).2.short = true) :
    Calls Tryd.prog 47 #[.pointer (some ⟨B, 0, none⟩), .int .i64 (k : Nat)] w fun e w' => e = .panicked dcdP ∧ But B w w' := by
  have HC : Hid (Calls Tryd.prog 58 #[.pointer (some ⟨B, 0, none⟩), .int .i64 (k : Nat)] w fun e w' => e = .returned (.int .i64 (wrapN (numR k r).1)) ∧ RT w' B (numR k r).2 ∧ But B w w') := numberT_any B r k w hB hk hs
  clear hB
  generalize wrapN (numR k r).1 = N at *
  generalize (numR k r).2 = r1 at *
  go_enter Tryd.func47, Tryd.ntmps47
  go_wp2_with fail
  refine HC.out.mono ?_
  rintro e w1 ⟨rfl, hr1, hb1⟩
  have H1 : Hid (RT w1 B r1 ∧ But B w w1) := ⟨hr1, hb1⟩
  obtain ⟨tt, hblk⟩ := hr1
  have x1 : w1.cell? ⟨B, 1, none⟩ = some (.bool true) := (hblk.cell 1).trans (by rw [hsh]; rfl)
  clear hb1 hblk HC hsh
  go_wp2_with fail
  refine (must_bad _ _).mono ?_
  rintro e w2 ⟨rfl, hw⟩
  replace hw := hw.symm
  subst hw
  exact ⟨rfl, rfl, H1.out.2⟩
set_option maxRecDepth 100000 in
theorem strD_ok (B : Nat) (r : Rd) (k : Nat) (w : World) (hB : RT w B r) (hk : k ≤ 2) (hs : r.rest.size ≤ 1000000000) (hsh : (textR k r).2.short = false) :
    Calls Tryd.prog 48 #[.pointer (some ⟨B, 0, none⟩), .int .i64 (k : Nat)] w fun e w' => e = .returned (.string (textR k r).1) ∧ RT w' B (textR k r).2 ∧ But B w w' := by
  have HC : Hid (Calls Tryd.prog 59 #[.pointer (some ⟨B, 0, none⟩), .int .i64 (k : Nat)] w fun e w' => e = .returned (.string (textR k r).1) ∧ RT w' B (textR k r).2 ∧ But B w w') := textT_any B r k w hB hk hs
  clear hB
  generalize (textR k r).1 = N at *
  generalize (textR k r).2 = r1 at *
  go_enter Tryd.func48, Tryd.ntmps48
  go_wp2_with fail
  refine HC.out.mono ?_
  rintro e w1 ⟨rfl, hr1, hb1⟩
  have H1 : Hid (RT w1 B r1 ∧ But B w w1) := ⟨hr1, hb1⟩
  obtain ⟨tt, hblk⟩ := hr1
  have x1 : w1.cell? ⟨B, 1, none⟩ = some (.bool false) := (hblk.cell 1).trans (by rw [hsh]; rfl)
  clear hb1 hblk HC hsh
  go_wp2_with fail
  refine (must_ok _ _).mono ?_
  rintro e w2 ⟨rfl, hw⟩
  replace hw := hw.symm
  subst hw
  go_wp2
  go_ret
  exact ⟨rfl, H1.out⟩
set_option maxRecDepth 100000 in
theorem strD_bad (B : Nat) (r : Rd) (k : Nat) (w : World) (hB : RT w B r) (hk : k ≤ 2) (hs : r.rest.size ≤ 1000000000) (hsh : (textR k r).2.short = true) :
    Calls Tryd.prog 48 #[.pointer (some ⟨B, 0, none⟩), .int .i64 (k : Nat)] w fun e w' => e = .panicked dcdP ∧ But B w w' := by
  have HC : Hid (Calls Tryd.prog 59 #[.pointer (some ⟨B, 0, none⟩), .int .i64 (k : Nat)] w fun e w' => e = .returned (.string (textR k r).1) ∧ RT w' B (textR k r).2 ∧ But B w w') := textT_any B r k w hB hk hs
  clear hB
  generalize (textR k r).1 = N at *
  generalize (textR k r).2 = r1 at *
  go_enter Tryd.func48, Tryd.ntmps48
  go_wp2_with fail
  refine HC.out.mono ?_
  rintro e w1 ⟨rfl, hr1, hb1⟩
  have H1 : Hid (RT w1 B r1 ∧ But B w w1) := ⟨hr1, hb1⟩
  obtain ⟨tt, hblk⟩ := hr1
  have x1 : w1.cell? ⟨B, 1, none⟩ = some (.bool true) := (hblk.cell 1).trans (by rw [hsh]; rfl)
  clear hb1 hblk HC hsh
  go_wp2_with fail
  refine (must_bad _ _).mono ?_
  rintro e w2 ⟨rfl, hw⟩
  replace hw := hw.symm
  subst hw
  exact ⟨rfl, rfl, H1.out.2⟩
end Go.Proofs.YtoecnlhnfhongaaDoor

namespace Go.Proofs.YtoecnlhnfhongaaDoor
open Go.RowKit

/-- The reader r lies in block B. -/
def RB (w : World) (B : Nat) (r : Rd) : Prop := Blk w B #[.string r.rest, .bool r.short] 58

set_option maxRecDepth 100000 in
set_option maxHeartbeats 1000000 in
theorem take_any (B : Nat) (r : Rd) (n : Nat) (w : World) (hB : RB w B r) (hn : n ≤ 70000) (hs : r.rest.size ≤ 1000000000) :
    Calls Tryd.prog 69 #[.pointer (some ⟨B, 0, none⟩), .int .i64 (n : Nat)] w fun e w' => e = .returned (.string (takeR n r).1) ∧ RB w' B (takeR n r).2 ∧ But B w w' := by
  have HB : Hid (RB w B r) := hB
  have x0 := Blk.cell hB 0
  have x1 := Blk.cell hB 1
  simp only [List.getElem?_toArray, List.getElem?_cons_zero, List.getElem?_cons_succ] at x0 x1
  have f0 := Blk.free hB 0
  have f1 := Blk.free hB 1
  obtain ⟨rest, short⟩ := r
  simp only at x0 x1 hs
  clear hB
  by_cases h : rest.size < n
  · have E : Hid (takeR n ⟨rest, short⟩ = (ByteArray.empty, ⟨rest, true⟩)) := by show _ = _; unfold takeR; rw [if_pos h]
    rw [E.out]
    go_enter Tryd.func69, Tryd.ntmps69
    go_wp2
    go_ret
    exact ⟨rfl, Blk.set HB.out 1 (.bool true), (But.refl _ _).setCell _ _⟩
  · have E : Hid (takeR n ⟨rest, short⟩ = (rest.extract 0 n, ⟨rest.extract n rest.size, short⟩)) := by show _ = _; unfold takeR; rw [if_neg h]
    have h' : ¬ ((rest.size : Int) < (n : Int)) := by omega
    rw [E.out]
    go_enter Tryd.func69, Tryd.ntmps69
    go_wp2
    go_ret
    exact ⟨rfl, Blk.set HB.out 0 (.string (rest.extract n rest.size)), (But.refl _ _).setCell _ _⟩

set_option maxRecDepth 100000 in
theorem number_any (B : Nat) (r : Rd) (k : Nat) (w : World) (hB : RB w B r) (hk : k ≤ 2) (hs : r.rest.size ≤ 1000000000) :
    Calls Tryd.prog 58 #[.pointer (some ⟨B, 0, none⟩), .int .i64 (k : Nat)] w fun e w' => e = .returned (.int .i64 ((numR k r).1 : Nat)) ∧ RB w' B (numR k r).2 ∧ But B w w' := by
  have HC : Hid (Calls Tryd.prog 69 #[.pointer (some ⟨B, 0, none⟩), .int .i64 (k : Nat)] w fun e w' => e = .returned (.string (takeR k r).1) ∧ RB w' B (takeR k r).2 ∧ But B w w') := take_any B r k w hB (by omega) hs
  have HN : Hid (∀ W, Calls Tryd.prog 68 #[.string (takeR k r).1] W fun e w' => e = .returned (.int .i64 (beL (takeR k r).1.data.toList : Nat)) ∧ w' = W) := fun W => implNum_any _ W (by have := (take_le k r).1; omega)
  show Calls _ _ _ _ fun e w' => e = .returned (.int .i64 (beL (takeR k r).1.data.toList : Nat)) ∧ RB w' B (takeR k r).2 ∧ But B w w'
  clear hB
  generalize beL (takeR k r).1.data.toList = N at *
  generalize (takeR k r).1 = T at *
  generalize (takeR k r).2 = r' at *
  go_enter Tryd.func58, Tryd.ntmps58
  go_wp2_with fail
  refine HC.out.mono ?_
  rintro e w1 ⟨rfl, hr1, hb1⟩
  have H1 : Hid (RB w1 B r' ∧ But B w w1) := ⟨hr1, hb1⟩
  clear hr1 hb1 HC
  go_wp2_with fail
  refine (HN.out _).mono ?_
  rintro e w2 ⟨rfl, hw⟩
  replace hw := hw.symm
  subst hw
  go_wp2
  go_ret
  exact ⟨rfl, H1.out⟩

set_option maxRecDepth 100000 in
theorem text_any (B : Nat) (r : Rd) (k : Nat) (w : World) (hB : RB w B r) (hk : k ≤ 2) (hs : r.rest.size ≤ 1000000000) :
    Calls Tryd.prog 59 #[.pointer (some ⟨B, 0, none⟩), .int .i64 (k : Nat)] w fun e w' => e = .returned (.string (textR k r).1) ∧ RB w' B (textR k r).2 ∧ But B w w' := by
  have HC : Hid (Calls Tryd.prog 58 #[.pointer (some ⟨B, 0, none⟩), .int .i64 (k : Nat)] w fun e w' => e = .returned (.int .i64 ((numR k r).1 : Nat)) ∧ RB w' B (numR k r).2 ∧ But B w w') := number_any B r k w hB hk hs
  have hlt : (numR k r).1 < 65536 := by
    have h1 := num_lt k r
    have h2 : 256 ^ k ≤ 256 ^ 2 := Nat.pow_le_pow_right (by omega) hk
    omega
  have hsz : (numR k r).2.rest.size ≤ 1000000000 := by
    have := (take_le k r).2.2
    show (takeR k r).2.rest.size ≤ _
    omega
  have HT : Hid (∀ W, RB W B (numR k r).2 → Calls Tryd.prog 69 #[.pointer (some ⟨B, 0, none⟩), .int .i64 ((numR k r).1 : Nat)] W fun e w' => e = .returned (.string (textR k r).1) ∧ RB w' B (textR k r).2 ∧ But B W w') := fun W h => take_any B _ _ W h (by omega) hsz
  clear hB
  generalize (textR k r).1 = T at *
  generalize (textR k r).2 = r' at *
  generalize (numR k r).1 = N at *
  generalize (numR k r).2 = r1 at *
  go_enter Tryd.func59, Tryd.ntmps59
  go_wp2_with fail
  refine HC.out.mono ?_
  rintro e w1 ⟨rfl, hr1, hb1⟩
  have H1 : Hid (RB w1 B r1 ∧ But B w w1) := ⟨hr1, hb1⟩
  clear hr1 hb1 HC
  go_wp2_with fail
  refine (HT.out _ H1.out.1).mono ?_
  rintro e w2 ⟨rfl, hr2, hb2⟩
  have H2 : Hid (RB w2 B r' ∧ But B w w2) := ⟨hr2, H1.out.2.trans hb2⟩
  clear hr2 hb2
  go_wp2
  go_ret
  exact ⟨rfl, H2.out⟩

theorem row_but0 {w w' : World} {B base : Nat} {e : TypeId} {size : Nat} {v : Value} {n : Nat} {xs : List Value} (h : w.ownsRow base e size v n xs) (hb : But B w w') (hB : B < base) : w'.ownsRow base e size v n xs := by
  obtain ⟨h1, h2⟩ := h
  refine ⟨h1, ?_⟩
  rcases h2 with h2 | ⟨g, cap, cur, hv, hg, hh, r⟩
  · exact Or.inl h2
  · exact Or.inr ⟨g, cap, cur, hv, hg, (hb.block g (lt_of_block hh) (by omega)).trans hh, r⟩
theorem But.alloc {B : Nat} {w w' : World} (h : But B w w') (o : Obj) : But B w (w'.alloc o) := h.trans (But.of (bnew _ _))
end Go.Proofs.YtoecnlhnfhongaaDoor

namespace Go.Proofs.YtoecnlhnfhongaaDoor
open Go.RowKit

theorem info_label : (Tryd.prog.info? 56).map (fun i => (i.zero, i.size, i.bytes)) = some (some (.agg #[.string ByteArray.empty, .string ByteArray.empty]), 2, 32) := by kernel_rfl

/-- make of n labels: a new block of n * 2 cells. -/
theorem make_labels (n : Nat) (hn : n ≤ 1048576) (w : World) :
    (Instr.makeSlice 52 (.int .i64 (n : Int)) (.int .i64 (n : Int))).run Tryd.prog w = .ok (.slice (some ⟨w.heap.size, 0, none⟩) n n) (w.alloc (.cells (madeCells #[.string ByteArray.empty, .string ByteArray.empty] (n * 2)) 56)) := by
  obtain ⟨i, hi, hzz⟩ := Option.map_eq_some_iff.1 info_label
  simp only [Prod.mk.injEq] at hzz
  obtain ⟨hz, hs, hb⟩ := hzz
  have hr := run_make (P := Tryd.prog) w 52 56 i _ Tryd.underlying52 hi hz .i64 .i64 n n (by omega) (Int.le_refl _) (by rw [hb]; omega) (by omega)
  simp only [Int.toNat_natCast, hs] at hr
  exact hr

/-- The block g holds n labels' cells, the first k of them fs's. -/
def FillL (w : World) (g n : Nat) (fs : List LabD) (k : Nat) : Prop := ∃ cur : Array Value, w.heap[g]? = some (.cells cur 56 (0, 0)) ∧ cur.size = n * 2 ∧
  ∀ i (h : i < fs.length), i < k → cur[i * 2]? = some (.string fs[i].name) ∧ cur[i * 2 + 1]? = some (.string fs[i].value)
theorem FillL.later {w w' : World} {g n k : Nat} {fs : List LabD} {B : Nat} (h : FillL w g n fs k) (hb : Below B w w') (hg : g < B) : FillL w' g n fs k := by
  obtain ⟨cur, h1, h2⟩ := h
  exact ⟨cur, by rw [hb.block g hg]; exact h1, h2⟩
theorem FillL.cells {w : World} {g n k : Nat} {fs : List LabD} (h : FillL w g n fs k) {j : Nat} (hj : j < n * 2) : (∃ v, w.cell? ⟨g, j, none⟩ = some v) ∧ w.frozen? ⟨g, j, none⟩ = false := by
  obtain ⟨cur, h1, h2, _⟩ := h
  refine ⟨⟨cur[j], ?_⟩, frozen_of_row w g j cur _ h1⟩
  rw [cell_of_row w g j cur _ _ h1]
  exact Array.getElem?_eq_getElem (by omega)
theorem FillL.step {w : World} {g n k : Nat} {fs : List LabD} (h : FillL w g n fs k) (hk : k < fs.length) (hn : fs.length ≤ n) :
    FillL ((w.setCell ⟨g, k * 2, none⟩ (.string fs[k].name)).setCell ⟨g, k * 2 + 1, none⟩ (.string fs[k].value)) g n fs (k + 1) := by
  obtain ⟨cur, h1, h2, h3⟩ := h
  refine ⟨_, heap_setCell_same _ _ _ _ _ _ (heap_setCell_same _ _ _ _ _ _ h1), by simp [h2], fun i hi hlt => ?_⟩
  by_cases e : i = k
  · subst e
    refine ⟨?_, ?_⟩ <;> simp [Array.getElem?_setIfInBounds] <;> omega
  · obtain ⟨a1, a2⟩ := h3 i hi (by omega)
    refine ⟨?_, ?_⟩
    · rw [Array.getElem?_setIfInBounds_ne (by omega), Array.getElem?_setIfInBounds_ne (by omega)]; exact a1
    · rw [Array.getElem?_setIfInBounds_ne (by omega), Array.getElem?_setIfInBounds_ne (by omega)]; exact a2
theorem FillL.done {w : World} {g B : Nat} {fs : List LabD} (h : FillL w g fs.length fs fs.length) (hB : B ≤ g) : LabsOwn w B (some ⟨g, 0, none⟩) fs := by
  obtain ⟨cur, h1, h2, h3⟩ := h
  refine Or.inr ⟨g, 0, cur, _, rfl, hB, h1, fun i hi => ?_⟩
  obtain ⟨a1, a2⟩ := h3 i hi hi
  simp only [cell_of_row w g _ cur _ _ h1, Nat.zero_add]
  exact ⟨a1, a2⟩

end Go.Proofs.YtoecnlhnfhongaaDoor

namespace Go.Proofs.YtoecnlhnfhongaaDoor
open Go.RowKit

/-- Nothing is appended, whatever the address and the cap of what is empty. -/
theorem run_append_empty {P : Program} {w : World} (base : Nat) (t ty e : TypeId) (i : TypeInfo) (size : Nat) (ht : P.underlying t = some (.slice e)) (hi : P.info? e = some i)
    (v : Value) (n : Nat) (xs : List Value) (hown : w.ownsRow base e size v n xs) (a2 : Option Addr) (c2 : Nat) :
    (Builtin.append_ #[t, t] ty #[v, .slice a2 0 c2]).run P w = .ok v w := by
  have hl : ∀ ad : Addr, (loadCells ad 0).run P w = .ok #[] w := fun ad => by
    simp [loadCells, loadCellsFrom]
  rcases hown.2 with ⟨rfl, rfl⟩ | ⟨g, cap, cur, rfl, _, _, hnc, _⟩
  · cases a2 <;> simp [Builtin.append_, run_underlying ht, sizeOf, typeInfo, hi, Builtin.lenOf, Builtin.firstCells, hl]
  · cases a2 <;> simp [Builtin.append_, run_underlying ht, sizeOf, typeInfo, hi, Builtin.lenOf, Builtin.firstCells, hnc, storeCells, hl]
theorem wpList_append_empty {P : Program} {w : World} {ops : Array Oper} {rest : List Oper} {o : Oper} {a : Act} {Q : Exit → Act → World → Prop} (hgd : o.guard = none) (s x : Operand) (t : TypeId)
    (ho : o.op = .call { callee := .builtin .append, args := #[s, x], argTypes := #[t, t] })
    (base : Nat) (e : TypeId) (i : TypeInfo) (size : Nat) (ht : P.underlying t = some (.slice e)) (hi : P.info? e = some i)
    (v : Value) (n : Nat) (xs : List Value) (hs : a.eval s = v) (hown : w.ownsRow base e size v n xs) (a2 : Option Addr) (c2 : Nat) (hx : a.eval x = .slice a2 0 c2)
    (h : wpList P ops Q rest (a.put o.dst v) w) : wpList P ops Q (o :: rest) a w := by
  refine wpList_plain hgd fun K hK => ?_
  have hrun := run_append_empty (P := P) (w := w) base t o.type e i size ht hi v n xs hown a2 c2
  unfold Oper.wp
  simp [execOp, ho, resolve, invoke, builtin, hs, hx, hrun, Result.andThen]
  exact hK _ _ h
end Go.Proofs.YtoecnlhnfhongaaDoor

namespace Go.Proofs.YtoecnlhnfhongaaDoor
open Go.RowKit

theorem row_from {w : World} {B : Nat} {e : TypeId} {size : Nat} {v : Value} {n : Nat} {xs : List Value} (h : w.ownsRow B e size v n xs) : ∀ g, v.ownBlock = some g → B ≤ g := by
  intro g hg
  rcases h.2 with ⟨rfl, _⟩ | ⟨g', cap, cur, rfl, hB, _⟩
  · simp [Value.ownBlock] at hg
  · simp [Value.ownBlock] at hg
    subst hg
    exact hB
def SrcAt (w : World) (ad : Option Addr) (m : Nat) (news : List Value) : Prop := m = 0 ∨ ∃ A, ad = some A ∧ ∀ j u, news[j]? = some u → w.cell? (A.add j) = some u
theorem addr_add (b o j : Nat) : (⟨b, o, none⟩ : Addr).add j = ⟨b, o + j, none⟩ := by unfold Addr.add; split <;> simp_all
theorem bel_a (W : World) (x : Obj) : Below W.heap.size W (W.alloc x).drew := (bnew _ _).drew
theorem bel_b (W : World) (x y : Obj) : Below W.heap.size W ((W.alloc x).alloc y).drew := (bto (bnew _ _) (bnew _ _)).drew
/-- An append of labels, many or none, onto a slice that is not nil, at a step of a region that draws its order. -/
theorem step_append_any {P : Program} (w : World) {ops : Array Oper} {o : Oper} {a : Act} {K : Act → World → Prop} {Q : Exit → Act → World → Prop} {E : Prop} (hgd : o.guard = none) (s x : Operand) (t : TypeId)
    (ho : o.op = .call { callee := .builtin .append, args := #[s, x], argTypes := #[t, t] })
    (base : Nat) (e : TypeId) (i : TypeInfo) (z : Value) (size bytes : Nat) (ht : P.underlying t = some (.slice e)) (hi : P.info? e = some i) (hz : i.zero = some z)
    (hsize : i.size = size) (hby : i.bytes = bytes) (hzs : z.cells.size = size) (hsz : 0 < size)
    (g0 n c0 : Nat) (xs : List Value) (hs : a.eval s = .slice (some ⟨g0, 0, none⟩) n c0) (hown : w.ownsRow base e size (.slice (some ⟨g0, 0, none⟩) n c0) n xs)
    (ad : Option Addr) (m c : Nat) (news : List Value) (hx : a.eval x = .slice ad m c) (hl : news.length = m * size) (hsrc : SrcAt w ad m news) (h1 : ∀ u ∈ news, u.oneCell' = true)
    (h63 : n + m ≤ maxLen) (hbytes : (n + m) * bytes ≤ 140737488355328) (hbase : base ≤ w.heap.size)
    (h : ∀ g cap w', w'.ownsRow base e size (.slice (some ⟨g, 0, none⟩) (n + m) cap) (n + m) (xs ++ news) → Below base w w' → (∀ k, k < w.heap.size → k ≠ g0 → w'.heap[k]? = w.heap[k]?) → base ≤ g → (g = g0 ∨ g = w.heap.size) → g < w'.heap.size → K (a.put o.dst (.slice (some ⟨g, 0, none⟩) (n + m) cap)) w') :
    if Region.wanted o (yielded ops a.tmps) = true then Oper.wp P o a w K Q else E := by
  have hg0 : base ≤ g0 := row_from hown g0 rfl
  rcases Nat.eq_zero_or_pos m with rfl | hm
  · have hw : Region.wanted o (yielded ops a.tmps) = true := by simp [Region.wanted, hgd]
    rw [if_pos hw]
    have hnil : news = [] := List.length_eq_zero_iff.1 (by omega)
    subst hnil
    have hrun := run_append_empty (P := P) (w := w) base t o.type e i size ht hi _ n xs hown ad c
    have hK := h g0 c0 w (by rw [List.append_nil]; exact hown) (Below.refl _ _) (fun _ _ _ => rfl) hg0 (Or.inl rfl) (by
      rcases hown.2 with ⟨he, _⟩ | ⟨g', cap', cur, he, _, hb, _⟩
      · simp at he
      · simp only [Value.slice.injEq, Option.some.injEq, Addr.mk.injEq, and_true] at he
        rw [he.1]; exact lt_of_block hb)
    unfold Oper.wp execOp
    simp only [ho, resolve, invoke, builtin, Sem.run_bind, Sem.run_pure, Result.andThen_ok, List.map_toArray, List.map_cons, List.map_nil, hs, hx, hrun]
    exact hK
  · rcases hsrc with h0 | ⟨A, rfl, hnews⟩
    · omega
    refine step_append_lies w hgd s x t ho base e i z size bytes ht hi hz hsize hby hzs hsz _ n xs hs hown A m c news hx hl hnews h1 hm h63 hbytes hbase w.heap.size rfl fun g cap w' h2 h3 h4 h5 => ?_
    have hg : g = g0 ∨ g = w.heap.size := by
      rcases h4 with h4 | h4
      · left; simpa [Value.ownBlock] using h4.symm
      · exact Or.inr h4
    refine h g cap w' h2 ((Below.refl base w).grown h3 hbase (fun q hq => row_from hown q hq)) (fun k hk hne => h3.block k hk (by simp [Value.ownBlock]; omega)) ?_ hg h5
    rcases hg with rfl | rfl
    · exact hg0
    · exact hbase
end Go.Proofs.YtoecnlhnfhongaaDoor

