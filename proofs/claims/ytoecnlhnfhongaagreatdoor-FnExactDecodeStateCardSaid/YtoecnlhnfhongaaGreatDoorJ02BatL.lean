import Derived.Test.YtoecnlhnfhongaaGreatDoorJ01RdL
import Derived.Test.YtoecnlhnfhongaaGreatDoorProg
import Derived.Maps.OwnSet
namespace Go.Proofs.YtoecnlhnfhongaaGreatDoor
open Go.RowKit

def I64 (v : Int) : Prop := -9223372036854775808 ≤ v ∧ v ≤ 9223372036854775807
def wrapN (n : Nat) : Int := IntKind.i64.wrap (n : Int)
theorem wrapN_eq (n : Nat) : wrapN n = if n % 18446744073709551616 < 9223372036854775808 then ((n % 18446744073709551616 : Nat) : Int) else ((n % 18446744073709551616 : Nat) : Int) - 18446744073709551616 := by
  unfold wrapN IntKind.wrap
  simp [IntKind.bits, IntKind.signed]
  split <;> split <;> omega
theorem wrapN_small {n : Nat} (h : n < 9223372036854775808) : wrapN n = (n : Int) := by rw [wrapN_eq, if_pos (by omega)]; omega
theorem wrapN_rng (n : Nat) : I64 (wrapN n) := by rw [wrapN_eq]; unfold I64; split <;> omega

/-- The eight bytes of a number, read again, are the number. -/
theorem numS_mod (n : Nat) (v : Int) : numS n v = numS n ((v % (256 ^ n : Nat)).toNat : Nat) := by
  have key : ∀ m, m ≤ n → numI v m = numI ((v % (256 ^ n : Nat)).toNat : Nat) m := by
    intro m
    induction m with
    | zero => intro _; rfl
    | succ m ih =>
      intro hm
      rw [numI, numI, ih (by omega)]
      congr 1
      have sh : ∀ (u : Int) k, shrN u k = u / ((256 ^ k : Nat) : Int) := by
        intro u k
        induction k with
        | zero => simp [shrN]
        | succ k ih => rw [shrN, ih, Int.ediv_ediv_of_nonneg (Int.natCast_nonneg _), Nat.pow_succ, Int.natCast_mul]; rfl
      have h0 : 0 ≤ v % ((256 ^ n : Nat) : Int) := Int.emod_nonneg _ (by have := Nat.pow_pos (n := n) (show 0 < 256 by omega); omega)
      rw [sh, sh, Int.toNat_of_nonneg h0]
      obtain ⟨d, hd⟩ : ∃ d, n = m + 1 + d := ⟨n - m - 1, by omega⟩
      have e : ((256 ^ n : Nat) : Int) = ((256 ^ m : Nat) : Int) * (256 * ((256 ^ d : Nat) : Int)) := by
        subst hd
        rw [Nat.pow_add, Nat.pow_add, Nat.pow_one, Nat.mul_assoc, Int.natCast_mul, Int.natCast_mul]
        rfl
      have hp : (0 : Int) < ((256 ^ m : Nat) : Int) := by have := Nat.pow_pos (n := m) (show 0 < 256 by omega); omega
      generalize ((256 ^ m : Nat) : Int) = A at *
      generalize ((256 ^ d : Nat) : Int) = D at *
      rw [e]
      have h1 : v % (A * (256 * D)) = v - A * (256 * D * (v / (A * (256 * D)))) := by
        rw [Int.emod_def]; congr 1; rw [Int.mul_assoc]
      rw [h1, show v - A * (256 * D * (v / (A * (256 * D)))) = v + A * (-(256 * D * (v / (A * (256 * D))))) by rw [Int.mul_neg]; rfl, Int.add_mul_ediv_left _ _ (by omega)]
      rw [show -(256 * D * (v / (A * (256 * D)))) = 256 * (-(D * (v / (A * (256 * D))))) by rw [Int.mul_neg, Int.mul_assoc], Int.add_mul_emod_self_left]
  show strOfNums _ = strOfNums _
  rw [key n (Nat.le_refl _)]
theorem be_numS8 (v : Int) (h : I64 v) : wrapN (beL (numS 8 v).data.toList) = v := by
  obtain ⟨h0, h1⟩ := h
  have e256 : ((256 ^ 8 : Nat) : Int) = 18446744073709551616 := by decide
  have hm : ((v % ((256 ^ 8 : Nat) : Int)).toNat : Int) = v % 18446744073709551616 := by rw [e256]; omega
  rw [numS_mod, be_numS 8 _ (by
    have : (256 : Nat) ^ 8 = 18446744073709551616 := by decide
    rw [this]
    omega), wrapN_eq]
  split <;> omega

/-- Whoever was short stays so. -/
theorem take_short {n : Nat} {r : Rd} (h : r.short = true) : (takeR n r).2.short = true := by
  unfold takeR; split <;> simp [h]
theorem num_short {k : Nat} {r : Rd} (h : r.short = true) : (numR k r).2.short = true := by rw [numR]; exact take_short h
theorem text_short {k : Nat} {r : Rd} (h : r.short = true) : (textR k r).2.short = true := by rw [textR]; exact take_short (num_short h)
theorem num_full {k : Nat} {r : Rd} {v : Int} {q : ByteArray} (h : r.rest = numS k v ++ q) : numR k r = (beL (numS k v).data.toList, ⟨q, r.short⟩) := by
  have h1 := take_full (n := k) h (numS_size k _)
  unfold numR
  rw [h1]
end Go.Proofs.YtoecnlhnfhongaaGreatDoor

namespace Go.Proofs.YtoecnlhnfhongaaGreatDoor
open Go.RowKit

def btwB (x lo hi : Int) : Bool := decide (lo ≤ x) && decide (x ≤ hi)

theorem between_any (x lo hi : Int) (w : World) : Calls Tryz.prog 24 #[.int .i64 x, .int .i64 lo, .int .i64 hi] w fun e w' => e = .returned (.bool (btwB x lo hi)) ∧ w' = w := by
  by_cases h1 : lo ≤ x
  · by_cases h2 : x ≤ hi
    · have e : btwB x lo hi = true := by simp [btwB, h1, h2]
      rw [e]
      go_enter Tryz.func24, Tryz.ntmps24
      go_wp2
      go_ret
      exact ⟨rfl, rfl⟩
    · have e : btwB x lo hi = false := by simp [btwB, h2]
      rw [e]
      go_enter Tryz.func24, Tryz.ntmps24
      go_wp2
      go_ret
      exact ⟨rfl, rfl⟩
  · have e : btwB x lo hi = false := by simp [btwB, h1]
    rw [e]
    go_enter Tryz.func24, Tryz.ntmps24
    go_wp2
    go_ret
    exact ⟨rfl, rfl⟩

theorem take_snoc (s : ByteArray) (k : Nat) (h : k < s.size) : s.data.toList.take (k + 1) = s.data.toList.take k ++ [s[k]] := by
  rw [List.take_succ_eq_append_getElem (by simpa using h)]; rfl

end Go.Proofs.YtoecnlhnfhongaaGreatDoor

namespace Go.Proofs.YtoecnlhnfhongaaGreatDoor
open Go.RowKit

theorem or_i64 (a b : Nat) (ha : a < 4611686018427387904) (hb : b < 4611686018427387904) : bits .or .i64 (a : Int) (b : Int) = ((a ||| b : Nat) : Int) := by
  have hx : a ||| b < 2 ^ 62 := Nat.or_lt_two_pow (by omega) (by omega)
  show IntKind.i64.wrap ((BitVec.ofInt 64 (a : Int) ||| BitVec.ofInt 64 (b : Int)).toNat : Int) = _
  rw [BitVec.toNat_or, BitVec.ofInt_natCast, BitVec.ofInt_natCast, BitVec.toNat_ofNat, BitVec.toNat_ofNat, Nat.mod_eq_of_lt (by omega), Nat.mod_eq_of_lt (by omega)]
  simp only [IntKind.wrap, IntKind.bits, IntKind.signed]
  simp
  omega
theorem or_low (a b : Nat) (hb : b < 256) (ha : a < 281474976710656) : bits .or .i64 ((a : Int) * 256) (b : Int) = ((a * 256 + b : Nat) : Int) := by
  have hx : a * 256 ||| b = a * 256 + b := by
    have := Nat.two_pow_add_eq_or_of_lt (i := 8) (b := b) (by omega) a
    rw [show 2 ^ 8 * a = a * 256 by omega] at this
    exact this.symm
  rw [← hx]
  exact or_i64 (a * 256) b (by omega) (by omega)

set_option maxRecDepth 100000 in
set_option maxHeartbeats 1000000 in
theorem implNum_any (s : ByteArray) (w : World) (hs : s.size ≤ 7) :
    Calls Tryz.prog 66 #[.string s] w fun e w' => e = .returned (.int .i64 (beL s.data.toList : Nat)) ∧ w' = w := by
  go_enter Tryz.func66, Tryz.ntmps66
  go_wp2
  go_loopw [3, 4, 7] (fun x _ c wr => ∃ (k X : Nat), k ≤ s.size ∧ c = .int .i64 k ∧ x = .int .i64 X ∧ X < 256 ^ k ∧ Hid (X = beL (s.data.toList.take k)) ∧ wr = w) (fun _ _ c _ => s.size - (intOf c).toNat)
  case atStart => exact ⟨0, 0, by omega, rfl, rfl, by simp, by show _ = _; simp [beL], rfl⟩
  case round =>
    obtain ⟨k, X, hk, rfl, rfl, hX, hx, rfl⟩ := hrel
    by_cases hlt : k < s.size
    · have hc := (s[k]).toNat_lt
      have hX6 : X < 281474976710656 := Nat.lt_of_lt_of_le hX (Nat.pow_le_pow_right (n := 256) (by omega) (show k ≤ 6 by omega))
      have ho := or_low X (s[k]).toNat (by omega) (by omega)
      go_wp2
      refine ⟨⟨k + 1, X * 256 + (s[k]).toNat, by omega, by go_num, ?_, ?_, ?_, trivial⟩, by simp [intOf]; omega⟩
      · go_num
      · rw [Nat.pow_succ]; omega
      · show _ = _
        rw [take_snoc s k hlt, beL_snoc, ← hx.out]
    · have e : k = s.size := by omega
      subst e
      go_wp2
      go_ret
      refine ⟨?_, rfl⟩
      show Ending.returned (.int .i64 (X : Nat)) = _
      rw [hx.out, List.take_of_length_le (by simp)]
end Go.Proofs.YtoecnlhnfhongaaGreatDoor

namespace Go.Proofs.YtoecnlhnfhongaaGreatDoor
open Go.RowKit

theorem hid {p : Prop} (h : p) : Hid p := h
theorem Blk.new (w : World) (cs : Array Value) (t : TypeId) : Blk (w.alloc (.cells cs t)) w.heap.size cs t := heap_alloc_new _ _
theorem Blk.alloc {w : World} {g : Nat} {cur : Array Value} {t : TypeId} (h : Blk w g cur t) (o : Obj) : Blk (w.alloc o) g cur t := h.later (bnew _ _)
theorem Blk.but {w w' : World} {g g' : Nat} {cur : Array Value} {t : TypeId} (h : Blk w g cur t) (hb : But g' w w') (hne : g ≠ g') : Blk w' g cur t := (hb.block g (lt_of_block h) hne).trans h
end Go.Proofs.YtoecnlhnfhongaaGreatDoor

namespace Go.Proofs.YtoecnlhnfhongaaGreatDoor
open Go.RowKit

structure Turn (S : Nat → Prop) (w w' : World) : Prop where
  os : w'.os = w.os
  tape : w'.tape = w.tape
  output : w'.output = w.output
  size : w.heap.size ≤ w'.heap.size
  block : ∀ k, k < w.heap.size → ¬ S k → w'.heap[k]? = w.heap[k]?
theorem Turn.refl (S : Nat → Prop) (w : World) : Turn S w w := ⟨rfl, rfl, rfl, Nat.le_refl _, fun _ _ _ => rfl⟩
theorem Turn.trans {S : Nat → Prop} {a b c : World} (h : Turn S a b) (k : Turn (fun i => S i ∨ a.heap.size ≤ i) b c) : Turn S a c :=
  ⟨k.os.trans h.os, k.tape.trans h.tape, k.output.trans h.output, Nat.le_trans h.size k.size, fun i hi hn => (k.block i (Nat.lt_of_lt_of_le hi h.size) (fun h' => by rcases h' with h' | h'; exact hn h'; omega)).trans (h.block i hi hn)⟩
theorem Turn.trans' {S : Nat → Prop} {a b c : World} (h : Turn S a b) (k : Turn S b c) : Turn S a c :=
  ⟨k.os.trans h.os, k.tape.trans h.tape, k.output.trans h.output, Nat.le_trans h.size k.size, fun i hi hn => (k.block i (Nat.lt_of_lt_of_le hi h.size) hn).trans (h.block i hi hn)⟩
theorem Turn.mono {S S' : Nat → Prop} {a b : World} (h : Turn S a b) (hs : ∀ i, i < a.heap.size → S i → S' i) : Turn S' a b :=
  ⟨h.os, h.tape, h.output, h.size, fun i hi hn => h.block i hi (fun h' => hn (hs i hi h'))⟩
theorem Turn.of {S : Nat → Prop} {a b : World} (h : Below a.heap.size a b) : Turn S a b := ⟨h.os, h.tape, h.output, h.size, fun k hk _ => h.block k hk⟩
theorem Turn.but {g : Nat} {a b : World} (h : But g a b) : Turn (· = g) a b := ⟨h.os, h.tape, h.output, h.size, fun k hk hn => h.block k hk hn⟩
theorem Turn.grown {r : Option Nat} {a b : World} (h : a.grownBy b r) : Turn (fun k => r = some k) a b := ⟨h.os, h.tape, h.output, h.size, fun k hk hn => h.block k hk (fun e => hn e.symm)⟩
theorem Turn.below {S : Nat → Prop} {B : Nat} {a b : World} (h : Turn S a b) (hB : B ≤ a.heap.size) (hs : ∀ k, k < B → ¬ S k) : Below B a b :=
  ⟨h.os, h.tape, h.output, h.size, fun k hk => h.block k (by omega) (hs k hk)⟩
theorem Turn.drew {S : Nat → Prop} {a b : World} (h : Turn S a b) : Turn S a b.drew := ⟨h.os, h.tape, h.output, h.size, h.block⟩
theorem Turn.alloc {S : Nat → Prop} {a b : World} (h : Turn S a b) (o : Obj) : Turn S a (b.alloc o) := h.trans' (Turn.of (bnew _ _))
theorem Turn.setCell {S : Nat → Prop} {a b : World} (h : Turn S a b) {g : Nat} (hg : S g ∨ a.heap.size ≤ g) (o : Nat) (v : Value) : Turn S a (b.setCell ⟨g, o, none⟩ v) :=
  h.trans ((Turn.but ((But.refl g b).setCell o v)).mono fun i _ e => by subst e; exact hg)
theorem Turn.blk {S : Nat → Prop} {a b : World} (h : Turn S a b) {g : Nat} {cur : Array Value} {t : TypeId} (hb : Blk a g cur t) (hg : ¬ S g) : Blk b g cur t := (h.block g (lt_of_block hb) hg).trans hb
theorem Turn.row {S : Nat → Prop} {a b : World} (h : Turn S a b) {B : Nat} {e : TypeId} {size : Nat} {v : Value} {n : Nat} {xs : List Value} (hr : a.ownsRow B e size v n xs) (hg : ∀ g, v.ownBlock = some g → ¬ S g) : b.ownsRow B e size v n xs := by
  refine ⟨hr.1, ?_⟩
  rcases hr.2 with h0 | ⟨g, cap, cur, rfl, hB, hb, r⟩
  · exact Or.inl h0
  · exact Or.inr ⟨g, cap, cur, rfl, hB, (h.block g (lt_of_block hb) (hg g rfl)).trans hb, r⟩
theorem Turn.map {H : Type} {S : Nat → Prop} {a b : World} (h : Turn S a b) {P : Program} {k : TypeId} {R : Value → Option (DataW H × List MemPlace)} {m n : Nat} {D : DataW H} (hm : a.ownsMap P k R m n D) (hg : ¬ S m) : b.ownsMap P k R m n D := by
  have hlt := hm.lt
  obtain ⟨es, clock, hb, r⟩ := hm
  exact ⟨es, clock, (h.block m hlt hg).trans hb, r⟩
end Go.Proofs.YtoecnlhnfhongaaGreatDoor

namespace Go.Proofs.YtoecnlhnfhongaaGreatDoor
open Go.RowKit

theorem or_high (a b : Nat) (hb : b < 256) (ha : a < 72057594037927936) : bits .or .i64 (IntKind.i64.wrap ((a : Int) * 256)) (b : Int) = wrapN (a * 256 + b) := by
  have hx : a * 256 ||| b = a * 256 + b := by
    have := Nat.two_pow_add_eq_or_of_lt (i := 8) (b := b) (by omega) a
    rw [show 2 ^ 8 * a = a * 256 by omega] at this
    exact this.symm
  have hof : BitVec.ofInt 64 (IntKind.i64.wrap ((a : Int) * 256)) = BitVec.ofNat 64 (a * 256) := by
    have e : ((a : Int) * 256) = ((a * 256 : Nat) : Int) := by omega
    rw [e]
    apply BitVec.eq_of_toNat_eq
    rw [BitVec.toNat_ofInt, BitVec.toNat_ofNat]
    unfold IntKind.wrap
    simp only [IntKind.bits, IntKind.signed]
    simp
    omega
  show IntKind.i64.wrap ((BitVec.ofInt 64 (IntKind.i64.wrap ((a : Int) * 256)) ||| BitVec.ofInt 64 (b : Int)).toNat : Int) = _
  rw [hof, BitVec.toNat_or, BitVec.ofInt_natCast, BitVec.toNat_ofNat, BitVec.toNat_ofNat, Nat.mod_eq_of_lt (by omega), Nat.mod_eq_of_lt (by omega), hx]
  rfl

set_option maxRecDepth 100000 in
set_option maxHeartbeats 1000000 in
theorem implNumW_any (s : ByteArray) (w : World) (hs : s.size ≤ 8) :
    Calls Tryz.prog 66 #[.string s] w fun e w' => e = .returned (.int .i64 (wrapN (beL s.data.toList))) ∧ w' = w := by
  go_enter Tryz.func66, Tryz.ntmps66
  go_wp2
  go_loopw [3, 4, 7] (fun x _ c wr => ∃ (k X : Nat) (Z : Int), k ≤ s.size ∧ c = .int .i64 k ∧ x = .int .i64 Z ∧ X < 256 ^ k ∧ Hid (X = beL (s.data.toList.take k)) ∧ Hid (Z = wrapN X) ∧ wr = w) (fun _ _ c _ => s.size - (intOf c).toNat)
  case atStart => exact ⟨0, 0, 0, by omega, rfl, rfl, by simp, by show _ = _; simp [beL], by show _ = _; rw [wrapN_small (by omega)]; rfl, rfl⟩
  case round =>
    obtain ⟨k, X, Z, hk, rfl, rfl, hX, hx, hZ, rfl⟩ := hrel
    by_cases hlt : k < s.size
    · have hc := (s[k]).toNat_lt
      have hX7 : X < 72057594037927936 := Nat.lt_of_lt_of_le hX (Nat.pow_le_pow_right (n := 256) (by omega) (show k ≤ 7 by omega))
      have hZ2 : Z = (X : Int) := by rw [hZ.out, wrapN_small (by omega)]
      subst hZ2
      have ho := or_high X (s[k]).toNat (by omega) (by omega)
      go_wp2
      refine ⟨⟨k + 1, X * 256 + (s[k]).toNat, wrapN (X * 256 + (s[k]).toNat), by omega, by go_num, ?_, ?_, ?_, rfl, trivial⟩, by simp [intOf]; omega⟩
      · exact congrArg (Value.int .i64) (by rw [← ho, IntKind.wrap_i64, wrap64])
      · rw [Nat.pow_succ]; omega
      · show _ = _
        rw [take_snoc s k hlt, beL_snoc, ← hx.out]
    · have e : k = s.size := by omega
      subst e
      go_wp2
      go_ret
      refine ⟨?_, rfl⟩
      show Ending.returned (.int .i64 Z) = _
      rw [hZ.out, hx.out, List.take_of_length_le (by simp)]

/-- The reader r lies in block B, whatever the block's type. -/
def RT (w : World) (B : Nat) (r : Rd) : Prop := ∃ t, Blk w B #[.string r.rest, .bool r.short] t

set_option maxRecDepth 100000 in
set_option maxHeartbeats 1000000 in
theorem takeT_any (B : Nat) (r : Rd) (n : Nat) (w : World) (hB : RT w B r) (hn : n ≤ 70000) (hs : r.rest.size ≤ 1000000000) :
    Calls Tryz.prog 33 #[.pointer (some ⟨B, 0, none⟩), .int .i64 (n : Nat)] w fun e w' => e = .returned (.string (takeR n r).1) ∧ RT w' B (takeR n r).2 ∧ But B w w' := by
  obtain ⟨tt, hB⟩ := hB
  have HB : Hid (Blk w B #[.string r.rest, .bool r.short] tt) := hB
  have x0 := Blk.cell hB 0
  have x1 := Blk.cell hB 1
  simp only [List.getElem?_toArray, List.getElem?_cons_zero, List.getElem?_cons_succ] at x0 x1
  have f0 := Blk.free hB 0
  have f1 := Blk.free hB 1
  obtain ⟨rest, short⟩ := r
  simp only at x0 x1 hs
  clear hB
  by_cases h : rest.size < n
  · have E : Hid (takeR n ⟨rest, short⟩ = (ByteArray.empty, ⟨rest, true⟩)) := by show _ = _; unfold takeR; rw [if_pos h]
    rw [E.out]
    go_enter Tryz.func33, Tryz.ntmps33
    go_wp2
    go_ret
    exact ⟨rfl, ⟨tt, Blk.set HB.out 1 (.bool true)⟩, (But.refl _ _).setCell _ _⟩
  · have E : Hid (takeR n ⟨rest, short⟩ = (rest.extract 0 n, ⟨rest.extract n rest.size, short⟩)) := by show _ = _; unfold takeR; rw [if_neg h]
    have h' : ¬ ((rest.size : Int) < (n : Int)) := by omega
    rw [E.out]
    go_enter Tryz.func33, Tryz.ntmps33
    go_wp2
    go_ret
    exact ⟨rfl, ⟨tt, Blk.set HB.out 0 (.string (rest.extract n rest.size))⟩, (But.refl _ _).setCell _ _⟩

set_option maxRecDepth 100000 in
theorem numberT_any (B : Nat) (r : Rd) (k : Nat) (w : World) (hB : RT w B r) (hk : k ≤ 8) (hs : r.rest.size ≤ 1000000000) :
    Calls Tryz.prog 52 #[.pointer (some ⟨B, 0, none⟩), .int .i64 (k : Nat)] w fun e w' => e = .returned (.int .i64 (wrapN (numR k r).1)) ∧ RT w' B (numR k r).2 ∧ But B w w' := by
  have HC : Hid (Calls Tryz.prog 33 #[.pointer (some ⟨B, 0, none⟩), .int .i64 (k : Nat)] w fun e w' => e = .returned (.string (takeR k r).1) ∧ RT w' B (takeR k r).2 ∧ But B w w') := takeT_any B r k w hB (by omega) hs
  have HN : Hid (∀ W, Calls Tryz.prog 66 #[.string (takeR k r).1] W fun e w' => e = .returned (.int .i64 (wrapN (beL (takeR k r).1.data.toList))) ∧ w' = W) := fun W => implNumW_any _ W (by have := (take_le k r).1; omega)
  show Calls _ _ _ _ fun e w' => e = .returned (.int .i64 (wrapN (beL (takeR k r).1.data.toList))) ∧ RT w' B (takeR k r).2 ∧ But B w w'
  clear hB
  generalize beL (takeR k r).1.data.toList = N at *
  generalize (takeR k r).1 = T at *
  generalize (takeR k r).2 = r' at *
  go_enter Tryz.func52, Tryz.ntmps52
  go_wp2_with fail
  refine HC.out.mono ?_
  rintro e w1 ⟨rfl, hr1, hb1⟩
  have H1 : Hid (RT w1 B r' ∧ But B w w1) := ⟨hr1, hb1⟩
  clear hr1 hb1 HC
  go_wp2_with fail
  refine (HN.out _).mono ?_
  rintro e w2 ⟨rfl, hw⟩
  replace hw := hw.symm
  subst hw
  go_wp2
  go_ret
  exact ⟨rfl, H1.out⟩

set_option maxRecDepth 100000 in
theorem textT_any (B : Nat) (r : Rd) (k : Nat) (w : World) (hB : RT w B r) (hk : k ≤ 2) (hs : r.rest.size ≤ 1000000000) :
    Calls Tryz.prog 67 #[.pointer (some ⟨B, 0, none⟩), .int .i64 (k : Nat)] w fun e w' => e = .returned (.string (textR k r).1) ∧ RT w' B (textR k r).2 ∧ But B w w' := by
  have HC : Hid (Calls Tryz.prog 52 #[.pointer (some ⟨B, 0, none⟩), .int .i64 (k : Nat)] w fun e w' => e = .returned (.int .i64 (wrapN (numR k r).1)) ∧ RT w' B (numR k r).2 ∧ But B w w') := numberT_any B r k w hB (by omega) hs
  have hlt : (numR k r).1 < 65536 := by
    have h1 := num_lt k r
    have h2 : 256 ^ k ≤ 256 ^ 2 := Nat.pow_le_pow_right (by omega) hk
    omega
  have hsz : (numR k r).2.rest.size ≤ 1000000000 := by
    have := (take_le k r).2.2
    show (takeR k r).2.rest.size ≤ _
    omega
  have HT : Hid (∀ W, RT W B (numR k r).2 → Calls Tryz.prog 33 #[.pointer (some ⟨B, 0, none⟩), .int .i64 ((numR k r).1 : Nat)] W fun e w' => e = .returned (.string (textR k r).1) ∧ RT w' B (textR k r).2 ∧ But B W w') := fun W h => takeT_any B _ _ W h (by omega) hsz
  rw [wrapN_small (by omega)] at HC
  clear hB
  generalize (textR k r).1 = T at *
  generalize (textR k r).2 = r' at *
  generalize (numR k r).1 = N at *
  generalize (numR k r).2 = r1 at *
  go_enter Tryz.func67, Tryz.ntmps67
  go_wp2_with fail
  refine HC.out.mono ?_
  rintro e w1 ⟨rfl, hr1, hb1⟩
  have H1 : Hid (RT w1 B r1 ∧ But B w w1) := ⟨hr1, hb1⟩
  clear hr1 hb1 HC
  go_wp2_with fail
  refine (HT.out _ H1.out.1).mono ?_
  rintro e w2 ⟨rfl, hr2, hb2⟩
  have H2 : Hid (RT w2 B r' ∧ But B w w2) := ⟨hr2, H1.out.2.trans hb2⟩
  clear hr2 hb2
  go_wp2
  go_ret
  exact ⟨rfl, H2.out⟩


/-- What a decoder panics with. -/
def dcdP : List PanicEntry := [{ v := .iface 70 (.string ⟨#[116, 104, 101, 32, 116, 101, 120, 116, 32, 105, 115, 32, 110, 111, 32, 101, 110, 99, 111, 100, 105, 110, 103]⟩), recovered := false }]
theorem must_ok (p : Value) (w : World) : Calls Tryz.prog 16 #[p, .bool true] w fun e w' => e = .returned (.tuple #[]) ∧ w' = w := by
  go_enter Tryz.func16, Tryz.ntmps16
  go_wp2
  go_end0
  exact ⟨rfl, rfl⟩
theorem must_bad (p : Value) (w : World) : Calls Tryz.prog 16 #[p, .bool false] w fun e w' => e = .panicked dcdP ∧ w' = w := by
  go_enter Tryz.func16, Tryz.ntmps16
  go_wp2
  exact ⟨rfl, rfl, rfl⟩

set_option maxRecDepth 100000 in
theorem numD_ok (B : Nat) (r : Rd) (k : Nat) (w : World) (hB : RT w B r) (hk : k ≤ 8) (hs : r.rest.size ≤ 1000000000) (hsh : (numR k r).2.short = false) :
    Calls Tryz.prog 34 #[.pointer (some ⟨B, 0, none⟩), .int .i64 (k : Nat)] w fun e w' => e = .returned (.int .i64 (wrapN (numR k r).1)) ∧ RT w' B (numR k r).2 ∧ But B w w' := by
  have HC : Hid (Calls Tryz.prog 52 #[.pointer (some ⟨B, 0, none⟩), .int .i64 (k : Nat)] w fun e w' => e = .returned (.int .i64 (wrapN (numR k r).1)) ∧ RT w' B (numR k r).2 ∧ But B w w') := numberT_any B r k w hB hk hs
  clear hB
  generalize wrapN (numR k r).1 = N at *
  generalize (numR k r).2 = r1 at *
  go_enter Tryz.func34, Tryz.ntmps34
  go_wp2_with fail
  refine HC.out.mono ?_
  rintro e w1 ⟨rfl, hr1, hb1⟩
  have H1 : Hid (RT w1 B r1 ∧ But B w w1) := ⟨hr1, hb1⟩
  obtain ⟨tt, hblk⟩ := hr1
  have x1 : w1.cell? ⟨B, 1, none⟩ = some (.bool false) := (hblk.cell 1).trans (by rw [hsh]; rfl)
  clear hb1 hblk HC hsh
  go_wp2_with fail
  refine (must_ok _ _).mono ?_
  rintro e w2 ⟨rfl, hw⟩
  replace hw := hw.symm
  subst hw
  go_wp2
  go_ret
  exact ⟨rfl, H1.out⟩
set_option maxRecDepth 100000 in
theorem numD_bad (B : Nat) (r : Rd) (k : Nat) (w : World) (hB : RT w B r) (hk : k ≤ 8) (hs : r.rest.size ≤ 1000000000) (hsh : (numR k r).2.short = true) :
    Calls Tryz.prog 34 #[.pointer (some ⟨B, 0, none⟩), .int .i64 (k : Nat)] w fun e w' => e = .panicked dcdP ∧ But B w w' := by
  have HC : Hid (Calls Tryz.prog 52 #[.pointer (some ⟨B, 0, none⟩), .int .i64 (k : Nat)] w fun e w' => e = .returned (.int .i64 (wrapN (numR k r).1)) ∧ RT w' B (numR k r).2 ∧ But B w w') := numberT_any B r k w hB hk hs
  clear hB
  generalize wrapN (numR k r).1 = N at *
  generalize (numR k r).2 = r1 at *
  go_enter Tryz.func34, Tryz.ntmps34
  go_wp2_with fail
  refine HC.out.mono ?_
  rintro e w1 ⟨rfl, hr1, hb1⟩
  have H1 : Hid (RT w1 B r1 ∧ But B w w1) := ⟨hr1, hb1⟩
  obtain ⟨tt, hblk⟩ := hr1
  have x1 : w1.cell? ⟨B, 1, none⟩ = some (.bool true) := (hblk.cell 1).trans (by rw [hsh]; rfl)
  clear hb1 hblk HC hsh
  go_wp2_with fail
  refine (must_bad _ _).mono ?_
  rintro e w2 ⟨rfl, hw⟩
  replace hw := hw.symm
  subst hw
  exact ⟨rfl, rfl, H1.out.2⟩
set_option maxRecDepth 100000 in
theorem strD_ok (B : Nat) (r : Rd) (k : Nat) (w : World) (hB : RT w B r) (hk : k ≤ 2) (hs : r.rest.size ≤ 1000000000) (hsh : (textR k r).2.short = false) :
    Calls Tryz.prog 53 #[.pointer (some ⟨B, 0, none⟩), .int .i64 (k : Nat)] w fun e w' => e = .returned (.string (textR k r).1) ∧ RT w' B (textR k r).2 ∧ But B w w' := by
  have HC : Hid (Calls Tryz.prog 67 #[.pointer (some ⟨B, 0, none⟩), .int .i64 (k : Nat)] w fun e w' => e = .returned (.string (textR k r).1) ∧ RT w' B (textR k r).2 ∧ But B w w') := textT_any B r k w hB hk hs
  clear hB
  generalize (textR k r).1 = N at *
  generalize (textR k r).2 = r1 at *
  go_enter Tryz.func53, Tryz.ntmps53
  go_wp2_with fail
  refine HC.out.mono ?_
  rintro e w1 ⟨rfl, hr1, hb1⟩
  have H1 : Hid (RT w1 B r1 ∧ But B w w1) := ⟨hr1, hb1⟩
  obtain ⟨tt, hblk⟩ := hr1
  have x1 : w1.cell? ⟨B, 1, none⟩ = some (.bool false) := (hblk.cell 1).trans (by rw [hsh]; rfl)
  clear hb1 hblk HC hsh
  go_wp2_with fail
  refine (must_ok _ _).mono ?_
  rintro e w2 ⟨rfl, hw⟩
  replace hw := hw.symm
  subst hw
  go_wp2
  go_ret
  exact ⟨rfl, H1.out⟩
set_option maxRecDepth 100000 in
theorem strD_bad (B : Nat) (r : Rd) (k : Nat) (w : World) (hB : RT w B r) (hk : k ≤ 2) (hs : r.rest.size ≤ 1000000000) (hsh : (textR k r).2.short = true) :
    Calls Tryz.prog 53 #[.pointer (some ⟨B, 0, none⟩), .int .i64 (k : Nat)] w fun e w' => e = .panicked dcdP ∧ But B w w' := by
  have HC : Hid (Calls Tryz.prog 67 #[.pointer (some ⟨B, 0, none⟩), .int .i64 (k : Nat)] w fun e w' => e = .returned (.string (textR k r).1) ∧ RT w' B (textR k r).2 ∧ But B w w') := textT_any B r k w hB hk hs
  clear hB
  generalize (textR k r).1 = N at *
  generalize (textR k r).2 = r1 at *
  go_enter Tryz.func53, Tryz.ntmps53
  go_wp2_with fail
  refine HC.out.mono ?_
  rintro e w1 ⟨rfl, hr1, hb1⟩
  have H1 : Hid (RT w1 B r1 ∧ But B w w1) := ⟨hr1, hb1⟩
  obtain ⟨tt, hblk⟩ := hr1
  have x1 : w1.cell? ⟨B, 1, none⟩ = some (.bool true) := (hblk.cell 1).trans (by rw [hsh]; rfl)
  clear hb1 hblk HC hsh
  go_wp2_with fail
  refine (must_bad _ _).mono ?_
  rintro e w2 ⟨rfl, hw⟩
  replace hw := hw.symm
  subst hw
  exact ⟨rfl, rfl, H1.out.2⟩
end Go.Proofs.YtoecnlhnfhongaaGreatDoor

namespace Go.Proofs.YtoecnlhnfhongaaGreatDoor
open Go.RowKit

structure RecD where
  kind : Int
  tenant : ByteArray
  text : ByteArray
  num : Int

/-- The records ls lie from ⟨b, o⟩ on, four cells each. -/
def RecsAt (w : World) (b o : Nat) (ls : List RecD) : Prop :=
  ∀ i (h : i < ls.length), w.cell? ⟨b, o + i * 4, none⟩ = some (.int .i64 ls[i].kind) ∧ w.cell? ⟨b, o + i * 4 + 1, none⟩ = some (.string ls[i].tenant) ∧ w.cell? ⟨b, o + i * 4 + 2, none⟩ = some (.string ls[i].text) ∧ w.cell? ⟨b, o + i * 4 + 3, none⟩ = some (.int .i64 ls[i].num)
/-- A slice's address holds the records ls (nothing is asked where there are none). -/
def RecsIn (w : World) (a : Option Addr) (ls : List RecD) : Prop := ls = [] ∨ ∃ b o, a = some ⟨b, o, none⟩ ∧ b < w.heap.size ∧ RecsAt w b o ls
theorem RecsIn.later {w w' : World} {a : Option Addr} {ls : List RecD} (h : RecsIn w a ls) (hb : Below w.heap.size w w') : RecsIn w' a ls := by
  rcases h with h | ⟨b, o, rfl, hlt, h⟩
  · exact Or.inl h
  · refine Or.inr ⟨b, o, rfl, Nat.lt_of_lt_of_le hlt hb.size, fun i hi => ?_⟩
    obtain ⟨h1, h2, h3, h4⟩ := h i hi
    exact ⟨by rw [← h1]; exact hb.cell hlt, by rw [← h2]; exact hb.cell hlt, by rw [← h3]; exact hb.cell hlt, by rw [← h4]; exact hb.cell hlt⟩
theorem RecsIn.at {w : World} {a : Option Addr} {ls : List RecD} (h : RecsIn w a ls) {i : Nat} (hi : i < ls.length) :
    ∃ b o, a = some ⟨b, o, none⟩ ∧ b < w.heap.size ∧ w.cell? ⟨b, o + i * 4, none⟩ = some (.int .i64 ls[i].kind) ∧ w.cell? ⟨b, o + i * 4 + 1, none⟩ = some (.string ls[i].tenant) ∧ w.cell? ⟨b, o + i * 4 + 2, none⟩ = some (.string ls[i].text) ∧ w.cell? ⟨b, o + i * 4 + 3, none⟩ = some (.int .i64 ls[i].num) := by
  rcases h with rfl | ⟨b, o, rfl, hlt, h⟩
  · exact absurd hi (by simp)
  · exact ⟨b, o, rfl, hlt, h i hi⟩
theorem RecsIn.but {g : Nat} {w w' : World} {a : Option Addr} {l : List RecD} (h : RecsIn w a l) (hb : But g w w') (hg : l = [] ∨ ∃ b o, a = some ⟨b, o, none⟩ ∧ b ≠ g) : RecsIn w' a l := by
  rcases hg with hg | ⟨b, o, rfl, hne⟩
  · exact Or.inl hg
  · rcases h with h | ⟨b', o', e, hlt, h⟩
    · exact Or.inl h
    · simp only [Option.some.injEq, Addr.mk.injEq, and_true] at e
      obtain ⟨rfl, rfl⟩ := e
      have hk : ∀ j, w'.cell? ⟨b, j, none⟩ = w.cell? ⟨b, j, none⟩ := fun j => World.cell?_of_block (hb.block b hlt hne)
      exact Or.inr ⟨b, o, rfl, Nat.lt_of_lt_of_le hlt hb.size, fun i hi => by simp only [hk]; exact h i hi⟩
theorem RecsIn.take {w : World} {a : Option Addr} {ls : List RecD} (h : RecsIn w a ls) (n : Nat) : RecsIn w a (ls.take n) := by
  rcases h with h | ⟨b, o, e, hlt, h⟩
  · exact Or.inl (by rw [h]; simp)
  · refine Or.inr ⟨b, o, e, hlt, fun i hi => ?_⟩
    rw [List.getElem_take]
    exact h i (by simp at hi; omega)

/-- The records lie in a block of their own, from B on, that may be written. -/
def RecsOwn (w : World) (B : Nat) (a : Option Addr) (ls : List RecD) : Prop :=
  ls = [] ∨ ∃ g o cur t, a = some ⟨g, o, none⟩ ∧ B ≤ g ∧ w.heap[g]? = some (.cells cur t (0, 0)) ∧ RecsAt w g o ls
theorem RecsOwn.recs {w : World} {B : Nat} {a : Option Addr} {ls : List RecD} (h : RecsOwn w B a ls) : RecsIn w a ls := by
  rcases h with h | ⟨g, o, cur, t, rfl, _, hb, h⟩
  · exact Or.inl h
  · exact Or.inr ⟨g, o, rfl, lt_of_block hb, h⟩
theorem RecsOwn.later {w w' : World} {B : Nat} {a : Option Addr} {ls : List RecD} (h : RecsOwn w B a ls) (hb : Below w.heap.size w w') : RecsOwn w' B a ls := by
  rcases h with h | ⟨g, o, cur, t, rfl, hB, hg, h⟩
  · exact Or.inl h
  · have hlt := lt_of_block hg
    have hk : ∀ j, w'.cell? ⟨g, j, none⟩ = w.cell? ⟨g, j, none⟩ := fun j => World.cell?_of_block (hb.block g hlt)
    exact Or.inr ⟨g, o, cur, t, rfl, hB, (hb.block g hlt).trans hg, fun i hi => by simp only [hk]; exact h i hi⟩
theorem RecsOwn.mono {w : World} {B B' : Nat} {a : Option Addr} {ls : List RecD} (h : RecsOwn w B a ls) (hB : B' ≤ B) : RecsOwn w B' a ls := by
  rcases h with h | ⟨g, o, cur, t, rfl, hB', hg, h⟩
  · exact Or.inl h
  · exact Or.inr ⟨g, o, cur, t, rfl, Nat.le_trans hB hB', hg, h⟩

/-- The cells of label j, from o on. -/
def RowRec (cur : Array Value) (o j : Nat) (f : RecD) : Prop := cur[o + j * 4]? = some (.int .i64 f.kind) ∧ cur[o + j * 4 + 1]? = some (.string f.tenant) ∧ cur[o + j * 4 + 2]? = some (.string f.text) ∧ cur[o + j * 4 + 3]? = some (.int .i64 f.num)
theorem RowRec.set {cur : Array Value} {o j : Nat} {f : RecD} (h : RowRec cur o j f) {p : Nat} (hp : p < o + j * 4 ∨ o + j * 4 + 3 < p) (v : Value) : RowRec (cur.setIfInBounds p v) o j f := by
  obtain ⟨a1, a2, a3, a4⟩ := h
  refine ⟨?_, ?_, ?_, ?_⟩
  · rw [Array.getElem?_setIfInBounds_ne (by omega)]; exact a1
  · rw [Array.getElem?_setIfInBounds_ne (by omega)]; exact a2
  · rw [Array.getElem?_setIfInBounds_ne (by omega)]; exact a3
  · rw [Array.getElem?_setIfInBounds_ne (by omega)]; exact a4
theorem RowRec.made (cur : Array Value) (o j : Nat) (f : RecD) (h : o + j * 4 + 3 < cur.size) :
    RowRec ((((cur.setIfInBounds (o + j * 4) (.int .i64 f.kind)).setIfInBounds (o + j * 4 + 1) (.string f.tenant)).setIfInBounds (o + j * 4 + 2) (.string f.text)).setIfInBounds (o + j * 4 + 3) (.int .i64 f.num)) o j f := by
  refine ⟨?_, ?_, ?_, ?_⟩ <;> simp [Array.getElem?_setIfInBounds] <;> omega
theorem recsAt_of_rows {w : World} {g o : Nat} {cur : Array Value} {t : TypeId} {fs : List RecD} (h : Blk w g cur t) (hr : ∀ j (hj : j < fs.length), RowRec cur o j fs[j]) : RecsAt w g o fs := by
  intro j hj
  simp only [h.cell]
  exact hr j hj
theorem rows_of_recsAt {w : World} {g o : Nat} {cur : Array Value} {t : TypeId} {fs : List RecD} (h : Blk w g cur t) (hf : RecsAt w g o fs) : ∀ j (hj : j < fs.length), RowRec cur o j fs[j] := by
  intro j hj
  have := hf j hj
  simp only [h.cell] at this
  exact this
theorem recs_size {cur : Array Value} {o : Nat} {fs : List RecD} (hr : ∀ j (hj : j < fs.length), RowRec cur o j fs[j]) : fs.length = 0 ∨ o + fs.length * 4 ≤ cur.size := by
  by_cases h : fs.length = 0
  · exact Or.inl h
  · right
    have := (hr (fs.length - 1) (by omega)).2.2.2
    have := (Array.getElem?_eq_some_iff.1 this).1
    omega
theorem recs_of_row {w : World} {B : Nat} {e : TypeId} {a : Option Addr} {cap : Nat} {l : List RecD}
    (h : w.ownsRow B e 4 (.slice a l.length cap) l.length (l.flatMap fun x => [.int .i64 x.kind, .string x.tenant, .string x.text, .int .i64 x.num])) : RecsOwn w B a l := by
  rcases h.2 with ⟨_, hl⟩ | ⟨g, cap', cur, he, hB, hg, _, _, hsz, htk⟩
  · exact Or.inl (List.length_eq_zero_iff.1 hl)
  · simp only [Value.slice.injEq] at he
    have hf : ∀ (l : List RecD) i (hi : i < l.length), (l.flatMap fun x => [Value.int .i64 x.kind, .string x.tenant, .string x.text, .int .i64 x.num])[i * 4]? = some (.int .i64 l[i].kind) ∧ (l.flatMap fun x => [Value.int .i64 x.kind, .string x.tenant, .string x.text, .int .i64 x.num])[i * 4 + 1]? = some (.string l[i].tenant) ∧ (l.flatMap fun x => [Value.int .i64 x.kind, .string x.tenant, .string x.text, .int .i64 x.num])[i * 4 + 2]? = some (.string l[i].text) ∧ (l.flatMap fun x => [Value.int .i64 x.kind, .string x.tenant, .string x.text, .int .i64 x.num])[i * 4 + 3]? = some (.int .i64 l[i].num) := by
      intro l
      induction l with
      | nil => intro i hi; exact absurd hi (by simp)
      | cons x r ih =>
        intro i hi
        cases i with
        | zero => simp
        | succ i =>
          have := ih i (by simpa using hi)
          simp only [List.flatMap_cons, List.cons_append, List.nil_append, List.getElem_cons_succ]
          refine ⟨?_, ?_, ?_, ?_⟩
          · rw [show (i + 1) * 4 = i * 4 + 1 + 1 + 1 + 1 by omega, List.getElem?_cons_succ, List.getElem?_cons_succ, List.getElem?_cons_succ, List.getElem?_cons_succ]; exact this.1
          · rw [show (i + 1) * 4 + 1 = i * 4 + 1 + 1 + 1 + 1 + 1 by omega, List.getElem?_cons_succ, List.getElem?_cons_succ, List.getElem?_cons_succ, List.getElem?_cons_succ]; exact this.2.1
          · rw [show (i + 1) * 4 + 2 = i * 4 + 2 + 1 + 1 + 1 + 1 by omega, List.getElem?_cons_succ, List.getElem?_cons_succ, List.getElem?_cons_succ, List.getElem?_cons_succ]; exact this.2.2.1
          · rw [show (i + 1) * 4 + 3 = i * 4 + 3 + 1 + 1 + 1 + 1 by omega, List.getElem?_cons_succ, List.getElem?_cons_succ, List.getElem?_cons_succ, List.getElem?_cons_succ]; exact this.2.2.2
    refine Or.inr ⟨g, 0, cur, e, he.1, hB, hg, fun i hi => ?_⟩
    have h2 : ∀ j, j < l.length * 4 → cur[j]? = (l.flatMap fun x => [Value.int .i64 x.kind, .string x.tenant, .string x.text, .int .i64 x.num])[j]? := fun j hj => by
      rw [← htk, List.getElem?_take_of_lt hj, Array.getElem?_toList]
    rw [cell_of_row w g _ cur _ _ hg, cell_of_row w g _ cur _ _ hg, cell_of_row w g _ cur _ _ hg, cell_of_row w g _ cur _ _ hg, Nat.zero_add, h2 _ (by omega), h2 _ (by omega), h2 _ (by omega), h2 _ (by omega)]
    exact hf l i hi

def recBulk : List RecD → Nat
  | [] => 0
  | f :: r => f.tenant.size + f.text.size + recBulk r
theorem recBulk_append (a b : List RecD) : recBulk (a ++ b) = recBulk a + recBulk b := by
  induction a with
  | nil => simp [recBulk]
  | cons f r ih => simp [recBulk, ih]; omega
theorem recBulk_take_succ (fs : List RecD) (k : Nat) (h : k < fs.length) : recBulk (fs.take (k + 1)) = recBulk (fs.take k) + (fs[k].tenant.size + fs[k].text.size) := by
  rw [List.take_succ_eq_append_getElem h, recBulk_append]; simp [recBulk]
theorem recBulk_take_le (fs : List RecD) (k : Nat) : recBulk (fs.take k) ≤ recBulk fs := by
  have := recBulk_append (fs.take k) (fs.drop k)
  rw [List.take_append_drop] at this; omega
def szRc (left : Int) (f : RecD) : Int := if (f.tenant.size + f.text.size : Int) ≤ left then left - f.tenant.size - f.text.size else -1
def szRecs (left : Int) (fs : List RecD) : Int := if (fs.length + recBulk fs : Int) ≤ left then left - fs.length - recBulk fs else -1
def ShortR (fs : List RecD) : Prop := ∀ i (h : i < fs.length), fs[i].tenant.size ≤ maxLen ∧ fs[i].text.size ≤ maxLen

end Go.Proofs.YtoecnlhnfhongaaGreatDoor

namespace Go.Proofs.YtoecnlhnfhongaaGreatDoor
open Go.RowKit

def RngR (fs : List RecD) : Prop := ∀ i (h : i < fs.length), I64 fs[i].kind ∧ I64 fs[i].num

/-- What a record must be to have bytes. -/
def recOK (r : RecD) : Prop := r.tenant.size ≤ 255 ∧ r.text.size ≤ 65535 ∧ ((r.kind = 1 ∧ r.num = 0) ∨ (r.kind = 2 ∧ r.tenant.size = 0 ∧ r.text.size = 0) ∨ r.kind = 3)
def rcD (r : RecD) : Decidable (recOK r) := by unfold recOK; infer_instance
def rcB (r : RecD) : Bool := @decide (recOK r) (rcD r)
theorem rcB_t {r : RecD} (h : recOK r) : rcB r = true := @decide_eq_true _ (rcD r) h
theorem rcB_f {r : RecD} (h : ¬ recOK r) : rcB r = false := @decide_eq_false _ (rcD r) h
def encR (r : RecD) : ByteArray := numS 1 r.kind ++ s8B r.tenant ++ s16B r.text ++ numS 8 r.num
def encRs : List RecD → ByteArray
  | [] => ByteArray.empty
  | r :: q => encR r ++ encRs q
def allR (rs : List RecD) : Prop := ∀ i (h : i < rs.length), recOK rs[i]
def batOK (lsn : Int) (rs : List RecD) : Prop := 1 ≤ lsn ∧ lsn ≤ 1000000000000000 ∧ 1 ≤ rs.length ∧ rs.length ≤ 500 ∧ allR rs
def batHead (lsn : Int) (n : Nat) : ByteArray := numS 8 lsn ++ numS 2 (n : Nat)
def batBD (lsn : Int) (rs : List RecD) : Decidable (batOK lsn rs) := by unfold batOK allR recOK; infer_instance
def batB (lsn : Int) (rs : List RecD) : ByteArray := haveI := batBD lsn rs; if batOK lsn rs then batHead lsn rs.length ++ encRs rs else ByteArray.empty
theorem batB_ok {lsn : Int} {rs : List RecD} (h : batOK lsn rs) : batB lsn rs = batHead lsn rs.length ++ encRs rs := by unfold batB; rw [if_pos h]
theorem batB_no {lsn : Int} {rs : List RecD} (h : ¬ batOK lsn rs) : batB lsn rs = ByteArray.empty := by unfold batB; rw [if_neg h]

theorem encRs_append : ∀ (a b : List RecD), encRs (a ++ b) = encRs a ++ encRs b
  | [], b => by simp [encRs]
  | r :: q, b => by
    show encR r ++ encRs (q ++ b) = encR r ++ encRs q ++ encRs b
    rw [encRs_append q b, ByteArray.append_assoc]
theorem encRs_take (rs : List RecD) (k : Nat) (h : k < rs.length) : encRs (rs.take (k + 1)) = encRs (rs.take k) ++ encR rs[k] := by
  rw [List.take_succ_eq_append_getElem h, encRs_append]
  simp [encRs]
theorem encR_size (r : RecD) : (encR r).size = 12 + r.tenant.size + r.text.size := by
  unfold encR
  rw [ByteArray.size_append, ByteArray.size_append, ByteArray.size_append, numS_size, numS_size, s8B_size, s16B_size]; omega
theorem batHead_size (lsn : Int) (n : Nat) : (batHead lsn n).size = 10 := by unfold batHead; rw [ByteArray.size_append, numS_size, numS_size]
theorem allR_no {rs : List RecD} {k : Nat} (hk : k < rs.length) (h : ¬ recOK rs[k]) (lsn : Int) : batB lsn rs = ByteArray.empty := batB_no fun hb => h (hb.2.2.2.2 k hk)
end Go.Proofs.YtoecnlhnfhongaaGreatDoor

