import Derived.Test.YtiajififiophgaaGreatDoorJ01Own
import Derived.WalkKit
import Derived.Below
import Derived.Test.YtiajififiophgaaGreatDoorProg
import Derived.Test.YtiajififiophgaaGreatDoorJ04Cfg
import Derived.Test.YtiajififiophgaaGreatDoorJ02LabB
import Derived.Test.YtiajififiophgaaGreatDoorJ03SNum
import Derived.Deep.AppendLies
import Derived.Test.YtiajififiophgaaGreatDoorJ05HpP
namespace Go.Proofs.YtiajififiophgaaGreatDoor

/-- The keys of each of n shards, in their order. -/
def dealL (sh : ByteArray → Nat) (n : Nat) (ks : List ByteArray) : List (List ByteArray) := (List.range n).map fun i => ks.filter fun k => sh k == i
theorem dealL_length (sh : ByteArray → Nat) (n : Nat) (ks : List ByteArray) : (dealL sh n ks).length = n := by simp [dealL]
theorem dealL_get (sh : ByteArray → Nat) (n : Nat) (ks : List ByteArray) (i : Nat) (h : i < (dealL sh n ks).length) : (dealL sh n ks)[i] = ks.filter fun k => sh k == i := by simp [dealL]
theorem dealL_nil (sh : ByteArray → Nat) (n : Nat) : dealL sh n [] = List.replicate n [] := by
  apply List.ext_getElem
  · simp [dealL_length]
  · intro i h1 h2
    rw [dealL_get]
    simp
/-- One more key goes to the end of its shard. -/
theorem dealL_snoc (sh : ByteArray → Nat) (n : Nat) (ks : List ByteArray) (k : ByteArray) (h : sh k < n) : dealL sh n (ks ++ [k]) = (dealL sh n ks).set (sh k) ((dealL sh n ks)[sh k]'(by rw [dealL_length]; exact h) ++ [k]) := by
  apply List.ext_getElem
  · simp [dealL_length]
  · intro i h1 h2
    have hi : i < (dealL sh n ks).length := by simpa using h2
    have e0 : (dealL sh n ks)[sh k]'(by rw [dealL_length]; exact h) = ks.filter fun q => sh q == sh k := dealL_get _ _ _ _ _
    simp only [e0]
    rw [dealL_get, List.getElem_set, List.filter_append]
    by_cases e : sh k = i
    · rw [if_pos e]
      subst e
      simp
    · rw [if_neg e, dealL_get]
      simp [e]
/-- The first k of n shards, made one after another. -/
theorem dealL_succ (sh : ByteArray → Nat) (n : Nat) (ks : List ByteArray) : dealL sh (n + 1) ks = dealL sh n ks ++ [ks.filter fun k => sh k == n] := by simp [dealL, List.range_succ]
end Go.Proofs.YtiajififiophgaaGreatDoor

namespace Go.Proofs.YtiajififiophgaaGreatDoor
open Go.RowKit

def hashStep (r : Nat) (c : UInt8) : Nat := ((r ^^^ c.toNat) * 1099511628211) % 18446744073709551616
def hashFrom (r : Nat) (l : List UInt8) : Nat := l.foldl hashStep r
def hashL (l : List UInt8) : Nat := hashFrom 14695981039346656037 l
def w64 (r : Nat) : Int := if r < 9223372036854775808 then (r : Int) else (r : Int) - 18446744073709551616

theorem hashFrom_snoc (r : Nat) (l : List UInt8) (c : UInt8) : hashFrom r (l ++ [c]) = hashStep (hashFrom r l) c := by
  unfold hashFrom
  rw [List.foldl_append, List.foldl_cons, List.foldl_nil]
theorem hashL_snoc (l : List UInt8) (c : UInt8) : hashL (l ++ [c]) = hashStep (hashL l) c := hashFrom_snoc _ l c
theorem hashStep_lt (r : Nat) (c : UInt8) : hashStep r c < 18446744073709551616 := by unfold hashStep; omega
theorem hashL_lt (l : List UInt8) : hashL l < 18446744073709551616 := by
  rcases List.eq_nil_or_concat l with rfl | ⟨l', c, rfl⟩
  · decide
  · rw [List.concat_eq_append, hashL_snoc]; exact hashStep_lt _ _
theorem hash_take (s : ByteArray) (k : Nat) (h : k < s.size) : hashL (s.data.toList.take (k + 1)) = hashStep (hashL (s.data.toList.take k)) s[k] := by
  have hl : k < s.data.toList.length := by simpa using h
  rw [List.take_succ_eq_append_getElem hl, hashL_snoc]; rfl

theorem wrap_i64 (n : Nat) : IntKind.i64.wrap (n : Int) = w64 (n % 18446744073709551616) := by
  simp only [IntKind.wrap, IntKind.bits, IntKind.signed, w64]
  simp
  split <;> split <;> omega
theorem wrap_u64 (n : Nat) : IntKind.u64.wrap (n : Int) = ((n % 18446744073709551616 : Nat) : Int) := by
  simp only [IntKind.wrap, IntKind.bits, IntKind.signed]
  simp

theorem wrap_congr (a b : Int) (h : a % 18446744073709551616 = b % 18446744073709551616) : IntKind.i64.wrap a = IntKind.i64.wrap b := by
  simp only [IntKind.wrap, IntKind.bits, IntKind.signed]
  simp [h]
theorem w64_mod (r : Nat) : w64 r % 18446744073709551616 = (r : Int) % 18446744073709551616 := by
  unfold w64; split <;> omega

theorem ofInt_w64 (r : Nat) : BitVec.ofInt 64 (w64 r) = BitVec.ofNat 64 r := by
  apply BitVec.eq_of_toNat_eq
  rw [BitVec.toNat_ofInt, BitVec.toNat_ofNat]
  have := w64_mod r
  simp
  omega

theorem xor_lt64 (r : Nat) (c : UInt8) (h : r < 18446744073709551616) : r ^^^ c.toNat < 18446744073709551616 :=
  Nat.xor_lt_two_pow (n := 64) (by omega) (by have := c.toNat_lt; omega)

theorem xor_w64 (r : Nat) (c : UInt8) (h : r < 18446744073709551616) : bits .xor .i64 (w64 r) (c.toNat : Int) = w64 (r ^^^ c.toNat) := by
  have hc := c.toNat_lt
  have hx := xor_lt64 r c h
  show IntKind.i64.wrap ((BitVec.ofInt 64 (w64 r) ^^^ BitVec.ofInt 64 (c.toNat : Int)).toNat : Int) = _
  rw [ofInt_w64 r, BitVec.ofInt_natCast, BitVec.toNat_xor, BitVec.toNat_ofNat, BitVec.toNat_ofNat, Nat.mod_eq_of_lt h, Nat.mod_eq_of_lt (by omega), wrap_i64, Nat.mod_eq_of_lt hx]

theorem xor_u64 (r : Nat) (c : UInt8) (h : r < 18446744073709551616) : bits .xor .u64 (r : Int) (c.toNat : Int) = ((r ^^^ c.toNat : Nat) : Int) := by
  have hc := c.toNat_lt
  have hx := xor_lt64 r c h
  show IntKind.u64.wrap ((BitVec.ofInt 64 (r : Int) ^^^ BitVec.ofInt 64 (c.toNat : Int)).toNat : Int) = _
  rw [BitVec.ofInt_natCast, BitVec.ofInt_natCast, BitVec.toNat_xor, BitVec.toNat_ofNat, BitVec.toNat_ofNat, Nat.mod_eq_of_lt h, Nat.mod_eq_of_lt (by omega), wrap_u64, Nat.mod_eq_of_lt hx]

theorem stepI (r : Nat) (c : UInt8) (h : r < 18446744073709551616) : IntKind.i64.wrap (bits .xor .i64 (w64 r) (c.toNat : Int) * 1099511628211) = w64 (hashStep r c) := by
  rw [xor_w64 r c h, hashStep, ← wrap_i64]
  apply wrap_congr
  rw [Int.mul_emod, w64_mod _, ← Int.mul_emod]
  rfl
theorem stepU (r : Nat) (c : UInt8) (h : r < 18446744073709551616) : IntKind.u64.wrap (bits .xor .u64 (r : Int) (c.toNat : Int) * 1099511628211) = ((hashStep r c : Nat) : Int) := by
  rw [xor_u64 r c h, hashStep, ← wrap_u64]
  rfl
end Go.Proofs.YtiajififiophgaaGreatDoor

namespace Go.Proofs.YtiajififiophgaaGreatDoor
open Go.RowKit

set_option maxRecDepth 100000 in
set_option maxHeartbeats 1000000 in
theorem specHash_any (s : ByteArray) (w : World) (hs : s.size ≤ maxLen) :
    Calls Tryz.prog 57 #[.string s] w fun e w' => e = .returned (.int .i64 (w64 (hashL s.data.toList))) ∧ w' = w := by
  unfold maxLen at hs
  go_enter Tryz.func57, Tryz.ntmps57
  go_wp2
  go_loop [3, 4] (fun h i => ∃ (j R : Nat), j ≤ s.size ∧ i = .int .i64 j ∧ h = .int .i64 (w64 R) ∧ Hid (R = hashL (s.data.toList.take j))) (fun _ i => s.size - (intOf i).toNat)
  case atStart => exact ⟨0, hashL [], Nat.zero_le _, rfl, rfl, rfl⟩
  case round =>
    obtain ⟨j, R, hj, rfl, rfl, hR⟩ := hrel
    have HL : Hid (R < 18446744073709551616) := by show R < _; rw [hR.out]; exact hashL_lt _
    generalize hH : w64 R = H
    have HH : Hid (w64 R = H) := hH
    clear hH
    have hU : ∀ h : j < s.size, (s[j]'h).toNat < 256 := fun h => (s[j]'h).toNat_lt
    by_cases hlt : j < s.size
    · have hU2 := hU hlt
      clear hU
      go_wp2
      go_round
      case rel => exact ⟨j + 1, hashStep R s[j], by omega, by go_num, by rw [← stepI R s[j] HL.out, HH.out, IntKind.wrap_i64, wrap64], by show _ = _; rw [hash_take s j hlt, hR.out]⟩
      case measure => simp [intOf]; omega
    · go_wp2
      go_ret
      refine ⟨ret_int ?_, rfl⟩
      rw [← HH.out, hR.out, List.take_of_length_le (by simp; omega)]

set_option maxRecDepth 100000 in
set_option maxHeartbeats 1000000 in
theorem implHash_any (s : ByteArray) (w : World) (hs : s.size ≤ maxLen) :
    Calls Tryz.prog 110 #[.string s] w fun e w' => e = .returned (.int .i64 (w64 (hashL s.data.toList))) ∧ w' = w := by
  unfold maxLen at hs
  go_enter Tryz.func110, Tryz.ntmps110
  go_wp2
  go_loop [3, 4, 7] (fun h _ i => ∃ (j R : Nat), j ≤ s.size ∧ i = .int .i64 j ∧ h = .int .u64 (R : Nat) ∧ Hid (R = hashL (s.data.toList.take j))) (fun _ _ i => s.size - (intOf i).toNat)
  case atStart => exact ⟨0, hashL [], Nat.zero_le _, rfl, rfl, rfl⟩
  case round =>
    obtain ⟨j, R, hj, rfl, rfl, hR⟩ := hrel
    have HL : Hid (R < 18446744073709551616) := by show R < _; rw [hR.out]; exact hashL_lt _
    by_cases hlt : j < s.size
    · have hU : s[j].toNat < 256 := s[j].toNat_lt
      have hwu : IntKind.u64.wrap (s[j].toNat : Int) = (s[j].toNat : Int) := by rw [wrap_u64, Nat.mod_eq_of_lt (by omega)]
      go_wp2
      go_round
      case rel => exact ⟨j + 1, hashStep R s[j], by omega, by go_num, by rw [← stepU R s[j] HL.out], by show _ = _; rw [hash_take s j hlt, hR.out]⟩
      case measure => simp [intOf]; omega
    · go_wp2
      go_ret
      refine ⟨ret_int ?_, rfl⟩
      have e : R = hashL s.data.toList := by rw [hR.out, List.take_of_length_le (by simp; omega)]
      rw [show wrap64 (R : Int) = IntKind.i64.wrap (R : Int) by rw [IntKind.wrap_i64, wrap64], wrap_i64, Nat.mod_eq_of_lt HL.out, e]
end Go.Proofs.YtiajififiophgaaGreatDoor

namespace Go.Proofs.YtiajififiophgaaGreatDoor
open Go.RowKit

def shardV (c : CfgD) (s : ByteArray) : Int := if c.ha = 1 then 0 else if c.ha = 2 then (s.size : Int) % c.sh else ((hashL s.data.toList : Nat) : Int) % c.sh
theorem wrapU_w64 {r : Nat} (h : r < 18446744073709551616) : IntKind.u64.wrap (w64 r) = (r : Int) := by
  simp only [IntKind.wrap, IntKind.bits, IntKind.signed, w64]
  simp
  split <;> omega
set_option maxRecDepth 100000 in
set_option maxHeartbeats 2000000 in
theorem shardOf_any (c : CfgD) (s : ByteArray) (w : World) (hs : s.size ≤ maxLen) (h1 : 1 ≤ c.sh) (h2 : c.sh ≤ 1000000) :
    Calls Tryz.prog 61 #[cfgV c, .string s] w fun e w' => e = .returned (.int .i64 (shardV c s)) ∧ Below w.heap.size w w' := by
  have HH : Hid (∀ W, Calls Tryz.prog 110 #[.string s] W fun e w' => e = .returned (.int .i64 (w64 (hashL s.data.toList))) ∧ w' = W) := fun W => implHash_any s W hs
  unfold maxLen at hs
  unfold cfgV
  have hne : c.sh ≠ 0 := by omega
  by_cases e1 : c.ha = 1
  · have HV : Hid (shardV c s = 0) := by show _ = _; unfold shardV; rw [if_pos e1]
    go_enter Tryz.func61, Tryz.ntmps61
    go_wp2
    go_ret
    exact ⟨ret_int (by rw [HV.out]), bnew _ _⟩
  by_cases e2 : c.ha = 2
  · have HV : Hid (shardV c s = (s.size : Int) % c.sh) := by show _ = _; unfold shardV; rw [if_neg e1, if_pos e2]
    go_enter Tryz.func61, Tryz.ntmps61
    go_wp2
    go_ret
    refine ⟨ret_int ?_, bnew _ _⟩
    rw [HV.out]
  have HV : Hid (shardV c s = ((hashL s.data.toList : Nat) : Int) % c.sh) := by show _ = _; unfold shardV; rw [if_neg e1, if_neg e2]
  have hlt := hashL_lt s.data.toList
  generalize hashL s.data.toList = H at *
  have hwu := wrapU_w64 hlt
  have hws : IntKind.u64.wrap c.sh = c.sh := by
    simp only [IntKind.wrap, IntKind.bits, IntKind.signed]
    simp
    omega
  go_enter Tryz.func61, Tryz.ntmps61
  have c3 : (w.alloc (.cells #[.int .i64 c.w, .int .i64 c.tl, .int .i64 c.ml, .int .i64 c.sh, .int .i64 c.ha, .int .i64 c.sg] 33)).cell? ⟨w.heap.size, 3, none⟩ = some (.int .i64 c.sh) := (Blk.new _ _ _).cell 3
  have d3 := Later.cells c3
  have hnel := Later.there (w.alloc (.cells #[.int .i64 c.w, .int .i64 c.tl, .int .i64 c.ml, .int .i64 c.sh, .int .i64 c.ha, .int .i64 c.sg] 33))
  go_wp2_with fail
  refine wp_region_later (by kernel_rfl) (by kernel_rfl) ?_
  repeat (go_big_quiet_step (first | (go_at_call 110; exact calls_later_same (HH.out _)) | fail))
  refine wpQuiet_nil ?_
  rintro _ ⟨y, rfl⟩
  go_wp2
  go_ret
  refine ⟨ret_int ?_, bto (bnew _ _) y.h⟩
  rw [HV.out]
  have m1 := Int.emod_lt_of_pos (H : Int) (show 0 < c.sh by omega)
  have m0 := Int.emod_nonneg (H : Int) hne
  generalize (H : Int) % c.sh = X at *
  first | go_num | (unfold wrap64; omega)
end Go.Proofs.YtiajififiophgaaGreatDoor

namespace Go.Proofs.YtiajififiophgaaGreatDoor
open Go.RowKit

/-- A slice's address holds these strings (nothing is asked where there are none). -/
def StrsIn (w : World) (a : Option Addr) (l : List ByteArray) : Prop := l = [] ∨ ∃ b o, a = some ⟨b, o, none⟩ ∧ b < w.heap.size ∧ ∀ i (h : i < l.length), w.cell? ⟨b, o + i, none⟩ = some (.string l[i])
theorem StrsIn.later {w w' : World} {a : Option Addr} {l : List ByteArray} (h : StrsIn w a l) (hb : Below w.heap.size w w') : StrsIn w' a l := by
  rcases h with h | ⟨b, o, rfl, hlt, h⟩
  · exact Or.inl h
  · exact Or.inr ⟨b, o, rfl, Nat.lt_of_lt_of_le hlt hb.size, fun i hi => by rw [← h i hi]; exact hb.cell hlt⟩
theorem StrsIn.at {w : World} {a : Option Addr} {l : List ByteArray} (h : StrsIn w a l) {i : Nat} (hi : i < l.length) : ∃ b o, a = some ⟨b, o, none⟩ ∧ b < w.heap.size ∧ w.cell? ⟨b, o + i, none⟩ = some (.string l[i]) := by
  rcases h with rfl | ⟨b, o, rfl, hlt, h⟩
  · exact absurd hi (by simp)
  · exact ⟨b, o, rfl, hlt, h i hi⟩
/-- The strings lie in a block of their own, from B on, that may be written. -/
def StrsOwn (w : World) (B : Nat) (a : Option Addr) (l : List ByteArray) : Prop :=
  l = [] ∨ ∃ g o cur t, a = some ⟨g, o, none⟩ ∧ B ≤ g ∧ w.heap[g]? = some (.cells cur t (0, 0)) ∧ ∀ i (h : i < l.length), w.cell? ⟨g, o + i, none⟩ = some (.string l[i])
theorem StrsOwn.strs {w : World} {B : Nat} {a : Option Addr} {l : List ByteArray} (h : StrsOwn w B a l) : StrsIn w a l := by
  rcases h with h | ⟨g, o, cur, t, e, _, hb, h⟩
  · exact Or.inl h
  · exact Or.inr ⟨g, o, e, lt_of_block hb, h⟩
theorem StrsOwn.later {w w' : World} {B : Nat} {a : Option Addr} {l : List ByteArray} (h : StrsOwn w B a l) (hb : Below w.heap.size w w') : StrsOwn w' B a l := by
  rcases h with h | ⟨g, o, cur, t, e, hB, hg, h⟩
  · exact Or.inl h
  · have hlt := lt_of_block hg
    exact Or.inr ⟨g, o, cur, t, e, hB, (hb.block g hlt).trans hg, fun i hi => by rw [← h i hi]; exact hb.cell hlt⟩
theorem strs_of_row {w : World} {B : Nat} {e : TypeId} {a : Option Addr} {cap : Nat} {l : List ByteArray} (h : w.ownsRow B e 1 (.slice a l.length cap) l.length (l.map Value.string)) : StrsOwn w B a l := by
  rcases h.2 with ⟨_, hl⟩ | ⟨g, cap', cur, he, hB, hg, _, _, hsz, htk⟩
  · exact Or.inl (List.length_eq_zero_iff.1 hl)
  · simp only [Value.slice.injEq] at he
    refine Or.inr ⟨g, 0, cur, e, he.1, hB, hg, fun i hi => ?_⟩
    rw [Nat.zero_add, cell_of_row w g i cur _ _ hg]
    have h2 : (cur.toList.take (l.length * 1))[i]? = (l.map Value.string)[i]? := by rw [htk]
    rw [List.getElem?_take_of_lt (by omega)] at h2
    rw [← Array.getElem?_toList, h2]
    simp [List.getElem?_eq_getElem hi]

theorem info_str : ∃ i, Tryz.prog.info? 9 = some i ∧ i.zero = some (.string ByteArray.empty) ∧ i.size = 1 ∧ i.bytes = 16 := by
  have h : (Tryz.prog.info? 9).map (fun i => (i.zero, i.size, i.bytes)) = some (some (.string ByteArray.empty), 1, 16) := by kernel_rfl
  obtain ⟨i, hi, hz⟩ := Option.map_eq_some_iff.1 h
  simp only [Prod.mk.injEq] at hz
  exact ⟨i, hi, hz.1, hz.2.1, hz.2.2⟩

end Go.Proofs.YtiajififiophgaaGreatDoor

namespace Go.Proofs.YtiajififiophgaaGreatDoor
open Go.RowKit

/-- A slice's address holds these rows of texts (nothing is asked where there are none). -/
def SSIn (w : World) (a : Option Addr) (xs : List (List ByteArray)) : Prop :=
  xs = [] ∨ ∃ b o, a = some ⟨b, o, none⟩ ∧ b < w.heap.size ∧ ∀ i (h : i < xs.length), ∃ a1 c1, w.cell? ⟨b, o + i, none⟩ = some (.slice a1 xs[i].length c1) ∧ StrsIn w a1 xs[i]
theorem SSIn.later {w w' : World} {a : Option Addr} {xs : List (List ByteArray)} (h : SSIn w a xs) (hb : Below w.heap.size w w') : SSIn w' a xs := by
  rcases h with h | ⟨b, o, rfl, hlt, h⟩
  · exact Or.inl h
  · refine Or.inr ⟨b, o, rfl, Nat.lt_of_lt_of_le hlt hb.size, fun i hi => ?_⟩
    obtain ⟨a1, c1, h1, h2⟩ := h i hi
    exact ⟨a1, c1, (hb.cell hlt).trans h1, h2.later hb⟩
theorem SSIn.at {w : World} {a : Option Addr} {xs : List (List ByteArray)} (h : SSIn w a xs) {i : Nat} (hi : i < xs.length) :
    ∃ b o a1 c1, a = some ⟨b, o, none⟩ ∧ b < w.heap.size ∧ w.cell? ⟨b, o + i, none⟩ = some (.slice a1 xs[i].length c1) ∧ StrsIn w a1 xs[i] := by
  rcases h with rfl | ⟨b, o, rfl, hlt, h⟩
  · exact absurd hi (by simp)
  · obtain ⟨a1, c1, h1, h2⟩ := h i hi
    exact ⟨b, o, a1, c1, rfl, hlt, h1, h2⟩

/-- The texts lie in a block of their own, from B on, that may be written, and bears the tag n. -/
def StrsTag (w : World) (B : Nat) (T : Nat → Nat) (n : Nat) (a : Option Addr) (l : List ByteArray) : Prop :=
  l = [] ∨ ∃ g o cur t, a = some ⟨g, o, none⟩ ∧ B ≤ g ∧ T g = n ∧ w.heap[g]? = some (.cells cur t (0, 0)) ∧ ∀ i (h : i < l.length), w.cell? ⟨g, o + i, none⟩ = some (.string l[i])
theorem StrsTag.own {w : World} {B n : Nat} {T : Nat → Nat} {a : Option Addr} {l : List ByteArray} (h : StrsTag w B T n a l) : StrsOwn w B a l := by
  rcases h with h | ⟨g, o, cur, t, e, hB, _, hb, h⟩
  · exact Or.inl h
  · exact Or.inr ⟨g, o, cur, t, e, hB, hb, h⟩
theorem StrsTag.strs {w : World} {B n : Nat} {T : Nat → Nat} {a : Option Addr} {l : List ByteArray} (h : StrsTag w B T n a l) : StrsIn w a l := h.own.strs
theorem StrsTag.keep {w w' : World} {B n : Nat} {T T' : Nat → Nat} {a : Option Addr} {l : List ByteArray} (h : StrsTag w B T n a l)
    (hk : ∀ g, g < w.heap.size → B ≤ g → T g = n → w'.heap[g]? = w.heap[g]? ∧ T' g = n) : StrsTag w' B T' n a l := by
  rcases h with h | ⟨g, o, cur, t, e, hB, hT, hb, h⟩
  · exact Or.inl h
  · obtain ⟨h1, h2⟩ := hk g (lt_of_block hb) hB hT
    have hc : ∀ j, w'.cell? ⟨g, j, none⟩ = w.cell? ⟨g, j, none⟩ := fun j => World.cell?_of_block h1
    exact Or.inr ⟨g, o, cur, t, e, hB, h2, h1.trans hb, fun i hi => by simp only [hc]; exact h i hi⟩
theorem StrsTag.turn {S : Nat → Prop} {w w' : World} {B n : Nat} {T : Nat → Nat} {a : Option Addr} {l : List ByteArray} (h : StrsTag w B T n a l) (ht : Turn S w w') (hS : ∀ g, T g = n → ¬ S g) : StrsTag w' B T n a l :=
  h.keep fun g hg _ hT => ⟨ht.block g hg (hS g hT), hT⟩
theorem StrsOwn.tag {w : World} {B n : Nat} {T : Nat → Nat} {a : Option Addr} {l : List ByteArray} (h : StrsOwn w B a l) (hT : ∀ g o, a = some ⟨g, o, none⟩ → T g = n) : StrsTag w B T n a l := by
  rcases h with h | ⟨g, o, cur, t, e, hB, hb, h⟩
  · exact Or.inl h
  · exact Or.inr ⟨g, o, cur, t, e, hB, hT g o e, hb, h⟩

/-- The rows lie in blocks of their own, from B on, no two of them one, that may be written: tag 0 the row of rows, i + 1 the row i. -/
def SSOwn (w : World) (B : Nat) (a : Option Addr) (xs : List (List ByteArray)) : Prop :=
  xs = [] ∨ ∃ g o cur t T, a = some ⟨g, o, none⟩ ∧ B ≤ g ∧ w.heap[g]? = some (.cells cur t (0, 0)) ∧ T g = 0 ∧ ∀ i (h : i < xs.length), ∃ a1 c1, w.cell? ⟨g, o + i, none⟩ = some (.slice a1 xs[i].length c1) ∧ StrsTag w B T (i + 1) a1 xs[i]
theorem SSOwn.ss {w : World} {B : Nat} {a : Option Addr} {xs : List (List ByteArray)} (h : SSOwn w B a xs) : SSIn w a xs := by
  rcases h with h | ⟨g, o, cur, t, T, rfl, _, hb, _, h⟩
  · exact Or.inl h
  · refine Or.inr ⟨g, o, rfl, lt_of_block hb, fun i hi => ?_⟩
    obtain ⟨a1, c1, h1, h2⟩ := h i hi
    exact ⟨a1, c1, h1, h2.strs⟩
/-- Only blocks below B have turned. -/
theorem SSOwn.turn {S : Nat → Prop} {w w' : World} {B : Nat} {a : Option Addr} {xs : List (List ByteArray)} (h : SSOwn w B a xs) (ht : Turn S w w') (hS : ∀ g, B ≤ g → g < w.heap.size → ¬ S g) : SSOwn w' B a xs := by
  rcases h with h | ⟨g, o, cur, t, T, rfl, hB, hg, hT, h⟩
  · exact Or.inl h
  · have hk := ht.block g (lt_of_block hg) (hS g hB (lt_of_block hg))
    refine Or.inr ⟨g, o, cur, t, T, rfl, hB, hk.trans hg, hT, fun i hi => ?_⟩
    obtain ⟨a1, c1, h1, h2⟩ := h i hi
    exact ⟨a1, c1, (World.cell?_of_block hk).trans h1, h2.keep fun g' hg' hB' hT' => ⟨ht.block g' hg' (hS g' hB' hg'), hT'⟩⟩
theorem SSOwn.later {w w' : World} {B : Nat} {a : Option Addr} {xs : List (List ByteArray)} (h : SSOwn w B a xs) (hb : Below w.heap.size w w') : SSOwn w' B a xs :=
  h.turn (Turn.of (S := fun _ => False) hb) fun _ _ _ e => e

theorem SSOwn.mono {w : World} {B B' : Nat} {a : Option Addr} {xs : List (List ByteArray)} (h : SSOwn w B a xs) (hB : B' ≤ B) : SSOwn w B' a xs := by
  rcases h with h | ⟨g, o, cur, t, T, e, h1, hg, hT, h⟩
  · exact Or.inl h
  · refine Or.inr ⟨g, o, cur, t, T, e, Nat.le_trans hB h1, hg, hT, fun i hi => ?_⟩
    obtain ⟨a1, c1, q1, q2⟩ := h i hi
    refine ⟨a1, c1, q1, ?_⟩
    rcases q2 with q2 | ⟨g', o', cur', t', e', hB', r⟩
    · exact Or.inl q2
    · exact Or.inr ⟨g', o', cur', t', e', Nat.le_trans hB hB', r⟩
/-- Rows that grow: the headers are the cells of c, each row a block of its own tag. -/
def RowsT (w : World) (B : Nat) (T : Nat → Nat) (c : Array Value) (xs : List (List ByteArray)) : Prop :=
  c.size = xs.length ∧ ∀ i (h : i < xs.length), ∃ v, c[i]? = some v ∧ w.ownsRow B 9 1 v xs[i].length (xs[i].map Value.string) ∧ ∀ g, v.ownBlock = some g → T g = i + 1
theorem RowsT.own {w : World} {B g : Nat} {T : Nat → Nat} {c : Array Value} {t : TypeId} {xs : List (List ByteArray)} (h : RowsT w B T c xs) (hb : Blk w g c t) (hB : B ≤ g) (hT : T g = 0) : SSOwn w B (some ⟨g, 0, none⟩) xs := by
  refine Or.inr ⟨g, 0, c, t, T, rfl, hB, hb, hT, fun i hi => ?_⟩
  obtain ⟨v, h1, h2, h3⟩ := h.2 i hi
  obtain ⟨a1, c1, rfl⟩ : ∃ a1 c1, v = .slice a1 xs[i].length c1 := by
    rcases h2.2 with ⟨e, h0⟩ | ⟨g, cap, cur, e, _⟩
    · exact ⟨none, 0, by rw [e, h0]⟩
    · exact ⟨_, _, e⟩
  refine ⟨a1, c1, by rw [Nat.zero_add, hb.cell]; exact h1, (strs_of_row h2).tag fun g' o' e => h3 g' ?_⟩
  rcases h2.2 with ⟨e', h0⟩ | ⟨g2, cap, cur, e', _⟩
  · rw [e] at e'; cases e'
  · rw [e] at e'; cases e'; rw [e]; rfl
theorem RowsT.at {w : World} {B : Nat} {T : Nat → Nat} {c : Array Value} {xs : List (List ByteArray)} (h : RowsT w B T c xs) {i : Nat} (hi : i < xs.length) :
    ∃ v, c[i]? = some v ∧ w.ownsRow B 9 1 v xs[i].length (xs[i].map Value.string) ∧ ∀ g, v.ownBlock = some g → T g = i + 1 := h.2 i hi
/-- One text more in the row i: in the row's own block or in a new one. -/
theorem RowsT.snoc {w w4 : World} {B H i gg cap : Nat} {T : Nat → Nat} {c : Array Value} {xs : List (List ByteArray)} {v : Value} {k : ByteArray} (h : RowsT w B T c xs) (hi : i < xs.length) (hT : ∀ g, v.ownBlock = some g → T g = i + 1)
    (ht : Turn (fun k => v.ownBlock = some k) w w4) (hH : w.heap.size ≤ H) (hat : v.ownBlock = some gg ∨ gg = H) (hown : w4.ownsRow B 9 1 (.slice (some ⟨gg, 0, none⟩) (xs[i].length + 1) cap) (xs[i].length + 1) (xs[i].map Value.string ++ [.string k])) :
    RowsT w4 B (fun b => if b = gg then i + 1 else T b) (c.setIfInBounds i (.slice (some ⟨gg, 0, none⟩) (xs[i].length + 1) cap)) (xs.set i (xs[i] ++ [k])) := by
  have hci : i < c.size := by rw [h.1]; exact hi
  refine ⟨by simp [h.1], fun j hj => ?_⟩
  have hj' : j < xs.length := by simpa using hj
  by_cases e : i = j
  · subst e
    refine ⟨_, Array.getElem?_setIfInBounds_self_of_lt hci, ?_, fun g hg => ?_⟩
    · simpa using hown
    · simp only [Value.ownBlock, Option.some.injEq] at hg
      simp only [if_pos hg.symm]
  · obtain ⟨u, h1, h2, h3⟩ := h.2 j hj'
    have hne : ∀ g, u.ownBlock = some g → ¬ v.ownBlock = some g := fun g hg hg' => by
      have := hT g hg'
      have := h3 g hg
      omega
    refine ⟨u, by rw [Array.getElem?_setIfInBounds_ne e]; exact h1, ?_, fun g hg => ?_⟩
    · have := ht.row h2 hne
      simpa [List.getElem_set, e] using this
    · have hgg : g ≠ gg := by
        intro e'
        subst e'
        rcases hat with h | h
        · exact hne g hg h
        · have := (h2.lt g hg).2
          omega
      simp only [if_neg hgg]
      exact h3 g hg
theorem RowsT.base {w : World} {B B' : Nat} {T : Nat → Nat} {c : Array Value} {xs : List (List ByteArray)} (h : RowsT w B T c xs) (hB : B' ≤ B) : RowsT w B' T c xs := by
  refine ⟨h.1, fun i hi => ?_⟩
  obtain ⟨v, h1, ⟨p, h2⟩, h3⟩ := h.2 i hi
  refine ⟨v, h1, ⟨p, ?_⟩, h3⟩
  rcases h2 with h2 | ⟨g, cap, cur, e1, e2, r⟩
  · exact Or.inl h2
  · exact Or.inr ⟨g, cap, cur, e1, Nat.le_trans hB e2, r⟩
/-- Other blocks have turned. -/
theorem RowsT.turn {S : Nat → Prop} {w w' : World} {B : Nat} {T : Nat → Nat} {c : Array Value} {xs : List (List ByteArray)} (h : RowsT w B T c xs) (ht : Turn S w w') (hS : ∀ g, g < w.heap.size → B ≤ g → T g ≠ 0 → ¬ S g) : RowsT w' B T c xs := by
  refine ⟨h.1, fun i hi => ?_⟩
  obtain ⟨v, h1, h2, h3⟩ := h.2 i hi
  exact ⟨v, h1, ht.row h2 (fun g hg => hS g (h2.lt g hg).2 (h2.lt g hg).1 (by have := h3 g hg; omega)), h3⟩

theorem row_shape {W : World} {B : Nat} {e : TypeId} {size : Nat} {v : Value} {n : Nat} {xs : List Value} (h : W.ownsRow B e size v n xs) : ∃ a c, v = .slice a n c := by
  rcases h.2 with ⟨rfl, rfl⟩ | ⟨g, cap, _, rfl, _⟩
  · exact ⟨none, 0, rfl⟩
  · exact ⟨_, _, rfl⟩
/-- A row of rows that grows: v is its header, vs the headers of its rows, which lie in blocks of tag 1; its own block has the tag 0. -/
def RowsG (w : World) (B : Nat) (T : Nat → Nat) (v : Value) (vs : List Value) (xs : List (List ByteArray)) : Prop :=
  w.ownsRow B 99 1 v xs.length vs ∧ (∀ g, v.ownBlock = some g → T g = 0) ∧ ∀ i (h : i < xs.length), ∃ a1 c1, vs[i]? = some (.slice a1 xs[i].length c1) ∧ StrsTag w B T 1 a1 xs[i]
theorem RowsG.ss {w : World} {B cap : Nat} {T : Nat → Nat} {a : Option Addr} {vs : List Value} {xs : List (List ByteArray)} (h : RowsG w B T (.slice a xs.length cap) vs xs) : SSIn w a xs := by
  obtain ⟨hr, _, hx⟩ := h
  rcases hr.2 with ⟨_, h0⟩ | ⟨g, cap', cur, e, hB, hg, _, _, hsz, htk⟩
  · exact Or.inl (List.length_eq_zero_iff.1 h0)
  · simp only [Value.slice.injEq] at e
    refine Or.inr ⟨g, 0, e.1, lt_of_block hg, fun i hi => ?_⟩
    obtain ⟨a1, c1, h1, h2⟩ := hx i hi
    refine ⟨a1, c1, ?_, h2.strs⟩
    rw [Nat.zero_add, cell_of_row w g i cur _ _ hg, ← h1, ← htk, List.getElem?_take_of_lt (by omega), Array.getElem?_toList]
theorem RowsG.later {w w' : World} {B : Nat} {T : Nat → Nat} {v : Value} {vs : List Value} {xs : List (List ByteArray)} (h : RowsG w B T v vs xs) (hb : Below w.heap.size w w') : RowsG w' B T v vs xs := by
  obtain ⟨hr, h1, hx⟩ := h
  refine ⟨(Turn.of (S := fun _ => False) hb).row hr (fun _ _ e => e), h1, fun i hi => ?_⟩
  obtain ⟨a1, c1, h2, h3⟩ := hx i hi
  exact ⟨a1, c1, h2, h3.keep fun g hg _ hT => ⟨hb.block g hg, hT⟩⟩
/-- One row more. -/
theorem RowsG.snoc {w w5 w6 : World} {B H gg cap c1 : Nat} {T : Nat → Nat} {v : Value} {vs : List Value} {xs : List (List ByteArray)} {a1 : Option Addr} {l : List ByteArray} (h : RowsG w B T v vs xs) (hb : Below w.heap.size w w5) (hB : B ≤ w.heap.size) (hl : StrsOwn w5 w.heap.size a1 l)
    (ht : Turn (fun k => v.ownBlock = some k) w5 w6) (hH : w5.heap.size ≤ H) (hat : v.ownBlock = some gg ∨ gg = H) (hown : w6.ownsRow B 99 1 (.slice (some ⟨gg, 0, none⟩) (xs.length + 1) cap) (xs.length + 1) (vs ++ [.slice a1 l.length c1])) :
    ∃ T', RowsG w6 B T' (.slice (some ⟨gg, 0, none⟩) (xs.length + 1) cap) (vs ++ [.slice a1 l.length c1]) (xs ++ [l]) := by
  obtain ⟨hr, h1, hx⟩ := h
  have hvl : ∀ g, v.ownBlock = some g → g < w.heap.size := fun g hg => (hr.lt g hg).2
  have hvs : vs.length = xs.length := by
    have := hr.1
    simpa using this
  have hbs := hb.size
  refine ⟨fun b => if b = gg then 0 else if b < w.heap.size then T b else 1, ?_, fun g hg => ?_, fun i hi => ?_⟩
  · simpa using hown
  · simp only [Value.ownBlock, Option.some.injEq] at hg
    simp only [if_pos hg.symm]
  · by_cases e : i < xs.length
    · obtain ⟨a2, c2, h2, h3⟩ := hx i e
      refine ⟨a2, c2, ?_, ?_⟩
      · rw [List.getElem?_append_left (by omega), h2]
        simp [e]
      · have he : (xs ++ [l])[i] = xs[i] := by simp [e]
        rw [he]
        refine h3.keep fun g hg _ hT => ?_
        have hnv : ¬ v.ownBlock = some g := fun e' => by have := h1 g e'; omega
        refine ⟨(ht.block g (by omega) hnv).trans (hb.block g hg), ?_⟩
        have hne : g ≠ gg := fun e' => by
          subst e'
          rcases hat with h | h
          · exact hnv h
          · omega
        simp only [if_neg hne, if_pos hg]
        exact hT
    · have hi2 : i = xs.length := by simp at hi; omega
      subst hi2
      refine ⟨a1, c1, ?_, ?_⟩
      · have he : (xs ++ [l])[xs.length] = l := by simp
        rw [he, List.getElem?_append_right (by omega), hvs]
        simp
      · have he : (xs ++ [l])[xs.length] = l := by simp
        rw [he]
        rcases hl with h0 | ⟨g, o, cur, ty, e1, hBg, hg, hc⟩
        · exact Or.inl h0
        · have hnv : ¬ v.ownBlock = some g := fun e' => by have := hvl g e'; omega
          have hne : g ≠ gg := fun e' => by
            subst e'
            rcases hat with h | h
            · exact hnv h
            · have := lt_of_block hg; omega
          have hk := ht.block g (lt_of_block hg) hnv
          refine Or.inr ⟨g, o, cur, ty, e1, by omega, ?_, hk.trans hg, fun j hj => (World.cell?_of_block hk).trans (hc j hj)⟩
          simp only [if_neg hne, if_neg (show ¬ g < w.heap.size by omega)]
end Go.Proofs.YtiajififiophgaaGreatDoor

namespace Go.Proofs.YtiajififiophgaaGreatDoor
open Go.RowKit

theorem conv_one (w : World) (n : Int) : (convert 49 9 (.slice (some ⟨w.heap.size, 0, none⟩) 1 1)).run Tryz.prog (w.alloc (.cells #[.int .u8 n] 5)) = .ok (.string ⟨#[UInt8.ofNat n.toNat]⟩) (w.alloc (.cells #[.int .u8 n] 5)) := by
  rw [run_convert_bytes_string _ 49 9 5 _ 1 1 Tryz.underlying49 Tryz.underlying5 Tryz.underlying9, run_bytesToString _ _ 1 1 [n] (by simp [go_sem, loadCells])]
  rfl

theorem str_one (c : UInt8) (s : ByteArray) : ((⟨#[c]⟩ : ByteArray) ++ s).data.toList = c :: s.data.toList := by
  simp

theorem str_one_size (c : UInt8) (s : ByteArray) : ((⟨#[c]⟩ : ByteArray) ++ s).size = s.size + 1 := by
  rw [ByteArray.size_append]; show 1 + s.size = _; omega

theorem mk_toList (s : ByteArray) (l : List UInt8) (h : s.data.toList = l) : s = ⟨l.toArray⟩ := by
  subst h; simp

end Go.Proofs.YtiajififiophgaaGreatDoor

namespace Go.Proofs.YtiajififiophgaaGreatDoor
open Go.RowKit

theorem digits_pos {n : Nat} (h : 0 < n) (acc : List UInt8) : digits n n acc = digits (n / 10) (n / 10) ((48 + UInt8.ofNat (n % 10)) :: acc) := by
  obtain ⟨m, rfl⟩ : ∃ m, n = m + 1 := ⟨n - 1, by omega⟩
  conv => lhs; rw [digits]
  rw [if_neg (by omega)]
  exact digits_fuel _ _ _ _ (by omega) (Nat.le_refl _)

set_option maxRecDepth 100000 in
set_option maxHeartbeats 1000000 in
theorem markText_any (k : Nat) (w : World) (h0 : 0 < k) (h1 : k ≤ 1000000000) :
    Calls Tryz.prog 95 #[.int .i64 (k : Int)] w fun e w' => e = .returned (.string (mt k)) ∧ Below w.heap.size w w' := by
  have hk : ¬ ((k : Int) ≤ 0) := by omega
  have hcv := conv_one
  go_enter Tryz.func95, Tryz.ntmps95
  go_wp2
  go_loopw [0, 3] (fun a s wr => ∃ (n : Nat) (st : ByteArray), st.size + n ≤ k ∧ a = .int .i64 n ∧ s = .string st ∧ digits n n st.data.toList = digits k k [] ∧ Below w.heap.size w wr) (fun a _ _ => (intOf a).toNat)
  case atStart => exact ⟨k, ByteArray.empty, by simp, rfl, rfl, rfl, Below.refl _ _⟩
  case round =>
    obtain ⟨n, st, hn, rfl, rfl, hd, hbel⟩ := hrel
    have HD : Hid (digits n n st.data.toList = digits k k []) := hd
    clear hd
    have hsz : (st.size : Int) ≤ 1000000000 := by omega
    by_cases hp : 0 < n
    · go_wp2
      refine ⟨⟨n / 10, _, ?_, by go_num, rfl, ?_, hbel.alloc hbel.size _⟩, by simp [intOf]; omega⟩
      · rw [str_one_size]; omega
      · rw [str_one, ← digits_pos hp]; exact HD.out
    · go_wp2
      go_ret
      refine ⟨?_, hbel⟩
      have e0 : n = 0 := by omega
      have hd := HD.out
      rw [e0] at hd
      have e : st.data.toList = digits k k [] := by rw [← hd]; rfl
      have e2 : ((⟨#[109]⟩ : ByteArray) ++ st) = mt k := by
        unfold mt
        exact mk_toList _ _ (by rw [str_one, e])
      exact congrArg (fun x => Ending.returned (.string x)) e2

theorem markText_int (k : Int) (n : Nat) (hk : k = (n : Int)) (w : World) (h0 : 0 < n) (h1 : n ≤ 1000000000) :
    Calls Tryz.prog 95 #[.int .i64 k] w fun e w' => e = .returned (.string (mt n)) ∧ Below w.heap.size w w' := hk ▸ markText_any n w h0 h1
end Go.Proofs.YtiajififiophgaaGreatDoor



