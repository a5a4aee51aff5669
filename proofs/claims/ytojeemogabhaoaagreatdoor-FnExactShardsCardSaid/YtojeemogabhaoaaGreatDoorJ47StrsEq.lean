import Derived.Test.YtojeemogabhaoaaGreatDoorJ01BlkN
import Derived.WalkKit
import Derived.Below
import Derived.Test.YtojeemogabhaoaaGreatDoorProg
import Derived.Test.YtojeemogabhaoaaGreatDoorJ05Cfg
import Derived.Test.YtojeemogabhaoaaGreatDoorJ02Ord
import Derived.Test.YtojeemogabhaoaaGreatDoorJ04SNum
import Derived.Deep.AppendLies
import Derived.Test.YtojeemogabhaoaaGreatDoorJ42MkS
namespace Go.Proofs.YtojeemogabhaoaaGreatDoor
def dealL (sh : ByteArray → Nat) (n : Nat) (ks : List ByteArray) : List (List ByteArray) := (List.range n).map fun i => ks.filter fun k => sh k == i
theorem dealL_length (sh : ByteArray → Nat) (n : Nat) (ks : List ByteArray) : (dealL sh n ks).length = n := by simp [dealL]
theorem dealL_get (sh : ByteArray → Nat) (n : Nat) (ks : List ByteArray) (i : Nat) (h : i < (dealL sh n ks).length) : (dealL sh n ks)[i] = ks.filter fun k => sh k == i := by simp [dealL]
theorem dealL_nil (sh : ByteArray → Nat) (n : Nat) : dealL sh n [] = List.replicate n [] := by
  apply List.ext_getElem
  · simp [dealL_length]
  · intro i h1 h2
    rw [dealL_get]
    simp
theorem dealL_snoc (sh : ByteArray → Nat) (n : Nat) (ks : List ByteArray) (k : ByteArray) (h : sh k < n) : dealL sh n (ks ++ [k]) = (dealL sh n ks).set (sh k) ((dealL sh n ks)[sh k]'(by rw [dealL_length]; exact h) ++ [k]) := by
  apply List.ext_getElem
  · simp [dealL_length]
  · intro i h1 h2
    have hi : i < (dealL sh n ks).length := by simpa using h2
    have e0 : (dealL sh n ks)[sh k]'(by rw [dealL_length]; exact h) = ks.filter fun q => sh q == sh k := dealL_get _ _ _ _ _
    simp only [e0]
    rw [dealL_get, List.getElem_set, List.filter_append]
    by_cases e : sh k = i
    · rw [if_pos e]
      subst e
      simp
    · rw [if_neg e, dealL_get]
      simp [e]
theorem dealL_succ (sh : ByteArray → Nat) (n : Nat) (ks : List ByteArray) : dealL sh (n + 1) ks = dealL sh n ks ++ [ks.filter fun k => sh k == n] := by simp [dealL, List.range_succ]
end Go.Proofs.YtojeemogabhaoaaGreatDoor
namespace Go.Proofs.YtojeemogabhaoaaGreatDoor
open Go.RowKit
def hashStep (r : Nat) (c : UInt8) : Nat := ((r ^^^ c.toNat) * 1099511628211) % 18446744073709551616
def hashFrom (r : Nat) (l : List UInt8) : Nat := l.foldl hashStep r
def hashL (l : List UInt8) : Nat := hashFrom 14695981039346656037 l
def w64 (r : Nat) : Int := if r < 9223372036854775808 then (r : Int) else (r : Int) - 18446744073709551616
theorem hashFrom_snoc (r : Nat) (l : List UInt8) (c : UInt8) : hashFrom r (l ++ [c]) = hashStep (hashFrom r l) c := by
  unfold hashFrom
  rw [List.foldl_append, List.foldl_cons, List.foldl_nil]
theorem hashL_snoc (l : List UInt8) (c : UInt8) : hashL (l ++ [c]) = hashStep (hashL l) c := hashFrom_snoc _ l c
theorem hashStep_lt (r : Nat) (c : UInt8) : hashStep r c < 18446744073709551616 := by unfold hashStep; omega
theorem hashL_lt (l : List UInt8) : hashL l < 18446744073709551616 := by
  rcases List.eq_nil_or_concat l with rfl | ⟨l', c, rfl⟩
  · decide
  · rw [List.concat_eq_append, hashL_snoc]; exact hashStep_lt _ _
theorem hash_take (s : ByteArray) (k : Nat) (h : k < s.size) : hashL (s.data.toList.take (k + 1)) = hashStep (hashL (s.data.toList.take k)) s[k] := by
  have hl : k < s.data.toList.length := by simpa using h
  rw [List.take_succ_eq_append_getElem hl, hashL_snoc]; rfl
theorem wrap_i64 (n : Nat) : IntKind.i64.wrap (n : Int) = w64 (n % 18446744073709551616) := by
  simp only [IntKind.wrap, IntKind.bits, IntKind.signed, w64]
  simp
  split <;> split <;> omega
theorem wrap_u64 (n : Nat) : IntKind.u64.wrap (n : Int) = ((n % 18446744073709551616 : Nat) : Int) := by
  simp only [IntKind.wrap, IntKind.bits, IntKind.signed]
  simp
theorem wrap_congr (a b : Int) (h : a % 18446744073709551616 = b % 18446744073709551616) : IntKind.i64.wrap a = IntKind.i64.wrap b := by
  simp only [IntKind.wrap, IntKind.bits, IntKind.signed]
  simp [h]
theorem w64_mod (r : Nat) : w64 r % 18446744073709551616 = (r : Int) % 18446744073709551616 := by
  unfold w64; split <;> omega
theorem ofInt_w64 (r : Nat) : BitVec.ofInt 64 (w64 r) = BitVec.ofNat 64 r := by
  apply BitVec.eq_of_toNat_eq
  rw [BitVec.toNat_ofInt, BitVec.toNat_ofNat]
  have := w64_mod r
  simp
  omega
theorem xor_lt64 (r : Nat) (c : UInt8) (h : r < 18446744073709551616) : r ^^^ c.toNat < 18446744073709551616 :=
  Nat.xor_lt_two_pow (n := 64) (by omega) (by have := c.toNat_lt; omega)
theorem xor_w64 (r : Nat) (c : UInt8) (h : r < 18446744073709551616) : bits .xor .i64 (w64 r) (c.toNat : Int) = w64 (r ^^^ c.toNat) := by
  have hc := c.toNat_lt
  have hx := xor_lt64 r c h
  show IntKind.i64.wrap ((BitVec.ofInt 64 (w64 r) ^^^ BitVec.ofInt 64 (c.toNat : Int)).toNat : Int) = _
  rw [ofInt_w64 r, BitVec.ofInt_natCast, BitVec.toNat_xor, BitVec.toNat_ofNat, BitVec.toNat_ofNat, Nat.mod_eq_of_lt h, Nat.mod_eq_of_lt (by omega), wrap_i64, Nat.mod_eq_of_lt hx]
theorem xor_u64 (r : Nat) (c : UInt8) (h : r < 18446744073709551616) : bits .xor .u64 (r : Int) (c.toNat : Int) = ((r ^^^ c.toNat : Nat) : Int) := by
  have hc := c.toNat_lt
  have hx := xor_lt64 r c h
  show IntKind.u64.wrap ((BitVec.ofInt 64 (r : Int) ^^^ BitVec.ofInt 64 (c.toNat : Int)).toNat : Int) = _
  rw [BitVec.ofInt_natCast, BitVec.ofInt_natCast, BitVec.toNat_xor, BitVec.toNat_ofNat, BitVec.toNat_ofNat, Nat.mod_eq_of_lt h, Nat.mod_eq_of_lt (by omega), wrap_u64, Nat.mod_eq_of_lt hx]
theorem stepI (r : Nat) (c : UInt8) (h : r < 18446744073709551616) : IntKind.i64.wrap (bits .xor .i64 (w64 r) (c.toNat : Int) * 1099511628211) = w64 (hashStep r c) := by
  rw [xor_w64 r c h, hashStep, ← wrap_i64]
  apply wrap_congr
  rw [Int.mul_emod, w64_mod _, ← Int.mul_emod]
  rfl
theorem stepU (r : Nat) (c : UInt8) (h : r < 18446744073709551616) : IntKind.u64.wrap (bits .xor .u64 (r : Int) (c.toNat : Int) * 1099511628211) = ((hashStep r c : Nat) : Int) := by
  rw [xor_u64 r c h, hashStep, ← wrap_u64]
  rfl
end Go.Proofs.YtojeemogabhaoaaGreatDoor
namespace Go.Proofs.YtojeemogabhaoaaGreatDoor
open Go.RowKit
set_option maxRecDepth 100000 in
set_option maxHeartbeats 1000000 in
theorem specHash_any (s : ByteArray) (w : World) (hs : s.size ≤ maxLen) :
    Calls Tryz.prog 47 #[.string s] w fun e w' => e = .returned (.int .i64 (w64 (hashL s.data.toList))) ∧ w' = w := by
  unfold maxLen at hs
  go_enter Tryz.func47, Tryz.ntmps47
  go_wp2
  go_loop [3, 4] (fun h i => ∃ (j R : Nat), j ≤ s.size ∧ i = .int .i64 j ∧ h = .int .i64 (w64 R) ∧ Hid (R = hashL (s.data.toList.take j))) (fun _ i => s.size - (intOf i).toNat)
  case atStart => exact ⟨0, hashL [], Nat.zero_le _, rfl, rfl, rfl⟩
  case round =>
    obtain ⟨j, R, hj, rfl, rfl, hR⟩ := hrel
    have HL : Hid (R < 18446744073709551616) := by show R < _; rw [hR.out]; exact hashL_lt _
    generalize hH : w64 R = H
    have HH : Hid (w64 R = H) := hH
    clear hH
    have hU : ∀ h : j < s.size, (s[j]'h).toNat < 256 := fun h => (s[j]'h).toNat_lt
    by_cases hlt : j < s.size
    · have hU2 := hU hlt
      clear hU
      go_wp2
      go_round
      case rel => exact ⟨j + 1, hashStep R s[j], by omega, by go_num, by rw [← stepI R s[j] HL.out, HH.out, IntKind.wrap_i64, wrap64], by show _ = _; rw [hash_take s j hlt, hR.out]⟩
      case measure => simp [intOf]; omega
    · go_wp2
      go_ret
      refine ⟨ret_int ?_, rfl⟩
      rw [← HH.out, hR.out, List.take_of_length_le (by simp; omega)]
set_option maxRecDepth 100000 in
set_option maxHeartbeats 1000000 in
theorem implHash_any (s : ByteArray) (w : World) (hs : s.size ≤ maxLen) :
    Calls Tryz.prog 81 #[.string s] w fun e w' => e = .returned (.int .i64 (w64 (hashL s.data.toList))) ∧ w' = w := by
  unfold maxLen at hs
  go_enter Tryz.func81, Tryz.ntmps81
  go_wp2
  go_loop [3, 4, 7] (fun h _ i => ∃ (j R : Nat), j ≤ s.size ∧ i = .int .i64 j ∧ h = .int .u64 (R : Nat) ∧ Hid (R = hashL (s.data.toList.take j))) (fun _ _ i => s.size - (intOf i).toNat)
  case atStart => exact ⟨0, hashL [], Nat.zero_le _, rfl, rfl, rfl⟩
  case round =>
    obtain ⟨j, R, hj, rfl, rfl, hR⟩ := hrel
    have HL : Hid (R < 18446744073709551616) := by show R < _; rw [hR.out]; exact hashL_lt _
    by_cases hlt : j < s.size
    · have hU : s[j].toNat < 256 := s[j].toNat_lt
      have hwu : IntKind.u64.wrap (s[j].toNat : Int) = (s[j].toNat : Int) := by rw [wrap_u64, Nat.mod_eq_of_lt (by omega)]
      go_wp2
      go_round
      case rel => exact ⟨j + 1, hashStep R s[j], by omega, by go_num, by rw [← stepU R s[j] HL.out], by show _ = _; rw [hash_take s j hlt, hR.out]⟩
      case measure => simp [intOf]; omega
    · go_wp2
      go_ret
      refine ⟨ret_int ?_, rfl⟩
      have e : R = hashL s.data.toList := by rw [hR.out, List.take_of_length_le (by simp; omega)]
      rw [show wrap64 (R : Int) = IntKind.i64.wrap (R : Int) by rw [IntKind.wrap_i64, wrap64], wrap_i64, Nat.mod_eq_of_lt HL.out, e]
end Go.Proofs.YtojeemogabhaoaaGreatDoor
namespace Go.Proofs.YtojeemogabhaoaaGreatDoor
open Go.RowKit
def shardV (c : CfgD) (s : ByteArray) : Int := if c.ha = 1 then 0 else if c.ha = 2 then (s.size : Int) % c.sh else ((hashL s.data.toList : Nat) : Int) % c.sh
theorem wrapU_w64 {r : Nat} (h : r < 18446744073709551616) : IntKind.u64.wrap (w64 r) = (r : Int) := by
  simp only [IntKind.wrap, IntKind.bits, IntKind.signed, w64]
  simp
  split <;> omega
set_option maxRecDepth 100000 in
set_option maxHeartbeats 2000000 in
theorem shardOf_any (c : CfgD) (s : ByteArray) (w : World) (hs : s.size ≤ maxLen) (h1 : 1 ≤ c.sh) (h2 : c.sh ≤ 1000000) :
    Calls Tryz.prog 50 #[cfgV c, .string s] w fun e w' => e = .returned (.int .i64 (shardV c s)) ∧ Below w.heap.size w w' := by
  have HH : Hid (∀ W, Calls Tryz.prog 81 #[.string s] W fun e w' => e = .returned (.int .i64 (w64 (hashL s.data.toList))) ∧ w' = W) := fun W => implHash_any s W hs
  unfold maxLen at hs
  unfold cfgV
  have hne : c.sh ≠ 0 := by omega
  by_cases e1 : c.ha = 1
  · have HV : Hid (shardV c s = 0) := by show _ = _; unfold shardV; rw [if_pos e1]
    go_enter Tryz.func50, Tryz.ntmps50
    go_wp2
    go_ret
    exact ⟨ret_int (by rw [HV.out]), bnew _ _⟩
  by_cases e2 : c.ha = 2
  · have HV : Hid (shardV c s = (s.size : Int) % c.sh) := by show _ = _; unfold shardV; rw [if_neg e1, if_pos e2]
    go_enter Tryz.func50, Tryz.ntmps50
    go_wp2
    go_ret
    refine ⟨ret_int ?_, bnew _ _⟩
    rw [HV.out]
  have HV : Hid (shardV c s = ((hashL s.data.toList : Nat) : Int) % c.sh) := by show _ = _; unfold shardV; rw [if_neg e1, if_neg e2]
  have hlt := hashL_lt s.data.toList
  generalize hashL s.data.toList = H at *
  have hwu := wrapU_w64 hlt
  have hws : IntKind.u64.wrap c.sh = c.sh := by
    simp only [IntKind.wrap, IntKind.bits, IntKind.signed]
    simp
    omega
  go_enter Tryz.func50, Tryz.ntmps50
  have c3 : (w.alloc (.cells #[.int .i64 c.w, .int .i64 c.tl, .int .i64 c.ml, .int .i64 c.sh, .int .i64 c.ha, .int .i64 c.sg] 29)).cell? ⟨w.heap.size, 3, none⟩ = some (.int .i64 c.sh) := (Blk.new _ _ _).cell 3
  have d3 := Later.cells c3
  have hnel := Later.there (w.alloc (.cells #[.int .i64 c.w, .int .i64 c.tl, .int .i64 c.ml, .int .i64 c.sh, .int .i64 c.ha, .int .i64 c.sg] 29))
  go_wp2_with fail
  refine wp_region_later (by kernel_rfl) (by kernel_rfl) ?_
  repeat (go_big_quiet_step (first | (go_at_call 81; exact calls_later_same (HH.out _)) | fail))
  refine wpQuiet_nil ?_
  rintro _ ⟨y, rfl⟩
  go_wp2
  go_ret
  refine ⟨ret_int ?_, bto (bnew _ _) y.h⟩
  rw [HV.out]
  have m1 := Int.emod_lt_of_pos (H : Int) (show 0 < c.sh by omega)
  have m0 := Int.emod_nonneg (H : Int) hne
  generalize (H : Int) % c.sh = X at *
  first | go_num | (unfold wrap64; omega)
end Go.Proofs.YtojeemogabhaoaaGreatDoor
namespace Go.Proofs.YtojeemogabhaoaaGreatDoor
open Go.RowKit
def StrsIn (w : World) (a : Option Addr) (l : List ByteArray) : Prop := l = [] ∨ ∃ b o, a = some ⟨b, o, none⟩ ∧ b < w.heap.size ∧ ∀ i (h : i < l.length), w.cell? ⟨b, o + i, none⟩ = some (.string l[i])
theorem StrsIn.later {w w' : World} {a : Option Addr} {l : List ByteArray} (h : StrsIn w a l) (hb : Below w.heap.size w w') : StrsIn w' a l := by
  rcases h with h | ⟨b, o, rfl, hlt, h⟩
  · exact Or.inl h
  · exact Or.inr ⟨b, o, rfl, Nat.lt_of_lt_of_le hlt hb.size, fun i hi => by rw [← h i hi]; exact hb.cell hlt⟩
theorem StrsIn.at {w : World} {a : Option Addr} {l : List ByteArray} (h : StrsIn w a l) {i : Nat} (hi : i < l.length) : ∃ b o, a = some ⟨b, o, none⟩ ∧ b < w.heap.size ∧ w.cell? ⟨b, o + i, none⟩ = some (.string l[i]) := by
  rcases h with rfl | ⟨b, o, rfl, hlt, h⟩
  · exact absurd hi (by simp)
  · exact ⟨b, o, rfl, hlt, h i hi⟩
def StrsOwn (w : World) (B : Nat) (a : Option Addr) (l : List ByteArray) : Prop :=
  l = [] ∨ ∃ g o cur t, a = some ⟨g, o, none⟩ ∧ B ≤ g ∧ w.heap[g]? = some (.cells cur t (0, 0)) ∧ ∀ i (h : i < l.length), w.cell? ⟨g, o + i, none⟩ = some (.string l[i])
theorem StrsOwn.strs {w : World} {B : Nat} {a : Option Addr} {l : List ByteArray} (h : StrsOwn w B a l) : StrsIn w a l := by
  rcases h with h | ⟨g, o, cur, t, e, _, hb, h⟩
  · exact Or.inl h
  · exact Or.inr ⟨g, o, e, lt_of_block hb, h⟩
theorem StrsOwn.later {w w' : World} {B : Nat} {a : Option Addr} {l : List ByteArray} (h : StrsOwn w B a l) (hb : Below w.heap.size w w') : StrsOwn w' B a l := by
  rcases h with h | ⟨g, o, cur, t, e, hB, hg, h⟩
  · exact Or.inl h
  · have hlt := lt_of_block hg
    exact Or.inr ⟨g, o, cur, t, e, hB, (hb.block g hlt).trans hg, fun i hi => by rw [← h i hi]; exact hb.cell hlt⟩
theorem strs_of_row {w : World} {B : Nat} {e : TypeId} {a : Option Addr} {cap : Nat} {l : List ByteArray} (h : w.ownsRow B e 1 (.slice a l.length cap) l.length (l.map Value.string)) : StrsOwn w B a l := by
  rcases h.2 with ⟨_, hl⟩ | ⟨g, cap', cur, he, hB, hg, _, _, hsz, htk⟩
  · exact Or.inl (List.length_eq_zero_iff.1 hl)
  · simp only [Value.slice.injEq] at he
    refine Or.inr ⟨g, 0, cur, e, he.1, hB, hg, fun i hi => ?_⟩
    rw [Nat.zero_add, cell_of_row w g i cur _ _ hg]
    have h2 : (cur.toList.take (l.length * 1))[i]? = (l.map Value.string)[i]? := by rw [htk]
    rw [List.getElem?_take_of_lt (by omega)] at h2
    rw [← Array.getElem?_toList, h2]
    simp [List.getElem?_eq_getElem hi]
theorem info_str : ∃ i, Tryz.prog.info? 9 = some i ∧ i.zero = some (.string ByteArray.empty) ∧ i.size = 1 ∧ i.bytes = 16 := by
  have h : (Tryz.prog.info? 9).map (fun i => (i.zero, i.size, i.bytes)) = some (some (.string ByteArray.empty), 1, 16) := by kernel_rfl
  obtain ⟨i, hi, hz⟩ := Option.map_eq_some_iff.1 h
  simp only [Prod.mk.injEq] at hz
  exact ⟨i, hi, hz.1, hz.2.1, hz.2.2⟩
end Go.Proofs.YtojeemogabhaoaaGreatDoor
namespace Go.Proofs.YtojeemogabhaoaaGreatDoor
open Go.RowKit
def SSIn (w : World) (a : Option Addr) (xs : List (List ByteArray)) : Prop :=
  xs = [] ∨ ∃ b o, a = some ⟨b, o, none⟩ ∧ b < w.heap.size ∧ ∀ i (h : i < xs.length), ∃ a1 c1, w.cell? ⟨b, o + i, none⟩ = some (.slice a1 xs[i].length c1) ∧ StrsIn w a1 xs[i]
theorem SSIn.later {w w' : World} {a : Option Addr} {xs : List (List ByteArray)} (h : SSIn w a xs) (hb : Below w.heap.size w w') : SSIn w' a xs := by
  rcases h with h | ⟨b, o, rfl, hlt, h⟩
  · exact Or.inl h
  · refine Or.inr ⟨b, o, rfl, Nat.lt_of_lt_of_le hlt hb.size, fun i hi => ?_⟩
    obtain ⟨a1, c1, h1, h2⟩ := h i hi
    exact ⟨a1, c1, (hb.cell hlt).trans h1, h2.later hb⟩
theorem SSIn.at {w : World} {a : Option Addr} {xs : List (List ByteArray)} (h : SSIn w a xs) {i : Nat} (hi : i < xs.length) :
    ∃ b o a1 c1, a = some ⟨b, o, none⟩ ∧ b < w.heap.size ∧ w.cell? ⟨b, o + i, none⟩ = some (.slice a1 xs[i].length c1) ∧ StrsIn w a1 xs[i] := by
  rcases h with rfl | ⟨b, o, rfl, hlt, h⟩
  · exact absurd hi (by simp)
  · obtain ⟨a1, c1, h1, h2⟩ := h i hi
    exact ⟨b, o, a1, c1, rfl, hlt, h1, h2⟩
def StrsTag (w : World) (B : Nat) (T : Nat → Nat) (n : Nat) (a : Option Addr) (l : List ByteArray) : Prop :=
  l = [] ∨ ∃ g o cur t, a = some ⟨g, o, none⟩ ∧ B ≤ g ∧ T g = n ∧ w.heap[g]? = some (.cells cur t (0, 0)) ∧ ∀ i (h : i < l.length), w.cell? ⟨g, o + i, none⟩ = some (.string l[i])
theorem StrsTag.own {w : World} {B n : Nat} {T : Nat → Nat} {a : Option Addr} {l : List ByteArray} (h : StrsTag w B T n a l) : StrsOwn w B a l := by
  rcases h with h | ⟨g, o, cur, t, e, hB, _, hb, h⟩
  · exact Or.inl h
  · exact Or.inr ⟨g, o, cur, t, e, hB, hb, h⟩
theorem StrsTag.strs {w : World} {B n : Nat} {T : Nat → Nat} {a : Option Addr} {l : List ByteArray} (h : StrsTag w B T n a l) : StrsIn w a l := h.own.strs
theorem StrsTag.keep {w w' : World} {B n : Nat} {T T' : Nat → Nat} {a : Option Addr} {l : List ByteArray} (h : StrsTag w B T n a l)
    (hk : ∀ g, g < w.heap.size → B ≤ g → T g = n → w'.heap[g]? = w.heap[g]? ∧ T' g = n) : StrsTag w' B T' n a l := by
  rcases h with h | ⟨g, o, cur, t, e, hB, hT, hb, h⟩
  · exact Or.inl h
  · obtain ⟨h1, h2⟩ := hk g (lt_of_block hb) hB hT
    have hc : ∀ j, w'.cell? ⟨g, j, none⟩ = w.cell? ⟨g, j, none⟩ := fun j => World.cell?_of_block h1
    exact Or.inr ⟨g, o, cur, t, e, hB, h2, h1.trans hb, fun i hi => by simp only [hc]; exact h i hi⟩
theorem StrsTag.turn {S : Nat → Prop} {w w' : World} {B n : Nat} {T : Nat → Nat} {a : Option Addr} {l : List ByteArray} (h : StrsTag w B T n a l) (ht : Turn S w w') (hS : ∀ g, T g = n → ¬ S g) : StrsTag w' B T n a l :=
  h.keep fun g hg _ hT => ⟨ht.block g hg (hS g hT), hT⟩
theorem StrsOwn.tag {w : World} {B n : Nat} {T : Nat → Nat} {a : Option Addr} {l : List ByteArray} (h : StrsOwn w B a l) (hT : ∀ g o, a = some ⟨g, o, none⟩ → T g = n) : StrsTag w B T n a l := by
  rcases h with h | ⟨g, o, cur, t, e, hB, hb, h⟩
  · exact Or.inl h
  · exact Or.inr ⟨g, o, cur, t, e, hB, hT g o e, hb, h⟩
def SSOwn (w : World) (B : Nat) (a : Option Addr) (xs : List (List ByteArray)) : Prop :=
  xs = [] ∨ ∃ g o cur t T, a = some ⟨g, o, none⟩ ∧ B ≤ g ∧ w.heap[g]? = some (.cells cur t (0, 0)) ∧ T g = 0 ∧ ∀ i (h : i < xs.length), ∃ a1 c1, w.cell? ⟨g, o + i, none⟩ = some (.slice a1 xs[i].length c1) ∧ StrsTag w B T (i + 1) a1 xs[i]
theorem SSOwn.ss {w : World} {B : Nat} {a : Option Addr} {xs : List (List ByteArray)} (h : SSOwn w B a xs) : SSIn w a xs := by
  rcases h with h | ⟨g, o, cur, t, T, rfl, _, hb, _, h⟩
  · exact Or.inl h
  · refine Or.inr ⟨g, o, rfl, lt_of_block hb, fun i hi => ?_⟩
    obtain ⟨a1, c1, h1, h2⟩ := h i hi
    exact ⟨a1, c1, h1, h2.strs⟩
theorem SSOwn.turn {S : Nat → Prop} {w w' : World} {B : Nat} {a : Option Addr} {xs : List (List ByteArray)} (h : SSOwn w B a xs) (ht : Turn S w w') (hS : ∀ g, B ≤ g → g < w.heap.size → ¬ S g) : SSOwn w' B a xs := by
  rcases h with h | ⟨g, o, cur, t, T, rfl, hB, hg, hT, h⟩
  · exact Or.inl h
  · have hk := ht.block g (lt_of_block hg) (hS g hB (lt_of_block hg))
    refine Or.inr ⟨g, o, cur, t, T, rfl, hB, hk.trans hg, hT, fun i hi => ?_⟩
    obtain ⟨a1, c1, h1, h2⟩ := h i hi
    exact ⟨a1, c1, (World.cell?_of_block hk).trans h1, h2.keep fun g' hg' hB' hT' => ⟨ht.block g' hg' (hS g' hB' hg'), hT'⟩⟩
theorem SSOwn.later {w w' : World} {B : Nat} {a : Option Addr} {xs : List (List ByteArray)} (h : SSOwn w B a xs) (hb : Below w.heap.size w w') : SSOwn w' B a xs :=
  h.turn (Turn.of (S := fun _ => False) hb) fun _ _ _ e => e
theorem SSOwn.mono {w : World} {B B' : Nat} {a : Option Addr} {xs : List (List ByteArray)} (h : SSOwn w B a xs) (hB : B' ≤ B) : SSOwn w B' a xs := by
  rcases h with h | ⟨g, o, cur, t, T, e, h1, hg, hT, h⟩
  · exact Or.inl h
  · refine Or.inr ⟨g, o, cur, t, T, e, Nat.le_trans hB h1, hg, hT, fun i hi => ?_⟩
    obtain ⟨a1, c1, q1, q2⟩ := h i hi
    refine ⟨a1, c1, q1, ?_⟩
    rcases q2 with q2 | ⟨g', o', cur', t', e', hB', r⟩
    · exact Or.inl q2
    · exact Or.inr ⟨g', o', cur', t', e', Nat.le_trans hB hB', r⟩
def RowsT (w : World) (B : Nat) (T : Nat → Nat) (c : Array Value) (xs : List (List ByteArray)) : Prop :=
  c.size = xs.length ∧ ∀ i (h : i < xs.length), ∃ v, c[i]? = some v ∧ w.ownsRow B 9 1 v xs[i].length (xs[i].map Value.string) ∧ ∀ g, v.ownBlock = some g → T g = i + 1
theorem RowsT.own {w : World} {B g : Nat} {T : Nat → Nat} {c : Array Value} {t : TypeId} {xs : List (List ByteArray)} (h : RowsT w B T c xs) (hb : Blk w g c t) (hB : B ≤ g) (hT : T g = 0) : SSOwn w B (some ⟨g, 0, none⟩) xs := by
  refine Or.inr ⟨g, 0, c, t, T, rfl, hB, hb, hT, fun i hi => ?_⟩
  obtain ⟨v, h1, h2, h3⟩ := h.2 i hi
  obtain ⟨a1, c1, rfl⟩ : ∃ a1 c1, v = .slice a1 xs[i].length c1 := by
    rcases h2.2 with ⟨e, h0⟩ | ⟨g, cap, cur, e, _⟩
    · exact ⟨none, 0, by rw [e, h0]⟩
    · exact ⟨_, _, e⟩
  refine ⟨a1, c1, by rw [Nat.zero_add, hb.cell]; exact h1, (strs_of_row h2).tag fun g' o' e => h3 g' ?_⟩
  rcases h2.2 with ⟨e', h0⟩ | ⟨g2, cap, cur, e', _⟩
  · rw [e] at e'; cases e'
  · rw [e] at e'; cases e'; rw [e]; rfl
theorem RowsT.at {w : World} {B : Nat} {T : Nat → Nat} {c : Array Value} {xs : List (List ByteArray)} (h : RowsT w B T c xs) {i : Nat} (hi : i < xs.length) :
    ∃ v, c[i]? = some v ∧ w.ownsRow B 9 1 v xs[i].length (xs[i].map Value.string) ∧ ∀ g, v.ownBlock = some g → T g = i + 1 := h.2 i hi
theorem RowsT.snoc {w w4 : World} {B H i gg cap : Nat} {T : Nat → Nat} {c : Array Value} {xs : List (List ByteArray)} {v : Value} {k : ByteArray} (h : RowsT w B T c xs) (hi : i < xs.length) (hT : ∀ g, v.ownBlock = some g → T g = i + 1)
    (ht : Turn (fun k => v.ownBlock = some k) w w4) (hH : w.heap.size ≤ H) (hat : v.ownBlock = some gg ∨ gg = H) (hown : w4.ownsRow B 9 1 (.slice (some ⟨gg, 0, none⟩) (xs[i].length + 1) cap) (xs[i].length + 1) (xs[i].map Value.string ++ [.string k])) :
    RowsT w4 B (fun b => if b = gg then i + 1 else T b) (c.setIfInBounds i (.slice (some ⟨gg, 0, none⟩) (xs[i].length + 1) cap)) (xs.set i (xs[i] ++ [k])) := by
  have hci : i < c.size := by rw [h.1]; exact hi
  refine ⟨by simp [h.1], fun j hj => ?_⟩
  have hj' : j < xs.length := by simpa using hj
  by_cases e : i = j
  · subst e
    refine ⟨_, Array.getElem?_setIfInBounds_self_of_lt hci, ?_, fun g hg => ?_⟩
    · simpa using hown
    · simp only [Value.ownBlock, Option.some.injEq] at hg
      simp only [if_pos hg.symm]
  · obtain ⟨u, h1, h2, h3⟩ := h.2 j hj'
    have hne : ∀ g, u.ownBlock = some g → ¬ v.ownBlock = some g := fun g hg hg' => by
      have := hT g hg'
      have := h3 g hg
      omega
    refine ⟨u, by rw [Array.getElem?_setIfInBounds_ne e]; exact h1, ?_, fun g hg => ?_⟩
    · have := ht.row h2 hne
      simpa [List.getElem_set, e] using this
    · have hgg : g ≠ gg := by
        intro e'
        subst e'
        rcases hat with h | h
        · exact hne g hg h
        · have := (h2.lt g hg).2
          omega
      simp only [if_neg hgg]
      exact h3 g hg
theorem RowsT.base {w : World} {B B' : Nat} {T : Nat → Nat} {c : Array Value} {xs : List (List ByteArray)} (h : RowsT w B T c xs) (hB : B' ≤ B) : RowsT w B' T c xs := by
  refine ⟨h.1, fun i hi => ?_⟩
  obtain ⟨v, h1, ⟨p, h2⟩, h3⟩ := h.2 i hi
  refine ⟨v, h1, ⟨p, ?_⟩, h3⟩
  rcases h2 with h2 | ⟨g, cap, cur, e1, e2, r⟩
  · exact Or.inl h2
  · exact Or.inr ⟨g, cap, cur, e1, Nat.le_trans hB e2, r⟩
theorem RowsT.turn {S : Nat → Prop} {w w' : World} {B : Nat} {T : Nat → Nat} {c : Array Value} {xs : List (List ByteArray)} (h : RowsT w B T c xs) (ht : Turn S w w') (hS : ∀ g, g < w.heap.size → B ≤ g → T g ≠ 0 → ¬ S g) : RowsT w' B T c xs := by
  refine ⟨h.1, fun i hi => ?_⟩
  obtain ⟨v, h1, h2, h3⟩ := h.2 i hi
  exact ⟨v, h1, ht.row h2 (fun g hg => hS g (h2.lt g hg).2 (h2.lt g hg).1 (by have := h3 g hg; omega)), h3⟩
theorem row_shape {W : World} {B : Nat} {e : TypeId} {size : Nat} {v : Value} {n : Nat} {xs : List Value} (h : W.ownsRow B e size v n xs) : ∃ a c, v = .slice a n c := by
  rcases h.2 with ⟨rfl, rfl⟩ | ⟨g, cap, _, rfl, _⟩
  · exact ⟨none, 0, rfl⟩
  · exact ⟨_, _, rfl⟩
def RowsG (w : World) (B : Nat) (T : Nat → Nat) (v : Value) (vs : List Value) (xs : List (List ByteArray)) : Prop :=
  w.ownsRow B 76 1 v xs.length vs ∧ (∀ g, v.ownBlock = some g → T g = 0) ∧ ∀ i (h : i < xs.length), ∃ a1 c1, vs[i]? = some (.slice a1 xs[i].length c1) ∧ StrsTag w B T 1 a1 xs[i]
theorem RowsG.ss {w : World} {B cap : Nat} {T : Nat → Nat} {a : Option Addr} {vs : List Value} {xs : List (List ByteArray)} (h : RowsG w B T (.slice a xs.length cap) vs xs) : SSIn w a xs := by
  obtain ⟨hr, _, hx⟩ := h
  rcases hr.2 with ⟨_, h0⟩ | ⟨g, cap', cur, e, hB, hg, _, _, hsz, htk⟩
  · exact Or.inl (List.length_eq_zero_iff.1 h0)
  · simp only [Value.slice.injEq] at e
    refine Or.inr ⟨g, 0, e.1, lt_of_block hg, fun i hi => ?_⟩
    obtain ⟨a1, c1, h1, h2⟩ := hx i hi
    refine ⟨a1, c1, ?_, h2.strs⟩
    rw [Nat.zero_add, cell_of_row w g i cur _ _ hg, ← h1, ← htk, List.getElem?_take_of_lt (by omega), Array.getElem?_toList]
theorem RowsG.later {w w' : World} {B : Nat} {T : Nat → Nat} {v : Value} {vs : List Value} {xs : List (List ByteArray)} (h : RowsG w B T v vs xs) (hb : Below w.heap.size w w') : RowsG w' B T v vs xs := by
  obtain ⟨hr, h1, hx⟩ := h
  refine ⟨(Turn.of (S := fun _ => False) hb).row hr (fun _ _ e => e), h1, fun i hi => ?_⟩
  obtain ⟨a1, c1, h2, h3⟩ := hx i hi
  exact ⟨a1, c1, h2, h3.keep fun g hg _ hT => ⟨hb.block g hg, hT⟩⟩
theorem RowsG.snoc {w w5 w6 : World} {B H gg cap c1 : Nat} {T : Nat → Nat} {v : Value} {vs : List Value} {xs : List (List ByteArray)} {a1 : Option Addr} {l : List ByteArray} (h : RowsG w B T v vs xs) (hb : Below w.heap.size w w5) (hB : B ≤ w.heap.size) (hl : StrsOwn w5 w.heap.size a1 l)
    (ht : Turn (fun k => v.ownBlock = some k) w5 w6) (hH : w5.heap.size ≤ H) (hat : v.ownBlock = some gg ∨ gg = H) (hown : w6.ownsRow B 76 1 (.slice (some ⟨gg, 0, none⟩) (xs.length + 1) cap) (xs.length + 1) (vs ++ [.slice a1 l.length c1])) :
    ∃ T', RowsG w6 B T' (.slice (some ⟨gg, 0, none⟩) (xs.length + 1) cap) (vs ++ [.slice a1 l.length c1]) (xs ++ [l]) := by
  obtain ⟨hr, h1, hx⟩ := h
  have hvl : ∀ g, v.ownBlock = some g → g < w.heap.size := fun g hg => (hr.lt g hg).2
  have hvs : vs.length = xs.length := by
    have := hr.1
    simpa using this
  have hbs := hb.size
  refine ⟨fun b => if b = gg then 0 else if b < w.heap.size then T b else 1, ?_, fun g hg => ?_, fun i hi => ?_⟩
  · simpa using hown
  · simp only [Value.ownBlock, Option.some.injEq] at hg
    simp only [if_pos hg.symm]
  · by_cases e : i < xs.length
    · obtain ⟨a2, c2, h2, h3⟩ := hx i e
      refine ⟨a2, c2, ?_, ?_⟩
      · rw [List.getElem?_append_left (by omega), h2]
        simp [e]
      · have he : (xs ++ [l])[i] = xs[i] := by simp [e]
        rw [he]
        refine h3.keep fun g hg _ hT => ?_
        have hnv : ¬ v.ownBlock = some g := fun e' => by have := h1 g e'; omega
        refine ⟨(ht.block g (by omega) hnv).trans (hb.block g hg), ?_⟩
        have hne : g ≠ gg := fun e' => by
          subst e'
          rcases hat with h | h
          · exact hnv h
          · omega
        simp only [if_neg hne, if_pos hg]
        exact hT
    · have hi2 : i = xs.length := by simp at hi; omega
      subst hi2
      refine ⟨a1, c1, ?_, ?_⟩
      · have he : (xs ++ [l])[xs.length] = l := by simp
        rw [he, List.getElem?_append_right (by omega), hvs]
        simp
      · have he : (xs ++ [l])[xs.length] = l := by simp
        rw [he]
        rcases hl with h0 | ⟨g, o, cur, ty, e1, hBg, hg, hc⟩
        · exact Or.inl h0
        · have hnv : ¬ v.ownBlock = some g := fun e' => by have := hvl g e'; omega
          have hne : g ≠ gg := fun e' => by
            subst e'
            rcases hat with h | h
            · exact hnv h
            · have := lt_of_block hg; omega
          have hk := ht.block g (lt_of_block hg) hnv
          refine Or.inr ⟨g, o, cur, ty, e1, by omega, ?_, hk.trans hg, fun j hj => (World.cell?_of_block hk).trans (hc j hj)⟩
          simp only [if_neg hne, if_neg (show ¬ g < w.heap.size by omega)]
end Go.Proofs.YtojeemogabhaoaaGreatDoor
namespace Go.Proofs.YtojeemogabhaoaaGreatDoor
open Go.RowKit
set_option maxHeartbeats 1000000 in
theorem eqStringS_same (a a' : Option Addr) (cap cap' : Nat) (l : List ByteArray) (w : World) (hf : StrsIn w a l) (hf' : StrsIn w a' l) (hlen : l.length ≤ maxLen) :
    Calls Tryz.prog 51 #[.slice a l.length cap, .slice a' l.length cap'] w fun e w' => e = .returned (.bool true) ∧ Below w.heap.size w w' := by
  unfold maxLen at hlen
  have HF : Hid (StrsIn w a l) := hf
  have HF' : Hid (StrsIn w a' l) := hf'
  clear hf hf'
  go_enter Tryz.func51, Tryz.ntmps51
  go_wp2
  go_loopw [5] (fun i wr => ∃ k : Nat, k ≤ l.length ∧ i = .int .i64 k ∧ Below w.heap.size w wr) (fun i _ => l.length - (intOf i).toNat)
  case atStart => exact ⟨0, Nat.zero_le _, rfl, Below.refl _ _⟩
  case round =>
    obtain ⟨k, hk, rfl, hbel⟩ := hrel
    by_cases hlt : k < l.length
    · obtain ⟨b, o, rfl, hb, c0⟩ := (HF.out.later hbel).at hlt
      obtain ⟨b', o', rfl, hb', c0'⟩ := (HF'.out.later hbel).at hlt
      have d0 := Later.cells c0
      have d0' := Later.cells c0'
      clear c0 c0'
      have hne := Later.there wr
      go_wp2_with fail
      refine wp_region_later (by kernel_rfl) (by kernel_rfl) ?_
      repeat (go_big_quiet_step (fail))
      refine wpQuiet_nil ?_
      rintro _ ⟨x, rfl⟩
      go_wp2
      exact ⟨⟨k + 1, by omega, by go_num, hbel.trans (x.h.mono hbel.size)⟩, by simp [intOf]; omega⟩
    · go_wp2
      go_ret
      exact ⟨rfl, hbel⟩
def markT (k n : Nat) : List ByteArray := (List.range n).map (fun i => mt (k + i))
theorem markT_length (k n : Nat) : (markT k n).length = n := by simp [markT]
theorem markT_get (k n i : Nat) (h : i < (markT k n).length) : (markT k n)[i] = mt (k + i) := by simp [markT]
set_option maxRecDepth 100000 in
set_option maxHeartbeats 2000000 in
theorem markStringS_any (a : Option Addr) (cap : Nat) (l : List ByteArray) (k B : Nat) (w : World) (hk : 0 < k) (hk2 : k + l.length ≤ 100000000) (hf : StrsOwn w B a l) :
    Calls Tryz.prog 52 #[.slice a l.length cap, .int .i64 (k : Int)] w fun e w' => e = .returned (.int .i64 ((k + l.length : Nat) : Int)) ∧ Marked w w' B a l.length ∧ StrsOwn w' B a (markT k l.length) := by
  have hf3 : l = [] ∨ (0 < l.length ∧ ∃ g o cur t, a = some ⟨g, o, none⟩ ∧ B ≤ g ∧ w.heap[g]? = some (.cells cur t (0, 0)) ∧ ∀ i (h : i < l.length), w.cell? ⟨g, o + i, none⟩ = some (.string l[i])) := by
    rcases hf with h | h
    · exact Or.inl h
    · by_cases h0 : l = []
      · exact Or.inl h0
      · exact Or.inr ⟨List.length_pos_iff.2 h0, h⟩
  clear hf
  rcases hf3 with rfl | ⟨hpos, g, o, cur, t, rfl, hB, hg, hfs⟩
  · go_enter Tryz.func52, Tryz.ntmps52
    go_wp2
    go_loopw [1, 5] (fun l i wr => l = .int .i64 (k : Int) ∧ i = .int .i64 0 ∧ wr = w) (fun _ i _ => 0)
    case atStart => exact ⟨rfl, rfl, rfl⟩
    case round =>
      obtain ⟨rfl, rfl, rfl⟩ := hrel
      go_wp2
      go_ret
      exact ⟨rfl, Or.inl ⟨rfl, Below.refl _ _⟩, Or.inl rfl⟩
  have hsz : l.length = 0 ∨ o + l.length ≤ cur.size := by
    by_cases h0 : l.length = 0
    · exact Or.inl h0
    · right
      have hc := hfs (l.length - 1) (by omega)
      rw [cell_of_row w g _ cur t _ hg] at hc
      have := (Array.getElem?_eq_some_iff.1 hc).1
      omega
  have HG : Hid (Blk w g cur t) := hg
  clear hg hfs
  generalize l.length = n at *
  go_enter Tryz.func52, Tryz.ntmps52
  go_wp2
  go_loopw [1, 5] (fun l i wr => ∃ (j : Nat) (c : Array Value), j ≤ n ∧ i = .int .i64 j ∧ l = .int .i64 ((k + j : Nat) : Int) ∧ Blk wr g c t ∧ c.size = cur.size ∧ (∀ m, m < j → c[o + m]? = some (.string (mt (k + m)))) ∧ But g w wr) (fun _ i _ => n - (intOf i).toNat)
  case atStart => exact ⟨0, cur, Nat.zero_le _, rfl, rfl, HG.out, rfl, fun m h => absurd h (by omega), But.refl _ _⟩
  case round =>
    obtain ⟨j, c, hj, rfl, rfl, hblk, hcs, hrows, hbut⟩ := hrel
    have HBLK : Hid (Blk wr g c t) := hblk
    have HROWS : Hid (∀ m, m < j → c[o + m]? = some (.string (mt (k + m)))) := hrows
    have HCS : Hid (c.size = cur.size) := hcs
    clear hblk hrows
    by_cases hlt : j < n
    · have hbd : o + j < c.size := by rcases hsz with h | h <;> omega
      clear hcs
      go_wp2_with fail
      refine (markText_int _ (k + j) (by omega) _ (by omega) (by omega)).mono ?_
      rintro e w1 ⟨rfl, hb1⟩
      have hB1 := HBLK.out.later hb1
      obtain ⟨v0, d0⟩ := hB1.there (j := o + j) hbd
      have f0 := hB1.free (o + j)
      have HB1 : Hid (Blk w1 g c t) := hB1
      have HBUT : Hid (But g w w1) := hbut.trans (But.of hb1)
      clear hB1 hb1 hbut
      go_wp2
      refine ⟨⟨j + 1, _, by omega, by go_num, by go_num, HB1.out.set (o + j) (.string (mt (k + j))), by simp [HCS.out], ?_, HBUT.out.setCell _ _⟩, by simp [intOf]; omega⟩
      intro m hm
      by_cases e : m = j
      · subst e
        simp [hbd]
      · rw [Array.getElem?_setIfInBounds_ne (by omega)]
        exact HROWS.out m (by omega)
    · go_wp2
      go_ret
      have e : j = n := by omega
      subst e
      refine ⟨rfl, ?_, ?_⟩
      · exact Or.inr ⟨hpos, g, o, rfl, hB, hbut⟩
      · refine Or.inr ⟨g, o, c, t, rfl, hB, HBLK.out, fun i hi => ?_⟩
        rw [markT_get, HBLK.out.cell]
        exact HROWS.out i (by rw [markT_length] at hi; exact hi)
set_option maxRecDepth 100000 in
set_option maxHeartbeats 2000000 in
theorem heldStringS_any (a : Option Addr) (cap : Nat) (k n : Nat) (w : World) (hk : 0 < k) (hk2 : k + n ≤ 100000000) (hf : StrsIn w a (markT k n)) :
    Calls Tryz.prog 53 #[.slice a n cap, .int .i64 (k : Int)] w fun e w' => e = .returned (.int .i64 ((k + n : Nat) : Int)) ∧ Below w.heap.size w w' := by
  have HF : Hid (StrsIn w a (markT k n)) := hf
  clear hf
  go_enter Tryz.func53, Tryz.ntmps53
  go_wp2
  go_loopw [1, 5] (fun l i wr => ∃ j : Nat, j ≤ n ∧ i = .int .i64 j ∧ l = .int .i64 ((k + j : Nat) : Int) ∧ Below w.heap.size w wr) (fun _ i _ => n - (intOf i).toNat)
  case atStart => exact ⟨0, Nat.zero_le _, rfl, rfl, Below.refl _ _⟩
  case round =>
    obtain ⟨j, hj, rfl, rfl, hbel⟩ := hrel
    by_cases hlt : j < n
    · obtain ⟨b, o, rfl, hb, c0⟩ := (HF.out.later hbel).at (i := j) (by rw [markT_length]; exact hlt)
      rw [markT_get] at c0
      have d0 := Later.cells c0
      have hne := Later.there wr
      clear c0
      go_wp2_with fail
      refine wp_region_later (by kernel_rfl) (by kernel_rfl) ?_
      repeat (go_big_quiet_step (first | (go_at_call 74; exact calls_later (markText_int _ (k + j) (by omega) _ (by omega) (by omega)))))
      refine wpQuiet_nil ?_
      rintro _ ⟨x, rfl⟩
      have HX : Hid (Below w.heap.size w x.w') := bto hbel x.h
      clear d0 hne hbel
      generalize x.w' = W at *
      clear x
      go_wp2
      exact ⟨⟨j + 1, by omega, by go_num, by go_num, HX.out⟩, by simp [intOf]; omega⟩
    · go_wp2
      go_ret
      have e : j = n := by omega
      subst e
      exact ⟨ret_int (by omega), hbel⟩
end Go.Proofs.YtojeemogabhaoaaGreatDoor
