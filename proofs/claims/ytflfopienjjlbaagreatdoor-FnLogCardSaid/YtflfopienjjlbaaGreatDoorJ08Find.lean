import Derived.Test.YtflfopienjjlbaaGreatDoorJ01Drive
import Derived.Lib.ItoaNum
import Derived.Lib.AtoiAll
import Derived.Lib.Strings
import Derived.Test.YtflfopienjjlbaaGreatDoorJ04Shelf
import Derived.Lib.LaidTab
import Derived.Lib.AppendIntMem
import Derived.WalkKit
import Derived.Test.YtflfopienjjlbaaGreatDoorProg
import Derived.Lib.SmallJoins
import Derived.Test.YtflfopienjjlbaaGreatDoorJ05Dv
namespace Go.Proofs.YtflfopienjjlbaaGreatDoor
open Go.RowKit

/-- The number that these bytes are, the highest first. -/
def beL (l : List UInt8) : Nat := l.foldl (fun v c => v * 256 + c.toNat) 0
theorem beL_snoc (l : List UInt8) (c : UInt8) : beL (l ++ [c]) = beL l * 256 + c.toNat := by simp [beL]
theorem beL_lt (l : List UInt8) : beL l < 256 ^ l.length := by
  have hg : ∀ (n : Nat) (l : List UInt8), l.length = n → beL l < 256 ^ n := fun n => by
    induction n with
    | zero => intro l h; rw [List.length_eq_zero_iff.1 h]; decide
    | succ n ih =>
      intro l h
      have hne : l ≠ [] := by intro e; rw [e] at h; simp at h
      rw [← List.dropLast_concat_getLast hne, beL_snoc]
      have h1 := ih l.dropLast (by simp [h])
      have h2 := (l.getLast hne).toNat_lt
      rw [Nat.pow_succ]
      omega
  exact hg _ l rfl
/-- n bytes of s from p on. -/
def sectL (s : ByteArray) (p n : Nat) : List UInt8 := (s.data.toList.drop p).take n
theorem sectL_length {s : ByteArray} {p n : Nat} (h : p + n ≤ s.size) : (sectL s p n).length = n := by
  have : s.data.toList.length = s.size := by simp
  simp only [sectL, List.length_take, List.length_drop]
  omega
theorem sectL_snoc {s : ByteArray} {p k : Nat} (h : p + k < s.size) : sectL s p (k + 1) = sectL s p k ++ [s[p + k]] := by
  have hl : s.data.toList.length = s.size := by simp
  unfold sectL
  rw [List.take_succ_eq_append_getElem (by rw [List.length_drop, hl]; omega), List.getElem_drop]
  rfl

end Go.Proofs.YtflfopienjjlbaaGreatDoor

namespace Go.Proofs.YtflfopienjjlbaaGreatDoor
open Go.RowKit

/-- The last i digits of n. -/
def segD (n : Nat) : Nat → List UInt8
  | 0 => []
  | i + 1 => (48 + UInt8.ofNat (n / 10 ^ i % 10)) :: segD n i
def segN (n : Nat) : ByteArray := ⟨(119 :: 97 :: 108 :: 45 :: segD n 6).toArray⟩
def segS (n : Int) : ByteArray := if 1 ≤ n ∧ n ≤ 999999 then segN n.toNat else ByteArray.empty
theorem segD_length (n : Nat) : ∀ i, (segD n i).length = i
  | 0 => rfl
  | i + 1 => by simp [segD, segD_length n i]
theorem segS_size (n : Int) : (segS n).size ≤ 10 := by
  unfold segS
  split
  · show (119 :: 97 :: 108 :: 45 :: segD n.toNat 6).toArray.size ≤ 10
    simp [segD_length]
  · simp
theorem dig_ofNat (k : Nat) : UInt8.ofNat (48 + k) = 48 + UInt8.ofNat k := by rw [UInt8.ofNat_add]; rfl
theorem itoa_seg (n : Nat) (h : n < 1000000) : Lib.itoa ((1000000 + n : Nat) : Int) = 49 :: segD n 6 := by
  have h7 : Lib.nDigits (1000000 + n) = 7 := Lib.nDigits_unique 6 _ (by omega) (by omega)
  rw [Lib.itoa, if_neg (by omega), Int.toNat_natCast, Lib.decDigits_eq, h7]
  simp only [List.range_succ, List.range_zero, List.map_cons, List.map_nil, List.nil_append, List.cons_append, segD, Lib.dg, dig_ofNat]
  congr 1
  · rw [show (1000000 + n) / 10 ^ (7 - 1 - 0) % 10 = 1 by omega]; rfl
  · simp only [List.cons.injEq, and_true]
    refine ⟨?_, ?_, ?_, ?_, ?_, ?_⟩ <;> congr 2 <;> omega
end Go.Proofs.YtflfopienjjlbaaGreatDoor

namespace Go.Proofs.YtflfopienjjlbaaGreatDoor
open Go.RowKit

def isDig (c : UInt8) : Bool := decide (48 ≤ c.toNat ∧ c.toNat ≤ 57)
def decL (l : List UInt8) : Nat := l.foldl (fun v c => v * 10 + (c.toNat - 48)) 0
theorem decL_snoc (l : List UInt8) (c : UInt8) : decL (l ++ [c]) = decL l * 10 + (c.toNat - 48) := by simp [decL]
/-- The number of the segment with this name; 0 if it is none. -/
def segOf (s : ByteArray) : Nat := if s.size = 10 ∧ s.extract 0 4 = ⟨#[119, 97, 108, 45]⟩ ∧ (sectL s 4 6).all isDig = true then decL (sectL s 4 6) else 0

theorem dig_nat (m : Nat) : (48 + UInt8.ofNat (m % 10)).toNat = 48 + m % 10 := by
  rw [UInt8.toNat_add]
  simp only [UInt8.toNat_ofNat']
  have : m % 10 < 10 := Nat.mod_lt _ (by omega)
  show (48 + m % 10 % 2 ^ 8) % 2 ^ 8 = _
  omega
theorem dig_eq {c : UInt8} {m : Nat} (h : isDig c = true) (e : m % 10 = c.toNat - 48) : 48 + UInt8.ofNat (m % 10) = c := by
  simp only [isDig, decide_eq_true_eq] at h
  apply UInt8.toNat.inj
  rw [dig_nat]
  omega
theorem segN_size (n : Nat) : (segN n).size = 10 := by
  show (119 :: 97 :: 108 :: 45 :: segD n 6).toArray.size = 10
  simp [segD_length]
theorem segN_sect (n : Nat) : sectL (segN n) 4 6 = segD n 6 := by
  simp [sectL, segN, segD]
theorem segN_head (n : Nat) : (segN n).extract 0 4 = ⟨#[119, 97, 108, 45]⟩ := by
  apply ByteArray.ext
  simp [segN]
theorem segD_dec {n : Nat} (h : n < 1000000) : decL (segD n 6) = n := by
  simp only [segD, decL, List.foldl_cons, List.foldl_nil, dig_nat]
  omega
theorem segD_dig (n : Nat) : (segD n 6).all isDig = true := by
  have h : ∀ m : Nat, isDig (48 + UInt8.ofNat (m % 10)) = true := fun m => by
    simp only [isDig, dig_nat, decide_eq_true_eq]
    have : m % 10 < 10 := Nat.mod_lt _ (by omega)
    omega
  simp only [segD, List.all_cons, List.all_nil, h, Bool.and_self]
theorem segOf_segN {n : Nat} (h : n < 1000000) : segOf (segN n) = n := by
  rw [segOf, if_pos ⟨segN_size n, segN_head n, by rw [segN_sect]; exact segD_dig n⟩, segN_sect, segD_dec h]
theorem six_of {l : List UInt8} (h : l.length = 6) : ∃ a b c d e f, l = [a, b, c, d, e, f] := by
  match l, h with
  | [a, b, c, d, e, f], _ => exact ⟨a, b, c, d, e, f, rfl⟩
theorem segD_of {l : List UInt8} (hl : l.length = 6) (h : l.all isDig = true) : segD (decL l) 6 = l ∧ decL l < 1000000 := by
  obtain ⟨a, b, c, d, e, f, rfl⟩ := six_of hl
  simp only [List.all_cons, List.all_nil, Bool.and_true, Bool.and_eq_true] at h
  obtain ⟨h0, h1, h2, h3, h4, h5⟩ := h
  have g : ∀ c, isDig c = true → 48 ≤ c.toNat ∧ c.toNat ≤ 57 := fun c h => by simpa [isDig] using h
  have g0 := g a h0
  have g1 := g b h1
  have g2 := g c h2
  have g3 := g d h3
  have g4 := g e h4
  have g5 := g f h5
  have E : decL [a, b, c, d, e, f] = (((((a.toNat - 48) * 10 + (b.toNat - 48)) * 10 + (c.toNat - 48)) * 10 + (d.toNat - 48)) * 10 + (e.toNat - 48)) * 10 + (f.toNat - 48) := by simp [decL]
  refine ⟨?_, by omega⟩
  simp only [segD, List.cons.injEq, and_true]
  refine ⟨dig_eq h0 ?_, dig_eq h1 ?_, dig_eq h2 ?_, dig_eq h3 ?_, dig_eq h4 ?_, dig_eq h5 ?_⟩ <;> omega
theorem segOf_pos {s : ByteArray} (h : 0 < segOf s) : s = segN (segOf s) ∧ segOf s < 1000000 := by
  have hc : s.size = 10 ∧ s.extract 0 4 = ⟨#[119, 97, 108, 45]⟩ ∧ (sectL s 4 6).all isDig = true := by
    refine Classical.byContradiction fun hn => ?_
    rw [segOf, if_neg hn] at h
    omega
  obtain ⟨hz, hh, hd⟩ := hc
  have hl : (sectL s 4 6).length = 6 := by
    simp only [sectL, List.length_take, List.length_drop]
    have : s.data.toList.length = 10 := hz
    omega
  obtain ⟨e, hlt⟩ := segD_of hl hd
  have E : segOf s = decL (sectL s 4 6) := by rw [segOf, if_pos ⟨hz, hh, hd⟩]
  rw [E]
  refine ⟨?_, hlt⟩
  have h4 : s.data.toList.take 4 = [119, 97, 108, 45] := by
    have := congrArg (fun b : ByteArray => b.data.toList) hh
    simpa using this
  have h6 : sectL s 4 6 = s.data.toList.drop 4 := by
    have hz' : s.data.toList.length = 10 := hz
    simp only [sectL]
    rw [List.take_of_length_le (by simp; omega)]
  apply ByteArray.ext
  apply Array.toList_inj.1
  show s.data.toList = 119 :: 97 :: 108 :: 45 :: segD (decL (sectL s 4 6)) 6
  rw [e, h6]
  conv => lhs; rw [← List.take_append_drop 4 s.data.toList, h4]
  rfl
theorem atoi_segN {n : Nat} (h : n < 1000000) : Lib.atoiAll (Lib.trimPrefix (segN n).data.toList [119, 97, 108, 45]) = .ok (n : Int) := by
  have ht : Lib.trimPrefix (segN n).data.toList [119, 97, 108, 45] = segD n 6 := by
    simp [Lib.trimPrefix, Lib.hasPrefix, segN, segD]
  have hp : ∀ (l : List UInt8) (acc k : Nat), l.all isDig = true → acc < 10 ^ k → l.length + k ≤ 6 → Lib.parseUint10 acc l = .ok (l.foldl (fun v c => v * 10 + (c.toNat - 48)) acc) := by
    intro l
    induction l with
    | nil => intro acc k _ _ _; rfl
    | cons c r ih =>
      intro acc k hd ha hk
      simp only [List.all_cons, Bool.and_eq_true] at hd
      have hc : 48 ≤ c.toNat ∧ c.toNat ≤ 57 := by simpa [isDig] using hd.1
      have hk6 : 10 ^ k ≤ 10 ^ 6 := Nat.pow_le_pow_right (by omega) (by simp at hk; omega)
      rw [Lib.parseUint10, if_pos hc, if_neg (by omega), if_neg (by omega), List.foldl_cons]
      refine ih _ (k + 1) hd.2 ?_ (by simp at hk ⊢; omega)
      rw [Nat.pow_succ]; omega
  have hm : Lib.parseMag (segD n 6) = .ok n := by
    rw [Lib.parseMag, if_neg (by simp [segD]), hp _ 0 0 (segD_dig n) (by simp) (by simp [segD_length])]
    exact congrArg _ (segD_dec h)
  rw [ht]
  have hd0 := dig_nat (n / 10 ^ 5)
  have hs : segD n 6 = (48 + UInt8.ofNat (n / 10 ^ 5 % 10)) :: segD n 5 := rfl
  rw [hs] at hm ⊢
  have hlt : n / 10 ^ 5 % 10 < 10 := Nat.mod_lt _ (by omega)
  simp only [Lib.atoiAll]
  rw [if_neg (by omega), hm]
  have hne : ¬ (48 + UInt8.ofNat (n / 10 ^ 5 % 10)).toNat = 45 := by omega
  simp only [hne]
  simp
  omega
end Go.Proofs.YtflfopienjjlbaaGreatDoor

namespace Go.Proofs.YtflfopienjjlbaaGreatDoor
open Go.RowKit

def PowTab (w : World) : Prop := Lib.TabIs Tryz.prog w "internal/strconv.uint64pow10" .u64 Lib.pow10Tab
theorem PowTab.later {w w' : World} (h : PowTab w) (hb : Below w.heap.size w w') : PowTab w' := by
  unfold PowTab Lib.TabIs World.var? at h ⊢
  cases hg : Tryz.prog.globalNamed "internal/strconv.uint64pow10" with
  | none => rw [hg] at h; cases h
  | some g =>
    rw [hg] at h
    simp only [Option.bind_some] at h ⊢
    have hlt : g < w.heap.size := by
      rcases Nat.lt_or_ge g w.heap.size with h' | h'
      · exact h'
      · rw [Array.getElem?_eq_none h'] at h; cases h
    rw [hb.block g hlt]
    exact h

theorem segN_of (n : Nat) (h : n < 1000000) : (⟨#[119, 97, 108, 45]⟩ : ByteArray) ++ (⟨(Lib.itoa ((1000000 + n : Nat) : Int)).toArray⟩ : ByteArray).extract 1 7 = segN n := by
  rw [itoa_seg n h]
  apply ByteArray.ext
  simp [segN, segD]

set_option maxRecDepth 100000 in
set_option maxHeartbeats 1000000 in
theorem implSeg_any (n : Int) (w : World) (htab : PowTab w) :
    Calls Tryz.prog 22 #[.int .i64 n] w fun e w' => e = .returned (.string (segS n)) ∧ Below w.heap.size w w' := by
  by_cases h : 1 ≤ n ∧ n ≤ 999999
  · obtain ⟨N, rfl⟩ := Int.eq_ofNat_of_zero_le (show 0 ≤ n by omega)
    have E : Hid (segS N = segN N) := if_pos h
    have hN0 : 1 ≤ N := by omega
    have hN1 : N ≤ 999999 := by omega
    have HI : Hid (Calls Tryz.prog 51 #[.int .i64 (1000000 + (N : Int))] w fun e w' => e = .returned (.string ⟨(Lib.itoa ((1000000 + N : Nat) : Int)).toArray⟩) ∧ Below w.heap.size w w') :=
      (Tryz.strconv_Itoa ((1000000 + N : Nat) : Int) (by omega) (by omega) w htab).mono (by
        rintro e w' ⟨rfl, k, os, rfl⟩
        exact ⟨rfl, Lib.below_grow _ _ (Nat.le_refl _) _ _⟩)
    have HX : Hid ((⟨#[119, 97, 108, 45]⟩ : ByteArray) ++ (⟨(Lib.itoa ((1000000 + N : Nat) : Int)).toArray⟩ : ByteArray).extract 1 7 = segN N) := segN_of N (by omega)
    have hz : (⟨(Lib.itoa ((1000000 + N : Nat) : Int)).toArray⟩ : ByteArray).size = 7 := by
      rw [itoa_seg N (by omega)]; simp [segD, ByteArray.size]
    generalize (⟨(Lib.itoa ((1000000 + N : Nat) : Int)).toArray⟩ : ByteArray) = X at *
    clear h htab
    go_enter Tryz.func22, Tryz.ntmps22
    go_wp2_with fail
    refine HI.out.mono ?_
    rintro e w1 ⟨rfl, hb1⟩
    have HB : Hid (Below w.heap.size w w1) := hb1
    clear hb1
    go_wp2
    go_ret
    refine ⟨?_, HB.out⟩
    rw [E.out, ← HX.out]
    rfl
  · have E : Hid (segS n = ByteArray.empty) := if_neg h
    by_cases h1 : n < 1
    · go_enter Tryz.func22, Tryz.ntmps22
      go_wp2
      go_ret
      exact ⟨by rw [E.out]; rfl, Below.refl _ _⟩
    · have h2 : 999999 < n := by omega
      clear h
      go_enter Tryz.func22, Tryz.ntmps22
      go_wp2
      go_ret
      exact ⟨by rw [E.out]; rfl, Below.refl _ _⟩
end Go.Proofs.YtflfopienjjlbaaGreatDoor

namespace Go.Proofs.YtflfopienjjlbaaGreatDoor

theorem less_irrefl : ∀ x : List UInt8, Op.bytesLess x x = false
  | [] => rfl
  | a :: x => by simp [Op.bytesLess, less_irrefl x]

theorem less_trans : ∀ x y z : List UInt8, Op.bytesLess x y = true → Op.bytesLess y z = true → Op.bytesLess x z = true
  | _, _, [], _, h => by simp [Op.bytesLess] at h
  | _, [], _ :: _, h, _ => by simp [Op.bytesLess] at h
  | [], _ :: _, _ :: _, _, _ => by simp [Op.bytesLess]
  | a :: x, b :: y, c :: z, h1, h2 => by
    simp only [Op.bytesLess, Bool.or_eq_true, Bool.and_eq_true, decide_eq_true_eq, beq_iff_eq] at h1 h2 ⊢
    rcases h1 with h1 | ⟨rfl, h1⟩
    · rcases h2 with h2 | ⟨rfl, _⟩
      · exact Or.inl (UInt8.lt_trans h1 h2)
      · exact Or.inl h1
    · rcases h2 with h2 | ⟨rfl, h2⟩
      · exact Or.inl h2
      · exact Or.inr ⟨rfl, less_trans x y z h1 h2⟩

theorem less_total : ∀ x y : List UInt8, Op.bytesLess x y = false → x ≠ y → Op.bytesLess y x = true
  | [], [], _, h => absurd rfl h
  | [], _ :: _, h, _ => by simp [Op.bytesLess] at h
  | _ :: _, [], _, _ => by simp [Op.bytesLess]
  | a :: x, b :: y, h, hne => by
    simp only [Op.bytesLess, Bool.or_eq_false_iff, Bool.and_eq_false_iff, decide_eq_false_iff_not, Bool.or_eq_true, Bool.and_eq_true, decide_eq_true_eq, beq_iff_eq] at h ⊢
    obtain ⟨h1, h2⟩ := h
    by_cases e : a = b
    · subst e
      rcases h2 with h2 | h2
      · simp at h2
      · exact Or.inr ⟨rfl, less_total x y h2 (fun e => hne (by rw [e]))⟩
    · left
      rcases UInt8.lt_or_lt_of_ne e with h | h
      · exact absurd h h1
      · exact h

theorem less_asymm {x y : List UInt8} (h : Op.bytesLess x y = true) : Op.bytesLess y x = false := by
  rw [Bool.eq_false_iff]
  intro h'
  have := less_trans x y x h h'
  rw [less_irrefl] at this
  exact absurd this (by simp)

theorem toList_inj {x y : ByteArray} (h : x.toList = y.toList) : x = y := by
  have h' : x.data.toList = y.data.toList := by rw [← ByteArray.toList_eq x, ← ByteArray.toList_eq y]; exact h
  cases x; cases y
  simp only [ByteArray.mk.injEq]
  exact Array.toList_inj.1 h'
end Go.Proofs.YtflfopienjjlbaaGreatDoor

namespace Go.Proofs.YtflfopienjjlbaaGreatDoor
open Go.RowKit

theorem var_later {w w' : World} {nm : String} {a : Array Value} (h : w.var? Tryz.prog nm = some a) (hb : Below w.heap.size w w') : w'.var? Tryz.prog nm = some a := by
  unfold World.var? at h ⊢
  cases hg : Tryz.prog.globalNamed nm with
  | none => rw [hg] at h; cases h
  | some g =>
    rw [hg] at h
    simp only [Option.bind_some] at h ⊢
    have hlt : g < w.heap.size := by
      rcases Nat.lt_or_ge g w.heap.size with h' | h'
      · exact h'
      · rw [Array.getElem?_eq_none h'] at h; cases h
    rw [hb.block g hlt]
    exact h
/-- The two errors of strconv's are there. -/
structure ErrTab (w : World) : Prop where
  syn : ∃ t p, w.var? Tryz.prog "strconv.ErrSyntax" = some #[.iface t p]
  rng : ∃ t p, w.var? Tryz.prog "strconv.ErrRange" = some #[.iface t p]
theorem ErrTab.later {w w' : World} (h : ErrTab w) (hb : Below w.heap.size w w') : ErrTab w' := by
  obtain ⟨⟨t, p, h1⟩, ⟨t', p', h2⟩⟩ := h
  exact ⟨⟨t, p, var_later h1 hb⟩, ⟨t', p', var_later h2 hb⟩⟩

theorem atoi_any (s : ByteArray) (hs : s.size ≤ 1000000000) (w : World) (he : ErrTab w) :
    (∃ v, Lib.atoiAll s.data.toList = .ok v ∧ Calls Tryz.prog 106 #[.string s] w fun e w' => e = .returned (.tuple #[.int .i64 v, .nilIface]) ∧ Below w.heap.size w w') ∨
    ((∀ v, Lib.atoiAll s.data.toList ≠ .ok v) ∧ Calls Tryz.prog 106 #[.string s] w fun e w' => ∃ (n : Int) (t : TypeId) (p : Value), e = .returned (.tuple #[.int .i64 n, .iface t p]) ∧ Below w.heap.size w w') := by
  obtain ⟨⟨t, p, h1⟩, ⟨t', p', h2⟩⟩ := he
  rcases h : Lib.atoiAll s.data.toList with v | _ | _
  · skip
    refine Or.inl ⟨v, rfl, (Tryz.strconv_Atoi_ok s (by omega) v h w).mono ?_⟩
    rintro e w' ⟨rfl, rfl | ⟨t, rfl⟩⟩
    · exact ⟨rfl, Below.refl _ _⟩
    · exact ⟨rfl, Joins.below_bytesWorld _ _ _ _ (Nat.le_refl _)⟩
  · skip
    refine Or.inr ⟨nofun, (Tryz.strconv_Atoi_syntax_var s (by omega) h t p w h1).mono ?_⟩
    rintro e w' ⟨N, rfl, _, _, hb⟩
    exact ⟨_, _, _, rfl, hb⟩
  · skip
    refine Or.inr ⟨nofun, (Tryz.strconv_Atoi_range_var s (by omega) h t' p' w h2).mono ?_⟩
    rintro e w' ⟨N, rfl, _, _, hb⟩
    exact ⟨_, _, _, rfl, hb⟩

set_option maxRecDepth 100000 in
set_option maxHeartbeats 1000000 in
theorem implSegOf_any (s : ByteArray) (w : World) (hs : s.size ≤ 1000000000) (htab : PowTab w) (he : ErrTab w) :
    Calls Tryz.prog 91 #[.string s] w fun e w' => ∃ (n : Int) (b : Bool), e = .returned (.tuple #[.int .i64 n, .bool b]) ∧ b = decide (0 < segOf s) ∧ (b = true → n = segOf s) ∧ Below w.heap.size w w' := by
  have HT : Hid (PowTab w) := htab
  have hz : (⟨(Lib.trimPrefix s.data.toList [119, 97, 108, 45]).toArray⟩ : ByteArray).size ≤ 1000000000 := by
    have h1 : (Lib.trimPrefix s.data.toList [119, 97, 108, 45]).length ≤ s.data.toList.length := by
      unfold Lib.trimPrefix
      split <;> simp
    have h2 : s.data.toList.length = s.size := rfl
    show (Lib.trimPrefix s.data.toList [119, 97, 108, 45]).toArray.size ≤ _
    rw [List.size_toArray]
    omega
  have HA := atoi_any (⟨(Lib.trimPrefix s.data.toList [119, 97, 108, 45]).toArray⟩ : ByteArray) hz w he
  clear htab he
  rcases HA with ⟨v, hv, hc⟩ | ⟨hv, hc⟩
  · have HV : Hid (Lib.atoiAll (Lib.trimPrefix s.data.toList [119, 97, 108, 45]) = .ok v) := by show _ = _; simpa using hv
    have HC : Hid (Calls Tryz.prog 106 #[.string (⟨(Lib.trimPrefix s.data.toList [119, 97, 108, 45]).toArray⟩ : ByteArray)] w fun e w' => e = .returned (.tuple #[.int .i64 v, .nilIface]) ∧ Below w.heap.size w w') := hc
    have HE : Hid (segS v = s ↔ 0 < segOf s) := by
      constructor
      · intro e
        unfold segS at e
        split at e
        · rename_i h
          rw [← e, segOf_segN (by omega)]
          omega
        · rw [← e] at HV
          have := HV.out
          simp [Lib.trimPrefix, Lib.hasPrefix, Lib.atoiAll] at this
      · intro h
        obtain ⟨e, hlt⟩ := segOf_pos h
        have h1 := HV.out
        rw [e, atoi_segN hlt] at h1
        injection h1 with h1
        rw [segS, if_pos (by omega), ← h1, Int.toNat_natCast]
        exact e.symm
    have HE2 : Hid (0 < segOf s → v = segOf s) := fun h => by
      obtain ⟨e, hlt⟩ := segOf_pos h
      have h1 := HV.out
      rw [e, atoi_segN hlt] at h1
      injection h1 with h1
      exact h1.symm
    clear hv hc hz
    go_enter Tryz.func91, Tryz.ntmps91
    go_wp2_with fail
    refine (Tryz.strings_TrimPrefix s ⟨#[119, 97, 108, 45]⟩ w).mono ?_
    rintro e w1 ⟨rfl, rfl⟩
    go_wp2_with fail
    refine HC.out.mono ?_
    rintro e w2 ⟨rfl, hb2⟩
    have HB2 : Hid (Below w1.heap.size w1 w2) := hb2
    clear hb2
    go_wp2_with fail
    refine (implSeg_any v w2 (HT.out.later HB2.out)).mono ?_
    rintro e w3 ⟨rfl, hb3⟩
    have HB3 : Hid (Below w1.heap.size w1 w3) := bto HB2.out hb3
    clear hb3
    by_cases hq : segS v = s
    · have hqb : ((segS v).toList == s.toList) = true := by rw [hq]; simp
      have h0 : Hid (0 < segOf s) := HE.out.1 hq
      clear hq
      go_wp2
      go_ret2
      exact ⟨_, _, rfl, (decide_eq_true h0.out).symm, fun _ => HE2.out h0.out, HB3.out⟩
    · have hqb : ((segS v).toList == s.toList) = false := by
        rw [← Bool.not_eq_true]
        intro h
        exact hq (toList_inj (by simpa using h))
      have h0 : Hid (¬ 0 < segOf s) := fun h => hq (HE.out.2 h)
      clear hq
      go_wp2
      go_ret2
      exact ⟨_, _, rfl, (decide_eq_false h0.out).symm, nofun, HB3.out⟩
  · have HC : Hid (Calls Tryz.prog 106 #[.string (⟨(Lib.trimPrefix s.data.toList [119, 97, 108, 45]).toArray⟩ : ByteArray)] w fun e w' => ∃ (n : Int) (t : TypeId) (p : Value), e = .returned (.tuple #[.int .i64 n, .iface t p]) ∧ Below w.heap.size w w') := hc
    have h0 : Hid (¬ 0 < segOf s) := fun h => by
      obtain ⟨e, hlt⟩ := segOf_pos h
      refine hv (segOf s : Nat) ?_
      have h1 := atoi_segN hlt
      rw [← e] at h1
      simpa using h1
    clear hv hc hz
    go_enter Tryz.func91, Tryz.ntmps91
    go_wp2_with fail
    refine (Tryz.strings_TrimPrefix s ⟨#[119, 97, 108, 45]⟩ w).mono ?_
    rintro e w1 ⟨rfl, rfl⟩
    go_wp2_with fail
    refine HC.out.mono ?_
    rintro e w2 ⟨n, t, p, rfl, hb2⟩
    have HB2 : Hid (Below w1.heap.size w1 w2) := hb2
    clear hb2
    go_wp2
    go_ret2
    exact ⟨_, _, rfl, (decide_eq_false h0.out).symm, nofun, HB2.out⟩
end Go.Proofs.YtflfopienjjlbaaGreatDoor

namespace Go.Proofs.YtflfopienjjlbaaGreatDoor
open Go.RowKit

def cmpZ (x y : ByteArray) : Int := if Op.bytesLess x.toList y.toList = true then -1 else if (x.toList == y.toList) = true then 0 else 1

set_option maxHeartbeats 400000 in
theorem isNaN_any (s : ByteArray) (w : World) : Calls Tryz.prog 111 #[.string s] w fun e w' => e = .returned (.bool false) ∧ w' = w := by
  go_enter Tryz.func111, Tryz.ntmps111
  go_wp2
  go_ret
  exact ⟨rfl, rfl⟩

set_option maxHeartbeats 400000 in
theorem compare_any (x y : ByteArray) (w : World) : Calls Tryz.prog 100 #[.string x, .string y] w fun e w' => e = .returned (.int .i64 (cmpZ x y)) ∧ w' = w := by
  by_cases h1 : Op.bytesLess x.toList y.toList = true
  · have E : Hid (cmpZ x y = -1) := by show _ = _; simp [cmpZ, h1]
    go_enter Tryz.func100, Tryz.ntmps100
    go_wp2_with (first | (go_at_call 111; refine (isNaN_any _ _).mono ?_; rintro e w' ⟨rfl, rfl⟩))
    go_ret
    exact ⟨ret_int E.out.symm, rfl⟩
  have h1' : Op.bytesLess x.toList y.toList = false := by simpa using h1
  by_cases h2 : (x.toList == y.toList) = true
  · have E : Hid (cmpZ x y = 0) := by show _ = _; simp [cmpZ, h1', h2]
    clear h1
    go_enter Tryz.func100, Tryz.ntmps100
    go_wp2_with (first | (go_at_call 111; refine (isNaN_any _ _).mono ?_; rintro e w' ⟨rfl, rfl⟩))
    go_ret
    exact ⟨ret_int E.out.symm, rfl⟩
  have h2' : (x.toList == y.toList) = false := by simpa using h2
  have E : Hid (cmpZ x y = 1) := by show _ = _; simp only [cmpZ, h1', h2']; rfl
  clear h1 h2
  go_enter Tryz.func100, Tryz.ntmps100
  go_wp2_with (first | (go_at_call 111; refine (isNaN_any _ _).mono ?_; rintro e w' ⟨rfl, rfl⟩))
  go_ret
  exact ⟨ret_int E.out.symm, rfl⟩

end Go.Proofs.YtflfopienjjlbaaGreatDoor

namespace Go.Proofs.YtflfopienjjlbaaGreatDoor
open Go.RowKit

set_option maxHeartbeats 400000 in
theorem findFn_any (nm da : ByteArray) (sy : Int) (t : ByteArray) (w : World) : Calls Tryz.prog 99 #[.agg #[.string nm, .string da, .int .i64 sy], .string t] w fun e w' => e = .returned (.int .i64 (cmpZ nm t)) ∧ Below w.heap.size w w' := by
  go_enter Tryz.func99, Tryz.ntmps99
  go_wp2_with (first | (go_at_call 100; refine (compare_any _ _ _).mono ?_; rintro e w' ⟨rfl, rfl⟩))
  go_ret
  exact ⟨rfl, bnew _ _⟩
end Go.Proofs.YtflfopienjjlbaaGreatDoor

namespace Go.Proofs.YtflfopienjjlbaaGreatDoor
open Go.RowKit

theorem ret_tup2 {v0 v1 u0 u1 : Value} (h0 : v0 = u0) (h1 : v1 = u1) : Ending.returned (.tuple #[v0, v1]) = .returned (.tuple #[u0, u1]) := by rw [h0, h1]

/-- The first place of a file called t, from place i on; -1 if there is none. -/
def findFrom (t : ByteArray) : List FileD → Nat → Int
  | [], _ => -1
  | f :: r, i => if (f.name.toList == t.toList) = true then i else findFrom t r (i + 1)

set_option maxHeartbeats 1000000 in
theorem l1Find_any (a : Option Addr) (cap : Nat) (fs : List FileD) (c k0 cr fl : Int) (dn : Bool) (t : ByteArray) (w : World) (hf : FilesIn w a fs) (hlen : fs.length ≤ maxLen) :
    Calls Tryz.prog 31 #[.agg #[.slice a fs.length cap, .int .i64 c, .int .i64 k0, .int .i64 cr, .int .i64 fl, .bool dn], .string t] w fun e w' => e = .returned (.int .i64 (findFrom t fs 0)) ∧ Below w.heap.size w w' := by
  unfold maxLen at hlen
  have HF : Hid (FilesIn w a fs) := hf
  clear hf
  go_enter Tryz.func31, Tryz.ntmps31
  go_wp2
  go_loopw [5, 6, 10] (fun _ _ i wr => ∃ k : Nat, k ≤ fs.length ∧ i = .int .i64 k ∧ findFrom t fs 0 = findFrom t (fs.drop k) k ∧ Below w.heap.size w wr) (fun _ _ i _ => fs.length - (intOf i).toNat)
  case atStart => exact ⟨0, Nat.zero_le _, rfl, rfl, bnew _ _⟩
  case round =>
    obtain ⟨k, hk, rfl, hfd, hbel⟩ := hrel
    have HFD : Hid (findFrom t fs 0 = findFrom t (fs.drop k) k) := hfd
    clear hfd
    by_cases hlt : k < fs.length
    · obtain ⟨b, o, rfl, hb, c0, c1, c2⟩ := (HF.out.later hbel).at hlt
      have hd : fs.drop k = fs[k] :: fs.drop (k + 1) := List.drop_eq_getElem_cons hlt
      by_cases he : (fs[k].name.toList == t.toList) = true
      · have E : Hid (findFrom t fs 0 = k) := by show _ = _; rw [HFD.out, hd, findFrom, if_pos he]
        clear hd
        go_wp2
        go_ret
        exact ⟨ret_int E.out.symm, hbel.alloc hbel.size _⟩
      · have he' : (fs[k].name.toList == t.toList) = false := by simpa using he
        have E : Hid (findFrom t fs 0 = findFrom t (fs.drop (k + 1)) (k + 1)) := by show _ = _; rw [HFD.out, hd, findFrom, if_neg he]
        clear hd he
        go_wp2
        exact ⟨⟨k + 1, by omega, by go_num, E.out, hbel.alloc hbel.size _⟩, by simp [intOf]; omega⟩
    · go_wp2
      go_ret
      have e : fs.drop k = [] := List.drop_eq_nil_of_le (by omega)
      exact ⟨ret_int (by rw [HFD.out, e]; rfl), hbel⟩

/-- Strictly ascending names. -/
def Asc (fs : List FileD) : Prop := ∀ i j (hi : i < j) (hj : j < fs.length), Op.bytesLess fs[i].name.toList fs[j].name.toList = true

theorem okAt_succ {fs : List FileD} {j : Nat} (h : okAt fs (j + 1) = true) (hj : j + 1 < fs.length) : Op.bytesLess fs[j].name.toList fs[j + 1].name.toList = true := by
  simp [okAt, List.getElem?_eq_getElem hj, List.getElem?_eq_getElem (show j < fs.length by omega)] at h
  exact h.2

theorem asc_of {fs : List FileD} (h : filesB fs = true) : Asc fs := by
  simp only [filesB, okTo, List.all_eq_true, List.mem_range] at h
  intro i j hi hj
  induction j with
  | zero => omega
  | succ j ih =>
    have hs := okAt_succ (h (j + 1) hj) hj
    by_cases e : i = j
    · subst e; exact hs
    · exact less_trans _ _ _ (ih (by omega) (by omega)) hs

/-- i is where t is, or would be. -/
def PosIs (fs : List FileD) (t : ByteArray) (i : Nat) : Prop := i ≤ fs.length ∧ (∀ j (h : j < fs.length), j < i → Op.bytesLess fs[j].name.toList t.toList = true) ∧ (∀ j (h : j < fs.length), i ≤ j → Op.bytesLess fs[j].name.toList t.toList = false)

def posOf (t : ByteArray) : List FileD → Nat
  | [] => 0
  | f :: r => if Op.bytesLess f.name.toList t.toList = true then posOf t r + 1 else 0

theorem PosIs.uniq {fs : List FileD} {t : ByteArray} {i j : Nat} (h : PosIs fs t i) (k : PosIs fs t j) : i = j := by
  rcases Nat.lt_trichotomy i j with hlt | he | hlt
  · have a := k.2.1 i (by have := k.1; omega) hlt
    have b := h.2.2 i (by have := k.1; omega) (Nat.le_refl _)
    rw [a] at b; exact absurd b (by simp)
  · exact he
  · have a := h.2.1 j (by have := h.1; omega) hlt
    have b := k.2.2 j (by have := h.1; omega) (Nat.le_refl _)
    rw [a] at b; exact absurd b (by simp)

def hasB (fs : List FileD) (t : ByteArray) (i : Nat) : Bool := match fs[i]? with
  | none => false
  | some f => f.name.toList == t.toList

theorem cmpZ_neg {x y : ByteArray} : (cmpZ x y < 0) ↔ Op.bytesLess x.toList y.toList = true := by
  unfold cmpZ; split <;> (try split) <;> simp_all
theorem cmpZ_zero {x y : ByteArray} : (cmpZ x y == 0) = (x.toList == y.toList) := by
  unfold cmpZ
  by_cases h : Op.bytesLess x.toList y.toList = true
  · rw [if_pos h]
    have : (x.toList == y.toList) = false := by
      rw [beq_eq_false_iff_ne]; intro e; rw [e, less_irrefl] at h; exact absurd h (by simp)
    rw [this]; rfl
  · rw [if_neg h]
    by_cases e : (x.toList == y.toList) = true
    · rw [if_pos e, e]; rfl
    · rw [if_neg e]; simp at e; simp [e]

set_option maxHeartbeats 1000000 in
theorem search_any (a : Option Addr) (cap : Nat) (fs : List FileD) (t : ByteArray) (w : World) (hf : FilesIn w a fs) (hasc : Asc fs) (hlen : fs.length ≤ 1048576) :
    Calls Tryz.prog 98 #[.slice a fs.length cap, .string t, .func (.func 99) #[] #[]] w fun e w' =>
      ∃ i, PosIs fs t i ∧ e = .returned (.tuple #[.int .i64 i, .bool (hasB fs t i)]) ∧ Below w.heap.size w w' := by
  have HF : Hid (FilesIn w a fs) := hf
  have HA : Hid (Asc fs) := hasc
  clear hf hasc
  go_enter Tryz.func98, Tryz.ntmps98
  go_wp2
  go_loopw [9, 10, 11] (fun i j _ wr => ∃ lo hi : Nat, i = .int .i64 lo ∧ j = .int .i64 hi ∧ lo ≤ hi ∧ hi ≤ fs.length ∧ (∀ m (h : m < fs.length), m < lo → Op.bytesLess fs[m].name.toList t.toList = true) ∧
      (∀ m (h : m < fs.length), hi ≤ m → Op.bytesLess fs[m].name.toList t.toList = false) ∧ Below w.heap.size w wr) (fun i j _ _ => (intOf j).toNat - (intOf i).toNat)
  case atStart => exact ⟨0, fs.length, rfl, rfl, Nat.zero_le _, Nat.le_refl _, fun m h k => absurd k (by omega), fun m h k => absurd k (by omega), Below.refl _ _⟩
  case round =>
    obtain ⟨lo, hi, rfl, rfl, hle, hhi, hlo', hhi', hbel⟩ := hrel
    have HLO : Hid (∀ m (h : m < fs.length), m < lo → Op.bytesLess fs[m].name.toList t.toList = true) := hlo'
    have HHI : Hid (∀ m (h : m < fs.length), hi ≤ m → Op.bytesLess fs[m].name.toList t.toList = false) := hhi'
    clear hlo' hhi'
    by_cases hlt : lo < hi
    · obtain ⟨m, hm⟩ : ∃ m : Nat, m = (lo + hi) / 2 := ⟨_, rfl⟩
      have em : ((lo : Int) + (hi : Int)) / 2 = (m : Int) := by omega
      have hm1 : lo ≤ m := by omega
      have hm2 : m < hi := by omega
      have hm3 : m < fs.length := by omega
      clear hm
      obtain ⟨b, o, rfl, hb, c0, c1, c2⟩ := (HF.out.later hbel).at hm3
      by_cases hc : Op.bytesLess fs[m].name.toList t.toList = true
      · have hz : cmpZ fs[m].name t < 0 := cmpZ_neg.2 hc
        have HC : Hid (Op.bytesLess fs[m].name.toList t.toList = true) := hc
        clear hc
        go_wp2_with fail
        refine (findFn_any _ _ _ _ _).mono ?_
        rintro e w' ⟨rfl, hb2⟩
        go_wp2
        refine ⟨⟨m + 1, hi, by go_num, rfl, by omega, hhi, fun j hj hjm => ?_, HHI.out, hbel.trans (hb2.mono hbel.size)⟩, by simp [intOf]; omega⟩
        by_cases e : j = m
        · subst e; exact HC.out
        · exact less_trans _ _ _ (HA.out j m (by omega) hm3) HC.out
      · have hz : ¬ cmpZ fs[m].name t < 0 := fun h => hc (cmpZ_neg.1 h)
        have HC : Hid (Op.bytesLess fs[m].name.toList t.toList = false) := by show _ = _; simpa using hc
        clear hc
        go_wp2_with fail
        refine (findFn_any _ _ _ _ _).mono ?_
        rintro e w' ⟨rfl, hb2⟩
        go_wp2
        refine ⟨⟨lo, m, rfl, rfl, hm1, by omega, HLO.out, fun j hj hjm => ?_, hbel.trans (hb2.mono hbel.size)⟩, by simp [intOf]; omega⟩
        by_cases e : j = m
        · subst e; exact HC.out
        · rw [Bool.eq_false_iff]
          intro h
          have := less_trans _ _ _ (HA.out m j (by omega) hj) h
          rw [HC.out] at this
          exact absurd this (by simp)
    · obtain rfl : lo = hi := by omega
      have HP : Hid (PosIs fs t lo) := ⟨hhi, HLO.out, HHI.out⟩
      by_cases hn : lo < fs.length
      · obtain ⟨b, o, rfl, hb, c0, c1, c2⟩ := (HF.out.later hbel).at hn
        have E : Hid ((cmpZ fs[lo].name t == 0) = hasB fs t lo) := by show _ = _; rw [cmpZ_zero]; simp [hasB, List.getElem?_eq_getElem hn]
        go_wp2_with fail
        refine (findFn_any _ _ _ _ _).mono ?_
        rintro e w' ⟨rfl, hb2⟩
        go_wp2
        go_ret2
        exact ⟨lo, HP.out, ret_tup2 rfl (congrArg Value.bool E.out), hbel.trans (hb2.mono hbel.size)⟩
      · have E : Hid (hasB fs t lo = false) := by show _ = _; simp [hasB, List.getElem?_eq_none (Nat.not_lt.1 hn)]
        go_wp2
        go_ret2
        exact ⟨lo, HP.out, ret_tup2 rfl (congrArg Value.bool E.out.symm), hbel⟩

set_option maxHeartbeats 400000 in
theorem findFile_any (a : Option Addr) (cap : Nat) (fs : List FileD) (t : ByteArray) (w : World) (hf : FilesIn w a fs) (hasc : Asc fs) (hlen : fs.length ≤ 1048576) :
    Calls Tryz.prog 79 #[.slice a fs.length cap, .string t] w fun e w' =>
      ∃ i, PosIs fs t i ∧ e = .returned (.tuple #[.int .i64 i, .bool (hasB fs t i)]) ∧ Below w.heap.size w w' := by
  have HF : Hid (FilesIn w a fs) := hf
  have HA : Hid (Asc fs) := hasc
  clear hf hasc
  go_enter Tryz.func79, Tryz.ntmps79
  go_wp2_with fail
  refine (search_any a cap fs t _ HF.out HA.out hlen).mono ?_
  rintro e w' ⟨i, hp, rfl, hb⟩
  have HP : Hid (PosIs fs t i) := hp
  clear hp
  go_wp2
  go_ret2
  exact ⟨i, HP.out, rfl, hb⟩

/-- Where the names ascend, the place by halving is the place by looking through. -/
theorem find_pos {fs : List FileD} {t : ByteArray} (ha : Asc fs) {i : Nat} (hp : PosIs fs t i) : findFrom t fs 0 = if hasB fs t i = true then (i : Int) else -1 := by
  have gen : ∀ (n k : Nat), k + n = fs.length → (∀ j (h : j < fs.length), j < k → (fs[j].name.toList == t.toList) = false) → findFrom t (fs.drop k) k = if hasB fs t i = true then (i : Int) else -1 := by
    intro n
    induction n with
    | zero =>
      intro k hk hno
      rw [List.drop_eq_nil_of_le (by omega), findFrom]
      rw [if_neg]
      intro h
      unfold hasB at h
      split at h
      · exact absurd h (by simp)
      · rename_i f hf
        obtain ⟨hlt, rfl⟩ := List.getElem?_eq_some_iff.1 hf
        rw [hno i hlt (by omega)] at h
        exact absurd h (by simp)
    | succ n ih =>
      intro k hk hno
      have hlt : k < fs.length := by omega
      rw [List.drop_eq_getElem_cons hlt, findFrom]
      by_cases he : (fs[k].name.toList == t.toList) = true
      · rw [if_pos he]
        have hq : PosIs fs t k := by
          have e : fs[k].name.toList = t.toList := by simpa using he
          refine ⟨by omega, fun j hj hjk => ?_, fun j hj hkj => ?_⟩
          · rw [← e]; exact ha j k hjk hlt
          · rw [← e]
            by_cases ej : j = k
            · subst ej; exact less_irrefl _
            · exact less_asymm (ha k j (by omega) hj)
        obtain rfl := hp.uniq hq
        rw [if_pos]
        simp [hasB, List.getElem?_eq_getElem hlt, he]
      · rw [if_neg he]
        refine ih (k + 1) (by omega) fun j hj hjk => ?_
        by_cases ej : j = k
        · subst ej; simpa using he
        · exact hno j hj (by omega)
  have := gen fs.length 0 (by omega) (fun j _ h => absurd h (by omega))
  simpa using this
end Go.Proofs.YtflfopienjjlbaaGreatDoor

