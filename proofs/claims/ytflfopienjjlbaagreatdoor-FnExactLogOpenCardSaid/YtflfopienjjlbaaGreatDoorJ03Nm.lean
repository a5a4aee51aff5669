import Derived.Test.YtflfopienjjlbaaGreatDoorJ01SegOfL
import Derived.Test.YtflfopienjjlbaaGreatDoorJ02Shelf
import Derived.Lib.LaidTab
import Derived.Lib.AppendIntMem
import Derived.WalkKit
import Derived.Test.YtflfopienjjlbaaGreatDoorProg
import Derived.Lib.SmallJoins
namespace Go.Proofs.YtflfopienjjlbaaGreatDoor
open Go.RowKit

/-- Of what lay in w only block g may have turned. -/
structure But (g : Nat) (w w' : World) : Prop where
  os : w'.os = w.os
  tape : w'.tape = w.tape
  output : w'.output = w.output
  size : w.heap.size ≤ w'.heap.size
  block : ∀ k, k < w.heap.size → k ≠ g → w'.heap[k]? = w.heap[k]?

theorem But.refl (g : Nat) (w : World) : But g w w := ⟨rfl, rfl, rfl, Nat.le_refl _, fun _ _ _ => rfl⟩
theorem But.trans {g : Nat} {a b c : World} (h : But g a b) (k : But g b c) : But g a c :=
  ⟨k.os.trans h.os, k.tape.trans h.tape, k.output.trans h.output, Nat.le_trans h.size k.size, fun i hi hg => (k.block i (Nat.lt_of_lt_of_le hi h.size) hg).trans (h.block i hi hg)⟩
theorem But.of {g : Nat} {w w' : World} (h : Below w.heap.size w w') : But g w w' := ⟨h.os, h.tape, h.output, h.size, fun k hk _ => h.block k hk⟩
theorem But.setCell {g : Nat} {a w : World} (h : But g a w) (o : Nat) (v : Value) : But g a (w.setCell ⟨g, o, none⟩ v) :=
  h.trans ⟨rfl, rfl, rfl, by simp [World.setCell], fun k _ hk => Below.heap_setCell _ _ _ _ hk⟩
theorem But.below {g B : Nat} {w w' : World} (h : But g w w') (hB : B ≤ g) (hs : B ≤ w.heap.size) : Below B w w' :=
  ⟨h.os, h.tape, h.output, h.size, fun k hk => h.block k (by omega) (by omega)⟩

theorem FilesIn.but {g b o : Nat} {w w' : World} {fs : List FileD} (h : FilesIn w (some ⟨b, o, none⟩) fs) (hb : But g w w') (hg : b ≠ g) : FilesIn w' (some ⟨b, o, none⟩) fs := by
  rcases h with h | ⟨b', o', e, hlt, h⟩
  · exact Or.inl h
  · simp only [Option.some.injEq, Addr.mk.injEq, and_true] at e
    obtain ⟨rfl, rfl⟩ := e
    have hk : ∀ j, w'.cell? ⟨b, j, none⟩ = w.cell? ⟨b, j, none⟩ := fun j => World.cell?_of_block (hb.block b hlt hg)
    exact Or.inr ⟨b, o, rfl, Nat.lt_of_lt_of_le hlt hb.size, fun i hi => by simp only [hk]; exact h i hi⟩

/-- The files fs lie in a block of their own, from B on, that may be written. -/
def Owned (w : World) (B : Nat) (a : Option Addr) (fs : List FileD) : Prop :=
  fs = [] ∨ ∃ g o cur t, a = some ⟨g, o, none⟩ ∧ B ≤ g ∧ w.heap[g]? = some (.cells cur t (0, 0)) ∧ FilesAt w g o fs

theorem lt_of_block {w : World} {g : Nat} {x : Obj} (h : w.heap[g]? = some x) : g < w.heap.size := by
  rcases Nat.lt_or_ge g w.heap.size with hlt | hge
  · exact hlt
  · rw [Array.getElem?_eq_none hge] at h; exact absurd h (by simp)

theorem Owned.files {w : World} {B : Nat} {a : Option Addr} {fs : List FileD} (h : Owned w B a fs) : FilesIn w a fs := by
  rcases h with h | ⟨g, o, cur, t, rfl, _, hb, h⟩
  · exact Or.inl h
  · exact Or.inr ⟨g, o, rfl, lt_of_block hb, h⟩

theorem Owned.later {w w' : World} {B : Nat} {a : Option Addr} {fs : List FileD} (h : Owned w B a fs) (hb : Below w.heap.size w w') : Owned w' B a fs := by
  rcases h with h | ⟨g, o, cur, t, rfl, hB, hg, h⟩
  · exact Or.inl h
  · have hlt := lt_of_block hg
    have hk : ∀ j, w'.cell? ⟨g, j, none⟩ = w.cell? ⟨g, j, none⟩ := fun j => World.cell?_of_block (hb.block g hlt)
    exact Or.inr ⟨g, o, cur, t, rfl, hB, (hb.block g hlt).trans hg, fun i hi => by simp only [hk]; exact h i hi⟩

theorem Owned.mono {w : World} {B B' : Nat} {a : Option Addr} {fs : List FileD} (h : Owned w B a fs) (hB : B' ≤ B) : Owned w B' a fs := by
  rcases h with h | ⟨g, o, cur, t, rfl, hB', hg, h⟩
  · exact Or.inl h
  · exact Or.inr ⟨g, o, cur, t, rfl, Nat.le_trans hB hB', hg, h⟩

/-- The text of k, as its digits. -/
def digits : Nat → Nat → List UInt8 → List UInt8
  | 0, _, acc => acc
  | fuel + 1, k, acc => if k = 0 then acc else digits fuel (k / 10) ((48 + UInt8.ofNat (k % 10)) :: acc)
def mt (k : Nat) : ByteArray := ⟨(109 :: digits k k []).toArray⟩

theorem digits_fuel : ∀ (f f' k : Nat) (acc : List UInt8), k ≤ f → k ≤ f' → digits f k acc = digits f' k acc
  | 0, 0, _, _, _, _ => rfl
  | 0, f' + 1, k, acc, h, _ => by have : k = 0 := by omega
                                  subst this; simp [digits]
  | f + 1, 0, k, acc, _, h => by have : k = 0 := by omega
                                 subst this; simp [digits]
  | f + 1, f' + 1, k, acc, h, h' => by
    rw [digits, digits]
    split
    · rfl
    · exact digits_fuel f f' (k / 10) _ (by omega) (by omega)

def markF (k : Nat) (i : Nat) : FileD := ⟨mt (k + 3 * i), mt (k + 3 * i + 1), ((k + 3 * i + 2 : Nat) : Int)⟩
def markL (k n : Nat) : List FileD := (List.range n).map (markF k)
theorem markL_length (k n : Nat) : (markL k n).length = n := by simp [markL]
theorem markL_get (k n i : Nat) (h : i < (markL k n).length) : (markL k n)[i] = markF k i := by simp [markL]

/-- What marking the files of a does. -/
def Marked (w w' : World) (B : Nat) (a : Option Addr) (n : Nat) : Prop :=
  (n = 0 ∧ Below w.heap.size w w') ∨ 0 < n ∧ ∃ g o, a = some ⟨g, o, none⟩ ∧ B ≤ g ∧ But g w w'

theorem Marked.below {w w' : World} {B n : Nat} {a : Option Addr} (h : Marked w w' B a n) (hs : B ≤ w.heap.size) : Below B w w' := by
  rcases h with ⟨_, h⟩ | ⟨_, g, o, _, hB, h⟩
  · exact h.mono hs
  · exact h.below hB hs

theorem Marked.files {w w' : World} {B n b o : Nat} {a : Option Addr} {fs : List FileD} (h : Marked w w' B a n) (hf : FilesIn w (some ⟨b, o, none⟩) fs) (hne : ∀ g' o', a = some ⟨g', o', none⟩ → b ≠ g') : FilesIn w' (some ⟨b, o, none⟩) fs := by
  rcases h with ⟨_, h⟩ | ⟨_, g, o', rfl, _, h⟩
  · exact hf.later h
  · exact hf.but h (hne g o' rfl)

/-- Block g is the row cur, and may be written. -/
def Blk (w : World) (g : Nat) (cur : Array Value) (t : TypeId) : Prop := w.heap[g]? = some (.cells cur t (0, 0))
theorem Blk.set {w : World} {g : Nat} {cur : Array Value} {t : TypeId} (h : Blk w g cur t) (j : Nat) (v : Value) : Blk (w.setCell ⟨g, j, none⟩ v) g (cur.setIfInBounds j v) t := heap_setCell_same w g j cur t v h
theorem Blk.later {w w' : World} {g : Nat} {cur : Array Value} {t : TypeId} (h : Blk w g cur t) (hb : Below w.heap.size w w') : Blk w' g cur t := (hb.block g (lt_of_block h)).trans h
theorem Blk.cell {w : World} {g : Nat} {cur : Array Value} {t : TypeId} (h : Blk w g cur t) (j : Nat) : w.cell? ⟨g, j, none⟩ = cur[j]? := cell_of_row w g j cur t _ h
theorem Blk.free {w : World} {g : Nat} {cur : Array Value} {t : TypeId} (h : Blk w g cur t) (j : Nat) : w.frozen? ⟨g, j, none⟩ = false := frozen_of_row w g j cur t h
theorem Blk.there {w : World} {g : Nat} {cur : Array Value} {t : TypeId} (h : Blk w g cur t) {j : Nat} (hj : j < cur.size) : ∃ v, w.cell? ⟨g, j, none⟩ = some v := ⟨cur[j], by rw [h.cell]; exact Array.getElem?_eq_getElem hj⟩

/-- The cells of file j, from o on. -/
def RowFile (cur : Array Value) (o j : Nat) (f : FileD) : Prop := cur[o + j * 3]? = some (.string f.name) ∧ cur[o + j * 3 + 1]? = some (.string f.data) ∧ cur[o + j * 3 + 2]? = some (.int .i64 f.synced)

theorem RowFile.set {cur : Array Value} {o j : Nat} {f : FileD} (h : RowFile cur o j f) {p : Nat} (hp : p < o + j * 3 ∨ o + j * 3 + 2 < p) (v : Value) : RowFile (cur.setIfInBounds p v) o j f := by
  obtain ⟨a1, a2, a3⟩ := h
  refine ⟨?_, ?_, ?_⟩
  · rw [Array.getElem?_setIfInBounds_ne (by omega)]; exact a1
  · rw [Array.getElem?_setIfInBounds_ne (by omega)]; exact a2
  · rw [Array.getElem?_setIfInBounds_ne (by omega)]; exact a3

theorem RowFile.made (cur : Array Value) (o j : Nat) (f : FileD) (h : o + j * 3 + 2 < cur.size) :
    RowFile (((cur.setIfInBounds (o + j * 3) (.string f.name)).setIfInBounds (o + j * 3 + 1) (.string f.data)).setIfInBounds (o + j * 3 + 2) (.int .i64 f.synced)) o j f := by
  refine ⟨?_, ?_, ?_⟩ <;> simp [Array.getElem?_setIfInBounds] <;> omega

theorem filesAt_of_rows {w : World} {g o : Nat} {cur : Array Value} {t : TypeId} {fs : List FileD} (h : Blk w g cur t) (hr : ∀ j (hj : j < fs.length), RowFile cur o j fs[j]) : FilesAt w g o fs := by
  intro j hj
  simp only [h.cell]
  exact hr j hj

theorem rows_of_filesAt {w : World} {g o : Nat} {cur : Array Value} {t : TypeId} {fs : List FileD} (h : Blk w g cur t) (hf : FilesAt w g o fs) : ∀ j (hj : j < fs.length), RowFile cur o j fs[j] := by
  intro j hj
  have := hf j hj
  simp only [h.cell] at this
  exact this

theorem rows_size {cur : Array Value} {o : Nat} {fs : List FileD} (hr : ∀ j (hj : j < fs.length), RowFile cur o j fs[j]) : fs = [] ∨ o + fs.length * 3 ≤ cur.size := by
  by_cases h : fs.length = 0
  · exact Or.inl (List.length_eq_zero_iff.1 h)
  · right
    have := (hr (fs.length - 1) (by omega)).2.2
    have := (Array.getElem?_eq_some_iff.1 this).1
    omega
end Go.Proofs.YtflfopienjjlbaaGreatDoor

namespace Go.Proofs.YtflfopienjjlbaaGreatDoor
open Go.RowKit

def PowTab (w : World) : Prop := Lib.TabIs Tryz.prog w "internal/strconv.uint64pow10" .u64 Lib.pow10Tab
theorem PowTab.later {w w' : World} (h : PowTab w) (hb : Below w.heap.size w w') : PowTab w' := by
  unfold PowTab Lib.TabIs World.var? at h ⊢
  cases hg : Tryz.prog.globalNamed "internal/strconv.uint64pow10" with
  | none => rw [hg] at h; cases h
  | some g =>
    rw [hg] at h
    simp only [Option.bind_some] at h ⊢
    have hlt : g < w.heap.size := by
      rcases Nat.lt_or_ge g w.heap.size with h' | h'
      · exact h'
      · rw [Array.getElem?_eq_none h'] at h; cases h
    rw [hb.block g hlt]
    exact h

theorem segN_of (n : Nat) (h : n < 1000000) : (⟨#[119, 97, 108, 45]⟩ : ByteArray) ++ (⟨(Lib.itoa ((1000000 + n : Nat) : Int)).toArray⟩ : ByteArray).extract 1 7 = segN n := by
  rw [itoa_seg n h]
  apply ByteArray.ext
  simp [segN, segD]

set_option maxRecDepth 100000 in
set_option maxHeartbeats 1000000 in
theorem implSeg_any (n : Int) (w : World) (htab : PowTab w) :
    Calls Tryz.prog 22 #[.int .i64 n] w fun e w' => e = .returned (.string (segS n)) ∧ Below w.heap.size w w' := by
  by_cases h : 1 ≤ n ∧ n ≤ 999999
  · obtain ⟨N, rfl⟩ := Int.eq_ofNat_of_zero_le (show 0 ≤ n by omega)
    have E : Hid (segS N = segN N) := if_pos h
    have hN0 : 1 ≤ N := by omega
    have hN1 : N ≤ 999999 := by omega
    have HI : Hid (Calls Tryz.prog 51 #[.int .i64 (1000000 + (N : Int))] w fun e w' => e = .returned (.string ⟨(Lib.itoa ((1000000 + N : Nat) : Int)).toArray⟩) ∧ Below w.heap.size w w') :=
      (Tryz.strconv_Itoa ((1000000 + N : Nat) : Int) (by omega) (by omega) w htab).mono (by
        rintro e w' ⟨rfl, k, os, rfl⟩
        exact ⟨rfl, Lib.below_grow _ _ (Nat.le_refl _) _ _⟩)
    have HX : Hid ((⟨#[119, 97, 108, 45]⟩ : ByteArray) ++ (⟨(Lib.itoa ((1000000 + N : Nat) : Int)).toArray⟩ : ByteArray).extract 1 7 = segN N) := segN_of N (by omega)
    have hz : (⟨(Lib.itoa ((1000000 + N : Nat) : Int)).toArray⟩ : ByteArray).size = 7 := by
      rw [itoa_seg N (by omega)]; simp [segD, ByteArray.size]
    generalize (⟨(Lib.itoa ((1000000 + N : Nat) : Int)).toArray⟩ : ByteArray) = X at *
    clear h htab
    go_enter Tryz.func22, Tryz.ntmps22
    go_wp2_with fail
    refine HI.out.mono ?_
    rintro e w1 ⟨rfl, hb1⟩
    have HB : Hid (Below w.heap.size w w1) := hb1
    clear hb1
    go_wp2
    go_ret
    refine ⟨?_, HB.out⟩
    rw [E.out, ← HX.out]
    rfl
  · have E : Hid (segS n = ByteArray.empty) := if_neg h
    by_cases h1 : n < 1
    · go_enter Tryz.func22, Tryz.ntmps22
      go_wp2
      go_ret
      exact ⟨by rw [E.out]; rfl, Below.refl _ _⟩
    · have h2 : 999999 < n := by omega
      clear h
      go_enter Tryz.func22, Tryz.ntmps22
      go_wp2
      go_ret
      exact ⟨by rw [E.out]; rfl, Below.refl _ _⟩
end Go.Proofs.YtflfopienjjlbaaGreatDoor

namespace Go.Proofs.YtflfopienjjlbaaGreatDoor

theorem less_irrefl : ∀ x : List UInt8, Op.bytesLess x x = false
  | [] => rfl
  | a :: x => by simp [Op.bytesLess, less_irrefl x]

theorem less_trans : ∀ x y z : List UInt8, Op.bytesLess x y = true → Op.bytesLess y z = true → Op.bytesLess x z = true
  | _, _, [], _, h => by simp [Op.bytesLess] at h
  | _, [], _ :: _, h, _ => by simp [Op.bytesLess] at h
  | [], _ :: _, _ :: _, _, _ => by simp [Op.bytesLess]
  | a :: x, b :: y, c :: z, h1, h2 => by
    simp only [Op.bytesLess, Bool.or_eq_true, Bool.and_eq_true, decide_eq_true_eq, beq_iff_eq] at h1 h2 ⊢
    rcases h1 with h1 | ⟨rfl, h1⟩
    · rcases h2 with h2 | ⟨rfl, _⟩
      · exact Or.inl (UInt8.lt_trans h1 h2)
      · exact Or.inl h1
    · rcases h2 with h2 | ⟨rfl, h2⟩
      · exact Or.inl h2
      · exact Or.inr ⟨rfl, less_trans x y z h1 h2⟩

theorem less_total : ∀ x y : List UInt8, Op.bytesLess x y = false → x ≠ y → Op.bytesLess y x = true
  | [], [], _, h => absurd rfl h
  | [], _ :: _, h, _ => by simp [Op.bytesLess] at h
  | _ :: _, [], _, _ => by simp [Op.bytesLess]
  | a :: x, b :: y, h, hne => by
    simp only [Op.bytesLess, Bool.or_eq_false_iff, Bool.and_eq_false_iff, decide_eq_false_iff_not, Bool.or_eq_true, Bool.and_eq_true, decide_eq_true_eq, beq_iff_eq] at h ⊢
    obtain ⟨h1, h2⟩ := h
    by_cases e : a = b
    · subst e
      rcases h2 with h2 | h2
      · simp at h2
      · exact Or.inr ⟨rfl, less_total x y h2 (fun e => hne (by rw [e]))⟩
    · left
      rcases UInt8.lt_or_lt_of_ne e with h | h
      · exact absurd h h1
      · exact h

theorem less_asymm {x y : List UInt8} (h : Op.bytesLess x y = true) : Op.bytesLess y x = false := by
  rw [Bool.eq_false_iff]
  intro h'
  have := less_trans x y x h h'
  rw [less_irrefl] at this
  exact absurd this (by simp)

theorem toList_inj {x y : ByteArray} (h : x.toList = y.toList) : x = y := by
  have h' : x.data.toList = y.data.toList := by rw [← ByteArray.toList_eq x, ← ByteArray.toList_eq y]; exact h
  cases x; cases y
  simp only [ByteArray.mk.injEq]
  exact Array.toList_inj.1 h'
end Go.Proofs.YtflfopienjjlbaaGreatDoor

namespace Go.Proofs.YtflfopienjjlbaaGreatDoor
open Go.RowKit

theorem var_later {w w' : World} {nm : String} {a : Array Value} (h : w.var? Tryz.prog nm = some a) (hb : Below w.heap.size w w') : w'.var? Tryz.prog nm = some a := by
  unfold World.var? at h ⊢
  cases hg : Tryz.prog.globalNamed nm with
  | none => rw [hg] at h; cases h
  | some g =>
    rw [hg] at h
    simp only [Option.bind_some] at h ⊢
    have hlt : g < w.heap.size := by
      rcases Nat.lt_or_ge g w.heap.size with h' | h'
      · exact h'
      · rw [Array.getElem?_eq_none h'] at h; cases h
    rw [hb.block g hlt]
    exact h
/-- The two errors of strconv's are there. -/
structure ErrTab (w : World) : Prop where
  syn : ∃ t p, w.var? Tryz.prog "strconv.ErrSyntax" = some #[.iface t p]
  rng : ∃ t p, w.var? Tryz.prog "strconv.ErrRange" = some #[.iface t p]
theorem ErrTab.later {w w' : World} (h : ErrTab w) (hb : Below w.heap.size w w') : ErrTab w' := by
  obtain ⟨⟨t, p, h1⟩, ⟨t', p', h2⟩⟩ := h
  exact ⟨⟨t, p, var_later h1 hb⟩, ⟨t', p', var_later h2 hb⟩⟩

theorem atoi_any (s : ByteArray) (hs : s.size ≤ 1000000000) (w : World) (he : ErrTab w) :
    (∃ v, Lib.atoiAll s.data.toList = .ok v ∧ Calls Tryz.prog 106 #[.string s] w fun e w' => e = .returned (.tuple #[.int .i64 v, .nilIface]) ∧ Below w.heap.size w w') ∨
    ((∀ v, Lib.atoiAll s.data.toList ≠ .ok v) ∧ Calls Tryz.prog 106 #[.string s] w fun e w' => ∃ (n : Int) (t : TypeId) (p : Value), e = .returned (.tuple #[.int .i64 n, .iface t p]) ∧ Below w.heap.size w w') := by
  obtain ⟨⟨t, p, h1⟩, ⟨t', p', h2⟩⟩ := he
  rcases h : Lib.atoiAll s.data.toList with v | _ | _
  · skip
    refine Or.inl ⟨v, rfl, (Tryz.strconv_Atoi_ok s (by omega) v h w).mono ?_⟩
    rintro e w' ⟨rfl, rfl | ⟨t, rfl⟩⟩
    · exact ⟨rfl, Below.refl _ _⟩
    · exact ⟨rfl, Joins.below_bytesWorld _ _ _ _ (Nat.le_refl _)⟩
  · skip
    refine Or.inr ⟨nofun, (Tryz.strconv_Atoi_syntax_var s (by omega) h t p w h1).mono ?_⟩
    rintro e w' ⟨N, rfl, _, _, hb⟩
    exact ⟨_, _, _, rfl, hb⟩
  · skip
    refine Or.inr ⟨nofun, (Tryz.strconv_Atoi_range_var s (by omega) h t' p' w h2).mono ?_⟩
    rintro e w' ⟨N, rfl, _, _, hb⟩
    exact ⟨_, _, _, rfl, hb⟩

set_option maxRecDepth 100000 in
set_option maxHeartbeats 1000000 in
theorem implSegOf_any (s : ByteArray) (w : World) (hs : s.size ≤ 1000000000) (htab : PowTab w) (he : ErrTab w) :
    Calls Tryz.prog 91 #[.string s] w fun e w' => ∃ (n : Int) (b : Bool), e = .returned (.tuple #[.int .i64 n, .bool b]) ∧ b = decide (0 < segOf s) ∧ (b = true → n = segOf s) ∧ Below w.heap.size w w' := by
  have HT : Hid (PowTab w) := htab
  have hz : (⟨(Lib.trimPrefix s.data.toList [119, 97, 108, 45]).toArray⟩ : ByteArray).size ≤ 1000000000 := by
    have h1 : (Lib.trimPrefix s.data.toList [119, 97, 108, 45]).length ≤ s.data.toList.length := by
      unfold Lib.trimPrefix
      split <;> simp
    have h2 : s.data.toList.length = s.size := rfl
    show (Lib.trimPrefix s.data.toList [119, 97, 108, 45]).toArray.size ≤ _
    rw [List.size_toArray]
    omega
  have HA := atoi_any (⟨(Lib.trimPrefix s.data.toList [119, 97, 108, 45]).toArray⟩ : ByteArray) hz w he
  clear htab he
  rcases HA with ⟨v, hv, hc⟩ | ⟨hv, hc⟩
  · have HV : Hid (Lib.atoiAll (Lib.trimPrefix s.data.toList [119, 97, 108, 45]) = .ok v) := by show _ = _; simpa using hv
    have HC : Hid (Calls Tryz.prog 106 #[.string (⟨(Lib.trimPrefix s.data.toList [119, 97, 108, 45]).toArray⟩ : ByteArray)] w fun e w' => e = .returned (.tuple #[.int .i64 v, .nilIface]) ∧ Below w.heap.size w w') := hc
    have HE : Hid (segS v = s ↔ 0 < segOf s) := by
      constructor
      · intro e
        unfold segS at e
        split at e
        · rename_i h
          rw [← e, segOf_segN (by omega)]
          omega
        · rw [← e] at HV
          have := HV.out
          simp [Lib.trimPrefix, Lib.hasPrefix, Lib.atoiAll] at this
      · intro h
        obtain ⟨e, hlt⟩ := segOf_pos h
        have h1 := HV.out
        rw [e, atoi_segN hlt] at h1
        injection h1 with h1
        rw [segS, if_pos (by omega), ← h1, Int.toNat_natCast]
        exact e.symm
    have HE2 : Hid (0 < segOf s → v = segOf s) := fun h => by
      obtain ⟨e, hlt⟩ := segOf_pos h
      have h1 := HV.out
      rw [e, atoi_segN hlt] at h1
      injection h1 with h1
      exact h1.symm
    clear hv hc hz
    go_enter Tryz.func91, Tryz.ntmps91
    go_wp2_with fail
    refine (Tryz.strings_TrimPrefix s ⟨#[119, 97, 108, 45]⟩ w).mono ?_
    rintro e w1 ⟨rfl, rfl⟩
    go_wp2_with fail
    refine HC.out.mono ?_
    rintro e w2 ⟨rfl, hb2⟩
    have HB2 : Hid (Below w1.heap.size w1 w2) := hb2
    clear hb2
    go_wp2_with fail
    refine (implSeg_any v w2 (HT.out.later HB2.out)).mono ?_
    rintro e w3 ⟨rfl, hb3⟩
    have HB3 : Hid (Below w1.heap.size w1 w3) := bto HB2.out hb3
    clear hb3
    by_cases hq : segS v = s
    · have hqb : ((segS v).toList == s.toList) = true := by rw [hq]; simp
      have h0 : Hid (0 < segOf s) := HE.out.1 hq
      clear hq
      go_wp2
      go_ret2
      exact ⟨_, _, rfl, (decide_eq_true h0.out).symm, fun _ => HE2.out h0.out, HB3.out⟩
    · have hqb : ((segS v).toList == s.toList) = false := by
        rw [← Bool.not_eq_true]
        intro h
        exact hq (toList_inj (by simpa using h))
      have h0 : Hid (¬ 0 < segOf s) := fun h => hq (HE.out.2 h)
      clear hq
      go_wp2
      go_ret2
      exact ⟨_, _, rfl, (decide_eq_false h0.out).symm, nofun, HB3.out⟩
  · have HC : Hid (Calls Tryz.prog 106 #[.string (⟨(Lib.trimPrefix s.data.toList [119, 97, 108, 45]).toArray⟩ : ByteArray)] w fun e w' => ∃ (n : Int) (t : TypeId) (p : Value), e = .returned (.tuple #[.int .i64 n, .iface t p]) ∧ Below w.heap.size w w') := hc
    have h0 : Hid (¬ 0 < segOf s) := fun h => by
      obtain ⟨e, hlt⟩ := segOf_pos h
      refine hv (segOf s : Nat) ?_
      have h1 := atoi_segN hlt
      rw [← e] at h1
      simpa using h1
    clear hv hc hz
    go_enter Tryz.func91, Tryz.ntmps91
    go_wp2_with fail
    refine (Tryz.strings_TrimPrefix s ⟨#[119, 97, 108, 45]⟩ w).mono ?_
    rintro e w1 ⟨rfl, rfl⟩
    go_wp2_with fail
    refine HC.out.mono ?_
    rintro e w2 ⟨n, t, p, rfl, hb2⟩
    have HB2 : Hid (Below w1.heap.size w1 w2) := hb2
    clear hb2
    go_wp2
    go_ret2
    exact ⟨_, _, rfl, (decide_eq_false h0.out).symm, nofun, HB2.out⟩
end Go.Proofs.YtflfopienjjlbaaGreatDoor

namespace Go.Proofs.YtflfopienjjlbaaGreatDoor
open Go.RowKit

def btwB (x lo hi : Int) : Bool := decide (lo ≤ x) && decide (x ≤ hi)

theorem between_any (x lo hi : Int) (w : World) : Calls Tryz.prog 55 #[.int .i64 x, .int .i64 lo, .int .i64 hi] w fun e w' => e = .returned (.bool (btwB x lo hi)) ∧ w' = w := by
  by_cases h1 : lo ≤ x
  · by_cases h2 : x ≤ hi
    · have e : btwB x lo hi = true := by simp [btwB, h1, h2]
      rw [e]
      go_enter Tryz.func55, Tryz.ntmps55
      go_wp2
      go_ret
      exact ⟨rfl, rfl⟩
    · have e : btwB x lo hi = false := by simp [btwB, h2]
      rw [e]
      go_enter Tryz.func55, Tryz.ntmps55
      go_wp2
      go_ret
      exact ⟨rfl, rfl⟩
  · have e : btwB x lo hi = false := by simp [btwB, h1]
    rw [e]
    go_enter Tryz.func55, Tryz.ntmps55
    go_wp2
    go_ret
    exact ⟨rfl, rfl⟩

theorem take_snoc (s : ByteArray) (k : Nat) (h : k < s.size) : s.data.toList.take (k + 1) = s.data.toList.take k ++ [s[k]] := by
  rw [List.take_succ_eq_append_getElem (by simpa using h)]; rfl

end Go.Proofs.YtflfopienjjlbaaGreatDoor

namespace Go.Proofs.YtflfopienjjlbaaGreatDoor
open Go.RowKit

def okM (marks : List UInt8) (c : UInt8) : Bool := (97 ≤ c && c ≤ 122) || (48 ≤ c && c ≤ 57) || decide (0 ≤ Lib.indexByte marks c)
def plainB (s : ByteArray) (most : Int) (marks : ByteArray) : Bool := decide (1 ≤ s.size) && decide ((s.size : Int) ≤ most) && s.data.toList.all (okM marks.data.toList)
theorem index_any (mk : ByteArray) (c : UInt8) (w : World) : Calls Tryz.prog 108 #[.string mk, .int .u8 (c.toNat : Int)] w fun e w' => e = .returned (.int .i64 (Lib.indexByte mk.data.toList c)) ∧ w' = w := by
  have := Tryz.strings_IndexByte mk (c.toNat : Int) w
  simpa using this
theorem all_take_succ {s : ByteArray} {f : UInt8 → Bool} {k : Nat} (h : k < s.size) : (s.data.toList.take (k + 1)).all f = ((s.data.toList.take k).all f && f s[k]) := by
  rw [take_snoc s k h]; simp
theorem all_not {l : List UInt8} {f : UInt8 → Bool} {k : Nat} (h : (l.take k).all f = false) : l.all f = false := by
  rw [Bool.eq_false_iff] at h ⊢
  intro h'
  apply h
  simp only [List.all_eq_true] at h' ⊢
  exact fun x hx => h' x (List.mem_of_mem_take hx)
theorem letter_eq (c : UInt8) : (97 ≤ c && c ≤ 122) = decide (97 ≤ (c.toNat : Int) ∧ (c.toNat : Int) ≤ 122) := by rw [Bool.eq_iff_iff]; simp [UInt8.le_iff_toNat_le]; omega
theorem digit_eq (c : UInt8) : (48 ≤ c && c ≤ 57) = decide (48 ≤ (c.toNat : Int) ∧ (c.toNat : Int) ≤ 57) := by rw [Bool.eq_iff_iff]; simp [UInt8.le_iff_toNat_le]; omega

set_option maxRecDepth 100000 in
set_option maxHeartbeats 2000000 in
theorem isPlain_any (s : ByteArray) (most : Int) (mk : ByteArray) (w : World) (hs : s.size ≤ maxLen) :
    Calls Tryz.prog 96 #[.string s, .int .i64 most, .string mk] w fun e w' => e = .returned (.bool (plainB s most mk)) ∧ w' = w := by
  unfold maxLen at hs
  by_cases h0 : (s.size : Int) < 1
  · have HN : Hid (plainB s most mk = false) := by show _ = _; simp [plainB]; omega
    go_enter Tryz.func96, Tryz.ntmps96
    go_wp2
    go_ret
    exact ⟨ret_bool HN.out.symm, rfl⟩
  by_cases h1 : most < (s.size : Int)
  · have HN : Hid (plainB s most mk = false) := by
      show _ = _
      have : decide ((s.size : Int) ≤ most) = false := by simp; omega
      simp [plainB, this]
    go_enter Tryz.func96, Tryz.ntmps96
    go_wp2
    go_ret
    exact ⟨ret_bool HN.out.symm, rfl⟩
  have HN : Hid (plainB s most mk = s.data.toList.all (okM mk.data.toList)) := by
    show _ = _
    have e1 : 1 ≤ s.size := by omega
    have e2 : (s.size : Int) ≤ most := by omega
    simp [plainB, e1, e2]
  go_enter Tryz.func96, Tryz.ntmps96
  go_wp2
  go_loop [7, 8, 20] (fun _ _ i => ∃ k : Nat, k ≤ s.size ∧ i = .int .i64 k ∧ (s.data.toList.take k).all (okM mk.data.toList) = true) (fun _ _ i => s.size - (intOf i).toNat)
  case atStart => exact ⟨0, Nat.zero_le _, rfl, by simp⟩
  case round =>
    obtain ⟨k, hk, rfl, hok⟩ := hrel
    have HOK : Hid ((s.data.toList.take k).all (okM mk.data.toList) = true) := hok
    clear hok
    by_cases hlt : k < s.size
    · have hsn := all_take_succ (f := okM mk.data.toList) hlt
      rw [HOK.out, Bool.true_and, okM, letter_eq, digit_eq] at hsn
      have HS : Hid ((s.data.toList.take (k + 1)).all (okM mk.data.toList) = (decide (97 ≤ (s[k].toNat : Int) ∧ (s[k].toNat : Int) ≤ 122) || decide (48 ≤ (s[k].toNat : Int) ∧ (s[k].toNat : Int) ≤ 57) || decide (0 ≤ Lib.indexByte mk.data.toList s[k]))) := hsn
      clear hsn
      have HX := fun W => index_any mk s[k] W
      generalize Lib.indexByte mk.data.toList s[k] = ix at *
      have HXX : Hid (∀ W, Calls Tryz.prog 108 #[.string mk, .int .u8 (s[k].toNat : Int)] W fun e w' => e = .returned (.int .i64 ix) ∧ w' = W) := HX
      clear HX
      go_wp2_with (go_at_call 108; refine (HXX.out _).mono ?_; rintro e w' ⟨rfl, rfl⟩)
      all_goals first
        | (go_ret
           refine ⟨ret_bool ?_, rfl⟩
           rw [HN.out]
           refine (all_not (k := k + 1) ?_).symm
           rw [HS.out]
           simp at *
           omega)
        | (refine ⟨⟨k + 1, by omega, by go_num, ?_⟩, by simp [intOf]; omega⟩
           rw [HS.out]
           simp at *
           omega)
    · go_wp2
      go_ret
      exact ⟨ret_bool (by rw [HN.out, ← HOK.out, List.take_of_length_le (by simp; omega)]), rfl⟩
end Go.Proofs.YtflfopienjjlbaaGreatDoor

namespace Go.Proofs.YtflfopienjjlbaaGreatDoor
open Go.RowKit

theorem within_any (x hi : Int) (w : World) : Calls Tryz.prog 62 #[.int .i64 x, .int .i64 hi] w fun e w' => e = .returned (.bool (btwB x 0 hi)) ∧ w' = w := by
  by_cases h1 : 0 ≤ x
  · by_cases h2 : x ≤ hi
    · have e : btwB x 0 hi = true := by simp [btwB, h1, h2]
      rw [e]
      go_enter Tryz.func62, Tryz.ntmps62
      go_wp2
      go_ret
      exact ⟨rfl, rfl⟩
    · have e : btwB x 0 hi = false := by simp [btwB, h2]
      rw [e]
      go_enter Tryz.func62, Tryz.ntmps62
      go_wp2
      go_ret
      exact ⟨rfl, rfl⟩
  · have e : btwB x 0 hi = false := by simp [btwB, h1]
    rw [e]
    go_enter Tryz.func62, Tryz.ntmps62
    go_wp2
    go_ret
    exact ⟨rfl, rfl⟩

def okByte (c : UInt8) : Bool := (97 ≤ c && c ≤ 122) || (48 ≤ c && c ≤ 57) || c == 45 || c == 46
def okBytes (l : List UInt8) : Bool := l.all okByte
def nameB (s : ByteArray) : Bool := decide (1 ≤ s.size) && decide (s.size ≤ 40) && okBytes s.data.toList

theorem okBytes_snoc (l : List UInt8) (c : UInt8) : okBytes (l ++ [c]) = (okBytes l && okByte c) := by simp [okBytes]
theorem okBytes_not {l : List UInt8} {k : Nat} (h : okBytes (l.take k) = false) : okBytes l = false := by
  rw [Bool.eq_false_iff] at h ⊢
  intro h'
  apply h
  simp only [okBytes, List.all_eq_true] at h' ⊢
  intro x hx
  exact h' x (List.mem_of_mem_take hx)

theorem okByte_eq (c : UInt8) : okByte c = decide ((97 ≤ (c.toNat : Int) ∧ (c.toNat : Int) ≤ 122) ∨ (48 ≤ (c.toNat : Int) ∧ (c.toNat : Int) ≤ 57) ∨ (c.toNat : Int) = 45 ∨ (c.toNat : Int) = 46) := by
  have e45 : (c == 45) = decide (c.toNat = 45) := by rw [Bool.eq_iff_iff]; simp [← UInt8.toNat_inj]
  have e46 : (c == 46) = decide (c.toNat = 46) := by rw [Bool.eq_iff_iff]; simp [← UInt8.toNat_inj]
  rw [Bool.eq_iff_iff]
  simp [okByte, e45, e46, UInt8.le_iff_toNat_le]
  omega

set_option maxHeartbeats 1000000 in
theorem l1FileName_any (s : ByteArray) (w : World) (hs : s.size ≤ maxLen) :
    Calls Tryz.prog 57 #[.string s] w fun e w' => e = .returned (.bool (nameB s)) ∧ w' = w := by
  unfold maxLen at hs
  by_cases h1 : 1 ≤ s.size ∧ s.size ≤ 40
  · have hB : btwB (s.size : Int) 1 40 = true := by unfold btwB; simp; omega
    have HN : Hid (nameB s = okBytes s.data.toList) := by show nameB s = _; simp [nameB, h1.1, h1.2]
    have hl := h1.1
    have hu := h1.2
    clear h1
    go_enter Tryz.func57, Tryz.ntmps57
    go_wp2_with (go_at_call 55; refine (between_any _ _ _ _).mono ?_; rintro e w' ⟨rfl, rfl⟩)
    go_loop [3, 4] (fun i _ => ∃ k : Nat, k ≤ s.size ∧ i = .int .i64 k ∧ okBytes (s.data.toList.take k) = true) (fun i _ => s.size - (intOf i).toNat)
    case atStart => exact ⟨0, Nat.zero_le _, rfl, by simp [okBytes]⟩
    case round =>
      obtain ⟨k, hk, rfl, hok⟩ := hrel
      have HOK : Hid (okBytes (s.data.toList.take k) = true) := hok
      clear hok hB
      by_cases hlt : k < s.size
      · have hsn := okBytes_snoc (s.data.toList.take k) s[k]
        rw [← take_snoc s k hlt, HOK.out, Bool.true_and, okByte_eq] at hsn
        have HS : Hid (okBytes (s.data.toList.take (k + 1)) = decide ((97 ≤ (s[k].toNat : Int) ∧ (s[k].toNat : Int) ≤ 122) ∨ (48 ≤ (s[k].toNat : Int) ∧ (s[k].toNat : Int) ≤ 57) ∨ (s[k].toNat : Int) = 45 ∨ (s[k].toNat : Int) = 46)) := hsn
        clear hsn
        go_wp2
        all_goals first
          | (go_ret
             refine ⟨ret_bool ?_, rfl⟩
             rw [HN.out]
             refine (okBytes_not (k := k + 1) ?_).symm
             rw [HS.out, decide_eq_false_iff_not]
             simp at *
             omega)
          | (refine ⟨⟨k + 1, by omega, by go_num, ?_⟩, by simp [intOf]; omega⟩
             rw [HS.out, decide_eq_true_iff]
             simp at *
             omega)
      · go_wp2
        go_ret
        exact ⟨ret_bool (by rw [HN.out, ← HOK.out, List.take_of_length_le (by simp; omega)]), rfl⟩
  · have hB : btwB (s.size : Int) 1 40 = false := by unfold btwB; simp; omega
    have HN : Hid (nameB s = false) := by show nameB s = _; simp [nameB]; omega
    go_enter Tryz.func57, Tryz.ntmps57
    go_wp2_with (go_at_call 55; refine (between_any _ _ _ _).mono ?_; rintro e w' ⟨rfl, rfl⟩)
    go_ret
    exact ⟨ret_bool HN.out.symm, rfl⟩

theorem okByte_plain (c : UInt8) : okM [45, 46] c = okByte c := by
  have e : decide (0 ≤ Lib.indexByte [45, 46] c) = (c == 45 || c == 46) := by
    by_cases h : c = 45
    · subst h; rfl
    · by_cases h' : c = 46
      · subst h'; rfl
      · have h1 : ((45 : UInt8) == c) = false := by simpa using fun e => h e.symm
        have h2 : (c == 45) = false := by simpa using h
        have h3 : ((46 : UInt8) == c) = false := by simpa using fun e => h' e.symm
        have h4 : (c == 46) = false := by simpa using h'
        simp [Lib.indexByte, h1, h2, h3, h4]
  rw [okM, okByte, e, Bool.or_assoc (_ || _)]
theorem name_plain (s : ByteArray) : plainB s 40 ⟨#[45, 46]⟩ = nameB s := by
  have e : okM [45, 46] = okByte := funext okByte_plain
  rw [plainB, nameB, okBytes, e]
  congr 2
  rw [Bool.eq_iff_iff]; simp; omega
set_option maxRecDepth 100000 in
set_option maxHeartbeats 1000000 in
theorem isFileName_any (s : ByteArray) (w : World) (hs : s.size ≤ maxLen) :
    Calls Tryz.prog 76 #[.string s] w fun e w' => e = .returned (.bool (nameB s)) ∧ w' = w := by
  have H : Hid (∀ W, Calls Tryz.prog 96 #[.string s, .int .i64 40, .string ⟨#[45, 46]⟩] W fun e w' => e = .returned (.bool (nameB s)) ∧ w' = W) := fun W => name_plain s ▸ isPlain_any s 40 ⟨#[45, 46]⟩ W hs
  generalize nameB s = R at *
  go_enter Tryz.func76, Tryz.ntmps76
  go_wp2_with fail
  refine (H.out _).mono ?_
  rintro e w' ⟨rfl, hw⟩
  replace hw := hw.symm
  subst hw
  go_wp2
  go_ret
  exact ⟨rfl, rfl⟩

def fileB (f : FileD) : Bool := nameB f.name && btwB f.synced 0 f.data.size

set_option maxHeartbeats 1000000 in
theorem valid_any (b o : Nat) (f : FileD) (w : World) (c0 : w.cell? ⟨b, o, none⟩ = some (.string f.name)) (c1 : w.cell? ⟨b, o + 1, none⟩ = some (.string f.data)) (c2 : w.cell? ⟨b, o + 2, none⟩ = some (.int .i64 f.synced))
    (hn : f.name.size ≤ maxLen) :
    Calls Tryz.prog 90 #[.pointer (some ⟨b, o, none⟩)] w fun e w' => e = .returned (.bool (fileB f)) ∧ Below w.heap.size w w' := by
  have d0 := Later.cells c0
  have d1 := Later.cells c1
  have d2 := Later.cells c2
  have hne := Later.there w
  have hA := fun w' => isFileName_any f.name w' hn
  clear c0 c1 c2 hn
  by_cases h1 : nameB f.name = true
  · simp only [h1] at hA
    have hB := fun w' => within_any f.synced f.data.size w'
    have E : Hid (fileB f = btwB f.synced 0 f.data.size) := by show fileB f = _; simp [fileB, h1]
    clear h1
    go_enter Tryz.func90, Tryz.ntmps90
    go_wp2_with fail
    refine wp_region_later (by kernel_rfl) (by kernel_rfl) ?_
    repeat (go_big_quiet_step (first | (go_at_call 76; exact calls_later_same (hA _)) | (go_at_call 62; exact calls_later_same (hB _))))
    refine wpQuiet_nil ?_
    rintro _ ⟨x, rfl⟩
    go_wp2
    go_ret
    exact ⟨ret_bool E.out.symm, x.h⟩
  · have h1' : nameB f.name = false := by simpa using h1
    simp only [h1'] at hA
    have E : Hid (fileB f = false) := by show fileB f = _; simp [fileB, h1']
    clear h1 h1'
    go_enter Tryz.func90, Tryz.ntmps90
    go_wp2_with fail
    refine wp_region_later (by kernel_rfl) (by kernel_rfl) ?_
    repeat (go_big_quiet_step (first | (go_at_call 76; exact calls_later_same (hA _))))
    refine wpQuiet_nil ?_
    rintro _ ⟨x, rfl⟩
    go_wp2
    go_ret
    exact ⟨ret_bool E.out.symm, x.h⟩
end Go.Proofs.YtflfopienjjlbaaGreatDoor

