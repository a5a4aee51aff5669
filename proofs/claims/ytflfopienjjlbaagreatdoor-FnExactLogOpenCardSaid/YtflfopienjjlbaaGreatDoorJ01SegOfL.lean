import Derived.WalkKit
import Derived.Below
import Derived.BigQuiet
import Derived.WalkLawsBesides
import Derived.WalkSpells
import Derived.Lib.ItoaNum
import Derived.Lib.AtoiAll
import Derived.Lib.Strings
namespace Go.Proofs.YtflfopienjjlbaaGreatDoor
open Go.RowKit

structure FileD where
  name : ByteArray
  data : ByteArray
  synced : Int

/-- The files fs lie from ⟨b, o⟩ on, three cells each. -/
def FilesAt (w : World) (b o : Nat) (fs : List FileD) : Prop :=
  ∀ i (h : i < fs.length), w.cell? ⟨b, o + i * 3, none⟩ = some (.string fs[i].name) ∧
    w.cell? ⟨b, o + i * 3 + 1, none⟩ = some (.string fs[i].data) ∧ w.cell? ⟨b, o + i * 3 + 2, none⟩ = some (.int .i64 fs[i].synced)

theorem bcell {B : Nat} {W w1 : World} (hb : Below B W w1) : (∀ b o, b < B → w1.cell? ⟨b, o, none⟩ = W.cell? ⟨b, o, none⟩) ∧ (∀ b o, b < B → w1.frozen? ⟨b, o, none⟩ = W.frozen? ⟨b, o, none⟩) :=
  ⟨fun b o h => hb.cell (p := ⟨b, o, none⟩) h, fun b o h => hb.frozen (p := ⟨b, o, none⟩) h⟩

theorem ret_int {k : IntKind} {a b : Int} (h : a = b) : Ending.returned (.int k a) = .returned (.int k b) := by rw [h]
theorem ret_bool {a b : Bool} (h : a = b) : Ending.returned (.bool a) = .returned (.bool b) := by rw [h]

/-- A world in which all that lay in w lies as it did. -/
structure Later (w : World) where
  w' : World
  h : Below w.heap.size w w'

theorem Later.there (w : World) : Nonempty (Later w) := ⟨⟨w, Below.refl _ _⟩⟩

theorem Later.cell {w : World} (x : Later w) {b o : Nat} {v : Value} (h : w.cell? ⟨b, o, none⟩ = some v) : x.w'.cell? ⟨b, o, none⟩ = some v := by
  have hb : b < w.heap.size := by
    rcases Nat.lt_or_ge b w.heap.size with hlt | hge
    · exact hlt
    · simp [World.cell?, Array.getElem?_eq_none hge] at h
  rw [← h]; exact x.h.cell hb

theorem Later.cells {w : World} {b o : Nat} {v : Value} (h : w.cell? ⟨b, o, none⟩ = some v) : ∀ x : Later w, x.w'.cell? ⟨b, o, none⟩ = some v := fun x => x.cell h

/-- A region that draws its order, whose operations read what lay in w and whose callees turn nothing of it. -/
theorem wp_region_later {P : Program} {id : Nat} {Q : Exit → Act → World → Prop} {a : Act} {w : World} {l : List Oper} (hm : P.follows .mixedOrders = true) (hB : Region.lexB .any l.toArray = true)
    (h : wpQuiet P l.toArray (fun w' => ∃ x : Later w, w' = x.w') (fun a' => ∀ w', (∃ x : Later w, w' = x.w') → Q .normal a' w') l a) : (Code.region id l.toArray true).wp P Q a w :=
  wp_region_quiet (C := fun w' => ∃ x : Later w, w' = x.w') hm hB ⟨⟨w.drew, (Below.refl _ _).drew⟩, rfl⟩ (by simpa using h)

theorem calls_later {P : Program} {f : FuncId} {args : Array Value} {w : World} {x : Later w} {v : Value}
    (h : Calls P f args x.w' fun e w'' => e = .returned v ∧ Below x.w'.heap.size x.w' w'') : Calls P f args x.w' fun e w'' => e = .returned v ∧ ∃ y : Later w, w'' = y.w' :=
  h.mono fun _ w'' ⟨he, hb⟩ => ⟨he, ⟨w'', x.h.trans (hb.mono x.h.size)⟩, rfl⟩

theorem calls_later_same {P : Program} {f : FuncId} {args : Array Value} {w : World} {x : Later w} {v : Value}
    (h : Calls P f args x.w' fun e w'' => e = .returned v ∧ w'' = x.w') : Calls P f args x.w' fun e w'' => e = .returned v ∧ ∃ y : Later w, w'' = y.w' :=
  h.mono fun _ _ ⟨he, hb⟩ => ⟨he, x, hb⟩

def szF (left : Int) (f : FileD) : Int := if (f.name.size + f.data.size : Int) ≤ left then left - f.name.size - f.data.size else -1

/-- A slice's address holds the files fs (nothing is asked where there are none). -/
def FilesIn (w : World) (a : Option Addr) (fs : List FileD) : Prop := fs = [] ∨ ∃ b o, a = some ⟨b, o, none⟩ ∧ b < w.heap.size ∧ FilesAt w b o fs

theorem FilesIn.later {w w' : World} {a : Option Addr} {fs : List FileD} (h : FilesIn w a fs) (hb : Below w.heap.size w w') : FilesIn w' a fs := by
  rcases h with h | ⟨b, o, rfl, hlt, h⟩
  · exact Or.inl h
  · refine Or.inr ⟨b, o, rfl, Nat.lt_of_lt_of_le hlt hb.size, fun i hi => ?_⟩
    obtain ⟨h1, h2, h3⟩ := h i hi
    exact ⟨by rw [← h1]; exact hb.cell hlt, by rw [← h2]; exact hb.cell hlt, by rw [← h3]; exact hb.cell hlt⟩

theorem FilesIn.at {w : World} {a : Option Addr} {fs : List FileD} (h : FilesIn w a fs) {i : Nat} (hi : i < fs.length) :
    ∃ b o, a = some ⟨b, o, none⟩ ∧ b < w.heap.size ∧ w.cell? ⟨b, o + i * 3, none⟩ = some (.string fs[i].name) ∧
      w.cell? ⟨b, o + i * 3 + 1, none⟩ = some (.string fs[i].data) ∧ w.cell? ⟨b, o + i * 3 + 2, none⟩ = some (.int .i64 fs[i].synced) := by
  rcases h with rfl | ⟨b, o, rfl, hlt, h⟩
  · exact absurd hi (by simp)
  · exact ⟨b, o, rfl, hlt, h i hi⟩

theorem FilesIn.setCell {w : World} {g o : Nat} {fs : List FileD} (h : FilesIn w (some ⟨g, o, none⟩) fs) {p : Addr} (hp : p.block ≠ g) (v : Value) : FilesIn (w.setCell p v) (some ⟨g, o, none⟩) fs := by
  rcases h with h | ⟨b, o', e, hlt, h⟩
  · exact Or.inl h
  · simp only [Option.some.injEq, Addr.mk.injEq, and_true] at e
    obtain ⟨rfl, rfl⟩ := e
    have hk : ∀ j, (w.setCell p v).cell? ⟨g, j, none⟩ = w.cell? ⟨g, j, none⟩ := fun j => World.cell?_of_block (Below.heap_setCell w p v g (Ne.symm hp))
    refine Or.inr ⟨g, o, rfl, by simpa [World.setCell] using hlt, fun i hi => ?_⟩
    simp only [hk]
    exact h i hi

def bulk : List FileD → Nat
  | [] => 0
  | f :: r => f.name.size + f.data.size + bulk r

theorem bulk_append (a b : List FileD) : bulk (a ++ b) = bulk a + bulk b := by
  induction a with
  | nil => simp [bulk]
  | cons f r ih => simp [bulk, ih]; omega

theorem bulk_take_succ (fs : List FileD) (k : Nat) (h : k < fs.length) : bulk (fs.take (k + 1)) = bulk (fs.take k) + (fs[k].name.size + fs[k].data.size) := by
  rw [List.take_succ_eq_append_getElem h, bulk_append]; simp [bulk]

theorem bulk_take_le (fs : List FileD) (k : Nat) : bulk (fs.take k) ≤ bulk fs := by
  have := bulk_append (fs.take k) (fs.drop k)
  rw [List.take_append_drop] at this; omega

def sumLen : List FileD → Nat
  | [] => 0
  | f :: r => f.data.size + sumLen r

theorem sumLen_append (a b : List FileD) : sumLen (a ++ b) = sumLen a + sumLen b := by
  induction a with
  | nil => simp [sumLen]
  | cons f r ih => simp [sumLen, ih]; omega

theorem sumLen_take_succ (fs : List FileD) (k : Nat) (h : k < fs.length) : sumLen (fs.take (k + 1)) = sumLen (fs.take k) + fs[k].data.size := by
  rw [List.take_succ_eq_append_getElem h, sumLen_append]; simp [sumLen]

theorem sumLen_take_le (fs : List FileD) (k : Nat) : sumLen (fs.take k) ≤ sumLen fs := by
  have := sumLen_append (fs.take k) (fs.drop k)
  rw [List.take_append_drop] at this; omega

theorem sumLen_le_bulk (fs : List FileD) : sumLen fs ≤ bulk fs := by
  induction fs with
  | nil => exact Nat.le_refl _
  | cons f r ih => simp [sumLen, bulk]; omega

def szFs (left : Int) (fs : List FileD) : Int := if (fs.length + bulk fs : Int) ≤ left then left - fs.length - bulk fs else -1
def Short (fs : List FileD) : Prop := ∀ i (h : i < fs.length), fs[i].name.size ≤ maxLen ∧ fs[i].data.size ≤ maxLen

/-- The six cells of a disk lie at the head of block b. -/
def BoxAt (w : World) (b : Nat) (v0 v1 v2 v3 v4 v5 : Value) : Prop :=
  w.cell? ⟨b, 0, none⟩ = some v0 ∧ w.cell? ⟨b, 1, none⟩ = some v1 ∧ w.cell? ⟨b, 2, none⟩ = some v2 ∧ w.cell? ⟨b, 3, none⟩ = some v3 ∧ w.cell? ⟨b, 4, none⟩ = some v4 ∧ w.cell? ⟨b, 5, none⟩ = some v5

theorem BoxAt.new (w : World) (v0 v1 v2 v3 v4 v5 : Value) (t : TypeId) : BoxAt (w.alloc (.cells #[v0, v1, v2, v3, v4, v5] t)) w.heap.size v0 v1 v2 v3 v4 v5 := by
  simp [BoxAt, go_sem]

theorem BoxAt.lt {w : World} {b : Nat} {v0 v1 v2 v3 v4 v5 : Value} (h : BoxAt w b v0 v1 v2 v3 v4 v5) : b < w.heap.size := by
  rcases Nat.lt_or_ge b w.heap.size with hlt | hge
  · exact hlt
  · have := h.1
    simp [World.cell?, Array.getElem?_eq_none hge] at this

theorem BoxAt.later {w w' : World} {b : Nat} {v0 v1 v2 v3 v4 v5 : Value} (h : BoxAt w b v0 v1 v2 v3 v4 v5) (hb : Below w.heap.size w w') : BoxAt w' b v0 v1 v2 v3 v4 v5 := by
  have hl := h.lt
  obtain ⟨h0, h1, h2, h3, h4, h5⟩ := h
  exact ⟨(hb.cell hl).trans h0, (hb.cell hl).trans h1, (hb.cell hl).trans h2, (hb.cell hl).trans h3, (hb.cell hl).trans h4, (hb.cell hl).trans h5⟩

theorem bto {a b c : World} (h : Below a.heap.size a b) (k : Below b.heap.size b c) : Below a.heap.size a c := h.trans (k.mono h.size)
theorem bnew (w : World) (o : Obj) : Below w.heap.size w (w.alloc o) := (Below.refl _ _).alloc (Nat.le_refl _) _
end Go.Proofs.YtflfopienjjlbaaGreatDoor

namespace Go.Proofs.YtflfopienjjlbaaGreatDoor
open Go.RowKit

/-- The number that these bytes are, the highest first. -/
def beL (l : List UInt8) : Nat := l.foldl (fun v c => v * 256 + c.toNat) 0
theorem beL_snoc (l : List UInt8) (c : UInt8) : beL (l ++ [c]) = beL l * 256 + c.toNat := by simp [beL]
theorem beL_lt (l : List UInt8) : beL l < 256 ^ l.length := by
  have hg : ∀ (n : Nat) (l : List UInt8), l.length = n → beL l < 256 ^ n := fun n => by
    induction n with
    | zero => intro l h; rw [List.length_eq_zero_iff.1 h]; decide
    | succ n ih =>
      intro l h
      have hne : l ≠ [] := by intro e; rw [e] at h; simp at h
      rw [← List.dropLast_concat_getLast hne, beL_snoc]
      have h1 := ih l.dropLast (by simp [h])
      have h2 := (l.getLast hne).toNat_lt
      rw [Nat.pow_succ]
      omega
  exact hg _ l rfl
/-- n bytes of s from p on. -/
def sectL (s : ByteArray) (p n : Nat) : List UInt8 := (s.data.toList.drop p).take n
theorem sectL_length {s : ByteArray} {p n : Nat} (h : p + n ≤ s.size) : (sectL s p n).length = n := by
  have : s.data.toList.length = s.size := by simp
  simp only [sectL, List.length_take, List.length_drop]
  omega
theorem sectL_snoc {s : ByteArray} {p k : Nat} (h : p + k < s.size) : sectL s p (k + 1) = sectL s p k ++ [s[p + k]] := by
  have hl : s.data.toList.length = s.size := by simp
  unfold sectL
  rw [List.take_succ_eq_append_getElem (by rw [List.length_drop, hl]; omega), List.getElem_drop]
  rfl

end Go.Proofs.YtflfopienjjlbaaGreatDoor

namespace Go.Proofs.YtflfopienjjlbaaGreatDoor
open Go.RowKit

/-- The last i digits of n. -/
def segD (n : Nat) : Nat → List UInt8
  | 0 => []
  | i + 1 => (48 + UInt8.ofNat (n / 10 ^ i % 10)) :: segD n i
def segN (n : Nat) : ByteArray := ⟨(119 :: 97 :: 108 :: 45 :: segD n 6).toArray⟩
def segS (n : Int) : ByteArray := if 1 ≤ n ∧ n ≤ 999999 then segN n.toNat else ByteArray.empty
theorem segD_length (n : Nat) : ∀ i, (segD n i).length = i
  | 0 => rfl
  | i + 1 => by simp [segD, segD_length n i]
theorem segS_size (n : Int) : (segS n).size ≤ 10 := by
  unfold segS
  split
  · show (119 :: 97 :: 108 :: 45 :: segD n.toNat 6).toArray.size ≤ 10
    simp [segD_length]
  · simp
theorem dig_ofNat (k : Nat) : UInt8.ofNat (48 + k) = 48 + UInt8.ofNat k := by rw [UInt8.ofNat_add]; rfl
theorem itoa_seg (n : Nat) (h : n < 1000000) : Lib.itoa ((1000000 + n : Nat) : Int) = 49 :: segD n 6 := by
  have h7 : Lib.nDigits (1000000 + n) = 7 := Lib.nDigits_unique 6 _ (by omega) (by omega)
  rw [Lib.itoa, if_neg (by omega), Int.toNat_natCast, Lib.decDigits_eq, h7]
  simp only [List.range_succ, List.range_zero, List.map_cons, List.map_nil, List.nil_append, List.cons_append, segD, Lib.dg, dig_ofNat]
  congr 1
  · rw [show (1000000 + n) / 10 ^ (7 - 1 - 0) % 10 = 1 by omega]; rfl
  · simp only [List.cons.injEq, and_true]
    refine ⟨?_, ?_, ?_, ?_, ?_, ?_⟩ <;> congr 2 <;> omega
end Go.Proofs.YtflfopienjjlbaaGreatDoor

namespace Go.Proofs.YtflfopienjjlbaaGreatDoor
open Go.RowKit

def isDig (c : UInt8) : Bool := decide (48 ≤ c.toNat ∧ c.toNat ≤ 57)
def decL (l : List UInt8) : Nat := l.foldl (fun v c => v * 10 + (c.toNat - 48)) 0
theorem decL_snoc (l : List UInt8) (c : UInt8) : decL (l ++ [c]) = decL l * 10 + (c.toNat - 48) := by simp [decL]
/-- The number of the segment with this name; 0 if it is none. -/
def segOf (s : ByteArray) : Nat := if s.size = 10 ∧ s.extract 0 4 = ⟨#[119, 97, 108, 45]⟩ ∧ (sectL s 4 6).all isDig = true then decL (sectL s 4 6) else 0

theorem dig_nat (m : Nat) : (48 + UInt8.ofNat (m % 10)).toNat = 48 + m % 10 := by
  rw [UInt8.toNat_add]
  simp only [UInt8.toNat_ofNat']
  have : m % 10 < 10 := Nat.mod_lt _ (by omega)
  show (48 + m % 10 % 2 ^ 8) % 2 ^ 8 = _
  omega
theorem dig_eq {c : UInt8} {m : Nat} (h : isDig c = true) (e : m % 10 = c.toNat - 48) : 48 + UInt8.ofNat (m % 10) = c := by
  simp only [isDig, decide_eq_true_eq] at h
  apply UInt8.toNat.inj
  rw [dig_nat]
  omega
theorem segN_size (n : Nat) : (segN n).size = 10 := by
  show (119 :: 97 :: 108 :: 45 :: segD n 6).toArray.size = 10
  simp [segD_length]
theorem segN_sect (n : Nat) : sectL (segN n) 4 6 = segD n 6 := by
  simp [sectL, segN, segD]
theorem segN_head (n : Nat) : (segN n).extract 0 4 = ⟨#[119, 97, 108, 45]⟩ := by
  apply ByteArray.ext
  simp [segN]
theorem segD_dec {n : Nat} (h : n < 1000000) : decL (segD n 6) = n := by
  simp only [segD, decL, List.foldl_cons, List.foldl_nil, dig_nat]
  omega
theorem segD_dig (n : Nat) : (segD n 6).all isDig = true := by
  have h : ∀ m : Nat, isDig (48 + UInt8.ofNat (m % 10)) = true := fun m => by
    simp only [isDig, dig_nat, decide_eq_true_eq]
    have : m % 10 < 10 := Nat.mod_lt _ (by omega)
    omega
  simp only [segD, List.all_cons, List.all_nil, h, Bool.and_self]
theorem segOf_segN {n : Nat} (h : n < 1000000) : segOf (segN n) = n := by
  rw [segOf, if_pos ⟨segN_size n, segN_head n, by rw [segN_sect]; exact segD_dig n⟩, segN_sect, segD_dec h]
theorem six_of {l : List UInt8} (h : l.length = 6) : ∃ a b c d e f, l = [a, b, c, d, e, f] := by
  match l, h with
  | [a, b, c, d, e, f], _ => exact ⟨a, b, c, d, e, f, rfl⟩
theorem segD_of {l : List UInt8} (hl : l.length = 6) (h : l.all isDig = true) : segD (decL l) 6 = l ∧ decL l < 1000000 := by
  obtain ⟨a, b, c, d, e, f, rfl⟩ := six_of hl
  simp only [List.all_cons, List.all_nil, Bool.and_true, Bool.and_eq_true] at h
  obtain ⟨h0, h1, h2, h3, h4, h5⟩ := h
  have g : ∀ c, isDig c = true → 48 ≤ c.toNat ∧ c.toNat ≤ 57 := fun c h => by simpa [isDig] using h
  have g0 := g a h0
  have g1 := g b h1
  have g2 := g c h2
  have g3 := g d h3
  have g4 := g e h4
  have g5 := g f h5
  have E : decL [a, b, c, d, e, f] = (((((a.toNat - 48) * 10 + (b.toNat - 48)) * 10 + (c.toNat - 48)) * 10 + (d.toNat - 48)) * 10 + (e.toNat - 48)) * 10 + (f.toNat - 48) := by simp [decL]
  refine ⟨?_, by omega⟩
  simp only [segD, List.cons.injEq, and_true]
  refine ⟨dig_eq h0 ?_, dig_eq h1 ?_, dig_eq h2 ?_, dig_eq h3 ?_, dig_eq h4 ?_, dig_eq h5 ?_⟩ <;> omega
theorem segOf_pos {s : ByteArray} (h : 0 < segOf s) : s = segN (segOf s) ∧ segOf s < 1000000 := by
  have hc : s.size = 10 ∧ s.extract 0 4 = ⟨#[119, 97, 108, 45]⟩ ∧ (sectL s 4 6).all isDig = true := by
    refine Classical.byContradiction fun hn => ?_
    rw [segOf, if_neg hn] at h
    omega
  obtain ⟨hz, hh, hd⟩ := hc
  have hl : (sectL s 4 6).length = 6 := by
    simp only [sectL, List.length_take, List.length_drop]
    have : s.data.toList.length = 10 := hz
    omega
  obtain ⟨e, hlt⟩ := segD_of hl hd
  have E : segOf s = decL (sectL s 4 6) := by rw [segOf, if_pos ⟨hz, hh, hd⟩]
  rw [E]
  refine ⟨?_, hlt⟩
  have h4 : s.data.toList.take 4 = [119, 97, 108, 45] := by
    have := congrArg (fun b : ByteArray => b.data.toList) hh
    simpa using this
  have h6 : sectL s 4 6 = s.data.toList.drop 4 := by
    have hz' : s.data.toList.length = 10 := hz
    simp only [sectL]
    rw [List.take_of_length_le (by simp; omega)]
  apply ByteArray.ext
  apply Array.toList_inj.1
  show s.data.toList = 119 :: 97 :: 108 :: 45 :: segD (decL (sectL s 4 6)) 6
  rw [e, h6]
  conv => lhs; rw [← List.take_append_drop 4 s.data.toList, h4]
  rfl
theorem atoi_segN {n : Nat} (h : n < 1000000) : Lib.atoiAll (Lib.trimPrefix (segN n).data.toList [119, 97, 108, 45]) = .ok (n : Int) := by
  have ht : Lib.trimPrefix (segN n).data.toList [119, 97, 108, 45] = segD n 6 := by
    simp [Lib.trimPrefix, Lib.hasPrefix, segN, segD]
  have hp : ∀ (l : List UInt8) (acc k : Nat), l.all isDig = true → acc < 10 ^ k → l.length + k ≤ 6 → Lib.parseUint10 acc l = .ok (l.foldl (fun v c => v * 10 + (c.toNat - 48)) acc) := by
    intro l
    induction l with
    | nil => intro acc k _ _ _; rfl
    | cons c r ih =>
      intro acc k hd ha hk
      simp only [List.all_cons, Bool.and_eq_true] at hd
      have hc : 48 ≤ c.toNat ∧ c.toNat ≤ 57 := by simpa [isDig] using hd.1
      have hk6 : 10 ^ k ≤ 10 ^ 6 := Nat.pow_le_pow_right (by omega) (by simp at hk; omega)
      rw [Lib.parseUint10, if_pos hc, if_neg (by omega), if_neg (by omega), List.foldl_cons]
      refine ih _ (k + 1) hd.2 ?_ (by simp at hk ⊢; omega)
      rw [Nat.pow_succ]; omega
  have hm : Lib.parseMag (segD n 6) = .ok n := by
    rw [Lib.parseMag, if_neg (by simp [segD]), hp _ 0 0 (segD_dig n) (by simp) (by simp [segD_length])]
    exact congrArg _ (segD_dec h)
  rw [ht]
  have hd0 := dig_nat (n / 10 ^ 5)
  have hs : segD n 6 = (48 + UInt8.ofNat (n / 10 ^ 5 % 10)) :: segD n 5 := rfl
  rw [hs] at hm ⊢
  have hlt : n / 10 ^ 5 % 10 < 10 := Nat.mod_lt _ (by omega)
  simp only [Lib.atoiAll]
  rw [if_neg (by omega), hm]
  have hne : ¬ (48 + UInt8.ofNat (n / 10 ^ 5 % 10)).toNat = 45 := by omega
  simp only [hne]
  simp
  omega
end Go.Proofs.YtflfopienjjlbaaGreatDoor

