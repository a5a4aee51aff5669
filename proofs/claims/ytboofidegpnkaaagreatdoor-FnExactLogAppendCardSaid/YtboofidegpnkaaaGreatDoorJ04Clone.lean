import Derived.Test.YtboofidegpnkaaaGreatDoorProg
import Derived.Test.YtboofidegpnkaaaGreatDoorJ03Ord
import Derived.Test.YtboofidegpnkaaaGreatDoorJ01Btw
import Derived.Deep.AppendLies
import Derived.Maps.AppendAt
import Derived.Lib.LazyBuf
namespace Go.Proofs.YtboofidegpnkaaaGreatDoor
open Go.RowKit
theorem ret_tup2 {v0 v1 u0 u1 : Value} (h0 : v0 = u0) (h1 : v1 = u1) : Ending.returned (.tuple #[v0, v1]) = .returned (.tuple #[u0, u1]) := by rw [h0, h1]
def findFrom (t : ByteArray) : List FileD → Nat → Int
  | [], _ => -1
  | f :: r, i => if (f.name.toList == t.toList) = true then i else findFrom t r (i + 1)
set_option maxHeartbeats 1000000 in
theorem l1Find_any (a : Option Addr) (cap : Nat) (fs : List FileD) (c k0 cr fl : Int) (dn : Bool) (t : ByteArray) (w : World) (hf : FilesIn w a fs) (hlen : fs.length ≤ maxLen) :
    Calls Tryz.prog 53 #[.agg #[.slice a fs.length cap, .int .i64 c, .int .i64 k0, .int .i64 cr, .int .i64 fl, .bool dn], .string t] w fun e w' => e = .returned (.int .i64 (findFrom t fs 0)) ∧ Below w.heap.size w w' := by
  unfold maxLen at hlen
  have HF : Hid (FilesIn w a fs) := hf
  clear hf
  go_enter Tryz.func53, Tryz.ntmps53
  go_wp2
  go_loopw [5, 6, 10] (fun _ _ i wr => ∃ k : Nat, k ≤ fs.length ∧ i = .int .i64 k ∧ findFrom t fs 0 = findFrom t (fs.drop k) k ∧ Below w.heap.size w wr) (fun _ _ i _ => fs.length - (intOf i).toNat)
  case atStart => exact ⟨0, Nat.zero_le _, rfl, rfl, bnew _ _⟩
  case round =>
    obtain ⟨k, hk, rfl, hfd, hbel⟩ := hrel
    have HFD : Hid (findFrom t fs 0 = findFrom t (fs.drop k) k) := hfd
    clear hfd
    by_cases hlt : k < fs.length
    · obtain ⟨b, o, rfl, hb, c0, c1, c2⟩ := (HF.out.later hbel).at hlt
      have hd : fs.drop k = fs[k] :: fs.drop (k + 1) := List.drop_eq_getElem_cons hlt
      by_cases he : (fs[k].name.toList == t.toList) = true
      · have E : Hid (findFrom t fs 0 = k) := by show _ = _; rw [HFD.out, hd, findFrom, if_pos he]
        clear hd
        go_wp2
        go_ret
        exact ⟨ret_int E.out.symm, hbel.alloc hbel.size _⟩
      · have he' : (fs[k].name.toList == t.toList) = false := by simpa using he
        have E : Hid (findFrom t fs 0 = findFrom t (fs.drop (k + 1)) (k + 1)) := by show _ = _; rw [HFD.out, hd, findFrom, if_neg he]
        clear hd he
        go_wp2
        exact ⟨⟨k + 1, by omega, by go_num, E.out, hbel.alloc hbel.size _⟩, by simp [intOf]; omega⟩
    · go_wp2
      go_ret
      have e : fs.drop k = [] := List.drop_eq_nil_of_le (by omega)
      exact ⟨ret_int (by rw [HFD.out, e]; rfl), hbel⟩
def Asc (fs : List FileD) : Prop := ∀ i j (hi : i < j) (hj : j < fs.length), Op.bytesLess fs[i].name.toList fs[j].name.toList = true
theorem okAt_succ {fs : List FileD} {j : Nat} (h : okAt fs (j + 1) = true) (hj : j + 1 < fs.length) : Op.bytesLess fs[j].name.toList fs[j + 1].name.toList = true := by
  simp [okAt, List.getElem?_eq_getElem hj, List.getElem?_eq_getElem (show j < fs.length by omega)] at h
  exact h.2
theorem asc_of {fs : List FileD} (h : filesB fs = true) : Asc fs := by
  simp only [filesB, okTo, List.all_eq_true, List.mem_range] at h
  intro i j hi hj
  induction j with
  | zero => omega
  | succ j ih =>
    have hs := okAt_succ (h (j + 1) hj) hj
    by_cases e : i = j
    · subst e; exact hs
    · exact less_trans _ _ _ (ih (by omega) (by omega)) hs
def PosIs (fs : List FileD) (t : ByteArray) (i : Nat) : Prop := i ≤ fs.length ∧ (∀ j (h : j < fs.length), j < i → Op.bytesLess fs[j].name.toList t.toList = true) ∧ (∀ j (h : j < fs.length), i ≤ j → Op.bytesLess fs[j].name.toList t.toList = false)
def posOf (t : ByteArray) : List FileD → Nat
  | [] => 0
  | f :: r => if Op.bytesLess f.name.toList t.toList = true then posOf t r + 1 else 0
theorem PosIs.uniq {fs : List FileD} {t : ByteArray} {i j : Nat} (h : PosIs fs t i) (k : PosIs fs t j) : i = j := by
  rcases Nat.lt_trichotomy i j with hlt | he | hlt
  · have a := k.2.1 i (by have := k.1; omega) hlt
    have b := h.2.2 i (by have := k.1; omega) (Nat.le_refl _)
    rw [a] at b; exact absurd b (by simp)
  · exact he
  · have a := h.2.1 j (by have := h.1; omega) hlt
    have b := k.2.2 j (by have := h.1; omega) (Nat.le_refl _)
    rw [a] at b; exact absurd b (by simp)
def hasB (fs : List FileD) (t : ByteArray) (i : Nat) : Bool := match fs[i]? with
  | none => false
  | some f => f.name.toList == t.toList
theorem cmpZ_neg {x y : ByteArray} : (cmpZ x y < 0) ↔ Op.bytesLess x.toList y.toList = true := by
  unfold cmpZ; split <;> (try split) <;> simp_all
theorem cmpZ_zero {x y : ByteArray} : (cmpZ x y == 0) = (x.toList == y.toList) := by
  unfold cmpZ
  by_cases h : Op.bytesLess x.toList y.toList = true
  · rw [if_pos h]
    have : (x.toList == y.toList) = false := by
      rw [beq_eq_false_iff_ne]; intro e; rw [e, less_irrefl] at h; exact absurd h (by simp)
    rw [this]; rfl
  · rw [if_neg h]
    by_cases e : (x.toList == y.toList) = true
    · rw [if_pos e, e]; rfl
    · rw [if_neg e]; simp at e; simp [e]
set_option maxHeartbeats 1000000 in
theorem search_any (a : Option Addr) (cap : Nat) (fs : List FileD) (t : ByteArray) (w : World) (hf : FilesIn w a fs) (hasc : Asc fs) (hlen : fs.length ≤ 1048576) :
    Calls Tryz.prog 72 #[.slice a fs.length cap, .string t, .func (.func 73) #[] #[]] w fun e w' =>
      ∃ i, PosIs fs t i ∧ e = .returned (.tuple #[.int .i64 i, .bool (hasB fs t i)]) ∧ Below w.heap.size w w' := by
  have HF : Hid (FilesIn w a fs) := hf
  have HA : Hid (Asc fs) := hasc
  clear hf hasc
  go_enter Tryz.func72, Tryz.ntmps72
  go_wp2
  go_loopw [9, 10, 11] (fun i j _ wr => ∃ lo hi : Nat, i = .int .i64 lo ∧ j = .int .i64 hi ∧ lo ≤ hi ∧ hi ≤ fs.length ∧ (∀ m (h : m < fs.length), m < lo → Op.bytesLess fs[m].name.toList t.toList = true) ∧
      (∀ m (h : m < fs.length), hi ≤ m → Op.bytesLess fs[m].name.toList t.toList = false) ∧ Below w.heap.size w wr) (fun i j _ _ => (intOf j).toNat - (intOf i).toNat)
  case atStart => exact ⟨0, fs.length, rfl, rfl, Nat.zero_le _, Nat.le_refl _, fun m h k => absurd k (by omega), fun m h k => absurd k (by omega), Below.refl _ _⟩
  case round =>
    obtain ⟨lo, hi, rfl, rfl, hle, hhi, hlo', hhi', hbel⟩ := hrel
    have HLO : Hid (∀ m (h : m < fs.length), m < lo → Op.bytesLess fs[m].name.toList t.toList = true) := hlo'
    have HHI : Hid (∀ m (h : m < fs.length), hi ≤ m → Op.bytesLess fs[m].name.toList t.toList = false) := hhi'
    clear hlo' hhi'
    by_cases hlt : lo < hi
    · obtain ⟨m, hm⟩ : ∃ m : Nat, m = (lo + hi) / 2 := ⟨_, rfl⟩
      have em : ((lo : Int) + (hi : Int)) / 2 = (m : Int) := by omega
      have hm1 : lo ≤ m := by omega
      have hm2 : m < hi := by omega
      have hm3 : m < fs.length := by omega
      clear hm
      obtain ⟨b, o, rfl, hb, c0, c1, c2⟩ := (HF.out.later hbel).at hm3
      by_cases hc : Op.bytesLess fs[m].name.toList t.toList = true
      · have hz : cmpZ fs[m].name t < 0 := cmpZ_neg.2 hc
        have HC : Hid (Op.bytesLess fs[m].name.toList t.toList = true) := hc
        clear hc
        go_wp2_with fail
        refine (findFn_any _ _ _ _ _).mono ?_
        rintro e w' ⟨rfl, hb2⟩
        go_wp2
        refine ⟨⟨m + 1, hi, by go_num, rfl, by omega, hhi, fun j hj hjm => ?_, HHI.out, hbel.trans (hb2.mono hbel.size)⟩, by simp [intOf]; omega⟩
        by_cases e : j = m
        · subst e; exact HC.out
        · exact less_trans _ _ _ (HA.out j m (by omega) hm3) HC.out
      · have hz : ¬ cmpZ fs[m].name t < 0 := fun h => hc (cmpZ_neg.1 h)
        have HC : Hid (Op.bytesLess fs[m].name.toList t.toList = false) := by show _ = _; simpa using hc
        clear hc
        go_wp2_with fail
        refine (findFn_any _ _ _ _ _).mono ?_
        rintro e w' ⟨rfl, hb2⟩
        go_wp2
        refine ⟨⟨lo, m, rfl, rfl, hm1, by omega, HLO.out, fun j hj hjm => ?_, hbel.trans (hb2.mono hbel.size)⟩, by simp [intOf]; omega⟩
        by_cases e : j = m
        · subst e; exact HC.out
        · rw [Bool.eq_false_iff]
          intro h
          have := less_trans _ _ _ (HA.out m j (by omega) hj) h
          rw [HC.out] at this
          exact absurd this (by simp)
    · obtain rfl : lo = hi := by omega
      have HP : Hid (PosIs fs t lo) := ⟨hhi, HLO.out, HHI.out⟩
      by_cases hn : lo < fs.length
      · obtain ⟨b, o, rfl, hb, c0, c1, c2⟩ := (HF.out.later hbel).at hn
        have E : Hid ((cmpZ fs[lo].name t == 0) = hasB fs t lo) := by show _ = _; rw [cmpZ_zero]; simp [hasB, List.getElem?_eq_getElem hn]
        go_wp2_with fail
        refine (findFn_any _ _ _ _ _).mono ?_
        rintro e w' ⟨rfl, hb2⟩
        go_wp2
        go_ret2
        exact ⟨lo, HP.out, ret_tup2 rfl (congrArg Value.bool E.out), hbel.trans (hb2.mono hbel.size)⟩
      · have E : Hid (hasB fs t lo = false) := by show _ = _; simp [hasB, List.getElem?_eq_none (Nat.not_lt.1 hn)]
        go_wp2
        go_ret2
        exact ⟨lo, HP.out, ret_tup2 rfl (congrArg Value.bool E.out.symm), hbel⟩
set_option maxHeartbeats 400000 in
theorem findFile_any (a : Option Addr) (cap : Nat) (fs : List FileD) (t : ByteArray) (w : World) (hf : FilesIn w a fs) (hasc : Asc fs) (hlen : fs.length ≤ 1048576) :
    Calls Tryz.prog 61 #[.slice a fs.length cap, .string t] w fun e w' =>
      ∃ i, PosIs fs t i ∧ e = .returned (.tuple #[.int .i64 i, .bool (hasB fs t i)]) ∧ Below w.heap.size w w' := by
  have HF : Hid (FilesIn w a fs) := hf
  have HA : Hid (Asc fs) := hasc
  clear hf hasc
  go_enter Tryz.func61, Tryz.ntmps61
  go_wp2_with fail
  refine (search_any a cap fs t _ HF.out HA.out hlen).mono ?_
  rintro e w' ⟨i, hp, rfl, hb⟩
  have HP : Hid (PosIs fs t i) := hp
  clear hp
  go_wp2
  go_ret2
  exact ⟨i, HP.out, rfl, hb⟩
theorem find_pos {fs : List FileD} {t : ByteArray} (ha : Asc fs) {i : Nat} (hp : PosIs fs t i) : findFrom t fs 0 = if hasB fs t i = true then (i : Int) else -1 := by
  have gen : ∀ (n k : Nat), k + n = fs.length → (∀ j (h : j < fs.length), j < k → (fs[j].name.toList == t.toList) = false) → findFrom t (fs.drop k) k = if hasB fs t i = true then (i : Int) else -1 := by
    intro n
    induction n with
    | zero =>
      intro k hk hno
      rw [List.drop_eq_nil_of_le (by omega), findFrom]
      rw [if_neg]
      intro h
      unfold hasB at h
      split at h
      · exact absurd h (by simp)
      · rename_i f hf
        obtain ⟨hlt, rfl⟩ := List.getElem?_eq_some_iff.1 hf
        rw [hno i hlt (by omega)] at h
        exact absurd h (by simp)
    | succ n ih =>
      intro k hk hno
      have hlt : k < fs.length := by omega
      rw [List.drop_eq_getElem_cons hlt, findFrom]
      by_cases he : (fs[k].name.toList == t.toList) = true
      · rw [if_pos he]
        have hq : PosIs fs t k := by
          have e : fs[k].name.toList = t.toList := by simpa using he
          refine ⟨by omega, fun j hj hjk => ?_, fun j hj hkj => ?_⟩
          · rw [← e]; exact ha j k hjk hlt
          · rw [← e]
            by_cases ej : j = k
            · subst ej; exact less_irrefl _
            · exact less_asymm (ha k j (by omega) hj)
        obtain rfl := hp.uniq hq
        rw [if_pos]
        simp [hasB, List.getElem?_eq_getElem hlt, he]
      · rw [if_neg he]
        refine ih (k + 1) (by omega) fun j hj hjk => ?_
        by_cases ej : j = k
        · subst ej; simpa using he
        · exact hno j hj (by omega)
  have := gen fs.length 0 (by omega) (fun j _ h => absurd h (by omega))
  simpa using this
end Go.Proofs.YtboofidegpnkaaaGreatDoor
namespace Go.Proofs.YtboofidegpnkaaaGreatDoor
open Go.RowKit
structure But (g : Nat) (w w' : World) : Prop where
  os : w'.os = w.os
  tape : w'.tape = w.tape
  output : w'.output = w.output
  size : w.heap.size ≤ w'.heap.size
  block : ∀ k, k < w.heap.size → k ≠ g → w'.heap[k]? = w.heap[k]?
theorem But.refl (g : Nat) (w : World) : But g w w := ⟨rfl, rfl, rfl, Nat.le_refl _, fun _ _ _ => rfl⟩
theorem But.trans {g : Nat} {a b c : World} (h : But g a b) (k : But g b c) : But g a c :=
  ⟨k.os.trans h.os, k.tape.trans h.tape, k.output.trans h.output, Nat.le_trans h.size k.size, fun i hi hg => (k.block i (Nat.lt_of_lt_of_le hi h.size) hg).trans (h.block i hi hg)⟩
theorem But.of {g : Nat} {w w' : World} (h : Below w.heap.size w w') : But g w w' := ⟨h.os, h.tape, h.output, h.size, fun k hk _ => h.block k hk⟩
theorem But.setCell {g : Nat} {a w : World} (h : But g a w) (o : Nat) (v : Value) : But g a (w.setCell ⟨g, o, none⟩ v) :=
  h.trans ⟨rfl, rfl, rfl, by simp [World.setCell], fun k _ hk => Below.heap_setCell _ _ _ _ hk⟩
theorem But.below {g B : Nat} {w w' : World} (h : But g w w') (hB : B ≤ g) (hs : B ≤ w.heap.size) : Below B w w' :=
  ⟨h.os, h.tape, h.output, h.size, fun k hk => h.block k (by omega) (by omega)⟩
theorem FilesIn.but {g b o : Nat} {w w' : World} {fs : List FileD} (h : FilesIn w (some ⟨b, o, none⟩) fs) (hb : But g w w') (hg : b ≠ g) : FilesIn w' (some ⟨b, o, none⟩) fs := by
  rcases h with h | ⟨b', o', e, hlt, h⟩
  · exact Or.inl h
  · simp only [Option.some.injEq, Addr.mk.injEq, and_true] at e
    obtain ⟨rfl, rfl⟩ := e
    have hk : ∀ j, w'.cell? ⟨b, j, none⟩ = w.cell? ⟨b, j, none⟩ := fun j => World.cell?_of_block (hb.block b hlt hg)
    exact Or.inr ⟨b, o, rfl, Nat.lt_of_lt_of_le hlt hb.size, fun i hi => by simp only [hk]; exact h i hi⟩
def Owned (w : World) (B : Nat) (a : Option Addr) (fs : List FileD) : Prop :=
  fs = [] ∨ ∃ g o cur t, a = some ⟨g, o, none⟩ ∧ B ≤ g ∧ w.heap[g]? = some (.cells cur t (0, 0)) ∧ FilesAt w g o fs
theorem lt_of_block {w : World} {g : Nat} {x : Obj} (h : w.heap[g]? = some x) : g < w.heap.size := by
  rcases Nat.lt_or_ge g w.heap.size with hlt | hge
  · exact hlt
  · rw [Array.getElem?_eq_none hge] at h; exact absurd h (by simp)
theorem Owned.files {w : World} {B : Nat} {a : Option Addr} {fs : List FileD} (h : Owned w B a fs) : FilesIn w a fs := by
  rcases h with h | ⟨g, o, cur, t, rfl, _, hb, h⟩
  · exact Or.inl h
  · exact Or.inr ⟨g, o, rfl, lt_of_block hb, h⟩
theorem Owned.later {w w' : World} {B : Nat} {a : Option Addr} {fs : List FileD} (h : Owned w B a fs) (hb : Below w.heap.size w w') : Owned w' B a fs := by
  rcases h with h | ⟨g, o, cur, t, rfl, hB, hg, h⟩
  · exact Or.inl h
  · have hlt := lt_of_block hg
    have hk : ∀ j, w'.cell? ⟨g, j, none⟩ = w.cell? ⟨g, j, none⟩ := fun j => World.cell?_of_block (hb.block g hlt)
    exact Or.inr ⟨g, o, cur, t, rfl, hB, (hb.block g hlt).trans hg, fun i hi => by simp only [hk]; exact h i hi⟩
theorem Owned.mono {w : World} {B B' : Nat} {a : Option Addr} {fs : List FileD} (h : Owned w B a fs) (hB : B' ≤ B) : Owned w B' a fs := by
  rcases h with h | ⟨g, o, cur, t, rfl, hB', hg, h⟩
  · exact Or.inl h
  · exact Or.inr ⟨g, o, cur, t, rfl, Nat.le_trans hB hB', hg, h⟩
def digits : Nat → Nat → List UInt8 → List UInt8
  | 0, _, acc => acc
  | fuel + 1, k, acc => if k = 0 then acc else digits fuel (k / 10) ((48 + UInt8.ofNat (k % 10)) :: acc)
def mt (k : Nat) : ByteArray := ⟨(109 :: digits k k []).toArray⟩
theorem digits_fuel : ∀ (f f' k : Nat) (acc : List UInt8), k ≤ f → k ≤ f' → digits f k acc = digits f' k acc
  | 0, 0, _, _, _, _ => rfl
  | 0, f' + 1, k, acc, h, _ => by have : k = 0 := by omega
                                  subst this; simp [digits]
  | f + 1, 0, k, acc, _, h => by have : k = 0 := by omega
                                 subst this; simp [digits]
  | f + 1, f' + 1, k, acc, h, h' => by
    rw [digits, digits]
    split
    · rfl
    · exact digits_fuel f f' (k / 10) _ (by omega) (by omega)
def markF (k : Nat) (i : Nat) : FileD := ⟨mt (k + 3 * i), mt (k + 3 * i + 1), ((k + 3 * i + 2 : Nat) : Int)⟩
def markL (k n : Nat) : List FileD := (List.range n).map (markF k)
theorem markL_length (k n : Nat) : (markL k n).length = n := by simp [markL]
theorem markL_get (k n i : Nat) (h : i < (markL k n).length) : (markL k n)[i] = markF k i := by simp [markL]
def Marked (w w' : World) (B : Nat) (a : Option Addr) (n : Nat) : Prop :=
  (n = 0 ∧ Below w.heap.size w w') ∨ 0 < n ∧ ∃ g o, a = some ⟨g, o, none⟩ ∧ B ≤ g ∧ But g w w'
theorem Marked.below {w w' : World} {B n : Nat} {a : Option Addr} (h : Marked w w' B a n) (hs : B ≤ w.heap.size) : Below B w w' := by
  rcases h with ⟨_, h⟩ | ⟨_, g, o, _, hB, h⟩
  · exact h.mono hs
  · exact h.below hB hs
theorem Marked.files {w w' : World} {B n b o : Nat} {a : Option Addr} {fs : List FileD} (h : Marked w w' B a n) (hf : FilesIn w (some ⟨b, o, none⟩) fs) (hne : ∀ g' o', a = some ⟨g', o', none⟩ → b ≠ g') : FilesIn w' (some ⟨b, o, none⟩) fs := by
  rcases h with ⟨_, h⟩ | ⟨_, g, o', rfl, _, h⟩
  · exact hf.later h
  · exact hf.but h (hne g o' rfl)
def Blk (w : World) (g : Nat) (cur : Array Value) (t : TypeId) : Prop := w.heap[g]? = some (.cells cur t (0, 0))
theorem Blk.set {w : World} {g : Nat} {cur : Array Value} {t : TypeId} (h : Blk w g cur t) (j : Nat) (v : Value) : Blk (w.setCell ⟨g, j, none⟩ v) g (cur.setIfInBounds j v) t := heap_setCell_same w g j cur t v h
theorem Blk.later {w w' : World} {g : Nat} {cur : Array Value} {t : TypeId} (h : Blk w g cur t) (hb : Below w.heap.size w w') : Blk w' g cur t := (hb.block g (lt_of_block h)).trans h
theorem Blk.cell {w : World} {g : Nat} {cur : Array Value} {t : TypeId} (h : Blk w g cur t) (j : Nat) : w.cell? ⟨g, j, none⟩ = cur[j]? := cell_of_row w g j cur t _ h
theorem Blk.free {w : World} {g : Nat} {cur : Array Value} {t : TypeId} (h : Blk w g cur t) (j : Nat) : w.frozen? ⟨g, j, none⟩ = false := frozen_of_row w g j cur t h
theorem Blk.there {w : World} {g : Nat} {cur : Array Value} {t : TypeId} (h : Blk w g cur t) {j : Nat} (hj : j < cur.size) : ∃ v, w.cell? ⟨g, j, none⟩ = some v := ⟨cur[j], by rw [h.cell]; exact Array.getElem?_eq_getElem hj⟩
def RowFile (cur : Array Value) (o j : Nat) (f : FileD) : Prop := cur[o + j * 3]? = some (.string f.name) ∧ cur[o + j * 3 + 1]? = some (.string f.data) ∧ cur[o + j * 3 + 2]? = some (.int .i64 f.synced)
theorem RowFile.set {cur : Array Value} {o j : Nat} {f : FileD} (h : RowFile cur o j f) {p : Nat} (hp : p < o + j * 3 ∨ o + j * 3 + 2 < p) (v : Value) : RowFile (cur.setIfInBounds p v) o j f := by
  obtain ⟨a1, a2, a3⟩ := h
  refine ⟨?_, ?_, ?_⟩
  · rw [Array.getElem?_setIfInBounds_ne (by omega)]; exact a1
  · rw [Array.getElem?_setIfInBounds_ne (by omega)]; exact a2
  · rw [Array.getElem?_setIfInBounds_ne (by omega)]; exact a3
theorem RowFile.made (cur : Array Value) (o j : Nat) (f : FileD) (h : o + j * 3 + 2 < cur.size) :
    RowFile (((cur.setIfInBounds (o + j * 3) (.string f.name)).setIfInBounds (o + j * 3 + 1) (.string f.data)).setIfInBounds (o + j * 3 + 2) (.int .i64 f.synced)) o j f := by
  refine ⟨?_, ?_, ?_⟩ <;> simp [Array.getElem?_setIfInBounds] <;> omega
theorem filesAt_of_rows {w : World} {g o : Nat} {cur : Array Value} {t : TypeId} {fs : List FileD} (h : Blk w g cur t) (hr : ∀ j (hj : j < fs.length), RowFile cur o j fs[j]) : FilesAt w g o fs := by
  intro j hj
  simp only [h.cell]
  exact hr j hj
theorem rows_of_filesAt {w : World} {g o : Nat} {cur : Array Value} {t : TypeId} {fs : List FileD} (h : Blk w g cur t) (hf : FilesAt w g o fs) : ∀ j (hj : j < fs.length), RowFile cur o j fs[j] := by
  intro j hj
  have := hf j hj
  simp only [h.cell] at this
  exact this
theorem rows_size {cur : Array Value} {o : Nat} {fs : List FileD} (hr : ∀ j (hj : j < fs.length), RowFile cur o j fs[j]) : fs = [] ∨ o + fs.length * 3 ≤ cur.size := by
  by_cases h : fs.length = 0
  · exact Or.inl (List.length_eq_zero_iff.1 h)
  · right
    have := (hr (fs.length - 1) (by omega)).2.2
    have := (Array.getElem?_eq_some_iff.1 this).1
    omega
end Go.Proofs.YtboofidegpnkaaaGreatDoor
namespace Go.Proofs.YtboofidegpnkaaaGreatDoor
open Go.RowKit
def flat (fs : List FileD) : List Value := fs.flatMap fun f => [.string f.name, .string f.data, .int .i64 f.synced]
theorem flat_append (a b : List FileD) : flat (a ++ b) = flat a ++ flat b := by simp [flat]
theorem flat_one (f : FileD) : flat [f] = [.string f.name, .string f.data, .int .i64 f.synced] := rfl
theorem flat_length (fs : List FileD) : (flat fs).length = fs.length * 3 := by
  induction fs with
  | nil => rfl
  | cons f r ih => simp [flat] at *; omega
theorem flat_get : ∀ (fs : List FileD) (j : Nat) (h : j < fs.length), (flat fs)[j * 3]? = some (.string fs[j].name) ∧ (flat fs)[j * 3 + 1]? = some (.string fs[j].data) ∧ (flat fs)[j * 3 + 2]? = some (.int .i64 fs[j].synced)
  | [], _, h => absurd h (by simp)
  | f :: r, 0, _ => by simp [flat]
  | f :: r, j + 1, h => by
    have ih := flat_get r j (by simpa using h)
    have e : flat (f :: r) = [.string f.name, .string f.data, .int .i64 f.synced] ++ flat r := rfl
    rw [e]
    have e1 : (j + 1) * 3 = 3 + j * 3 := by omega
    have e2 : (j + 1) * 3 + 1 = 3 + (j * 3 + 1) := by omega
    have e3 : (j + 1) * 3 + 2 = 3 + (j * 3 + 2) := by omega
    have hq : ∀ p, ([.string f.name, .string f.data, .int .i64 f.synced] ++ flat r)[3 + p]? = (flat r)[p]? := fun p => by
      rw [List.getElem?_append_right (by simp)]; simp
    rw [e3, e2, e1, hq, hq, hq]
    exact ih
theorem flat_one_cell (fs : List FileD) : ∀ u ∈ flat fs, u.oneCell' = true := by
  intro u hu
  simp only [flat, List.mem_flatMap, List.mem_cons, List.not_mem_nil, or_false] at hu
  obtain ⟨f, _, rfl | rfl | rfl⟩ := hu <;> rfl
theorem owned_of_row {w : World} {B : Nat} {e : TypeId} {v : Value} {fs : List FileD} (h : w.ownsRow B e 3 v fs.length (flat fs)) : ∃ a cap, v = .slice a fs.length cap ∧ Owned w B a fs := by
  rcases h.2 with ⟨rfl, h0⟩ | ⟨g, cap, cur, rfl, hB, hg, _, _, _, ht⟩
  · have : fs = [] := List.length_eq_zero_iff.1 h0
    subst this
    exact ⟨none, 0, rfl, Or.inl rfl⟩
  · refine ⟨_, cap, rfl, Or.inr ⟨g, 0, cur, e, rfl, hB, hg, filesAt_of_rows hg fun j hj => ?_⟩⟩
    have key : ∀ p v, (flat fs)[p]? = some v → cur[p]? = some v := fun p v hp => by
      rw [← ht] at hp
      have hlt := (List.getElem?_eq_some_iff.1 hp).1
      rw [List.length_take] at hlt
      rw [List.getElem?_take_of_lt (by omega)] at hp
      simpa using hp
    obtain ⟨a1, a2, a3⟩ := flat_get fs j hj
    refine ⟨?_, ?_, ?_⟩
    · rw [Nat.zero_add]; exact key _ _ a1
    · rw [Nat.zero_add]; exact key _ _ a2
    · rw [Nat.zero_add]; exact key _ _ a3
theorem row_later {w w' : World} {B : Nat} {e : TypeId} {size : Nat} {v : Value} {n : Nat} {xs : List Value} (h : w.ownsRow B e size v n xs) (hb : Below w.heap.size w w') : w'.ownsRow B e size v n xs := by
  obtain ⟨h1, h2⟩ := h
  refine ⟨h1, ?_⟩
  rcases h2 with h2 | ⟨g, cap, cur, hv, hB, hg, r⟩
  · exact Or.inl h2
  · exact Or.inr ⟨g, cap, cur, hv, hB, (hb.block g (lt_of_block hg)).trans hg, r⟩
theorem row_set_below {w : World} {B : Nat} {e : TypeId} {size : Nat} {v : Value} {n : Nat} {xs : List Value} (h : w.ownsRow B e size v n xs) {p : Addr} (hp : p.block < B) (u : Value) : (w.setCell p u).ownsRow B e size v n xs := by
  obtain ⟨h1, h2⟩ := h
  refine ⟨h1, ?_⟩
  rcases h2 with h2 | ⟨g, cap, cur, hv, hB, hg, r⟩
  · exact Or.inl h2
  · exact Or.inr ⟨g, cap, cur, hv, hB, (Below.heap_setCell w p u g (by omega)).trans hg, r⟩
theorem cells_of_files {w : World} {b o : Nat} {fs : List FileD} (h : FilesAt w b o fs) : ∀ j u, (flat fs)[j]? = some u → w.cell? ((⟨b, o, none⟩ : Addr).add j) = some u := by
  intro j u hu
  have hlt := (List.getElem?_eq_some_iff.1 hu).1
  rw [flat_length] at hlt
  have hj : j / 3 < fs.length := by omega
  obtain ⟨a1, a2, a3⟩ := flat_get fs (j / 3) hj
  obtain ⟨c1, c2, c3⟩ := h (j / 3) hj
  have hadd : (⟨b, o, none⟩ : Addr).add j = ⟨b, o + j, none⟩ := by unfold Addr.add; split <;> simp_all
  rw [hadd]
  have hm : j % 3 = 0 ∨ j % 3 = 1 ∨ j % 3 = 2 := by omega
  rcases hm with hm | hm | hm
  · have e : j = j / 3 * 3 := by omega
    rw [e] at hu
    rw [a1] at hu
    rw [show o + j = o + j / 3 * 3 by omega, c1]; exact hu
  · have e : j = j / 3 * 3 + 1 := by omega
    rw [e] at hu
    rw [a2] at hu
    rw [show o + j = o + j / 3 * 3 + 1 by omega, c2]; exact hu
  · have e : j = j / 3 * 3 + 2 := by omega
    rw [e] at hu
    rw [a3] at hu
    rw [show o + j = o + j / 3 * 3 + 2 by omega, c3]; exact hu
end Go.Proofs.YtboofidegpnkaaaGreatDoor
namespace Go.Proofs.YtboofidegpnkaaaGreatDoor
open Go.RowKit
theorem info_filex : ∃ i, Tryz.prog.info? 71 = some i ∧ i.zero = some (.agg #[.string ByteArray.empty, .string ByteArray.empty, .int .i64 0]) ∧ i.size = 3 ∧ i.bytes = 40 := by
  have h : (Tryz.prog.info? 71).map (fun i => (i.zero, i.size, i.bytes)) = some (some (.agg #[.string ByteArray.empty, .string ByteArray.empty, .int .i64 0]), 3, 40) := by kernel_rfl
  obtain ⟨i, hi, hzz⟩ := Option.map_eq_some_iff.1 h
  simp only [Prod.mk.injEq] at hzz
  exact ⟨i, hi, hzz⟩
set_option maxRecDepth 100000 in
set_option maxHeartbeats 1000000 in
theorem clone_any (a : Option Addr) (cap : Nat) (fs : List FileD) (w : World) (hf : FilesIn w a fs) (hlen : fs.length ≤ 1048576) :
    Calls Tryz.prog 37 #[.slice a fs.length cap] w fun e w' => ∃ v, e = .returned v ∧ w'.ownsRow w.heap.size 71 3 v fs.length (flat fs) ∧ Below w.heap.size w w' := by
  have heq := fun w' => Lib.run_eql_slice_nil (P := Tryz.prog) w' 28 71 a fs.length cap 0 0 Tryz.underlying28
  cases a with
  | none =>
    have h0 : fs = [] := by
      rcases hf with h | ⟨b, o, e, _⟩
      · exact h
      · exact absurd e (by simp)
    subst h0
    have heq2 := fun w' => Lib.run_eql_slice_nil (P := Tryz.prog) w' 28 71 none 0 cap 0 0 Tryz.underlying28
    clear heq
    go_enter Tryz.func37, Tryz.ntmps37
    go_wp2
    go_ret
    exact ⟨_, rfl, ⟨rfl, Or.inl ⟨rfl, rfl⟩⟩, Below.refl _ _⟩
  | some ad =>
    obtain ⟨i, hi, hz0, hz1, hz2⟩ := info_filex
    have hown : (w.alloc (.cells #[] 71)).ownsRow w.heap.size 71 3 (.slice (some ⟨w.heap.size, 0, none⟩) 0 0) 0 [] :=
      ⟨rfl, Or.inr ⟨w.heap.size, 0, #[], rfl, Nat.le_refl _, heap_alloc_new _ _, Nat.le_refl _, Nat.zero_le _, rfl, rfl⟩⟩
    have HO : Hid ((w.alloc (.cells #[] 71)).ownsRow w.heap.size 71 3 (.slice (some ⟨w.heap.size, 0, none⟩) 0 0) 0 []) := hown
    have hnews : ∀ j u, (flat fs)[j]? = some u → (w.alloc (.cells #[] 71)).cell? (ad.add j) = some u := by
      rcases hf.later (bnew w (.cells #[] 71)) with rfl | ⟨b, o, e, _, h⟩
      · intro j u h; simp [flat] at h
      · simp only [Option.some.injEq] at e
        subst e
        exact cells_of_files h
    have HN : Hid (∀ j u, (flat fs)[j]? = some u → (w.alloc (.cells #[] 71)).cell? (ad.add j) = some u) := hnews
    have HI : Hid (Tryz.prog.info? 71 = some i) := hi
    clear hf hown hnews hi
    go_enter Tryz.func37, Tryz.ntmps37
    go_wp2_with (at_builtin; refine wpList_append_own_at _ rfl _ _ _ rfl w.heap.size 71 i _ 3 40 Tryz.underlying28 HI.out hz0 hz1 hz2 rfl (by omega) (.slice (some ⟨w.heap.size, 0, none⟩) 0 0) 0 [] rfl HO.out ad fs.length cap (flat fs) rfl (flat_length fs) HN.out (flat_one_cell fs) (by simp [maxLen]; omega) (by omega) (by simp) ?_; intro v1 w1 hown1 hgrow _ _)
    go_ret
    simp only [Nat.zero_add, List.nil_append] at hown1
    refine ⟨v1, rfl, hown1, (bnew _ _).grown hgrow (by simp) (fun k hk => ?_)⟩
    simp [Value.ownBlock] at hk
    omega
end Go.Proofs.YtboofidegpnkaaaGreatDoor
