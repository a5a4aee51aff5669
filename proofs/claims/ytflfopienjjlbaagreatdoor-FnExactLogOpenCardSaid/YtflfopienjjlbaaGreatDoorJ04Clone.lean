import Derived.Test.YtflfopienjjlbaaGreatDoorProg
import Derived.Test.YtflfopienjjlbaaGreatDoorJ03Nm
import Derived.Test.YtflfopienjjlbaaGreatDoorJ01SegOfL
import Derived.Deep.AppendLies
import Derived.Maps.AppendAt
import Derived.Lib.LazyBuf
namespace Go.Proofs.YtflfopienjjlbaaGreatDoor
open Go.RowKit

def okAt (fs : List FileD) (i : Nat) : Bool :=
  match fs[i]? with
  | none => true
  | some f => fileB f && (match i with
    | 0 => true
    | j + 1 => match fs[j]? with
      | none => true
      | some g => Op.bytesLess g.name.toList f.name.toList)
def okTo (fs : List FileD) (k : Nat) : Bool := (List.range k).all (okAt fs)
def filesB (fs : List FileD) : Bool := okTo fs fs.length

theorem okTo_succ (fs : List FileD) (k : Nat) : okTo fs (k + 1) = (okTo fs k && okAt fs k) := by simp [okTo, List.range_succ]
theorem okTo_not {fs : List FileD} {k n : Nat} (h : okAt fs k = false) (hk : k < n) : okTo fs n = false := by
  rw [Bool.eq_false_iff]
  intro h'
  simp only [okTo, List.all_eq_true, List.mem_range] at h'
  rw [h' k hk] at h; exact absurd h (by simp)

set_option maxHeartbeats 1000000 in
theorem filesValid_any (a : Option Addr) (cap : Nat) (fs : List FileD) (w : World) (hf : FilesIn w a fs) (hs : Short fs) (hlen : fs.length ≤ maxLen) :
    Calls Tryz.prog 61 #[.slice a fs.length cap] w fun e w' => e = .returned (.bool (decide (fs.length ≤ 1000) && filesB fs)) ∧ Below w.heap.size w w' := by
  unfold maxLen at hlen
  by_cases h0 : (1000 : Int) < fs.length
  · have E : Hid ((decide (fs.length ≤ 1000) && filesB fs) = false) := by
      show _ = _
      rw [decide_eq_false (by omega)]; rfl
    clear hf hs
    go_enter Tryz.func61, Tryz.ntmps61
    go_wp2
    go_ret
    exact ⟨ret_bool E.out.symm, Below.refl _ _⟩
  have E : Hid ((decide (fs.length ≤ 1000) && filesB fs) = okTo fs fs.length) := by
    show _ = _
    rw [decide_eq_true (by omega)]; rfl
  have HF : Hid (FilesIn w a fs) := hf
  have HS : Hid (Short fs) := hs
  clear hf hs
  go_enter Tryz.func61, Tryz.ntmps61
  go_wp2
  go_loopw [3, 9] (fun _ i wr => ∃ k : Nat, k ≤ fs.length ∧ i = .int .i64 k ∧ okTo fs k = true ∧ Below w.heap.size w wr) (fun _ i _ => fs.length - (intOf i).toNat)
  case atStart => exact ⟨0, Nat.zero_le _, rfl, rfl, Below.refl _ _⟩
  case round =>
    obtain ⟨k, hk, rfl, hok, hbel⟩ := hrel
    have HOK : Hid (okTo fs k = true) := hok
    clear hok
    by_cases hlt : k < fs.length
    · obtain ⟨b, o, rfl, hb, c0, c1, c2⟩ := (HF.out.later hbel).at hlt
      have hsh := HS.out k hlt
      have hV := fun x : Later wr => valid_any b (o + k * 3) fs[k] x.w' (x.cell c0) (x.cell c1) (x.cell c2) hsh.1
      have d0 := Later.cells c0
      have hne := Later.there wr
      clear c0 c1 c2 hsh
      by_cases hfb : fileB fs[k] = true
      · simp only [hfb] at hV
        by_cases hk0 : (0 : Int) < k
        · obtain ⟨b2, o2, e2, q1, c0', q2, q3⟩ := (HF.out.later hbel).at (i := k - 1) (by omega)
          simp only [Option.some.injEq, Addr.mk.injEq, and_true] at e2
          obtain ⟨rfl, rfl⟩ := e2
          have hat : okAt fs k = Op.bytesLess fs[k - 1].name.toList fs[k].name.toList := by
            obtain ⟨j, rfl⟩ : ∃ j, k = j + 1 := ⟨k - 1, by omega⟩
            simp [okAt, List.getElem?_eq_getElem hlt, List.getElem?_eq_getElem (show j < fs.length by omega), hfb]
          generalize fs[k - 1].name = gn at c0' hat
          generalize fs[k].name = fn at d0 hat
          have d0p := Later.cells c0'
          have hk1 : 0 < k := by omega
          clear q1 q2 q3 c0' hfb
          by_cases hl : Op.bytesLess gn.toList fn.toList = true
          · have HT : Hid (okTo fs (k + 1) = true) := by show okTo fs (k + 1) = true; rw [okTo_succ, HOK.out, hat, hl]; rfl
            clear hat
            go_wp2_with fail
            refine wp_region_later (by kernel_rfl) (by kernel_rfl) ?_
            repeat (go_big_quiet_step (first | (go_at_call 90; exact calls_later (hV _))))
            refine wpQuiet_nil ?_
            rintro _ ⟨x, rfl⟩
            go_wp2
            exact ⟨⟨k + 1, by omega, by go_num, HT.out, hbel.trans (x.h.mono hbel.size)⟩, by simp [intOf]; omega⟩
          · have hl' : Op.bytesLess gn.toList fn.toList = false := by simpa using hl
            have HT : Hid (okTo fs fs.length = false) := okTo_not (by rw [hat]; exact hl') hlt
            clear hat hl
            go_wp2_with fail
            refine wp_region_later (by kernel_rfl) (by kernel_rfl) ?_
            repeat (go_big_quiet_step (first | (go_at_call 90; exact calls_later (hV _))))
            refine wpQuiet_nil ?_
            rintro _ ⟨x, rfl⟩
            go_wp2
            go_ret
            exact ⟨ret_bool (by rw [E.out, HT.out]), hbel.trans (x.h.mono hbel.size)⟩
        · have hat : okAt fs k = true := by
            obtain rfl : k = 0 := by omega
            simp [okAt, List.getElem?_eq_getElem hlt, hfb]
          have HT : Hid (okTo fs (k + 1) = true) := by show okTo fs (k + 1) = true; rw [okTo_succ, HOK.out, hat]; rfl
          have hk1 : decide (0 < k) = false := by simp; omega
          clear hat hfb
          go_wp2_with fail
          refine wp_region_later (by kernel_rfl) (by kernel_rfl) ?_
          repeat (go_big_quiet_step (first | (go_at_call 90; exact calls_later (hV _))))
          refine wpQuiet_nil ?_
          rintro _ ⟨x, rfl⟩
          go_wp2
          exact ⟨⟨k + 1, by omega, by go_num, HT.out, hbel.trans (x.h.mono hbel.size)⟩, by simp [intOf]; omega⟩
      · have hfb' : fileB fs[k] = false := by simpa using hfb
        simp only [hfb'] at hV
        have hat : okAt fs k = false := by simp [okAt, List.getElem?_eq_getElem hlt, hfb']
        have HT : Hid (okTo fs fs.length = false) := okTo_not hat hlt
        clear hat hfb hfb'
        go_wp2_with fail
        refine wp_region_later (by kernel_rfl) (by kernel_rfl) ?_
        repeat (go_big_quiet_step (first | (go_at_call 90; exact calls_later (hV _))))
        refine wpQuiet_nil ?_
        rintro _ ⟨x, rfl⟩
        go_wp2
        go_ret
        exact ⟨ret_bool (by rw [E.out, HT.out]), hbel.trans (x.h.mono hbel.size)⟩
    · go_wp2
      go_ret
      have e : k = fs.length := by omega
      exact ⟨ret_bool (by rw [E.out, ← e]; exact HOK.out.symm), hbel⟩
end Go.Proofs.YtflfopienjjlbaaGreatDoor

namespace Go.Proofs.YtflfopienjjlbaaGreatDoor
open Go.RowKit

def cmpZ (x y : ByteArray) : Int := if Op.bytesLess x.toList y.toList = true then -1 else if (x.toList == y.toList) = true then 0 else 1

set_option maxHeartbeats 400000 in
theorem isNaN_any (s : ByteArray) (w : World) : Calls Tryz.prog 111 #[.string s] w fun e w' => e = .returned (.bool false) ∧ w' = w := by
  go_enter Tryz.func111, Tryz.ntmps111
  go_wp2
  go_ret
  exact ⟨rfl, rfl⟩

set_option maxHeartbeats 400000 in
theorem compare_any (x y : ByteArray) (w : World) : Calls Tryz.prog 100 #[.string x, .string y] w fun e w' => e = .returned (.int .i64 (cmpZ x y)) ∧ w' = w := by
  by_cases h1 : Op.bytesLess x.toList y.toList = true
  · have E : Hid (cmpZ x y = -1) := by show _ = _; simp [cmpZ, h1]
    go_enter Tryz.func100, Tryz.ntmps100
    go_wp2_with (first | (go_at_call 111; refine (isNaN_any _ _).mono ?_; rintro e w' ⟨rfl, rfl⟩))
    go_ret
    exact ⟨ret_int E.out.symm, rfl⟩
  have h1' : Op.bytesLess x.toList y.toList = false := by simpa using h1
  by_cases h2 : (x.toList == y.toList) = true
  · have E : Hid (cmpZ x y = 0) := by show _ = _; simp [cmpZ, h1', h2]
    clear h1
    go_enter Tryz.func100, Tryz.ntmps100
    go_wp2_with (first | (go_at_call 111; refine (isNaN_any _ _).mono ?_; rintro e w' ⟨rfl, rfl⟩))
    go_ret
    exact ⟨ret_int E.out.symm, rfl⟩
  have h2' : (x.toList == y.toList) = false := by simpa using h2
  have E : Hid (cmpZ x y = 1) := by show _ = _; simp only [cmpZ, h1', h2']; rfl
  clear h1 h2
  go_enter Tryz.func100, Tryz.ntmps100
  go_wp2_with (first | (go_at_call 111; refine (isNaN_any _ _).mono ?_; rintro e w' ⟨rfl, rfl⟩))
  go_ret
  exact ⟨ret_int E.out.symm, rfl⟩

end Go.Proofs.YtflfopienjjlbaaGreatDoor

namespace Go.Proofs.YtflfopienjjlbaaGreatDoor
open Go.RowKit

set_option maxHeartbeats 400000 in
theorem findFn_any (nm da : ByteArray) (sy : Int) (t : ByteArray) (w : World) : Calls Tryz.prog 99 #[.agg #[.string nm, .string da, .int .i64 sy], .string t] w fun e w' => e = .returned (.int .i64 (cmpZ nm t)) ∧ Below w.heap.size w w' := by
  go_enter Tryz.func99, Tryz.ntmps99
  go_wp2_with (first | (go_at_call 100; refine (compare_any _ _ _).mono ?_; rintro e w' ⟨rfl, rfl⟩))
  go_ret
  exact ⟨rfl, bnew _ _⟩
end Go.Proofs.YtflfopienjjlbaaGreatDoor

namespace Go.Proofs.YtflfopienjjlbaaGreatDoor
open Go.RowKit

theorem ret_tup2 {v0 v1 u0 u1 : Value} (h0 : v0 = u0) (h1 : v1 = u1) : Ending.returned (.tuple #[v0, v1]) = .returned (.tuple #[u0, u1]) := by rw [h0, h1]

/-- The first place of a file called t, from place i on; -1 if there is none. -/
def findFrom (t : ByteArray) : List FileD → Nat → Int
  | [], _ => -1
  | f :: r, i => if (f.name.toList == t.toList) = true then i else findFrom t r (i + 1)

set_option maxHeartbeats 1000000 in
theorem l1Find_any (a : Option Addr) (cap : Nat) (fs : List FileD) (c k0 cr fl : Int) (dn : Bool) (t : ByteArray) (w : World) (hf : FilesIn w a fs) (hlen : fs.length ≤ maxLen) :
    Calls Tryz.prog 31 #[.agg #[.slice a fs.length cap, .int .i64 c, .int .i64 k0, .int .i64 cr, .int .i64 fl, .bool dn], .string t] w fun e w' => e = .returned (.int .i64 (findFrom t fs 0)) ∧ Below w.heap.size w w' := by
  unfold maxLen at hlen
  have HF : Hid (FilesIn w a fs) := hf
  clear hf
  go_enter Tryz.func31, Tryz.ntmps31
  go_wp2
  go_loopw [5, 6, 10] (fun _ _ i wr => ∃ k : Nat, k ≤ fs.length ∧ i = .int .i64 k ∧ findFrom t fs 0 = findFrom t (fs.drop k) k ∧ Below w.heap.size w wr) (fun _ _ i _ => fs.length - (intOf i).toNat)
  case atStart => exact ⟨0, Nat.zero_le _, rfl, rfl, bnew _ _⟩
  case round =>
    obtain ⟨k, hk, rfl, hfd, hbel⟩ := hrel
    have HFD : Hid (findFrom t fs 0 = findFrom t (fs.drop k) k) := hfd
    clear hfd
    by_cases hlt : k < fs.length
    · obtain ⟨b, o, rfl, hb, c0, c1, c2⟩ := (HF.out.later hbel).at hlt
      have hd : fs.drop k = fs[k] :: fs.drop (k + 1) := List.drop_eq_getElem_cons hlt
      by_cases he : (fs[k].name.toList == t.toList) = true
      · have E : Hid (findFrom t fs 0 = k) := by show _ = _; rw [HFD.out, hd, findFrom, if_pos he]
        clear hd
        go_wp2
        go_ret
        exact ⟨ret_int E.out.symm, hbel.alloc hbel.size _⟩
      · have he' : (fs[k].name.toList == t.toList) = false := by simpa using he
        have E : Hid (findFrom t fs 0 = findFrom t (fs.drop (k + 1)) (k + 1)) := by show _ = _; rw [HFD.out, hd, findFrom, if_neg he]
        clear hd he
        go_wp2
        exact ⟨⟨k + 1, by omega, by go_num, E.out, hbel.alloc hbel.size _⟩, by simp [intOf]; omega⟩
    · go_wp2
      go_ret
      have e : fs.drop k = [] := List.drop_eq_nil_of_le (by omega)
      exact ⟨ret_int (by rw [HFD.out, e]; rfl), hbel⟩

/-- Strictly ascending names. -/
def Asc (fs : List FileD) : Prop := ∀ i j (hi : i < j) (hj : j < fs.length), Op.bytesLess fs[i].name.toList fs[j].name.toList = true

theorem okAt_succ {fs : List FileD} {j : Nat} (h : okAt fs (j + 1) = true) (hj : j + 1 < fs.length) : Op.bytesLess fs[j].name.toList fs[j + 1].name.toList = true := by
  simp [okAt, List.getElem?_eq_getElem hj, List.getElem?_eq_getElem (show j < fs.length by omega)] at h
  exact h.2

theorem asc_of {fs : List FileD} (h : filesB fs = true) : Asc fs := by
  simp only [filesB, okTo, List.all_eq_true, List.mem_range] at h
  intro i j hi hj
  induction j with
  | zero => omega
  | succ j ih =>
    have hs := okAt_succ (h (j + 1) hj) hj
    by_cases e : i = j
    · subst e; exact hs
    · exact less_trans _ _ _ (ih (by omega) (by omega)) hs

/-- i is where t is, or would be. -/
def PosIs (fs : List FileD) (t : ByteArray) (i : Nat) : Prop := i ≤ fs.length ∧ (∀ j (h : j < fs.length), j < i → Op.bytesLess fs[j].name.toList t.toList = true) ∧ (∀ j (h : j < fs.length), i ≤ j → Op.bytesLess fs[j].name.toList t.toList = false)

def posOf (t : ByteArray) : List FileD → Nat
  | [] => 0
  | f :: r => if Op.bytesLess f.name.toList t.toList = true then posOf t r + 1 else 0

theorem PosIs.uniq {fs : List FileD} {t : ByteArray} {i j : Nat} (h : PosIs fs t i) (k : PosIs fs t j) : i = j := by
  rcases Nat.lt_trichotomy i j with hlt | he | hlt
  · have a := k.2.1 i (by have := k.1; omega) hlt
    have b := h.2.2 i (by have := k.1; omega) (Nat.le_refl _)
    rw [a] at b; exact absurd b (by simp)
  · exact he
  · have a := h.2.1 j (by have := h.1; omega) hlt
    have b := k.2.2 j (by have := h.1; omega) (Nat.le_refl _)
    rw [a] at b; exact absurd b (by simp)

def hasB (fs : List FileD) (t : ByteArray) (i : Nat) : Bool := match fs[i]? with
  | none => false
  | some f => f.name.toList == t.toList

theorem cmpZ_neg {x y : ByteArray} : (cmpZ x y < 0) ↔ Op.bytesLess x.toList y.toList = true := by
  unfold cmpZ; split <;> (try split) <;> simp_all
theorem cmpZ_zero {x y : ByteArray} : (cmpZ x y == 0) = (x.toList == y.toList) := by
  unfold cmpZ
  by_cases h : Op.bytesLess x.toList y.toList = true
  · rw [if_pos h]
    have : (x.toList == y.toList) = false := by
      rw [beq_eq_false_iff_ne]; intro e; rw [e, less_irrefl] at h; exact absurd h (by simp)
    rw [this]; rfl
  · rw [if_neg h]
    by_cases e : (x.toList == y.toList) = true
    · rw [if_pos e, e]; rfl
    · rw [if_neg e]; simp at e; simp [e]

set_option maxHeartbeats 1000000 in
theorem search_any (a : Option Addr) (cap : Nat) (fs : List FileD) (t : ByteArray) (w : World) (hf : FilesIn w a fs) (hasc : Asc fs) (hlen : fs.length ≤ 1048576) :
    Calls Tryz.prog 98 #[.slice a fs.length cap, .string t, .func (.func 99) #[] #[]] w fun e w' =>
      ∃ i, PosIs fs t i ∧ e = .returned (.tuple #[.int .i64 i, .bool (hasB fs t i)]) ∧ Below w.heap.size w w' := by
  have HF : Hid (FilesIn w a fs) := hf
  have HA : Hid (Asc fs) := hasc
  clear hf hasc
  go_enter Tryz.func98, Tryz.ntmps98
  go_wp2
  go_loopw [9, 10, 11] (fun i j _ wr => ∃ lo hi : Nat, i = .int .i64 lo ∧ j = .int .i64 hi ∧ lo ≤ hi ∧ hi ≤ fs.length ∧ (∀ m (h : m < fs.length), m < lo → Op.bytesLess fs[m].name.toList t.toList = true) ∧
      (∀ m (h : m < fs.length), hi ≤ m → Op.bytesLess fs[m].name.toList t.toList = false) ∧ Below w.heap.size w wr) (fun i j _ _ => (intOf j).toNat - (intOf i).toNat)
  case atStart => exact ⟨0, fs.length, rfl, rfl, Nat.zero_le _, Nat.le_refl _, fun m h k => absurd k (by omega), fun m h k => absurd k (by omega), Below.refl _ _⟩
  case round =>
    obtain ⟨lo, hi, rfl, rfl, hle, hhi, hlo', hhi', hbel⟩ := hrel
    have HLO : Hid (∀ m (h : m < fs.length), m < lo → Op.bytesLess fs[m].name.toList t.toList = true) := hlo'
    have HHI : Hid (∀ m (h : m < fs.length), hi ≤ m → Op.bytesLess fs[m].name.toList t.toList = false) := hhi'
    clear hlo' hhi'
    by_cases hlt : lo < hi
    · obtain ⟨m, hm⟩ : ∃ m : Nat, m = (lo + hi) / 2 := ⟨_, rfl⟩
      have em : ((lo : Int) + (hi : Int)) / 2 = (m : Int) := by omega
      have hm1 : lo ≤ m := by omega
      have hm2 : m < hi := by omega
      have hm3 : m < fs.length := by omega
      clear hm
      obtain ⟨b, o, rfl, hb, c0, c1, c2⟩ := (HF.out.later hbel).at hm3
      by_cases hc : Op.bytesLess fs[m].name.toList t.toList = true
      · have hz : cmpZ fs[m].name t < 0 := cmpZ_neg.2 hc
        have HC : Hid (Op.bytesLess fs[m].name.toList t.toList = true) := hc
        clear hc
        go_wp2_with fail
        refine (findFn_any _ _ _ _ _).mono ?_
        rintro e w' ⟨rfl, hb2⟩
        go_wp2
        refine ⟨⟨m + 1, hi, by go_num, rfl, by omega, hhi, fun j hj hjm => ?_, HHI.out, hbel.trans (hb2.mono hbel.size)⟩, by simp [intOf]; omega⟩
        by_cases e : j = m
        · subst e; exact HC.out
        · exact less_trans _ _ _ (HA.out j m (by omega) hm3) HC.out
      · have hz : ¬ cmpZ fs[m].name t < 0 := fun h => hc (cmpZ_neg.1 h)
        have HC : Hid (Op.bytesLess fs[m].name.toList t.toList = false) := by show _ = _; simpa using hc
        clear hc
        go_wp2_with fail
        refine (findFn_any _ _ _ _ _).mono ?_
        rintro e w' ⟨rfl, hb2⟩
        go_wp2
        refine ⟨⟨lo, m, rfl, rfl, hm1, by omega, HLO.out, fun j hj hjm => ?_, hbel.trans (hb2.mono hbel.size)⟩, by simp [intOf]; omega⟩
        by_cases e : j = m
        · subst e; exact HC.out
        · rw [Bool.eq_false_iff]
          intro h
          have := less_trans _ _ _ (HA.out m j (by omega) hj) h
          rw [HC.out] at this
          exact absurd this (by simp)
    · obtain rfl : lo = hi := by omega
      have HP : Hid (PosIs fs t lo) := ⟨hhi, HLO.out, HHI.out⟩
      by_cases hn : lo < fs.length
      · obtain ⟨b, o, rfl, hb, c0, c1, c2⟩ := (HF.out.later hbel).at hn
        have E : Hid ((cmpZ fs[lo].name t == 0) = hasB fs t lo) := by show _ = _; rw [cmpZ_zero]; simp [hasB, List.getElem?_eq_getElem hn]
        go_wp2_with fail
        refine (findFn_any _ _ _ _ _).mono ?_
        rintro e w' ⟨rfl, hb2⟩
        go_wp2
        go_ret2
        exact ⟨lo, HP.out, ret_tup2 rfl (congrArg Value.bool E.out), hbel.trans (hb2.mono hbel.size)⟩
      · have E : Hid (hasB fs t lo = false) := by show _ = _; simp [hasB, List.getElem?_eq_none (Nat.not_lt.1 hn)]
        go_wp2
        go_ret2
        exact ⟨lo, HP.out, ret_tup2 rfl (congrArg Value.bool E.out.symm), hbel⟩

set_option maxHeartbeats 400000 in
theorem findFile_any (a : Option Addr) (cap : Nat) (fs : List FileD) (t : ByteArray) (w : World) (hf : FilesIn w a fs) (hasc : Asc fs) (hlen : fs.length ≤ 1048576) :
    Calls Tryz.prog 79 #[.slice a fs.length cap, .string t] w fun e w' =>
      ∃ i, PosIs fs t i ∧ e = .returned (.tuple #[.int .i64 i, .bool (hasB fs t i)]) ∧ Below w.heap.size w w' := by
  have HF : Hid (FilesIn w a fs) := hf
  have HA : Hid (Asc fs) := hasc
  clear hf hasc
  go_enter Tryz.func79, Tryz.ntmps79
  go_wp2_with fail
  refine (search_any a cap fs t _ HF.out HA.out hlen).mono ?_
  rintro e w' ⟨i, hp, rfl, hb⟩
  have HP : Hid (PosIs fs t i) := hp
  clear hp
  go_wp2
  go_ret2
  exact ⟨i, HP.out, rfl, hb⟩

/-- Where the names ascend, the place by halving is the place by looking through. -/
theorem find_pos {fs : List FileD} {t : ByteArray} (ha : Asc fs) {i : Nat} (hp : PosIs fs t i) : findFrom t fs 0 = if hasB fs t i = true then (i : Int) else -1 := by
  have gen : ∀ (n k : Nat), k + n = fs.length → (∀ j (h : j < fs.length), j < k → (fs[j].name.toList == t.toList) = false) → findFrom t (fs.drop k) k = if hasB fs t i = true then (i : Int) else -1 := by
    intro n
    induction n with
    | zero =>
      intro k hk hno
      rw [List.drop_eq_nil_of_le (by omega), findFrom]
      rw [if_neg]
      intro h
      unfold hasB at h
      split at h
      · exact absurd h (by simp)
      · rename_i f hf
        obtain ⟨hlt, rfl⟩ := List.getElem?_eq_some_iff.1 hf
        rw [hno i hlt (by omega)] at h
        exact absurd h (by simp)
    | succ n ih =>
      intro k hk hno
      have hlt : k < fs.length := by omega
      rw [List.drop_eq_getElem_cons hlt, findFrom]
      by_cases he : (fs[k].name.toList == t.toList) = true
      · rw [if_pos he]
        have hq : PosIs fs t k := by
          have e : fs[k].name.toList = t.toList := by simpa using he
          refine ⟨by omega, fun j hj hjk => ?_, fun j hj hkj => ?_⟩
          · rw [← e]; exact ha j k hjk hlt
          · rw [← e]
            by_cases ej : j = k
            · subst ej; exact less_irrefl _
            · exact less_asymm (ha k j (by omega) hj)
        obtain rfl := hp.uniq hq
        rw [if_pos]
        simp [hasB, List.getElem?_eq_getElem hlt, he]
      · rw [if_neg he]
        refine ih (k + 1) (by omega) fun j hj hjk => ?_
        by_cases ej : j = k
        · subst ej; simpa using he
        · exact hno j hj (by omega)
  have := gen fs.length 0 (by omega) (fun j _ h => absurd h (by omega))
  simpa using this
end Go.Proofs.YtflfopienjjlbaaGreatDoor

namespace Go.Proofs.YtflfopienjjlbaaGreatDoor
open Go.RowKit

def flat (fs : List FileD) : List Value := fs.flatMap fun f => [.string f.name, .string f.data, .int .i64 f.synced]

theorem flat_append (a b : List FileD) : flat (a ++ b) = flat a ++ flat b := by simp [flat]
theorem flat_one (f : FileD) : flat [f] = [.string f.name, .string f.data, .int .i64 f.synced] := rfl
theorem flat_length (fs : List FileD) : (flat fs).length = fs.length * 3 := by
  induction fs with
  | nil => rfl
  | cons f r ih => simp [flat] at *; omega

theorem flat_get : ∀ (fs : List FileD) (j : Nat) (h : j < fs.length), (flat fs)[j * 3]? = some (.string fs[j].name) ∧ (flat fs)[j * 3 + 1]? = some (.string fs[j].data) ∧ (flat fs)[j * 3 + 2]? = some (.int .i64 fs[j].synced)
  | [], _, h => absurd h (by simp)
  | f :: r, 0, _ => by simp [flat]
  | f :: r, j + 1, h => by
    have ih := flat_get r j (by simpa using h)
    have e : flat (f :: r) = [.string f.name, .string f.data, .int .i64 f.synced] ++ flat r := rfl
    rw [e]
    have e1 : (j + 1) * 3 = 3 + j * 3 := by omega
    have e2 : (j + 1) * 3 + 1 = 3 + (j * 3 + 1) := by omega
    have e3 : (j + 1) * 3 + 2 = 3 + (j * 3 + 2) := by omega
    have hq : ∀ p, ([.string f.name, .string f.data, .int .i64 f.synced] ++ flat r)[3 + p]? = (flat r)[p]? := fun p => by
      rw [List.getElem?_append_right (by simp)]; simp
    rw [e3, e2, e1, hq, hq, hq]
    exact ih

theorem flat_one_cell (fs : List FileD) : ∀ u ∈ flat fs, u.oneCell' = true := by
  intro u hu
  simp only [flat, List.mem_flatMap, List.mem_cons, List.not_mem_nil, or_false] at hu
  obtain ⟨f, _, rfl | rfl | rfl⟩ := hu <;> rfl

/-- A row of files that the call owns. -/
theorem owned_of_row {w : World} {B : Nat} {e : TypeId} {v : Value} {fs : List FileD} (h : w.ownsRow B e 3 v fs.length (flat fs)) : ∃ a cap, v = .slice a fs.length cap ∧ Owned w B a fs := by
  rcases h.2 with ⟨rfl, h0⟩ | ⟨g, cap, cur, rfl, hB, hg, _, _, _, ht⟩
  · have : fs = [] := List.length_eq_zero_iff.1 h0
    subst this
    exact ⟨none, 0, rfl, Or.inl rfl⟩
  · refine ⟨_, cap, rfl, Or.inr ⟨g, 0, cur, e, rfl, hB, hg, filesAt_of_rows hg fun j hj => ?_⟩⟩
    have key : ∀ p v, (flat fs)[p]? = some v → cur[p]? = some v := fun p v hp => by
      rw [← ht] at hp
      have hlt := (List.getElem?_eq_some_iff.1 hp).1
      rw [List.length_take] at hlt
      rw [List.getElem?_take_of_lt (by omega)] at hp
      simpa using hp
    obtain ⟨a1, a2, a3⟩ := flat_get fs j hj
    refine ⟨?_, ?_, ?_⟩
    · rw [Nat.zero_add]; exact key _ _ a1
    · rw [Nat.zero_add]; exact key _ _ a2
    · rw [Nat.zero_add]; exact key _ _ a3

theorem row_later {w w' : World} {B : Nat} {e : TypeId} {size : Nat} {v : Value} {n : Nat} {xs : List Value} (h : w.ownsRow B e size v n xs) (hb : Below w.heap.size w w') : w'.ownsRow B e size v n xs := by
  obtain ⟨h1, h2⟩ := h
  refine ⟨h1, ?_⟩
  rcases h2 with h2 | ⟨g, cap, cur, hv, hB, hg, r⟩
  · exact Or.inl h2
  · exact Or.inr ⟨g, cap, cur, hv, hB, (hb.block g (lt_of_block hg)).trans hg, r⟩

theorem row_set_below {w : World} {B : Nat} {e : TypeId} {size : Nat} {v : Value} {n : Nat} {xs : List Value} (h : w.ownsRow B e size v n xs) {p : Addr} (hp : p.block < B) (u : Value) : (w.setCell p u).ownsRow B e size v n xs := by
  obtain ⟨h1, h2⟩ := h
  refine ⟨h1, ?_⟩
  rcases h2 with h2 | ⟨g, cap, cur, hv, hB, hg, r⟩
  · exact Or.inl h2
  · exact Or.inr ⟨g, cap, cur, hv, hB, (Below.heap_setCell w p u g (by omega)).trans hg, r⟩

/-- The cells of files that lie behind an address. -/
theorem cells_of_files {w : World} {b o : Nat} {fs : List FileD} (h : FilesAt w b o fs) : ∀ j u, (flat fs)[j]? = some u → w.cell? ((⟨b, o, none⟩ : Addr).add j) = some u := by
  intro j u hu
  have hlt := (List.getElem?_eq_some_iff.1 hu).1
  rw [flat_length] at hlt
  have hj : j / 3 < fs.length := by omega
  obtain ⟨a1, a2, a3⟩ := flat_get fs (j / 3) hj
  obtain ⟨c1, c2, c3⟩ := h (j / 3) hj
  have hadd : (⟨b, o, none⟩ : Addr).add j = ⟨b, o + j, none⟩ := by unfold Addr.add; split <;> simp_all
  rw [hadd]
  have hm : j % 3 = 0 ∨ j % 3 = 1 ∨ j % 3 = 2 := by omega
  rcases hm with hm | hm | hm
  · have e : j = j / 3 * 3 := by omega
    rw [e] at hu
    rw [a1] at hu
    rw [show o + j = o + j / 3 * 3 by omega, c1]; exact hu
  · have e : j = j / 3 * 3 + 1 := by omega
    rw [e] at hu
    rw [a2] at hu
    rw [show o + j = o + j / 3 * 3 + 1 by omega, c2]; exact hu
  · have e : j = j / 3 * 3 + 2 := by omega
    rw [e] at hu
    rw [a3] at hu
    rw [show o + j = o + j / 3 * 3 + 2 by omega, c3]; exact hu
end Go.Proofs.YtflfopienjjlbaaGreatDoor

namespace Go.Proofs.YtflfopienjjlbaaGreatDoor
open Go.RowKit

theorem info_filex : ∃ i, Tryz.prog.info? 59 = some i ∧ i.zero = some (.agg #[.string ByteArray.empty, .string ByteArray.empty, .int .i64 0]) ∧ i.size = 3 ∧ i.bytes = 40 := by
  have h : (Tryz.prog.info? 59).map (fun i => (i.zero, i.size, i.bytes)) = some (some (.agg #[.string ByteArray.empty, .string ByteArray.empty, .int .i64 0]), 3, 40) := by kernel_rfl
  obtain ⟨i, hi, hzz⟩ := Option.map_eq_some_iff.1 h
  simp only [Prod.mk.injEq] at hzz
  exact ⟨i, hi, hzz⟩

set_option maxRecDepth 100000 in
set_option maxHeartbeats 1000000 in
theorem clone_any (a : Option Addr) (cap : Nat) (fs : List FileD) (w : World) (hf : FilesIn w a fs) (hlen : fs.length ≤ 1048576) :
    Calls Tryz.prog 64 #[.slice a fs.length cap] w fun e w' => ∃ v, e = .returned v ∧ w'.ownsRow w.heap.size 59 3 v fs.length (flat fs) ∧ Below w.heap.size w w' := by
  have heq := fun w' => Lib.run_eql_slice_nil (P := Tryz.prog) w' 26 59 a fs.length cap 0 0 Tryz.underlying26
  cases a with
  | none =>
    have h0 : fs = [] := by
      rcases hf with h | ⟨b, o, e, _⟩
      · exact h
      · exact absurd e (by simp)
    subst h0
    have heq2 := fun w' => Lib.run_eql_slice_nil (P := Tryz.prog) w' 26 59 none 0 cap 0 0 Tryz.underlying26
    clear heq
    go_enter Tryz.func64, Tryz.ntmps64
    go_wp2
    go_ret
    exact ⟨_, rfl, ⟨rfl, Or.inl ⟨rfl, rfl⟩⟩, Below.refl _ _⟩
  | some ad =>
    obtain ⟨i, hi, hz0, hz1, hz2⟩ := info_filex
    have hown : (w.alloc (.cells #[] 59)).ownsRow w.heap.size 59 3 (.slice (some ⟨w.heap.size, 0, none⟩) 0 0) 0 [] :=
      ⟨rfl, Or.inr ⟨w.heap.size, 0, #[], rfl, Nat.le_refl _, heap_alloc_new _ _, Nat.le_refl _, Nat.zero_le _, rfl, rfl⟩⟩
    have HO : Hid ((w.alloc (.cells #[] 59)).ownsRow w.heap.size 59 3 (.slice (some ⟨w.heap.size, 0, none⟩) 0 0) 0 []) := hown
    have hnews : ∀ j u, (flat fs)[j]? = some u → (w.alloc (.cells #[] 59)).cell? (ad.add j) = some u := by
      rcases hf.later (bnew w (.cells #[] 59)) with rfl | ⟨b, o, e, _, h⟩
      · intro j u h; simp [flat] at h
      · simp only [Option.some.injEq] at e
        subst e
        exact cells_of_files h
    have HN : Hid (∀ j u, (flat fs)[j]? = some u → (w.alloc (.cells #[] 59)).cell? (ad.add j) = some u) := hnews
    have HI : Hid (Tryz.prog.info? 59 = some i) := hi
    clear hf hown hnews hi
    go_enter Tryz.func64, Tryz.ntmps64
    go_wp2_with (at_builtin; refine wpList_append_own_at _ rfl _ _ _ rfl w.heap.size 59 i _ 3 40 Tryz.underlying26 HI.out hz0 hz1 hz2 rfl (by omega) (.slice (some ⟨w.heap.size, 0, none⟩) 0 0) 0 [] rfl HO.out ad fs.length cap (flat fs) rfl (flat_length fs) HN.out (flat_one_cell fs) (by simp [maxLen]; omega) (by omega) (by simp) ?_; intro v1 w1 hown1 hgrow _ _)
    go_ret
    simp only [Nat.zero_add, List.nil_append] at hown1
    refine ⟨v1, rfl, hown1, (bnew _ _).grown hgrow (by simp) (fun k hk => ?_)⟩
    simp [Value.ownBlock] at hk
    omega
end Go.Proofs.YtflfopienjjlbaaGreatDoor

