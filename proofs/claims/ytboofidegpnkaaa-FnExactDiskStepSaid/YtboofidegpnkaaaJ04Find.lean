import Derived.WalkKit
import Derived.Test.YtboofidegpnkaaaProg
import Derived.Test.YtboofidegpnkaaaJ03Cmp
namespace Go.Proofs.Ytboofidegpnkaaa

theorem less_irrefl : ∀ x : List UInt8, Op.bytesLess x x = false
  | [] => rfl
  | a :: x => by simp [Op.bytesLess, less_irrefl x]

theorem less_trans : ∀ x y z : List UInt8, Op.bytesLess x y = true → Op.bytesLess y z = true → Op.bytesLess x z = true
  | _, _, [], _, h => by simp [Op.bytesLess] at h
  | _, [], _ :: _, h, _ => by simp [Op.bytesLess] at h
  | [], _ :: _, _ :: _, _, _ => by simp [Op.bytesLess]
  | a :: x, b :: y, c :: z, h1, h2 => by
    simp only [Op.bytesLess, Bool.or_eq_true, Bool.and_eq_true, decide_eq_true_eq, beq_iff_eq] at h1 h2 ⊢
    rcases h1 with h1 | ⟨rfl, h1⟩
    · rcases h2 with h2 | ⟨rfl, _⟩
      · exact Or.inl (UInt8.lt_trans h1 h2)
      · exact Or.inl h1
    · rcases h2 with h2 | ⟨rfl, h2⟩
      · exact Or.inl h2
      · exact Or.inr ⟨rfl, less_trans x y z h1 h2⟩

theorem less_total : ∀ x y : List UInt8, Op.bytesLess x y = false → x ≠ y → Op.bytesLess y x = true
  | [], [], _, h => absurd rfl h
  | [], _ :: _, h, _ => by simp [Op.bytesLess] at h
  | _ :: _, [], _, _ => by simp [Op.bytesLess]
  | a :: x, b :: y, h, hne => by
    simp only [Op.bytesLess, Bool.or_eq_false_iff, Bool.and_eq_false_iff, decide_eq_false_iff_not, Bool.or_eq_true, Bool.and_eq_true, decide_eq_true_eq, beq_iff_eq] at h ⊢
    obtain ⟨h1, h2⟩ := h
    by_cases e : a = b
    · subst e
      rcases h2 with h2 | h2
      · simp at h2
      · exact Or.inr ⟨rfl, less_total x y h2 (fun e => hne (by rw [e]))⟩
    · left
      rcases UInt8.lt_or_lt_of_ne e with h | h
      · exact absurd h h1
      · exact h

theorem less_asymm {x y : List UInt8} (h : Op.bytesLess x y = true) : Op.bytesLess y x = false := by
  rw [Bool.eq_false_iff]
  intro h'
  have := less_trans x y x h h'
  rw [less_irrefl] at this
  exact absurd this (by simp)

theorem toList_inj {x y : ByteArray} (h : x.toList = y.toList) : x = y := by
  have h' : x.data.toList = y.data.toList := by rw [← ByteArray.toList_eq x, ← ByteArray.toList_eq y]; exact h
  cases x; cases y
  simp only [ByteArray.mk.injEq]
  exact Array.toList_inj.1 h'
end Go.Proofs.Ytboofidegpnkaaa

namespace Go.Proofs.Ytboofidegpnkaaa
open Go.RowKit

theorem ret_tup2 {v0 v1 u0 u1 : Value} (h0 : v0 = u0) (h1 : v1 = u1) : Ending.returned (.tuple #[v0, v1]) = .returned (.tuple #[u0, u1]) := by rw [h0, h1]

/-- The first place of a file called t, from place i on; -1 if there is none. -/
def findFrom (t : ByteArray) : List FileD → Nat → Int
  | [], _ => -1
  | f :: r, i => if (f.name.toList == t.toList) = true then i else findFrom t r (i + 1)

set_option maxHeartbeats 1000000 in
theorem l1Find_any (a : Option Addr) (cap : Nat) (fs : List FileD) (c k0 cr fl : Int) (dn : Bool) (t : ByteArray) (w : World) (hf : FilesIn w a fs) (hlen : fs.length ≤ maxLen) :
    Calls Try.prog 30 #[.agg #[.slice a fs.length cap, .int .i64 c, .int .i64 k0, .int .i64 cr, .int .i64 fl, .bool dn], .string t] w fun e w' => e = .returned (.int .i64 (findFrom t fs 0)) ∧ Below w.heap.size w w' := by
  unfold maxLen at hlen
  have HF : Hid (FilesIn w a fs) := hf
  clear hf
  go_enter Try.func30, Try.ntmps30
  go_wp2
  go_loopw [5, 6, 10] (fun _ _ i wr => ∃ k : Nat, k ≤ fs.length ∧ i = .int .i64 k ∧ findFrom t fs 0 = findFrom t (fs.drop k) k ∧ Below w.heap.size w wr) (fun _ _ i _ => fs.length - (intOf i).toNat)
  case atStart => exact ⟨0, Nat.zero_le _, rfl, rfl, bnew _ _⟩
  case round =>
    obtain ⟨k, hk, rfl, hfd, hbel⟩ := hrel
    have HFD : Hid (findFrom t fs 0 = findFrom t (fs.drop k) k) := hfd
    clear hfd
    by_cases hlt : k < fs.length
    · obtain ⟨b, o, rfl, hb, c0, c1, c2⟩ := (HF.out.later hbel).at hlt
      have hd : fs.drop k = fs[k] :: fs.drop (k + 1) := List.drop_eq_getElem_cons hlt
      by_cases he : (fs[k].name.toList == t.toList) = true
      · have E : Hid (findFrom t fs 0 = k) := by show _ = _; rw [HFD.out, hd, findFrom, if_pos he]
        clear hd
        go_wp2
        go_ret
        exact ⟨ret_int E.out.symm, hbel.alloc hbel.size _⟩
      · have he' : (fs[k].name.toList == t.toList) = false := by simpa using he
        have E : Hid (findFrom t fs 0 = findFrom t (fs.drop (k + 1)) (k + 1)) := by show _ = _; rw [HFD.out, hd, findFrom, if_neg he]
        clear hd he
        go_wp2
        exact ⟨⟨k + 1, by omega, by go_num, E.out, hbel.alloc hbel.size _⟩, by simp [intOf]; omega⟩
    · go_wp2
      go_ret
      have e : fs.drop k = [] := List.drop_eq_nil_of_le (by omega)
      exact ⟨ret_int (by rw [HFD.out, e]; rfl), hbel⟩

/-- Strictly ascending names. -/
def Asc (fs : List FileD) : Prop := ∀ i j (hi : i < j) (hj : j < fs.length), Op.bytesLess fs[i].name.toList fs[j].name.toList = true

theorem okAt_succ {fs : List FileD} {j : Nat} (h : okAt fs (j + 1) = true) (hj : j + 1 < fs.length) : Op.bytesLess fs[j].name.toList fs[j + 1].name.toList = true := by
  simp [okAt, List.getElem?_eq_getElem hj, List.getElem?_eq_getElem (show j < fs.length by omega)] at h
  exact h.2

theorem asc_of {fs : List FileD} (h : filesB fs = true) : Asc fs := by
  simp only [filesB, okTo, List.all_eq_true, List.mem_range] at h
  intro i j hi hj
  induction j with
  | zero => omega
  | succ j ih =>
    have hs := okAt_succ (h (j + 1) hj) hj
    by_cases e : i = j
    · subst e; exact hs
    · exact less_trans _ _ _ (ih (by omega) (by omega)) hs

/-- i is where t is, or would be. -/
def PosIs (fs : List FileD) (t : ByteArray) (i : Nat) : Prop := i ≤ fs.length ∧ (∀ j (h : j < fs.length), j < i → Op.bytesLess fs[j].name.toList t.toList = true) ∧ (∀ j (h : j < fs.length), i ≤ j → Op.bytesLess fs[j].name.toList t.toList = false)

def posOf (t : ByteArray) : List FileD → Nat
  | [] => 0
  | f :: r => if Op.bytesLess f.name.toList t.toList = true then posOf t r + 1 else 0

theorem PosIs.uniq {fs : List FileD} {t : ByteArray} {i j : Nat} (h : PosIs fs t i) (k : PosIs fs t j) : i = j := by
  rcases Nat.lt_trichotomy i j with hlt | he | hlt
  · have a := k.2.1 i (by have := k.1; omega) hlt
    have b := h.2.2 i (by have := k.1; omega) (Nat.le_refl _)
    rw [a] at b; exact absurd b (by simp)
  · exact he
  · have a := h.2.1 j (by have := h.1; omega) hlt
    have b := k.2.2 j (by have := h.1; omega) (Nat.le_refl _)
    rw [a] at b; exact absurd b (by simp)

def hasB (fs : List FileD) (t : ByteArray) (i : Nat) : Bool := match fs[i]? with
  | none => false
  | some f => f.name.toList == t.toList

theorem cmpZ_neg {x y : ByteArray} : (cmpZ x y < 0) ↔ Op.bytesLess x.toList y.toList = true := by
  unfold cmpZ; split <;> (try split) <;> simp_all
theorem cmpZ_zero {x y : ByteArray} : (cmpZ x y == 0) = (x.toList == y.toList) := by
  unfold cmpZ
  by_cases h : Op.bytesLess x.toList y.toList = true
  · rw [if_pos h]
    have : (x.toList == y.toList) = false := by
      rw [beq_eq_false_iff_ne]; intro e; rw [e, less_irrefl] at h; exact absurd h (by simp)
    rw [this]; rfl
  · rw [if_neg h]
    by_cases e : (x.toList == y.toList) = true
    · rw [if_pos e, e]; rfl
    · rw [if_neg e]; simp at e; simp [e]

set_option maxHeartbeats 1000000 in
theorem search_any (a : Option Addr) (cap : Nat) (fs : List FileD) (t : ByteArray) (w : World) (hf : FilesIn w a fs) (hasc : Asc fs) (hlen : fs.length ≤ 1048576) :
    Calls Try.prog 53 #[.slice a fs.length cap, .string t, .func (.func 54) #[] #[]] w fun e w' =>
      ∃ i, PosIs fs t i ∧ e = .returned (.tuple #[.int .i64 i, .bool (hasB fs t i)]) ∧ Below w.heap.size w w' := by
  have HF : Hid (FilesIn w a fs) := hf
  have HA : Hid (Asc fs) := hasc
  clear hf hasc
  go_enter Try.func53, Try.ntmps53
  go_wp2
  go_loopw [9, 10, 11] (fun i j _ wr => ∃ lo hi : Nat, i = .int .i64 lo ∧ j = .int .i64 hi ∧ lo ≤ hi ∧ hi ≤ fs.length ∧ (∀ m (h : m < fs.length), m < lo → Op.bytesLess fs[m].name.toList t.toList = true) ∧
      (∀ m (h : m < fs.length), hi ≤ m → Op.bytesLess fs[m].name.toList t.toList = false) ∧ Below w.heap.size w wr) (fun i j _ _ => (intOf j).toNat - (intOf i).toNat)
  case atStart => exact ⟨0, fs.length, rfl, rfl, Nat.zero_le _, Nat.le_refl _, fun m h k => absurd k (by omega), fun m h k => absurd k (by omega), Below.refl _ _⟩
  case round =>
    obtain ⟨lo, hi, rfl, rfl, hle, hhi, hlo', hhi', hbel⟩ := hrel
    have HLO : Hid (∀ m (h : m < fs.length), m < lo → Op.bytesLess fs[m].name.toList t.toList = true) := hlo'
    have HHI : Hid (∀ m (h : m < fs.length), hi ≤ m → Op.bytesLess fs[m].name.toList t.toList = false) := hhi'
    clear hlo' hhi'
    by_cases hlt : lo < hi
    · obtain ⟨m, hm⟩ : ∃ m : Nat, m = (lo + hi) / 2 := ⟨_, rfl⟩
      have em : ((lo : Int) + (hi : Int)) / 2 = (m : Int) := by omega
      have hm1 : lo ≤ m := by omega
      have hm2 : m < hi := by omega
      have hm3 : m < fs.length := by omega
      clear hm
      obtain ⟨b, o, rfl, hb, c0, c1, c2⟩ := (HF.out.later hbel).at hm3
      by_cases hc : Op.bytesLess fs[m].name.toList t.toList = true
      · have hz : cmpZ fs[m].name t < 0 := cmpZ_neg.2 hc
        have HC : Hid (Op.bytesLess fs[m].name.toList t.toList = true) := hc
        clear hc
        go_wp2_with fail
        refine (findFn_any _ _ _ _ _).mono ?_
        rintro e w' ⟨rfl, hb2⟩
        go_wp2
        refine ⟨⟨m + 1, hi, by go_num, rfl, by omega, hhi, fun j hj hjm => ?_, HHI.out, hbel.trans (hb2.mono hbel.size)⟩, by simp [intOf]; omega⟩
        by_cases e : j = m
        · subst e; exact HC.out
        · exact less_trans _ _ _ (HA.out j m (by omega) hm3) HC.out
      · have hz : ¬ cmpZ fs[m].name t < 0 := fun h => hc (cmpZ_neg.1 h)
        have HC : Hid (Op.bytesLess fs[m].name.toList t.toList = false) := by show _ = _; simpa using hc
        clear hc
        go_wp2_with fail
        refine (findFn_any _ _ _ _ _).mono ?_
        rintro e w' ⟨rfl, hb2⟩
        go_wp2
        refine ⟨⟨lo, m, rfl, rfl, hm1, by omega, HLO.out, fun j hj hjm => ?_, hbel.trans (hb2.mono hbel.size)⟩, by simp [intOf]; omega⟩
        by_cases e : j = m
        · subst e; exact HC.out
        · rw [Bool.eq_false_iff]
          intro h
          have := less_trans _ _ _ (HA.out m j (by omega) hj) h
          rw [HC.out] at this
          exact absurd this (by simp)
    · obtain rfl : lo = hi := by omega
      have HP : Hid (PosIs fs t lo) := ⟨hhi, HLO.out, HHI.out⟩
      by_cases hn : lo < fs.length
      · obtain ⟨b, o, rfl, hb, c0, c1, c2⟩ := (HF.out.later hbel).at hn
        have E : Hid ((cmpZ fs[lo].name t == 0) = hasB fs t lo) := by show _ = _; rw [cmpZ_zero]; simp [hasB, List.getElem?_eq_getElem hn]
        go_wp2_with fail
        refine (findFn_any _ _ _ _ _).mono ?_
        rintro e w' ⟨rfl, hb2⟩
        go_wp2
        go_ret2
        exact ⟨lo, HP.out, ret_tup2 rfl (congrArg Value.bool E.out), hbel.trans (hb2.mono hbel.size)⟩
      · have E : Hid (hasB fs t lo = false) := by show _ = _; simp [hasB, List.getElem?_eq_none (Nat.not_lt.1 hn)]
        go_wp2
        go_ret2
        exact ⟨lo, HP.out, ret_tup2 rfl (congrArg Value.bool E.out.symm), hbel⟩

set_option maxHeartbeats 400000 in
theorem findFile_any (a : Option Addr) (cap : Nat) (fs : List FileD) (t : ByteArray) (w : World) (hf : FilesIn w a fs) (hasc : Asc fs) (hlen : fs.length ≤ 1048576) :
    Calls Try.prog 41 #[.slice a fs.length cap, .string t] w fun e w' =>
      ∃ i, PosIs fs t i ∧ e = .returned (.tuple #[.int .i64 i, .bool (hasB fs t i)]) ∧ Below w.heap.size w w' := by
  have HF : Hid (FilesIn w a fs) := hf
  have HA : Hid (Asc fs) := hasc
  clear hf hasc
  go_enter Try.func41, Try.ntmps41
  go_wp2_with fail
  refine (search_any a cap fs t _ HF.out HA.out hlen).mono ?_
  rintro e w' ⟨i, hp, rfl, hb⟩
  have HP : Hid (PosIs fs t i) := hp
  clear hp
  go_wp2
  go_ret2
  exact ⟨i, HP.out, rfl, hb⟩

/-- Where the names ascend, the place by halving is the place by looking through. -/
theorem find_pos {fs : List FileD} {t : ByteArray} (ha : Asc fs) {i : Nat} (hp : PosIs fs t i) : findFrom t fs 0 = if hasB fs t i = true then (i : Int) else -1 := by
  have gen : ∀ (n k : Nat), k + n = fs.length → (∀ j (h : j < fs.length), j < k → (fs[j].name.toList == t.toList) = false) → findFrom t (fs.drop k) k = if hasB fs t i = true then (i : Int) else -1 := by
    intro n
    induction n with
    | zero =>
      intro k hk hno
      rw [List.drop_eq_nil_of_le (by omega), findFrom]
      rw [if_neg]
      intro h
      unfold hasB at h
      split at h
      · exact absurd h (by simp)
      · rename_i f hf
        obtain ⟨hlt, rfl⟩ := List.getElem?_eq_some_iff.1 hf
        rw [hno i hlt (by omega)] at h
        exact absurd h (by simp)
    | succ n ih =>
      intro k hk hno
      have hlt : k < fs.length := by omega
      rw [List.drop_eq_getElem_cons hlt, findFrom]
      by_cases he : (fs[k].name.toList == t.toList) = true
      · rw [if_pos he]
        have hq : PosIs fs t k := by
          have e : fs[k].name.toList = t.toList := by simpa using he
          refine ⟨by omega, fun j hj hjk => ?_, fun j hj hkj => ?_⟩
          · rw [← e]; exact ha j k hjk hlt
          · rw [← e]
            by_cases ej : j = k
            · subst ej; exact less_irrefl _
            · exact less_asymm (ha k j (by omega) hj)
        obtain rfl := hp.uniq hq
        rw [if_pos]
        simp [hasB, List.getElem?_eq_getElem hlt, he]
      · rw [if_neg he]
        refine ih (k + 1) (by omega) fun j hj hjk => ?_
        by_cases ej : j = k
        · subst ej; simpa using he
        · exact hno j hj (by omega)
  have := gen fs.length 0 (by omega) (fun j _ h => absurd h (by omega))
  simpa using this
end Go.Proofs.Ytboofidegpnkaaa

