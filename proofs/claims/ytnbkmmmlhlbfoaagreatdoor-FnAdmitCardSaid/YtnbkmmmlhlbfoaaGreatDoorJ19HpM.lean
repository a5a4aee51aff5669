import Derived.Test.YtnbkmmmlhlbfoaaGreatDoorProg
import Derived.Test.YtnbkmmmlhlbfoaaGreatDoorJ16IFaultOf
import Derived.Test.YtnbkmmmlhlbfoaaGreatDoorJ10RecB
import Derived.Test.YtnbkmmmlhlbfoaaGreatDoorJ04SVal
import Derived.Test.YtnbkmmmlhlbfoaaGreatDoorJ18Met
import Derived.Test.YtnbkmmmlhlbfoaaGreatDoorJ01DrawV
import Derived.Test.YtnbkmmmlhlbfoaaGreatDoorJ09InsL
import Derived.BigRegion
namespace Go.Proofs.YtnbkmmmlhlbfoaaGreatDoor
open Go.RowKit
theorem okT_eq (c : UInt8) : okM [45] c = okT c := by
  have e : decide (0 ≤ Lib.indexByte [45] c) = (c == 45) := by
    by_cases h : c = 45
    · subst h; rfl
    · have h1 : ((45 : UInt8) == c) = false := by simpa using fun e => h e.symm
      have h2 : (c == 45) = false := by simpa using h
      simp [Lib.indexByte, h1, h2]
  rw [okM, okT, e]
theorem tname_plain (s : ByteArray) : plainB s 32 ⟨#[45]⟩ = tnameB s := by
  have e : okM [45] = okT := funext okT_eq
  rw [plainB, tnameB, e]
  congr 2
  rw [Bool.eq_iff_iff]; simp; omega
set_option maxRecDepth 100000 in
set_option maxHeartbeats 1000000 in
theorem isTenantName_any (s : ByteArray) (w : World) (hs : s.size ≤ maxLen) : Calls Tryz.prog 30 #[.string s] w fun e w' => e = .returned (.bool (tnameB s)) ∧ w' = w := by
  have H : Hid (∀ W, Calls Tryz.prog 61 #[.string s, .int .i64 32, .string ⟨#[45]⟩] W fun e w' => e = .returned (.bool (tnameB s)) ∧ w' = W) := fun W => tname_plain s ▸ isPlain_any s 32 ⟨#[45]⟩ W hs
  generalize tnameB s = R at *
  go_enter Tryz.func30, Tryz.ntmps30
  go_wp2_with fail
  refine (H.out _).mono ?_
  rintro e w' ⟨rfl, hw⟩
  replace hw := hw.symm
  subst hw
  go_wp2
  go_ret
  exact ⟨rfl, rfl⟩
theorem okT_iff (c : UInt8) : okT c = decide ((97 ≤ (c.toNat : Int) ∧ (c.toNat : Int) ≤ 122) ∨ (48 ≤ (c.toNat : Int) ∧ (c.toNat : Int) ≤ 57) ∨ (c.toNat : Int) = 45) := by
  have e45 : (c == 45) = decide (c.toNat = 45) := by rw [Bool.eq_iff_iff]; simp [← UInt8.toNat_inj]
  rw [Bool.eq_iff_iff]
  simp [okT, e45, UInt8.le_iff_toNat_le]
  omega
set_option maxRecDepth 100000 in
set_option maxHeartbeats 2000000 in
theorem l4TenantName_any (s : ByteArray) (w : World) (hs : s.size ≤ maxLen) :
    Calls Tryz.prog 17 #[.string s] w fun e w' => e = .returned (.bool (tnameB s)) ∧ w' = w := by
  unfold maxLen at hs
  by_cases h1 : 1 ≤ s.size ∧ s.size ≤ 32
  · have hB : btwB (s.size : Int) 1 32 = true := by unfold btwB; simp; omega
    have HN : Hid (tnameB s = s.data.toList.all okT) := by show _ = _; simp [tnameB, h1.1, h1.2]
    have hl := h1.1
    have hu := h1.2
    clear h1
    go_enter Tryz.func17, Tryz.ntmps17
    go_wp2_with (go_at_call 44; refine (between_any _ _ _ _).mono ?_; rintro e w' ⟨rfl, rfl⟩)
    go_loop [3, 4] (fun i _ => ∃ k : Nat, k ≤ s.size ∧ i = .int .i64 k ∧ (s.data.toList.take k).all okT = true) (fun i _ => s.size - (intOf i).toNat)
    case atStart => exact ⟨0, Nat.zero_le _, rfl, by simp⟩
    case round =>
      obtain ⟨k, hk, rfl, hok⟩ := hrel
      have HOK : Hid ((s.data.toList.take k).all okT = true) := hok
      clear hok hB
      by_cases hlt : k < s.size
      · have hsn := all_take_succ (f := okT) hlt
        rw [HOK.out, Bool.true_and, okT_iff] at hsn
        have HS : Hid ((s.data.toList.take (k + 1)).all okT = decide ((97 ≤ (s[k].toNat : Int) ∧ (s[k].toNat : Int) ≤ 122) ∨ (48 ≤ (s[k].toNat : Int) ∧ (s[k].toNat : Int) ≤ 57) ∨ (s[k].toNat : Int) = 45)) := hsn
        clear hsn
        go_wp2
        all_goals first
          | (go_ret
             refine ⟨ret_bool ?_, rfl⟩
             rw [HN.out]
             refine (all_not (k := k + 1) ?_).symm
             rw [HS.out, decide_eq_false_iff_not]
             simp at *
             omega)
          | (refine ⟨⟨k + 1, by omega, by go_num, ?_⟩, by simp [intOf]; omega⟩
             rw [HS.out, decide_eq_true_iff]
             simp at *
             omega)
      · go_wp2
        go_ret
        exact ⟨ret_bool (by rw [HN.out, ← HOK.out, List.take_of_length_le (by simp; omega)]), rfl⟩
  · have hB : btwB (s.size : Int) 1 32 = false := by unfold btwB; simp; omega
    have HN : Hid (tnameB s = false) := by show _ = _; simp [tnameB]; omega
    go_enter Tryz.func17, Tryz.ntmps17
    go_wp2_with (go_at_call 44; refine (between_any _ _ _ _).mono ?_; rintro e w' ⟨rfl, rfl⟩)
    go_ret
    exact ⟨ret_bool HN.out.symm, rfl⟩
set_option maxRecDepth 100000 in
set_option maxHeartbeats 1000000 in
theorem isMetricName_any (s : ByteArray) (w : World) (hs : s.size ≤ 1000000000) (hT : UTab w) : Calls Tryz.prog 62 #[.string s] w fun e w' => e = .returned (.bool (mnameB s)) ∧ Below w.heap.size w w' := by
  have H : Hid (Calls Tryz.prog 91 #[.string s] w fun e w' => e = .returned (.int .i64 (valV s : Nat)) ∧ Below w.heap.size w w') := implVal_any s w hs hT
  have HV : Hid (mnameB s = (!s.toList.isEmpty && decide (valV s = 0))) := rfl
  clear hT
  generalize valV s = v at *
  by_cases h0 : s.toList.isEmpty = true
  · go_enter Tryz.func62, Tryz.ntmps62
    go_wp2
    go_ret
    exact ⟨ret_bool (by rw [HV.out, h0]; rfl), Below.refl _ _⟩
  · have h1 : s.toList.isEmpty = false := by simpa using h0
    clear h0
    go_enter Tryz.func62, Tryz.ntmps62
    go_wp2_with fail
    refine H.out.mono ?_
    rintro e w1 ⟨rfl, hb⟩
    go_wp2
    go_ret
    exact ⟨ret_bool (by rw [HV.out, h1]; rw [Bool.eq_iff_iff]; simp), hb⟩
set_option maxRecDepth 100000 in
set_option maxHeartbeats 1000000 in
theorem l4MetricName_any (s : ByteArray) (w : World) (hs : s.size ≤ 1000000000) : Calls Tryz.prog 45 #[.string s] w fun e w' => e = .returned (.bool (mnameB s)) ∧ Below w.heap.size w w' := by
  have H : Hid (Calls Tryz.prog 72 #[.string s] w fun e w' => e = .returned (.int .i64 (valV s : Nat)) ∧ Below w.heap.size w w') := specVal_any s w hs
  have HV : Hid (mnameB s = (!s.toList.isEmpty && decide (valV s = 0))) := rfl
  generalize valV s = v at *
  by_cases h0 : s.toList.isEmpty = true
  · go_enter Tryz.func45, Tryz.ntmps45
    go_wp2
    go_ret
    exact ⟨ret_bool (by rw [HV.out, h0]; rfl), Below.refl _ _⟩
  · have h1 : s.toList.isEmpty = false := by simpa using h0
    clear h0
    go_enter Tryz.func45, Tryz.ntmps45
    go_wp2_with fail
    refine H.out.mono ?_
    rintro e w1 ⟨rfl, hb⟩
    go_wp2
    go_ret
    exact ⟨ret_bool (by rw [HV.out, h1]; rw [Bool.eq_iff_iff]; simp), hb⟩
theorem met_not {key : ByteArray} (h : (decV key).2 = false) : (metV (decV key).1).toList.isEmpty = true := by rw [(dec_not h).1]; simp [metV]
set_option maxRecDepth 100000 in
set_option maxHeartbeats 1000000 in
theorem l4Key_any (s : ByteArray) (w : World) (hs : s.size ≤ 1000000000) : Calls Tryz.prog 18 #[.string s] w fun e w' => e = .returned (.bool (keyOK s)) ∧ Below w.heap.size w w' := by
  have HI : Hid (Calls Tryz.prog 46 #[.string s] w fun e w' => ∃ a cap, e = .returned (.tuple #[.slice a (decV s).1.length cap, .bool (decV s).2]) ∧ LabsOwn w' w.heap.size a (decV s).1 ∧ Below w.heap.size w w') := specDec_any s w hs
  have HM : Hid (∀ W, Calls Tryz.prog 24 #[.string s] W fun e w' => e = .returned (.string (metV (decV s).1)) ∧ Below W.heap.size W w') := fun W => specMet_any s W hs
  have HK : Hid (keyOK s = !(metV (decV s).1).toList.isEmpty) := rfl
  cases hd : (decV s).2 with
  | false =>
    have hn := met_not hd
    rw [hd] at HI
    generalize metV (decV s).1 = mv at *
    generalize (decV s).1 = L at *
    clear hd
    go_enter Tryz.func18, Tryz.ntmps18
    go_wp2_with fail
    refine HI.out.mono ?_
    rintro e w1 ⟨a, cap, rfl, _, hb1⟩
    go_wp2
    go_ret
    exact ⟨ret_bool (by rw [HK.out, hn]; rfl), hb1⟩
  | true =>
    rw [hd] at HI
    generalize metV (decV s).1 = mv at *
    generalize (decV s).1 = L at *
    clear hd
    go_enter Tryz.func18, Tryz.ntmps18
    go_wp2_with fail
    refine HI.out.mono ?_
    rintro e w1 ⟨a, cap, rfl, _, hb1⟩
    have B1 : Hid (Below w.heap.size w w1) := hb1
    clear hb1
    go_wp2_with fail
    refine (HM.out _).mono ?_
    rintro e w2 ⟨rfl, hb2⟩
    go_wp2
    go_ret
    exact ⟨ret_bool (by rw [HK.out]), bto B1.out hb2⟩
set_option maxRecDepth 100000 in
set_option maxHeartbeats 1000000 in
theorem l4Idle_any (t : TenD) (a1 a2 : Option Addr) (c1 c2 : Nat) (w : World) : Calls Tryz.prog 23 #[.agg #[.string t.name, .int .i64 t.limit, .slice a1 t.mets.length c1, .slice a2 t.sers.length c2]] w fun e w' => e = .returned (.bool (idleB t)) ∧ Below w.heap.size w w' := by
  have E : Hid (idleB t = (t.limit == -1 && t.mets.length == 0 && t.sers.length == 0)) := rfl
  generalize t.mets.length = n1 at *
  generalize t.sers.length = n2 at *
  generalize t.limit = L at *
  by_cases h1 : L = -1
  · by_cases h2 : n1 = 0
    · go_enter Tryz.func23, Tryz.ntmps23
      go_wp2
      go_ret
      exact ⟨ret_bool (by rw [E.out, h1, h2]; rw [Bool.eq_iff_iff]; simp), bnew _ _⟩
    · go_enter Tryz.func23, Tryz.ntmps23
      go_wp2
      go_ret
      exact ⟨ret_bool (by rw [E.out, h1]; rw [Bool.eq_iff_iff]; simp [h2]), bnew _ _⟩
  · go_enter Tryz.func23, Tryz.ntmps23
    go_wp2
    go_ret
    exact ⟨ret_bool (by rw [E.out]; rw [Bool.eq_iff_iff]; simp [h1]), bnew _ _⟩
set_option maxHeartbeats 1000000 in
theorem isLimitOrNone_any (x : Int) (w : World) : Calls Tryz.prog 75 #[.int .i64 x] w fun e w' => e = .returned (.bool (btwB x (-1) 1000000)) ∧ w' = w := by
  by_cases h : x = -1
  · have E : Hid (btwB x (-1) 1000000 = true) := by show _ = _; subst h; rfl
    go_enter Tryz.func75, Tryz.ntmps75
    go_wp2_with (go_at_call 74; refine (isLimit_any _ _).mono ?_; rintro e w' ⟨rfl, rfl⟩)
    go_ret
    exact ⟨ret_bool E.out.symm, rfl⟩
  · have E : Hid (btwB x (-1) 1000000 = btwB x 0 1000000) := by
      show _ = _
      unfold btwB
      congr 1
      rw [Bool.eq_iff_iff]; simp; omega
    go_enter Tryz.func75, Tryz.ntmps75
    go_wp2_with (go_at_call 74; refine (isLimit_any _ _).mono ?_; rintro e w' ⟨rfl, rfl⟩)
    go_ret
    exact ⟨ret_bool (by rw [E.out]; have e : (x == -1) = false := by simpa using h
                        rw [e, Bool.false_or]), rfl⟩
end Go.Proofs.YtnbkmmmlhlbfoaaGreatDoor
namespace Go.Proofs.YtnbkmmmlhlbfoaaGreatDoor
structure SgD where
  b : Nat
  t : Int
def hget (l : List SgD) (i : Nat) : SgD := l.getD i ⟨0, 0⟩
def swapL (l : List SgD) (i j : Nat) : List SgD := (l.set i (hget l j)).set j (hget l i)
theorem hget_eq {l : List SgD} {i : Nat} (h : i < l.length) : hget l i = l[i] := by simp [hget, List.getD, List.getElem?_eq_getElem h]
theorem swapL_length (l : List SgD) (i j : Nat) : (swapL l i j).length = l.length := by simp [swapL]
theorem hget_swap {l : List SgD} {i j : Nat} (hi : i < l.length) (hj : j < l.length) (k : Nat) : hget (swapL l i j) k = if k = j then hget l i else if k = i then hget l j else hget l k := by
  unfold swapL
  have e : ∀ (m : List SgD) (p : Nat) (x : SgD) (k : Nat), p < m.length → hget (m.set p x) k = if k = p then x else hget m k := fun m p x k hp => by
    by_cases h : k = p
    · subst h; simp [hget, List.getD, hp]
    · rw [if_neg h]; simp [hget, List.getD, Ne.symm h]
  rw [e _ _ _ _ (by simpa using hj), e _ _ _ _ hi]
theorem swapL_perm {l : List SgD} {i j : Nat} (hi : i < l.length) (hj : j < l.length) : (swapL l i j).Perm l := by
  unfold swapL
  rw [hget_eq hi, hget_eq hj]
  exact List.set_set_perm hi hj
def HeapOK (l : List SgD) : Prop := ∀ i, 0 < i → i < l.length → (hget l ((i - 1) / 2)).t ≤ (hget l i).t
def HeapUp (l : List SgD) (k : Nat) : Prop := (∀ i, 0 < i → i < l.length → i ≠ k → (hget l ((i - 1) / 2)).t ≤ (hget l i).t) ∧ ∀ i, 0 < i → i < l.length → (i - 1) / 2 = k → 0 < k → (hget l ((k - 1) / 2)).t ≤ (hget l i).t
theorem HeapOK.push {l : List SgD} (h : HeapOK l) (x : SgD) : HeapUp (l ++ [x]) l.length := by
  have e : ∀ i, i < l.length → hget (l ++ [x]) i = hget l i := fun i hi => by simp [hget, List.getD, List.getElem?_append_left hi]
  refine ⟨fun i h0 hi hne => ?_, fun i h0 hi hp _ => ?_⟩
  · simp at hi
    rw [e i (by omega), e _ (by omega)]
    exact h i h0 (by omega)
  · simp at hi
    omega
theorem HeapUp.done {l : List SgD} {k : Nat} (h : HeapUp l k) (hk : k = 0 ∨ (hget l ((k - 1) / 2)).t ≤ (hget l k).t) : HeapOK l := by
  intro i h0 hi
  by_cases e : i = k
  · subst e
    rcases hk with hk | hk
    · omega
    · exact hk
  · exact h.1 i h0 hi e
theorem HeapUp.step {l : List SgD} {k : Nat} (h : HeapUp l k) (hk : k < l.length) (h0 : 0 < k) (hlt : (hget l k).t < (hget l ((k - 1) / 2)).t) : HeapUp (swapL l k ((k - 1) / 2)) ((k - 1) / 2) := by
  have hp : (k - 1) / 2 < l.length := by omega
  have hpk : (k - 1) / 2 ≠ k := by omega
  refine ⟨fun i hi0 hi hne => ?_, fun i hi0 hi hpi hp0 => ?_⟩
  · rw [swapL_length] at hi
    rw [hget_swap hk hp, hget_swap hk hp, if_neg hne]
    by_cases e1 : i = k
    · subst e1
      rw [if_pos rfl, if_pos rfl]; omega
    · rw [if_neg e1]
      by_cases e2 : (i - 1) / 2 = (k - 1) / 2
      · rw [if_pos e2]
        have := h.1 i hi0 hi e1
        rw [e2] at this; omega
      · rw [if_neg e2]
        by_cases e3 : (i - 1) / 2 = k
        · rw [if_pos e3]; exact h.2 i hi0 hi e3 h0
        · rw [if_neg e3]; exact h.1 i hi0 hi e1
  · rw [swapL_length] at hi
    rw [hget_swap hk hp, hget_swap hk hp, if_neg (by omega : ((k - 1) / 2 - 1) / 2 ≠ (k - 1) / 2), if_neg (by omega : ((k - 1) / 2 - 1) / 2 ≠ k), if_neg (by omega : i ≠ (k - 1) / 2)]
    have hg := h.1 ((k - 1) / 2) hp0 hp hpk
    by_cases e1 : i = k
    · rw [if_pos e1]; exact hg
    · rw [if_neg e1]
      have := h.1 i hi0 hi e1
      rw [hpi] at this; omega
def siftUp (l : List SgD) : Nat → List SgD
  | 0 => l
  | k + 1 => if (hget l (k + 1)).t < (hget l (k / 2)).t then siftUp (swapL l (k + 1) (k / 2)) (k / 2) else l
theorem siftUp_step {l : List SgD} {k : Nat} (h0 : 0 < k) : siftUp l k = if (hget l k).t < (hget l ((k - 1) / 2)).t then siftUp (swapL l k ((k - 1) / 2)) ((k - 1) / 2) else l := by
  obtain ⟨j, rfl⟩ : ∃ j, k = j + 1 := ⟨k - 1, by omega⟩
  rw [siftUp, Nat.add_sub_cancel]
theorem siftUp_zero (l : List SgD) : siftUp l 0 = l := by rw [siftUp]
theorem siftUp_says : ∀ (k : Nat) (l : List SgD), k < l.length → HeapUp l k → HeapOK (siftUp l k) ∧ (siftUp l k).Perm l ∧ (siftUp l k).length = l.length
  | 0, l, _, h => by rw [siftUp_zero]; exact ⟨h.done (Or.inl rfl), List.Perm.refl _, rfl⟩
  | k + 1, l, hk, h => by
    rw [siftUp_step (by omega)]
    by_cases hlt : (hget l (k + 1)).t < (hget l ((k + 1 - 1) / 2)).t
    · rw [if_pos hlt]
      obtain ⟨a, b, c⟩ := siftUp_says ((k + 1 - 1) / 2) (swapL l (k + 1) ((k + 1 - 1) / 2)) (by rw [swapL_length]; omega) (h.step hk (by omega) hlt)
      exact ⟨a, b.trans (swapL_perm hk (by omega)), c.trans (swapL_length _ _ _)⟩
    · rw [if_neg hlt]
      exact ⟨h.done (Or.inr (by omega)), List.Perm.refl _, rfl⟩
def pushL (l : List SgD) (x : SgD) : List SgD := siftUp (l ++ [x]) l.length
theorem pushL_says {l : List SgD} (h : HeapOK l) (x : SgD) : HeapOK (pushL l x) ∧ (pushL l x).Perm (x :: l) ∧ (pushL l x).length = l.length + 1 := by
  obtain ⟨a, b, c⟩ := siftUp_says l.length (l ++ [x]) (by simp) (h.push x)
  exact ⟨a, b.trans (List.perm_append_singleton x l), by rw [pushL, c]; simp⟩
end Go.Proofs.YtnbkmmmlhlbfoaaGreatDoor
namespace Go.Proofs.YtnbkmmmlhlbfoaaGreatDoor
open Go.RowKit
def SgAt (cur : Array Value) (hs : List SgD) : Prop := ∀ k, k < hs.length → cur[k * 2]? = some (.pointer (some ⟨(hget hs k).b, 0, none⟩)) ∧ cur[k * 2 + 1]? = some (.int .i64 (hget hs k).t)
def HeapM (w : World) (g cap : Nat) (hs : List SgD) : Prop := ∃ cur, Blk w g cur 131 ∧ cur.size = cap * 2 ∧ hs.length ≤ cap ∧ cap ≤ maxLen ∧ SgAt cur hs
theorem HeapM.cells {w : World} {g cap k : Nat} {hs : List SgD} (h : HeapM w g cap hs) (hk : k < hs.length) :
    w.cell? ⟨g, k * 2, none⟩ = some (.pointer (some ⟨(hget hs k).b, 0, none⟩)) ∧ w.cell? ⟨g, k * 2 + 1, none⟩ = some (.int .i64 (hget hs k).t) ∧ w.frozen? ⟨g, k * 2, none⟩ = false ∧ w.frozen? ⟨g, k * 2 + 1, none⟩ = false := by
  obtain ⟨cur, hb, _, _, _, hc⟩ := h
  rw [hb.cell, hb.cell]
  exact ⟨(hc k hk).1, (hc k hk).2, hb.free _, hb.free _⟩
theorem HeapM.later {w w' : World} {g cap : Nat} {hs : List SgD} (h : HeapM w g cap hs) (hb : Below w.heap.size w w') : HeapM w' g cap hs := by
  obtain ⟨cur, h1, h2⟩ := h
  exact ⟨cur, h1.later hb, h2⟩
theorem But.drew {g : Nat} {a w : World} (h : But g a w) : But g a w.drew := ⟨h.os, h.tape, h.output, h.size, h.block⟩
theorem HeapM.swap {w : World} {g cap i j : Nat} {hs : List SgD} (h : HeapM w g cap hs) (hi : i < hs.length) (hj : j < hs.length) :
    HeapM ((((w.setCell ⟨g, i * 2, none⟩ (.pointer (some ⟨(hget hs j).b, 0, none⟩))).setCell ⟨g, i * 2 + 1, none⟩ (.int .i64 (hget hs j).t)).setCell ⟨g, j * 2, none⟩ (.pointer (some ⟨(hget hs i).b, 0, none⟩))).setCell ⟨g, j * 2 + 1, none⟩ (.int .i64 (hget hs i).t)) g cap (swapL hs i j) := by
  obtain ⟨cur, h1, h2, h3, h4, h5⟩ := h
  refine ⟨_, (((h1.set _ _).set _ _).set _ _).set _ _, by simp [h2], by rw [swapL_length]; exact h3, h4, fun k hk => ?_⟩
  rw [swapL_length] at hk
  rw [hget_swap hi hj]
  by_cases e1 : k = j
  · subst e1
    rw [if_pos rfl]
    constructor <;> simp [Array.getElem?_setIfInBounds, h2] <;> omega
  · rw [if_neg e1]
    by_cases e2 : k = i
    · subst e2
      rw [if_pos rfl]
      constructor
      · rw [Array.getElem?_setIfInBounds_ne (by omega), Array.getElem?_setIfInBounds_ne (by omega), Array.getElem?_setIfInBounds_ne (by omega)]; simp [Array.getElem?_setIfInBounds, h2]; omega
      · rw [Array.getElem?_setIfInBounds_ne (by omega), Array.getElem?_setIfInBounds_ne (by omega)]; simp [Array.getElem?_setIfInBounds, h2]; omega
    · rw [if_neg e2]
      obtain ⟨c1, c2⟩ := h5 k hk
      constructor
      · rw [Array.getElem?_setIfInBounds_ne (by omega), Array.getElem?_setIfInBounds_ne (by omega), Array.getElem?_setIfInBounds_ne (by omega), Array.getElem?_setIfInBounds_ne (by omega)]; exact c1
      · rw [Array.getElem?_setIfInBounds_ne (by omega), Array.getElem?_setIfInBounds_ne (by omega), Array.getElem?_setIfInBounds_ne (by omega), Array.getElem?_setIfInBounds_ne (by omega)]; exact c2
set_option maxRecDepth 100000 in
set_option maxHeartbeats 4000000 in
theorem swap_any (x o g n cap i j : Nat) (hs : List SgD) (w : World) (hp : w.cell? ⟨x, o, none⟩ = some (.slice (some ⟨g, 0, none⟩) n cap)) (hn : n = hs.length) (hH : HeapM w g cap hs) (hi : i < n) (hj : j < n) :
    Calls Tryz.prog 97 #[.pointer (some ⟨x, o, none⟩), .int .i64 i, .int .i64 j] w fun e w' => e = .returned (.tuple #[]) ∧ HeapM w' g cap (swapL hs i j) ∧ But g w w' := by
  have HSW : Hid (HeapM ((((w.setCell ⟨g, i * 2, none⟩ (.pointer (some ⟨(hget hs j).b, 0, none⟩))).setCell ⟨g, i * 2 + 1, none⟩ (.int .i64 (hget hs j).t)).setCell ⟨g, j * 2, none⟩ (.pointer (some ⟨(hget hs i).b, 0, none⟩))).setCell ⟨g, j * 2 + 1, none⟩ (.int .i64 (hget hs i).t)) g cap (swapL hs i j)) := hH.swap (by omega) (by omega)
  obtain ⟨c0, c1, f0, f1⟩ := hH.cells (k := i) (by omega)
  obtain ⟨d0, d1, u0, u1⟩ := hH.cells (k := j) (by omega)
  have HE : ∀ (a b : Value), (∃ v, ((w.setCell ⟨g, i * 2, none⟩ a).setCell ⟨g, i * 2 + 1, none⟩ b).cell? ⟨g, j * 2, none⟩ = some v) ∧ (∃ v, ((w.setCell ⟨g, i * 2, none⟩ a).setCell ⟨g, i * 2 + 1, none⟩ b).cell? ⟨g, j * 2 + 1, none⟩ = some v) ∧
      ((w.setCell ⟨g, i * 2, none⟩ a).setCell ⟨g, i * 2 + 1, none⟩ b).frozen? ⟨g, j * 2, none⟩ = false ∧ ((w.setCell ⟨g, i * 2, none⟩ a).setCell ⟨g, i * 2 + 1, none⟩ b).frozen? ⟨g, j * 2 + 1, none⟩ = false := fun a b => by
    obtain ⟨cur, h1, h2, h3, _⟩ := hH
    have hB := (h1.set (i * 2) a).set (i * 2 + 1) b
    exact ⟨hB.there (by simp; omega), hB.there (by simp; omega), hB.free _, hB.free _⟩
  obtain ⟨⟨v0, e0⟩, ⟨v1, e1⟩, e2, e3⟩ := HE (.pointer (some ⟨(hget hs j).b, 0, none⟩)) (.int .i64 (hget hs j).t)
  clear hn hH HE
  generalize hget hs i = A at *
  generalize hget hs j = C at *
  generalize swapL hs i j = R at *
  clear hs
  go_enter Tryz.func97, Tryz.ntmps97
  go_wp2_with fail
  go_region
  go_wp2
  go_end0
  exact ⟨rfl, HSW.out, (((((But.refl g w).setCell _ _).setCell _ _).setCell _ _).setCell _ _).drew⟩
end Go.Proofs.YtnbkmmmlhlbfoaaGreatDoor
