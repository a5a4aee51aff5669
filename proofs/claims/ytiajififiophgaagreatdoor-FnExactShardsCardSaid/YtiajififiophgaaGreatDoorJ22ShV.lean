import Derived.Test.YtiajififiophgaaGreatDoorProg
import Derived.Test.YtiajififiophgaaGreatDoorJ21Strs
import Derived.Test.YtiajififiophgaaGreatDoorJ05HpP
import Derived.Test.YtiajififiophgaaGreatDoorJ15ILim
namespace Go.Proofs.YtiajififiophgaaGreatDoor
open Go.RowKit

set_option maxHeartbeats 1000000 in
theorem eqStringS_same (a a' : Option Addr) (cap cap' : Nat) (l : List ByteArray) (w : World) (hf : StrsIn w a l) (hf' : StrsIn w a' l) (hlen : l.length ≤ maxLen) :
    Calls Tryz.prog 62 #[.slice a l.length cap, .slice a' l.length cap'] w fun e w' => e = .returned (.bool true) ∧ Below w.heap.size w w' := by
  unfold maxLen at hlen
  have HF : Hid (StrsIn w a l) := hf
  have HF' : Hid (StrsIn w a' l) := hf'
  clear hf hf'
  go_enter Tryz.func62, Tryz.ntmps62
  go_wp2
  go_loopw [5] (fun i wr => ∃ k : Nat, k ≤ l.length ∧ i = .int .i64 k ∧ Below w.heap.size w wr) (fun i _ => l.length - (intOf i).toNat)
  case atStart => exact ⟨0, Nat.zero_le _, rfl, Below.refl _ _⟩
  case round =>
    obtain ⟨k, hk, rfl, hbel⟩ := hrel
    by_cases hlt : k < l.length
    · obtain ⟨b, o, rfl, hb, c0⟩ := (HF.out.later hbel).at hlt
      obtain ⟨b', o', rfl, hb', c0'⟩ := (HF'.out.later hbel).at hlt
      have d0 := Later.cells c0
      have d0' := Later.cells c0'
      clear c0 c0'
      have hne := Later.there wr
      go_wp2_with fail
      refine wp_region_later (by kernel_rfl) (by kernel_rfl) ?_
      repeat (go_big_quiet_step (fail))
      refine wpQuiet_nil ?_
      rintro _ ⟨x, rfl⟩
      go_wp2
      exact ⟨⟨k + 1, by omega, by go_num, hbel.trans (x.h.mono hbel.size)⟩, by simp [intOf]; omega⟩
    · go_wp2
      go_ret
      exact ⟨rfl, hbel⟩

def markT (k n : Nat) : List ByteArray := (List.range n).map (fun i => mt (k + i))
theorem markT_length (k n : Nat) : (markT k n).length = n := by simp [markT]
theorem markT_get (k n i : Nat) (h : i < (markT k n).length) : (markT k n)[i] = mt (k + i) := by simp [markT]

set_option maxRecDepth 100000 in
set_option maxHeartbeats 2000000 in
theorem markStringS_any (a : Option Addr) (cap : Nat) (l : List ByteArray) (k B : Nat) (w : World) (hk : 0 < k) (hk2 : k + l.length ≤ 100000000) (hf : StrsOwn w B a l) :
    Calls Tryz.prog 63 #[.slice a l.length cap, .int .i64 (k : Int)] w fun e w' => e = .returned (.int .i64 ((k + l.length : Nat) : Int)) ∧ Marked w w' B a l.length ∧ StrsOwn w' B a (markT k l.length) := by
  have hf3 : l = [] ∨ (0 < l.length ∧ ∃ g o cur t, a = some ⟨g, o, none⟩ ∧ B ≤ g ∧ w.heap[g]? = some (.cells cur t (0, 0)) ∧ ∀ i (h : i < l.length), w.cell? ⟨g, o + i, none⟩ = some (.string l[i])) := by
    rcases hf with h | h
    · exact Or.inl h
    · by_cases h0 : l = []
      · exact Or.inl h0
      · exact Or.inr ⟨List.length_pos_iff.2 h0, h⟩
  clear hf
  rcases hf3 with rfl | ⟨hpos, g, o, cur, t, rfl, hB, hg, hfs⟩
  · go_enter Tryz.func63, Tryz.ntmps63
    go_wp2
    go_loopw [1, 5] (fun l i wr => l = .int .i64 (k : Int) ∧ i = .int .i64 0 ∧ wr = w) (fun _ i _ => 0)
    case atStart => exact ⟨rfl, rfl, rfl⟩
    case round =>
      obtain ⟨rfl, rfl, rfl⟩ := hrel
      go_wp2
      go_ret
      exact ⟨rfl, Or.inl ⟨rfl, Below.refl _ _⟩, Or.inl rfl⟩
  have hsz : l.length = 0 ∨ o + l.length ≤ cur.size := by
    by_cases h0 : l.length = 0
    · exact Or.inl h0
    · right
      have hc := hfs (l.length - 1) (by omega)
      rw [cell_of_row w g _ cur t _ hg] at hc
      have := (Array.getElem?_eq_some_iff.1 hc).1
      omega
  have HG : Hid (Blk w g cur t) := hg
  clear hg hfs
  generalize l.length = n at *
  go_enter Tryz.func63, Tryz.ntmps63
  go_wp2
  go_loopw [1, 5] (fun l i wr => ∃ (j : Nat) (c : Array Value), j ≤ n ∧ i = .int .i64 j ∧ l = .int .i64 ((k + j : Nat) : Int) ∧ Blk wr g c t ∧ c.size = cur.size ∧ (∀ m, m < j → c[o + m]? = some (.string (mt (k + m)))) ∧ But g w wr) (fun _ i _ => n - (intOf i).toNat)
  case atStart => exact ⟨0, cur, Nat.zero_le _, rfl, rfl, HG.out, rfl, fun m h => absurd h (by omega), But.refl _ _⟩
  case round =>
    obtain ⟨j, c, hj, rfl, rfl, hblk, hcs, hrows, hbut⟩ := hrel
    have HBLK : Hid (Blk wr g c t) := hblk
    have HROWS : Hid (∀ m, m < j → c[o + m]? = some (.string (mt (k + m)))) := hrows
    have HCS : Hid (c.size = cur.size) := hcs
    clear hblk hrows
    by_cases hlt : j < n
    · have hbd : o + j < c.size := by rcases hsz with h | h <;> omega
      clear hcs
      go_wp2_with fail
      refine (markText_int _ (k + j) (by omega) _ (by omega) (by omega)).mono ?_
      rintro e w1 ⟨rfl, hb1⟩
      have hB1 := HBLK.out.later hb1
      obtain ⟨v0, d0⟩ := hB1.there (j := o + j) hbd
      have f0 := hB1.free (o + j)
      have HB1 : Hid (Blk w1 g c t) := hB1
      have HBUT : Hid (But g w w1) := hbut.trans (But.of hb1)
      clear hB1 hb1 hbut
      go_wp2
      refine ⟨⟨j + 1, _, by omega, by go_num, by go_num, HB1.out.set (o + j) (.string (mt (k + j))), by simp [HCS.out], ?_, HBUT.out.setCell _ _⟩, by simp [intOf]; omega⟩
      intro m hm
      by_cases e : m = j
      · subst e
        simp [hbd]
      · rw [Array.getElem?_setIfInBounds_ne (by omega)]
        exact HROWS.out m (by omega)
    · go_wp2
      go_ret
      have e : j = n := by omega
      subst e
      refine ⟨rfl, ?_, ?_⟩
      · exact Or.inr ⟨hpos, g, o, rfl, hB, hbut⟩
      · refine Or.inr ⟨g, o, c, t, rfl, hB, HBLK.out, fun i hi => ?_⟩
        rw [markT_get, HBLK.out.cell]
        exact HROWS.out i (by rw [markT_length] at hi; exact hi)

set_option maxRecDepth 100000 in
set_option maxHeartbeats 2000000 in
theorem heldStringS_any (a : Option Addr) (cap : Nat) (k n : Nat) (w : World) (hk : 0 < k) (hk2 : k + n ≤ 100000000) (hf : StrsIn w a (markT k n)) :
    Calls Tryz.prog 64 #[.slice a n cap, .int .i64 (k : Int)] w fun e w' => e = .returned (.int .i64 ((k + n : Nat) : Int)) ∧ Below w.heap.size w w' := by
  have HF : Hid (StrsIn w a (markT k n)) := hf
  clear hf
  go_enter Tryz.func64, Tryz.ntmps64
  go_wp2
  go_loopw [1, 5] (fun l i wr => ∃ j : Nat, j ≤ n ∧ i = .int .i64 j ∧ l = .int .i64 ((k + j : Nat) : Int) ∧ Below w.heap.size w wr) (fun _ i _ => n - (intOf i).toNat)
  case atStart => exact ⟨0, Nat.zero_le _, rfl, rfl, Below.refl _ _⟩
  case round =>
    obtain ⟨j, hj, rfl, rfl, hbel⟩ := hrel
    by_cases hlt : j < n
    · obtain ⟨b, o, rfl, hb, c0⟩ := (HF.out.later hbel).at (i := j) (by rw [markT_length]; exact hlt)
      rw [markT_get] at c0
      have d0 := Later.cells c0
      have hne := Later.there wr
      clear c0
      go_wp2_with fail
      refine wp_region_later (by kernel_rfl) (by kernel_rfl) ?_
      repeat (go_big_quiet_step (first | (go_at_call 95; exact calls_later (markText_int _ (k + j) (by omega) _ (by omega) (by omega)))))
      refine wpQuiet_nil ?_
      rintro _ ⟨x, rfl⟩
      have HX : Hid (Below w.heap.size w x.w') := bto hbel x.h
      clear d0 hne hbel
      generalize x.w' = W at *
      clear x
      go_wp2
      exact ⟨⟨j + 1, by omega, by go_num, by go_num, HX.out⟩, by simp [intOf]; omega⟩
    · go_wp2
      go_ret
      have e : j = n := by omega
      subst e
      exact ⟨ret_int (by omega), hbel⟩
end Go.Proofs.YtiajififiophgaaGreatDoor

namespace Go.Proofs.YtiajififiophgaaGreatDoor
open Go.RowKit

set_option maxRecDepth 100000 in
set_option maxHeartbeats 2000000 in
theorem eqStringSS_same (a a' : Option Addr) (cap cap' : Nat) (xs : List (List ByteArray)) (w : World) (hf : SSIn w a xs) (hf' : SSIn w a' xs) (hlen : xs.length ≤ maxLen) (hl : ∀ i (h : i < xs.length), xs[i].length ≤ maxLen) :
    Calls Tryz.prog 23 #[.slice a xs.length cap, .slice a' xs.length cap'] w fun e w' => e = .returned (.bool true) ∧ Below w.heap.size w w' := by
  unfold maxLen at hlen
  have HF : Hid (SSIn w a xs) := hf
  have HF' : Hid (SSIn w a' xs) := hf'
  have HL := hid hl
  clear hf hf' hl
  go_enter Tryz.func23, Tryz.ntmps23
  go_wp2
  go_loopw [5] (fun i wr => ∃ k : Nat, k ≤ xs.length ∧ i = .int .i64 k ∧ Below w.heap.size w wr) (fun i _ => xs.length - (intOf i).toNat)
  case atStart => exact ⟨0, Nat.zero_le _, rfl, Below.refl _ _⟩
  case round =>
    obtain ⟨k, hk, rfl, hbel⟩ := hrel
    by_cases hlt : k < xs.length
    · obtain ⟨b, o, a1, c1, rfl, hb, c0, s0⟩ := (HF.out.later hbel).at hlt
      obtain ⟨b', o', a1', c1', rfl, hb', c0', s0'⟩ := (HF'.out.later hbel).at hlt
      have d0 := Later.cells c0
      have d0' := Later.cells c0'
      have HE : Hid (∀ W, Below wr.heap.size wr W → Calls Tryz.prog 62 #[.slice a1 xs[k].length c1, .slice a1' xs[k].length c1'] W fun e w' => e = .returned (.bool true) ∧ Below W.heap.size W w') := fun W hW => eqStringS_same a1 a1' c1 c1' _ W (s0.later hW) (s0'.later hW) (HL.out k hlt)
      clear c0 c0' s0 s0'
      generalize xs[k].length = z at *
      have hne := Later.there wr
      go_wp2_with fail
      refine wp_region_later (by kernel_rfl) (by kernel_rfl) ?_
      repeat (go_big_quiet_step (first | (go_at_call 62; exact calls_later (HE.out _ (by first | exact (Later.h _) | assumption)))))
      refine wpQuiet_nil ?_
      rintro _ ⟨x, rfl⟩
      have HX : Hid (Below w.heap.size w x.w') := bto hbel x.h
      clear d0 d0' hne hbel HE
      generalize x.w' = W at *
      clear x
      go_wp2
      exact ⟨⟨k + 1, by omega, by go_num, HX.out⟩, by simp [intOf]; omega⟩
    · go_wp2
      go_ret
      exact ⟨rfl, hbel⟩

theorem markStringS_tag (kI : Int) (a : Option Addr) (cap : Nat) (l : List ByteArray) (k B n0 : Nat) (T : Nat → Nat) (w : World) (hkI : kI = (k : Int)) (hk : 0 < k) (hk2 : k + l.length ≤ 100000000) (hf : StrsTag w B T n0 a l) :
    Calls Tryz.prog 63 #[.slice a l.length cap, .int .i64 kI] w fun e w' => e = .returned (.int .i64 ((k + l.length : Nat) : Int)) ∧ Turn (fun g => B ≤ g ∧ T g = n0) w w' ∧ StrsTag w' B T n0 a (markT k l.length) := by
  subst hkI
  refine (markStringS_any a cap l k B w hk hk2 hf.own).mono ?_
  rintro e w' ⟨rfl, hm, ho⟩
  refine ⟨rfl, ?_, ?_⟩
  · rcases hm with ⟨_, h⟩ | ⟨hpos, g, o, rfl, hB, hb⟩
    · exact Turn.of h
    · rcases hf with rfl | ⟨g', o', cur, t, e, _, hT, _⟩
      · simp at hpos
      · cases e
        exact (Turn.but hb).mono fun i _ e => by subst e; exact ⟨hB, hT⟩
  · rcases hf with rfl | ⟨g', o', cur, t, e, _, hT, _⟩
    · exact Or.inl (List.length_eq_zero_iff.1 (by rw [markT_length]; rfl))
    · exact ho.tag fun g o e' => by rw [e] at e'; cases e'; exact hT
theorem heldStringS_int (kI : Int) (a : Option Addr) (cap : Nat) (k n : Nat) (w : World) (hkI : kI = (k : Int)) (hk : 0 < k) (hk2 : k + n ≤ 100000000) (hf : StrsIn w a (markT k n)) :
    Calls Tryz.prog 64 #[.slice a n cap, .int .i64 kI] w fun e w' => e = .returned (.int .i64 ((k + n : Nat) : Int)) ∧ Below w.heap.size w w' := hkI ▸ heldStringS_any a cap k n w hk hk2 hf

def ssLen : List (List ByteArray) → Nat
  | [] => 0
  | t :: r => t.length + ssLen r
theorem ssLen_append (a b : List (List ByteArray)) : ssLen (a ++ b) = ssLen a + ssLen b := by
  induction a with
  | nil => simp [ssLen]
  | cons f r ih => simp [ssLen, ih]; omega
theorem ssLen_take (ts : List (List ByteArray)) (j : Nat) (h : j < ts.length) : ssLen (ts.take (j + 1)) = ssLen (ts.take j) + ts[j].length := by
  rw [List.take_succ_eq_append_getElem h, ssLen_append]; simp [ssLen]
theorem ssLen_le (ts : List (List ByteArray)) (j : Nat) : ssLen (ts.take j) ≤ ssLen ts := by
  have := ssLen_append (ts.take j) (ts.drop j)
  rw [List.take_append_drop] at this; omega
def markAtS (k : Nat) (ts : List (List ByteArray)) (i : Nat) (t : List ByteArray) : List ByteArray := markT (k + ssLen (ts.take i)) t.length
def markSS (k : Nat) (ts : List (List ByteArray)) : List (List ByteArray) := ts.mapIdx (markAtS k ts)
theorem markSS_length (k : Nat) (ts : List (List ByteArray)) : (markSS k ts).length = ts.length := by simp [markSS]
theorem markSS_get {k : Nat} {ts : List (List ByteArray)} {i : Nat} (h : i < (markSS k ts).length) (h' : i < ts.length) : (markSS k ts)[i] = markT (k + ssLen (ts.take i)) ts[i].length := by simp [markSS, markAtS]

/-- The rows, those below j marked. -/
def SSUpto (w : World) (B g o k : Nat) (T : Nat → Nat) (ts : List (List ByteArray)) (j : Nat) : Prop :=
  ∀ i (h : i < ts.length), ∃ a1 c1, w.cell? ⟨g, o + i, none⟩ = some (.slice a1 ts[i].length c1) ∧ StrsTag w B T (i + 1) a1 (if i < j then markT (k + ssLen (ts.take i)) ts[i].length else ts[i])

set_option maxRecDepth 100000 in
set_option maxHeartbeats 4000000 in
theorem markStringSS_any (a : Option Addr) (cap : Nat) (ts : List (List ByteArray)) (k B : Nat) (w : World) (hk : 0 < k) (hlen : ts.length ≤ maxLen) (hk2 : k + ssLen ts ≤ 100000000) (hf : SSOwn w B a ts) :
    Calls Tryz.prog 24 #[.slice a ts.length cap, .int .i64 (k : Int)] w fun e w' => e = .returned (.int .i64 ((k + ssLen ts : Nat) : Int)) ∧ Turn (fun g => B ≤ g) w w' ∧ SSIn w' a (markSS k ts) := by
  unfold maxLen at hlen
  have HK2 : Hid (k + ssLen ts ≤ 100000000) := hk2
  clear hk2
  rcases hf with rfl | ⟨g, o, cur, t, T, rfl, hB, hg, hT, hf⟩
  · go_enter Tryz.func24, Tryz.ntmps24
    go_wp2
    go_loopw [1, 5] (fun l i wr => l = .int .i64 (k : Int) ∧ i = .int .i64 0 ∧ wr = w) (fun _ i _ => 0)
    case atStart => exact ⟨rfl, rfl, rfl⟩
    case round =>
      obtain ⟨rfl, rfl, rfl⟩ := hrel
      go_wp2
      go_ret
      exact ⟨rfl, Turn.refl _ _, Or.inl rfl⟩
  have HTG : Hid (T g = 0) := hT
  have H0 : Hid (SSUpto w B g o k T ts 0) := fun i h => by rw [if_neg (by omega)]; exact hf i h
  have HGL : Hid (g < w.heap.size) := lt_of_block hg
  clear hf hg hT
  go_enter Tryz.func24, Tryz.ntmps24
  go_wp2
  go_loopw [1, 5] (fun l i wr => ∃ (j K : Nat), j ≤ ts.length ∧ i = .int .i64 j ∧ l = .int .i64 (K : Int) ∧ Hid (K = k + ssLen (ts.take j)) ∧ Hid (SSUpto wr B g o k T ts j) ∧ Hid (Turn (fun g' => B ≤ g') w wr)) (fun _ i _ => ts.length - (intOf i).toNat)
  case atStart => exact ⟨0, k, Nat.zero_le _, rfl, rfl, by show _ = _; simp [ssLen], H0.out, Turn.refl _ _⟩
  case round =>
    obtain ⟨j, K, hj, rfl, rfl, HK, HR, HTU⟩ := hrel
    by_cases hlt : j < ts.length
    · obtain ⟨a1, c1, d0, p1⟩ := HR.out j hlt
      rw [if_neg (Nat.lt_irrefl _)] at p1
      have HLE : Hid (K + ts[j].length ≤ 100000000 ∧ k + ssLen (ts.take (j + 1)) = K + ts[j].length) := by
        have h1 := ssLen_take ts j hlt
        have h2 := ssLen_le ts (j + 1)
        have h3 := HK.out
        have h4 := HK2.out
        exact ⟨by omega, by omega⟩
      have hKp : 0 < K := by have := HK.out; omega
      have HC : Hid (∀ W, W = wr → Calls Tryz.prog 63 #[.slice a1 ts[j].length c1, .int .i64 (K : Int)] W fun e w' => e = .returned (.int .i64 ((K + ts[j].length : Nat) : Int)) ∧ Turn (fun g => B ≤ g ∧ T g = j + 1) wr w' ∧ SSUpto w' B g o k T ts (j + 1)) := by
        rintro W rfl
        refine (markStringS_tag _ a1 c1 ts[j] K B (j + 1) T W rfl hKp HLE.out.1 p1).mono ?_
        rintro e w3 ⟨rfl, ht3, q1⟩
        refine ⟨rfl, ht3, fun i hi => ?_⟩
        obtain ⟨b1, e1, x1, x2⟩ := HR.out i hi
        have hgk := ht3.block g (by have := HTU.out.size; have := HGL.out; omega) (fun h => by have := HTG.out; omega)
        by_cases e : i = j
        · subst e
          rw [if_pos (by omega), ← HK.out]
          rw [d0] at x1
          cases x1
          exact ⟨a1, c1, (World.cell?_of_block hgk).trans d0, q1⟩
        · have hif : (if i < j + 1 then markT (k + ssLen (ts.take i)) ts[i].length else ts[i]) = (if i < j then markT (k + ssLen (ts.take i)) ts[i].length else ts[i]) := by
            by_cases h : i < j
            · rw [if_pos h, if_pos (by omega)]
            · rw [if_neg h, if_neg (by omega)]
          rw [hif]
          exact ⟨b1, e1, (World.cell?_of_block hgk).trans x1, x2.turn ht3 fun g' hg' hs => by omega⟩
      have HP := hid p1
      clear p1
      go_wp2_with fail
      refine (HC.out _ rfl).mono ?_
      rintro e w3 ⟨rfl, ht3, q1⟩
      have HT3 : Hid (Turn (fun g' => B ≤ g') w w3) := HTU.out.trans' (ht3.mono fun i _ h => h.1)
      have HQ1 := hid q1
      have HEND : Hid (K + ts[j].length = k + ssLen (ts.take (j + 1))) := HLE.out.2.symm
      clear ht3 q1 d0
      go_wp2
      exact ⟨⟨j + 1, K + ts[j].length, by omega, by go_num, rfl, HEND.out, HQ1.out, HT3.out⟩, by simp [intOf]; omega⟩
    · have e : j = ts.length := by omega
      have HE : Hid ((K : Int) = ((k + ssLen ts : Nat) : Int)) := by
        show _ = _
        have := HK.out
        rw [e, List.take_length] at this
        omega
      have HEND : Hid (SSIn wr (some ⟨g, o, none⟩) (markSS k ts)) := by
        refine Or.inr ⟨g, o, rfl, by have := HTU.out.size; have := HGL.out; omega, fun i hi => ?_⟩
        have hi' : i < ts.length := by rw [markSS_length] at hi; exact hi
        obtain ⟨b1, e1, x1, x2⟩ := HR.out i hi'
        rw [if_pos (by omega)] at x2
        rw [markSS_get hi hi', markT_length]
        exact ⟨b1, e1, x1, x2.strs⟩
      go_wp2
      go_ret
      exact ⟨ret_int HE.out, HTU.out, HEND.out⟩

set_option maxRecDepth 100000 in
set_option maxHeartbeats 2000000 in
theorem heldStringSS_any (a : Option Addr) (cap : Nat) (ts : List (List ByteArray)) (k : Nat) (w : World) (hk : 0 < k) (hlen : ts.length ≤ maxLen) (hk2 : k + ssLen ts ≤ 100000000) (hf : SSIn w a (markSS k ts)) :
    Calls Tryz.prog 25 #[.slice a ts.length cap, .int .i64 (k : Int)] w fun e w' => e = .returned (.int .i64 ((k + ssLen ts : Nat) : Int)) ∧ Below w.heap.size w w' := by
  unfold maxLen at hlen
  have HF : Hid (SSIn w a (markSS k ts)) := hf
  have HK2 : Hid (k + ssLen ts ≤ 100000000) := hk2
  clear hf hk2
  go_enter Tryz.func25, Tryz.ntmps25
  go_wp2
  go_loopw [1, 5] (fun l i wr => ∃ (j K : Nat), j ≤ ts.length ∧ i = .int .i64 j ∧ l = .int .i64 (K : Int) ∧ Hid (K = k + ssLen (ts.take j)) ∧ Below w.heap.size w wr) (fun _ i _ => ts.length - (intOf i).toNat)
  case atStart => exact ⟨0, k, Nat.zero_le _, rfl, rfl, by show _ = _; simp [ssLen], Below.refl _ _⟩
  case round =>
    obtain ⟨j, K, hj, rfl, rfl, HK, hbel⟩ := hrel
    by_cases hlt : j < ts.length
    · have hjm : j < (markSS k ts).length := by rw [markSS_length]; exact hlt
      obtain ⟨b, o, a1, c1, rfl, hb, d0, s0⟩ := (HF.out.later hbel).at hjm
      rw [markSS_get hjm hlt] at d0 s0
      rw [markT_length] at d0
      have HLE : Hid (K + ts[j].length ≤ 100000000 ∧ k + ssLen (ts.take (j + 1)) = K + ts[j].length) := by
        have h1 := ssLen_take ts j hlt
        have h2 := ssLen_le ts (j + 1)
        have h3 := HK.out
        have h4 := HK2.out
        exact ⟨by omega, by omega⟩
      have hKp : 0 < K := by have := HK.out; omega
      rw [← HK.out] at s0
      have HC : Hid (∀ W, W = wr → Calls Tryz.prog 64 #[.slice a1 ts[j].length c1, .int .i64 (K : Int)] W fun e w' => e = .returned (.int .i64 ((K + ts[j].length : Nat) : Int)) ∧ Below wr.heap.size wr w') := by
        rintro W rfl
        exact heldStringS_int _ a1 c1 K _ W rfl hKp HLE.out.1 s0
      clear s0
      have HEND : Hid (K + ts[j].length = k + ssLen (ts.take (j + 1))) := HLE.out.2.symm
      have hkb : K + ts[j].length ≤ 100000000 := HLE.out.1
      generalize ts[j].length = z at *
      go_wp2_with fail
      refine (HC.out _ rfl).mono ?_
      rintro e w3 ⟨rfl, hb3⟩
      have HB3 : Hid (Below w.heap.size w w3) := bto hbel hb3
      clear hb3 d0 hbel
      have hn0 : ¬ (((K + z : Nat) : Int) < 0) := by omega
      go_wp2
      exact ⟨⟨j + 1, K + z, by omega, by go_num, rfl, HEND.out, HB3.out⟩, by simp [intOf]; omega⟩
    · have e : j = ts.length := by omega
      have HE : Hid ((K : Int) = ((k + ssLen ts : Nat) : Int)) := by
        show _ = _
        have := HK.out
        rw [e, List.take_length] at this
        omega
      go_wp2
      go_ret
      exact ⟨ret_int HE.out, hbel⟩
end Go.Proofs.YtiajififiophgaaGreatDoor

namespace Go.Proofs.YtiajififiophgaaGreatDoor
open Go.RowKit

def shN (c : CfgD) (k : ByteArray) : Nat := (shardV c k).toNat
theorem shardV_in {c : CfgD} (k : ByteArray) (h : 1 ≤ c.sh) : 0 ≤ shardV c k ∧ shardV c k < c.sh := by
  unfold shardV
  split
  · omega
  · split
    · exact ⟨Int.emod_nonneg _ (by omega), Int.emod_lt_of_pos _ (by omega)⟩
    · exact ⟨Int.emod_nonneg _ (by omega), Int.emod_lt_of_pos _ (by omega)⟩
theorem shN_int {c : CfgD} (k : ByteArray) (h : 1 ≤ c.sh) : ((shN c k : Nat) : Int) = shardV c k := by
  have := shardV_in k h
  unfold shN
  omega
theorem shN_lt {c : CfgD} (k : ByteArray) (h : 1 ≤ c.sh) : shN c k < c.sh.toNat := by
  have := shardV_in k h
  unfold shN
  omega
def shardsV (c : CfgD) (now : Int) (ts : List TenD) (tenant : ByteArray) : List (List ByteArray) :=
  if (stateB c now ts && tnameB tenant) = true then dealL (shN c) c.sh.toNat ((tenOf ts tenant).sers.map (·.s)) else []
theorem shs_in {c : CfgD} {now : Int} {ts : List TenD} (h : stateB c now ts = true) : 1 ≤ c.sh ∧ c.sh ≤ 64 ∧ 0 ≤ c.ha ∧ c.ha ≤ 2 := by
  have hc : cfgB c = true := by
    cases hb : cfgB c with
    | true => rfl
    | false => simp [stateB, hb] at h
  unfold cfgB at hc
  simp only [Bool.and_eq_true] at hc
  have h1 := btw_in hc.1.1.2
  have h2 := btw_in hc.1.2
  omega
theorem filt_len (sh : ByteArray → Nat) (n : Nat) (ks : List ByteArray) : (ks.filter fun k => decide (sh k < n)).length + (ks.filter fun k => sh k == n).length = (ks.filter fun k => decide (sh k < n + 1)).length := by
  induction ks with
  | nil => rfl
  | cons k r ih =>
    simp only [List.filter_cons]
    by_cases h1 : sh k < n
    · have h2 : ¬ (sh k == n) = true := by simp; omega
      rw [if_pos (by simpa using h1), if_neg h2, if_pos (by simp; omega)]
      simp only [List.length_cons]; omega
    · by_cases h2 : sh k = n
      · rw [if_neg (by simpa using h1), if_pos (by simpa using h2), if_pos (by simp; omega)]
        simp only [List.length_cons]; omega
      · rw [if_neg (by simpa using h1), if_neg (by simpa using h2), if_neg (by simp; omega)]
        exact ih
theorem ssLen_deal (sh : ByteArray → Nat) (n : Nat) (ks : List ByteArray) : ssLen (dealL sh n ks) = (ks.filter fun k => decide (sh k < n)).length := by
  induction n with
  | zero =>
    have : ks.filter (fun k => decide (sh k < 0)) = [] := List.filter_eq_nil_iff.2 fun k _ => by simp
    rw [this]; simp [dealL, ssLen]
  | succ n ih => rw [dealL_succ, ssLen_append, ih, ← filt_len]; simp [ssLen]
theorem ssLen_deal_le (sh : ByteArray → Nat) (n : Nat) (ks : List ByteArray) : ssLen (dealL sh n ks) ≤ ks.length := by
  rw [ssLen_deal]; exact List.length_filter_le _ _
theorem deal_at_le (sh : ByteArray → Nat) (n : Nat) (ks : List ByteArray) (i : Nat) (h : i < (dealL sh n ks).length) : (dealL sh n ks)[i].length ≤ ks.length := by
  rw [dealL_get]; exact List.length_filter_le _ _
/-- How great what is handed back may be. -/
theorem shardsV_small (c : CfgD) (now : Int) (ts : List TenD) (tenant : ByteArray) (z : Nat) (hz : (tenOf ts tenant).sers.length ≤ z) : (shardsV c now ts tenant).length ≤ 64 ∧ ssLen (shardsV c now ts tenant) ≤ z ∧ ∀ i (h : i < (shardsV c now ts tenant).length), (shardsV c now ts tenant)[i].length ≤ z := by
  unfold shardsV
  split
  · rename_i h
    rw [Bool.and_eq_true] at h
    have h1 := shs_in h.1
    refine ⟨by rw [dealL_length]; omega, ?_, fun i hi => ?_⟩
    · have := ssLen_deal_le (shN c) c.sh.toNat ((tenOf ts tenant).sers.map (·.s))
      rw [List.length_map] at this
      omega
    · have := deal_at_le (shN c) c.sh.toNat ((tenOf ts tenant).sers.map (·.s)) i hi
      rw [List.length_map] at this
      omega
  · exact ⟨by simp, by simp [ssLen], fun i h => absurd h (by simp)⟩
/-- What both sides hand back. -/
def ShOut (c : CfgD) (now : Int) (ts : List TenD) (tenant : ByteArray) (w : World) (e : Ending) (w' : World) : Prop :=
  ∃ a cap, e = .returned (.slice a (shardsV c now ts tenant).length cap) ∧ SSOwn w' w.heap.size a (shardsV c now ts tenant) ∧ Below w.heap.size w w'
end Go.Proofs.YtiajififiophgaaGreatDoor

