import Derived.Test.YtojeemogabhaoaaGreatDoorProg
import Derived.Test.YtojeemogabhaoaaGreatDoorJ47StrsEq
import Derived.Test.YtojeemogabhaoaaGreatDoorJ29SCnt
import Derived.Test.YtojeemogabhaoaaGreatDoorJ19ILim
import Derived.Test.YtojeemogabhaoaaGreatDoorJ36TenV
import Derived.Deep.AppendLies
namespace Go.Proofs.YtojeemogabhaoaaGreatDoor
open Go.RowKit
set_option maxRecDepth 100000 in
set_option maxHeartbeats 2000000 in
theorem eqStringSS_same (a a' : Option Addr) (cap cap' : Nat) (xs : List (List ByteArray)) (w : World) (hf : SSIn w a xs) (hf' : SSIn w a' xs) (hlen : xs.length ≤ maxLen) (hl : ∀ i (h : i < xs.length), xs[i].length ≤ maxLen) :
    Calls Tryz.prog 21 #[.slice a xs.length cap, .slice a' xs.length cap'] w fun e w' => e = .returned (.bool true) ∧ Below w.heap.size w w' := by
  unfold maxLen at hlen
  have HF : Hid (SSIn w a xs) := hf
  have HF' : Hid (SSIn w a' xs) := hf'
  have HL := hid hl
  clear hf hf' hl
  go_enter Tryz.func21, Tryz.ntmps21
  go_wp2
  go_loopw [5] (fun i wr => ∃ k : Nat, k ≤ xs.length ∧ i = .int .i64 k ∧ Below w.heap.size w wr) (fun i _ => xs.length - (intOf i).toNat)
  case atStart => exact ⟨0, Nat.zero_le _, rfl, Below.refl _ _⟩
  case round =>
    obtain ⟨k, hk, rfl, hbel⟩ := hrel
    by_cases hlt : k < xs.length
    · obtain ⟨b, o, a1, c1, rfl, hb, c0, s0⟩ := (HF.out.later hbel).at hlt
      obtain ⟨b', o', a1', c1', rfl, hb', c0', s0'⟩ := (HF'.out.later hbel).at hlt
      have d0 := Later.cells c0
      have d0' := Later.cells c0'
      have HE : Hid (∀ W, Below wr.heap.size wr W → Calls Tryz.prog 51 #[.slice a1 xs[k].length c1, .slice a1' xs[k].length c1'] W fun e w' => e = .returned (.bool true) ∧ Below W.heap.size W w') := fun W hW => eqStringS_same a1 a1' c1 c1' _ W (s0.later hW) (s0'.later hW) (HL.out k hlt)
      clear c0 c0' s0 s0'
      generalize xs[k].length = z at *
      have hne := Later.there wr
      go_wp2_with fail
      refine wp_region_later (by kernel_rfl) (by kernel_rfl) ?_
      repeat (go_big_quiet_step (first | (go_at_call 51; exact calls_later (HE.out _ (by first | exact (Later.h _) | assumption)))))
      refine wpQuiet_nil ?_
      rintro _ ⟨x, rfl⟩
      have HX : Hid (Below w.heap.size w x.w') := bto hbel x.h
      clear d0 d0' hne hbel HE
      generalize x.w' = W at *
      clear x
      go_wp2
      exact ⟨⟨k + 1, by omega, by go_num, HX.out⟩, by simp [intOf]; omega⟩
    · go_wp2
      go_ret
      exact ⟨rfl, hbel⟩
theorem markStringS_tag (kI : Int) (a : Option Addr) (cap : Nat) (l : List ByteArray) (k B n0 : Nat) (T : Nat → Nat) (w : World) (hkI : kI = (k : Int)) (hk : 0 < k) (hk2 : k + l.length ≤ 100000000) (hf : StrsTag w B T n0 a l) :
    Calls Tryz.prog 52 #[.slice a l.length cap, .int .i64 kI] w fun e w' => e = .returned (.int .i64 ((k + l.length : Nat) : Int)) ∧ Turn (fun g => B ≤ g ∧ T g = n0) w w' ∧ StrsTag w' B T n0 a (markT k l.length) := by
  subst hkI
  refine (markStringS_any a cap l k B w hk hk2 hf.own).mono ?_
  rintro e w' ⟨rfl, hm, ho⟩
  refine ⟨rfl, ?_, ?_⟩
  · rcases hm with ⟨_, h⟩ | ⟨hpos, g, o, rfl, hB, hb⟩
    · exact Turn.of h
    · rcases hf with rfl | ⟨g', o', cur, t, e, _, hT, _⟩
      · simp at hpos
      · cases e
        exact (Turn.but hb).mono fun i _ e => by subst e; exact ⟨hB, hT⟩
  · rcases hf with rfl | ⟨g', o', cur, t, e, _, hT, _⟩
    · exact Or.inl (List.length_eq_zero_iff.1 (by rw [markT_length]; rfl))
    · exact ho.tag fun g o e' => by rw [e] at e'; cases e'; exact hT
theorem heldStringS_int (kI : Int) (a : Option Addr) (cap : Nat) (k n : Nat) (w : World) (hkI : kI = (k : Int)) (hk : 0 < k) (hk2 : k + n ≤ 100000000) (hf : StrsIn w a (markT k n)) :
    Calls Tryz.prog 53 #[.slice a n cap, .int .i64 kI] w fun e w' => e = .returned (.int .i64 ((k + n : Nat) : Int)) ∧ Below w.heap.size w w' := hkI ▸ heldStringS_any a cap k n w hk hk2 hf
def ssLen : List (List ByteArray) → Nat
  | [] => 0
  | t :: r => t.length + ssLen r
theorem ssLen_append (a b : List (List ByteArray)) : ssLen (a ++ b) = ssLen a + ssLen b := by
  induction a with
  | nil => simp [ssLen]
  | cons f r ih => simp [ssLen, ih]; omega
theorem ssLen_take (ts : List (List ByteArray)) (j : Nat) (h : j < ts.length) : ssLen (ts.take (j + 1)) = ssLen (ts.take j) + ts[j].length := by
  rw [List.take_succ_eq_append_getElem h, ssLen_append]; simp [ssLen]
theorem ssLen_le (ts : List (List ByteArray)) (j : Nat) : ssLen (ts.take j) ≤ ssLen ts := by
  have := ssLen_append (ts.take j) (ts.drop j)
  rw [List.take_append_drop] at this; omega
def markAtS (k : Nat) (ts : List (List ByteArray)) (i : Nat) (t : List ByteArray) : List ByteArray := markT (k + ssLen (ts.take i)) t.length
def markSS (k : Nat) (ts : List (List ByteArray)) : List (List ByteArray) := ts.mapIdx (markAtS k ts)
theorem markSS_length (k : Nat) (ts : List (List ByteArray)) : (markSS k ts).length = ts.length := by simp [markSS]
theorem markSS_get {k : Nat} {ts : List (List ByteArray)} {i : Nat} (h : i < (markSS k ts).length) (h' : i < ts.length) : (markSS k ts)[i] = markT (k + ssLen (ts.take i)) ts[i].length := by simp [markSS, markAtS]
def SSUpto (w : World) (B g o k : Nat) (T : Nat → Nat) (ts : List (List ByteArray)) (j : Nat) : Prop :=
  ∀ i (h : i < ts.length), ∃ a1 c1, w.cell? ⟨g, o + i, none⟩ = some (.slice a1 ts[i].length c1) ∧ StrsTag w B T (i + 1) a1 (if i < j then markT (k + ssLen (ts.take i)) ts[i].length else ts[i])
set_option maxRecDepth 100000 in
set_option maxHeartbeats 4000000 in
theorem markStringSS_any (a : Option Addr) (cap : Nat) (ts : List (List ByteArray)) (k B : Nat) (w : World) (hk : 0 < k) (hlen : ts.length ≤ maxLen) (hk2 : k + ssLen ts ≤ 100000000) (hf : SSOwn w B a ts) :
    Calls Tryz.prog 22 #[.slice a ts.length cap, .int .i64 (k : Int)] w fun e w' => e = .returned (.int .i64 ((k + ssLen ts : Nat) : Int)) ∧ Turn (fun g => B ≤ g) w w' ∧ SSIn w' a (markSS k ts) := by
  unfold maxLen at hlen
  have HK2 : Hid (k + ssLen ts ≤ 100000000) := hk2
  clear hk2
  rcases hf with rfl | ⟨g, o, cur, t, T, rfl, hB, hg, hT, hf⟩
  · go_enter Tryz.func22, Tryz.ntmps22
    go_wp2
    go_loopw [1, 5] (fun l i wr => l = .int .i64 (k : Int) ∧ i = .int .i64 0 ∧ wr = w) (fun _ i _ => 0)
    case atStart => exact ⟨rfl, rfl, rfl⟩
    case round =>
      obtain ⟨rfl, rfl, rfl⟩ := hrel
      go_wp2
      go_ret
      exact ⟨rfl, Turn.refl _ _, Or.inl rfl⟩
  have HTG : Hid (T g = 0) := hT
  have H0 : Hid (SSUpto w B g o k T ts 0) := fun i h => by rw [if_neg (by omega)]; exact hf i h
  have HGL : Hid (g < w.heap.size) := lt_of_block hg
  clear hf hg hT
  go_enter Tryz.func22, Tryz.ntmps22
  go_wp2
  go_loopw [1, 5] (fun l i wr => ∃ (j K : Nat), j ≤ ts.length ∧ i = .int .i64 j ∧ l = .int .i64 (K : Int) ∧ Hid (K = k + ssLen (ts.take j)) ∧ Hid (SSUpto wr B g o k T ts j) ∧ Hid (Turn (fun g' => B ≤ g') w wr)) (fun _ i _ => ts.length - (intOf i).toNat)
  case atStart => exact ⟨0, k, Nat.zero_le _, rfl, rfl, by show _ = _; simp [ssLen], H0.out, Turn.refl _ _⟩
  case round =>
    obtain ⟨j, K, hj, rfl, rfl, HK, HR, HTU⟩ := hrel
    by_cases hlt : j < ts.length
    · obtain ⟨a1, c1, d0, p1⟩ := HR.out j hlt
      rw [if_neg (Nat.lt_irrefl _)] at p1
      have HLE : Hid (K + ts[j].length ≤ 100000000 ∧ k + ssLen (ts.take (j + 1)) = K + ts[j].length) := by
        have h1 := ssLen_take ts j hlt
        have h2 := ssLen_le ts (j + 1)
        have h3 := HK.out
        have h4 := HK2.out
        exact ⟨by omega, by omega⟩
      have hKp : 0 < K := by have := HK.out; omega
      have HC : Hid (∀ W, W = wr → Calls Tryz.prog 52 #[.slice a1 ts[j].length c1, .int .i64 (K : Int)] W fun e w' => e = .returned (.int .i64 ((K + ts[j].length : Nat) : Int)) ∧ Turn (fun g => B ≤ g ∧ T g = j + 1) wr w' ∧ SSUpto w' B g o k T ts (j + 1)) := by
        rintro W rfl
        refine (markStringS_tag _ a1 c1 ts[j] K B (j + 1) T W rfl hKp HLE.out.1 p1).mono ?_
        rintro e w3 ⟨rfl, ht3, q1⟩
        refine ⟨rfl, ht3, fun i hi => ?_⟩
        obtain ⟨b1, e1, x1, x2⟩ := HR.out i hi
        have hgk := ht3.block g (by have := HTU.out.size; have := HGL.out; omega) (fun h => by have := HTG.out; omega)
        by_cases e : i = j
        · subst e
          rw [if_pos (by omega), ← HK.out]
          rw [d0] at x1
          cases x1
          exact ⟨a1, c1, (World.cell?_of_block hgk).trans d0, q1⟩
        · have hif : (if i < j + 1 then markT (k + ssLen (ts.take i)) ts[i].length else ts[i]) = (if i < j then markT (k + ssLen (ts.take i)) ts[i].length else ts[i]) := by
            by_cases h : i < j
            · rw [if_pos h, if_pos (by omega)]
            · rw [if_neg h, if_neg (by omega)]
          rw [hif]
          exact ⟨b1, e1, (World.cell?_of_block hgk).trans x1, x2.turn ht3 fun g' hg' hs => by omega⟩
      have HP := hid p1
      clear p1
      go_wp2_with fail
      refine (HC.out _ rfl).mono ?_
      rintro e w3 ⟨rfl, ht3, q1⟩
      have HT3 : Hid (Turn (fun g' => B ≤ g') w w3) := HTU.out.trans' (ht3.mono fun i _ h => h.1)
      have HQ1 := hid q1
      have HEND : Hid (K + ts[j].length = k + ssLen (ts.take (j + 1))) := HLE.out.2.symm
      clear ht3 q1 d0
      go_wp2
      exact ⟨⟨j + 1, K + ts[j].length, by omega, by go_num, rfl, HEND.out, HQ1.out, HT3.out⟩, by simp [intOf]; omega⟩
    · have e : j = ts.length := by omega
      have HE : Hid ((K : Int) = ((k + ssLen ts : Nat) : Int)) := by
        show _ = _
        have := HK.out
        rw [e, List.take_length] at this
        omega
      have HEND : Hid (SSIn wr (some ⟨g, o, none⟩) (markSS k ts)) := by
        refine Or.inr ⟨g, o, rfl, by have := HTU.out.size; have := HGL.out; omega, fun i hi => ?_⟩
        have hi' : i < ts.length := by rw [markSS_length] at hi; exact hi
        obtain ⟨b1, e1, x1, x2⟩ := HR.out i hi'
        rw [if_pos (by omega)] at x2
        rw [markSS_get hi hi', markT_length]
        exact ⟨b1, e1, x1, x2.strs⟩
      go_wp2
      go_ret
      exact ⟨ret_int HE.out, HTU.out, HEND.out⟩
set_option maxRecDepth 100000 in
set_option maxHeartbeats 2000000 in
theorem heldStringSS_any (a : Option Addr) (cap : Nat) (ts : List (List ByteArray)) (k : Nat) (w : World) (hk : 0 < k) (hlen : ts.length ≤ maxLen) (hk2 : k + ssLen ts ≤ 100000000) (hf : SSIn w a (markSS k ts)) :
    Calls Tryz.prog 23 #[.slice a ts.length cap, .int .i64 (k : Int)] w fun e w' => e = .returned (.int .i64 ((k + ssLen ts : Nat) : Int)) ∧ Below w.heap.size w w' := by
  unfold maxLen at hlen
  have HF : Hid (SSIn w a (markSS k ts)) := hf
  have HK2 : Hid (k + ssLen ts ≤ 100000000) := hk2
  clear hf hk2
  go_enter Tryz.func23, Tryz.ntmps23
  go_wp2
  go_loopw [1, 5] (fun l i wr => ∃ (j K : Nat), j ≤ ts.length ∧ i = .int .i64 j ∧ l = .int .i64 (K : Int) ∧ Hid (K = k + ssLen (ts.take j)) ∧ Below w.heap.size w wr) (fun _ i _ => ts.length - (intOf i).toNat)
  case atStart => exact ⟨0, k, Nat.zero_le _, rfl, rfl, by show _ = _; simp [ssLen], Below.refl _ _⟩
  case round =>
    obtain ⟨j, K, hj, rfl, rfl, HK, hbel⟩ := hrel
    by_cases hlt : j < ts.length
    · have hjm : j < (markSS k ts).length := by rw [markSS_length]; exact hlt
      obtain ⟨b, o, a1, c1, rfl, hb, d0, s0⟩ := (HF.out.later hbel).at hjm
      rw [markSS_get hjm hlt] at d0 s0
      rw [markT_length] at d0
      have HLE : Hid (K + ts[j].length ≤ 100000000 ∧ k + ssLen (ts.take (j + 1)) = K + ts[j].length) := by
        have h1 := ssLen_take ts j hlt
        have h2 := ssLen_le ts (j + 1)
        have h3 := HK.out
        have h4 := HK2.out
        exact ⟨by omega, by omega⟩
      have hKp : 0 < K := by have := HK.out; omega
      rw [← HK.out] at s0
      have HC : Hid (∀ W, W = wr → Calls Tryz.prog 53 #[.slice a1 ts[j].length c1, .int .i64 (K : Int)] W fun e w' => e = .returned (.int .i64 ((K + ts[j].length : Nat) : Int)) ∧ Below wr.heap.size wr w') := by
        rintro W rfl
        exact heldStringS_int _ a1 c1 K _ W rfl hKp HLE.out.1 s0
      clear s0
      have HEND : Hid (K + ts[j].length = k + ssLen (ts.take (j + 1))) := HLE.out.2.symm
      have hkb : K + ts[j].length ≤ 100000000 := HLE.out.1
      generalize ts[j].length = z at *
      go_wp2_with fail
      refine (HC.out _ rfl).mono ?_
      rintro e w3 ⟨rfl, hb3⟩
      have HB3 : Hid (Below w.heap.size w w3) := bto hbel hb3
      clear hb3 d0 hbel
      have hn0 : ¬ (((K + z : Nat) : Int) < 0) := by omega
      go_wp2
      exact ⟨⟨j + 1, K + z, by omega, by go_num, rfl, HEND.out, HB3.out⟩, by simp [intOf]; omega⟩
    · have e : j = ts.length := by omega
      have HE : Hid ((K : Int) = ((k + ssLen ts : Nat) : Int)) := by
        show _ = _
        have := HK.out
        rw [e, List.take_length] at this
        omega
      go_wp2
      go_ret
      exact ⟨ret_int HE.out, hbel⟩
end Go.Proofs.YtojeemogabhaoaaGreatDoor
namespace Go.Proofs.YtojeemogabhaoaaGreatDoor
open Go.RowKit
def shN (c : CfgD) (k : ByteArray) : Nat := (shardV c k).toNat
theorem shardV_in {c : CfgD} (k : ByteArray) (h : 1 ≤ c.sh) : 0 ≤ shardV c k ∧ shardV c k < c.sh := by
  unfold shardV
  split
  · omega
  · split
    · exact ⟨Int.emod_nonneg _ (by omega), Int.emod_lt_of_pos _ (by omega)⟩
    · exact ⟨Int.emod_nonneg _ (by omega), Int.emod_lt_of_pos _ (by omega)⟩
theorem shN_int {c : CfgD} (k : ByteArray) (h : 1 ≤ c.sh) : ((shN c k : Nat) : Int) = shardV c k := by
  have := shardV_in k h
  unfold shN
  omega
theorem shN_lt {c : CfgD} (k : ByteArray) (h : 1 ≤ c.sh) : shN c k < c.sh.toNat := by
  have := shardV_in k h
  unfold shN
  omega
def shardsV (c : CfgD) (now : Int) (ts : List TenD) (tenant : ByteArray) : List (List ByteArray) :=
  if (stateB c now ts && tnameB tenant) = true then dealL (shN c) c.sh.toNat ((tenOf ts tenant).sers.map (·.s)) else []
theorem shs_in {c : CfgD} {now : Int} {ts : List TenD} (h : stateB c now ts = true) : 1 ≤ c.sh ∧ c.sh ≤ 64 ∧ 0 ≤ c.ha ∧ c.ha ≤ 2 := by
  have hc : cfgB c = true := by
    cases hb : cfgB c with
    | true => rfl
    | false => simp [stateB, hb] at h
  unfold cfgB at hc
  simp only [Bool.and_eq_true] at hc
  have h1 := btw_in hc.1.1.2
  have h2 := btw_in hc.1.2
  omega
theorem filt_len (sh : ByteArray → Nat) (n : Nat) (ks : List ByteArray) : (ks.filter fun k => decide (sh k < n)).length + (ks.filter fun k => sh k == n).length = (ks.filter fun k => decide (sh k < n + 1)).length := by
  induction ks with
  | nil => rfl
  | cons k r ih =>
    simp only [List.filter_cons]
    by_cases h1 : sh k < n
    · have h2 : ¬ (sh k == n) = true := by simp; omega
      rw [if_pos (by simpa using h1), if_neg h2, if_pos (by simp; omega)]
      simp only [List.length_cons]; omega
    · by_cases h2 : sh k = n
      · rw [if_neg (by simpa using h1), if_pos (by simpa using h2), if_pos (by simp; omega)]
        simp only [List.length_cons]; omega
      · rw [if_neg (by simpa using h1), if_neg (by simpa using h2), if_neg (by simp; omega)]
        exact ih
theorem ssLen_deal (sh : ByteArray → Nat) (n : Nat) (ks : List ByteArray) : ssLen (dealL sh n ks) = (ks.filter fun k => decide (sh k < n)).length := by
  induction n with
  | zero =>
    have : ks.filter (fun k => decide (sh k < 0)) = [] := List.filter_eq_nil_iff.2 fun k _ => by simp
    rw [this]; simp [dealL, ssLen]
  | succ n ih => rw [dealL_succ, ssLen_append, ih, ← filt_len]; simp [ssLen]
theorem ssLen_deal_le (sh : ByteArray → Nat) (n : Nat) (ks : List ByteArray) : ssLen (dealL sh n ks) ≤ ks.length := by
  rw [ssLen_deal]; exact List.length_filter_le _ _
theorem deal_at_le (sh : ByteArray → Nat) (n : Nat) (ks : List ByteArray) (i : Nat) (h : i < (dealL sh n ks).length) : (dealL sh n ks)[i].length ≤ ks.length := by
  rw [dealL_get]; exact List.length_filter_le _ _
theorem shardsV_small (c : CfgD) (now : Int) (ts : List TenD) (tenant : ByteArray) (z : Nat) (hz : (tenOf ts tenant).sers.length ≤ z) : (shardsV c now ts tenant).length ≤ 64 ∧ ssLen (shardsV c now ts tenant) ≤ z ∧ ∀ i (h : i < (shardsV c now ts tenant).length), (shardsV c now ts tenant)[i].length ≤ z := by
  unfold shardsV
  split
  · rename_i h
    rw [Bool.and_eq_true] at h
    have h1 := shs_in h.1
    refine ⟨by rw [dealL_length]; omega, ?_, fun i hi => ?_⟩
    · have := ssLen_deal_le (shN c) c.sh.toNat ((tenOf ts tenant).sers.map (·.s))
      rw [List.length_map] at this
      omega
    · have := deal_at_le (shN c) c.sh.toNat ((tenOf ts tenant).sers.map (·.s)) i hi
      rw [List.length_map] at this
      omega
  · exact ⟨by simp, by simp [ssLen], fun i h => absurd h (by simp)⟩
def ShOut (c : CfgD) (now : Int) (ts : List TenD) (tenant : ByteArray) (w : World) (e : Ending) (w' : World) : Prop :=
  ∃ a cap, e = .returned (.slice a (shardsV c now ts tenant).length cap) ∧ SSOwn w' w.heap.size a (shardsV c now ts tenant) ∧ Below w.heap.size w w'
end Go.Proofs.YtojeemogabhaoaaGreatDoor
namespace Go.Proofs.YtojeemogabhaoaaGreatDoor
open Go.RowKit Go.Maps
theorem info_ss : (Tryz.prog.info? 76).map (fun i => (i.zero, i.size, i.bytes)) = some (some (.slice none 0 0), 1, 24) := by kernel_rfl
theorem make_ss (n : Int) (h0 : 0 ≤ n) (hn : n ≤ 1000) (w : World) :
    (Instr.makeSlice 44 (.int .i64 n) (.int .i64 n)).run Tryz.prog w = .ok (.slice (some ⟨w.heap.size, 0, none⟩) n.toNat n.toNat) (w.alloc (.cells (madeCells #[.slice none 0 0] n.toNat) 76)) := by
  obtain ⟨i, hi, hzz⟩ := Option.map_eq_some_iff.1 info_ss
  simp only [Prod.mk.injEq] at hzz
  obtain ⟨hz, hs, hb⟩ := hzz
  have hr := run_make (P := Tryz.prog) w 44 76 i _ Tryz.underlying44 hi hz .i64 .i64 n n (by omega) (Int.le_refl _) (by rw [hb]; omega) (by omega)
  simp only [hs, Nat.mul_one] at hr
  exact hr
theorem rows_start (w : World) (B n : Nat) (T : Nat → Nat) : RowsT w B T (madeCells #[.slice none 0 0] n) (List.replicate n []) := by
  refine ⟨by rw [size_madeCells, List.length_replicate], fun i hi => ?_⟩
  have hi' : i < n := by simpa using hi
  refine ⟨.slice none 0 0, ?_, ?_, fun g hg => by simp [Value.ownBlock] at hg⟩
  · rw [← Array.getElem?_toList, toList_madeCells_one, List.getElem?_replicate, if_pos hi']
  · simpa using World.ownsRow_nil w B 9 1
set_option maxRecDepth 100000 in
set_option maxHeartbeats 8000000 in
theorem implShards_any (c : CfgD) (now : Int) (a : Option Addr) (cap : Nat) (ts : List TenD) (tenant : ByteArray) (M : Nat) (w : World) (hf : TensIn w a ts) (hfit : FitT ts M) (hlen : ts.length ≤ 1000000000) (hU : UTab w) (hn : tenant.size ≤ 1048576) (hks : (tenOf ts tenant).sers.length ≤ 1048576) (hkz : ∀ i (h : i < (tenOf ts tenant).sers.length), (tenOf ts tenant).sers[i].s.size ≤ maxLen) :
    Calls Tryz.prog 20 #[cfgV c, .agg #[.int .i64 now, .slice a ts.length cap], .string tenant] w fun e w' => ShOut c now ts tenant w e w' := by
  have HO : Hid (∀ W, Below w.heap.size w W → Calls Tryz.prog 32 #[cfgV c, .agg #[.int .i64 now, .slice a ts.length cap]] W fun e w' => OpenOut c now ts M W e w') := fun W hW => open_any c now a cap ts M W (hf.later hW) hfit hlen (hU.later hW)
  have HT : Hid (∀ W, Calls Tryz.prog 36 #[.string tenant] W fun e w' => e = .returned (.bool (tnameB tenant)) ∧ w' = W) := fun W => isTenantName_any tenant W (by unfold maxLen; omega)
  have HFI : Hid (∀ l m B W, LedAt W B l m c now ts M → Calls Tryz.prog 48 #[.pointer (some ⟨l, 0, none⟩), .string tenant] W fun e w' => TenOut c now ts l m tenant W e w') := fun l m B W h => find_ten l m tenant c now B ts M W h (by unfold maxLen; omega)
  have HKY : Hid (∀ x S M' W, IdxAt W S x (tenOf ts tenant) M' → Calls Tryz.prog 49 #[.pointer (some ⟨x, 0, none⟩)] W fun e w' => ∃ v, e = .returned v ∧ w'.ownsRow W.heap.size 9 1 v (tenOf ts tenant).sers.length ((tenOf ts tenant).sers.map fun p => .string p.s) ∧ Below W.heap.size W w') := fun x S M' W h => keys_any x _ S M' W h (by omega)
  have HV : Hid (shardsV c now ts tenant = if (stateB c now ts && tnameB tenant) = true then dealL (shN c) c.sh.toNat ((tenOf ts tenant).sers.map (·.s)) else []) := rfl
  have HKZ := hid hkz
  clear hf hfit hU hkz
  unfold OpenOut at HO
  unfold TenOut at HFI
  unfold ShOut
  generalize tenOf ts tenant = t at *
  generalize shardsV c now ts tenant = RES at *
  generalize tnameB tenant = b1 at *
  obtain ⟨ti, hti, hz0, hz1, hz2⟩ := info_str
  have HI : Hid (Tryz.prog.info? 9 = some ti) := hti
  clear hti
  unfold cfgV at HO
  have HSH : Hid (∀ W s, s.size ≤ maxLen → 1 ≤ c.sh → c.sh ≤ 64 → Calls Tryz.prog 50 #[.agg #[.int .i64 c.w, .int .i64 c.tl, .int .i64 c.ml, .int .i64 c.sh, .int .i64 c.ha, .int .i64 c.sg], .string s] W fun e w' => e = .returned (.int .i64 (shN c s : Nat)) ∧ Below W.heap.size W w') := fun W s hs h1 h2 => by
    rw [shN_int s h1]
    exact shardOf_any c s W hs h1 (by omega)
  unfold cfgV
  go_enter Tryz.func20, Tryz.ntmps20
  go_wp2_with fail
  refine (HO.out _ (bto (bnew _ _) (bnew _ _))).mono ?_
  intro e w1 hx
  have HX := hid hx
  clear hx
  rcases HX.out with ⟨hs, rfl, hb⟩ | ⟨hs, l, m, rfl, _, hled, hb⟩
  · have HB : Hid (Below w.heap.size w w1) := bto (bto (bnew _ _) (bnew _ _)) hb
    have HV2 : Hid (RES = []) := by show _ = _; rw [HV.out, hs]; rfl
    clear HX hb hs
    go_wp2
    refine bodyPost_ret (v := .slice none 0 0) (by simp [results, Tryz.results20, go_sem]) rfl ⟨none, 0, by rw [HV2.out]; rfl, Or.inl HV2.out, HB.out⟩
  have HB : Hid (Below w.heap.size w w1) := bto (bto (bnew _ _) (bnew _ _)) hb
  have A1 : Hid (Blk w1 w.heap.size #[.int .i64 c.w, .int .i64 c.tl, .int .i64 c.ml, .int .i64 c.sh, .int .i64 c.ha, .int .i64 c.sg] 29) := hid (((Blk.new _ _ _).alloc _).later hb)
  have HL := hid hled
  by_cases h1 : b1 = false
  · have HV2 : Hid (RES = []) := by show _ = _; rw [HV.out, h1]; simp
    subst h1
    clear HX hb hs hled HO
    go_wp2_with fail
    refine (HT.out _).mono ?_
    rintro e w2 ⟨rfl, hw⟩
    replace hw := hw.symm
    subst hw
    go_wp2
    refine bodyPost_ret (v := .slice none 0 0) (by simp [results, Tryz.results20, go_sem]) rfl ⟨none, 0, by rw [HV2.out]; rfl, Or.inl HV2.out, HB.out⟩
  have h1' : b1 = true := by simpa using h1
  subst h1'
  clear h1
  have hcs := shs_in hs
  have HV2 : Hid (RES = dealL (shN c) c.sh.toNat (t.sers.map (·.s))) := by show _ = _; rw [HV.out, hs]; rfl
  clear HX hb hs hled HO HV
  obtain ⟨s1, s2, s3, s4⟩ := hcs
  clear s3 s4
  go_wp2_with fail
  refine (HT.out _).mono ?_
  rintro e w2 ⟨rfl, hw⟩
  replace hw := hw.symm
  subst hw
  go_wp2_with fail
  refine (HFI.out l m _ _ HL.out).mono ?_
  rintro e w2 ⟨x, b, S, M', rfl, hi, _, hb2⟩
  have HI2 := hid hi
  have B2 : Hid (Below w.heap.size w w2) := bto HB.out hb2
  have A2 : Hid (Blk w2 w.heap.size #[.int .i64 c.w, .int .i64 c.tl, .int .i64 c.ml, .int .i64 c.sh, .int .i64 c.ha, .int .i64 c.sg] 29) := A1.out.later hb2
  have c3 : w2.cell? ⟨w.heap.size, 3, none⟩ = some (.int .i64 c.sh) := A2.out.cell 3
  have hmk : ∀ W : World, (Instr.makeSlice 44 (.int .i64 c.sh) (.int .i64 c.sh)).run Tryz.prog W = .ok (.slice (some ⟨W.heap.size, 0, none⟩) c.sh.toNat c.sh.toNat) (W.alloc (.cells (madeCells #[.slice none 0 0] c.sh.toNat) 76)) := fun W => make_ss c.sh (by omega) (by omega) W
  clear hi hb2 HB A1 HL HFI HT
  go_wp2_with fail
  refine (HKY.out x S M' _ (HI2.out.later (bnew _ _))).mono ?_
  rintro e w4 ⟨kv, rfl, hrow, hb4⟩
  obtain ⟨ka, kc, rfl⟩ := row_form hrow
  have hso : StrsOwn w4 (w2.heap.size + 1) ka (t.sers.map (·.s)) := by
    have h0 : w4.ownsRow (w2.heap.size + 1) 9 1 (.slice ka (t.sers.map (·.s)).length kc) (t.sers.map (·.s)).length ((t.sers.map (·.s)).map Value.string) := by
      have e0 : (t.sers.map fun p : PairD => p.s).map Value.string = t.sers.map fun p => .string p.s := by rw [List.map_map]; rfl
      rw [e0, List.length_map]
      simpa using hrow
    exact strs_of_row h0
  have HSO := hid hso
  have HG : Hid (Blk w4 w2.heap.size (madeCells #[.slice none 0 0] c.sh.toNat) 76) := (Blk.new _ _ _).later hb4
  have A4 : Hid (Blk w4 w.heap.size #[.int .i64 c.w, .int .i64 c.tl, .int .i64 c.ml, .int .i64 c.sh, .int .i64 c.ha, .int .i64 c.sg] 29) := (A2.out.alloc _).later hb4
  have B4 : Hid (Below w.heap.size w w4) := bto (bto B2.out (bnew _ _)) hb4
  have HGL : Hid (w.heap.size < w2.heap.size ∧ w2.heap.size < w4.heap.size) := ⟨lt_of_block A2.out, lt_of_block HG.out⟩
  have hkz2 : ∀ i (h : i < (t.sers.map fun p : PairD => p.s).length), (t.sers.map fun p : PairD => p.s)[i].size ≤ maxLen := fun i h => by simpa using HKZ.out i (by simpa using h)
  have HKZ2 := hid hkz2
  have hkl : (t.sers.map (·.s)).length ≤ 1048576 := by simpa using hks
  have hel : t.sers.length = (t.sers.map (·.s)).length := by simp
  rw [hel]
  clear hrow hb4 hso hkz2 HKZ hks hel HI2 HKY c3 hmk A2 B2
  generalize t.sers.map (·.s) = ks at *
  have hsn : ((c.sh.toNat : Nat) : Int) = c.sh := by omega
  obtain ⟨N, hN⟩ : ∃ N, N = c.sh.toNat := ⟨_, rfl⟩
  rw [← hN] at HG HV2 ⊢
  have HNE : Hid (((N : Nat) : Int) = c.sh) := by show _ = _; rw [hN]; exact hsn
  have hN64 : N ≤ 64 := by omega
  have HLT : Hid (∀ s, shN c s < N) := fun s => by rw [hN]; exact shN_lt s s1
  have HSH2 : Hid (∀ W s, s.size ≤ maxLen → Calls Tryz.prog 50 #[.agg #[.int .i64 c.w, .int .i64 c.tl, .int .i64 c.ml, .int .i64 c.sh, .int .i64 c.ha, .int .i64 c.sg], .string s] W fun e w' => e = .returned (.int .i64 (shN c s : Nat)) ∧ Below W.heap.size W w') := fun W s hs => HSH.out W s hs s1 s2
  clear HSH s1 s2 hsn hN
  generalize shN c = sh at *
  generalize w2.heap.size = G at *
  go_wp2
  go_loopw [13, 14, 40] (fun _ _ i wr => ∃ (k : Nat) (cc : Array Value) (T : Nat → Nat), k ≤ ks.length ∧ i = .int .i64 k ∧ Hid (Blk wr G cc 76) ∧ Hid (T G = 0) ∧ Hid (RowsT wr w4.heap.size T cc (dealL sh N (ks.take k))) ∧ Hid (Turn (· = G) w4 wr)) (fun _ _ i _ => ks.length - (intOf i).toNat)
  case atStart => exact ⟨0, _, fun _ => 0, Nat.zero_le _, rfl, HG.out, rfl, by show RowsT _ _ _ _ _; rw [List.take_zero, dealL_nil]; exact rows_start _ _ _ _, Turn.refl _ _⟩
  case round =>
    obtain ⟨k, cc, T, hk, rfl, HBK, HTG, HR, HTU⟩ := hrel
    have A5 : Hid (Blk wr w.heap.size #[.int .i64 c.w, .int .i64 c.tl, .int .i64 c.ml, .int .i64 c.sh, .int .i64 c.ha, .int .i64 c.sg] 29) := HTU.out.blk A4.out (by have := HGL.out; omega)
    by_cases hlt : k < ks.length
    · have hso : ∃ g o, ka = some ⟨g, o, none⟩ ∧ G + 1 ≤ g ∧ g < w4.heap.size ∧ w4.cell? ⟨g, o + k, none⟩ = some (.string ks[k]) := by
        rcases HSO.out with h0 | ⟨g, o, cur, ty, e, hB, hg, hc⟩
        · rw [h0] at hlt; exact absurd hlt (by simp)
        · exact ⟨g, o, e, hB, lt_of_block hg, hc k hlt⟩
      obtain ⟨g, o, rfl, hg1, hg2, hgc⟩ := hso
      have hkey : wr.cell? ⟨g, o + k, none⟩ = some (.string ks[k]) := (World.cell?_of_block (HTU.out.block g hg2 (by omega))).trans hgc
      have x0 : wr.cell? ⟨w.heap.size, 0, none⟩ = some (.int .i64 c.w) := A5.out.cell 0
      have x1 : wr.cell? ⟨w.heap.size, 1, none⟩ = some (.int .i64 c.tl) := A5.out.cell 1
      have x2 : wr.cell? ⟨w.heap.size, 2, none⟩ = some (.int .i64 c.ml) := A5.out.cell 2
      have x3 : wr.cell? ⟨w.heap.size, 3, none⟩ = some (.int .i64 c.sh) := A5.out.cell 3
      have x4 : wr.cell? ⟨w.heap.size, 4, none⟩ = some (.int .i64 c.ha) := A5.out.cell 4
      have x5 : wr.cell? ⟨w.heap.size, 5, none⟩ = some (.int .i64 c.sg) := A5.out.cell 5
      have HD : Hid (ks.take (k + 1) = ks.take k ++ [ks[k]]) := List.take_succ_eq_append_getElem hlt
      have hkzz := HKZ2.out k hlt
      have hshlt := HLT.out ks[k]
      have hsz4 : w4.heap.size ≤ wr.heap.size := HTU.out.size
      clear hgc
      generalize ks[k] = key at *
      have HSK : Hid (Calls Tryz.prog 50 #[.agg #[.int .i64 c.w, .int .i64 c.tl, .int .i64 c.ml, .int .i64 c.sh, .int .i64 c.ha, .int .i64 c.sg], .string key] wr fun e w' => e = .returned (.int .i64 (sh key : Nat)) ∧ Below wr.heap.size wr w') := HSH2.out wr key hkzz
      have hnl : (dealL sh N (ks.take k)).length = N := dealL_length _ _ _
      have HDS : Hid (dealL sh N (ks.take (k + 1)) = (dealL sh N (ks.take k)).set (sh key) (((dealL sh N (ks.take k))[sh key]'(by rw [hnl]; exact hshlt)) ++ [key])) := by
        show _ = _
        rw [HD.out]
        exact dealL_snoc sh N _ key hshlt
      have HZL : Hid (((dealL sh N (ks.take k))[sh key]'(by rw [hnl]; exact hshlt)).length ≤ 1048576) := by
        have := deal_at_le sh N (ks.take k) (sh key) (by rw [hnl]; exact hshlt)
        have h2 : (ks.take k).length ≤ ks.length := by rw [List.length_take]; omega
        show _ ≤ _
        omega
      clear HD
      generalize dealL sh N (ks.take k) = XS at *
      generalize sh key = J at *
      have hJX : J < XS.length := by omega
      obtain ⟨v, hv1, hv2, hv3⟩ := HR.out.at hJX
      have HV1 := hid hv1
      have HVO := hid hv2
      have HV3 := hid hv3
      have hzl : XS[J].length ≤ 1048576 := HZL.out
      obtain ⟨va, vc, rfl⟩ := row_form hv2
      have hJc : J < cc.size := by rw [HR.out.1]; omega
      clear hv1 hv2 hv3 HZL
      go_wp2_with fail
      refine HSK.out.mono ?_
      rintro e w5 ⟨rfl, hb5⟩
      have hsz5 := hb5.size
      have BK5 : Hid (Blk w5 G cc 76) := HBK.out.later hb5
      have c5 : w5.cell? ⟨G, J, none⟩ = some (.slice va XS[J].length vc) := (BK5.out.cell J).trans HV1.out
      have R5 : Hid (RowsT w5 w4.heap.size T cc XS) := HR.out.turn (Turn.of (S := fun _ => False) hb5) fun _ _ _ _ e => e
      have O5 : Hid (w5.ownsRow w4.heap.size 9 1 (.slice va XS[J].length vc) XS[J].length (XS[J].map Value.string)) := (Turn.of (S := fun _ => False) hb5).row HVO.out (fun _ _ e => e)
      have T5 : Hid (Turn (· = G) w4 w5) := HTU.out.trans (Turn.of hb5)
      have hGw : G < w4.heap.size := HGL.out.2
      clear hb5 x0 x1 x2 x3 x4 x5 hkey HR HVO HTU HBK A5 HSK
      go_wp2_with (at_builtin; refine wpList_append_lies _ rfl _ _ _ rfl w4.heap.size 9 ti _ 1 16 Tryz.underlying76 HI.out hz0 hz1 hz2 rfl (by omega) (.slice va XS[J].length vc) XS[J].length (XS[J].map Value.string) rfl (by exact row_later O5.out (bnew _ _)) ⟨w5.heap.size, 0, none⟩ 1 1 [.string key] rfl rfl (by exact World.news_of_block (heap_alloc_new _ _)) (by simp [Value.oneCell']) (by omega) (by simp [maxLen]; omega) (by omega) (by simp; omega) (w5.heap.size + 1) (by simp) ?_; intro gg cap6 w6 hown6 hgrow6 hat6 hlt6; have hag : (Value.slice va XS[J].length vc).ownBlock ≠ some G := (fun e => by have := (O5.out.lt G e).1; omega); have BK6 : Hid (Blk w6 G cc 76) := (Turn.grown hgrow6).blk (BK5.out.alloc _) hag; have s6 := (BK6.out.cell J).trans HV1.out; have f6 := BK6.out.free J; have HO6 := hid hown6; have HGR6 := hid hgrow6; have HAT6 := hid hat6; have HAG := hid hag; clear hown6 hgrow6 hat6 hlt6 hag)
      have hgg : w4.heap.size ≤ gg := by
        rcases HAT6.out with h | h
        · exact (O5.out.lt gg h).1
        · omega
      have hset : Turn (· = G) w6 (w6.setCell ⟨G, J, none⟩ (.slice (some ⟨gg, 0, none⟩) (XS[J].length + 1) cap6)) := (Turn.refl (· = G) w6).setCell (Or.inl rfl) J _
      have HSN := RowsT.snoc (H := w5.heap.size + 1) (R5.out.turn (Turn.of (S := fun _ => False) (bnew w5 (.cells #[.string key] 9))) fun _ _ _ _ e => e) hJX HV3.out (Turn.grown HGR6.out) (by simp) HAT6.out HO6.out
      have hTG : (if G = gg then J + 1 else T G) = 0 := by rw [if_neg (by omega)]; exact HTG.out
      refine ⟨⟨k + 1, _, fun b => if b = gg then J + 1 else T b, by omega, by go_num, BK6.out.set J _, hTG, ?_, ?_⟩, by simp [intOf]; omega⟩
      · show RowsT _ _ _ _ (dealL sh N (ks.take (k + 1)))
        rw [HDS.out]
        exact HSN.turn hset fun g _ _ h e => h (by rw [e]; exact hTG)
      · exact ((T5.out.trans (Turn.of (bnew _ _))).trans ((Turn.grown HGR6.out).mono fun i _ e => Or.inr (O5.out.lt i e).1)).trans' hset
    · have ek : k = ks.length := by omega
      have HEN : Hid (RES = dealL sh N (ks.take k)) := by show _ = _; rw [HV2.out, ek, List.take_length]
      have HLN : Hid (N = RES.length) := by show _ = _; rw [HV2.out, dealL_length]
      have HB : Hid (Below w.heap.size w wr) := ((Turn.of (S := fun i => w.heap.size ≤ i) B4.out).trans' (HTU.out.mono fun i _ e => by have := HGL.out; omega)).below (Nat.le_refl _) fun i hi h => by omega
      have HOW : Hid (SSOwn wr w.heap.size (some ⟨G, 0, none⟩) RES) := by
        show SSOwn _ _ _ _
        rw [HEN.out]
        exact (HR.out.base (by have := HGL.out; omega)).own HBK.out (by have := HGL.out; omega) HTG.out
      go_wp2
      refine bodyPost_ret (v := .slice (some ⟨G, 0, none⟩) N N) (by simp [results, Tryz.results20, go_sem]) rfl ⟨some ⟨G, 0, none⟩, N, by rw [← HLN.out], HOW.out, HB.out⟩
end Go.Proofs.YtojeemogabhaoaaGreatDoor
namespace Go.Proofs.YtojeemogabhaoaaGreatDoor
open Go.RowKit
theorem wrap_small {z : Int} (h0 : 0 ≤ z) (h1 : z ≤ 2000000000000) : IntKind.i64.wrap z = z := by
  simp only [IntKind.wrap, IntKind.bits, IntKind.signed]
  simp
  omega
set_option maxRecDepth 100000 in
set_option maxHeartbeats 2000000 in
theorem unsigned_any (H : Nat) (n : Int) (w : World) (hH : H < 18446744073709551616) (h1 : 1 ≤ n) (h2 : n ≤ 1000000) :
    Calls Tryz.prog 46 #[.int .i64 (w64 H), .int .i64 n] w fun e w' => e = .returned (.int .i64 ((H : Int) % n)) ∧ Below w.heap.size w w' := by
  have hne : n ≠ 0 := by omega
  by_cases hs : H < 9223372036854775808
  · have e : w64 H = (H : Int) := by unfold w64; rw [if_pos hs]
    rw [e]
    have h0 : 0 ≤ (H : Int) := by omega
    go_enter Tryz.func46, Tryz.ntmps46
    go_wp2
    go_ret
    exact ⟨rfl, Below.refl _ _⟩
  · have HE : Hid (w64 H = (H : Int) - 18446744073709551616 ∧ 9223372036854775808 ≤ H ∧ H < 18446744073709551616) := ⟨by unfold w64; rw [if_neg hs], by omega, hH⟩
    have h0 : w64 H < 0 := by rw [HE.out.1]; omega
    generalize w64 H = x at *
    clear hs hH
    generalize hR : ((H : Int) % n) = R
    have HR : Hid ((H : Int) % n = R) := hR
    clear hR
    have hnel := Later.there w
    go_enter Tryz.func46, Tryz.ntmps46
    go_wp2_with fail
    have l0 : 0 ≤ x % 4294967296 := Int.emod_nonneg _ (by decide)
    have l1 : x % 4294967296 < 4294967296 := Int.emod_lt_of_pos _ (by decide)
    have k0 : 0 ≤ x / 4294967296 % 4294967296 := Int.emod_nonneg _ (by decide)
    have k1 : x / 4294967296 % 4294967296 < 4294967296 := Int.emod_lt_of_pos _ (by decide)
    have HHI : Hid ((H : Int) = (x / 4294967296 % 4294967296) * 4294967296 + x % 4294967296) := by
      show _ = _
      obtain ⟨e1, e2, e3⟩ := HE.out
      omega
    generalize x % 4294967296 = lo at *
    generalize x / 4294967296 % 4294967296 = hi at *
    have a0 := Int.emod_nonneg hi hne
    have a1 := Int.emod_lt_of_pos hi (show 0 < n by omega)
    have b0 := Int.emod_nonneg 4294967296 hne
    have b1 := Int.emod_lt_of_pos 4294967296 (show 0 < n by omega)
    have p0 : 0 ≤ hi % n * (4294967296 % n) := Int.mul_nonneg a0 b0
    have p1 : hi % n * (4294967296 % n) ≤ 1000000 * 1000000 := Int.mul_le_mul (by omega) (by omega) b0 (by omega)
    have hw1 : IntKind.i64.wrap (hi % n * (4294967296 % n)) = hi % n * (4294967296 % n) := wrap_small p0 (by omega)
    have hw2 : IntKind.i64.wrap (hi % n * (4294967296 % n) + lo) = hi % n * (4294967296 % n) + lo := wrap_small (by omega) (by omega)
    have HRR : Hid ((hi % n * (4294967296 % n) + lo) % n = R) := by
      show _ = _
      rw [← HR.out, HHI.out, Int.add_emod, ← Int.mul_emod, ← Int.add_emod]
    refine wp_region_later (by kernel_rfl) (by kernel_rfl) ?_
    repeat (go_big_quiet_step (fail))
    refine wpQuiet_nil ?_
    rintro _ ⟨y, rfl⟩
    go_wp2
    go_ret
    exact ⟨ret_int HRR.out, y.h⟩
end Go.Proofs.YtojeemogabhaoaaGreatDoor
