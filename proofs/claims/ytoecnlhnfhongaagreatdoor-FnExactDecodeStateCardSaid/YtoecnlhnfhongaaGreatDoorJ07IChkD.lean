import Derived.Test.YtoecnlhnfhongaaGreatDoorProg
import Derived.Test.YtoecnlhnfhongaaGreatDoorJ05ITenD
import Derived.Test.YtoecnlhnfhongaaGreatDoorJ06TenV
namespace Go.Proofs.YtoecnlhnfhongaaGreatDoor
open Go.RowKit

theorem info_tenP : ∃ i, Tryz.prog.info? 39 = some i ∧ i.zero = some (.agg #[.string ⟨#[]⟩, .int .i64 0, .slice none 0 0, .slice none 0 0]) ∧ i.size = 4 ∧ i.bytes = 72 := by
  have h : (Tryz.prog.info? 39).map (fun i => (i.zero, i.size, i.bytes)) = some (some (.agg #[.string ⟨#[]⟩, .int .i64 0, .slice none 0 0, .slice none 0 0]), 4, 72) := by kernel_rfl
  obtain ⟨i, hi, hz⟩ := Option.map_eq_some_iff.1 h
  simp only [Prod.mk.injEq] at hz
  exact ⟨i, hi, hz.1, hz.2.1, hz.2.2⟩
/-- The state that is being read: its two boxes and its row. -/
def GS (w0 : World) (B R1 R2 : Nat) (N : Int) (v : Value) (k : Nat) (ts : List TenD) (w' : World) : Prop :=
  Blk w' R2 #[.int .i64 N, v] 26 ∧ Blk w' R1 #[.int .i64 0, .slice none 0 0] 26 ∧ RowV w' (R2 + 1) 39 v k ts ∧ But B w0 w'
theorem GS.turn {w0 : World} {B R1 R2 : Nat} {N : Int} {v : Value} {k : Nat} {ts : List TenD} {w' w'' : World} (h : GS w0 B R1 R2 N v k ts w') (hb : But B w' w'') (h1 : B < R1) (h2 : R1 < R2) : GS w0 B R1 R2 N v k ts w'' :=
  ⟨h.1.but hb (by omega), h.2.1.but hb (by omega), h.2.2.1.turn (Turn.but hb) (fun g e => by omega), h.2.2.2.trans hb⟩
def ChkOut (B : Nat) (s : ByteArray) (w : World) (e : Ending) (w' : World) : Prop :=
  ((staR s).2.short = false ∧ ∃ av cap, e = .returned (.tuple #[.int .i64 (wrapN (slR s).1), .agg #[.int .i64 (wrapN (snR s).1), .slice av (staR s).1.length cap]]) ∧ TensOwn w' w.heap.size av (staR s).1 ∧ RT w' B (staR s).2 ∧ But B w w') ∨
  ((staR s).2.short = true ∧ e = .panicked dcdP ∧ But B w w')
theorem sl_short {s : ByteArray} (h : (ckR s).2.short = true) : (slR s).2.short = true := by rw [slR]; exact num_short h
theorem sw_short {s : ByteArray} (h : (slR s).2.short = true) : (snR s).2.short = true := by rw [snR]; exact num_short h
theorem sc_short {s : ByteArray} (h : (snR s).2.short = true) : (scR s).2.short = true := by rw [scR]; exact num_short h
theorem st_short {s : ByteArray} (h : (scR s).2.short = true) : (staR s).2.short = true := by rw [staR]; exact rdts_short (k := 0) (by rw [rdTs_zero]; exact h) _ (Nat.zero_le _)
theorem big_ck {s : ByteArray} (h : s.size ≤ 1000000000) : (ckR s).2.rest.size ≤ 1000000000 := by rw [ckR]; exact Nat.le_trans (take_le 4 ⟨s, false⟩).2.2 h
theorem big_sl {s : ByteArray} (h : s.size ≤ 1000000000) : (slR s).2.rest.size ≤ 1000000000 := by rw [slR]; exact Nat.le_trans (num_le 8 _) (big_ck h)
theorem big_sw {s : ByteArray} (h : s.size ≤ 1000000000) : (snR s).2.rest.size ≤ 1000000000 := by rw [snR]; exact Nat.le_trans (num_le 8 _) (big_sl h)
theorem big_sc {s : ByteArray} (h : s.size ≤ 1000000000) : (scR s).2.rest.size ≤ 1000000000 := by rw [scR]; exact Nat.le_trans (num_le 4 _) (big_sw h)
theorem PairsTag.base {w : World} {B B' n : Nat} {T : Nat → Nat} {a : Option Addr} {ps : List PairD} (h : PairsTag w B T n a ps) (hB : B' ≤ B) : PairsTag w B' T n a ps := by
  rcases h with h | ⟨g, o, cur, t, e, h1, h2, h3, h4⟩
  · exact Or.inl h
  · exact Or.inr ⟨g, o, cur, t, e, Nat.le_trans hB h1, h2, h3, h4⟩
theorem TensOwn.base {w : World} {B B' : Nat} {a : Option Addr} {ts : List TenD} (h : TensOwn w B a ts) (hB : B' ≤ B) : TensOwn w B' a ts := by
  rcases h with h | ⟨g, o, cur, t, T, e, h1, h2, h3, h4⟩
  · exact Or.inl h
  · refine Or.inr ⟨g, o, cur, t, T, e, Nat.le_trans hB h1, h2, h3, fun i hi => ?_⟩
    obtain ⟨a1, c1, a2, c2, q0, q1, q2, q3, q4, q5⟩ := h4 i hi
    exact ⟨a1, c1, a2, c2, q0, q1, q2, q3, q4.base hB, q5.base hB⟩
/-- What a tenant's reading gives, as the loop wants it. -/
def TenOk (B : Nat) (W : World) (t : TenD) (r' : Rd) (e : Ending) (w' : World) : Prop :=
  ∃ M a1 c1 a2 c2, e = .returned (.agg #[.string t.name, .int .i64 t.limit, .slice a1 t.mets.length c1, .slice a2 t.sers.length c2]) ∧ W.heap.size ≤ M ∧ PairsOwn w' W.heap.size a1 t.mets ∧ (∀ g o, a1 = some ⟨g, o, none⟩ → g < M) ∧ PairsOwn w' M a2 t.sers ∧ M ≤ w'.heap.size ∧ RT w' B r' ∧ But B W w'

set_option maxRecDepth 100000 in
set_option maxHeartbeats 8000000 in
theorem checkD_any (B : Nat) (s : ByteArray) (w : World) (hB : RT w B ⟨s, false⟩) (hs : s.size ≤ 1000000000) :
    Calls Tryz.prog 15 #[.pointer (some ⟨B, 0, none⟩)] w fun e w' => ChkOut B s w e w' := by
  have hBw : B < w.heap.size := by obtain ⟨t, h⟩ := hB; exact lt_of_block h
  have HB : Hid (RT w B ⟨s, false⟩) := hB
  have HOK : Hid (∀ av cap w', (rdTs (scR s).2 (scR s).1).2.short = false → TensOwn w' w.heap.size av (rdTs (scR s).2 (scR s).1).1 → RT w' B (rdTs (scR s).2 (scR s).1).2 → But B w w' → ChkOut B s w (.returned (.tuple #[.int .i64 (wrapN (slR s).1), .agg #[.int .i64 (wrapN (snR s).1), .slice av (scR s).1 cap]])) w') := fun av cap w' a b c d => by
    have hl : (staR s).1.length = (scR s).1 := by rw [staR]; exact rdTs_length _ _
    have e0 : rdTs (scR s).2 (scR s).1 = staR s := by rw [staR]
    rw [e0] at a b c
    refine Or.inl ⟨a, av, cap, ?_, b, c, d⟩
    rw [hl]
  have HBAD : Hid (∀ w', (staR s).2.short = true → But B w w' → ChkOut B s w (.panicked dcdP) w') := fun w' a b => Or.inr ⟨a, rfl, b⟩
  have HC0 : Hid (∀ W, RT W B ⟨s, false⟩ → Calls Tryz.prog 33 #[.pointer (some ⟨B, 0, none⟩), .int .i64 4] W fun e w' => (∃ x, e = .returned (.string x)) ∧ RT w' B (ckR s).2 ∧ But B W w') := fun W h => (takeT_any B ⟨s, false⟩ 4 W h (by omega) hs).mono fun e w' q => ⟨⟨_, q.1⟩, by rw [ckR]; exact q.2.1, q.2.2⟩
  have HC1 : Hid (∀ W, RT W B (ckR s).2 → Calls Tryz.prog 34 #[.pointer (some ⟨B, 0, none⟩), .int .i64 8] W fun e w' => (e = .returned (.int .i64 (wrapN (slR s).1)) ∧ RT w' B (slR s).2 ∧ But B W w') ∨ (e = .panicked dcdP ∧ (staR s).2.short = true ∧ But B W w')) := fun W h => by
    refine (numD_any B _ 8 W h (by omega) (big_ck hs)).mono ?_
    rintro e w' (⟨a, b, c⟩ | ⟨a, b, c⟩)
    · exact Or.inl ⟨by rw [slR]; exact a, by rw [slR]; exact c.1, c.2⟩
    · exact Or.inr ⟨a, st_short (sc_short (sw_short (by rw [slR]; exact b))), c⟩
  have HC2 : Hid (∀ W, RT W B (slR s).2 → Calls Tryz.prog 34 #[.pointer (some ⟨B, 0, none⟩), .int .i64 8] W fun e w' => (e = .returned (.int .i64 (wrapN (snR s).1)) ∧ RT w' B (snR s).2 ∧ But B W w') ∨ (e = .panicked dcdP ∧ (staR s).2.short = true ∧ But B W w')) := fun W h => by
    refine (numD_any B _ 8 W h (by omega) (big_sl hs)).mono ?_
    rintro e w' (⟨a, b, c⟩ | ⟨a, b, c⟩)
    · exact Or.inl ⟨by rw [snR]; exact a, by rw [snR]; exact c.1, c.2⟩
    · exact Or.inr ⟨a, st_short (sc_short (by rw [snR]; exact b)), c⟩
  have hn : (scR s).1 < 4294967296 := by rw [scR]; exact num_lt 4 _
  have HC3 : Hid (∀ W, RT W B (snR s).2 → Calls Tryz.prog 34 #[.pointer (some ⟨B, 0, none⟩), .int .i64 4] W fun e w' => (e = .returned (.int .i64 ((scR s).1 : Nat)) ∧ (scR s).2.short = false ∧ RT w' B (scR s).2 ∧ But B W w') ∨ (e = .panicked dcdP ∧ (staR s).2.short = true ∧ But B W w')) := fun W h => by
    refine (numD_any B _ 4 W h (by omega) (big_sw hs)).mono ?_
    have e0 : numR 4 (snR s).2 = scR s := by rw [scR]
    rw [e0, wrapN_small (by omega)]
    rintro e w' (⟨a, b, c⟩ | ⟨a, b, c⟩)
    · exact Or.inl ⟨a, b, c⟩
    · exact Or.inr ⟨a, st_short b, c⟩
  have HST : Hid ((rdTs (scR s).2 (scR s).1).2.short = true → (staR s).2.short = true) := fun h => by rw [staR]; exact h
  have hz := big_sc hs
  clear hB hs
  generalize ChkOut B s w = Post at *
  generalize (staR s).2.short = TS at *
  generalize (ckR s).2 = r0 at *
  generalize wrapN (slR s).1 = L at *
  generalize (slR s).2 = r1 at *
  generalize wrapN (snR s).1 = N at *
  generalize (snR s).2 = r2 at *
  generalize (scR s).1 = n at *
  generalize (scR s).2 = c at *
  obtain ⟨i1, hi1, hq10, hq11, hq12⟩ := info_tenP
  have HI1 : Hid (Tryz.prog.info? 39 = some i1) := hi1
  clear hi1
  obtain ⟨tB, hBB⟩ := HB.out
  have p0 : w.cell? ⟨B, 0, none⟩ = some (.string s) := hBB.cell 0
  clear hBB
  go_enter Tryz.func15, Tryz.ntmps15
  go_wp2_with fail
  refine (HC0.out _ (HB.out.laterD (bnew _ _))).mono ?_
  rintro e w1 ⟨⟨x0, rfl⟩, hr1, hb1⟩
  have H1 : Hid (RT w1 B r0 ∧ But B w w1 ∧ Blk w1 w.heap.size #[.int .i64 0, .slice none 0 0] 26) := ⟨hr1, (But.of (bnew _ _)).trans hb1, Blk.but (Blk.new _ _ _) hb1 (by omega)⟩
  clear hr1 hb1 HC0 p0
  go_wp2_with fail
  refine (HC1.out _ H1.out.1).mono ?_
  rintro e w2 (⟨rfl, hr2, hb2⟩ | ⟨rfl, hsh, hb2⟩)
  rotate_left
  · exact ⟨rfl, HBAD.out _ hsh (H1.out.2.1.trans hb2)⟩
  have H2 : Hid (RT w2 B r1 ∧ But B w w2 ∧ Blk w2 w.heap.size #[.int .i64 0, .slice none 0 0] 26) := ⟨hr2, H1.out.2.1.trans hb2, Blk.but H1.out.2.2 hb2 (by omega)⟩
  clear hr2 hb2 HC1 H1
  go_wp2_with fail
  refine (HC2.out _ H2.out.1).mono ?_
  rintro e w3 (⟨rfl, hr3, hb3⟩ | ⟨rfl, hsh, hb3⟩)
  rotate_left
  · exact ⟨rfl, HBAD.out _ hsh (H2.out.2.1.trans hb3)⟩
  have H3 : Hid (RT w3 B r2 ∧ But B w w3 ∧ Blk w3 w.heap.size #[.int .i64 0, .slice none 0 0] 26) := ⟨hr3, H2.out.2.1.trans hb3, Blk.but H2.out.2.2 hb3 (by omega)⟩
  clear hr3 hb3 HC2 H2
  have hR1 : w.heap.size < w3.heap.size := lt_of_block H3.out.2.2
  go_wp2_with fail
  refine (HC3.out _ (H3.out.1.laterD (bnew _ _))).mono ?_
  rintro e w4 (⟨rfl, hs4, hr4, hb4⟩ | ⟨rfl, hsh, hb4⟩)
  rotate_left
  · exact ⟨rfl, HBAD.out _ hsh ((H3.out.2.1.trans (But.of (bnew _ _))).trans hb4)⟩
  have H4 : Hid (RT w4 B c ∧ GS w B w.heap.size w3.heap.size N (.slice none 0 0) 0 [] w4 ∧ c.short = false) := ⟨hr4, ⟨Blk.but (Blk.new _ _ _) hb4 (by omega), Blk.but (H3.out.2.2.alloc _) hb4 (by omega), RowV.nil _ _ _, (H3.out.2.1.trans (But.of (bnew _ _))).trans hb4⟩, hs4⟩
  clear hr4 hb4 hs4 HC3 H3
  generalize w3.heap.size = R2 at *
  go_wp2
  go_loopw [17] (fun i wr => ∃ (k : Nat) (v : Value), k ≤ n ∧ i = .int .i64 k ∧ Hid (GS w B w.heap.size R2 N v k (rdTs c k).1 wr) ∧ Hid (RT wr B (rdTs c k).2) ∧ Hid ((rdTs c k).2.short = false)) (fun i _ => n - (intOf i).toNat)
  case atStart => exact ⟨0, _, Nat.zero_le _, rfl, by rw [rdTs_zero]; exact H4.out.2.1, by rw [rdTs_zero]; exact H4.out.1, by rw [rdTs_zero]; exact H4.out.2.2⟩
  case round =>
    obtain ⟨k, v, hk, rfl, HG, HRT, HSH⟩ := hrel
    by_cases hlt : k < n
    · have hzr : (rdTs c k).2.rest.size ≤ 1000000000 := Nat.le_trans (rdTs_big c k) hz
      have hk17 : 17 * k ≤ 1000000000 := by have := rdTs_room k HSH.out; omega
      have hst : (rdTs c (k + 1)).2.short = true → TS = true := fun h => HST.out (rdts_short h n (by omega))
      have e1 : (rdTs c (k + 1)).1 = (rdTs c k).1 ++ [(tenR (rdTs c k).2).1] := by rw [rdTs_succ]
      have e2 : (rdTs c (k + 1)).2 = (tenR (rdTs c k).2).2 := by rw [rdTs_succ]
      rw [e2] at hst
      have hlen : (rdTs c k).1.length = k := rdTs_length c k
      have c0 : wr.cell? ⟨R2, 1, none⟩ = some v := HG.out.1.cell 1
      have HCL : Hid (∀ W, But B wr W → W.cell? ⟨R2, 1, none⟩ = some v) := fun W h => (HG.out.turn h hBw hR1).1.cell 1
      by_cases s1 : (tenR (rdTs c k).2).2.short = true
      · have E : Hid (TS = true) := hst s1
        have P1 : Hid (∀ W, RT W B (rdTs c k).2 → Calls Tryz.prog 35 #[.pointer (some ⟨B, 0, none⟩)] W fun e w' => e = .panicked dcdP ∧ But B W w') := fun W h => (tenantD_any B _ W h hzr).mono fun e w' q => by
          rcases q with ⟨q, _⟩ | ⟨_, q⟩
          · rw [q] at s1; exact absurd s1 (by simp)
          · exact q
        clear hst e1 e2 hzr hk17 hlen
        go_wp2_with fail
        refine wp_region_held_drew (S := fun w' => w'.cell? ⟨R2, 1, none⟩ = some v) (by kernel_rfl) (HCL.out _ (ButDrewD (But.refl _ _))) (fun hHeld => ?_)
        refine wpAnyH_take (i := 0) (oi := _) (v := .pointer (some ⟨R2, 1, none⟩)) rfl (by kernel_rfl) (by kernel_rfl) (by kernel_rfl) (fun _ _ _ h => h) (Or.inl ⟨by rfl, by intro w' hSw; go_simp⟩) (by assumption) ?_
        refine wpAnyH_take (i := 1) (oi := _) (v := v) rfl (by kernel_rfl) (by kernel_rfl) (by kernel_rfl) (fun _ _ _ h => h) (Or.inl ⟨by rfl, by intro w' hSw; go_simp⟩) (by assumption) ?_
        refine wpAnyH_take (i := 2) (oi := _) (v := .pointer (some ⟨B, 0, none⟩)) rfl (by kernel_rfl) (by kernel_rfl) (by kernel_rfl) (fun _ _ _ h => h) (Or.inl ⟨by rfl, by intro w' hSw; go_simp⟩) (by assumption) ?_
        refine wpAnyH_ready (rs := [3]) (by kernel_rfl) (by simp) ?_
        refine AllReadyH.cons (o := _) rfl (fun K hK => ?_) AllReadyH.nil
        go_simp
        refine (P1.out _ (HRT.out.laterD (Below.refl _ _).drew)).mono ?_
        rintro e w1 ⟨rfl, hb1⟩
        exact ⟨rfl, HBAD.out _ E.out (HG.out.2.2.2.trans ((ButDrewD (But.refl B wr)).trans hb1))⟩
      have sA : (tenR (rdTs c k).2).2.short = false := by simpa using s1
      clear s1
      have P1 : Hid (∀ W, RT W B (rdTs c k).2 → Calls Tryz.prog 35 #[.pointer (some ⟨B, 0, none⟩)] W fun e w' => TenOk B W (tenR (rdTs c k).2).1 (tenR (rdTs c k).2).2 e w') := fun W h => (tenantD_any B _ W h hzr).mono fun e w' q => by
        rcases q with ⟨_, M, v1, v2, he, hM, h1, h1M, h2, h3, h4⟩ | ⟨q, _⟩
        · obtain ⟨a1, c1, rfl⟩ := row_formT h1
          obtain ⟨a2, c2, rfl⟩ := row_formT h2
          exact ⟨min M w'.heap.size, a1, c1, a2, c2, he, by have := h4.size; omega, pairs_of_row h1, fun g o ha => by have q1 := h1M g (by rw [ha]; rfl); have q2 := (h1.lt g (by rw [ha]; rfl)).2; omega, (pairs_of_row h2).mono (Nat.min_le_left _ _), Nat.min_le_right _ _, h3, h4⟩
        · rw [q] at sA; exact absurd sA (by simp)
      have E3 : Hid ((rdTs c (k + 1)).2.short = false) := by show _ = _; rw [e2]; exact sA
      clear hst hzr sA
      have E1 : Hid ((rdTs c (k + 1)).1 = (rdTs c k).1 ++ [(tenR (rdTs c k).2).1]) := e1
      have E2 : Hid ((rdTs c (k + 1)).2 = (tenR (rdTs c k).2).2) := e2
      have HL : Hid ((rdTs c k).1.length = k) := hlen
      clear e1 e2 hlen
      generalize (tenR (rdTs c k).2).1 = t at *
      generalize (tenR (rdTs c k).2).2 = rA at *
      obtain ⟨T, ys, hV1, hV2, hV3, hV4⟩ := HG.out.2.2.1
      have HV1 : Hid (∀ W, But B wr W → W.ownsRow (R2 + 1) 39 4 v k (flatV ys)) := fun W h => (Turn.but h).row hV1 (fun g hg e => by have := (hV1.lt g hg).1; omega)
      have HV2 := hid hV2
      have HV3 := hid hV3
      have HV4 := hid hV4
      have hRw : R2 < wr.heap.size := lt_of_block HG.out.1
      have hob : ∀ q, v.ownBlock = some q → R2 + 1 ≤ q ∧ q < wr.heap.size := fun q hq => hV1.lt q hq
      have agv : v.ownBlock ≠ some R2 := fun e => by have := hob _ e; omega
      clear hV1 hV2 hV3 hV4
      go_wp2_with fail
      go_region_law
        (first
          | ((fail_if_success (have q := t4)); refine step_enterD (f := 35) (args := #[.pointer (some ⟨B, 0, none⟩)]) rfl (by go_simp) ?_; refine (P1.out _ (HRT.out.laterD (Below.refl _ _).drew)).mono ?_; rintro e w4 ⟨M, a1, d1, a2, d2, rfl, hM, o1, o1M, o2, oM, t4, hb4⟩; have b4 : But B wr w4 := (ButDrewD (But.refl B wr)).trans hb4; have x4 := HCL.out _ b4; have x5 : (w4.alloc (.cells #[.string t.name, .int .i64 t.limit, .slice a1 t.mets.length d1, .slice a2 t.sers.length d2] 39)).cell? ⟨R2, 1, none⟩ = some v := ((HG.out.turn b4 hBw hR1).1.alloc _).cell 1; have O := hid (And.intro hM (And.intro o1 (And.intro o1M (And.intro o2 oM)))); clear hM o1 o1M o2 oM; refine ⟨_, rfl, ?_⟩)
          | (have q := t4; clear q; refine step_append_lies _ (by rfl) _ _ _ (by rfl) (R2 + 1) 39 i1 _ 4 72 Tryz.underlying24 HI1.out hq10 hq11 hq12 rfl (by omega) v k (flatV ys) (by rfl) (by exact ((HV1.out _ b4).alloc _)) ⟨w4.heap.size, 0, none⟩ 1 1 [.string t.name, .int .i64 t.limit, .slice a1 t.mets.length d1, .slice a2 t.sers.length d2] (by rfl) (by rfl) (by exact World.news_of_block (cs := #[.string t.name, .int .i64 t.limit, .slice a1 t.mets.length d1, .slice a2 t.sers.length d2]) (heap_alloc_new _ _)) (by simp [Value.oneCell']) (by omega) (by unfold maxLen; omega) (by omega) (by have := b4.size; simp; omega) (w4.heap.size + 1) (by simp) ?_; intro gg cap w5 hown5 hgrow hat hlt5; have HX5 : Hid (Blk w5 R2 #[.int .i64 N, v] 26) := (Turn.grown hgrow).blk ((HG.out.turn b4 hBw hR1).1.alloc _) agv; have s5 := HX5.out.cell 1; have f5 := HX5.out.free 1))
      all_goals (
        have hsz4 := b4.size
        have hgg : (v.ownBlock = some gg ∧ gg < wr.heap.size) ∨ w4.heap.size ≤ gg := by
          rcases hat with h | h
          · exact Or.inl ⟨h, (hob _ h).2⟩
          · exact Or.inr (by omega)
        have hgR : R2 + 1 ≤ gg := by
          rcases hgg with h | h
          · exact (hob _ h.1).1
          · omega
        have HG5 : Hid (GS w B w.heap.size R2 N (.slice (some ⟨gg, 0, none⟩) (k + 1) cap) (k + 1) (rdTs c (k + 1)).1 (w5.setCell ⟨R2, 1, none⟩ (.slice (some ⟨gg, 0, none⟩) (k + 1) cap))) := by
          refine ⟨?_, ?_, ?_, ?_⟩
          · have := HX5.out.set 1 (.slice (some ⟨gg, 0, none⟩) (k + 1) cap); simpa using this
          · exact Blk.but ((Turn.grown hgrow).blk ((HG.out.turn b4 hBw hR1).2.1.alloc _) (fun e => by have := hob _ e; omega)) ((But.refl R2 w5).setCell 1 _) (by omega)
          · rw [E1.out]
            have hset : Turn (· = R2) w5 (w5.setCell ⟨R2, 1, none⟩ (.slice (some ⟨gg, 0, none⟩) (k + 1) cap)) := (Turn.refl (· = R2) w5).setCell (Or.inl rfl) 1 _
            have hk5 : ∀ g, g < w4.heap.size → R2 + 1 ≤ g → v.ownBlock ≠ some g → (w5.setCell ⟨R2, 1, none⟩ (.slice (some ⟨gg, 0, none⟩) (k + 1) cap)).heap[g]? = w4.heap[g]? := fun g hg hgR2 hne => by
              rw [hset.block g (by have := hgrow.size; simp at this; omega) (by omega), (Turn.grown hgrow).block g (by simp; omega) hne]
              exact (bnew _ _).block g hg
            have hyk : ys.length = k := by have h1 := HL.out; rw [← HV2.out, List.length_map] at h1; exact h1
            exact RowV.snoc (wr := wr) (w4 := w4) (M := M) (v := v) (T := T) (ys := ys) (hset.row hown5 (fun q hq e => by simp [Value.ownBlock] at hq; omega)) HV2.out hyk HV3.out HV4.out (by omega) O.out.1
              (fun g hg hgR2 hne => (hk5 g (by omega) hgR2 hne).trans (b4.block g hg (by omega)))
              (fun g hg hg4 => hk5 g hg4 (by omega) (fun e => by have := (hob _ e).2; omega))
              O.out.2.1 O.out.2.2.1 O.out.2.2.2.1 hgg hsz4 O.out.2.2.2.2
          · exact (((HG.out.2.2.2.trans b4).trans (But.of (bnew _ _))).upToD ((Below.refl _ _).grown hgrow (by have := HG.out.2.2.2.size; simp; omega) (fun q hq => by have := hob q hq; omega))).upToD ((Below.refl _ _).setCell (by simp; omega) _)
        have HR5 : Hid (RT (w5.setCell ⟨R2, 1, none⟩ (.slice (some ⟨gg, 0, none⟩) (k + 1) cap)) B (rdTs c (k + 1)).2) := by
          rw [E2.out]
          obtain ⟨tt, ht⟩ := t4
          exact ⟨tt, Blk.but ((Turn.grown hgrow).blk (ht.alloc _) (fun e => by have := hob _ e; omega)) ((But.refl R2 w5).setCell 1 _) (by omega)⟩)
      all_goals clear hown5 hgrow hat s5 f5 HX5
      all_goals go_wp2
      all_goals exact ⟨⟨k + 1, _, by omega, by go_num, HG5.out, HR5.out, E3.out⟩, by simp [intOf]; omega⟩
    · obtain rfl : k = n := by omega
      obtain ⟨ra, rc, rfl⟩ := HG.out.2.2.1.row
      have x0 : wr.cell? ⟨R2, 0, none⟩ = some (.int .i64 N) := HG.out.1.cell 0
      have x1 : wr.cell? ⟨R2, 1, none⟩ = some (.slice ra k rc) := HG.out.1.cell 1
      have y0 : wr.cell? ⟨w.heap.size, 0, none⟩ = some (.int .i64 0) := HG.out.2.1.cell 0
      have y1 : wr.cell? ⟨w.heap.size, 1, none⟩ = some (.slice none 0 0) := HG.out.2.1.cell 1
      have f0 := HG.out.2.1.free 0
      have f1 := HG.out.2.1.free 1
      have hlen := rdTs_length c k
      go_wp2_with fail
      go_region
      go_wp2
      have HTE : Turn (· = w.heap.size) wr ((wr.setCell ⟨w.heap.size, 0, none⟩ (.int .i64 N)).setCell ⟨w.heap.size, 1, none⟩ (.slice ra k rc)).drew := (((Turn.refl (· = w.heap.size) wr).setCell (Or.inl rfl) 0 _).setCell (Or.inl rfl) 1 _).drew
      refine bodyPost_ret (v := .tuple #[.int .i64 L, .agg #[.int .i64 N, .slice ra k rc]]) (by simp [results, Tryz.results15, go_sem, y0, y1]) rfl (HOK.out _ _ _ HSH.out (((HG.out.2.2.1.turn HTE (fun g e => by omega)).own hlen).base (by omega)) ?_ ?_)
      · obtain ⟨tt, ht⟩ := HRT.out
        exact ⟨tt, HTE.blk ht (by omega)⟩
      · exact HG.out.2.2.2.upToD (HTE.below (by have := lt_of_block HG.out.2.1; omega) (fun q hq e => by omega))
end Go.Proofs.YtoecnlhnfhongaaGreatDoor

