import Derived.Test.YtgpgacncmoiefaaProg
import Derived.Test.YtgpgacncmoiefaaBatD
import Derived.Test.YtgpgacncmoiefaaIDcd
import Derived.Test.YtgpgacncmoiefaaRecI
import Derived.Test.YtgpgacncmoiefaaAppA
import Derived.Deep.RegionHeld3
import Derived.Deep.DeepCutAuto
import Derived.Deep.RegionLaw
namespace Go.Proofs.Ytgpgacncmoiefaa
open Go.RowKit

def flatR (rs : List RecD) : List Value := rs.flatMap fun x => [.int .i64 x.kind, .string x.tenant, .string x.text, .int .i64 x.num]
theorem flatR_append (a b : List RecD) : flatR (a ++ b) = flatR a ++ flatR b := by simp [flatR]
theorem info_recP : ∃ i, Try.prog.info? 67 = some i ∧ i.zero = some (.agg #[.int .i64 0, .string ByteArray.empty, .string ByteArray.empty, .int .i64 0]) ∧ i.size = 4 ∧ i.bytes = 48 := by
  obtain ⟨i, hi, hz⟩ := Option.map_eq_some_iff.1 info_rec
  simp only [Prod.mk.injEq] at hz
  exact ⟨i, hi, hz.1, hz.2.1, hz.2.2⟩
theorem RT.but {w w' : World} {B B' : Nat} {r : Rd} (h : RT w B r) (hb : But B' w w') (hne : B ≠ B') : RT w' B r := by
  obtain ⟨t, h⟩ := h
  exact ⟨t, h.but hb hne⟩
theorem RT.later {w w' : World} {B : Nat} {r : Rd} (h : RT w B r) (hb : Below w.heap.size w w') : RT w' B r := by
  obtain ⟨t, h⟩ := h
  exact ⟨t, h.later hb⟩
theorem recR_big (r : Rd) : (recR r).2.rest.size ≤ r.rest.size := by
  rw [recR_snd]
  have h1 := (take_le 1 r).2.2
  have h2 := (text_le 1 (numR 1 r).2).2
  have h3 := (text_le 2 (textR 1 (numR 1 r).2).2).2
  have h4 := (take_le 8 (textR 2 (textR 1 (numR 1 r).2).2).2).2.2
  have e1 : (numR 1 r).2 = (takeR 1 r).2 := by rw [numR]
  have e4 : (numR 8 (textR 2 (textR 1 (numR 1 r).2).2).2).2 = (takeR 8 (textR 2 (textR 1 (numR 1 r).2).2).2).2 := by rw [numR]
  rw [e4]
  rw [← e1] at h1
  generalize textR 2 (textR 1 (numR 1 r).2).2 = A at *
  generalize textR 1 (numR 1 r).2 = C at *
  generalize (numR 1 r).2 = D at *
  generalize takeR 8 A.2 = F at *
  omega
theorem rdRs_big (r : Rd) : ∀ k, (rdRs r k).2.rest.size ≤ r.rest.size
  | 0 => Nat.le_refl _
  | k + 1 => by
    have h1 := rdRs_big r k
    have h2 := recR_big (rdRs r k).2
    rw [rdRs_succ]
    generalize recR (rdRs r k).2 = A at *
    show A.2.rest.size ≤ _
    omega

-- the walk
/-- A call of a function of the program's own, at a step of a region that draws its order. -/
theorem step_enter {P : Program} {w : World} {ops : Array Oper} {o : Oper} {a : Act} {K : Act → World → Prop} {Q : Exit → Act → World → Prop} {E : Prop} {f : FuncId} {args : Array Value} (hgd : o.guard = none) (hx : (execOp a.eval o).run P w = .ok (.enter f args) w)
    (h : Calls P f args w (fun e w' => ∃ v, e = .returned v ∧ K (a.put o.dst v) w')) : if Region.wanted o (yielded ops a.tmps) = true then Oper.wp P o a w K Q else E := by
  have hw : Region.wanted o (yielded ops a.tmps) = true := by simp [Region.wanted, hgd]
  rw [if_pos hw]
  unfold Oper.wp
  rw [hx]
  refine h.mono ?_
  rintro e w' ⟨v, rfl, hK⟩
  exact hK
theorem But.upTo {g : Nat} {w w1 w2 : World} (h : But g w w1) (hb : Below w.heap.size w1 w2) : But g w w2 :=
  ⟨hb.os.trans h.os, hb.tape.trans h.tape, hb.output.trans h.output, Nat.le_trans h.size hb.size, fun k hk hn => (hb.block k hk).trans (h.block k hk hn)⟩
theorem ButDrew {g : Nat} {a w : World} (h : But g a w) : But g a w.drew := ⟨h.os, h.tape, h.output, h.size, h.block⟩
theorem row_formD {W : World} {B : Nat} {e : TypeId} {size : Nat} {v : Value} {n : Nat} {xs : List Value} (h : W.ownsRow B e size v n xs) : ∃ a c, v = .slice a n c := by
  rcases h.2 with ⟨rfl, rfl⟩ | ⟨g, cap, cur, rfl, _⟩
  · exact ⟨none, 0, rfl⟩
  · exact ⟨_, _, rfl⟩
/-- The batch that is being read: its two boxes and its row. -/
def GB (w0 : World) (B R1 R2 : Nat) (lsn : Int) (v : Value) (k : Nat) (xs : List RecD) (w' : World) : Prop :=
  Blk w' R2 #[.int .i64 lsn, v] 37 ∧ Blk w' R1 #[.int .i64 0, .slice none 0 0] 37 ∧ w'.ownsRow (R2 + 1) 67 4 v k (flatR xs) ∧ But B w0 w'
theorem GB.turn {w0 : World} {B R1 R2 : Nat} {lsn : Int} {v : Value} {k : Nat} {xs : List RecD} {w' w'' : World} (h : GB w0 B R1 R2 lsn v k xs w') (hb : But B w' w'') (h1 : B < R1) (h2 : R1 < R2) : GB w0 B R1 R2 lsn v k xs w'' :=
  ⟨h.1.but hb (by omega), h.2.1.but hb (by omega), (Turn.but hb).row h.2.2.1 (fun g hg e => by have := (h.2.2.1.lt g hg).1; omega), h.2.2.2.trans hb⟩
/-- What has not been short at its end was short nowhere. -/
theorem not_short {a b : Bool} (h : a = true → b = true) (hb : b = false) : a = false := by
  cases a
  · rfl
  · rw [h rfl] at hb; exact hb
def BatOut (B : Nat) (s : ByteArray) (w : World) (e : Ending) (w' : World) : Prop :=
  ((batR s).2.short = false ∧ ∃ av cap, e = .returned (.agg #[.int .i64 (wrapN (lsnR s).1), .slice av (batR s).1.length cap]) ∧ RecsOwn w' w.heap.size av (batR s).1 ∧ RT w' B (batR s).2 ∧ But B w w') ∨
  ((batR s).2.short = true ∧ e = .panicked dcdP ∧ But B w w')

set_option maxRecDepth 100000 in
set_option maxHeartbeats 8000000 in
theorem batchD_any (B : Nat) (s : ByteArray) (w : World) (hB : RT w B ⟨s, false⟩) (hs : s.size ≤ 1000000000) :
    Calls Try.prog 57 #[.pointer (some ⟨B, 0, none⟩)] w fun e w' => BatOut B s w e w' := by
  have hBw : B < w.heap.size := by obtain ⟨t, h⟩ := hB; exact lt_of_block h
  have HB : Hid (RT w B ⟨s, false⟩) := hB
  have hz1 : (lsnR s).2.rest.size ≤ 1000000000 := by
    have := (take_le 8 ⟨s, false⟩).2.2
    show (takeR 8 ⟨s, false⟩).2.rest.size ≤ _
    exact Nat.le_trans this hs
  have hz2 : (cntB s).2.rest.size ≤ 1000000000 := by
    have := (take_le 2 (lsnR s).2).2.2
    show (takeR 2 (lsnR s).2).2.rest.size ≤ _
    exact Nat.le_trans this hz1
  have hcl : (cntB s).1 < 65536 := num_lt 2 (lsnR s).2
  clear hB
  cases h1 : (lsnR s).2.short with
  | true =>
    have E : Hid ((batR s).2.short = true) := by
      show (rdRs (cntB s).2 (cntB s).1).2.short = true
      exact rds_short (k := 0) (by rw [rdRs]; exact num_short (k := 2) h1) _ (Nat.zero_le _)
    have HC1 : Hid (∀ W, RT W B ⟨s, false⟩ → Calls Try.prog 75 #[.pointer (some ⟨B, 0, none⟩), .int .i64 8] W fun e w' => e = .panicked dcdP ∧ But B W w') := fun W h => numD_bad B ⟨s, false⟩ 8 W h (by omega) hs h1
    clear h1 hz1 hz2 hcl
    go_enter Try.func57, Try.ntmps57
    go_wp2_with fail
    refine (HC1.out _ (HB.out.later (bnew _ _))).mono ?_
    rintro e w1 ⟨rfl, hb1⟩
    exact ⟨rfl, Or.inr ⟨E.out, rfl, (But.of (bnew _ _)).trans hb1⟩⟩
  | false =>
  have HC1 : Hid (∀ W, RT W B ⟨s, false⟩ → Calls Try.prog 75 #[.pointer (some ⟨B, 0, none⟩), .int .i64 8] W fun e w' => e = .returned (.int .i64 (wrapN (lsnR s).1)) ∧ RT w' B (lsnR s).2 ∧ But B W w') := fun W h => numD_ok B ⟨s, false⟩ 8 W h (by omega) hs h1
  cases h2 : (cntB s).2.short with
  | true =>
    have E : Hid ((batR s).2.short = true) := by
      show (rdRs (cntB s).2 (cntB s).1).2.short = true
      exact rds_short (k := 0) (by rw [rdRs]; exact h2) _ (Nat.zero_le _)
    have HC2 : Hid (∀ W, RT W B (lsnR s).2 → Calls Try.prog 75 #[.pointer (some ⟨B, 0, none⟩), .int .i64 2] W fun e w' => e = .panicked dcdP ∧ But B W w') := fun W h => numD_bad B _ 2 W h (by omega) hz1 h2
    clear h1 h2 hz1 hz2 hcl
    generalize wrapN (lsnR s).1 = L at *
    generalize (lsnR s).2 = r1 at *
    go_enter Try.func57, Try.ntmps57
    go_wp2_with fail
    refine (HC1.out _ (HB.out.later (bnew _ _))).mono ?_
    rintro e w1 ⟨rfl, hr1, hb1⟩
    have H1 : Hid (RT w1 B r1 ∧ But B w w1) := ⟨hr1, (But.of (bnew _ _)).trans hb1⟩
    clear hr1 hb1 HC1
    go_wp2_with fail
    refine (HC2.out _ (H1.out.1.later (bnew _ _))).mono ?_
    rintro e w2 ⟨rfl, hb2⟩
    exact ⟨rfl, Or.inr ⟨E.out, rfl, (H1.out.2.trans (But.of (bnew _ _))).trans hb2⟩⟩
  | false =>
  have HC2 : Hid (∀ W, RT W B (lsnR s).2 → Calls Try.prog 75 #[.pointer (some ⟨B, 0, none⟩), .int .i64 2] W fun e w' => e = .returned (.int .i64 ((cntB s).1 : Nat)) ∧ RT w' B (cntB s).2 ∧ But B W w') := fun W h => by
    have := numD_ok B (lsnR s).2 2 W h (by omega) hz1 h2
    rw [show (numR 2 (lsnR s).2).1 = (cntB s).1 from rfl, wrapN_small (by omega)] at this
    exact this
  have HPOST : Hid (∀ e w', ((rdRs (cntB s).2 (cntB s).1).2.short = false ∧ ∃ av cap, e = .returned (.agg #[.int .i64 (wrapN (lsnR s).1), .slice av (rdRs (cntB s).2 (cntB s).1).1.length cap]) ∧ RecsOwn w' w.heap.size av (rdRs (cntB s).2 (cntB s).1).1 ∧ RT w' B (rdRs (cntB s).2 (cntB s).1).2 ∧ But B w w') ∨
      ((rdRs (cntB s).2 (cntB s).1).2.short = true ∧ e = .panicked dcdP ∧ But B w w') → BatOut B s w e w') := fun e w' h => h
  clear h1 hz1
  generalize wrapN (lsnR s).1 = L at *
  generalize (lsnR s).2 = r1 at *
  generalize (cntB s).1 = n at *
  generalize (cntB s).2 = c at *
  obtain ⟨i0, hi0, hq0, hq1, hq2⟩ := info_recP
  have HI : Hid (Try.prog.info? 67 = some i0) := hi0
  clear hi0
  go_enter Try.func57, Try.ntmps57
  go_wp2_with fail
  refine (HC1.out _ (HB.out.later (bnew _ _))).mono ?_
  rintro e w1 ⟨rfl, hr1, hb1⟩
  have H1 : Hid (RT w1 B r1 ∧ But B w w1 ∧ Blk w1 w.heap.size #[.int .i64 0, .slice none 0 0] 37) := ⟨hr1, (But.of (bnew _ _)).trans hb1, Blk.but (Blk.new _ _ _) hb1 (by omega)⟩
  clear hr1 hb1 HC1
  go_wp2_with fail
  refine (HC2.out _ (H1.out.1.later (bnew _ _))).mono ?_
  rintro e w2 ⟨rfl, hr2, hb2⟩
  have hR1 : w.heap.size < w1.heap.size := lt_of_block H1.out.2.2
  have H2 : Hid (RT w2 B c ∧ GB w B w.heap.size w1.heap.size L (.slice none 0 0) 0 [] w2) := ⟨hr2, Blk.but (Blk.new _ _ _) hb2 (by omega), Blk.but (H1.out.2.2.alloc _) hb2 (by omega), World.ownsRow_nil _ _ _ _, (H1.out.2.1.trans (But.of (bnew _ _))).trans hb2⟩
  clear hr2 hb2 HC2 H1
  generalize w1.heap.size = R2 at *
  go_wp2
  go_loopw [9] (fun i wr => ∃ (k : Nat) (v : Value), k ≤ n ∧ i = .int .i64 k ∧ Hid (GB w B w.heap.size R2 L v k (rdRs c k).1 wr) ∧ Hid (RT wr B (rdRs c k).2) ∧ Hid ((rdRs c k).2.short = false)) (fun i _ => n - (intOf i).toNat)
  case atStart => exact ⟨0, _, Nat.zero_le _, rfl, H2.out.2, H2.out.1, h2⟩
  case round =>
    obtain ⟨k, v, hk, rfl, HG, HRT, HSH⟩ := hrel
    by_cases hlt : k < n
    · have hzr : (rdRs c k).2.rest.size ≤ 1000000000 := Nat.le_trans (rdRs_big c k) hz2
      have hrs := rdRs_succ c k
      have hsnd := recR_snd (rdRs c k).2
      have hfst := recR_fst (rdRs c k).2
      have hst : (rdRs c (k + 1)).2.short = true → (rdRs c n).2.short = true := fun h => rds_short h n (by omega)
      rw [hrs] at hst
      have e1 : (rdRs c (k + 1)).1 = (rdRs c k).1 ++ [(recR (rdRs c k).2).1] := by rw [hrs]
      have e2 : (rdRs c (k + 1)).2 = (recR (rdRs c k).2).2 := by rw [hrs]
      simp only at hst
      rw [hsnd] at hst e2
      rw [hfst] at e1
      have hzA : (numR 1 (rdRs c k).2).2.rest.size ≤ 1000000000 := Nat.le_trans (show (takeR 1 (rdRs c k).2).2.rest.size ≤ _ from (take_le 1 (rdRs c k).2).2.2) hzr
      have hzB : (textR 1 (numR 1 (rdRs c k).2).2).2.rest.size ≤ 1000000000 := Nat.le_trans (text_le 1 _).2 hzA
      have hzC : (textR 2 (textR 1 (numR 1 (rdRs c k).2).2).2).2.rest.size ≤ 1000000000 := Nat.le_trans (text_le 2 _).2 hzB
      have hnl := num_lt 1 (rdRs c k).2
      have c0 : wr.cell? ⟨R2, 1, none⟩ = some v := HG.out.1.cell 1
      have HCL : Hid (∀ W, But B wr W → W.cell? ⟨R2, 1, none⟩ = some v) := fun W h => (HG.out.turn h hBw hR1).1.cell 1
      clear hrs hsnd hfst
      by_cases s1 : (numR 1 (rdRs c k).2).2.short = true
      · have E : Hid ((rdRs c n).2.short = true) := hst (num_short (k := 8) (text_short (k := 2) (text_short (k := 1) s1)))
        have P1 : Hid (∀ W, RT W B (rdRs c k).2 → Calls Try.prog 75 #[.pointer (some ⟨B, 0, none⟩), .int .i64 1] W fun e w' => e = .panicked dcdP ∧ But B W w') := fun W h => numD_bad B _ 1 W h (by omega) hzr s1
        clear hst e1 e2 hzr hzA hzB hzC hnl
        go_wp2_with fail
        refine wp_region_held_drew (S := fun w' => w'.cell? ⟨R2, 1, none⟩ = some v) (by kernel_rfl) (HCL.out _ (ButDrew (But.refl _ _))) (fun hHeld => ?_)
        refine wpAnyH_take (i := 0) (oi := _) (v := .pointer (some ⟨R2, 1, none⟩)) rfl (by kernel_rfl) (by kernel_rfl) (by kernel_rfl) (fun _ _ _ h => h) (Or.inl ⟨by rfl, by intro w' hSw; go_simp⟩) (by assumption) ?_
        refine wpAnyH_take (i := 1) (oi := _) (v := v) rfl (by kernel_rfl) (by kernel_rfl) (by kernel_rfl) (fun _ _ _ h => h) (Or.inl ⟨by rfl, by intro w' hSw; go_simp⟩) (by assumption) ?_
        refine wpAnyH_take (i := 2) (oi := _) (v := .pointer (some ⟨B, 0, none⟩)) rfl (by kernel_rfl) (by kernel_rfl) (by kernel_rfl) (fun _ _ _ h => h) (Or.inl ⟨by rfl, by intro w' hSw; go_simp⟩) (by assumption) ?_
        refine wpAnyH_take (i := 4) (oi := _) (v := .pointer (some ⟨B, 0, none⟩)) rfl (by kernel_rfl) (by kernel_rfl) (by kernel_rfl) (fun _ _ _ h => h) (Or.inl ⟨by rfl, by intro w' hSw; go_simp⟩) (by assumption) ?_
        refine wpAnyH_take (i := 6) (oi := _) (v := .pointer (some ⟨B, 0, none⟩)) rfl (by kernel_rfl) (by kernel_rfl) (by kernel_rfl) (fun _ _ _ h => h) (Or.inl ⟨by rfl, by intro w' hSw; go_simp⟩) (by assumption) ?_
        refine wpAnyH_take (i := 8) (oi := _) (v := .pointer (some ⟨B, 0, none⟩)) rfl (by kernel_rfl) (by kernel_rfl) (by kernel_rfl) (fun _ _ _ h => h) (Or.inl ⟨by rfl, by intro w' hSw; go_simp⟩) (by assumption) ?_
        refine wpAnyH_ready (rs := [3]) (by kernel_rfl) (by simp) ?_
        refine AllReadyH.cons (o := _) rfl (fun K hK => ?_) AllReadyH.nil
        go_simp
        refine (P1.out _ (HRT.out.later (Below.refl _ _).drew)).mono ?_
        rintro e w1 ⟨rfl, hb1⟩
        exact ⟨rfl, HPOST.out _ _ (Or.inr ⟨E.out, rfl, HG.out.2.2.2.trans ((ButDrew (But.refl B wr)).trans hb1)⟩)⟩
      have sA : (numR 1 (rdRs c k).2).2.short = false := by simpa using s1
      by_cases s2 : (textR 1 (numR 1 (rdRs c k).2).2).2.short = true
      · have E : Hid ((rdRs c n).2.short = true) := hst (num_short (k := 8) (text_short (k := 2) s2))
        have P1 : Hid (∀ W, RT W B (rdRs c k).2 → Calls Try.prog 75 #[.pointer (some ⟨B, 0, none⟩), .int .i64 1] W fun e w' => e = .returned (.int .i64 ((numR 1 (rdRs c k).2).1 : Nat)) ∧ RT w' B (numR 1 (rdRs c k).2).2 ∧ But B W w') := fun W h => by
          have := numD_ok B (rdRs c k).2 1 W h (by omega) hzr sA
          rw [wrapN_small (by omega)] at this
          exact this
        have P2 : Hid (∀ W, RT W B (numR 1 (rdRs c k).2).2 → Calls Try.prog 76 #[.pointer (some ⟨B, 0, none⟩), .int .i64 1] W fun e w' => e = .panicked dcdP ∧ But B W w') := fun W h => strD_bad B _ 1 W h (by omega) hzA s2
        clear hst e1 e2 hzr hzA hzB hzC hnl
        go_wp2_with fail
        refine wp_region_held_drew (S := fun w' => w'.cell? ⟨R2, 1, none⟩ = some v) (by kernel_rfl) (HCL.out _ (ButDrew (But.refl _ _))) (fun hHeld => ?_)
        refine wpAnyH_take (i := 0) (oi := _) (v := .pointer (some ⟨R2, 1, none⟩)) rfl (by kernel_rfl) (by kernel_rfl) (by kernel_rfl) (fun _ _ _ h => h) (Or.inl ⟨by rfl, by intro w' hSw; go_simp⟩) (by assumption) ?_
        refine wpAnyH_take (i := 1) (oi := _) (v := v) rfl (by kernel_rfl) (by kernel_rfl) (by kernel_rfl) (fun _ _ _ h => h) (Or.inl ⟨by rfl, by intro w' hSw; go_simp⟩) (by assumption) ?_
        refine wpAnyH_take (i := 2) (oi := _) (v := .pointer (some ⟨B, 0, none⟩)) rfl (by kernel_rfl) (by kernel_rfl) (by kernel_rfl) (fun _ _ _ h => h) (Or.inl ⟨by rfl, by intro w' hSw; go_simp⟩) (by assumption) ?_
        refine wpAnyH_take (i := 4) (oi := _) (v := .pointer (some ⟨B, 0, none⟩)) rfl (by kernel_rfl) (by kernel_rfl) (by kernel_rfl) (fun _ _ _ h => h) (Or.inl ⟨by rfl, by intro w' hSw; go_simp⟩) (by assumption) ?_
        refine wpAnyH_take (i := 6) (oi := _) (v := .pointer (some ⟨B, 0, none⟩)) rfl (by kernel_rfl) (by kernel_rfl) (by kernel_rfl) (fun _ _ _ h => h) (Or.inl ⟨by rfl, by intro w' hSw; go_simp⟩) (by assumption) ?_
        refine wpAnyH_take (i := 8) (oi := _) (v := .pointer (some ⟨B, 0, none⟩)) rfl (by kernel_rfl) (by kernel_rfl) (by kernel_rfl) (fun _ _ _ h => h) (Or.inl ⟨by rfl, by intro w' hSw; go_simp⟩) (by assumption) ?_
        refine wpAnyH_ready (rs := [3]) (by kernel_rfl) (by simp) ?_
        refine AllReadyH.cons (o := _) rfl (fun K hK => ?_) AllReadyH.nil
        go_simp
        refine (P1.out _ (HRT.out.later (Below.refl _ _).drew)).mono ?_
        rintro e w1 ⟨rfl, t1, hb1⟩
        have b1 : But B wr w1 := (ButDrew (But.refl B wr)).trans hb1
        refine hK _ _ (HCL.out _ b1) (fun hHeld1 => ?_)
        refine wpAnyH_ready (rs := [5]) (by kernel_rfl) (by simp) ?_
        refine AllReadyH.cons (o := _) rfl (fun K2 hK2 => ?_) AllReadyH.nil
        go_simp
        refine (P2.out _ t1).mono ?_
        rintro e w2 ⟨rfl, hb2⟩
        exact ⟨rfl, HPOST.out _ _ (Or.inr ⟨E.out, rfl, HG.out.2.2.2.trans (b1.trans hb2)⟩)⟩
      have sB : (textR 1 (numR 1 (rdRs c k).2).2).2.short = false := by simpa using s2
      by_cases s3 : (textR 2 (textR 1 (numR 1 (rdRs c k).2).2).2).2.short = true
      · have E : Hid ((rdRs c n).2.short = true) := hst (num_short (k := 8) s3)
        have P1 : Hid (∀ W, RT W B (rdRs c k).2 → Calls Try.prog 75 #[.pointer (some ⟨B, 0, none⟩), .int .i64 1] W fun e w' => e = .returned (.int .i64 ((numR 1 (rdRs c k).2).1 : Nat)) ∧ RT w' B (numR 1 (rdRs c k).2).2 ∧ But B W w') := fun W h => by
          have := numD_ok B (rdRs c k).2 1 W h (by omega) hzr sA
          rw [wrapN_small (by omega)] at this
          exact this
        have P2 : Hid (∀ W, RT W B (numR 1 (rdRs c k).2).2 → Calls Try.prog 76 #[.pointer (some ⟨B, 0, none⟩), .int .i64 1] W fun e w' => e = .returned (.string (textR 1 (numR 1 (rdRs c k).2).2).1) ∧ RT w' B (textR 1 (numR 1 (rdRs c k).2).2).2 ∧ But B W w') := fun W h => strD_ok B _ 1 W h (by omega) hzA sB
        have P3 : Hid (∀ W, RT W B (textR 1 (numR 1 (rdRs c k).2).2).2 → Calls Try.prog 76 #[.pointer (some ⟨B, 0, none⟩), .int .i64 2] W fun e w' => e = .panicked dcdP ∧ But B W w') := fun W h => strD_bad B _ 2 W h (by omega) hzB s3
        clear hst e1 e2 hzr hzA hzB hzC hnl
        go_wp2_with fail
        refine wp_region_held_drew (S := fun w' => w'.cell? ⟨R2, 1, none⟩ = some v) (by kernel_rfl) (HCL.out _ (ButDrew (But.refl _ _))) (fun hHeld => ?_)
        refine wpAnyH_take (i := 0) (oi := _) (v := .pointer (some ⟨R2, 1, none⟩)) rfl (by kernel_rfl) (by kernel_rfl) (by kernel_rfl) (fun _ _ _ h => h) (Or.inl ⟨by rfl, by intro w' hSw; go_simp⟩) (by assumption) ?_
        refine wpAnyH_take (i := 1) (oi := _) (v := v) rfl (by kernel_rfl) (by kernel_rfl) (by kernel_rfl) (fun _ _ _ h => h) (Or.inl ⟨by rfl, by intro w' hSw; go_simp⟩) (by assumption) ?_
        refine wpAnyH_take (i := 2) (oi := _) (v := .pointer (some ⟨B, 0, none⟩)) rfl (by kernel_rfl) (by kernel_rfl) (by kernel_rfl) (fun _ _ _ h => h) (Or.inl ⟨by rfl, by intro w' hSw; go_simp⟩) (by assumption) ?_
        refine wpAnyH_take (i := 4) (oi := _) (v := .pointer (some ⟨B, 0, none⟩)) rfl (by kernel_rfl) (by kernel_rfl) (by kernel_rfl) (fun _ _ _ h => h) (Or.inl ⟨by rfl, by intro w' hSw; go_simp⟩) (by assumption) ?_
        refine wpAnyH_take (i := 6) (oi := _) (v := .pointer (some ⟨B, 0, none⟩)) rfl (by kernel_rfl) (by kernel_rfl) (by kernel_rfl) (fun _ _ _ h => h) (Or.inl ⟨by rfl, by intro w' hSw; go_simp⟩) (by assumption) ?_
        refine wpAnyH_take (i := 8) (oi := _) (v := .pointer (some ⟨B, 0, none⟩)) rfl (by kernel_rfl) (by kernel_rfl) (by kernel_rfl) (fun _ _ _ h => h) (Or.inl ⟨by rfl, by intro w' hSw; go_simp⟩) (by assumption) ?_
        refine wpAnyH_ready (rs := [3]) (by kernel_rfl) (by simp) ?_
        refine AllReadyH.cons (o := _) rfl (fun K hK => ?_) AllReadyH.nil
        go_simp
        refine (P1.out _ (HRT.out.later (Below.refl _ _).drew)).mono ?_
        rintro e w1 ⟨rfl, t1, hb1⟩
        have b1 : But B wr w1 := (ButDrew (But.refl B wr)).trans hb1
        refine hK _ _ (HCL.out _ b1) (fun hHeld1 => ?_)
        refine wpAnyH_ready (rs := [5]) (by kernel_rfl) (by simp) ?_
        refine AllReadyH.cons (o := _) rfl (fun K2 hK2 => ?_) AllReadyH.nil
        go_simp
        refine (P2.out _ t1).mono ?_
        rintro e w2 ⟨rfl, t2, hb2⟩
        have b2 : But B wr w2 := b1.trans hb2
        refine hK2 _ _ (HCL.out _ b2) (fun hHeld2 => ?_)
        refine wpAnyH_ready (rs := [7]) (by kernel_rfl) (by simp) ?_
        refine AllReadyH.cons (o := _) rfl (fun K3 hK3 => ?_) AllReadyH.nil
        go_simp
        refine (P3.out _ t2).mono ?_
        rintro e w3 ⟨rfl, hb3⟩
        exact ⟨rfl, HPOST.out _ _ (Or.inr ⟨E.out, rfl, HG.out.2.2.2.trans (b2.trans hb3)⟩)⟩
      have sC : (textR 2 (textR 1 (numR 1 (rdRs c k).2).2).2).2.short = false := by simpa using s3
      by_cases s4 : (numR 8 (textR 2 (textR 1 (numR 1 (rdRs c k).2).2).2).2).2.short = true
      · have E : Hid ((rdRs c n).2.short = true) := hst (s4)
        have P1 : Hid (∀ W, RT W B (rdRs c k).2 → Calls Try.prog 75 #[.pointer (some ⟨B, 0, none⟩), .int .i64 1] W fun e w' => e = .returned (.int .i64 ((numR 1 (rdRs c k).2).1 : Nat)) ∧ RT w' B (numR 1 (rdRs c k).2).2 ∧ But B W w') := fun W h => by
          have := numD_ok B (rdRs c k).2 1 W h (by omega) hzr sA
          rw [wrapN_small (by omega)] at this
          exact this
        have P2 : Hid (∀ W, RT W B (numR 1 (rdRs c k).2).2 → Calls Try.prog 76 #[.pointer (some ⟨B, 0, none⟩), .int .i64 1] W fun e w' => e = .returned (.string (textR 1 (numR 1 (rdRs c k).2).2).1) ∧ RT w' B (textR 1 (numR 1 (rdRs c k).2).2).2 ∧ But B W w') := fun W h => strD_ok B _ 1 W h (by omega) hzA sB
        have P3 : Hid (∀ W, RT W B (textR 1 (numR 1 (rdRs c k).2).2).2 → Calls Try.prog 76 #[.pointer (some ⟨B, 0, none⟩), .int .i64 2] W fun e w' => e = .returned (.string (textR 2 (textR 1 (numR 1 (rdRs c k).2).2).2).1) ∧ RT w' B (textR 2 (textR 1 (numR 1 (rdRs c k).2).2).2).2 ∧ But B W w') := fun W h => strD_ok B _ 2 W h (by omega) hzB sC
        have P4 : Hid (∀ W, RT W B (textR 2 (textR 1 (numR 1 (rdRs c k).2).2).2).2 → Calls Try.prog 75 #[.pointer (some ⟨B, 0, none⟩), .int .i64 8] W fun e w' => e = .panicked dcdP ∧ But B W w') := fun W h => numD_bad B _ 8 W h (by omega) hzC s4
        clear hst e1 e2 hzr hzA hzB hzC hnl
        go_wp2_with fail
        refine wp_region_held_drew (S := fun w' => w'.cell? ⟨R2, 1, none⟩ = some v) (by kernel_rfl) (HCL.out _ (ButDrew (But.refl _ _))) (fun hHeld => ?_)
        refine wpAnyH_take (i := 0) (oi := _) (v := .pointer (some ⟨R2, 1, none⟩)) rfl (by kernel_rfl) (by kernel_rfl) (by kernel_rfl) (fun _ _ _ h => h) (Or.inl ⟨by rfl, by intro w' hSw; go_simp⟩) (by assumption) ?_
        refine wpAnyH_take (i := 1) (oi := _) (v := v) rfl (by kernel_rfl) (by kernel_rfl) (by kernel_rfl) (fun _ _ _ h => h) (Or.inl ⟨by rfl, by intro w' hSw; go_simp⟩) (by assumption) ?_
        refine wpAnyH_take (i := 2) (oi := _) (v := .pointer (some ⟨B, 0, none⟩)) rfl (by kernel_rfl) (by kernel_rfl) (by kernel_rfl) (fun _ _ _ h => h) (Or.inl ⟨by rfl, by intro w' hSw; go_simp⟩) (by assumption) ?_
        refine wpAnyH_take (i := 4) (oi := _) (v := .pointer (some ⟨B, 0, none⟩)) rfl (by kernel_rfl) (by kernel_rfl) (by kernel_rfl) (fun _ _ _ h => h) (Or.inl ⟨by rfl, by intro w' hSw; go_simp⟩) (by assumption) ?_
        refine wpAnyH_take (i := 6) (oi := _) (v := .pointer (some ⟨B, 0, none⟩)) rfl (by kernel_rfl) (by kernel_rfl) (by kernel_rfl) (fun _ _ _ h => h) (Or.inl ⟨by rfl, by intro w' hSw; go_simp⟩) (by assumption) ?_
        refine wpAnyH_take (i := 8) (oi := _) (v := .pointer (some ⟨B, 0, none⟩)) rfl (by kernel_rfl) (by kernel_rfl) (by kernel_rfl) (fun _ _ _ h => h) (Or.inl ⟨by rfl, by intro w' hSw; go_simp⟩) (by assumption) ?_
        refine wpAnyH_ready (rs := [3]) (by kernel_rfl) (by simp) ?_
        refine AllReadyH.cons (o := _) rfl (fun K hK => ?_) AllReadyH.nil
        go_simp
        refine (P1.out _ (HRT.out.later (Below.refl _ _).drew)).mono ?_
        rintro e w1 ⟨rfl, t1, hb1⟩
        have b1 : But B wr w1 := (ButDrew (But.refl B wr)).trans hb1
        refine hK _ _ (HCL.out _ b1) (fun hHeld1 => ?_)
        refine wpAnyH_ready (rs := [5]) (by kernel_rfl) (by simp) ?_
        refine AllReadyH.cons (o := _) rfl (fun K2 hK2 => ?_) AllReadyH.nil
        go_simp
        refine (P2.out _ t1).mono ?_
        rintro e w2 ⟨rfl, t2, hb2⟩
        have b2 : But B wr w2 := b1.trans hb2
        refine hK2 _ _ (HCL.out _ b2) (fun hHeld2 => ?_)
        refine wpAnyH_ready (rs := [7]) (by kernel_rfl) (by simp) ?_
        refine AllReadyH.cons (o := _) rfl (fun K3 hK3 => ?_) AllReadyH.nil
        go_simp
        refine (P3.out _ t2).mono ?_
        rintro e w3 ⟨rfl, t3, hb3⟩
        have b3 : But B wr w3 := b2.trans hb3
        refine hK3 _ _ (HCL.out _ b3) (fun hHeld3 => ?_)
        refine wpAnyH_ready (rs := [9]) (by kernel_rfl) (by simp) ?_
        refine AllReadyH.cons (o := _) rfl (fun K4 hK4 => ?_) AllReadyH.nil
        go_simp
        refine (P4.out _ t3).mono ?_
        rintro e w4 ⟨rfl, hb4⟩
        exact ⟨rfl, HPOST.out _ _ (Or.inr ⟨E.out, rfl, HG.out.2.2.2.trans (b3.trans hb4)⟩)⟩
      have sD : (numR 8 (textR 2 (textR 1 (numR 1 (rdRs c k).2).2).2).2).2.short = false := by simpa using s4
      -- nothing is short
      have P1 : Hid (∀ W, RT W B (rdRs c k).2 → Calls Try.prog 75 #[.pointer (some ⟨B, 0, none⟩), .int .i64 1] W fun e w' => e = .returned (.int .i64 ((numR 1 (rdRs c k).2).1 : Nat)) ∧ RT w' B (numR 1 (rdRs c k).2).2 ∧ But B W w') := fun W h => by
        have := numD_ok B (rdRs c k).2 1 W h (by omega) hzr sA
        rw [wrapN_small (by omega)] at this
        exact this
      have P2 : Hid (∀ W, RT W B (numR 1 (rdRs c k).2).2 → Calls Try.prog 76 #[.pointer (some ⟨B, 0, none⟩), .int .i64 1] W fun e w' => e = .returned (.string (textR 1 (numR 1 (rdRs c k).2).2).1) ∧ RT w' B (textR 1 (numR 1 (rdRs c k).2).2).2 ∧ But B W w') := fun W h => strD_ok B _ 1 W h (by omega) hzA sB
      have P3 : Hid (∀ W, RT W B (textR 1 (numR 1 (rdRs c k).2).2).2 → Calls Try.prog 76 #[.pointer (some ⟨B, 0, none⟩), .int .i64 2] W fun e w' => e = .returned (.string (textR 2 (textR 1 (numR 1 (rdRs c k).2).2).2).1) ∧ RT w' B (textR 2 (textR 1 (numR 1 (rdRs c k).2).2).2).2 ∧ But B W w') := fun W h => strD_ok B _ 2 W h (by omega) hzB sC
      have P4 : Hid (∀ W, RT W B (textR 2 (textR 1 (numR 1 (rdRs c k).2).2).2).2 → Calls Try.prog 75 #[.pointer (some ⟨B, 0, none⟩), .int .i64 8] W fun e w' => e = .returned (.int .i64 (wrapN (numR 8 (textR 2 (textR 1 (numR 1 (rdRs c k).2).2).2).2).1)) ∧ RT w' B (numR 8 (textR 2 (textR 1 (numR 1 (rdRs c k).2).2).2).2).2 ∧ But B W w') := fun W h => numD_ok B _ 8 W h (by omega) hzC sD
      have E3 : Hid ((rdRs c (k + 1)).2.short = false) := by show _ = _; rw [e2]; exact sD
      clear hst hzr hzA hzB hzC hnl sA sB sC sD
      generalize (numR 1 (rdRs c k).2).1 = ki at *
      generalize wrapN (numR 8 (textR 2 (textR 1 (numR 1 (rdRs c k).2).2).2).2).1 = nu at *
      generalize (numR 8 (textR 2 (textR 1 (numR 1 (rdRs c k).2).2).2).2).2 = rD at *
      generalize (textR 2 (textR 1 (numR 1 (rdRs c k).2).2).2).1 = tx at *
      generalize (textR 2 (textR 1 (numR 1 (rdRs c k).2).2).2).2 = rC at *
      generalize (textR 1 (numR 1 (rdRs c k).2).2).1 = te at *
      generalize (textR 1 (numR 1 (rdRs c k).2).2).2 = rB at *
      generalize (numR 1 (rdRs c k).2).2 = rA at *
      have E1 : Hid (flatR (rdRs c (k + 1)).1 = flatR (rdRs c k).1 ++ [.int .i64 (ki : Nat), .string te, .string tx, .int .i64 nu]) := by show _ = _; rw [e1, flatR_append]; rfl
      have E2 : Hid ((rdRs c (k + 1)).2 = rD) := e2
      clear e1 e2
      have hRw : R2 < wr.heap.size := lt_of_block HG.out.1
      have hob : ∀ q, v.ownBlock = some q → R2 + 1 ≤ q := fun q hq => (HG.out.2.2.1.lt q hq).1
      have agv : v.ownBlock ≠ some R2 := fun e => by have := hob _ e; omega
      go_wp2_with fail
      go_region_law
        (first
          | ((fail_if_success (have q := t1)); refine step_enter (f := 75) (args := #[.pointer (some ⟨B, 0, none⟩), .int .i64 1]) rfl (by go_simp) ?_; refine (P1.out _ (HRT.out.later (Below.refl _ _).drew)).mono ?_; rintro e w1 ⟨rfl, t1, hb1⟩; have b1 : But B wr w1 := (ButDrew (But.refl B wr)).trans hb1; have c1 := HCL.out _ b1; refine ⟨_, rfl, ?_⟩)
          | (have q := t1; clear q; (fail_if_success (have q := t2)); refine step_enter (f := 76) (args := #[.pointer (some ⟨B, 0, none⟩), .int .i64 1]) rfl (by go_simp) ?_; refine (P2.out _ t1).mono ?_; rintro e w2 ⟨rfl, t2, hb2⟩; have b2 : But B wr w2 := b1.trans hb2; have c2 := HCL.out _ b2; refine ⟨_, rfl, ?_⟩)
          | (have q := t2; clear q; (fail_if_success (have q := t3)); refine step_enter (f := 76) (args := #[.pointer (some ⟨B, 0, none⟩), .int .i64 2]) rfl (by go_simp) ?_; refine (P3.out _ t2).mono ?_; rintro e w3 ⟨rfl, t3, hb3⟩; have b3 : But B wr w3 := b2.trans hb3; have c3 := HCL.out _ b3; refine ⟨_, rfl, ?_⟩)
          | (have q := t3; clear q; (fail_if_success (have q := t4)); refine step_enter (f := 75) (args := #[.pointer (some ⟨B, 0, none⟩), .int .i64 8]) rfl (by go_simp) ?_; refine (P4.out _ t3).mono ?_; rintro e w4 ⟨rfl, t4, hb4⟩; have b4 : But B wr w4 := b3.trans hb4; have c4 := HCL.out _ b4; have c5 : (w4.alloc (.cells #[.int .i64 (ki : Nat), .string te, .string tx, .int .i64 nu] 67)).cell? ⟨R2, 1, none⟩ = some v := ((HG.out.turn b4 hBw hR1).1.alloc _).cell 1; refine ⟨_, rfl, ?_⟩)
          | (have q := t4; clear q; refine step_append_lies _ (by rfl) _ _ _ (by rfl) (R2 + 1) 67 i0 _ 4 48 Try.underlying35 HI.out hq0 hq1 hq2 rfl (by omega) v k (flatR (rdRs c k).1) (by rfl) (by exact ((HG.out.turn b4 hBw hR1).2.2.1.alloc _)) ⟨w4.heap.size, 0, none⟩ 1 1 [.int .i64 (ki : Nat), .string te, .string tx, .int .i64 nu] (by rfl) (by rfl) (by exact World.news_of_block (cs := #[.int .i64 (ki : Nat), .string te, .string tx, .int .i64 nu]) (heap_alloc_new _ _)) (by simp [Value.oneCell']) (by omega) (by unfold maxLen; omega) (by omega) (by have := b4.size; simp; omega) (w4.heap.size + 1) (by simp) ?_; intro gg cap w5 hown5 hgrow hat hlt5; have HX5 : Hid (Blk w5 R2 #[.int .i64 L, v] 37) := (Turn.grown hgrow).blk ((HG.out.turn b4 hBw hR1).1.alloc _) agv; have s5 := HX5.out.cell 1; have f5 := HX5.out.free 1))
      all_goals (
        have hgg : R2 + 1 ≤ gg := by
          rcases hat with h | h
          · exact hob _ h
          · have := b4.size; omega
        have HG5 : Hid (GB w B w.heap.size R2 L (.slice (some ⟨gg, 0, none⟩) (k + 1) cap) (k + 1) (rdRs c (k + 1)).1 (w5.setCell ⟨R2, 1, none⟩ (.slice (some ⟨gg, 0, none⟩) (k + 1) cap))) := by
          refine ⟨?_, ?_, ?_, ?_⟩
          · have := HX5.out.set 1 (.slice (some ⟨gg, 0, none⟩) (k + 1) cap); simpa using this
          · exact Blk.but ((Turn.grown hgrow).blk ((HG.out.turn b4 hBw hR1).2.1.alloc _) (fun e => by have := hob _ e; omega)) ((But.refl R2 w5).setCell 1 _) (by omega)
          · rw [E1.out]; exact ((Turn.refl (· = R2) w5).setCell (Or.inl rfl) 1 _).row hown5 (fun q hq e => by simp [Value.ownBlock] at hq; omega)
          · exact (((HG.out.2.2.2.trans b4).trans (But.of (bnew _ _))).upTo ((Below.refl _ _).grown hgrow (by have := b4.size; have := HG.out.2.2.2.size; simp; omega) (fun q hq => by have := hob q hq; omega))).upTo ((Below.refl _ _).setCell (by simp; omega) _)
        have HR5 : Hid (RT (w5.setCell ⟨R2, 1, none⟩ (.slice (some ⟨gg, 0, none⟩) (k + 1) cap)) B (rdRs c (k + 1)).2) := by
          rw [E2.out]
          obtain ⟨tt, ht⟩ := t4
          exact ⟨tt, Blk.but ((Turn.grown hgrow).blk (ht.alloc _) (fun e => by have := hob _ e; omega)) ((But.refl R2 w5).setCell 1 _) (by omega)⟩)
      all_goals clear hown5 hgrow hat s5 f5 HX5
      all_goals go_wp2
      all_goals exact ⟨⟨k + 1, _, by omega, by go_num, HG5.out, HR5.out, E3.out⟩, by simp [intOf]; omega⟩
    · obtain rfl : k = n := by omega
      have hown := HG.out.2.2.1
      obtain ⟨ra, rc, rfl⟩ := row_formD hown
      have x0 : wr.cell? ⟨R2, 0, none⟩ = some (.int .i64 L) := HG.out.1.cell 0
      have x1 : wr.cell? ⟨R2, 1, none⟩ = some (.slice ra k rc) := HG.out.1.cell 1
      have y0 : wr.cell? ⟨w.heap.size, 0, none⟩ = some (.int .i64 0) := HG.out.2.1.cell 0
      have y1 : wr.cell? ⟨w.heap.size, 1, none⟩ = some (.slice none 0 0) := HG.out.2.1.cell 1
      have f0 := HG.out.2.1.free 0
      have f1 := HG.out.2.1.free 1
      have hlen := rdRs_length c k
      go_wp2
      refine bodyPost_ret (v := .agg #[.int .i64 L, .slice ra k rc]) (by simp [results, Try.results57, go_sem, y0, y1]) rfl (HPOST.out _ _ (Or.inl ⟨HSH.out, ra, rc, by rw [hlen], ?_, ?_, ?_⟩))
      · have h4 : RecsOwn wr (R2 + 1) ra (rdRs c k).1 := recs_of_row (by rw [hlen]; exact hown)
        rcases h4 with h4 | ⟨g, o, cur, t, rfl, hgB, hb, hat⟩
        · exact Or.inl h4
        · refine Or.inr ⟨g, o, cur, t, rfl, by omega, ?_, ?_⟩
          · exact Blk.but (Blk.but hb ((But.refl w.heap.size wr).setCell 0 _) (by omega)) ((But.refl w.heap.size _).setCell 1 _) (by omega)
          · have hk2 : ∀ j, (((wr.setCell ⟨w.heap.size, 0, none⟩ (.int .i64 L)).setCell ⟨w.heap.size, 1, none⟩ (.slice (some ⟨g, o, none⟩) k rc))).cell? ⟨g, j, none⟩ = wr.cell? ⟨g, j, none⟩ := fun j => by
              rw [World.cell?_setCell_other _ _ _ _ (by simp), World.cell?_setCell_other _ _ _ _ (by simp)]
            intro i hi
            simp only [hk2]
            exact hat i hi
      · obtain ⟨tt, ht⟩ := HRT.out
        exact ⟨tt, Blk.but (Blk.but ht ((But.refl w.heap.size wr).setCell 0 _) (by omega)) ((But.refl w.heap.size _).setCell 1 _) (by omega)⟩
      · exact (HG.out.2.2.2.upTo ((Below.refl _ _).setCell (by simp) _)).upTo ((Below.refl _ _).setCell (by simp) _)
end Go.Proofs.Ytgpgacncmoiefaa
