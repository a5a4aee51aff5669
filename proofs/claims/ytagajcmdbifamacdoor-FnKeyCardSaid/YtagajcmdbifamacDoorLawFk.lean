import Derived.Test.YtagajcmdbifamacDoorProg
import Derived.Test.YtagajcmdbifamacDoorHPick
import Derived.Test.YtagajcmdbifamacDoorPermL
import Derived.Test.YtagajcmdbifamacDoorIKeyOf
import Derived.Test.YtagajcmdbifamacDoorIDec
namespace Go.Proofs.YtagajcmdbifamacDoor
open Go.RowKit

theorem key_size0 (ls : List LabD) : (keyB ls).size = 1 + (tailB ls).size := by rw [keyB, ByteArray.size_append, numS_size]
theorem sizL_big {ls : List LabD} (h : SizL ls) : BigL ls := fun i hi => by
  have := h ls[i] (List.getElem_mem hi)
  exact ⟨by omega, by omega⟩
theorem sizL_perm {ls ls' : List LabD} (hp : ls'.Perm ls) (h : SizL ls) : SizL ls' := fun l hl => h l (hp.mem_iff.1 hl)
theorem sizL_form {ls : List LabD} (h : SizL ls) (h0 : (canonR ls).2.1 = 0) : SizL (canonR ls).1 := fun l hl => by
  obtain ⟨h1, h2, h3, h4⟩ := canon_nil h0
  rw [canon_fine h1 h2 h3 h4] at hl
  have hp : (insAll [] ls).Perm (keptL ls) := (insAll_perm ls []).trans (by rw [List.nil_append])
  exact h l (List.mem_filter.1 (hp.mem_iff.1 hl)).1

theorem U8In.up {w w' : World} {B P P' n : Nat} {a : Option Addr} (h : U8In w B P a n) (hb : Below P w w') (hP : P ≤ P') : U8In w' P' P' a n := by
  rcases h with h | ⟨b, o, e, hne, hlt, h⟩
  · exact Or.inl h
  · exact Or.inr ⟨b, o, e, by omega, by omega, fun i hi => by
      obtain ⟨v, hv, hc⟩ := h i hi
      exact ⟨v, hv, by rw [World.cell?_of_block (hb.block b hlt)]; exact hc⟩⟩
theorem tail_bound : ∀ {ls : List LabD}, SizL ls → (tailB ls).size ≤ ls.length * 2003
  | [], _ => by simp [tailB]
  | l :: r, h => by
    have h1 := h l (by simp)
    have h2 := tail_bound (ls := r) (fun x hx => h x (by simp [hx]))
    rw [tailB, ByteArray.size_append, ByteArray.size_append, s8B_size, s16B_size, List.length_cons]
    omega
set_option maxRecDepth 100000 in
set_option maxHeartbeats 2000000 in
theorem lawFnKey (a b : Option Addr) (n cn m cm : Nat) (w : World) (hA : U8In w w.heap.size w.heap.size a n) (hB : U8In w w.heap.size w.heap.size b m) (hn : n ≤ maxLen) (hm : m ≤ maxLen) (hT : UTab w) :
    Calls Tryd.prog 4 #[.slice a n cn, .slice b m cm] w fun e w' => e = .returned (.bool true) ∧ Below w.heap.size w w' := by
  unfold maxLen at hn hm
  have HA : Hid (U8In w w.heap.size w.heap.size a n) := hA
  have HBB : Hid (U8In w w.heap.size w.heap.size b m) := hB
  have HT : Hid (UTab w) := hT
  clear hA hB hT
  obtain ⟨ti, hti, ht0, ht1, ht2⟩ := info_lab
  have HI : Hid (Tryd.prog.info? 35 = some ti) := hti
  clear hti
  by_cases hbn : (1048576 : Int) < n
  · go_enter Tryd.func4, Tryd.ntmps4
    go_wp2
    go_ret
    exact ⟨rfl, Below.refl _ _⟩
  by_cases hbm : (1048576 : Int) < m
  · go_enter Tryd.func4, Tryd.ntmps4
    go_wp2
    go_ret
    exact ⟨rfl, Below.refl _ _⟩
  go_enter Tryd.func4, Tryd.ntmps4
  go_wp2_with fail
  refine (drawCanon_any a n cn w (by omega) HA.out).mono ?_
  rintro e w1 ⟨g1, c1, ls, rfl, hc1, hl1, hs1, ho1, hb1⟩
  have B1 : Hid (Below w.heap.size w w1) := hb1
  have O1 : Hid (LabsIn w1 (some ⟨g1, 0, none⟩) ls) := ho1.labs
  have HSZ : Hid (SizL ls) := hs1
  clear hs1 ho1 hb1
  go_wp2_with fail
  refine (specCanon_cap _ c1 ls w1 O1.out (sizL_big HSZ.out) (by omega) hc1).mono ?_
  rintro e w2 ⟨a2, k2, rfl, hk2, ho2, hb2⟩
  have B2 : Hid (Below w.heap.size w w2) := bto B1.out hb2
  have O2 : Hid (LabsIn w2 (some ⟨g1, 0, none⟩) ls) := O1.out.later hb2
  have R2 : Hid (LabsIn w2 a2 (canonR ls).1) := ho2.labs
  clear ho2 hb2 B1 O1
  go_wp2_with fail
  refine (implCanon_any _ c1 ls w2 O2.out (sizL_big HSZ.out) (by omega) hc1 (HT.out.later B2.out)).mono ?_
  rintro e w3 ⟨a3, k3, rfl, hk3, ho3, hb3⟩
  have B3 : Hid (Below w.heap.size w w3) := bto B2.out hb3
  have O3 : Hid (LabsIn w3 (some ⟨g1, 0, none⟩) ls) := O2.out.later hb3
  have R3 : Hid (LabsIn w3 a2 (canonR ls).1) := R2.out.later hb3
  have F3 : Hid (LabsIn w3 a3 (canonR ls).1) := ho3.labs
  clear ho3 hb3 B2 O2 R2
  have hC := canon_len0 ls
  have HSAME : Hid (sameLs (canonR ls).1 (canonR ls).1 = true) := (sameLs_iff _ _).2 rfl
  by_cases h0 : (canonR ls).2.1 = 0
  · have HF : Hid (canonR (canonR ls).1 = ((canonR ls).1, 0, 0) ∧ keyV (canonR ls).1 = keyB (canonR ls).1 ∧ decV (keyB (canonR ls).1) = ((canonR ls).1, true) ∧ canB (canonR ls).1 = true ∧ SizL (canonR ls).1) := ⟨canon_idem h0, (form_key h0).1, (form_key h0).2, form_can h0, sizL_form HSZ.out h0⟩
    have HP : Hid (∀ ls', ls'.Perm ls → canonR ls' = ((canonR ls).1, 0, (canonR ls).2.2)) := fun ls' hp => by
      rw [canon_perm hp h0]
      rw [← h0]
    have HZ : Hid (canonR ls = ((canonR ls).1, 0, (canonR ls).2.2)) := by
      show _ = _
      rw [← h0]
    have hl16 := canon_some16 h0
    have hl0 : 1 ≤ ls.length := by
      obtain ⟨_, _, _, h4⟩ := canon_nil h0
      rcases Nat.eq_zero_or_pos ls.length with hz | hp
      · rw [List.length_eq_zero_iff] at hz
        rw [hz] at h4
        exact absurd h4 (by simp [metB])
      · exact hp
    rw [h0]
    clear h0 HZ
    generalize (canonR ls).1 = C at *
    generalize (canonR ls).2.2 = ci at *
    go_wp2_with fail
    refine (hLabels_any _ _ _ _ C C w3 F3.out R3.out (by omega)).mono ?_
    rintro e w4 ⟨rfl, hb4⟩
    have B4 : Hid (Below w.heap.size w w4) := bto B3.out hb4
    have O4 : Hid (LabsIn w4 (some ⟨g1, 0, none⟩) ls) := O3.out.later hb4
    have R4 : Hid (LabsIn w4 a2 C) := R3.out.later hb4
    have F4 : Hid (LabsIn w4 a3 C) := F3.out.later hb4
    clear hb4 B3 O3 R3 F3
    rw [HSAME.out]
    go_wp2_with fail
    refine (hPick_any w.heap.size w.heap.size b m cm ls.length _ (HBB.out.below (bto B4.out (bnew _ _))) (by omega) hl0 (by omega)).mono ?_
    rintro e w5 ⟨fr, hfr, rfl, hw5⟩
    replace hw5 := hw5.symm
    subst hw5
    have hz4 : w.heap.size ≤ w4.heap.size := B4.out.size
    have HTP : Hid ((ls.drop fr ++ ls.take fr).Perm ls) := turn_perm ls fr
    have HTG : Hid (∀ k (hk : k < ls.length), ∃ q, ∃ hq : q < ls.length, ((k : Int) + (fr : Int)) % ((ls.length : Nat) : Int) = ((q : Nat) : Int) ∧ ∃ hT : k < (ls.drop fr ++ ls.take fr).length, (ls.drop fr ++ ls.take fr)[k] = ls[q]) := fun k hk => ⟨(k + fr) % ls.length, Nat.mod_lt _ (by omega), by push_cast; rfl, by rw [HTP.out.length_eq]; exact hk, turn_get ls fr k hfr hk⟩
    generalize ls.drop fr ++ ls.take fr = T at *
    go_wp2
    go_loopw [12, 14, 71] (fun out _ i wr => ∃ (k g cv : Nat), k ≤ ls.length ∧ i = .int .i64 (k : Nat) ∧ out = .slice (some ⟨g, 0, none⟩) k cv ∧ Hid (wr.ownsRow w4.heap.size 35 2 (.slice (some ⟨g, 0, none⟩) k cv) k (flatL (T.take k))) ∧ Below w4.heap.size w4 wr) (fun _ _ i _ => ls.length - (intOf i).toNat)
    case atStart =>
      exact ⟨0, w4.heap.size, 0, by omega, rfl, rfl, World.ownsRow_made w4 #[] 0 (Nat.le_refl _) (by simp [maxLen]) (by simp), bnew _ _⟩
    case round =>
      obtain ⟨k, g, cv, hk, rfl, rfl, HROW, hbel⟩ := hrel
      have hszr := hbel.size
      by_cases hlt : k < ls.length
      · obtain ⟨q, hq, hqe, hTk, hTe⟩ := HTG.out k hlt
        obtain ⟨b', o', he, hb', x0, x1⟩ := (O4.out.later hbel).at hq
        simp only [Option.some.injEq, Addr.mk.injEq, and_true] at he
        obtain ⟨rfl, rfl⟩ := he
        rw [Nat.zero_add] at x0 x1
        have HTE : Hid (T.take (k + 1) = T.take k ++ [⟨ls[q].name, ls[q].value⟩]) := by
          show _ = _
          rw [List.take_succ_eq_append_getElem hTk, hTe]
        clear hTe hTk
        generalize ls[q].name = nm at *
        generalize ls[q].value = va at *
        have hlt' : (k : Int) < (ls.length : Nat) := by omega
        have hq' : (q : Int) < (ls.length : Nat) := by omega
        have hln : ¬ (((ls.length : Nat) : Int) = 0) := by omega
        go_wp2_with (at_builtin; refine wpList_append_lies _ rfl _ _ _ rfl w4.heap.size 35 ti _ 2 32 Tryd.underlying25 HI.out ht0 ht1 ht2 rfl (by omega) (.slice (some ⟨g, 0, none⟩) k cv) k (flatL (T.take k)) rfl (by exact row_later HROW.out (bnew _ _)) ⟨wr.heap.size, 0, none⟩ 1 1 [.string nm, .string va] rfl rfl (by exact World.news_of_block (cs := #[.string nm, .string va]) (heap_alloc_new _ _)) (by simp [Value.oneCell']) (by omega) (by simp [maxLen]; omega) (by omega) (by simp; omega) (wr.heap.size + 1) (by simp) ?_; intro g6 cap6 w6 hown6 hgrow6 hat6 hlt6)
        have hB6 : Below w4.heap.size w4 w6 := (bto hbel (bnew _ _)).grown hgrow6 (by simp; omega) (fun q hq => row_from HROW.out q hq)
        have hxs : flatL (T.take k) ++ [.string nm, .string va] = flatL (T.take (k + 1)) := by rw [HTE.out, flatL_append]; rfl
        rw [hxs] at hown6
        exact ⟨⟨k + 1, g6, cap6, by omega, by go_num, rfl, hown6, hB6⟩, by simp [intOf]; omega⟩
      · have hke : k = ls.length := by omega
        subst hke
        have hTl : T.length = ls.length := HTP.out.length_eq
        have hrowT : wr.ownsRow w4.heap.size 35 2 (.slice (some ⟨g, 0, none⟩) T.length cv) T.length (flatL T) := by
          have := HROW.out
          rw [List.take_of_length_le (by omega)] at this
          rw [hTl]
          exact this
        have hcvT := (row_cells hrowT).1
        have HCT : Hid (Calls Tryd.prog 13 #[.slice (some ⟨g, 0, none⟩) ls.length cv] wr fun e w' => ∃ a' cap', e = .returned (.tuple #[.slice a' C.length cap', .int .i64 0, .int .i64 (ci : Nat)]) ∧ C.length ≤ cap' ∧ LabsOwn w' wr.heap.size a' C ∧ Below wr.heap.size wr w') := by
          have := implCanon_any (some ⟨g, 0, none⟩) cv T wr (labs_of_row hrowT).labs (sizL_big (sizL_perm HTP.out HSZ.out)) (by omega) hcvT (HT.out.later (bto B4.out hbel))
          rw [HP.out T HTP.out, hTl] at this
          exact this
        have B5 : Hid (Below w.heap.size w wr) := bto B4.out hbel
        have R5 : Hid (LabsIn wr a2 C) := R4.out.later hbel
        have F5 : Hid (LabsIn wr a3 C) := F4.out.later hbel
        clear hrowT hcvT hTl HROW hbel hk hlt HTG HTP HP O4 R4 F4 hszr B4
        go_wp2_with fail
        refine HCT.out.mono ?_
        rintro e w6 ⟨a6, k6, rfl, _, ho6, hb6⟩
        have B6 : Hid (Below w.heap.size w w6) := bto B5.out hb6
        have R6 : Hid (LabsIn w6 a2 C) := R5.out.later hb6
        have F6 : Hid (LabsIn w6 a3 C) := F5.out.later hb6
        have A6 : Hid (LabsIn w6 a6 C) := ho6.labs
        clear ho6 hb6 HCT B5 R5 F5
        have HKK : Hid (Calls Tryd.prog 9 #[.slice a3 C.length k3] w6 fun e w' => e = .returned (.string (keyB C)) ∧ Below w6.heap.size w6 w') := by
          have := implKey_any a3 k3 C w6 F6.out (sizL_big HF.out.2.2.2.2) (by omega) hk3 (HT.out.later B6.out)
          rw [HF.out.2.1] at this
          exact this
        have hKS : (keyB C).size ≤ 1000000000 := by
          have h1 := key_size0 C
          have h2 := tail_bound HF.out.2.2.2.2
          omega
        have HKE : Hid ((keyB C).toList.isEmpty = false) := by
          show _ = _
          have h1 := key_size0 C
          rw [ByteArray.toList_eq]
          cases hd : (keyB C).data.toList with
          | nil => rw [bsize, hd, List.length_nil] at h1; omega
          | cons _ _ => rfl
        have HDD : Hid (∀ W, UTab W → Calls Tryd.prog 16 #[.string (keyB C)] W fun e w' => ∃ a cap, e = .returned (.tuple #[.slice a C.length cap, .bool true]) ∧ LabsOwn w' W.heap.size a C ∧ Below W.heap.size W w') := fun W hW => by
          have := implDec_any (keyB C) W hKS hW
          rw [HF.out.2.2.1] at this
          exact this
        have HEQ : Hid (∀ D, canB D = true → (((keyB D).toList == (keyB C).toList) = sameLs D C)) := fun D hD => by
          rw [Bool.eq_iff_iff, beq_iff_eq, sameLs_iff]
          constructor
          · intro h; exact (key_inj hD HF.out.2.2.2.1).1 (toList_inj h)
          · intro h; rw [h]
        generalize keyB C = KB at *
        go_wp2_with fail
        refine HKK.out.mono ?_
        rintro e w7 ⟨rfl, hb7⟩
        have B7 : Hid (Below w.heap.size w w7) := bto B6.out hb7
        have R7 : Hid (LabsIn w7 a2 C) := R6.out.later hb7
        have A7 : Hid (LabsIn w7 a6 C) := A6.out.later hb7
        clear hb7 HKK B6 R6 A6 F6
        go_wp2_with fail
        refine (HDD.out w7 (HT.out.later B7.out)).mono ?_
        rintro e w8 ⟨a8, k8, rfl, ho8, hb8⟩
        have B8 : Hid (Below w.heap.size w w8) := bto B7.out hb8
        have R8 : Hid (LabsIn w8 a2 C) := R7.out.later hb8
        have A8 : Hid (LabsIn w8 a6 C) := A7.out.later hb8
        have D8 : Hid (LabsIn w8 a8 C) := ho8.labs
        clear ho8 hb8 HDD B7 R7 A7
        go_wp2_with fail
        refine (hLabels_any _ _ _ _ C C w8 A8.out R8.out (by omega)).mono ?_
        rintro e w9 ⟨rfl, hb9⟩
        have B9 : Hid (Below w.heap.size w w9) := bto B8.out hb9
        have R9 : Hid (LabsIn w9 a2 C) := R8.out.later hb9
        have D9 : Hid (LabsIn w9 a8 C) := D8.out.later hb9
        clear hb9 B8 R8 A8 D8
        rw [HSAME.out]
        have hKE : KB.toList.isEmpty = false := HKE.out
        go_wp2_with fail
        refine (hLabels_any _ _ _ _ C C w9 D9.out R9.out (by omega)).mono ?_
        rintro e w10 ⟨rfl, hb10⟩
        have B10 : Hid (Below w.heap.size w w10) := bto B9.out hb10
        have R10 : Hid (LabsIn w10 a2 C) := R9.out.later hb10
        clear hb10 B9 R9 D9
        rw [HSAME.out]
        go_wp2_with fail
        refine (drawCanon_any b m cm w10 (by omega) (HBB.out.up B10.out B10.out.size)).mono ?_
        rintro e w11 ⟨g11, c11, l2, rfl, hc11, hl11, hs11, ho11, hb11⟩
        have B11 : Hid (Below w.heap.size w w11) := bto B10.out hb11
        have R11 : Hid (LabsIn w11 a2 C) := R10.out.later hb11
        have O11 : Hid (LabsIn w11 (some ⟨g11, 0, none⟩) l2) := ho11.labs
        have HS2 : Hid (SizL l2) := hs11
        clear ho11 hb11 hs11 B10 R10
        go_wp2_with fail
        refine (specCanon_cap _ c11 l2 w11 O11.out (sizL_big HS2.out) (by omega) hc11).mono ?_
        rintro e w12 ⟨a12, k12, rfl, hk12, ho12, hb12⟩
        have B12 : Hid (Below w.heap.size w w12) := bto B11.out hb12
        have R12 : Hid (LabsIn w12 a2 C) := R11.out.later hb12
        have D12 : Hid (LabsIn w12 a12 (canonR l2).1) := ho12.labs
        clear ho12 hb12 B11 R11 O11
        have hC2 := canon_len0 l2
        by_cases h2 : (canonR l2).2.1 = 0
        · have HK2 : Hid (Calls Tryd.prog 9 #[.slice a12 (canonR l2).1.length k12] w12 fun e w' => e = .returned (.string (keyB (canonR l2).1)) ∧ Below w12.heap.size w12 w') := by
            have := implKey_any a12 k12 _ w12 D12.out (sizL_big (sizL_form HS2.out h2)) (by omega) hk12 (HT.out.later B12.out)
            rw [(form_key h2).1] at this
            exact this
          have HE2 : Hid (((keyB (canonR l2).1).toList == KB.toList) = sameLs (canonR l2).1 C) := HEQ.out _ (form_can h2)
          rw [h2]
          clear h2
          generalize (canonR l2).1 = D at *
          generalize (canonR l2).2.2 = di at *
          generalize keyB D = KD at *
          go_wp2_with fail
          refine HK2.out.mono ?_
          rintro e w13 ⟨rfl, hb13⟩
          have B13 : Hid (Below w.heap.size w w13) := bto B12.out hb13
          have R13 : Hid (LabsIn w13 a2 C) := R12.out.later hb13
          have D13 : Hid (LabsIn w13 a12 D) := D12.out.later hb13
          clear hb13 B12 R12 D12 HK2
          go_wp2_with fail
          refine (hLabels_any _ _ _ _ D C w13 D13.out R13.out (by omega)).mono ?_
          rintro e w14 ⟨rfl, hb14⟩
          have B14 : Hid (Below w.heap.size w w14) := bto B13.out hb14
          clear hb14 B13 R13 D13
          have hE2 := HE2.out
          generalize sameLs D C = SB at *
          go_wp2
          go_ret
          exact ⟨rfl, B14.out⟩
        · have h2' : ¬ (((canonR l2).2.1 : Nat) : Int) = 0 := by omega
          clear h2
          generalize (canonR l2).1 = D at *
          generalize (canonR l2).2.1 = dc at *
          generalize (canonR l2).2.2 = di at *
          go_wp2
          go_ret
          exact ⟨rfl, B12.out⟩
  · have HK : Hid (keyV ls = ByteArray.empty) := key_none h0
    have h0' : ¬ (((canonR ls).2.1 : Nat) : Int) = 0 := by omega
    clear h0
    generalize (canonR ls).1 = C at *
    generalize (canonR ls).2.1 = cc at *
    generalize (canonR ls).2.2 = ci at *
    go_wp2_with fail
    refine (hLabels_any _ _ _ _ C C w3 F3.out R3.out (by omega)).mono ?_
    rintro e w4 ⟨rfl, hb4⟩
    have B4 : Hid (Below w.heap.size w w4) := bto B3.out hb4
    have O4 : Hid (LabsIn w4 (some ⟨g1, 0, none⟩) ls) := O3.out.later hb4
    clear hb4 B3 O3 R3 F3
    rw [HSAME.out]
    go_wp2_with fail
    refine (implKey_any _ c1 ls w4 O4.out (sizL_big HSZ.out) (by omega) hc1 (HT.out.later B4.out)).mono ?_
    rintro e w5 ⟨rfl, hb5⟩
    have B5 : Hid (Below w.heap.size w w5) := bto B4.out hb5
    clear hb5
    rw [HK.out]
    go_wp2
    go_ret
    exact ⟨rfl, B5.out⟩
end Go.Proofs.YtagajcmdbifamacDoor
