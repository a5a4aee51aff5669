import Derived.Test.YtnbkmmmlhlbfoaaGreatDoorProg
import Derived.Test.YtnbkmmmlhlbfoaaGreatDoorJ34DrwA
import Derived.Test.YtnbkmmmlhlbfoaaGreatDoorJ35SplS
import Derived.Test.YtnbkmmmlhlbfoaaGreatDoorJ41LmL
import Derived.Test.YtnbkmmmlhlbfoaaGreatDoorJ42SSlm
import Derived.Test.YtnbkmmmlhlbfoaaGreatDoorJ43IdlL
import Derived.Test.YtnbkmmmlhlbfoaaGreatDoorJ37StrL
import Derived.Test.YtnbkmmmlhlbfoaaGreatDoorJ36IAdS
import Derived.Test.YtnbkmmmlhlbfoaaGreatDoorJ44AdmC
import Derived.Test.YtnbkmmmlhlbfoaaGreatDoorJ18Met
namespace Go.Proofs.YtnbkmmmlhlbfoaaGreatDoor
open Go.RowKit
theorem tickC_any (c : CfgD) : TickC c := fun now a cap ts b W hf hb => specTick_any c now a cap ts b W hf hb
theorem setC_any (c : CfgD) : SetC c := fun now a cap ts t m b W hf hb h1 h2 => specSetLimit_any c now a cap ts t m b W hf hb h1 h2
theorem admtC_any (c : CfgD) : AdmtC c := fun now a cap ts t m W hf hb h1 h2 => specAdmit_any c now a cap ts t m W hf hb h1 h2
theorem spoC_any : SpoC := fun B P A bs σ now a cap ts w h1 h2 h3 h4 h5 h6 h7 h8 => spoilS_any B P A bs σ now a cap ts w h1 h2 h3 h4 h5 h6 h7 h8
theorem drawAdmit_any (ac : Option Addr) (cc : Nat) (bs : List Nat) (w : World) (hU : U8X w w.heap.size w.heap.size ac bs) (hn : bs.length ≤ 1048576) :
    Calls Tryz.prog 4 #[.slice ac bs.length cc] w fun e w' => ∃ a cap, e = .returned (.tuple #[cfgV (admX bs).1, .agg #[.int .i64 (admX bs).2.1, .slice a (admX bs).2.2.1.length cap], .string (admX bs).2.2.2.1, .string (admX bs).2.2.2.2]) ∧ TensN w' (w.heap.size ≤ ·) a (admX bs).2.2.1 ∧ Below w.heap.size w w' :=
  drawAdmit_core ac cc bs w hU hn tickC_any setC_any admtC_any spoC_any
theorem u8_list {w : World} {B P n : Nat} {a : Option Addr} (h : U8In w B P a n) : ∃ bs : List Nat, bs.length = n ∧ U8X w B P a bs := by
  rcases h with rfl | ⟨b, o, e, hne, hlt, h⟩
  · exact ⟨[], rfl, Or.inl rfl⟩
  · have key : ∀ m, m ≤ n → ∃ bs : List Nat, bs.length = m ∧ ∀ i (hi : i < bs.length), bs[i] < 256 ∧ w.cell? ⟨b, o + i, none⟩ = some (.int .u8 (bs[i] : Nat)) := by
      intro m
      induction m with
      | zero => exact fun _ => ⟨[], rfl, fun i hi => absurd hi (by simp)⟩
      | succ m ih =>
        intro hm
        obtain ⟨bs, hl, hb⟩ := ih (by omega)
        obtain ⟨v, hv, hc⟩ := h m (by omega)
        refine ⟨bs ++ [v], by simp [hl], fun i hi => ?_⟩
        by_cases hi2 : i < bs.length
        · rw [List.getElem_append_left hi2]
          exact hb i hi2
        · have : i = bs.length := by simp at hi; omega
          subst this
          simp only [List.getElem_concat_length]
          rw [hl]
          exact ⟨hv, hc⟩
    obtain ⟨bs, hl, hb⟩ := key n (Nat.le_refl _)
    exact ⟨bs, hl, Or.inr ⟨b, o, e, hne, hlt, hb⟩⟩
theorem fit_big {ts : List TenD} (h : ts.length + tensBulk ts ≤ 2100000) : FitT ts 2100000 := by
  have hb : ∀ i (hi : i < ts.length), tenBulk ts[i] ≤ 2100000 := fun i hi => by have := tenBulk_at ts i hi; omega
  have h1 : ∀ i (hi : i < ts.length), ts[i].name.size ≤ 2100000 ∧ ts[i].mets.length ≤ 2100000 ∧ ts[i].sers.length ≤ 2100000 ∧ pairBulk ts[i].mets ≤ 2100000 ∧ pairBulk ts[i].sers ≤ 2100000 := fun i hi => by have := hb i hi; unfold tenBulk at this; omega
  have h2 : ∀ i (hi : i < ts.length), (∀ j (h' : j < ts[i].mets.length), ts[i].mets[j].s.size ≤ 1000000000) ∧ (∀ j (h' : j < ts[i].sers.length), ts[i].sers[j].s.size ≤ 1000000000) := fun i hi =>
    ⟨fun j hj => by have := pair_bulk_at _ j hj; have := h1 i hi; omega, fun j hj => by have := pair_bulk_at _ j hj; have := h1 i hi; omega⟩
  refine fun i hi => ⟨?_, (h2 i hi).1, (h2 i hi).2, ?_, ?_, ?_⟩ <;> (have := h1 i hi; unfold maxLen at *; omega)
theorem admX_is (bs : List Nat) : (admX bs).2.2.1.length + tensBulk (admX bs).2.2.1 ≤ 1000000 ∧ (admX bs).2.2.2.1.size ≤ 40 ∧ (admX bs).2.2.2.2.size ≤ 1014060 := by
  have h1 := (bothX_is bs ⟨0, 0⟩).1
  exact ⟨h1, (anyTenX_is bs _).1, admK_is bs _ _ h1⟩
theorem countOf_le (c : CfgD) (now : Int) (ts : List TenD) (tn m : ByteArray) : (countOfV c now ts tn m).1 ≤ ((tensBulk ts : Nat) : Int) := by
  have hb := (tenOf_bulk (ts := ts) (name := tn)).2
  have hc := cntM_le metK (tenOf ts tn).sers m
  unfold countOfV countV
  split
  · split <;> (simp only; omega)
  · simp only; omega
theorem metF_size (s : ByteArray) : (metK s).size ≤ 1000000 := by
  have h : ∀ l ∈ (decV s).1, l.value.size ≤ 1000000 := fun l hl => by
    cases hd : (decV s).2 with
    | false => rw [(dec_not hd).1] at hl; simp at hl
    | true =>
      obtain ⟨i, hi, rfl⟩ := List.getElem_of_mem hl
      have := (can_small (dec_key hd).1 i hi).2
      omega
  exact metV_size _ h
set_option maxRecDepth 100000 in
set_option maxHeartbeats 8000000 in
theorem lawFnAdmit (ac : Option Addr) (n cc : Nat) (w : World) (hU : U8In w w.heap.size w.heap.size ac n) (hn : n ≤ maxLen) (hT : UTab w) :
    Calls Tryz.prog 3 #[.slice ac n cc] w fun e w' => e = .returned (.bool true) ∧ Below w.heap.size w w' := by
  unfold maxLen at hn
  obtain ⟨bs, rfl, hX⟩ := u8_list hU
  have HT := hid hT
  clear hU hT
  by_cases hbn : (1048576 : Int) < bs.length
  · clear hX
    go_enter Tryz.func3, Tryz.ntmps3
    go_wp2
    go_ret
    exact ⟨rfl, Below.refl _ _⟩
  have HDR : Hid (∀ W, Below w.heap.size w W → Calls Tryz.prog 4 #[.slice ac bs.length cc] W fun e w' => ∃ a cap, e = .returned (.tuple #[cfgV (admX bs).1, .agg #[.int .i64 (admX bs).2.1, .slice a (admX bs).2.2.1.length cap], .string (admX bs).2.2.2.1, .string (admX bs).2.2.2.2]) ∧ TensN w' (W.heap.size ≤ ·) a (admX bs).2.2.1 ∧ Below W.heap.size W w') := fun W hW => drawAdmit_any ac cc bs W (by
      rcases hX with h | ⟨b, o, e, hne, hlt, h⟩
      · exact Or.inl h
      · have := hW.size
        exact Or.inr ⟨b, o, e, by omega, by omega, fun i hi => ⟨(h i hi).1, by rw [World.cell?_of_block (hW.block b hlt)]; exact (h i hi).2⟩⟩) (by omega)
  have HXI := hid (admX_is bs)
  clear hX
  generalize admX bs = Rx at *
  obtain ⟨c, now, ts, tn, ky⟩ := Rx
  simp only at HDR HXI
  obtain ⟨hbk, htz, hkz⟩ := HXI.out
  clear HXI
  have HSA : Hid (∀ (a : Option Addr) (cap : Nat) W, TensIn W a ts → Calls Tryz.prog 5 #[cfgV c, .agg #[.int .i64 now, .slice a ts.length cap], .string tn, .string ky] W fun e w' => AdOut (admitV c now ts tn ky) W e w') := fun a cap W h => specAdmit_any c now a cap ts tn ky W h (by omega) (by omega) (by omega)
  have HIA : Hid (∀ (a : Option Addr) (cap : Nat) W, TensIn W a ts → Below w.heap.size w W → Calls Tryz.prog 6 #[cfgV c, .agg #[.int .i64 now, .slice a ts.length cap], .string tn, .string ky] W fun e w' => AdOut (admitV c now ts tn ky) W e w') := fun a cap W h hW => implAdmit_any c now a cap ts tn ky W h (by omega) (HT.out.later hW) (by omega) (by omega)
  have hmz := metF_size ky
  have HMT : Hid (∀ W, Below w.heap.size w W → Calls Tryz.prog 8 #[.string ky] W fun e w' => e = .returned (.string (metK ky)) ∧ Below W.heap.size W w') := fun W hW => implMet_any ky W (by omega) (HT.out.later hW)
  have HCO : Hid (∀ (a : Option Addr) (cap : Nat) (m : ByteArray) W, TensIn W a ts → Below w.heap.size w W → m.size ≤ 1048576 → Calls Tryz.prog 9 #[cfgV c, .agg #[.int .i64 now, .slice a ts.length cap], .string tn, .string m] W fun e w' => e = .returned (.tuple #[.int .i64 (countOfV c now ts tn m).1, .int .i64 (countOfV c now ts tn m).2]) ∧ Below W.heap.size W w') := fun a cap m W h hW hm => implCountOf_any c now a cap ts tn m 2100000 W h (fit_big (by omega)) (by omega) (HT.out.later hW) (by omega) hm
  have hVb := admitV_bulk c now ts tn ky
  have HAC := hid (admit_counts (c := c) (now := now) (ts := ts) (tenant := tn) (key := ky))
  unfold AdOut at HSA HIA
  generalize admitV c now ts tn ky = V at *
  obtain ⟨vn, vt, vv⟩ := V
  simp only at HSA HIA hVb HAC
  have HCV : Hid (∀ (a : Option Addr) (cap : Nat) (m : ByteArray) W, TensIn W a vt → Below w.heap.size w W → m.size ≤ 1048576 → Calls Tryz.prog 9 #[cfgV c, .agg #[.int .i64 vn, .slice a vt.length cap], .string tn, .string m] W fun e w' => e = .returned (.tuple #[.int .i64 (countOfV c vn vt tn m).1, .int .i64 (countOfV c vn vt tn m).2]) ∧ Below W.heap.size W w') := fun a cap m W h hW hm => implCountOf_any c vn a cap vt tn m 2100000 W h (fit_big (by omega)) (by omega) (HT.out.later hW) (by omega) hm
  have hem : (⟨#[]⟩ : ByteArray).size ≤ 1048576 := by show (0 : Nat) ≤ 1048576; omega
  have HHS : Hid (∀ (a a' : Option Addr) (cap cap' : Nat) W, TensIn W a vt → TensIn W a' vt → Calls Tryz.prog 7 #[.agg #[.int .i64 vn, .slice a vt.length cap], .agg #[.int .i64 vn, .slice a' vt.length cap']] W fun e w' => e = .returned (.bool true) ∧ Below W.heap.size W w') := fun a a' cap cap' W h h' => hState_same vn a a' cap cap' vt W h h' (by unfold maxLen; omega) (fun i hi => by have := tenBulk_at vt i hi; unfold tenBulk at this; unfold maxLen; omega)
  generalize metK ky = mk at *
  unfold cfgV at *
  go_enter Tryz.func3, Tryz.ntmps3
  go_wp2_with fail
  refine (HDR.out _ (Below.refl _ _)).mono ?_
  rintro e w1 ⟨a1, k1, rfl, ht1, hb1⟩
  have T1 : Hid (TensIn w1 a1 ts) := ht1.tens
  have B1 : Hid (Below w.heap.size w w1) := hb1
  clear ht1 hb1
  go_wp2_with fail
  have X2 : Hid (Blk ((w1.alloc (.cells #[.int .i64 c.w, .int .i64 c.tl, .int .i64 c.ml, .int .i64 c.sh, .int .i64 c.ha, .int .i64 c.sg] 24)).alloc (.cells #[.int .i64 now, .slice a1 ts.length k1] 27)) w1.heap.size #[.int .i64 c.w, .int .i64 c.tl, .int .i64 c.ml, .int .i64 c.sh, .int .i64 c.ha, .int .i64 c.sg] 24) := (Blk.new _ _ _).alloc _
  have Y2 : Hid (Blk ((w1.alloc (.cells #[.int .i64 c.w, .int .i64 c.tl, .int .i64 c.ml, .int .i64 c.sh, .int .i64 c.ha, .int .i64 c.sg] 24)).alloc (.cells #[.int .i64 now, .slice a1 ts.length k1] 27)) (w1.heap.size + 1) #[.int .i64 now, .slice a1 ts.length k1] 27) := hid (by have := Blk.new (w1.alloc (.cells #[.int .i64 c.w, .int .i64 c.tl, .int .i64 c.ml, .int .i64 c.sh, .int .i64 c.ha, .int .i64 c.sg] 24)) #[.int .i64 now, .slice a1 ts.length k1] 27; simpa using this)
  have T2 : Hid (TensIn ((w1.alloc (.cells #[.int .i64 c.w, .int .i64 c.tl, .int .i64 c.ml, .int .i64 c.sh, .int .i64 c.ha, .int .i64 c.sg] 24)).alloc (.cells #[.int .i64 now, .slice a1 ts.length k1] 27)) a1 ts) := T1.out.later (bto (bnew _ _) (bnew _ _))
  have B2 : Hid (Below w.heap.size w ((w1.alloc (.cells #[.int .i64 c.w, .int .i64 c.tl, .int .i64 c.ml, .int .i64 c.sh, .int .i64 c.ha, .int .i64 c.sg] 24)).alloc (.cells #[.int .i64 now, .slice a1 ts.length k1] 27))) := bto B1.out (bto (bnew _ _) (bnew _ _))
  clear B1 T1
  generalize ((w1.alloc (.cells #[.int .i64 c.w, .int .i64 c.tl, .int .i64 c.ml, .int .i64 c.sh, .int .i64 c.ha, .int .i64 c.sg] 24)).alloc (.cells #[.int .i64 now, .slice a1 ts.length k1] 27)) = w2 at *
  refine (HSA.out a1 k1 _ T2.out).mono ?_
  rintro e w3 ⟨a3, k3, rfl, ho3, hb3⟩
  have X3 := hid (X2.out.later hb3)
  have Y3 := hid (Y2.out.later hb3)
  have T3 := hid (T2.out.later hb3)
  have B3 := hid (bto B2.out hb3)
  have U3 : Hid (TensIn w3 a3 vt) := ho3.tens
  clear ho3 hb3 X2 Y2 T2 B2
  go_wp2_with fail
  have R4 : Hid (Blk (w3.alloc (.cells #[.int .i64 vn, .slice a3 vt.length k3] 27)) w3.heap.size #[.int .i64 vn, .slice a3 vt.length k3] 27) := Blk.new _ _ _
  have X4 : Hid (Blk (w3.alloc (.cells #[.int .i64 vn, .slice a3 vt.length k3] 27)) w1.heap.size #[.int .i64 c.w, .int .i64 c.tl, .int .i64 c.ml, .int .i64 c.sh, .int .i64 c.ha, .int .i64 c.sg] 24) := X3.out.later (bnew _ _)
  have Y4 : Hid (Blk (w3.alloc (.cells #[.int .i64 vn, .slice a3 vt.length k3] 27)) (w1.heap.size + 1) #[.int .i64 now, .slice a1 ts.length k1] 27) := Y3.out.later (bnew _ _)
  have T4 : Hid (TensIn (w3.alloc (.cells #[.int .i64 vn, .slice a3 vt.length k3] 27)) a1 ts) := T3.out.later (bnew _ _)
  have U4 : Hid (TensIn (w3.alloc (.cells #[.int .i64 vn, .slice a3 vt.length k3] 27)) a3 vt) := U3.out.later (bnew _ _)
  have B4 : Hid (Below w.heap.size w (w3.alloc (.cells #[.int .i64 vn, .slice a3 vt.length k3] 27))) := bto B3.out (bnew _ _)
  clear B3 X3 Y3 T3 U3
  generalize (w3.alloc (.cells #[.int .i64 vn, .slice a3 vt.length k3] 27)) = w4 at *
  refine (HDR.out _ B4.out).mono ?_
  rintro e w5 ⟨a5, k5, rfl, ht5, hb5⟩
  have X5 := hid (X4.out.later hb5)
  have Y5 := hid (Y4.out.later hb5)
  have R5 := hid (R4.out.later hb5)
  have T5 := hid (T4.out.later hb5)
  have U5 := hid (U4.out.later hb5)
  have B5 := hid (bto B4.out hb5)
  have V5 : Hid (TensIn w5 a5 ts) := ht5.tens
  clear ht5 hb5 X4 Y4 R4 T4 U4 B4
  go_wp2_with fail
  have D6 : Hid (Blk ((w5.alloc (.cells #[.int .i64 c.w, .int .i64 c.tl, .int .i64 c.ml, .int .i64 c.sh, .int .i64 c.ha, .int .i64 c.sg] 24)).alloc (.cells #[.int .i64 now, .slice a5 ts.length k5] 27)) w5.heap.size #[.int .i64 c.w, .int .i64 c.tl, .int .i64 c.ml, .int .i64 c.sh, .int .i64 c.ha, .int .i64 c.sg] 24) := (Blk.new _ _ _).alloc _
  have E6 : Hid (Blk ((w5.alloc (.cells #[.int .i64 c.w, .int .i64 c.tl, .int .i64 c.ml, .int .i64 c.sh, .int .i64 c.ha, .int .i64 c.sg] 24)).alloc (.cells #[.int .i64 now, .slice a5 ts.length k5] 27)) (w5.heap.size + 1) #[.int .i64 now, .slice a5 ts.length k5] 27) := hid (by have := Blk.new (w5.alloc (.cells #[.int .i64 c.w, .int .i64 c.tl, .int .i64 c.ml, .int .i64 c.sh, .int .i64 c.ha, .int .i64 c.sg] 24)) #[.int .i64 now, .slice a5 ts.length k5] 27; simpa using this)
  have X6 : Hid (Blk ((w5.alloc (.cells #[.int .i64 c.w, .int .i64 c.tl, .int .i64 c.ml, .int .i64 c.sh, .int .i64 c.ha, .int .i64 c.sg] 24)).alloc (.cells #[.int .i64 now, .slice a5 ts.length k5] 27)) w1.heap.size #[.int .i64 c.w, .int .i64 c.tl, .int .i64 c.ml, .int .i64 c.sh, .int .i64 c.ha, .int .i64 c.sg] 24) := X5.out.later (bto (bnew _ _) (bnew _ _))
  have Y6 : Hid (Blk ((w5.alloc (.cells #[.int .i64 c.w, .int .i64 c.tl, .int .i64 c.ml, .int .i64 c.sh, .int .i64 c.ha, .int .i64 c.sg] 24)).alloc (.cells #[.int .i64 now, .slice a5 ts.length k5] 27)) (w1.heap.size + 1) #[.int .i64 now, .slice a1 ts.length k1] 27) := Y5.out.later (bto (bnew _ _) (bnew _ _))
  have R6 : Hid (Blk ((w5.alloc (.cells #[.int .i64 c.w, .int .i64 c.tl, .int .i64 c.ml, .int .i64 c.sh, .int .i64 c.ha, .int .i64 c.sg] 24)).alloc (.cells #[.int .i64 now, .slice a5 ts.length k5] 27)) w3.heap.size #[.int .i64 vn, .slice a3 vt.length k3] 27) := R5.out.later (bto (bnew _ _) (bnew _ _))
  have T6 : Hid (TensIn ((w5.alloc (.cells #[.int .i64 c.w, .int .i64 c.tl, .int .i64 c.ml, .int .i64 c.sh, .int .i64 c.ha, .int .i64 c.sg] 24)).alloc (.cells #[.int .i64 now, .slice a5 ts.length k5] 27)) a1 ts) := T5.out.later (bto (bnew _ _) (bnew _ _))
  have U6 : Hid (TensIn ((w5.alloc (.cells #[.int .i64 c.w, .int .i64 c.tl, .int .i64 c.ml, .int .i64 c.sh, .int .i64 c.ha, .int .i64 c.sg] 24)).alloc (.cells #[.int .i64 now, .slice a5 ts.length k5] 27)) a3 vt) := U5.out.later (bto (bnew _ _) (bnew _ _))
  have V6 : Hid (TensIn ((w5.alloc (.cells #[.int .i64 c.w, .int .i64 c.tl, .int .i64 c.ml, .int .i64 c.sh, .int .i64 c.ha, .int .i64 c.sg] 24)).alloc (.cells #[.int .i64 now, .slice a5 ts.length k5] 27)) a5 ts) := V5.out.later (bto (bnew _ _) (bnew _ _))
  have B6 : Hid (Below w.heap.size w ((w5.alloc (.cells #[.int .i64 c.w, .int .i64 c.tl, .int .i64 c.ml, .int .i64 c.sh, .int .i64 c.ha, .int .i64 c.sg] 24)).alloc (.cells #[.int .i64 now, .slice a5 ts.length k5] 27))) := bto B5.out (bto (bnew _ _) (bnew _ _))
  clear B5 X5 Y5 R5 T5 U5 V5
  generalize ((w5.alloc (.cells #[.int .i64 c.w, .int .i64 c.tl, .int .i64 c.ml, .int .i64 c.sh, .int .i64 c.ha, .int .i64 c.sg] 24)).alloc (.cells #[.int .i64 now, .slice a5 ts.length k5] 27)) = w6 at *
  refine (HIA.out a5 k5 _ V6.out B6.out).mono ?_
  rintro e w7 ⟨a7, k7, rfl, ho7, hb7⟩
  have X7 := hid (X6.out.later hb7)
  have Y7 := hid (Y6.out.later hb7)
  have R7 := hid (R6.out.later hb7)
  have T7 := hid (T6.out.later hb7)
  have U7 := hid (U6.out.later hb7)
  have B7 := hid (bto B6.out hb7)
  have Z7 : Hid (TensIn w7 a7 vt) := ho7.tens
  clear ho7 hb7 X6 Y6 R6 D6 E6 T6 U6 V6 B6
  have r0 := R7.out.cell 0
  have r1 := R7.out.cell 1
  have hrl := lt_of_block R7.out
  have hrn : ¬ (w3.heap.size = w7.heap.size) := by omega
  go_wp2_with fail
  have A8 : Hid (Blk (w7.alloc (.cells #[.int .i64 vn, .slice a7 vt.length k7] 27)) w7.heap.size #[.int .i64 vn, .slice a7 vt.length k7] 27) := Blk.new _ _ _
  have X8 : Hid (Blk (w7.alloc (.cells #[.int .i64 vn, .slice a7 vt.length k7] 27)) w1.heap.size #[.int .i64 c.w, .int .i64 c.tl, .int .i64 c.ml, .int .i64 c.sh, .int .i64 c.ha, .int .i64 c.sg] 24) := X7.out.later (bnew _ _)
  have Y8 : Hid (Blk (w7.alloc (.cells #[.int .i64 vn, .slice a7 vt.length k7] 27)) (w1.heap.size + 1) #[.int .i64 now, .slice a1 ts.length k1] 27) := Y7.out.later (bnew _ _)
  have R8 : Hid (Blk (w7.alloc (.cells #[.int .i64 vn, .slice a7 vt.length k7] 27)) w3.heap.size #[.int .i64 vn, .slice a3 vt.length k3] 27) := R7.out.later (bnew _ _)
  have T8 : Hid (TensIn (w7.alloc (.cells #[.int .i64 vn, .slice a7 vt.length k7] 27)) a1 ts) := T7.out.later (bnew _ _)
  have U8 : Hid (TensIn (w7.alloc (.cells #[.int .i64 vn, .slice a7 vt.length k7] 27)) a3 vt) := U7.out.later (bnew _ _)
  have Z8 : Hid (TensIn (w7.alloc (.cells #[.int .i64 vn, .slice a7 vt.length k7] 27)) a7 vt) := Z7.out.later (bnew _ _)
  have B8 : Hid (Below w.heap.size w (w7.alloc (.cells #[.int .i64 vn, .slice a7 vt.length k7] 27))) := bto B7.out (bnew _ _)
  clear B7 X7 Y7 R7 T7 U7 Z7
  generalize (w7.alloc (.cells #[.int .i64 vn, .slice a7 vt.length k7] 27)) = w8 at *
  clear r0 r1 hrl hrn
  refine (HHS.out a7 a3 k7 k3 _ Z8.out U8.out).mono ?_
  rintro e w9 ⟨rfl, hb9⟩
  have X9 := hid (X8.out.later hb9)
  have Y9 := hid (Y8.out.later hb9)
  have R9 := hid (R8.out.later hb9)
  have A9 := hid (A8.out.later hb9)
  have T9 := hid (T8.out.later hb9)
  have U9 := hid (U8.out.later hb9)
  have Z9 := hid (Z8.out.later hb9)
  have B9 := hid (bto B8.out hb9)
  clear hb9 X8 Y8 R8 A8 T8 U8 Z8 B8
  by_cases h5 : vv = 5
  · subst h5
    go_wp2
    go_ret
    exact ⟨rfl, B9.out⟩
  have h5' : ¬ ((vv : Int) = 5) := by omega
  obtain ⟨hvn, hp0, hp1, hl0, hl1, hcs⟩ := HAC.out h5
  clear HAC
  subst hvn
  go_wp2_with fail
  refine (HMT.out _ B9.out).mono ?_
  rintro e w10 ⟨rfl, hb10⟩
  have X10 := hid (X9.out.later hb10)
  have Y10 := hid (Y9.out.later hb10)
  have A10 := hid (A9.out.later hb10)
  have T10 := hid (T9.out.later hb10)
  have Z10 := hid (Z9.out.later hb10)
  have B10 := hid (bto B9.out hb10)
  clear hb10 X9 Y9 R9 A9 T9 U9 Z9 B9
  have x0 := X10.out.cell 0
  have x1 := X10.out.cell 1
  have x2 := X10.out.cell 2
  have x3 := X10.out.cell 3
  have x4 := X10.out.cell 4
  have x5 := X10.out.cell 5
  have y0 := Y10.out.cell 0
  have y1 := Y10.out.cell 1
  go_wp2_with fail
  refine (HCO.out a1 k1 ⟨#[]⟩ _ T10.out B10.out hem).mono ?_
  rintro e w11 ⟨rfl, hb11⟩
  have X11 := hid (X10.out.later hb11)
  have Y11 := hid (Y10.out.later hb11)
  have A11 := hid (A10.out.later hb11)
  have T11 := hid (T10.out.later hb11)
  have Z11 := hid (Z10.out.later hb11)
  have B11 := hid (bto B10.out hb11)
  clear hb11 X10 Y10 A10 T10 Z10 B10 x0 x1 x2 x3 x4 x5 y0 y1
  have x0 := X11.out.cell 0
  have x1 := X11.out.cell 1
  have x2 := X11.out.cell 2
  have x3 := X11.out.cell 3
  have x4 := X11.out.cell 4
  have x5 := X11.out.cell 5
  have y0 := Y11.out.cell 0
  have y1 := Y11.out.cell 1
  go_wp2_with fail
  refine (HCO.out a1 k1 mk _ T11.out B11.out (by omega)).mono ?_
  rintro e w12 ⟨rfl, hb12⟩
  have X12 := hid (X11.out.later hb12)
  have Y12 := hid (Y11.out.later hb12)
  have A12 := hid (A11.out.later hb12)
  have T12 := hid (T11.out.later hb12)
  have Z12 := hid (Z11.out.later hb12)
  have B12 := hid (bto B11.out hb12)
  clear hb12 X11 Y11 A11 T11 Z11 B11 x0 x1 x2 x3 x4 x5 y0 y1
  have x0 := X12.out.cell 0
  have x1 := X12.out.cell 1
  have x2 := X12.out.cell 2
  have x3 := X12.out.cell 3
  have x4 := X12.out.cell 4
  have x5 := X12.out.cell 5
  have y0 := A12.out.cell 0
  have y1 := A12.out.cell 1
  go_wp2_with fail
  refine (HCV.out a7 k7 ⟨#[]⟩ _ Z12.out B12.out hem).mono ?_
  rintro e w13 ⟨rfl, hb13⟩
  have X13 := hid (X12.out.later hb13)
  have Y13 := hid (Y12.out.later hb13)
  have A13 := hid (A12.out.later hb13)
  have T13 := hid (T12.out.later hb13)
  have Z13 := hid (Z12.out.later hb13)
  have B13 := hid (bto B12.out hb13)
  clear hb13 X12 Y12 A12 T12 Z12 B12 x0 x1 x2 x3 x4 x5 y0 y1
  have x0 := X13.out.cell 0
  have x1 := X13.out.cell 1
  have x2 := X13.out.cell 2
  have x3 := X13.out.cell 3
  have x4 := X13.out.cell 4
  have x5 := X13.out.cell 5
  have y0 := A13.out.cell 0
  have y1 := A13.out.cell 1
  go_wp2_with fail
  refine (HCV.out a7 k7 mk _ Z13.out B13.out (by omega)).mono ?_
  rintro e w14 ⟨rfl, hb14⟩
  have X14 := hid (X13.out.later hb14)
  have Y14 := hid (Y13.out.later hb14)
  have A14 := hid (A13.out.later hb14)
  have T14 := hid (T13.out.later hb14)
  have Z14 := hid (Z13.out.later hb14)
  have B14 := hid (bto B13.out hb14)
  clear hb14 X13 Y13 A13 T13 Z13 B13 x0 x1 x2 x3 x4 x5 y0 y1
  have hu1 := countOf_le c vn ts tn ⟨#[]⟩
  have hu2 := countOf_le c vn ts tn mk
  have he : (⟨#[]⟩ : ByteArray) = ByteArray.empty := rfl
  rw [← he] at hp0 hl0 hcs
  clear he
  generalize countOfV c vn vt tn ⟨#[]⟩ = Q1 at *
  generalize countOfV c vn vt tn mk = Q2 at *
  generalize countOfV c vn ts tn ⟨#[]⟩ = Q3 at *
  generalize countOfV c vn ts tn mk = Q4 at *
  obtain ⟨n2, l2⟩ := Q1
  obtain ⟨m2, o2⟩ := Q2
  obtain ⟨n1, l1⟩ := Q3
  obtain ⟨m1, o1⟩ := Q4
  simp only at hp0 hp1 hl0 hl1 hcs hu1 hu2
  subst hl0 hl1
  have g0 : ¬ (n1 < 0) := by omega
  have g1 : ¬ (m1 < 0) := by omega
  have hu1' : n1 ≤ 1000000 := by omega
  have hu2' : m1 ≤ 1000000 := by omega
  clear HDR HSA HIA HMT HCO HCV HT hu1 hu2
  rcases hcs with ⟨rfl, rfl, rfl⟩ | ⟨rfl, h1, h2, rfl, rfl⟩ | ⟨rfl, h1, rfl⟩ | ⟨rfl, h1, h2, rfl⟩
  · go_wp2
    go_ret
    exact ⟨rfl, B14.out⟩
  · go_wp2
    go_ret
    exact ⟨rfl, B14.out⟩
  · have y0 := Y14.out.cell 0
    have y1 := Y14.out.cell 1
    have z0 := A14.out.cell 0
    have z1 := A14.out.cell 1
    by_cases h3 : l2 ≤ n1
    · go_wp2_with fail
      refine (HHS.out a7 a1 k7 k1 _ Z14.out T14.out).mono ?_
      rintro e w15 ⟨rfl, hb15⟩
      go_wp2
      go_ret
      exact ⟨rfl, bto B14.out hb15⟩
    · have hts : vt.length = 10000 := by omega
      have hts' : (vt.length : Int) = 10000 := by omega
      rw [hts] at HHS
      go_wp2_with fail
      refine (HHS.out a7 a1 k7 k1 _ Z14.out T14.out).mono ?_
      rintro e w15 ⟨rfl, hb15⟩
      go_wp2
      go_ret
      exact ⟨rfl, bto B14.out hb15⟩
  · have y0 := Y14.out.cell 0
    have y1 := Y14.out.cell 1
    have z0 := A14.out.cell 0
    have z1 := A14.out.cell 1
    go_wp2_with fail
    refine (HHS.out a7 a1 k7 k1 _ Z14.out T14.out).mono ?_
    rintro e w15 ⟨rfl, hb15⟩
    go_wp2
    go_ret
    exact ⟨rfl, bto B14.out hb15⟩
end Go.Proofs.YtnbkmmmlhlbfoaaGreatDoor
