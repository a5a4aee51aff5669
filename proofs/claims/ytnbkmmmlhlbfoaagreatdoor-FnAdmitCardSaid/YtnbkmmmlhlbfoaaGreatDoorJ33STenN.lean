import Derived.Test.YtnbkmmmlhlbfoaaGreatDoorProg
import Derived.Test.YtnbkmmmlhlbfoaaGreatDoorJ11SplX
import Derived.Test.YtnbkmmmlhlbfoaaGreatDoorJ12DrwP
import Derived.Test.YtnbkmmmlhlbfoaaGreatDoorJ08DrwK
import Derived.Test.YtnbkmmmlhlbfoaaGreatDoorJ21WthL
import Derived.Test.YtnbkmmmlhlbfoaaGreatDoorJ13TenS
namespace Go.Proofs.YtnbkmmmlhlbfoaaGreatDoor
open Go.RowKit Go.Lib
def oddL : List Int := [0, 1, 2, 255, 97, 128, 5, 8]
def oddB (bs : List Nat) (σ : CSt) : ByteArray := strOfNums [oddL.getD (pickX bs σ 8).1 0]
def spTx (bs : List Nat) (s : ByteArray) (σ : CSt) : ByteArray × CSt :=
  (if (pickY bs σ (s.size + 1)).1 = s.size ∨ (pickX bs (pickX bs (pickY bs σ (s.size + 1)).2 8).2 4).1 = 0 then s.extract 0 (pickY bs σ (s.size + 1)).1 ++ oddB bs (pickY bs σ (s.size + 1)).2 ++ s.extract (pickY bs σ (s.size + 1)).1 s.size
   else if (pickX bs (pickX bs (pickY bs σ (s.size + 1)).2 8).2 4).1 = 1 then s.extract 0 (pickY bs σ (s.size + 1)).1 ++ s.extract ((pickY bs σ (s.size + 1)).1 + 1) s.size
   else if (pickX bs (pickX bs (pickY bs σ (s.size + 1)).2 8).2 4).1 = 2 then s.extract 0 (pickY bs σ (s.size + 1)).1
   else s.extract 0 (pickY bs σ (s.size + 1)).1 ++ oddB bs (pickY bs σ (s.size + 1)).2 ++ s.extract ((pickY bs σ (s.size + 1)).1 + 1) s.size,
   (pickX bs (pickX bs (pickY bs σ (s.size + 1)).2 8).2 4).2)
theorem spTx_is (bs : List Nat) (s : ByteArray) (σ : CSt) : (spTx bs s σ).1.size ≤ s.size + 1 ∧ (spTx bs s σ).2.k ≤ σ.k + 4 := by
  have h1 := pickY_k bs σ (s.size + 1)
  have h2 := pickX_k bs (pickY bs σ (s.size + 1)).2 8
  have h3 := pickX_k bs (pickX bs (pickY bs σ (s.size + 1)).2 8).2 4
  have h4 := pickY_lt bs σ (n := s.size + 1) (by omega)
  have h5 : (oddB bs (pickY bs σ (s.size + 1)).2).size = 1 := strOfNums_len _
  unfold spTx
  generalize oddB bs (pickY bs σ (s.size + 1)).2 = Z at *
  refine ⟨?_, by simp only; omega⟩
  simp only
  split
  · simp only [ByteArray.size_append, ByteArray.size_extract]
    omega
  · split
    · simp only [ByteArray.size_append, ByteArray.size_extract]
      omega
    · split
      · simp only [ByteArray.size_extract]
        omega
      · simp only [ByteArray.size_append, ByteArray.size_extract]
        omega
set_option maxRecDepth 100000 in
set_option maxHeartbeats 1000000 in
theorem spoilTxt_any (B P : Nat) (bs : List Nat) (s : ByteArray) (σ : CSt) (w : World) (h : CurX w B P bs σ) (hN : σ.k ≤ 100000) (hs : s.size ≤ 1048576) :
    Calls Tryz.prog 15 #[.pointer (some ⟨B, 0, none⟩), .string s] w fun e w' => e = .returned (.string (spTx bs s σ).1) ∧ CurX w' B P bs (spTx bs s σ).2 ∧ But B w w' := by
  have HC : Hid (CurX w B P bs σ) := h
  have hlt := h.lt
  clear h
  have HP1 : Hid (∀ W, CurX W B P bs σ → Calls Tryz.prog 14 #[.pointer (some ⟨B, 0, none⟩), .int .i64 ((s.size : Int) + 1)] W fun e w' => e = .returned (.int .i64 ((pickY bs σ (s.size + 1)).1 : Nat)) ∧ CurX w' B P bs (pickY bs σ (s.size + 1)).2 ∧ But B W w') := fun W h => curPickY_any B P bs σ (s.size + 1) W h (by omega) (by omega)
  have hv1 := pickY_lt bs σ (n := s.size + 1) (by omega)
  have hk1 := pickY_k bs σ (s.size + 1)
  unfold spTx oddB
  generalize pickY bs σ (s.size + 1) = R1 at *
  obtain ⟨p, σ1⟩ := R1
  simp only at HP1 hv1 hk1 ⊢
  have HP2 : Hid (∀ W, CurX W B P bs σ1 → Calls Tryz.prog 14 #[.pointer (some ⟨B, 0, none⟩), .int .i64 8] W fun e w' => e = .returned (.int .i64 ((pickX bs σ1 8).1 : Nat)) ∧ CurX w' B P bs (pickX bs σ1 8).2 ∧ But B W w') := fun W h => curPickX_any B P bs σ1 8 W h (by omega) (by omega)
  have hv2 := pickX_lt bs σ1 (n := 8) (by omega)
  have hk2 := pickX_k bs σ1 8
  generalize pickX bs σ1 8 = R2 at *
  obtain ⟨v2, σ2⟩ := R2
  simp only at HP2 hv2 hk2 ⊢
  have HP3 : Hid (∀ W, CurX W B P bs σ2 → Calls Tryz.prog 14 #[.pointer (some ⟨B, 0, none⟩), .int .i64 4] W fun e w' => e = .returned (.int .i64 ((pickX bs σ2 4).1 : Nat)) ∧ CurX w' B P bs (pickX bs σ2 4).2 ∧ But B W w') := fun W h => curPickX_any B P bs σ2 4 W h (by omega) (by omega)
  have hv3 := pickX_lt bs σ2 (n := 4) (by omega)
  generalize pickX bs σ2 4 = R3 at *
  obtain ⟨v3, σ3⟩ := R3
  simp only at HP3 hv3 ⊢
  obtain ⟨z, hz⟩ : ∃ z : Int, oddL.getD v2 0 = z := ⟨_, rfl⟩
  have hz0 : 0 ≤ z ∧ z ≤ 255 := by
    rw [← hz]
    have : ∀ j, j < 8 → 0 ≤ oddL.getD j 0 ∧ oddL.getD j 0 ≤ 255 := by decide
    exact this v2 hv2
  rw [hz]
  have HZ := hid hz
  clear hz
  obtain ⟨hz1, hz2⟩ := hz0
  obtain ⟨tx, htx⟩ : ∃ tx : ByteArray, strOfNums [z] = tx := ⟨_, rfl⟩
  have htx2 : tx.size ≤ 1 := by rw [← htx, strOfNums_len]; simp
  rw [htx]
  have HTX := hid htx
  clear htx
  obtain ⟨r, hr⟩ : ∃ r : ByteArray, (if p = s.size ∨ v3 = 0 then s.extract 0 p ++ tx ++ s.extract p s.size else if v3 = 1 then s.extract 0 p ++ s.extract (p + 1) s.size else if v3 = 2 then s.extract 0 p else s.extract 0 p ++ tx ++ s.extract (p + 1) s.size) = r := ⟨_, rfl⟩
  rw [hr]
  have HRR := hid hr
  clear hr
  go_enter Tryz.func15, Tryz.ntmps15
  go_wp2_with fail
  refine (HP1.out _ HC.out).mono ?_
  rintro e w1 ⟨rfl, hc1, hb1⟩
  have H1 : Hid (CurX w1 B P bs σ1 ∧ But B w w1) := ⟨hc1, hb1⟩
  have hs1 : w.heap.size ≤ w1.heap.size := hb1.size
  clear hc1 hb1 HC HP1
  go_wp2_with fail
  have HR : Hid (LitI (w1.alloc (.cells (oddL.map (Value.int .i64)).toArray 3)) w1.heap.size oddL) := litI_new w1 _ _
  have HO : Hid (oddL = [0, 1, 2, 255, 97, 128, 5, 8]) := hid rfl
  simp only [oddL, List.map_cons, List.map_nil] at HR
  refine (HP2.out _ (H1.out.1.later (bnew _ _))).mono ?_
  rintro e w2 ⟨rfl, hc2, hb2⟩
  have hcell := (HR.out.but hb2 (by omega)).at (j := v2) (by simpa using hv2)
  rw [← HO.out, HZ.out] at hcell
  have H2 : Hid (CurX w2 B P bs σ2 ∧ But B w w2) := ⟨hc2, (H1.out.2.later (bnew _ _)).trans hb2⟩
  have hs2 : w.heap.size ≤ w2.heap.size := by have := hb2.size; simp at this; omega
  clear hc2 hb2 H1 HR HP2 HZ HO
  have hv2' : (v2 : Int) < 8 := by omega
  have hcv : (convert 22 9 (.slice (some ⟨w2.heap.size, 0, none⟩) 1 1)).run Tryz.prog (w2.alloc (.cells #[.int .u8 z] 5)) = .ok (.string (strOfNums [z])) (w2.alloc (.cells #[.int .u8 z] 5)) :=
    conv_row (B := 0) (ys := [z]) ⟨by simp, .inr ⟨w2.heap.size, 1, #[.int .u8 z], rfl, Nat.zero_le _, heap_alloc_new _ _, Nat.le_refl _, by simp [maxLen], by simp, by simp⟩⟩
  rw [HTX.out] at hcv
  clear HTX
  go_wp2_with fail
  refine (HP3.out _ (H2.out.1.later (bnew _ _))).mono ?_
  rintro e w3 ⟨rfl, hc3, hb3⟩
  have H3 : Hid (CurX w3 B P bs σ3 ∧ But B w w3) := ⟨hc3, (H2.out.2.later (bnew _ _)).trans hb3⟩
  clear hc3 hb3 H2 HP3 hcv hcell
  have hx1 : (s.extract 0 p).size ≤ 1048576 := by rw [ByteArray.size_extract]; omega
  have hx2 : (s.extract p s.size).size ≤ 1048576 := by rw [ByteArray.size_extract]; omega
  have hx3 : (s.extract (p + 1) s.size).size ≤ 1048576 := by rw [ByteArray.size_extract]; omega
  have hp' : (p : Int) ≤ (s.size : Nat) := by omega
  by_cases h0 : p = s.size
  · have HE : Hid (r = s ++ tx) := by show _ = _; rw [← HRR.out, if_pos (Or.inl h0), h0]; simp
    have e1 : ((p : Int) = (s.size : Nat)) := by omega
    clear HRR
    go_wp2
    go_region
    go_wp2
    refine bodyPost_ret (v := .string r) (by simp [results, Tryz.results15, go_sem, HE.out]) rfl ?_
    exact ⟨rfl, H3.out.1.drew, H3.out.2.drewC⟩
  · have n1 : ¬ ((p : Int) = (s.size : Nat)) := by omega
    have hp2 : (p : Int) + 1 ≤ (s.size : Nat) := by omega
    by_cases h4 : v3 = 0
    · have HE : Hid (r = s.extract 0 p ++ tx ++ s.extract p s.size) := by show _ = _; rw [← HRR.out, if_pos (Or.inr h4)]
      subst h4
      clear HRR
      go_wp2
      go_region
      go_wp2
      refine bodyPost_ret (v := .string r) (by simp [results, Tryz.results15, go_sem, HE.out]) rfl ?_
      exact ⟨rfl, H3.out.1.drew, H3.out.2.drewC⟩
    · have n2 : ¬ ((v3 : Int) = 0) := by omega
      have b1 : ((p : Int) == (s.size : Nat)) = false := by simpa using n1
      have b2 : ((v3 : Int) == 0) = false := by simpa using n2
      have n3 : ¬ (p = s.size ∨ v3 = 0) := fun e => e.elim h0 h4
      by_cases h1 : v3 = 1
      · have HE : Hid (r = s.extract 0 p ++ s.extract (p + 1) s.size) := by show _ = _; rw [← HRR.out, if_neg n3, if_pos h1]
        subst h1
        clear HRR
        go_wp2
        go_region
        go_wp2
        refine bodyPost_ret (v := .string r) (by simp [results, Tryz.results15, go_sem, HE.out]) rfl ?_
        exact ⟨rfl, H3.out.1.drew, H3.out.2.drewC⟩
      · have n4 : ¬ ((v3 : Int) = 1) := by omega
        by_cases h2 : v3 = 2
        · have HE : Hid (r = s.extract 0 p) := by show _ = _; rw [← HRR.out, if_neg n3, if_neg h1, if_pos h2]
          subst h2
          clear HRR
          go_wp2
          refine bodyPost_ret (v := .string r) (by simp [results, Tryz.results15, go_sem, HE.out]) rfl ?_
          exact ⟨rfl, H3.out⟩
        · have n5 : ¬ ((v3 : Int) = 2) := by omega
          have HE : Hid (r = s.extract 0 p ++ tx ++ s.extract (p + 1) s.size) := by show _ = _; rw [← HRR.out, if_neg n3, if_neg h1, if_neg h2]
          clear HRR
          go_wp2
          go_region
          go_wp2
          refine bodyPost_ret (v := .string r) (by simp [results, Tryz.results15, go_sem, HE.out]) rfl ?_
          exact ⟨rfl, H3.out.1.drew, H3.out.2.drewC⟩
end Go.Proofs.YtnbkmmmlhlbfoaaGreatDoor
namespace Go.Proofs.YtnbkmmmlhlbfoaaGreatDoor
open Go.RowKit
theorem PairsN.later {w w' : World} {A : Nat → Prop} {a : Option Addr} {ps : List PairD} (h : PairsN w A a ps) (hb : Below w.heap.size w w') : PairsN w' A a ps := h.keep hb.size fun g _ hg => hb.block g hg
theorem TensN.at6 {w : World} {A : Nat → Prop} {a : Option Addr} {ts : List TenD} (h : TensN w A a ts) {i : Nat} (hi : i < ts.length) :
    ∃ b o a1 c1 a2 c2, a = some ⟨b, o, none⟩ ∧ b < w.heap.size ∧ w.cell? ⟨b, o + i * 4, none⟩ = some (.string ts[i].name) ∧ w.cell? ⟨b, o + i * 4 + 1, none⟩ = some (.int .i64 ts[i].limit) ∧
      w.cell? ⟨b, o + i * 4 + 2, none⟩ = some (.slice a1 ts[i].mets.length c1) ∧ w.cell? ⟨b, o + i * 4 + 3, none⟩ = some (.slice a2 ts[i].sers.length c2) ∧ PairsN w A a1 ts[i].mets ∧ PairsN w A a2 ts[i].sers := by
  rcases h with rfl | ⟨b, o, rfl, _, hlt, h⟩
  · exact absurd hi (by simp)
  · obtain ⟨a1, c1, a2, c2, h⟩ := h i hi
    exact ⟨b, o, a1, c1, a2, c2, rfl, hlt, h⟩
def TenW (w : World) (A : Nat → Prop) (e : Ending) (t : TenD) : Prop := ∃ a1 c1 a2 c2, e = .returned (.agg #[.string t.name, .int .i64 t.limit, .slice a1 t.mets.length c1, .slice a2 t.sers.length c2]) ∧ PairsN w A a1 t.mets ∧ PairsN w A a2 t.sers
set_option maxRecDepth 100000 in
set_option maxHeartbeats 2000000 in
theorem l4TenantN_any (A : Nat → Prop) (now : Int) (a : Option Addr) (cap : Nat) (ts : List TenD) (name : ByteArray) (w : World) (hf : TensN w A a ts) (hlen : ts.length ≤ 1000000000) :
    Calls Tryz.prog 13 #[.agg #[.int .i64 now, .slice a ts.length cap], .string name] w fun e w' => TenW w' A e (tenOf ts name) ∧ Below w.heap.size w w' := by
  have HF : Hid (TensN w A a ts) := hf
  have HTO : Hid (tenOf ts name = (getBy (·.name) name ts).getD ⟨name, -1, [], []⟩) := rfl
  clear hf
  go_enter Tryz.func13, Tryz.ntmps13
  go_wp2
  have R1 : Hid (Blk ((w.alloc (.cells #[.int .i64 now, .slice a ts.length cap] 27)).alloc (.cells #[.string ⟨#[]⟩, .int .i64 0, .slice none 0 0, .slice none 0 0] 46)) (w.heap.size + 1) #[.string ⟨#[]⟩, .int .i64 0, .slice none 0 0, .slice none 0 0] 46) := hid (by have := Blk.new (w.alloc (.cells #[.int .i64 now, .slice a ts.length cap] 27)) #[.string ⟨#[]⟩, .int .i64 0, .slice none 0 0, .slice none 0 0] 46; simpa using this)
  have B1 : Hid (Below w.heap.size w ((w.alloc (.cells #[.int .i64 now, .slice a ts.length cap] 27)).alloc (.cells #[.string ⟨#[]⟩, .int .i64 0, .slice none 0 0, .slice none 0 0] 46))) := bto (bnew _ _) (bnew _ _)
  generalize hW : (w.alloc (.cells #[.int .i64 now, .slice a ts.length cap] 27)).alloc (.cells #[.string ⟨#[]⟩, .int .i64 0, .slice none 0 0, .slice none 0 0] 46) = W at *
  clear hW
  go_loopw [6, 10] (fun _ i wr => ∃ k : Nat, k ≤ ts.length ∧ i = .int .i64 k ∧ Hid (∀ j (h : j < k) (h' : j < ts.length), ts[j].name ≠ name) ∧ Below W.heap.size W wr) (fun _ i _ => ts.length - (intOf i).toNat)
  case atStart => exact ⟨0, Nat.zero_le _, rfl, (fun j h => absurd h (by omega)), Below.refl _ _⟩
  case round =>
    obtain ⟨k, hk, rfl, HN, hbel⟩ := hrel
    have HB : Hid (Below W.heap.size W wr) := hbel
    have R2 : Hid (Blk wr (w.heap.size + 1) #[.string ⟨#[]⟩, .int .i64 0, .slice none 0 0, .slice none 0 0] 46) := R1.out.later hbel
    have hrl := lt_of_block R2.out
    have s0 : wr.cell? ⟨w.heap.size + 1, 0, none⟩ = some (.string ⟨#[]⟩) := R2.out.cell 0
    have s1 : wr.cell? ⟨w.heap.size + 1, 1, none⟩ = some (.int .i64 0) := R2.out.cell 1
    have s2 : wr.cell? ⟨w.heap.size + 1, 2, none⟩ = some (.slice none 0 0) := R2.out.cell 2
    have s3 : wr.cell? ⟨w.heap.size + 1, 3, none⟩ = some (.slice none 0 0) := R2.out.cell 3
    have u0 := R2.out.free 0
    have u1 := R2.out.free 1
    have u2 := R2.out.free 2
    have u3 := R2.out.free 3
    clear hbel R1
    by_cases hlt : k < ts.length
    · obtain ⟨b, o, a1, q1, a2, q2, rfl, hb, z0, z1, z2, z3, p1, p2⟩ := HF.out.at6 hlt
      have Bw : Hid (Below w.heap.size w wr) := bto B1.out HB.out
      have t0 := (Bw.out.cell hb).trans z0
      have t1 := (Bw.out.cell hb).trans z1
      have t2 := (Bw.out.cell hb).trans z2
      have t3 := (Bw.out.cell hb).trans z3
      clear z0 z1 z2 z3
      have HG : Hid (getBy (·.name) name ts = if ts[k].name = name then some ts[k] else getBy (·.name) name (ts.drop (k + 1))) := by
        show _ = _
        rw [getBy_drop k HN.out, List.drop_eq_getElem_cons hlt, getBy_cons]
      have HSUC : Hid (ts[k].name ≠ name → ∀ j (h : j < k + 1) (h' : j < ts.length), ts[j].name ≠ name) := fun hne j hj hj' => by
        by_cases e : j = k
        · subst e; exact hne
        · exact HN.out j (by omega) hj'
      have P1 : Hid (PairsN w A a1 ts[k].mets) := p1
      have P2 : Hid (PairsN w A a2 ts[k].sers) := p2
      clear p1 p2
      generalize ts[k] = T at *
      by_cases he : T.name = name
      · have hb1 : (T.name.toList == name.toList) = true := (same_iff _ _).2 he
        have HT : Hid (tenOf ts name = T) := by show _ = _; rw [HTO.out, HG.out, if_pos he]; rfl
        clear he
        go_wp2
        have HFB : Below w.heap.size w (((((wr.setCell ⟨w.heap.size + 1, 0, none⟩ (.string T.name)).setCell ⟨w.heap.size + 1, 1, none⟩ (.int .i64 T.limit)).setCell ⟨w.heap.size + 1, 2, none⟩ (.slice a1 T.mets.length q1)).setCell ⟨w.heap.size + 1, 3, none⟩ (.slice a2 T.sers.length q2)).alloc (.cells #[.string T.name, .int .i64 T.limit, .slice a1 T.mets.length q1, .slice a2 T.sers.length q2] 46)) := bto (((((Bw.out.setCell (by simp) _).setCell (by simp) _).setCell (by simp) _).setCell (by simp) _)) (bnew _ _)
        refine bodyPost_ret (v := .agg #[.string T.name, .int .i64 T.limit, .slice a1 T.mets.length q1, .slice a2 T.sers.length q2]) (by simp [results, Tryz.results13, go_sem, s0, s1, s2, s3, hrl]) rfl ⟨?_, HFB⟩
        rw [HT.out]
        exact ⟨a1, q1, a2, q2, rfl, P1.out.later HFB, P2.out.later HFB⟩
      · have hb1 : (T.name.toList == name.toList) = false := same_not he
        have HN2 : Hid (∀ j (h : j < k + 1) (h' : j < ts.length), ts[j].name ≠ name) := HSUC.out he
        clear he
        go_wp2
        exact ⟨⟨k + 1, by omega, by go_num, HN2, bto HB.out (bnew _ _)⟩, by simp [intOf]; omega⟩
    · have HT : Hid (tenOf ts name = ⟨name, -1, [], []⟩) := by
        show _ = _
        rw [HTO.out, getBy_drop k HN.out, List.drop_of_length_le (by omega)]
        rfl
      have Bw : Hid (Below w.heap.size w wr) := bto B1.out HB.out
      go_wp2
      refine bodyPost_ret (v := .agg #[.string name, .int .i64 (-1), .slice none 0 0, .slice none 0 0]) (by simp [results, Tryz.results13, go_sem, s0, s1, s2, s3]) rfl ⟨?_, (((((Bw.out.setCell (by simp) _).setCell (by simp) _).setCell (by simp) _).setCell (by simp) _))⟩
      rw [HT.out]
      exact ⟨none, 0, none, 0, rfl, Or.inl rfl, Or.inl rfl⟩
end Go.Proofs.YtnbkmmmlhlbfoaaGreatDoor
