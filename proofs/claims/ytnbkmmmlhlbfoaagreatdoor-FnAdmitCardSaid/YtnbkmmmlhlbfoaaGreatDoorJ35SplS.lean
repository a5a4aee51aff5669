import Derived.Test.YtnbkmmmlhlbfoaaGreatDoorProg
import Derived.Test.YtnbkmmmlhlbfoaaGreatDoorJ11SplX
import Derived.Test.YtnbkmmmlhlbfoaaGreatDoorJ30StepE
import Derived.Test.YtnbkmmmlhlbfoaaGreatDoorJ12DrwP
import Derived.Deep.RegionLaw
import Derived.Deep.DeepCutAuto
namespace Go.Proofs.YtnbkmmmlhlbfoaaGreatDoor
open Go.RowKit
set_option maxRecDepth 100000 in
set_option maxHeartbeats 32000000 in
theorem spoilS_any (B P : Nat) (A : Nat → Prop) (bs : List Nat) (σ : CSt) (now : Int) (a : Option Addr) (cap : Nat) (ts : List TenD) (w : World) (h : CurX w B P bs σ) (hN : σ.k ≤ 3000) (hAB : ¬ A B) (hA : ∀ q, w.heap.size ≤ q → A q) (hT : TensN w A a ts) (hbk : ts.length + tensBulk ts ≤ 281200) (h0 : 0 ≤ now) (h1 : now ≤ 60)  :
    Calls Tryz.prog 37 #[.pointer (some ⟨B, 0, none⟩), .agg #[.int .i64 now, .slice a ts.length cap]] w fun e w' => SplO B P A bs (spX bs now ts σ) w e w' := by
  obtain ⟨ys, hys, hyp, hsrc⟩ := hT.toV
  have hyl : ys.length = ts.length := by rw [← hys, List.length_map]
  have HYS := hid hys
  have HYP := hid hyp
  have HSRC := hid hsrc
  have HC := hid h
  have hlt := h.lt
  have hPw := h.up.2
  clear hys hyp hsrc h hT
  have HFL : Hid ((flatV ys).length = ts.length * 4) := hid (by rw [flatV_length, hyl])
  have HYL := hid hyl
  clear hyl
  obtain ⟨ti, hti, hz0, hz1, hz2⟩ := info_parts info_tenant
  have HI := hid hti
  clear hti
  have MADE : Hid ((((w.alloc (.cells #[.int .i64 now, .slice a ts.length cap] 27)).alloc (.cells #[.int .i64 0, .slice none 0 0] 27)).alloc (.cells #[] 46)).ownsRow (w.heap.size + 1 + 1) 46 4 (.slice (some ⟨w.heap.size + 1 + 1, 0, none⟩) 0 0) 0 []) := hid (by have := World.ownsRow_made (base := (w.heap.size + 1 + 1)) (e := 46) (size := 4) ((w.alloc (.cells #[.int .i64 now, .slice a ts.length cap] 27)).alloc (.cells #[.int .i64 0, .slice none 0 0] 27)) #[] 0 (by simp) (by simp [maxLen]) (by simp); simpa using this)
  have BM : Hid (Below w.heap.size w (((w.alloc (.cells #[.int .i64 now, .slice a ts.length cap] 27)).alloc (.cells #[.int .i64 0, .slice none 0 0] 27)).alloc (.cells #[] 46))) := bto (bto (bnew _ _) (bnew _ _)) (bnew _ _)
  have SM : Hid (Blk (((w.alloc (.cells #[.int .i64 now, .slice a ts.length cap] 27)).alloc (.cells #[.int .i64 0, .slice none 0 0] 27)).alloc (.cells #[] 46)) w.heap.size #[.int .i64 now, .slice a ts.length cap] 27) := ((Blk.new _ _ _).alloc _).alloc _
  have RM : Hid (Blk (((w.alloc (.cells #[.int .i64 now, .slice a ts.length cap] 27)).alloc (.cells #[.int .i64 0, .slice none 0 0] 27)).alloc (.cells #[] 46)) (w.heap.size + 1) #[.int .i64 0, .slice none 0 0] 27) := hid (by have := ((Blk.new (w.alloc (.cells #[.int .i64 now, .slice a ts.length cap] 27)) #[.int .i64 0, .slice none 0 0] 27).alloc (.cells #[] 46)); simpa using this)
  have hMs : (((w.alloc (.cells #[.int .i64 now, .slice a ts.length cap] 27)).alloc (.cells #[.int .i64 0, .slice none 0 0] 27)).alloc (.cells #[] 46)).heap.size = w.heap.size + 1 + 1 + 1 := by simp
  have HMS := hid hMs
  clear hMs
  have hn : ts.length ≤ 281200 := by omega
  obtain ⟨V, hV⟩ : ∃ V : Int × List TenD × CSt, spX bs now ts σ = V := ⟨_, rfl⟩
  rw [hV]
  have HV := hid hV
  clear hV
  go_enter Tryz.func37, Tryz.ntmps37
  go_upto_region 2 with (at_builtin; refine wpList_append_anyS _ rfl _ _ _ rfl (w.heap.size + 1 + 1) 46 ti _ 4 72 Tryz.underlying25 HI.out hz0 hz1 hz2 rfl (by omega) (w.heap.size + 1 + 1) 0 0 [] rfl MADE.out a ts.length cap (flatV ys) rfl HFL.out (by exact HSRC.out _ BM.out) (flatV_cell _) (by simp [maxLen]; omega) (by omega) (by rw [HMS.out]; omega) ?_; intro g1 cap1 w1 hown1 hB1 hk1 hg1 hat1 hlt1; have S1 : Hid (Blk w1 w.heap.size #[.int .i64 now, .slice a ts.length cap] 27) := (hk1 _ (lt_of_block SM.out) (by omega)).trans SM.out; have R1 : Hid (Blk w1 (w.heap.size + 1) #[.int .i64 0, .slice none 0 0] 27) := (hk1 _ (lt_of_block RM.out) (by omega)).trans RM.out; have x1 := S1.out.cell 1; have f1 := S1.out.free 1; have hgx : ¬ (g1 = w.heap.size) := by omega)
  have ROW2 : Hid ((w1.setCell ⟨w.heap.size, 1, none⟩ (.slice (some ⟨g1, 0, none⟩) ts.length cap1)).ownsRow (w.heap.size + 1 + 1) 46 4 (.slice (some ⟨g1, 0, none⟩) ys.length cap1) ys.length (flatV ys)) := hid (by
    rw [Nat.zero_add, List.nil_append, ← HYL.out] at hown1
    exact row_keepM hown1 (((But.refl w.heap.size w1).setCell _ _).block g1 hlt1 hgx))
  have S2 : Hid (Blk (w1.setCell ⟨w.heap.size, 1, none⟩ (.slice (some ⟨g1, 0, none⟩) ts.length cap1)) w.heap.size #[.int .i64 now, .slice (some ⟨g1, 0, none⟩) ts.length cap1] 27) := hid (by have := S1.out.set 1 (.slice (some ⟨g1, 0, none⟩) ts.length cap1); simpa using this)
  have R2 : Hid (Blk (w1.setCell ⟨w.heap.size, 1, none⟩ (.slice (some ⟨g1, 0, none⟩) ts.length cap1)) (w.heap.size + 1) #[.int .i64 0, .slice none 0 0] 27) := (((But.refl w.heap.size w1).setCell _ _).block _ (lt_of_block R1.out) (by omega)).trans R1.out
  have B2 : Hid (Below w.heap.size w (w1.setCell ⟨w.heap.size, 1, none⟩ (.slice (some ⟨g1, 0, none⟩) ts.length cap1))) := (BM.out.trans (hB1.mono (by omega))).setCell (Nat.le_refl _) _
  clear hown1 hB1 hk1 hlt1 S1 R1 x1 f1 hgx MADE BM SM RM HMS HI hz0 hz1 hz2 HSRC HFL hat1
  generalize w1.setCell ⟨w.heap.size, 1, none⟩ (.slice (some ⟨g1, 0, none⟩) ts.length cap1) = w2 at *
  have hg2 : g1 < w2.heap.size := (row_cellM ROW2.out).2.2.1
  have H2 : Hid (CurX w2 B P bs σ ∧ But B w w2) := ⟨HC.out.later B2.out, But.of B2.out⟩
  clear HC B2 ti
  by_cases hz : ts.length = 0
  · have hz' : (ts.length : Int) = 0 := by omega
    rw [spX, if_neg (by omega)] at HV
    have HPn : Hid (∀ W, CurX W B P bs σ → Calls Tryz.prog 14 #[.pointer (some ⟨B, 0, none⟩), .int .i64 3] W fun e w' => e = .returned (.int .i64 ((pickX bs σ 3).1 : Nat)) ∧ CurX w' B P bs (pickX bs σ 3).2 ∧ But B W w') := fun W h => curPickX_any B P bs σ 3 W h (by omega) (by omega)
    have vn_lt := pickX_lt bs σ (n := 3) (by omega)
    have υn_k := pickX_k bs σ 3
    generalize pickX bs σ 3 = Rvn at *
    obtain ⟨vn, υn⟩ := Rvn
    simp only at HPn vn_lt υn_k HV
    obtain ⟨z, hz⟩ : ∃ z : Int, nowL.getD vn 0 = z := ⟨_, rfl⟩
    rw [hz] at HV
    have HZ := hid hz
    clear hz
    have u0 := S2.out.cell 0
    have u1 := S2.out.cell 1
    go_wp2_with fail
    have HR : Hid (LitI (w2.alloc (.cells (nowL.map (Value.int .i64)).toArray 3)) w2.heap.size nowL) := litI_new w2 _ _
    have HNL : Hid (nowL = [-1, 1000000000000, 1000000000001]) := hid rfl
    simp only [nowL, List.map_cons, List.map_nil] at HR
    refine (HPn.out _ (H2.out.1.later (bnew _ _))).mono ?_
    rintro e w3 ⟨rfl, hc, hb⟩
    have hcell := (HR.out.but hb (by omega)).at (j := vn) (by simpa using vn_lt)
    rw [← HNL.out, HZ.out] at hcell
    have S3 : Hid (Blk w3 w.heap.size #[.int .i64 now, .slice (some ⟨g1, 0, none⟩) ts.length cap1] 27) := (hb.block _ (by have := lt_of_block S2.out; simp; omega) (by omega)).trans (S2.out.alloc _)
    have R3 : Hid (Blk w3 (w.heap.size + 1) #[.int .i64 0, .slice none 0 0] 27) := (hb.block _ (by have := lt_of_block R2.out; simp; omega) (by omega)).trans (R2.out.alloc _)
    have ROW3 : Hid (w3.ownsRow (w.heap.size + 1 + 1) 46 4 (.slice (some ⟨g1, 0, none⟩) ys.length cap1) ys.length (flatV ys)) := row_but0 (row_later ROW2.out (bnew _ _)) hb (by omega)
    have H3 : Hid (CurX w3 B P bs υn ∧ But B w w3) := ⟨hc, (H2.out.2.later (bnew _ _)).trans hb⟩
    clear hc hb HR HNL HZ HPn H2 ROW2 S2 R2 u0 u1
    have HE := hid (spl_end0 (x := .int .i64 z) (x' := .int .i64 z) (x2 := .slice (some ⟨g1, 0, none⟩) 0 cap1) H3.out.1 H3.out.2 ROW3.out HYP.out hPw hAB hA)
    have vn' : (vn : Int) < 3 := by omega
    have s0 := S3.out.cell 0
    have s1 := S3.out.cell 1
    have f0 := S3.out.free 0
    have r0 := R3.out.cell 0
    have r1 := R3.out.cell 1
    have q0 := R3.out.free 0
    have q1 := R3.out.free 1
    go_wp2
    refine bodyPost_ret (v := .agg #[.int .i64 z, .slice (some ⟨g1, 0, none⟩) 0 cap1]) (by simp [results, Tryz.results37, go_sem, r0, r1]) rfl ?_
    rw [HYS.out] at HE
    rw [← HV.out]
    first | exact ⟨_, ⟨cap1, by first | rfl | rw [hz]⟩, HE.out⟩ | exact ⟨_, cap1, by first | rfl | rw [hz], HE.out⟩
  · have hz' : ¬ ((ts.length : Int) = 0) := by omega
    have hpos : 0 < ts.length := by omega
    rw [spX, if_pos hpos] at HV
    have HP6 : Hid (∀ W, CurX W B P bs σ → Calls Tryz.prog 14 #[.pointer (some ⟨B, 0, none⟩), .int .i64 6] W fun e w' => e = .returned (.int .i64 ((pickX bs σ 6).1 : Nat)) ∧ CurX w' B P bs (pickX bs σ 6).2 ∧ But B W w') := fun W h => curPickX_any B P bs σ 6 W h (by omega) (by omega)
    have v6_lt := pickX_lt bs σ (n := 6) (by omega)
    have υ6_k := pickX_k bs σ 6
    generalize pickX bs σ 6 = Rv6 at *
    obtain ⟨v6, υ6⟩ := Rv6
    simp only at HP6 v6_lt υ6_k HV
    have u1 := S2.out.cell 1
    have bz : ((ts.length : Int) == 0) = false := by simpa using hz'
    go_wp2_with fail
    refine (HP6.out _ H2.out.1).mono ?_
    rintro e w3 ⟨rfl, hc, hb⟩
    have S3 := hid (S2.out.butZ hb (by omega))
    have R3 := hid (R2.out.butZ hb (by omega))
    have ROW3 := hid (row_but0 ROW2.out hb (by omega))
    have H3 : Hid (CurX w3 B P bs υ6 ∧ But B w w3) := ⟨hc, H2.out.2.trans hb⟩
    have hg3 : g1 < w3.heap.size := (row_cellM ROW3.out).2.2.1
    clear hc hb HP6 H2 ROW2 S2 R2 u1 hg2
    by_cases h5 : v6 = 5
    · subst h5
      rw [if_pos rfl] at HV
      have HPn : Hid (∀ W, CurX W B P bs υ6 → Calls Tryz.prog 14 #[.pointer (some ⟨B, 0, none⟩), .int .i64 3] W fun e w' => e = .returned (.int .i64 ((pickX bs υ6 3).1 : Nat)) ∧ CurX w' B P bs (pickX bs υ6 3).2 ∧ But B W w') := fun W h => curPickX_any B P bs υ6 3 W h (by omega) (by omega)
      have vn_lt := pickX_lt bs υ6 (n := 3) (by omega)
      have υn_k := pickX_k bs υ6 3
      generalize pickX bs υ6 3 = Rvn at *
      obtain ⟨vn, υn⟩ := Rvn
      simp only at HPn vn_lt υn_k HV
      obtain ⟨z, hz⟩ : ∃ z : Int, nowL.getD vn 0 = z := ⟨_, rfl⟩
      rw [hz] at HV
      have HZ := hid hz
      clear hz
      have u0 := S3.out.cell 0
      have u1 := S3.out.cell 1
      go_wp2_with fail
      have HR : Hid (LitI (w3.alloc (.cells (nowL.map (Value.int .i64)).toArray 3)) w3.heap.size nowL) := litI_new w3 _ _
      have HNL : Hid (nowL = [-1, 1000000000000, 1000000000001]) := hid rfl
      simp only [nowL, List.map_cons, List.map_nil] at HR
      refine (HPn.out _ (H3.out.1.later (bnew _ _))).mono ?_
      rintro e w4 ⟨rfl, hc, hb⟩
      have hcell := (HR.out.but hb (by omega)).at (j := vn) (by simpa using vn_lt)
      rw [← HNL.out, HZ.out] at hcell
      have S4 : Hid (Blk w4 w.heap.size #[.int .i64 now, .slice (some ⟨g1, 0, none⟩) ts.length cap1] 27) := (hb.block _ (by have := lt_of_block S3.out; simp; omega) (by omega)).trans (S3.out.alloc _)
      have R4 : Hid (Blk w4 (w.heap.size + 1) #[.int .i64 0, .slice none 0 0] 27) := (hb.block _ (by have := lt_of_block R3.out; simp; omega) (by omega)).trans (R3.out.alloc _)
      have ROW4 : Hid (w4.ownsRow (w.heap.size + 1 + 1) 46 4 (.slice (some ⟨g1, 0, none⟩) ys.length cap1) ys.length (flatV ys)) := row_but0 (row_later ROW3.out (bnew _ _)) hb (by omega)
      have H4 : Hid (CurX w4 B P bs υn ∧ But B w w4) := ⟨hc, (H3.out.2.later (bnew _ _)).trans hb⟩
      clear hc hb HR HNL HZ HPn H3 ROW3 S3 R3 u0 u1
      have HE := hid (spl_end0 (x := .int .i64 z) (x' := .int .i64 z) (x2 := .slice (some ⟨g1, 0, none⟩) ts.length cap1) H4.out.1 H4.out.2 ROW4.out HYP.out hPw hAB hA)
      have vn' : (vn : Int) < 3 := by omega
      have s0 := S4.out.cell 0
      have s1 := S4.out.cell 1
      have f0 := S4.out.free 0
      have r0 := R4.out.cell 0
      have r1 := R4.out.cell 1
      have q0 := R4.out.free 0
      have q1 := R4.out.free 1
      go_wp2
      refine bodyPost_ret (v := .agg #[.int .i64 z, .slice (some ⟨g1, 0, none⟩) ts.length cap1]) (by simp [results, Tryz.results37, go_sem, r0, r1]) rfl ?_
      rw [HYS.out] at HE
      rw [← HV.out]
      first | exact ⟨_, ⟨cap1, by first | rfl | rw [hz]⟩, HE.out⟩ | exact ⟨_, cap1, by first | rfl | rw [hz], HE.out⟩
    · have h5' : ¬ ((v6 : Int) = 5) := by omega
      rw [if_neg h5] at HV
      unfold spTs at HV
      have HCAP := hid (row_cellM ROW3.out)
      have HPp : Hid (∀ W, CurX W B P bs υ6 → Calls Tryz.prog 14 #[.pointer (some ⟨B, 0, none⟩), .int .i64 ((ts.length : Nat) : Int)] W fun e w' => e = .returned (.int .i64 ((pickY bs υ6 ts.length).1 : Nat)) ∧ CurX w' B P bs (pickY bs υ6 ts.length).2 ∧ But B W w') := fun W h => curPickY_any B P bs υ6 ts.length W h (by omega) (by omega)
      have p_lt := pickY_lt bs υ6 (n := ts.length) (by omega)
      have υp_k := pickY_k bs υ6 ts.length
      generalize pickY bs υ6 ts.length = Rp at *
      obtain ⟨p, υp⟩ := Rp
      simp only at HPp p_lt υp_k HV
      have u1 := S3.out.cell 1
      have pI : (p : Int) < (ts.length : Nat) := by omega
      go_wp2_with fail
      refine (HPp.out _ H3.out.1).mono ?_
      rintro e w4 ⟨rfl, hc, hb⟩
      have S4 := hid (S3.out.butZ hb (by omega))
      have R4 := hid (R3.out.butZ hb (by omega))
      have ROW4 := hid (row_but0 ROW3.out hb (by omega))
      have H4 : Hid (CurX w4 B P bs υp ∧ But B w w4) := ⟨hc, H3.out.2.trans hb⟩
      have hg4 : g1 < w4.heap.size := (row_cellM ROW4.out).2.2.1
      clear hc hb HPp H3 ROW3 S3 R3 u1 hg3
      have hpy : p < ys.length := by rw [HYL.out]; exact p_lt
      obtain ⟨y, hy⟩ : ∃ y : TV, ys[p] = y := ⟨_, rfl⟩
      have hty : ts.getD p dTen = y.t := by
        rw [← HYS.out, List.getD_eq_getElem?_getD, List.getElem?_map, List.getElem?_eq_getElem hpy, hy]
        rfl
      rw [hty] at HV
      have hbt : tenBulk y.t ≤ 281200 := by have := tenBulk_getD p_lt; rw [hty] at this; omega
      obtain ⟨k0, k1, k2, k3⟩ := flatV_at ys p hpy
      rw [hy] at k0 k1 k2 k3
      have HCE := (row_cellM ROW4.out).2.2.2.2.1
      have d0 := HCE _ _ k0
      have d1 := HCE _ _ k1
      have d2 := HCE _ _ k2
      have d3 := HCE _ _ k3
      have HPY := hid (HYP.out y (by rw [← hy]; exact List.getElem_mem hpy))
      have HTY := hid hty
      have u1 := S4.out.cell 1
      clear HCE k0 k1 k2 k3 hty
      go_upto_region 8 with fail
      have T5 : Hid (Blk (w4.alloc (.cells #[.string y.t.name, .int .i64 y.t.limit, .slice y.a1 y.t.mets.length y.c1, .slice y.a2 y.t.sers.length y.c2] 46)) w4.heap.size #[.string y.t.name, .int .i64 y.t.limit, .slice y.a1 y.t.mets.length y.c1, .slice y.a2 y.t.sers.length y.c2] 46) := Blk.new _ _ _
      have S5 : Hid (Blk (w4.alloc (.cells #[.string y.t.name, .int .i64 y.t.limit, .slice y.a1 y.t.mets.length y.c1, .slice y.a2 y.t.sers.length y.c2] 46)) w.heap.size #[.int .i64 now, .slice (some ⟨g1, 0, none⟩) ts.length cap1] 27) := S4.out.alloc _
      have R5 : Hid (Blk (w4.alloc (.cells #[.string y.t.name, .int .i64 y.t.limit, .slice y.a1 y.t.mets.length y.c1, .slice y.a2 y.t.sers.length y.c2] 46)) (w.heap.size + 1) #[.int .i64 0, .slice none 0 0] 27) := R4.out.alloc _
      have ROW5 : Hid ((w4.alloc (.cells #[.string y.t.name, .int .i64 y.t.limit, .slice y.a1 y.t.mets.length y.c1, .slice y.a2 y.t.sers.length y.c2] 46)).ownsRow (w.heap.size + 1 + 1) 46 4 (.slice (some ⟨g1, 0, none⟩) ys.length cap1) ys.length (flatV ys)) := row_later ROW4.out (bnew _ _)
      have H5 : Hid (CurX (w4.alloc (.cells #[.string y.t.name, .int .i64 y.t.limit, .slice y.a1 y.t.mets.length y.c1, .slice y.a2 y.t.sers.length y.c2] 46)) B P bs υp ∧ But B w (w4.alloc (.cells #[.string y.t.name, .int .i64 y.t.limit, .slice y.a1 y.t.mets.length y.c1, .slice y.a2 y.t.sers.length y.c2] 46))) := ⟨H4.out.1.later (bnew _ _), H4.out.2.later (bnew _ _)⟩
      have hw45 : w.heap.size + 1 < w4.heap.size := lt_of_block R4.out
      have hp4 : P ≤ w4.heap.size := by omega
      have hw4 : w.heap.size ≤ w4.heap.size := by omega
      clear S4 R4 ROW4 H4 d0 d1 d2 d3 u1
      generalize (w4.alloc (.cells #[.string y.t.name, .int .i64 y.t.limit, .slice y.a1 y.t.mets.length y.c1, .slice y.a2 y.t.sers.length y.c2] 46)) = w5 at *
      obtain ⟨tm, htm, tm0, tm1, tm2⟩ := info_parts info_mlK
      have HItm := hid htm
      clear htm
      have MD5 : Hid ((w5.alloc (.cells #[] 65)).ownsRow w5.heap.size 65 2 (.slice (some ⟨w5.heap.size, 0, none⟩) 0 0) 0 []) := World.ownsRow_made (base := w5.heap.size) w5 #[] 0 (Nat.le_refl _) (by simp [maxLen]) (by simp)
      have TL5 : Hid (Blk (w5.alloc (.cells #[] 65)) w4.heap.size #[.string y.t.name, .int .i64 y.t.limit, .slice y.a1 y.t.mets.length y.c1, .slice y.a2 y.t.sers.length y.c2] 46) := T5.out.alloc _
      have SR5 : Hid (SrcAt (w5.alloc (.cells #[] 65)) y.a1 y.t.mets.length (flatK y.t.mets)) := pairsN_src (((HPY.out.1).but H5.out.2 hAB).but (B := B) (But.of (bnew _ _)) hAB)
      have hfl5 : y.t.mets.length ≤ 281200 := by unfold tenBulk at hbt; omega
      have t5 := T5.out.cell 2
      have hws5 : w4.heap.size < w5.heap.size := lt_of_block T5.out
      go_upto_region 9 with (at_builtin; refine wpList_append_anyS _ rfl _ _ _ rfl w5.heap.size 65 tm _ 2 24 Tryz.underlying43 HItm.out tm0 tm1 tm2 rfl (by omega) w5.heap.size 0 0 [] rfl MD5.out y.a1 y.t.mets.length y.c1 (flatK y.t.mets) rfl (flatK_length _) (by exact SR5.out) (flatK_cell _) (by simp [maxLen]; omega) (by omega) (by simp) ?_; intro gm cm wx hown hB hk hg hat hltx; have TX : Hid (Blk wx w4.heap.size #[.string y.t.name, .int .i64 y.t.limit, .slice y.a1 y.t.mets.length y.c1, .slice y.a2 y.t.sers.length y.c2] 46) := (hk _ (by have := lt_of_block TL5.out; omega) (by omega)).trans TL5.out; have tx := TX.out.cell 2; have fx := TX.out.free 2)
      have hgb : gm ≠ w4.heap.size := by omega
      have BX : Hid (Below w5.heap.size w5 wx) := (bnew w5 _).trans (hB.mono (Nat.le_refl _))
      have bT : But w4.heap.size wx (wx.setCell ⟨w4.heap.size, 2, none⟩ (.slice (some ⟨gm, 0, none⟩) y.t.mets.length cm)) := (But.refl w4.heap.size wx).setCell _ _
      have hkx : ∀ q, q ≠ w4.heap.size → q < w5.heap.size → (wx.setCell ⟨w4.heap.size, 2, none⟩ (.slice (some ⟨gm, 0, none⟩) y.t.mets.length cm)).heap[q]? = w5.heap[q]? := fun q h1 h2 => (bT.block q (by have := BX.out.size; omega) h1).trans (BX.out.block q h2)
      have G7 : Hid ((wx.setCell ⟨w4.heap.size, 2, none⟩ (.slice (some ⟨gm, 0, none⟩) y.t.mets.length cm)).ownsRow w5.heap.size 65 2 (.slice (some ⟨gm, 0, none⟩) y.t.mets.length cm) y.t.mets.length (flatK y.t.mets)) := hid (by rw [Nat.zero_add, List.nil_append] at hown; exact row_keepM hown (bT.block _ hltx hgb))
      have T7 : Hid (Blk (wx.setCell ⟨w4.heap.size, 2, none⟩ (.slice (some ⟨gm, 0, none⟩) y.t.mets.length cm)) w4.heap.size #[.string y.t.name, .int .i64 y.t.limit, .slice (some ⟨gm, 0, none⟩) y.t.mets.length cm, .slice y.a2 y.t.sers.length y.c2] 46) := hid (by have := TX.out.set 2 (.slice (some ⟨gm, 0, none⟩) y.t.mets.length cm); simpa using this)
      have S7 : Hid (Blk (wx.setCell ⟨w4.heap.size, 2, none⟩ (.slice (some ⟨gm, 0, none⟩) y.t.mets.length cm)) w.heap.size #[.int .i64 now, .slice (some ⟨g1, 0, none⟩) ts.length cap1] 27) := (hkx _ (by omega) (lt_of_block S5.out)).trans S5.out
      have R7 : Hid (Blk (wx.setCell ⟨w4.heap.size, 2, none⟩ (.slice (some ⟨gm, 0, none⟩) y.t.mets.length cm)) (w.heap.size + 1) #[.int .i64 0, .slice none 0 0] 27) := (hkx _ (by omega) (lt_of_block R5.out)).trans R5.out
      have ROW7 : Hid ((wx.setCell ⟨w4.heap.size, 2, none⟩ (.slice (some ⟨gm, 0, none⟩) y.t.mets.length cm)).ownsRow (w.heap.size + 1 + 1) 46 4 (.slice (some ⟨g1, 0, none⟩) ys.length cap1) ys.length (flatV ys)) := row_keepM ROW5.out (hkx _ (by omega) (by omega))
      have GM7 := G7
      have H7 : Hid (CurX (wx.setCell ⟨w4.heap.size, 2, none⟩ (.slice (some ⟨gm, 0, none⟩) y.t.mets.length cm)) B P bs υp ∧ But B w (wx.setCell ⟨w4.heap.size, 2, none⟩ (.slice (some ⟨gm, 0, none⟩) y.t.mets.length cm))) := ⟨(H5.out.1.later BX.out).below ((Below.refl _ _).setCell hp4 _), (H5.out.2.later BX.out).below_to ((Below.refl w.heap.size _).setCell hw4 _)⟩
      have hgl7 : gm < (wx.setCell ⟨w4.heap.size, 2, none⟩ (.slice (some ⟨gm, 0, none⟩) y.t.mets.length cm)).heap.size := (row_cellM G7.out).2.2.1
      have hbs7 : w5.heap.size ≤ gm := (row_cellM G7.out).2.2.2.1
      clear hown hB hk hg hat hltx TX tx fx hgb BX bT hkx MD5 TL5 SR5 t5 T5 S5 R5 ROW5 H5 HItm tm0 tm1 tm2
      generalize (wx.setCell ⟨w4.heap.size, 2, none⟩ (.slice (some ⟨gm, 0, none⟩) y.t.mets.length cm)) = w7 at *
      clear tm
      obtain ⟨tr, htr, tr0, tr1, tr2⟩ := info_parts info_srK
      have HItr := hid htr
      clear htr
      have MD7 : Hid ((w7.alloc (.cells #[] 50)).ownsRow w7.heap.size 50 2 (.slice (some ⟨w7.heap.size, 0, none⟩) 0 0) 0 []) := World.ownsRow_made (base := w7.heap.size) w7 #[] 0 (Nat.le_refl _) (by simp [maxLen]) (by simp)
      have TL7 : Hid (Blk (w7.alloc (.cells #[] 50)) w4.heap.size #[.string y.t.name, .int .i64 y.t.limit, .slice (some ⟨gm, 0, none⟩) y.t.mets.length cm, .slice y.a2 y.t.sers.length y.c2] 46) := T7.out.alloc _
      have SR7 : Hid (SrcAt (w7.alloc (.cells #[] 50)) y.a2 y.t.sers.length (flatK y.t.sers)) := pairsN_src (((HPY.out.2).but H7.out.2 hAB).but (B := B) (But.of (bnew _ _)) hAB)
      have hfl7 : y.t.sers.length ≤ 281200 := by unfold tenBulk at hbt; omega
      have t7 := T7.out.cell 3
      have hws7 : w4.heap.size < w7.heap.size := lt_of_block T7.out
      go_upto_region 10 with (at_builtin; refine wpList_append_anyS _ rfl _ _ _ rfl w7.heap.size 50 tr _ 2 24 Tryz.underlying44 HItr.out tr0 tr1 tr2 rfl (by omega) w7.heap.size 0 0 [] rfl MD7.out y.a2 y.t.sers.length y.c2 (flatK y.t.sers) rfl (flatK_length _) (by exact SR7.out) (flatK_cell _) (by simp [maxLen]; omega) (by omega) (by simp) ?_; intro gs cs wx hown hB hk hg hat hltx; have TX : Hid (Blk wx w4.heap.size #[.string y.t.name, .int .i64 y.t.limit, .slice (some ⟨gm, 0, none⟩) y.t.mets.length cm, .slice y.a2 y.t.sers.length y.c2] 46) := (hk _ (by have := lt_of_block TL7.out; omega) (by omega)).trans TL7.out; have tx := TX.out.cell 3; have fx := TX.out.free 3)
      have hgb : gs ≠ w4.heap.size := by omega
      have BX : Hid (Below w7.heap.size w7 wx) := (bnew w7 _).trans (hB.mono (Nat.le_refl _))
      have bT : But w4.heap.size wx (wx.setCell ⟨w4.heap.size, 3, none⟩ (.slice (some ⟨gs, 0, none⟩) y.t.sers.length cs)) := (But.refl w4.heap.size wx).setCell _ _
      have hkx : ∀ q, q ≠ w4.heap.size → q < w7.heap.size → (wx.setCell ⟨w4.heap.size, 3, none⟩ (.slice (some ⟨gs, 0, none⟩) y.t.sers.length cs)).heap[q]? = w7.heap[q]? := fun q h1 h2 => (bT.block q (by have := BX.out.size; omega) h1).trans (BX.out.block q h2)
      have G9 : Hid ((wx.setCell ⟨w4.heap.size, 3, none⟩ (.slice (some ⟨gs, 0, none⟩) y.t.sers.length cs)).ownsRow w7.heap.size 50 2 (.slice (some ⟨gs, 0, none⟩) y.t.sers.length cs) y.t.sers.length (flatK y.t.sers)) := hid (by rw [Nat.zero_add, List.nil_append] at hown; exact row_keepM hown (bT.block _ hltx hgb))
      have T9 : Hid (Blk (wx.setCell ⟨w4.heap.size, 3, none⟩ (.slice (some ⟨gs, 0, none⟩) y.t.sers.length cs)) w4.heap.size #[.string y.t.name, .int .i64 y.t.limit, .slice (some ⟨gm, 0, none⟩) y.t.mets.length cm, .slice (some ⟨gs, 0, none⟩) y.t.sers.length cs] 46) := hid (by have := TX.out.set 3 (.slice (some ⟨gs, 0, none⟩) y.t.sers.length cs); simpa using this)
      have S9 : Hid (Blk (wx.setCell ⟨w4.heap.size, 3, none⟩ (.slice (some ⟨gs, 0, none⟩) y.t.sers.length cs)) w.heap.size #[.int .i64 now, .slice (some ⟨g1, 0, none⟩) ts.length cap1] 27) := (hkx _ (by omega) (lt_of_block S7.out)).trans S7.out
      have R9 : Hid (Blk (wx.setCell ⟨w4.heap.size, 3, none⟩ (.slice (some ⟨gs, 0, none⟩) y.t.sers.length cs)) (w.heap.size + 1) #[.int .i64 0, .slice none 0 0] 27) := (hkx _ (by omega) (lt_of_block R7.out)).trans R7.out
      have ROW9 : Hid ((wx.setCell ⟨w4.heap.size, 3, none⟩ (.slice (some ⟨gs, 0, none⟩) y.t.sers.length cs)).ownsRow (w.heap.size + 1 + 1) 46 4 (.slice (some ⟨g1, 0, none⟩) ys.length cap1) ys.length (flatV ys)) := row_keepM ROW7.out (hkx _ (by omega) (by omega))
      have GM9 : Hid ((wx.setCell ⟨w4.heap.size, 3, none⟩ (.slice (some ⟨gs, 0, none⟩) y.t.sers.length cs)).ownsRow w5.heap.size 65 2 (.slice (some ⟨gm, 0, none⟩) y.t.mets.length cm) y.t.mets.length (flatK y.t.mets)) := row_keepM GM7.out (hkx _ (by have := (row_cellM GM7.out).2.2.2.1; omega) (row_cellM GM7.out).2.2.1)
      have H9 : Hid (CurX (wx.setCell ⟨w4.heap.size, 3, none⟩ (.slice (some ⟨gs, 0, none⟩) y.t.sers.length cs)) B P bs υp ∧ But B w (wx.setCell ⟨w4.heap.size, 3, none⟩ (.slice (some ⟨gs, 0, none⟩) y.t.sers.length cs))) := ⟨(H7.out.1.later BX.out).below ((Below.refl _ _).setCell hp4 _), (H7.out.2.later BX.out).below_to ((Below.refl w.heap.size _).setCell hw4 _)⟩
      have hgl9 : gs < (wx.setCell ⟨w4.heap.size, 3, none⟩ (.slice (some ⟨gs, 0, none⟩) y.t.sers.length cs)).heap.size := (row_cellM G9.out).2.2.1
      have hbs9 : w7.heap.size ≤ gs := (row_cellM G9.out).2.2.2.1
      clear hown hB hk hg hat hltx TX tx fx hgb BX bT hkx MD7 TL7 SR7 t7 T7 S7 R7 ROW7 H7 HItr tr0 tr1 tr2 GM7
      generalize (wx.setCell ⟨w4.heap.size, 3, none⟩ (.slice (some ⟨gs, 0, none⟩) y.t.sers.length cs)) = w9 at *
      clear tr
      have HP8 : Hid (∀ W, CurX W B P bs υp → Calls Tryz.prog 14 #[.pointer (some ⟨B, 0, none⟩), .int .i64 8] W fun e w' => e = .returned (.int .i64 ((pickX bs υp 8).1 : Nat)) ∧ CurX w' B P bs (pickX bs υp 8).2 ∧ But B W w') := fun W h => curPickX_any B P bs υp 8 W h (by omega) (by omega)
      have v8_lt := pickX_lt bs υp (n := 8) (by omega)
      have υ8_k := pickX_k bs υp 8
      generalize pickX bs υp 8 = Rv8 at *
      obtain ⟨v8, υ8⟩ := Rv8
      simp only at HP8 v8_lt υ8_k HV
      obtain ⟨VS, hVS⟩ : ∃ VS : TenD × CSt, spT bs now y.t υ8 v8 = VS := ⟨_, rfl⟩
      rw [hVS] at HV
      have HVS := hid hVS
      clear hVS
      go_wp2_with fail
      refine (HP8.out _ H9.out.1).mono ?_
      rintro e w10 ⟨rfl, hc, hb⟩
      have S10 := hid (S9.out.butZ hb (by omega))
      have R10 := hid (R9.out.butZ hb (by omega))
      have T10 := hid (T9.out.butZ hb (by omega))
      have ROW10 := hid (row_but0 ROW9.out hb (by omega))
      have GM10 := hid (row_but0 GM9.out hb (by omega))
      have G10 := hid (row_but0 G9.out hb (by omega))
      have H10 := hid (And.intro hc (H9.out.2.trans hb))
      clear hc hb HP8 H9 S9 R9 T9 ROW9 GM9 G9
      clear HPY
      have hc8 : v8 = 0 ∨ v8 = 1 ∨ v8 = 2 ∨ v8 = 3 ∨ v8 = 4 ∨ v8 = 5 ∨ v8 = 6 ∨ v8 = 7 := by omega
      rcases hc8 with rfl | rfl | rfl | rfl | rfl | rfl | rfl | rfl
      · rw [spT_0] at HVS
        have HPc : Hid (∀ W, CurX W B P bs υ8 → Calls Tryz.prog 14 #[.pointer (some ⟨B, 0, none⟩), .int .i64 5] W fun e w' => e = .returned (.int .i64 ((pickX bs υ8 5).1 : Nat)) ∧ CurX w' B P bs (pickX bs υ8 5).2 ∧ But B W w') := fun W h => curPickX_any B P bs υ8 5 W h (by omega) (by omega)
        have vc_lt := pickX_lt bs υ8 (n := 5) (by omega)
        have υc_k := pickX_k bs υ8 5
        generalize pickX bs υ8 5 = Rvc at *
        obtain ⟨vc, υc⟩ := Rvc
        simp only at HPc vc_lt υc_k HVS
        obtain ⟨nm, hnm⟩ : ∃ nm, nmsL.getD vc ⟨#[]⟩ = nm := ⟨_, rfl⟩
        rw [hnm] at HVS
        have HZ := hid hnm
        clear hnm
        have HT1 : Hid (∀ W, Calls Tryz.prog 38 #[.string ⟨#[113]⟩, .int .i64 32] W fun e w' => e = .returned (.string (timesB ⟨#[113]⟩ 32)) ∧ Below W.heap.size W w') := fun W => timesX_any ⟨#[113]⟩ 32 W (by decide) (by omega)
        have HT2 : Hid (∀ W, Calls Tryz.prog 38 #[.string ⟨#[113]⟩, .int .i64 33] W fun e w' => e = .returned (.string (timesB ⟨#[113]⟩ 33)) ∧ Below W.heap.size W w') := fun W => timesX_any ⟨#[113]⟩ 33 W (by decide) (by omega)
        have HLL : Hid (nmsL = [⟨#[]⟩, ⟨#[65]⟩, ⟨#[122, 122, 122]⟩, timesB ⟨#[113]⟩ 32, timesB ⟨#[113]⟩ 33]) := hid rfl
        generalize timesB ⟨#[113]⟩ 32 = tx1 at *
        generalize timesB ⟨#[113]⟩ 33 = tx2 at *
        go_wp2_with fail
        refine (HT1.out _).mono ?_
        rintro e w11 ⟨rfl, hb11⟩
        have hc := H10.out.1.later hb11
        have hb := But.of (g := B) hb11
        have S11 := hid (S10.out.butZ hb (by omega))
        have R11 := hid (R10.out.butZ hb (by omega))
        have T11 := hid (T10.out.butZ hb (by omega))
        have ROW11 := hid (row_but0 ROW10.out hb (by omega))
        have GM11 := hid (row_but0 GM10.out hb (by omega))
        have G11 := hid (row_but0 G10.out hb (by omega))
        have H11 := hid (And.intro hc (H10.out.2.trans hb))
        clear hc hb hb11 HT1 H10 S10 R10 T10 ROW10 GM10 G10
        go_wp2_with fail
        refine (HT2.out _).mono ?_
        rintro e w12 ⟨rfl, hb12⟩
        have hc := H11.out.1.later hb12
        have hb := But.of (g := B) hb12
        have S12 := hid (S11.out.butZ hb (by omega))
        have R12 := hid (R11.out.butZ hb (by omega))
        have T12 := hid (T11.out.butZ hb (by omega))
        have ROW12 := hid (row_but0 ROW11.out hb (by omega))
        have GM12 := hid (row_but0 GM11.out hb (by omega))
        have G12 := hid (row_but0 G11.out hb (by omega))
        have H12 := hid (And.intro hc (H11.out.2.trans hb))
        clear hc hb hb12 HT2 H11 S11 R11 T11 ROW11 GM11 G11
        go_wp2_with fail
        have HR : Hid (LitT (w12.alloc (.cells (nmsL.map (Value.string)).toArray 9)) w12.heap.size nmsL) := litT_new w12 _ _
        rw [HLL.out] at HR HZ
        simp only [List.map_cons, List.map_nil] at HR
        refine (HPc.out _ (H12.out.1.later (bnew _ _))).mono ?_
        rintro e w13 ⟨rfl, hc, hb'⟩
        have hcell := (HR.out.but hb' (by have := lt_of_block R12.out; omega)).at (j := vc) (by simpa using vc_lt)
        rw [HZ.out] at hcell
        have hb : But B w12 w13 := (But.of (bnew _ _)).trans hb'
        have S13 := hid (S12.out.butZ hb (by omega))
        have R13 := hid (R12.out.butZ hb (by omega))
        have T13 := hid (T12.out.butZ hb (by omega))
        have ROW13 := hid (row_but0 ROW12.out hb (by omega))
        have GM13 := hid (row_but0 GM12.out hb (by omega))
        have G13 := hid (row_but0 G12.out hb (by omega))
        have H13 := hid (And.intro hc (H12.out.2.trans hb))
        clear hc hb hb' HR HZ HLL HPc H12 S12 R12 T12 ROW12 GM12 G12
        have vc' : (vc : Int) < 5 := by omega
        have t0 := T13.out.cell 0
        have t1 := T13.out.cell 1
        have t2 := T13.out.cell 2
        have t3 := T13.out.cell 3
        have tf0 := T13.out.free 0
        have tf1 := T13.out.free 1
        have tf2 := T13.out.free 2
        have tf3 := T13.out.free 3
        go_upto_region 30 with fail
        refine at_world (C := fun wz => Code.wp Tryz.prog _ _ _ wz) (R := SwO B P bs w w4.heap.size w5.heap.size g1 cap1 ts.length now ys VS) ?_ ?_
        · refine swo_mk (⟨⟨nm, y.t.limit, y.t.mets, y.t.sers⟩, some ⟨gm, 0, none⟩, cm, some ⟨gs, 0, none⟩, cs⟩ : TV) (by rw [← HVS.out]) (by rw [← HVS.out]; exact H13.out.1) H13.out.2 S13.out R13.out ROW13.out hPw hg4 hw45 hws5 ?_ ?_ ?_ ?_ ?_
          · exact (Below.refl _ _).setCell hw4 _
          · exact fun q h1 h2 => ((But.refl w4.heap.size w13).setCell _ _).block q h2 (by omega)
          · (have := (T13.out).set 0 (.string nm); simpa using this)
          · exact (pairs_row GM13.out).keepC (fun q hq hl => ((But.refl w4.heap.size w13).setCell _ _).block q hl (by omega))
          · exact ((pairs_row G13.out).mono (show w5.heap.size ≤ w7.heap.size by omega)).keepC (fun q hq hl => ((But.refl w4.heap.size w13).setCell _ _).block q hl (by omega))
        · clear H13 S13 R13 T13 ROW13 GM13 G13 hcell t0 t1 t2 t3 tf0 tf1 tf2 tf3
          intro wz hsw
          obtain ⟨y2, hE, d0, d1, d2, d3, ef, t0, t1, t2, t3, s0, s1, r0, r1, q0, q1, n1, n2, n3, n4⟩ := swo_cells hsw HYP.out HYS.out HYL.out hpy (show g1 < w5.heap.size by omega) hPw hAB hA
          have HE := hid hE
          have e0 := ef (p * 4)
          have e1 := ef (p * 4 + 1)
          have e2 := ef (p * 4 + 2)
          have e3 := ef (p * 4 + 3)
          clear hsw hE ef
          go_wp2
          refine bodyPost_ret (v := .agg #[.int .i64 now, .slice (some ⟨g1, 0, none⟩) ts.length cap1]) (by simp [results, Tryz.results37, go_sem, r0, r1]) rfl ?_
          rw [← HV.out]
          first | exact ⟨_, ⟨cap1, by rw [List.length_set]⟩, HE.out⟩ | exact ⟨_, cap1, by rw [List.length_set], HE.out⟩
      · rw [spT_1] at HVS
        have HPc : Hid (∀ W, CurX W B P bs υ8 → Calls Tryz.prog 14 #[.pointer (some ⟨B, 0, none⟩), .int .i64 3] W fun e w' => e = .returned (.int .i64 ((pickX bs υ8 3).1 : Nat)) ∧ CurX w' B P bs (pickX bs υ8 3).2 ∧ But B W w') := fun W h => curPickX_any B P bs υ8 3 W h (by omega) (by omega)
        have vc_lt := pickX_lt bs υ8 (n := 3) (by omega)
        have υc_k := pickX_k bs υ8 3
        generalize pickX bs υ8 3 = Rvc at *
        obtain ⟨vc, υc⟩ := Rvc
        simp only at HPc vc_lt υc_k HVS
        obtain ⟨z, hz⟩ : ∃ z, limL.getD vc 0 = z := ⟨_, rfl⟩
        rw [hz] at HVS
        have HZ := hid hz
        clear hz
        have HLL : Hid (limL = [-2, 1000000, 1000001]) := hid rfl
        go_wp2_with fail
        have HR : Hid (LitI (w10.alloc (.cells (limL.map (Value.int .i64)).toArray 3)) w10.heap.size limL) := litI_new w10 _ _
        rw [HLL.out] at HR HZ
        simp only [List.map_cons, List.map_nil] at HR
        refine (HPc.out _ (H10.out.1.later (bnew _ _))).mono ?_
        rintro e w13 ⟨rfl, hc, hb'⟩
        have hcell := (HR.out.but hb' (by have := lt_of_block R10.out; omega)).at (j := vc) (by simpa using vc_lt)
        rw [HZ.out] at hcell
        have hb : But B w10 w13 := (But.of (bnew _ _)).trans hb'
        have S13 := hid (S10.out.butZ hb (by omega))
        have R13 := hid (R10.out.butZ hb (by omega))
        have T13 := hid (T10.out.butZ hb (by omega))
        have ROW13 := hid (row_but0 ROW10.out hb (by omega))
        have GM13 := hid (row_but0 GM10.out hb (by omega))
        have G13 := hid (row_but0 G10.out hb (by omega))
        have H13 := hid (And.intro hc (H10.out.2.trans hb))
        clear hc hb hb' HR HZ HLL HPc H10 S10 R10 T10 ROW10 GM10 G10
        have vc' : (vc : Int) < 3 := by omega
        have t0 := T13.out.cell 0
        have t1 := T13.out.cell 1
        have t2 := T13.out.cell 2
        have t3 := T13.out.cell 3
        have tf0 := T13.out.free 0
        have tf1 := T13.out.free 1
        have tf2 := T13.out.free 2
        have tf3 := T13.out.free 3
        go_upto_region 30 with fail
        refine at_world (C := fun wz => Code.wp Tryz.prog _ _ _ wz) (R := SwO B P bs w w4.heap.size w5.heap.size g1 cap1 ts.length now ys VS) ?_ ?_
        · refine swo_mk (⟨⟨y.t.name, z, y.t.mets, y.t.sers⟩, some ⟨gm, 0, none⟩, cm, some ⟨gs, 0, none⟩, cs⟩ : TV) (by rw [← HVS.out]) (by rw [← HVS.out]; exact H13.out.1) H13.out.2 S13.out R13.out ROW13.out hPw hg4 hw45 hws5 ?_ ?_ ?_ ?_ ?_
          · exact (Below.refl _ _).setCell hw4 _
          · exact fun q h1 h2 => ((But.refl w4.heap.size w13).setCell _ _).block q h2 (by omega)
          · (have := (T13.out).set 1 (.int .i64 z); simpa using this)
          · exact (pairs_row GM13.out).keepC (fun q hq hl => ((But.refl w4.heap.size w13).setCell _ _).block q hl (by omega))
          · exact ((pairs_row G13.out).mono (show w5.heap.size ≤ w7.heap.size by omega)).keepC (fun q hq hl => ((But.refl w4.heap.size w13).setCell _ _).block q hl (by omega))
        · clear H13 S13 R13 T13 ROW13 GM13 G13 hcell t0 t1 t2 t3 tf0 tf1 tf2 tf3
          intro wz hsw
          obtain ⟨y2, hE, d0, d1, d2, d3, ef, t0, t1, t2, t3, s0, s1, r0, r1, q0, q1, n1, n2, n3, n4⟩ := swo_cells hsw HYP.out HYS.out HYL.out hpy (show g1 < w5.heap.size by omega) hPw hAB hA
          have HE := hid hE
          have e0 := ef (p * 4)
          have e1 := ef (p * 4 + 1)
          have e2 := ef (p * 4 + 2)
          have e3 := ef (p * 4 + 3)
          clear hsw hE ef
          go_wp2
          refine bodyPost_ret (v := .agg #[.int .i64 now, .slice (some ⟨g1, 0, none⟩) ts.length cap1]) (by simp [results, Tryz.results37, go_sem, r0, r1]) rfl ?_
          rw [← HV.out]
          first | exact ⟨_, ⟨cap1, by rw [List.length_set]⟩, HE.out⟩ | exact ⟨_, cap1, by rw [List.length_set], HE.out⟩
      · rw [spT_2] at HVS
        have HPc : Hid (∀ W, CurX W B P bs υ8 → Calls Tryz.prog 14 #[.pointer (some ⟨B, 0, none⟩), .int .i64 4] W fun e w' => e = .returned (.int .i64 ((pickX bs υ8 4).1 : Nat)) ∧ CurX w' B P bs (pickX bs υ8 4).2 ∧ But B W w') := fun W h => curPickX_any B P bs υ8 4 W h (by omega) (by omega)
        have vc_lt := pickX_lt bs υ8 (n := 4) (by omega)
        have υc_k := pickX_k bs υ8 4
        generalize pickX bs υ8 4 = Rvc at *
        obtain ⟨vc, υc⟩ := Rvc
        simp only at HPc vc_lt υc_k HVS
        obtain ⟨m, hm⟩ : ∃ m, mtsL.getD vc ⟨#[]⟩ = m := ⟨_, rfl⟩
        rw [hm] at HVS
        have HZ := hid hm
        clear hm
        have vc' : (vc : Int) < 4 := by omega
        have HLC : Hid (∀ W : World, LitT (W.alloc (.cells #[.string ⟨#[]⟩, .string ⟨#[97]⟩, .string ⟨#[122, 122]⟩, .string ⟨#[255]⟩] 9)) W.heap.size mtsL) := fun W => litT_new W mtsL _
        have HLV : Hid (∀ (W : World) g, LitT W g mtsL → W.cell? ⟨g, vc, none⟩ = some (.string m)) := fun W g h => by
          have := h.at (j := vc) (by simpa [mtsL] using vc_lt)
          rw [HZ.out] at this
          exact this
        obtain ⟨tm, htm, tm0, tm1, tm2⟩ := info_parts info_mlK
        have HIM := hid htm
        clear htm
        have hb10 : w5.heap.size ≤ w10.heap.size := by have := (row_cellM GM10.out).2.2.1; omega
        have hml : gm < w7.heap.size := hgl7
        have t2 := T10.out.cell 2
        have t2a : (w10.alloc (.cells #[.string ⟨#[]⟩, .string ⟨#[97]⟩, .string ⟨#[122, 122]⟩, .string ⟨#[255]⟩] 9)).cell? ⟨w4.heap.size, 2, none⟩ = some (.slice (some ⟨gm, 0, none⟩) y.t.mets.length cm) := (T10.out.alloc _).cell 2
        go_upto_region 16 with fail
        go_region_law
          (first
            | ((fail_if_success (have q := hp)); (fail_if_success (have q := hp2)); refine step_enterE (f := 14) (args := #[.pointer (some ⟨B, 0, none⟩), .int .i64 4]) rfl (by go_simp) ?_; refine (HPc.out _ H10.out.1.drew).mono ?_; rintro e w11 ⟨rfl, hc, hb'⟩; have hb : But B w10 w11 := (ButDrewE (But.refl B w10)).trans hb'; have S11 := hid (S10.out.butZ hb (by omega)); have R11 := hid (R10.out.butZ hb (by omega)); have T11 := hid (T10.out.butZ hb (by omega)); have ROW11 := hid (row_but0 ROW10.out hb (by omega)); have GM11 := hid (row_but0 GM10.out hb (by omega)); have G11 := hid (row_but0 G10.out hb (by omega)); have H11 := hid (And.intro hc (H10.out.2.trans hb)); have hp : True := trivial; have t2 := T11.out.cell 2; have t2' : (w11.alloc (.cells #[.string ⟨#[]⟩, .string ⟨#[97]⟩, .string ⟨#[122, 122]⟩, .string ⟨#[255]⟩] 9)).cell? ⟨w4.heap.size, 2, none⟩ = some (.slice (some ⟨gm, 0, none⟩) y.t.mets.length cm) := (T11.out.alloc _).cell 2; have t2'' : ((w11.alloc (.cells #[.string ⟨#[]⟩, .string ⟨#[97]⟩, .string ⟨#[122, 122]⟩, .string ⟨#[255]⟩] 9)).alloc (.cells #[.string m, .int .i64 2] 65)).cell? ⟨w4.heap.size, 2, none⟩ = some (.slice (some ⟨gm, 0, none⟩) y.t.mets.length cm) := ((T11.out.alloc _).alloc _).cell 2; have hcell := HLV.out _ _ (HLC.out w11); refine ⟨_, rfl, ?_⟩)
            | ((fail_if_success (have q := hp)); (fail_if_success (have q := hp2)); refine step_enterE (f := 14) (args := #[.pointer (some ⟨B, 0, none⟩), .int .i64 4]) rfl (by go_simp) ?_; refine (HPc.out _ (H10.out.1.later (bnew w10 (.cells #[.string ⟨#[]⟩, .string ⟨#[97]⟩, .string ⟨#[122, 122]⟩, .string ⟨#[255]⟩] 9))).drew).mono ?_; rintro e w11 ⟨rfl, hc, hb'⟩; have hb2 : But B (w10.alloc (.cells #[.string ⟨#[]⟩, .string ⟨#[97]⟩, .string ⟨#[122, 122]⟩, .string ⟨#[255]⟩] 9)) w11 := (ButDrewE (But.refl B (w10.alloc (.cells #[.string ⟨#[]⟩, .string ⟨#[97]⟩, .string ⟨#[122, 122]⟩, .string ⟨#[255]⟩] 9)))).trans hb'; have hb : But B w10 w11 := (But.of (bnew _ _)).trans hb2; have S11 := hid (S10.out.butZ hb (by omega)); have R11 := hid (R10.out.butZ hb (by omega)); have T11 := hid (T10.out.butZ hb (by omega)); have ROW11 := hid (row_but0 ROW10.out hb (by omega)); have GM11 := hid (row_but0 GM10.out hb (by omega)); have G11 := hid (row_but0 G10.out hb (by omega)); have H11 := hid (And.intro hc (H10.out.2.trans hb)); have hp2 : True := trivial; have t2 := T11.out.cell 2; have t2' : (w11.alloc (.cells #[.string m, .int .i64 2] 65)).cell? ⟨w4.heap.size, 2, none⟩ = some (.slice (some ⟨gm, 0, none⟩) y.t.mets.length cm) := (T11.out.alloc _).cell 2; have hcell := HLV.out _ _ ((HLC.out w10).but hb2 (by have := lt_of_block R10.out; omega)); refine ⟨_, rfl, ?_⟩)
            | (have q := hp; clear q; refine step_append_any _ (by rfl) _ _ _ (by rfl) w5.heap.size 65 tm _ 2 24 Tryz.underlying43 HIM.out tm0 tm1 tm2 rfl (by omega) gm y.t.mets.length cm (flatK y.t.mets) (by rfl) (by exact row_later (row_later GM11.out (bnew _ _)) (bnew _ _)) (some ⟨w11.heap.size + 1, 0, none⟩) 1 1 [.string m, .int .i64 2] (by rfl) (by rfl) (by exact Or.inr ⟨_, rfl, World.news_of_block (cs := #[.string m, .int .i64 2]) (t := 65) (fr := (0, 0)) (by have := heap_alloc_new (w11.alloc (.cells #[.string ⟨#[]⟩, .string ⟨#[97]⟩, .string ⟨#[122, 122]⟩, .string ⟨#[255]⟩] 9)) (.cells #[.string m, .int .i64 2] 65); simpa using this)⟩) (by simp [Value.oneCell']) (by simp [maxLen]; omega) (by omega) (by exact (by simp; have := (row_cellM GM11.out).2.2.1; omega)) ?_; intro gx cx wx hown hB hk hg hat hltx; have hz11 : w5.heap.size ≤ w11.heap.size := (by have := (row_cellM GM11.out).2.2.1; omega); have hz0 : w.heap.size ≤ w11.heap.size := (by omega); have hz5 : w.heap.size ≤ w5.heap.size := (by omega); have hbl : Below w.heap.size w11 ((w11.alloc (.cells #[.string ⟨#[]⟩, .string ⟨#[97]⟩, .string ⟨#[122, 122]⟩, .string ⟨#[255]⟩] 9)).alloc (.cells #[.string m, .int .i64 2] 65)) := (bto (bnew w11 (.cells #[.string ⟨#[]⟩, .string ⟨#[97]⟩, .string ⟨#[122, 122]⟩, .string ⟨#[255]⟩] 9)) (bnew _ (.cells #[.string m, .int .i64 2] 65))).mono hz0; have HBX : Hid (Below w.heap.size w11 wx) := hbl.trans (hB.mono hz5); have HKX : Hid (∀ q, q ≠ gm → q < w11.heap.size → wx.heap[q]? = w11.heap[q]?) := hid (fun q (h1 : q ≠ gm) (h2 : q < w11.heap.size) => (hk q (by simp; omega) h1).trans ((bto (bnew w11 (.cells #[.string ⟨#[]⟩, .string ⟨#[97]⟩, .string ⟨#[122, 122]⟩, .string ⟨#[255]⟩] 9)) (bnew _ (.cells #[.string m, .int .i64 2] 65))).block q h2)); have TX : Hid (Blk wx w4.heap.size #[.string y.t.name, .int .i64 y.t.limit, .slice (some ⟨gm, 0, none⟩) y.t.mets.length cm, .slice (some ⟨gs, 0, none⟩) y.t.sers.length cs] 46) := (HKX.out _ (by omega) (lt_of_block T11.out)).trans T11.out; have tx := TX.out.cell 2; have fx := TX.out.free 2; have HOW := hid hown; clear hown hB hk hg hat hbl)
            | (have q := hp2; clear q; refine step_append_any _ (by rfl) _ _ _ (by rfl) w5.heap.size 65 tm _ 2 24 Tryz.underlying43 HIM.out tm0 tm1 tm2 rfl (by omega) gm y.t.mets.length cm (flatK y.t.mets) (by rfl) (by exact row_later GM11.out (bnew _ _)) (some ⟨w11.heap.size, 0, none⟩) 1 1 [.string m, .int .i64 2] (by rfl) (by rfl) (by exact Or.inr ⟨_, rfl, World.news_of_block (cs := #[.string m, .int .i64 2]) (t := 65) (fr := (0, 0)) (heap_alloc_new w11 (.cells #[.string m, .int .i64 2] 65))⟩) (by simp [Value.oneCell']) (by simp [maxLen]; omega) (by omega) (by exact (by simp; have := (row_cellM GM11.out).2.2.1; omega)) ?_; intro gx cx wx hown hB hk hg hat hltx; have hz11 : w5.heap.size ≤ w11.heap.size := (by have := (row_cellM GM11.out).2.2.1; omega); have hz0 : w.heap.size ≤ w11.heap.size := (by omega); have hz5 : w.heap.size ≤ w5.heap.size := (by omega); have hbl : Below w.heap.size w11 (w11.alloc (.cells #[.string m, .int .i64 2] 65)) := (bnew w11 (.cells #[.string m, .int .i64 2] 65)).mono hz0; have HBX : Hid (Below w.heap.size w11 wx) := hbl.trans (hB.mono hz5); have HKX : Hid (∀ q, q ≠ gm → q < w11.heap.size → wx.heap[q]? = w11.heap[q]?) := hid (fun q (h1 : q ≠ gm) (h2 : q < w11.heap.size) => (hk q (by simp; omega) h1).trans ((bnew w11 (.cells #[.string m, .int .i64 2] 65)).block q h2)); have TX : Hid (Blk wx w4.heap.size #[.string y.t.name, .int .i64 y.t.limit, .slice (some ⟨gm, 0, none⟩) y.t.mets.length cm, .slice (some ⟨gs, 0, none⟩) y.t.sers.length cs] 46) := (HKX.out _ (by omega) (lt_of_block T11.out)).trans T11.out; have tx := TX.out.cell 2; have fx := TX.out.free 2; have HOW := hid hown; clear hown hB hk hg hat hbl))
        all_goals (
          have hgx : gx ≠ w4.heap.size := by have := (row_cellM HOW.out).2.2.2.1; omega
          have HOW2 : Hid (wx.ownsRow w5.heap.size 65 2 (.slice (some ⟨gx, 0, none⟩) (y.t.mets ++ [(⟨m, 2⟩ : PairD)]).length cx) (y.t.mets ++ [(⟨m, 2⟩ : PairD)]).length (flatK (y.t.mets ++ [(⟨m, 2⟩ : PairD)]))) := hid (by
            have e1 : flatK (y.t.mets ++ [(⟨m, 2⟩ : PairD)]) = flatK y.t.mets ++ [.string m, .int .i64 2] := by rw [flatK_append]; rfl
            have e2 : (y.t.mets ++ [(⟨m, 2⟩ : PairD)]).length = y.t.mets.length + 1 := by simp
            rw [e1, e2]
            exact HOW.out)
          clear H10 S10 R10 T10 ROW10 GM10 G10 HPc
          go_upto_region 30 with fail
          refine at_world (C := fun wz => Code.wp Tryz.prog _ _ _ wz) (R := SwO B P bs w w4.heap.size w5.heap.size g1 cap1 ts.length now ys VS) ?_ ?_
          · refine swo_mk (⟨⟨y.t.name, y.t.limit, y.t.mets ++ [⟨m, 2⟩], y.t.sers⟩, some ⟨gx, 0, none⟩, cx, some ⟨gs, 0, none⟩, cs⟩ : TV) (by rw [← HVS.out]) (by rw [← HVS.out]; exact H11.out.1) H11.out.2 S11.out R11.out ROW11.out hPw hg4 hw45 hws5 ?_ ?_ ?_ ?_ ?_
            · exact HBX.out.setCell hw4 _
            · exact fun q h1 h2 => (((But.refl w4.heap.size wx).setCell _ _).block q (by have := HBX.out.size; omega) (by omega)).trans (HKX.out q (by omega) h2)
            · (have := TX.out.set 2 (.slice (some ⟨gx, 0, none⟩) (y.t.mets.length + 1) cx); simpa using this)
            · exact (pairs_row (row_keepM HOW2.out (((But.refl w4.heap.size wx).setCell _ _).block gx hltx hgx)))
            · exact ((pairs_row (row_keepM G11.out ((((But.refl w4.heap.size wx).setCell _ _).block gs (by have := HBX.out.size; have := (row_cellM G11.out).2.2.1; omega) (by omega)).trans (HKX.out gs (by omega) (row_cellM G11.out).2.2.1)))).mono (show w5.heap.size ≤ w7.heap.size by omega))
          · clear H11 S11 R11 T11 ROW11 GM11 G11 HOW HOW2 HKX HBX TX tx fx t2 hcell t2a
            intro wz hsw
            obtain ⟨y2, hE, d0, d1, d2, d3, ef, t0, t1, t2, t3, s0, s1, r0, r1, q0, q1, n1, n2, n3, n4⟩ := swo_cells hsw HYP.out HYS.out HYL.out hpy (show g1 < w5.heap.size by omega) hPw hAB hA
            have HE := hid hE
            have e0 := ef (p * 4)
            have e1 := ef (p * 4 + 1)
            have e2 := ef (p * 4 + 2)
            have e3 := ef (p * 4 + 3)
            clear hsw hE ef
            go_wp2
            refine bodyPost_ret (v := .agg #[.int .i64 now, .slice (some ⟨g1, 0, none⟩) ts.length cap1]) (by simp [results, Tryz.results37, go_sem, r0, r1]) rfl ?_
            rw [← HV.out]
            first | exact ⟨_, ⟨cap1, by rw [List.length_set]⟩, HE.out⟩ | exact ⟨_, cap1, by rw [List.length_set], HE.out⟩)
      · rw [spT_3] at HVS
        by_cases hl0 : 0 < y.t.sers.length
        · rw [if_pos hl0] at HVS
          have hl0' : (0 : Int) < (y.t.sers.length : Nat) := by omega
          have HPc : Hid (∀ W, CurX W B P bs υ8 → Calls Tryz.prog 14 #[.pointer (some ⟨B, 0, none⟩), .int .i64 ((y.t.sers.length : Nat) : Int)] W fun e w' => e = .returned (.int .i64 ((pickY bs υ8 y.t.sers.length).1 : Nat)) ∧ CurX w' B P bs (pickY bs υ8 y.t.sers.length).2 ∧ But B W w') := fun W h => curPickY_any B P bs υ8 y.t.sers.length W h (by omega) (by omega)
          have vc_lt := pickY_lt bs υ8 (n := y.t.sers.length) (by omega)
          have υc_k := pickY_k bs υ8 y.t.sers.length
          generalize pickY bs υ8 y.t.sers.length = Rvc at *
          obtain ⟨vc, υc⟩ := Rvc
          simp only at HPc vc_lt υc_k HVS
          have vcI : (vc : Int) < (y.t.sers.length : Nat) := by omega
          have hw1 : IntKind.i64.wrap (now + 1) = now + 1 := by
            simp only [IntKind.wrap, IntKind.bits, IntKind.signed]
            simp
            omega
          have t3 := T10.out.cell 3
          have s0 := S10.out.cell 0
          go_upto_region 19 with fail
          go_region_law (refine step_enterE (f := 14) (args := #[.pointer (some ⟨B, 0, none⟩), .int .i64 ((y.t.sers.length : Nat) : Int)]) rfl (by go_simp) ?_; refine (HPc.out _ H10.out.1.drew).mono ?_; rintro e w11 ⟨rfl, hc, hb'⟩; have hb : But B w10 w11 := (ButDrewE (But.refl B w10)).trans hb'; have S11 := hid (S10.out.butZ hb (by omega)); have R11 := hid (R10.out.butZ hb (by omega)); have T11 := hid (T10.out.butZ hb (by omega)); have ROW11 := hid (row_but0 ROW10.out hb (by omega)); have GM11 := hid (row_but0 GM10.out hb (by omega)); have G11 := hid (row_but0 G10.out hb (by omega)); have H11 := hid (And.intro hc (H10.out.2.trans hb)); have t3 := T11.out.cell 3; have s0 := S11.out.cell 0; have rcs := row_cellM G11.out; obtain ⟨k0, k1⟩ := flatK_at y.t.sers vc vc_lt; have d0 := rcs.2.2.2.2.1 _ _ k0; have d1 := rcs.2.2.2.2.1 _ _ k1; have df := rcs.2.2.2.2.2 (vc * 2 + 1); clear rcs k0 k1; refine ⟨_, rfl, ?_⟩)
          all_goals (
            clear H10 S10 R10 T10 ROW10 GM10 G10 HPc
            go_upto_region 30 with fail
            refine at_world (C := fun wz => Code.wp Tryz.prog _ _ _ wz) (R := SwO B P bs w w4.heap.size w5.heap.size g1 cap1 ts.length now ys VS) ?_ ?_
            · refine swo_mk (⟨⟨y.t.name, y.t.limit, y.t.mets, y.t.sers.set vc ⟨(y.t.sers.getD vc dPair).s, now + 1⟩⟩, some ⟨gm, 0, none⟩, cm, some ⟨gs, 0, none⟩, cs⟩ : TV) (by rw [← HVS.out]) (by rw [← HVS.out]; exact H11.out.1) H11.out.2 S11.out R11.out ROW11.out hPw hg4 hw45 hws5 ?_ ?_ ?_ ?_ ?_
              · exact (Below.refl _ _).setCell (show w.heap.size ≤ gs by omega) _
              · exact fun q h1 h2 => ((But.refl gs w11).setCell _ _).block q h2 (by omega)
              · (simp only [List.length_set]; exact (((But.refl gs w11).setCell _ _).block _ (lt_of_block T11.out) (by omega)).trans T11.out)
              · exact (pairs_row (row_keepM GM11.out (((But.refl gs w11).setCell _ _).block gm (row_cellM GM11.out).2.2.1 (by have := hgl7; omega))))
              · exact ((pairs_row (l := y.t.sers.set vc ⟨(y.t.sers.getD vc dPair).s, now + 1⟩) (by rw [← flatK_setN y.t.sers vc vc_lt (now + 1) dPair, List.length_set]; exact row_setM G11.out (vc * 2 + 1) (.int .i64 (now + 1)))).mono (show w5.heap.size ≤ w7.heap.size by omega))
            · clear H11 S11 R11 T11 ROW11 GM11 G11 t3 s0 d0 d1 df
              intro wz hsw
              obtain ⟨y2, hE, d0, d1, d2, d3, ef, t0, t1, t2, t3, s0, s1, r0, r1, q0, q1, n1, n2, n3, n4⟩ := swo_cells hsw HYP.out HYS.out HYL.out hpy (show g1 < w5.heap.size by omega) hPw hAB hA
              have HE := hid hE
              have e0 := ef (p * 4)
              have e1 := ef (p * 4 + 1)
              have e2 := ef (p * 4 + 2)
              have e3 := ef (p * 4 + 3)
              clear hsw hE ef
              go_wp2
              refine bodyPost_ret (v := .agg #[.int .i64 now, .slice (some ⟨g1, 0, none⟩) ts.length cap1]) (by simp [results, Tryz.results37, go_sem, r0, r1]) rfl ?_
              rw [← HV.out]
              first | exact ⟨_, ⟨cap1, by rw [List.length_set]⟩, HE.out⟩ | exact ⟨_, cap1, by rw [List.length_set], HE.out⟩)
        · rw [if_neg hl0] at HVS
          have hl0' : ¬ ((0 : Int) < (y.t.sers.length : Nat)) := by omega
          have t3 := T10.out.cell 3
          go_upto_region 30 with fail
          refine at_world (C := fun wz => Code.wp Tryz.prog _ _ _ wz) (R := SwO B P bs w w4.heap.size w5.heap.size g1 cap1 ts.length now ys VS) ?_ ?_
          · refine swo_mk (⟨y.t, some ⟨gm, 0, none⟩, cm, some ⟨gs, 0, none⟩, cs⟩ : TV) (by rw [← HVS.out]) (by rw [← HVS.out]; exact H10.out.1) H10.out.2 S10.out R10.out ROW10.out hPw hg4 hw45 hws5 ?_ ?_ ?_ ?_ ?_
            · exact Below.refl _ _
            · exact fun q h1 h2 => rfl
            · exact T10.out
            · exact pairs_row GM10.out
            · exact (pairs_row G10.out).mono (show w5.heap.size ≤ w7.heap.size by omega)
          · clear H10 S10 R10 T10 ROW10 GM10 G10 t3
            intro wz hsw
            obtain ⟨y2, hE, d0, d1, d2, d3, ef, t0, t1, t2, t3, s0, s1, r0, r1, q0, q1, n1, n2, n3, n4⟩ := swo_cells hsw HYP.out HYS.out HYL.out hpy (show g1 < w5.heap.size by omega) hPw hAB hA
            have HE := hid hE
            have e0 := ef (p * 4)
            have e1 := ef (p * 4 + 1)
            have e2 := ef (p * 4 + 2)
            have e3 := ef (p * 4 + 3)
            clear hsw hE ef
            go_wp2
            refine bodyPost_ret (v := .agg #[.int .i64 now, .slice (some ⟨g1, 0, none⟩) ts.length cap1]) (by simp [results, Tryz.results37, go_sem, r0, r1]) rfl ?_
            rw [← HV.out]
            first | exact ⟨_, ⟨cap1, by rw [List.length_set]⟩, HE.out⟩ | exact ⟨_, cap1, by rw [List.length_set], HE.out⟩
      · rw [spT_4] at HVS
        by_cases hl0 : 0 < y.t.sers.length
        · rw [if_pos hl0] at HVS
          have hl0' : (0 : Int) < (y.t.sers.length : Nat) := by omega
          have HPc : Hid (∀ W, CurX W B P bs υ8 → Calls Tryz.prog 14 #[.pointer (some ⟨B, 0, none⟩), .int .i64 ((y.t.sers.length : Nat) : Int)] W fun e w' => e = .returned (.int .i64 ((pickY bs υ8 y.t.sers.length).1 : Nat)) ∧ CurX w' B P bs (pickY bs υ8 y.t.sers.length).2 ∧ But B W w') := fun W h => curPickY_any B P bs υ8 y.t.sers.length W h (by omega) (by omega)
          have vc_lt := pickY_lt bs υ8 (n := y.t.sers.length) (by omega)
          have υc_k := pickY_k bs υ8 y.t.sers.length
          generalize pickY bs υ8 y.t.sers.length = Rvc at *
          obtain ⟨vc, υc⟩ := Rvc
          simp only at HPc vc_lt υc_k HVS
          have vcI : (vc : Int) < (y.t.sers.length : Nat) := by omega
          have t3 := T10.out.cell 3
          have s0 := S10.out.cell 0
          go_upto_region 22 with fail
          go_region_law (refine step_enterE (f := 14) (args := #[.pointer (some ⟨B, 0, none⟩), .int .i64 ((y.t.sers.length : Nat) : Int)]) rfl (by go_simp) ?_; refine (HPc.out _ H10.out.1.drew).mono ?_; rintro e w11 ⟨rfl, hc, hb'⟩; have hb : But B w10 w11 := (ButDrewE (But.refl B w10)).trans hb'; have S11 := hid (S10.out.butZ hb (by omega)); have R11 := hid (R10.out.butZ hb (by omega)); have T11 := hid (T10.out.butZ hb (by omega)); have ROW11 := hid (row_but0 ROW10.out hb (by omega)); have GM11 := hid (row_but0 GM10.out hb (by omega)); have G11 := hid (row_but0 G10.out hb (by omega)); have H11 := hid (And.intro hc (H10.out.2.trans hb)); have t3 := T11.out.cell 3; have s0 := S11.out.cell 0; have rcs := row_cellM G11.out; obtain ⟨k0, k1⟩ := flatK_at y.t.sers vc vc_lt; have d0 := rcs.2.2.2.2.1 _ _ k0; have d1 := rcs.2.2.2.2.1 _ _ k1; have df := rcs.2.2.2.2.2 (vc * 2); clear rcs k0 k1; refine ⟨_, rfl, ?_⟩)
          all_goals (
            clear H10 S10 R10 T10 ROW10 GM10 G10 HPc
            go_upto_region 30 with fail
            refine at_world (C := fun wz => Code.wp Tryz.prog _ _ _ wz) (R := SwO B P bs w w4.heap.size w5.heap.size g1 cap1 ts.length now ys VS) ?_ ?_
            · refine swo_mk (⟨⟨y.t.name, y.t.limit, y.t.mets, y.t.sers.set vc ⟨⟨#[107]⟩, (y.t.sers.getD vc dPair).n⟩⟩, some ⟨gm, 0, none⟩, cm, some ⟨gs, 0, none⟩, cs⟩ : TV) (by rw [← HVS.out]) (by rw [← HVS.out]; exact H11.out.1) H11.out.2 S11.out R11.out ROW11.out hPw hg4 hw45 hws5 ?_ ?_ ?_ ?_ ?_
              · exact (Below.refl _ _).setCell (show w.heap.size ≤ gs by omega) _
              · exact fun q h1 h2 => ((But.refl gs w11).setCell _ _).block q h2 (by omega)
              · (simp only [List.length_set]; exact (((But.refl gs w11).setCell _ _).block _ (lt_of_block T11.out) (by omega)).trans T11.out)
              · exact (pairs_row (row_keepM GM11.out (((But.refl gs w11).setCell _ _).block gm (row_cellM GM11.out).2.2.1 (by have := hgl7; omega))))
              · exact ((pairs_row (l := y.t.sers.set vc ⟨⟨#[107]⟩, (y.t.sers.getD vc dPair).n⟩) (by rw [← flatK_setS y.t.sers vc vc_lt ⟨#[107]⟩ dPair, List.length_set]; exact row_setM G11.out (vc * 2) (.string ⟨#[107]⟩))).mono (show w5.heap.size ≤ w7.heap.size by omega))
            · clear H11 S11 R11 T11 ROW11 GM11 G11 t3 s0 d0 d1 df
              intro wz hsw
              obtain ⟨y2, hE, d0, d1, d2, d3, ef, t0, t1, t2, t3, s0, s1, r0, r1, q0, q1, n1, n2, n3, n4⟩ := swo_cells hsw HYP.out HYS.out HYL.out hpy (show g1 < w5.heap.size by omega) hPw hAB hA
              have HE := hid hE
              have e0 := ef (p * 4)
              have e1 := ef (p * 4 + 1)
              have e2 := ef (p * 4 + 2)
              have e3 := ef (p * 4 + 3)
              clear hsw hE ef
              go_wp2
              refine bodyPost_ret (v := .agg #[.int .i64 now, .slice (some ⟨g1, 0, none⟩) ts.length cap1]) (by simp [results, Tryz.results37, go_sem, r0, r1]) rfl ?_
              rw [← HV.out]
              first | exact ⟨_, ⟨cap1, by rw [List.length_set]⟩, HE.out⟩ | exact ⟨_, cap1, by rw [List.length_set], HE.out⟩)
        · rw [if_neg hl0] at HVS
          have hl0' : ¬ ((0 : Int) < (y.t.sers.length : Nat)) := by omega
          have t3 := T10.out.cell 3
          go_upto_region 30 with fail
          refine at_world (C := fun wz => Code.wp Tryz.prog _ _ _ wz) (R := SwO B P bs w w4.heap.size w5.heap.size g1 cap1 ts.length now ys VS) ?_ ?_
          · refine swo_mk (⟨y.t, some ⟨gm, 0, none⟩, cm, some ⟨gs, 0, none⟩, cs⟩ : TV) (by rw [← HVS.out]) (by rw [← HVS.out]; exact H10.out.1) H10.out.2 S10.out R10.out ROW10.out hPw hg4 hw45 hws5 ?_ ?_ ?_ ?_ ?_
            · exact Below.refl _ _
            · exact fun q h1 h2 => rfl
            · exact T10.out
            · exact pairs_row GM10.out
            · exact (pairs_row G10.out).mono (show w5.heap.size ≤ w7.heap.size by omega)
          · clear H10 S10 R10 T10 ROW10 GM10 G10 t3
            intro wz hsw
            obtain ⟨y2, hE, d0, d1, d2, d3, ef, t0, t1, t2, t3, s0, s1, r0, r1, q0, q1, n1, n2, n3, n4⟩ := swo_cells hsw HYP.out HYS.out HYL.out hpy (show g1 < w5.heap.size by omega) hPw hAB hA
            have HE := hid hE
            have e0 := ef (p * 4)
            have e1 := ef (p * 4 + 1)
            have e2 := ef (p * 4 + 2)
            have e3 := ef (p * 4 + 3)
            clear hsw hE ef
            go_wp2
            refine bodyPost_ret (v := .agg #[.int .i64 now, .slice (some ⟨g1, 0, none⟩) ts.length cap1]) (by simp [results, Tryz.results37, go_sem, r0, r1]) rfl ?_
            rw [← HV.out]
            first | exact ⟨_, ⟨cap1, by rw [List.length_set]⟩, HE.out⟩ | exact ⟨_, cap1, by rw [List.length_set], HE.out⟩
      · rw [spT_5] at HVS
        obtain ⟨tr, htr, tr0, tr1, tr2⟩ := info_parts info_srK
        have HIR := hid htr
        clear htr
        have SRC : Hid (SrcAt w10 (some ⟨gs, 0, none⟩) y.t.sers.length (flatK y.t.sers)) := Or.inr ⟨_, rfl, fun j u hu => by rw [addr_add, Nat.zero_add]; exact (row_cellM G10.out).2.2.2.2.1 j u hu⟩
        have hb10 : w7.heap.size ≤ w10.heap.size := by have := (row_cellM G10.out).2.2.1; omega
        have hgm := (row_cellM GM10.out).2.2.1
        have hml : gm < w7.heap.size := hgl7
        have t3 := T10.out.cell 3
        go_upto_region 30 with (at_builtin; refine wpList_append_anyS _ rfl _ _ _ rfl w7.heap.size 50 tr _ 2 24 Tryz.underlying44 HIR.out tr0 tr1 tr2 rfl (by omega) gs y.t.sers.length cs (flatK y.t.sers) rfl G10.out (some ⟨gs, 0, none⟩) y.t.sers.length cs (flatK y.t.sers) rfl (flatK_length _) SRC.out (flatK_cell _) (by simp [maxLen]; omega) (by omega) hb10 ?_; intro g5 c5 wx hown hB hk hg hat hltx; have TX : Hid (Blk wx w4.heap.size #[.string y.t.name, .int .i64 y.t.limit, .slice (some ⟨gm, 0, none⟩) y.t.mets.length cm, .slice (some ⟨gs, 0, none⟩) y.t.sers.length cs] 46) := (hk _ (lt_of_block T10.out) (by omega)).trans T10.out; have tx := TX.out.cell 3; have fx := TX.out.free 3)
        have hn5 : g5 ≠ w4.heap.size := by omega
        have HOW := hid hown
        have HKX := hid hk
        have HBX := hid hB
        clear hown hk hB
        refine at_world (C := fun wz => Code.wp Tryz.prog _ _ _ wz) (R := SwO B P bs w w4.heap.size w5.heap.size g1 cap1 ts.length now ys VS) ?_ ?_
        · refine swo_mk (⟨⟨y.t.name, y.t.limit, y.t.mets, y.t.sers ++ y.t.sers⟩, some ⟨gm, 0, none⟩, cm, some ⟨g5, 0, none⟩, c5⟩ : TV) (by rw [← HVS.out]) (by rw [← HVS.out]; exact H10.out.1) H10.out.2 S10.out R10.out ROW10.out hPw hg4 hw45 hws5 ?_ ?_ ?_ ?_ ?_
          · exact (HBX.out.mono (by omega)).setCell hw4 _
          · exact fun q h1 h2 => (((But.refl w4.heap.size wx).setCell _ _).block q (by have := HBX.out.size; omega) (by omega)).trans (HKX.out q h2 (by omega))
          · (have := TX.out.set 3 (.slice (some ⟨g5, 0, none⟩) (y.t.sers.length + y.t.sers.length) c5); simpa using this)
          · exact (pairs_row (row_keepM GM10.out ((((But.refl w4.heap.size wx).setCell _ _).block gm (by have := HBX.out.size; omega) (by omega)).trans (HKX.out gm hgm (by omega)))))
          · exact ((pairs_row (l := y.t.sers ++ y.t.sers) (by rw [flatK_append, List.length_append]; exact row_keepM HOW.out (((But.refl w4.heap.size wx).setCell _ _).block g5 hltx hn5))).mono (show w5.heap.size ≤ w7.heap.size by omega))
        · clear H10 S10 R10 T10 ROW10 GM10 G10 HOW HKX HBX TX tx fx t3 SRC HIR tr0 tr1 tr2
          intro wz hsw
          obtain ⟨y2, hE, d0, d1, d2, d3, ef, t0, t1, t2, t3, s0, s1, r0, r1, q0, q1, n1, n2, n3, n4⟩ := swo_cells hsw HYP.out HYS.out HYL.out hpy (show g1 < w5.heap.size by omega) hPw hAB hA
          have HE := hid hE
          have e0 := ef (p * 4)
          have e1 := ef (p * 4 + 1)
          have e2 := ef (p * 4 + 2)
          have e3 := ef (p * 4 + 3)
          clear hsw hE ef
          go_wp2
          refine bodyPost_ret (v := .agg #[.int .i64 now, .slice (some ⟨g1, 0, none⟩) ts.length cap1]) (by simp [results, Tryz.results37, go_sem, r0, r1]) rfl ?_
          rw [← HV.out]
          first | exact ⟨_, ⟨cap1, by rw [List.length_set]⟩, HE.out⟩ | exact ⟨_, cap1, by rw [List.length_set], HE.out⟩
      · rw [spT_6] at HVS
        have t0 := T10.out.cell 0
        have t1 := T10.out.cell 1
        have t2 := T10.out.cell 2
        have t3 := T10.out.cell 3
        have tf0 := T10.out.free 0
        have tf1 := T10.out.free 1
        have tf2 := T10.out.free 2
        have tf3 := T10.out.free 3
        go_upto_region 30 with fail
        refine at_world (C := fun wz => Code.wp Tryz.prog _ _ _ wz) (R := SwO B P bs w w4.heap.size w5.heap.size g1 cap1 ts.length now ys VS) ?_ ?_
        · refine swo_mk (⟨⟨y.t.name, -1, [], []⟩, none, 0, none, 0⟩ : TV) (by rw [← HVS.out]) (by rw [← HVS.out]; exact H10.out.1) H10.out.2 S10.out R10.out ROW10.out hPw hg4 hw45 hws5 ?_ ?_ ?_ ?_ ?_
          · exact ((((Below.refl _ _).setCell hw4 _).setCell hw4 _).setCell hw4 _).setCell hw4 _
          · exact fun q h1 h2 => (((((But.refl w4.heap.size w10).setCell _ _).setCell _ _).setCell _ _).setCell _ _).block q h2 (by omega)
          · (have := ((((T10.out).set 0 (.string y.t.name)).set 1 (.int .i64 (-1))).set 2 (.slice none 0 0)).set 3 (.slice none 0 0); simpa using this)
          · exact Or.inl rfl
          · exact Or.inl rfl
        · clear H10 S10 R10 T10 ROW10 GM10 G10 t0 t1 t2 t3 tf0 tf1 tf2 tf3
          intro wz hsw
          obtain ⟨y2, hE, d0, d1, d2, d3, ef, t0, t1, t2, t3, s0, s1, r0, r1, q0, q1, n1, n2, n3, n4⟩ := swo_cells hsw HYP.out HYS.out HYL.out hpy (show g1 < w5.heap.size by omega) hPw hAB hA
          have HE := hid hE
          have e0 := ef (p * 4)
          have e1 := ef (p * 4 + 1)
          have e2 := ef (p * 4 + 2)
          have e3 := ef (p * 4 + 3)
          clear hsw hE ef
          go_wp2
          refine bodyPost_ret (v := .agg #[.int .i64 now, .slice (some ⟨g1, 0, none⟩) ts.length cap1]) (by simp [results, Tryz.results37, go_sem, r0, r1]) rfl ?_
          rw [← HV.out]
          first | exact ⟨_, ⟨cap1, by rw [List.length_set]⟩, HE.out⟩ | exact ⟨_, cap1, by rw [List.length_set], HE.out⟩
      · rw [spT_7] at HVS
        by_cases hl0 : 0 < y.t.sers.length
        · rw [if_pos hl0] at HVS
          have hl0' : (0 : Int) < (y.t.sers.length : Nat) := by omega
          have HPc : Hid (∀ W, CurX W B P bs υ8 → Calls Tryz.prog 14 #[.pointer (some ⟨B, 0, none⟩), .int .i64 2] W fun e w' => e = .returned (.int .i64 ((pickX bs υ8 2).1 : Nat)) ∧ CurX w' B P bs (pickX bs υ8 2).2 ∧ But B W w') := fun W h => curPickX_any B P bs υ8 2 W h (by omega) (by omega)
          have vc_lt := pickX_lt bs υ8 (n := 2) (by omega)
          have υc_k := pickX_k bs υ8 2
          generalize pickX bs υ8 2 = Rvc at *
          obtain ⟨vc, υc⟩ := Rvc
          simp only at HPc vc_lt υc_k HVS
          have hw1 : IntKind.i64.wrap (now - 8) = now - 8 := by
            simp only [IntKind.wrap, IntKind.bits, IntKind.signed]
            simp
            omega
          have hw2 : IntKind.i64.wrap (now - 8 - (vc : Int)) = now - 8 - (vc : Int) := by
            simp only [IntKind.wrap, IntKind.bits, IntKind.signed]
            simp
            omega
          have t3 := T10.out.cell 3
          have s0 := S10.out.cell 0
          go_upto_region 29 with fail
          go_region_law (refine step_enterE (f := 14) (args := #[.pointer (some ⟨B, 0, none⟩), .int .i64 2]) rfl (by go_simp) ?_; refine (HPc.out _ H10.out.1.drew).mono ?_; rintro e w11 ⟨rfl, hc, hb'⟩; have hb : But B w10 w11 := (ButDrewE (But.refl B w10)).trans hb'; have S11 := hid (S10.out.butZ hb (by omega)); have R11 := hid (R10.out.butZ hb (by omega)); have T11 := hid (T10.out.butZ hb (by omega)); have ROW11 := hid (row_but0 ROW10.out hb (by omega)); have GM11 := hid (row_but0 GM10.out hb (by omega)); have G11 := hid (row_but0 G10.out hb (by omega)); have H11 := hid (And.intro hc (H10.out.2.trans hb)); have t3 := T11.out.cell 3; have s0 := S11.out.cell 0; have rcs := row_cellM G11.out; obtain ⟨k0, k1⟩ := flatK_at y.t.sers 0 hl0; have d0 := rcs.2.2.2.2.1 _ _ k0; have d1 := rcs.2.2.2.2.1 _ _ k1; have df := rcs.2.2.2.2.2 (1); clear rcs k0 k1; refine ⟨_, rfl, ?_⟩)
          all_goals (
            clear H10 S10 R10 T10 ROW10 GM10 G10 HPc
            go_upto_region 30 with fail
            refine at_world (C := fun wz => Code.wp Tryz.prog _ _ _ wz) (R := SwO B P bs w w4.heap.size w5.heap.size g1 cap1 ts.length now ys VS) ?_ ?_
            · refine swo_mk (⟨⟨y.t.name, y.t.limit, y.t.mets, y.t.sers.set 0 ⟨(y.t.sers.getD 0 dPair).s, now - 8 - (vc : Int)⟩⟩, some ⟨gm, 0, none⟩, cm, some ⟨gs, 0, none⟩, cs⟩ : TV) (by rw [← HVS.out]) (by rw [← HVS.out]; exact H11.out.1) H11.out.2 S11.out R11.out ROW11.out hPw hg4 hw45 hws5 ?_ ?_ ?_ ?_ ?_
              · exact (Below.refl _ _).setCell (show w.heap.size ≤ gs by omega) _
              · exact fun q h1 h2 => ((But.refl gs w11).setCell _ _).block q h2 (by omega)
              · (simp only [List.length_set]; exact (((But.refl gs w11).setCell _ _).block _ (lt_of_block T11.out) (by omega)).trans T11.out)
              · exact (pairs_row (row_keepM GM11.out (((But.refl gs w11).setCell _ _).block gm (row_cellM GM11.out).2.2.1 (by have := hgl7; omega))))
              · exact ((pairs_row (l := y.t.sers.set 0 ⟨(y.t.sers.getD 0 dPair).s, now - 8 - (vc : Int)⟩) (by rw [← flatK_setN y.t.sers 0 hl0 (now - 8 - (vc : Int)) dPair, List.length_set]; exact row_setM G11.out (0 * 2 + 1) (.int .i64 (now - 8 - (vc : Int))))).mono (show w5.heap.size ≤ w7.heap.size by omega))
            · clear H11 S11 R11 T11 ROW11 GM11 G11 t3 s0 d0 d1 df
              intro wz hsw
              obtain ⟨y2, hE, d0, d1, d2, d3, ef, t0, t1, t2, t3, s0, s1, r0, r1, q0, q1, n1, n2, n3, n4⟩ := swo_cells hsw HYP.out HYS.out HYL.out hpy (show g1 < w5.heap.size by omega) hPw hAB hA
              have HE := hid hE
              have e0 := ef (p * 4)
              have e1 := ef (p * 4 + 1)
              have e2 := ef (p * 4 + 2)
              have e3 := ef (p * 4 + 3)
              clear hsw hE ef
              go_wp2
              refine bodyPost_ret (v := .agg #[.int .i64 now, .slice (some ⟨g1, 0, none⟩) ts.length cap1]) (by simp [results, Tryz.results37, go_sem, r0, r1]) rfl ?_
              rw [← HV.out]
              first | exact ⟨_, ⟨cap1, by rw [List.length_set]⟩, HE.out⟩ | exact ⟨_, cap1, by rw [List.length_set], HE.out⟩)
        · rw [if_neg hl0] at HVS
          have hl0' : ¬ ((0 : Int) < (y.t.sers.length : Nat)) := by omega
          have t3 := T10.out.cell 3
          go_upto_region 30 with fail
          refine at_world (C := fun wz => Code.wp Tryz.prog _ _ _ wz) (R := SwO B P bs w w4.heap.size w5.heap.size g1 cap1 ts.length now ys VS) ?_ ?_
          · refine swo_mk (⟨y.t, some ⟨gm, 0, none⟩, cm, some ⟨gs, 0, none⟩, cs⟩ : TV) (by rw [← HVS.out]) (by rw [← HVS.out]; exact H10.out.1) H10.out.2 S10.out R10.out ROW10.out hPw hg4 hw45 hws5 ?_ ?_ ?_ ?_ ?_
            · exact Below.refl _ _
            · exact fun q h1 h2 => rfl
            · exact T10.out
            · exact pairs_row GM10.out
            · exact (pairs_row G10.out).mono (show w5.heap.size ≤ w7.heap.size by omega)
          · clear H10 S10 R10 T10 ROW10 GM10 G10 t3
            intro wz hsw
            obtain ⟨y2, hE, d0, d1, d2, d3, ef, t0, t1, t2, t3, s0, s1, r0, r1, q0, q1, n1, n2, n3, n4⟩ := swo_cells hsw HYP.out HYS.out HYL.out hpy (show g1 < w5.heap.size by omega) hPw hAB hA
            have HE := hid hE
            have e0 := ef (p * 4)
            have e1 := ef (p * 4 + 1)
            have e2 := ef (p * 4 + 2)
            have e3 := ef (p * 4 + 3)
            clear hsw hE ef
            go_wp2
            refine bodyPost_ret (v := .agg #[.int .i64 now, .slice (some ⟨g1, 0, none⟩) ts.length cap1]) (by simp [results, Tryz.results37, go_sem, r0, r1]) rfl ?_
            rw [← HV.out]
            first | exact ⟨_, ⟨cap1, by rw [List.length_set]⟩, HE.out⟩ | exact ⟨_, cap1, by rw [List.length_set], HE.out⟩
end Go.Proofs.YtnbkmmmlhlbfoaaGreatDoor
