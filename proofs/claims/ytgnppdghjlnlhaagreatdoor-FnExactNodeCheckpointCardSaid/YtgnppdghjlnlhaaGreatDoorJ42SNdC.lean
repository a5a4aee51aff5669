import Derived.Test.YtgnppdghjlnlhaaGreatDoorProg
import Derived.Test.YtgnppdghjlnlhaaGreatDoorJ41SLogOK
import Derived.Test.YtgnppdghjlnlhaaGreatDoorJ30WLog
import Derived.Test.YtgnppdghjlnlhaaGreatDoorJ36EstF
namespace Go.Proofs.YtgnppdghjlnlhaaGreatDoor
open Go.RowKit
structure SpIn (w : World) (a b : Option Addr) (N : NodeD) : Prop where
  files : FilesIn w a N.d.fs
  len : N.d.fs.length ≤ 1048576
  tens : TensIn w b N.ts
  bulk : N.ts.length + tensBulk N.ts ≤ 1048576
  rng : RngT N.ts
  lsn : I64p N.lsn
  now : I64p N.now
def SpOut (c : CfgD) (N : NodeD) (w : World) (e : Ending) (w' : World) : Prop :=
  ∃ a' ca' b' cb', e = .returned (.tuple #[.agg #[.slice a' (ckV c N).1.d.fs.length ca', .int .i64 (ckV c N).1.d.c, .int .i64 (ckV c N).1.d.k, .int .i64 (ckV c N).1.d.cr, .int .i64 (ckV c N).1.d.fl, .bool (ckV c N).1.d.dn, .int .i64 (ckV c N).1.l.first, .int .i64 (ckV c N).1.l.last, .int .i64 (ckV c N).1.l.size, .int .i64 (ckV c N).1.now, .slice b' (ckV c N).1.ts.length cb', .int .i64 (ckV c N).1.lsn, .bool (ckV c N).1.deg, .bool (ckV c N).1.up], .int .i64 (ckV c N).2]) ∧ FilesIn w' a' (ckV c N).1.d.fs ∧ TensIn w' b' (ckV c N).1.ts ∧ Below w.heap.size w w'
theorem sp_end {c : CfgD} {N M : NodeD} {code : Int} {w w9 W : World} {a' b' : Option Addr} {ca' cb' : Nat} (E : ckV c N = (M, code)) (hf : FilesA w9 (fun x => w.heap.size + 1 + 1 < x) a' M.d.fs) (ht : TensA w9 (fun x => w.heap.size + 1 + 1 < x) b' M.ts) (hB : Below w.heap.size w w9) (hT : Turn (fun x => w.heap.size ≤ x ∧ x ≤ w.heap.size + 1 + 1) w9 W) :
    SpOut c N w (.returned (.tuple #[.agg #[.slice a' M.d.fs.length ca', .int .i64 M.d.c, .int .i64 M.d.k, .int .i64 M.d.cr, .int .i64 M.d.fl, .bool M.d.dn, .int .i64 M.l.first, .int .i64 M.l.last, .int .i64 M.l.size, .int .i64 M.now, .slice b' M.ts.length cb', .int .i64 M.lsn, .bool M.deg, .bool M.up], .int .i64 code])) W := by
  unfold SpOut
  rw [E]
  exact ⟨a', ca', b', cb', rfl, (hf.turned hT (fun x hx _ e => by omega)).files, (ht.turned hT (fun x hx _ e => by omega)).tens, hB.trans (hT.below hB.size (fun k hk e => by omega))⟩
theorem ten_fitS {ts : List TenD} (h : ts.length + tensBulk ts ≤ 1048576) : ∀ t ∈ ts, t.mets.length ≤ 2000000 ∧ t.sers.length ≤ 2000000 := fun t ht => by
  obtain ⟨i, hi, rfl⟩ := List.getElem_of_mem ht
  have h1 := tensBulk_take_succ ts i hi
  have h2 := tensBulk_take_le ts (i + 1)
  unfold tenBulk at h1
  omega
set_option maxRecDepth 100000 in
set_option maxHeartbeats 8000000 in
theorem specCk_low (c : CfgD) (a b : Option Addr) (ca cb : Nat) (N : NodeD) (w : World) (h : SpIn w a b N) (hlow : ¬ (cfgB c = true ∧ upB N = true ∧ logB N.l = true ∧ ¬ N.l.last = 999999 ∧ ¬ staB N.lsn N.now N.ts = ⟨#[]⟩)) :
    Calls Tryz.prog 5 #[cfgV c, .agg #[.slice a N.d.fs.length ca, .int .i64 N.d.c, .int .i64 N.d.k, .int .i64 N.d.cr, .int .i64 N.d.fl, .bool N.d.dn, .int .i64 N.l.first, .int .i64 N.l.last, .int .i64 N.l.size, .int .i64 N.now, .slice b N.ts.length cb, .int .i64 N.lsn, .bool N.deg, .bool N.up]] w fun e w' => SpOut c N w e w' := by
  have HCF := hid (fun W => specCfg_any c W)
  have hb := h.bulk
  have HCP := hid (fun W (hW : Below w.heap.size w W) => l5Copy_any a b ca cb N W (h.files.later hW) h.len (h.tens.later hW) (by omega) (ten_fitS h.bulk))
  obtain ⟨e1, _, _, e4⟩ := est_fit h.bulk
  have HES := hid (fun W (hW : Below w.heap.size w W) => specEst_any N.lsn N.now b cb N.ts W (h.tens.later hW) e1 h.rng h.lsn h.now (by omega) e4)
  have HLG := hid (fun W => specLogOK_any N.l W)
  have HLOW := hid hlow
  clear h hlow hb e1 e4
  unfold cfgV at HCF ⊢
  cases hc : cfgB c with
  | false =>
    have E := hid (ck_cfg (N := N) hc)
    rw [hc] at HCF
    clear hc HCP HES HLG
    go_enter Tryz.func5, Tryz.ntmps5
    go_wp2_with fail
    refine (HCF.out _).mono ?_
    rintro e w1 ⟨rfl, hb1⟩
    have B1 := hid (bto (bto (bto (bnew _ _) (bnew _ _)) (bnew _ _)) hb1)
    have R1 := (Blk.new ((w.alloc _).alloc _) _ _).later hb1
    simp only [World.size_alloc] at R1
    obtain ⟨r0, r1, r2, r3, r4, r5, r6, r7, r8, r9, r10, r11, r12, r13⟩ := R1.n14
    obtain ⟨g0, g1, g2, g3, g4, g5, g6, g7, g8, g9, g10, g11, g12, g13⟩ := R1.frees
    clear hb1 R1
    go_wp2
    exact bodyPost_ret (v := .tuple #[.agg #[.slice none 0 0, .int .i64 0, .int .i64 0, .int .i64 0, .int .i64 0, .bool false, .int .i64 0, .int .i64 0, .int .i64 0, .int .i64 0, .slice none 0 0, .int .i64 0, .bool false, .bool false], .int .i64 61]) (by simp [results, Tryz.results5, go_sem, r0, r1, r2, r3, r4, r5, r6, r7, r8, r9, r10, r11, r12, r13]) rfl (sp_end (a' := none) (b' := none) (ca' := 0) (cb' := 0) (w9 := w1) E.out (Or.inl rfl) (Or.inl rfl) B1.out (by
      repeat (with_reducible first | exact Turn.refl _ _ | refine Turn.setCell ?_ (Or.inl ⟨by omega, by omega⟩) _ _)))
  | true =>
    rw [hc] at HCF
    have HCC := hid hc
    clear hc
    go_enter Tryz.func5, Tryz.ntmps5
    go_wp2_with fail
    refine (HCF.out _).mono ?_
    rintro e w1 ⟨rfl, hb1⟩
    have B1 := hid (bto (bto (bto (bnew _ _) (bnew _ _)) (bnew _ _)) hb1)
    have P1 := hid (((Blk.new (w.alloc _) _ _).alloc _).later hb1)
    have R1 := hid ((Blk.new ((w.alloc _).alloc _) _ _).later hb1)
    have hz1 := hb1.size
    simp only [World.size_alloc] at P1 R1 hz1
    obtain ⟨o0, o1, o2, o3, o4, o5, o6, o7, o8, o9, o10, o11, o12, o13⟩ := P1.out.n14
    clear hb1 HCF
    cases hup : (N.up && !N.deg) with
    | false =>
      have E := hid (ck_up HCC.out hup)
      have hud : N.up = false ∨ N.up = true ∧ N.deg = true := by
        cases h1 : N.up with
        | false => exact Or.inl rfl
        | true => rw [h1] at hup; exact Or.inr ⟨rfl, by simpa using hup⟩
      clear hup HES HLG HLOW
      rcases hud with h1 | ⟨h1, h2⟩
      · have H1 := hid h1
        rw [h1] at o13 HCP
        clear h1
        go_wp2_with fail
        refine (HCP.out _ B1.out).mono ?_
        rintro e w9 ⟨a', ca', b', cb', rfl, hf9, ht9, hb9⟩
        have B9 := hid (bto B1.out hb9)
        have F9 := hid (hf9.mono (A' := fun x => w.heap.size + 1 + 1 < x) (fun x hx => by omega))
        have T9 := hid (ht9.mono (A' := fun x => w.heap.size + 1 + 1 < x) (fun x hx => by omega))
        obtain ⟨r0, r1, r2, r3, r4, r5, r6, r7, r8, r9, r10, r11, r12, r13⟩ := (R1.out.later hb9).n14
        obtain ⟨g0, g1, g2, g3, g4, g5, g6, g7, g8, g9, g10, g11, g12, g13⟩ := (R1.out.later hb9).frees
        clear o0 o1 o2 o3 o4 o5 o6 o7 o8 o9 o10 o11 o12 o13 HCP hf9 ht9 hb9 P1 R1 B1
        go_wp2
        exact bodyPost_ret (v := .tuple #[.agg #[.slice a' N.d.fs.length ca', .int .i64 N.d.c, .int .i64 N.d.k, .int .i64 N.d.cr, .int .i64 N.d.fl, .bool N.d.dn, .int .i64 N.l.first, .int .i64 N.l.last, .int .i64 N.l.size, .int .i64 N.now, .slice b' N.ts.length cb', .int .i64 N.lsn, .bool N.deg, .bool N.up], .int .i64 60]) (by simp [results, Tryz.results5, go_sem, r0, r1, r2, r3, r4, r5, r6, r7, r8, r9, r10, r11, r12, r13, H1.out]) rfl (sp_end (w9 := w9) E.out F9.out T9.out B9.out (by
          repeat (with_reducible first | exact Turn.refl _ _ | refine Turn.setCell ?_ (Or.inl ⟨by omega, by omega⟩) _ _)))
      · have H1 := hid h1
        have H2 := hid h2
        rw [h1] at o13
        rw [h2] at o12
        rw [h1, h2] at HCP
        clear h1 h2
        go_wp2_with fail
        refine (HCP.out _ B1.out).mono ?_
        rintro e w9 ⟨a', ca', b', cb', rfl, hf9, ht9, hb9⟩
        have B9 := hid (bto B1.out hb9)
        have F9 := hid (hf9.mono (A' := fun x => w.heap.size + 1 + 1 < x) (fun x hx => by omega))
        have T9 := hid (ht9.mono (A' := fun x => w.heap.size + 1 + 1 < x) (fun x hx => by omega))
        obtain ⟨r0, r1, r2, r3, r4, r5, r6, r7, r8, r9, r10, r11, r12, r13⟩ := (R1.out.later hb9).n14
        obtain ⟨g0, g1, g2, g3, g4, g5, g6, g7, g8, g9, g10, g11, g12, g13⟩ := (R1.out.later hb9).frees
        clear o0 o1 o2 o3 o4 o5 o6 o7 o8 o9 o10 o11 o12 o13 HCP hf9 ht9 hb9 P1 R1 B1
        go_wp2
        exact bodyPost_ret (v := .tuple #[.agg #[.slice a' N.d.fs.length ca', .int .i64 N.d.c, .int .i64 N.d.k, .int .i64 N.d.cr, .int .i64 N.d.fl, .bool N.d.dn, .int .i64 N.l.first, .int .i64 N.l.last, .int .i64 N.l.size, .int .i64 N.now, .slice b' N.ts.length cb', .int .i64 N.lsn, .bool N.deg, .bool N.up], .int .i64 60]) (by simp [results, Tryz.results5, go_sem, r0, r1, r2, r3, r4, r5, r6, r7, r8, r9, r10, r11, r12, r13, H1.out, H2.out]) rfl (sp_end (w9 := w9) E.out F9.out T9.out B9.out (by
          repeat (with_reducible first | exact Turn.refl _ _ | refine Turn.setCell ?_ (Or.inl ⟨by omega, by omega⟩) _ _)))
    | true =>
      have HUP := hid hup
      have h12 : N.up = true ∧ N.deg = false := by simpa using hup
      have H1 := hid h12.1
      have H2 := hid h12.2
      rw [h12.1] at o13
      rw [h12.2] at o12
      rw [h12.1, h12.2] at HCP
      clear hup h12
      go_wp2_with fail
      refine (HLG.out _).mono ?_
      rintro e w2 ⟨rfl, hb2⟩
      have P2 := hid (P1.out.later hb2)
      have R2 := hid (R1.out.later hb2)
      have B2 := hid (bto B1.out hb2)
      have hz2 := hb2.size
      clear hb2 P1 R1 B1 o0 o1 o2 o3 o4 o5 o6 o7 o8 o9 o10 o11 o12 o13
      obtain ⟨o0, o1, o2, o3, o4, o5, o6, o7, o8, o9, o10, o11, o12, o13⟩ := P2.out.n14
      rw [H1.out] at o13
      rw [H2.out] at o12
      clear HLG
      cases hlg : logB N.l with
      | false =>
        have E := hid (ck_log HCC.out HUP.out hlg)
        clear hlg HES HLOW
        go_wp2_with fail
        refine (HCP.out _ B2.out).mono ?_
        rintro e w9 ⟨a', ca', b', cb', rfl, hf9, ht9, hb9⟩
        have B9 := hid (bto B2.out hb9)
        have F9 := hid (hf9.mono (A' := fun x => w.heap.size + 1 + 1 < x) (fun x hx => by omega))
        have T9 := hid (ht9.mono (A' := fun x => w.heap.size + 1 + 1 < x) (fun x hx => by omega))
        obtain ⟨r0, r1, r2, r3, r4, r5, r6, r7, r8, r9, r10, r11, r12, r13⟩ := (R2.out.later hb9).n14
        obtain ⟨g0, g1, g2, g3, g4, g5, g6, g7, g8, g9, g10, g11, g12, g13⟩ := (R2.out.later hb9).frees
        clear o0 o1 o2 o3 o4 o5 o6 o7 o8 o9 o10 o11 o12 o13 HCP hf9 ht9 hb9 P2 R2 B2
        go_wp2
        exact bodyPost_ret (v := .tuple #[.agg #[.slice a' N.d.fs.length ca', .int .i64 N.d.c, .int .i64 N.d.k, .int .i64 N.d.cr, .int .i64 N.d.fl, .bool N.d.dn, .int .i64 N.l.first, .int .i64 N.l.last, .int .i64 N.l.size, .int .i64 N.now, .slice b' N.ts.length cb', .int .i64 N.lsn, .bool N.deg, .bool N.up], .int .i64 21]) (by simp [results, Tryz.results5, go_sem, r0, r1, r2, r3, r4, r5, r6, r7, r8, r9, r10, r11, r12, r13, H1.out, H2.out]) rfl (sp_end (w9 := w9) E.out F9.out T9.out B9.out (by
          repeat (with_reducible first | exact Turn.refl _ _ | refine Turn.setCell ?_ (Or.inl ⟨by omega, by omega⟩) _ _)))
      | true =>
        have HLB := hid hlg
        clear hlg
        by_cases h9 : N.l.last = 999999
        · have E := hid (ck_last HCC.out HUP.out HLB.out h9)
          have h9b : (N.l.last == 999999) = true := by rw [h9]; rfl
          clear h9 HES HLOW
          go_wp2_with fail
          refine (HCP.out _ B2.out).mono ?_
          rintro e w9 ⟨a', ca', b', cb', rfl, hf9, ht9, hb9⟩
          have B9 := hid (bto B2.out hb9)
          have F9 := hid (hf9.mono (A' := fun x => w.heap.size + 1 + 1 < x) (fun x hx => by omega))
          have T9 := hid (ht9.mono (A' := fun x => w.heap.size + 1 + 1 < x) (fun x hx => by omega))
          obtain ⟨r0, r1, r2, r3, r4, r5, r6, r7, r8, r9, r10, r11, r12, r13⟩ := (R2.out.later hb9).n14
          obtain ⟨g0, g1, g2, g3, g4, g5, g6, g7, g8, g9, g10, g11, g12, g13⟩ := (R2.out.later hb9).frees
          clear o0 o1 o2 o3 o4 o5 o6 o7 o8 o9 o10 o11 o12 o13 HCP hf9 ht9 hb9 P2 R2 B2
          go_wp2
          exact bodyPost_ret (v := .tuple #[.agg #[.slice a' N.d.fs.length ca', .int .i64 N.d.c, .int .i64 N.d.k, .int .i64 N.d.cr, .int .i64 N.d.fl, .bool N.d.dn, .int .i64 N.l.first, .int .i64 N.l.last, .int .i64 N.l.size, .int .i64 N.now, .slice b' N.ts.length cb', .int .i64 N.lsn, .bool N.deg, .bool N.up], .int .i64 23]) (by simp [results, Tryz.results5, go_sem, r0, r1, r2, r3, r4, r5, r6, r7, r8, r9, r10, r11, r12, r13, H1.out, H2.out]) rfl (sp_end (w9 := w9) E.out F9.out T9.out B9.out (by
            repeat (with_reducible first | exact Turn.refl _ _ | refine Turn.setCell ?_ (Or.inl ⟨by omega, by omega⟩) _ _)))
        · have H9 := hid h9
          have h9b : (N.l.last == 999999) = false := by simpa using h9
          clear h9
          go_wp2_with fail
          refine (HES.out _ B2.out).mono ?_
          rintro e w3 ⟨rfl, hb3⟩
          have P3 := hid (P2.out.later hb3)
          have R3 := hid (R2.out.later hb3)
          have B3 := hid (bto B2.out hb3)
          have hz3 := hb3.size
          clear hb3 P2 R2 B2 o0 o1 o2 o3 o4 o5 o6 o7 o8 o9 o10 o11 o12 o13
          obtain ⟨o0, o1, o2, o3, o4, o5, o6, o7, o8, o9, o10, o11, o12, o13⟩ := P3.out.n14
          rw [H1.out] at o13
          rw [H2.out] at o12
          have hte : staB N.lsn N.now N.ts = ⟨#[]⟩ := by
            by_cases h : staB N.lsn N.now N.ts = ⟨#[]⟩
            · exact h
            · exact absurd ⟨HCC.out, HUP.out, HLB.out, H9.out, h⟩ HLOW.out
          have E := hid (ck_text HCC.out HUP.out HLB.out H9.out hte)
          rw [hte]
          clear hte HES HLOW h9b
          go_wp2_with fail
          refine (HCP.out _ B3.out).mono ?_
          rintro e w9 ⟨a', ca', b', cb', rfl, hf9, ht9, hb9⟩
          have B9 := hid (bto B3.out hb9)
          have F9 := hid (hf9.mono (A' := fun x => w.heap.size + 1 + 1 < x) (fun x hx => by omega))
          have T9 := hid (ht9.mono (A' := fun x => w.heap.size + 1 + 1 < x) (fun x hx => by omega))
          obtain ⟨r0, r1, r2, r3, r4, r5, r6, r7, r8, r9, r10, r11, r12, r13⟩ := (R3.out.later hb9).n14
          obtain ⟨g0, g1, g2, g3, g4, g5, g6, g7, g8, g9, g10, g11, g12, g13⟩ := (R3.out.later hb9).frees
          clear o0 o1 o2 o3 o4 o5 o6 o7 o8 o9 o10 o11 o12 o13 HCP hf9 ht9 hb9 P3 R3 B3
          go_wp2
          exact bodyPost_ret (v := .tuple #[.agg #[.slice a' N.d.fs.length ca', .int .i64 N.d.c, .int .i64 N.d.k, .int .i64 N.d.cr, .int .i64 N.d.fl, .bool N.d.dn, .int .i64 N.l.first, .int .i64 N.l.last, .int .i64 N.l.size, .int .i64 N.now, .slice b' N.ts.length cb', .int .i64 N.lsn, .bool N.deg, .bool N.up], .int .i64 62]) (by simp [results, Tryz.results5, go_sem, r0, r1, r2, r3, r4, r5, r6, r7, r8, r9, r10, r11, r12, r13, H1.out, H2.out]) rfl (sp_end (w9 := w9) E.out F9.out T9.out B9.out (by
            repeat (with_reducible first | exact Turn.refl _ _ | refine Turn.setCell ?_ (Or.inl ⟨by omega, by omega⟩) _ _)))
end Go.Proofs.YtgnppdghjlnlhaaGreatDoor
