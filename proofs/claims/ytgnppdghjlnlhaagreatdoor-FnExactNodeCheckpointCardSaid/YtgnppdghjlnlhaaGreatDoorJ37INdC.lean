import Derived.Test.YtgnppdghjlnlhaaGreatDoorProg
import Derived.Test.YtgnppdghjlnlhaaGreatDoorJ29Win
import Derived.Test.YtgnppdghjlnlhaaGreatDoorJ30WLog
import Derived.Test.YtgnppdghjlnlhaaGreatDoorJ31Jn
import Derived.Test.YtgnppdghjlnlhaaGreatDoorJ33SS8
import Derived.Test.YtgnppdghjlnlhaaGreatDoorJ36EstF
import Derived.Test.YtgnppdghjlnlhaaGreatDoorJ09Dv
import Derived.Test.YtgnppdghjlnlhaaGreatDoorJ05Cells
import Derived.Deep.Cut
namespace Go.Proofs.YtgnppdghjlnlhaaGreatDoor
open Go.RowKit
theorem at_put14 {C : World → Prop} {w : World} {O : Nat} {v0 v1 v2 v3 v4 v5 v6 v7 v8 v9 va vb vc vd u0 u1 u2 u3 u4 u5 u6 u7 u8 u9 ua ub uc ud : Value} {t : TypeId} (h : Blk w O #[v0, v1, v2, v3, v4, v5, v6, v7, v8, v9, va, vb, vc, vd] t)
    (k : ∀ w2, Blk w2 O #[u0, u1, u2, u3, u4, u5, u6, u7, u8, u9, ua, ub, uc, ud] t → Turn (· = O) w w2 → C w2) : C ((((((((((((((w.setCell ⟨O, 0, none⟩ u0).setCell ⟨O, 1, none⟩ u1).setCell ⟨O, 2, none⟩ u2).setCell ⟨O, 3, none⟩ u3).setCell ⟨O, 4, none⟩ u4).setCell ⟨O, 5, none⟩ u5).setCell ⟨O, 6, none⟩ u6).setCell ⟨O, 7, none⟩ u7).setCell ⟨O, 8, none⟩ u8).setCell ⟨O, 9, none⟩ u9).setCell ⟨O, 10, none⟩ ua).setCell ⟨O, 11, none⟩ ub).setCell ⟨O, 12, none⟩ uc).setCell ⟨O, 13, none⟩ ud) :=
  k _ (by have := ((((((((((((((h.set 0 u0).set 1 u1).set 2 u2).set 3 u3).set 4 u4).set 5 u5).set 6 u6).set 7 u7).set 8 u8).set 9 u9).set 10 ua).set 11 ub).set 12 uc).set 13 ud); simpa using this) (((((((((((((((Turn.refl (· = O) w).setCell (Or.inl rfl) 0 u0).setCell (Or.inl rfl) 1 u1).setCell (Or.inl rfl) 2 u2).setCell (Or.inl rfl) 3 u3).setCell (Or.inl rfl) 4 u4).setCell (Or.inl rfl) 5 u5).setCell (Or.inl rfl) 6 u6).setCell (Or.inl rfl) 7 u7).setCell (Or.inl rfl) 8 u8).setCell (Or.inl rfl) 9 u9).setCell (Or.inl rfl) 10 ua).setCell (Or.inl rfl) 11 ub).setCell (Or.inl rfl) 12 uc).setCell (Or.inl rfl) 13 ud)
theorem at_put9 {C : World → Prop} {w : World} {O : Nat} {v0 v1 v2 v3 v4 v5 v6 v7 v8 v9 va vb vc vd u0 u1 u2 u3 u4 u5 u6 u7 u8 : Value} {t : TypeId} (h : Blk w O #[v0, v1, v2, v3, v4, v5, v6, v7, v8, v9, va, vb, vc, vd] t)
    (k : ∀ w2, Blk w2 O #[u0, u1, u2, u3, u4, u5, u6, u7, u8, v9, va, vb, vc, vd] t → Turn (· = O) w w2 → C w2) : C (((((((((w.setCell ⟨O, 0, none⟩ u0).setCell ⟨O, 1, none⟩ u1).setCell ⟨O, 2, none⟩ u2).setCell ⟨O, 3, none⟩ u3).setCell ⟨O, 4, none⟩ u4).setCell ⟨O, 5, none⟩ u5).setCell ⟨O, 6, none⟩ u6).setCell ⟨O, 7, none⟩ u7).setCell ⟨O, 8, none⟩ u8) :=
  k _ (by have := (((((((((h.set 0 u0).set 1 u1).set 2 u2).set 3 u3).set 4 u4).set 5 u5).set 6 u6).set 7 u7).set 8 u8); simpa using this) ((((((((((Turn.refl (· = O) w).setCell (Or.inl rfl) 0 u0).setCell (Or.inl rfl) 1 u1).setCell (Or.inl rfl) 2 u2).setCell (Or.inl rfl) 3 u3).setCell (Or.inl rfl) 4 u4).setCell (Or.inl rfl) 5 u5).setCell (Or.inl rfl) 6 u6).setCell (Or.inl rfl) 7 u7).setCell (Or.inl rfl) 8 u8)
structure CkIn (w : World) (a b : Option Addr) (N : NodeD) : Prop where
  files : FilesIn w a N.d.fs
  short : Short N.d.fs
  len : N.d.fs.length ≤ 1048576
  sum : sumLen N.d.fs ≤ 1000000000
  tens : TensIn w b N.ts
  bulk : N.ts.length + tensBulk N.ts ≤ 1048576
  rng : RngT N.ts
  lsn : I64p N.lsn
  now : I64p N.now
def CkOut (c : CfgD) (N : NodeD) (w : World) (e : Ending) (w' : World) : Prop :=
  ∃ a' ca' b' cb', e = .returned (.tuple #[.agg #[.slice a' (ckV c N).1.d.fs.length ca', .int .i64 (ckV c N).1.d.c, .int .i64 (ckV c N).1.d.k, .int .i64 (ckV c N).1.d.cr, .int .i64 (ckV c N).1.d.fl, .bool (ckV c N).1.d.dn, .int .i64 (ckV c N).1.l.first, .int .i64 (ckV c N).1.l.last, .int .i64 (ckV c N).1.l.size, .int .i64 (ckV c N).1.now, .slice b' (ckV c N).1.ts.length cb', .int .i64 (ckV c N).1.lsn, .bool (ckV c N).1.deg, .bool (ckV c N).1.up], .int .i64 (ckV c N).2]) ∧ NodeA w' (fun x => w.heap.size ≤ x ∧ x < w'.heap.size) a' b' (ckV c N).1 ∧ Below w.heap.size w w'
theorem ten_fit {ts : List TenD} (h : ts.length + tensBulk ts ≤ 1048576) : ∀ t ∈ ts, t.mets.length ≤ 2000000 ∧ t.sers.length ≤ 2000000 := fun t ht => by
  obtain ⟨i, hi, rfl⟩ := List.getElem_of_mem ht
  have h1 := tensBulk_take_succ ts i hi
  have h2 := tensBulk_take_le ts (i + 1)
  unfold tenBulk at h1
  omega
theorem ck_end {c : CfgD} {N M : NodeD} {code : Int} {w w9 W : World} {a' b' : Option Addr} {ca' cb' H : Nat} (E : ckV c N = (M, code)) (hA : NodeA w9 (fun x => w.heap.size + 1 + 1 < x ∧ x < H) a' b' M) (hH : H ≤ w9.heap.size) (hB : Below w.heap.size w w9) (hT : Turn (fun x => w.heap.size ≤ x ∧ x ≤ w.heap.size + 1 + 1) w9 W) :
    CkOut c N w (.returned (.tuple #[.agg #[.slice a' M.d.fs.length ca', .int .i64 M.d.c, .int .i64 M.d.k, .int .i64 M.d.cr, .int .i64 M.d.fl, .bool M.d.dn, .int .i64 M.l.first, .int .i64 M.l.last, .int .i64 M.l.size, .int .i64 M.now, .slice b' M.ts.length cb', .int .i64 M.lsn, .bool M.deg, .bool M.up], .int .i64 code])) W := by
  unfold CkOut
  rw [E]
  have hz := hT.size
  exact ⟨a', ca', b', cb', rfl, (hA.turned hT (fun x hx _ e => by omega)).mono (fun x hx => by omega), hB.trans (hT.below hB.size (fun k hk e => by omega))⟩
theorem NodeA.disk {w : World} {A F : Nat → Prop} {a b a2 : Option Addr} {N M : NodeD} (h : NodeA w A a b N) (hf : FilesA w F a2 M.d.fs) (ht : M.ts = N.ts) (hd : ∀ x, F x → ¬ A x) : NodeA w (fun x => A x ∨ F x) a2 b M := by
  obtain ⟨F1, T, h1, h2, h3, h4, h5⟩ := h.parts
  exact ⟨F, T, hf, by rw [ht]; exact h2, fun x hx => Or.inr hx, fun x hx => Or.inl (h4 x hx), fun x hx h => hd x hx (h4 x h)⟩
set_option maxRecDepth 100000 in
set_option maxHeartbeats 8000000 in
theorem implCk_low (c : CfgD) (a b : Option Addr) (ca cb : Nat) (N : NodeD) (w : World) (h : CkIn w a b N) (hlow : ¬ (cfgB c = true ∧ upB N = true ∧ logB N.l = true ∧ ¬ N.l.last = 999999 ∧ ¬ staB N.lsn N.now N.ts = ⟨#[]⟩ ∧ diskB N.d.fs N.d.c N.d.k N.d.cr N.d.fl = true)) :
    Calls Tryz.prog 8 #[cfgV c, .agg #[.slice a N.d.fs.length ca, .int .i64 N.d.c, .int .i64 N.d.k, .int .i64 N.d.cr, .int .i64 N.d.fl, .bool N.d.dn, .int .i64 N.l.first, .int .i64 N.l.last, .int .i64 N.l.size, .int .i64 N.now, .slice b N.ts.length cb, .int .i64 N.lsn, .bool N.deg, .bool N.up]] w fun e w' => CkOut c N w e w' := by
  have HCF := hid (fun W => implCfg_any c W)
  have hb := h.bulk
  have HCP := hid (fun W (hW : Below w.heap.size w W) => copyNode_any a b ca cb N W (h.files.later hW) h.len (h.tens.later hW) (by omega) (ten_fit h.bulk))
  obtain ⟨e1, _, _, e4⟩ := est_fit h.bulk
  have HES := hid (fun W b' cb' (hW : TensIn W b' N.ts) => implEst_any N.lsn N.now b' cb' N.ts W hW e1 (by omega) e4)
  have HLG := hid (fun W => isLog_any N.l W)
  have HDV := hid (fun W a' ca' (hW : FilesIn W a' N.d.fs) => implValid_any a' ca' N.d.fs N.d.c N.d.k N.d.cr N.d.fl N.d.dn W hW h.short (by have := h.len; unfold maxLen; omega) h.sum)
  have HLOW := hid hlow
  clear h hlow hb e1 e4
  unfold cfgV at HCF ⊢
  cases hc : cfgB c with
  | false =>
    have E := hid (ck_cfg (N := N) hc)
    rw [hc] at HCF
    clear hc HCP HES HLG HDV
    go_enter Tryz.func8, Tryz.ntmps8
    go_wp2_with fail
    refine (HCF.out _).mono ?_
    rintro e w1 ⟨rfl, hb1⟩
    have B1 := hid (bto (bto (bto (bnew _ _) (bnew _ _)) (bnew _ _)) hb1)
    have R1 := (Blk.new ((w.alloc _).alloc _) _ _).later hb1
    simp only [World.size_alloc] at R1
    obtain ⟨r0, r1, r2, r3, r4, r5, r6, r7, r8, r9, r10, r11, r12, r13⟩ := R1.n14
    obtain ⟨g0, g1, g2, g3, g4, g5, g6, g7, g8, g9, g10, g11, g12, g13⟩ := R1.frees
    clear hb1 R1
    go_wp2
    refine bodyPost_ret (v := .tuple #[.agg #[.slice none 0 0, .int .i64 0, .int .i64 0, .int .i64 0, .int .i64 0, .bool false, .int .i64 0, .int .i64 0, .int .i64 0, .int .i64 0, .slice none 0 0, .int .i64 0, .bool false, .bool false], .int .i64 61]) (by simp [results, Tryz.results8, go_sem, r0, r1, r2, r3, r4, r5, r6, r7, r8, r9, r10, r11, r12, r13]) rfl (ck_end (a' := none) (b' := none) (ca' := 0) (cb' := 0) (w9 := w1) (H := 0) E.out ⟨⟨fun _ => False, fun _ => False, Or.inl rfl, Or.inl rfl, fun _ h => h.elim, fun _ h => h.elim, fun _ h => h.elim⟩⟩ (Nat.zero_le _) B1.out (by
      repeat (with_reducible first | exact Turn.refl _ _ | refine Turn.setCell ?_ (Or.inl ⟨by omega, by omega⟩) _ _)))
  | true =>
    rw [hc] at HCF
    have HCC := hid hc
    clear hc
    go_enter Tryz.func8, Tryz.ntmps8
    go_wp2_with fail
    refine (HCF.out _).mono ?_
    rintro e w1 ⟨rfl, hb1⟩
    have B1 := hid (bto (bto (bto (bnew _ _) (bnew _ _)) (bnew _ _)) hb1)
    have P1 := hid (((Blk.new (w.alloc _) _ _).alloc _).later hb1)
    have R1 := hid ((Blk.new ((w.alloc _).alloc _) _ _).later hb1)
    have hz1 := hb1.size
    simp only [World.size_alloc] at P1 R1 hz1
    obtain ⟨o0, o1, o2, o3, o4, o5, o6, o7, o8, o9, o10, o11, o12, o13⟩ := P1.out.n14
    clear hb1 HCF
    go_wp2_with fail
    refine (HCP.out _ B1.out).mono ?_
    rintro e w2 ⟨a', ca', b', cb', rfl, hn2, hb2⟩
    have P2 := hid (P1.out.later hb2)
    have R2 := hid (R1.out.later hb2)
    have B2 := hid (bto B1.out hb2)
    have N2 := hid hn2
    have hz2 := hb2.size
    obtain ⟨f0, f1, f2, f3, f4, f5, f6, f7, f8, f9, f10, f11, f12, f13⟩ := P2.out.frees
    obtain ⟨o0, o1, o2, o3, o4, o5, o6, o7, o8, o9, o10, o11, o12, o13⟩ := P2.out.n14
    clear hb2 hn2 HCP P1 R1 B1
    have HCG := hid (fun W => changeable_any a' b' ca' cb' N W)
    go_wp2_with fail
    refine at_put14 (C := fun W => Calls Tryz.prog _ _ W _) P2.out ?_
    intro w3 P3 T3
    have R3 := hid (T3.blk R2.out (by omega))
    have N3 := hid ((N2.out.turned T3 (fun x hx _ e => by omega)).mono (A' := fun x => w.heap.size + 1 + 1 < x ∧ x < w3.heap.size) (fun x hx => by have := T3.size; omega))
    have B3 := hid (B2.out.trans (T3.below B2.out.size (fun k hk e => by omega)))
    have hz3 := T3.size
    replace P3 := hid P3
    clear o0 o1 o2 o3 o4 o5 o6 o7 o8 o9 o10 o11 o12 o13 f0 f1 f2 f3 f4 f5 f6 f7 f8 f9 f10 f11 f12 f13 P2 R2 N2 B2 T3
    refine (HCG.out _).mono ?_
    rintro e w4 ⟨rfl, hb4⟩
    have P4 := hid (P3.out.later hb4)
    have R4 := hid (R3.out.later hb4)
    have B4 := hid (bto B3.out hb4)
    have N4 := hid (N3.out.later hb4)
    have hz4 := hb4.size
    clear hb4 HCG P3 R3 B3 N3
    cases hup : (N.up && !N.deg) with
    | false =>
      have E := hid (ck_up HCC.out hup)
      clear hup HES HLG HDV HCC
      obtain ⟨o0, o1, o2, o3, o4, o5, o6, o7, o8, o9, o10, o11, o12, o13⟩ := P4.out.n14
      obtain ⟨r0, r1, r2, r3, r4, r5, r6, r7, r8, r9, r10, r11, r12, r13⟩ := R4.out.n14
      obtain ⟨g0, g1, g2, g3, g4, g5, g6, g7, g8, g9, g10, g11, g12, g13⟩ := R4.out.frees
      go_wp2
      exact bodyPost_ret (v := .tuple #[.agg #[.slice a' N.d.fs.length ca', .int .i64 N.d.c, .int .i64 N.d.k, .int .i64 N.d.cr, .int .i64 N.d.fl, .bool N.d.dn, .int .i64 N.l.first, .int .i64 N.l.last, .int .i64 N.l.size, .int .i64 N.now, .slice b' N.ts.length cb', .int .i64 N.lsn, .bool N.deg, .bool N.up], .int .i64 60]) (by simp [results, Tryz.results8, go_sem, r0, r1, r2, r3, r4, r5, r6, r7, r8, r9, r10, r11, r12, r13]) rfl (ck_end (w9 := w4) (H := w3.heap.size) E.out N4.out (by omega) B4.out (by
        repeat (with_reducible first | exact Turn.refl _ _ | refine Turn.setCell ?_ (Or.inl ⟨by omega, by omega⟩) _ _)))
    | true =>
      have HUP := hid hup
      clear hup
      obtain ⟨o0, o1, o2, o3, o4, o5, o6, o7, o8, o9, o10, o11, o12, o13⟩ := P4.out.n14
      obtain ⟨r0, r1, r2, r3, r4, r5, r6, r7, r8, r9, r10, r11, r12, r13⟩ := R4.out.n14
      obtain ⟨g0, g1, g2, g3, g4, g5, g6, g7, g8, g9, g10, g11, g12, g13⟩ := R4.out.frees
      clear r0 r1 r2 r3 r4 r5 r6 r7 r8 r9 r10 r11 r12 r13 g0 g1 g2 g3 g4 g5 g6 g7 g8 g9 g10 g11 g12 g13
      go_wp2_with fail
      refine (HES.out _ _ _ N4.out.tens).mono ?_
      rintro e w5 ⟨rfl, hb5⟩
      have P5 := hid (P4.out.later hb5)
      have R5 := hid (R4.out.later hb5)
      have B5 := hid (bto B4.out hb5)
      have N5 := hid (N4.out.later hb5)
      have hz5 := hb5.size
      clear hb5 HES P4 R4 B4 N4 o0 o1 o2 o3 o4 o5 o6 o7 o8 o9 o10 o11 o12 o13
      obtain ⟨o0, o1, o2, o3, o4, o5, o6, o7, o8, o9, o10, o11, o12, o13⟩ := P5.out.n14
      obtain ⟨r0, r1, r2, r3, r4, r5, r6, r7, r8, r9, r10, r11, r12, r13⟩ := R5.out.n14
      obtain ⟨g0, g1, g2, g3, g4, g5, g6, g7, g8, g9, g10, g11, g12, g13⟩ := R5.out.frees
      clear r0 r1 r2 r3 r4 r5 r6 r7 r8 r9 r10 r11 r12 r13 g0 g1 g2 g3 g4 g5 g6 g7 g8 g9 g10 g11 g12 g13
      obtain ⟨text, htx⟩ : ∃ t, t = staB N.lsn N.now N.ts := ⟨_, rfl⟩
      have HTX := hid htx
      rw [← htx]
      clear htx
      go_wp2_with fail
      refine (HLG.out _).mono ?_
      rintro e w6 ⟨rfl, hb6⟩
      have P6 := hid (P5.out.later hb6)
      have R6 := hid (R5.out.later hb6)
      have B6 := hid (bto B5.out hb6)
      have N6 := hid (N5.out.later hb6)
      have hz6 := hb6.size
      clear hb6 HLG P5 R5 B5 N5 o0 o1 o2 o3 o4 o5 o6 o7 o8 o9 o10 o11 o12 o13
      obtain ⟨o0, o1, o2, o3, o4, o5, o6, o7, o8, o9, o10, o11, o12, o13⟩ := P6.out.n14
      obtain ⟨r0, r1, r2, r3, r4, r5, r6, r7, r8, r9, r10, r11, r12, r13⟩ := R6.out.n14
      obtain ⟨g0, g1, g2, g3, g4, g5, g6, g7, g8, g9, g10, g11, g12, g13⟩ := R6.out.frees
      cases hlg : logB N.l with
      | false =>
        have E := hid (ck_log HCC.out HUP.out hlg)
        clear hlg HDV HCC
        go_wp2
        exact bodyPost_ret (v := .tuple #[.agg #[.slice a' N.d.fs.length ca', .int .i64 N.d.c, .int .i64 N.d.k, .int .i64 N.d.cr, .int .i64 N.d.fl, .bool N.d.dn, .int .i64 N.l.first, .int .i64 N.l.last, .int .i64 N.l.size, .int .i64 N.now, .slice b' N.ts.length cb', .int .i64 N.lsn, .bool N.deg, .bool N.up], .int .i64 21]) (by simp [results, Tryz.results8, go_sem, r0, r1, r2, r3, r4, r5, r6, r7, r8, r9, r10, r11, r12, r13]) rfl (ck_end (w9 := w6) (H := w3.heap.size) E.out N6.out (by omega) B6.out (by
          repeat (with_reducible first | exact Turn.refl _ _ | refine Turn.setCell ?_ (Or.inl ⟨by omega, by omega⟩) _ _)))
      | true =>
        have HLB := hid hlg
        obtain ⟨_, _, hl1, hl2, hl3, hl4⟩ := logz hlg
        clear hlg
        by_cases h9 : N.l.last = 999999
        · have E := hid (ck_last HCC.out HUP.out HLB.out h9)
          have H9 := hid h9
          rw [h9] at o7
          clear h9 HDV HCC
          go_wp2
          exact bodyPost_ret (v := .tuple #[.agg #[.slice a' N.d.fs.length ca', .int .i64 N.d.c, .int .i64 N.d.k, .int .i64 N.d.cr, .int .i64 N.d.fl, .bool N.d.dn, .int .i64 N.l.first, .int .i64 N.l.last, .int .i64 N.l.size, .int .i64 N.now, .slice b' N.ts.length cb', .int .i64 N.lsn, .bool N.deg, .bool N.up], .int .i64 23]) (by rw [H9.out]; simp [results, Tryz.results8, go_sem, r0, r1, r2, r3, r4, r5, r6, r7, r8, r9, r10, r11, r12, r13]) rfl (ck_end (w9 := w6) (H := w3.heap.size) E.out N6.out (by omega) B6.out (by
            repeat (with_reducible first | exact Turn.refl _ _ | refine Turn.setCell ?_ (Or.inl ⟨by omega, by omega⟩) _ _)))
        · have H9 := hid h9
          by_cases htx : text = ⟨#[]⟩
          · have E := hid (ck_text HCC.out HUP.out HLB.out H9.out (HTX.out.symm.trans htx))
            subst htx
            clear HDV HCC
            go_wp2
            exact bodyPost_ret (v := .tuple #[.agg #[.slice a' N.d.fs.length ca', .int .i64 N.d.c, .int .i64 N.d.k, .int .i64 N.d.cr, .int .i64 N.d.fl, .bool N.d.dn, .int .i64 N.l.first, .int .i64 N.l.last, .int .i64 N.l.size, .int .i64 N.now, .slice b' N.ts.length cb', .int .i64 N.lsn, .bool N.deg, .bool N.up], .int .i64 62]) (by simp [results, Tryz.results8, go_sem, r0, r1, r2, r3, r4, r5, r6, r7, r8, r9, r10, r11, r12, r13]) rfl (ck_end (w9 := w6) (H := w3.heap.size) E.out N6.out (by omega) B6.out (by
              repeat (with_reducible first | exact Turn.refl _ _ | refine Turn.setCell ?_ (Or.inl ⟨by omega, by omega⟩) _ _)))
          · have HTE := hid htx
            have hE : text.toList.isEmpty = false := by
              rw [Bool.eq_false_iff]
              exact fun h => htx (toList_inj (by rw [List.isEmpty_iff.1 h, ByteArray.toList_eq]))
            have h9b : (N.l.last == 999999) = false := by simpa using h9
            have h9l : N.l.last < 999999 := by omega
            clear htx h9
            go_wp2_with fail
            refine (HDV.out _ _ _ N6.out.files).mono ?_
            rintro e w7 ⟨rfl, hb7⟩
            have P7 := hid (P6.out.later hb7)
            have R7 := hid (R6.out.later hb7)
            have B7 := hid (bto B6.out hb7)
            have N7 := hid (N6.out.later hb7)
            have hz7 := hb7.size
            clear hb7 HDV P6 R6 B6 N6 o0 o1 o2 o3 o4 o5 o6 o7 o8 o9 o10 o11 o12 o13 r0 r1 r2 r3 r4 r5 r6 r7 r8 r9 r10 r11 r12 r13 g0 g1 g2 g3 g4 g5 g6 g7 g8 g9 g10 g11 g12 g13 hE h9b
            obtain ⟨o0, o1, o2, o3, o4, o5, o6, o7, o8, o9, o10, o11, o12, o13⟩ := P7.out.n14
            cases hdv : diskB N.d.fs N.d.c N.d.k N.d.cr N.d.fl with
            | false =>
              have E := hid (ck_bad HCC.out HUP.out HLB.out H9.out HTX.out HTE.out (run_bad hdv) (by decide))
              have HF := hid (fun W => failed_any a' b' none ca' cb' 0 N ⟨[], 0, 0, 0, 0, false⟩ N.l W)
              clear hdv
              go_wp2_with fail
              refine (HF.out _).mono ?_
              rintro e w8 ⟨rfl, hb8⟩
              have B8 := hid (bto B7.out hb8)
              have N8 := hid (((N7.out.later hb8).disk (M := ⟨⟨[], 0, 0, 0, 0, false⟩, N.l, N.now, N.ts, N.lsn, true, true⟩) (a2 := none) (F := fun _ => False) (Or.inl rfl) rfl (fun _ h => h.elim)).mono (A' := fun x => w.heap.size + 1 + 1 < x ∧ x < w3.heap.size) (fun x hx => hx.resolve_right id))
              have hz8 := hb8.size
              obtain ⟨r0, r1, r2, r3, r4, r5, r6, r7, r8, r9, r10, r11, r12, r13⟩ := (R7.out.later hb8).n14
              obtain ⟨g0, g1, g2, g3, g4, g5, g6, g7, g8, g9, g10, g11, g12, g13⟩ := (R7.out.later hb8).frees
              clear hb8 HF P7 R7 N7 B7 o0 o1 o2 o3 o4 o5 o6 o7 o8 o9 o10 o11 o12 o13
              go_wp2
              exact bodyPost_ret (v := .tuple #[.agg #[.slice none 0 0, .int .i64 0, .int .i64 0, .int .i64 0, .int .i64 0, .bool false, .int .i64 N.l.first, .int .i64 N.l.last, .int .i64 N.l.size, .int .i64 N.now, .slice b' N.ts.length cb', .int .i64 N.lsn, .bool true, .bool true], .int .i64 6]) (by simp [results, Tryz.results8, go_sem, r0, r1, r2, r3, r4, r5, r6, r7, r8, r9, r10, r11, r12, r13]) rfl (ck_end (w9 := w8) (H := w3.heap.size) E.out N8.out (by omega) B8.out (by
                repeat (with_reducible first | exact Turn.refl _ _ | refine Turn.setCell ?_ (Or.inl ⟨by omega, by omega⟩) _ _)))
            | true => exact absurd ⟨HCC.out, HUP.out, HLB.out, H9.out, fun e => HTE.out (HTX.out.trans e), hdv⟩ HLOW.out
end Go.Proofs.YtgnppdghjlnlhaaGreatDoor
