import Derived.Test.YtgnppdghjlnlhaaGreatDoorProg
import Derived.Test.YtgnppdghjlnlhaaGreatDoorJ37INdC
namespace Go.Proofs.YtgnppdghjlnlhaaGreatDoor
open Go.RowKit
set_option maxRecDepth 100000 in
set_option maxHeartbeats 8000000 in
theorem implCk_ok (c : CfgD) (a b : Option Addr) (ca cb : Nat) (N : NodeD) (w : World) (h : CkIn w a b N) (hp : PowTab w) (hc : cfgB c = true) (hup : upB N = true) (hlg : logB N.l = true) (h9 : ¬ N.l.last = 999999) (hte : ¬ staB N.lsn N.now N.ts = ⟨#[]⟩) (hdv : diskB N.d.fs N.d.c N.d.k N.d.cr N.d.fl = true) (hx : (runD N.d (ckOps N.d N.l (staB N.lsn N.now N.ts))).2 = 0) :
    Calls Tryz.prog 8 #[cfgV c, .agg #[.slice a N.d.fs.length ca, .int .i64 N.d.c, .int .i64 N.d.k, .int .i64 N.d.cr, .int .i64 N.d.fl, .bool N.d.dn, .int .i64 N.l.first, .int .i64 N.l.last, .int .i64 N.l.size, .int .i64 N.now, .slice b N.ts.length cb, .int .i64 N.lsn, .bool N.deg, .bool N.up]] w fun e w' => CkOut c N w e w' := by
  have HCF := hid (fun W => implCfg_any c W)
  have hb := h.bulk
  have HCP := hid (fun W (hW : Below w.heap.size w W) => copyNode_any a b ca cb N W (h.files.later hW) h.len (h.tens.later hW) (by omega) (ten_fit h.bulk))
  obtain ⟨e1, _, _, e4⟩ := est_fit h.bulk
  have HES := hid (fun W b' cb' (hW : TensIn W b' N.ts) => implEst_any N.lsn N.now b' cb' N.ts W hW e1 (by omega) e4)
  have HLG := hid (fun W => isLog_any N.l W)
  have HDV := hid (fun W a' ca' (hW : FilesIn W a' N.d.fs) => implValid_any a' ca' N.d.fs N.d.c N.d.k N.d.cr N.d.fl N.d.dn W hW h.short (by have := h.len; unfold maxLen; omega) h.sum)
  have HMT := hid (fun W a' ca' (hW : FilesIn W a' N.d.fs) => mount_any a' ca' N.d.fs N.d.c N.d.k N.d.cr N.d.fl N.d.dn W hW h.len)
  have HPW := hid hp
  have HCC := hid hc
  have HUP := hid hup
  have HLB := hid hlg
  have H9 := hid h9
  have HDB := hid hdv
  have HX := hid hx
  obtain ⟨text, htx⟩ : ∃ t, t = staB N.lsn N.now N.ts := ⟨_, rfl⟩
  have HTX := hid htx
  have HTE := hid (show ¬ text = ⟨#[]⟩ by rw [htx]; exact hte)
  rw [hc] at HCF
  rw [hlg] at HLG
  rw [hdv] at HDV
  rw [← htx] at HES HX
  have h9l : N.l.last < 999999 := by have := logz hlg; omega
  clear h hp hb e1 e4 hc hup hlg h9 hdv hx hte htx
  unfold cfgV at HCF ⊢
  go_enter Tryz.func8, Tryz.ntmps8
  go_wp2_with fail
  refine (HCF.out _).mono ?_
  rintro e w1 ⟨rfl, hb1⟩
  have B1 := hid (bto (bto (bto (bnew _ _) (bnew _ _)) (bnew _ _)) hb1)
  have P1 := hid (((Blk.new (w.alloc _) _ _).alloc _).later hb1)
  have R1 := hid ((Blk.new ((w.alloc _).alloc _) _ _).later hb1)
  have hz1 := hb1.size
  simp only [World.size_alloc] at P1 R1 hz1
  obtain ⟨o0, o1, o2, o3, o4, o5, o6, o7, o8, o9, o10, o11, o12, o13⟩ := P1.out.n14
  clear hb1 HCF
  go_wp2_with fail
  refine (HCP.out _ B1.out).mono ?_
  rintro e w2 ⟨a', ca', b', cb', rfl, hn2, hb2⟩
  have P2 := hid (P1.out.later hb2)
  have R2 := hid (R1.out.later hb2)
  have B2 := hid (bto B1.out hb2)
  have N2 := hid hn2
  have hz2 := hb2.size
  obtain ⟨f0, f1, f2, f3, f4, f5, f6, f7, f8, f9, f10, f11, f12, f13⟩ := P2.out.frees
  obtain ⟨o0, o1, o2, o3, o4, o5, o6, o7, o8, o9, o10, o11, o12, o13⟩ := P2.out.n14
  clear hb2 hn2 HCP P1 R1 B1
  have HCG := hid (fun W => changeable_any a' b' ca' cb' N W)
  rw [show (N.up && !N.deg) = true from HUP.out] at HCG
  go_wp2_with fail
  refine at_put14 (C := fun W => Calls Tryz.prog _ _ W _) P2.out ?_
  intro w3 P3 T3
  have R3 := hid (T3.blk R2.out (by omega))
  have N3 := hid ((N2.out.turned T3 (fun x hx _ e => by omega)).mono (A' := fun x => w.heap.size + 1 + 1 < x ∧ x < w3.heap.size) (fun x hx => by have := T3.size; omega))
  have B3 := hid (B2.out.trans (T3.below B2.out.size (fun k hk e => by omega)))
  have hz3 := T3.size
  replace P3 := hid P3
  clear o0 o1 o2 o3 o4 o5 o6 o7 o8 o9 o10 o11 o12 o13 f0 f1 f2 f3 f4 f5 f6 f7 f8 f9 f10 f11 f12 f13 P2 R2 N2 B2 T3
  refine (HCG.out _).mono ?_
  rintro e w4 ⟨rfl, hb4⟩
  have P4 := hid (P3.out.later hb4)
  have R4 := hid (R3.out.later hb4)
  have B4 := hid (bto B3.out hb4)
  have N4 := hid (N3.out.later hb4)
  have hz4 := hb4.size
  clear hb4 HCG P3 R3 B3 N3
  obtain ⟨o0, o1, o2, o3, o4, o5, o6, o7, o8, o9, o10, o11, o12, o13⟩ := P4.out.n14
  obtain ⟨r0, r1, r2, r3, r4, r5, r6, r7, r8, r9, r10, r11, r12, r13⟩ := R4.out.n14
  obtain ⟨g0, g1, g2, g3, g4, g5, g6, g7, g8, g9, g10, g11, g12, g13⟩ := R4.out.frees
  clear r0 r1 r2 r3 r4 r5 r6 r7 r8 r9 r10 r11 r12 r13 g0 g1 g2 g3 g4 g5 g6 g7 g8 g9 g10 g11 g12 g13
  go_wp2_with fail
  refine (HES.out _ _ _ N4.out.tens).mono ?_
  rintro e w5 ⟨rfl, hb5⟩
  have P5 := hid (P4.out.later hb5)
  have R5 := hid (R4.out.later hb5)
  have B5 := hid (bto B4.out hb5)
  have N5 := hid (N4.out.later hb5)
  have hz5 := hb5.size
  clear hb5 HES P4 R4 B4 N4 o0 o1 o2 o3 o4 o5 o6 o7 o8 o9 o10 o11 o12 o13
  obtain ⟨o0, o1, o2, o3, o4, o5, o6, o7, o8, o9, o10, o11, o12, o13⟩ := P5.out.n14
  obtain ⟨r0, r1, r2, r3, r4, r5, r6, r7, r8, r9, r10, r11, r12, r13⟩ := R5.out.n14
  obtain ⟨g0, g1, g2, g3, g4, g5, g6, g7, g8, g9, g10, g11, g12, g13⟩ := R5.out.frees
  clear r0 r1 r2 r3 r4 r5 r6 r7 r8 r9 r10 r11 r12 r13 g0 g1 g2 g3 g4 g5 g6 g7 g8 g9 g10 g11 g12 g13
  go_wp2_with fail
  refine (HLG.out _).mono ?_
  rintro e w6 ⟨rfl, hb6⟩
  have P6 := hid (P5.out.later hb6)
  have R6 := hid (R5.out.later hb6)
  have B6 := hid (bto B5.out hb6)
  have N6 := hid (N5.out.later hb6)
  have hz6 := hb6.size
  clear hb6 HLG P5 R5 B5 N5 o0 o1 o2 o3 o4 o5 o6 o7 o8 o9 o10 o11 o12 o13
  obtain ⟨o0, o1, o2, o3, o4, o5, o6, o7, o8, o9, o10, o11, o12, o13⟩ := P6.out.n14
  obtain ⟨r0, r1, r2, r3, r4, r5, r6, r7, r8, r9, r10, r11, r12, r13⟩ := R6.out.n14
  obtain ⟨g0, g1, g2, g3, g4, g5, g6, g7, g8, g9, g10, g11, g12, g13⟩ := R6.out.frees
  have hE : text.toList.isEmpty = false := by
    rw [Bool.eq_false_iff]
    exact fun h => HTE.out (toList_inj (by rw [List.isEmpty_iff.1 h, ByteArray.toList_eq]))
  have h9b : (N.l.last == 999999) = false := by simpa using H9.out
  go_wp2_with fail
  refine (HDV.out _ _ _ N6.out.files).mono ?_
  rintro e w7 ⟨rfl, hb7⟩
  have P7 := hid (P6.out.later hb7)
  have R7 := hid (R6.out.later hb7)
  have B7 := hid (bto B6.out hb7)
  have N7 := hid (N6.out.later hb7)
  have hz7 := hb7.size
  clear hb7 HDV P6 R6 B6 N6 o0 o1 o2 o3 o4 o5 o6 o7 o8 o9 o10 o11 o12 o13 r0 r1 r2 r3 r4 r5 r6 r7 r8 r9 r10 r11 r12 r13 g0 g1 g2 g3 g4 g5 g6 g7 g8 g9 g10 g11 g12 g13 hE h9b
  obtain ⟨o0, o1, o2, o3, o4, o5, o6, o7, o8, o9, o10, o11, o12, o13⟩ := P7.out.n14
  have H7 := hid (HPW.out.later B7.out)
  have HK := hid (fun wx (hx : Below w7.heap.size w7 wx) => show wx.cell? ⟨w.heap.size + 1, 0, none⟩ = some (.slice a' N.d.fs.length ca') ∧ wx.cell? ⟨w.heap.size + 1, 1, none⟩ = some (.int .i64 N.d.c) ∧ wx.cell? ⟨w.heap.size + 1, 2, none⟩ = some (.int .i64 N.d.k) ∧ wx.cell? ⟨w.heap.size + 1, 3, none⟩ = some (.int .i64 N.d.cr) ∧ wx.cell? ⟨w.heap.size + 1, 4, none⟩ = some (.int .i64 N.d.fl) ∧ wx.cell? ⟨w.heap.size + 1, 5, none⟩ = some (.bool N.d.dn) ∧ wx.cell? ⟨w.heap.size + 1, 6, none⟩ = some (.int .i64 N.l.first) ∧ wx.cell? ⟨w.heap.size + 1, 7, none⟩ = some (.int .i64 N.l.last) ∧ wx.cell? ⟨w.heap.size + 1, 8, none⟩ = some (.int .i64 N.l.size) from by
    obtain ⟨q0, q1, q2, q3, q4, q5, q6, q7, q8, _⟩ := (P7.out.later hx).n14
    exact ⟨q0, q1, q2, q3, q4, q5, q6, q7, q8⟩)
  have HM7 := hid (fun W (hx : Below w7.heap.size w7 W) => HMT.out W _ ca' (N7.out.files.later hx))
  clear HPW HMT
  go_wp2_with fail
  go_region_held3 (fun wx => wx.cell? ⟨w.heap.size + 1, 0, none⟩ = some (.slice a' N.d.fs.length ca') ∧ wx.cell? ⟨w.heap.size + 1, 1, none⟩ = some (.int .i64 N.d.c) ∧ wx.cell? ⟨w.heap.size + 1, 2, none⟩ = some (.int .i64 N.d.k) ∧ wx.cell? ⟨w.heap.size + 1, 3, none⟩ = some (.int .i64 N.d.cr) ∧ wx.cell? ⟨w.heap.size + 1, 4, none⟩ = some (.int .i64 N.d.fl) ∧ wx.cell? ⟨w.heap.size + 1, 5, none⟩ = some (.bool N.d.dn) ∧ wx.cell? ⟨w.heap.size + 1, 6, none⟩ = some (.int .i64 N.l.first) ∧ wx.cell? ⟨w.heap.size + 1, 7, none⟩ = some (.int .i64 N.l.last) ∧ wx.cell? ⟨w.heap.size + 1, 8, none⟩ = some (.int .i64 N.l.size))
    (exact HK.out _ (by repeat (first | with_reducible exact Below.refl _ _ | with_reducible refine bto ?_ (bnew _ _) | with_reducible refine Below.drew ?_ | exact (Below.refl _ _).drew | refine bto ?_ (by assumption))))
    (first
    | (go_at_call 32; refine (HM7.out _ (by repeat (first | with_reducible exact Below.refl _ _ | with_reducible refine bto ?_ (bnew _ _) | with_reducible refine Below.drew ?_ | exact (Below.refl _ _).drew | refine bto ?_ (by assumption)))).mono ?_; rintro e w8 ⟨D, v, rfl, hd8, hb8⟩))
  have hbd := bto (Below.refl w7.heap.size w7).drew hb8
  refine at_oneK (C := fun W => Exit.then _ _ _ _ W) ?_
  intro w9 hb9 G9
  have b79 := bto hbd hb9
  have hz8 := hbd.size
  have WS := hid (show WSt w7 w9 w7.heap.size w8.heap.size D N.d N.l from ⟨H7.out, b79, Nat.le_refl _, hbd.size, G9, ⟨v, hd8.later hb9⟩, HDB.out⟩)
  have HCK := hid (checkpoint_any text WS.out HLB.out h9l)
  obtain ⟨⟨K1, x1⟩, hR1⟩ : ∃ R, runD N.d (ckOps N.d N.l text) = R := ⟨_, rfl⟩
  have HRN := hid hR1
  have HC6 := hid (runD_code (ckOps N.d N.l text) N.d)
  rw [hR1] at HCK HC6
  clear hR1 hbd hb8 hb9 G9 b79 hd8 WS HK HM7 H7 HDB o0 o1 o2 o3 o4 o5 o6 o7 o8 o9 o10 o11 o12 o13
  go_wp2_with fail
  refine HCK.out.mono ?_
  rintro e wa ⟨rfl, hwa⟩
  have ba := hwa.below
  have Pa := hid (P7.out.later ba)
  have Ra := hid (R7.out.later ba)
  have Ba := hid (bto B7.out ba)
  have Na := hid (N7.out.later ba)
  have WA := hid hwa
  have hza := ba.size
  obtain ⟨v1, hd1⟩ := hwa.drive
  obtain ⟨a1, c1, rfl, ho1⟩ := owned_of_row hd1.row
  have FA := hid (ho1.toA (Nat.le_refl _))
  have HU := hid (fun W (hW : Below wa.heap.size wa W) => unmount_any D 122 a1 K1.fs.length c1 K1.c K1.k K1.cr K1.fl K1.dn W (hd1.blk.later hW))
  clear ba hwa hd1 ho1 HCK P7 R7 B7 N7
  have hx : x1 = 0 := by have := HX.out; rw [HRN.out] at this; exact this
  subst hx
  simp only [errV, ckL, if_true] at WA ⊢
  obtain ⟨c0, c1', c2, c3⟩ := WA.out.wr.cells
  have E := hid (ck_ok HCC.out HUP.out HLB.out H9.out HTX.out HTE.out HRN.out)
  obtain ⟨o0, o1, o2, o3, o4, o5, o6, o7, o8, o9, o10, o11, o12, o13⟩ := Pa.out.n14
  have HK := hid (fun wx (hx : Turn (· = w.heap.size + 1) wa wx) => show wx.cell? ⟨w8.heap.size, 0, none⟩ = some (.pointer (some ⟨D, 0, none⟩)) ∧ wx.cell? ⟨w8.heap.size, 1, none⟩ = some (.int .i64 (N.l.last + 1)) ∧ wx.cell? ⟨w8.heap.size, 2, none⟩ = some (.int .i64 (N.l.last + 1)) ∧ wx.cell? ⟨w8.heap.size, 3, none⟩ = some (.int .i64 0) from by
    have hb := hx.blk WA.out.wr (by omega)
    exact ⟨hb.cell 0, hb.cell 1, hb.cell 2, hb.cell 3⟩)
  clear o0 o1 o2 o3 o4 o5 o6 o7 o8 o9 o10 o11 o12 o13
  go_wp2_with fail
  go_region_held3 (fun wx => wx.cell? ⟨w8.heap.size, 0, none⟩ = some (.pointer (some ⟨D, 0, none⟩)) ∧ wx.cell? ⟨w8.heap.size, 1, none⟩ = some (.int .i64 (N.l.last + 1)) ∧ wx.cell? ⟨w8.heap.size, 2, none⟩ = some (.int .i64 (N.l.last + 1)) ∧ wx.cell? ⟨w8.heap.size, 3, none⟩ = some (.int .i64 0))
    ((refine HK.out _ ?_; first | with_reducible exact tb | with_reducible exact Turn.drew (Turn.refl _ _) | with_reducible exact t6 | with_reducible exact t9))
    (first
    | (go_at_call 34; refine (HU.out _ (Below.refl _ _).drew).mono ?_; rintro e wb ⟨rfl, hbb⟩; have tb : Turn (· = w.heap.size + 1) wa wb := Turn.of (bto (Below.refl _ _).drew hbb); have t6 := ((((((tb.setCell (Or.inl rfl) 0 (.slice a1 K1.fs.length c1)).setCell (Or.inl rfl) 1 (.int .i64 K1.c)).setCell (Or.inl rfl) 2 (.int .i64 K1.k)).setCell (Or.inl rfl) 3 (.int .i64 K1.cr)).setCell (Or.inl rfl) 4 (.int .i64 K1.fl)).setCell (Or.inl rfl) 5 (.bool K1.dn)); have t9 := (((t6.setCell (Or.inl rfl) 6 (.int .i64 (N.l.last + 1))).setCell (Or.inl rfl) 7 (.int .i64 (N.l.last + 1))).setCell (Or.inl rfl) 8 (.int .i64 0)); have PB := hid (Pa.out.later (bto (Below.refl _ _).drew hbb)); obtain ⟨o0, o1, o2, o3, o4, o5, o6, o7, o8, o9, o10, o11, o12, o13⟩ := PB.out.n14; obtain ⟨f0, f1, f2, f3, f4, f5, f6, f7, f8, f9, f10, f11, f12, f13⟩ := PB.out.frees))
  have bb := bto (Below.refl _ _).drew hbb
  clear o0 o1 o2 o3 o4 o5 o6 o7 o8 o9 o10 o11 o12 o13 f0 f1 f2 f3 f4 f5 f6 f7 f8 f9 f10 f11 f12 f13 t6 t9 tb HK HU c0 c1' c2 c3
  refine at_put9 (C := fun W => Exit.then _ _ _ _ W) PB.out ?_
  intro wq PQ TQ
  have hzb := bb.size
  have hzq := TQ.size
  have RQ := TQ.blk (Ra.out.later bb) (by omega)
  have BQ := hid ((bto Ba.out bb).trans (TQ.below (bto Ba.out bb).size (fun k hk e => by omega)))
  have FQ := (FA.out.later bb).turned TQ (fun x hx _ e => by omega)
  have NQ := hid ((((Na.out.later bb).turned TQ (fun x hx _ e => by omega)).disk (M := ⟨K1, ⟨N.l.last + 1, N.l.last + 1, 0⟩, N.now, N.ts, N.lsn, N.deg, N.up⟩) FQ rfl (fun x hx e => by omega)).mono (A' := fun x => w.heap.size + 1 + 1 < x ∧ x < wa.heap.size) (fun x hx => by omega))
  obtain ⟨o0, o1, o2, o3, o4, o5, o6, o7, o8, o9, o10, o11, o12, o13⟩ := PQ.n14
  obtain ⟨r0, r1, r2, r3, r4, r5, r6, r7, r8, r9, r10, r11, r12, r13⟩ := RQ.n14
  obtain ⟨g0, g1, g2, g3, g4, g5, g6, g7, g8, g9, g10, g11, g12, g13⟩ := RQ.frees
  clear PQ TQ RQ FQ bb hbb PB Pa Ra Ba Na FA
  go_wp2
  exact bodyPost_ret (v := .tuple #[.agg #[.slice a1 K1.fs.length c1, .int .i64 K1.c, .int .i64 K1.k, .int .i64 K1.cr, .int .i64 K1.fl, .bool K1.dn, .int .i64 (N.l.last + 1), .int .i64 (N.l.last + 1), .int .i64 0, .int .i64 N.now, .slice b' N.ts.length cb', .int .i64 N.lsn, .bool N.deg, .bool N.up], .int .i64 0]) (by simp [results, Tryz.results8, go_sem, r0, r1, r2, r3, r4, r5, r6, r7, r8, r9, r10, r11, r12, r13]) rfl (ck_end (w9 := wq) (H := wa.heap.size) E.out NQ.out (by omega) BQ.out (by
    repeat (with_reducible first | exact Turn.refl _ _ | refine Turn.setCell ?_ (Or.inl ⟨by omega, by omega⟩) _ _)))
end Go.Proofs.YtgnppdghjlnlhaaGreatDoor
