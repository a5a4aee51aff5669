import Derived.Test.YtgnppdghjlnlhaaGreatDoorProg
import Derived.Test.YtgnppdghjlnlhaaGreatDoorJ41SLogOK
namespace Go.Proofs.YtgnppdghjlnlhaaGreatDoor
open Go.RowKit
set_option maxRecDepth 100000 in
set_option maxHeartbeats 4000000 in
theorem l5Failed_any (a b a' : Option Addr) (ca cb ca' : Nat) (N : NodeD) (K : DiskD) (L : LogD) (w : World) (hf : FilesIn w a N.d.fs) (hl : N.d.fs.length ≤ 1048576) (ht : TensIn w b N.ts) (hlt : N.ts.length ≤ 2000000) (hfit : ∀ t ∈ N.ts, t.mets.length ≤ 2000000 ∧ t.sers.length ≤ 2000000) (hup : N.up = true) :
    Calls Tryz.prog 21 #[.agg #[.slice a N.d.fs.length ca, .int .i64 N.d.c, .int .i64 N.d.k, .int .i64 N.d.cr, .int .i64 N.d.fl, .bool N.d.dn, .int .i64 N.l.first, .int .i64 N.l.last, .int .i64 N.l.size, .int .i64 N.now, .slice b N.ts.length cb, .int .i64 N.lsn, .bool N.deg, .bool N.up], .agg #[.slice a' K.fs.length ca', .int .i64 K.c, .int .i64 K.k, .int .i64 K.cr, .int .i64 K.fl, .bool K.dn], .agg #[.int .i64 L.first, .int .i64 L.last, .int .i64 L.size]] w fun e w' => ∃ b' cb', e = .returned (.agg #[.slice a' K.fs.length ca', .int .i64 K.c, .int .i64 K.k, .int .i64 K.cr, .int .i64 K.fl, .bool K.dn, .int .i64 L.first, .int .i64 L.last, .int .i64 L.size, .int .i64 N.now, .slice b' N.ts.length cb', .int .i64 N.lsn, .bool true, .bool (!K.dn)]) ∧ TensA w' (fun x => w.heap.size ≤ x) b' N.ts ∧ Below w.heap.size w w' := by
  have HC := hid (fun W (hW : Below w.heap.size w W) => l5Copy_any a b ca cb N W (hf.later hW) hl (ht.later hW) hlt hfit)
  have HUP := hid hup
  clear hf ht hfit hup
  go_enter Tryz.func21, Tryz.ntmps21
  go_wp2_with fail
  refine (HC.out _ (bto (bto (bto (bnew _ _) (bnew _ _)) (bnew _ _)) (bnew _ _))).mono ?_
  rintro e w1 ⟨a1, c1, b1, d1, rfl, _, ht1, hb1⟩
  have P1 := hid (((((Blk.new w _ _).alloc _).alloc _).alloc _).later hb1)
  have X1 := hid ((((Blk.new (w.alloc _) _ _).alloc _).alloc _).later hb1)
  have Y1 := hid (((Blk.new ((w.alloc _).alloc _) _ _).alloc _).later hb1)
  have R1 := hid ((Blk.new (((w.alloc _).alloc _).alloc _) _ _).later hb1)
  have B1 := hid (bto (bto (bto (bto (bnew _ _) (bnew _ _)) (bnew _ _)) (bnew _ _)) hb1)
  have hz1 := hb1.size
  simp only [World.size_alloc] at X1 Y1 R1 hz1
  have T1 := hid ht1
  obtain ⟨o0, o1, o2, o3, o4, o5, o6, o7, o8, o9, o10, o11, o12, o13⟩ := P1.out.n14
  obtain ⟨f0, f1, f2, f3, f4, f5, f6, f7, f8, f9, f10, f11, f12, f13⟩ := P1.out.frees
  clear hb1 ht1 HC
  go_upto_region 2 with fail
  refine at_node14 (C := fun W => Code.wp Tryz.prog _ _ _ W) P1.out ?_
  intro w2 P2 T2
  have X2 := T2.blk X1.out (by omega)
  have Y2 := T2.blk Y1.out (by omega)
  have R2 := T2.blk R1.out (by omega)
  have hz2 := T2.size
  have B2 := hid (B1.out.trans (T2.below B1.out.size (fun k hk e => by omega)))
  have T3 := hid (T1.out.turned T2 (fun x hx _ e => by simp only [World.size_alloc] at hx; omega))
  obtain ⟨o0, o1, o2, o3, o4, o5, o6, o7, o8, o9, o10, o11, o12, o13⟩ := P2.n14
  obtain ⟨f0, f1, f2, f3, f4, f5, f6, f7, f8, f9, f10, f11, f12, f13⟩ := P2.frees
  obtain ⟨r0, r1, r2, r3, r4, r5, r6, r7, r8, r9, r10, r11, r12, r13⟩ := R2.n14
  obtain ⟨g0, g1, g2, g3, g4, g5, g6, g7, g8, g9, g10, g11, g12, g13⟩ := R2.frees
  have x0 : w2.cell? ⟨w.heap.size + 1, 0, none⟩ = some (.slice a' K.fs.length ca') := X2.cell 0
  have x1 : w2.cell? ⟨w.heap.size + 1, 1, none⟩ = some (.int .i64 K.c) := X2.cell 1
  have x2 : w2.cell? ⟨w.heap.size + 1, 2, none⟩ = some (.int .i64 K.k) := X2.cell 2
  have x3 : w2.cell? ⟨w.heap.size + 1, 3, none⟩ = some (.int .i64 K.cr) := X2.cell 3
  have x4 : w2.cell? ⟨w.heap.size + 1, 4, none⟩ = some (.int .i64 K.fl) := X2.cell 4
  have x5 : w2.cell? ⟨w.heap.size + 1, 5, none⟩ = some (.bool K.dn) := X2.cell 5
  have y0 : w2.cell? ⟨w.heap.size + 1 + 1, 0, none⟩ = some (.int .i64 L.first) := Y2.cell 0
  have y1 : w2.cell? ⟨w.heap.size + 1 + 1, 1, none⟩ = some (.int .i64 L.last) := Y2.cell 1
  have y2 : w2.cell? ⟨w.heap.size + 1 + 1, 2, none⟩ = some (.int .i64 L.size) := Y2.cell 2
  rw [HUP.out] at o13
  clear P2 X2 Y2 R2 T2 P1 X1 Y1 R1 B1 T1
  cases hdn : K.dn
  all_goals (
    rw [hdn] at x5
    go_wp2
    refine bodyPost_ret (v := .agg #[.slice a' K.fs.length ca', .int .i64 K.c, .int .i64 K.k, .int .i64 K.cr, .int .i64 K.fl, .bool _, .int .i64 L.first, .int .i64 L.last, .int .i64 L.size, .int .i64 N.now, .slice b1 N.ts.length d1, .int .i64 N.lsn, .bool true, .bool _]) (by simp [results, Tryz.results21, go_sem, r0, r1, r2, r3, r4, r5, r6, r7, r8, r9, r10, r11, r12, r13]; exact ⟨rfl, rfl⟩) rfl ?_
    refine Turn.end2 (S := fun x => x = w.heap.size ∨ x = w.heap.size + 1 + 1 + 1) (C := fun W => ∃ b' cb', _ = Ending.returned (.agg #[.slice a' K.fs.length ca', .int .i64 K.c, .int .i64 K.k, .int .i64 K.cr, .int .i64 K.fl, _, .int .i64 L.first, .int .i64 L.last, .int .i64 L.size, .int .i64 N.now, .slice b' N.ts.length cb', .int .i64 N.lsn, .bool true, _]) ∧ TensA W (fun x => w.heap.size ≤ x) b' N.ts ∧ Below w.heap.size w W) w2 (by
      repeat (with_reducible first | exact Turn.refl _ _ | refine Turn.setCell ?_ (Or.inl (by first | exact Or.inl rfl | exact Or.inr rfl)) _ _)) ?_
    intro w6 T6
    exact ⟨_, _, by rw [hdn]; rfl, (T3.out.turned T6 (fun x hx _ e => by simp only [World.size_alloc] at hx; omega)).mono (fun x hx => by simp only [World.size_alloc] at hx; omega), B2.out.trans (T6.below B2.out.size (fun k hk e => by omega))⟩)
end Go.Proofs.YtgnppdghjlnlhaaGreatDoor
