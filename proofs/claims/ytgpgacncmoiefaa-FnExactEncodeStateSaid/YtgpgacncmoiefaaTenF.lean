import Derived.Test.YtgpgacncmoiefaaProg
import Derived.Test.YtgpgacncmoiefaaTenB
import Derived.Test.YtgpgacncmoiefaaPrT
namespace Go.Proofs.Ytgpgacncmoiefaa
open Go.RowKit

set_option maxRecDepth 100000 in
set_option maxHeartbeats 1000000 in
theorem toTenant_any (f : TenD) (a1 a2 : Option Addr) (c1 c2 : Nat) (w : World) (p1 : PairsIn w a1 f.mets) (p2 : PairsIn w a2 f.sers) (l1 : f.mets.length ≤ 1048576) (l2 : f.sers.length ≤ 1048576) :
    Calls Try.prog 78 #[.agg #[.string f.name, .int .i64 f.limit, .slice a1 f.mets.length c1, .slice a2 f.sers.length c2]] w fun e w' => ∃ g1 g2, e = .returned (.agg #[.string f.name, .int .i64 f.limit, .slice (some ⟨g1, 0, none⟩) f.mets.length f.mets.length, .slice (some ⟨g2, 0, none⟩) f.sers.length f.sers.length]) ∧
      w.heap.size ≤ g1 ∧ g1 < g2 ∧ PairsOwn w' w.heap.size (some ⟨g1, 0, none⟩) f.mets ∧ PairsOwn w' w.heap.size (some ⟨g2, 0, none⟩) f.sers ∧ Below w.heap.size w w' := by
  have HM : Hid (∀ W, Below w.heap.size w W → Calls Try.prog 88 #[.slice a1 f.mets.length c1] W fun e w' => e = .returned (.slice (some ⟨W.heap.size, 0, none⟩) f.mets.length f.mets.length) ∧ PairsOwn w' W.heap.size (some ⟨W.heap.size, 0, none⟩) f.mets ∧ Below W.heap.size W w' ∧ W.heap.size < w'.heap.size) :=
    fun W hW => toMetricLimitS_any a1 c1 f.mets W (p1.later hW) l1
  have HS : Hid (∀ W, Below w.heap.size w W → Calls Try.prog 89 #[.slice a2 f.sers.length c2] W fun e w' => e = .returned (.slice (some ⟨W.heap.size, 0, none⟩) f.sers.length f.sers.length) ∧ PairsOwn w' W.heap.size (some ⟨W.heap.size, 0, none⟩) f.sers ∧ Below W.heap.size W w' ∧ W.heap.size < w'.heap.size) :=
    fun W hW => toSeriesS_any a2 c2 f.sers W (p2.later hW) l2
  clear p1 p2
  go_enter Try.func78, Try.ntmps78
  go_wp2_with fail
  refine (HM.out _ (bto (bto (bnew _ _) (bnew _ _)) (bnew _ _))).mono ?_
  rintro e w1 ⟨rfl, o1, hb1, z1⟩
  have B1 : Hid (Below w.heap.size w w1) := bto (bto (bto (bnew _ _) (bnew _ _)) (bnew _ _)) hb1
  have P1 : Hid (Blk w1 w.heap.size #[.string f.name, .int .i64 f.limit, .slice a1 f.mets.length c1, .slice a2 f.sers.length c2] 121) := (((Blk.new _ _ _).alloc _).alloc _).later hb1
  have R1 : Hid (Blk w1 (w.heap.size + 1) #[.string ByteArray.empty, .int .i64 0, .slice none 0 0, .slice none 0 0] 87) := by have := ((Blk.new (w.alloc (.cells #[.string f.name, .int .i64 f.limit, .slice a1 f.mets.length c1, .slice a2 f.sers.length c2] 121)) #[.string ByteArray.empty, .int .i64 0, .slice none 0 0, .slice none 0 0] 87).alloc (.cells #[.string f.name, .int .i64 f.limit, .slice none 0 0, .slice none 0 0] 87)).later hb1; exact hid (by simpa using this)
  have X1 : Hid (Blk w1 (w.heap.size + 1 + 1) #[.string f.name, .int .i64 f.limit, .slice none 0 0, .slice none 0 0] 87) := by have := (Blk.new ((w.alloc (.cells #[.string f.name, .int .i64 f.limit, .slice a1 f.mets.length c1, .slice a2 f.sers.length c2] 121)).alloc (.cells #[.string ByteArray.empty, .int .i64 0, .slice none 0 0, .slice none 0 0] 87)) #[.string f.name, .int .i64 f.limit, .slice none 0 0, .slice none 0 0] 87).later hb1; exact hid (by simpa using this)
  have O1 : Hid (PairsOwn w1 (w.heap.size + 1 + 1 + 1) (some ⟨w.heap.size + 1 + 1 + 1, 0, none⟩) f.mets) := by show PairsOwn _ _ _ _; simpa using o1
  have z1' : w.heap.size + 1 + 1 + 1 < w1.heap.size := by simpa using z1
  have q1 : w1.cell? ⟨w.heap.size, 3, none⟩ = some (.slice a2 f.sers.length c2) := P1.out.cell 3
  have q2 : w1.cell? ⟨w.heap.size + 1 + 1, 2, none⟩ = some (.slice none 0 0) := X1.out.cell 2
  have q3 := X1.out.free 2
  clear o1 z1 hb1 P1 HM
  go_wp2_with fail
  have B1' : Hid (Below w.heap.size w (w1.setCell ⟨w.heap.size + 1 + 1, 2, none⟩ (.slice (some ⟨w.heap.size + 1 + 1 + 1, 0, none⟩) f.mets.length f.mets.length))) := B1.out.setCell (by simp; omega) _
  refine (HS.out _ B1'.out).mono ?_
  rintro e w2 ⟨rfl, o2, hb2, z2⟩
  have B2 : Hid (Below w.heap.size w w2) := bto B1'.out hb2
  have O1' : Hid (PairsOwn w2 (w.heap.size + 1 + 1 + 1) (some ⟨w.heap.size + 1 + 1 + 1, 0, none⟩) f.mets) := (O1.out.but ((But.refl _ _).setCell _ _) (by omega)).later hb2
  have O2 : Hid (PairsOwn w2 w1.heap.size (some ⟨w1.heap.size, 0, none⟩) f.sers) := by show PairsOwn _ _ _ _; simpa using o2
  have X2 : Hid (Blk w2 (w.heap.size + 1 + 1) #[.string f.name, .int .i64 f.limit, .slice (some ⟨w.heap.size + 1 + 1 + 1, 0, none⟩) f.mets.length f.mets.length, .slice none 0 0] 87) := (X1.out.set 2 _).later hb2
  have R2 : Hid (Blk w2 (w.heap.size + 1) #[.string ByteArray.empty, .int .i64 0, .slice none 0 0, .slice none 0 0] 87) := (R1.out.but ((But.refl _ _).setCell _ _) (by omega)).later hb2
  have r0 : w2.cell? ⟨w.heap.size + 1 + 1, 0, none⟩ = some (.string f.name) := X2.out.cell 0
  have r1 : w2.cell? ⟨w.heap.size + 1 + 1, 1, none⟩ = some (.int .i64 f.limit) := X2.out.cell 1
  have r2 : w2.cell? ⟨w.heap.size + 1 + 1, 2, none⟩ = some (.slice (some ⟨w.heap.size + 1 + 1 + 1, 0, none⟩) f.mets.length f.mets.length) := X2.out.cell 2
  have r3 : w2.cell? ⟨w.heap.size + 1 + 1, 3, none⟩ = some (.slice none 0 0) := X2.out.cell 3
  have r4 := X2.out.free 3
  have s0 : w2.cell? ⟨w.heap.size + 1, 0, none⟩ = some (.string ByteArray.empty) := R2.out.cell 0
  have s1 : w2.cell? ⟨w.heap.size + 1, 1, none⟩ = some (.int .i64 0) := R2.out.cell 1
  have s2 : w2.cell? ⟨w.heap.size + 1, 2, none⟩ = some (.slice none 0 0) := R2.out.cell 2
  have s3 : w2.cell? ⟨w.heap.size + 1, 3, none⟩ = some (.slice none 0 0) := R2.out.cell 3
  have u0 := R2.out.free 0
  have u1 := R2.out.free 1
  have u2 := R2.out.free 2
  have u3 := R2.out.free 3
  clear o2 z2 B1 B1' O1 hb2 q1 q2 q3 X1 R1
  go_wp2
  refine bodyPost_ret (v := .agg #[.string f.name, .int .i64 f.limit, .slice (some ⟨w.heap.size + 1 + 1 + 1, 0, none⟩) f.mets.length f.mets.length, .slice (some ⟨w1.heap.size, 0, none⟩) f.sers.length f.sers.length]) (by simp [results, Try.results78, go_sem, s0, s1, s2, s3]) rfl ⟨_, _, rfl, by omega, z1', ?_, ?_, ?_⟩
  · exact ((((((O1'.out.but ((But.refl _ _).setCell _ _) (by omega)).but ((But.refl _ _).setCell _ _) (by omega)).but ((But.refl _ _).setCell _ _) (by omega)).but ((But.refl _ _).setCell _ _) (by omega)).but ((But.refl _ _).setCell _ _) (by omega))).mono (by omega)
  · exact ((((((O2.out.but ((But.refl _ _).setCell _ _) (by omega)).but ((But.refl _ _).setCell _ _) (by omega)).but ((But.refl _ _).setCell _ _) (by omega)).but ((But.refl _ _).setCell _ _) (by omega)).but ((But.refl _ _).setCell _ _) (by omega))).mono (by omega)
  · exact ((((B2.out.setCell (by simp; omega) _).setCell (by simp) _).setCell (by simp) _).setCell (by simp) _).setCell (by simp) _
end Go.Proofs.Ytgpgacncmoiefaa
