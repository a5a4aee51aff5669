import Derived.Test.YtgnppdghjlnlhaaGreatDoorProg
import Derived.Test.YtgnppdghjlnlhaaGreatDoorJ26AppE
import Derived.Test.YtgnppdghjlnlhaaGreatDoorJ27CpyS
import Derived.Test.YtgnppdghjlnlhaaGreatDoorJ04Clone
import Derived.Deep.Cut
import Derived.Lib.AppendZeros
import Derived.Deep.AppendLies
import Derived.Test.YtgnppdghjlnlhaaGreatDoorJ21MarkT
namespace Go.Proofs.YtgnppdghjlnlhaaGreatDoor
open Go.RowKit
theorem row_formS {W : World} {B : Nat} {e : TypeId} {size : Nat} {v : Value} {n : Nat} {xs : List Value} (h : W.ownsRow B e size v n xs) : ∃ a c, v = .slice a n c := by
  rcases h.2 with ⟨rfl, rfl⟩ | ⟨g, cap, cur, rfl, _⟩
  · exact ⟨none, 0, rfl⟩
  · exact ⟨_, _, rfl⟩
theorem at_two {C : World → Prop} {w : World} {cs cs' : Array Value} {t t' : TypeId} (k : ∀ W, Below w.heap.size w W → Blk W w.heap.size cs t → Blk W (w.heap.size + 1) cs' t' → W.heap.size = w.heap.size + 1 + 1 → C W) : C ((w.alloc (.cells cs t)).alloc (.cells cs' t')) :=
  k _ (bto (bnew _ _) (bnew _ _)) ((Blk.new w _ _).alloc _) (by have := Blk.new (w.alloc (.cells cs t)) cs' t'; simpa using this) (by simp)
theorem copyF_run (W : World) (a : Option Addr) (cap : Nat) (fs : List FileD) (hf : FilesIn W a fs) (hlen : fs.length ≤ 2000000) :
    ∃ a1 cap1 w2, (Builtin.append_ #[35, 35] 35 #[.slice (some ⟨W.heap.size, 0, none⟩) 0 0, .slice a fs.length cap]).run Tryz.prog (W.alloc (.cells #[] 104)) = .ok (.slice a1 fs.length cap1) w2 ∧
      Owned w2 W.heap.size a1 fs ∧ Below W.heap.size W w2 ∧ ∀ g o, a1 = some ⟨g, o, none⟩ → g < w2.heap.size := by
  obtain ⟨i, hi, hz0, hz1, hz2⟩ := info_filex
  cases a with
  | none =>
    have h0 : fs = [] := by
      rcases hf with h | ⟨b, o, e, _⟩
      · exact h
      · exact absurd e (by simp)
    subst h0
    refine ⟨some ⟨W.heap.size, 0, none⟩, 0, W.alloc (.cells #[] 104), ?_, Or.inl rfl, bnew _ _, fun g o e => by simp only [Option.some.injEq, Addr.mk.injEq] at e; simp; omega⟩
    simp [Builtin.append_, run_underlying Tryz.underlying35, sizeOf, typeInfo, hi, Builtin.lenOf, Builtin.firstCells, storeCells]
  | some ad =>
    have hown := World.ownsRow_made W (e := 104) (size := 3) #[] 0 (Nat.le_refl _) (by simp [maxLen]) (by simp)
    have hnews : ∀ j u, (flat fs)[j]? = some u → (W.alloc (.cells #[] 104)).cell? (ad.add j) = some u := by
      rcases hf.later (bnew W (.cells #[] 104)) with rfl | ⟨b, o, e, _, h⟩
      · intro j u h; simp [flat] at h
      · simp only [Option.some.injEq] at e
        subst e
        exact cells_of_files h
    obtain ⟨v', w', hr, h2, h3, _, _⟩ := run_append_own_at (P := Tryz.prog) (W.alloc (.cells #[] 104)) W.heap.size 35 35 104 i _ 3 40 Tryz.underlying35 hi hz0 hz1 hz2 rfl (by omega) (.slice (some ⟨W.heap.size, 0, none⟩) 0 0) 0 [] hown ad fs.length cap (flat fs) (flat_length fs) hnews (flat_one_cell fs) (by simp [maxLen]; omega) (by omega) (by simp)
    simp only [Nat.zero_add, List.nil_append] at h2
    have hbel : Below W.heap.size W w' := (bnew _ _).grown h3 (by simp) (fun k hk => by
      simp [Value.ownBlock] at hk
      omega)
    obtain ⟨a1, cap1, rfl⟩ := row_formS h2
    exact ⟨a1, cap1, w', hr, (by obtain ⟨a2, c2, e, ho⟩ := owned_of_row h2; simp only [Value.slice.injEq] at e; obtain ⟨rfl, _, _⟩ := e; exact ho), hbel, fun g o e => (h2.lt g (by rw [e]; rfl)).2⟩
theorem copyM_run (W : World) (a : Option Addr) (cap : Nat) (fs : List PairD) (hf : PairsIn W a fs) (hlen : fs.length ≤ 2000000) :
    ∃ a1 cap1 w2, (Builtin.append_ #[91, 91] 91 #[.slice (some ⟨W.heap.size, 0, none⟩) 0 0, .slice a fs.length cap]).run Tryz.prog (W.alloc (.cells #[] 99)) = .ok (.slice a1 fs.length cap1) w2 ∧
      PairsOwn w2 W.heap.size a1 fs ∧ Below W.heap.size W w2 ∧ ∀ g o, a1 = some ⟨g, o, none⟩ → g < w2.heap.size := by
  obtain ⟨i, hi, hz0, hz1, hz2⟩ := info_parts info_mlC
  cases a with
  | none =>
    have h0 : fs = [] := by
      rcases hf with h | ⟨b, o, e, _⟩
      · exact h
      · exact absurd e (by simp)
    subst h0
    refine ⟨some ⟨W.heap.size, 0, none⟩, 0, W.alloc (.cells #[] 99), ?_, Or.inl rfl, bnew _ _, fun g o e => by simp only [Option.some.injEq, Addr.mk.injEq] at e; simp; omega⟩
    simp [Builtin.append_, run_underlying Tryz.underlying91, sizeOf, typeInfo, hi, Builtin.lenOf, Builtin.firstCells, storeCells]
  | some ad =>
    have hown := World.ownsRow_made W (e := 99) (size := 2) #[] 0 (Nat.le_refl _) (by simp [maxLen]) (by simp)
    have hnews : ∀ j u, (flatK fs)[j]? = some u → (W.alloc (.cells #[] 99)).cell? (ad.add j) = some u := by
      rcases hf.later (bnew W (.cells #[] 99)) with rfl | ⟨b, o, e, _, h⟩
      · intro j u h; simp [flatK] at h
      · simp only [Option.some.injEq] at e
        subst e
        exact pairs_news h
    obtain ⟨v', w', hr, h2, h3, _, _⟩ := run_append_own_at (P := Tryz.prog) (W.alloc (.cells #[] 99)) W.heap.size 91 91 99 i _ 2 24 Tryz.underlying91 hi hz0 hz1 hz2 rfl (by omega) (.slice (some ⟨W.heap.size, 0, none⟩) 0 0) 0 [] hown ad fs.length cap (flatK fs) (flatK_length fs) hnews (flatK_cell fs) (by simp [maxLen]; omega) (by omega) (by simp)
    simp only [Nat.zero_add, List.nil_append] at h2
    have hbel : Below W.heap.size W w' := (bnew _ _).grown h3 (by simp) (fun k hk => by
      simp [Value.ownBlock] at hk
      omega)
    obtain ⟨a1, cap1, rfl⟩ := row_formS h2
    exact ⟨a1, cap1, w', hr, pairs_of_row h2, hbel, fun g o e => (h2.lt g (by rw [e]; rfl)).2⟩
theorem copyX_run (W : World) (a : Option Addr) (cap : Nat) (fs : List PairD) (hf : PairsIn W a fs) (hlen : fs.length ≤ 2000000) :
    ∃ a1 cap1 w2, (Builtin.append_ #[92, 92] 92 #[.slice (some ⟨W.heap.size, 0, none⟩) 0 0, .slice a fs.length cap]).run Tryz.prog (W.alloc (.cells #[] 101)) = .ok (.slice a1 fs.length cap1) w2 ∧
      PairsOwn w2 W.heap.size a1 fs ∧ Below W.heap.size W w2 ∧ ∀ g o, a1 = some ⟨g, o, none⟩ → g < w2.heap.size := by
  obtain ⟨i, hi, hz0, hz1, hz2⟩ := info_parts info_srC
  cases a with
  | none =>
    have h0 : fs = [] := by
      rcases hf with h | ⟨b, o, e, _⟩
      · exact h
      · exact absurd e (by simp)
    subst h0
    refine ⟨some ⟨W.heap.size, 0, none⟩, 0, W.alloc (.cells #[] 101), ?_, Or.inl rfl, bnew _ _, fun g o e => by simp only [Option.some.injEq, Addr.mk.injEq] at e; simp; omega⟩
    simp [Builtin.append_, run_underlying Tryz.underlying92, sizeOf, typeInfo, hi, Builtin.lenOf, Builtin.firstCells, storeCells]
  | some ad =>
    have hown := World.ownsRow_made W (e := 101) (size := 2) #[] 0 (Nat.le_refl _) (by simp [maxLen]) (by simp)
    have hnews : ∀ j u, (flatK fs)[j]? = some u → (W.alloc (.cells #[] 101)).cell? (ad.add j) = some u := by
      rcases hf.later (bnew W (.cells #[] 101)) with rfl | ⟨b, o, e, _, h⟩
      · intro j u h; simp [flatK] at h
      · simp only [Option.some.injEq] at e
        subst e
        exact pairs_news h
    obtain ⟨v', w', hr, h2, h3, _, _⟩ := run_append_own_at (P := Tryz.prog) (W.alloc (.cells #[] 101)) W.heap.size 92 92 101 i _ 2 24 Tryz.underlying92 hi hz0 hz1 hz2 rfl (by omega) (.slice (some ⟨W.heap.size, 0, none⟩) 0 0) 0 [] hown ad fs.length cap (flatK fs) (flatK_length fs) hnews (flatK_cell fs) (by simp [maxLen]; omega) (by omega) (by simp)
    simp only [Nat.zero_add, List.nil_append] at h2
    have hbel : Below W.heap.size W w' := (bnew _ _).grown h3 (by simp) (fun k hk => by
      simp [Value.ownBlock] at hk
      omega)
    obtain ⟨a1, cap1, rfl⟩ := row_formS h2
    exact ⟨a1, cap1, w', hr, pairs_of_row h2, hbel, fun g o e => (h2.lt g (by rw [e]; rfl)).2⟩
set_option maxRecDepth 100000 in
set_option maxHeartbeats 1000000 in
theorem l5Disk_any (a : Option Addr) (ca : Nat) (K : DiskD) (w : World) (hf : FilesIn w a K.fs) (hl : K.fs.length ≤ 1048576) :
    Calls Tryz.prog 46 #[.agg #[.slice a K.fs.length ca, .int .i64 K.c, .int .i64 K.k, .int .i64 K.cr, .int .i64 K.fl, .bool K.dn]] w fun e w' => ∃ a' ca', e = .returned (.agg #[.slice a' K.fs.length ca', .int .i64 K.c, .int .i64 K.k, .int .i64 K.cr, .int .i64 K.fl, .bool K.dn]) ∧ FilesA w' (fun x => w.heap.size ≤ x ∧ x < w'.heap.size) a' K.fs ∧ Below w.heap.size w w' := by
  go_enter Tryz.func46, Tryz.ntmps46
  go_upto_region 1 with fail
  refine at_two (C := fun W => Code.wp Tryz.prog _ _ _ W) ?_
  intro w0 hb0 P0 R0 hz0
  obtain ⟨a1, c1, w2, hrun, ho, hb2, _⟩ := copyF_run w0 a ca K.fs (hf.later hb0) (by omega)
  have HRUN := hid hrun
  have P2 := P0.later hb2
  have R2 := R0.later hb2
  have W2 := hid (ho.toA (Nat.le_refl _))
  have B2 := hid (bto hb0 hb2)
  have hz2 := hb2.size
  have q0 : w0.cell? ⟨w.heap.size, 0, none⟩ = some (.slice a K.fs.length ca) := P0.cell 0
  have hn0 : w.heap.size < w0.heap.size := by omega
  have hn1 : ¬ w.heap.size = w0.heap.size := by omega
  have p0 := P2.cell 0
  have p1 := P2.cell 1
  have p2 := P2.cell 2
  have p3 := P2.cell 3
  have p4 := P2.cell 4
  have p5 := P2.cell 5
  have r0 := R2.cell 0
  have r1 := R2.cell 1
  have r2 := R2.cell 2
  have r3 := R2.cell 3
  have r4 := R2.cell 4
  have r5 := R2.cell 5
  simp only [List.getElem?_toArray, List.getElem?_cons_zero, List.getElem?_cons_succ] at p0 p1 p2 p3 p4 p5 r0 r1 r2 r3 r4 r5
  obtain ⟨f0, f1, f2, f3, f4, f5, _⟩ := P2.frees
  obtain ⟨g0, g1, g2, g3, g4, g5, _⟩ := R2.frees
  have HZ := hid hz0
  clear hb0 P0 R0 hrun ho hb2 P2 R2 hf hz0
  go_wp2_with (at_builtin; refine Lib.wpList_append_run _ rfl _ _ _ _ rfl _ _ rfl rfl _ _ HRUN.out ?_)
  refine bodyPost_ret (v := .agg #[.slice a1 K.fs.length c1, .int .i64 K.c, .int .i64 K.k, .int .i64 K.cr, .int .i64 K.fl, .bool K.dn]) (by simp [results, Tryz.results46, go_sem, r0, r1, r2, r3, r4, r5]) rfl ?_
  refine Turn.end2 (S := fun x => x = w.heap.size ∨ x = w.heap.size + 1) (C := fun W => ∃ a' ca', Ending.returned (.agg #[.slice a1 K.fs.length c1, .int .i64 K.c, .int .i64 K.k, .int .i64 K.cr, .int .i64 K.fl, .bool K.dn]) = Ending.returned (.agg #[.slice a' K.fs.length ca', .int .i64 K.c, .int .i64 K.k, .int .i64 K.cr, .int .i64 K.fl, .bool K.dn]) ∧ FilesA W (fun x => w.heap.size ≤ x ∧ x < W.heap.size) a' K.fs ∧ Below w.heap.size w W) w2 (by
    repeat (with_reducible first | exact Turn.refl _ _ | refine Turn.setCell ?_ (Or.inl (by first | exact Or.inl rfl | exact Or.inr rfl)) _ _)) ?_
  intro w6 T6
  have hz6 := T6.size
  have hz0 := HZ.out
  exact ⟨_, _, rfl, (W2.out.turned T6 (fun x hx _ e => by omega)).mono (fun x hx => by omega), B2.out.trans (T6.below (by have := B2.out.size; omega) (fun k hk e => by omega))⟩
end Go.Proofs.YtgnppdghjlnlhaaGreatDoor
namespace Go.Proofs.YtgnppdghjlnlhaaGreatDoor
open Go.RowKit
theorem at_one {C : World → Prop} {w : World} {cs : Array Value} {t : TypeId} (k : ∀ W, Below w.heap.size w W → Blk W w.heap.size cs t → W.heap.size = w.heap.size + 1 → C W) : C (w.alloc (.cells cs t)) :=
  k _ (bnew _ _) (Blk.new w _ _) (by simp)
theorem at_box2 {C : World → Prop} {w : World} {O : Nat} {v0 v1 v2 v3 u : Value} {t : TypeId} (h : Blk w O #[v0, v1, v2, v3] t) (k : ∀ W, Blk W O #[v0, v1, u, v3] t → Turn (· = O) w W → C W) : C (w.setCell ⟨O, 2, none⟩ u) :=
  k _ (by have := h.set 2 u; simpa using this) ((Turn.refl (· = O) w).setCell (Or.inl rfl) 2 u)
theorem at_box3 {C : World → Prop} {w : World} {O : Nat} {v0 v1 v2 v3 u : Value} {t : TypeId} (h : Blk w O #[v0, v1, v2, v3] t) (k : ∀ W, Blk W O #[v0, v1, v2, u] t → Turn (· = O) w W → C W) : C (w.setCell ⟨O, 3, none⟩ u) :=
  k _ (by have := h.set 3 u; simpa using this) ((Turn.refl (· = O) w).setCell (Or.inl rfl) 3 u)
theorem PairsOwn.turned {S : Nat → Prop} {w w' : World} {B : Nat} {a : Option Addr} {ps : List PairD} (h : PairsOwn w B a ps) (ht : Turn S w w') (hS : ∀ g, B ≤ g → ¬ S g) : PairsOwn w' B a ps := by
  rcases h with h | ⟨g, o, cur, t, e, hB, hg, h⟩
  · exact Or.inl h
  · have hk := ht.block g (lt_of_block hg) (hS g hB)
    have hc : ∀ j, w'.cell? ⟨g, j, none⟩ = w.cell? ⟨g, j, none⟩ := fun j => World.cell?_of_block hk
    exact Or.inr ⟨g, o, cur, t, e, hB, hk.trans hg, fun i hi => by simp only [hc]; exact h i hi⟩
set_option maxRecDepth 100000 in
set_option maxHeartbeats 4000000 in
theorem l5Copy_any (a b : Option Addr) (ca cb : Nat) (N : NodeD) (w : World) (hf : FilesIn w a N.d.fs) (hl : N.d.fs.length ≤ 1048576) (ht : TensIn w b N.ts) (hlt : N.ts.length ≤ 2000000) (hfit : ∀ t ∈ N.ts, t.mets.length ≤ 2000000 ∧ t.sers.length ≤ 2000000) :
    Calls Tryz.prog 15 #[.agg #[.slice a N.d.fs.length ca, .int .i64 N.d.c, .int .i64 N.d.k, .int .i64 N.d.cr, .int .i64 N.d.fl, .bool N.d.dn, .int .i64 N.l.first, .int .i64 N.l.last, .int .i64 N.l.size, .int .i64 N.now, .slice b N.ts.length cb, .int .i64 N.lsn, .bool N.deg, .bool N.up]] w fun e w' => ∃ a' ca' b' cb', e = .returned (.agg #[.slice a' N.d.fs.length ca', .int .i64 N.d.c, .int .i64 N.d.k, .int .i64 N.d.cr, .int .i64 N.d.fl, .bool N.d.dn, .int .i64 N.l.first, .int .i64 N.l.last, .int .i64 N.l.size, .int .i64 N.now, .slice b' N.ts.length cb', .int .i64 N.lsn, .bool N.deg, .bool N.up]) ∧ FilesA w' (fun x => w.heap.size ≤ x) a' N.d.fs ∧ TensA w' (fun x => w.heap.size ≤ x) b' N.ts ∧ Below w.heap.size w w' := by
  have HD := hid (fun W (hW : Below w.heap.size w W) => l5Disk_any a ca N.d W (hf.later hW) hl)
  have HT := hid ht
  have HFT := hid hfit
  clear hf ht hfit
  go_enter Tryz.func15, Tryz.ntmps15
  go_wp2_with fail
  refine (HD.out _ (bto (bnew _ _) (bnew _ _))).mono ?_
  rintro e w1 ⟨a', ca', rfl, hf1, hb1⟩
  have P1 := hid (((Blk.new w _ _).alloc _).later hb1)
  have R1 := hid ((Blk.new (w.alloc _) _ _).later hb1)
  simp only [World.size_alloc] at R1 hf1
  have B1 := hid (bto (bto (bnew _ _) (bnew _ _)) hb1)
  have hz1 := hb1.size
  simp only [World.size_alloc] at hz1
  have F1 := hid hf1
  obtain ⟨o0, o1, o2, o3, o4, o5, o6, o7, o8, o9, o10, o11, o12, o13⟩ := P1.out.n14
  obtain ⟨f0, f1, f2, f3, f4, f5, f6, f7, f8, f9, f10, f11, f12, f13⟩ := P1.out.frees
  clear hb1 hf1 HD
  go_upto_region 2 with fail
  refine at_put6 (C := fun W => Code.wp Tryz.prog _ _ _ W) P1.out ?_
  intro w2 P2 T2
  have R2 := hid (T2.blk R1.out (by omega))
  have F2 := hid (F1.out.turned T2 (fun x hx _ e => by omega))
  have hz2 := T2.size
  have B2 := hid (B1.out.trans (T2.below (by have := B1.out.size; omega) (fun k hk e => by omega)))
  clear o0 o1 o2 o3 o4 o5 o6 o7 o8 o9 o10 o11 o12 o13 f0 f1 f2 f3 f4 f5 f6 f7 f8 f9 f10 f11 f12 f13 P1 R1 F1 B1 T2
  obtain ⟨o0, o1, o2, o3, o4, o5, o6, o7, o8, o9, o10, o11, o12, o13⟩ := P2.n14
  replace P2 := hid P2
  have hn0 : w.heap.size < w2.heap.size := by omega
  have hn1 : ¬ w.heap.size = w2.heap.size := by omega
  go_wp2
  obtain ⟨i3, hi3, hq0, hq1, hq2⟩ := info_parts info_tnC
  have HI3 := hid hi3
  clear o0 o1 o2 o3 o4 o5 o6 o7 o8 o9 o10 o11 o12 o13 hi3
  go_loopw [3, 15] (fun al i wr => ∃ (j : Nat) (v : Value), j ≤ N.ts.length ∧ i = .int .i64 j ∧ v = al ∧ Hid (RowV wr w2.heap.size 94 v j (N.ts.take j)) ∧ Hid (Below w2.heap.size w2 wr) ∧ w2.heap.size < wr.heap.size) (fun _ i _ => N.ts.length - (RowKit.intOf i).toNat)
  case atStart => exact ⟨0, _, Nat.zero_le _, rfl, rfl, ⟨fun _ => 0, [], World.ownsRow_made w2 #[] 0 (Nat.le_refl _) (by simp [maxLen]) (by simp), by simp, fun _ _ => rfl, fun i h => absurd h (by simp)⟩, bnew _ _, by simp⟩
  case round =>
    obtain ⟨j, v, hj, rfl, rfl, hrow, hbel, hsz⟩ := hrel
    by_cases hlt2 : j < N.ts.length
    · obtain ⟨bb, oo, a1, c1, a2, c2, rfl, hbb, k0, k1, k2, k3, p1, p2⟩ := ((HT.out.later B2.out).later hbel.out).at (i := j) hlt2
      have hft := HFT.out _ (List.getElem_mem hlt2)
      obtain ⟨t, ht⟩ : ∃ t, t = N.ts[j] := ⟨_, rfl⟩
      have HE := hid (show N.ts.take (j + 1) = N.ts.take j ++ [t] by rw [ht, List.take_succ_eq_append_getElem hlt2])
      rw [← ht] at k0 k1 k2 k3 p1 p2 hft
      clear ht
      go_upto_region 6 with fail
      refine at_one (C := fun W => Code.wp Tryz.prog _ _ _ W) ?_
      intro w3 hb3 X3 hz3
      obtain ⟨q1, d1, w4, hr4, ho4, hb4, hq4⟩ := copyM_run w3 a1 c1 t.mets (p1.later hb3) hft.1
      have HR4 := hid hr4
      have x2 : w3.cell? ⟨wr.heap.size, 2, none⟩ = some (.slice a1 t.mets.length c1) := X3.cell 2
      have hn0 : wr.heap.size < w3.heap.size := by omega
      have hn1 : ¬ wr.heap.size = w3.heap.size := by omega
      have X4 := hid (X3.later hb4)
      have y2 : w4.cell? ⟨wr.heap.size, 2, none⟩ = some (.slice a1 t.mets.length c1) := X4.out.cell 2
      have f2 := X4.out.free 2
      have HZ := hid hz3
      have hz3' : wr.heap.size ≤ w3.heap.size := by omega
      have hz4 := hb4.size
      have P4 := hid p2
      have B4 := hid (bto hb3 hb4)
      have O4 := hid ho4
      have Q4 := hid hq4
      clear hq4 k0 k1 k2 k3 p1 p2 hr4 ho4 hb4 X3 hz3 hb3
      go_upto_region 7 with (at_builtin; refine Lib.wpList_append_run _ rfl _ _ _ _ rfl _ _ rfl rfl _ _ HR4.out ?_)
      refine at_box2 (C := fun W => Code.wp Tryz.prog _ _ _ W) X4.out ?_
      intro w5 X5 T5
      have hz3 := HZ.out
      have hz5 := T5.size
      have B5 := hid (B4.out.trans (T5.below (by omega) (fun k hk e => by omega)))
      have M5 := hid (O4.out.turned T5 (fun g hg e => by omega))
      have hM : ∀ g o, q1 = some ⟨g, o, none⟩ → g < w5.heap.size := fun g o e => by have := Q4.out g o e; omega
      obtain ⟨q2, d2, w6, hr6, ho6, hb6, _⟩ := copyX_run w5 a2 c2 t.sers (P4.out.later B5.out) hft.2
      have HR6 := hid hr6
      have x3 : w5.cell? ⟨wr.heap.size, 3, none⟩ = some (.slice a2 t.sers.length c2) := X5.cell 3
      have hn2 : wr.heap.size < w5.heap.size := by omega
      have hn3 : ¬ wr.heap.size = w5.heap.size := by omega
      have X6 := hid (X5.later hb6)
      have y3 : w6.cell? ⟨wr.heap.size, 3, none⟩ = some (.slice a2 t.sers.length c2) := X6.out.cell 3
      have f3 := X6.out.free 3
      have hz6 := hb6.size
      have B6 := hid (bto B5.out (hb6.mono (by omega)))
      have M6 := hid (M5.out.later hb6)
      have O6 := hid ho6
      have HM := hid hM
      clear x2 y2 f2 hn0 hn1 hr6 ho6 hb6 X5 hM T5 X4 O4 Q4 P4 M5 HR4 B4 B5 hz3
      go_upto_region 8 with (at_builtin; refine Lib.wpList_append_run _ rfl _ _ _ _ rfl _ _ rfl rfl _ _ HR6.out ?_)
      refine at_box3 (C := fun W => Code.wp Tryz.prog _ _ _ W) X6.out ?_
      intro w7 X7 T7
      have hz3 := HZ.out
      have hz7 := T7.size
      have B7 := hid (B6.out.trans (T7.below (by omega) (fun k hk e => by omega)))
      have M7 := hid (M6.out.turned T7 (fun g hg e => by omega))
      have S7 := hid (O6.out.turned T7 (fun g hg e => by omega))
      obtain ⟨av, cv, rfl⟩ := hrow.out.row
      obtain ⟨T, ys, hv1, hv2, hv3, hv4⟩ := hrow.out
      have hyk : ys.length = j := by have := congrArg List.length hv2; simp at this; omega
      have V1 := hid (row_later hv1 B7.out)
      have V2 := hid hv2
      have V3 := hid hv3
      have V4 := hid hv4
      have hob := hid (fun g hg => hv1.lt g hg)
      have z0 : w7.cell? ⟨wr.heap.size, 0, none⟩ = some (.string t.name) := X7.cell 0
      have z1 : w7.cell? ⟨wr.heap.size, 1, none⟩ = some (.int .i64 t.limit) := X7.cell 1
      have z2 : w7.cell? ⟨wr.heap.size, 2, none⟩ = some (.slice q1 t.mets.length d1) := X7.cell 2
      have z3 : w7.cell? ⟨wr.heap.size, 3, none⟩ = some (.slice q2 t.sers.length d2) := X7.cell 3
      have HYK := hid hyk
      clear x3 y3 f3 hn2 hn3 X6 X7 T7 M6 O6 HR6 B6 hv1 hv2 hv3 hv4 hyk hz3
      go_wp2_with (at_builtin; refine wpList_append_lies _ rfl _ _ _ rfl w2.heap.size 94 i3 _ 4 72 Tryz.underlying39 HI3.out hq0 hq1 hq2 rfl (by omega) (.slice av j cv) j (flatV ys) rfl (by exact V1.out.alloc _) ⟨w7.heap.size, 0, none⟩ 1 1 [.string t.name, .int .i64 t.limit, .slice q1 t.mets.length d1, .slice q2 t.sers.length d2] rfl rfl (by have := World.news_of_block (cs := #[.string t.name, .int .i64 t.limit, .slice q1 t.mets.length d1, .slice q2 t.sers.length d2]) (t := 94) (fr := (0, 0)) (heap_alloc_new w7 (.cells #[.string t.name, .int .i64 t.limit, .slice q1 t.mets.length d1, .slice q2 t.sers.length d2] 94)); simpa using this) (by simp [Value.oneCell']) (by omega) (by simp [maxLen]; omega) (by omega) (by simp; omega) (w7.heap.size + 1) (by simp) ?_; intro g5 cap5 w8 hown5 hgrow5 hat5 hlt5)
      have hz3 := HZ.out
      have hob2 := hob.out
      have hgg : ((Value.slice av j cv).ownBlock = some g5 ∧ g5 < wr.heap.size) ∨ w7.heap.size ≤ g5 := by
        rcases hat5 with h | h
        · exact Or.inl ⟨h, (hob2 _ h).2⟩
        · exact Or.inr (by omega)
      have hk5 : ∀ g, g < w7.heap.size → (Value.slice av j cv).ownBlock ≠ some g → w8.heap[g]? = w7.heap[g]? := fun g hg hne => by
        rw [(Turn.grown hgrow5).block g (by simp; omega) hne]
        exact (bnew _ _).block g hg
      refine ⟨⟨j + 1, (.slice (some ⟨g5, 0, none⟩) (j + 1) cap5), by omega, by go_num, rfl, ?_, ?_, ?_⟩, by simp [RowKit.intOf]; omega⟩
      · show RowV _ _ _ _ _ _
        rw [HE.out]
        exact RowV.snoc (wr := wr) (w4 := w7) (M := w5.heap.size) (v := .slice av j cv) (T := T) (ys := ys) (t := t) hown5 V2.out HYK.out V3.out V4.out (by omega) (by omega)
          (fun g hg _ hne => (hk5 g (by omega) hne).trans (B7.out.block g hg))
          (fun g hg hg4 => hk5 g hg4 (fun e => by have := (hob2 _ e).2; omega))
          (M7.out.mono (by omega)) HM.out S7.out hgg (by omega) (by omega)
      · exact (hbel.out.trans (B7.out.mono (by omega))).trans (((bnew _ _).mono (by omega)).trans ((Turn.grown hgrow5).below (by simp; omega) (fun k hk e => by have := (hob2 _ e).1; omega)))
      · have := hgrow5.size; simp at this; omega
    · obtain rfl : j = N.ts.length := by omega
      have hrw := hrow.out
      rw [List.take_length] at hrw
      obtain ⟨b', cb', rfl⟩ := hrw.row
      have X9 := hid ((hrw.own rfl).toA (Nat.le_refl _))
      have F9 := hid (F2.out.later hbel.out)
      have B9 := hid (bto B2.out hbel.out)
      obtain ⟨o0, o1, o2, o3, o4, o5, o6, o7, o8, o9, o10, o11, o12, o13⟩ := (P2.out.later hbel.out).n14
      obtain ⟨f0, f1, f2, f3, f4, f5, f6, f7, f8, f9, f10, f11, f12, f13⟩ := (P2.out.later hbel.out).frees
      obtain ⟨r0, r1, r2, r3, r4, r5, r6, r7, r8, r9, r10, r11, r12, r13⟩ := (R2.out.later hbel.out).n14
      obtain ⟨g0, g1, g2, g3, g4, g5, g6, g7, g8, g9, g10, g11, g12, g13⟩ := (R2.out.later hbel.out).frees
      clear hrow hrw
      go_wp2
      refine bodyPost_ret (v := .agg #[.slice a' N.d.fs.length ca', .int .i64 N.d.c, .int .i64 N.d.k, .int .i64 N.d.cr, .int .i64 N.d.fl, .bool N.d.dn, .int .i64 N.l.first, .int .i64 N.l.last, .int .i64 N.l.size, .int .i64 N.now, .slice b' N.ts.length cb', .int .i64 N.lsn, .bool N.deg, .bool N.up]) (by simp [results, Tryz.results15, go_sem, r0, r1, r2, r3, r4, r5, r6, r7, r8, r9, r10, r11, r12, r13]) rfl ?_
      refine Turn.end2 (S := fun x => x = w.heap.size ∨ x = w.heap.size + 1) (C := fun W => ∃ a1 c1 b1 d1, Ending.returned (.agg #[.slice a' N.d.fs.length ca', .int .i64 N.d.c, .int .i64 N.d.k, .int .i64 N.d.cr, .int .i64 N.d.fl, .bool N.d.dn, .int .i64 N.l.first, .int .i64 N.l.last, .int .i64 N.l.size, .int .i64 N.now, .slice b' N.ts.length cb', .int .i64 N.lsn, .bool N.deg, .bool N.up]) = Ending.returned (.agg #[.slice a1 N.d.fs.length c1, .int .i64 N.d.c, .int .i64 N.d.k, .int .i64 N.d.cr, .int .i64 N.d.fl, .bool N.d.dn, .int .i64 N.l.first, .int .i64 N.l.last, .int .i64 N.l.size, .int .i64 N.now, .slice b1 N.ts.length d1, .int .i64 N.lsn, .bool N.deg, .bool N.up]) ∧ FilesA W (fun x => w.heap.size ≤ x) a1 N.d.fs ∧ TensA W (fun x => w.heap.size ≤ x) b1 N.ts ∧ Below w.heap.size w W) wr (by
        repeat (with_reducible first | exact Turn.refl _ _ | refine Turn.setCell ?_ (Or.inl (by first | exact Or.inl rfl | exact Or.inr rfl)) _ _)) ?_
      intro w6 T6
      exact ⟨_, _, _, _, rfl, (F9.out.turned T6 (fun x hx _ e => by omega)).mono (fun x hx => by omega), (X9.out.turned T6 (fun x hx _ e => by omega)).mono (fun x hx => by omega), B9.out.trans (T6.below (by have := B9.out.size; omega) (fun k hk e => by omega))⟩
end Go.Proofs.YtgnppdghjlnlhaaGreatDoor
namespace Go.Proofs.YtgnppdghjlnlhaaGreatDoor
open Go.RowKit
theorem at_node14 {C : World → Prop} {w : World} {O : Nat} {v0 v1 v2 v3 v4 v5 v6 v7 v8 v9 va vb vc vd u0 u1 u2 u3 u4 u5 u6 u7 u8 u9 ua ub uc ud : Value} {t : TypeId} (h : Blk w O #[v0, v1, v2, v3, v4, v5, v6, v7, v8, v9, va, vb, vc, vd] t)
    (k : ∀ w2, Blk w2 O #[u0, u1, u2, u3, u4, u5, u6, u7, u8, u9, ua, ub, uc, ud] t → Turn (· = O) w w2 → C w2) : C ((((((((((((((w.setCell ⟨O, 0, none⟩ u0).setCell ⟨O, 1, none⟩ u1).setCell ⟨O, 2, none⟩ u2).setCell ⟨O, 3, none⟩ u3).setCell ⟨O, 4, none⟩ u4).setCell ⟨O, 5, none⟩ u5).setCell ⟨O, 6, none⟩ u6).setCell ⟨O, 7, none⟩ u7).setCell ⟨O, 8, none⟩ u8).setCell ⟨O, 9, none⟩ u9).setCell ⟨O, 10, none⟩ ua).setCell ⟨O, 11, none⟩ ub).setCell ⟨O, 12, none⟩ uc).setCell ⟨O, 13, none⟩ ud) :=
  k _ (by have := ((((((((((((((h.set 0 u0).set 1 u1).set 2 u2).set 3 u3).set 4 u4).set 5 u5).set 6 u6).set 7 u7).set 8 u8).set 9 u9).set 10 ua).set 11 ub).set 12 uc).set 13 ud); simpa using this) (((((((((((((((Turn.refl (· = O) w).setCell (Or.inl rfl) 0 u0).setCell (Or.inl rfl) 1 u1).setCell (Or.inl rfl) 2 u2).setCell (Or.inl rfl) 3 u3).setCell (Or.inl rfl) 4 u4).setCell (Or.inl rfl) 5 u5).setCell (Or.inl rfl) 6 u6).setCell (Or.inl rfl) 7 u7).setCell (Or.inl rfl) 8 u8).setCell (Or.inl rfl) 9 u9).setCell (Or.inl rfl) 10 ua).setCell (Or.inl rfl) 11 ub).setCell (Or.inl rfl) 12 uc).setCell (Or.inl rfl) 13 ud)
theorem at_node9 {C : World → Prop} {w : World} {O : Nat} {v0 v1 v2 v3 v4 v5 v6 v7 v8 v9 va vb vc vd u0 u1 u2 u3 u4 u5 u6 u7 u8 : Value} {t : TypeId} (h : Blk w O #[v0, v1, v2, v3, v4, v5, v6, v7, v8, v9, va, vb, vc, vd] t)
    (k : ∀ w2, Blk w2 O #[u0, u1, u2, u3, u4, u5, u6, u7, u8, v9, va, vb, vc, vd] t → Turn (· = O) w w2 → C w2) : C (((((((((w.setCell ⟨O, 0, none⟩ u0).setCell ⟨O, 1, none⟩ u1).setCell ⟨O, 2, none⟩ u2).setCell ⟨O, 3, none⟩ u3).setCell ⟨O, 4, none⟩ u4).setCell ⟨O, 5, none⟩ u5).setCell ⟨O, 6, none⟩ u6).setCell ⟨O, 7, none⟩ u7).setCell ⟨O, 8, none⟩ u8) :=
  k _ (by have := (((((((((h.set 0 u0).set 1 u1).set 2 u2).set 3 u3).set 4 u4).set 5 u5).set 6 u6).set 7 u7).set 8 u8); simpa using this) ((((((((((Turn.refl (· = O) w).setCell (Or.inl rfl) 0 u0).setCell (Or.inl rfl) 1 u1).setCell (Or.inl rfl) 2 u2).setCell (Or.inl rfl) 3 u3).setCell (Or.inl rfl) 4 u4).setCell (Or.inl rfl) 5 u5).setCell (Or.inl rfl) 6 u6).setCell (Or.inl rfl) 7 u7).setCell (Or.inl rfl) 8 u8)
end Go.Proofs.YtgnppdghjlnlhaaGreatDoor
namespace Go.Proofs.YtgnppdghjlnlhaaGreatDoor
open Go.RowKit
theorem btw_is {x lo hi : Int} {b : Bool} (h : btwB x lo hi = b) (w : World) : Calls Tryz.prog 45 #[.int .i64 x, .int .i64 lo, .int .i64 hi] w fun e w' => e = .returned (.bool b) ∧ w' = w := h ▸ between_any x lo hi w
set_option maxRecDepth 100000 in
set_option maxHeartbeats 1000000 in
theorem specLogOK_any (L : LogD) (w : World) :
    Calls Tryz.prog 16 #[.agg #[.int .i64 L.first, .int .i64 L.last, .int .i64 L.size]] w fun e w' => e = .returned (.bool (logB L)) ∧ Below w.heap.size w w' := by
  have HB : Hid (Below w.heap.size w (w.alloc (.cells #[.int .i64 L.first, .int .i64 L.last, .int .i64 L.size] 38))) := bnew _ _
  cases h1 : btwB L.last 1 999999 with
  | false =>
    have E : Hid (logB L = false) := by show _ = _; simp [logB, h1]
    have H1 : Hid (btwB L.last 1 999999 = false) := h1
    clear h1
    go_enter Tryz.func16, Tryz.ntmps16
    go_wp2_with fail
    refine (btw_is H1.out _).mono ?_
    rintro e w' ⟨rfl, rfl⟩
    go_wp2
    go_ret
    exact ⟨ret_bool E.out.symm, HB.out⟩
  | true =>
    have H1 : Hid (btwB L.last 1 999999 = true) := h1
    cases h2 : btwB L.first 1 L.last with
    | false =>
      have E : Hid (logB L = false) := by show _ = _; simp [logB, h2]
      have H2 : Hid (btwB L.first 1 L.last = false) := h2
      clear h1 h2
      go_enter Tryz.func16, Tryz.ntmps16
      go_wp2_with fail
      refine (btw_is H1.out _).mono ?_
      rintro e w' ⟨rfl, rfl⟩
      go_wp2_with fail
      refine (btw_is H2.out _).mono ?_
      rintro e w' ⟨rfl, rfl⟩
      go_wp2
      go_ret
      exact ⟨ret_bool E.out.symm, HB.out⟩
    | true =>
      have H2 : Hid (btwB L.first 1 L.last = true) := h2
      have E : Hid (logB L = btwB L.size 0 1000000000) := by show _ = _; simp [logB, h1, h2]
      clear h1 h2
      go_enter Tryz.func16, Tryz.ntmps16
      go_wp2_with fail
      refine (btw_is H1.out _).mono ?_
      rintro e w' ⟨rfl, rfl⟩
      go_wp2_with fail
      refine (btw_is H2.out _).mono ?_
      rintro e w' ⟨rfl, rfl⟩
      go_wp2_with fail
      refine (between_any L.size 0 1000000000 _).mono ?_
      rintro e w' ⟨rfl, rfl⟩
      go_wp2
      go_ret
      exact ⟨ret_bool E.out.symm, HB.out⟩
end Go.Proofs.YtgnppdghjlnlhaaGreatDoor
