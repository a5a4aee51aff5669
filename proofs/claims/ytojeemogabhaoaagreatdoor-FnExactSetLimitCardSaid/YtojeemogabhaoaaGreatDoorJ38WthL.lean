import Derived.Test.YtojeemogabhaoaaGreatDoorProg
import Derived.Test.YtojeemogabhaoaaGreatDoorJ37LTell
import Derived.Test.YtojeemogabhaoaaGreatDoorJ33SlmL
import Derived.Test.YtojeemogabhaoaaGreatDoorJ02Ord
import Derived.Test.YtojeemogabhaoaaGreatDoorJ11IRd
import Derived.Test.YtojeemogabhaoaaGreatDoorJ24CfgT
import Derived.Test.YtojeemogabhaoaaGreatDoorJ23TenF
import Derived.Deep.AppendLies
import Derived.Deep.RegionHeld3
import Derived.Deep.DeepCutAuto
namespace Go.Proofs.YtojeemogabhaoaaGreatDoor
open Go.RowKit
theorem info_mlK : (Tryz.prog.info? 59).map (fun i => (i.zero, i.size, i.bytes)) = some (some (.agg #[.string ⟨#[]⟩, .int .i64 0]), 2, 24) := by kernel_rfl
theorem info_srK : (Tryz.prog.info? 61).map (fun i => (i.zero, i.size, i.bytes)) = some (some (.agg #[.string ⟨#[]⟩, .int .i64 0]), 2, 24) := by kernel_rfl
theorem keep_take (p : PairD → Bool) (ks : List PairD) (j : Nat) (h : j < ks.length) : (ks.take (j + 1)).filter p = (ks.take j).filter p ++ if p ks[j] = true then [ks[j]] else [] := by
  rw [List.take_succ_eq_append_getElem h, List.filter_append]
  congr 1
  by_cases e : p ks[j] = true
  · rw [if_pos e, List.filter_cons_of_pos e]; rfl
  · rw [if_neg e, List.filter_cons_of_neg e]; rfl
theorem keep_le (p : PairD → Bool) (ks : List PairD) (j : Nat) : ((ks.take j).filter p).length ≤ ks.length := by
  have h1 := List.length_filter_le p (ks.take j)
  rw [List.length_take] at h1
  omega
def KptAt (w1 : World) (t : TenD) (X : Nat) (wx : World) : Prop :=
  ∃ g1 d1, Blk wx X #[.string t.name, .int .i64 t.limit, .slice (some ⟨g1, 0, none⟩) t.mets.length d1, .slice none 0 0] 55 ∧ wx.ownsRow w1.heap.size 59 2 (.slice (some ⟨g1, 0, none⟩) t.mets.length d1) t.mets.length (flatK t.mets) ∧ w1.heap.size ≤ X ∧ g1 ≠ X ∧ Below w1.heap.size w1 wx
theorem new_two (W : World) (cs cs' : Array Value) {t t' : TypeId} : ((W.alloc (.cells cs t)).alloc (.cells cs' t')).drew.heap[W.heap.size + 1]? = some (.cells cs' t' (0, 0)) := by
  have h : Blk ((W.alloc (.cells cs t)).alloc (.cells cs' t')) (W.alloc (.cells cs t)).heap.size cs' t' := Blk.new _ _ _
  have e : (W.alloc (.cells cs t)).heap.size = W.heap.size + 1 := by simp
  rw [e] at h
  exact h
theorem new_one (W : World) (cs : Array Value) {t : TypeId} (o : Obj) : ((W.alloc (.cells cs t)).alloc o).drew.heap[W.heap.size]? = some (.cells cs t (0, 0)) := ((Blk.new W cs t).alloc o)
theorem set4 {w1 w5 : World} {X : Nat} {v0 v1 v2 v3 : Value} (h : Below w1.heap.size w1 w5) (hX : w1.heap.size ≤ X) : Below w1.heap.size w1 ((((w5.setCell ⟨X, 0, none⟩ v0).setCell ⟨X, 1, none⟩ v1).setCell ⟨X, 2, none⟩ v2).setCell ⟨X, 3, none⟩ v3) := (((h.setCell hX _).setCell hX _).setCell hX _).setCell hX _
theorem kpt_box {w1 w5 : World} {t : TenD} {X g5 cap5 n : Nat} (hb : Blk w5 X #[.string ⟨#[]⟩, .int .i64 0, .slice none 0 0, .slice none 0 0] 55) (hX : w1.heap.size ≤ X) (k5 : Below w1.heap.size w1 w5) (ho : w5.ownsRow w1.heap.size 59 2 (.slice (some ⟨g5, 0, none⟩) (0 + t.mets.length) cap5) (0 + t.mets.length) ([] ++ flatK t.mets)) (hg : g5 ≠ X) (hn : n = t.mets.length) :
    KptAt w1 t X ((((w5.setCell ⟨X, 0, none⟩ (.string t.name)).setCell ⟨X, 1, none⟩ (.int .i64 t.limit)).setCell ⟨X, 2, none⟩ (.slice (some ⟨g5, 0, none⟩) n cap5)).setCell ⟨X, 3, none⟩ (.slice none 0 0)) := by
  subst hn
  rw [Nat.zero_add, List.nil_append] at ho
  have ht : Turn (· = X) w5 ((((w5.setCell ⟨X, 0, none⟩ (.string t.name)).setCell ⟨X, 1, none⟩ (.int .i64 t.limit)).setCell ⟨X, 2, none⟩ (.slice (some ⟨g5, 0, none⟩) t.mets.length cap5)).setCell ⟨X, 3, none⟩ (.slice none 0 0)) := ((((Turn.refl (· = X) w5).setCell (Or.inl rfl) 0 _).setCell (Or.inl rfl) 1 _).setCell (Or.inl rfl) 2 _).setCell (Or.inl rfl) 3 _
  refine ⟨g5, cap5, ?_, ht.row ho (fun q hq e => by simp [Value.ownBlock] at hq; omega), hX, hg, set4 k5 hX⟩
  have := (((hb.set 0 (.string t.name)).set 1 (.int .i64 t.limit)).set 2 (.slice (some ⟨g5, 0, none⟩) t.mets.length cap5)).set 3 (.slice none 0 0)
  simpa using this
theorem rk_a (W : World) : (W.alloc (.cells #[] 59)).drew.ownsRow W.heap.size 59 2 (.slice (some ⟨W.heap.size, 0, none⟩) 0 0) 0 [] := (World.ownsRow_made W #[] 0 (Nat.le_refl _) (by simp [maxLen]) (by simp)).drew
theorem rk_b (W : World) (o : Obj) : ((W.alloc (.cells #[] 59)).alloc o).drew.ownsRow W.heap.size 59 2 (.slice (some ⟨W.heap.size, 0, none⟩) 0 0) 0 [] := ((World.ownsRow_made W #[] 0 (Nat.le_refl _) (by simp [maxLen]) (by simp)).alloc o).drew
theorem rk_c (W : World) (o : Obj) : ((W.alloc o).alloc (.cells #[] 59)).drew.ownsRow W.heap.size 59 2 (.slice (some ⟨W.heap.size + 1, 0, none⟩) 0 0) 0 [] := by
  have := (World.ownsRow_made (e := 59) (size := 2) (base := W.heap.size) (W.alloc o) #[] 0 (by simp) (by simp [maxLen]) (by simp)).drew
  simpa using this
set_option maxRecDepth 100000 in
set_option maxHeartbeats 8000000 in
theorem l4KeptR_any (t : TenD) (a1 a2 : Option Addr) (c1 c2 : Nat) (now win : Int) (w : World) (p1 : PairsIn w a1 t.mets) (p2 : PairsIn w a2 t.sers) (hl1 : t.mets.length ≤ 2000000) (hl2 : t.sers.length ≤ 2000000) (hn0 : 0 ≤ now) (hn1 : now ≤ 2000000000000) (hx : ∀ i (h : i < t.sers.length), 0 ≤ t.sers[i].n ∧ t.sers[i].n ≤ 2000000000000) :
    Calls Tryz.prog 40 #[.agg #[.string t.name, .int .i64 t.limit, .slice a1 t.mets.length c1, .slice a2 t.sers.length c2], .int .i64 now, .int .i64 win] w fun e w' => TelOutR w t.name (keptT win now t) e w' := by
  have P1 := hid p1
  have P2 := hid p2
  have HX0 := hid hx
  obtain ⟨ti, hti, hz0, hz1, hz2⟩ := info_parts info_mlK
  have HI : Hid (Tryz.prog.info? 59 = some ti) := hti
  obtain ⟨tj, htj, hy0, hy1, hy2⟩ := info_parts info_srK
  have HJ : Hid (Tryz.prog.info? 61 = some tj) := htj
  clear p1 p2 hx hti htj
  go_enter Tryz.func40, Tryz.ntmps40
  have B1 : Hid (Below w.heap.size w ((w.alloc (.cells #[.string t.name, .int .i64 t.limit, .slice a1 t.mets.length c1, .slice a2 t.sers.length c2] 55)).alloc (.cells #[.string ⟨#[]⟩, .int .i64 0, .slice none 0 0, .slice none 0 0] 55))) := bto (bnew _ _) (bnew _ _)
  have T1 : Hid (Blk ((w.alloc (.cells #[.string t.name, .int .i64 t.limit, .slice a1 t.mets.length c1, .slice a2 t.sers.length c2] 55)).alloc (.cells #[.string ⟨#[]⟩, .int .i64 0, .slice none 0 0, .slice none 0 0] 55)) w.heap.size #[.string t.name, .int .i64 t.limit, .slice a1 t.mets.length c1, .slice a2 t.sers.length c2] 55) := (Blk.new _ _ _).alloc _
  have R1 : Hid (Blk ((w.alloc (.cells #[.string t.name, .int .i64 t.limit, .slice a1 t.mets.length c1, .slice a2 t.sers.length c2] 55)).alloc (.cells #[.string ⟨#[]⟩, .int .i64 0, .slice none 0 0, .slice none 0 0] 55)) (w.heap.size + 1) #[.string ⟨#[]⟩, .int .i64 0, .slice none 0 0, .slice none 0 0] 55) := hid (by have := Blk.new (w.alloc (.cells #[.string t.name, .int .i64 t.limit, .slice a1 t.mets.length c1, .slice a2 t.sers.length c2] 55)) #[.string ⟨#[]⟩, .int .i64 0, .slice none 0 0, .slice none 0 0] 55; simpa using this)
  go_upto_region 1 with fail
  generalize (w.alloc (.cells #[.string t.name, .int .i64 t.limit, .slice a1 t.mets.length c1, .slice a2 t.sers.length c2] 55)).alloc (.cells #[.string ⟨#[]⟩, .int .i64 0, .slice none 0 0, .slice none 0 0] 55) = w1 at *
  have HFL : Hid ((flatK t.mets).length = t.mets.length * 2) := flatK_length _
  have HSRC : Hid (∀ W, Below w1.heap.size w1 W → SrcAt W a1 t.mets.length (flatK t.mets)) := fun W hW => by
    rcases P1.out.later (bto B1.out hW) with h0 | ⟨b, o, rfl, hlt, h⟩
    · exact Or.inl (by rw [h0]; rfl)
    · exact Or.inr ⟨_, rfl, pairs_news h⟩
  have HK : Hid (∀ w', Below w1.heap.size w1 w' → w'.cell? ⟨w.heap.size, 0, none⟩ = some (.string t.name) ∧ w'.cell? ⟨w.heap.size, 1, none⟩ = some (.int .i64 t.limit) ∧ w'.cell? ⟨w.heap.size, 2, none⟩ = some (.slice a1 t.mets.length c1)) := fun w' h => by
    have q := T1.out.later h
    exact ⟨q.cell 0, q.cell 1, q.cell 2⟩
  obtain ⟨x0, x1, x2⟩ := HK.out w1 (Below.refl _ _)
  have hw1 : w.heap.size + 1 < w1.heap.size := lt_of_block R1.out
  go_cut [7] (fun p wx => ∃ X, p = .pointer (some ⟨X, 0, none⟩) ∧ KptAt w1 t X wx)
  case first =>
    go_region_held3 (fun w' => w'.cell? ⟨w.heap.size, 0, none⟩ = some (.string t.name) ∧ w'.cell? ⟨w.heap.size, 1, none⟩ = some (.int .i64 t.limit) ∧ w'.cell? ⟨w.heap.size, 2, none⟩ = some (.slice a1 t.mets.length c1))
      (first | go_keep | exact HK.out _ k5 | exact HK.out _ (set4 k5 (Nat.le_refl _)) | exact HK.out _ (set4 k5 (Nat.le_succ _)) | exact HK.out _ (bel_a w1 _) | exact HK.out _ (bel_b w1 _ _))
      (first
        | (refine step_append_any _ (by rfl) _ _ _ (by rfl) w1.heap.size 59 ti _ 2 24 Tryz.underlying52 HI.out hz0 hz1 hz2 rfl (by omega) w1.heap.size 0 0 [] (by rfl) (by exact rk_a w1) a1 t.mets.length c1 (flatK t.mets) (by rfl) HFL.out (by exact HSRC.out _ (bel_a w1 _)) (flatK_cell _) (by simp [maxLen]; omega) (by omega) (by exact (bel_a w1 _).size) ?_; intro g5 cap5 w5 hown5 hB5 hk5 hg5 hat5 hlt5; have k5 : Below w1.heap.size w1 w5 := (bel_a w1 _).trans hB5; have c5 := HK.out _ k5)
        | (refine step_append_any _ (by rfl) _ _ _ (by rfl) w1.heap.size 59 ti _ 2 24 Tryz.underlying52 HI.out hz0 hz1 hz2 rfl (by omega) w1.heap.size 0 0 [] (by rfl) (by exact rk_b w1 _) a1 t.mets.length c1 (flatK t.mets) (by rfl) HFL.out (by exact HSRC.out _ (bel_b w1 _ _)) (flatK_cell _) (by simp [maxLen]; omega) (by omega) (by exact (bel_b w1 _ _).size) ?_; intro g5 cap5 w5 hown5 hB5 hk5 hg5 hat5 hlt5; have k5 : Below w1.heap.size w1 w5 := (bel_b w1 _ _).trans hB5; have c5 := HK.out _ k5; have BX5 : Hid (Blk w5 (w1.heap.size + 1) #[.string ⟨#[]⟩, .int .i64 0, .slice none 0 0, .slice none 0 0] 55) := (hk5 (w1.heap.size + 1) (by show _ < (World.alloc _ _).heap.size; simp) (by omega)).trans (new_two w1 _ _); have s0 := BX5.out.cell 0; have s1 := BX5.out.cell 1; have s2 := BX5.out.cell 2; have s3 := BX5.out.cell 3; have f0 := BX5.out.free 0; have f1 := BX5.out.free 1; have f2 := BX5.out.free 2; have f3 := BX5.out.free 3)
        | (refine step_append_any _ (by rfl) _ _ _ (by rfl) w1.heap.size 59 ti _ 2 24 Tryz.underlying52 HI.out hz0 hz1 hz2 rfl (by omega) (w1.heap.size + 1) 0 0 [] (by rfl) (by exact rk_c w1 _) a1 t.mets.length c1 (flatK t.mets) (by rfl) HFL.out (by exact HSRC.out _ (bel_b w1 _ _)) (flatK_cell _) (by simp [maxLen]; omega) (by omega) (by exact (bel_b w1 _ _).size) ?_; intro g5 cap5 w5 hown5 hB5 hk5 hg5 hat5 hlt5; have k5 : Below w1.heap.size w1 w5 := (bel_b w1 _ _).trans hB5; have c5 := HK.out _ k5; have BX5 : Hid (Blk w5 w1.heap.size #[.string ⟨#[]⟩, .int .i64 0, .slice none 0 0, .slice none 0 0] 55) := (hk5 w1.heap.size (by show _ < (World.alloc _ _).heap.size; simp; omega) (by omega)).trans (new_one w1 _ _); have s0 := BX5.out.cell 0; have s1 := BX5.out.cell 1; have s2 := BX5.out.cell 2; have s3 := BX5.out.cell 3; have f0 := BX5.out.free 0; have f1 := BX5.out.free 1; have f2 := BX5.out.free 2; have f3 := BX5.out.free 3))
    all_goals (go_wp2_with fail; go_meet)
    · rw [Nat.zero_add, List.nil_append] at hown5
      exact ⟨_, rfl, g5, cap5, Blk.new _ _ _, row_later hown5 (bnew _ _), k5.size, by omega, bto k5 (bnew _ _)⟩
    all_goals (
      have hsA : g5 = w1.heap.size ∨ g5 = w1.heap.size + 1 ∨ g5 = w1.heap.size + 2 := by
        have e : ∀ o o' : Obj, ((w1.alloc o).alloc o').drew.heap.size = w1.heap.size + 1 + 1 := fun o o' => by show (World.alloc _ _).heap.size = _; simp
        rw [e] at hat5
        omega)
    · exact ⟨_, rfl, kpt_box BX5.out (Nat.le_succ _) k5 hown5 (by have e : ∀ o o' : Obj, ((w1.alloc o).alloc o').drew.heap.size = w1.heap.size + 1 + 1 := (fun o o' => by show (World.alloc _ _).heap.size = _; simp); rw [e] at hat5; omega) rfl⟩
    · exact ⟨_, rfl, kpt_box BX5.out (Nat.le_refl _) k5 hown5 (by have e : ∀ o o' : Obj, ((w1.alloc o).alloc o').drew.heap.size = w1.heap.size + 1 + 1 := (fun o o' => by show (World.alloc _ _).heap.size = _; simp); rw [e] at hat5; omega) rfl⟩
  obtain ⟨X, rfl, g1, d1, hX, hO, hXw, hgX, hb2⟩ := hcut
  rename World => w2
  have HXB := hid hX
  have HO1 := hid hO
  have B2 : Hid (Below w1.heap.size w1 w2) := hb2
  have y3 : w2.cell? ⟨w.heap.size, 3, none⟩ = some (.slice a2 t.sers.length c2) := (T1.out.later hb2).cell 3
  have hX2 : X < w2.heap.size := lt_of_block hX
  have HR2 : Hid (Blk w2 (w.heap.size + 1) #[.string ⟨#[]⟩, .int .i64 0, .slice none 0 0, .slice none 0 0] 55) := R1.out.later hb2
  have HG1 : Hid (∀ q, (Value.slice (some ⟨g1, 0, none⟩) t.mets.length d1).ownBlock = some q → q < w2.heap.size ∧ q ≠ X) := fun q hq => ⟨(hO.lt q hq).2, by simp [Value.ownBlock] at hq; omega⟩
  clear hX hO hb2 HK HSRC HFL x0 x1 x2 P1 HI
  go_wp2
  clear y3
  go_loopw [9, 22] (fun _ i wr => ∃ (k : Nat) (v : Value), k ≤ t.sers.length ∧ i = .int .i64 k ∧ Hid (Blk wr X #[.string t.name, .int .i64 t.limit, .slice (some ⟨g1, 0, none⟩) t.mets.length d1, v] 55) ∧ Hid (wr.ownsRow w2.heap.size 61 2 v ((t.sers.take k).filter fun p => decide (now - p.n < win)).length (flatK ((t.sers.take k).filter fun p => decide (now - p.n < win)))) ∧ Hid (Turn (· = X) w2 wr)) (fun _ i _ => t.sers.length - (intOf i).toNat)
  case atStart => exact ⟨0, .slice none 0 0, Nat.zero_le _, rfl, HXB.out, World.ownsRow_nil _ _ _ _, Turn.refl _ _⟩
  case round =>
    obtain ⟨k, v, hk, rfl, HB, HRW, HTU⟩ := hrel
    have hs2 : w2.heap.size ≤ wr.heap.size := HTU.out.size
    have HBW : Hid (Below w.heap.size w wr) := (bto B1.out B2.out).trans (HTU.out.below (by omega) fun i hi e => by omega)
    by_cases hlt : k < t.sers.length
    · obtain ⟨pb, po, rfl, hpl, z0, z1⟩ := (P2.out.later HBW.out).at hlt
      have HYS : Hid ((t.sers.take (k + 1)).filter (fun p => decide (now - p.n < win)) = (t.sers.take k).filter (fun p => decide (now - p.n < win)) ++ if decide (now - t.sers[k].n < win) = true then [t.sers[k]] else []) := keep_take _ _ _ hlt
      have hyl : ((t.sers.take k).filter fun p => decide (now - p.n < win)).length ≤ 2000000 := by
        have := keep_le (fun p => decide (now - p.n < win)) t.sers k
        omega
      obtain ⟨hb0, hb1⟩ := HX0.out k hlt
      generalize (t.sers.take k).filter (fun p => decide (now - p.n < win)) = ys at *
      generalize t.sers[k] = P at *
      have hwrp : IntKind.i64.wrap (now - P.n) = now - P.n := by
        simp only [IntKind.wrap, IntKind.bits, IntKind.signed]
        simp
        omega
      by_cases hc : now - P.n < win
      · have HY : Hid ((t.sers.take (k + 1)).filter (fun p => decide (now - p.n < win)) = ys ++ [P]) := by show _ = _; rw [HYS.out, if_pos (by simpa using hc)]
        go_upto_region 6 with fail
        have HB5 : Hid (Below wr.heap.size wr (wr.alloc (.cells #[.string P.s, .int .i64 P.n] 61))) := bnew _ _
        have u0 : (wr.alloc (.cells #[.string P.s, .int .i64 P.n] 61)).cell? ⟨wr.heap.size, 0, none⟩ = some (.string P.s) := (Blk.new _ _ _).cell 0
        have u1 : (wr.alloc (.cells #[.string P.s, .int .i64 P.n] 61)).cell? ⟨wr.heap.size, 1, none⟩ = some (.int .i64 P.n) := (Blk.new _ _ _).cell 1
        have hs5 : wr.heap.size < (wr.alloc (.cells #[.string P.s, .int .i64 P.n] 61)).heap.size := by simp
        clear z0 z1
        generalize wr.alloc (.cells #[.string P.s, .int .i64 P.n] 61) = w5 at *
        have BX5 : Hid (Blk w5 X #[.string t.name, .int .i64 t.limit, .slice (some ⟨g1, 0, none⟩) t.mets.length d1, v] 55) := HB.out.later HB5.out
        have x3 : w5.cell? ⟨X, 3, none⟩ = some v := BX5.out.cell 3
        have R5 : Hid (w5.ownsRow w2.heap.size 61 2 v ys.length (flatK ys)) := row_later HRW.out HB5.out
        have T5 : Hid (Turn (· = X) w2 w5) := HTU.out.trans (Turn.of HB5.out)
        go_wp2_with (at_builtin; refine wpList_append_lies _ rfl _ _ _ rfl w2.heap.size 61 tj _ 2 24 Tryz.underlying53 HJ.out hy0 hy1 hy2 rfl (by omega) v ys.length (flatK ys) rfl (by exact row_later R5.out (bnew _ _)) ⟨w5.heap.size, 0, none⟩ 1 1 [.string P.s, .int .i64 P.n] rfl rfl (by exact World.news_of_block (cs := #[.string P.s, .int .i64 P.n]) (heap_alloc_new _ _)) (by simp [Value.oneCell']) (by omega) (by simp [maxLen]; omega) (by omega) (by simp; omega) (w5.heap.size + 1) (by simp) ?_; intro gg cap6 w6 hown6 hgrow6 hat6 hlt6; have hag : v.ownBlock ≠ some X := (fun e => by have := (R5.out.lt X e).1; omega); have BX6 : Hid (Blk w6 X #[.string t.name, .int .i64 t.limit, .slice (some ⟨g1, 0, none⟩) t.mets.length d1, v] 55) := (Turn.grown hgrow6).blk (BX5.out.alloc _) hag; have s6 := BX6.out.cell 3; have f6 := BX6.out.free 3; have HO6 := hid hown6; have HGR6 := hid hgrow6; have HAT6 := hid hat6; clear hown6 hgrow6 hat6 hlt6 hag)
        have hgg : w2.heap.size ≤ gg := by
          rcases HAT6.out with h | h
          · exact (R5.out.lt gg h).1
          · have := T5.out.size; omega
        have hset : Turn (· = X) w6 (w6.setCell ⟨X, 3, none⟩ (.slice (some ⟨gg, 0, none⟩) (ys.length + 1) cap6)) := (Turn.refl (· = X) w6).setCell (Or.inl rfl) 3 _
        refine ⟨⟨k + 1, .slice (some ⟨gg, 0, none⟩) (ys.length + 1) cap6, by omega, by go_num, ?_, ?_, ?_⟩, by simp [intOf]; omega⟩
        · refine hid ?_
          have := BX6.out.set 3 (.slice (some ⟨gg, 0, none⟩) (ys.length + 1) cap6)
          simpa using this
        · rw [HY.out, flatK_append, List.length_append]
          exact hset.row HO6.out (fun q hq e => by simp [Value.ownBlock] at hq; omega)
        · exact ((T5.out.trans (Turn.of (bnew _ _))).trans ((Turn.grown HGR6.out).mono fun i _ e => Or.inr (R5.out.lt i e).1)).trans' hset
      · have HY : Hid ((t.sers.take (k + 1)).filter (fun p => decide (now - p.n < win)) = ys) := by show _ = _; rw [HYS.out, if_neg (by simpa using hc), List.append_nil]
        have BX5 : Hid (Blk (wr.alloc (.cells #[.string P.s, .int .i64 P.n] 61)) X #[.string t.name, .int .i64 t.limit, .slice (some ⟨g1, 0, none⟩) t.mets.length d1, v] 55) := HB.out.alloc _
        have R5 : Hid ((wr.alloc (.cells #[.string P.s, .int .i64 P.n] 61)).ownsRow w2.heap.size 61 2 v ys.length (flatK ys)) := row_later HRW.out (bnew _ _)
        have T5 : Hid (Turn (· = X) w2 (wr.alloc (.cells #[.string P.s, .int .i64 P.n] 61))) := HTU.out.trans (Turn.of (bnew _ _))
        go_wp2
        refine ⟨⟨k + 1, v, by omega, by go_num, BX5.out, ?_, T5.out⟩, by simp [intOf]; omega⟩
        rw [HY.out]
        exact R5
    · have ek : t.sers.take k = t.sers := List.take_of_length_le (by omega)
      rw [ek] at HRW
      have HRF : Hid (wr.ownsRow w2.heap.size 61 2 v (keptT win now t).sers.length (flatK (keptT win now t).sers)) := HRW.out
      obtain ⟨sa, sc, hv⟩ : ∃ a c, v = .slice a (keptT win now t).sers.length c := by
        rcases HRF.out.2 with ⟨e1, e2⟩ | ⟨g, cap, _, e1, _⟩
        · exact ⟨none, 0, by rw [e1, e2]⟩
        · exact ⟨_, _, e1⟩
      rw [hv] at HB HRF
      clear HRW hv ek
      have HK2 : Hid (keptT win now t = ⟨t.name, t.limit, t.mets, (keptT win now t).sers⟩) := rfl
      generalize hKS : (keptT win now t).sers = KS at *
      have YW : Hid (Blk wr (w.heap.size + 1) #[.string ⟨#[]⟩, .int .i64 0, .slice none 0 0, .slice none 0 0] 55) := HTU.out.blk HR2.out (by omega)
      have a0 : wr.cell? ⟨X, 0, none⟩ = some (.string t.name) := HB.out.cell 0
      have a1' : wr.cell? ⟨X, 1, none⟩ = some (.int .i64 t.limit) := HB.out.cell 1
      have a2' : wr.cell? ⟨X, 2, none⟩ = some (.slice (some ⟨g1, 0, none⟩) t.mets.length d1) := HB.out.cell 2
      have a3 : wr.cell? ⟨X, 3, none⟩ = some (.slice sa KS.length sc) := HB.out.cell 3
      have b0 : wr.cell? ⟨w.heap.size + 1, 0, none⟩ = some (.string ⟨#[]⟩) := YW.out.cell 0
      have b1 : wr.cell? ⟨w.heap.size + 1, 1, none⟩ = some (.int .i64 0) := YW.out.cell 1
      have b2 : wr.cell? ⟨w.heap.size + 1, 2, none⟩ = some (.slice none 0 0) := YW.out.cell 2
      have b3 : wr.cell? ⟨w.heap.size + 1, 3, none⟩ = some (.slice none 0 0) := YW.out.cell 3
      have e0 := YW.out.free 0
      have e1 := YW.out.free 1
      have e2 := YW.out.free 2
      have e3 := YW.out.free 3
      have hwl : w.heap.size + 1 < wr.heap.size := lt_of_block YW.out
      have HOM : Hid (wr.ownsRow w1.heap.size 59 2 (.slice (some ⟨g1, 0, none⟩) t.mets.length d1) t.mets.length (flatK t.mets)) := HTU.out.row HO1.out (fun q hq e => (HG1.out q hq).2 e)
      go_wp2
      have HTE : Turn (· = w.heap.size + 1) wr ((((wr.setCell ⟨w.heap.size + 1, 0, none⟩ (.string t.name)).setCell ⟨w.heap.size + 1, 1, none⟩ (.int .i64 t.limit)).setCell ⟨w.heap.size + 1, 2, none⟩ (.slice (some ⟨g1, 0, none⟩) t.mets.length d1)).setCell ⟨w.heap.size + 1, 3, none⟩ (.slice sa KS.length sc)) := ((((Turn.refl (· = w.heap.size + 1) wr).setCell (Or.inl rfl) 0 _).setCell (Or.inl rfl) 1 _).setCell (Or.inl rfl) 2 _).setCell (Or.inl rfl) 3 _
      refine bodyPost_ret (v := .agg #[.string t.name, .int .i64 t.limit, .slice (some ⟨g1, 0, none⟩) t.mets.length d1, .slice sa KS.length sc]) (by simp [results, Tryz.results40, go_sem, b0, b1, b2, b3]) rfl ⟨w2.heap.size, some ⟨g1, 0, none⟩, d1, sa, sc, by rw [hKS]; rfl, by omega, ?_, fun g o e => (HG1.out g (by cases e; rfl)).1, ?_, ?_, ?_⟩
      · exact (pairs_of_row (HTE.row HOM.out (fun q hq e => by have := (HOM.out.lt q hq).1; omega))).mono (by omega)
      · rw [hKS]
        exact HTE.row HRF.out (fun q hq e => by have := (HRF.out.lt q hq).1; omega)
      · have := HTE.size; omega
      · exact ((Turn.of (S := fun i => w.heap.size ≤ i) HBW.out).trans' (HTE.mono fun i _ e => by omega)).below (Nat.le_refl _) fun i hi h => by omega
theorem l4Kept_any (t : TenD) (a1 a2 : Option Addr) (c1 c2 : Nat) (now win : Int) (w : World) (p1 : PairsIn w a1 t.mets) (p2 : PairsIn w a2 t.sers) (hl1 : t.mets.length ≤ 2000000) (hl2 : t.sers.length ≤ 2000000) (hn0 : 0 ≤ now) (hn1 : now ≤ 2000000000000) (hx : ∀ i (h : i < t.sers.length), 0 ≤ t.sers[i].n ∧ t.sers[i].n ≤ 2000000000000) :
    Calls Tryz.prog 40 #[.agg #[.string t.name, .int .i64 t.limit, .slice a1 t.mets.length c1, .slice a2 t.sers.length c2], .int .i64 now, .int .i64 win] w fun e w' => TelOut w t.name (keptT win now t) e w' :=
  (l4KeptR_any t a1 a2 c1 c2 now win w p1 p2 hl1 hl2 hn0 hn1 hx).mono fun _ _ h => h.tel
end Go.Proofs.YtojeemogabhaoaaGreatDoor
namespace Go.Proofs.YtojeemogabhaoaaGreatDoor
def wStep (t : TenD) (s : List TenD × Bool) (p : TenD) : List TenD × Bool :=
  (s.1 ++ (if s.2 = true then [] else if blt p.name t.name = true then [] else [t]) ++ (if (p.name.toList == t.name.toList) = true then [] else [p]), if s.2 = true then true else !blt p.name t.name)
def wUpto (t : TenD) (b : Bool) (ps : List TenD) : List TenD × Bool := ps.foldl (wStep t) ([], b)
def wAll (t : TenD) (b : Bool) (ps : List TenD) : List TenD := (wUpto t b ps).1 ++ if (wUpto t b ps).2 = true then [] else [t]
theorem wUpto_take (t : TenD) (b : Bool) (ps : List TenD) (k : Nat) (h : k < ps.length) : wUpto t b (ps.take (k + 1)) = wStep t (wUpto t b (ps.take k)) ps[k] := by
  rw [List.take_succ_eq_append_getElem h, wUpto, List.foldl_append]; rfl
theorem wUpto_acc (t : TenD) (ps : List TenD) : ∀ (acc : List TenD) (b : Bool), ps.foldl (wStep t) (acc, b) = (acc ++ (ps.foldl (wStep t) ([], b)).1, (ps.foldl (wStep t) ([], b)).2) := by
  induction ps with
  | nil => intro acc b; simp
  | cons p r ih =>
    intro acc b
    simp only [List.foldl_cons]
    rw [ih (wStep t (acc, b) p).1 (wStep t (acc, b) p).2, ih (wStep t ([], b) p).1 (wStep t ([], b) p).2]
    simp [wStep]
theorem wAll_cons (t p : TenD) (r : List TenD) (b : Bool) : wAll t b (p :: r) = (wStep t ([], b) p).1 ++ wAll t (wStep t ([], b) p).2 r := by
  unfold wAll wUpto
  rw [List.foldl_cons, wUpto_acc t r (wStep t ([], b) p).1 (wStep t ([], b) p).2]
  simp
theorem wAll_placed {t : TenD} {ps : List TenD} (h : ∀ p ∈ ps, p.name ≠ t.name) : wAll t true ps = ps := by
  induction ps with
  | nil => rfl
  | cons p r ih =>
    rw [wAll_cons]
    have h1 : (p.name.toList == t.name.toList) = false := same_not (h p (List.mem_cons_self ..))
    simp only [wStep, h1, if_true, List.nil_append]
    simp [ih fun q hq => h q (List.mem_cons_of_mem _ hq)]
theorem wAll_ins {t : TenD} {ps : List TenD} (hr : RiseBy (·.name) ps) : wAll t false ps = insBy (·.name) t ps := by
  induction ps with
  | nil => rfl
  | cons p r ih =>
    have ihr := ih hr.tail
    rw [wAll_cons, insBy]
    by_cases h2 : blt p.name t.name = true
    · have h3 : (p.name.toList == t.name.toList) = false := same_not (blt_ne h2)
      simp only [wStep, h2, h3, if_true]
      simp [ihr]
    · have h2' : blt p.name t.name = false := by simpa using h2
      have hnone : ∀ q ∈ r, q.name ≠ t.name := fun q hq e => by
        have hb := hr.head q hq
        rw [e] at hb
        exact h2 hb
      by_cases h3 : p.name = t.name
      · have h4 : (p.name.toList == t.name.toList) = true := (same_iff _ _).2 h3
        simp only [wStep, h2', h4, if_true]
        simp [wAll_placed hnone]
      · have h4 : (p.name.toList == t.name.toList) = false := same_not h3
        simp only [wStep, h2', h4]
        simp [wAll_placed hnone]
theorem kts_take (win now : Int) (ts : List TenD) (k : Nat) (h : k < ts.length) : keptTs win now (ts.take (k + 1)) = keptTs win now (ts.take k) ++ if idleB (keptT win now ts[k]) = true then [] else [keptT win now ts[k]] := by
  rw [List.take_succ_eq_append_getElem h, keptTs, List.map_append, List.filter_append]
  congr 1
  by_cases e : idleB (keptT win now ts[k]) = true
  · rw [if_pos e]
    simp [e]
  · rw [if_neg e]
    simp [e]
theorem kts_le (win now : Int) (ts : List TenD) (k : Nat) : (keptTs win now (ts.take k)).length ≤ ts.length := by
  unfold keptTs
  have h1 := List.length_filter_le (fun t => !idleB t) ((ts.take k).map (keptT win now))
  rw [List.length_map, List.length_take] at h1
  omega
theorem wUpto_le (t : TenD) (b : Bool) (ps : List TenD) : (wUpto t b ps).1.length ≤ 2 * ps.length := by
  induction ps generalizing b with
  | nil => simp [wUpto]
  | cons p r ih =>
    unfold wUpto at ih ⊢
    rw [List.foldl_cons, wUpto_acc t r (wStep t ([], b) p).1 (wStep t ([], b) p).2]
    have := ih (wStep t ([], b) p).2
    have h2 : (wStep t ([], b) p).1.length ≤ 2 := by
      unfold wStep
      simp only [List.nil_append]
      rw [List.length_append]
      have e1 : (if b = true then [] else if blt p.name t.name = true then [] else [t]).length ≤ 1 := by split <;> (try split) <;> simp
      have e2 : (if (p.name.toList == t.name.toList) = true then [] else [p]).length ≤ 1 := by split <;> simp
      omega
    simp only [List.length_append, List.length_cons]
    omega
theorem wAll_mem {t : TenD} {b : Bool} {ps : List TenD} {q : TenD} (h : q ∈ wAll t b ps) : q = t ∨ q ∈ ps := by
  induction ps generalizing b with
  | nil =>
    unfold wAll wUpto at h
    simp only [List.foldl_nil, List.nil_append] at h
    cases b with
    | true => cases h
    | false => exact Or.inl (by simpa using h)
  | cons p r ih =>
    rw [wAll_cons, List.mem_append] at h
    rcases h with h | h
    · unfold wStep at h
      simp only [List.nil_append, List.mem_append] at h
      rcases h with h | h
      · by_cases hb : b = true
        · rw [if_pos hb] at h; cases h
        · rw [if_neg hb] at h
          by_cases h2 : blt p.name t.name = true
          · rw [if_pos h2] at h; cases h
          · rw [if_neg h2] at h; exact Or.inl (by simpa using h)
      · by_cases h2 : (p.name.toList == t.name.toList) = true
        · rw [if_pos h2] at h; cases h
        · rw [if_neg h2] at h; exact Or.inr (by simp at h; simp [h])
    · rcases ih h with h | h
      · exact Or.inl h
      · exact Or.inr (List.mem_cons_of_mem _ h)
end Go.Proofs.YtojeemogabhaoaaGreatDoor
