import Derived.Test.YtpajhkikcofhfaaGreatDoorProg
import Derived.Test.YtpajhkikcofhfaaGreatDoorJ31DrwR
import Derived.Deep.AppendLies
import Derived.Test.YtpajhkikcofhfaaGreatDoorJ03SNum
import Derived.Test.YtpajhkikcofhfaaGreatDoorJ27U8L
namespace Go.Proofs.YtpajhkikcofhfaaGreatDoor
open Go.RowKit

theorem infoRq : (Tryz.prog.info? 31).map (fun i => (i.zero, i.size, i.bytes)) = some (some (.agg #[.int .i64 0, .string ⟨#[]⟩, .string ⟨#[]⟩, .int .i64 0, .slice none 0 0]), 5, 72) := by kernel_rfl
theorem infoIt : (Tryz.prog.info? 3).map (fun i => (i.zero, i.size, i.bytes)) = some (some (.int .i64 0), 1, 8) := by kernel_rfl
theorem RowZ.made {α : Type} (K : KindZ α) (w : World) (b : Nat) (e : TypeId) (hb : b ≤ w.heap.size) : RowZ K (w.alloc (.cells #[] e)) b e (.slice (some ⟨w.heap.size, 0, none⟩) 0 0) 0 [] :=
  ⟨World.ownsRow_made w #[] 0 hb (by simp [maxLen]) (by simp), rfl, fun y hy => by cases hy⟩
theorem RowZ.drew {α : Type} {K : KindZ α} {w : World} {b : Nat} {e : TypeId} {v : Value} {n : Nat} {ys : List α} (h : RowZ K w b e v n ys) : RowZ K w.drew b e v n ys := h.later (Below.refl _ _).drew
theorem row_low {w : World} {b b' : Nat} {e : TypeId} {m : Nat} {v : Value} {n : Nat} {xs : List Value} (h : w.ownsRow b e m v n xs) (hb : b' ≤ b) : w.ownsRow b' e m v n xs := by
  refine ⟨h.1, ?_⟩
  rcases h.2 with h | ⟨g, cap, cur, h1, h2, h3⟩
  · exact Or.inl h
  · exact Or.inr ⟨g, cap, cur, h1, Nat.le_trans hb h2, h3⟩
/-- What DrawWork answers. -/
def Work (w w' : World) (e : Ending) : Prop := ∃ (c : CfgD) (qs : List QV) (a1 : Option Addr) (c1 : Nat) (v2 : Value) (ks : List Nat), e = .returned (.tuple #[cfgV c, .slice a1 qs.length c1, v2]) ∧ DrawnC c ∧ qs.length ≤ 17 ∧ InZ reqK w' w.heap.size w'.heap.size a1 qs ∧ w'.ownsRow w.heap.size 3 1 v2 6 (ks.map fun k => .int .i64 (k : Nat)) ∧ (∀ k ∈ ks, k < 90) ∧ Below w.heap.size w w'

set_option maxRecDepth 100000 in
set_option maxHeartbeats 4000000 in
theorem drawWork_any (a : Option Addr) (n cap : Nat) (w : World) (hn : n ≤ 1048576) (hU : U8In w w.heap.size w.heap.size a n) :
    Calls Tryz.prog 4 #[.slice a n cap] w fun e w' => Work w w' e := by
  have HU : Hid (U8In w w.heap.size w.heap.size a n) := hU
  clear hU
  obtain ⟨i0, hi0, hz0, hz1, hz2⟩ := info_parts infoRq
  obtain ⟨j0, hj0, hy0, hy1, hy2⟩ := info_parts infoIt
  have hZ : w.heap.size ≤ w.heap.size := Nat.le_refl _
  go_enter Tryz.func4, Tryz.ntmps4
  go_wp2_with fail
  have Y0 : Hid (Blk (w.alloc (.cells #[.int .i64 0, .int .i64 0, .int .i64 0, .int .i64 0, .int .i64 0, .int .i64 0] 24)) w.heap.size #[.int .i64 0, .int .i64 0, .int .i64 0, .int .i64 0, .int .i64 0, .int .i64 0] 24) := heap_alloc_new _ _
  have B0 : Hid (Below w.heap.size w (w.alloc (.cells #[.int .i64 0, .int .i64 0, .int .i64 0, .int .i64 0, .int .i64 0, .int .i64 0] 24))) := bnew _ _
  have hW0 : (w.alloc (.cells #[.int .i64 0, .int .i64 0, .int .i64 0, .int .i64 0, .int .i64 0, .int .i64 0] 24)).heap.size = w.heap.size + 1 := by simp
  generalize w.alloc (.cells #[.int .i64 0, .int .i64 0, .int .i64 0, .int .i64 0, .int .i64 0, .int .i64 0] 24) = W0 at *
  have HC : Hid (CurB (W0.alloc (.cells #[.slice a n cap, .int .i64 0, .int .i64 0] 52)) (w.heap.size + 1) (w.heap.size + 2) 0) := by
    have hnew := heap_alloc_new W0 (.cells #[.slice a n cap, .int .i64 0, .int .i64 0] 52)
    rw [hW0] at hnew
    refine ⟨a, n, cap, 0, 0, hnew, Nat.le_refl _, ⟨by omega, by omega⟩, hn, ?_, by omega, by simp; omega⟩
    rcases HU.out with h | ⟨b, o, e, hne, hlt, h⟩
    · exact Or.inl h
    · exact Or.inr ⟨b, o, e, by omega, by omega, fun i hi => by
        obtain ⟨v, hv, hc⟩ := h i hi
        exact ⟨v, hv, by rw [World.cell?_of_block ((bnew W0 _).block b (by omega)), World.cell?_of_block (B0.out.block b hlt)]; exact hc⟩⟩
  refine (drawConfig_any (w.heap.size + 1) (w.heap.size + 2) 0 _ HC.out (by omega)).mono ?_
  rintro e w1 ⟨c, hdc, rfl, hc1, hb1⟩
  have hs1 : w.heap.size + 2 ≤ w1.heap.size := by have := hb1.size; simp at this; omega
  have H1 : Hid (CurB w1 (w.heap.size + 1) (w.heap.size + 2) 6 ∧ Below w.heap.size w w1) := ⟨hc1.mono (by omega), (bto B0.out (bnew _ _)).trans (hb1.below (by omega) (by simp; omega))⟩
  have Y1 : Hid (Blk w1 w.heap.size #[.int .i64 0, .int .i64 0, .int .i64 0, .int .i64 0, .int .i64 0, .int .i64 0] 24) := (hb1.block _ (by simp; omega) (by omega)).trans (Y0.out.alloc _)
  have HDC := hid hdc
  clear hc1 hb1 HC HU hdc Y0 B0 hW0 W0
  unfold cfgV
  go_wp2_with fail
  have C0 : Hid (Blk (w1.alloc (.cells #[.int .i64 c.w, .int .i64 c.tl, .int .i64 c.ml, .int .i64 c.sh, .int .i64 c.ha, .int .i64 c.sg] 24)) w1.heap.size #[.int .i64 c.w, .int .i64 c.tl, .int .i64 c.ml, .int .i64 c.sh, .int .i64 c.ha, .int .i64 c.sg] 24) := heap_alloc_new _ _
  have BC : Hid (Below w1.heap.size w1 (w1.alloc (.cells #[.int .i64 c.w, .int .i64 c.tl, .int .i64 c.ml, .int .i64 c.sh, .int .i64 c.ha, .int .i64 c.sg] 24))) := bnew _ _
  have hWc : (w1.alloc (.cells #[.int .i64 c.w, .int .i64 c.tl, .int .i64 c.ml, .int .i64 c.sh, .int .i64 c.ha, .int .i64 c.sg] 24)).heap.size = w1.heap.size + 1 := by simp
  generalize w1.alloc (.cells #[.int .i64 c.w, .int .i64 c.tl, .int .i64 c.ml, .int .i64 c.sh, .int .i64 c.ha, .int .i64 c.sg] 24) = Wc at *
  refine (curPick_any (w.heap.size + 1) (w.heap.size + 2) 6 14 _ ((H1.out.1.later BC.out).later (bnew _ _)) (by omega) (by omega) (by omega)).mono ?_
  rintro e w2 ⟨nn, hnn, rfl, hc2, hb2⟩
  have hs2 : w1.heap.size < w2.heap.size := by have := hb2.size; simp at this; omega
  have H2 : Hid (CurB w2 (w.heap.size + 1) (w.heap.size + 2) 7 ∧ Below w.heap.size w w2) := ⟨hc2, (bto (bto H1.out.2 BC.out) (bnew _ _)).trans (hb2.below (by omega) (by simp; omega))⟩
  have Y2 : Hid (Blk w2 w.heap.size #[.int .i64 0, .int .i64 0, .int .i64 0, .int .i64 0, .int .i64 0, .int .i64 0] 24) := (hb2.block _ (by simp; omega) (by omega)).trans ((Y1.out.later BC.out).alloc _)
  have C2 : Hid (Blk w2 w1.heap.size #[.int .i64 c.w, .int .i64 c.tl, .int .i64 c.ml, .int .i64 c.sh, .int .i64 c.ha, .int .i64 c.sg] 24) := (hb2.block _ (by simp; omega) (by omega)).trans (C0.out.alloc _)
  have HR2 : Hid (RowZ reqK w2 (w1.heap.size + 1) 31 (.slice (some ⟨w1.heap.size + 1, 0, none⟩) 0 0) 0 []) := hid (by have := (RowZ.made reqK Wc (w1.heap.size + 1) 31 (by omega)).but hb2 (by omega); rw [hWc] at this; exact this)
  clear hc2 hb2 H1 Y1 C0 BC hWc Wc
  have p2 : (nn : Int) < 14 := by omega
  go_wp2
  go_loopw [7, 9] (fun l i wr => ∃ (k : Nat) (qs : List QV), k ≤ nn + 4 ∧ i = .int .i64 (k : Nat) ∧ Hid (RowZ reqK wr (w1.heap.size + 1) 31 l k qs) ∧ Hid (CurB wr (w.heap.size + 1) (w.heap.size + 2) (7 + 1200 * k)) ∧ Hid (Blk wr w.heap.size #[.int .i64 0, .int .i64 0, .int .i64 0, .int .i64 0, .int .i64 0, .int .i64 0] 24) ∧ Hid (Blk wr w1.heap.size #[.int .i64 c.w, .int .i64 c.tl, .int .i64 c.ml, .int .i64 c.sh, .int .i64 c.ha, .int .i64 c.sg] 24) ∧ Hid (Below w.heap.size w wr) ∧ w1.heap.size < wr.heap.size) (fun _ i _ => nn + 4 - (intOf i).toNat)
  case atStart => exact ⟨0, [], Nat.zero_le _, rfl, HR2.out, H2.out.1, Y2.out, C2.out, H2.out.2, by omega⟩
  case round =>
    clear HR2 H2 Y2 C2
    obtain ⟨k, qs, hk, rfl, HR, HC, HY, HX, HB, hsr⟩ := hrel
    have hob : ∀ q, u7.ownBlock = some q → w1.heap.size + 1 ≤ q ∧ q < wr.heap.size := fun q hq => HR.out.lt q hq
    by_cases hlk : k < nn + 4
    · have hlk' : (k : Int) < 4 + (nn : Int) := by omega
      go_wp2_with fail
      refine (drawReq_any (w.heap.size + 1) (w.heap.size + 2) (7 + 1200 * k) wr HC.out (by omega)).mono ?_
      rintro e w3 ⟨q, rfl, hp3, hc3, hb3⟩
      have hs3 : wr.heap.size ≤ w3.heap.size := hb3.size
      have H3 : Hid (CurB w3 (w.heap.size + 1) (w.heap.size + 2) (7 + 1200 * k + 1200) ∧ But (w.heap.size + 1) wr w3) := ⟨hc3, hb3⟩
      have HP3 : Hid (reqK.part w3 wr.heap.size w3.heap.size q) := hp3
      have HO3 : Hid (w3.ownsRow (w1.heap.size + 1) 31 5 u7 k (reqK.flat qs)) := (HR.out.but hb3 (by omega)).1
      clear hp3 hc3 hb3
      unfold QV.val
      have hcl : reqK.cells q = [.int .i64 q.kind, .string q.tenant, .string q.metric, .int .i64 q.num, .slice q.a q.ys.length q.c] := rfl
      have HCL := hid hcl
      clear hcl
      obtain ⟨V, hV⟩ : ∃ V : List Value, V = [.int .i64 q.kind, .string q.tenant, .string q.metric, .int .i64 q.num, .slice q.a q.ys.length q.c] := ⟨_, rfl⟩
      have HVV := hid hV
      clear hV
      go_wp2_with (at_builtin; refine wpList_append_lies _ rfl _ _ _ rfl (w1.heap.size + 1) 31 i0 _ 5 72 Tryz.underlying25 hi0 hz0 hz1 hz2 rfl (by omega) u7 k (reqK.flat qs) rfl (by exact HO3.out.alloc _) ⟨w3.heap.size, 0, none⟩ 1 1 [.int .i64 q.kind, .string q.tenant, .string q.metric, .int .i64 q.num, .slice q.a q.ys.length q.c] rfl rfl (by have := World.news_of_block (cs := #[.int .i64 q.kind, .string q.tenant, .string q.metric, .int .i64 q.num, .slice q.a q.ys.length q.c]) (t := 31) (fr := (0, 0)) (heap_alloc_new w3 (.cells #[.int .i64 q.kind, .string q.tenant, .string q.metric, .int .i64 q.num, .slice q.a q.ys.length q.c] 31)); simpa using this) (by simp [Value.oneCell']) (by omega) (by simp [maxLen]; omega) (by omega) (by simp; omega) (w3.heap.size + 1) (by simp) ?_; intro g9 c9 w9 hown9 hgrow9 hat9 hlt9)
      have hgg : (u7.ownBlock = some g9 ∧ g9 < wr.heap.size) ∨ w3.heap.size ≤ g9 := by
        rcases hat9 with h | h
        · exact Or.inl ⟨h, (hob _ h).2⟩
        · exact Or.inr (by omega)
      have hk9 : ∀ g, g < w3.heap.size → u7.ownBlock ≠ some g → w9.heap[g]? = w3.heap[g]? := fun g hg hne => by
        rw [(Turn.grown hgrow9).block g (by simp; omega) hne]
        exact (bnew _ _).block g hg
      have hB9 : Below (w1.heap.size + 1) w3 w9 := ((Below.refl (w1.heap.size + 1) w3).alloc (by omega) _).grown hgrow9 (by simp; omega) (fun q hq => by have := hob q hq; omega)
      have hR9 : RowZ reqK w9 (w1.heap.size + 1) 31 (.slice (some ⟨g9, 0, none⟩) (k + 1) c9) (k + 1) (qs ++ [q]) := RowZ.snoc (wr := wr) (w4 := w3) (w6 := w9) (v := u7) hown9 HR.out (by omega) (by have := hB9.size; omega) (by omega)
        (fun g hg hb hne => (hk9 g (by omega) hne).trans (H3.out.2.block g hg (by omega)))
        (fun g hg hg4 => hk9 g hg4 (fun e => by have := (hob _ e).2; omega))
        HP3.out hgg
      exact ⟨⟨k + 1, qs ++ [q], by omega, by go_num, hR9, (H3.out.1.below (hB9.mono (by omega))).mono (by omega), (hB9.block _ (by omega)).trans ((H3.out.2.block _ (by omega) (by omega)).trans HY.out), (hB9.block _ (by omega)).trans ((H3.out.2.block _ (by omega) (by omega)).trans HX.out), (HB.out.trans (H3.out.2.below (by omega) (by omega))).trans (hB9.mono (by omega)), by have := hB9.size; omega⟩, by simp [intOf]; omega⟩
    · have hke : k = nn + 4 := by omega
      have hlk' : ¬ ((k : Int) < 4 + (nn : Int)) := by omega
      obtain ⟨ra, rc, rfl⟩ := HR.out.row
      subst hke
      have hql : qs.length = nn + 4 := HR.out.2.1
      have HIN : Hid (InZ reqK wr (w1.heap.size + 1) wr.heap.size ra qs) := HR.out.out
      clear HR hob
      obtain ⟨wo, hwo⟩ : ∃ wo : World, wo = wr := ⟨_, rfl⟩
      subst hwo
      go_wp2
      go_loopw [10, 11] (fun l i wr => ∃ (k : Nat) (ks : List Nat), k ≤ 6 ∧ i = .int .i64 (k : Nat) ∧ Hid (wr.ownsRow wo.heap.size 3 1 l k (ks.map fun k => .int .i64 (k : Nat))) ∧ Hid (CurB wr (w.heap.size + 1) (w.heap.size + 2) (7 + 1200 * (nn + 4) + k)) ∧ Hid (But (w.heap.size + 1) wo wr) ∧ Hid (∀ x ∈ ks, x < 90)) (fun _ i _ => 6 - (intOf i).toNat)
      case atStart => exact ⟨0, [], Nat.zero_le _, rfl, World.ownsRow_made wo #[] 0 (Nat.le_refl _) (by simp [maxLen]) (by simp), HC.out.later (bnew _ _), But.of (bnew _ _), fun x hx => by cases hx⟩
      case round =>
        obtain ⟨k, ks, hk, rfl, HO, HC2, HBU, HKS⟩ := hrel
        have hob : ∀ q, u10.ownBlock = some q → wo.heap.size ≤ q ∧ q < wr.heap.size := fun q hq => HO.out.lt q hq
        have hsq : wo.heap.size ≤ wr.heap.size := HBU.out.size
        by_cases hl6 : k < 6
        · have hl6' : (k : Int) < 6 := by omega
          go_wp2_with fail
          refine (curPick_any (w.heap.size + 1) (w.heap.size + 2) (7 + 1200 * (nn + 4) + k) 90 wr HC2.out (by omega) (by omega) (by omega)).mono ?_
          rintro e w5 ⟨v5, hv5, rfl, hc5, hb5⟩
          have hs5 : wr.heap.size ≤ w5.heap.size := hb5.size
          have H5 : Hid (CurB w5 (w.heap.size + 1) (w.heap.size + 2) (7 + 1200 * (nn + 4) + (k + 1)) ∧ But (w.heap.size + 1) wo w5) := ⟨hc5, HBU.out.trans hb5⟩
          have HO5 : Hid (w5.ownsRow wo.heap.size 3 1 u10 k (ks.map fun k => .int .i64 (k : Nat))) := (Turn.but hb5).row HO.out (fun g hg e => by have := (hob g hg).1; omega)
          clear hc5 hb5
          go_wp2_with (at_builtin; refine wpList_append_lies _ rfl _ _ _ rfl wo.heap.size 3 j0 _ 1 8 Tryz.underlying26 hj0 hy0 hy1 hy2 rfl (by omega) u10 k (ks.map fun k => .int .i64 (k : Nat)) rfl (by exact HO5.out.alloc _) ⟨w5.heap.size, 0, none⟩ 1 1 [.int .i64 (v5 : Nat)] rfl rfl (by have := World.news_of_block (cs := #[.int .i64 (v5 : Nat)]) (t := 3) (fr := (0, 0)) (heap_alloc_new w5 (.cells #[.int .i64 (v5 : Nat)] 3)); simpa using this) (by simp [Value.oneCell']) (by omega) (by simp [maxLen]; omega) (by omega) (by simp; omega) (w5.heap.size + 1) (by simp) ?_; intro g9 c9 w9 hown9 hgrow9 hat9 hlt9)
          have hB9 : Below wo.heap.size w5 w9 := ((Below.refl wo.heap.size w5).alloc (by omega) _).grown hgrow9 (by simp; omega) (fun q hq => by have := hob q hq; omega)
          exact ⟨⟨k + 1, ks ++ [v5], by omega, by go_num, by rw [List.map_append]; exact hown9, H5.out.1.below (hB9.mono (by omega)), H5.out.2.below_to hB9, fun x hx => by
            rcases List.mem_append.1 hx with hx | hx
            · exact HKS.out x hx
            · rw [List.mem_singleton] at hx; omega⟩, by simp [intOf]; omega⟩
        · have hke : k = 6 := by omega
          have hl6' : ¬ ((k : Int) < 6) := by omega
          have HXq : Hid (Blk wr w1.heap.size #[.int .i64 c.w, .int .i64 c.tl, .int .i64 c.ml, .int .i64 c.sh, .int .i64 c.ha, .int .i64 c.sg] 24) := (HBU.out.block _ (by omega) (by omega)).trans HX.out
          have HYq : Hid (Blk wr w.heap.size #[.int .i64 0, .int .i64 0, .int .i64 0, .int .i64 0, .int .i64 0, .int .i64 0] 24) := (HBU.out.block _ (by omega) (by omega)).trans HY.out
          have c0 := HXq.out.cell 0
          have c1 := HXq.out.cell 1
          have c2 := HXq.out.cell 2
          have c3 := HXq.out.cell 3
          have c4 := HXq.out.cell 4
          have c5 := HXq.out.cell 5
          have r0 := HYq.out.cell 0
          have r1 := HYq.out.cell 1
          have r2 := HYq.out.cell 2
          have r3 := HYq.out.cell 3
          have r4 := HYq.out.cell 4
          have r5 := HYq.out.cell 5
          have s0 := HYq.out.free 0
          have s1 := HYq.out.free 1
          have s2 := HYq.out.free 2
          have s3 := HYq.out.free 3
          have s4 := HYq.out.free 4
          have s5 := HYq.out.free 5
          have m1 : ¬ (w.heap.size = w1.heap.size) := by omega
          have m2 : ¬ (w1.heap.size = w.heap.size) := by omega
          subst hke
          go_wp2
          refine bodyPost_ret (v := .tuple #[.agg #[.int .i64 c.w, .int .i64 c.tl, .int .i64 c.ml, .int .i64 c.sh, .int .i64 c.ha, .int .i64 c.sg], .slice ra (nn + 4) rc, u10]) (by simp [results, Tryz.results4, go_sem, r0, r1, r2, r3, r4, r5]) rfl ?_
          have hT : Turn (· = w.heap.size) wr ((((((wr.setCell ⟨w.heap.size, 0, none⟩ (.int .i64 c.w)).setCell ⟨w.heap.size, 1, none⟩ (.int .i64 c.tl)).setCell ⟨w.heap.size, 2, none⟩ (.int .i64 c.ml)).setCell ⟨w.heap.size, 3, none⟩ (.int .i64 c.sh)).setCell ⟨w.heap.size, 4, none⟩ (.int .i64 c.ha)).setCell ⟨w.heap.size, 5, none⟩ (.int .i64 c.sg)) := ((((((Turn.refl (· = w.heap.size) wr).setCell (Or.inl rfl) 0 _).setCell (Or.inl rfl) 1 _).setCell (Or.inl rfl) 2 _).setCell (Or.inl rfl) 3 _).setCell (Or.inl rfl) 4 _).setCell (Or.inl rfl) 5 _
          have hBq : Below w.heap.size w wr := HB.out.trans (HBU.out.below (by omega) (by omega))
          refine ⟨c, qs, ra, rc, u10, ks, by rw [hql]; rfl, HDC.out, by omega, ?_, row_low (hT.row HO.out (fun g hg e => by have := (hob g hg).1; omega)) (by omega), HKS.out, hBq.trans (hT.below (by omega) (fun i hi e => by omega))⟩
          exact ((HIN.out.keep hsq (fun g h1 h2 h3 => HBU.out.block g h3 (by omega))).keep hT.size (fun g h1 h2 h3 => hT.block g h3 (by omega))).wide (by omega) (by have := hT.size; omega)
end Go.Proofs.YtpajhkikcofhfaaGreatDoor

namespace Go.Proofs.YtpajhkikcofhfaaGreatDoor
open Go.RowKit

/-- A slice's address holds these strings (nothing is asked where there are none). -/
def StrsIn (w : World) (a : Option Addr) (l : List ByteArray) : Prop := l = [] ∨ ∃ b o, a = some ⟨b, o, none⟩ ∧ b < w.heap.size ∧ ∀ i (h : i < l.length), w.cell? ⟨b, o + i, none⟩ = some (.string l[i])
theorem StrsIn.later {w w' : World} {a : Option Addr} {l : List ByteArray} (h : StrsIn w a l) (hb : Below w.heap.size w w') : StrsIn w' a l := by
  rcases h with h | ⟨b, o, rfl, hlt, h⟩
  · exact Or.inl h
  · exact Or.inr ⟨b, o, rfl, Nat.lt_of_lt_of_le hlt hb.size, fun i hi => by rw [← h i hi]; exact hb.cell hlt⟩
theorem StrsIn.at {w : World} {a : Option Addr} {l : List ByteArray} (h : StrsIn w a l) {i : Nat} (hi : i < l.length) : ∃ b o, a = some ⟨b, o, none⟩ ∧ b < w.heap.size ∧ w.cell? ⟨b, o + i, none⟩ = some (.string l[i]) := by
  rcases h with rfl | ⟨b, o, rfl, hlt, h⟩
  · exact absurd hi (by simp)
  · exact ⟨b, o, rfl, hlt, h i hi⟩
/-- The strings lie in a block of their own, from B on, that may be written. -/
def StrsOwn (w : World) (B : Nat) (a : Option Addr) (l : List ByteArray) : Prop :=
  l = [] ∨ ∃ g o cur t, a = some ⟨g, o, none⟩ ∧ B ≤ g ∧ w.heap[g]? = some (.cells cur t (0, 0)) ∧ ∀ i (h : i < l.length), w.cell? ⟨g, o + i, none⟩ = some (.string l[i])
theorem StrsOwn.strs {w : World} {B : Nat} {a : Option Addr} {l : List ByteArray} (h : StrsOwn w B a l) : StrsIn w a l := by
  rcases h with h | ⟨g, o, cur, t, e, _, hb, h⟩
  · exact Or.inl h
  · exact Or.inr ⟨g, o, e, lt_of_block hb, h⟩
theorem StrsOwn.later {w w' : World} {B : Nat} {a : Option Addr} {l : List ByteArray} (h : StrsOwn w B a l) (hb : Below w.heap.size w w') : StrsOwn w' B a l := by
  rcases h with h | ⟨g, o, cur, t, e, hB, hg, h⟩
  · exact Or.inl h
  · have hlt := lt_of_block hg
    exact Or.inr ⟨g, o, cur, t, e, hB, (hb.block g hlt).trans hg, fun i hi => by rw [← h i hi]; exact hb.cell hlt⟩
theorem strs_of_row {w : World} {B : Nat} {e : TypeId} {a : Option Addr} {cap : Nat} {l : List ByteArray} (h : w.ownsRow B e 1 (.slice a l.length cap) l.length (l.map Value.string)) : StrsOwn w B a l := by
  rcases h.2 with ⟨_, hl⟩ | ⟨g, cap', cur, he, hB, hg, _, _, hsz, htk⟩
  · exact Or.inl (List.length_eq_zero_iff.1 hl)
  · simp only [Value.slice.injEq] at he
    refine Or.inr ⟨g, 0, cur, e, he.1, hB, hg, fun i hi => ?_⟩
    rw [Nat.zero_add, cell_of_row w g i cur _ _ hg]
    have h2 : (cur.toList.take (l.length * 1))[i]? = (l.map Value.string)[i]? := by rw [htk]
    rw [List.getElem?_take_of_lt (by omega)] at h2
    rw [← Array.getElem?_toList, h2]
    simp [List.getElem?_eq_getElem hi]

theorem info_str : ∃ i, Tryz.prog.info? 9 = some i ∧ i.zero = some (.string ByteArray.empty) ∧ i.size = 1 ∧ i.bytes = 16 := by
  have h : (Tryz.prog.info? 9).map (fun i => (i.zero, i.size, i.bytes)) = some (some (.string ByteArray.empty), 1, 16) := by kernel_rfl
  obtain ⟨i, hi, hz⟩ := Option.map_eq_some_iff.1 h
  simp only [Prod.mk.injEq] at hz
  exact ⟨i, hi, hz.1, hz.2.1, hz.2.2⟩

end Go.Proofs.YtpajhkikcofhfaaGreatDoor

namespace Go.Proofs.YtpajhkikcofhfaaGreatDoor
open Go.RowKit

set_option maxRecDepth 100000 in
theorem hPick_n (B P : Nat) (a : Option Addr) (m cap n i : Nat) (w : World) (hU : U8In w B P a m) (hm : m ≤ 1048576) (h1 : 1 ≤ n) (hn : n ≤ 256) (hi : i ≤ 1000) :
    Calls Tryz.prog 7 #[.slice a m cap, .int .i64 (i : Nat), .int .i64 (n : Nat)] w fun e w' => ∃ v : Nat, v < n ∧ e = .returned (.int .i64 (v : Nat)) ∧ w' = w := by
  by_cases hm0 : m = 0
  · subst hm0
    clear hU
    go_enter Tryz.func7, Tryz.ntmps7
    go_wp2
    go_ret
    exact ⟨0, by omega, rfl, rfl⟩
  · rcases hU with h | ⟨b, o, rfl, _, _, hc⟩
    · exact absurd h hm0
    have hq0 : i % m < m := Nat.mod_lt _ (by omega)
    have hq : (i : Int) % (m : Int) = ((i % m : Nat) : Int) := by push_cast; rfl
    obtain ⟨v, hv, hcell⟩ := hc (i % m) hq0
    clear hc
    generalize i % m = q at hq hq0 hcell
    have hm1 : ¬ ((m : Int) = 0) := by omega
    have hm2 : (0 : Int) < (m : Int) := by omega
    by_cases hn1 : n ≤ 1
    · have hn' : (n : Int) ≤ 1 := by omega
      go_enter Tryz.func7, Tryz.ntmps7
      go_wp2
      go_ret
      exact ⟨0, by omega, rfl, rfl⟩
    · have hn' : ¬ ((n : Int) ≤ 1) := by omega
      have hn0 : ¬ ((n : Int) = 0) := by omega
      go_enter Tryz.func7, Tryz.ntmps7
      go_wp2
      go_ret
      exact ⟨v % n, Nat.mod_lt _ (by omega), rfl, rfl⟩
end Go.Proofs.YtpajhkikcofhfaaGreatDoor

