import Derived.Test.YtcneojllbkacoaaGreatDoorJ28ICnt
import Derived.Deep.RegionHeldLaw
set_option maxRecDepth 100000
set_option maxHeartbeats 8000000
namespace Go.Proofs.YtcneojllbkacoaaGreatDoor
open Go.RowKit Go.Maps Go.Sort
theorem WQ (lm : Nat) (ms : List gA) (w : World) (h : w.ownsMap Tryz.prog 9 (plainElem Tryz.prog 3) lm ms.length (kC (ms.map fun p => (p.s, uF p.n)))) (hr : oB (·.s) ms) (hl : ms.length ≤ 1000000000) :
    Calls Tryz.prog 114 #[.func (.func 201) #[] #[.pointer (some ⟨w.heap.size, 0, none⟩)]] (w.alloc (.cells #[.map (some lm)] 223)) fun e w' => ∃ v, e = .returned v ∧ w'.ownsRow w.heap.size 9 1 v ms.length (ms.map fun p => .string p.s) ∧ Below w.heap.size w w' := by
  have hsz : Maps.size (kC (ms.map fun p => (p.s, uF p.n))) = ms.length := by rw [oI]
  refine Calls.mono (callsIn_wide.1 (Tryz.slices_Sorted_keys_114_158 lm _ _ (plainElem Tryz.prog 3) w h (by rw [hsz]; unfold maxLen; omega) (by rw [hsz]; omega))) ?_
  rintro e w1 ⟨v, ss, rfl, hp, hrow, _, hb⟩
  have hk : (strKeys (kC (ms.map fun p => (p.s, uF p.n)))) = ms.map fun p => p.s.data.toList := by
    rw [jP, List.map_map]
    rfl
  rw [hk] at hp
  have hlen : ss.length = ms.length := by rw [hp.length_eq, List.length_map]
  rw [oZ (key := fun p : gA => p.s) hr hp, EJ (fun p : gA => p.s), hlen] at hrow
  exact ⟨v, rfl, vX hrow (by simp), rA (bA _ _) hb⟩
def vK (ps : List gA) : List Value := ps.flatMap fun x => [.string x.s, .int .i64 x.n]
theorem AQ (ps : List gA) (k : Nat) (h : k < ps.length) : vK (ps.take (k + 1)) = vK (ps.take k) ++ [.string ps[k].s, .int .i64 ps[k].n] := by
  rw [List.take_succ_eq_append_getElem h, vK, List.flatMap_append]; rfl
theorem WK {W : World} {B : Nat} {e : TypeId} {v : Value} {ps : List gA} (h : W.ownsRow B e 1 v ps.length (ps.map fun p => .string p.s)) :
    ∃ ka kc, v = .slice ka ps.length kc ∧ (ps = [] ∨ ∃ g, ka = some ⟨g, 0, none⟩ ∧ B ≤ g ∧ g < W.heap.size ∧ ∀ i (h : i < ps.length), W.cell? ⟨g, i, none⟩ = some (.string ps[i].s)) := by
  rcases h.2 with ⟨rfl, hl⟩ | ⟨g, cap, cur, rfl, hB, hg, _, _, hsz, htk⟩
  · refine ⟨none, 0, by rw [hl], Or.inl (List.length_eq_zero_iff.1 hl)⟩
  · refine ⟨_, cap, rfl, Or.inr ⟨g, rfl, hB, aA hg, fun i hi => ?_⟩⟩
    have hc := lA.cell (show lA W g cur e from hg) i
    rw [hc, ← Array.getElem?_toList]
    have : (cur.toList.take (ps.length * 1))[i]? = (ps.map fun p => Value.string p.s)[i]? := by rw [htk]
    rw [List.getElem?_take, if_pos (by omega)] at this
    rw [this, List.getElem?_map, List.getElem?_eq_getElem hi]
    rfl
theorem nT {W : World} {B : Nat} {e : TypeId} {size : Nat} {v : Value} {n : Nat} {xs : List Value} (h : W.ownsRow B e size v n xs) : ∃ a c, v = .slice a n c := by
  rcases h.2 with ⟨rfl, rfl⟩ | ⟨g, cap, _, rfl, _⟩
  · exact ⟨none, 0, rfl⟩
  · exact ⟨_, cap, rfl⟩
theorem aFo {w : World} {lm : Nat} {ms : List gA} (h : w.ownsMap Tryz.prog 9 (plainElem Tryz.prog 3) lm ms.length (kC (ms.map fun p => (p.s, uF p.n)))) (hr : oB (·.s) ms) {p : gA} (hp : p ∈ ms) (hs : p.s.size ≤ maxLen) :
    (Instr.lookup 223 (.map (some lm)) (.string p.s) false).run Tryz.prog w = .ok (.int .i64 p.n) w := by
  obtain ⟨v, hrun, hat, _⟩ := h.lookup_int zG Tryz.underlying223 Tryz.underlying3 (DC _) (uI hs)
  rw [hrun]
  rw [sN (key := fun p : gA => p.s) (fun p => uF p.n), gI (key := fun p : gA => p.s) hr hp] at hat
  simp [uF] at hat
  rw [hat]
theorem aJp {w : World} {S : Nat → Prop} {x : Nat} {t : cA} {M lm sm cm : Nat} {iv : Value} {Q : List (gA × Nat)} {hs : List rF} {D : DataW Unit} (h : wM w S x t M lm sm cm iv Q hs D) (i : Nat) (hi : i < t.sers.length) (hz : t.sers[i].s.size ≤ maxLen) :
    ∃ q, ∀ W, Below w.heap.size w W → W.cell? ⟨x, 2, none⟩ = some (.map (some sm)) ∧ (Instr.lookup 224 (.map (some sm)) (.string t.sers[i].s) false).run Tryz.prog W = .ok (.pointer (some ⟨q, 0, none⟩)) W ∧ W.cell? ⟨q, 0, none⟩ = some (.string t.sers[i].s) ∧ W.cell? ⟨q, 1, none⟩ = some (.int .i64 t.sers[i].n) := by
  have hm : t.sers[i] ∈ Q.map (·.1) := by rw [h.q1]; exact List.getElem_mem hi
  obtain ⟨q, hq, e⟩ := List.mem_map.1 hm
  have hr : oB (fun q : gA × Nat => q.1.s) Q := by
    have := h.rs
    rw [← h.q1] at this
    exact List.pairwise_map.1 this
  refine ⟨q.2, fun W hW => ?_⟩
  have hblk := (h.cells q hq).later hW
  have hx := h.blk.later hW
  refine ⟨hx.cell 2, ?_, ?_, ?_⟩
  · obtain ⟨v, ps, hrun, hv⟩ := World.ownsMap.lookup ((dA.of hW).map (S := fun _ => False) h.sers (fun e => e)) zG Tryz.underlying224 (show (zeroValue 232).run Tryz.prog W = .ok (.pointer none) W by kernel_rfl) (zd := .nil) (zp := []) rfl (uI hz)
    rw [hrun]
    rw [sN (key := fun q : gA × Nat => q.1.s) (fun q => kD q.2), ← e, gI (key := fun q : gA × Nat => q.1.s) hr hq] at hv
    rw [aM hv]
  · rw [hblk.cell 0, ← e]; rfl
  · rw [hblk.cell 1, ← e]; rfl
theorem aOi : (Tryz.prog.info? 149).map (fun i => (i.zero, i.size, i.bytes)) = some (some (.agg #[.string ⟨#[]⟩, .int .i64 0]), 2, 24) := by kernel_rfl
theorem aOj : (Tryz.prog.info? 151).map (fun i => (i.zero, i.size, i.bytes)) = some (some (.agg #[.string ⟨#[]⟩, .int .i64 0]), 2, 24) := by kernel_rfl
theorem aLa (x : Nat) (nm : ByteArray) (t : cA) (S : Nat → Prop) (M : Nat) (w : World) (h : zB w S x t M) (hs1 : ∀ i (h : i < t.mets.length), t.mets[i].s.size ≤ maxLen) (hs2 : ∀ i (h : i < t.sers.length), t.sers[i].s.size ≤ maxLen) (hl1 : t.mets.length ≤ 2000000) (hl2 : t.sers.length ≤ 2000000) :
    Calls Tryz.prog 116 #[.pointer (some ⟨x, 0, none⟩), .string nm] w fun e w' => ∃ v1 v2 M, e = .returned (.agg #[.string nm, .int .i64 t.limit, v1, v2]) ∧ w'.ownsRow w.heap.size 149 2 v1 t.mets.length (vK t.mets) ∧ (∀ g, v1.ownBlock = some g → g < M) ∧ w.heap.size ≤ M ∧ M ≤ w'.heap.size ∧ w'.ownsRow M 151 2 v2 t.sers.length (vK t.sers) ∧ Below w.heap.size w w' := by
  have HI : Hid (zB w S x t M) := h
  have HKY : Hid _ := fun W hW => aJb x t S M W (h.later hW) (by omega)
  obtain ⟨lm, sm, cm, iv, Q, hs, D, h⟩ := h
  have c0 : w.cell? ⟨x, 0, none⟩ = some (.int .i64 t.limit) := h.blk.cell 0
  have c1 : w.cell? ⟨x, 1, none⟩ = some (.map (some lm)) := h.blk.cell 1
  have hxl := aA h.blk
  have HLS : Hid _ := fun i hi => aJp h i hi (hs2 i hi)
  have HSH : Hid _ := hs1
  have HSL : Hid _ := fun W hW => WQ lm t.mets W ((dA.of hW).map (S := fun _ => False) h.lims (fun e => e)) h.rm (by omega)
  have HLK : Hid (∀ W, Below w.heap.size w W → W.cell? ⟨x, 1, none⟩ = some (.map (some lm)) ∧ ∀ p ∈ t.mets, p.s.size ≤ maxLen → (Instr.lookup 223 (.map (some lm)) (.string p.s) false).run Tryz.prog W = .ok (.int .i64 p.n) W) := fun W hW => ⟨(hW.cell hxl).trans (h.blk.cell 1), fun p hp hs => aFo ((dA.of hW).map (S := fun _ => False) h.lims (fun e => e)) h.rm hp hs⟩
  have HMK : Hid _ := fun W => callsIn_wide.1 (Tryz.maps_Keys_158 (some lm) W)
  clear h
  go_enter Tryz.func116, Tryz.ntmps116
  go_wp2_with fail
  refine (HMK.out _).mono ?_
  rintro e w1 ⟨rfl, rfl⟩
  have B2 : Hid (Below w.heap.size w ((w.alloc (.cells #[.string ⟨#[]⟩, .int .i64 0, .slice none 0 0, .slice none 0 0] 95)).alloc (.cells #[.string nm, .int .i64 t.limit, .slice none 0 0, .slice none 0 0] 95))) := rA (bA _ _) (bA _ _)
  have X2 : Hid _ := iA (by have := lA.new (w.alloc (.cells #[.string ⟨#[]⟩, .int .i64 0, .slice none 0 0, .slice none 0 0] 95)) #[.string nm, .int .i64 t.limit, .slice none 0 0, .slice none 0 0] 95; simpa using this)
  have Y2 : Hid (lA ((w.alloc (.cells #[.string ⟨#[]⟩, .int .i64 0, .slice none 0 0, .slice none 0 0] 95)).alloc (.cells #[.string nm, .int .i64 t.limit, .slice none 0 0, .slice none 0 0] 95)) w.heap.size #[.string ⟨#[]⟩, .int .i64 0, .slice none 0 0, .slice none 0 0] 95) := (lA.new _ _ _).alloc _
  generalize (w.alloc (.cells #[.string ⟨#[]⟩, .int .i64 0, .slice none 0 0, .slice none 0 0] 95)).alloc (.cells #[.string nm, .int .i64 t.limit, .slice none 0 0, .slice none 0 0] 95) = w2 at *
  go_wp2_with fail
  refine (HSL.out _ B2.out).mono ?_
  rintro e w3 ⟨kv, rfl, hrow, hb3⟩
  obtain ⟨ka, kc, rfl, hks⟩ := WK hrow
  have HKS := iA hks
  have B3 : Hid _ := rA B2.out hb3
  have X3 : Hid (lA w3 (w.heap.size + 1) #[.string nm, .int .i64 t.limit, .slice none 0 0, .slice none 0 0] 95) := X2.out.later hb3
  have Y3 : Hid (lA w3 w.heap.size #[.string ⟨#[]⟩, .int .i64 0, .slice none 0 0, .slice none 0 0] 95) := Y2.out.later hb3
  have HX2 : Hid _ := aA X2.out
  clear hrow hks hb3 X2 Y2 B2 HSL HMK c0 c1
  go_wp2
  go_loopw [7, 23] (fun _ i wr => ∃ (k : Nat) (v1 : Value), k ≤ t.mets.length ∧ i = .int .i64 k ∧ Hid (lA wr (w.heap.size + 1) #[.string nm, .int .i64 t.limit, v1, .slice none 0 0] 95) ∧ Hid (wr.ownsRow w3.heap.size 149 2 v1 k (vK (t.mets.take k))) ∧ Hid (dA (· = w.heap.size + 1) w3 wr)) (fun _ i _ => t.mets.length - (intOf i).toNat)
  case atStart => exact ⟨0, .slice none 0 0, Nat.zero_le _, rfl, X3.out, World.ownsRow_nil _ _ _ _, dA.refl _ _⟩
  case round =>
    obtain ⟨k, v1, hk, rfl, HX, HO, HBU⟩ := hrel
    by_cases hlt : k < t.mets.length
    · have hks2 : ∃ g, ka = some ⟨g, 0, none⟩ ∧ w2.heap.size ≤ g ∧ g < w3.heap.size ∧ ∀ i (h : i < t.mets.length), w3.cell? ⟨g, i, none⟩ = some (.string t.mets[i].s) := by
        rcases HKS.out with h0 | h0
        · rw [h0] at hlt; exact absurd hlt (by simp)
        · exact h0
      obtain ⟨g, rfl, hg1, hg2, hgc⟩ := hks2
      have hx2 := HX2.out
      have hgx : g ≠ w.heap.size + 1 := by omega
      have hkey := (World.cell?_of_block (HBU.out.block g hg2 hgx)).trans (hgc k hlt)
      have HBW : Hid _ := (((dA.of (S := fun i => w.heap.size ≤ i) B3.out).trans' (HBU.out.mono fun i _ e => by omega)).below (Nat.le_refl _) fun i hi h => by omega)
      have HQ : Hid (∀ W, Below w.heap.size w W → W.cell? ⟨x, 1, none⟩ = some (.map (some lm)) ∧ (Instr.lookup 223 (.map (some lm)) (.string t.mets[k].s) false).run Tryz.prog W = .ok (.int .i64 t.mets[k].n) W) := fun W hW => ⟨(HLK.out W hW).1, (HLK.out W hW).2 _ (List.getElem_mem hlt) (HSH.out k hlt)⟩
      have HFT : Hid _ := AQ _ _ hlt
      have hsz3 := HBU.out.size
      have hB3s := B3.out.size
      have hob := fun q hq => (HO.out.lt q hq).1
      have hown := HO.out
      have v5 : wr.cell? ⟨w.heap.size + 1, 2, none⟩ = some v1 := HX.out.cell 2
      have ag : v1.ownBlock ≠ some (w.heap.size + 1) := fun e => by have := hob _ e; omega
      obtain ⟨q1, q2⟩ := HQ.out wr.drew HBW.out.drew
      generalize t.mets[k] = P at *
      obtain ⟨i0, hi0, hz0, hz1, hz2⟩ := info_parts aOi
      have hxw : x < wr.heap.size := by omega
      have hXw : w.heap.size + 1 < wr.heap.size := by omega
      go_wp2_with fail
      go_region_law
        ((refine step_append_lies _ (by rfl) _ _ _ (by rfl) w3.heap.size 149 i0 _ 2 24 Tryz.underlying92 hi0 hz0 hz1 hz2 rfl (by omega) v1 k (vK (t.mets.take k)) (by rfl) ((hown.alloc _).drew)
            ⟨wr.heap.size, 0, none⟩ 1 1 [.string P.s, .int .i64 P.n] (by rfl) (by rfl) (World.news_of_block (cs := #[.string P.s, .int .i64 P.n]) (t := 149) (fr := (0, 0)) (heap_alloc_new wr _)) (by simp [Value.oneCell'])
            (by omega) (by unfold maxLen; omega) (by omega) (by simp; omega) (wr.heap.size + 1) (by simp) ?_; intro gg cap w4 hown1 hgrow hat hlt4; have HB1 : Hid (Below w.heap.size w w4) := (((dA.of (S := fun i => w.heap.size ≤ i) (rA HBW.out (bA _ _).drew)).trans' ((dA.grown hgrow).mono fun i _ e => by have := hob i e; omega)).below (Nat.le_refl _) fun i hi h => by omega); have HX4 : Hid (lA w4 (w.heap.size + 1) #[.string nm, .int .i64 t.limit, v1, .slice none 0 0] 95) := (dA.grown hgrow).blk (HX.out.later (bA _ _).drew) ag; have s5 := HX4.out.cell 2; have f5 := HX4.out.free 2))
      all_goals (
        have HT4 : Hid _ := HBU.out.trans (((dA.of (bA _ _).drew).trans' ((dA.grown hgrow).mono fun i _ e => Or.inr (hob i e))))
        have HO4 := iA hown1
        have hgg : w3.heap.size ≤ gg := by
          rcases hat with h | h
          · exact hob _ h
          · omega)
      all_goals (
        have HX5 : Hid _ := iA (by have := HX4.out.set 2 (.slice (some ⟨gg, 0, none⟩) (k + 1) cap); simpa using this)
        have HO5 : Hid ((w4.setCell ⟨w.heap.size + 1, 2, none⟩ (.slice (some ⟨gg, 0, none⟩) (k + 1) cap)).ownsRow w3.heap.size 149 2 (.slice (some ⟨gg, 0, none⟩) (k + 1) cap) (k + 1) (vK (t.mets.take (k + 1)))) := iA (by rw [HFT.out]; exact ((dA.refl (· = w.heap.size + 1) w4).setCell (Or.inl rfl) 2 _).row HO4.out (fun q hq e => by simp [Value.ownBlock] at hq; omega))
        have HT5 : Hid (dA (· = w.heap.size + 1) w3 (w4.setCell ⟨w.heap.size + 1, 2, none⟩ (.slice (some ⟨gg, 0, none⟩) (k + 1) cap))) := HT4.out.setCell (Or.inl rfl) 2 _
        clear hown1 hgrow hat s5 f5 HX4 HO4 HT4 HB1
        go_wp2
        exact ⟨⟨k + 1, _, by omega, by go_num, HX5.out, HO5.out, HT5.out⟩, by simp [intOf]; omega⟩)
    · have ek : k = t.mets.length := by omega
      have et : t.mets.take k = t.mets := List.take_of_length_le (by omega)
      rw [et, ek] at HO
      obtain ⟨ra, rc, rfl⟩ := nT HO.out
      have HBW : Hid _ := (((dA.of (S := fun i => w.heap.size ≤ i) B3.out).trans' (HBU.out.mono fun i _ e => by omega)).below (Nat.le_refl _) fun i hi h => by omega)
      have YW : Hid (lA wr w.heap.size #[.string ⟨#[]⟩, .int .i64 0, .slice none 0 0, .slice none 0 0] 95) := HBU.out.blk Y3.out (by omega)
      have h31 : Hid _ := aA X3.out
      have h3r : Hid _ := HBU.out.size
      clear et HKS HLK HSH B3 X3 Y3 HX2 HBU
      generalize hwo : wr = wo at *
      clear hwo
      go_wp2_with fail
      refine (HKY.out _ HBW.out).mono ?_
      rintro e w5 ⟨kv, rfl, hrow, hb5⟩
      obtain ⟨kb, kd, rfl, hks⟩ := WK hrow
      have HKS := iA hks
      have B5 : Hid _ := rA HBW.out hb5
      have X5 : Hid (lA w5 (w.heap.size + 1) #[.string nm, .int .i64 t.limit, .slice ra t.mets.length rc, .slice none 0 0] 95) := HX.out.later hb5
      have Y5 : Hid (lA w5 w.heap.size #[.string ⟨#[]⟩, .int .i64 0, .slice none 0 0, .slice none 0 0] 95) := YW.out.later hb5
      have O5 : Hid (w5.ownsRow w3.heap.size 149 2 (.slice ra t.mets.length rc) t.mets.length (vK t.mets)) := (dA.of (S := fun _ => False) hb5).row HO.out (fun _ _ e => e)
      have h35 : Hid _ := aA X5.out
      have hWo : Hid (w3.heap.size ≤ wo.heap.size ∧ wo.heap.size ≤ w5.heap.size) := ⟨h3r.out, hb5.size⟩
      clear hrow hks hb5 HX HO HBW YW HKY
      go_wp2
      go_loopw [9, 44] (fun _ i wr => ∃ (k : Nat) (v2 : Value), k ≤ t.sers.length ∧ i = .int .i64 k ∧ Hid (lA wr (w.heap.size + 1) #[.string nm, .int .i64 t.limit, .slice ra t.mets.length rc, v2] 95) ∧ Hid (wr.ownsRow w5.heap.size 151 2 v2 k (vK (t.sers.take k))) ∧ Hid (dA (· = w.heap.size + 1) w5 wr)) (fun _ i _ => t.sers.length - (intOf i).toNat)
      case atStart => exact ⟨0, .slice none 0 0, Nat.zero_le _, rfl, X5.out, World.ownsRow_nil _ _ _ _, dA.refl _ _⟩
      case round =>
        obtain ⟨k, v2, hk, rfl, HX, HO, HBU⟩ := hrel
        have HBW : Hid _ := (((dA.of (S := fun i => w.heap.size ≤ i) B5.out).trans' (HBU.out.mono fun i _ e => by omega)).below (Nat.le_refl _) fun i hi h => by omega)
        by_cases hlt : k < t.sers.length
        · have hks2 : ∃ g, kb = some ⟨g, 0, none⟩ ∧ wo.heap.size ≤ g ∧ g < w5.heap.size ∧ ∀ i (h : i < t.sers.length), w5.cell? ⟨g, i, none⟩ = some (.string t.sers[i].s) := by
            rcases HKS.out with h0 | h0
            · rw [h0] at hlt; exact absurd hlt (by simp)
            · exact h0
          obtain ⟨g, rfl, hg1, hg2, hgc⟩ := hks2
          have h31' := h31.out
          have hwo' := hWo.out
          have hgx : g ≠ w.heap.size + 1 := by omega
          have hkey := (World.cell?_of_block (HBU.out.block g hg2 hgx)).trans (hgc k hlt)
          obtain ⟨q, HQ0⟩ := HLS.out k hlt
          have HQ : Hid _ := HQ0
          have HFT : Hid _ := AQ _ _ hlt
          have hsz3 := HBU.out.size
          have hob := fun q hq => (HO.out.lt q hq).1
          have hown := HO.out
          have v5 : wr.cell? ⟨w.heap.size + 1, 3, none⟩ = some v2 := HX.out.cell 3
          have ag : v2.ownBlock ≠ some (w.heap.size + 1) := fun e => by have := hob _ e; omega
          obtain ⟨q1, q2, q3, q4⟩ := HQ.out wr.drew HBW.out.drew
          generalize t.sers[k] = P at *
          obtain ⟨i0, hi0, hz0, hz1, hz2⟩ := info_parts aOj
          have hxw : x < wr.heap.size := by omega
          have hXw : w.heap.size + 1 < wr.heap.size := by omega
          clear HQ0
          go_wp2_with fail
          go_region_law
            ((refine step_append_lies _ (by rfl) _ _ _ (by rfl) w5.heap.size 151 i0 _ 2 24 Tryz.underlying93 hi0 hz0 hz1 hz2 rfl (by omega) v2 k (vK (t.sers.take k)) (by rfl) ((hown.alloc _).drew)
                  ⟨wr.heap.size, 0, none⟩ 1 1 [.string P.s, .int .i64 P.n] (by rfl) (by rfl) (World.news_of_block (cs := #[.string P.s, .int .i64 P.n]) (t := 151) (fr := (0, 0)) (heap_alloc_new wr _)) (by simp [Value.oneCell'])
                  (by omega) (by unfold maxLen; omega) (by omega) (by simp; omega) (wr.heap.size + 1) (by simp) ?_; intro gg cap w4 hown1 hgrow hat hlt4; have HX4 : Hid (lA w4 (w.heap.size + 1) #[.string nm, .int .i64 t.limit, .slice ra t.mets.length rc, v2] 95) := (dA.grown hgrow).blk (HX.out.later (bA _ _).drew) ag; have s5 := HX4.out.cell 3; have f5 := HX4.out.free 3))
          all_goals (
            have HT4 : Hid _ := HBU.out.trans (((dA.of (bA _ _).drew).trans' ((dA.grown hgrow).mono fun i _ e => Or.inr (hob i e))))
            have HO4 := iA hown1
            have hgg : w5.heap.size ≤ gg := by
              rcases hat with h | h
              · exact hob _ h
              · omega
            have HX5 : Hid _ := iA (by have := HX4.out.set 3 (.slice (some ⟨gg, 0, none⟩) (k + 1) cap); simpa using this)
            have HO5 : Hid ((w4.setCell ⟨w.heap.size + 1, 3, none⟩ (.slice (some ⟨gg, 0, none⟩) (k + 1) cap)).ownsRow w5.heap.size 151 2 (.slice (some ⟨gg, 0, none⟩) (k + 1) cap) (k + 1) (vK (t.sers.take (k + 1)))) := iA (by rw [HFT.out]; exact ((dA.refl (· = w.heap.size + 1) w4).setCell (Or.inl rfl) 3 _).row HO4.out (fun q hq e => by simp [Value.ownBlock] at hq; omega))
            have HT5 : Hid (dA (· = w.heap.size + 1) w5 (w4.setCell ⟨w.heap.size + 1, 3, none⟩ (.slice (some ⟨gg, 0, none⟩) (k + 1) cap))) := HT4.out.setCell (Or.inl rfl) 3 _
            clear hown1 hgrow hat s5 f5 HX4 HO4 HT4
            go_wp2
            exact ⟨⟨k + 1, _, by omega, by go_num, HX5.out, HO5.out, HT5.out⟩, by simp [intOf]; omega⟩)
        · have ek2 : k = t.sers.length := by omega
          have et : t.sers.take k = t.sers := List.take_of_length_le (by omega)
          rw [et, ek2] at HO
          obtain ⟨sa, sc, rfl⟩ := nT HO.out
          have YW : Hid (lA wr w.heap.size #[.string ⟨#[]⟩, .int .i64 0, .slice none 0 0, .slice none 0 0] 95) := HBU.out.blk Y5.out (by omega)
          have a0 : wr.cell? ⟨w.heap.size + 1, 0, none⟩ = some (.string nm) := HX.out.cell 0
          have a1 : wr.cell? ⟨w.heap.size + 1, 1, none⟩ = some (.int .i64 t.limit) := HX.out.cell 1
          have a2 : wr.cell? ⟨w.heap.size + 1, 2, none⟩ = some (.slice ra t.mets.length rc) := HX.out.cell 2
          have a3 : wr.cell? ⟨w.heap.size + 1, 3, none⟩ = some (.slice sa t.sers.length sc) := HX.out.cell 3
          have b0 : wr.cell? ⟨w.heap.size, 0, none⟩ = some (.string ⟨#[]⟩) := YW.out.cell 0
          have b1 : wr.cell? ⟨w.heap.size, 1, none⟩ = some (.int .i64 0) := YW.out.cell 1
          have b2 : wr.cell? ⟨w.heap.size, 2, none⟩ = some (.slice none 0 0) := YW.out.cell 2
          have b3 : wr.cell? ⟨w.heap.size, 3, none⟩ = some (.slice none 0 0) := YW.out.cell 3
          have e0 := YW.out.free 0
          have e1 := YW.out.free 1
          have e2 := YW.out.free 2
          have e3 := YW.out.free 3
          have hwl := aA YW.out
          have HOM : Hid (wr.ownsRow w3.heap.size 149 2 (.slice ra t.mets.length rc) t.mets.length (vK t.mets)) := HBU.out.row O5.out (fun q hq e => by have h1 := (O5.out.lt q hq).1; have h2 := h31.out; omega)
          go_wp2
          have HTE : dA (· = w.heap.size) wr ((((wr.setCell ⟨w.heap.size, 0, none⟩ (.string nm)).setCell ⟨w.heap.size, 1, none⟩ (.int .i64 t.limit)).setCell ⟨w.heap.size, 2, none⟩ (.slice ra t.mets.length rc)).setCell ⟨w.heap.size, 3, none⟩ (.slice sa t.sers.length sc)) := ((((dA.refl (· = w.heap.size) wr).setCell (Or.inl rfl) 0 _).setCell (Or.inl rfl) 1 _).setCell (Or.inl rfl) 2 _).setCell (Or.inl rfl) 3 _
          have h31' := h31.out
          have hwo' := hWo.out
          refine bodyPost_ret (v := .agg #[.string nm, .int .i64 t.limit, .slice ra t.mets.length rc, .slice sa t.sers.length sc]) (by simp [results, Tryz.results116, go_sem, b0, b1, b2, b3]) rfl ⟨_, _, w5.heap.size, rfl, vX (HTE.row HOM.out (fun q hq e => by have := (HOM.out.lt q hq).1; omega)) (by omega), (fun q hq => (O5.out.lt q hq).2), by omega, by have h1 := HBU.out.size; have h2 := HTE.size; omega, HTE.row HO.out (fun q hq e => by have := (HO.out.lt q hq).1; omega), ((dA.of (S := fun i => w.heap.size ≤ i) HBW.out).trans' (HTE.mono fun i _ e => by omega)).below (Nat.le_refl _) fun i hi h => by omega⟩
end Go.Proofs.YtcneojllbkacoaaGreatDoor
namespace Go.Proofs.YtcneojllbkacoaaGreatDoor
open Go.RowKit Go.Maps
theorem XC {P : Program} {w : World} {ops : Array Oper} {o : Oper} {a : Act} {K : Act → World → Prop} {Q : Exit → Act → World → Prop} {E : Prop} {f : FuncId} {args : Array Value} (hgd : o.guard = none) (hx : (execOp a.eval o).run P w = .ok (.enter f args) w)
    (h : Calls P f args w (fun e w' => ∃ v, e = .returned v ∧ K (a.put o.dst v) w')) : if Region.wanted o (yielded ops a.tmps) = true then Oper.wp P o a w K Q else E := by
  have hw : Region.wanted o (yielded ops a.tmps) = true := by simp [Region.wanted, hgd]
  rw [if_pos hw]
  unfold Oper.wp
  rw [hx]
  refine h.mono ?_
  rintro e w' ⟨v, rfl, hK⟩
  exact hK
theorem WS (m : Nat) (L : List (cA × Nat)) (w : World) (h : w.ownsMap Tryz.prog 9 wC m L.length (kC (L.map fun p => (p.1.name, kD p.2)))) (hr : oB (fun p : cA × Nat => p.1.name) L) (hl : L.length ≤ 1000000000) :
    Calls Tryz.prog 114 #[.func (.func 157) #[] #[.pointer (some ⟨w.heap.size, 0, none⟩)]] (w.alloc (.cells #[.map (some m)] 166)) fun e w' => ∃ v, e = .returned v ∧ w'.ownsRow w.heap.size 9 1 v L.length (L.map fun p => .string p.1.name) ∧ Below w.heap.size w w' := by
  have hsz : Maps.size (kC (L.map fun p => (p.1.name, kD p.2))) = L.length := by rw [oI]
  refine Calls.mono (callsIn_wide.1 (Tryz.slices_Sorted_keys_114_115 m _ _ wC w h (by rw [hsz]; unfold maxLen; omega) (by rw [hsz]; omega))) ?_
  rintro e w1 ⟨v, ss, rfl, hp, hrow, _, hb⟩
  have hk : (strKeys (kC (L.map fun p => (p.1.name, kD p.2)))) = L.map fun p => p.1.name.data.toList := by
    rw [jP, List.map_map]
    rfl
  rw [hk] at hp
  have hlen : ss.length = L.length := by rw [hp.length_eq, List.length_map]
  rw [oZ (key := fun p : cA × Nat => p.1.name) hr hp, EJ (fun p : cA × Nat => p.1.name), hlen] at hrow
  exact ⟨v, rfl, vX hrow (by simp), rA (bA _ _) hb⟩
theorem aGx {W : World} {B : Nat} {e : TypeId} {v : Value} {L : List (cA × Nat)} (h : W.ownsRow B e 1 v L.length (L.map fun p => .string p.1.name)) :
    ∃ ka kc, v = .slice ka L.length kc ∧ (L = [] ∨ ∃ g, ka = some ⟨g, 0, none⟩ ∧ B ≤ g ∧ g < W.heap.size ∧ ∀ i (h : i < L.length), W.cell? ⟨g, i, none⟩ = some (.string L[i].1.name)) := by
  rcases h.2 with ⟨rfl, hl⟩ | ⟨g, cap, cur, rfl, hB, hg, _, _, hsz, htk⟩
  · refine ⟨none, 0, by rw [hl], Or.inl (List.length_eq_zero_iff.1 hl)⟩
  · refine ⟨_, cap, rfl, Or.inr ⟨g, rfl, hB, aA hg, fun i hi => ?_⟩⟩
    have hc := lA.cell (show lA W g cur e from hg) i
    rw [hc, ← Array.getElem?_toList]
    have : (cur.toList.take (L.length * 1))[i]? = (L.map fun p => Value.string p.1.name)[i]? := by rw [htk]
    rw [List.getElem?_take, if_pos (by omega)] at this
    rw [this, List.getElem?_map, List.getElem?_eq_getElem hi]
    rfl
theorem aJq {w : World} {B : Nat} {T : Nat → Option Nat} {l m : Nat} {c : eC} {now : Int} {L : List (cA × Nat)} {M : Nat} (h : vI w B T l m c now L M) (i : Nat) (hi : i < L.length) (hz : L[i].1.name.size ≤ maxLen) :
    ∃ x S, ∀ W, Below w.heap.size w W → W.cell? ⟨l, 7, none⟩ = some (.map (some m)) ∧ (Instr.lookup 166 (.map (some m)) (.string L[i].1.name) false).run Tryz.prog W = .ok (.pointer (some ⟨x, 0, none⟩)) W ∧ zB W S x L[i].1 M := by
  have hq := List.getElem_mem hi
  refine ⟨L[i].2, _, fun W hW => ⟨(h.blk.later hW).cell 7, ?_, (h.idx _ hq).later hW⟩⟩
  obtain ⟨v, ps, hrun, hv⟩ := World.ownsMap.lookup ((dA.of hW).map (S := fun _ => False) h.ten (fun e => e)) zG Tryz.underlying166 (show (zeroValue 178).run Tryz.prog W = .ok (.pointer none) W by kernel_rfl) (zd := .nil) (zp := []) rfl (uI hz)
  rw [hrun]
  rw [sN (key := fun q : cA × Nat => q.1.name) (fun q => kD q.2), gI (key := fun q : cA × Nat => q.1.name) h.rise hq] at hv
  rw [aM hv]
def aPn (ts : List cA) : Prop := ∀ t ∈ ts, t.name.size ≤ maxLen ∧ (∀ i (h : i < t.mets.length), t.mets[i].s.size ≤ maxLen) ∧ (∀ i (h : i < t.sers.length), t.sers[i].s.size ≤ maxLen) ∧ t.mets.length ≤ 2000000 ∧ t.sers.length ≤ 2000000
theorem aFp (l m : Nat) (c : eC) (now : Int) (B : Nat) (ts : List cA) (M : Nat) (w : World) (h : tC w B l m c now ts M) (hfit : aPn ts) (hlen : ts.length ≤ 2000000) :
    Calls Tryz.prog 70 #[.pointer (some ⟨l, 0, none⟩)] w fun e w' => ∃ a cap, e = .returned (.agg #[.int .i64 now, .slice a ts.length cap]) ∧ eB w' w.heap.size a ts ∧ Below w.heap.size w w' := by
  obtain ⟨T0, L, h, rfl⟩ := h
  rw [List.length_map] at hlen ⊢
  have c6 : w.cell? ⟨l, 6, none⟩ = some (.int .i64 now) := h.blk.cell 6
  have hll := aA h.blk
  have HL7 : Hid (∀ W, Below w.heap.size w W → W.cell? ⟨l, 7, none⟩ = some (.map (some m))) := fun W hW => (h.blk.later hW).cell 7
  have HLK : Hid _ := fun i hi => aJq h i hi (hfit _ (List.mem_map_of_mem (List.getElem_mem hi))).1
  have HTL : Hid (∀ i (hi : i < L.length) x S W, zB W S x L[i].1 M → Calls Tryz.prog 116 #[.pointer (some ⟨x, 0, none⟩), .string L[i].1.name] W fun e w' => oY W L[i].1.name L[i].1 e w') := fun i hi x S W hix => by
    obtain ⟨_, f1, f2, f3, f4⟩ := hfit _ (List.mem_map_of_mem (f := (·.1)) (List.getElem_mem hi))
    refine (aLa x L[i].1.name L[i].1 S M W hix f1 f2 (by omega) (by omega)).mono ?_
    rintro e w' ⟨v1, v2, M', rfl, r1, hM1, hM2, hM3, r2, hb⟩
    obtain ⟨a1, c1, rfl⟩ := nT r1
    obtain ⟨a2, c2, rfl⟩ := nT r2
    exact ⟨M', a1, c1, a2, c2, rfl, hM2, lC r1, fun g o e => hM1 g (by rw [e]; rfl), lC r2, hM3, hb⟩
  have HSL : Hid _ := fun W hW => WS m L W ((dA.of hW).map (S := fun _ => False) h.ten (fun e => e)) h.rise (by omega)
  have HMK : Hid _ := fun W => callsIn_wide.1 (Tryz.maps_Keys_115 (some m) W)
  unfold oY at HTL
  clear h hfit
  have B2 : Hid (Below w.heap.size w ((w.alloc (.cells #[.int .i64 0, .slice none 0 0] 43)).alloc (.cells #[.int .i64 now, .slice none 0 0] 43))) := rA (bA _ _) (bA _ _)
  have c7 := HL7.out _ B2.out
  go_enter Tryz.func70, Tryz.ntmps70
  go_wp2_with fail
  refine (HMK.out _).mono ?_
  rintro e w1 ⟨rfl, rfl⟩
  have X2 : Hid _ := iA (by have := lA.new (w.alloc (.cells #[.int .i64 0, .slice none 0 0] 43)) #[.int .i64 now, .slice none 0 0] 43; simpa using this)
  have Y2 : Hid (lA ((w.alloc (.cells #[.int .i64 0, .slice none 0 0] 43)).alloc (.cells #[.int .i64 now, .slice none 0 0] 43)) w.heap.size #[.int .i64 0, .slice none 0 0] 43) := (lA.new _ _ _).alloc _
  clear c7 c6
  generalize (w.alloc (.cells #[.int .i64 0, .slice none 0 0] 43)).alloc (.cells #[.int .i64 now, .slice none 0 0] 43) = w2 at *
  go_wp2_with fail
  refine (HSL.out _ B2.out).mono ?_
  rintro e w3 ⟨kv, rfl, hrow, hb3⟩
  obtain ⟨ka, kc, rfl, hks⟩ := aGx hrow
  have HKS := iA hks
  have B3 : Hid _ := rA B2.out hb3
  have X3 : Hid (lA w3 (w.heap.size + 1) #[.int .i64 now, .slice none 0 0] 43) := X2.out.later hb3
  have Y3 : Hid (lA w3 w.heap.size #[.int .i64 0, .slice none 0 0] 43) := Y2.out.later hb3
  have HX2 : Hid _ := aA X2.out
  clear hrow hks hb3 X2 Y2 B2 HSL HMK
  obtain ⟨i1, hi1, hq10, hq11, hq12⟩ := info_parts nJ
  have HI1 : Hid _ := hi1
  clear hi1
  go_wp2
  go_loopw [5, 18] (fun _ i wr => ∃ (k : Nat) (v : Value), k ≤ L.length ∧ i = .int .i64 k ∧ Hid (lA wr (w.heap.size + 1) #[.int .i64 now, v] 43) ∧ Hid (qN wr w3.heap.size 95 v k ((L.take k).map (·.1))) ∧ Hid (dA (· = w.heap.size + 1) w3 wr)) (fun _ i _ => L.length - (intOf i).toNat)
  case atStart => exact ⟨0, .slice none 0 0, Nat.zero_le _, rfl, X3.out, qN.nil _ _ _, dA.refl _ _⟩
  case round =>
    obtain ⟨k, v, hk, rfl, HX, HRV, HBU⟩ := hrel
    have HBW : Hid _ := (((dA.of (S := fun i => w.heap.size ≤ i) B3.out).trans' (HBU.out.mono fun i _ e => by omega)).below (Nat.le_refl _) fun i hi h => by omega)
    by_cases hlt : k < L.length
    · have hks2 : ∃ g, ka = some ⟨g, 0, none⟩ ∧ w2.heap.size ≤ g ∧ g < w3.heap.size ∧ ∀ i (h : i < L.length), w3.cell? ⟨g, i, none⟩ = some (.string L[i].1.name) := by
        rcases HKS.out with h0 | h0
        · rw [h0] at hlt; exact absurd hlt (by simp)
        · exact h0
      obtain ⟨g, rfl, hg1, hg2, hgc⟩ := hks2
      have hx2 := HX2.out
      have hkey := (World.cell?_of_block (HBU.out.block g hg2 (by omega))).trans (hgc k hlt)
      obtain ⟨x, S, HQ0⟩ := HLK.out k hlt
      have HQ := iA HQ0
      have HTK := iA (HTL.out k hlt x S)
      have HLT : Hid ((L.take (k + 1)).map (·.1) = (L.take k).map (·.1) ++ [L[k].1]) := by show _ = _; rw [List.take_succ_eq_append_getElem hlt, List.map_append]; rfl
      have HLL : Hid (((L.take k).map (·.1)).length = k) := by show _ = _; rw [List.length_map, List.length_take]; omega
      have hsz3 := HBU.out.size
      have hB3s := B3.out.size
      clear hgc HQ0
      generalize (L.take k).map (·.1) = TS at *
      generalize L[k].1 = t at *
      obtain ⟨T, ys, hV1, hV2, hV3, hV4⟩ := HRV.out
      have HV1 := iA hV1
      have HV2 := iA hV2
      have HV3 := iA hV3
      have HV4 := iA hV4
      have hob := fun q hq => hV1.lt q hq
      have agv : v.ownBlock ≠ some (w.heap.size + 1) := fun e => by have := (hob _ e).1; omega
      have HCL : Hid (∀ W, Below wr.heap.size wr W → W.cell? ⟨w.heap.size + 1, 1, none⟩ = some v) := fun W hW => (HX.out.later hW).cell 1
      have v5 : wr.cell? ⟨w.heap.size + 1, 1, none⟩ = some v := HX.out.cell 1
      obtain ⟨q1, q2, q3⟩ := HQ.out wr.drew HBW.out.drew
      have Q3 := iA q3
      have hxw : l < wr.heap.size := by omega
      have hXw : w.heap.size + 1 < wr.heap.size := by omega
      clear hV1 hV2 hV3 hV4 q3
      go_wp2_with fail
      go_region_law
        (first
          | ((fail_if_success (have q := hb4)); refine XC (f := 116) (args := #[.pointer (some ⟨x, 0, none⟩), .string t.name]) rfl (by go_simp) ?_; refine (HTK.out _ Q3.out).mono ?_; rintro e w4 ⟨M4, a1, d1, a2, d2, rfl, hM, o1, o1M, o2, oM, hb4⟩; have b4 : Below wr.heap.size wr w4 := rA (Below.refl _ _).drew hb4; have x4 := HCL.out _ b4; have x5 : (w4.alloc (.cells #[.string t.name, .int .i64 t.limit, .slice a1 t.mets.length d1, .slice a2 t.sers.length d2] 95)).cell? ⟨w.heap.size + 1, 1, none⟩ = some v := HCL.out _ (rA b4 (bA _ _)); have O := iA (And.intro hM (And.intro o1 (And.intro o1M (And.intro o2 oM)))); clear hM o1 o1M o2 oM; refine ⟨_, rfl, ?_⟩)
          | (have q := hb4; clear q; refine step_append_lies _ (by rfl) _ _ _ (by rfl) w3.heap.size 95 i1 _ 4 72 Tryz.underlying41 HI1.out hq10 hq11 hq12 rfl (by omega) v k (fD ys) (by rfl) (by exact (yA (yA HV1.out b4) (bA _ _))) ⟨w4.heap.size, 0, none⟩ 1 1 [.string t.name, .int .i64 t.limit, .slice a1 t.mets.length d1, .slice a2 t.sers.length d2] (by rfl) (by rfl) (by exact World.news_of_block (cs := #[.string t.name, .int .i64 t.limit, .slice a1 t.mets.length d1, .slice a2 t.sers.length d2]) (heap_alloc_new _ _)) (by simp [Value.oneCell']) (by omega) (by unfold maxLen; omega) (by omega) (by have := b4.size; simp; omega) (w4.heap.size + 1) (by simp) ?_; intro gg cap w5 hown5 hgrow hat hlt5; have HX5 : Hid (lA w5 (w.heap.size + 1) #[.int .i64 now, v] 43) := (dA.grown hgrow).blk ((HX.out.later b4).alloc _) agv; have s5 := HX5.out.cell 1; have f5 := HX5.out.free 1))
      all_goals (
        have hsz4 := b4.size
        have hgg : (v.ownBlock = some gg ∧ gg < wr.heap.size) ∨ w4.heap.size ≤ gg := by
          rcases hat with h | h
          · exact Or.inl ⟨h, (hob _ h).2⟩
          · exact Or.inr (by omega)
        have hset : dA (· = w.heap.size + 1) w5 (w5.setCell ⟨w.heap.size + 1, 1, none⟩ (.slice (some ⟨gg, 0, none⟩) (k + 1) cap)) := (dA.refl (· = w.heap.size + 1) w5).setCell (Or.inl rfl) 1 _
        have hk5 : ∀ g, g < w4.heap.size → w3.heap.size ≤ g → v.ownBlock ≠ some g → (w5.setCell ⟨w.heap.size + 1, 1, none⟩ (.slice (some ⟨gg, 0, none⟩) (k + 1) cap)).heap[g]? = w4.heap[g]? := fun g hg hgR2 hne => by
          rw [hset.block g (by have := hgrow.size; simp at this; omega) (by omega), (dA.grown hgrow).block g (by simp; omega) hne]
          exact (bA _ _).block g hg
        have HX6 : Hid _ := iA (by have := HX5.out.set 1 (.slice (some ⟨gg, 0, none⟩) (k + 1) cap); simpa using this)
        have HT6 : Hid _ := (HBU.out.trans ((dA.of (rA b4 (bA _ _))).trans' ((dA.grown hgrow).mono fun i _ e => Or.inr (hob i e).1))).trans' hset
        have HR6 : Hid (qN (w5.setCell ⟨w.heap.size + 1, 1, none⟩ (.slice (some ⟨gg, 0, none⟩) (k + 1) cap)) w3.heap.size 95 (.slice (some ⟨gg, 0, none⟩) (k + 1) cap) (k + 1) ((L.take (k + 1)).map (·.1))) := by
          refine iA ?_
          rw [HLT.out]
          have hyk : ys.length = k := by have h1 := HLL.out; rw [← HV2.out, List.length_map] at h1; exact h1
          exact qN.snoc (wr := wr) (w4 := w4) (M := M4) (v := v) (T := T) (ys := ys) (hset.row hown5 (fun q hq e => by simp [Value.ownBlock] at hq; rcases hgg with h | h <;> first | (have := (hob _ h.1).1; omega) | omega)) HV2.out hyk HV3.out HV4.out (by omega) O.out.1
            (fun g hg hgR2 hne => (hk5 g (by omega) hgR2 hne).trans (b4.block g hg))
            (fun g hg hg4 => hk5 g hg4 (by omega) (fun e => by have := (hob _ e).2; omega))
            O.out.2.1 O.out.2.2.1 O.out.2.2.2.1 hgg hsz4 O.out.2.2.2.2)
      all_goals clear hown5 hgrow hat s5 f5 HX5 hset hk5
      all_goals go_wp2
      all_goals exact ⟨⟨k + 1, _, by omega, by go_num, HX6.out, HR6.out, HT6.out⟩, by simp [intOf]; omega⟩
    · have ek : k = L.length := by omega
      have HRE : Hid (qN wr w3.heap.size 95 v L.length (L.map (·.1))) := by
        have := HRV.out
        rw [ek, List.take_length] at this
        exact this
      obtain ⟨ra, rc, rfl⟩ := HRE.out.row
      have YW : Hid (lA wr w.heap.size #[.int .i64 0, .slice none 0 0] 43) := HBU.out.blk Y3.out (by omega)
      have x0 : wr.cell? ⟨w.heap.size + 1, 0, none⟩ = some (.int .i64 now) := HX.out.cell 0
      have x1 : wr.cell? ⟨w.heap.size + 1, 1, none⟩ = some (.slice ra L.length rc) := HX.out.cell 1
      have y0 : wr.cell? ⟨w.heap.size, 0, none⟩ = some (.int .i64 0) := YW.out.cell 0
      have y1 : wr.cell? ⟨w.heap.size, 1, none⟩ = some (.slice none 0 0) := YW.out.cell 1
      have f0 := YW.out.free 0
      have f1 := YW.out.free 1
      have h31 := aA X3.out
      go_wp2
      have HTE : dA (· = w.heap.size) wr ((wr.setCell ⟨w.heap.size, 0, none⟩ (.int .i64 now)).setCell ⟨w.heap.size, 1, none⟩ (.slice ra L.length rc)) := ((dA.refl (· = w.heap.size) wr).setCell (Or.inl rfl) 0 _).setCell (Or.inl rfl) 1 _
      refine bodyPost_ret (v := .agg #[.int .i64 now, .slice ra L.length rc]) (by simp [results, Tryz.results70, go_sem, y0, y1]) rfl ⟨ra, rc, rfl, ((HRE.out.turn HTE (fun g e => by omega)).own (by rw [List.length_map])).mono (by omega), ((dA.of (S := fun i => w.heap.size ≤ i) HBW.out).trans' (HTE.mono fun i _ e => by omega)).below (Nat.le_refl _) fun i hi h => by omega⟩
end Go.Proofs.YtcneojllbkacoaaGreatDoor
