import Derived.Test.YtgnppdghjlnlhaaGreatDoorProg
import Derived.Test.YtgnppdghjlnlhaaGreatDoorJ27CpyS
import Derived.Test.YtgnppdghjlnlhaaGreatDoorJ24PrE
namespace Go.Proofs.YtgnppdghjlnlhaaGreatDoor
open Go.RowKit
theorem TensOwn.turned {S : Nat → Prop} {w w' : World} {B : Nat} {a : Option Addr} {ts : List TenD} (h : TensOwn w B a ts) (ht : Turn S w w') (hS : ∀ g, B ≤ g → g < w.heap.size → ¬ S g) : TensOwn w' B a ts := by
  rcases h with h | ⟨g, o, cur, t, T, rfl, hB, hg, hT, h⟩
  · exact Or.inl h
  · have hk := ht.block g (lt_of_block hg) (hS g hB (lt_of_block hg))
    exact Or.inr ⟨g, o, cur, t, T, rfl, hB, hk.trans hg, hT, fun i hi => (h i hi).keep (fun j _ => World.cell?_of_block hk) fun g' hg' hB' _ => ⟨ht.block g' hg' (hS g' hB' hg'), rfl⟩⟩
theorem row_cellsC {w8 : World} {B g n cap : Nat} {e : TypeId} {ys : List TV} (h : w8.ownsRow B e 4 (.slice (some ⟨g, 0, none⟩) n cap) n (flatV ys)) (hn : ys.length = n) :
    ∀ i (hi : i < ys.length), w8.cell? ⟨g, i * 4, none⟩ = some (.string ys[i].t.name) ∧ w8.cell? ⟨g, i * 4 + 1, none⟩ = some (.int .i64 ys[i].t.limit) ∧ w8.cell? ⟨g, i * 4 + 2, none⟩ = some (.slice ys[i].a1 ys[i].t.mets.length ys[i].c1) ∧ w8.cell? ⟨g, i * 4 + 3, none⟩ = some (.slice ys[i].a2 ys[i].t.sers.length ys[i].c2) ∧ w8.frozen? ⟨g, i * 4 + 2, none⟩ = false ∧ w8.frozen? ⟨g, i * 4 + 3, none⟩ = false := by
  intro i hi
  rcases h.2 with ⟨he, _⟩ | ⟨g', cap', cur, he, hB, hg, _, _, hsz, htk⟩
  · cases he
  · simp only [Value.slice.injEq, Option.some.injEq, Addr.mk.injEq, and_true] at he
    rw [← he.1] at hg
    have hb : Blk w8 g cur e := hg
    obtain ⟨f0, f1, f2, f3⟩ := flatV_get ys i hi
    have hc : ∀ j, j < ys.length * 4 → w8.cell? ⟨g, j, none⟩ = (flatV ys)[j]? := fun j hj => by
      rw [hb.cell j, ← Array.getElem?_toList, ← htk, List.getElem?_take_of_lt (by rw [← hn]; exact hj)]
    refine ⟨?_, ?_, ?_, ?_, hb.free _, hb.free _⟩
    · rw [hc _ (by omega)]; exact f0
    · rw [hc _ (by omega)]; exact f1
    · rw [hc _ (by omega)]; exact f2
    · rw [hc _ (by omega)]; exact f3
theorem row_formC {w : World} {B n size : Nat} {e : TypeId} {v : Value} {xs : List Value} (h : w.ownsRow B e size v n xs) : ∃ a c, v = .slice a n c := by
  rcases h.2 with ⟨e1, e2⟩ | ⟨g, cap, _, e1, _⟩
  · exact ⟨none, 0, by rw [e1, e2]⟩
  · exact ⟨_, _, e1⟩
theorem row_monoC {w : World} {B B' : Nat} {e : TypeId} {size : Nat} {v : Value} {n : Nat} {xs : List Value} (h : w.ownsRow B e size v n xs) (hB : B' ≤ B) : w.ownsRow B' e size v n xs :=
  ⟨h.1, h.2.imp id (fun ⟨g, cap, cur, e, hg, r⟩ => ⟨g, cap, cur, e, Nat.le_trans hB hg, r⟩)⟩
theorem map_t_set (l : List TV) (k : Nat) (hk : k < l.length) (Y : TV) (hY : Y.t = l[k].t) : (l.set k Y).map (·.t) = l.map (·.t) := by
  refine List.ext_getElem (by simp) (fun i h1 h2 => ?_)
  simp only [List.getElem_map, List.getElem_set]
  split
  · rename_i e
    subst e
    exact hY
  · rfl
set_option maxRecDepth 100000 in
set_option maxHeartbeats 8000000 in
theorem copyState_any (now : Int) (a : Option Addr) (cap : Nat) (ts : List TenD) (w : World) (hf : TensIn w a ts) (hlen : ts.length ≤ 2000000) (hfit : ∀ t ∈ ts, t.mets.length ≤ 2000000 ∧ t.sers.length ≤ 2000000) :
    Calls Tryz.prog 59 #[.agg #[.int .i64 now, .slice a ts.length cap]] w fun e w' => ∃ a' cap', e = .returned (.agg #[.int .i64 now, .slice a' ts.length cap']) ∧ TensOwn w' w.heap.size a' ts ∧ Below w.heap.size w w' := by
  have HCL : Hid (∀ W, Below w.heap.size w W → Calls Tryz.prog 84 #[.slice a ts.length cap] W fun e w' => ∃ v ys, e = .returned v ∧ w'.ownsRow W.heap.size 94 4 v ts.length (flatV ys) ∧ ys.map (·.t) = ts ∧ OldY w ys ∧ Below W.heap.size W w') := fun W hW => cloneT_any a cap ts w W hf hW hlen
  have HFT := hid hfit
  clear hf hfit
  have B0 : Hid (Below w.heap.size w ((w.alloc (.cells #[.int .i64 now, .slice a ts.length cap] 41)).alloc (.cells #[.int .i64 0, .slice none 0 0] 41))) := bto (bnew _ _) (bnew _ _)
  have P0 : Hid (Blk ((w.alloc (.cells #[.int .i64 now, .slice a ts.length cap] 41)).alloc (.cells #[.int .i64 0, .slice none 0 0] 41)) w.heap.size #[.int .i64 now, .slice a ts.length cap] 41) := (Blk.new _ _ _).alloc _
  have Q0 : Hid (Blk ((w.alloc (.cells #[.int .i64 now, .slice a ts.length cap] 41)).alloc (.cells #[.int .i64 0, .slice none 0 0] 41)) (w.heap.size + 1) #[.int .i64 0, .slice none 0 0] 41) := hid (by have := Blk.new (w.alloc (.cells #[.int .i64 now, .slice a ts.length cap] 41)) #[.int .i64 0, .slice none 0 0] 41; simpa using this)
  have hs0 : w.heap.size + 1 < ((w.alloc (.cells #[.int .i64 now, .slice a ts.length cap] 41)).alloc (.cells #[.int .i64 0, .slice none 0 0] 41)).heap.size := by simp
  go_enter Tryz.func59, Tryz.ntmps59
  go_wp2_with fail
  refine (HCL.out _ B0.out).mono ?_
  rintro e w1 ⟨v, ys0, rfl, ho1, hys, hold, hb1⟩
  have P1 : Hid (Blk w1 w.heap.size #[.int .i64 now, .slice a ts.length cap] 41) := P0.out.later hb1
  have Q1 : Hid (Blk w1 (w.heap.size + 1) #[.int .i64 0, .slice none 0 0] 41) := Q0.out.later hb1
  have BW1 : Hid (Below w.heap.size w w1) := bto B0.out hb1
  have O1 := hid ho1
  have HYS := hid hys
  have HOL := hid hold
  have y0 : w1.cell? ⟨w.heap.size, 1, none⟩ = some (.slice a ts.length cap) := P1.out.cell 1
  have fy := P1.out.free 1
  have hs1 := hb1.size
  clear ho1 hys hold hb1 P0 Q0 B0 HCL
  generalize ((w.alloc (.cells #[.int .i64 now, .slice a ts.length cap] 41)).alloc (.cells #[.int .i64 0, .slice none 0 0] 41)) = w0 at *
  have TP : Hid (Turn (· = w.heap.size) w1 (w1.setCell ⟨w.heap.size, 1, none⟩ v)) := (Turn.refl (· = w.heap.size) w1).setCell (Or.inl rfl) 1 _
  have P2 : Hid (Blk (w1.setCell ⟨w.heap.size, 1, none⟩ v) w.heap.size #[.int .i64 now, v] 41) := hid (by have := P1.out.set 1 v; simpa using this)
  have Q2 : Hid (Blk (w1.setCell ⟨w.heap.size, 1, none⟩ v) (w.heap.size + 1) #[.int .i64 0, .slice none 0 0] 41) := TP.out.blk Q1.out (by omega)
  have BW2 : Hid (Below w.heap.size w (w1.setCell ⟨w.heap.size, 1, none⟩ v)) := BW1.out.trans (TP.out.below (by have := BW1.out.size; omega) fun i hi e => by omega)
  have O2 : Hid ((w1.setCell ⟨w.heap.size, 1, none⟩ v).ownsRow w0.heap.size 94 4 v ts.length (flatV ys0)) := TP.out.row O1.out (fun q hq e => by have := (O1.out.lt q hq).1; omega)
  rcases O1.out.2 with ⟨hv, hn0⟩ | ⟨g, vc, cur, hv, hBg, _⟩
  · subst hv
    have hts : ts = [] := List.length_eq_zero_iff.1 hn0
    have x1 : (w1.setCell ⟨w.heap.size, 1, none⟩ (.slice none 0 0)).cell? ⟨w.heap.size, 1, none⟩ = some (.slice none 0 0) := P2.out.cell 1
    subst hts
    go_wp2
    clear y0 fy x1 TP P1 Q1 BW1 O1 O2
    generalize (w1.setCell ⟨w.heap.size, 1, none⟩ (.slice none 0 0)) = w2 at *
    go_loopw [12] (fun i wr => i = .int .i64 0 ∧ w2 = wr) (fun _ _ => 0)
    case atStart => exact ⟨rfl, rfl⟩
    case round =>
      obtain ⟨rfl, hw⟩ := hrel
      subst hw
      have RQ := Q2
      have RP := P2
      have BW := BW2
      have z0 : w2.cell? ⟨w.heap.size + 1, 0, none⟩ = some (.int .i64 0) := RQ.out.cell 0
      have z1 : w2.cell? ⟨w.heap.size + 1, 1, none⟩ = some (.slice none 0 0) := RQ.out.cell 1
      have fz0 := RQ.out.free 0
      have fz1 := RQ.out.free 1
      have s0 : w2.cell? ⟨w.heap.size, 0, none⟩ = some (.int .i64 now) := RP.out.cell 0
      have s1 : w2.cell? ⟨w.heap.size, 1, none⟩ = some (.slice none 0 0) := RP.out.cell 1
      have hwl : w.heap.size + 1 < w2.heap.size := lt_of_block RQ.out
      go_wp2
      have HTE : Turn (· = w.heap.size + 1) w2 ((w2.setCell ⟨w.heap.size + 1, 0, none⟩ (.int .i64 now)).setCell ⟨w.heap.size + 1, 1, none⟩ (.slice none 0 0)) := ((Turn.refl (· = w.heap.size + 1) w2).setCell (Or.inl rfl) 0 _).setCell (Or.inl rfl) 1 _
      refine bodyPost_ret (v := .agg #[.int .i64 now, .slice none 0 0]) (by simp [results, Tryz.results59, go_sem, z0, z1]) rfl ?_
      have ho : TensOwn ((w2.setCell ⟨w.heap.size + 1, 0, none⟩ (.int .i64 now)).setCell ⟨w.heap.size + 1, 1, none⟩ (.slice none 0 0)) w.heap.size none [] := Or.inl rfl
      have hbe : Below w.heap.size w ((w2.setCell ⟨w.heap.size + 1, 0, none⟩ (.int .i64 now)).setCell ⟨w.heap.size + 1, 1, none⟩ (.slice none 0 0)) := ((Turn.of (S := fun i => w.heap.size ≤ i) BW.out).trans' (HTE.mono fun i _ e => by omega)).below (Nat.le_refl _) fun i hi h => by omega
      first
        | exact ⟨none, ⟨0, rfl⟩, ho, hbe⟩
        | exact ⟨none, 0, rfl, ho, hbe⟩
  · subst hv
    have x1 : (w1.setCell ⟨w.heap.size, 1, none⟩ (.slice (some ⟨g, 0, none⟩) ts.length vc)).cell? ⟨w.heap.size, 1, none⟩ = some (.slice (some ⟨g, 0, none⟩) ts.length vc) := P2.out.cell 1
    have HC0 : Hid (CpR w (w1.setCell ⟨w.heap.size, 1, none⟩ (.slice (some ⟨g, 0, none⟩) ts.length vc)) w0.heap.size g ts.length vc (fun _ => 0) ys0 0 false) := by
      have hyl : ys0.length = ts.length := by rw [← HYS.out, List.length_map]
      refine hid { row := O2.out, len := hyl, tg := rfl, own := fun i _ h => absurd h (by omega), half := fun h => (by cases h), old := fun i hi _ => ?_ }
      obtain ⟨p1, p2⟩ := HOL.out ys0[i] (List.getElem_mem hi)
      exact ⟨p2, fun _ => p1⟩
    go_wp2
    clear y0 fy x1 TP P1 Q1 BW1 O1 O2 HOL
    have hs2 : w0.heap.size ≤ (w1.setCell ⟨w.heap.size, 1, none⟩ (.slice (some ⟨g, 0, none⟩) ts.length vc)).heap.size := by simp; exact hs1
    generalize (w1.setCell ⟨w.heap.size, 1, none⟩ (.slice (some ⟨g, 0, none⟩) ts.length vc)) = w2 at *
    go_loopw [12] (fun i wr => ∃ (k : Nat) (T : Nat → Nat) (ys : List TV), k ≤ ts.length ∧ i = .int .i64 k ∧ Hid (CpR w wr w0.heap.size g ts.length vc T ys k false) ∧ Hid (ys.map (·.t) = ts) ∧ Hid (Blk wr w.heap.size #[.int .i64 now, .slice (some ⟨g, 0, none⟩) ts.length vc] 41) ∧ Hid (Blk wr (w.heap.size + 1) #[.int .i64 0, .slice none 0 0] 41) ∧ Hid (Below w.heap.size w wr) ∧ w0.heap.size ≤ wr.heap.size) (fun i _ => ts.length - (intOf i).toNat)
    case atStart => exact ⟨0, _, ys0, Nat.zero_le _, rfl, HC0.out, HYS.out, P2.out, Q2.out, BW2.out, hs2⟩
    case round =>
      obtain ⟨k, T, ys, hk, rfl, HC, HY, RP, RQ, BW, hsr⟩ := hrel
      clear HC0 HYS P2 Q2 BW2
      have hyl : ys.length = ts.length := by rw [← HY.out, List.length_map]
      by_cases hlt : k < ts.length
      · have hky : k < ys.length := by omega
        obtain ⟨c0, c1, c2, c3, f2, f3⟩ := row_cellsC HC.out.row HC.out.len k hky
        have s1 : wr.cell? ⟨w.heap.size, 1, none⟩ = some (.slice (some ⟨g, 0, none⟩) ts.length vc) := RP.out.cell 1
        have hsw : w.heap.size + 1 < wr.heap.size := lt_of_block RQ.out
        go_wp2
        have hal := bnew wr (.cells #[.string ys[k].t.name, .int .i64 ys[k].t.limit, .slice ys[k].a1 ys[k].t.mets.length ys[k].c1, .slice ys[k].a2 ys[k].t.sers.length ys[k].c2] 94)
        have BX : Hid (Blk (wr.alloc (.cells #[.string ys[k].t.name, .int .i64 ys[k].t.limit, .slice ys[k].a1 ys[k].t.mets.length ys[k].c1, .slice ys[k].a2 ys[k].t.sers.length ys[k].c2] 94)) wr.heap.size #[.string ys[k].t.name, .int .i64 ys[k].t.limit, .slice ys[k].a1 ys[k].t.mets.length ys[k].c1, .slice ys[k].a2 ys[k].t.sers.length ys[k].c2] 94) := Blk.new _ _ _
        have CB : Hid (CpR w (wr.alloc (.cells #[.string ys[k].t.name, .int .i64 ys[k].t.limit, .slice ys[k].a1 ys[k].t.mets.length ys[k].c1, .slice ys[k].a2 ys[k].t.sers.length ys[k].c2] 94)) w0.heap.size g ts.length vc T ys k false) := HC.out.keep (S := fun _ => False) (Turn.of hal) (fun _ e => e.elim)
        have RPb := hid (RP.out.later hal)
        have RQb := hid (RQ.out.later hal)
        have BWb : Hid (Below w.heap.size w (wr.alloc (.cells #[.string ys[k].t.name, .int .i64 ys[k].t.limit, .slice ys[k].a1 ys[k].t.mets.length ys[k].c1, .slice ys[k].a2 ys[k].t.sers.length ys[k].c2] 94))) := bto BW.out hal
        have hsb : w0.heap.size ≤ (wr.alloc (.cells #[.string ys[k].t.name, .int .i64 ys[k].t.limit, .slice ys[k].a1 ys[k].t.mets.length ys[k].c1, .slice ys[k].a2 ys[k].t.sers.length ys[k].c2] 94)).heap.size := by have := hal.size; omega
        have hgw : g < wr.heap.size := (HC.out.row.lt g rfl).2
        have hwb : wr.heap.size < (wr.alloc (.cells #[.string ys[k].t.name, .int .i64 ys[k].t.limit, .slice ys[k].a1 ys[k].t.mets.length ys[k].c1, .slice ys[k].a2 ys[k].t.sers.length ys[k].c2] 94)).heap.size := by simp
        obtain ⟨hO2, hO1⟩ := HC.out.old k hky (Nat.le_refl _)
        have hO1 := hO1 (Or.inl rfl)
        have hmem : ys[k].t ∈ ts := by rw [← HY.out]; exact List.mem_map.2 ⟨ys[k], List.getElem_mem hky, rfl⟩
        obtain ⟨hl1, hl2⟩ := HFT.out _ hmem
        have HM : Hid (∀ W0 W, Below w.heap.size w W0 → Below W0.heap.size W0 W → Calls Tryz.prog 85 #[.slice ys[k].a1 ys[k].t.mets.length ys[k].c1] W fun e w' => ∃ v, e = .returned v ∧ w'.ownsRow W0.heap.size 99 2 v ys[k].t.mets.length (flatK ys[k].t.mets) ∧ Below W0.heap.size W0 w') := fun W0 W h0 hW => (cloneM_any ys[k].a1 ys[k].c1 ys[k].t.mets W (hO1.later (bto h0 hW)) hl1).mono fun e w' ⟨v, h1, h2, h3⟩ => ⟨v, h1, row_monoC h2 hW.size, bto hW h3⟩
        have HS : Hid (∀ W0 W, Below w.heap.size w W0 → Below W0.heap.size W0 W → Calls Tryz.prog 86 #[.slice ys[k].a2 ys[k].t.sers.length ys[k].c2] W fun e w' => ∃ v, e = .returned v ∧ w'.ownsRow W0.heap.size 101 2 v ys[k].t.sers.length (flatK ys[k].t.sers) ∧ Below W0.heap.size W0 w') := fun W0 W h0 hW => (cloneX_any ys[k].a2 ys[k].c2 ys[k].t.sers W (hO2.later (bto h0 hW)) hl2).mono fun e w' ⟨v, h1, h2, h3⟩ => ⟨v, h1, row_monoC h2 hW.size, bto hW h3⟩
        clear c0 c1 c2 c3 f2 f3 s1 hO1 hO2 hmem hl1 hl2 HC RP RQ BW
        generalize (wr.alloc (.cells #[.string ys[k].t.name, .int .i64 ys[k].t.limit, .slice ys[k].a1 ys[k].t.mets.length ys[k].c1, .slice ys[k].a2 ys[k].t.sers.length ys[k].c2] 94)) = wb at *
        have s1 : wb.cell? ⟨w.heap.size, 1, none⟩ = some (.slice (some ⟨g, 0, none⟩) ts.length vc) := RPb.out.cell 1
        have b2 : wb.cell? ⟨wr.heap.size, 2, none⟩ = some (.slice ys[k].a1 ys[k].t.mets.length ys[k].c1) := BX.out.cell 2
        clear hal
        go_region_law
          (refine step_enterC (f := 85) (args := #[.slice ys[k].a1 ys[k].t.mets.length ys[k].c1]) rfl (by go_simp) ?_; refine (HM.out wb _ BWb.out (Below.refl _ _).drew).mono ?_; rintro e w5 ⟨v5, rfl, ho5, hb5⟩; obtain ⟨a5, d5, rfl⟩ := row_formC ho5; obtain ⟨_, _, c25, _, f25, _⟩ := row_cellsC (row_later CB.out.row hb5) CB.out.len k hky; have s15 := (RPb.out.later hb5).cell 1; have O5 := hid ho5; have hsz5 := hb5.size; have B5 := hid hb5; clear ho5 hb5; refine ⟨_, rfl, ?_⟩)
        all_goals (
          have TG : Turn (· = g) w5 (w5.setCell ⟨g, k * 4 + 2, none⟩ (.slice a5 ys[k].t.mets.length d5)) := (Turn.refl (· = g) w5).setCell (Or.inl rfl) _ _
          have C6 := hid (CB.out.limits hky B5.out hsb O5.out)
          have RP6 := hid (TG.blk (RPb.out.later B5.out) (show ¬ w.heap.size = g by omega))
          have RQ6 := hid (TG.blk (RQb.out.later B5.out) (show ¬ w.heap.size + 1 = g by omega))
          have BX6 := hid (TG.blk (BX.out.later B5.out) (show ¬ wr.heap.size = g by omega))
          have BW6 : Hid (Below w.heap.size w (w5.setCell ⟨g, k * 4 + 2, none⟩ (.slice a5 ys[k].t.mets.length d5))) := (bto BWb.out B5.out).trans (TG.below (by omega) fun i hi e => by omega)
          have hs6 : w0.heap.size ≤ (w5.setCell ⟨g, k * 4 + 2, none⟩ (.slice a5 ys[k].t.mets.length d5)).heap.size := by simp; omega
          have hw6 : wr.heap.size < (w5.setCell ⟨g, k * 4 + 2, none⟩ (.slice a5 ys[k].t.mets.length d5)).heap.size := by simp; omega
          have HY6 : Hid ((ys.set k ⟨ys[k].t, a5, d5, ys[k].a2, ys[k].c2⟩).map (·.t) = ts) := (map_t_set ys k hky ⟨ys[k].t, a5, d5, ys[k].a2, ys[k].c2⟩ rfl).trans HY.out
          clear c25 f25 s15 TG s1 b2 CB RPb RQb BX BWb
          generalize (w5.setCell ⟨g, k * 4 + 2, none⟩ (.slice a5 ys[k].t.mets.length d5)) = w6 at *
          generalize (fun g => if g < wb.heap.size then T g else 2 * k + 1) = T6 at *)
        all_goals (
          have s1 : w6.cell? ⟨w.heap.size, 1, none⟩ = some (.slice (some ⟨g, 0, none⟩) ts.length vc) := RP6.out.cell 1
          have b3 : w6.cell? ⟨wr.heap.size, 3, none⟩ = some (.slice ys[k].a2 ys[k].t.sers.length ys[k].c2) := BX6.out.cell 3)
        all_goals go_wp2_with fail
        all_goals go_region_law
          (refine step_enterC (f := 86) (args := #[.slice ys[k].a2 ys[k].t.sers.length ys[k].c2]) rfl (by go_simp) ?_; refine (HS.out w6 _ BW6.out (Below.refl _ _).drew).mono ?_; rintro e w7 ⟨v7, rfl, ho7, hb7⟩; obtain ⟨a7, d7, rfl⟩ := row_formC ho7; obtain ⟨_, _, _, c37, _, f37⟩ := row_cellsC (row_later C6.out.row hb7) C6.out.len k (by simpa using hky); have s17 := (RP6.out.later hb7).cell 1; have O7 := hid ho7; have hsz7 := hb7.size; have B7 := hid hb7; clear ho7 hb7; refine ⟨_, rfl, ?_⟩)
        all_goals (
          have TG : Turn (· = g) w7 (w7.setCell ⟨g, k * 4 + 3, none⟩ (.slice a7 ys[k].t.sers.length d7)) := (Turn.refl (· = g) w7).setCell (Or.inl rfl) _ _
          have hk6 : k < (ys.set k ⟨ys[k].t, a5, d5, ys[k].a2, ys[k].c2⟩).length := by simpa using hky
          have C8 := C6.out.series (a := a7) (c := d7) hk6 B7.out hs6 (by simp only [List.getElem_set_self]; exact O7.out)
          simp only [List.getElem_set_self, List.set_set] at C8
          have C8 := hid C8
          have RP8 := hid (TG.blk (RP6.out.later B7.out) (show ¬ w.heap.size = g by omega))
          have RQ8 := hid (TG.blk (RQ6.out.later B7.out) (show ¬ w.heap.size + 1 = g by omega))
          have BW8 : Hid (Below w.heap.size w (w7.setCell ⟨g, k * 4 + 3, none⟩ (.slice a7 ys[k].t.sers.length d7))) := (bto BW6.out B7.out).trans (TG.below (by omega) fun i hi e => by omega)
          have hs8 : w0.heap.size ≤ (w7.setCell ⟨g, k * 4 + 3, none⟩ (.slice a7 ys[k].t.sers.length d7)).heap.size := by simp; omega
          have HY8 : Hid ((ys.set k ⟨ys[k].t, a5, d5, a7, d7⟩).map (·.t) = ts) := (map_t_set ys k hky ⟨ys[k].t, a5, d5, a7, d7⟩ rfl).trans HY.out
          clear c37 f37 s17 TG s1 b3 C6 RP6 RQ6 BX6 BW6
          generalize (w7.setCell ⟨g, k * 4 + 3, none⟩ (.slice a7 ys[k].t.sers.length d7)) = w8 at *
          go_wp2
          exact ⟨⟨k + 1, _, _, by omega, by go_num, C8.out, HY8.out, RP8.out, RQ8.out, BW8.out, hs8⟩, by simp [intOf]; omega⟩)
      · have ek : k = ts.length := by omega
        subst ek
        have HCK := HC
        clear HC
        have z0 : wr.cell? ⟨w.heap.size + 1, 0, none⟩ = some (.int .i64 0) := RQ.out.cell 0
        have z1 : wr.cell? ⟨w.heap.size + 1, 1, none⟩ = some (.slice none 0 0) := RQ.out.cell 1
        have fz0 := RQ.out.free 0
        have fz1 := RQ.out.free 1
        have s0 : wr.cell? ⟨w.heap.size, 0, none⟩ = some (.int .i64 now) := RP.out.cell 0
        have s1 : wr.cell? ⟨w.heap.size, 1, none⟩ = some (.slice (some ⟨g, 0, none⟩) ts.length vc) := RP.out.cell 1
        have hwl : w.heap.size + 1 < wr.heap.size := lt_of_block RQ.out
        go_wp2
        have HTE : Turn (· = w.heap.size + 1) wr ((wr.setCell ⟨w.heap.size + 1, 0, none⟩ (.int .i64 now)).setCell ⟨w.heap.size + 1, 1, none⟩ (.slice (some ⟨g, 0, none⟩) ts.length vc)) := ((Turn.refl (· = w.heap.size + 1) wr).setCell (Or.inl rfl) 0 _).setCell (Or.inl rfl) 1 _
        refine bodyPost_ret (v := .agg #[.int .i64 now, .slice (some ⟨g, 0, none⟩) ts.length vc]) (by simp [results, Tryz.results59, go_sem, z0, z1]) rfl ?_
        have ho : TensOwn ((wr.setCell ⟨w.heap.size + 1, 0, none⟩ (.int .i64 now)).setCell ⟨w.heap.size + 1, 1, none⟩ (.slice (some ⟨g, 0, none⟩) ts.length vc)) w.heap.size (some ⟨g, 0, none⟩) ts := (TensOwn.mono (TensOwn.turned (HCK.out.done HY.out) HTE (fun q h1 h2 e => by omega)) (by omega))
        have hbe : Below w.heap.size w ((wr.setCell ⟨w.heap.size + 1, 0, none⟩ (.int .i64 now)).setCell ⟨w.heap.size + 1, 1, none⟩ (.slice (some ⟨g, 0, none⟩) ts.length vc)) := ((Turn.of (S := fun i => w.heap.size ≤ i) BW.out).trans' (HTE.mono fun i _ e => by omega)).below (Nat.le_refl _) fun i hi h => by omega
        first
          | exact ⟨(some ⟨g, 0, none⟩), ⟨vc, rfl⟩, ho, hbe⟩
          | exact ⟨(some ⟨g, 0, none⟩), vc, rfl, ho, hbe⟩
end Go.Proofs.YtgnppdghjlnlhaaGreatDoor
