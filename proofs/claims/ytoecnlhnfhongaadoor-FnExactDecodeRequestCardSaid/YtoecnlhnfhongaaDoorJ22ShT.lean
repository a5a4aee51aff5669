import Derived.Test.YtoecnlhnfhongaaDoorProg
import Derived.Test.YtoecnlhnfhongaaDoorJ13SDec
import Derived.Test.YtoecnlhnfhongaaDoorJ20SDecW
import Derived.Test.YtoecnlhnfhongaaDoorJ21MkX
import Derived.Test.YtoecnlhnfhongaaDoorRows
import Derived.Test.YtoecnlhnfhongaaDoorChecked
import Derived.JoinedOf
import Derived.WalkKit
import Derived.Test.YtoecnlhnfhongaaDoorJ11RqF
import Derived.PinnedBridge
import Derived.Lib.LaidU8
import Derived.Lay
import Derived.LaidByTextLater
import Derived.SevenTiedAt
import Derived.Stop.Joined
import Derived.Stop.LaidErr
namespace Go.Proofs.YtoecnlhnfhongaaDoor
open Go.RowKit

theorem btoP {P : Nat} {a b c : World} {cs : Array Value} {t : TypeId} (h : Below P a b) (hk : Blk b P cs t) (hb : Below b.heap.size b c) : Below P a c := h.trans (hb.mono (Nat.le_of_lt (lt_of_block hk)))
theorem decR_bulk (s : ByteArray) : reqBulk (decR s).1 ≤ s.size := by
  by_cases h : (1 ≤ (rqK s).1 ∧ (rqK s).1 ≤ 6) ∧ (rqN s).2.short = false ∧ reqB (rqR s) = s
  · rw [decR_yes h]; exact rq_bulk h.2.1
  · rw [decR_no h]; simp [reqBulk, smpsBulk]
theorem len_of_bulk {R : ReqD} (h : reqBulk R ≤ 1048576) : R.smps.length ≤ maxLen ∧ LenX R.smps ∧ 1 + smpsLen R.smps ≤ 100000000 := by
  have e : reqBulk R = R.tenant.size + R.metric.size + R.smps.length + smpsBulk R.smps := rfl
  have h2 := smpsLen_bulk R.smps
  refine ⟨by unfold maxLen; omega, fun i hi => ?_, by omega⟩
  have h3 := smpBulk_at R.smps i hi
  have h4 : smpBulk R.smps[i] = R.smps[i].labs.length + labBulk R.smps[i].labs := rfl
  unfold maxLen
  omega

set_option maxRecDepth 100000 in
set_option maxHeartbeats 4000000 in
theorem lawDecRequest (s : ByteArray) (w : World) (hsz : s.size ≤ maxLen) (hT : ShTab w) :
    Calls Tryd.prog 4 #[.string s] w fun e w' => e = .returned (.bool true) ∧ Below w.heap.size w w' := by
  unfold maxLen at hsz
  by_cases hbig : (s.size : Int) > 1048576
  · go_enter Tryd.func4, Tryd.ntmps4
    go_wp2
    go_ret
    exact ⟨rfl, Below.refl _ _⟩
  have hs : s.size ≤ 1048576 := by omega
  obtain ⟨hl1, hl2, hl3⟩ := len_of_bulk (Nat.le_trans (decR_bulk s) hs)
  have HSP : Hid (∀ W, Calls Tryd.prog 10 #[.string s] W fun e w' => DecROut s W e w') := fun W => specDecR_any s W hs
  have HIM : Hid (∀ W, ShTab W → Calls Tryd.prog 11 #[.string s] W fun e w' => DecROut s W e w') := fun W h => implDecR_any s W hs h
  unfold DecROut at HSP HIM
  have HTB : Hid (∀ W, Below w.heap.size w W → ShTab W) := fun W h => hT.later h
  generalize (decR s).2 = ok at *
  generalize (decR s).1 = R at *
  have HEQ : Hid (∀ W a a' c c', SmpsIn W a R.smps → SmpsIn W a' R.smps → Calls Tryd.prog 9 #[.agg #[.int .i64 R.kind, .string R.tenant, .string R.metric, .int .i64 R.num, .slice a R.smps.length c], .agg #[.int .i64 R.kind, .string R.tenant, .string R.metric, .int .i64 R.num, .slice a' R.smps.length c']] W fun e w' => e = .returned (.bool true) ∧ Below W.heap.size W w') := fun W a a' c c' h h' => eqRequest_same R a a' c c' W h h' hl1 hl2
  have HMK : Hid (∀ W0 W B a c, SmpsOwn W0 B a R.smps → Below W0.heap.size W0 W → Calls Tryd.prog 12 #[.agg #[.int .i64 R.kind, .string R.tenant, .string R.metric, .int .i64 R.num, .slice a R.smps.length c], .int .i64 1] W fun e w' => e = .returned (.int .i64 ((1 + smpsLen R.smps : Nat) : Int)) ∧ Turn (fun g => B ≤ g ∧ g < W0.heap.size) W w' ∧ SmpsOwn w' B a (markSmps 1 R.smps)) := fun W0 W B a c h hb => markRequest_any R a c 1 B W0 W (by omega) hl3 h hb
  have HHD : Hid (∀ W a c, SmpsIn W a (markSmps 1 R.smps) → Calls Tryd.prog 13 #[.agg #[.int .i64 R.kind, .string R.tenant, .string R.metric, .int .i64 R.num, .slice a R.smps.length c], .int .i64 1] W fun e w' => e = .returned (.int .i64 ((1 + smpsLen R.smps : Nat) : Int)) ∧ Below W.heap.size W w') := fun W a c h => heldRequest_any R a c 1 W (by omega) hl3 h
  clear hl1 hl2 hl3 hT
  have hm0 : ¬ (((1 + smpsLen R.smps : Nat) : Int) < 0) := by omega
  have hmm : (((1 + smpsLen R.smps : Nat) : Int) != ((1 + smpsLen R.smps : Nat) : Int)) = false := by simp
  generalize ((1 + smpsLen R.smps : Nat) : Int) = N at *
  generalize markSmps 1 R.smps = M at *
  have hok : (ok != ok) = false := by simp
  go_enter Tryd.func4, Tryd.ntmps4
  go_wp2_with fail
  refine (HSP.out _).mono ?_
  rintro e w1 ⟨a0, c0, rfl, ho1, hb1⟩
  have H1 : Hid (SmpsOwn w1 w.heap.size a0 R.smps ∧ Below w.heap.size w w1) := ⟨ho1, hb1⟩
  clear ho1 hb1 HSP
  go_wp2_with fail
  refine (HIM.out _ (HTB.out _ (bto H1.out.2 (bnew _ _)))).mono ?_
  rintro e w2 ⟨a1, c1, rfl, ho2, hb2⟩
  have hA : w1.heap.size + 1 ≤ w2.heap.size := by have := hb2.size; simpa using this
  have H2 : Hid (SmpsOwn w2 (w1.heap.size + 1) a1 R.smps ∧ Blk w2 w1.heap.size #[.int .i64 R.kind, .string R.tenant, .string R.metric, .int .i64 R.num, .slice a0 R.smps.length c0] 29 ∧ Below w1.heap.size w1 w2) := ⟨by simpa using ho2, (Blk.new _ _ _).later hb2, bto (bnew _ _) hb2⟩
  have H0 : Hid (∀ W, Below w1.heap.size w1 W → SmpsIn W a0 R.smps ∧ Below w.heap.size w W) := fun W h => ⟨(H1.out.1.later h).smps, bto H1.out.2 h⟩
  have hP : w.heap.size ≤ w1.heap.size := H1.out.2.size
  clear ho2 hb2 H1
  generalize w1.heap.size = P0 at *
  have x0 : (w2.alloc (.cells #[.int .i64 R.kind, .string R.tenant, .string R.metric, .int .i64 R.num, .slice a1 R.smps.length c1] 29)).cell? ⟨P0, 0, none⟩ = some (.int .i64 R.kind) := (H2.out.2.1.alloc _).cell 0
  have x1 : (w2.alloc (.cells #[.int .i64 R.kind, .string R.tenant, .string R.metric, .int .i64 R.num, .slice a1 R.smps.length c1] 29)).cell? ⟨P0, 1, none⟩ = some (.string R.tenant) := (H2.out.2.1.alloc _).cell 1
  have x2 : (w2.alloc (.cells #[.int .i64 R.kind, .string R.tenant, .string R.metric, .int .i64 R.num, .slice a1 R.smps.length c1] 29)).cell? ⟨P0, 2, none⟩ = some (.string R.metric) := (H2.out.2.1.alloc _).cell 2
  have x3 : (w2.alloc (.cells #[.int .i64 R.kind, .string R.tenant, .string R.metric, .int .i64 R.num, .slice a1 R.smps.length c1] 29)).cell? ⟨P0, 3, none⟩ = some (.int .i64 R.num) := (H2.out.2.1.alloc _).cell 3
  have x4 : (w2.alloc (.cells #[.int .i64 R.kind, .string R.tenant, .string R.metric, .int .i64 R.num, .slice a1 R.smps.length c1] 29)).cell? ⟨P0, 4, none⟩ = some (.slice a0 R.smps.length c0) := (H2.out.2.1.alloc _).cell 4
  have hne : ¬ P0 = w2.heap.size := by omega
  go_wp2_with fail
  refine (HEQ.out _ _ _ _ _ (H2.out.1.smps.later (bnew _ _)) (H0.out _ (btoP H2.out.2.2 H2.out.2.1 (bnew _ _))).1).mono ?_
  rintro e w3 ⟨rfl, hb3⟩
  have H3 : Hid (Below w2.heap.size w2 w3 ∧ Blk w3 P0 #[.int .i64 R.kind, .string R.tenant, .string R.metric, .int .i64 R.num, .slice a0 R.smps.length c0] 29 ∧ Below P0 w1 w3 ∧ Blk w3 w2.heap.size #[.int .i64 R.kind, .string R.tenant, .string R.metric, .int .i64 R.num, .slice a1 R.smps.length c1] 29) := ⟨bto (bnew _ _) hb3, (H2.out.2.1.alloc _).later hb3, btoP (btoP H2.out.2.2 H2.out.2.1 (bnew _ _)) (H2.out.2.1.alloc _) hb3, (Blk.new _ _ _).later hb3⟩
  have hB3 : w2.heap.size ≤ w3.heap.size := H3.out.1.size
  have y0 : w3.cell? ⟨w2.heap.size, 0, none⟩ = some (.int .i64 R.kind) := H3.out.2.2.2.cell 0
  have y1 : w3.cell? ⟨w2.heap.size, 1, none⟩ = some (.string R.tenant) := H3.out.2.2.2.cell 1
  have y2 : w3.cell? ⟨w2.heap.size, 2, none⟩ = some (.string R.metric) := H3.out.2.2.2.cell 2
  have y3 : w3.cell? ⟨w2.heap.size, 3, none⟩ = some (.int .i64 R.num) := H3.out.2.2.2.cell 3
  have y4 : w3.cell? ⟨w2.heap.size, 4, none⟩ = some (.slice a1 R.smps.length c1) := H3.out.2.2.2.cell 4
  clear hb3 x0 x1 x2 x3 x4
  go_wp2_with fail
  refine (HMK.out w2 _ (P0 + 1) _ _ H2.out.1 H3.out.1).mono ?_
  rintro e w4 ⟨rfl, ht4, ho4⟩
  have hB4 : Below (P0 + 1) w3 w4 := ht4.below (by omega) (fun k hk h => by omega)
  have H4 : Hid (SmpsOwn w4 (P0 + 1) a1 M ∧ Blk w4 P0 #[.int .i64 R.kind, .string R.tenant, .string R.metric, .int .i64 R.num, .slice a0 R.smps.length c0] 29 ∧ Below P0 w1 w4 ∧ Blk w4 w2.heap.size #[.int .i64 R.kind, .string R.tenant, .string R.metric, .int .i64 R.num, .slice a1 R.smps.length c1] 29) := ⟨ho4, (hB4.block P0 (by omega)).trans H3.out.2.1, H3.out.2.2.1.trans (hB4.mono (by omega)), ht4.blk H3.out.2.2.2 (fun h => by omega)⟩
  clear ht4 ho4 hB4 y0 y1 y2 y3 y4
  have y0 : w4.cell? ⟨w2.heap.size, 0, none⟩ = some (.int .i64 R.kind) := H4.out.2.2.2.cell 0
  have y1 : w4.cell? ⟨w2.heap.size, 1, none⟩ = some (.string R.tenant) := H4.out.2.2.2.cell 1
  have y2 : w4.cell? ⟨w2.heap.size, 2, none⟩ = some (.string R.metric) := H4.out.2.2.2.cell 2
  have y3 : w4.cell? ⟨w2.heap.size, 3, none⟩ = some (.int .i64 R.num) := H4.out.2.2.2.cell 3
  have y4 : w4.cell? ⟨w2.heap.size, 4, none⟩ = some (.slice a1 R.smps.length c1) := H4.out.2.2.2.cell 4
  go_wp2_with fail
  refine (HHD.out _ _ _ H4.out.1.smps).mono ?_
  rintro e w5 ⟨rfl, hb5⟩
  have H5 : Hid (Blk w5 P0 #[.int .i64 R.kind, .string R.tenant, .string R.metric, .int .i64 R.num, .slice a0 R.smps.length c0] 29 ∧ Below P0 w1 w5) := ⟨H4.out.2.1.later hb5, btoP H4.out.2.2.1 H4.out.2.1 hb5⟩
  clear hb5
  go_wp2_with fail
  refine (HIM.out _ (HTB.out _ (H0.out _ H5.out.2).2)).mono ?_
  rintro e w6 ⟨a2, c2, rfl, ho6, hb6⟩
  have H6 : Hid (SmpsIn w6 a2 R.smps ∧ Blk w6 P0 #[.int .i64 R.kind, .string R.tenant, .string R.metric, .int .i64 R.num, .slice a0 R.smps.length c0] 29 ∧ Below P0 w1 w6) := ⟨ho6.smps, H5.out.1.later hb6, btoP H5.out.2 H5.out.1 hb6⟩
  have z0 : (w6.alloc (.cells #[.int .i64 R.kind, .string R.tenant, .string R.metric, .int .i64 R.num, .slice a2 R.smps.length c2] 29)).cell? ⟨P0, 0, none⟩ = some (.int .i64 R.kind) := (H6.out.2.1.alloc _).cell 0
  have z1 : (w6.alloc (.cells #[.int .i64 R.kind, .string R.tenant, .string R.metric, .int .i64 R.num, .slice a2 R.smps.length c2] 29)).cell? ⟨P0, 1, none⟩ = some (.string R.tenant) := (H6.out.2.1.alloc _).cell 1
  have z2 : (w6.alloc (.cells #[.int .i64 R.kind, .string R.tenant, .string R.metric, .int .i64 R.num, .slice a2 R.smps.length c2] 29)).cell? ⟨P0, 2, none⟩ = some (.string R.metric) := (H6.out.2.1.alloc _).cell 2
  have z3 : (w6.alloc (.cells #[.int .i64 R.kind, .string R.tenant, .string R.metric, .int .i64 R.num, .slice a2 R.smps.length c2] 29)).cell? ⟨P0, 3, none⟩ = some (.int .i64 R.num) := (H6.out.2.1.alloc _).cell 3
  have z4 : (w6.alloc (.cells #[.int .i64 R.kind, .string R.tenant, .string R.metric, .int .i64 R.num, .slice a2 R.smps.length c2] 29)).cell? ⟨P0, 4, none⟩ = some (.slice a0 R.smps.length c0) := (H6.out.2.1.alloc _).cell 4
  clear ho6 hb6 y0 y1 y2 y3 y4
  go_wp2_with fail
  refine (HEQ.out _ _ _ _ _ (H6.out.1.later (bnew _ _)) (H0.out _ (btoP H6.out.2.2 H6.out.2.1 (bnew _ _))).1).mono ?_
  rintro e w7 ⟨rfl, hb7⟩
  have B7 : Hid (Below w.heap.size w w7) := (H0.out _ (btoP (btoP H6.out.2.2 H6.out.2.1 (bnew _ _)) (H6.out.2.1.alloc _) hb7)).2
  clear hb7
  go_wp2
  go_ret
  exact ⟨rfl, B7.out⟩
end Go.Proofs.YtoecnlhnfhongaaDoor

namespace Go.Proofs.YtoecnlhnfhongaaDoor
open Go.RowKit

theorem band {a b : Bool} (h1 : a = true) (h2 : b = true) : (a && b) = true := by rw [h1, h2]; rfl
set_option maxRecDepth 100000 in
set_option maxHeartbeats 8000000 in
theorem closedDecodeRequest : joinedFacts Tryd.pinned.checked.prog 4 Tryd.f4 Rows.fnExactDecodeRequestSpec Rows.fnExactDecodeRequestRow = true := by
  unfold joinedFacts
  repeat' (with_reducible refine band ?_ ?_)
  all_goals (as_aux_lemma => kernel_rfl)
end Go.Proofs.YtoecnlhnfhongaaDoor

namespace Go.Proofs.YtoecnlhnfhongaaDoor
open Go.RowKit

section
variable {H : Type} {enc : TypeId × Value → H} {P : Program} {w : World} {base : Nat} {sp : Nat → Bool} {held : Bool}
theorem bools_of_struct {fuel : Nat} {t : TypeId} {fs : Array Field} {cs : List Value} {zs : List Bool} {p : List MemPlace} (ht : P.underlying t = some (.struct fs))
    (hf : ∀ (i : Nat) (f : Field), fs[i]? = some f → P.underlying f.type = some .bool ∧ f.offset = i ∧ P.cellsOf f.type = 1) (hct : P.cellsOf t = fs.size)
    (h : DataW.trod enc P w base sp held fuel t cs = some (.agg (zs.map fun z => .lit (.bool z)), p)) : cs = zs.map fun z => Value.bool z := by
  obtain ⟨xs, n, rfl, hx, hl, hxl, hall⟩ := DataW.trod_struct ht h
  have hxs : xs.map (·.1) = zs.map fun z => (DataW.lit (.bool z) : DataW H) := by
    have := congrArg Prod.fst hx
    simpa using this.symm
  have hzl : zs.length = fs.size := by
    have := congrArg List.length hxs
    simp at this
    omega
  apply List.ext_getElem?
  intro i
  by_cases hi : i < fs.size
  · obtain ⟨hu, ho, hc⟩ := hf i fs[i] (by simp [hi])
    have h1 := hall i fs[i] (by simp [hi])
    obtain ⟨b, hb⟩ : ∃ b, xs[i]? = some b := ⟨xs[i]'(by omega), List.getElem?_eq_getElem (by omega)⟩
    rw [hb, ho, hc] at h1
    obtain ⟨z, hcz, hz⟩ := DataW.trod_bool hu h1
    have h2 : cs[i]? = some (.bool z) := by
      have := congrArg (·[0]?) hcz
      simpa [List.getElem?_take, List.getElem?_drop] using this
    have h3 : (xs.map (·.1))[i]? = some (DataW.lit (.bool z) : DataW H) := by simp [hb, hz]
    rw [hxs] at h3
    simp only [List.getElem?_map, Option.map_eq_some_iff, DataW.lit.injEq, Lit.bool.injEq] at h3
    obtain ⟨z', hz', rfl⟩ := h3
    simp [h2, hz']
  · rw [List.getElem?_eq_none (by omega), List.getElem?_eq_none (by simp; omega)]
end
def shData : DataW Unit := .agg ((List.range 7).map fun (i : Nat) => .agg ([shB (i : Int) 0, shB (i : Int) 1, shB (i : Int) 2, shB (i : Int) 3, shB (i : Int) 4].map fun z => .lit (.bool z)))
theorem sh_eq : (Rows.laid_loop_example_s02176_impl_shapes : DataW Unit) = shData := by kernel_rfl
theorem sh_named : Tryd.prog.globalNamed "loop.example/s02176/impl.shapes" = some 0 := by kernel_rfl
theorem sh_type : (Tryd.prog.globals[0]?).map (·.type) = some 44 := by kernel_rfl
theorem sh_cells : Tryd.prog.cellsOf 43 = 5 := by kernel_rfl
theorem bo_cells : Tryd.prog.cellsOf 4 = 1 := by kernel_rfl
theorem shTab_reads {W : World} (h : Lib.VarReads Tryd.prog W "loop.example/s02176/impl.shapes" shData) : ShTab W := by
  obtain ⟨g, t, cs, fuel, p, hg, hty, hvar, hd⟩ := h
  obtain rfl := Option.some.inj (sh_named.symm.trans hg)
  obtain rfl := Option.some.inj (sh_type.symm.trans hty)
  have key : ∀ i j, i < 7 → j < 5 → W.cell? ⟨0, i * 5 + j, none⟩ = some (.bool (shB (i : Int) j)) := fun i j hi hj => by
    obtain ⟨fuel', d, q, hdi, he⟩ := Lib.array_elem Tryd.underlying44 hd i hi
    simp only [List.getElem?_map, List.getElem?_range hi, Option.map_some, Option.some.injEq] at hdi
    subst hdi
    rw [sh_cells] at he
    have hcs := bools_of_struct Tryd.underlying43 (fun j f hj => by
      match j, hj with
      | 0, hj => simp at hj; subst hj; exact ⟨Tryd.underlying4, rfl, bo_cells⟩
      | 1, hj => simp at hj; subst hj; exact ⟨Tryd.underlying4, rfl, bo_cells⟩
      | 2, hj => simp at hj; subst hj; exact ⟨Tryd.underlying4, rfl, bo_cells⟩
      | 3, hj => simp at hj; subst hj; exact ⟨Tryd.underlying4, rfl, bo_cells⟩
      | 4, hj => simp at hj; subst hj; exact ⟨Tryd.underlying4, rfl, bo_cells⟩
      | j + 5, hj => simp at hj) (by rw [sh_cells]; rfl) he
    have e := congrArg (·[j]?) hcs
    simp only [List.getElem?_take, List.getElem?_drop] at e
    rw [World.var?_cell hg hvar (i * 5 + j), ← Array.getElem?_toList]
    rw [if_pos hj] at e
    rw [e]
    match j, hj with
    | 0, _ => rfl
    | 1, _ => rfl
    | 2, _ => rfl
    | 3, _ => rfl
    | 4, _ => rfl
  refine ⟨?_, key⟩
  have h0 := key 0 0 (by omega) (by omega)
  rcases Nat.lt_or_ge 0 W.heap.size with hlt | hge
  · exact hlt
  · simp [World.cell?, Array.getElem?_eq_none hge] at h0
theorem shTab_of {W : World} (h : laidMetH Tryd.prog Rows.fnExactEncodeRequestRow.laid W) : ShTab W := by
  rw [MakeChecks.laidMetH_plain _ _ _ (by kernel_rfl)] at h
  have h1 : Lib.VarReads Tryd.prog W "loop.example/s02176/impl.shapes" shData := sh_eq ▸ Lib.laidMet.reads h (List.mem_cons_self ..)
  exact shTab_reads h1
end Go.Proofs.YtoecnlhnfhongaaDoor

