/- The verifier's own text: what the row lists of impl.shapes is the table that the walk reads. -/
import Derived.Test.YtoecnlhnfhongaaDoorProg
import Derived.Test.YtoecnlhnfhongaaDoorRows
import Derived.Test.YtoecnlhnfhongaaDoorIRq
import Derived.PinnedBridge
import Derived.Lib.LaidU8
import Derived.Lay
import Derived.LaidByTextLater
import Derived.SevenTiedAt
import Derived.Stop.Joined
import Derived.Stop.LaidErr
namespace Go.Proofs.YtoecnlhnfhongaaDoor
open Go.RowKit

section
variable {H : Type} {enc : TypeId × Value → H} {P : Program} {w : World} {base : Nat} {sp : Nat → Bool} {held : Bool}
theorem bools_of_struct {fuel : Nat} {t : TypeId} {fs : Array Field} {cs : List Value} {zs : List Bool} {p : List MemPlace} (ht : P.underlying t = some (.struct fs))
    (hf : ∀ (i : Nat) (f : Field), fs[i]? = some f → P.underlying f.type = some .bool ∧ f.offset = i ∧ P.cellsOf f.type = 1) (hct : P.cellsOf t = fs.size)
    (h : DataW.trod enc P w base sp held fuel t cs = some (.agg (zs.map fun z => .lit (.bool z)), p)) : cs = zs.map fun z => Value.bool z := by
  obtain ⟨xs, n, rfl, hx, hl, hxl, hall⟩ := DataW.trod_struct ht h
  have hxs : xs.map (·.1) = zs.map fun z => (DataW.lit (.bool z) : DataW H) := by
    have := congrArg Prod.fst hx
    simpa using this.symm
  have hzl : zs.length = fs.size := by
    have := congrArg List.length hxs
    simp at this
    omega
  apply List.ext_getElem?
  intro i
  by_cases hi : i < fs.size
  · obtain ⟨hu, ho, hc⟩ := hf i fs[i] (by simp [hi])
    have h1 := hall i fs[i] (by simp [hi])
    obtain ⟨b, hb⟩ : ∃ b, xs[i]? = some b := ⟨xs[i]'(by omega), List.getElem?_eq_getElem (by omega)⟩
    rw [hb, ho, hc] at h1
    obtain ⟨z, hcz, hz⟩ := DataW.trod_bool hu h1
    have h2 : cs[i]? = some (.bool z) := by
      have := congrArg (·[0]?) hcz
      simpa [List.getElem?_take, List.getElem?_drop] using this
    have h3 : (xs.map (·.1))[i]? = some (DataW.lit (.bool z) : DataW H) := by simp [hb, hz]
    rw [hxs] at h3
    simp only [List.getElem?_map, Option.map_eq_some_iff, DataW.lit.injEq, Lit.bool.injEq] at h3
    obtain ⟨z', hz', rfl⟩ := h3
    simp [h2, hz']
  · rw [List.getElem?_eq_none (by omega), List.getElem?_eq_none (by simp; omega)]
end
def shData : DataW Unit := .agg ((List.range 7).map fun (i : Nat) => .agg ([shB (i : Int) 0, shB (i : Int) 1, shB (i : Int) 2, shB (i : Int) 3, shB (i : Int) 4].map fun z => .lit (.bool z)))
theorem sh_eq : (Rows.laid_loop_example_s02176_impl_shapes : DataW Unit) = shData := by kernel_rfl
theorem sh_named : Tryd.prog.globalNamed "loop.example/s02176/impl.shapes" = some 0 := by kernel_rfl
theorem sh_type : (Tryd.prog.globals[0]?).map (·.type) = some 44 := by kernel_rfl
theorem sh_cells : Tryd.prog.cellsOf 43 = 5 := by kernel_rfl
theorem bo_cells : Tryd.prog.cellsOf 4 = 1 := by kernel_rfl
theorem shTab_reads {W : World} (h : Lib.VarReads Tryd.prog W "loop.example/s02176/impl.shapes" shData) : ShTab W := by
  obtain ⟨g, t, cs, fuel, p, hg, hty, hvar, hd⟩ := h
  obtain rfl := Option.some.inj (sh_named.symm.trans hg)
  obtain rfl := Option.some.inj (sh_type.symm.trans hty)
  have key : ∀ i j, i < 7 → j < 5 → W.cell? ⟨0, i * 5 + j, none⟩ = some (.bool (shB (i : Int) j)) := fun i j hi hj => by
    obtain ⟨fuel', d, q, hdi, he⟩ := Lib.array_elem Tryd.underlying44 hd i hi
    simp only [List.getElem?_map, List.getElem?_range hi, Option.map_some, Option.some.injEq] at hdi
    subst hdi
    rw [sh_cells] at he
    have hcs := bools_of_struct Tryd.underlying43 (fun j f hj => by
      match j, hj with
      | 0, hj => simp at hj; subst hj; exact ⟨Tryd.underlying4, rfl, bo_cells⟩
      | 1, hj => simp at hj; subst hj; exact ⟨Tryd.underlying4, rfl, bo_cells⟩
      | 2, hj => simp at hj; subst hj; exact ⟨Tryd.underlying4, rfl, bo_cells⟩
      | 3, hj => simp at hj; subst hj; exact ⟨Tryd.underlying4, rfl, bo_cells⟩
      | 4, hj => simp at hj; subst hj; exact ⟨Tryd.underlying4, rfl, bo_cells⟩
      | j + 5, hj => simp at hj) (by rw [sh_cells]; rfl) he
    have e := congrArg (·[j]?) hcs
    simp only [List.getElem?_take, List.getElem?_drop] at e
    rw [World.var?_cell hg hvar (i * 5 + j), ← Array.getElem?_toList]
    rw [if_pos hj] at e
    rw [e]
    match j, hj with
    | 0, _ => rfl
    | 1, _ => rfl
    | 2, _ => rfl
    | 3, _ => rfl
    | 4, _ => rfl
  refine ⟨?_, key⟩
  have h0 := key 0 0 (by omega) (by omega)
  rcases Nat.lt_or_ge 0 W.heap.size with hlt | hge
  · exact hlt
  · simp [World.cell?, Array.getElem?_eq_none hge] at h0
theorem shTab_of {W : World} (h : laidMetH Tryd.prog Rows.fnExactEncodeRequestRow.laid W) : ShTab W := by
  rw [MakeChecks.laidMetH_plain _ _ _ (by kernel_rfl)] at h
  have h1 : Lib.VarReads Tryd.prog W "loop.example/s02176/impl.shapes" shData := sh_eq ▸ Lib.laidMet.reads h (List.mem_cons_self ..)
  exact shTab_reads h1
end Go.Proofs.YtoecnlhnfhongaaDoor
