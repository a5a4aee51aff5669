import Derived.Test.YteohobkigjmjlaaDoorProg
import Derived.Test.YteohobkigjmjlaaDoorIFaultOf
import Derived.Test.YteohobkigjmjlaaDoorCmp1
import Derived.Shelf.SlSortCmp.WholeK
namespace Go.Proofs.YteohobkigjmjlaaDoor
open Go.RowKit Go.Sort

def cfL (x y : LabD) : Int := cmpZ x.name y.name
theorem ltL (x y : LabD) : ltOf cfL x y = lessN x y := by
  unfold ltOf cfL cmpZ lessN
  split
  · rename_i h; rw [h]; rfl
  · rename_i h
    have h' : Op.bytesLess x.name.toList y.name.toList = false := by simpa using h
    rw [h']
    split <;> rfl
theorem swoL : SWO (ltOf cfL) where
  irrefl x := by rw [ltL]; exact less_irrefl _
  trans x y z h1 h2 := by rw [ltL] at *; exact less_trans _ _ _ h1 h2
  ntrans x y z h1 h2 := by rw [ltL] at *; exact le_trans_L (x := z) (y := y) (z := x) h2 h1

set_option maxRecDepth 100000 in
set_option maxHeartbeats 1000000 in
theorem sortFn_any (x y : LabD) (W : World) : Calls Tryd.prog 30 #[.agg #[.string x.name, .string x.value], .agg #[.string y.name, .string y.value]] W fun e w' => e = .returned (.int .i64 (cfL x y)) ∧ ∃ q os', w' = grow (W.drewN q) os' := by
  have hcon := fun W' => compare_any x.name y.name W'
  unfold cfL
  generalize cmpZ x.name y.name = r at hcon ⊢
  go_enter Tryd.func30, Tryd.ntmps30
  go_wp2_with (go_at_call 31; refine (hcon _).mono ?_; rintro e w' ⟨rfl, rfl⟩)
  go_ret
  exact ⟨rfl, 0, _, by rw [alloc_eq_grow, alloc_eq_grow, grow_grow]; rfl⟩

section
variable [Inhabited LabD]
theorem cmpLays_any (blk off size : Nat) (w : World) : CmpLays Tryd.prog 30 #[] encL 2 cfL blk off size w :=
  fun _ _ _ _ x y => sortFn_any x y _

theorem sort_block {w : World} {g n : Nat} {cur : Array Value} {t : TypeId} (h : Blk w g cur t) (d : Array LabD) (os : Array Obj) : ∃ cur', Blk (sortWorldK encL 2 w g 0 n d os) g cur' t := by
  have hg := lt_of_block h
  refine ⟨putCells id 0 (flatK encL 2 d) cur, ?_⟩
  unfold Blk sortWorldK putRowK putRow mapBlock
  rw [heap_grow_old _ _ (by simpa [ahead] using hg)]
  show (Array.modify w.heap g _)[g]? = _
  rw [Array.getElem?_modify, if_pos rfl]
  unfold Blk at h
  rw [h]
  rfl
theorem sort_below {w : World} {g n B : Nat} (hB : B ≤ g) (hg : g < w.heap.size) (d : Array LabD) (os : Array Obj) : Below B w (sortWorldK encL 2 w g 0 n d os) := by
  refine ⟨rfl, rfl, rfl, ?_, fun k hk => ?_⟩
  · simp [sortWorldK, putRowK, putRow, mapBlock]
  · unfold sortWorldK putRowK putRow mapBlock
    rw [heap_grow_old _ _ (by simp; omega)]
    show (Array.modify w.heap g _)[k]? = _
    rw [Array.getElem?_modify, if_neg (by omega)]
theorem holds_of {w : World} {g : Nat} {cur : Array Value} {t : TypeId} {ls : List LabD} (h : Blk w g cur t) (hl : LabsAt w g 0 ls) : HoldsK encL 2 w g 0 ls.toArray := by
  intro j hj
  rw [size_flatK] at hj
  have hj2 : j / 2 < ls.length := by simp at hj; omega
  refine ⟨?_, h.free _⟩
  rw [get_flatK _ _ _ _ hj]
  have e : ls.toArray[j / 2]! = ls[j / 2] := by simp [getElem!_pos, hj2]
  rw [e]
  have hc := hl (j / 2) hj2
  rcases Nat.mod_two_eq_zero_or_one j with hm | hm
  · rw [hm]
    have := hc.1
    rw [show 0 + j / 2 * 2 = 0 + j by omega] at this
    rw [this]
    rfl
  · rw [hm]
    have := hc.2
    rw [show 0 + j / 2 * 2 + 1 = 0 + j by omega] at this
    rw [this]
    rfl
theorem labs_of {w : World} {g B : Nat} {cur : Array Value} {t : TypeId} {d : Array LabD} (h : Blk w g cur t) (hB : B ≤ g) (hd : HoldsK encL 2 w g 0 d) : LabsOwn w B (some ⟨g, 0, none⟩) d.toList := by
  refine Or.inr ⟨g, 0, cur, t, rfl, hB, h, fun i hi => ?_⟩
  have hi' : i < d.size := by simpa using hi
  have h0 := (hd.cell (c := 0) hi' (by omega)).1
  have h1 := (hd.cell (c := 1) hi' (by omega)).1
  have e : d[i]! = d[i] := getElem!_pos d i hi'
  rw [e] at h0 h1
  rw [Array.getElem_toList]
  exact ⟨h0, h1⟩
theorem sorted_list {d : Array LabD} (h : SortedIn (ltOf cfL) 0 d.size d) : d.toList.Pairwise Le := by
  rw [List.pairwise_iff_getElem]
  intro i j hi hj hij
  have hj' : j < d.size := by simpa using hj
  have := h i j (Nat.zero_le _) hij hj'
  rw [ltL, getElem!_pos d i (by omega), getElem!_pos d j hj'] at this
  rw [Array.getElem_toList, Array.getElem_toList]
  exact this

set_option maxRecDepth 100000 in
set_option maxHeartbeats 1000000 in
/-- slices.SortFunc, as Canon calls it. -/
theorem sortCall_any (g cap : Nat) (ls : List LabD) (w : World) (B : Nat) (hB : B ≤ g) {cur : Array Value} {t : TypeId} (hb : Blk w g cur t) (hl : LabsAt w g 0 ls) (hlen : ls.length ≤ 2000000) :
    Calls Tryd.prog 29 #[.slice (some ⟨g, 0, none⟩) ls.length cap, .func (.func 30) #[] #[]] w fun e w' =>
      e = .returned (.tuple #[]) ∧ ∃ ls', ls'.Perm ls ∧ ls'.Pairwise Le ∧ LabsOwn w' B (some ⟨g, 0, none⟩) ls' ∧ Below B w w' := by
  have eg : ∀ args w, (callFunc 30 args).run Tryd.prog w = .ok (.enter 30 args) w := enters_of Tryd.func30 (by kernel_rfl) rfl
  have hg := lt_of_block hb
  have hcon := AnyQ.slices_SortFunc Tryd.sortL 2 Tryd.isAgg40 Tryd.sizeOf40 encL (fun _ => rfl) (fun x v hv => by simp [encL] at hv; rcases hv with rfl | rfl <;> rfl) cfL swoL 30 #[] g 0 cap ls.toArray w eg (cmpLays_any g 0 _ w) (holds_of hb hl) hg (by simp; omega)
  change Calls Tryd.prog 29 _ _ _ at hcon
  refine hcon.mono ?_
  rintro e w' ⟨rfl, d', n, os, hp, hs, rfl⟩
  obtain ⟨hsz, _, hpp⟩ := hp
  obtain ⟨cur', hb'⟩ := sort_block (n := n) hb d' os
  have hd : HoldsK encL 2 (sortWorldK encL 2 w g 0 n d' os) g 0 d' :=
    holdsK_grow encL 2 _ _ _ _ _ (by simpa [putRowK, putRow, mapBlock, ahead] using hg) (holdsK_putRowK encL 2 _ _ _ ls.toArray d' (holdsK_ahead encL 2 _ _ _ _ _ (holds_of hb hl)) hsz)
  have hsz' : d'.size = ls.length := by simpa using hsz
  refine ⟨rfl, d'.toList, ?_, sorted_list (by rw [hsz']; simpa using hs), labs_of hb' hB hd, sort_below hB hg d' os⟩
  have e1 : d'.extract 0 ls.toArray.size = d' := by rw [← hsz]; simp
  have e2 : ls.toArray.extract 0 ls.toArray.size = ls.toArray := by simp
  rw [e1, e2] at hpp
  exact hpp
end
end Go.Proofs.YteohobkigjmjlaaDoor
