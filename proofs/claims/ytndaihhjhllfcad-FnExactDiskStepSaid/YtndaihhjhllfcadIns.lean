import Derived.Test.YtndaihhjhllfcadProg
import Derived.Test.YtndaihhjhllfcadCells
import Derived.Deep.RegionLaw
import Derived.Lib.Overlaps
import Derived.Shelf.Spec.SlicesInsert
namespace Go.Proofs.Ytndaihhjhllfcad
open Go.RowKit

def insL (fs : List FileD) (i : Nat) (f : FileD) : List FileD := fs.take i ++ f :: fs.drop i
theorem insL_length (fs : List FileD) (i : Nat) (f : FileD) (h : i ≤ fs.length) : (insL fs i f).length = fs.length + 1 := by simp [insL]; omega
theorem insL_flat (fs : List FileD) (i : Nat) (f : FileD) : flat (insL fs i f) = flat (fs.take i) ++ (flat [f] ++ flat (fs.drop i)) := by
  rw [insL, flat_append, show f :: fs.drop i = [f] ++ fs.drop i from rfl, flat_append]

/-- The file f lies alone in block vb. -/
def OneAt (w : World) (vb : Nat) (f : FileD) : Prop := Blk w vb #[.string f.name, .string f.data, .int .i64 f.synced] 61

theorem OneAt.cells {w : World} {vb : Nat} {f : FileD} (h : OneAt w vb f) : ∀ j u, (flat [f])[j]? = some u → w.cell? ⟨vb, j, none⟩ = some u := fun j u hu => by
  rw [Blk.cell h, ← hu]; simp [flat]

/-- The cells of a row into which f was put. -/
theorem ins_cells {w : World} {g i n : Nat} {fs : List FileD} {f : FileD} (hn : fs.length = n) (hi : i ≤ n) (h0 : ∀ j u, j < i * 3 → (flat fs)[j]? = some u → w.cell? ⟨g, j, none⟩ = some u) (h1 : ∀ j u, (flat [f])[j]? = some u → w.cell? ⟨g, i * 3 + j, none⟩ = some u)
    (h2 : ∀ j u, (flat (fs.drop i))[j]? = some u → w.cell? ⟨g, (i + 1) * 3 + j, none⟩ = some u) : ∀ j u, (flat (insL fs i f))[j]? = some u → w.cell? ⟨g, j, none⟩ = some u := by
  intro j u hu
  have htl : (flat (fs.take i)).length = i * 3 := by rw [flat_length, List.length_take]; omega
  have h3 : (flat [f]).length = 3 := rfl
  rw [insL_flat] at hu
  by_cases a1 : j < i * 3
  · rw [List.getElem?_append_left (by omega), flat_take_get fs i j (by omega) a1] at hu
    exact h0 j u a1 hu
  · rw [List.getElem?_append_right (by omega), htl] at hu
    by_cases a2 : j - i * 3 < 3
    · rw [List.getElem?_append_left (by omega)] at hu
      have := h1 _ _ hu
      rwa [show i * 3 + (j - i * 3) = j by omega] at this
    · rw [List.getElem?_append_right (by omega), h3] at hu
      have := h2 _ _ hu
      rwa [show (i + 1) * 3 + (j - i * 3 - 3) = j by omega] at this

set_option maxHeartbeats 4000000 in
set_option maxRecDepth 100000 in
theorem insert_shift (B g cap i vb : Nat) (fs : List FileD) (f : FileD) (w : World) (hown : w.ownsRow B 61 3 (.slice (some ⟨g, 0, none⟩) fs.length cap) fs.length (flat fs)) (hv : OneAt w vb f) (hvb : vb ≠ g) (hi : i < fs.length) (hroom : fs.length + 1 ≤ cap) (hlen : fs.length ≤ 1048576) :
    Calls Try.prog 52 #[.slice (some ⟨g, 0, none⟩) fs.length cap, .int .i64 i, .slice (some ⟨vb, 0, none⟩) 1 1] w fun e w' =>
      e = .returned (.slice (some ⟨g, 0, none⟩) (fs.length + 1) cap) ∧ w'.ownsRow B 61 3 (.slice (some ⟨g, 0, none⟩) (fs.length + 1) cap) (fs.length + 1) (flat (insL fs i f)) ∧ Keeps (fun k => k = g) w w' := by
  obtain ⟨cur, hB, _, hblk, hnc, hcm, hsz, hcs⟩ := cells_of_row hown
  obtain ⟨i0, hi0, hz0, hz1, hz2⟩ := info_filex
  obtain ⟨n, hn⟩ : ∃ n, fs.length = n := ⟨_, rfl⟩
  rw [hn] at hi hroom hlen hnc ⊢
  have hsize : (Try.prog.info? 61).map (·.size) = some 3 := by rw [hi0]; simp [hz1]
  have hrunz : ∀ w, (Go.sizeOf 61).run Try.prog w = .ok 3 w := fun w => by simp [sizeOf, typeInfo, hi0, hz1]
  have hthere : ∀ j, j < cap * 3 → (w.cell? ⟨g, j, none⟩).isSome = true := fun j hj => by obtain ⟨v, hv⟩ := hblk.there (j := j) (by omega); rw [hv]; rfl
  have hov : ∀ lb cb, (callFunc 61 #[.slice (some ⟨vb, 0, none⟩) 1 1, .slice (some ⟨g, (i + 1) * 3, none⟩) lb cb]).run Try.prog w = .ok (.value (.bool false)) w := fun lb cb => by
    rw [run_callFunc_extern Try.func61 (by kernel_rfl) (by kernel_rfl) (by kernel_rfl) (e := Extern.SlicesOverlaps.overlaps #[29, 29] #[4]) (by kernel_rfl),
      Lib.run_overlaps_apart w 29 4 61 Try.underlying29 3 hrunz ⟨vb, 0, none⟩ ⟨g, (i + 1) * 3, none⟩ 1 1 lb cb hvb 61 61 3 cur.size (by unfold OneAt Blk at hv; simp [World.shape?, hv]) (by unfold Blk at hblk; simp [World.shape?, hblk]) (by omega) (Blk.free hv _) (Blk.free hv _)]
    rfl
  obtain ⟨mv, hmv⟩ : ∃ mv, mv = flat (fs.drop i) := ⟨_, rfl⟩
  have hmvl : mv.length = (n - i) * 3 := by rw [hmv, flat_length, List.length_drop, hn]
  have hcp1 : ∀ ty dc sc, (Builtin.copy_ #[29, 29] ty #[.slice (some ⟨g, (i + 1) * 3, none⟩) (n - i) dc, .slice (some ⟨g, i * 3, none⟩) (n + 1 - i) sc]).run Try.prog w.drew = .ok (goInt ((n - i : Nat) : Int)) (w.drew.setCells g ((i + 1) * 3) mv) := fun ty dc sc =>
    run_copy_wide w.drew _ _ ty 61 g ((i + 1) * 3) (n - i) dc ⟨g, i * 3, none⟩ (n + 1 - i) sc (n - i) 3 mv Try.underlying29 hsize (by simp only [Nat.min_def]; split <;> omega) hmvl
      (fun j v hj => by rw [Addr.add_lit]; exact hcs _ v (by rwa [hmv, flat_drop_get fs i j (by omega)] at hj))
      (fun j hj => hthere _ (by omega)) (fun j hj => hblk.free _) (by rw [hmv]; exact flat_one_cell _)
  obtain ⟨W1, hW1⟩ : ∃ W1, W1 = w.drew.setCells g ((i + 1) * 3) mv := ⟨_, rfl⟩
  obtain ⟨cur1, hb1, hs1⟩ := Blk.setCells mv ((i + 1) * 3) (show Blk w.drew g cur 61 from hblk)
  rw [← hW1] at hb1 hcp1
  have hv1 : OneAt W1 vb f := by rw [hW1]; exact Blk.keeps (S := fun k => k = g) hv (Keeps.setCells (S := fun k => k = g) rfl _ _ (Keeps.refl _ _).drew) hvb
  have hcp2 : ∀ ty dc, (Builtin.copy_ #[29, 29] ty #[.slice (some ⟨g, i * 3, none⟩) (n + 1 - i) dc, .slice (some ⟨vb, 0, none⟩) 1 1]).run Try.prog W1 = .ok (goInt 1) (W1.setCells g (i * 3) (flat [f])) := fun ty dc =>
    run_copy_wide W1 _ _ ty 61 g (i * 3) (n + 1 - i) dc ⟨vb, 0, none⟩ 1 1 1 3 (flat [f]) Try.underlying29 hsize (by simp only [Nat.min_def]; split <;> omega) rfl
      (fun j v hj => by rw [Addr.add_lit, Nat.zero_add]; exact hv1.cells j v hj)
      (fun j hj => by obtain ⟨v, hv⟩ := hb1.there (j := i * 3 + j) (by rw [hs1, hsz]; simp [flat] at hj; omega); rw [hv]; rfl) (fun j hj => hb1.free _) (flat_one_cell _)
  obtain ⟨cur2, hb2, hs2⟩ := Blk.setCells (flat [f]) (i * 3) hb1
  have HK : Hid (Keeps (fun k => k = g) w (W1.setCells g (i * 3) (flat [f]))) := by
    show Keeps _ _ _
    rw [hW1]
    exact Keeps.setCells (S := fun k => k = g) rfl _ _ (Keeps.setCells (S := fun k => k = g) rfl _ _ (Keeps.refl _ _).drew)
  have HO : Hid ((W1.setCells g (i * 3) (flat [f])).ownsRow B 61 3 (.slice (some ⟨g, 0, none⟩) (n + 1) cap) (n + 1) (flat (insL fs i f))) := by
    refine row_of_cells hB hb2 hroom hcm (by rw [hs2, hs1, hsz]) (by rw [flat_length, insL_length _ _ _ (by omega), hn]) (ins_cells hn (by omega) ?_ ?_ ?_)
    · intro j u hj hu
      rw [World.cell?_setCells_out g (flat [f]) (i * 3) W1 _ (fun _ _ => Or.inl hj), hW1, World.cell?_setCells_out g mv ((i + 1) * 3) _ _ (fun _ _ => Or.inl (by show j < _; omega))]
      exact hcs j u hu
    · intro j u hu
      have hj := (List.getElem?_eq_some_iff.1 hu).1
      rw [World.cell?_setCells_in g (flat [f]) (i * 3) W1 (fun k hk => by obtain ⟨v, hv⟩ := hb1.there (j := i * 3 + k) (by rw [hs1, hsz]; simp [flat] at hk; omega); rw [hv]; rfl) j hj, ← hu, List.getElem?_eq_getElem]
    · intro j u hu
      rw [← hmv] at hu
      have hj := (List.getElem?_eq_some_iff.1 hu).1
      rw [World.cell?_setCells_out g (flat [f]) (i * 3) W1 _ (fun _ _ => Or.inr (by simp [flat]; omega)), hW1,
        World.cell?_setCells_in g mv ((i + 1) * 3) w.drew (fun k hk => hthere _ (by omega)) j hj, ← hu, List.getElem?_eq_getElem]
  have hz2 : ¬ ((i : Int) = (n : Int)) := by omega
  have hz3 : ¬ ((cap : Int) < (n : Int) + 1) := by omega
  have hw1 : IntKind.i64.wrap ((i : Int) + 1) = (i : Int) + 1 := by rw [IntKind.wrap_i64]; omega
  have hbd : (0 : Int) ≤ (i : Int) + 1 := by omega
  have hin : i ≤ n := by omega
  have htn : ((i : Int) + 1).toNat = i + 1 := by omega
  have hbe : ¬ (cap = i + 1) := by omega
  have hb3 : (i : Int) + 1 ≤ (n : Int) + 1 := by omega
  have hb4 : ¬ (cap = i) := by omega
  have hb5 : (i : Int) ≤ (n : Int) + 1 := by omega
  have hb6 : ((n : Int) + 1).toNat = n + 1 := by omega
  have hb7 : (n : Int) + 1 ≤ (cap : Int) := by omega
  have hcm2 : (cap : Int) ≤ 9223372036854775807 := by unfold maxLen at hcm; omega
  clear hown hblk hb1 hcs hthere hv hv1 hsz hs1 hs2 hmv hmvl hW1 hz0 hrunz hsize hcm
  go_enter Try.func52, Try.ntmps52
  go_wp2_with (simp only [hov])
  go_region_law (refine step_copy_runI rfl _ _ 29 29 rfl _ _ (by simp [Act.eval, Act.put]) (by simp [Act.eval, Act.put]) (hcp1 _ _ _) ?_)
  go_wp2_with (at_builtin; refine wpList_copy_runI _ rfl _ _ 29 29 rfl _ _ rfl rfl (hcp2 _ _) ?_)
  go_ret
  exact ⟨rfl, HO.out, HK.out⟩
end Go.Proofs.Ytndaihhjhllfcad
