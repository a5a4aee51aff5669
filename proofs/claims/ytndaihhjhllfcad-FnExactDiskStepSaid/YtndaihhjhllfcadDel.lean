import Derived.Test.YtndaihhjhllfcadProg
import Derived.Test.YtndaihhjhllfcadCells
import Derived.Deep.RegionLaw
namespace Go.Proofs.Ytndaihhjhllfcad
open Go.RowKit

set_option maxHeartbeats 4000000 in
set_option maxRecDepth 1000000 in
theorem delete_any (B g cap i : Nat) (fs : List FileD) (w : World) (hown : w.ownsRow B 61 3 (.slice (some ⟨g, 0, none⟩) fs.length cap) fs.length (flat fs)) (hi : i < fs.length) (hlen : fs.length ≤ 1048576) :
    Calls Try.prog 57 #[.slice (some ⟨g, 0, none⟩) fs.length cap, .int .i64 i, .int .i64 ((i : Int) + 1)] w fun e w' =>
      e = .returned (.slice (some ⟨g, 0, none⟩) (fs.length - 1) cap) ∧ w'.ownsRow B 61 3 (.slice (some ⟨g, 0, none⟩) (fs.length - 1) cap) (fs.length - 1) (flat (fs.eraseIdx i)) ∧ Keeps (fun k => k = g) w w' := by
  obtain ⟨cur, hB, _, hblk, hnc, hcm, hsz, hcs⟩ := cells_of_row hown
  obtain ⟨i0, hi0, hz0, hz1, hz2⟩ := info_filex
  obtain ⟨n, hn⟩ : ∃ n, fs.length = n := ⟨_, rfl⟩
  obtain ⟨news, hnews⟩ : ∃ news, news = flat (fs.drop (i + 1)) := ⟨_, rfl⟩
  have hlenN : news.length = (n - (i + 1)) * 3 := by rw [hnews, flat_length, List.length_drop, hn]
  have hfl : (flat fs).length = n * 3 := by rw [flat_length, hn]
  have hthere : ∀ j, j < n * 3 → (w.cell? ⟨g, j, none⟩).isSome = true := fun j hj => by rw [hcs j _ (List.getElem?_eq_getElem (by omega))]; rfl
  obtain ⟨A, hA, hsrc⟩ : ∃ A : Addr, (if cap = i + 1 then some (⟨g, 0, none⟩ : Addr) else some ⟨g, (i + 1) * 3, none⟩) = some A ∧ Hid (∀ j u, news[j]? = some u → w.drew.cell? (A.add j) = some u) := by
    by_cases h : cap = i + 1
    · refine ⟨⟨g, 0, none⟩, by simp [h], fun j u hu => ?_⟩
      have h0 : news.length = 0 := by rw [hlenN]; omega
      rw [List.length_eq_zero_iff.1 h0] at hu
      simp at hu
    · refine ⟨⟨g, (i + 1) * 3, none⟩, by simp [h], fun j u hu => ?_⟩
      rw [hnews, flat_drop_get fs (i + 1) j (by omega)] at hu
      rw [Addr.add_lit]
      exact hcs _ _ hu
  have s1 : Hid (news.length = (n - (i + 1)) * 3) := hlenN
  have s2 : Hid (∀ u ∈ news, u.oneCell' = true) := by rw [hnews]; exact flat_one_cell _
  have s3 : Hid (∀ j, j < news.length → (w.drew.cell? ⟨g, 0 + i * 3 + j, none⟩).isSome = true ∧ w.drew.frozen? ⟨g, 0 + i * 3 + j, none⟩ = false) := by
    intro j hj
    rw [hlenN] at hj
    exact ⟨hthere _ (by omega), hblk.free _⟩
  obtain ⟨W1, hW1⟩ : ∃ W1, W1 = w.drew.setCells g (0 + i * 3) news := ⟨_, rfl⟩
  have hblk1 : Blk w.drew g cur 61 := hblk
  obtain ⟨cur1, hb1, hs1⟩ := Blk.setCells news (0 + i * 3) hblk1
  rw [← hW1] at hb1
  have hcl : ∀ ty c, (Builtin.clear_ #[29] ty #[.slice (some ⟨g, (n - 1) * 3, none⟩) 1 c]).run Try.prog W1 = .ok (.tuple #[]) (W1.setCells g ((n - 1) * 3) zeroF) := fun ty c =>
    run_clear_one W1 _ ty _ i0 Try.underlying29 hi0 hz0 g _ c (fun j hj => by obtain ⟨v, hv⟩ := hb1.there (j := (n - 1) * 3 + j) (by rw [hs1, hsz]; omega); rw [hv]; rfl) (fun j _ => hb1.free _)
  obtain ⟨cur2, hb2, hs2⟩ := Blk.setCells zeroF ((n - 1) * 3) hb1
  have HK : Hid (Keeps (fun k => k = g) w (W1.setCells g ((n - 1) * 3) zeroF)) := by
    show Keeps _ _ _
    rw [hW1]
    exact Keeps.setCells (S := fun k => k = g) rfl _ _ (Keeps.setCells (S := fun k => k = g) rfl _ _ (Keeps.refl _ _).drew)
  have HO : Hid ((W1.setCells g ((n - 1) * 3) zeroF).ownsRow B 61 3 (.slice (some ⟨g, 0, none⟩) (n - 1) cap) (n - 1) (flat (fs.eraseIdx i))) := by
    refine row_of_cells hB hb2 (by omega) hcm (by rw [hs2, hs1, hsz]) (by rw [flat_length, List.length_eraseIdx, if_pos hi, hn]) fun j u hu => ?_
    have hjl := (List.getElem?_eq_some_iff.1 hu).1
    rw [flat_length, List.length_eraseIdx, if_pos hi, hn] at hjl
    rw [World.cell?_setCells_out g zeroF ((n - 1) * 3) W1 _ (fun _ _ => Or.inl (by show j < _; omega)), hW1]
    rw [erase_flat] at hu
    have htl : (flat (fs.take i)).length = i * 3 := by rw [flat_length, List.length_take]; omega
    by_cases hji : j < i * 3
    · rw [World.cell?_setCells_out g news (0 + i * 3) _ _ (fun _ _ => Or.inl (by show j < _; omega))]
      rw [List.getElem?_append_left (by omega), flat_take_get fs i j (by omega) hji] at hu
      exact hcs j u hu
    · rw [List.getElem?_append_right (by omega), htl, ← hnews] at hu
      have hin := World.cell?_setCells_in g news (0 + i * 3) w.drew (fun k hk => (s3.out k hk).1) (j - i * 3) (by omega)
      rw [show 0 + i * 3 + (j - i * 3) = j by omega] at hin
      rw [hin, ← hu, List.getElem?_eq_getElem]
  have hic : i ≤ cap := by omega
  have hjc : i + 1 ≤ cap := by omega
  have hp0 : (0 : Int) ≤ (i : Int) + 1 := by omega
  have hp1 : (i : Int) + 1 ≤ (n : Int) := by omega
  have hp2 : ((i : Int) + 1).toNat = i + 1 := by omega
  have hp3 : ¬ ((i : Int) = (i : Int) + 1) := by omega
  have hcm2 : (cap : Int) ≤ 9223372036854775807 := by unfold maxLen at hcm; omega
  have e1 : i + (n - (i + 1)) = n - 1 := by omega
  have e2 : n - (n - 1) = 1 := by omega
  have hW : Hid (W1 = w.drew.setCells g (0 + i * 3) news) := hW1
  rw [hn]
  clear hW1 hown hblk hblk1 hb1 hb2 hcs hthere hnews hfl hlenN hs1 hs2 hsz
  go_enter Try.func57, Try.ntmps57
  go_wp2_with fail
  go_region_law (refine step_append_room rfl (.tmp 22) (.tmp 25) 29 rfl 61 i0 3 Try.underlying29 hi0 hz1 g 0 i cap (by simp [Act.eval, Act.put]) A (n - (i + 1)) (cap - (i + 1)) news (by simp [Act.eval, Act.put]) s1.out hsrc.out s2.out (by omega) s3.out ?_; rw [← hW.out])
  go_wp2
  go_ret
  exact ⟨rfl, HO.out, HK.out⟩
end Go.Proofs.Ytndaihhjhllfcad
