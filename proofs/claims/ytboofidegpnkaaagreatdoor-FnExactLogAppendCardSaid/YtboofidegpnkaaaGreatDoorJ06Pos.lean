import Derived.Test.YtboofidegpnkaaaGreatDoorProg
import Derived.Test.YtboofidegpnkaaaGreatDoorJ05Cells
import Derived.Deep.RegionLaw
import Derived.Lib.Overlaps
import Derived.Shelf.Spec.SlicesInsert
import Derived.Test.YtboofidegpnkaaaGreatDoorJ04Clone
namespace Go.Proofs.YtboofidegpnkaaaGreatDoor
open Go.RowKit
def insL (fs : List FileD) (i : Nat) (f : FileD) : List FileD := fs.take i ++ f :: fs.drop i
theorem insL_length (fs : List FileD) (i : Nat) (f : FileD) (h : i ≤ fs.length) : (insL fs i f).length = fs.length + 1 := by simp [insL]; omega
theorem insL_flat (fs : List FileD) (i : Nat) (f : FileD) : flat (insL fs i f) = flat (fs.take i) ++ (flat [f] ++ flat (fs.drop i)) := by
  rw [insL, flat_append, show f :: fs.drop i = [f] ++ fs.drop i from rfl, flat_append]
def OneAt (w : World) (vb : Nat) (f : FileD) : Prop := Blk w vb #[.string f.name, .string f.data, .int .i64 f.synced] 71
theorem OneAt.cells {w : World} {vb : Nat} {f : FileD} (h : OneAt w vb f) : ∀ j u, (flat [f])[j]? = some u → w.cell? ⟨vb, j, none⟩ = some u := fun j u hu => by
  rw [Blk.cell h, ← hu]; simp [flat]
theorem ins_cells {w : World} {g i n : Nat} {fs : List FileD} {f : FileD} (hn : fs.length = n) (hi : i ≤ n) (h0 : ∀ j u, j < i * 3 → (flat fs)[j]? = some u → w.cell? ⟨g, j, none⟩ = some u) (h1 : ∀ j u, (flat [f])[j]? = some u → w.cell? ⟨g, i * 3 + j, none⟩ = some u)
    (h2 : ∀ j u, (flat (fs.drop i))[j]? = some u → w.cell? ⟨g, (i + 1) * 3 + j, none⟩ = some u) : ∀ j u, (flat (insL fs i f))[j]? = some u → w.cell? ⟨g, j, none⟩ = some u := by
  intro j u hu
  have htl : (flat (fs.take i)).length = i * 3 := by rw [flat_length, List.length_take]; omega
  have h3 : (flat [f]).length = 3 := rfl
  rw [insL_flat] at hu
  by_cases a1 : j < i * 3
  · rw [List.getElem?_append_left (by omega), flat_take_get fs i j (by omega) a1] at hu
    exact h0 j u a1 hu
  · rw [List.getElem?_append_right (by omega), htl] at hu
    by_cases a2 : j - i * 3 < 3
    · rw [List.getElem?_append_left (by omega)] at hu
      have := h1 _ _ hu
      rwa [show i * 3 + (j - i * 3) = j by omega] at this
    · rw [List.getElem?_append_right (by omega), h3] at hu
      have := h2 _ _ hu
      rwa [show (i + 1) * 3 + (j - i * 3 - 3) = j by omega] at this
set_option maxHeartbeats 4000000 in
set_option maxRecDepth 100000 in
theorem insert_shift (B g cap i vb : Nat) (fs : List FileD) (f : FileD) (w : World) (hown : w.ownsRow B 71 3 (.slice (some ⟨g, 0, none⟩) fs.length cap) fs.length (flat fs)) (hv : OneAt w vb f) (hvb : vb ≠ g) (hi : i < fs.length) (hroom : fs.length + 1 ≤ cap) (hlen : fs.length ≤ 1048576) :
    Calls Tryz.prog 71 #[.slice (some ⟨g, 0, none⟩) fs.length cap, .int .i64 i, .slice (some ⟨vb, 0, none⟩) 1 1] w fun e w' =>
      e = .returned (.slice (some ⟨g, 0, none⟩) (fs.length + 1) cap) ∧ w'.ownsRow B 71 3 (.slice (some ⟨g, 0, none⟩) (fs.length + 1) cap) (fs.length + 1) (flat (insL fs i f)) ∧ Keeps (fun k => k = g) w w' := by
  obtain ⟨cur, hB, _, hblk, hnc, hcm, hsz, hcs⟩ := cells_of_row hown
  obtain ⟨i0, hi0, hz0, hz1, hz2⟩ := info_filex
  obtain ⟨n, hn⟩ : ∃ n, fs.length = n := ⟨_, rfl⟩
  rw [hn] at hi hroom hlen hnc ⊢
  have hsize : (Tryz.prog.info? 71).map (·.size) = some 3 := by rw [hi0]; simp [hz1]
  have hrunz : ∀ w, (Go.sizeOf 71).run Tryz.prog w = .ok 3 w := fun w => by simp [sizeOf, typeInfo, hi0, hz1]
  have hthere : ∀ j, j < cap * 3 → (w.cell? ⟨g, j, none⟩).isSome = true := fun j hj => by obtain ⟨v, hv⟩ := hblk.there (j := j) (by omega); rw [hv]; rfl
  have hov : ∀ lb cb, (callFunc 79 #[.slice (some ⟨vb, 0, none⟩) 1 1, .slice (some ⟨g, (i + 1) * 3, none⟩) lb cb]).run Tryz.prog w = .ok (.value (.bool false)) w := fun lb cb => by
    rw [run_callFunc_extern Tryz.func79 (by kernel_rfl) (by kernel_rfl) (by kernel_rfl) (e := Extern.SlicesOverlaps.overlaps #[28, 28] #[4]) (by kernel_rfl),
      Lib.run_overlaps_apart w 28 4 71 Tryz.underlying28 3 hrunz ⟨vb, 0, none⟩ ⟨g, (i + 1) * 3, none⟩ 1 1 lb cb hvb 71 71 3 cur.size (by unfold OneAt Blk at hv; simp [World.shape?, hv]) (by unfold Blk at hblk; simp [World.shape?, hblk]) (by omega) (Blk.free hv _) (Blk.free hv _)]
    rfl
  obtain ⟨mv, hmv⟩ : ∃ mv, mv = flat (fs.drop i) := ⟨_, rfl⟩
  have hmvl : mv.length = (n - i) * 3 := by rw [hmv, flat_length, List.length_drop, hn]
  have hcp1 : ∀ ty dc sc, (Builtin.copy_ #[28, 28] ty #[.slice (some ⟨g, (i + 1) * 3, none⟩) (n - i) dc, .slice (some ⟨g, i * 3, none⟩) (n + 1 - i) sc]).run Tryz.prog w.drew = .ok (goInt ((n - i : Nat) : Int)) (w.drew.setCells g ((i + 1) * 3) mv) := fun ty dc sc =>
    run_copy_wide w.drew _ _ ty 71 g ((i + 1) * 3) (n - i) dc ⟨g, i * 3, none⟩ (n + 1 - i) sc (n - i) 3 mv Tryz.underlying28 hsize (by simp only [Nat.min_def]; split <;> omega) hmvl
      (fun j v hj => by rw [Addr.add_lit]; exact hcs _ v (by rwa [hmv, flat_drop_get fs i j (by omega)] at hj))
      (fun j hj => hthere _ (by omega)) (fun j hj => hblk.free _) (by rw [hmv]; exact flat_one_cell _)
  obtain ⟨W1, hW1⟩ : ∃ W1, W1 = w.drew.setCells g ((i + 1) * 3) mv := ⟨_, rfl⟩
  obtain ⟨cur1, hb1, hs1⟩ := Blk.setCells mv ((i + 1) * 3) (show Blk w.drew g cur 71 from hblk)
  rw [← hW1] at hb1 hcp1
  have hv1 : OneAt W1 vb f := by rw [hW1]; exact Blk.keeps (S := fun k => k = g) hv (Keeps.setCells (S := fun k => k = g) rfl _ _ (Keeps.refl _ _).drew) hvb
  have hcp2 : ∀ ty dc, (Builtin.copy_ #[28, 28] ty #[.slice (some ⟨g, i * 3, none⟩) (n + 1 - i) dc, .slice (some ⟨vb, 0, none⟩) 1 1]).run Tryz.prog W1 = .ok (goInt 1) (W1.setCells g (i * 3) (flat [f])) := fun ty dc =>
    run_copy_wide W1 _ _ ty 71 g (i * 3) (n + 1 - i) dc ⟨vb, 0, none⟩ 1 1 1 3 (flat [f]) Tryz.underlying28 hsize (by simp only [Nat.min_def]; split <;> omega) rfl
      (fun j v hj => by rw [Addr.add_lit, Nat.zero_add]; exact hv1.cells j v hj)
      (fun j hj => by obtain ⟨v, hv⟩ := hb1.there (j := i * 3 + j) (by rw [hs1, hsz]; simp [flat] at hj; omega); rw [hv]; rfl) (fun j hj => hb1.free _) (flat_one_cell _)
  obtain ⟨cur2, hb2, hs2⟩ := Blk.setCells (flat [f]) (i * 3) hb1
  have HK : Hid (Keeps (fun k => k = g) w (W1.setCells g (i * 3) (flat [f]))) := by
    show Keeps _ _ _
    rw [hW1]
    exact Keeps.setCells (S := fun k => k = g) rfl _ _ (Keeps.setCells (S := fun k => k = g) rfl _ _ (Keeps.refl _ _).drew)
  have HO : Hid ((W1.setCells g (i * 3) (flat [f])).ownsRow B 71 3 (.slice (some ⟨g, 0, none⟩) (n + 1) cap) (n + 1) (flat (insL fs i f))) := by
    refine row_of_cells hB hb2 hroom hcm (by rw [hs2, hs1, hsz]) (by rw [flat_length, insL_length _ _ _ (by omega), hn]) (ins_cells hn (by omega) ?_ ?_ ?_)
    · intro j u hj hu
      rw [World.cell?_setCells_out g (flat [f]) (i * 3) W1 _ (fun _ _ => Or.inl hj), hW1, World.cell?_setCells_out g mv ((i + 1) * 3) _ _ (fun _ _ => Or.inl (by show j < _; omega))]
      exact hcs j u hu
    · intro j u hu
      have hj := (List.getElem?_eq_some_iff.1 hu).1
      rw [World.cell?_setCells_in g (flat [f]) (i * 3) W1 (fun k hk => by obtain ⟨v, hv⟩ := hb1.there (j := i * 3 + k) (by rw [hs1, hsz]; simp [flat] at hk; omega); rw [hv]; rfl) j hj, ← hu, List.getElem?_eq_getElem]
    · intro j u hu
      rw [← hmv] at hu
      have hj := (List.getElem?_eq_some_iff.1 hu).1
      rw [World.cell?_setCells_out g (flat [f]) (i * 3) W1 _ (fun _ _ => Or.inr (by simp [flat]; omega)), hW1,
        World.cell?_setCells_in g mv ((i + 1) * 3) w.drew (fun k hk => hthere _ (by omega)) j hj, ← hu, List.getElem?_eq_getElem]
  have hz2 : ¬ ((i : Int) = (n : Int)) := by omega
  have hz3 : ¬ ((cap : Int) < (n : Int) + 1) := by omega
  have hw1 : IntKind.i64.wrap ((i : Int) + 1) = (i : Int) + 1 := by rw [IntKind.wrap_i64]; omega
  have hbd : (0 : Int) ≤ (i : Int) + 1 := by omega
  have hin : i ≤ n := by omega
  have htn : ((i : Int) + 1).toNat = i + 1 := by omega
  have hbe : ¬ (cap = i + 1) := by omega
  have hb3 : (i : Int) + 1 ≤ (n : Int) + 1 := by omega
  have hb4 : ¬ (cap = i) := by omega
  have hb5 : (i : Int) ≤ (n : Int) + 1 := by omega
  have hb6 : ((n : Int) + 1).toNat = n + 1 := by omega
  have hb7 : (n : Int) + 1 ≤ (cap : Int) := by omega
  have hcm2 : (cap : Int) ≤ 9223372036854775807 := by unfold maxLen at hcm; omega
  clear hown hblk hb1 hcs hthere hv hv1 hsz hs1 hs2 hmv hmvl hW1 hz0 hrunz hsize hcm
  go_enter Tryz.func71, Tryz.ntmps71
  go_wp2_with (simp only [hov])
  go_region_law (refine step_copy_runI rfl _ _ 28 28 rfl _ _ (by simp [Act.eval, Act.put]) (by simp [Act.eval, Act.put]) (hcp1 _ _ _) ?_)
  go_wp2_with (at_builtin; refine wpList_copy_runI _ rfl _ _ 28 28 rfl _ _ rfl rfl (hcp2 _ _) ?_)
  go_ret
  exact ⟨rfl, HO.out, HK.out⟩
end Go.Proofs.YtboofidegpnkaaaGreatDoor
namespace Go.Proofs.YtboofidegpnkaaaGreatDoor
open Go.RowKit
theorem Asc.tail {f : FileD} {r : List FileD} (h : Asc (f :: r)) : Asc r := fun i j hi hj => by
  have := h (i + 1) (j + 1) (by omega) (by simp; omega)
  simpa using this
theorem Asc.head {f : FileD} {r : List FileD} (h : Asc (f :: r)) (j : Nat) (hj : j < r.length) : Op.bytesLess f.name.toList r[j].name.toList = true := by
  have := h 0 (j + 1) (by omega) (by simp; omega)
  simpa using this
theorem posOf_is : ∀ {fs : List FileD} (t : ByteArray), Asc fs → PosIs fs t (posOf t fs)
  | [], t, _ => ⟨Nat.le_refl _, fun j h => absurd h (by simp), fun j h => absurd h (by simp)⟩
  | f :: r, t, ha => by
    have ih := posOf_is t ha.tail
    unfold posOf
    by_cases hl : Op.bytesLess f.name.toList t.toList = true
    · rw [if_pos hl]
      refine ⟨by simp; exact ih.1, fun j hj hlt => ?_, fun j hj hge => ?_⟩
      · cases j with
        | zero => exact hl
        | succ j => simpa using ih.2.1 j (by simpa using hj) (by omega)
      · cases j with
        | zero => omega
        | succ j => simpa using ih.2.2 j (by simpa using hj) (by omega)
    · rw [if_neg hl]
      refine ⟨Nat.zero_le _, fun j _ h => absurd h (by omega), fun j hj _ => ?_⟩
      cases j with
      | zero => simpa using hl
      | succ j =>
        have hj' : j < r.length := by simpa using hj
        show Op.bytesLess r[j].name.toList t.toList = false
        rw [Bool.eq_false_iff]
        intro h
        exact hl (less_trans _ _ _ (ha.head j hj') h)
theorem findFile_is (a : Option Addr) (cap : Nat) (fs : List FileD) (t : ByteArray) (w : World) (hf : FilesIn w a fs) (hasc : Asc fs) (hlen : fs.length ≤ 1048576) :
    Calls Tryz.prog 61 #[.slice a fs.length cap, .string t] w fun e w' => e = .returned (.tuple #[.int .i64 (posOf t fs), .bool (hasB fs t (posOf t fs))]) ∧ Below w.heap.size w w' := by
  refine (findFile_any a cap fs t w hf hasc hlen).mono ?_
  rintro e w' ⟨i, hp, rfl, hb⟩
  obtain rfl := hp.uniq (posOf_is t hasc)
  exact ⟨rfl, hb⟩
theorem hasB_lt {fs : List FileD} {t : ByteArray} {i : Nat} (h : hasB fs t i = true) : ∃ hi : i < fs.length, fs[i].name = t := by
  unfold hasB at h
  split at h
  · exact absurd h (by simp)
  · rename_i f hf
    obtain ⟨hlt, rfl⟩ := List.getElem?_eq_some_iff.1 hf
    exact ⟨hlt, toList_inj (by simpa using h)⟩
def withoutL (fs : List FileD) (t : ByteArray) : List FileD := fs.filter fun f => !(f.name.toList == t.toList)
def placeL : List FileD → FileD → List FileD
  | [], f => [f]
  | g :: r, f => if Op.bytesLess f.name.toList g.name.toList = true then f :: g :: r else g :: placeL r f
theorem without_none {fs : List FileD} {t : ByteArray} (h : ∀ j (hj : j < fs.length), fs[j].name ≠ t) : withoutL fs t = fs := by
  unfold withoutL
  rw [List.filter_eq_self]
  intro f hf
  obtain ⟨j, hj, rfl⟩ := List.getElem_of_mem hf
  simp only [Bool.not_eq_true', beq_eq_false_iff_ne, ne_eq]
  exact fun e => h j hj (toList_inj e)
theorem without_erase : ∀ {fs : List FileD} {i : Nat} (_ : Asc fs) (hi : i < fs.length), withoutL fs fs[i].name = fs.eraseIdx i
  | f :: r, 0, ha, _ => by
    have e : withoutL (f :: r) f.name = withoutL r f.name := by simp [withoutL]
    show withoutL (f :: r) f.name = r
    rw [e]
    exact without_none fun j hj e => by
      have := ha.head j hj
      rw [e, less_irrefl] at this
      exact absurd this (by simp)
  | f :: r, i + 1, ha, hi => by
    have hi' : i < r.length := by simpa using hi
    have ih := without_erase ha.tail hi'
    have hne : (f.name.toList == (r[i]).name.toList) = false := by
      rw [beq_eq_false_iff_ne]
      intro e
      have := ha.head i hi'
      rw [e, less_irrefl] at this
      exact absurd this (by simp)
    show withoutL (f :: r) r[i].name = f :: r.eraseIdx i
    rw [← ih]
    simp [withoutL, hne]
theorem Asc.erase {fs : List FileD} (h : Asc fs) (i : Nat) : Asc (fs.eraseIdx i) := by
  intro a b hab hb
  have hlb : b < fs.length := by
    rw [List.length_eraseIdx] at hb; split at hb <;> omega
  rw [List.getElem_eraseIdx, List.getElem_eraseIdx]
  rw [List.length_eraseIdx] at hb
  split <;> split
  · exact h a b hab (by omega)
  · exact h a (b + 1) (by omega) (by split at hb <;> omega)
  · omega
  · exact h (a + 1) (b + 1) (by omega) (by split at hb <;> omega)
theorem hasB_none {fs : List FileD} {t : ByteArray} (ha : Asc fs) (hb : hasB fs t (posOf t fs) = false) : ∀ j (hj : j < fs.length), fs[j].name ≠ t := by
  intro j hj e
  have hp := posOf_is t ha
  rcases Nat.lt_trichotomy j (posOf t fs) with h | h | h
  · have := hp.2.1 j hj h
    rw [e, less_irrefl] at this; exact absurd this (by simp)
  · have : hasB fs t j = true := by simp [hasB, List.getElem?_eq_getElem hj, e]
    rw [← h, this] at hb; exact absurd hb (by simp)
  · have h1 := hp.2.2 (posOf t fs) (by omega) (Nat.le_refl _)
    have h2 := ha (posOf t fs) j h hj
    rw [e] at h2
    rw [h2] at h1; exact absurd h1 (by simp)
theorem place_ins : ∀ {fs : List FileD} (f : FileD), Asc fs → (∀ j (hj : j < fs.length), fs[j].name ≠ f.name) → placeL fs f = insL fs (posOf f.name fs) f
  | [], f, _, _ => rfl
  | g :: r, f, ha, hn => by
    have ih := place_ins f ha.tail (fun j hj => by have := hn (j + 1) (by simp; omega); simpa using this)
    unfold placeL posOf
    by_cases hl : Op.bytesLess g.name.toList f.name.toList = true
    · rw [if_neg (by rw [less_asymm hl]; simp), if_pos hl, ih]
      simp [insL]
    · have hne : g.name.toList ≠ f.name.toList := fun e => hn 0 (by simp) (toList_inj e)
      have hl2 := less_total _ _ (by simpa using hl) hne
      rw [if_pos hl2, if_neg hl]
      rfl
theorem ins_erase {fs : List FileD} {i : Nat} (hi : i < fs.length) (f : FileD) : insL (fs.eraseIdx i) i f = fs.set i f := by
  rw [insL, List.eraseIdx_eq_take_drop_succ, List.set_eq_take_append_cons_drop, if_pos hi]
  have h1 : (fs.take i).length = i := by rw [List.length_take]; omega
  rw [List.take_append_of_le_length (by omega), List.take_of_length_le (by omega), List.drop_append_of_le_length (by omega), List.drop_eq_nil_of_le (by omega), List.nil_append]
theorem pos_erase {fs : List FileD} {i : Nat} (ha : Asc fs) (hi : i < fs.length) : posOf fs[i].name (fs.eraseIdx i) = i := by
  refine (posOf_is _ (ha.erase i)).uniq ⟨by rw [List.length_eraseIdx, if_pos hi]; omega, fun j hj hlt => ?_, fun j hj hge => ?_⟩
  · rw [List.getElem_eraseIdx, dif_pos hlt]; exact ha j i hlt hi
  · rw [List.getElem_eraseIdx, dif_neg (by omega)]
    rw [List.length_eraseIdx, if_pos hi] at hj
    exact less_asymm (ha i (j + 1) (by omega) (by omega))
def withL (fs : List FileD) (f : FileD) : List FileD := placeL (withoutL fs f.name) f
theorem with_new {fs : List FileD} {f : FileD} (ha : Asc fs) (hb : hasB fs f.name (posOf f.name fs) = false) : withL fs f = insL fs (posOf f.name fs) f := by
  have hn := hasB_none ha hb
  unfold withL
  rw [without_none hn]
  exact place_ins f ha hn
theorem with_old {fs : List FileD} {f : FileD} {i : Nat} (ha : Asc fs) (hi : i < fs.length) (he : fs[i].name = f.name) : withL fs f = fs.set i f := by
  unfold withL
  rw [← he, without_erase ha hi]
  have hn : ∀ j (hj : j < (fs.eraseIdx i).length), (fs.eraseIdx i)[j].name ≠ f.name := fun j hj e => by
    rw [List.getElem_eraseIdx] at e
    rw [← he] at e
    rw [List.length_eraseIdx, if_pos hi] at hj
    split at e
    · have := ha j i (by omega) hi
      rw [e, less_irrefl] at this; exact absurd this (by simp)
    · have := ha i (j + 1) (by omega) (by omega)
      rw [e, less_irrefl] at this; exact absurd this (by simp)
  rw [place_ins f (ha.erase i) hn, ← he, pos_erase ha hi, ins_erase hi]
end Go.Proofs.YtboofidegpnkaaaGreatDoor
