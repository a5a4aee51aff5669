import Derived.Test.YtboofidegpnkaaaGreatDoorProg
import Derived.Test.YtboofidegpnkaaaGreatDoorJ06Pos
import Derived.Test.YtboofidegpnkaaaGreatDoorJ08Charge
import Derived.Test.YtboofidegpnkaaaGreatDoorJ03Ord
import Derived.Test.YtboofidegpnkaaaGreatDoorJ05Cells
import Derived.Deep.RegionLaw
import Derived.Maps.AppendAt
import Derived.Lib.AppendZerosOnto
import Derived.Test.YtboofidegpnkaaaGreatDoorJ01Btw
namespace Go.Proofs.YtboofidegpnkaaaGreatDoor
open Go.RowKit
structure OpD where
  kind : Int
  name : ByteArray
  to : ByteArray
  data : ByteArray
  size : Int
def opB (op : OpD) : Bool := btwB op.kind 1 6 && nameB op.name && (decide (op.kind ≠ 5) || nameB op.to)
def doR (fs : List FileD) (c : Int) (op : OpD) : Nat × List FileD :=
  let i := posOf op.name fs
  if op.kind = 1 then (if hasB fs op.name i = true then (5, fs) else if 1000 ≤ fs.length then (3, fs) else (0, insL fs i ⟨op.name, ByteArray.empty, 0⟩))
  else match fs[i]? with
    | none => (4, fs)
    | some f =>
      if hasB fs op.name i = false then (4, fs)
      else if op.kind = 2 then (if c < sumLen fs + op.data.size then (3, fs) else (0, fs.set i ⟨f.name, f.data ++ op.data, f.synced⟩))
      else if op.kind = 3 then (0, fs.set i ⟨f.name, f.data, f.data.size⟩)
      else if op.kind = 4 then (if btwB op.size 0 f.data.size = true then (0, fs.set i ⟨f.name, f.data.extract 0 op.size.toNat, op.size⟩) else (6, fs))
      else if op.kind = 5 then (0, withL (fs.eraseIdx i) ⟨op.to, f.data, f.synced⟩)
      else (0, fs.eraseIdx i)
theorem isFileName_is {s : ByteArray} {b : Bool} (h : nameB s = b) (w : World) (hs : s.size ≤ maxLen) : Calls Tryz.prog 70 #[.string s] w fun e w' => e = .returned (.bool b) ∧ w' = w := h ▸ isFileName_any s w hs
def OpAt (w : World) (b : Nat) (op : OpD) (t : TypeId) : Prop := Blk w b #[.int .i64 op.kind, .string op.name, .string op.to, .string op.data, .int .i64 op.size] t
theorem OpAt.cells {w : World} {b : Nat} {op : OpD} {t : TypeId} (h : OpAt w b op t) : w.cell? ⟨b, 0, none⟩ = some (.int .i64 op.kind) ∧ w.cell? ⟨b, 1, none⟩ = some (.string op.name) ∧ w.cell? ⟨b, 2, none⟩ = some (.string op.to) ∧ w.cell? ⟨b, 3, none⟩ = some (.string op.data) ∧ w.cell? ⟨b, 4, none⟩ = some (.int .i64 op.size) := by
  refine ⟨?_, ?_, ?_, ?_, ?_⟩ <;> rw [Blk.cell h] <;> rfl
end Go.Proofs.YtboofidegpnkaaaGreatDoor
namespace Go.Proofs.YtboofidegpnkaaaGreatDoor
open Go.RowKit
set_option maxHeartbeats 4000000 in
set_option maxRecDepth 1000000 in
theorem delete_any (B g cap i : Nat) (fs : List FileD) (w : World) (hown : w.ownsRow B 71 3 (.slice (some ⟨g, 0, none⟩) fs.length cap) fs.length (flat fs)) (hi : i < fs.length) (hlen : fs.length ≤ 1048576) :
    Calls Tryz.prog 76 #[.slice (some ⟨g, 0, none⟩) fs.length cap, .int .i64 i, .int .i64 ((i : Int) + 1)] w fun e w' =>
      e = .returned (.slice (some ⟨g, 0, none⟩) (fs.length - 1) cap) ∧ w'.ownsRow B 71 3 (.slice (some ⟨g, 0, none⟩) (fs.length - 1) cap) (fs.length - 1) (flat (fs.eraseIdx i)) ∧ Keeps (fun k => k = g) w w' := by
  obtain ⟨cur, hB, _, hblk, hnc, hcm, hsz, hcs⟩ := cells_of_row hown
  obtain ⟨i0, hi0, hz0, hz1, hz2⟩ := info_filex
  obtain ⟨n, hn⟩ : ∃ n, fs.length = n := ⟨_, rfl⟩
  obtain ⟨news, hnews⟩ : ∃ news, news = flat (fs.drop (i + 1)) := ⟨_, rfl⟩
  have hlenN : news.length = (n - (i + 1)) * 3 := by rw [hnews, flat_length, List.length_drop, hn]
  have hfl : (flat fs).length = n * 3 := by rw [flat_length, hn]
  have hthere : ∀ j, j < n * 3 → (w.cell? ⟨g, j, none⟩).isSome = true := fun j hj => by rw [hcs j _ (List.getElem?_eq_getElem (by omega))]; rfl
  obtain ⟨A, hA, hsrc⟩ : ∃ A : Addr, (if cap = i + 1 then some (⟨g, 0, none⟩ : Addr) else some ⟨g, (i + 1) * 3, none⟩) = some A ∧ Hid (∀ j u, news[j]? = some u → w.drew.cell? (A.add j) = some u) := by
    by_cases h : cap = i + 1
    · refine ⟨⟨g, 0, none⟩, by simp [h], fun j u hu => ?_⟩
      have h0 : news.length = 0 := by rw [hlenN]; omega
      rw [List.length_eq_zero_iff.1 h0] at hu
      simp at hu
    · refine ⟨⟨g, (i + 1) * 3, none⟩, by simp [h], fun j u hu => ?_⟩
      rw [hnews, flat_drop_get fs (i + 1) j (by omega)] at hu
      rw [Addr.add_lit]
      exact hcs _ _ hu
  have s1 : Hid (news.length = (n - (i + 1)) * 3) := hlenN
  have s2 : Hid (∀ u ∈ news, u.oneCell' = true) := by rw [hnews]; exact flat_one_cell _
  have s3 : Hid (∀ j, j < news.length → (w.drew.cell? ⟨g, 0 + i * 3 + j, none⟩).isSome = true ∧ w.drew.frozen? ⟨g, 0 + i * 3 + j, none⟩ = false) := by
    intro j hj
    rw [hlenN] at hj
    exact ⟨hthere _ (by omega), hblk.free _⟩
  obtain ⟨W1, hW1⟩ : ∃ W1, W1 = w.drew.setCells g (0 + i * 3) news := ⟨_, rfl⟩
  have hblk1 : Blk w.drew g cur 71 := hblk
  obtain ⟨cur1, hb1, hs1⟩ := Blk.setCells news (0 + i * 3) hblk1
  rw [← hW1] at hb1
  have hcl : ∀ ty c, (Builtin.clear_ #[28] ty #[.slice (some ⟨g, (n - 1) * 3, none⟩) 1 c]).run Tryz.prog W1 = .ok (.tuple #[]) (W1.setCells g ((n - 1) * 3) zeroF) := fun ty c =>
    run_clear_one W1 _ ty _ i0 Tryz.underlying28 hi0 hz0 g _ c (fun j hj => by obtain ⟨v, hv⟩ := hb1.there (j := (n - 1) * 3 + j) (by rw [hs1, hsz]; omega); rw [hv]; rfl) (fun j _ => hb1.free _)
  obtain ⟨cur2, hb2, hs2⟩ := Blk.setCells zeroF ((n - 1) * 3) hb1
  have HK : Hid (Keeps (fun k => k = g) w (W1.setCells g ((n - 1) * 3) zeroF)) := by
    show Keeps _ _ _
    rw [hW1]
    exact Keeps.setCells (S := fun k => k = g) rfl _ _ (Keeps.setCells (S := fun k => k = g) rfl _ _ (Keeps.refl _ _).drew)
  have HO : Hid ((W1.setCells g ((n - 1) * 3) zeroF).ownsRow B 71 3 (.slice (some ⟨g, 0, none⟩) (n - 1) cap) (n - 1) (flat (fs.eraseIdx i))) := by
    refine row_of_cells hB hb2 (by omega) hcm (by rw [hs2, hs1, hsz]) (by rw [flat_length, List.length_eraseIdx, if_pos hi, hn]) fun j u hu => ?_
    have hjl := (List.getElem?_eq_some_iff.1 hu).1
    rw [flat_length, List.length_eraseIdx, if_pos hi, hn] at hjl
    rw [World.cell?_setCells_out g zeroF ((n - 1) * 3) W1 _ (fun _ _ => Or.inl (by show j < _; omega)), hW1]
    rw [erase_flat] at hu
    have htl : (flat (fs.take i)).length = i * 3 := by rw [flat_length, List.length_take]; omega
    by_cases hji : j < i * 3
    · rw [World.cell?_setCells_out g news (0 + i * 3) _ _ (fun _ _ => Or.inl (by show j < _; omega))]
      rw [List.getElem?_append_left (by omega), flat_take_get fs i j (by omega) hji] at hu
      exact hcs j u hu
    · rw [List.getElem?_append_right (by omega), htl, ← hnews] at hu
      have hin := World.cell?_setCells_in g news (0 + i * 3) w.drew (fun k hk => (s3.out k hk).1) (j - i * 3) (by omega)
      rw [show 0 + i * 3 + (j - i * 3) = j by omega] at hin
      rw [hin, ← hu, List.getElem?_eq_getElem]
  have hic : i ≤ cap := by omega
  have hjc : i + 1 ≤ cap := by omega
  have hp0 : (0 : Int) ≤ (i : Int) + 1 := by omega
  have hp1 : (i : Int) + 1 ≤ (n : Int) := by omega
  have hp2 : ((i : Int) + 1).toNat = i + 1 := by omega
  have hp3 : ¬ ((i : Int) = (i : Int) + 1) := by omega
  have hcm2 : (cap : Int) ≤ 9223372036854775807 := by unfold maxLen at hcm; omega
  have e1 : i + (n - (i + 1)) = n - 1 := by omega
  have e2 : n - (n - 1) = 1 := by omega
  have hW : Hid (W1 = w.drew.setCells g (0 + i * 3) news) := hW1
  rw [hn]
  clear hW1 hown hblk hblk1 hb1 hb2 hcs hthere hnews hfl hlenN hs1 hs2 hsz
  go_enter Tryz.func76, Tryz.ntmps76
  go_wp2_with fail
  go_region_law (refine step_append_room rfl (.tmp 22) (.tmp 25) 28 rfl 71 i0 3 Tryz.underlying28 hi0 hz1 g 0 i cap (by simp [Act.eval, Act.put]) A (n - (i + 1)) (cap - (i + 1)) news (by simp [Act.eval, Act.put]) s1.out hsrc.out s2.out (by omega) s3.out ?_; rw [← hW.out])
  go_wp2
  go_ret
  exact ⟨rfl, HO.out, HK.out⟩
end Go.Proofs.YtboofidegpnkaaaGreatDoor
namespace Go.Proofs.YtboofidegpnkaaaGreatDoor
open Go.RowKit
set_option maxHeartbeats 4000000 in
set_option maxRecDepth 100000 in
theorem insert_grow (B g cap i vb : Nat) (fs : List FileD) (f : FileD) (w : World) (hown : w.ownsRow B 71 3 (.slice (some ⟨g, 0, none⟩) fs.length cap) fs.length (flat fs)) (hv : OneAt w vb f) (hi : i < fs.length) (hroom : cap < fs.length + 1) (hlen : fs.length ≤ 1048576) (hBs : B ≤ w.heap.size) :
    Calls Tryz.prog 71 #[.slice (some ⟨g, 0, none⟩) fs.length cap, .int .i64 i, .slice (some ⟨vb, 0, none⟩) 1 1] w fun e w' =>
      ∃ cap', e = .returned (.slice (some ⟨w.heap.size, 0, none⟩) (fs.length + 1) cap') ∧ w'.ownsRow B 71 3 (.slice (some ⟨w.heap.size, 0, none⟩) (fs.length + 1) cap') (fs.length + 1) (flat (insL fs i f)) ∧ Below w.heap.size w w' := by
  obtain ⟨cur, hB, _, hblk, hnc, hcm, hsz, hcs⟩ := cells_of_row hown
  obtain ⟨i0, hi0, hz0, hz1, hz2⟩ := info_filex
  obtain ⟨n, hn⟩ : ∃ n, fs.length = n := ⟨_, rfl⟩
  rw [hn] at hi hroom hlen hnc ⊢
  have hsize : (Tryz.prog.info? 71).map (·.size) = some 3 := by rw [hi0]; simp [hz1]
  have hgw : g < w.heap.size := lt_of_block hblk
  have hvw : vb < w.heap.size := lt_of_block hv
  have hkk : (n : Int) + 1 - (i : Int) = ((n + 1 - i : Nat) : Int) := by omega
  have hik : i + (n + 1 - i) = n + 1 := by omega
  have htl : (flat (fs.take i)).length = i * 3 := by rw [flat_length, List.length_take]; omega
  have hold : (Builtin.firstCells i0.size i (.slice (some ⟨g, 0, none⟩) i cap)).run Tryz.prog w.drew = .ok (flat (fs.take i)).toArray w.drew := by
    rw [hz1]
    exact run_firstCells_some w.drew 3 i ⟨g, 0, none⟩ i cap (flat (fs.take i)) htl (fun j v hj => by
      rw [Addr.add_lit, Nat.zero_add]
      have hlt := (List.getElem?_eq_some_iff.1 hj).1
      rw [flat_take_get fs i j (by omega) (by omega)] at hj
      exact hcs j v hj)
  obtain ⟨G, hG⟩ : ∃ G, G = grownCap w (n + 1) cap 71 := ⟨_, rfl⟩
  obtain ⟨ROW, hROW⟩ : ∃ ROW : Array Value, ROW = (flat (fs.take i)).toArray ++ Builtin.zeroCells (Value.agg #[.string ByteArray.empty, .string ByteArray.empty, .int .i64 0]).cells (n + 1 - i) ++ Builtin.zeroCells (Value.agg #[.string ByteArray.empty, .string ByteArray.empty, .int .i64 0]).cells (G - (n + 1)) := ⟨_, rfl⟩
  obtain ⟨W1, hW1⟩ : ∃ W1, W1 = w.drew.alloc (.cells ROW 71) := ⟨_, rfl⟩
  have hrz : ∀ ty, (Builtin.append_ #[28, 3] ty #[.slice (some ⟨g, 0, none⟩) i cap, .int .i64 ((n : Int) + 1 - (i : Int))]).run Tryz.prog w = .ok (.slice (some ⟨w.heap.size, 0, none⟩) (n + 1) G) W1 := fun ty => by
    have h := Lib.run_append_grow_zeros w 28 3 ty 71 i0 _ .i64 .i64 Tryz.underlying28 Tryz.underlying3 hi0 hz0 (some ⟨g, 0, none⟩) i cap _ hold (n + 1 - i) (by omega) (by omega) (by omega) (by omega) (by rw [hz2]; omega) (by rw [hz2, hik]; exact growslice_fits hroom (by omega))
    rw [hik, ← hG, ← hROW, ← hW1] at h
    rw [hkk]
    exact h
  have hGn : n + 1 ≤ G := by rw [hG]; exact grownCap_ge w _ _ _
  have hGm : G ≤ maxLen := by rw [hG]; exact grownCap_le_maxLen w (n + 1) cap 71 (by unfold maxLen; omega)
  have hz3c : (Value.agg #[.string ByteArray.empty, .string ByteArray.empty, .int .i64 0]).cells.size = 3 := rfl
  have hRs : ROW.size = G * 3 := by
    rw [hROW]
    simp only [Array.size_append, List.size_toArray, size_zeroCells, hz3c, htl]
    omega
  have hb1 : Blk W1 w.heap.size ROW 71 := by rw [hW1]; exact heap_alloc_new w.drew _
  have hbel1 : Below w.heap.size w W1 := by rw [hW1]; exact bto (Below.refl _ _).drew (bnew _ _)
  have hv1 : OneAt W1 vb f := Blk.later hv hbel1
  have hg1 : Blk W1 g cur 71 := hblk.later hbel1
  have hcpA : ∀ ty dc, (Builtin.copy_ #[28, 28] ty #[.slice (some ⟨w.heap.size, i * 3, none⟩) (n + 1 - i) dc, .slice (some ⟨vb, 0, none⟩) 1 1]).run Tryz.prog W1 = .ok (goInt 1) (W1.setCells w.heap.size (i * 3) (flat [f])) := fun ty dc =>
    run_copy_wide W1 _ _ ty 71 w.heap.size (i * 3) (n + 1 - i) dc ⟨vb, 0, none⟩ 1 1 1 3 (flat [f]) Tryz.underlying28 hsize (by simp only [Nat.min_def]; split <;> omega) rfl
      (fun j v hj => by rw [Addr.add_lit, Nat.zero_add]; exact hv1.cells j v hj)
      (fun j hj => by obtain ⟨v, hv⟩ := hb1.there (j := i * 3 + j) (by rw [hRs]; simp [flat] at hj; omega); rw [hv]; rfl) (fun j hj => hb1.free _) (flat_one_cell _)
  obtain ⟨W2, hW2⟩ : ∃ W2, W2 = W1.setCells w.heap.size (i * 3) (flat [f]) := ⟨_, rfl⟩
  rw [← hW2] at hcpA
  obtain ⟨cur2, hb2, hs2⟩ := Blk.setCells (flat [f]) (i * 3) hb1
  rw [← hW2] at hb2
  have hk2 : Keeps (fun k => k = w.heap.size) W1 W2 := by rw [hW2]; exact Keeps.setCells (S := fun k => k = w.heap.size) rfl _ _ (Keeps.refl _ _)
  have hg2 : Blk W2 g cur 71 := hg1.keeps hk2 (by omega)
  obtain ⟨mv, hmv⟩ : ∃ mv, mv = flat (fs.drop i) := ⟨_, rfl⟩
  have hmvl : mv.length = (n - i) * 3 := by rw [hmv, flat_length, List.length_drop, hn]
  have hcs0 : ∀ j u, (flat fs)[j]? = some u → cur[j]? = some u := fun j u hu => by rw [← hblk.cell]; exact hcs j u hu
  have hcpB : ∀ ty dc sc, (Builtin.copy_ #[28, 28] ty #[.slice (some ⟨w.heap.size, (i + 1) * 3, none⟩) (n - i) dc, .slice (some ⟨g, i * 3, none⟩) (n - i) sc]).run Tryz.prog W2.drew = .ok (goInt ((n - i : Nat) : Int)) (W2.drew.setCells w.heap.size ((i + 1) * 3) mv) := fun ty dc sc =>
    run_copy_wide W2.drew _ _ ty 71 w.heap.size ((i + 1) * 3) (n - i) dc ⟨g, i * 3, none⟩ (n - i) sc (n - i) 3 mv Tryz.underlying28 hsize (by simp only [Nat.min_def]; split <;> omega) hmvl
      (fun j v hj => by
        rw [Addr.add_lit]
        show W2.cell? _ = _
        rw [hg2.cell]
        exact hcs0 _ v (by rwa [hmv, flat_drop_get fs i j (by omega)] at hj))
      (fun j hj => by obtain ⟨v, hv⟩ := hb2.there (j := (i + 1) * 3 + j) (by rw [hs2, hRs]; omega); show (W2.cell? _).isSome = true; rw [hv]; rfl) (fun j hj => hb2.free _) (by rw [hmv]; exact flat_one_cell _)
  obtain ⟨W3, hW3⟩ : ∃ W3, W3 = W2.drew.setCells w.heap.size ((i + 1) * 3) mv := ⟨_, rfl⟩
  rw [← hW3] at hcpB
  obtain ⟨cur3, hb3, hs3⟩ := Blk.setCells mv ((i + 1) * 3) (show Blk W2.drew w.heap.size cur2 71 from hb2)
  rw [← hW3] at hb3
  have HB : Hid (Below w.heap.size w W3) := by
    have k3 : Keeps (fun k => k = w.heap.size) W1 W3 := by rw [hW3]; exact Keeps.setCells (S := fun k => k = w.heap.size) rfl _ _ hk2.drew
    exact hbel1.trans (k3.below (fun k e => by omega) hbel1.size)
  have HO : Hid (W3.ownsRow B 71 3 (.slice (some ⟨w.heap.size, 0, none⟩) (n + 1) G) (n + 1) (flat (insL fs i f))) := by
    refine row_of_cells hBs hb3 hGn hGm (by rw [hs3, hs2, hRs]) (by rw [flat_length, insL_length _ _ _ (by omega), hn]) (ins_cells hn (by omega) ?_ ?_ ?_)
    · intro j u hj hu
      rw [hW3, World.cell?_setCells_out w.heap.size mv ((i + 1) * 3) _ _ (fun _ _ => Or.inl (by show j < _; omega))]
      show W2.cell? _ = _
      rw [hW2, World.cell?_setCells_out w.heap.size (flat [f]) (i * 3) W1 _ (fun _ _ => Or.inl hj), hb1.cell, hROW]
      rw [← flat_take_get fs i j (by omega) hj] at hu
      rw [Array.append_assoc, Array.getElem?_append_left (by simp [htl]; omega)]
      simpa using hu
    · intro j u hu
      have hj := (List.getElem?_eq_some_iff.1 hu).1
      have hj3 : j < 3 := hj
      rw [hW3, World.cell?_setCells_out w.heap.size mv ((i + 1) * 3) _ _ (fun _ _ => Or.inl (by show i * 3 + j < _; omega))]
      show W2.cell? _ = _
      rw [hW2, World.cell?_setCells_in w.heap.size (flat [f]) (i * 3) W1 (fun k hk => by obtain ⟨v, hv⟩ := hb1.there (j := i * 3 + k) (by rw [hRs]; simp [flat] at hk; omega); rw [hv]; rfl) j hj, ← hu, List.getElem?_eq_getElem]
    · intro j u hu
      rw [← hmv] at hu
      have hj := (List.getElem?_eq_some_iff.1 hu).1
      rw [hW3, World.cell?_setCells_in w.heap.size mv ((i + 1) * 3) W2.drew (fun k hk => by obtain ⟨v, hv⟩ := hb2.there (j := (i + 1) * 3 + k) (by rw [hs2, hRs]; omega); show (W2.cell? _).isSome = true; rw [hv]; rfl) j hj, ← hu, List.getElem?_eq_getElem]
  have hq2 : ¬ ((i : Int) = (n : Int)) := by omega
  have hq3 : (cap : Int) < (n : Int) + 1 := by omega
  have hw1 : IntKind.i64.wrap ((i : Int) + 1) = (i : Int) + 1 := by rw [IntKind.wrap_i64]; omega
  have hbd : (0 : Int) ≤ (i : Int) + 1 := by omega
  have hin : i ≤ n := by omega
  have htn : ((i : Int) + 1).toNat = i + 1 := by omega
  have hb5 : (i : Int) ≤ (n : Int) + 1 := by omega
  have hb6 : (i : Int) + 1 ≤ (n : Int) + 1 := by omega
  have hGi : ¬ (G = i) := by omega
  have hGim : ¬ (G = i + 1) := by omega
  have hci : ¬ (cap = i) := by omega
  have hic : (i : Int) ≤ (cap : Int) := by omega
  have hcm2 : (cap : Int) ≤ 9223372036854775807 := by unfold maxLen at hcm; omega
  clear hown hblk hcs hcs0 hv hv1 hsz hs2 hs3 hmv hmvl hW1 hW2 hW3 hz0 hsize hcm hb1 hb2 hb3 hg1 hg2 hk2 hbel1 hRs hROW hG hGm hold hkk hik htl hgw hvw
  go_enter Tryz.func71, Tryz.ntmps71
  go_wp2_with (first
    | (at_builtin; refine Lib.wpList_append_run _ rfl _ _ _ _ rfl _ _ rfl rfl _ _ (hrz _) ?_)
    | (at_builtin; refine wpList_copy_runI _ rfl _ _ 28 28 rfl _ _ rfl rfl (hcpA _ _) ?_))
  go_region_law (refine step_copy_runI rfl _ _ 28 28 rfl _ _ (by simp [Act.eval, Act.put]) (by simp [Act.eval, Act.put]) (hcpB _ _ _) ?_)
  go_wp2
  go_ret
  exact ⟨G, rfl, HO.out, HB.out⟩
set_option maxHeartbeats 4000000 in
set_option maxRecDepth 100000 in
theorem insert_end (B vb : Nat) (v : Value) (fs : List FileD) (f : FileD) (w : World) (hown : w.ownsRow B 71 3 v fs.length (flat fs)) (hv : OneAt w vb f) (hlen : fs.length ≤ 1048576) (hBs : B ≤ w.heap.size) :
    Calls Tryz.prog 71 #[v, .int .i64 fs.length, .slice (some ⟨vb, 0, none⟩) 1 1] w fun e w' =>
      ∃ v', e = .returned v' ∧ w'.ownsRow B 71 3 v' (fs.length + 1) (flat (insL fs fs.length f)) ∧ Keeps (fun k => v.ownBlock = some k) w w' ∧ (v'.ownBlock = v.ownBlock ∨ v'.ownBlock = some w.heap.size) := by
  obtain ⟨i0, hi0, hz0, hz1, hz2⟩ := info_filex
  have hnews : Hid (∀ j u, (flat [f])[j]? = some u → w.cell? ((⟨vb, 0, none⟩ : Addr).add j) = some u) := fun j u hu => by
    rw [Addr.add_lit, Nat.zero_add]; exact hv.cells j u hu
  have hfl : Hid (flat (insL fs fs.length f) = flat fs ++ flat [f]) := by
    show _ = _
    rw [insL_flat]; simp [flat]
  have HO : Hid (w.ownsRow B 71 3 v fs.length (flat fs)) := hown
  have HI : Hid (Tryz.prog.info? 71 = some i0) := hi0
  clear hv hi0
  rcases hown.2 with ⟨rfl, h0⟩ | ⟨g, cap, cur, rfl, hB, hg, hnc, hcm, _⟩
  · obtain rfl : fs = [] := List.length_eq_zero_iff.1 h0
    clear hown
    go_enter Tryz.func71, Tryz.ntmps71
    go_wp2_with (at_builtin; refine wpList_append_own_at _ rfl _ _ _ rfl B 71 i0 _ 3 40 Tryz.underlying28 HI.out hz0 hz1 hz2 rfl (by omega) (.slice none 0 0) 0 [] rfl HO.out ⟨vb, 0, none⟩ 1 1 (flat [f]) rfl rfl hnews.out (flat_one_cell _) (by simp [maxLen]) (by omega) hBs ?_; intro v1 w1 hown1 hgrow _ hat)
    go_ret
    exact ⟨v1, rfl, hown1, Keeps.grown hgrow fun g h => h, hat⟩
  · have hcm2 : (cap : Int) ≤ 9223372036854775807 := by unfold maxLen at hcm; omega
    clear hown hg
    generalize hn : fs.length = n at *
    go_enter Tryz.func71, Tryz.ntmps71
    go_wp2_with (at_builtin; refine wpList_append_own_at _ rfl _ _ _ rfl B 71 i0 _ 3 40 Tryz.underlying28 HI.out hz0 hz1 hz2 rfl (by omega) (.slice (some ⟨g, 0, none⟩) n cap) n (flat fs) rfl HO.out ⟨vb, 0, none⟩ 1 1 (flat [f]) rfl rfl hnews.out (flat_one_cell _) (by simp [maxLen]; omega) (by omega) hBs ?_; intro v1 w1 hown1 hgrow _ hat)
    all_goals (go_ret; rw [hfl.out]; exact ⟨v1, rfl, hown1, Keeps.grown hgrow fun g h => h, hat⟩)
theorem insert_any (B vb i : Nat) (v : Value) (fs : List FileD) (f : FileD) (w : World) (hown : w.ownsRow B 71 3 v fs.length (flat fs)) (hv : OneAt w vb f) (hvb : v.ownBlock ≠ some vb) (hi : i ≤ fs.length) (hlen : fs.length ≤ 1048576) (hBs : B ≤ w.heap.size) :
    Calls Tryz.prog 71 #[v, .int .i64 i, .slice (some ⟨vb, 0, none⟩) 1 1] w fun e w' =>
      ∃ v', e = .returned v' ∧ w'.ownsRow B 71 3 v' (fs.length + 1) (flat (insL fs i f)) ∧ Keeps (fun k => v.ownBlock = some k) w w' ∧ (v'.ownBlock = v.ownBlock ∨ v'.ownBlock = some w.heap.size) := by
  by_cases he : i = fs.length
  · subst he; exact insert_end B vb v fs f w hown hv hlen hBs
  · rcases hown.2 with ⟨rfl, h0⟩ | ⟨g, cap, cur, rfl, hB, hg, hnc, hcm, _⟩
    · omega
    · by_cases hr : fs.length + 1 ≤ cap
      · refine (insert_shift B g cap i vb fs f w hown hv (fun e => hvb (by rw [e]; rfl)) (by omega) hr hlen).mono ?_
        rintro e w' ⟨rfl, h1, h2⟩
        exact ⟨_, rfl, h1, h2.mono (fun k e => by subst e; rfl), Or.inl rfl⟩
      · refine (insert_grow B g cap i vb fs f w hown hv (by omega) (by omega) hlen hBs).mono ?_
        rintro e w' ⟨cap', rfl, h1, h2⟩
        exact ⟨_, rfl, h1, Keeps.of h2, Or.inr rfl⟩
end Go.Proofs.YtboofidegpnkaaaGreatDoor
namespace Go.Proofs.YtboofidegpnkaaaGreatDoor
open Go.RowKit
set_option maxHeartbeats 1000000 in
theorem bytesOf_any (a : Option Addr) (cap : Nat) (fs : List FileD) (w : World) (hf : FilesIn w a fs) (hlen : fs.length ≤ maxLen) (hsum : sumLen fs ≤ 1000000000) :
    Calls Tryz.prog 45 #[.slice a fs.length cap] w fun e w' => e = .returned (.int .i64 (sumLen fs)) ∧ Below w.heap.size w w' := by
  unfold maxLen at hlen
  have HF : Hid (FilesIn w a fs) := hf
  clear hf
  go_enter Tryz.func45, Tryz.ntmps45
  go_wp2
  go_loopw [3, 8, 5] (fun s i _ wr => ∃ k : Nat, k ≤ fs.length ∧ i = .int .i64 k ∧ s = .int .i64 (sumLen (fs.take k)) ∧ Below w.heap.size w wr) (fun _ i _ _ => fs.length - (intOf i).toNat)
  case atStart => exact ⟨0, Nat.zero_le _, rfl, rfl, Below.refl _ _⟩
  case round =>
    obtain ⟨k, hk, rfl, rfl, hbel⟩ := hrel
    have hl1 := sumLen_take_le fs k
    by_cases hlt : k < fs.length
    · obtain ⟨b, o, rfl, hb, c0, c1, c2⟩ := (HF.out.later hbel).at hlt
      have hts := sumLen_take_succ fs k hlt
      have htl := sumLen_take_le fs (k + 1)
      have hd : fs[k].data.size ≤ 1000000000 := by omega
      have HS : Hid (sumLen (fs.take (k + 1)) = sumLen (fs.take k) + fs[k].data.size) := hts
      clear hts
      go_wp2
      exact ⟨⟨k + 1, by omega, by go_num, by rw [HS.out]; go_num, hbel.alloc hbel.size _⟩, by simp [intOf]; omega⟩
    · go_wp2
      go_ret
      have e : fs.take k = fs := List.take_of_length_le (by omega)
      exact ⟨ret_int (by rw [e]), hbel⟩
set_option maxHeartbeats 1000000 in
theorem l1Bytes_any (a : Option Addr) (cap : Nat) (fs : List FileD) (c k0 cr fl : Int) (dn : Bool) (w : World) (hf : FilesIn w a fs) (hlen : fs.length ≤ maxLen) (hsum : sumLen fs ≤ 1000000000) :
    Calls Tryz.prog 52 #[.agg #[.slice a fs.length cap, .int .i64 c, .int .i64 k0, .int .i64 cr, .int .i64 fl, .bool dn]] w fun e w' => e = .returned (.int .i64 (sumLen fs)) ∧ Below w.heap.size w w' := by
  unfold maxLen at hlen
  have HF : Hid (FilesIn w a fs) := hf
  clear hf
  go_enter Tryz.func52, Tryz.ntmps52
  go_wp2
  go_loopw [3, 9, 5] (fun s i _ wr => ∃ k : Nat, k ≤ fs.length ∧ i = .int .i64 k ∧ s = .int .i64 (sumLen (fs.take k)) ∧ Below w.heap.size w wr) (fun _ i _ _ => fs.length - (intOf i).toNat)
  case atStart => exact ⟨0, Nat.zero_le _, rfl, rfl, (Below.refl _ _).alloc (Nat.le_refl _) _⟩
  case round =>
    obtain ⟨k, hk, rfl, rfl, hbel⟩ := hrel
    have hl1 := sumLen_take_le fs k
    by_cases hlt : k < fs.length
    · obtain ⟨b, o, rfl, hb, c0, c1, c2⟩ := (HF.out.later hbel).at hlt
      have hts := sumLen_take_succ fs k hlt
      have htl := sumLen_take_le fs (k + 1)
      have hd : fs[k].data.size ≤ 1000000000 := by omega
      have HS : Hid (sumLen (fs.take (k + 1)) = sumLen (fs.take k) + fs[k].data.size) := hts
      clear hts
      go_wp2
      exact ⟨⟨k + 1, by omega, by go_num, by rw [HS.out]; go_num, hbel.alloc hbel.size _⟩, by simp [intOf]; omega⟩
    · go_wp2
      go_ret
      have e : fs.take k = fs := List.take_of_length_le (by omega)
      exact ⟨ret_int (by rw [e]), hbel⟩
end Go.Proofs.YtboofidegpnkaaaGreatDoor
namespace Go.Proofs.YtboofidegpnkaaaGreatDoor
open Go.RowKit
theorem within_is {x hi : Int} {b : Bool} (h : btwB x 0 hi = b) (w : World) : Calls Tryz.prog 44 #[.int .i64 x, .int .i64 hi] w fun e w' => e = .returned (.bool b) ∧ w' = w := h ▸ within_any x hi w
theorem between_is {x lo hi : Int} {b : Bool} (h : btwB x lo hi = b) (w : World) : Calls Tryz.prog 16 #[.int .i64 x, .int .i64 lo, .int .i64 hi] w fun e w' => e = .returned (.bool b) ∧ w' = w := h ▸ between_any x lo hi w
theorem filesValid_is {a : Option Addr} {cap : Nat} {fs : List FileD} {b : Bool} (h : (decide (fs.length ≤ 1000) && filesB fs) = b) (w : World) (hf : FilesIn w a fs) (hs : Short fs) (hlen : fs.length ≤ maxLen) :
    Calls Tryz.prog 43 #[.slice a fs.length cap] w fun e w' => e = .returned (.bool b) ∧ Below w.heap.size w w' := h ▸ filesValid_any a cap fs w hf hs hlen
def diskB (fs : List FileD) (c k cr fl : Int) : Bool :=
  (decide (fs.length ≤ 1000) && filesB fs) && btwB c 0 1000000000 && decide ((sumLen fs : Int) ≤ c) && btwB k 0 1000000000000000 && btwB cr 0 1000000000000000 && btwB fl 0 1000000000000000
theorem box_cells (w : World) (v0 v1 v2 v3 v4 v5 : Value) (t : TypeId) : let W := w.alloc (.cells #[v0, v1, v2, v3, v4, v5] t)
    W.cell? ⟨w.heap.size, 0, none⟩ = some v0 ∧ W.cell? ⟨w.heap.size, 1, none⟩ = some v1 ∧ W.cell? ⟨w.heap.size, 2, none⟩ = some v2 ∧
    W.cell? ⟨w.heap.size, 3, none⟩ = some v3 ∧ W.cell? ⟨w.heap.size, 4, none⟩ = some v4 ∧ W.cell? ⟨w.heap.size, 5, none⟩ = some v5 := by
  simp [go_sem]
set_option maxHeartbeats 4000000 in
theorem implValid_any (a : Option Addr) (cap : Nat) (fs : List FileD) (c k cr fl : Int) (dn : Bool) (w : World) (hf : FilesIn w a fs) (hs : Short fs) (hlen : fs.length ≤ maxLen) (hsum : sumLen fs ≤ 1000000000) :
    Calls Tryz.prog 24 #[.agg #[.slice a fs.length cap, .int .i64 c, .int .i64 k, .int .i64 cr, .int .i64 fl, .bool dn]] w fun e w' => e = .returned (.bool (diskB fs c k cr fl)) ∧ Below w.heap.size w w' := by
  obtain ⟨k0, k1, k2, k3, k4, k5⟩ := box_cells w (.slice a fs.length cap) (.int .i64 c) (.int .i64 k) (.int .i64 cr) (.int .i64 fl) (.bool dn) 30
  have d0 := Later.cells k0
  have d1 := Later.cells k1
  have d2 := Later.cells k2
  have d3 := Later.cells k3
  have d4 := Later.cells k4
  have hb0 : Below w.heap.size w (w.alloc (.cells #[.slice a fs.length cap, .int .i64 c, .int .i64 k, .int .i64 cr, .int .i64 fl, .bool dn] 30)) := (Below.refl _ _).alloc (Nat.le_refl _) _
  have hne := Later.there (w.alloc (.cells #[.slice a fs.length cap, .int .i64 c, .int .i64 k, .int .i64 cr, .int .i64 fl, .bool dn] 30))
  have HFx : Hid (∀ x : Later (w.alloc (.cells #[.slice a fs.length cap, .int .i64 c, .int .i64 k, .int .i64 cr, .int .i64 fl, .bool dn] 30)), FilesIn x.w' a fs) := fun x => (hf.later hb0).later x.h
  have HB : Hid (∀ x : Later (w.alloc (.cells #[.slice a fs.length cap, .int .i64 c, .int .i64 k, .int .i64 cr, .int .i64 fl, .bool dn] 30)), Below w.heap.size w x.w') := fun x => hb0.trans (x.h.mono hb0.size)
  have HS : Hid (Short fs) := hs
  have HL : Hid (fs.length ≤ maxLen) := hlen
  clear k0 k1 k2 k3 k4 k5 hb0 hf hs hlen
  by_cases hA0 : (decide (fs.length ≤ 1000) && filesB fs) = false
  · have E : Hid (diskB fs c k cr fl = false) := by show _ = _; simp only [diskB, hA0, Bool.false_and]
    have HA : Hid ((decide (fs.length ≤ 1000) && filesB fs) = false) := hA0
    clear hA0
    go_enter Tryz.func24, Tryz.ntmps24
    go_wp2_with fail
    refine wp_region_later (by kernel_rfl) (by kernel_rfl) ?_
    repeat (go_big_quiet_step (first | (go_at_call 43; exact calls_later (filesValid_is HA.out _ (HFx.out _) HS.out HL.out)) | (go_at_call 45; exact calls_later (bytesOf_any _ _ _ _ (HFx.out _) HL.out hsum)) | (go_at_call 44; apply calls_later_same; apply within_is; first | exact HB1.out | exact HD.out | exact HE.out | exact HG.out)))
    refine wpQuiet_nil ?_
    rintro _ ⟨x, rfl⟩
    go_wp2
    go_ret
    exact ⟨ret_bool E.out.symm, HB.out x⟩
  have qA : (decide (fs.length ≤ 1000) && filesB fs) = true := by simpa using hA0
  have HA : Hid ((decide (fs.length ≤ 1000) && filesB fs) = true) := qA
  clear hA0
  by_cases hB0 : btwB c 0 1000000000 = false
  · have E : Hid (diskB fs c k cr fl = false) := by show _ = _; simp only [diskB, hB0, qA, Bool.false_and, Bool.true_and]
    have HB1 : Hid (btwB c 0 1000000000 = false) := hB0
    clear hB0 qA
    go_enter Tryz.func24, Tryz.ntmps24
    go_wp2_with fail
    refine wp_region_later (by kernel_rfl) (by kernel_rfl) ?_
    repeat (go_big_quiet_step (first | (go_at_call 43; exact calls_later (filesValid_is HA.out _ (HFx.out _) HS.out HL.out)) | (go_at_call 45; exact calls_later (bytesOf_any _ _ _ _ (HFx.out _) HL.out hsum)) | (go_at_call 44; apply calls_later_same; apply within_is; first | exact HB1.out | exact HD.out | exact HE.out | exact HG.out)))
    refine wpQuiet_nil ?_
    rintro _ ⟨x, rfl⟩
    go_wp2
    go_ret
    exact ⟨ret_bool E.out.symm, HB.out x⟩
  have qB : btwB c 0 1000000000 = true := by simpa using hB0
  have HB1 : Hid (btwB c 0 1000000000 = true) := qB
  clear hB0
  by_cases hC0 : decide ((sumLen fs : Int) ≤ c) = false
  · have E : Hid (diskB fs c k cr fl = false) := by show _ = _; simp only [diskB, hC0, qA, qB, Bool.false_and, Bool.true_and]
    have hC1 : decide ((sumLen fs : Int) ≤ c) = false := hC0
    clear hC0 qA qB
    go_enter Tryz.func24, Tryz.ntmps24
    go_wp2_with fail
    refine wp_region_later (by kernel_rfl) (by kernel_rfl) ?_
    repeat (go_big_quiet_step (first | (go_at_call 43; exact calls_later (filesValid_is HA.out _ (HFx.out _) HS.out HL.out)) | (go_at_call 45; exact calls_later (bytesOf_any _ _ _ _ (HFx.out _) HL.out hsum)) | (go_at_call 44; apply calls_later_same; apply within_is; first | exact HB1.out | exact HD.out | exact HE.out | exact HG.out)))
    refine wpQuiet_nil ?_
    rintro _ ⟨x, rfl⟩
    go_wp2
    go_ret
    exact ⟨ret_bool E.out.symm, HB.out x⟩
  have qC : decide ((sumLen fs : Int) ≤ c) = true := by simpa using hC0
  have hC : (sumLen fs : Int) ≤ c := by simpa using qC
  clear hC0
  by_cases hD0 : btwB k 0 1000000000000000 = false
  · have E : Hid (diskB fs c k cr fl = false) := by show _ = _; simp only [diskB, hD0, qA, qB, qC, Bool.false_and, Bool.true_and]
    have HD : Hid (btwB k 0 1000000000000000 = false) := hD0
    clear hD0 qA qB qC
    go_enter Tryz.func24, Tryz.ntmps24
    go_wp2_with fail
    refine wp_region_later (by kernel_rfl) (by kernel_rfl) ?_
    repeat (go_big_quiet_step (first | (go_at_call 43; exact calls_later (filesValid_is HA.out _ (HFx.out _) HS.out HL.out)) | (go_at_call 45; exact calls_later (bytesOf_any _ _ _ _ (HFx.out _) HL.out hsum)) | (go_at_call 44; apply calls_later_same; apply within_is; first | exact HB1.out | exact HD.out | exact HE.out | exact HG.out)))
    refine wpQuiet_nil ?_
    rintro _ ⟨x, rfl⟩
    go_wp2
    go_ret
    exact ⟨ret_bool E.out.symm, HB.out x⟩
  have qD : btwB k 0 1000000000000000 = true := by simpa using hD0
  have HD : Hid (btwB k 0 1000000000000000 = true) := qD
  clear hD0
  by_cases hE0 : btwB cr 0 1000000000000000 = false
  · have E : Hid (diskB fs c k cr fl = false) := by show _ = _; simp only [diskB, hE0, qA, qB, qC, qD, Bool.false_and, Bool.true_and]
    have HE : Hid (btwB cr 0 1000000000000000 = false) := hE0
    clear hE0 qA qB qC qD
    go_enter Tryz.func24, Tryz.ntmps24
    go_wp2_with fail
    refine wp_region_later (by kernel_rfl) (by kernel_rfl) ?_
    repeat (go_big_quiet_step (first | (go_at_call 43; exact calls_later (filesValid_is HA.out _ (HFx.out _) HS.out HL.out)) | (go_at_call 45; exact calls_later (bytesOf_any _ _ _ _ (HFx.out _) HL.out hsum)) | (go_at_call 44; apply calls_later_same; apply within_is; first | exact HB1.out | exact HD.out | exact HE.out | exact HG.out)))
    refine wpQuiet_nil ?_
    rintro _ ⟨x, rfl⟩
    go_wp2
    go_ret
    exact ⟨ret_bool E.out.symm, HB.out x⟩
  have qE : btwB cr 0 1000000000000000 = true := by simpa using hE0
  have HE : Hid (btwB cr 0 1000000000000000 = true) := qE
  clear hE0
  have E : Hid (diskB fs c k cr fl = btwB fl 0 1000000000000000) := by show _ = _; simp only [diskB, qA, qB, qC, qD, qE, Bool.true_and]
  clear qA qB qC qD qE
  obtain ⟨g, hg⟩ : ∃ g, btwB fl 0 1000000000000000 = g := ⟨_, rfl⟩
  rw [hg] at E
  have HG : Hid (btwB fl 0 1000000000000000 = g) := hg
  clear hg
  go_enter Tryz.func24, Tryz.ntmps24
  go_wp2_with fail
  refine wp_region_later (by kernel_rfl) (by kernel_rfl) ?_
  repeat (go_big_quiet_step (first | (go_at_call 43; exact calls_later (filesValid_is HA.out _ (HFx.out _) HS.out HL.out)) | (go_at_call 45; exact calls_later (bytesOf_any _ _ _ _ (HFx.out _) HL.out hsum)) | (go_at_call 44; apply calls_later_same; apply within_is; first | exact HB1.out | exact HD.out | exact HE.out | exact HG.out)))
  refine wpQuiet_nil ?_
  rintro _ ⟨x, rfl⟩
  go_wp2
  go_ret
  exact ⟨ret_bool E.out.symm, HB.out x⟩
end Go.Proofs.YtboofidegpnkaaaGreatDoor
