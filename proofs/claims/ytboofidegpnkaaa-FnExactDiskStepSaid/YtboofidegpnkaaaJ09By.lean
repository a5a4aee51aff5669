import Derived.Test.YtboofidegpnkaaaProg
import Derived.Test.YtboofidegpnkaaaJ07Errs
import Derived.Maps.AppendAt
import Derived.Lib.AppendZerosOnto
import Derived.Test.YtboofidegpnkaaaJ01Btw
namespace Go.Proofs.Ytboofidegpnkaaa
open Go.RowKit

set_option maxHeartbeats 4000000 in
set_option maxRecDepth 100000 in
theorem insert_grow (B g cap i vb : Nat) (fs : List FileD) (f : FileD) (w : World) (hown : w.ownsRow B 61 3 (.slice (some ⟨g, 0, none⟩) fs.length cap) fs.length (flat fs)) (hv : OneAt w vb f) (hi : i < fs.length) (hroom : cap < fs.length + 1) (hlen : fs.length ≤ 1048576) (hBs : B ≤ w.heap.size) :
    Calls Try.prog 52 #[.slice (some ⟨g, 0, none⟩) fs.length cap, .int .i64 i, .slice (some ⟨vb, 0, none⟩) 1 1] w fun e w' =>
      ∃ cap', e = .returned (.slice (some ⟨w.heap.size, 0, none⟩) (fs.length + 1) cap') ∧ w'.ownsRow B 61 3 (.slice (some ⟨w.heap.size, 0, none⟩) (fs.length + 1) cap') (fs.length + 1) (flat (insL fs i f)) ∧ Below w.heap.size w w' := by
  obtain ⟨cur, hB, _, hblk, hnc, hcm, hsz, hcs⟩ := cells_of_row hown
  obtain ⟨i0, hi0, hz0, hz1, hz2⟩ := info_filex
  obtain ⟨n, hn⟩ : ∃ n, fs.length = n := ⟨_, rfl⟩
  rw [hn] at hi hroom hlen hnc ⊢
  have hsize : (Try.prog.info? 61).map (·.size) = some 3 := by rw [hi0]; simp [hz1]
  have hgw : g < w.heap.size := lt_of_block hblk
  have hvw : vb < w.heap.size := lt_of_block hv
  have hkk : (n : Int) + 1 - (i : Int) = ((n + 1 - i : Nat) : Int) := by omega
  have hik : i + (n + 1 - i) = n + 1 := by omega
  have htl : (flat (fs.take i)).length = i * 3 := by rw [flat_length, List.length_take]; omega
  have hold : (Builtin.firstCells i0.size i (.slice (some ⟨g, 0, none⟩) i cap)).run Try.prog w.drew = .ok (flat (fs.take i)).toArray w.drew := by
    rw [hz1]
    exact run_firstCells_some w.drew 3 i ⟨g, 0, none⟩ i cap (flat (fs.take i)) htl (fun j v hj => by
      rw [Addr.add_lit, Nat.zero_add]
      have hlt := (List.getElem?_eq_some_iff.1 hj).1
      rw [flat_take_get fs i j (by omega) (by omega)] at hj
      exact hcs j v hj)
  obtain ⟨G, hG⟩ : ∃ G, G = grownCap w (n + 1) cap 61 := ⟨_, rfl⟩
  obtain ⟨ROW, hROW⟩ : ∃ ROW : Array Value, ROW = (flat (fs.take i)).toArray ++ Builtin.zeroCells (Value.agg #[.string ByteArray.empty, .string ByteArray.empty, .int .i64 0]).cells (n + 1 - i) ++ Builtin.zeroCells (Value.agg #[.string ByteArray.empty, .string ByteArray.empty, .int .i64 0]).cells (G - (n + 1)) := ⟨_, rfl⟩
  obtain ⟨W1, hW1⟩ : ∃ W1, W1 = w.drew.alloc (.cells ROW 61) := ⟨_, rfl⟩
  have hrz : ∀ ty, (Builtin.append_ #[29, 3] ty #[.slice (some ⟨g, 0, none⟩) i cap, .int .i64 ((n : Int) + 1 - (i : Int))]).run Try.prog w = .ok (.slice (some ⟨w.heap.size, 0, none⟩) (n + 1) G) W1 := fun ty => by
    have h := Lib.run_append_grow_zeros w 29 3 ty 61 i0 _ .i64 .i64 Try.underlying29 Try.underlying3 hi0 hz0 (some ⟨g, 0, none⟩) i cap _ hold (n + 1 - i) (by omega) (by omega) (by omega) (by omega) (by rw [hz2]; omega) (by rw [hz2, hik]; exact growslice_fits hroom (by omega))
    rw [hik, ← hG, ← hROW, ← hW1] at h
    rw [hkk]
    exact h
  have hGn : n + 1 ≤ G := by rw [hG]; exact grownCap_ge w _ _ _
  have hGm : G ≤ maxLen := by rw [hG]; exact grownCap_le_maxLen w (n + 1) cap 61 (by unfold maxLen; omega)
  have hz3c : (Value.agg #[.string ByteArray.empty, .string ByteArray.empty, .int .i64 0]).cells.size = 3 := rfl
  have hRs : ROW.size = G * 3 := by
    rw [hROW]
    simp only [Array.size_append, List.size_toArray, size_zeroCells, hz3c, htl]
    omega
  have hb1 : Blk W1 w.heap.size ROW 61 := by rw [hW1]; exact heap_alloc_new w.drew _
  have hbel1 : Below w.heap.size w W1 := by rw [hW1]; exact bto (Below.refl _ _).drew (bnew _ _)
  have hv1 : OneAt W1 vb f := Blk.later hv hbel1
  have hg1 : Blk W1 g cur 61 := hblk.later hbel1
  have hcpA : ∀ ty dc, (Builtin.copy_ #[29, 29] ty #[.slice (some ⟨w.heap.size, i * 3, none⟩) (n + 1 - i) dc, .slice (some ⟨vb, 0, none⟩) 1 1]).run Try.prog W1 = .ok (goInt 1) (W1.setCells w.heap.size (i * 3) (flat [f])) := fun ty dc =>
    run_copy_wide W1 _ _ ty 61 w.heap.size (i * 3) (n + 1 - i) dc ⟨vb, 0, none⟩ 1 1 1 3 (flat [f]) Try.underlying29 hsize (by simp only [Nat.min_def]; split <;> omega) rfl
      (fun j v hj => by rw [Addr.add_lit, Nat.zero_add]; exact hv1.cells j v hj)
      (fun j hj => by obtain ⟨v, hv⟩ := hb1.there (j := i * 3 + j) (by rw [hRs]; simp [flat] at hj; omega); rw [hv]; rfl) (fun j hj => hb1.free _) (flat_one_cell _)
  obtain ⟨W2, hW2⟩ : ∃ W2, W2 = W1.setCells w.heap.size (i * 3) (flat [f]) := ⟨_, rfl⟩
  rw [← hW2] at hcpA
  obtain ⟨cur2, hb2, hs2⟩ := Blk.setCells (flat [f]) (i * 3) hb1
  rw [← hW2] at hb2
  have hk2 : Keeps (fun k => k = w.heap.size) W1 W2 := by rw [hW2]; exact Keeps.setCells (S := fun k => k = w.heap.size) rfl _ _ (Keeps.refl _ _)
  have hg2 : Blk W2 g cur 61 := hg1.keeps hk2 (by omega)
  obtain ⟨mv, hmv⟩ : ∃ mv, mv = flat (fs.drop i) := ⟨_, rfl⟩
  have hmvl : mv.length = (n - i) * 3 := by rw [hmv, flat_length, List.length_drop, hn]
  have hcs0 : ∀ j u, (flat fs)[j]? = some u → cur[j]? = some u := fun j u hu => by rw [← hblk.cell]; exact hcs j u hu
  have hcpB : ∀ ty dc sc, (Builtin.copy_ #[29, 29] ty #[.slice (some ⟨w.heap.size, (i + 1) * 3, none⟩) (n - i) dc, .slice (some ⟨g, i * 3, none⟩) (n - i) sc]).run Try.prog W2.drew = .ok (goInt ((n - i : Nat) : Int)) (W2.drew.setCells w.heap.size ((i + 1) * 3) mv) := fun ty dc sc =>
    run_copy_wide W2.drew _ _ ty 61 w.heap.size ((i + 1) * 3) (n - i) dc ⟨g, i * 3, none⟩ (n - i) sc (n - i) 3 mv Try.underlying29 hsize (by simp only [Nat.min_def]; split <;> omega) hmvl
      (fun j v hj => by
        rw [Addr.add_lit]
        show W2.cell? _ = _
        rw [hg2.cell]
        exact hcs0 _ v (by rwa [hmv, flat_drop_get fs i j (by omega)] at hj))
      (fun j hj => by obtain ⟨v, hv⟩ := hb2.there (j := (i + 1) * 3 + j) (by rw [hs2, hRs]; omega); show (W2.cell? _).isSome = true; rw [hv]; rfl) (fun j hj => hb2.free _) (by rw [hmv]; exact flat_one_cell _)
  obtain ⟨W3, hW3⟩ : ∃ W3, W3 = W2.drew.setCells w.heap.size ((i + 1) * 3) mv := ⟨_, rfl⟩
  rw [← hW3] at hcpB
  obtain ⟨cur3, hb3, hs3⟩ := Blk.setCells mv ((i + 1) * 3) (show Blk W2.drew w.heap.size cur2 61 from hb2)
  rw [← hW3] at hb3
  have HB : Hid (Below w.heap.size w W3) := by
    have k3 : Keeps (fun k => k = w.heap.size) W1 W3 := by rw [hW3]; exact Keeps.setCells (S := fun k => k = w.heap.size) rfl _ _ hk2.drew
    exact hbel1.trans (k3.below (fun k e => by omega) hbel1.size)
  have HO : Hid (W3.ownsRow B 61 3 (.slice (some ⟨w.heap.size, 0, none⟩) (n + 1) G) (n + 1) (flat (insL fs i f))) := by
    refine row_of_cells hBs hb3 hGn hGm (by rw [hs3, hs2, hRs]) (by rw [flat_length, insL_length _ _ _ (by omega), hn]) (ins_cells hn (by omega) ?_ ?_ ?_)
    · intro j u hj hu
      rw [hW3, World.cell?_setCells_out w.heap.size mv ((i + 1) * 3) _ _ (fun _ _ => Or.inl (by show j < _; omega))]
      show W2.cell? _ = _
      rw [hW2, World.cell?_setCells_out w.heap.size (flat [f]) (i * 3) W1 _ (fun _ _ => Or.inl hj), hb1.cell, hROW]
      rw [← flat_take_get fs i j (by omega) hj] at hu
      rw [Array.append_assoc, Array.getElem?_append_left (by simp [htl]; omega)]
      simpa using hu
    · intro j u hu
      have hj := (List.getElem?_eq_some_iff.1 hu).1
      have hj3 : j < 3 := hj
      rw [hW3, World.cell?_setCells_out w.heap.size mv ((i + 1) * 3) _ _ (fun _ _ => Or.inl (by show i * 3 + j < _; omega))]
      show W2.cell? _ = _
      rw [hW2, World.cell?_setCells_in w.heap.size (flat [f]) (i * 3) W1 (fun k hk => by obtain ⟨v, hv⟩ := hb1.there (j := i * 3 + k) (by rw [hRs]; simp [flat] at hk; omega); rw [hv]; rfl) j hj, ← hu, List.getElem?_eq_getElem]
    · intro j u hu
      rw [← hmv] at hu
      have hj := (List.getElem?_eq_some_iff.1 hu).1
      rw [hW3, World.cell?_setCells_in w.heap.size mv ((i + 1) * 3) W2.drew (fun k hk => by obtain ⟨v, hv⟩ := hb2.there (j := (i + 1) * 3 + k) (by rw [hs2, hRs]; omega); show (W2.cell? _).isSome = true; rw [hv]; rfl) j hj, ← hu, List.getElem?_eq_getElem]
  have hq2 : ¬ ((i : Int) = (n : Int)) := by omega
  have hq3 : (cap : Int) < (n : Int) + 1 := by omega
  have hw1 : IntKind.i64.wrap ((i : Int) + 1) = (i : Int) + 1 := by rw [IntKind.wrap_i64]; omega
  have hbd : (0 : Int) ≤ (i : Int) + 1 := by omega
  have hin : i ≤ n := by omega
  have htn : ((i : Int) + 1).toNat = i + 1 := by omega
  have hb5 : (i : Int) ≤ (n : Int) + 1 := by omega
  have hb6 : (i : Int) + 1 ≤ (n : Int) + 1 := by omega
  have hGi : ¬ (G = i) := by omega
  have hGim : ¬ (G = i + 1) := by omega
  have hci : ¬ (cap = i) := by omega
  have hic : (i : Int) ≤ (cap : Int) := by omega
  have hcm2 : (cap : Int) ≤ 9223372036854775807 := by unfold maxLen at hcm; omega
  clear hown hblk hcs hcs0 hv hv1 hsz hs2 hs3 hmv hmvl hW1 hW2 hW3 hz0 hsize hcm hb1 hb2 hb3 hg1 hg2 hk2 hbel1 hRs hROW hG hGm hold hkk hik htl hgw hvw
  go_enter Try.func52, Try.ntmps52
  go_wp2_with (first
    | (at_builtin; refine Lib.wpList_append_run _ rfl _ _ _ _ rfl _ _ rfl rfl _ _ (hrz _) ?_)
    | (at_builtin; refine wpList_copy_runI _ rfl _ _ 29 29 rfl _ _ rfl rfl (hcpA _ _) ?_))
  go_region_law (refine step_copy_runI rfl _ _ 29 29 rfl _ _ (by simp [Act.eval, Act.put]) (by simp [Act.eval, Act.put]) (hcpB _ _ _) ?_)
  go_wp2
  go_ret
  exact ⟨G, rfl, HO.out, HB.out⟩

set_option maxHeartbeats 4000000 in
set_option maxRecDepth 100000 in
theorem insert_end (B vb : Nat) (v : Value) (fs : List FileD) (f : FileD) (w : World) (hown : w.ownsRow B 61 3 v fs.length (flat fs)) (hv : OneAt w vb f) (hlen : fs.length ≤ 1048576) (hBs : B ≤ w.heap.size) :
    Calls Try.prog 52 #[v, .int .i64 fs.length, .slice (some ⟨vb, 0, none⟩) 1 1] w fun e w' =>
      ∃ v', e = .returned v' ∧ w'.ownsRow B 61 3 v' (fs.length + 1) (flat (insL fs fs.length f)) ∧ Keeps (fun k => v.ownBlock = some k) w w' ∧ (v'.ownBlock = v.ownBlock ∨ v'.ownBlock = some w.heap.size) := by
  obtain ⟨i0, hi0, hz0, hz1, hz2⟩ := info_filex
  have hnews : Hid (∀ j u, (flat [f])[j]? = some u → w.cell? ((⟨vb, 0, none⟩ : Addr).add j) = some u) := fun j u hu => by
    rw [Addr.add_lit, Nat.zero_add]; exact hv.cells j u hu
  have hfl : Hid (flat (insL fs fs.length f) = flat fs ++ flat [f]) := by
    show _ = _
    rw [insL_flat]; simp [flat]
  have HO : Hid (w.ownsRow B 61 3 v fs.length (flat fs)) := hown
  have HI : Hid (Try.prog.info? 61 = some i0) := hi0
  clear hv hi0
  rcases hown.2 with ⟨rfl, h0⟩ | ⟨g, cap, cur, rfl, hB, hg, hnc, hcm, _⟩
  · obtain rfl : fs = [] := List.length_eq_zero_iff.1 h0
    clear hown
    go_enter Try.func52, Try.ntmps52
    go_wp2_with (at_builtin; refine wpList_append_own_at _ rfl _ _ _ rfl B 61 i0 _ 3 40 Try.underlying29 HI.out hz0 hz1 hz2 rfl (by omega) (.slice none 0 0) 0 [] rfl HO.out ⟨vb, 0, none⟩ 1 1 (flat [f]) rfl rfl hnews.out (flat_one_cell _) (by simp [maxLen]) (by omega) hBs ?_; intro v1 w1 hown1 hgrow _ hat)
    go_ret
    exact ⟨v1, rfl, hown1, Keeps.grown hgrow fun g h => h, hat⟩
  · have hcm2 : (cap : Int) ≤ 9223372036854775807 := by unfold maxLen at hcm; omega
    clear hown hg
    generalize hn : fs.length = n at *
    go_enter Try.func52, Try.ntmps52
    go_wp2_with (at_builtin; refine wpList_append_own_at _ rfl _ _ _ rfl B 61 i0 _ 3 40 Try.underlying29 HI.out hz0 hz1 hz2 rfl (by omega) (.slice (some ⟨g, 0, none⟩) n cap) n (flat fs) rfl HO.out ⟨vb, 0, none⟩ 1 1 (flat [f]) rfl rfl hnews.out (flat_one_cell _) (by simp [maxLen]; omega) (by omega) hBs ?_; intro v1 w1 hown1 hgrow _ hat)
    all_goals (go_ret; rw [hfl.out]; exact ⟨v1, rfl, hown1, Keeps.grown hgrow fun g h => h, hat⟩)

/-- slices.Insert of one file. -/
theorem insert_any (B vb i : Nat) (v : Value) (fs : List FileD) (f : FileD) (w : World) (hown : w.ownsRow B 61 3 v fs.length (flat fs)) (hv : OneAt w vb f) (hvb : v.ownBlock ≠ some vb) (hi : i ≤ fs.length) (hlen : fs.length ≤ 1048576) (hBs : B ≤ w.heap.size) :
    Calls Try.prog 52 #[v, .int .i64 i, .slice (some ⟨vb, 0, none⟩) 1 1] w fun e w' =>
      ∃ v', e = .returned v' ∧ w'.ownsRow B 61 3 v' (fs.length + 1) (flat (insL fs i f)) ∧ Keeps (fun k => v.ownBlock = some k) w w' ∧ (v'.ownBlock = v.ownBlock ∨ v'.ownBlock = some w.heap.size) := by
  by_cases he : i = fs.length
  · subst he; exact insert_end B vb v fs f w hown hv hlen hBs
  · rcases hown.2 with ⟨rfl, h0⟩ | ⟨g, cap, cur, rfl, hB, hg, hnc, hcm, _⟩
    · omega
    · by_cases hr : fs.length + 1 ≤ cap
      · refine (insert_shift B g cap i vb fs f w hown hv (fun e => hvb (by rw [e]; rfl)) (by omega) hr hlen).mono ?_
        rintro e w' ⟨rfl, h1, h2⟩
        exact ⟨_, rfl, h1, h2.mono (fun k e => by subst e; rfl), Or.inl rfl⟩
      · refine (insert_grow B g cap i vb fs f w hown hv (by omega) (by omega) hlen hBs).mono ?_
        rintro e w' ⟨cap', rfl, h1, h2⟩
        exact ⟨_, rfl, h1, Keeps.of h2, Or.inr rfl⟩
end Go.Proofs.Ytboofidegpnkaaa

namespace Go.Proofs.Ytboofidegpnkaaa
open Go.RowKit

set_option maxHeartbeats 1000000 in
theorem bytesOf_any (a : Option Addr) (cap : Nat) (fs : List FileD) (w : World) (hf : FilesIn w a fs) (hlen : fs.length ≤ maxLen) (hsum : sumLen fs ≤ 1000000000) :
    Calls Try.prog 36 #[.slice a fs.length cap] w fun e w' => e = .returned (.int .i64 (sumLen fs)) ∧ Below w.heap.size w w' := by
  unfold maxLen at hlen
  have HF : Hid (FilesIn w a fs) := hf
  clear hf
  go_enter Try.func36, Try.ntmps36
  go_wp2
  go_loopw [3, 8, 5] (fun s i _ wr => ∃ k : Nat, k ≤ fs.length ∧ i = .int .i64 k ∧ s = .int .i64 (sumLen (fs.take k)) ∧ Below w.heap.size w wr) (fun _ i _ _ => fs.length - (intOf i).toNat)
  case atStart => exact ⟨0, Nat.zero_le _, rfl, rfl, Below.refl _ _⟩
  case round =>
    obtain ⟨k, hk, rfl, rfl, hbel⟩ := hrel
    have hl1 := sumLen_take_le fs k
    by_cases hlt : k < fs.length
    · obtain ⟨b, o, rfl, hb, c0, c1, c2⟩ := (HF.out.later hbel).at hlt
      have hts := sumLen_take_succ fs k hlt
      have htl := sumLen_take_le fs (k + 1)
      have hd : fs[k].data.size ≤ 1000000000 := by omega
      have HS : Hid (sumLen (fs.take (k + 1)) = sumLen (fs.take k) + fs[k].data.size) := hts
      clear hts
      go_wp2
      exact ⟨⟨k + 1, by omega, by go_num, by rw [HS.out]; go_num, hbel.alloc hbel.size _⟩, by simp [intOf]; omega⟩
    · go_wp2
      go_ret
      have e : fs.take k = fs := List.take_of_length_le (by omega)
      exact ⟨ret_int (by rw [e]), hbel⟩

set_option maxHeartbeats 1000000 in
theorem l1Bytes_any (a : Option Addr) (cap : Nat) (fs : List FileD) (c k0 cr fl : Int) (dn : Bool) (w : World) (hf : FilesIn w a fs) (hlen : fs.length ≤ maxLen) (hsum : sumLen fs ≤ 1000000000) :
    Calls Try.prog 29 #[.agg #[.slice a fs.length cap, .int .i64 c, .int .i64 k0, .int .i64 cr, .int .i64 fl, .bool dn]] w fun e w' => e = .returned (.int .i64 (sumLen fs)) ∧ Below w.heap.size w w' := by
  unfold maxLen at hlen
  have HF : Hid (FilesIn w a fs) := hf
  clear hf
  go_enter Try.func29, Try.ntmps29
  go_wp2
  go_loopw [3, 9, 5] (fun s i _ wr => ∃ k : Nat, k ≤ fs.length ∧ i = .int .i64 k ∧ s = .int .i64 (sumLen (fs.take k)) ∧ Below w.heap.size w wr) (fun _ i _ _ => fs.length - (intOf i).toNat)
  case atStart => exact ⟨0, Nat.zero_le _, rfl, rfl, (Below.refl _ _).alloc (Nat.le_refl _) _⟩
  case round =>
    obtain ⟨k, hk, rfl, rfl, hbel⟩ := hrel
    have hl1 := sumLen_take_le fs k
    by_cases hlt : k < fs.length
    · obtain ⟨b, o, rfl, hb, c0, c1, c2⟩ := (HF.out.later hbel).at hlt
      have hts := sumLen_take_succ fs k hlt
      have htl := sumLen_take_le fs (k + 1)
      have hd : fs[k].data.size ≤ 1000000000 := by omega
      have HS : Hid (sumLen (fs.take (k + 1)) = sumLen (fs.take k) + fs[k].data.size) := hts
      clear hts
      go_wp2
      exact ⟨⟨k + 1, by omega, by go_num, by rw [HS.out]; go_num, hbel.alloc hbel.size _⟩, by simp [intOf]; omega⟩
    · go_wp2
      go_ret
      have e : fs.take k = fs := List.take_of_length_le (by omega)
      exact ⟨ret_int (by rw [e]), hbel⟩
end Go.Proofs.Ytboofidegpnkaaa

