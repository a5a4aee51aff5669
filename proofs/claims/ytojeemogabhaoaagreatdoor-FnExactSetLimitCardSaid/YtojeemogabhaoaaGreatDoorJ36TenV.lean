import Derived.Test.YtojeemogabhaoaaGreatDoorProg
import Derived.Test.YtojeemogabhaoaaGreatDoorJ06IdxA
import Derived.Test.YtojeemogabhaoaaGreatDoorJ35Iter
import Derived.Sort.Walk0
import Derived.Test.YtojeemogabhaoaaGreatDoorJ29SCnt
import Derived.Deep.RegionHeldLaw
import Derived.Deep.AppendLies
import Derived.Test.YtojeemogabhaoaaGreatDoorJ02Ord
namespace Go.Proofs.YtojeemogabhaoaaGreatDoor
open Go.RowKit Go.Maps Go.Sort
theorem lt_le_bytes {x y : ByteArray} (h : blt x y = true) : x.data.toList ≤ y.data.toList := by
  unfold blt at h
  rw [bytesLess_eq, decide_eq_true_iff, ByteArray.toList_eq, ByteArray.toList_eq] at h
  exact List.le_of_lt h
theorem sort_rise {α : Type} {key : α → ByteArray} {L : List α} (hr : RiseBy key L) {ss : List (List UInt8)} (hp : ss.Perm (L.map fun p => (key p).data.toList)) :
    (ss.mergeSort (fun x y => decide (x ≤ y))) = L.map fun p => (key p).data.toList := by
  have h1 := (List.mergeSort_perm ss (fun x y => decide (x ≤ y))).trans hp
  have h2 : (ss.mergeSort (fun x y => decide (x ≤ y))).Pairwise (fun a b => a ≤ b) := by
    have := List.pairwise_mergeSort (le := fun (x y : List UInt8) => decide (x ≤ y)) (fun a b c h h' => by simp only [decide_eq_true_iff] at *; exact List.le_trans h h') (fun a b => by simp only [Bool.or_eq_true, decide_eq_true_iff]; exact List.le_total a b) ss
    simpa using this
  have h3 : (L.map fun p => (key p).data.toList).Pairwise (fun a b => a ≤ b) := List.pairwise_map.2 (hr.imp fun h => lt_le_bytes h)
  exact List.Perm.eq_of_pairwise (le := fun a b => a ≤ b) (fun a b _ _ h h' => List.le_antisymm h h') h2 h3 h1
theorem enc_keys {α : Type} (key : α → ByteArray) (L : List α) : (L.map fun p => (key p).data.toList).map encStr = L.map fun p => Value.string (key p) := by
  rw [List.map_map]
  exact List.map_congr_left fun p _ => by simp [encStr]
theorem row_base {w : World} {B B' : Nat} {e : TypeId} {size : Nat} {v : Value} {n : Nat} {xs : List Value} (h : w.ownsRow B e size v n xs) (hB : B' ≤ B) : w.ownsRow B' e size v n xs := by
  refine ⟨h.1, ?_⟩
  rcases h.2 with h0 | ⟨g, cap, cur, h1, h2, r⟩
  · exact Or.inl h0
  · exact Or.inr ⟨g, cap, cur, h1, Nat.le_trans hB h2, r⟩
set_option maxRecDepth 100000 in
set_option maxHeartbeats 1000000 in
theorem keys_any (x : Nat) (t : TenD) (S : Nat → Prop) (M : Nat) (w : World) (h : IdxAt w S x t M) (hl : t.sers.length ≤ 1000000000) :
    Calls Tryz.prog 49 #[.pointer (some ⟨x, 0, none⟩)] w fun e w' => ∃ v, e = .returned v ∧ w'.ownsRow w.heap.size 9 1 v t.sers.length (t.sers.map fun p => .string p.s) ∧ Below w.heap.size w w' := by
  obtain ⟨lm, sm, cm, iv, Q, hs, D, h⟩ := h
  have c2 : w.cell? ⟨x, 2, none⟩ = some (.map (some sm)) := h.blk.cell 2
  have hq : Q.length = t.sers.length := by rw [← h.q1, List.length_map]
  have hsz : Maps.size (mapOf (Q.map fun q => (q.1.s, pVal q.2))) = t.sers.length := by rw [size_by, hq]
  have HK : Hid (Calls Tryz.prog 80 #[.map (some sm)] w fun e w' => e = .returned (.func (.func 100) #[] #[.pointer (some ⟨w.heap.size, 0, none⟩)]) ∧ w' = w.alloc (.cells #[.map (some sm)] 103)) := callsIn_wide.1 (Tryz.maps_Keys_80 (some sm) w)
  have HS : Hid (Calls Tryz.prog 71 #[.func (.func 100) #[] #[.pointer (some ⟨w.heap.size, 0, none⟩)]] (w.alloc (.cells #[.map (some sm)] 103)) fun e w' => ∃ v, e = .returned v ∧ w'.ownsRow w.heap.size 9 1 v t.sers.length (t.sers.map fun p => .string p.s) ∧ Below w.heap.size w w') := by
    refine Calls.mono (callsIn_wide.1 (Tryz.slices_Sorted_keys_71_80 sm _ _ ptrElem w h.sers (by rw [hsz]; unfold maxLen; omega) (by rw [hsz]; omega))) ?_
    rintro e w1 ⟨v, ss, rfl, hp, hrow, _, hb⟩
    have hk : (strKeys (mapOf (Q.map fun q => (q.1.s, pVal q.2)))) = t.sers.map fun p => p.s.data.toList := by
      rw [strKeys_mapOf, List.map_map, ← h.q1, List.map_map]
      rfl
    rw [hk] at hp
    have hlen : ss.length = t.sers.length := by rw [hp.length_eq, List.length_map]
    rw [sort_rise (key := fun p : PairD => p.s) h.rs hp, enc_keys (fun p : PairD => p.s), hlen] at hrow
    exact ⟨v, rfl, row_base hrow (by simp), bto (bnew _ _) hb⟩
  clear h hq hsz
  go_enter Tryz.func49, Tryz.ntmps49
  go_wp2_with fail
  refine HK.out.mono ?_
  rintro e w1 ⟨rfl, rfl⟩
  go_wp2_with fail
  refine HS.out.mono ?_
  rintro e w2 ⟨v, rfl, hrow, hb⟩
  have HR := hid hrow
  have HB := hid hb
  clear hrow hb
  go_wp2
  go_ret
  exact ⟨v, rfl, HR.out, HB.out⟩
end Go.Proofs.YtojeemogabhaoaaGreatDoor
namespace Go.Proofs.YtojeemogabhaoaaGreatDoor
open Go.RowKit Go.Maps Go.Sort
set_option maxRecDepth 100000 in
set_option maxHeartbeats 1000000 in
theorem sorted_lims (lm : Nat) (ms : List PairD) (w : World) (h : w.ownsMap Tryz.prog 9 (plainElem Tryz.prog 3) lm ms.length (mapOf (ms.map fun p => (p.s, iVal p.n)))) (hr : RiseBy (·.s) ms) (hl : ms.length ≤ 1000000000) :
    Calls Tryz.prog 71 #[.func (.func 122) #[] #[.pointer (some ⟨w.heap.size, 0, none⟩)]] (w.alloc (.cells #[.map (some lm)] 102)) fun e w' => ∃ v, e = .returned v ∧ w'.ownsRow w.heap.size 9 1 v ms.length (ms.map fun p => .string p.s) ∧ Below w.heap.size w w' := by
  have hsz : Maps.size (mapOf (ms.map fun p => (p.s, iVal p.n))) = ms.length := by rw [size_by]
  refine Calls.mono (callsIn_wide.1 (Tryz.slices_Sorted_keys_71_99 lm _ _ (plainElem Tryz.prog 3) w h (by rw [hsz]; unfold maxLen; omega) (by rw [hsz]; omega))) ?_
  rintro e w1 ⟨v, ss, rfl, hp, hrow, _, hb⟩
  have hk : (strKeys (mapOf (ms.map fun p => (p.s, iVal p.n)))) = ms.map fun p => p.s.data.toList := by
    rw [strKeys_mapOf, List.map_map]
    rfl
  rw [hk] at hp
  have hlen : ss.length = ms.length := by rw [hp.length_eq, List.length_map]
  rw [sort_rise (key := fun p : PairD => p.s) hr hp, enc_keys (fun p : PairD => p.s), hlen] at hrow
  exact ⟨v, rfl, row_base hrow (by simp), bto (bnew _ _) hb⟩
def flatPD (ps : List PairD) : List Value := ps.flatMap fun x => [.string x.s, .int .i64 x.n]
theorem flatPD_take (ps : List PairD) (k : Nat) (h : k < ps.length) : flatPD (ps.take (k + 1)) = flatPD (ps.take k) ++ [.string ps[k].s, .int .i64 ps[k].n] := by
  rw [List.take_succ_eq_append_getElem h, flatPD, List.flatMap_append]; rfl
theorem row_strs {W : World} {B : Nat} {e : TypeId} {v : Value} {ps : List PairD} (h : W.ownsRow B e 1 v ps.length (ps.map fun p => .string p.s)) :
    ∃ ka kc, v = .slice ka ps.length kc ∧ (ps = [] ∨ ∃ g, ka = some ⟨g, 0, none⟩ ∧ B ≤ g ∧ g < W.heap.size ∧ ∀ i (h : i < ps.length), W.cell? ⟨g, i, none⟩ = some (.string ps[i].s)) := by
  rcases h.2 with ⟨rfl, hl⟩ | ⟨g, cap, cur, rfl, hB, hg, _, _, hsz, htk⟩
  · refine ⟨none, 0, by rw [hl], Or.inl (List.length_eq_zero_iff.1 hl)⟩
  · refine ⟨_, cap, rfl, Or.inr ⟨g, rfl, hB, lt_of_block hg, fun i hi => ?_⟩⟩
    have hc : W.cell? ⟨g, i, none⟩ = cur[i]? := Blk.cell (show Blk W g cur e from hg) i
    rw [hc, ← Array.getElem?_toList]
    have : (cur.toList.take (ps.length * 1))[i]? = (ps.map fun p => Value.string p.s)[i]? := by rw [htk]
    rw [List.getElem?_take, if_pos (by omega)] at this
    rw [this, List.getElem?_map, List.getElem?_eq_getElem hi]
    rfl
theorem row_form {W : World} {B : Nat} {e : TypeId} {size : Nat} {v : Value} {n : Nat} {xs : List Value} (h : W.ownsRow B e size v n xs) : ∃ a c, v = .slice a n c := by
  rcases h.2 with ⟨rfl, rfl⟩ | ⟨g, cap, _, rfl, _⟩
  · exact ⟨none, 0, rfl⟩
  · exact ⟨_, cap, rfl⟩
theorem look_lim1 {w : World} {lm : Nat} {ms : List PairD} (h : w.ownsMap Tryz.prog 9 (plainElem Tryz.prog 3) lm ms.length (mapOf (ms.map fun p => (p.s, iVal p.n)))) (hr : RiseBy (·.s) ms) {p : PairD} (hp : p ∈ ms) (hs : p.s.size ≤ maxLen) :
    (Instr.lookup 102 (.map (some lm)) (.string p.s) false).run Tryz.prog w = .ok (.int .i64 p.n) w := by
  obtain ⟨v, hrun, hat, _⟩ := h.lookup_int keyed Tryz.underlying102 Tryz.underlying3 (zeroInt _) (key_mk hs)
  rw [hrun]
  rw [atKey_by (key := fun p : PairD => p.s) (fun p => iVal p.n), getBy_of_mem (key := fun p : PairD => p.s) hr hp] at hat
  simp [iVal] at hat
  rw [hat]
theorem look_ser {w : World} {S : Nat → Prop} {x : Nat} {t : TenD} {M lm sm cm : Nat} {iv : Value} {Q : List (PairD × Nat)} {hs : List SgD} {D : DataW Unit} (h : IdxS w S x t M lm sm cm iv Q hs D) (i : Nat) (hi : i < t.sers.length) (hz : t.sers[i].s.size ≤ maxLen) :
    ∃ q, ∀ W, Below w.heap.size w W → W.cell? ⟨x, 2, none⟩ = some (.map (some sm)) ∧ (Instr.lookup 103 (.map (some sm)) (.string t.sers[i].s) false).run Tryz.prog W = .ok (.pointer (some ⟨q, 0, none⟩)) W ∧ W.cell? ⟨q, 0, none⟩ = some (.string t.sers[i].s) ∧ W.cell? ⟨q, 1, none⟩ = some (.int .i64 t.sers[i].n) := by
  have hm : t.sers[i] ∈ Q.map (·.1) := by rw [h.q1]; exact List.getElem_mem hi
  obtain ⟨q, hq, e⟩ := List.mem_map.1 hm
  have hr : RiseBy (fun q : PairD × Nat => q.1.s) Q := by
    have := h.rs
    rw [← h.q1] at this
    exact List.pairwise_map.1 this
  refine ⟨q.2, fun W hW => ?_⟩
  have hblk := (h.cells q hq).later hW
  have hx := h.blk.later hW
  refine ⟨hx.cell 2, ?_, ?_, ?_⟩
  · obtain ⟨v, ps, hrun, hv⟩ := World.ownsMap.lookup ((Turn.of hW).map (S := fun _ => False) h.sers (fun e => e)) keyed Tryz.underlying103 (show (zeroValue 126).run Tryz.prog W = .ok (.pointer none) W by kernel_rfl) (zd := .nil) (zp := []) rfl (key_mk hz)
    rw [hrun]
    rw [atKey_by (key := fun q : PairD × Nat => q.1.s) (fun q => pVal q.2), ← e, getBy_of_mem (key := fun q : PairD × Nat => q.1.s) hr hq] at hv
    rw [ptrElem_inv hv]
  · rw [hblk.cell 0, ← e]; rfl
  · rw [hblk.cell 1, ← e]; rfl
theorem infoML : (Tryz.prog.info? 59).map (fun i => (i.zero, i.size, i.bytes)) = some (some (.agg #[.string ⟨#[]⟩, .int .i64 0]), 2, 24) := by kernel_rfl
theorem infoSR : (Tryz.prog.info? 61).map (fun i => (i.zero, i.size, i.bytes)) = some (some (.agg #[.string ⟨#[]⟩, .int .i64 0]), 2, 24) := by kernel_rfl
set_option maxRecDepth 100000 in
set_option maxHeartbeats 4000000 in
theorem tell_any (x : Nat) (nm : ByteArray) (t : TenD) (S : Nat → Prop) (M : Nat) (w : World) (h : IdxAt w S x t M) (hs1 : ∀ i (h : i < t.mets.length), t.mets[i].s.size ≤ maxLen) (hs2 : ∀ i (h : i < t.sers.length), t.sers[i].s.size ≤ maxLen) (hl1 : t.mets.length ≤ 2000000) (hl2 : t.sers.length ≤ 2000000) :
    Calls Tryz.prog 73 #[.pointer (some ⟨x, 0, none⟩), .string nm] w fun e w' => ∃ v1 v2 M, e = .returned (.agg #[.string nm, .int .i64 t.limit, v1, v2]) ∧ w'.ownsRow w.heap.size 59 2 v1 t.mets.length (flatPD t.mets) ∧ (∀ g, v1.ownBlock = some g → g < M) ∧ w.heap.size ≤ M ∧ M ≤ w'.heap.size ∧ w'.ownsRow M 61 2 v2 t.sers.length (flatPD t.sers) ∧ Below w.heap.size w w' := by
  have HI : Hid (IdxAt w S x t M) := h
  have HKY : Hid (∀ W, Below w.heap.size w W → Calls Tryz.prog 49 #[.pointer (some ⟨x, 0, none⟩)] W fun e w' => ∃ v, e = .returned v ∧ w'.ownsRow W.heap.size 9 1 v t.sers.length (t.sers.map fun p => .string p.s) ∧ Below W.heap.size W w') := fun W hW => keys_any x t S M W (h.later hW) (by omega)
  obtain ⟨lm, sm, cm, iv, Q, hs, D, h⟩ := h
  have c0 : w.cell? ⟨x, 0, none⟩ = some (.int .i64 t.limit) := h.blk.cell 0
  have c1 : w.cell? ⟨x, 1, none⟩ = some (.map (some lm)) := h.blk.cell 1
  have hxl := lt_of_block h.blk
  have HLS : Hid (∀ i (hi : i < t.sers.length), ∃ q, ∀ W, Below w.heap.size w W → W.cell? ⟨x, 2, none⟩ = some (.map (some sm)) ∧ (Instr.lookup 103 (.map (some sm)) (.string t.sers[i].s) false).run Tryz.prog W = .ok (.pointer (some ⟨q, 0, none⟩)) W ∧ W.cell? ⟨q, 0, none⟩ = some (.string t.sers[i].s) ∧ W.cell? ⟨q, 1, none⟩ = some (.int .i64 t.sers[i].n)) := fun i hi => look_ser h i hi (hs2 i hi)
  have HSH : Hid (∀ i (h : i < t.mets.length), t.mets[i].s.size ≤ maxLen) := hs1
  have HSL : Hid (∀ W, Below w.heap.size w W → Calls Tryz.prog 71 #[.func (.func 122) #[] #[.pointer (some ⟨W.heap.size, 0, none⟩)]] (W.alloc (.cells #[.map (some lm)] 102)) fun e w' => ∃ v, e = .returned v ∧ w'.ownsRow W.heap.size 9 1 v t.mets.length (t.mets.map fun p => .string p.s) ∧ Below W.heap.size W w') := fun W hW => sorted_lims lm t.mets W ((Turn.of hW).map (S := fun _ => False) h.lims (fun e => e)) h.rm (by omega)
  have HLK : Hid (∀ W, Below w.heap.size w W → W.cell? ⟨x, 1, none⟩ = some (.map (some lm)) ∧ ∀ p ∈ t.mets, p.s.size ≤ maxLen → (Instr.lookup 102 (.map (some lm)) (.string p.s) false).run Tryz.prog W = .ok (.int .i64 p.n) W) := fun W hW => ⟨(hW.cell hxl).trans (h.blk.cell 1), fun p hp hs => look_lim1 ((Turn.of hW).map (S := fun _ => False) h.lims (fun e => e)) h.rm hp hs⟩
  have HMK : Hid (∀ W, Calls Tryz.prog 99 #[.map (some lm)] W fun e w' => e = .returned (.func (.func 122) #[] #[.pointer (some ⟨W.heap.size, 0, none⟩)]) ∧ w' = W.alloc (.cells #[.map (some lm)] 102)) := fun W => callsIn_wide.1 (Tryz.maps_Keys_99 (some lm) W)
  clear h
  go_enter Tryz.func73, Tryz.ntmps73
  go_wp2_with fail
  refine (HMK.out _).mono ?_
  rintro e w1 ⟨rfl, rfl⟩
  have B2 : Hid (Below w.heap.size w ((w.alloc (.cells #[.string ⟨#[]⟩, .int .i64 0, .slice none 0 0, .slice none 0 0] 55)).alloc (.cells #[.string nm, .int .i64 t.limit, .slice none 0 0, .slice none 0 0] 55))) := bto (bnew _ _) (bnew _ _)
  have X2 : Hid (Blk ((w.alloc (.cells #[.string ⟨#[]⟩, .int .i64 0, .slice none 0 0, .slice none 0 0] 55)).alloc (.cells #[.string nm, .int .i64 t.limit, .slice none 0 0, .slice none 0 0] 55)) (w.heap.size + 1) #[.string nm, .int .i64 t.limit, .slice none 0 0, .slice none 0 0] 55) := hid (by have := Blk.new (w.alloc (.cells #[.string ⟨#[]⟩, .int .i64 0, .slice none 0 0, .slice none 0 0] 55)) #[.string nm, .int .i64 t.limit, .slice none 0 0, .slice none 0 0] 55; simpa using this)
  have Y2 : Hid (Blk ((w.alloc (.cells #[.string ⟨#[]⟩, .int .i64 0, .slice none 0 0, .slice none 0 0] 55)).alloc (.cells #[.string nm, .int .i64 t.limit, .slice none 0 0, .slice none 0 0] 55)) w.heap.size #[.string ⟨#[]⟩, .int .i64 0, .slice none 0 0, .slice none 0 0] 55) := (Blk.new _ _ _).alloc _
  generalize (w.alloc (.cells #[.string ⟨#[]⟩, .int .i64 0, .slice none 0 0, .slice none 0 0] 55)).alloc (.cells #[.string nm, .int .i64 t.limit, .slice none 0 0, .slice none 0 0] 55) = w2 at *
  go_wp2_with fail
  refine (HSL.out _ B2.out).mono ?_
  rintro e w3 ⟨kv, rfl, hrow, hb3⟩
  obtain ⟨ka, kc, rfl, hks⟩ := row_strs hrow
  have HKS := hid hks
  have B3 : Hid (Below w.heap.size w w3) := bto B2.out hb3
  have X3 : Hid (Blk w3 (w.heap.size + 1) #[.string nm, .int .i64 t.limit, .slice none 0 0, .slice none 0 0] 55) := X2.out.later hb3
  have Y3 : Hid (Blk w3 w.heap.size #[.string ⟨#[]⟩, .int .i64 0, .slice none 0 0, .slice none 0 0] 55) := Y2.out.later hb3
  have HX2 : Hid (w.heap.size + 1 < w2.heap.size) := lt_of_block X2.out
  clear hrow hks hb3 X2 Y2 B2 HSL HMK c0 c1
  go_wp2
  go_loopw [7, 23] (fun _ i wr => ∃ (k : Nat) (v1 : Value), k ≤ t.mets.length ∧ i = .int .i64 k ∧ Hid (Blk wr (w.heap.size + 1) #[.string nm, .int .i64 t.limit, v1, .slice none 0 0] 55) ∧ Hid (wr.ownsRow w3.heap.size 59 2 v1 k (flatPD (t.mets.take k))) ∧ Hid (Turn (· = w.heap.size + 1) w3 wr)) (fun _ i _ => t.mets.length - (intOf i).toNat)
  case atStart => exact ⟨0, .slice none 0 0, Nat.zero_le _, rfl, X3.out, World.ownsRow_nil _ _ _ _, Turn.refl _ _⟩
  case round =>
    obtain ⟨k, v1, hk, rfl, HX, HO, HBU⟩ := hrel
    by_cases hlt : k < t.mets.length
    · have hks2 : ∃ g, ka = some ⟨g, 0, none⟩ ∧ w2.heap.size ≤ g ∧ g < w3.heap.size ∧ ∀ i (h : i < t.mets.length), w3.cell? ⟨g, i, none⟩ = some (.string t.mets[i].s) := by
        rcases HKS.out with h0 | h0
        · rw [h0] at hlt; exact absurd hlt (by simp)
        · exact h0
      obtain ⟨g, rfl, hg1, hg2, hgc⟩ := hks2
      have hx2 := HX2.out
      have hgx : g ≠ w.heap.size + 1 := by omega
      have hkey : wr.cell? ⟨g, k, none⟩ = some (.string t.mets[k].s) := (World.cell?_of_block (HBU.out.block g hg2 hgx)).trans (hgc k hlt)
      have HBW : Hid (Below w.heap.size w wr) := (((Turn.of (S := fun i => w.heap.size ≤ i) B3.out).trans' (HBU.out.mono fun i _ e => by omega)).below (Nat.le_refl _) fun i hi h => by omega)
      have HQ : Hid (∀ W, Below w.heap.size w W → W.cell? ⟨x, 1, none⟩ = some (.map (some lm)) ∧ (Instr.lookup 102 (.map (some lm)) (.string t.mets[k].s) false).run Tryz.prog W = .ok (.int .i64 t.mets[k].n) W) := fun W hW => ⟨(HLK.out W hW).1, (HLK.out W hW).2 _ (List.getElem_mem hlt) (HSH.out k hlt)⟩
      have HFT : Hid (flatPD (t.mets.take (k + 1)) = flatPD (t.mets.take k) ++ [.string t.mets[k].s, .int .i64 t.mets[k].n]) := flatPD_take _ _ hlt
      have hsz3 : w3.heap.size ≤ wr.heap.size := HBU.out.size
      have hB3s : w.heap.size ≤ w3.heap.size := B3.out.size
      have hob : ∀ q, v1.ownBlock = some q → w3.heap.size ≤ q := fun q hq => (HO.out.lt q hq).1
      have hown := HO.out
      have v5 : wr.cell? ⟨w.heap.size + 1, 2, none⟩ = some v1 := HX.out.cell 2
      have ag : v1.ownBlock ≠ some (w.heap.size + 1) := fun e => by have := hob _ e; omega
      obtain ⟨q1, q2⟩ := HQ.out wr.drew HBW.out.drew
      generalize t.mets[k] = P at *
      obtain ⟨i0, hi0, hz0, hz1, hz2⟩ := info_parts infoML
      have hxw : x < wr.heap.size := by omega
      have hXw : w.heap.size + 1 < wr.heap.size := by omega
      go_wp2_with fail
      go_region_law
        ((refine step_append_lies _ (by rfl) _ _ _ (by rfl) w3.heap.size 59 i0 _ 2 24 Tryz.underlying52 hi0 hz0 hz1 hz2 rfl (by omega) v1 k (flatPD (t.mets.take k)) (by rfl) ((hown.alloc _).drew)
            ⟨wr.heap.size, 0, none⟩ 1 1 [.string P.s, .int .i64 P.n] (by rfl) (by rfl) (World.news_of_block (cs := #[.string P.s, .int .i64 P.n]) (t := 59) (fr := (0, 0)) (heap_alloc_new wr _)) (by simp [Value.oneCell'])
            (by omega) (by unfold maxLen; omega) (by omega) (by simp; omega) (wr.heap.size + 1) (by simp) ?_; intro gg cap w4 hown1 hgrow hat hlt4; have HB1 : Hid (Below w.heap.size w w4) := (((Turn.of (S := fun i => w.heap.size ≤ i) (bto HBW.out (bnew _ _).drew)).trans' ((Turn.grown hgrow).mono fun i _ e => by have := hob i e; omega)).below (Nat.le_refl _) fun i hi h => by omega); have HX4 : Hid (Blk w4 (w.heap.size + 1) #[.string nm, .int .i64 t.limit, v1, .slice none 0 0] 55) := (Turn.grown hgrow).blk (HX.out.later (bnew _ _).drew) ag; have s5 := HX4.out.cell 2; have f5 := HX4.out.free 2))
      all_goals (
        have HT4 : Hid (Turn (· = w.heap.size + 1) w3 w4) := HBU.out.trans (((Turn.of (bnew _ _).drew).trans' ((Turn.grown hgrow).mono fun i _ e => Or.inr (hob i e))))
        have HO4 := hid hown1
        have hgg : w3.heap.size ≤ gg := by
          rcases hat with h | h
          · exact hob _ h
          · omega)
      all_goals (
        have HX5 : Hid (Blk (w4.setCell ⟨w.heap.size + 1, 2, none⟩ (.slice (some ⟨gg, 0, none⟩) (k + 1) cap)) (w.heap.size + 1) #[.string nm, .int .i64 t.limit, .slice (some ⟨gg, 0, none⟩) (k + 1) cap, .slice none 0 0] 55) := hid (by have := HX4.out.set 2 (.slice (some ⟨gg, 0, none⟩) (k + 1) cap); simpa using this)
        have HO5 : Hid ((w4.setCell ⟨w.heap.size + 1, 2, none⟩ (.slice (some ⟨gg, 0, none⟩) (k + 1) cap)).ownsRow w3.heap.size 59 2 (.slice (some ⟨gg, 0, none⟩) (k + 1) cap) (k + 1) (flatPD (t.mets.take (k + 1)))) := hid (by rw [HFT.out]; exact ((Turn.refl (· = w.heap.size + 1) w4).setCell (Or.inl rfl) 2 _).row HO4.out (fun q hq e => by simp [Value.ownBlock] at hq; omega))
        have HT5 : Hid (Turn (· = w.heap.size + 1) w3 (w4.setCell ⟨w.heap.size + 1, 2, none⟩ (.slice (some ⟨gg, 0, none⟩) (k + 1) cap))) := HT4.out.setCell (Or.inl rfl) 2 _
        clear hown1 hgrow hat s5 f5 HX4 HO4 HT4 HB1
        go_wp2
        exact ⟨⟨k + 1, _, by omega, by go_num, HX5.out, HO5.out, HT5.out⟩, by simp [intOf]; omega⟩)
    · have ek : k = t.mets.length := by omega
      have et : t.mets.take k = t.mets := List.take_of_length_le (by omega)
      rw [et, ek] at HO
      obtain ⟨ra, rc, rfl⟩ := row_form HO.out
      have HBW : Hid (Below w.heap.size w wr) := (((Turn.of (S := fun i => w.heap.size ≤ i) B3.out).trans' (HBU.out.mono fun i _ e => by omega)).below (Nat.le_refl _) fun i hi h => by omega)
      have YW : Hid (Blk wr w.heap.size #[.string ⟨#[]⟩, .int .i64 0, .slice none 0 0, .slice none 0 0] 55) := HBU.out.blk Y3.out (by omega)
      have h31 : Hid (w.heap.size + 1 < w3.heap.size) := lt_of_block X3.out
      have h3r : Hid (w3.heap.size ≤ wr.heap.size) := HBU.out.size
      clear et HKS HLK HSH B3 X3 Y3 HX2 HBU
      generalize hwo : wr = wo at *
      clear hwo
      go_wp2_with fail
      refine (HKY.out _ HBW.out).mono ?_
      rintro e w5 ⟨kv, rfl, hrow, hb5⟩
      obtain ⟨kb, kd, rfl, hks⟩ := row_strs hrow
      have HKS := hid hks
      have B5 : Hid (Below w.heap.size w w5) := bto HBW.out hb5
      have X5 : Hid (Blk w5 (w.heap.size + 1) #[.string nm, .int .i64 t.limit, .slice ra t.mets.length rc, .slice none 0 0] 55) := HX.out.later hb5
      have Y5 : Hid (Blk w5 w.heap.size #[.string ⟨#[]⟩, .int .i64 0, .slice none 0 0, .slice none 0 0] 55) := YW.out.later hb5
      have O5 : Hid (w5.ownsRow w3.heap.size 59 2 (.slice ra t.mets.length rc) t.mets.length (flatPD t.mets)) := (Turn.of (S := fun _ => False) hb5).row HO.out (fun _ _ e => e)
      have h35 : Hid (w.heap.size + 1 < w5.heap.size) := lt_of_block X5.out
      have hWo : Hid (w3.heap.size ≤ wo.heap.size ∧ wo.heap.size ≤ w5.heap.size) := ⟨h3r.out, hb5.size⟩
      clear hrow hks hb5 HX HO HBW YW HKY
      go_wp2
      go_loopw [9, 44] (fun _ i wr => ∃ (k : Nat) (v2 : Value), k ≤ t.sers.length ∧ i = .int .i64 k ∧ Hid (Blk wr (w.heap.size + 1) #[.string nm, .int .i64 t.limit, .slice ra t.mets.length rc, v2] 55) ∧ Hid (wr.ownsRow w5.heap.size 61 2 v2 k (flatPD (t.sers.take k))) ∧ Hid (Turn (· = w.heap.size + 1) w5 wr)) (fun _ i _ => t.sers.length - (intOf i).toNat)
      case atStart => exact ⟨0, .slice none 0 0, Nat.zero_le _, rfl, X5.out, World.ownsRow_nil _ _ _ _, Turn.refl _ _⟩
      case round =>
        obtain ⟨k, v2, hk, rfl, HX, HO, HBU⟩ := hrel
        have HBW : Hid (Below w.heap.size w wr) := (((Turn.of (S := fun i => w.heap.size ≤ i) B5.out).trans' (HBU.out.mono fun i _ e => by omega)).below (Nat.le_refl _) fun i hi h => by omega)
        by_cases hlt : k < t.sers.length
        · have hks2 : ∃ g, kb = some ⟨g, 0, none⟩ ∧ wo.heap.size ≤ g ∧ g < w5.heap.size ∧ ∀ i (h : i < t.sers.length), w5.cell? ⟨g, i, none⟩ = some (.string t.sers[i].s) := by
            rcases HKS.out with h0 | h0
            · rw [h0] at hlt; exact absurd hlt (by simp)
            · exact h0
          obtain ⟨g, rfl, hg1, hg2, hgc⟩ := hks2
          have h31' := h31.out
          have hwo' := hWo.out
          have hgx : g ≠ w.heap.size + 1 := by omega
          have hkey : wr.cell? ⟨g, k, none⟩ = some (.string t.sers[k].s) := (World.cell?_of_block (HBU.out.block g hg2 hgx)).trans (hgc k hlt)
          obtain ⟨q, HQ0⟩ := HLS.out k hlt
          have HQ : Hid (∀ W, Below w.heap.size w W → W.cell? ⟨x, 2, none⟩ = some (.map (some sm)) ∧ (Instr.lookup 103 (.map (some sm)) (.string t.sers[k].s) false).run Tryz.prog W = .ok (.pointer (some ⟨q, 0, none⟩)) W ∧ W.cell? ⟨q, 0, none⟩ = some (.string t.sers[k].s) ∧ W.cell? ⟨q, 1, none⟩ = some (.int .i64 t.sers[k].n)) := HQ0
          have HFT : Hid (flatPD (t.sers.take (k + 1)) = flatPD (t.sers.take k) ++ [.string t.sers[k].s, .int .i64 t.sers[k].n]) := flatPD_take _ _ hlt
          have hsz3 : w5.heap.size ≤ wr.heap.size := HBU.out.size
          have hob : ∀ q, v2.ownBlock = some q → w5.heap.size ≤ q := fun q hq => (HO.out.lt q hq).1
          have hown := HO.out
          have v5 : wr.cell? ⟨w.heap.size + 1, 3, none⟩ = some v2 := HX.out.cell 3
          have ag : v2.ownBlock ≠ some (w.heap.size + 1) := fun e => by have := hob _ e; omega
          obtain ⟨q1, q2, q3, q4⟩ := HQ.out wr.drew HBW.out.drew
          generalize t.sers[k] = P at *
          obtain ⟨i0, hi0, hz0, hz1, hz2⟩ := info_parts infoSR
          have hxw : x < wr.heap.size := by omega
          have hXw : w.heap.size + 1 < wr.heap.size := by omega
          clear HQ0
          go_wp2_with fail
          go_region_law
            ((refine step_append_lies _ (by rfl) _ _ _ (by rfl) w5.heap.size 61 i0 _ 2 24 Tryz.underlying53 hi0 hz0 hz1 hz2 rfl (by omega) v2 k (flatPD (t.sers.take k)) (by rfl) ((hown.alloc _).drew)
                  ⟨wr.heap.size, 0, none⟩ 1 1 [.string P.s, .int .i64 P.n] (by rfl) (by rfl) (World.news_of_block (cs := #[.string P.s, .int .i64 P.n]) (t := 61) (fr := (0, 0)) (heap_alloc_new wr _)) (by simp [Value.oneCell'])
                  (by omega) (by unfold maxLen; omega) (by omega) (by simp; omega) (wr.heap.size + 1) (by simp) ?_; intro gg cap w4 hown1 hgrow hat hlt4; have HX4 : Hid (Blk w4 (w.heap.size + 1) #[.string nm, .int .i64 t.limit, .slice ra t.mets.length rc, v2] 55) := (Turn.grown hgrow).blk (HX.out.later (bnew _ _).drew) ag; have s5 := HX4.out.cell 3; have f5 := HX4.out.free 3))
          all_goals (
            have HT4 : Hid (Turn (· = w.heap.size + 1) w5 w4) := HBU.out.trans (((Turn.of (bnew _ _).drew).trans' ((Turn.grown hgrow).mono fun i _ e => Or.inr (hob i e))))
            have HO4 := hid hown1
            have hgg : w5.heap.size ≤ gg := by
              rcases hat with h | h
              · exact hob _ h
              · omega
            have HX5 : Hid (Blk (w4.setCell ⟨w.heap.size + 1, 3, none⟩ (.slice (some ⟨gg, 0, none⟩) (k + 1) cap)) (w.heap.size + 1) #[.string nm, .int .i64 t.limit, .slice ra t.mets.length rc, .slice (some ⟨gg, 0, none⟩) (k + 1) cap] 55) := hid (by have := HX4.out.set 3 (.slice (some ⟨gg, 0, none⟩) (k + 1) cap); simpa using this)
            have HO5 : Hid ((w4.setCell ⟨w.heap.size + 1, 3, none⟩ (.slice (some ⟨gg, 0, none⟩) (k + 1) cap)).ownsRow w5.heap.size 61 2 (.slice (some ⟨gg, 0, none⟩) (k + 1) cap) (k + 1) (flatPD (t.sers.take (k + 1)))) := hid (by rw [HFT.out]; exact ((Turn.refl (· = w.heap.size + 1) w4).setCell (Or.inl rfl) 3 _).row HO4.out (fun q hq e => by simp [Value.ownBlock] at hq; omega))
            have HT5 : Hid (Turn (· = w.heap.size + 1) w5 (w4.setCell ⟨w.heap.size + 1, 3, none⟩ (.slice (some ⟨gg, 0, none⟩) (k + 1) cap))) := HT4.out.setCell (Or.inl rfl) 3 _
            clear hown1 hgrow hat s5 f5 HX4 HO4 HT4
            go_wp2
            exact ⟨⟨k + 1, _, by omega, by go_num, HX5.out, HO5.out, HT5.out⟩, by simp [intOf]; omega⟩)
        · have ek2 : k = t.sers.length := by omega
          have et : t.sers.take k = t.sers := List.take_of_length_le (by omega)
          rw [et, ek2] at HO
          obtain ⟨sa, sc, rfl⟩ := row_form HO.out
          have YW : Hid (Blk wr w.heap.size #[.string ⟨#[]⟩, .int .i64 0, .slice none 0 0, .slice none 0 0] 55) := HBU.out.blk Y5.out (by omega)
          have a0 : wr.cell? ⟨w.heap.size + 1, 0, none⟩ = some (.string nm) := HX.out.cell 0
          have a1 : wr.cell? ⟨w.heap.size + 1, 1, none⟩ = some (.int .i64 t.limit) := HX.out.cell 1
          have a2 : wr.cell? ⟨w.heap.size + 1, 2, none⟩ = some (.slice ra t.mets.length rc) := HX.out.cell 2
          have a3 : wr.cell? ⟨w.heap.size + 1, 3, none⟩ = some (.slice sa t.sers.length sc) := HX.out.cell 3
          have b0 : wr.cell? ⟨w.heap.size, 0, none⟩ = some (.string ⟨#[]⟩) := YW.out.cell 0
          have b1 : wr.cell? ⟨w.heap.size, 1, none⟩ = some (.int .i64 0) := YW.out.cell 1
          have b2 : wr.cell? ⟨w.heap.size, 2, none⟩ = some (.slice none 0 0) := YW.out.cell 2
          have b3 : wr.cell? ⟨w.heap.size, 3, none⟩ = some (.slice none 0 0) := YW.out.cell 3
          have e0 := YW.out.free 0
          have e1 := YW.out.free 1
          have e2 := YW.out.free 2
          have e3 := YW.out.free 3
          have hwl : w.heap.size < wr.heap.size := lt_of_block YW.out
          have HOM : Hid (wr.ownsRow w3.heap.size 59 2 (.slice ra t.mets.length rc) t.mets.length (flatPD t.mets)) := HBU.out.row O5.out (fun q hq e => by have h1 := (O5.out.lt q hq).1; have h2 := h31.out; omega)
          go_wp2
          have HTE : Turn (· = w.heap.size) wr ((((wr.setCell ⟨w.heap.size, 0, none⟩ (.string nm)).setCell ⟨w.heap.size, 1, none⟩ (.int .i64 t.limit)).setCell ⟨w.heap.size, 2, none⟩ (.slice ra t.mets.length rc)).setCell ⟨w.heap.size, 3, none⟩ (.slice sa t.sers.length sc)) := ((((Turn.refl (· = w.heap.size) wr).setCell (Or.inl rfl) 0 _).setCell (Or.inl rfl) 1 _).setCell (Or.inl rfl) 2 _).setCell (Or.inl rfl) 3 _
          have h31' := h31.out
          have hwo' := hWo.out
          refine bodyPost_ret (v := .agg #[.string nm, .int .i64 t.limit, .slice ra t.mets.length rc, .slice sa t.sers.length sc]) (by simp [results, Tryz.results73, go_sem, b0, b1, b2, b3]) rfl ⟨_, _, w5.heap.size, rfl, row_base (HTE.row HOM.out (fun q hq e => by have := (HOM.out.lt q hq).1; omega)) (by omega), (fun q hq => (O5.out.lt q hq).2), by omega, by have h1 := HBU.out.size; have h2 := HTE.size; omega, HTE.row HO.out (fun q hq e => by have := (HO.out.lt q hq).1; omega), ((Turn.of (S := fun i => w.heap.size ≤ i) HBW.out).trans' (HTE.mono fun i _ e => by omega)).below (Nat.le_refl _) fun i hi h => by omega⟩
end Go.Proofs.YtojeemogabhaoaaGreatDoor
namespace Go.Proofs.YtojeemogabhaoaaGreatDoor
open Go.RowKit
structure TV where
  t : TenD
  a1 : Option Addr
  c1 : Nat
  a2 : Option Addr
  c2 : Nat
def flatV (ys : List TV) : List Value := ys.flatMap fun y => [.string y.t.name, .int .i64 y.t.limit, .slice y.a1 y.t.mets.length y.c1, .slice y.a2 y.t.sers.length y.c2]
theorem flatV_append (a b : List TV) : flatV (a ++ b) = flatV a ++ flatV b := by simp [flatV]
def PartsV (w : World) (b : Nat) (T : Nat → Nat) (ys : List TV) : Prop :=
  ∀ i (h : i < ys.length), PairsTag w b T (2 * i + 1) ys[i].a1 ys[i].t.mets ∧ PairsTag w b T (2 * i + 2) ys[i].a2 ys[i].t.sers
def RowV (w : World) (b : Nat) (e : TypeId) (v : Value) (n : Nat) (ts : List TenD) : Prop :=
  ∃ T ys, w.ownsRow b e 4 v n (flatV ys) ∧ ys.map (·.t) = ts ∧ (∀ g, v.ownBlock = some g → T g = 0) ∧ PartsV w b T ys
theorem RowV.nil (w : World) (b : Nat) (e : TypeId) : RowV w b e (.slice none 0 0) 0 [] :=
  ⟨fun _ => 0, [], World.ownsRow_nil _ _ _ _, rfl, fun _ _ => rfl, fun i h => absurd h (by simp)⟩
theorem RowV.row {w : World} {b : Nat} {e : TypeId} {v : Value} {n : Nat} {ts : List TenD} (h : RowV w b e v n ts) : ∃ a c, v = .slice a n c := by
  obtain ⟨_, _, h, _⟩ := h
  rcases h.2 with ⟨rfl, rfl⟩ | ⟨g, cap, cur, rfl, _⟩
  · exact ⟨none, 0, rfl⟩
  · exact ⟨_, _, rfl⟩
theorem RowV.lt {w : World} {b : Nat} {e : TypeId} {v : Value} {n : Nat} {ts : List TenD} (h : RowV w b e v n ts) : ∀ g, v.ownBlock = some g → b ≤ g ∧ g < w.heap.size := by
  obtain ⟨_, _, h, _⟩ := h
  exact fun g hg => h.lt g hg
theorem RowV.turn {w w' : World} {S : Nat → Prop} {b : Nat} {e : TypeId} {v : Value} {n : Nat} {ts : List TenD} (h : RowV w b e v n ts) (ht : Turn S w w') (hS : ∀ g, S g → g < b) : RowV w' b e v n ts := by
  obtain ⟨T, ys, h1, h2, h3, h4⟩ := h
  refine ⟨T, ys, ht.row h1 (fun g hg e => by have := (h1.lt g hg).1; have := hS g e; omega), h2, h3, fun i hi => ?_⟩
  have hk : ∀ g, g < w.heap.size → b ≤ g → w'.heap[g]? = w.heap[g]? := fun g hg hb => ht.block g hg (fun e => by have := hS g e; omega)
  exact ⟨(h4 i hi).1.keep fun g hg hb hT => ⟨hk g hg hb, hT⟩, (h4 i hi).2.keep fun g hg hb hT => ⟨hk g hg hb, hT⟩⟩
theorem RowV.snoc {wr w4 w6 : World} {b M gg cap k : Nat} {e : TypeId} {v : Value} {T : Nat → Nat} {ys : List TV} {ts : List TenD} {t : TenD} {a1 a2 : Option Addr} {c1 c2 : Nat}
    (hrow : w6.ownsRow b e 4 (.slice (some ⟨gg, 0, none⟩) (k + 1) cap) (k + 1) (flatV ys ++ [.string t.name, .int .i64 t.limit, .slice a1 t.mets.length c1, .slice a2 t.sers.length c2]))
    (hys : ys.map (·.t) = ts) (hyk : ys.length = k) (hv : ∀ g, v.ownBlock = some g → T g = 0) (hp : PartsV wr b T ys) (hb : b ≤ wr.heap.size) (hM : wr.heap.size ≤ M)
    (hk0 : ∀ g, g < wr.heap.size → b ≤ g → v.ownBlock ≠ some g → w6.heap[g]? = wr.heap[g]?) (hk4 : ∀ g, wr.heap.size ≤ g → g < w4.heap.size → w6.heap[g]? = w4.heap[g]?)
    (h1 : PairsOwn w4 wr.heap.size a1 t.mets) (h1M : ∀ g o, a1 = some ⟨g, o, none⟩ → g < M) (h2 : PairsOwn w4 M a2 t.sers)
    (hgg : (v.ownBlock = some gg ∧ gg < wr.heap.size) ∨ w4.heap.size ≤ gg) (h4r : wr.heap.size ≤ w4.heap.size) (hM4 : M ≤ w4.heap.size) : RowV w6 b e (.slice (some ⟨gg, 0, none⟩) (k + 1) cap) (k + 1) (ts ++ [t]) := by
  have own6 : ∀ {B n : Nat} {T' : Nat → Nat} {a : Option Addr} {ps : List PairD}, wr.heap.size ≤ B → PairsOwn w4 B a ps → (∀ g o, a = some ⟨g, o, none⟩ → B ≤ g → g < w4.heap.size → T' g = n) → PairsTag w6 b T' n a ps := by
    intro B n T' a ps hB h hT
    rcases h with h | ⟨g, o, cur, ty, rfl, hBg, hblk, hat⟩
    · exact Or.inl h
    · have hlt := lt_of_block hblk
      have hke := hk4 g (by omega) hlt
      have hc : ∀ j, w6.cell? ⟨g, j, none⟩ = w4.cell? ⟨g, j, none⟩ := fun j => World.cell?_of_block hke
      exact Or.inr ⟨g, o, cur, ty, rfl, by omega, hT g o rfl hBg hlt, hke.trans hblk, fun i hi => by simp only [hc]; exact hat i hi⟩
  refine ⟨fun g => if g < wr.heap.size then T g else if g < M then 2 * k + 1 else if g < w4.heap.size then 2 * k + 2 else 0, ys ++ [⟨t, a1, c1, a2, c2⟩], ?_, ?_, ?_, ?_⟩
  · rw [flatV_append]; exact hrow
  · rw [List.map_append, hys]; rfl
  · intro g hg
    simp only [Value.ownBlock, Option.some.injEq] at hg
    subst hg
    rcases hgg with ⟨h, hl⟩ | h
    · simp only [if_pos hl]; exact hv _ h
    · simp only [if_neg (show ¬ gg < wr.heap.size by omega), if_neg (show ¬ gg < M by omega), if_neg (show ¬ gg < w4.heap.size by omega)]
  · intro i hi
    by_cases hik : i < ys.length
    · rw [List.getElem_append_left hik]
      obtain ⟨p1, p2⟩ := hp i hik
      refine ⟨p1.keep fun g hg hbg hT => ⟨hk0 g hg hbg (fun e => by have := hv g e; omega), by simp only [if_pos hg]; exact hT⟩, p2.keep fun g hg hbg hT => ⟨hk0 g hg hbg (fun e => by have := hv g e; omega), by simp only [if_pos hg]; exact hT⟩⟩
    · have e : i = k := by simp at hi; omega
      subst e
      rw [List.getElem_append_right (by omega)]
      simp only [hyk, Nat.sub_self, List.getElem_cons_zero]
      refine ⟨own6 (Nat.le_refl _) h1 fun g o ha hg _ => ?_, own6 hM h2 fun g o ha hg hl => ?_⟩
      · simp only [if_neg (show ¬ g < wr.heap.size by omega), if_pos (h1M g o ha)]
      · simp only [if_neg (show ¬ g < wr.heap.size by omega), if_neg (show ¬ g < M by omega), if_pos hl]
theorem RowV.own {w : World} {b : Nat} {e : TypeId} {a : Option Addr} {n cap : Nat} {ts : List TenD} (h : RowV w b e (.slice a n cap) n ts) (hn : ts.length = n) : TensOwn w b a ts := by
  obtain ⟨T, ys, h1, h2, h3, h4⟩ := h
  have hyl : ys.length = n := by rw [← hn, ← h2, List.length_map]
  rcases h1.2 with ⟨_, hl⟩ | ⟨g, cap', cur, he, hB, hg, _, _, hsz, htk⟩
  · exact Or.inl (List.length_eq_zero_iff.1 (by omega))
  · simp only [Value.slice.injEq] at he
    have hT : T g = 0 := h3 g (by rw [he.1]; rfl)
    have hf : ∀ (l : List TV) i (hi : i < l.length), (flatV l)[i * 4]? = some (.string l[i].t.name) ∧ (flatV l)[i * 4 + 1]? = some (.int .i64 l[i].t.limit) ∧ (flatV l)[i * 4 + 2]? = some (.slice l[i].a1 l[i].t.mets.length l[i].c1) ∧ (flatV l)[i * 4 + 3]? = some (.slice l[i].a2 l[i].t.sers.length l[i].c2) := by
      intro l
      unfold flatV
      induction l with
      | nil => intro i hi; exact absurd hi (by simp)
      | cons x r ih =>
        intro i hi
        cases i with
        | zero => simp
        | succ i =>
          have := ih i (by simpa using hi)
          simp only [List.flatMap_cons, List.cons_append, List.nil_append, List.getElem_cons_succ]
          refine ⟨?_, ?_, ?_, ?_⟩
          · rw [show (i + 1) * 4 = i * 4 + 1 + 1 + 1 + 1 by omega, List.getElem?_cons_succ, List.getElem?_cons_succ, List.getElem?_cons_succ, List.getElem?_cons_succ]; exact this.1
          · rw [show (i + 1) * 4 + 1 = i * 4 + 1 + 1 + 1 + 1 + 1 by omega, List.getElem?_cons_succ, List.getElem?_cons_succ, List.getElem?_cons_succ, List.getElem?_cons_succ]; exact this.2.1
          · rw [show (i + 1) * 4 + 2 = i * 4 + 2 + 1 + 1 + 1 + 1 by omega, List.getElem?_cons_succ, List.getElem?_cons_succ, List.getElem?_cons_succ, List.getElem?_cons_succ]; exact this.2.2.1
          · rw [show (i + 1) * 4 + 3 = i * 4 + 3 + 1 + 1 + 1 + 1 by omega, List.getElem?_cons_succ, List.getElem?_cons_succ, List.getElem?_cons_succ, List.getElem?_cons_succ]; exact this.2.2.2
    have hc : ∀ j, j < n * 4 → w.cell? ⟨g, j, none⟩ = (flatV ys)[j]? := fun j hj => by
      rw [Blk.cell (show Blk w g cur e from hg) j, ← Array.getElem?_toList, ← htk, List.getElem?_take_of_lt hj]
    refine Or.inr ⟨g, 0, cur, e, T, he.1, hB, hg, hT, fun i hi => ?_⟩
    have hiy : i < ys.length := by omega
    have et : ts[i] = ys[i].t := by simp only [← h2, List.getElem_map]
    obtain ⟨f0, f1, f2, f3⟩ := hf ys i hiy
    rw [et]
    refine ⟨ys[i].a1, ys[i].c1, ys[i].a2, ys[i].c2, ?_, ?_, ?_, ?_, (h4 i hiy).1, (h4 i hiy).2⟩
    · rw [Nat.zero_add, hc _ (by omega)]; exact f0
    · rw [Nat.zero_add, hc _ (by omega)]; exact f1
    · rw [Nat.zero_add, hc _ (by omega)]; exact f2
    · rw [Nat.zero_add, hc _ (by omega)]; exact f3
end Go.Proofs.YtojeemogabhaoaaGreatDoor
