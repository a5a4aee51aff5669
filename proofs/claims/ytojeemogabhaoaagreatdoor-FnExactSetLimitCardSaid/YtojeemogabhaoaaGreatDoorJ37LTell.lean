import Derived.Test.YtojeemogabhaoaaGreatDoorJ02Ord
import Derived.Test.YtojeemogabhaoaaGreatDoorProg
import Derived.Test.YtojeemogabhaoaaGreatDoorJ36TenV
import Derived.Test.YtojeemogabhaoaaGreatDoorJ20QTail
import Derived.Test.YtojeemogabhaoaaGreatDoorJ24CfgT
import Derived.Deep.AppendLies
import Derived.Deep.RegionLaw
namespace Go.Proofs.YtojeemogabhaoaaGreatDoor
open Go.RowKit
def TelOut (w : World) (nm : ByteArray) (t : TenD) (e : Ending) (w' : World) : Prop :=
  ∃ M a1 c1 a2 c2, e = .returned (.agg #[.string nm, .int .i64 t.limit, .slice a1 t.mets.length c1, .slice a2 t.sers.length c2]) ∧ w.heap.size ≤ M ∧ PairsOwn w' w.heap.size a1 t.mets ∧ (∀ g o, a1 = some ⟨g, o, none⟩ → g < M) ∧ PairsOwn w' M a2 t.sers ∧ M ≤ w'.heap.size ∧ Below w.heap.size w w'
def flatK (ps : List PairD) : List Value := ps.flatMap fun x => [.string x.s, .int .i64 x.n]
def TelOutR (w : World) (nm : ByteArray) (t : TenD) (e : Ending) (w' : World) : Prop :=
  ∃ M a1 c1 a2 c2, e = .returned (.agg #[.string nm, .int .i64 t.limit, .slice a1 t.mets.length c1, .slice a2 t.sers.length c2]) ∧ w.heap.size ≤ M ∧ PairsOwn w' w.heap.size a1 t.mets ∧ (∀ g o, a1 = some ⟨g, o, none⟩ → g < M) ∧ w'.ownsRow M 61 2 (.slice a2 t.sers.length c2) t.sers.length (flatK t.sers) ∧ M ≤ w'.heap.size ∧ Below w.heap.size w w'
theorem TelOutR.tel {w : World} {nm : ByteArray} {t : TenD} {e : Ending} {w' : World} (h : TelOutR w nm t e w') : TelOut w nm t e w' := by
  obtain ⟨M, a1, c1, a2, c2, h1, h2, h3, h4, h5, h6⟩ := h
  exact ⟨M, a1, c1, a2, c2, h1, h2, h3, h4, pairs_of_row h5, h6⟩
theorem flatK_append (a b : List PairD) : flatK (a ++ b) = flatK a ++ flatK b := by simp [flatK]
theorem flatK_length (ps : List PairD) : (flatK ps).length = ps.length * 2 := by
  induction ps with
  | nil => rfl
  | cons x r ih => simp only [flatK, List.flatMap_cons, List.length_append, List.length_cons, List.length_nil] at ih ⊢; omega
theorem flatK_cell (ps : List PairD) : ∀ u ∈ flatK ps, u.oneCell' = true := by
  intro u hu
  simp only [flatK, List.mem_flatMap] at hu
  obtain ⟨x, _, hu⟩ := hu
  simp only [List.mem_cons, List.mem_nil_iff, or_false] at hu
  rcases hu with rfl | rfl <;> rfl
theorem flatK_get : ∀ (ps : List PairD) (j : Nat) (u : Value), (flatK ps)[j]? = some u → ∃ i, ∃ h : i < ps.length, (j = i * 2 ∧ u = .string ps[i].s) ∨ (j = i * 2 + 1 ∧ u = .int .i64 ps[i].n)
  | [], j, u, h => by simp [flatK] at h
  | x :: r, 0, u, h => ⟨0, by simp, Or.inl ⟨rfl, by simpa [flatK] using h.symm⟩⟩
  | x :: r, 1, u, h => ⟨0, by simp, Or.inr ⟨rfl, by simpa [flatK] using h.symm⟩⟩
  | x :: r, j + 2, u, h => by
    have h' : (flatK r)[j]? = some u := by simpa [flatK] using h
    obtain ⟨i, hi, q⟩ := flatK_get r j u h'
    refine ⟨i + 1, by simpa using hi, ?_⟩
    rcases q with ⟨e, q⟩ | ⟨e, q⟩
    · exact Or.inl ⟨by omega, by simpa using q⟩
    · exact Or.inr ⟨by omega, by simpa using q⟩
theorem pairs_news {w : World} {b o : Nat} {ps : List PairD} (h : ∀ i (hi : i < ps.length), w.cell? ⟨b, o + i * 2, none⟩ = some (.string ps[i].s) ∧ w.cell? ⟨b, o + i * 2 + 1, none⟩ = some (.int .i64 ps[i].n)) :
    ∀ j u, (flatK ps)[j]? = some u → w.cell? ((⟨b, o, none⟩ : Addr).add j) = some u := by
  intro j u hu
  have hadd : (⟨b, o, none⟩ : Addr).add j = ⟨b, o + j, none⟩ := by unfold Addr.add; split <;> simp_all
  rw [hadd]
  obtain ⟨i, hi, q⟩ := flatK_get ps j u hu
  rcases q with ⟨rfl, rfl⟩ | ⟨rfl, rfl⟩
  · exact (h i hi).1
  · exact (h i hi).2
end Go.Proofs.YtojeemogabhaoaaGreatDoor
namespace Go.Proofs.YtojeemogabhaoaaGreatDoor
open Go.RowKit Go.Maps
theorem step_enterT {P : Program} {w : World} {ops : Array Oper} {o : Oper} {a : Act} {K : Act → World → Prop} {Q : Exit → Act → World → Prop} {E : Prop} {f : FuncId} {args : Array Value} (hgd : o.guard = none) (hx : (execOp a.eval o).run P w = .ok (.enter f args) w)
    (h : Calls P f args w (fun e w' => ∃ v, e = .returned v ∧ K (a.put o.dst v) w')) : if Region.wanted o (yielded ops a.tmps) = true then Oper.wp P o a w K Q else E := by
  have hw : Region.wanted o (yielded ops a.tmps) = true := by simp [Region.wanted, hgd]
  rw [if_pos hw]
  unfold Oper.wp
  rw [hx]
  refine h.mono ?_
  rintro e w' ⟨v, rfl, hK⟩
  exact hK
theorem sorted_tens (m : Nat) (L : List (TenD × Nat)) (w : World) (h : w.ownsMap Tryz.prog 9 ptrElem m L.length (mapOf (L.map fun p => (p.1.name, pVal p.2)))) (hr : RiseBy (fun p : TenD × Nat => p.1.name) L) (hl : L.length ≤ 1000000000) :
    Calls Tryz.prog 71 #[.func (.func 98) #[] #[.pointer (some ⟨w.heap.size, 0, none⟩)]] (w.alloc (.cells #[.map (some m)] 97)) fun e w' => ∃ v, e = .returned v ∧ w'.ownsRow w.heap.size 9 1 v L.length (L.map fun p => .string p.1.name) ∧ Below w.heap.size w w' := by
  have hsz : Maps.size (mapOf (L.map fun p => (p.1.name, pVal p.2))) = L.length := by rw [size_by]
  refine Calls.mono (callsIn_wide.1 (Tryz.slices_Sorted_keys_71_72 m _ _ ptrElem w h (by rw [hsz]; unfold maxLen; omega) (by rw [hsz]; omega))) ?_
  rintro e w1 ⟨v, ss, rfl, hp, hrow, _, hb⟩
  have hk : (strKeys (mapOf (L.map fun p => (p.1.name, pVal p.2)))) = L.map fun p => p.1.name.data.toList := by
    rw [strKeys_mapOf, List.map_map]
    rfl
  rw [hk] at hp
  have hlen : ss.length = L.length := by rw [hp.length_eq, List.length_map]
  rw [sort_rise (key := fun p : TenD × Nat => p.1.name) hr hp, enc_keys (fun p : TenD × Nat => p.1.name), hlen] at hrow
  exact ⟨v, rfl, row_base hrow (by simp), bto (bnew _ _) hb⟩
theorem row_names {W : World} {B : Nat} {e : TypeId} {v : Value} {L : List (TenD × Nat)} (h : W.ownsRow B e 1 v L.length (L.map fun p => .string p.1.name)) :
    ∃ ka kc, v = .slice ka L.length kc ∧ (L = [] ∨ ∃ g, ka = some ⟨g, 0, none⟩ ∧ B ≤ g ∧ g < W.heap.size ∧ ∀ i (h : i < L.length), W.cell? ⟨g, i, none⟩ = some (.string L[i].1.name)) := by
  rcases h.2 with ⟨rfl, hl⟩ | ⟨g, cap, cur, rfl, hB, hg, _, _, hsz, htk⟩
  · refine ⟨none, 0, by rw [hl], Or.inl (List.length_eq_zero_iff.1 hl)⟩
  · refine ⟨_, cap, rfl, Or.inr ⟨g, rfl, hB, lt_of_block hg, fun i hi => ?_⟩⟩
    have hc : W.cell? ⟨g, i, none⟩ = cur[i]? := Blk.cell (show Blk W g cur e from hg) i
    rw [hc, ← Array.getElem?_toList]
    have : (cur.toList.take (L.length * 1))[i]? = (L.map fun p => Value.string p.1.name)[i]? := by rw [htk]
    rw [List.getElem?_take, if_pos (by omega)] at this
    rw [this, List.getElem?_map, List.getElem?_eq_getElem hi]
    rfl
theorem look_ten {w : World} {B : Nat} {T : Nat → Option Nat} {l m : Nat} {c : CfgD} {now : Int} {L : List (TenD × Nat)} {M : Nat} (h : LedS w B T l m c now L M) (i : Nat) (hi : i < L.length) (hz : L[i].1.name.size ≤ maxLen) :
    ∃ x S, ∀ W, Below w.heap.size w W → W.cell? ⟨l, 7, none⟩ = some (.map (some m)) ∧ (Instr.lookup 97 (.map (some m)) (.string L[i].1.name) false).run Tryz.prog W = .ok (.pointer (some ⟨x, 0, none⟩)) W ∧ IdxAt W S x L[i].1 M := by
  have hq : L[i] ∈ L := List.getElem_mem hi
  refine ⟨L[i].2, _, fun W hW => ⟨(h.blk.later hW).cell 7, ?_, (h.idx _ hq).later hW⟩⟩
  obtain ⟨v, ps, hrun, hv⟩ := World.ownsMap.lookup ((Turn.of hW).map (S := fun _ => False) h.ten (fun e => e)) keyed Tryz.underlying97 (show (zeroValue 79).run Tryz.prog W = .ok (.pointer none) W by kernel_rfl) (zd := .nil) (zp := []) rfl (key_mk hz)
  rw [hrun]
  rw [atKey_by (key := fun q : TenD × Nat => q.1.name) (fun q => pVal q.2), getBy_of_mem (key := fun q : TenD × Nat => q.1.name) h.rise hq] at hv
  rw [ptrElem_inv hv]
def FitL (ts : List TenD) : Prop := ∀ t ∈ ts, t.name.size ≤ maxLen ∧ (∀ i (h : i < t.mets.length), t.mets[i].s.size ≤ maxLen) ∧ (∀ i (h : i < t.sers.length), t.sers[i].s.size ≤ maxLen) ∧ t.mets.length ≤ 2000000 ∧ t.sers.length ≤ 2000000
set_option maxRecDepth 100000 in
set_option maxHeartbeats 8000000 in
theorem ltell_any (l m : Nat) (c : CfgD) (now : Int) (B : Nat) (ts : List TenD) (M : Nat) (w : World) (h : LedAt w B l m c now ts M) (hfit : FitL ts) (hlen : ts.length ≤ 2000000) :
    Calls Tryz.prog 43 #[.pointer (some ⟨l, 0, none⟩)] w fun e w' => ∃ a cap, e = .returned (.agg #[.int .i64 now, .slice a ts.length cap]) ∧ TensOwn w' w.heap.size a ts ∧ Below w.heap.size w w' := by
  obtain ⟨T0, L, h, rfl⟩ := h
  rw [List.length_map] at hlen ⊢
  have c6 : w.cell? ⟨l, 6, none⟩ = some (.int .i64 now) := h.blk.cell 6
  have hll := lt_of_block h.blk
  have HL7 : Hid (∀ W, Below w.heap.size w W → W.cell? ⟨l, 7, none⟩ = some (.map (some m))) := fun W hW => (h.blk.later hW).cell 7
  have HLK : Hid (∀ i (hi : i < L.length), ∃ x S, ∀ W, Below w.heap.size w W → W.cell? ⟨l, 7, none⟩ = some (.map (some m)) ∧ (Instr.lookup 97 (.map (some m)) (.string L[i].1.name) false).run Tryz.prog W = .ok (.pointer (some ⟨x, 0, none⟩)) W ∧ IdxAt W S x L[i].1 M) := fun i hi => look_ten h i hi (hfit _ (List.mem_map_of_mem (List.getElem_mem hi))).1
  have HTL : Hid (∀ i (hi : i < L.length) x S W, IdxAt W S x L[i].1 M → Calls Tryz.prog 73 #[.pointer (some ⟨x, 0, none⟩), .string L[i].1.name] W fun e w' => TelOut W L[i].1.name L[i].1 e w') := fun i hi x S W hix => by
    obtain ⟨_, f1, f2, f3, f4⟩ := hfit _ (List.mem_map_of_mem (f := (·.1)) (List.getElem_mem hi))
    refine (tell_any x L[i].1.name L[i].1 S M W hix f1 f2 (by omega) (by omega)).mono ?_
    rintro e w' ⟨v1, v2, M', rfl, r1, hM1, hM2, hM3, r2, hb⟩
    obtain ⟨a1, c1, rfl⟩ := row_form r1
    obtain ⟨a2, c2, rfl⟩ := row_form r2
    exact ⟨M', a1, c1, a2, c2, rfl, hM2, pairs_of_row r1, fun g o e => hM1 g (by rw [e]; rfl), pairs_of_row r2, hM3, hb⟩
  have HSL : Hid (∀ W, Below w.heap.size w W → Calls Tryz.prog 71 #[.func (.func 98) #[] #[.pointer (some ⟨W.heap.size, 0, none⟩)]] (W.alloc (.cells #[.map (some m)] 97)) fun e w' => ∃ v, e = .returned v ∧ w'.ownsRow W.heap.size 9 1 v L.length (L.map fun p => .string p.1.name) ∧ Below W.heap.size W w') := fun W hW => sorted_tens m L W ((Turn.of hW).map (S := fun _ => False) h.ten (fun e => e)) h.rise (by omega)
  have HMK : Hid (∀ W, Calls Tryz.prog 72 #[.map (some m)] W fun e w' => e = .returned (.func (.func 98) #[] #[.pointer (some ⟨W.heap.size, 0, none⟩)]) ∧ w' = W.alloc (.cells #[.map (some m)] 97)) := fun W => callsIn_wide.1 (Tryz.maps_Keys_72 (some m) W)
  unfold TelOut at HTL
  clear h hfit
  have B2 : Hid (Below w.heap.size w ((w.alloc (.cells #[.int .i64 0, .slice none 0 0] 33)).alloc (.cells #[.int .i64 now, .slice none 0 0] 33))) := bto (bnew _ _) (bnew _ _)
  have c7 : ((w.alloc (.cells #[.int .i64 0, .slice none 0 0] 33)).alloc (.cells #[.int .i64 now, .slice none 0 0] 33)).cell? ⟨l, 7, none⟩ = some (.map (some m)) := HL7.out _ B2.out
  go_enter Tryz.func43, Tryz.ntmps43
  go_wp2_with fail
  refine (HMK.out _).mono ?_
  rintro e w1 ⟨rfl, rfl⟩
  have X2 : Hid (Blk ((w.alloc (.cells #[.int .i64 0, .slice none 0 0] 33)).alloc (.cells #[.int .i64 now, .slice none 0 0] 33)) (w.heap.size + 1) #[.int .i64 now, .slice none 0 0] 33) := hid (by have := Blk.new (w.alloc (.cells #[.int .i64 0, .slice none 0 0] 33)) #[.int .i64 now, .slice none 0 0] 33; simpa using this)
  have Y2 : Hid (Blk ((w.alloc (.cells #[.int .i64 0, .slice none 0 0] 33)).alloc (.cells #[.int .i64 now, .slice none 0 0] 33)) w.heap.size #[.int .i64 0, .slice none 0 0] 33) := (Blk.new _ _ _).alloc _
  clear c7 c6
  generalize (w.alloc (.cells #[.int .i64 0, .slice none 0 0] 33)).alloc (.cells #[.int .i64 now, .slice none 0 0] 33) = w2 at *
  go_wp2_with fail
  refine (HSL.out _ B2.out).mono ?_
  rintro e w3 ⟨kv, rfl, hrow, hb3⟩
  obtain ⟨ka, kc, rfl, hks⟩ := row_names hrow
  have HKS := hid hks
  have B3 : Hid (Below w.heap.size w w3) := bto B2.out hb3
  have X3 : Hid (Blk w3 (w.heap.size + 1) #[.int .i64 now, .slice none 0 0] 33) := X2.out.later hb3
  have Y3 : Hid (Blk w3 w.heap.size #[.int .i64 0, .slice none 0 0] 33) := Y2.out.later hb3
  have HX2 : Hid (w.heap.size + 1 < w2.heap.size) := lt_of_block X2.out
  clear hrow hks hb3 X2 Y2 B2 HSL HMK
  obtain ⟨i1, hi1, hq10, hq11, hq12⟩ := info_parts info_tenant
  have HI1 : Hid (Tryz.prog.info? 55 = some i1) := hi1
  clear hi1
  go_wp2
  go_loopw [5, 18] (fun _ i wr => ∃ (k : Nat) (v : Value), k ≤ L.length ∧ i = .int .i64 k ∧ Hid (Blk wr (w.heap.size + 1) #[.int .i64 now, v] 33) ∧ Hid (RowV wr w3.heap.size 55 v k ((L.take k).map (·.1))) ∧ Hid (Turn (· = w.heap.size + 1) w3 wr)) (fun _ i _ => L.length - (intOf i).toNat)
  case atStart => exact ⟨0, .slice none 0 0, Nat.zero_le _, rfl, X3.out, RowV.nil _ _ _, Turn.refl _ _⟩
  case round =>
    obtain ⟨k, v, hk, rfl, HX, HRV, HBU⟩ := hrel
    have HBW : Hid (Below w.heap.size w wr) := (((Turn.of (S := fun i => w.heap.size ≤ i) B3.out).trans' (HBU.out.mono fun i _ e => by omega)).below (Nat.le_refl _) fun i hi h => by omega)
    by_cases hlt : k < L.length
    · have hks2 : ∃ g, ka = some ⟨g, 0, none⟩ ∧ w2.heap.size ≤ g ∧ g < w3.heap.size ∧ ∀ i (h : i < L.length), w3.cell? ⟨g, i, none⟩ = some (.string L[i].1.name) := by
        rcases HKS.out with h0 | h0
        · rw [h0] at hlt; exact absurd hlt (by simp)
        · exact h0
      obtain ⟨g, rfl, hg1, hg2, hgc⟩ := hks2
      have hx2 := HX2.out
      have hkey : wr.cell? ⟨g, k, none⟩ = some (.string L[k].1.name) := (World.cell?_of_block (HBU.out.block g hg2 (by omega))).trans (hgc k hlt)
      obtain ⟨x, S, HQ0⟩ := HLK.out k hlt
      have HQ := hid HQ0
      have HTK := hid (HTL.out k hlt x S)
      have HLT : Hid ((L.take (k + 1)).map (·.1) = (L.take k).map (·.1) ++ [L[k].1]) := by show _ = _; rw [List.take_succ_eq_append_getElem hlt, List.map_append]; rfl
      have HLL : Hid (((L.take k).map (·.1)).length = k) := by show _ = _; rw [List.length_map, List.length_take]; omega
      have hsz3 : w3.heap.size ≤ wr.heap.size := HBU.out.size
      have hB3s : w.heap.size ≤ w3.heap.size := B3.out.size
      clear hgc HQ0
      generalize (L.take k).map (·.1) = TS at *
      generalize L[k].1 = t at *
      obtain ⟨T, ys, hV1, hV2, hV3, hV4⟩ := HRV.out
      have HV1 := hid hV1
      have HV2 := hid hV2
      have HV3 := hid hV3
      have HV4 := hid hV4
      have hob : ∀ q, v.ownBlock = some q → w3.heap.size ≤ q ∧ q < wr.heap.size := fun q hq => hV1.lt q hq
      have agv : v.ownBlock ≠ some (w.heap.size + 1) := fun e => by have := (hob _ e).1; omega
      have HCL : Hid (∀ W, Below wr.heap.size wr W → W.cell? ⟨w.heap.size + 1, 1, none⟩ = some v) := fun W hW => (HX.out.later hW).cell 1
      have v5 : wr.cell? ⟨w.heap.size + 1, 1, none⟩ = some v := HX.out.cell 1
      obtain ⟨q1, q2, q3⟩ := HQ.out wr.drew HBW.out.drew
      have Q3 := hid q3
      have hxw : l < wr.heap.size := by omega
      have hXw : w.heap.size + 1 < wr.heap.size := by omega
      clear hV1 hV2 hV3 hV4 q3
      go_wp2_with fail
      go_region_law
        (first
          | ((fail_if_success (have q := hb4)); refine step_enterT (f := 73) (args := #[.pointer (some ⟨x, 0, none⟩), .string t.name]) rfl (by go_simp) ?_; refine (HTK.out _ Q3.out).mono ?_; rintro e w4 ⟨M4, a1, d1, a2, d2, rfl, hM, o1, o1M, o2, oM, hb4⟩; have b4 : Below wr.heap.size wr w4 := bto (Below.refl _ _).drew hb4; have x4 := HCL.out _ b4; have x5 : (w4.alloc (.cells #[.string t.name, .int .i64 t.limit, .slice a1 t.mets.length d1, .slice a2 t.sers.length d2] 55)).cell? ⟨w.heap.size + 1, 1, none⟩ = some v := HCL.out _ (bto b4 (bnew _ _)); have O := hid (And.intro hM (And.intro o1 (And.intro o1M (And.intro o2 oM)))); clear hM o1 o1M o2 oM; refine ⟨_, rfl, ?_⟩)
          | (have q := hb4; clear q; refine step_append_lies _ (by rfl) _ _ _ (by rfl) w3.heap.size 55 i1 _ 4 72 Tryz.underlying31 HI1.out hq10 hq11 hq12 rfl (by omega) v k (flatV ys) (by rfl) (by exact (row_later (row_later HV1.out b4) (bnew _ _))) ⟨w4.heap.size, 0, none⟩ 1 1 [.string t.name, .int .i64 t.limit, .slice a1 t.mets.length d1, .slice a2 t.sers.length d2] (by rfl) (by rfl) (by exact World.news_of_block (cs := #[.string t.name, .int .i64 t.limit, .slice a1 t.mets.length d1, .slice a2 t.sers.length d2]) (heap_alloc_new _ _)) (by simp [Value.oneCell']) (by omega) (by unfold maxLen; omega) (by omega) (by have := b4.size; simp; omega) (w4.heap.size + 1) (by simp) ?_; intro gg cap w5 hown5 hgrow hat hlt5; have HX5 : Hid (Blk w5 (w.heap.size + 1) #[.int .i64 now, v] 33) := (Turn.grown hgrow).blk ((HX.out.later b4).alloc _) agv; have s5 := HX5.out.cell 1; have f5 := HX5.out.free 1))
      all_goals (
        have hsz4 := b4.size
        have hgg : (v.ownBlock = some gg ∧ gg < wr.heap.size) ∨ w4.heap.size ≤ gg := by
          rcases hat with h | h
          · exact Or.inl ⟨h, (hob _ h).2⟩
          · exact Or.inr (by omega)
        have hset : Turn (· = w.heap.size + 1) w5 (w5.setCell ⟨w.heap.size + 1, 1, none⟩ (.slice (some ⟨gg, 0, none⟩) (k + 1) cap)) := (Turn.refl (· = w.heap.size + 1) w5).setCell (Or.inl rfl) 1 _
        have hk5 : ∀ g, g < w4.heap.size → w3.heap.size ≤ g → v.ownBlock ≠ some g → (w5.setCell ⟨w.heap.size + 1, 1, none⟩ (.slice (some ⟨gg, 0, none⟩) (k + 1) cap)).heap[g]? = w4.heap[g]? := fun g hg hgR2 hne => by
          rw [hset.block g (by have := hgrow.size; simp at this; omega) (by omega), (Turn.grown hgrow).block g (by simp; omega) hne]
          exact (bnew _ _).block g hg
        have HX6 : Hid (Blk (w5.setCell ⟨w.heap.size + 1, 1, none⟩ (.slice (some ⟨gg, 0, none⟩) (k + 1) cap)) (w.heap.size + 1) #[.int .i64 now, .slice (some ⟨gg, 0, none⟩) (k + 1) cap] 33) := hid (by have := HX5.out.set 1 (.slice (some ⟨gg, 0, none⟩) (k + 1) cap); simpa using this)
        have HT6 : Hid (Turn (· = w.heap.size + 1) w3 (w5.setCell ⟨w.heap.size + 1, 1, none⟩ (.slice (some ⟨gg, 0, none⟩) (k + 1) cap))) := (HBU.out.trans ((Turn.of (bto b4 (bnew _ _))).trans' ((Turn.grown hgrow).mono fun i _ e => Or.inr (hob i e).1))).trans' hset
        have HR6 : Hid (RowV (w5.setCell ⟨w.heap.size + 1, 1, none⟩ (.slice (some ⟨gg, 0, none⟩) (k + 1) cap)) w3.heap.size 55 (.slice (some ⟨gg, 0, none⟩) (k + 1) cap) (k + 1) ((L.take (k + 1)).map (·.1))) := by
          refine hid ?_
          rw [HLT.out]
          have hyk : ys.length = k := by have h1 := HLL.out; rw [← HV2.out, List.length_map] at h1; exact h1
          exact RowV.snoc (wr := wr) (w4 := w4) (M := M4) (v := v) (T := T) (ys := ys) (hset.row hown5 (fun q hq e => by simp [Value.ownBlock] at hq; rcases hgg with h | h <;> first | (have := (hob _ h.1).1; omega) | omega)) HV2.out hyk HV3.out HV4.out (by omega) O.out.1
            (fun g hg hgR2 hne => (hk5 g (by omega) hgR2 hne).trans (b4.block g hg))
            (fun g hg hg4 => hk5 g hg4 (by omega) (fun e => by have := (hob _ e).2; omega))
            O.out.2.1 O.out.2.2.1 O.out.2.2.2.1 hgg hsz4 O.out.2.2.2.2)
      all_goals clear hown5 hgrow hat s5 f5 HX5 hset hk5
      all_goals go_wp2
      all_goals exact ⟨⟨k + 1, _, by omega, by go_num, HX6.out, HR6.out, HT6.out⟩, by simp [intOf]; omega⟩
    · have ek : k = L.length := by omega
      have HRE : Hid (RowV wr w3.heap.size 55 v L.length (L.map (·.1))) := by
        have := HRV.out
        rw [ek, List.take_length] at this
        exact this
      obtain ⟨ra, rc, rfl⟩ := HRE.out.row
      have YW : Hid (Blk wr w.heap.size #[.int .i64 0, .slice none 0 0] 33) := HBU.out.blk Y3.out (by omega)
      have x0 : wr.cell? ⟨w.heap.size + 1, 0, none⟩ = some (.int .i64 now) := HX.out.cell 0
      have x1 : wr.cell? ⟨w.heap.size + 1, 1, none⟩ = some (.slice ra L.length rc) := HX.out.cell 1
      have y0 : wr.cell? ⟨w.heap.size, 0, none⟩ = some (.int .i64 0) := YW.out.cell 0
      have y1 : wr.cell? ⟨w.heap.size, 1, none⟩ = some (.slice none 0 0) := YW.out.cell 1
      have f0 := YW.out.free 0
      have f1 := YW.out.free 1
      have h31 : w.heap.size + 1 < w3.heap.size := lt_of_block X3.out
      go_wp2
      have HTE : Turn (· = w.heap.size) wr ((wr.setCell ⟨w.heap.size, 0, none⟩ (.int .i64 now)).setCell ⟨w.heap.size, 1, none⟩ (.slice ra L.length rc)) := ((Turn.refl (· = w.heap.size) wr).setCell (Or.inl rfl) 0 _).setCell (Or.inl rfl) 1 _
      refine bodyPost_ret (v := .agg #[.int .i64 now, .slice ra L.length rc]) (by simp [results, Tryz.results43, go_sem, y0, y1]) rfl ⟨ra, rc, rfl, ((HRE.out.turn HTE (fun g e => by omega)).own (by rw [List.length_map])).mono (by omega), ((Turn.of (S := fun i => w.heap.size ≤ i) HBW.out).trans' (HTE.mono fun i _ e => by omega)).below (Nat.le_refl _) fun i hi h => by omega⟩
end Go.Proofs.YtojeemogabhaoaaGreatDoor
