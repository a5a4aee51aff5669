import Derived.Test.YtpajhkikcofhfaaGreatDoorJ02LabB
import Derived.Test.YtpajhkikcofhfaaGreatDoorProg
import Derived.Test.YtpajhkikcofhfaaGreatDoorJ22TenV
import Derived.Test.YtpajhkikcofhfaaGreatDoorJ16QTail
import Derived.Test.YtpajhkikcofhfaaGreatDoorJ20FitO
import Derived.Deep.AppendLies
import Derived.Deep.RegionLaw
import Derived.Test.YtpajhkikcofhfaaGreatDoorJ05HpM
import Derived.Test.YtpajhkikcofhfaaGreatDoorJ06IdxM
import Derived.Test.YtpajhkikcofhfaaGreatDoorJ10SName
import Derived.Test.YtpajhkikcofhfaaGreatDoorJ19TenF
import Derived.Deep.RegionHeld3
import Derived.Deep.DeepCutAuto
import Derived.Test.YtpajhkikcofhfaaGreatDoorJ15ILim
namespace Go.Proofs.YtpajhkikcofhfaaGreatDoor
open Go.RowKit

/-- A tenant t is handed back under the name nm, its two lists in blocks of their own made since, the first ones ahead of M, the second from M on. -/
def TelOut (w : World) (nm : ByteArray) (t : TenD) (e : Ending) (w' : World) : Prop :=
  ∃ M a1 c1 a2 c2, e = .returned (.agg #[.string nm, .int .i64 t.limit, .slice a1 t.mets.length c1, .slice a2 t.sers.length c2]) ∧ w.heap.size ≤ M ∧ PairsOwn w' w.heap.size a1 t.mets ∧ (∀ g o, a1 = some ⟨g, o, none⟩ → g < M) ∧ PairsOwn w' M a2 t.sers ∧ M ≤ w'.heap.size ∧ Below w.heap.size w w'
def flatK (ps : List PairD) : List Value := ps.flatMap fun x => [.string x.s, .int .i64 x.n]
/-- The same, the second list a row that may be written. -/
def TelOutR (w : World) (nm : ByteArray) (t : TenD) (e : Ending) (w' : World) : Prop :=
  ∃ M a1 c1 a2 c2, e = .returned (.agg #[.string nm, .int .i64 t.limit, .slice a1 t.mets.length c1, .slice a2 t.sers.length c2]) ∧ w.heap.size ≤ M ∧ PairsOwn w' w.heap.size a1 t.mets ∧ (∀ g o, a1 = some ⟨g, o, none⟩ → g < M) ∧ w'.ownsRow M 102 2 (.slice a2 t.sers.length c2) t.sers.length (flatK t.sers) ∧ M ≤ w'.heap.size ∧ Below w.heap.size w w'
theorem TelOutR.tel {w : World} {nm : ByteArray} {t : TenD} {e : Ending} {w' : World} (h : TelOutR w nm t e w') : TelOut w nm t e w' := by
  obtain ⟨M, a1, c1, a2, c2, h1, h2, h3, h4, h5, h6⟩ := h
  exact ⟨M, a1, c1, a2, c2, h1, h2, h3, h4, pairs_of_row h5, h6⟩
theorem flatK_append (a b : List PairD) : flatK (a ++ b) = flatK a ++ flatK b := by simp [flatK]
theorem flatK_length (ps : List PairD) : (flatK ps).length = ps.length * 2 := by
  induction ps with
  | nil => rfl
  | cons x r ih => simp only [flatK, List.flatMap_cons, List.length_append, List.length_cons, List.length_nil] at ih ⊢; omega
theorem flatK_cell (ps : List PairD) : ∀ u ∈ flatK ps, u.oneCell' = true := by
  intro u hu
  simp only [flatK, List.mem_flatMap] at hu
  obtain ⟨x, _, hu⟩ := hu
  simp only [List.mem_cons, List.mem_nil_iff, or_false] at hu
  rcases hu with rfl | rfl <;> rfl
theorem flatK_get : ∀ (ps : List PairD) (j : Nat) (u : Value), (flatK ps)[j]? = some u → ∃ i, ∃ h : i < ps.length, (j = i * 2 ∧ u = .string ps[i].s) ∨ (j = i * 2 + 1 ∧ u = .int .i64 ps[i].n)
  | [], j, u, h => by simp [flatK] at h
  | x :: r, 0, u, h => ⟨0, by simp, Or.inl ⟨rfl, by simpa [flatK] using h.symm⟩⟩
  | x :: r, 1, u, h => ⟨0, by simp, Or.inr ⟨rfl, by simpa [flatK] using h.symm⟩⟩
  | x :: r, j + 2, u, h => by
    have h' : (flatK r)[j]? = some u := by simpa [flatK] using h
    obtain ⟨i, hi, q⟩ := flatK_get r j u h'
    refine ⟨i + 1, by simpa using hi, ?_⟩
    rcases q with ⟨e, q⟩ | ⟨e, q⟩
    · exact Or.inl ⟨by omega, by simpa using q⟩
    · exact Or.inr ⟨by omega, by simpa using q⟩
/-- The cells of pairs that lie at an address. -/
theorem pairs_news {w : World} {b o : Nat} {ps : List PairD} (h : ∀ i (hi : i < ps.length), w.cell? ⟨b, o + i * 2, none⟩ = some (.string ps[i].s) ∧ w.cell? ⟨b, o + i * 2 + 1, none⟩ = some (.int .i64 ps[i].n)) :
    ∀ j u, (flatK ps)[j]? = some u → w.cell? ((⟨b, o, none⟩ : Addr).add j) = some u := by
  intro j u hu
  have hadd : (⟨b, o, none⟩ : Addr).add j = ⟨b, o + j, none⟩ := by unfold Addr.add; split <;> simp_all
  rw [hadd]
  obtain ⟨i, hi, q⟩ := flatK_get ps j u hu
  rcases q with ⟨rfl, rfl⟩ | ⟨rfl, rfl⟩
  · exact (h i hi).1
  · exact (h i hi).2
end Go.Proofs.YtpajhkikcofhfaaGreatDoor

namespace Go.Proofs.YtpajhkikcofhfaaGreatDoor
open Go.RowKit Go.Maps

theorem step_enterT {P : Program} {w : World} {ops : Array Oper} {o : Oper} {a : Act} {K : Act → World → Prop} {Q : Exit → Act → World → Prop} {E : Prop} {f : FuncId} {args : Array Value} (hgd : o.guard = none) (hx : (execOp a.eval o).run P w = .ok (.enter f args) w)
    (h : Calls P f args w (fun e w' => ∃ v, e = .returned v ∧ K (a.put o.dst v) w')) : if Region.wanted o (yielded ops a.tmps) = true then Oper.wp P o a w K Q else E := by
  have hw : Region.wanted o (yielded ops a.tmps) = true := by simp [Region.wanted, hgd]
  rw [if_pos hw]
  unfold Oper.wp
  rw [hx]
  refine h.mono ?_
  rintro e w' ⟨v, rfl, hK⟩
  exact hK
/-- The names, sorted, of a ledger's map. -/
theorem sorted_tens (m : Nat) (L : List (TenD × Nat)) (w : World) (h : w.ownsMap Tryz.prog 9 ptrElem m L.length (mapOf (L.map fun p => (p.1.name, pVal p.2)))) (hr : RiseBy (fun p : TenD × Nat => p.1.name) L) (hl : L.length ≤ 1000000000) :
    Calls Tryz.prog 46 #[.func (.func 68) #[] #[.pointer (some ⟨w.heap.size, 0, none⟩)]] (w.alloc (.cells #[.map (some m)] 81)) fun e w' => ∃ v, e = .returned v ∧ w'.ownsRow w.heap.size 9 1 v L.length (L.map fun p => .string p.1.name) ∧ Below w.heap.size w w' := by
  have hsz : Maps.size (mapOf (L.map fun p => (p.1.name, pVal p.2))) = L.length := by rw [size_by]
  refine Calls.mono (callsIn_wide.1 (Tryz.slices_Sorted_keys_46_47 m _ _ ptrElem w h (by rw [hsz]; unfold maxLen; omega) (by rw [hsz]; omega))) ?_
  rintro e w1 ⟨v, ss, rfl, hp, hrow, _, hb⟩
  have hk : (strKeys (mapOf (L.map fun p => (p.1.name, pVal p.2)))) = L.map fun p => p.1.name.data.toList := by
    rw [strKeys_mapOf, List.map_map]
    rfl
  rw [hk] at hp
  have hlen : ss.length = L.length := by rw [hp.length_eq, List.length_map]
  rw [sort_rise (key := fun p : TenD × Nat => p.1.name) hr hp, enc_keys (fun p : TenD × Nat => p.1.name), hlen] at hrow
  exact ⟨v, rfl, row_base hrow (by simp), bto (bnew _ _) hb⟩
theorem row_names {W : World} {B : Nat} {e : TypeId} {v : Value} {L : List (TenD × Nat)} (h : W.ownsRow B e 1 v L.length (L.map fun p => .string p.1.name)) :
    ∃ ka kc, v = .slice ka L.length kc ∧ (L = [] ∨ ∃ g, ka = some ⟨g, 0, none⟩ ∧ B ≤ g ∧ g < W.heap.size ∧ ∀ i (h : i < L.length), W.cell? ⟨g, i, none⟩ = some (.string L[i].1.name)) := by
  rcases h.2 with ⟨rfl, hl⟩ | ⟨g, cap, cur, rfl, hB, hg, _, _, hsz, htk⟩
  · refine ⟨none, 0, by rw [hl], Or.inl (List.length_eq_zero_iff.1 hl)⟩
  · refine ⟨_, cap, rfl, Or.inr ⟨g, rfl, hB, lt_of_block hg, fun i hi => ?_⟩⟩
    have hc : W.cell? ⟨g, i, none⟩ = cur[i]? := Blk.cell (show Blk W g cur e from hg) i
    rw [hc, ← Array.getElem?_toList]
    have : (cur.toList.take (L.length * 1))[i]? = (L.map fun p => Value.string p.1.name)[i]? := by rw [htk]
    rw [List.getElem?_take, if_pos (by omega)] at this
    rw [this, List.getElem?_map, List.getElem?_eq_getElem hi]
    rfl
/-- The index of the tenant i. -/
theorem look_ten {w : World} {B : Nat} {T : Nat → Option Nat} {l m : Nat} {c : CfgD} {now : Int} {L : List (TenD × Nat)} {M : Nat} (h : LedS w B T l m c now L M) (i : Nat) (hi : i < L.length) (hz : L[i].1.name.size ≤ maxLen) :
    ∃ x S, ∀ W, Below w.heap.size w W → W.cell? ⟨l, 7, none⟩ = some (.map (some m)) ∧ (Instr.lookup 81 (.map (some m)) (.string L[i].1.name) false).run Tryz.prog W = .ok (.pointer (some ⟨x, 0, none⟩)) W ∧ IdxAt W S x L[i].1 M := by
  have hq : L[i] ∈ L := List.getElem_mem hi
  refine ⟨L[i].2, _, fun W hW => ⟨(h.blk.later hW).cell 7, ?_, (h.idx _ hq).later hW⟩⟩
  obtain ⟨v, ps, hrun, hv⟩ := World.ownsMap.lookup ((Turn.of hW).map (S := fun _ => False) h.ten (fun e => e)) keyed Tryz.underlying81 (show (zeroValue 89).run Tryz.prog W = .ok (.pointer none) W by kernel_rfl) (zd := .nil) (zp := []) rfl (key_mk hz)
  rw [hrun]
  rw [atKey_by (key := fun q : TenD × Nat => q.1.name) (fun q => pVal q.2), getBy_of_mem (key := fun q : TenD × Nat => q.1.name) h.rise hq] at hv
  rw [ptrElem_inv hv]

def FitL (ts : List TenD) : Prop := ∀ t ∈ ts, t.name.size ≤ maxLen ∧ (∀ i (h : i < t.mets.length), t.mets[i].s.size ≤ maxLen) ∧ (∀ i (h : i < t.sers.length), t.sers[i].s.size ≤ maxLen) ∧ t.mets.length ≤ 2000000 ∧ t.sers.length ≤ 2000000

set_option maxRecDepth 100000 in
set_option maxHeartbeats 8000000 in
theorem ltell_any (l m : Nat) (c : CfgD) (now : Int) (B : Nat) (ts : List TenD) (M : Nat) (w : World) (h : LedAt w B l m c now ts M) (hfit : FitL ts) (hlen : ts.length ≤ 2000000) :
    Calls Tryz.prog 23 #[.pointer (some ⟨l, 0, none⟩)] w fun e w' => ∃ a cap, e = .returned (.agg #[.int .i64 now, .slice a ts.length cap]) ∧ TensOwn w' w.heap.size a ts ∧ Below w.heap.size w w' := by
  obtain ⟨T0, L, h, rfl⟩ := h
  rw [List.length_map] at hlen ⊢
  have c6 : w.cell? ⟨l, 6, none⟩ = some (.int .i64 now) := h.blk.cell 6
  have hll := lt_of_block h.blk
  have HL7 : Hid (∀ W, Below w.heap.size w W → W.cell? ⟨l, 7, none⟩ = some (.map (some m))) := fun W hW => (h.blk.later hW).cell 7
  have HLK : Hid (∀ i (hi : i < L.length), ∃ x S, ∀ W, Below w.heap.size w W → W.cell? ⟨l, 7, none⟩ = some (.map (some m)) ∧ (Instr.lookup 81 (.map (some m)) (.string L[i].1.name) false).run Tryz.prog W = .ok (.pointer (some ⟨x, 0, none⟩)) W ∧ IdxAt W S x L[i].1 M) := fun i hi => look_ten h i hi (hfit _ (List.mem_map_of_mem (List.getElem_mem hi))).1
  have HTL : Hid (∀ i (hi : i < L.length) x S W, IdxAt W S x L[i].1 M → Calls Tryz.prog 48 #[.pointer (some ⟨x, 0, none⟩), .string L[i].1.name] W fun e w' => TelOut W L[i].1.name L[i].1 e w') := fun i hi x S W hix => by
    obtain ⟨_, f1, f2, f3, f4⟩ := hfit _ (List.mem_map_of_mem (f := (·.1)) (List.getElem_mem hi))
    refine (tell_any x L[i].1.name L[i].1 S M W hix f1 f2 (by omega) (by omega)).mono ?_
    rintro e w' ⟨v1, v2, M', rfl, r1, hM1, hM2, hM3, r2, hb⟩
    obtain ⟨a1, c1, rfl⟩ := row_form r1
    obtain ⟨a2, c2, rfl⟩ := row_form r2
    exact ⟨M', a1, c1, a2, c2, rfl, hM2, pairs_of_row r1, fun g o e => hM1 g (by rw [e]; rfl), pairs_of_row r2, hM3, hb⟩
  have HSL : Hid (∀ W, Below w.heap.size w W → Calls Tryz.prog 46 #[.func (.func 68) #[] #[.pointer (some ⟨W.heap.size, 0, none⟩)]] (W.alloc (.cells #[.map (some m)] 81)) fun e w' => ∃ v, e = .returned v ∧ w'.ownsRow W.heap.size 9 1 v L.length (L.map fun p => .string p.1.name) ∧ Below W.heap.size W w') := fun W hW => sorted_tens m L W ((Turn.of hW).map (S := fun _ => False) h.ten (fun e => e)) h.rise (by omega)
  have HMK : Hid (∀ W, Calls Tryz.prog 47 #[.map (some m)] W fun e w' => e = .returned (.func (.func 68) #[] #[.pointer (some ⟨W.heap.size, 0, none⟩)]) ∧ w' = W.alloc (.cells #[.map (some m)] 81)) := fun W => callsIn_wide.1 (Tryz.maps_Keys_47 (some m) W)
  unfold TelOut at HTL
  clear h hfit
  have B2 : Hid (Below w.heap.size w ((w.alloc (.cells #[.int .i64 0, .slice none 0 0] 41)).alloc (.cells #[.int .i64 now, .slice none 0 0] 41))) := bto (bnew _ _) (bnew _ _)
  have c7 : ((w.alloc (.cells #[.int .i64 0, .slice none 0 0] 41)).alloc (.cells #[.int .i64 now, .slice none 0 0] 41)).cell? ⟨l, 7, none⟩ = some (.map (some m)) := HL7.out _ B2.out
  go_enter Tryz.func23, Tryz.ntmps23
  go_wp2_with fail
  refine (HMK.out _).mono ?_
  rintro e w1 ⟨rfl, rfl⟩
  have X2 : Hid (Blk ((w.alloc (.cells #[.int .i64 0, .slice none 0 0] 41)).alloc (.cells #[.int .i64 now, .slice none 0 0] 41)) (w.heap.size + 1) #[.int .i64 now, .slice none 0 0] 41) := hid (by have := Blk.new (w.alloc (.cells #[.int .i64 0, .slice none 0 0] 41)) #[.int .i64 now, .slice none 0 0] 41; simpa using this)
  have Y2 : Hid (Blk ((w.alloc (.cells #[.int .i64 0, .slice none 0 0] 41)).alloc (.cells #[.int .i64 now, .slice none 0 0] 41)) w.heap.size #[.int .i64 0, .slice none 0 0] 41) := (Blk.new _ _ _).alloc _
  clear c7 c6
  generalize (w.alloc (.cells #[.int .i64 0, .slice none 0 0] 41)).alloc (.cells #[.int .i64 now, .slice none 0 0] 41) = w2 at *
  go_wp2_with fail
  refine (HSL.out _ B2.out).mono ?_
  rintro e w3 ⟨kv, rfl, hrow, hb3⟩
  obtain ⟨ka, kc, rfl, hks⟩ := row_names hrow
  have HKS := hid hks
  have B3 : Hid (Below w.heap.size w w3) := bto B2.out hb3
  have X3 : Hid (Blk w3 (w.heap.size + 1) #[.int .i64 now, .slice none 0 0] 41) := X2.out.later hb3
  have Y3 : Hid (Blk w3 w.heap.size #[.int .i64 0, .slice none 0 0] 41) := Y2.out.later hb3
  have HX2 : Hid (w.heap.size + 1 < w2.heap.size) := lt_of_block X2.out
  clear hrow hks hb3 X2 Y2 B2 HSL HMK
  obtain ⟨i1, hi1, hq10, hq11, hq12⟩ := info_parts info_tenant
  have HI1 : Hid (Tryz.prog.info? 87 = some i1) := hi1
  clear hi1
  go_wp2
  go_loopw [5, 18] (fun _ i wr => ∃ (k : Nat) (v : Value), k ≤ L.length ∧ i = .int .i64 k ∧ Hid (Blk wr (w.heap.size + 1) #[.int .i64 now, v] 41) ∧ Hid (RowV wr w3.heap.size 87 v k ((L.take k).map (·.1))) ∧ Hid (Turn (· = w.heap.size + 1) w3 wr)) (fun _ i _ => L.length - (intOf i).toNat)
  case atStart => exact ⟨0, .slice none 0 0, Nat.zero_le _, rfl, X3.out, RowV.nil _ _ _, Turn.refl _ _⟩
  case round =>
    obtain ⟨k, v, hk, rfl, HX, HRV, HBU⟩ := hrel
    have HBW : Hid (Below w.heap.size w wr) := (((Turn.of (S := fun i => w.heap.size ≤ i) B3.out).trans' (HBU.out.mono fun i _ e => by omega)).below (Nat.le_refl _) fun i hi h => by omega)
    by_cases hlt : k < L.length
    · have hks2 : ∃ g, ka = some ⟨g, 0, none⟩ ∧ w2.heap.size ≤ g ∧ g < w3.heap.size ∧ ∀ i (h : i < L.length), w3.cell? ⟨g, i, none⟩ = some (.string L[i].1.name) := by
        rcases HKS.out with h0 | h0
        · rw [h0] at hlt; exact absurd hlt (by simp)
        · exact h0
      obtain ⟨g, rfl, hg1, hg2, hgc⟩ := hks2
      have hx2 := HX2.out
      have hkey : wr.cell? ⟨g, k, none⟩ = some (.string L[k].1.name) := (World.cell?_of_block (HBU.out.block g hg2 (by omega))).trans (hgc k hlt)
      obtain ⟨x, S, HQ0⟩ := HLK.out k hlt
      have HQ := hid HQ0
      have HTK := hid (HTL.out k hlt x S)
      have HLT : Hid ((L.take (k + 1)).map (·.1) = (L.take k).map (·.1) ++ [L[k].1]) := by show _ = _; rw [List.take_succ_eq_append_getElem hlt, List.map_append]; rfl
      have HLL : Hid (((L.take k).map (·.1)).length = k) := by show _ = _; rw [List.length_map, List.length_take]; omega
      have hsz3 : w3.heap.size ≤ wr.heap.size := HBU.out.size
      have hB3s : w.heap.size ≤ w3.heap.size := B3.out.size
      clear hgc HQ0

      generalize (L.take k).map (·.1) = TS at *
      generalize L[k].1 = t at *
      obtain ⟨T, ys, hV1, hV2, hV3, hV4⟩ := HRV.out
      have HV1 := hid hV1
      have HV2 := hid hV2
      have HV3 := hid hV3
      have HV4 := hid hV4
      have hob : ∀ q, v.ownBlock = some q → w3.heap.size ≤ q ∧ q < wr.heap.size := fun q hq => hV1.lt q hq
      have agv : v.ownBlock ≠ some (w.heap.size + 1) := fun e => by have := (hob _ e).1; omega
      have HCL : Hid (∀ W, Below wr.heap.size wr W → W.cell? ⟨w.heap.size + 1, 1, none⟩ = some v) := fun W hW => (HX.out.later hW).cell 1
      have v5 : wr.cell? ⟨w.heap.size + 1, 1, none⟩ = some v := HX.out.cell 1
      obtain ⟨q1, q2, q3⟩ := HQ.out wr.drew HBW.out.drew
      have Q3 := hid q3
      have hxw : l < wr.heap.size := by omega
      have hXw : w.heap.size + 1 < wr.heap.size := by omega
      clear hV1 hV2 hV3 hV4 q3
      go_wp2_with fail
      go_region_law
        (first
          | ((fail_if_success (have q := hb4)); refine step_enterT (f := 48) (args := #[.pointer (some ⟨x, 0, none⟩), .string t.name]) rfl (by go_simp) ?_; refine (HTK.out _ Q3.out).mono ?_; rintro e w4 ⟨M4, a1, d1, a2, d2, rfl, hM, o1, o1M, o2, oM, hb4⟩; have b4 : Below wr.heap.size wr w4 := bto (Below.refl _ _).drew hb4; have x4 := HCL.out _ b4; have x5 : (w4.alloc (.cells #[.string t.name, .int .i64 t.limit, .slice a1 t.mets.length d1, .slice a2 t.sers.length d2] 87)).cell? ⟨w.heap.size + 1, 1, none⟩ = some v := HCL.out _ (bto b4 (bnew _ _)); have O := hid (And.intro hM (And.intro o1 (And.intro o1M (And.intro o2 oM)))); clear hM o1 o1M o2 oM; refine ⟨_, rfl, ?_⟩)
          | (have q := hb4; clear q; refine step_append_lies _ (by rfl) _ _ _ (by rfl) w3.heap.size 87 i1 _ 4 72 Tryz.underlying39 HI1.out hq10 hq11 hq12 rfl (by omega) v k (flatV ys) (by rfl) (by exact (row_later (row_later HV1.out b4) (bnew _ _))) ⟨w4.heap.size, 0, none⟩ 1 1 [.string t.name, .int .i64 t.limit, .slice a1 t.mets.length d1, .slice a2 t.sers.length d2] (by rfl) (by rfl) (by exact World.news_of_block (cs := #[.string t.name, .int .i64 t.limit, .slice a1 t.mets.length d1, .slice a2 t.sers.length d2]) (heap_alloc_new _ _)) (by simp [Value.oneCell']) (by omega) (by unfold maxLen; omega) (by omega) (by have := b4.size; simp; omega) (w4.heap.size + 1) (by simp) ?_; intro gg cap w5 hown5 hgrow hat hlt5; have HX5 : Hid (Blk w5 (w.heap.size + 1) #[.int .i64 now, v] 41) := (Turn.grown hgrow).blk ((HX.out.later b4).alloc _) agv; have s5 := HX5.out.cell 1; have f5 := HX5.out.free 1))
      all_goals (
        have hsz4 := b4.size
        have hgg : (v.ownBlock = some gg ∧ gg < wr.heap.size) ∨ w4.heap.size ≤ gg := by
          rcases hat with h | h
          · exact Or.inl ⟨h, (hob _ h).2⟩
          · exact Or.inr (by omega)
        have hset : Turn (· = w.heap.size + 1) w5 (w5.setCell ⟨w.heap.size + 1, 1, none⟩ (.slice (some ⟨gg, 0, none⟩) (k + 1) cap)) := (Turn.refl (· = w.heap.size + 1) w5).setCell (Or.inl rfl) 1 _
        have hk5 : ∀ g, g < w4.heap.size → w3.heap.size ≤ g → v.ownBlock ≠ some g → (w5.setCell ⟨w.heap.size + 1, 1, none⟩ (.slice (some ⟨gg, 0, none⟩) (k + 1) cap)).heap[g]? = w4.heap[g]? := fun g hg hgR2 hne => by
          rw [hset.block g (by have := hgrow.size; simp at this; omega) (by omega), (Turn.grown hgrow).block g (by simp; omega) hne]
          exact (bnew _ _).block g hg
        have HX6 : Hid (Blk (w5.setCell ⟨w.heap.size + 1, 1, none⟩ (.slice (some ⟨gg, 0, none⟩) (k + 1) cap)) (w.heap.size + 1) #[.int .i64 now, .slice (some ⟨gg, 0, none⟩) (k + 1) cap] 41) := hid (by have := HX5.out.set 1 (.slice (some ⟨gg, 0, none⟩) (k + 1) cap); simpa using this)
        have HT6 : Hid (Turn (· = w.heap.size + 1) w3 (w5.setCell ⟨w.heap.size + 1, 1, none⟩ (.slice (some ⟨gg, 0, none⟩) (k + 1) cap))) := (HBU.out.trans ((Turn.of (bto b4 (bnew _ _))).trans' ((Turn.grown hgrow).mono fun i _ e => Or.inr (hob i e).1))).trans' hset
        have HR6 : Hid (RowV (w5.setCell ⟨w.heap.size + 1, 1, none⟩ (.slice (some ⟨gg, 0, none⟩) (k + 1) cap)) w3.heap.size 87 (.slice (some ⟨gg, 0, none⟩) (k + 1) cap) (k + 1) ((L.take (k + 1)).map (·.1))) := by
          refine hid ?_
          rw [HLT.out]
          have hyk : ys.length = k := by have h1 := HLL.out; rw [← HV2.out, List.length_map] at h1; exact h1
          exact RowV.snoc (wr := wr) (w4 := w4) (M := M4) (v := v) (T := T) (ys := ys) (hset.row hown5 (fun q hq e => by simp [Value.ownBlock] at hq; rcases hgg with h | h <;> first | (have := (hob _ h.1).1; omega) | omega)) HV2.out hyk HV3.out HV4.out (by omega) O.out.1
            (fun g hg hgR2 hne => (hk5 g (by omega) hgR2 hne).trans (b4.block g hg))
            (fun g hg hg4 => hk5 g hg4 (by omega) (fun e => by have := (hob _ e).2; omega))
            O.out.2.1 O.out.2.2.1 O.out.2.2.2.1 hgg hsz4 O.out.2.2.2.2)
      all_goals clear hown5 hgrow hat s5 f5 HX5 hset hk5
      all_goals go_wp2
      all_goals exact ⟨⟨k + 1, _, by omega, by go_num, HX6.out, HR6.out, HT6.out⟩, by simp [intOf]; omega⟩
    · have ek : k = L.length := by omega
      have HRE : Hid (RowV wr w3.heap.size 87 v L.length (L.map (·.1))) := by
        have := HRV.out
        rw [ek, List.take_length] at this
        exact this
      obtain ⟨ra, rc, rfl⟩ := HRE.out.row
      have YW : Hid (Blk wr w.heap.size #[.int .i64 0, .slice none 0 0] 41) := HBU.out.blk Y3.out (by omega)
      have x0 : wr.cell? ⟨w.heap.size + 1, 0, none⟩ = some (.int .i64 now) := HX.out.cell 0
      have x1 : wr.cell? ⟨w.heap.size + 1, 1, none⟩ = some (.slice ra L.length rc) := HX.out.cell 1
      have y0 : wr.cell? ⟨w.heap.size, 0, none⟩ = some (.int .i64 0) := YW.out.cell 0
      have y1 : wr.cell? ⟨w.heap.size, 1, none⟩ = some (.slice none 0 0) := YW.out.cell 1
      have f0 := YW.out.free 0
      have f1 := YW.out.free 1
      have h31 : w.heap.size + 1 < w3.heap.size := lt_of_block X3.out
      go_wp2
      have HTE : Turn (· = w.heap.size) wr ((wr.setCell ⟨w.heap.size, 0, none⟩ (.int .i64 now)).setCell ⟨w.heap.size, 1, none⟩ (.slice ra L.length rc)) := ((Turn.refl (· = w.heap.size) wr).setCell (Or.inl rfl) 0 _).setCell (Or.inl rfl) 1 _
      refine bodyPost_ret (v := .agg #[.int .i64 now, .slice ra L.length rc]) (by simp [results, Tryz.results23, go_sem, y0, y1]) rfl ⟨ra, rc, rfl, ((HRE.out.turn HTE (fun g e => by omega)).own (by rw [List.length_map])).mono (by omega), ((Turn.of (S := fun i => w.heap.size ≤ i) HBW.out).trans' (HTE.mono fun i _ e => by omega)).below (Nat.le_refl _) fun i hi h => by omega⟩
end Go.Proofs.YtpajhkikcofhfaaGreatDoor

namespace Go.Proofs.YtpajhkikcofhfaaGreatDoor
open Go.RowKit

theorem info_mlK : (Tryz.prog.info? 130).map (fun i => (i.zero, i.size, i.bytes)) = some (some (.agg #[.string ⟨#[]⟩, .int .i64 0]), 2, 24) := by kernel_rfl
theorem info_srK : (Tryz.prog.info? 102).map (fun i => (i.zero, i.size, i.bytes)) = some (some (.agg #[.string ⟨#[]⟩, .int .i64 0]), 2, 24) := by kernel_rfl
theorem keep_take (p : PairD → Bool) (ks : List PairD) (j : Nat) (h : j < ks.length) : (ks.take (j + 1)).filter p = (ks.take j).filter p ++ if p ks[j] = true then [ks[j]] else [] := by
  rw [List.take_succ_eq_append_getElem h, List.filter_append]
  congr 1
  by_cases e : p ks[j] = true
  · rw [if_pos e, List.filter_cons_of_pos e]; rfl
  · rw [if_neg e, List.filter_cons_of_neg e]; rfl
theorem keep_le (p : PairD → Bool) (ks : List PairD) (j : Nat) : ((ks.take j).filter p).length ≤ ks.length := by
  have h1 := List.length_filter_le p (ks.take j)
  rw [List.length_take] at h1
  omega
/-- The box of the new tenant stands, its first list owned; what l4Kept's first region leaves. -/
def KptAt (w1 : World) (t : TenD) (X : Nat) (wx : World) : Prop :=
  ∃ g1 d1, Blk wx X #[.string t.name, .int .i64 t.limit, .slice (some ⟨g1, 0, none⟩) t.mets.length d1, .slice none 0 0] 87 ∧ wx.ownsRow w1.heap.size 130 2 (.slice (some ⟨g1, 0, none⟩) t.mets.length d1) t.mets.length (flatK t.mets) ∧ w1.heap.size ≤ X ∧ g1 ≠ X ∧ Below w1.heap.size w1 wx
theorem new_two (W : World) (cs cs' : Array Value) {t t' : TypeId} : ((W.alloc (.cells cs t)).alloc (.cells cs' t')).drew.heap[W.heap.size + 1]? = some (.cells cs' t' (0, 0)) := by
  have h : Blk ((W.alloc (.cells cs t)).alloc (.cells cs' t')) (W.alloc (.cells cs t)).heap.size cs' t' := Blk.new _ _ _
  have e : (W.alloc (.cells cs t)).heap.size = W.heap.size + 1 := by simp
  rw [e] at h
  exact h
theorem new_one (W : World) (cs : Array Value) {t : TypeId} (o : Obj) : ((W.alloc (.cells cs t)).alloc o).drew.heap[W.heap.size]? = some (.cells cs t (0, 0)) := ((Blk.new W cs t).alloc o)
theorem set4 {w1 w5 : World} {X : Nat} {v0 v1 v2 v3 : Value} (h : Below w1.heap.size w1 w5) (hX : w1.heap.size ≤ X) : Below w1.heap.size w1 ((((w5.setCell ⟨X, 0, none⟩ v0).setCell ⟨X, 1, none⟩ v1).setCell ⟨X, 2, none⟩ v2).setCell ⟨X, 3, none⟩ v3) := (((h.setCell hX _).setCell hX _).setCell hX _).setCell hX _
theorem kpt_box {w1 w5 : World} {t : TenD} {X g5 cap5 n : Nat} (hb : Blk w5 X #[.string ⟨#[]⟩, .int .i64 0, .slice none 0 0, .slice none 0 0] 87) (hX : w1.heap.size ≤ X) (k5 : Below w1.heap.size w1 w5) (ho : w5.ownsRow w1.heap.size 130 2 (.slice (some ⟨g5, 0, none⟩) (0 + t.mets.length) cap5) (0 + t.mets.length) ([] ++ flatK t.mets)) (hg : g5 ≠ X) (hn : n = t.mets.length) :
    KptAt w1 t X ((((w5.setCell ⟨X, 0, none⟩ (.string t.name)).setCell ⟨X, 1, none⟩ (.int .i64 t.limit)).setCell ⟨X, 2, none⟩ (.slice (some ⟨g5, 0, none⟩) n cap5)).setCell ⟨X, 3, none⟩ (.slice none 0 0)) := by
  subst hn
  rw [Nat.zero_add, List.nil_append] at ho
  have ht : Turn (· = X) w5 ((((w5.setCell ⟨X, 0, none⟩ (.string t.name)).setCell ⟨X, 1, none⟩ (.int .i64 t.limit)).setCell ⟨X, 2, none⟩ (.slice (some ⟨g5, 0, none⟩) t.mets.length cap5)).setCell ⟨X, 3, none⟩ (.slice none 0 0)) := ((((Turn.refl (· = X) w5).setCell (Or.inl rfl) 0 _).setCell (Or.inl rfl) 1 _).setCell (Or.inl rfl) 2 _).setCell (Or.inl rfl) 3 _
  refine ⟨g5, cap5, ?_, ht.row ho (fun q hq e => by simp [Value.ownBlock] at hq; omega), hX, hg, set4 k5 hX⟩
  have := (((hb.set 0 (.string t.name)).set 1 (.int .i64 t.limit)).set 2 (.slice (some ⟨g5, 0, none⟩) t.mets.length cap5)).set 3 (.slice none 0 0)
  simpa using this
theorem rk_a (W : World) : (W.alloc (.cells #[] 130)).drew.ownsRow W.heap.size 130 2 (.slice (some ⟨W.heap.size, 0, none⟩) 0 0) 0 [] := (World.ownsRow_made W #[] 0 (Nat.le_refl _) (by simp [maxLen]) (by simp)).drew
theorem rk_b (W : World) (o : Obj) : ((W.alloc (.cells #[] 130)).alloc o).drew.ownsRow W.heap.size 130 2 (.slice (some ⟨W.heap.size, 0, none⟩) 0 0) 0 [] := ((World.ownsRow_made W #[] 0 (Nat.le_refl _) (by simp [maxLen]) (by simp)).alloc o).drew
theorem rk_c (W : World) (o : Obj) : ((W.alloc o).alloc (.cells #[] 130)).drew.ownsRow W.heap.size 130 2 (.slice (some ⟨W.heap.size + 1, 0, none⟩) 0 0) 0 [] := by
  have := (World.ownsRow_made (e := 130) (size := 2) (base := W.heap.size) (W.alloc o) #[] 0 (by simp) (by simp [maxLen]) (by simp)).drew
  simpa using this

end Go.Proofs.YtpajhkikcofhfaaGreatDoor

namespace Go.Proofs.YtpajhkikcofhfaaGreatDoor

/-- One tenant more of the old state: t goes ahead of the first that does not come before it, the one of its name is left out. -/
def wStep (t : TenD) (s : List TenD × Bool) (p : TenD) : List TenD × Bool :=
  (s.1 ++ (if s.2 = true then [] else if blt p.name t.name = true then [] else [t]) ++ (if (p.name.toList == t.name.toList) = true then [] else [p]), if s.2 = true then true else !blt p.name t.name)
def wUpto (t : TenD) (b : Bool) (ps : List TenD) : List TenD × Bool := ps.foldl (wStep t) ([], b)
def wAll (t : TenD) (b : Bool) (ps : List TenD) : List TenD := (wUpto t b ps).1 ++ if (wUpto t b ps).2 = true then [] else [t]
theorem wUpto_take (t : TenD) (b : Bool) (ps : List TenD) (k : Nat) (h : k < ps.length) : wUpto t b (ps.take (k + 1)) = wStep t (wUpto t b (ps.take k)) ps[k] := by
  rw [List.take_succ_eq_append_getElem h, wUpto, List.foldl_append]; rfl
theorem wUpto_acc (t : TenD) (ps : List TenD) : ∀ (acc : List TenD) (b : Bool), ps.foldl (wStep t) (acc, b) = (acc ++ (ps.foldl (wStep t) ([], b)).1, (ps.foldl (wStep t) ([], b)).2) := by
  induction ps with
  | nil => intro acc b; simp
  | cons p r ih =>
    intro acc b
    simp only [List.foldl_cons]
    rw [ih (wStep t (acc, b) p).1 (wStep t (acc, b) p).2, ih (wStep t ([], b) p).1 (wStep t ([], b) p).2]
    simp [wStep]
theorem wAll_cons (t p : TenD) (r : List TenD) (b : Bool) : wAll t b (p :: r) = (wStep t ([], b) p).1 ++ wAll t (wStep t ([], b) p).2 r := by
  unfold wAll wUpto
  rw [List.foldl_cons, wUpto_acc t r (wStep t ([], b) p).1 (wStep t ([], b) p).2]
  simp
theorem wAll_placed {t : TenD} {ps : List TenD} (h : ∀ p ∈ ps, p.name ≠ t.name) : wAll t true ps = ps := by
  induction ps with
  | nil => rfl
  | cons p r ih =>
    rw [wAll_cons]
    have h1 : (p.name.toList == t.name.toList) = false := same_not (h p (List.mem_cons_self ..))
    simp only [wStep, h1, if_true, List.nil_append]
    simp [ih fun q hq => h q (List.mem_cons_of_mem _ hq)]
theorem wAll_ins {t : TenD} {ps : List TenD} (hr : RiseBy (·.name) ps) : wAll t false ps = insBy (·.name) t ps := by
  induction ps with
  | nil => rfl
  | cons p r ih =>
    have ihr := ih hr.tail
    rw [wAll_cons, insBy]
    by_cases h2 : blt p.name t.name = true
    · have h3 : (p.name.toList == t.name.toList) = false := same_not (blt_ne h2)
      simp only [wStep, h2, h3, if_true]
      simp [ihr]
    · have h2' : blt p.name t.name = false := by simpa using h2
      have hnone : ∀ q ∈ r, q.name ≠ t.name := fun q hq e => by
        have hb := hr.head q hq
        rw [e] at hb
        exact h2 hb
      by_cases h3 : p.name = t.name
      · have h4 : (p.name.toList == t.name.toList) = true := (same_iff _ _).2 h3
        simp only [wStep, h2', h4, if_true]
        simp [wAll_placed hnone]
      · have h4 : (p.name.toList == t.name.toList) = false := same_not h3
        simp only [wStep, h2', h4]
        simp [wAll_placed hnone]
theorem kts_take (win now : Int) (ts : List TenD) (k : Nat) (h : k < ts.length) : keptTs win now (ts.take (k + 1)) = keptTs win now (ts.take k) ++ if idleB (keptT win now ts[k]) = true then [] else [keptT win now ts[k]] := by
  rw [List.take_succ_eq_append_getElem h, keptTs, List.map_append, List.filter_append]
  congr 1
  by_cases e : idleB (keptT win now ts[k]) = true
  · rw [if_pos e]
    simp [e]
  · rw [if_neg e]
    simp [e]
theorem kts_le (win now : Int) (ts : List TenD) (k : Nat) : (keptTs win now (ts.take k)).length ≤ ts.length := by
  unfold keptTs
  have h1 := List.length_filter_le (fun t => !idleB t) ((ts.take k).map (keptT win now))
  rw [List.length_map, List.length_take] at h1
  omega
theorem wUpto_le (t : TenD) (b : Bool) (ps : List TenD) : (wUpto t b ps).1.length ≤ 2 * ps.length := by
  induction ps generalizing b with
  | nil => simp [wUpto]
  | cons p r ih =>
    unfold wUpto at ih ⊢
    rw [List.foldl_cons, wUpto_acc t r (wStep t ([], b) p).1 (wStep t ([], b) p).2]
    have := ih (wStep t ([], b) p).2
    have h2 : (wStep t ([], b) p).1.length ≤ 2 := by
      unfold wStep
      simp only [List.nil_append]
      rw [List.length_append]
      have e1 : (if b = true then [] else if blt p.name t.name = true then [] else [t]).length ≤ 1 := by split <;> (try split) <;> simp
      have e2 : (if (p.name.toList == t.name.toList) = true then [] else [p]).length ≤ 1 := by split <;> simp
      omega
    simp only [List.length_append, List.length_cons]
    omega
theorem wAll_mem {t : TenD} {b : Bool} {ps : List TenD} {q : TenD} (h : q ∈ wAll t b ps) : q = t ∨ q ∈ ps := by
  induction ps generalizing b with
  | nil =>
    unfold wAll wUpto at h
    simp only [List.foldl_nil, List.nil_append] at h
    cases b with
    | true => cases h
    | false => exact Or.inl (by simpa using h)
  | cons p r ih =>
    rw [wAll_cons, List.mem_append] at h
    rcases h with h | h
    · unfold wStep at h
      simp only [List.nil_append, List.mem_append] at h
      rcases h with h | h
      · by_cases hb : b = true
        · rw [if_pos hb] at h; cases h
        · rw [if_neg hb] at h
          by_cases h2 : blt p.name t.name = true
          · rw [if_pos h2] at h; cases h
          · rw [if_neg h2] at h; exact Or.inl (by simpa using h)
      · by_cases h2 : (p.name.toList == t.name.toList) = true
        · rw [if_pos h2] at h; cases h
        · rw [if_neg h2] at h; exact Or.inr (by simp at h; simp [h])
    · rcases ih h with h | h
      · exact Or.inl h
      · exact Or.inr (List.mem_cons_of_mem _ h)
end Go.Proofs.YtpajhkikcofhfaaGreatDoor

namespace Go.Proofs.YtpajhkikcofhfaaGreatDoor
open Go.RowKit

/-- Tenants whose lists lie in the world w. -/
def OldY (w : World) (ys : List TV) : Prop := ∀ y ∈ ys, PairsIn w y.a1 y.t.mets ∧ PairsIn w y.a2 y.t.sers
theorem OldY.snoc {w : World} {ys : List TV} (h : OldY w ys) {y : TV} (h1 : PairsIn w y.a1 y.t.mets) (h2 : PairsIn w y.a2 y.t.sers) : OldY w (ys ++ [y]) := fun z hz => by
  rcases List.mem_append.1 hz with hz | hz
  · exact h z hz
  · rw [List.mem_singleton.1 hz]; exact ⟨h1, h2⟩
theorem flatV_get : ∀ (l : List TV) (i : Nat) (hi : i < l.length), (flatV l)[i * 4]? = some (.string l[i].t.name) ∧ (flatV l)[i * 4 + 1]? = some (.int .i64 l[i].t.limit) ∧ (flatV l)[i * 4 + 2]? = some (.slice l[i].a1 l[i].t.mets.length l[i].c1) ∧ (flatV l)[i * 4 + 3]? = some (.slice l[i].a2 l[i].t.sers.length l[i].c2) := by
  intro l
  unfold flatV
  induction l with
  | nil => intro i hi; exact absurd hi (by simp)
  | cons x r ih =>
    intro i hi
    cases i with
    | zero => simp
    | succ i =>
      have := ih i (by simpa using hi)
      simp only [List.flatMap_cons, List.cons_append, List.nil_append, List.getElem_cons_succ]
      refine ⟨?_, ?_, ?_, ?_⟩
      · rw [show (i + 1) * 4 = i * 4 + 1 + 1 + 1 + 1 by omega, List.getElem?_cons_succ, List.getElem?_cons_succ, List.getElem?_cons_succ, List.getElem?_cons_succ]; exact this.1
      · rw [show (i + 1) * 4 + 1 = i * 4 + 1 + 1 + 1 + 1 + 1 by omega, List.getElem?_cons_succ, List.getElem?_cons_succ, List.getElem?_cons_succ, List.getElem?_cons_succ]; exact this.2.1
      · rw [show (i + 1) * 4 + 2 = i * 4 + 2 + 1 + 1 + 1 + 1 by omega, List.getElem?_cons_succ, List.getElem?_cons_succ, List.getElem?_cons_succ, List.getElem?_cons_succ]; exact this.2.2.1
      · rw [show (i + 1) * 4 + 3 = i * 4 + 3 + 1 + 1 + 1 + 1 by omega, List.getElem?_cons_succ, List.getElem?_cons_succ, List.getElem?_cons_succ, List.getElem?_cons_succ]; exact this.2.2.2
/-- A row of tenants whose lists are old, read. -/
theorem row_old {w w8 : World} {B : Nat} {e : TypeId} {a : Option Addr} {cap : Nat} {ys : List TV} (h : w8.ownsRow B e 4 (.slice a ys.length cap) ys.length (flatV ys)) (ho : OldY w ys) :
    ∀ i (hi : i < ys.length), ∃ b, a = some ⟨b, 0, none⟩ ∧ b < w8.heap.size ∧ w8.cell? ⟨b, i * 4, none⟩ = some (.string ys[i].t.name) ∧ w8.cell? ⟨b, i * 4 + 1, none⟩ = some (.int .i64 ys[i].t.limit) ∧ w8.cell? ⟨b, i * 4 + 2, none⟩ = some (.slice ys[i].a1 ys[i].t.mets.length ys[i].c1) ∧ w8.cell? ⟨b, i * 4 + 3, none⟩ = some (.slice ys[i].a2 ys[i].t.sers.length ys[i].c2) ∧ PairsIn w ys[i].a1 ys[i].t.mets ∧ PairsIn w ys[i].a2 ys[i].t.sers := by
  intro i hi
  rcases h.2 with ⟨_, hl⟩ | ⟨g, cap', cur, he, hB, hg, _, _, hsz, htk⟩
  · omega
  · simp only [Value.slice.injEq] at he
    obtain ⟨f0, f1, f2, f3⟩ := flatV_get ys i hi
    have hc : ∀ j, j < ys.length * 4 → w8.cell? ⟨g, j, none⟩ = (flatV ys)[j]? := fun j hj => by
      rw [Blk.cell (show Blk w8 g cur e from hg) j, ← Array.getElem?_toList, ← htk, List.getElem?_take_of_lt hj]
    obtain ⟨o1, o2⟩ := ho ys[i] (List.getElem_mem hi)
    refine ⟨g, he.1, lt_of_block hg, ?_, ?_, ?_, ?_, o1, o2⟩
    · rw [hc _ (by omega)]; exact f0
    · rw [hc _ (by omega)]; exact f1
    · rw [hc _ (by omega)]; exact f2
    · rw [hc _ (by omega)]; exact f3
def FitW (x : TenD) : Prop := x.mets.length ≤ 2000000 ∧ x.sers.length ≤ 2000000 ∧ ∀ i (h : i < x.sers.length), 0 ≤ x.sers[i].n ∧ x.sers[i].n ≤ 2000000000000

end Go.Proofs.YtpajhkikcofhfaaGreatDoor

