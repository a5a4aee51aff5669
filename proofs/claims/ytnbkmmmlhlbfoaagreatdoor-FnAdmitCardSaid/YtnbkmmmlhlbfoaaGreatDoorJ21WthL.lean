import Derived.Test.YtnbkmmmlhlbfoaaGreatDoorProg
import Derived.Test.YtnbkmmmlhlbfoaaGreatDoorJ10RecB
import Derived.Test.YtnbkmmmlhlbfoaaGreatDoorJ20SSta
namespace Go.Proofs.YtnbkmmmlhlbfoaaGreatDoor
open Go.RowKit
def TenV (w : World) (e : Ending) (t : TenD) : Prop := ∃ a1 c1 a2 c2, e = .returned (.agg #[.string t.name, .int .i64 t.limit, .slice a1 t.mets.length c1, .slice a2 t.sers.length c2]) ∧ PairsIn w a1 t.mets ∧ PairsIn w a2 t.sers
set_option maxRecDepth 100000 in
set_option maxHeartbeats 2000000 in
theorem l4Tenant_any (now : Int) (a : Option Addr) (cap : Nat) (ts : List TenD) (name : ByteArray) (w : World) (hf : TensIn w a ts) (hlen : ts.length ≤ 1000000000) :
    Calls Tryz.prog 13 #[.agg #[.int .i64 now, .slice a ts.length cap], .string name] w fun e w' => TenV w' e (tenOf ts name) ∧ Below w.heap.size w w' := by
  have HF : Hid (TensIn w a ts) := hf
  have HTO : Hid (tenOf ts name = (getBy (·.name) name ts).getD ⟨name, -1, [], []⟩) := rfl
  clear hf
  go_enter Tryz.func13, Tryz.ntmps13
  go_wp2
  have R1 : Hid (Blk ((w.alloc (.cells #[.int .i64 now, .slice a ts.length cap] 27)).alloc (.cells #[.string ⟨#[]⟩, .int .i64 0, .slice none 0 0, .slice none 0 0] 46)) (w.heap.size + 1) #[.string ⟨#[]⟩, .int .i64 0, .slice none 0 0, .slice none 0 0] 46) := hid (by have := Blk.new (w.alloc (.cells #[.int .i64 now, .slice a ts.length cap] 27)) #[.string ⟨#[]⟩, .int .i64 0, .slice none 0 0, .slice none 0 0] 46; simpa using this)
  have B1 : Hid (Below w.heap.size w ((w.alloc (.cells #[.int .i64 now, .slice a ts.length cap] 27)).alloc (.cells #[.string ⟨#[]⟩, .int .i64 0, .slice none 0 0, .slice none 0 0] 46))) := bto (bnew _ _) (bnew _ _)
  generalize hW : (w.alloc (.cells #[.int .i64 now, .slice a ts.length cap] 27)).alloc (.cells #[.string ⟨#[]⟩, .int .i64 0, .slice none 0 0, .slice none 0 0] 46) = W at *
  clear hW
  go_loopw [6, 10] (fun _ i wr => ∃ k : Nat, k ≤ ts.length ∧ i = .int .i64 k ∧ Hid (∀ j (h : j < k) (h' : j < ts.length), ts[j].name ≠ name) ∧ Below W.heap.size W wr) (fun _ i _ => ts.length - (intOf i).toNat)
  case atStart => exact ⟨0, Nat.zero_le _, rfl, (fun j h => absurd h (by omega)), Below.refl _ _⟩
  case round =>
    obtain ⟨k, hk, rfl, HN, hbel⟩ := hrel
    have HB : Hid (Below W.heap.size W wr) := hbel
    have R2 : Hid (Blk wr (w.heap.size + 1) #[.string ⟨#[]⟩, .int .i64 0, .slice none 0 0, .slice none 0 0] 46) := R1.out.later hbel
    have hrl := lt_of_block R2.out
    have s0 : wr.cell? ⟨w.heap.size + 1, 0, none⟩ = some (.string ⟨#[]⟩) := R2.out.cell 0
    have s1 : wr.cell? ⟨w.heap.size + 1, 1, none⟩ = some (.int .i64 0) := R2.out.cell 1
    have s2 : wr.cell? ⟨w.heap.size + 1, 2, none⟩ = some (.slice none 0 0) := R2.out.cell 2
    have s3 : wr.cell? ⟨w.heap.size + 1, 3, none⟩ = some (.slice none 0 0) := R2.out.cell 3
    have u0 := R2.out.free 0
    have u1 := R2.out.free 1
    have u2 := R2.out.free 2
    have u3 := R2.out.free 3
    clear hbel R1
    by_cases hlt : k < ts.length
    · obtain ⟨b, o, a1, q1, a2, q2, rfl, hb, z0, z1, z2, z3, p1, p2⟩ := HF.out.at hlt
      have Bw : Hid (Below w.heap.size w wr) := bto B1.out HB.out
      have t0 := (Bw.out.cell hb).trans z0
      have t1 := (Bw.out.cell hb).trans z1
      have t2 := (Bw.out.cell hb).trans z2
      have t3 := (Bw.out.cell hb).trans z3
      clear z0 z1 z2 z3
      have HG : Hid (getBy (·.name) name ts = if ts[k].name = name then some ts[k] else getBy (·.name) name (ts.drop (k + 1))) := by
        show _ = _
        rw [getBy_drop k HN.out, List.drop_eq_getElem_cons hlt, getBy_cons]
      have HSUC : Hid (ts[k].name ≠ name → ∀ j (h : j < k + 1) (h' : j < ts.length), ts[j].name ≠ name) := fun hne j hj hj' => by
        by_cases e : j = k
        · subst e; exact hne
        · exact HN.out j (by omega) hj'
      have P1 : Hid (PairsIn w a1 ts[k].mets) := p1
      have P2 : Hid (PairsIn w a2 ts[k].sers) := p2
      clear p1 p2
      generalize ts[k] = T at *
      by_cases he : T.name = name
      · have hb1 : (T.name.toList == name.toList) = true := (same_iff _ _).2 he
        have HT : Hid (tenOf ts name = T) := by show _ = _; rw [HTO.out, HG.out, if_pos he]; rfl
        clear he
        go_wp2
        have HFB : Below w.heap.size w (((((wr.setCell ⟨w.heap.size + 1, 0, none⟩ (.string T.name)).setCell ⟨w.heap.size + 1, 1, none⟩ (.int .i64 T.limit)).setCell ⟨w.heap.size + 1, 2, none⟩ (.slice a1 T.mets.length q1)).setCell ⟨w.heap.size + 1, 3, none⟩ (.slice a2 T.sers.length q2)).alloc (.cells #[.string T.name, .int .i64 T.limit, .slice a1 T.mets.length q1, .slice a2 T.sers.length q2] 46)) := bto (((((Bw.out.setCell (by simp) _).setCell (by simp) _).setCell (by simp) _).setCell (by simp) _)) (bnew _ _)
        refine bodyPost_ret (v := .agg #[.string T.name, .int .i64 T.limit, .slice a1 T.mets.length q1, .slice a2 T.sers.length q2]) (by simp [results, Tryz.results13, go_sem, s0, s1, s2, s3, hrl]) rfl ⟨?_, HFB⟩
        rw [HT.out]
        exact ⟨a1, q1, a2, q2, rfl, P1.out.later HFB, P2.out.later HFB⟩
      · have hb1 : (T.name.toList == name.toList) = false := same_not he
        have HN2 : Hid (∀ j (h : j < k + 1) (h' : j < ts.length), ts[j].name ≠ name) := HSUC.out he
        clear he
        go_wp2
        exact ⟨⟨k + 1, by omega, by go_num, HN2, bto HB.out (bnew _ _)⟩, by simp [intOf]; omega⟩
    · have HT : Hid (tenOf ts name = ⟨name, -1, [], []⟩) := by
        show _ = _
        rw [HTO.out, getBy_drop k HN.out, List.drop_of_length_le (by omega)]
        rfl
      have Bw : Hid (Below w.heap.size w wr) := bto B1.out HB.out
      go_wp2
      refine bodyPost_ret (v := .agg #[.string name, .int .i64 (-1), .slice none 0 0, .slice none 0 0]) (by simp [results, Tryz.results13, go_sem, s0, s1, s2, s3]) rfl ⟨?_, (((((Bw.out.setCell (by simp) _).setCell (by simp) _).setCell (by simp) _).setCell (by simp) _))⟩
      rw [HT.out]
      exact ⟨none, 0, none, 0, rfl, Or.inl rfl, Or.inl rfl⟩
set_option maxRecDepth 100000 in
set_option maxHeartbeats 4000000 in
theorem l4Count_any (c : CfgD) (t : TenD) (a1 a2 : Option Addr) (c1 c2 : Nat) (m : ByteArray) (w : World) (p1 : PairsIn w a1 t.mets) (p2 : PairsIn w a2 t.sers) (hb : BigP t.sers) (l1 : t.mets.length ≤ 1000000000) (l2 : t.sers.length ≤ 1000000000) :
    Calls Tryz.prog 22 #[cfgV c, .agg #[.string t.name, .int .i64 t.limit, .slice a1 t.mets.length c1, .slice a2 t.sers.length c2], .string m] w fun e w' => e = .returned (.tuple #[.int .i64 (countV c t m).1, .int .i64 (countV c t m).2]) ∧ Below w.heap.size w w' := by
  unfold cfgV
  by_cases hm : m.toList.isEmpty = true
  · have HV : Hid (countV c t m = (((t.sers.length : Nat) : Int), if t.limit < 0 then c.tl else t.limit)) := by show _ = _; unfold countV; rw [if_pos hm]
    clear p1 p2 hb
    by_cases hl : t.limit < 0
    · go_enter Tryz.func22, Tryz.ntmps22
      go_wp2
      go_ret2
      exact ⟨ret_two (by rw [HV.out]) (by rw [HV.out]; exact (if_pos hl).symm), bto (bnew _ _) (bnew _ _)⟩
    · have HL : Hid (¬ t.limit < 0) := hl
      go_enter Tryz.func22, Tryz.ntmps22
      go_wp2
      go_ret2
      exact ⟨ret_two (by rw [HV.out]) (by rw [HV.out]; have h0 := HL.out; exact (if_neg (by omega)).symm), bto (bnew _ _) (bnew _ _)⟩
  have hm' : m.toList.isEmpty = false := by simpa using hm
  have HV : Hid (countV c t m = (((cntM metK t.sers m : Nat) : Int), metLim t.mets m c.ml)) := by show _ = _; unfold countV; rw [if_neg hm]
  have P1 : Hid (PairsIn w a1 t.mets) := p1
  have P2 : Hid (PairsIn w a2 t.sers) := p2
  have HBP : Hid (BigP t.sers) := hb
  clear p1 p2 hb hm
  go_enter Tryz.func22, Tryz.ntmps22
  go_wp2
  have T1 : Hid (Blk ((w.alloc (.cells #[.int .i64 c.w, .int .i64 c.tl, .int .i64 c.ml, .int .i64 c.sh, .int .i64 c.ha, .int .i64 c.sg] 24)).alloc (.cells #[.string t.name, .int .i64 t.limit, .slice a1 t.mets.length c1, .slice a2 t.sers.length c2] 46)) (w.heap.size + 1) #[.string t.name, .int .i64 t.limit, .slice a1 t.mets.length c1, .slice a2 t.sers.length c2] 46) := hid (by have := Blk.new (w.alloc (.cells #[.int .i64 c.w, .int .i64 c.tl, .int .i64 c.ml, .int .i64 c.sh, .int .i64 c.ha, .int .i64 c.sg] 24)) #[.string t.name, .int .i64 t.limit, .slice a1 t.mets.length c1, .slice a2 t.sers.length c2] 46; simpa using this)
  have B1 : Hid (Below w.heap.size w ((w.alloc (.cells #[.int .i64 c.w, .int .i64 c.tl, .int .i64 c.ml, .int .i64 c.sh, .int .i64 c.ha, .int .i64 c.sg] 24)).alloc (.cells #[.string t.name, .int .i64 t.limit, .slice a1 t.mets.length c1, .slice a2 t.sers.length c2] 46))) := bto (bnew _ _) (bnew _ _)
  generalize (w.alloc (.cells #[.int .i64 c.w, .int .i64 c.tl, .int .i64 c.ml, .int .i64 c.sh, .int .i64 c.ha, .int .i64 c.sg] 24)).alloc (.cells #[.string t.name, .int .i64 t.limit, .slice a1 t.mets.length c1, .slice a2 t.sers.length c2] 46) = W at *
  go_loopw [9, 11, 32] (fun l _ i wr => ∃ k : Nat, k ≤ t.mets.length ∧ i = .int .i64 k ∧ l = .int .i64 (metLim (t.mets.take k) m c.ml) ∧ Below W.heap.size W wr) (fun _ _ i _ => t.mets.length - (intOf i).toNat)
  case atStart => exact ⟨0, Nat.zero_le _, rfl, rfl, Below.refl _ _⟩
  case round =>
    obtain ⟨k, hk, rfl, rfl, hbel⟩ := hrel
    have HB : Hid (Below W.heap.size W wr) := hbel
    clear hbel
    by_cases hlt : k < t.mets.length
    · obtain ⟨pb, po, rfl, hpl, z0, z1⟩ := (P1.out.later (bto B1.out HB.out)).at hlt
      have HT : Hid (metLim (t.mets.take (k + 1)) m c.ml = if t.mets[k].s.toList == m.toList then t.mets[k].n else metLim (t.mets.take k) m c.ml) := metLim_take _ _ _ _ hlt
      generalize t.mets[k] = P at *
      generalize metLim (t.mets.take k) m c.ml = L0 at *
      by_cases he : (P.s.toList == m.toList) = true
      · have HL : Hid (metLim (t.mets.take (k + 1)) m c.ml = P.n) := by show _ = _; rw [HT.out, if_pos he]
        clear HT
        go_wp2
        exact ⟨⟨k + 1, by omega, by go_num, by rw [HL.out], bto HB.out (bnew _ _)⟩, by simp [intOf]; omega⟩
      · have he' : (P.s.toList == m.toList) = false := by simpa using he
        have HL : Hid (metLim (t.mets.take (k + 1)) m c.ml = L0) := by show _ = _; rw [HT.out, if_neg he]
        clear HT he
        go_wp2
        exact ⟨⟨k + 1, by omega, by go_num, by rw [HL.out], bto HB.out (bnew _ _)⟩, by simp [intOf]; omega⟩
    · have ek : t.mets.take k = t.mets := List.take_of_length_le (by omega)
      rw [ek]
      clear ek
      generalize metLim t.mets m c.ml = ML at *
      have T2 : Hid (Blk wr (w.heap.size + 1) #[.string t.name, .int .i64 t.limit, .slice a1 t.mets.length c1, .slice a2 t.sers.length c2] 46) := T1.out.later HB.out
      have B2 : Hid (Below w.heap.size w wr) := bto B1.out HB.out
      have y3 : wr.cell? ⟨w.heap.size + 1, 3, none⟩ = some (.slice a2 t.sers.length c2) := T2.out.cell 3
      clear T1 B1 HB
      generalize hwo : wr = wo at *
      clear hwo
      go_wp2
      clear y3 T2
      go_loopw [12, 14, 46] (fun n _ i wr => ∃ k : Nat, k ≤ t.sers.length ∧ i = .int .i64 k ∧ n = .int .i64 (cntM metK (t.sers.take k) m : Nat) ∧ Below wo.heap.size wo wr) (fun _ _ i _ => t.sers.length - (intOf i).toNat)
      case atStart => exact ⟨0, Nat.zero_le _, rfl, rfl, Below.refl _ _⟩
      case round =>
        obtain ⟨j, hj, rfl, rfl, hbel⟩ := hrel
        have HB : Hid (Below wo.heap.size wo wr) := hbel
        clear hbel
        by_cases hlt2 : j < t.sers.length
        · obtain ⟨pb, po, rfl, hpl, z0, z1⟩ := (P2.out.later (bto B2.out HB.out)).at hlt2
          have HT : Hid (cntM metK (t.sers.take (j + 1)) m = cntM metK (t.sers.take j) m + if (metK t.sers[j].s).toList == m.toList then 1 else 0) := cntM_take _ _ _ hlt2
          have HM : Hid (∀ W, Calls Tryz.prog 24 #[.string t.sers[j].s] W fun e w' => e = .returned (.string (metK t.sers[j].s)) ∧ Below W.heap.size W w') := fun W => specMet_any t.sers[j].s W (HBP.out j hlt2)
          have hcl : cntM metK (t.sers.take j) m ≤ 1000000000 := by have := cntM_le metK (t.sers.take j) m; rw [List.length_take] at this; omega
          generalize t.sers[j] = P at *
          generalize metK P.s = mk at *
          generalize cntM metK (t.sers.take j) m = N0 at *
          go_wp2_with fail
          refine (HM.out _).mono ?_
          rintro e w5 ⟨rfl, hb5⟩
          have HB5 : Hid (Below wo.heap.size wo w5) := bto HB.out (bto (bnew _ _) hb5)
          clear hb5 HM
          by_cases he : (mk.toList == m.toList) = true
          · have HL : Hid (cntM metK (t.sers.take (j + 1)) m = N0 + 1) := by show _ = _; rw [HT.out, if_pos he]
            clear HT
            go_wp2
            exact ⟨⟨j + 1, by omega, by go_num, by rw [HL.out]; go_num, HB5.out⟩, by simp [intOf]; omega⟩
          · have he' : (mk.toList == m.toList) = false := by simpa using he
            have HL : Hid (cntM metK (t.sers.take (j + 1)) m = N0) := by show _ = _; rw [HT.out, if_neg he]; rfl
            clear HT he
            go_wp2
            exact ⟨⟨j + 1, by omega, by go_num, by rw [HL.out], HB5.out⟩, by simp [intOf]; omega⟩
        · have ej : t.sers.take j = t.sers := List.take_of_length_le (by omega)
          rw [ej]
          clear ej
          go_wp2
          go_ret2
          exact ⟨ret_two (by rw [HV.out]) (by rw [HV.out]), bto B2.out HB.out⟩
end Go.Proofs.YtnbkmmmlhlbfoaaGreatDoor
namespace Go.Proofs.YtnbkmmmlhlbfoaaGreatDoor
def wStep (t : TenD) (s : List TenD × Bool) (p : TenD) : List TenD × Bool :=
  (s.1 ++ (if s.2 = true then [] else if blt p.name t.name = true then [] else [t]) ++ (if (p.name.toList == t.name.toList) = true then [] else [p]), if s.2 = true then true else !blt p.name t.name)
def wUpto (t : TenD) (b : Bool) (ps : List TenD) : List TenD × Bool := ps.foldl (wStep t) ([], b)
def wAll (t : TenD) (b : Bool) (ps : List TenD) : List TenD := (wUpto t b ps).1 ++ if (wUpto t b ps).2 = true then [] else [t]
theorem wUpto_take (t : TenD) (b : Bool) (ps : List TenD) (k : Nat) (h : k < ps.length) : wUpto t b (ps.take (k + 1)) = wStep t (wUpto t b (ps.take k)) ps[k] := by
  rw [List.take_succ_eq_append_getElem h, wUpto, List.foldl_append]; rfl
theorem wUpto_acc (t : TenD) (ps : List TenD) : ∀ (acc : List TenD) (b : Bool), ps.foldl (wStep t) (acc, b) = (acc ++ (ps.foldl (wStep t) ([], b)).1, (ps.foldl (wStep t) ([], b)).2) := by
  induction ps with
  | nil => intro acc b; simp
  | cons p r ih =>
    intro acc b
    simp only [List.foldl_cons]
    rw [ih (wStep t (acc, b) p).1 (wStep t (acc, b) p).2, ih (wStep t ([], b) p).1 (wStep t ([], b) p).2]
    simp [wStep]
theorem wAll_cons (t p : TenD) (r : List TenD) (b : Bool) : wAll t b (p :: r) = (wStep t ([], b) p).1 ++ wAll t (wStep t ([], b) p).2 r := by
  unfold wAll wUpto
  rw [List.foldl_cons, wUpto_acc t r (wStep t ([], b) p).1 (wStep t ([], b) p).2]
  simp
theorem wAll_placed {t : TenD} {ps : List TenD} (h : ∀ p ∈ ps, p.name ≠ t.name) : wAll t true ps = ps := by
  induction ps with
  | nil => rfl
  | cons p r ih =>
    rw [wAll_cons]
    have h1 : (p.name.toList == t.name.toList) = false := same_not (h p (List.mem_cons_self ..))
    simp only [wStep, h1, if_true, List.nil_append]
    simp [ih fun q hq => h q (List.mem_cons_of_mem _ hq)]
theorem wAll_ins {t : TenD} {ps : List TenD} (hr : RiseBy (·.name) ps) : wAll t false ps = insBy (·.name) t ps := by
  induction ps with
  | nil => rfl
  | cons p r ih =>
    have ihr := ih hr.tail
    rw [wAll_cons, insBy]
    by_cases h2 : blt p.name t.name = true
    · have h3 : (p.name.toList == t.name.toList) = false := same_not (blt_ne h2)
      simp only [wStep, h2, h3, if_true]
      simp [ihr]
    · have h2' : blt p.name t.name = false := by simpa using h2
      have hnone : ∀ q ∈ r, q.name ≠ t.name := fun q hq e => by
        have hb := hr.head q hq
        rw [e] at hb
        exact h2 hb
      by_cases h3 : p.name = t.name
      · have h4 : (p.name.toList == t.name.toList) = true := (same_iff _ _).2 h3
        simp only [wStep, h2', h4, if_true]
        simp [wAll_placed hnone]
      · have h4 : (p.name.toList == t.name.toList) = false := same_not h3
        simp only [wStep, h2', h4]
        simp [wAll_placed hnone]
theorem kts_take (win now : Int) (ts : List TenD) (k : Nat) (h : k < ts.length) : keptTs win now (ts.take (k + 1)) = keptTs win now (ts.take k) ++ if idleB (keptT win now ts[k]) = true then [] else [keptT win now ts[k]] := by
  rw [List.take_succ_eq_append_getElem h, keptTs, List.map_append, List.filter_append]
  congr 1
  by_cases e : idleB (keptT win now ts[k]) = true
  · rw [if_pos e]
    simp [e]
  · rw [if_neg e]
    simp [e]
theorem kts_le (win now : Int) (ts : List TenD) (k : Nat) : (keptTs win now (ts.take k)).length ≤ ts.length := by
  unfold keptTs
  have h1 := List.length_filter_le (fun t => !idleB t) ((ts.take k).map (keptT win now))
  rw [List.length_map, List.length_take] at h1
  omega
theorem wAll_mem {t : TenD} {b : Bool} {ps : List TenD} {q : TenD} (h : q ∈ wAll t b ps) : q = t ∨ q ∈ ps := by
  induction ps generalizing b with
  | nil =>
    unfold wAll wUpto at h
    simp only [List.foldl_nil, List.nil_append] at h
    cases b with
    | true => cases h
    | false => exact Or.inl (by simpa using h)
  | cons p r ih =>
    rw [wAll_cons, List.mem_append] at h
    rcases h with h | h
    · unfold wStep at h
      simp only [List.nil_append, List.mem_append] at h
      rcases h with h | h
      · by_cases hb : b = true
        · rw [if_pos hb] at h; cases h
        · rw [if_neg hb] at h
          by_cases h2 : blt p.name t.name = true
          · rw [if_pos h2] at h; cases h
          · rw [if_neg h2] at h; exact Or.inl (by simpa using h)
      · by_cases h2 : (p.name.toList == t.name.toList) = true
        · rw [if_pos h2] at h; cases h
        · rw [if_neg h2] at h; exact Or.inr (by simp at h; simp [h])
    · rcases ih h with h | h
      · exact Or.inl h
      · exact Or.inr (List.mem_cons_of_mem _ h)
end Go.Proofs.YtnbkmmmlhlbfoaaGreatDoor
