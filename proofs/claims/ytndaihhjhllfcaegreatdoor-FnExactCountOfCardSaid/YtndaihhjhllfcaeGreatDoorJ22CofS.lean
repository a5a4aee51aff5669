import Derived.Test.YtndaihhjhllfcaeGreatDoorProg
import Derived.Test.YtndaihhjhllfcaeGreatDoorJ05HpP
import Derived.Test.YtndaihhjhllfcaeGreatDoorJ21SSta
import Derived.Test.YtndaihhjhllfcaeGreatDoorJ17TName
import Derived.Deep.RegionHeld3
namespace Go.Proofs.YtndaihhjhllfcaeGreatDoor
open Go.RowKit

def TenV (w : World) (e : Ending) (t : TenD) : Prop := ∃ a1 c1 a2 c2, e = .returned (.agg #[.string t.name, .int .i64 t.limit, .slice a1 t.mets.length c1, .slice a2 t.sers.length c2]) ∧ PairsIn w a1 t.mets ∧ PairsIn w a2 t.sers
set_option maxRecDepth 100000 in
set_option maxHeartbeats 2000000 in
theorem l4Tenant_any (now : Int) (a : Option Addr) (cap : Nat) (ts : List TenD) (name : ByteArray) (w : World) (hf : TensIn w a ts) (hlen : ts.length ≤ 1000000000) :
    Calls Tryz.prog 65 #[.agg #[.int .i64 now, .slice a ts.length cap], .string name] w fun e w' => TenV w' e (tenOf ts name) ∧ Below w.heap.size w w' := by
  have HF : Hid (TensIn w a ts) := hf
  have HTO : Hid (tenOf ts name = (getBy (·.name) name ts).getD ⟨name, -1, [], []⟩) := rfl
  clear hf
  go_enter Tryz.func65, Tryz.ntmps65
  go_wp2
  have R1 : Hid (Blk ((w.alloc (.cells #[.int .i64 now, .slice a ts.length cap] 52)).alloc (.cells #[.string ⟨#[]⟩, .int .i64 0, .slice none 0 0, .slice none 0 0] 105)) (w.heap.size + 1) #[.string ⟨#[]⟩, .int .i64 0, .slice none 0 0, .slice none 0 0] 105) := hid (by have := Blk.new (w.alloc (.cells #[.int .i64 now, .slice a ts.length cap] 52)) #[.string ⟨#[]⟩, .int .i64 0, .slice none 0 0, .slice none 0 0] 105; simpa using this)
  have B1 : Hid (Below w.heap.size w ((w.alloc (.cells #[.int .i64 now, .slice a ts.length cap] 52)).alloc (.cells #[.string ⟨#[]⟩, .int .i64 0, .slice none 0 0, .slice none 0 0] 105))) := bto (bnew _ _) (bnew _ _)
  generalize hW : (w.alloc (.cells #[.int .i64 now, .slice a ts.length cap] 52)).alloc (.cells #[.string ⟨#[]⟩, .int .i64 0, .slice none 0 0, .slice none 0 0] 105) = W at *
  clear hW
  go_loopw [6, 10] (fun _ i wr => ∃ k : Nat, k ≤ ts.length ∧ i = .int .i64 k ∧ Hid (∀ j (h : j < k) (h' : j < ts.length), ts[j].name ≠ name) ∧ Below W.heap.size W wr) (fun _ i _ => ts.length - (intOf i).toNat)
  case atStart => exact ⟨0, Nat.zero_le _, rfl, (fun j h => absurd h (by omega)), Below.refl _ _⟩
  case round =>
    obtain ⟨k, hk, rfl, HN, hbel⟩ := hrel
    have HB : Hid (Below W.heap.size W wr) := hbel
    have R2 : Hid (Blk wr (w.heap.size + 1) #[.string ⟨#[]⟩, .int .i64 0, .slice none 0 0, .slice none 0 0] 105) := R1.out.later hbel
    have hrl := lt_of_block R2.out
    have s0 : wr.cell? ⟨w.heap.size + 1, 0, none⟩ = some (.string ⟨#[]⟩) := R2.out.cell 0
    have s1 : wr.cell? ⟨w.heap.size + 1, 1, none⟩ = some (.int .i64 0) := R2.out.cell 1
    have s2 : wr.cell? ⟨w.heap.size + 1, 2, none⟩ = some (.slice none 0 0) := R2.out.cell 2
    have s3 : wr.cell? ⟨w.heap.size + 1, 3, none⟩ = some (.slice none 0 0) := R2.out.cell 3
    have u0 := R2.out.free 0
    have u1 := R2.out.free 1
    have u2 := R2.out.free 2
    have u3 := R2.out.free 3
    clear hbel R1
    by_cases hlt : k < ts.length
    · obtain ⟨b, o, a1, q1, a2, q2, rfl, hb, z0, z1, z2, z3, p1, p2⟩ := HF.out.at hlt
      have Bw : Hid (Below w.heap.size w wr) := bto B1.out HB.out
      have t0 := (Bw.out.cell hb).trans z0
      have t1 := (Bw.out.cell hb).trans z1
      have t2 := (Bw.out.cell hb).trans z2
      have t3 := (Bw.out.cell hb).trans z3
      clear z0 z1 z2 z3
      have HG : Hid (getBy (·.name) name ts = if ts[k].name = name then some ts[k] else getBy (·.name) name (ts.drop (k + 1))) := by
        show _ = _
        rw [getBy_drop k HN.out, List.drop_eq_getElem_cons hlt, getBy_cons]
      have HSUC : Hid (ts[k].name ≠ name → ∀ j (h : j < k + 1) (h' : j < ts.length), ts[j].name ≠ name) := fun hne j hj hj' => by
        by_cases e : j = k
        · subst e; exact hne
        · exact HN.out j (by omega) hj'
      have P1 : Hid (PairsIn w a1 ts[k].mets) := p1
      have P2 : Hid (PairsIn w a2 ts[k].sers) := p2
      clear p1 p2
      generalize ts[k] = T at *
      by_cases he : T.name = name
      · have hb1 : (T.name.toList == name.toList) = true := (same_iff _ _).2 he
        have HT : Hid (tenOf ts name = T) := by show _ = _; rw [HTO.out, HG.out, if_pos he]; rfl
        clear he
        go_wp2
        have HFB : Below w.heap.size w (((((wr.setCell ⟨w.heap.size + 1, 0, none⟩ (.string T.name)).setCell ⟨w.heap.size + 1, 1, none⟩ (.int .i64 T.limit)).setCell ⟨w.heap.size + 1, 2, none⟩ (.slice a1 T.mets.length q1)).setCell ⟨w.heap.size + 1, 3, none⟩ (.slice a2 T.sers.length q2)).alloc (.cells #[.string T.name, .int .i64 T.limit, .slice a1 T.mets.length q1, .slice a2 T.sers.length q2] 105)) := bto (((((Bw.out.setCell (by simp) _).setCell (by simp) _).setCell (by simp) _).setCell (by simp) _)) (bnew _ _)
        refine bodyPost_ret (v := .agg #[.string T.name, .int .i64 T.limit, .slice a1 T.mets.length q1, .slice a2 T.sers.length q2]) (by simp [results, Tryz.results65, go_sem, s0, s1, s2, s3, hrl]) rfl ⟨?_, HFB⟩
        rw [HT.out]
        exact ⟨a1, q1, a2, q2, rfl, P1.out.later HFB, P2.out.later HFB⟩
      · have hb1 : (T.name.toList == name.toList) = false := same_not he
        have HN2 : Hid (∀ j (h : j < k + 1) (h' : j < ts.length), ts[j].name ≠ name) := HSUC.out he
        clear he
        go_wp2
        exact ⟨⟨k + 1, by omega, by go_num, HN2, bto HB.out (bnew _ _)⟩, by simp [intOf]; omega⟩
    · have HT : Hid (tenOf ts name = ⟨name, -1, [], []⟩) := by
        show _ = _
        rw [HTO.out, getBy_drop k HN.out, List.drop_of_length_le (by omega)]
        rfl
      have Bw : Hid (Below w.heap.size w wr) := bto B1.out HB.out
      go_wp2
      refine bodyPost_ret (v := .agg #[.string name, .int .i64 (-1), .slice none 0 0, .slice none 0 0]) (by simp [results, Tryz.results65, go_sem, s0, s1, s2, s3]) rfl ⟨?_, (((((Bw.out.setCell (by simp) _).setCell (by simp) _).setCell (by simp) _).setCell (by simp) _))⟩
      rw [HT.out]
      exact ⟨none, 0, none, 0, rfl, Or.inl rfl, Or.inl rfl⟩

set_option maxRecDepth 100000 in
set_option maxHeartbeats 4000000 in
theorem l4Count_any (c : CfgD) (t : TenD) (a1 a2 : Option Addr) (c1 c2 : Nat) (m : ByteArray) (w : World) (p1 : PairsIn w a1 t.mets) (p2 : PairsIn w a2 t.sers) (hb : BigP t.sers) (l1 : t.mets.length ≤ 1000000000) (l2 : t.sers.length ≤ 1000000000) :
    Calls Tryz.prog 64 #[cfgV c, .agg #[.string t.name, .int .i64 t.limit, .slice a1 t.mets.length c1, .slice a2 t.sers.length c2], .string m] w fun e w' => e = .returned (.tuple #[.int .i64 (countV c t m).1, .int .i64 (countV c t m).2]) ∧ Below w.heap.size w w' := by
  unfold cfgV
  by_cases hm : m.toList.isEmpty = true
  · have HV : Hid (countV c t m = (((t.sers.length : Nat) : Int), if t.limit < 0 then c.tl else t.limit)) := by show _ = _; unfold countV; rw [if_pos hm]
    clear p1 p2 hb
    by_cases hl : t.limit < 0
    · go_enter Tryz.func64, Tryz.ntmps64
      go_wp2
      go_ret2
      exact ⟨ret_two (by rw [HV.out]) (by rw [HV.out]; exact (if_pos hl).symm), bto (bnew _ _) (bnew _ _)⟩
    · have HL : Hid (¬ t.limit < 0) := hl
      go_enter Tryz.func64, Tryz.ntmps64
      go_wp2
      go_ret2
      exact ⟨ret_two (by rw [HV.out]) (by rw [HV.out]; have h0 := HL.out; exact (if_neg (by omega)).symm), bto (bnew _ _) (bnew _ _)⟩
  have hm' : m.toList.isEmpty = false := by simpa using hm
  have HV : Hid (countV c t m = (((cntM metK t.sers m : Nat) : Int), metLim t.mets m c.ml)) := by show _ = _; unfold countV; rw [if_neg hm]
  have P1 : Hid (PairsIn w a1 t.mets) := p1
  have P2 : Hid (PairsIn w a2 t.sers) := p2
  have HBP : Hid (BigP t.sers) := hb
  clear p1 p2 hb hm
  go_enter Tryz.func64, Tryz.ntmps64
  go_wp2
  have T1 : Hid (Blk ((w.alloc (.cells #[.int .i64 c.w, .int .i64 c.tl, .int .i64 c.ml, .int .i64 c.sh, .int .i64 c.ha, .int .i64 c.sg] 48)).alloc (.cells #[.string t.name, .int .i64 t.limit, .slice a1 t.mets.length c1, .slice a2 t.sers.length c2] 105)) (w.heap.size + 1) #[.string t.name, .int .i64 t.limit, .slice a1 t.mets.length c1, .slice a2 t.sers.length c2] 105) := hid (by have := Blk.new (w.alloc (.cells #[.int .i64 c.w, .int .i64 c.tl, .int .i64 c.ml, .int .i64 c.sh, .int .i64 c.ha, .int .i64 c.sg] 48)) #[.string t.name, .int .i64 t.limit, .slice a1 t.mets.length c1, .slice a2 t.sers.length c2] 105; simpa using this)
  have B1 : Hid (Below w.heap.size w ((w.alloc (.cells #[.int .i64 c.w, .int .i64 c.tl, .int .i64 c.ml, .int .i64 c.sh, .int .i64 c.ha, .int .i64 c.sg] 48)).alloc (.cells #[.string t.name, .int .i64 t.limit, .slice a1 t.mets.length c1, .slice a2 t.sers.length c2] 105))) := bto (bnew _ _) (bnew _ _)
  generalize (w.alloc (.cells #[.int .i64 c.w, .int .i64 c.tl, .int .i64 c.ml, .int .i64 c.sh, .int .i64 c.ha, .int .i64 c.sg] 48)).alloc (.cells #[.string t.name, .int .i64 t.limit, .slice a1 t.mets.length c1, .slice a2 t.sers.length c2] 105) = W at *
  go_loopw [9, 11, 32] (fun l _ i wr => ∃ k : Nat, k ≤ t.mets.length ∧ i = .int .i64 k ∧ l = .int .i64 (metLim (t.mets.take k) m c.ml) ∧ Below W.heap.size W wr) (fun _ _ i _ => t.mets.length - (intOf i).toNat)
  case atStart => exact ⟨0, Nat.zero_le _, rfl, rfl, Below.refl _ _⟩
  case round =>
    obtain ⟨k, hk, rfl, rfl, hbel⟩ := hrel
    have HB : Hid (Below W.heap.size W wr) := hbel
    clear hbel
    by_cases hlt : k < t.mets.length
    · obtain ⟨pb, po, rfl, hpl, z0, z1⟩ := (P1.out.later (bto B1.out HB.out)).at hlt
      have HT : Hid (metLim (t.mets.take (k + 1)) m c.ml = if t.mets[k].s.toList == m.toList then t.mets[k].n else metLim (t.mets.take k) m c.ml) := metLim_take _ _ _ _ hlt
      generalize t.mets[k] = P at *
      generalize metLim (t.mets.take k) m c.ml = L0 at *
      by_cases he : (P.s.toList == m.toList) = true
      · have HL : Hid (metLim (t.mets.take (k + 1)) m c.ml = P.n) := by show _ = _; rw [HT.out, if_pos he]
        clear HT
        go_wp2
        exact ⟨⟨k + 1, by omega, by go_num, by rw [HL.out], bto HB.out (bnew _ _)⟩, by simp [intOf]; omega⟩
      · have he' : (P.s.toList == m.toList) = false := by simpa using he
        have HL : Hid (metLim (t.mets.take (k + 1)) m c.ml = L0) := by show _ = _; rw [HT.out, if_neg he]
        clear HT he
        go_wp2
        exact ⟨⟨k + 1, by omega, by go_num, by rw [HL.out], bto HB.out (bnew _ _)⟩, by simp [intOf]; omega⟩
    · have ek : t.mets.take k = t.mets := List.take_of_length_le (by omega)
      rw [ek]
      clear ek
      generalize metLim t.mets m c.ml = ML at *
      have T2 : Hid (Blk wr (w.heap.size + 1) #[.string t.name, .int .i64 t.limit, .slice a1 t.mets.length c1, .slice a2 t.sers.length c2] 105) := T1.out.later HB.out
      have B2 : Hid (Below w.heap.size w wr) := bto B1.out HB.out
      have y3 : wr.cell? ⟨w.heap.size + 1, 3, none⟩ = some (.slice a2 t.sers.length c2) := T2.out.cell 3
      clear T1 B1 HB
      generalize hwo : wr = wo at *
      clear hwo
      go_wp2
      clear y3 T2
      go_loopw [12, 14, 46] (fun n _ i wr => ∃ k : Nat, k ≤ t.sers.length ∧ i = .int .i64 k ∧ n = .int .i64 (cntM metK (t.sers.take k) m : Nat) ∧ Below wo.heap.size wo wr) (fun _ _ i _ => t.sers.length - (intOf i).toNat)
      case atStart => exact ⟨0, Nat.zero_le _, rfl, rfl, Below.refl _ _⟩
      case round =>
        obtain ⟨j, hj, rfl, rfl, hbel⟩ := hrel
        have HB : Hid (Below wo.heap.size wo wr) := hbel
        clear hbel
        by_cases hlt2 : j < t.sers.length
        · obtain ⟨pb, po, rfl, hpl, z0, z1⟩ := (P2.out.later (bto B2.out HB.out)).at hlt2
          have HT : Hid (cntM metK (t.sers.take (j + 1)) m = cntM metK (t.sers.take j) m + if (metK t.sers[j].s).toList == m.toList then 1 else 0) := cntM_take _ _ _ hlt2
          have HM : Hid (∀ W, Calls Tryz.prog 77 #[.string t.sers[j].s] W fun e w' => e = .returned (.string (metK t.sers[j].s)) ∧ Below W.heap.size W w') := fun W => specMet_any t.sers[j].s W (HBP.out j hlt2)
          have hcl : cntM metK (t.sers.take j) m ≤ 1000000000 := by have := cntM_le metK (t.sers.take j) m; rw [List.length_take] at this; omega
          generalize t.sers[j] = P at *
          generalize metK P.s = mk at *
          generalize cntM metK (t.sers.take j) m = N0 at *
          go_wp2_with fail
          refine (HM.out _).mono ?_
          rintro e w5 ⟨rfl, hb5⟩
          have HB5 : Hid (Below wo.heap.size wo w5) := bto HB.out (bto (bnew _ _) hb5)
          clear hb5 HM
          by_cases he : (mk.toList == m.toList) = true
          · have HL : Hid (cntM metK (t.sers.take (j + 1)) m = N0 + 1) := by show _ = _; rw [HT.out, if_pos he]
            clear HT
            go_wp2
            exact ⟨⟨j + 1, by omega, by go_num, by rw [HL.out]; go_num, HB5.out⟩, by simp [intOf]; omega⟩
          · have he' : (mk.toList == m.toList) = false := by simpa using he
            have HL : Hid (cntM metK (t.sers.take (j + 1)) m = N0) := by show _ = _; rw [HT.out, if_neg he]; rfl
            clear HT he
            go_wp2
            exact ⟨⟨j + 1, by omega, by go_num, by rw [HL.out], HB5.out⟩, by simp [intOf]; omega⟩
        · have ej : t.sers.take j = t.sers := List.take_of_length_le (by omega)
          rw [ej]
          clear ej
          go_wp2
          go_ret2
          exact ⟨ret_two (by rw [HV.out]) (by rw [HV.out]), bto B2.out HB.out⟩
end Go.Proofs.YtndaihhjhllfcaeGreatDoor

namespace Go.Proofs.YtndaihhjhllfcaeGreatDoor
open Go.RowKit

theorem big_of {ts : List TenD} (h : BigT ts) (k : ByteArray) : BigP (tenOf ts k).sers ∧ (tenOf ts k).mets.length ≤ 1000000000 ∧ (tenOf ts k).sers.length ≤ 1000000000 := by
  unfold tenOf
  cases hg : getBy (·.name) k ts with
  | none => exact ⟨fun i h => absurd h (by simp), by simp, by simp⟩
  | some t =>
    obtain ⟨i, hi, e⟩ := List.getElem_of_mem (getBy_mem hg).1
    have := h i hi
    rw [e] at this
    exact ⟨this.2.2.1, this.2.2.2.1, this.2.2.2.2⟩

set_option maxRecDepth 100000 in
set_option maxHeartbeats 4000000 in
theorem specCountOf_any (c : CfgD) (now : Int) (a : Option Addr) (cap : Nat) (ts : List TenD) (tenant met : ByteArray) (w : World) (hf : TensIn w a ts) (hbig : BigT ts) (hlen : ts.length ≤ 1000000000) (hn : tenant.size ≤ 1048576) (hm : met.size ≤ 1048576) :
    Calls Tryz.prog 25 #[cfgV c, .agg #[.int .i64 now, .slice a ts.length cap], .string tenant, .string met] w fun e w' => e = .returned (.tuple #[.int .i64 (countOfV c now ts tenant met).1, .int .i64 (countOfV c now ts tenant met).2]) ∧ Below w.heap.size w w' := by
  have HO : Hid (∀ W, Below w.heap.size w W → Calls Tryz.prog 20 #[cfgV c, .agg #[.int .i64 now, .slice a ts.length cap]] W fun e w' => e = .returned (.bool (stateB c now ts)) ∧ Below W.heap.size W w') := fun W hW => specState_any c now a cap ts W (hf.later hW) hbig hlen
  have HT : Hid (∀ W, Calls Tryz.prog 57 #[.string tenant] W fun e w' => e = .returned (.bool (tnameB tenant)) ∧ w' = W) := fun W => l4TenantName_any tenant W (by unfold maxLen; omega)
  have HM : Hid (∀ W, Calls Tryz.prog 59 #[.string met] W fun e w' => e = .returned (.bool (mnameB met)) ∧ Below W.heap.size W w') := fun W => l4MetricName_any met W (by omega)
  have HTE : Hid (∀ W, Below w.heap.size w W → Calls Tryz.prog 65 #[.agg #[.int .i64 now, .slice a ts.length cap], .string tenant] W fun e w' => TenV w' e (tenOf ts tenant) ∧ Below W.heap.size W w') := fun W hW => l4Tenant_any now a cap ts tenant W (hf.later hW) hlen
  obtain ⟨q1, q2, q3⟩ := big_of hbig tenant
  have HC : Hid (∀ W a1 a2 c1 c2, PairsIn W a1 (tenOf ts tenant).mets → PairsIn W a2 (tenOf ts tenant).sers → Calls Tryz.prog 64 #[cfgV c, .agg #[.string (tenOf ts tenant).name, .int .i64 (tenOf ts tenant).limit, .slice a1 (tenOf ts tenant).mets.length c1, .slice a2 (tenOf ts tenant).sers.length c2], .string met] W fun e w' => e = .returned (.tuple #[.int .i64 (countV c (tenOf ts tenant) met).1, .int .i64 (countV c (tenOf ts tenant) met).2]) ∧ Below W.heap.size W w') := fun W a1 a2 c1 c2 p1 p2 => l4Count_any c _ a1 a2 c1 c2 met W p1 p2 q1 q2 q3
  have HV : Hid (countOfV c now ts tenant met = if (stateB c now ts && tnameB tenant && (met.toList.isEmpty || mnameB met)) = true then countV c (tenOf ts tenant) met else (-1, -1)) := rfl
  clear hf hbig q1 q2 q3
  unfold TenV at HTE
  unfold cfgV at *
  generalize tnameB tenant = b1 at *
  generalize mnameB met = b2 at *
  generalize stateB c now ts = b0 at *
  generalize tenOf ts tenant = t at *
  generalize countOfV c now ts tenant met = RES at *
  generalize countV c t met = RV at *
  go_enter Tryz.func25, Tryz.ntmps25
  go_wp2_with fail
  refine (HO.out _ (bto (bnew _ _) (bnew _ _))).mono ?_
  rintro e w1 ⟨rfl, hb1⟩
  have B1 : Hid (Below w.heap.size w w1) := bto (bto (bnew _ _) (bnew _ _)) hb1
  have A1 : Hid (Blk w1 w.heap.size #[.int .i64 c.w, .int .i64 c.tl, .int .i64 c.ml, .int .i64 c.sh, .int .i64 c.ha, .int .i64 c.sg] 48) := hid (((Blk.new _ _ _).alloc _).later hb1)
  have S1 : Hid (Blk w1 (w.heap.size + 1) #[.int .i64 now, .slice a ts.length cap] 52) := hid (by have := (Blk.new (w.alloc (.cells #[.int .i64 c.w, .int .i64 c.tl, .int .i64 c.ml, .int .i64 c.sh, .int .i64 c.ha, .int .i64 c.sg] 48)) #[.int .i64 now, .slice a ts.length cap] 52).later hb1; simpa using this)
  clear hb1 HO
  by_cases h0 : b0 = false
  · have HV2 : Hid (RES = (-1, -1)) := by show _ = _; rw [HV.out, h0]; rfl
    subst h0
    clear HV
    go_wp2
    go_ret2
    exact ⟨ret_two (by rw [HV2.out]) (by rw [HV2.out]), B1.out⟩
  have h0' : b0 = true := by simpa using h0
  subst h0'
  clear h0
  by_cases h1 : b1 = false
  · have HV2 : Hid (RES = (-1, -1)) := by show _ = _; rw [HV.out, h1]; simp
    subst h1
    clear HV
    go_wp2_with fail
    refine (HT.out _).mono ?_
    rintro e w2 ⟨rfl, hw⟩
    replace hw := hw.symm
    subst hw
    go_wp2
    go_ret2
    exact ⟨ret_two (by rw [HV2.out]) (by rw [HV2.out]), B1.out⟩
  have h1' : b1 = true := by simpa using h1
  subst h1'
  clear h1
  by_cases he : met.toList.isEmpty = true
  · have HV2 : Hid (RES = RV) := by show _ = _; rw [HV.out, he]; rfl
    clear HV
    go_wp2_with fail
    refine (HT.out _).mono ?_
    rintro e w2 ⟨rfl, hw⟩
    replace hw := hw.symm
    subst hw
    clear HT HM
    have HK : Hid (∀ w', Below w1.heap.size w1 w' → w'.cell? ⟨w.heap.size, 0, none⟩ = some (.int .i64 c.w) ∧ w'.cell? ⟨w.heap.size, 1, none⟩ = some (.int .i64 c.tl) ∧ w'.cell? ⟨w.heap.size, 2, none⟩ = some (.int .i64 c.ml) ∧ w'.cell? ⟨w.heap.size, 3, none⟩ = some (.int .i64 c.sh) ∧ w'.cell? ⟨w.heap.size, 4, none⟩ = some (.int .i64 c.ha) ∧ w'.cell? ⟨w.heap.size, 5, none⟩ = some (.int .i64 c.sg) ∧ w'.cell? ⟨w.heap.size + 1, 0, none⟩ = some (.int .i64 now) ∧ w'.cell? ⟨w.heap.size + 1, 1, none⟩ = some (.slice a ts.length cap)) := fun w' h => by
      have q := A1.out.later h
      have p := S1.out.later h
      exact ⟨q.cell 0, q.cell 1, q.cell 2, q.cell 3, q.cell 4, q.cell 5, p.cell 0, p.cell 1⟩
    obtain ⟨x0, x1, x2, x3, x4, x5, y0, y1⟩ := HK.out w1 (Below.refl _ _)
    go_upto_region 3 with fail
    go_region_held3 (fun w' => w'.cell? ⟨w.heap.size, 0, none⟩ = some (.int .i64 c.w) ∧ w'.cell? ⟨w.heap.size, 1, none⟩ = some (.int .i64 c.tl) ∧ w'.cell? ⟨w.heap.size, 2, none⟩ = some (.int .i64 c.ml) ∧ w'.cell? ⟨w.heap.size, 3, none⟩ = some (.int .i64 c.sh) ∧ w'.cell? ⟨w.heap.size, 4, none⟩ = some (.int .i64 c.ha) ∧ w'.cell? ⟨w.heap.size, 5, none⟩ = some (.int .i64 c.sg) ∧ w'.cell? ⟨w.heap.size + 1, 0, none⟩ = some (.int .i64 now) ∧ w'.cell? ⟨w.heap.size + 1, 1, none⟩ = some (.slice a ts.length cap))
      (first | go_keep | exact HK.out _ k4 | exact HK.out _ k3)
      (first
        | (go_at_call 65; refine (HTE.out _ (B1.out.drew)).mono ?_; rintro e w3 ⟨⟨a1, c1, a2, c2, rfl, p1, p2⟩, hb3⟩; have k3 : Below w1.heap.size w1 w3 := (by exact bto (Below.refl _ _).drew hb3))
        | (go_at_call 64; refine (HC.out _ a1 a2 c1 c2 p1 p2).mono ?_; rintro e w4 ⟨rfl, hb4⟩; have k4 : Below w1.heap.size w1 w4 := (by exact bto k3 hb4)))
    all_goals (go_wp2; go_ret2)
    all_goals exact ⟨ret_two (by rw [HV2.out]) (by rw [HV2.out]), bto B1.out k4⟩
  have he' : met.toList.isEmpty = false := by simpa using he
  clear he
  rw [he'] at HV
  by_cases h2 : b2 = false
  · have HV2 : Hid (RES = (-1, -1)) := by show _ = _; rw [HV.out, h2]; simp
    subst h2
    clear HV
    go_wp2_with fail
    refine (HT.out _).mono ?_
    rintro e w2 ⟨rfl, hw⟩
    replace hw := hw.symm
    subst hw
    go_wp2_with fail
    refine (HM.out _).mono ?_
    rintro e w3 ⟨rfl, hb3⟩
    have B3 : Hid (Below w.heap.size w w3) := bto B1.out hb3
    clear hb3
    go_wp2
    go_ret2
    exact ⟨ret_two (by rw [HV2.out]) (by rw [HV2.out]), B3.out⟩
  have h2' : b2 = true := by simpa using h2
  have HV2 : Hid (RES = RV) := by show _ = _; rw [HV.out, h2']; rfl
  subst h2'
  clear HV h2
  go_wp2_with fail
  refine (HT.out _).mono ?_
  rintro e w2 ⟨rfl, hw⟩
  replace hw := hw.symm
  subst hw
  go_wp2_with fail
  refine (HM.out _).mono ?_
  rintro e w2 ⟨rfl, hb2⟩
  have B2 : Hid (Below w.heap.size w w2) := bto B1.out hb2
  have HK : Hid (∀ w', Below w2.heap.size w2 w' → w'.cell? ⟨w.heap.size, 0, none⟩ = some (.int .i64 c.w) ∧ w'.cell? ⟨w.heap.size, 1, none⟩ = some (.int .i64 c.tl) ∧ w'.cell? ⟨w.heap.size, 2, none⟩ = some (.int .i64 c.ml) ∧ w'.cell? ⟨w.heap.size, 3, none⟩ = some (.int .i64 c.sh) ∧ w'.cell? ⟨w.heap.size, 4, none⟩ = some (.int .i64 c.ha) ∧ w'.cell? ⟨w.heap.size, 5, none⟩ = some (.int .i64 c.sg) ∧ w'.cell? ⟨w.heap.size + 1, 0, none⟩ = some (.int .i64 now) ∧ w'.cell? ⟨w.heap.size + 1, 1, none⟩ = some (.slice a ts.length cap)) := fun w' h => by
    have q := (A1.out.later hb2).later h
    have p := (S1.out.later hb2).later h
    exact ⟨q.cell 0, q.cell 1, q.cell 2, q.cell 3, q.cell 4, q.cell 5, p.cell 0, p.cell 1⟩
  clear HT HM A1 S1 B1 hb2
  obtain ⟨x0, x1, x2, x3, x4, x5, y0, y1⟩ := HK.out w2 (Below.refl _ _)
  go_upto_region 3 with fail
  go_region_held3 (fun w' => w'.cell? ⟨w.heap.size, 0, none⟩ = some (.int .i64 c.w) ∧ w'.cell? ⟨w.heap.size, 1, none⟩ = some (.int .i64 c.tl) ∧ w'.cell? ⟨w.heap.size, 2, none⟩ = some (.int .i64 c.ml) ∧ w'.cell? ⟨w.heap.size, 3, none⟩ = some (.int .i64 c.sh) ∧ w'.cell? ⟨w.heap.size, 4, none⟩ = some (.int .i64 c.ha) ∧ w'.cell? ⟨w.heap.size, 5, none⟩ = some (.int .i64 c.sg) ∧ w'.cell? ⟨w.heap.size + 1, 0, none⟩ = some (.int .i64 now) ∧ w'.cell? ⟨w.heap.size + 1, 1, none⟩ = some (.slice a ts.length cap))
    (first | go_keep | exact HK.out _ k4 | exact HK.out _ k3)
    (first
      | (go_at_call 65; refine (HTE.out _ (B2.out.drew)).mono ?_; rintro e w3 ⟨⟨a1, c1, a2, c2, rfl, p1, p2⟩, hb3⟩; have k3 : Below w2.heap.size w2 w3 := (by exact bto (Below.refl _ _).drew hb3))
      | (go_at_call 64; refine (HC.out _ a1 a2 c1 c2 p1 p2).mono ?_; rintro e w4 ⟨rfl, hb4⟩; have k4 : Below w2.heap.size w2 w4 := (by exact bto k3 hb4)))
  all_goals (go_wp2; go_ret2)
  all_goals exact ⟨ret_two (by rw [HV2.out]) (by rw [HV2.out]), bto B2.out k4⟩
end Go.Proofs.YtndaihhjhllfcaeGreatDoor

