import Derived.Test.YtojeemogabhaoaaGreatDoorProg
import Derived.Test.YtojeemogabhaoaaGreatDoorJ38WthL
import Derived.Test.YtojeemogabhaoaaGreatDoorJ36TenV
import Derived.Test.YtojeemogabhaoaaGreatDoorJ19ILim
import Derived.Deep.AppendLies
namespace Go.Proofs.YtojeemogabhaoaaGreatDoor
open Go.RowKit
def OldY (w : World) (ys : List TV) : Prop := ∀ y ∈ ys, PairsIn w y.a1 y.t.mets ∧ PairsIn w y.a2 y.t.sers
theorem OldY.snoc {w : World} {ys : List TV} (h : OldY w ys) {y : TV} (h1 : PairsIn w y.a1 y.t.mets) (h2 : PairsIn w y.a2 y.t.sers) : OldY w (ys ++ [y]) := fun z hz => by
  rcases List.mem_append.1 hz with hz | hz
  · exact h z hz
  · rw [List.mem_singleton.1 hz]; exact ⟨h1, h2⟩
theorem flatV_get : ∀ (l : List TV) (i : Nat) (hi : i < l.length), (flatV l)[i * 4]? = some (.string l[i].t.name) ∧ (flatV l)[i * 4 + 1]? = some (.int .i64 l[i].t.limit) ∧ (flatV l)[i * 4 + 2]? = some (.slice l[i].a1 l[i].t.mets.length l[i].c1) ∧ (flatV l)[i * 4 + 3]? = some (.slice l[i].a2 l[i].t.sers.length l[i].c2) := by
  intro l
  unfold flatV
  induction l with
  | nil => intro i hi; exact absurd hi (by simp)
  | cons x r ih =>
    intro i hi
    cases i with
    | zero => simp
    | succ i =>
      have := ih i (by simpa using hi)
      simp only [List.flatMap_cons, List.cons_append, List.nil_append, List.getElem_cons_succ]
      refine ⟨?_, ?_, ?_, ?_⟩
      · rw [show (i + 1) * 4 = i * 4 + 1 + 1 + 1 + 1 by omega, List.getElem?_cons_succ, List.getElem?_cons_succ, List.getElem?_cons_succ, List.getElem?_cons_succ]; exact this.1
      · rw [show (i + 1) * 4 + 1 = i * 4 + 1 + 1 + 1 + 1 + 1 by omega, List.getElem?_cons_succ, List.getElem?_cons_succ, List.getElem?_cons_succ, List.getElem?_cons_succ]; exact this.2.1
      · rw [show (i + 1) * 4 + 2 = i * 4 + 2 + 1 + 1 + 1 + 1 by omega, List.getElem?_cons_succ, List.getElem?_cons_succ, List.getElem?_cons_succ, List.getElem?_cons_succ]; exact this.2.2.1
      · rw [show (i + 1) * 4 + 3 = i * 4 + 3 + 1 + 1 + 1 + 1 by omega, List.getElem?_cons_succ, List.getElem?_cons_succ, List.getElem?_cons_succ, List.getElem?_cons_succ]; exact this.2.2.2
theorem row_old {w w8 : World} {B : Nat} {e : TypeId} {a : Option Addr} {cap : Nat} {ys : List TV} (h : w8.ownsRow B e 4 (.slice a ys.length cap) ys.length (flatV ys)) (ho : OldY w ys) :
    ∀ i (hi : i < ys.length), ∃ b, a = some ⟨b, 0, none⟩ ∧ b < w8.heap.size ∧ w8.cell? ⟨b, i * 4, none⟩ = some (.string ys[i].t.name) ∧ w8.cell? ⟨b, i * 4 + 1, none⟩ = some (.int .i64 ys[i].t.limit) ∧ w8.cell? ⟨b, i * 4 + 2, none⟩ = some (.slice ys[i].a1 ys[i].t.mets.length ys[i].c1) ∧ w8.cell? ⟨b, i * 4 + 3, none⟩ = some (.slice ys[i].a2 ys[i].t.sers.length ys[i].c2) ∧ PairsIn w ys[i].a1 ys[i].t.mets ∧ PairsIn w ys[i].a2 ys[i].t.sers := by
  intro i hi
  rcases h.2 with ⟨_, hl⟩ | ⟨g, cap', cur, he, hB, hg, _, _, hsz, htk⟩
  · omega
  · simp only [Value.slice.injEq] at he
    obtain ⟨f0, f1, f2, f3⟩ := flatV_get ys i hi
    have hc : ∀ j, j < ys.length * 4 → w8.cell? ⟨g, j, none⟩ = (flatV ys)[j]? := fun j hj => by
      rw [Blk.cell (show Blk w8 g cur e from hg) j, ← Array.getElem?_toList, ← htk, List.getElem?_take_of_lt hj]
    obtain ⟨o1, o2⟩ := ho ys[i] (List.getElem_mem hi)
    refine ⟨g, he.1, lt_of_block hg, ?_, ?_, ?_, ?_, o1, o2⟩
    · rw [hc _ (by omega)]; exact f0
    · rw [hc _ (by omega)]; exact f1
    · rw [hc _ (by omega)]; exact f2
    · rw [hc _ (by omega)]; exact f3
def FitW (x : TenD) : Prop := x.mets.length ≤ 2000000 ∧ x.sers.length ≤ 2000000 ∧ ∀ i (h : i < x.sers.length), 0 ≤ x.sers[i].n ∧ x.sers[i].n ≤ 2000000000000
set_option maxRecDepth 100000 in
set_option maxHeartbeats 16000000 in
theorem l4With_any (c : CfgD) (now0 now : Int) (a : Option Addr) (cap : Nat) (ts : List TenD) (t : TenD) (a1 a2 : Option Addr) (c1 c2 : Nat) (w : World) (hf : TensIn w a ts) (p1 : PairsIn w a1 t.mets) (p2 : PairsIn w a2 t.sers) (hlen : ts.length ≤ 2000000) (hfit : ∀ x, x = t ∨ x ∈ ts → FitW x) (hn0 : 0 ≤ now) (hn1 : now ≤ 2000000000000) :
    Calls Tryz.prog 41 #[cfgV c, .agg #[.int .i64 now0, .slice a ts.length cap], .int .i64 now, .agg #[.string t.name, .int .i64 t.limit, .slice a1 t.mets.length c1, .slice a2 t.sers.length c2]] w fun e w' => ∃ a' cap', e = .returned (.agg #[.int .i64 now, .slice a' (keptTs c.w now (wAll t t.name.toList.isEmpty ts)).length cap']) ∧ TensOwn w' w.heap.size a' (keptTs c.w now (wAll t t.name.toList.isEmpty ts)) ∧ Below w.heap.size w w' := by
  have HF := hid hf
  have P1 := hid p1
  have P2 := hid p2
  have HFT := hid hfit
  clear hf p1 p2 hfit
  obtain ⟨RES, hRES⟩ : ∃ R, R = keptTs c.w now (wAll t t.name.toList.isEmpty ts) := ⟨_, rfl⟩
  rw [← hRES]
  have HRES := hid hRES
  clear hRES
  obtain ⟨ti, hti, hz0, hz1, hz2⟩ := info_parts info_tenant
  have HI : Hid (Tryz.prog.info? 55 = some ti) := hti
  clear hti
  unfold cfgV
  go_enter Tryz.func41, Tryz.ntmps41
  have B1 : Hid (Below w.heap.size w (((((w.alloc (.cells #[.int .i64 c.w, .int .i64 c.tl, .int .i64 c.ml, .int .i64 c.sh, .int .i64 c.ha, .int .i64 c.sg] 29)).alloc (.cells #[.int .i64 now0, .slice a ts.length cap] 33)).alloc (.cells #[.string t.name, .int .i64 t.limit, .slice a1 t.mets.length c1, .slice a2 t.sers.length c2] 55)).alloc (.cells #[.int .i64 0, .slice none 0 0] 33)).alloc (.cells #[] 55))) := bto (bto (bto (bto (bnew _ _) (bnew _ _)) (bnew _ _)) (bnew _ _)) (bnew _ _)
  have C1 : Hid (Blk (((((w.alloc (.cells #[.int .i64 c.w, .int .i64 c.tl, .int .i64 c.ml, .int .i64 c.sh, .int .i64 c.ha, .int .i64 c.sg] 29)).alloc (.cells #[.int .i64 now0, .slice a ts.length cap] 33)).alloc (.cells #[.string t.name, .int .i64 t.limit, .slice a1 t.mets.length c1, .slice a2 t.sers.length c2] 55)).alloc (.cells #[.int .i64 0, .slice none 0 0] 33)).alloc (.cells #[] 55)) w.heap.size #[.int .i64 c.w, .int .i64 c.tl, .int .i64 c.ml, .int .i64 c.sh, .int .i64 c.ha, .int .i64 c.sg] 29) := (((((Blk.new _ _ _).alloc _).alloc _).alloc _).alloc _)
  have S1 : Hid (Blk (((((w.alloc (.cells #[.int .i64 c.w, .int .i64 c.tl, .int .i64 c.ml, .int .i64 c.sh, .int .i64 c.ha, .int .i64 c.sg] 29)).alloc (.cells #[.int .i64 now0, .slice a ts.length cap] 33)).alloc (.cells #[.string t.name, .int .i64 t.limit, .slice a1 t.mets.length c1, .slice a2 t.sers.length c2] 55)).alloc (.cells #[.int .i64 0, .slice none 0 0] 33)).alloc (.cells #[] 55)) (w.heap.size + 1) #[.int .i64 now0, .slice a ts.length cap] 33) := hid (by have := ((((Blk.new (w.alloc (.cells #[.int .i64 c.w, .int .i64 c.tl, .int .i64 c.ml, .int .i64 c.sh, .int .i64 c.ha, .int .i64 c.sg] 29)) #[.int .i64 now0, .slice a ts.length cap] 33).alloc (.cells #[.string t.name, .int .i64 t.limit, .slice a1 t.mets.length c1, .slice a2 t.sers.length c2] 55)).alloc (.cells #[.int .i64 0, .slice none 0 0] 33)).alloc (.cells #[] 55)); simpa using this)
  have T1 : Hid (Blk (((((w.alloc (.cells #[.int .i64 c.w, .int .i64 c.tl, .int .i64 c.ml, .int .i64 c.sh, .int .i64 c.ha, .int .i64 c.sg] 29)).alloc (.cells #[.int .i64 now0, .slice a ts.length cap] 33)).alloc (.cells #[.string t.name, .int .i64 t.limit, .slice a1 t.mets.length c1, .slice a2 t.sers.length c2] 55)).alloc (.cells #[.int .i64 0, .slice none 0 0] 33)).alloc (.cells #[] 55)) (w.heap.size + 1 + 1) #[.string t.name, .int .i64 t.limit, .slice a1 t.mets.length c1, .slice a2 t.sers.length c2] 55) := hid (by have := (((Blk.new ((w.alloc (.cells #[.int .i64 c.w, .int .i64 c.tl, .int .i64 c.ml, .int .i64 c.sh, .int .i64 c.ha, .int .i64 c.sg] 29)).alloc (.cells #[.int .i64 now0, .slice a ts.length cap] 33)) #[.string t.name, .int .i64 t.limit, .slice a1 t.mets.length c1, .slice a2 t.sers.length c2] 55).alloc (.cells #[.int .i64 0, .slice none 0 0] 33)).alloc (.cells #[] 55)); simpa using this)
  have R1 : Hid (Blk (((((w.alloc (.cells #[.int .i64 c.w, .int .i64 c.tl, .int .i64 c.ml, .int .i64 c.sh, .int .i64 c.ha, .int .i64 c.sg] 29)).alloc (.cells #[.int .i64 now0, .slice a ts.length cap] 33)).alloc (.cells #[.string t.name, .int .i64 t.limit, .slice a1 t.mets.length c1, .slice a2 t.sers.length c2] 55)).alloc (.cells #[.int .i64 0, .slice none 0 0] 33)).alloc (.cells #[] 55)) (w.heap.size + 1 + 1 + 1) #[.int .i64 0, .slice none 0 0] 33) := hid (by have := ((Blk.new (((w.alloc (.cells #[.int .i64 c.w, .int .i64 c.tl, .int .i64 c.ml, .int .i64 c.sh, .int .i64 c.ha, .int .i64 c.sg] 29)).alloc (.cells #[.int .i64 now0, .slice a ts.length cap] 33)).alloc (.cells #[.string t.name, .int .i64 t.limit, .slice a1 t.mets.length c1, .slice a2 t.sers.length c2] 55)) #[.int .i64 0, .slice none 0 0] 33).alloc (.cells #[] 55)); simpa using this)
  have L1 : Hid ((((((w.alloc (.cells #[.int .i64 c.w, .int .i64 c.tl, .int .i64 c.ml, .int .i64 c.sh, .int .i64 c.ha, .int .i64 c.sg] 29)).alloc (.cells #[.int .i64 now0, .slice a ts.length cap] 33)).alloc (.cells #[.string t.name, .int .i64 t.limit, .slice a1 t.mets.length c1, .slice a2 t.sers.length c2] 55)).alloc (.cells #[.int .i64 0, .slice none 0 0] 33)).alloc (.cells #[] 55)).ownsRow (w.heap.size + 4) 55 4 (.slice (some ⟨w.heap.size + 1 + 1 + 1 + 1, 0, none⟩) 0 0) 0 []) := by
    have := World.ownsRow_made (e := 55) (size := 4) (base := w.heap.size + 4) ((((w.alloc (.cells #[.int .i64 c.w, .int .i64 c.tl, .int .i64 c.ml, .int .i64 c.sh, .int .i64 c.ha, .int .i64 c.sg] 29)).alloc (.cells #[.int .i64 now0, .slice a ts.length cap] 33)).alloc (.cells #[.string t.name, .int .i64 t.limit, .slice a1 t.mets.length c1, .slice a2 t.sers.length c2] 55)).alloc (.cells #[.int .i64 0, .slice none 0 0] 33)) #[] 0 (by simp) (by simp [maxLen]) (by simp)
    exact hid (by simpa using this)
  go_upto_region 3 with fail
  have hw1 : w.heap.size + 4 < (((((w.alloc (.cells #[.int .i64 c.w, .int .i64 c.tl, .int .i64 c.ml, .int .i64 c.sh, .int .i64 c.ha, .int .i64 c.sg] 29)).alloc (.cells #[.int .i64 now0, .slice a ts.length cap] 33)).alloc (.cells #[.string t.name, .int .i64 t.limit, .slice a1 t.mets.length c1, .slice a2 t.sers.length c2] 55)).alloc (.cells #[.int .i64 0, .slice none 0 0] 33)).alloc (.cells #[] 55)).heap.size := by simp
  generalize (((((w.alloc (.cells #[.int .i64 c.w, .int .i64 c.tl, .int .i64 c.ml, .int .i64 c.sh, .int .i64 c.ha, .int .i64 c.sg] 29)).alloc (.cells #[.int .i64 now0, .slice a ts.length cap] 33)).alloc (.cells #[.string t.name, .int .i64 t.limit, .slice a1 t.mets.length c1, .slice a2 t.sers.length c2] 55)).alloc (.cells #[.int .i64 0, .slice none 0 0] 33)).alloc (.cells #[] 55)) = w1 at *
  generalize t.name.toList.isEmpty = b0 at *
  have y1 : w1.cell? ⟨w.heap.size + 1, 1, none⟩ = some (.slice a ts.length cap) := S1.out.cell 1
  go_wp2
  clear y1
  go_loopw [9, 10, 12, 24] (fun al pl _ i wr => ∃ (k : Nat) (va : Option Addr) (vc : Nat) (ys : List TV), k ≤ ts.length ∧ i = .int .i64 k ∧ al = .slice va ys.length vc ∧ pl = .bool (wUpto t b0 (ts.take k)).2 ∧ ys.length ≤ 2 * k ∧ Hid (wr.ownsRow (w.heap.size + 4) 55 4 (.slice va ys.length vc) ys.length (flatV ys)) ∧ Hid (ys.map (·.t) = (wUpto t b0 (ts.take k)).1) ∧ Hid (OldY w ys) ∧ Hid (Below (w.heap.size + 4) w1 wr)) (fun _ _ _ i _ => ts.length - (intOf i).toNat)
  case atStart => exact ⟨0, _, _, [], Nat.zero_le _, rfl, rfl, rfl, Nat.zero_le _, L1.out, rfl, fun y hy => (by cases hy), Below.refl _ _⟩
  case round =>
    obtain ⟨k, va, vc, ys, hk, rfl, rfl, rfl, hyl, HR, HYM, HOY, HBL⟩ := hrel
    have hsr : w1.heap.size ≤ wr.heap.size := HBL.out.size
    have BW : Hid (Below w.heap.size w wr) := B1.out.trans (HBL.out.mono (by omega))
    by_cases hlt : k < ts.length
    · obtain ⟨pb, po, q1, d1, q2, d2, rfl, hpl, z0, z1, z2, z3, o1, o2⟩ := HF.out.at hlt
      have HU : Hid (wUpto t b0 (ts.take (k + 1)) = wStep t (wUpto t b0 (ts.take k)) ts[k]) := wUpto_take _ _ _ _ hlt
      have O1 := hid o1
      have O2 := hid o2
      have v0 : wr.cell? ⟨pb, po + k * 4, none⟩ = some (.string ts[k].name) := (BW.out.cell hpl).trans z0
      have v1 : wr.cell? ⟨pb, po + k * 4 + 1, none⟩ = some (.int .i64 ts[k].limit) := (BW.out.cell hpl).trans z1
      have v2 : wr.cell? ⟨pb, po + k * 4 + 2, none⟩ = some (.slice q1 ts[k].mets.length d1) := (BW.out.cell hpl).trans z2
      have v3 : wr.cell? ⟨pb, po + k * 4 + 3, none⟩ = some (.slice q2 ts[k].sers.length d2) := (BW.out.cell hpl).trans z3
      clear z0 z1 z2 z3 o1 o2
      generalize (wUpto t b0 (ts.take k)) = U at *
      generalize ts[k] = P at *
      obtain ⟨LU, PU⟩ := U
      have T3 : Hid (Blk wr (w.heap.size + 1 + 1) #[.string t.name, .int .i64 t.limit, .slice a1 t.mets.length c1, .slice a2 t.sers.length c2] 55) := (HBL.out.block (w.heap.size + 1 + 1) (by omega)).trans T1.out
      have u0' : (wr.alloc (.cells #[.string P.name, .int .i64 P.limit, .slice q1 P.mets.length d1, .slice q2 P.sers.length d2] 55)).cell? ⟨w.heap.size + 1 + 1, 0, none⟩ = some (.string t.name) := (T3.out.alloc _).cell 0
      have r0' : (wr.alloc (.cells #[.string P.name, .int .i64 P.limit, .slice q1 P.mets.length d1, .slice q2 P.sers.length d2] 55)).cell? ⟨wr.heap.size, 0, none⟩ = some (.string P.name) := (Blk.new _ _ _).cell 0
      have HRL0 : Hid (∀ q, (Value.slice va ys.length vc).ownBlock = some q → q < wr.heap.size) := fun q hq => (HR.out.lt q hq).2
      cases PU with
      | true =>
        have HU2 : Hid (wUpto t b0 (ts.take (k + 1)) = (LU ++ (if (P.name.toList == t.name.toList) = true then [] else [P]), true)) := by show _ = _; rw [HU.out]; simp [wStep]
        go_upto_region 9 with fail
        have B6 : Hid (Below (w.heap.size + 4) w1 (wr.alloc (.cells #[.string P.name, .int .i64 P.limit, .slice q1 P.mets.length d1, .slice q2 P.sers.length d2] 55))) := HBL.out.trans ((bnew _ _).mono (by omega))
        have T6 : Hid (Blk (wr.alloc (.cells #[.string P.name, .int .i64 P.limit, .slice q1 P.mets.length d1, .slice q2 P.sers.length d2] 55)) (w.heap.size + 1 + 1) #[.string t.name, .int .i64 t.limit, .slice a1 t.mets.length c1, .slice a2 t.sers.length c2] 55) := T3.out.alloc _
        have X6 : Hid (Blk (wr.alloc (.cells #[.string P.name, .int .i64 P.limit, .slice q1 P.mets.length d1, .slice q2 P.sers.length d2] 55)) wr.heap.size #[.string P.name, .int .i64 P.limit, .slice q1 P.mets.length d1, .slice q2 P.sers.length d2] 55) := Blk.new _ _ _
        have HR6 : Hid ((wr.alloc (.cells #[.string P.name, .int .i64 P.limit, .slice q1 P.mets.length d1, .slice q2 P.sers.length d2] 55)).ownsRow (w.heap.size + 4) 55 4 (.slice va ys.length vc) ys.length (flatV ys)) := row_later HR.out (bnew _ _)
        have HOY6 := HOY
        have HYM6 : Hid (ys.map (·.t) = LU) := HYM.out
        clear HYM HR HOY HU v0 v1 v2 v3 u0' r0' T3 HBL
        generalize wr.alloc (.cells #[.string P.name, .int .i64 P.limit, .slice q1 P.mets.length d1, .slice q2 P.sers.length d2] 55) = w6 at *
        have hs6 : w1.heap.size ≤ w6.heap.size := B6.out.size
        have u0 : w6.cell? ⟨w.heap.size + 1 + 1, 0, none⟩ = some (.string t.name) := T6.out.cell 0
        have r0 : w6.cell? ⟨wr.heap.size, 0, none⟩ = some (.string P.name) := X6.out.cell 0
        have r1 : w6.cell? ⟨wr.heap.size, 1, none⟩ = some (.int .i64 P.limit) := X6.out.cell 1
        have r2 : w6.cell? ⟨wr.heap.size, 2, none⟩ = some (.slice q1 P.mets.length d1) := X6.out.cell 2
        have r3 : w6.cell? ⟨wr.heap.size, 3, none⟩ = some (.slice q2 P.sers.length d2) := X6.out.cell 3
        by_cases hsm : (P.name.toList == t.name.toList) = true
        · go_wp2
          refine ⟨⟨k + 1, va, vc, ys, by omega, by go_num, rfl, by rw [HU2.out], by omega, HR6.out, ?_, HOY6.out, B6.out⟩, by simp [intOf]; omega⟩
          refine hid ?_
          rw [HU2.out]
          show _ = _ ++ _
          rw [if_pos hsm, List.append_nil]
          exact HYM6.out
        · have hsm' : (P.name.toList == t.name.toList) = false := by simpa using hsm
          clear hsm
          go_wp2_with (at_builtin; refine wpList_append_lies _ rfl _ _ _ rfl (w.heap.size + 4) 55 ti _ 4 72 Tryz.underlying31 HI.out hz0 hz1 hz2 rfl (by omega) (.slice va ys.length vc) ys.length (flatV ys) rfl (by exact row_later HR6.out (bnew _ _)) ⟨w6.heap.size, 0, none⟩ 1 1 [.string P.name, .int .i64 P.limit, .slice q1 P.mets.length d1, .slice q2 P.sers.length d2] rfl rfl (by exact World.news_of_block (cs := #[.string P.name, .int .i64 P.limit, .slice q1 P.mets.length d1, .slice q2 P.sers.length d2]) (heap_alloc_new _ _)) (by simp [Value.oneCell']) (by omega) (by simp [maxLen]; omega) (by omega) (by simp; omega) (w6.heap.size + 1) (by simp) ?_; intro gg7 cap7 w7 hown6 hgrow6 hat6 hlt6)
          have HB7 : Hid (Below (w.heap.size + 4) w1 w7) := B6.out.trans (((bnew w6 (.cells #[.string P.name, .int .i64 P.limit, .slice q1 P.mets.length d1, .slice q2 P.sers.length d2] 55)).mono (by omega)).trans ((Turn.grown hgrow6).below (by simp; omega) fun i hi e => by have := (HR6.out.lt i e).1; omega))
          refine ⟨⟨k + 1, some ⟨gg7, 0, none⟩, cap7, ys ++ [(⟨P, q1, d1, q2, d2⟩ : TV)], by omega, by go_num, by simp, by rw [HU2.out], by simp; omega, ?_, ?_, HOY6.out.snoc O1.out O2.out, HB7.out⟩, by simp [intOf]; omega⟩
          · refine hid ?_
            rw [flatV_append, List.length_append]
            exact hown6
          · refine hid ?_
            rw [HU2.out]
            show _ = _ ++ _
            rw [hsm', List.map_append, HYM6.out]
            rfl
      | false =>
        by_cases hbl : blt P.name t.name = true
        · have HU2 : Hid (wUpto t b0 (ts.take (k + 1)) = (LU ++ (if (P.name.toList == t.name.toList) = true then [] else [P]), false)) := by show _ = _; rw [HU.out]; simp [wStep, hbl]
          have hsm' : (P.name.toList == t.name.toList) = false := same_not (blt_ne hbl)
          have hq1 : (t.name.toList == P.name.toList) = false := same_not (blt_ne hbl).symm
          have hq2 : Op.bytesLess t.name.toList P.name.toList = false := blt_asymm hbl
          clear hbl
          go_upto_region 9 with fail
          have B6 : Hid (Below (w.heap.size + 4) w1 (wr.alloc (.cells #[.string P.name, .int .i64 P.limit, .slice q1 P.mets.length d1, .slice q2 P.sers.length d2] 55))) := HBL.out.trans ((bnew _ _).mono (by omega))
          have T6 : Hid (Blk (wr.alloc (.cells #[.string P.name, .int .i64 P.limit, .slice q1 P.mets.length d1, .slice q2 P.sers.length d2] 55)) (w.heap.size + 1 + 1) #[.string t.name, .int .i64 t.limit, .slice a1 t.mets.length c1, .slice a2 t.sers.length c2] 55) := T3.out.alloc _
          have X6 : Hid (Blk (wr.alloc (.cells #[.string P.name, .int .i64 P.limit, .slice q1 P.mets.length d1, .slice q2 P.sers.length d2] 55)) wr.heap.size #[.string P.name, .int .i64 P.limit, .slice q1 P.mets.length d1, .slice q2 P.sers.length d2] 55) := Blk.new _ _ _
          have HR6 : Hid ((wr.alloc (.cells #[.string P.name, .int .i64 P.limit, .slice q1 P.mets.length d1, .slice q2 P.sers.length d2] 55)).ownsRow (w.heap.size + 4) 55 4 (.slice va ys.length vc) ys.length (flatV ys)) := row_later HR.out (bnew _ _)
          have HOY6 := HOY
          have HYM6 : Hid (ys.map (·.t) = LU) := HYM.out
          clear HYM HR HOY HU v0 v1 v2 v3 u0' r0' T3 HBL
          generalize wr.alloc (.cells #[.string P.name, .int .i64 P.limit, .slice q1 P.mets.length d1, .slice q2 P.sers.length d2] 55) = w6 at *
          have hs6 : w1.heap.size ≤ w6.heap.size := B6.out.size
          have u0 : w6.cell? ⟨w.heap.size + 1 + 1, 0, none⟩ = some (.string t.name) := T6.out.cell 0
          have r0 : w6.cell? ⟨wr.heap.size, 0, none⟩ = some (.string P.name) := X6.out.cell 0
          have r1 : w6.cell? ⟨wr.heap.size, 1, none⟩ = some (.int .i64 P.limit) := X6.out.cell 1
          have r2 : w6.cell? ⟨wr.heap.size, 2, none⟩ = some (.slice q1 P.mets.length d1) := X6.out.cell 2
          have r3 : w6.cell? ⟨wr.heap.size, 3, none⟩ = some (.slice q2 P.sers.length d2) := X6.out.cell 3
          go_wp2_with (at_builtin; refine wpList_append_lies _ rfl _ _ _ rfl (w.heap.size + 4) 55 ti _ 4 72 Tryz.underlying31 HI.out hz0 hz1 hz2 rfl (by omega) (.slice va ys.length vc) ys.length (flatV ys) rfl (by exact row_later HR6.out (bnew _ _)) ⟨w6.heap.size, 0, none⟩ 1 1 [.string P.name, .int .i64 P.limit, .slice q1 P.mets.length d1, .slice q2 P.sers.length d2] rfl rfl (by exact World.news_of_block (cs := #[.string P.name, .int .i64 P.limit, .slice q1 P.mets.length d1, .slice q2 P.sers.length d2]) (heap_alloc_new _ _)) (by simp [Value.oneCell']) (by omega) (by simp [maxLen]; omega) (by omega) (by simp; omega) (w6.heap.size + 1) (by simp) ?_; intro gg7 cap7 w7 hown6 hgrow6 hat6 hlt6)
          have HB7 : Hid (Below (w.heap.size + 4) w1 w7) := B6.out.trans (((bnew w6 (.cells #[.string P.name, .int .i64 P.limit, .slice q1 P.mets.length d1, .slice q2 P.sers.length d2] 55)).mono (by omega)).trans ((Turn.grown hgrow6).below (by simp; omega) fun i hi e => by have := (HR6.out.lt i e).1; omega))
          refine ⟨⟨k + 1, some ⟨gg7, 0, none⟩, cap7, ys ++ [(⟨P, q1, d1, q2, d2⟩ : TV)], by omega, by go_num, by simp, by rw [HU2.out], by simp; omega, ?_, ?_, HOY6.out.snoc O1.out O2.out, HB7.out⟩, by simp [intOf]; omega⟩
          · refine hid ?_
            rw [flatV_append, List.length_append]
            exact hown6
          · refine hid ?_
            rw [HU2.out]
            show _ = _ ++ _
            rw [hsm', List.map_append, HYM6.out]
            rfl
        · have hbl' : blt P.name t.name = false := by simpa using hbl
          have HU2 : Hid (wUpto t b0 (ts.take (k + 1)) = ((LU ++ [t]) ++ (if (P.name.toList == t.name.toList) = true then [] else [P]), true)) := by show _ = _; rw [HU.out]; simp [wStep, hbl']
          by_cases hbt : blt t.name P.name = true
          · have hsm' : (P.name.toList == t.name.toList) = false := same_not (blt_ne hbt).symm
            have hq2 : Op.bytesLess t.name.toList P.name.toList = true := hbt
            clear hbl hbl' hbt
            go_upto_region 7 with fail
            have B6 : Hid (Below (w.heap.size + 4) w1 (wr.alloc (.cells #[.string P.name, .int .i64 P.limit, .slice q1 P.mets.length d1, .slice q2 P.sers.length d2] 55))) := HBL.out.trans ((bnew _ _).mono (by omega))
            have T6 : Hid (Blk (wr.alloc (.cells #[.string P.name, .int .i64 P.limit, .slice q1 P.mets.length d1, .slice q2 P.sers.length d2] 55)) (w.heap.size + 1 + 1) #[.string t.name, .int .i64 t.limit, .slice a1 t.mets.length c1, .slice a2 t.sers.length c2] 55) := T3.out.alloc _
            have X6 : Hid (Blk (wr.alloc (.cells #[.string P.name, .int .i64 P.limit, .slice q1 P.mets.length d1, .slice q2 P.sers.length d2] 55)) wr.heap.size #[.string P.name, .int .i64 P.limit, .slice q1 P.mets.length d1, .slice q2 P.sers.length d2] 55) := Blk.new _ _ _
            have HR6 : Hid ((wr.alloc (.cells #[.string P.name, .int .i64 P.limit, .slice q1 P.mets.length d1, .slice q2 P.sers.length d2] 55)).ownsRow (w.heap.size + 4) 55 4 (.slice va ys.length vc) ys.length (flatV ys)) := row_later HR.out (bnew _ _)
            clear v0 v1 v2 v3 u0' r0' T3 HBL HR
            generalize wr.alloc (.cells #[.string P.name, .int .i64 P.limit, .slice q1 P.mets.length d1, .slice q2 P.sers.length d2] 55) = w5 at *
            have t0 : w5.cell? ⟨w.heap.size + 1 + 1, 0, none⟩ = some (.string t.name) := T6.out.cell 0
            have t1 : w5.cell? ⟨w.heap.size + 1 + 1, 1, none⟩ = some (.int .i64 t.limit) := T6.out.cell 1
            have t2 : w5.cell? ⟨w.heap.size + 1 + 1, 2, none⟩ = some (.slice a1 t.mets.length c1) := T6.out.cell 2
            have t3 : w5.cell? ⟨w.heap.size + 1 + 1, 3, none⟩ = some (.slice a2 t.sers.length c2) := T6.out.cell 3
            have hs55 : w1.heap.size ≤ w5.heap.size := B6.out.size
            have hX55 : wr.heap.size < w5.heap.size := lt_of_block X6.out
            go_upto_region 9 with (at_builtin; refine wpList_append_lies _ rfl _ _ _ rfl (w.heap.size + 4) 55 ti _ 4 72 Tryz.underlying31 HI.out hz0 hz1 hz2 rfl (by omega) (.slice va ys.length vc) ys.length (flatV ys) rfl (by exact row_later HR6.out (bnew _ _)) ⟨w5.heap.size, 0, none⟩ 1 1 [.string t.name, .int .i64 t.limit, .slice a1 t.mets.length c1, .slice a2 t.sers.length c2] rfl rfl (by exact World.news_of_block (cs := #[.string t.name, .int .i64 t.limit, .slice a1 t.mets.length c1, .slice a2 t.sers.length c2]) (heap_alloc_new _ _)) (by simp [Value.oneCell']) (by omega) (by simp [maxLen]; omega) (by omega) (by simp; omega) (w5.heap.size + 1) (by simp) ?_; intro gg5 cap5 w6 hown6 hgrow6 hat6 hlt6)
            have HT5 : Hid (Turn (fun i => w.heap.size + 4 ≤ i ∧ (Value.slice va ys.length vc).ownBlock = some i) w5 w6) := (Turn.of (bnew w5 (.cells #[.string t.name, .int .i64 t.limit, .slice a1 t.mets.length c1, .slice a2 t.sers.length c2] 55))).trans' ((Turn.grown hgrow6).mono fun i _ e => ⟨(HR6.out.lt i e).1, e⟩)
            have HNX : Hid ((Value.slice va ys.length vc).ownBlock ≠ some wr.heap.size) := fun e => by have := (HRL0.out wr.heap.size e); omega
            have HR6' : Hid (w6.ownsRow (w.heap.size + 4) 55 4 (.slice (some ⟨gg5, 0, none⟩) (ys ++ [(⟨t, a1, c1, a2, c2⟩ : TV)]).length cap5) (ys ++ [(⟨t, a1, c1, a2, c2⟩ : TV)]).length (flatV (ys ++ [(⟨t, a1, c1, a2, c2⟩ : TV)]))) := by
              refine hid ?_
              rw [flatV_append, List.length_append]
              exact hown6
            have HYM6 : Hid ((ys ++ [(⟨t, a1, c1, a2, c2⟩ : TV)]).map (·.t) = LU ++ [t]) := by show _ = _; rw [List.map_append, HYM.out]; rfl
            have HOY6 : Hid (OldY w (ys ++ [(⟨t, a1, c1, a2, c2⟩ : TV)])) := HOY.out.snoc P1.out P2.out
            have B6' : Hid (Below (w.heap.size + 4) w1 w6) := B6.out.trans (HT5.out.below (by omega) fun i hi e => by omega)
            have T6' : Hid (Blk w6 (w.heap.size + 1 + 1) #[.string t.name, .int .i64 t.limit, .slice a1 t.mets.length c1, .slice a2 t.sers.length c2] 55) := HT5.out.blk T6.out (fun e => by omega)
            have X6' : Hid (Blk w6 wr.heap.size #[.string P.name, .int .i64 P.limit, .slice q1 P.mets.length d1, .slice q2 P.sers.length d2] 55) := HT5.out.blk X6.out (fun e => HNX.out e.2)
            have ey : ys.length + 1 = (ys ++ [(⟨t, a1, c1, a2, c2⟩ : TV)]).length := by simp
            have hy6 : (ys ++ [(⟨t, a1, c1, a2, c2⟩ : TV)]).length ≤ 2 * k + 1 := by rw [← ey]; omega
            rw [ey]
            clear hown6 hgrow6 hat6 hlt6 HR6 B6 T6 X6 HYM HOY HU t0 t1 t2 t3 ey HT5 HNX hyl
            have HR6 := HR6'
            have B6 := B6'
            have T6 := T6'
            have X6 := X6'
            clear HR6' B6' T6' X6'
            generalize ys ++ [(⟨t, a1, c1, a2, c2⟩ : TV)] = ys6 at *
            have hs6 : w1.heap.size ≤ w6.heap.size := B6.out.size
            have u0 : w6.cell? ⟨w.heap.size + 1 + 1, 0, none⟩ = some (.string t.name) := T6.out.cell 0
            have r0 : w6.cell? ⟨wr.heap.size, 0, none⟩ = some (.string P.name) := X6.out.cell 0
            have r1 : w6.cell? ⟨wr.heap.size, 1, none⟩ = some (.int .i64 P.limit) := X6.out.cell 1
            have r2 : w6.cell? ⟨wr.heap.size, 2, none⟩ = some (.slice q1 P.mets.length d1) := X6.out.cell 2
            have r3 : w6.cell? ⟨wr.heap.size, 3, none⟩ = some (.slice q2 P.sers.length d2) := X6.out.cell 3
            go_wp2_with (at_builtin; refine wpList_append_lies _ rfl _ _ _ rfl (w.heap.size + 4) 55 ti _ 4 72 Tryz.underlying31 HI.out hz0 hz1 hz2 rfl (by omega) (.slice (some ⟨gg5, 0, none⟩) ys6.length cap5) ys6.length (flatV ys6) rfl (by exact row_later HR6.out (bnew _ _)) ⟨w6.heap.size, 0, none⟩ 1 1 [.string P.name, .int .i64 P.limit, .slice q1 P.mets.length d1, .slice q2 P.sers.length d2] rfl rfl (by exact World.news_of_block (cs := #[.string P.name, .int .i64 P.limit, .slice q1 P.mets.length d1, .slice q2 P.sers.length d2]) (heap_alloc_new _ _)) (by simp [Value.oneCell']) (by omega) (by simp [maxLen]; omega) (by omega) (by simp; omega) (w6.heap.size + 1) (by simp) ?_; intro gg7 cap7 w7 hown6 hgrow6 hat6 hlt6)
            have HB7 : Hid (Below (w.heap.size + 4) w1 w7) := B6.out.trans (((bnew w6 (.cells #[.string P.name, .int .i64 P.limit, .slice q1 P.mets.length d1, .slice q2 P.sers.length d2] 55)).mono (by omega)).trans ((Turn.grown hgrow6).below (by simp; omega) fun i hi e => by have := (HR6.out.lt i e).1; omega))
            refine ⟨⟨k + 1, some ⟨gg7, 0, none⟩, cap7, ys6 ++ [(⟨P, q1, d1, q2, d2⟩ : TV)], by omega, by go_num, by simp, by rw [HU2.out], by simp; omega, ?_, ?_, HOY6.out.snoc O1.out O2.out, HB7.out⟩, by simp [intOf]; omega⟩
            · refine hid ?_
              rw [flatV_append, List.length_append]
              exact hown6
            · refine hid ?_
              rw [HU2.out]
              show _ = _ ++ _
              rw [hsm', List.map_append, HYM6.out]
              rfl
          · have he : P.name = t.name := Decidable.byContradiction fun hne => hbt (blt_total hbl' hne)
            have hsm : (P.name.toList == t.name.toList) = true := (same_iff _ _).2 he
            have hq1 : (t.name.toList == P.name.toList) = true := (same_iff _ _).2 he.symm
            have hq2 : Op.bytesLess t.name.toList P.name.toList = false := by simpa [blt] using hbt
            clear hbl hbl' hbt he
            go_upto_region 7 with fail
            have B6 : Hid (Below (w.heap.size + 4) w1 (wr.alloc (.cells #[.string P.name, .int .i64 P.limit, .slice q1 P.mets.length d1, .slice q2 P.sers.length d2] 55))) := HBL.out.trans ((bnew _ _).mono (by omega))
            have T6 : Hid (Blk (wr.alloc (.cells #[.string P.name, .int .i64 P.limit, .slice q1 P.mets.length d1, .slice q2 P.sers.length d2] 55)) (w.heap.size + 1 + 1) #[.string t.name, .int .i64 t.limit, .slice a1 t.mets.length c1, .slice a2 t.sers.length c2] 55) := T3.out.alloc _
            have X6 : Hid (Blk (wr.alloc (.cells #[.string P.name, .int .i64 P.limit, .slice q1 P.mets.length d1, .slice q2 P.sers.length d2] 55)) wr.heap.size #[.string P.name, .int .i64 P.limit, .slice q1 P.mets.length d1, .slice q2 P.sers.length d2] 55) := Blk.new _ _ _
            have HR6 : Hid ((wr.alloc (.cells #[.string P.name, .int .i64 P.limit, .slice q1 P.mets.length d1, .slice q2 P.sers.length d2] 55)).ownsRow (w.heap.size + 4) 55 4 (.slice va ys.length vc) ys.length (flatV ys)) := row_later HR.out (bnew _ _)
            clear v0 v1 v2 v3 u0' r0' T3 HBL HR
            generalize wr.alloc (.cells #[.string P.name, .int .i64 P.limit, .slice q1 P.mets.length d1, .slice q2 P.sers.length d2] 55) = w5 at *
            have t0 : w5.cell? ⟨w.heap.size + 1 + 1, 0, none⟩ = some (.string t.name) := T6.out.cell 0
            have t1 : w5.cell? ⟨w.heap.size + 1 + 1, 1, none⟩ = some (.int .i64 t.limit) := T6.out.cell 1
            have t2 : w5.cell? ⟨w.heap.size + 1 + 1, 2, none⟩ = some (.slice a1 t.mets.length c1) := T6.out.cell 2
            have t3 : w5.cell? ⟨w.heap.size + 1 + 1, 3, none⟩ = some (.slice a2 t.sers.length c2) := T6.out.cell 3
            have hs55 : w1.heap.size ≤ w5.heap.size := B6.out.size
            have hX55 : wr.heap.size < w5.heap.size := lt_of_block X6.out
            go_upto_region 9 with (at_builtin; refine wpList_append_lies _ rfl _ _ _ rfl (w.heap.size + 4) 55 ti _ 4 72 Tryz.underlying31 HI.out hz0 hz1 hz2 rfl (by omega) (.slice va ys.length vc) ys.length (flatV ys) rfl (by exact row_later HR6.out (bnew _ _)) ⟨w5.heap.size, 0, none⟩ 1 1 [.string t.name, .int .i64 t.limit, .slice a1 t.mets.length c1, .slice a2 t.sers.length c2] rfl rfl (by exact World.news_of_block (cs := #[.string t.name, .int .i64 t.limit, .slice a1 t.mets.length c1, .slice a2 t.sers.length c2]) (heap_alloc_new _ _)) (by simp [Value.oneCell']) (by omega) (by simp [maxLen]; omega) (by omega) (by simp; omega) (w5.heap.size + 1) (by simp) ?_; intro gg5 cap5 w6 hown6 hgrow6 hat6 hlt6)
            have HT5 : Hid (Turn (fun i => w.heap.size + 4 ≤ i ∧ (Value.slice va ys.length vc).ownBlock = some i) w5 w6) := (Turn.of (bnew w5 (.cells #[.string t.name, .int .i64 t.limit, .slice a1 t.mets.length c1, .slice a2 t.sers.length c2] 55))).trans' ((Turn.grown hgrow6).mono fun i _ e => ⟨(HR6.out.lt i e).1, e⟩)
            have HNX : Hid ((Value.slice va ys.length vc).ownBlock ≠ some wr.heap.size) := fun e => by have := (HRL0.out wr.heap.size e); omega
            have HR6' : Hid (w6.ownsRow (w.heap.size + 4) 55 4 (.slice (some ⟨gg5, 0, none⟩) (ys ++ [(⟨t, a1, c1, a2, c2⟩ : TV)]).length cap5) (ys ++ [(⟨t, a1, c1, a2, c2⟩ : TV)]).length (flatV (ys ++ [(⟨t, a1, c1, a2, c2⟩ : TV)]))) := by
              refine hid ?_
              rw [flatV_append, List.length_append]
              exact hown6
            have HYM6 : Hid ((ys ++ [(⟨t, a1, c1, a2, c2⟩ : TV)]).map (·.t) = LU ++ [t]) := by show _ = _; rw [List.map_append, HYM.out]; rfl
            have HOY6 : Hid (OldY w (ys ++ [(⟨t, a1, c1, a2, c2⟩ : TV)])) := HOY.out.snoc P1.out P2.out
            have B6' : Hid (Below (w.heap.size + 4) w1 w6) := B6.out.trans (HT5.out.below (by omega) fun i hi e => by omega)
            have T6' : Hid (Blk w6 (w.heap.size + 1 + 1) #[.string t.name, .int .i64 t.limit, .slice a1 t.mets.length c1, .slice a2 t.sers.length c2] 55) := HT5.out.blk T6.out (fun e => by omega)
            have X6' : Hid (Blk w6 wr.heap.size #[.string P.name, .int .i64 P.limit, .slice q1 P.mets.length d1, .slice q2 P.sers.length d2] 55) := HT5.out.blk X6.out (fun e => HNX.out e.2)
            have ey : ys.length + 1 = (ys ++ [(⟨t, a1, c1, a2, c2⟩ : TV)]).length := by simp
            have hy6 : (ys ++ [(⟨t, a1, c1, a2, c2⟩ : TV)]).length ≤ 2 * k + 1 := by rw [← ey]; omega
            rw [ey]
            clear hown6 hgrow6 hat6 hlt6 HR6 B6 T6 X6 HYM HOY HU t0 t1 t2 t3 ey HT5 HNX hyl
            have HR6 := HR6'
            have B6 := B6'
            have T6 := T6'
            have X6 := X6'
            clear HR6' B6' T6' X6'
            generalize ys ++ [(⟨t, a1, c1, a2, c2⟩ : TV)] = ys6 at *
            have hs6 : w1.heap.size ≤ w6.heap.size := B6.out.size
            have u0 : w6.cell? ⟨w.heap.size + 1 + 1, 0, none⟩ = some (.string t.name) := T6.out.cell 0
            have r0 : w6.cell? ⟨wr.heap.size, 0, none⟩ = some (.string P.name) := X6.out.cell 0
            have r1 : w6.cell? ⟨wr.heap.size, 1, none⟩ = some (.int .i64 P.limit) := X6.out.cell 1
            have r2 : w6.cell? ⟨wr.heap.size, 2, none⟩ = some (.slice q1 P.mets.length d1) := X6.out.cell 2
            have r3 : w6.cell? ⟨wr.heap.size, 3, none⟩ = some (.slice q2 P.sers.length d2) := X6.out.cell 3
            go_wp2
            refine ⟨⟨k + 1, (some ⟨gg5, 0, none⟩), cap5, ys6, by omega, by go_num, rfl, by rw [HU2.out], by omega, HR6.out, ?_, HOY6.out, B6.out⟩, by simp [intOf]; omega⟩
            refine hid ?_
            rw [HU2.out]
            show _ = _ ++ _
            rw [if_pos hsm, List.append_nil]
            exact HYM6.out
    · have ek : ts.take k = ts := List.take_of_length_le (by omega)
      rw [ek] at HYM ⊢
      have HWA : Hid (wAll t b0 ts = (wUpto t b0 ts).1 ++ if (wUpto t b0 ts).2 = true then [] else [t]) := rfl
      generalize (wUpto t b0 ts) = U at *
      obtain ⟨LU, PU⟩ := U
      have hyl2 : ys.length ≤ 4000000 := by omega
      clear ek hyl
      cases PU with
      | true =>
        have HYM8 : Hid (ys.map (·.t) = wAll t b0 ts) := by show _ = _; rw [HWA.out, HYM.out]; simp
        have HR8 := HR
        have HOY8 := HOY
        have B8 := HBL
        clear HYM HWA HR HOY HBL BW
        generalize hwo : wr = w8 at *
        clear hwo
        have HTA := hid (row_old HR8.out HOY8.out)
        have hs8 : w1.heap.size ≤ w8.heap.size := B8.out.size
        have C8 : Hid (Blk w8 w.heap.size #[.int .i64 c.w, .int .i64 c.tl, .int .i64 c.ml, .int .i64 c.sh, .int .i64 c.ha, .int .i64 c.sg] 29) := (B8.out.block w.heap.size (by omega)).trans C1.out
        have R8 : Hid (Blk w8 (w.heap.size + 1 + 1 + 1) #[.int .i64 0, .slice none 0 0] 33) := (B8.out.block (w.heap.size + 1 + 1 + 1) (by omega)).trans R1.out
        have BW8 : Hid (Below w.heap.size w w8) := B1.out.trans (B8.out.mono (by omega))
        have HRL : Hid (RES = keptTs c.w now (ys.map (·.t))) := by show _ = _; rw [HRES.out, HYM8.out]
        have HFY : Hid (∀ i (h : i < ys.length), FitW ys[i].t) := fun i h => HFT.out _ (by
          have hm : ys[i].t ∈ ys.map (·.t) := List.mem_map_of_mem (List.getElem_mem h)
          rw [HYM8.out] at hm
          exact wAll_mem hm)
        clear HR8 HOY8 HYM8 HRES HFT B8 C1 R1 B1 T1 S1
        go_wp2
        have HX9 : Hid (Blk (w8.alloc (.cells #[.int .i64 now, .slice none 0 0] 33)) w8.heap.size #[.int .i64 now, .slice none 0 0] 33) := Blk.new _ _ _
        have B9 : Hid (Below w8.heap.size w8 (w8.alloc (.cells #[.int .i64 now, .slice none 0 0] 33))) := bnew _ _
        have hs9 : w8.heap.size < (w8.alloc (.cells #[.int .i64 now, .slice none 0 0] 33)).heap.size := by simp
        generalize w8.alloc (.cells #[.int .i64 now, .slice none 0 0] 33) = w9 at *
        go_loopw [15, 16, 61] (fun _ _ i wr => ∃ (k : Nat) (v : Value), k ≤ ys.length ∧ i = .int .i64 k ∧ Hid (Blk wr w8.heap.size #[.int .i64 now, v] 33) ∧ Hid (RowV wr w9.heap.size 55 v (keptTs c.w now ((ys.map (·.t)).take k)).length (keptTs c.w now ((ys.map (·.t)).take k))) ∧ Hid (Turn (· = w8.heap.size) w9 wr)) (fun _ _ i _ => ys.length - (intOf i).toNat)
        case atStart => exact ⟨0, .slice none 0 0, Nat.zero_le _, rfl, HX9.out, RowV.nil _ _ _, Turn.refl _ _⟩
        case round =>
          obtain ⟨k, v, hk, rfl, HX, HRV, HTU⟩ := hrel
          have hs9r : w9.heap.size ≤ wr.heap.size := HTU.out.size
          have BWr : Hid (Below w.heap.size w wr) := (bto BW8.out B9.out).trans (HTU.out.below (by omega) fun i hi e => by omega)
          have Cr : Hid (Blk wr w.heap.size #[.int .i64 c.w, .int .i64 c.tl, .int .i64 c.ml, .int .i64 c.sh, .int .i64 c.ha, .int .i64 c.sg] 29) := HTU.out.blk (C8.out.later B9.out) (by omega)
          by_cases hlt : k < ys.length
          · obtain ⟨b, hbe, hb8, z0, z1, z2, z3, o1, o2⟩ := HTA.out k hlt
            have hcc : ∀ j, wr.cell? ⟨b, j, none⟩ = w8.cell? ⟨b, j, none⟩ := fun j => World.cell?_of_block ((HTU.out.block b (by omega) (by omega)).trans (B9.out.block b hb8))
            have v0 := (hcc _).trans z0
            have v1 := (hcc _).trans z1
            have v2 := (hcc _).trans z2
            have v3 := (hcc _).trans z3
            clear hcc z0 z1 z2 z3
            cases hbe
            have HT : Hid (keptTs c.w now ((ys.map (·.t)).take (k + 1)) = keptTs c.w now ((ys.map (·.t)).take k) ++ if idleB (keptT c.w now ys[k].t) = true then [] else [keptT c.w now ys[k].t]) := by
              show _ = _
              rw [kts_take _ _ _ _ (by rw [List.length_map]; exact hlt)]
              simp
            have hkl : (keptTs c.w now ((ys.map (·.t)).take k)).length ≤ 5000000 := by
              have := kts_le c.w now (ys.map (·.t)) k
              rw [List.length_map] at this
              omega
            obtain ⟨f1, f2, f3⟩ := HFY.out k hlt
            have HKT : Hid (∀ W, Below w.heap.size w W → Calls Tryz.prog 40 #[.agg #[.string ys[k].t.name, .int .i64 ys[k].t.limit, .slice ys[k].a1 ys[k].t.mets.length ys[k].c1, .slice ys[k].a2 ys[k].t.sers.length ys[k].c2], .int .i64 now, .int .i64 c.w] W fun e w' => TelOut W (keptT c.w now ys[k].t).name (keptT c.w now ys[k].t) e w') := fun W hW => l4Kept_any ys[k].t _ _ _ _ now c.w W (o1.later hW) (o2.later hW) f1 f2 hn0 hn1 f3
            unfold TelOut at HKT
            clear o1 o2 f1 f2 f3
            generalize keptTs c.w now ((ys.map (·.t)).take k) = KL at *
            generalize keptT c.w now ys[k].t = K at *
            generalize ys[k] = Y at *
            have HID : Hid (∀ W x1 x2 e1 e2, Calls Tryz.prog 28 #[.agg #[.string K.name, .int .i64 K.limit, .slice x1 K.mets.length e1, .slice x2 K.sers.length e2]] W fun e w' => e = .returned (.bool (idleB K)) ∧ Below W.heap.size W w') := fun W x1 x2 e1 e2 => l4Idle_any K x1 x2 e1 e2 W
            have x0 : (wr.alloc (.cells #[.string Y.t.name, .int .i64 Y.t.limit, .slice Y.a1 Y.t.mets.length Y.c1, .slice Y.a2 Y.t.sers.length Y.c2] 55)).cell? ⟨w.heap.size, 0, none⟩ = some (.int .i64 c.w) := (Cr.out.alloc _).cell 0
            have hww : w.heap.size < wr.heap.size := by omega
            go_wp2_with fail
            refine (HKT.out _ (bto BWr.out (bnew _ _))).mono ?_
            rintro e w4 ⟨M, x1, e1, x2, e2, rfl, hM, h1, h1M, h2, hM4, hb4⟩
            have hM' : wr.heap.size ≤ M := by simp at hM; omega
            have HH1 : Hid (PairsOwn w4 wr.heap.size x1 K.mets) := h1.mono (by simp)
            have HH2 := hid h2
            have HH3 := hid h1M
            have B4 : Hid (Below wr.heap.size wr w4) := bto (bnew _ _) hb4
            have hs4 : wr.heap.size ≤ w4.heap.size := B4.out.size
            clear hM h1 h1M h2 hb4 x0 v0 v1 v2 v3
            have X4 : Hid (Blk (w4.alloc (.cells #[.string K.name, .int .i64 K.limit, .slice x1 K.mets.length e1, .slice x2 K.sers.length e2] 55)) w4.heap.size #[.string K.name, .int .i64 K.limit, .slice x1 K.mets.length e1, .slice x2 K.sers.length e2] 55) := Blk.new _ _ _
            go_wp2_with fail
            refine (HID.out _ _ _ _ _).mono ?_
            rintro e w5 ⟨rfl, hb5⟩
            have B45 : Hid (Below w4.heap.size w4 w5) := bto (bnew _ _) hb5
            have B5 : Hid (Below wr.heap.size wr w5) := bto B4.out B45.out
            have X5 : Hid (Blk w5 w4.heap.size #[.string K.name, .int .i64 K.limit, .slice x1 K.mets.length e1, .slice x2 K.sers.length e2] 55) := X4.out.later hb5
            have O5 : Hid (Blk w5 w8.heap.size #[.int .i64 now, v] 33) := HX.out.later B5.out
            have T5 : Hid (Turn (· = w8.heap.size) w9 w5) := HTU.out.trans (Turn.of B5.out)
            have hs5 : w4.heap.size < w5.heap.size := lt_of_block X5.out
            clear hb5 X4 HID HKT
            cases hidl : idleB K with
            | true =>
              have HTT : Hid (keptTs c.w now ((ys.map (·.t)).take (k + 1)) = KL) := by show _ = _; rw [HT.out, if_pos hidl, List.append_nil]
              have HRV5 : Hid (RowV w5 w9.heap.size 55 v KL.length KL) := HRV.out.turn (Turn.of (S := fun _ => False) B5.out) (fun _ e => e.elim)
              clear hidl
              go_wp2
              refine ⟨⟨k + 1, v, by omega, by go_num, O5.out, ?_, T5.out⟩, by simp [intOf]; omega⟩
              rw [HTT.out]
              exact HRV5
            | false =>
              have HTT : Hid (keptTs c.w now ((ys.map (·.t)).take (k + 1)) = KL ++ [K]) := by show _ = _; rw [HT.out, if_neg (by rw [hidl]; simp)]
              clear hidl
              obtain ⟨TG, zs, hV1, hV2, hV3, hV4⟩ := HRV.out
              have HV1 : Hid (w5.ownsRow w9.heap.size 55 4 v KL.length (flatV zs)) := row_later hV1 B5.out
              have HV2 := hid hV2
              have HV3 := hid hV3
              have HV4 := hid hV4
              have HOB : Hid (∀ q, v.ownBlock = some q → w9.heap.size ≤ q ∧ q < wr.heap.size) := fun q hq => hV1.lt q hq
              clear hV1 hV2 hV3 hV4
              have s1 : w5.cell? ⟨w8.heap.size, 1, none⟩ = some v := O5.out.cell 1
              have r0 : w5.cell? ⟨w4.heap.size, 0, none⟩ = some (.string K.name) := X5.out.cell 0
              have r1 : w5.cell? ⟨w4.heap.size, 1, none⟩ = some (.int .i64 K.limit) := X5.out.cell 1
              have r2 : w5.cell? ⟨w4.heap.size, 2, none⟩ = some (.slice x1 K.mets.length e1) := X5.out.cell 2
              have r3 : w5.cell? ⟨w4.heap.size, 3, none⟩ = some (.slice x2 K.sers.length e2) := X5.out.cell 3
              go_wp2_with (at_builtin; refine wpList_append_lies _ rfl _ _ _ rfl w9.heap.size 55 ti _ 4 72 Tryz.underlying31 HI.out hz0 hz1 hz2 rfl (by omega) v KL.length (flatV zs) rfl (by exact row_later HV1.out (bnew _ _)) ⟨w5.heap.size, 0, none⟩ 1 1 [.string K.name, .int .i64 K.limit, .slice x1 K.mets.length e1, .slice x2 K.sers.length e2] rfl rfl (by exact World.news_of_block (cs := #[.string K.name, .int .i64 K.limit, .slice x1 K.mets.length e1, .slice x2 K.sers.length e2]) (heap_alloc_new _ _)) (by simp [Value.oneCell']) (by omega) (by simp [maxLen]; omega) (by omega) (by simp; omega) (w5.heap.size + 1) (by simp) ?_; intro gg cap6 w6 hown6 hgrow6 hat6 hlt6; have hag : v.ownBlock ≠ some w8.heap.size := (fun e => by have := (HOB.out _ e).1; omega); have BX6 : Hid (Blk w6 w8.heap.size #[.int .i64 now, v] 33) := (Turn.grown hgrow6).blk (O5.out.alloc _) hag; have s6 := BX6.out.cell 1; have f6 := BX6.out.free 1; have HO6 := hid hown6; have HGR6 := hid hgrow6; have HAT6 := hid hat6; clear hown6 hgrow6 hat6 hlt6 hag)
              have hgg : (v.ownBlock = some gg ∧ gg < wr.heap.size) ∨ w4.heap.size ≤ gg := by
                rcases HAT6.out with h | h
                · exact Or.inl ⟨h, (HOB.out _ h).2⟩
                · exact Or.inr (by omega)
              have hgb : w9.heap.size ≤ gg := by
                rcases hgg with h | h
                · exact (HOB.out _ h.1).1
                · omega
              have hset : Turn (· = w8.heap.size) w6 (w6.setCell ⟨w8.heap.size, 1, none⟩ (.slice (some ⟨gg, 0, none⟩) (KL.length + 1) cap6)) := (Turn.refl (· = w8.heap.size) w6).setCell (Or.inl rfl) 1 _
              have hgs : w5.heap.size + 1 ≤ w6.heap.size := by have := HGR6.out.size; simp at this; omega
              have hk5 : ∀ g, g < w5.heap.size → w9.heap.size ≤ g → v.ownBlock ≠ some g → (w6.setCell ⟨w8.heap.size, 1, none⟩ (.slice (some ⟨gg, 0, none⟩) (KL.length + 1) cap6)).heap[g]? = w5.heap[g]? := fun g hg hgR2 hne => by
                rw [hset.block g (by omega) (by omega), (Turn.grown HGR6.out).block g (by simp; omega) hne]
                exact (bnew _ _).block g hg
              refine ⟨⟨k + 1, .slice (some ⟨gg, 0, none⟩) (KL.length + 1) cap6, by omega, by go_num, ?_, ?_, ?_⟩, by simp [intOf]; omega⟩
              · refine hid ?_
                have := BX6.out.set 1 (.slice (some ⟨gg, 0, none⟩) (KL.length + 1) cap6)
                simpa using this
              · rw [HTT.out, List.length_append]
                have hyk : zs.length = KL.length := by rw [← HV2.out, List.length_map]
                exact RowV.snoc (wr := wr) (w4 := w4) (M := M) (v := v) (T := TG) (ys := zs) (hset.row HO6.out (fun q hq e => by simp [Value.ownBlock] at hq; omega)) HV2.out hyk HV3.out HV4.out (by omega) hM'
                  (fun g hg hgR2 hne => (hk5 g (by omega) hgR2 hne).trans (B5.out.block g hg))
                  (fun g hg hg4 => (hk5 g (by omega) (by omega) (fun e => by have := (HOB.out _ e).2; omega)).trans (B45.out.block g hg4))
                  HH1.out HH3.out HH2.out hgg hs4 hM4
              · exact ((T5.out.trans (Turn.of (bnew _ _))).trans ((Turn.grown HGR6.out).mono fun i _ e => Or.inr (HOB.out i e).1)).trans' hset
          · have ek : (ys.map (·.t)).take k = ys.map (·.t) := List.take_of_length_le (by rw [List.length_map]; omega)
            rw [ek, ← HRL.out] at HRV
            obtain ⟨ra, rc, rfl⟩ := HRV.out.row
            have Yr : Hid (Blk wr (w.heap.size + 1 + 1 + 1) #[.int .i64 0, .slice none 0 0] 33) := HTU.out.blk (R8.out.later B9.out) (by omega)
            have x0 : wr.cell? ⟨w8.heap.size, 0, none⟩ = some (.int .i64 now) := HX.out.cell 0
            have x1 : wr.cell? ⟨w8.heap.size, 1, none⟩ = some (.slice ra RES.length rc) := HX.out.cell 1
            have y0 : wr.cell? ⟨w.heap.size + 1 + 1 + 1, 0, none⟩ = some (.int .i64 0) := Yr.out.cell 0
            have y1 : wr.cell? ⟨w.heap.size + 1 + 1 + 1, 1, none⟩ = some (.slice none 0 0) := Yr.out.cell 1
            have f0 := Yr.out.free 0
            have f1 := Yr.out.free 1
            have hwl : w.heap.size + 1 + 1 + 1 < wr.heap.size := lt_of_block Yr.out
            go_wp2
            have HTE : Turn (· = w.heap.size + 1 + 1 + 1) wr ((wr.setCell ⟨w.heap.size + 1 + 1 + 1, 0, none⟩ (.int .i64 now)).setCell ⟨w.heap.size + 1 + 1 + 1, 1, none⟩ (.slice ra RES.length rc)) := ((Turn.refl (· = w.heap.size + 1 + 1 + 1) wr).setCell (Or.inl rfl) 0 _).setCell (Or.inl rfl) 1 _
            refine bodyPost_ret (v := .agg #[.int .i64 now, .slice ra RES.length rc]) (by simp [results, Tryz.results41, go_sem, y0, y1]) rfl ⟨ra, ⟨rc, rfl⟩, ((HRV.out.turn HTE (fun g e => by omega)).own rfl).mono (by omega), ((Turn.of (S := fun i => w.heap.size ≤ i) BWr.out).trans' (HTE.mono fun i _ e => by omega)).below (Nat.le_refl _) fun i hi h => by omega⟩
      | false =>
        have T3 : Hid (Blk wr (w.heap.size + 1 + 1) #[.string t.name, .int .i64 t.limit, .slice a1 t.mets.length c1, .slice a2 t.sers.length c2] 55) := (HBL.out.block (w.heap.size + 1 + 1) (by omega)).trans T1.out
        have t0 : wr.cell? ⟨w.heap.size + 1 + 1, 0, none⟩ = some (.string t.name) := T3.out.cell 0
        have t1 : wr.cell? ⟨w.heap.size + 1 + 1, 1, none⟩ = some (.int .i64 t.limit) := T3.out.cell 1
        have t2 : wr.cell? ⟨w.heap.size + 1 + 1, 2, none⟩ = some (.slice a1 t.mets.length c1) := T3.out.cell 2
        have t3 : wr.cell? ⟨w.heap.size + 1 + 1, 3, none⟩ = some (.slice a2 t.sers.length c2) := T3.out.cell 3
        go_upto_region 14 with (at_builtin; refine wpList_append_lies _ rfl _ _ _ rfl (w.heap.size + 4) 55 ti _ 4 72 Tryz.underlying31 HI.out hz0 hz1 hz2 rfl (by omega) (.slice va ys.length vc) ys.length (flatV ys) rfl (by exact row_later HR.out (bnew _ _)) ⟨wr.heap.size, 0, none⟩ 1 1 [.string t.name, .int .i64 t.limit, .slice a1 t.mets.length c1, .slice a2 t.sers.length c2] rfl rfl (by exact World.news_of_block (cs := #[.string t.name, .int .i64 t.limit, .slice a1 t.mets.length c1, .slice a2 t.sers.length c2]) (heap_alloc_new _ _)) (by simp [Value.oneCell']) (by omega) (by simp [maxLen]; omega) (by omega) (by simp; omega) (wr.heap.size + 1) (by simp) ?_; intro gg5 cap5 w8 hown6 hgrow6 hat6 hlt6)
        have HT5 : Hid (Turn (fun i => w.heap.size + 4 ≤ i) wr w8) := (Turn.of (bnew wr (.cells #[.string t.name, .int .i64 t.limit, .slice a1 t.mets.length c1, .slice a2 t.sers.length c2] 55))).trans' ((Turn.grown hgrow6).mono fun i _ e => (HR.out.lt i e).1)
        have HR8 : Hid (w8.ownsRow (w.heap.size + 4) 55 4 (.slice (some ⟨gg5, 0, none⟩) (ys ++ [(⟨t, a1, c1, a2, c2⟩ : TV)]).length cap5) (ys ++ [(⟨t, a1, c1, a2, c2⟩ : TV)]).length (flatV (ys ++ [(⟨t, a1, c1, a2, c2⟩ : TV)]))) := by
          refine hid ?_
          rw [flatV_append, List.length_append]
          exact hown6
        have HYM8 : Hid ((ys ++ [(⟨t, a1, c1, a2, c2⟩ : TV)]).map (·.t) = wAll t b0 ts) := by show _ = _; rw [HWA.out, List.map_append, HYM.out]; simp
        have HOY8 : Hid (OldY w (ys ++ [(⟨t, a1, c1, a2, c2⟩ : TV)])) := HOY.out.snoc P1.out P2.out
        have B8 : Hid (Below (w.heap.size + 4) w1 w8) := HBL.out.trans (HT5.out.below (by omega) fun i hi e => by omega)
        have ey : ys.length + 1 = (ys ++ [(⟨t, a1, c1, a2, c2⟩ : TV)]).length := by simp
        have hyl3 : (ys ++ [(⟨t, a1, c1, a2, c2⟩ : TV)]).length ≤ 4000001 := by rw [← ey]; omega
        rw [ey]
        clear hown6 hgrow6 hat6 hlt6 HR HYM HOY HBL BW HWA t0 t1 t2 t3 T3 ey HT5 hyl2
        generalize ys ++ [(⟨t, a1, c1, a2, c2⟩ : TV)] = ys8 at *
        clear hsr
        have HTA := hid (row_old HR8.out HOY8.out)
        have hs8 : w1.heap.size ≤ w8.heap.size := B8.out.size
        have C8 : Hid (Blk w8 w.heap.size #[.int .i64 c.w, .int .i64 c.tl, .int .i64 c.ml, .int .i64 c.sh, .int .i64 c.ha, .int .i64 c.sg] 29) := (B8.out.block w.heap.size (by omega)).trans C1.out
        have R8 : Hid (Blk w8 (w.heap.size + 1 + 1 + 1) #[.int .i64 0, .slice none 0 0] 33) := (B8.out.block (w.heap.size + 1 + 1 + 1) (by omega)).trans R1.out
        have BW8 : Hid (Below w.heap.size w w8) := B1.out.trans (B8.out.mono (by omega))
        have HRL : Hid (RES = keptTs c.w now (ys8.map (·.t))) := by show _ = _; rw [HRES.out, HYM8.out]
        have HFY : Hid (∀ i (h : i < ys8.length), FitW ys8[i].t) := fun i h => HFT.out _ (by
          have hm : ys8[i].t ∈ ys8.map (·.t) := List.mem_map_of_mem (List.getElem_mem h)
          rw [HYM8.out] at hm
          exact wAll_mem hm)
        clear HR8 HOY8 HYM8 HRES HFT B8 C1 R1 B1 T1 S1
        go_wp2
        have HX9 : Hid (Blk (w8.alloc (.cells #[.int .i64 now, .slice none 0 0] 33)) w8.heap.size #[.int .i64 now, .slice none 0 0] 33) := Blk.new _ _ _
        have B9 : Hid (Below w8.heap.size w8 (w8.alloc (.cells #[.int .i64 now, .slice none 0 0] 33))) := bnew _ _
        have hs9 : w8.heap.size < (w8.alloc (.cells #[.int .i64 now, .slice none 0 0] 33)).heap.size := by simp
        generalize w8.alloc (.cells #[.int .i64 now, .slice none 0 0] 33) = w9 at *
        go_loopw [15, 16, 61] (fun _ _ i wr => ∃ (k : Nat) (v : Value), k ≤ ys8.length ∧ i = .int .i64 k ∧ Hid (Blk wr w8.heap.size #[.int .i64 now, v] 33) ∧ Hid (RowV wr w9.heap.size 55 v (keptTs c.w now ((ys8.map (·.t)).take k)).length (keptTs c.w now ((ys8.map (·.t)).take k))) ∧ Hid (Turn (· = w8.heap.size) w9 wr)) (fun _ _ i _ => ys8.length - (intOf i).toNat)
        case atStart => exact ⟨0, .slice none 0 0, Nat.zero_le _, rfl, HX9.out, RowV.nil _ _ _, Turn.refl _ _⟩
        case round =>
          obtain ⟨k, v, hk, rfl, HX, HRV, HTU⟩ := hrel
          have hs9r : w9.heap.size ≤ wr.heap.size := HTU.out.size
          have BWr : Hid (Below w.heap.size w wr) := (bto BW8.out B9.out).trans (HTU.out.below (by omega) fun i hi e => by omega)
          have Cr : Hid (Blk wr w.heap.size #[.int .i64 c.w, .int .i64 c.tl, .int .i64 c.ml, .int .i64 c.sh, .int .i64 c.ha, .int .i64 c.sg] 29) := HTU.out.blk (C8.out.later B9.out) (by omega)
          by_cases hlt : k < ys8.length
          · obtain ⟨b, hbe, hb8, z0, z1, z2, z3, o1, o2⟩ := HTA.out k hlt
            have hcc : ∀ j, wr.cell? ⟨b, j, none⟩ = w8.cell? ⟨b, j, none⟩ := fun j => World.cell?_of_block ((HTU.out.block b (by omega) (by omega)).trans (B9.out.block b hb8))
            have v0 := (hcc _).trans z0
            have v1 := (hcc _).trans z1
            have v2 := (hcc _).trans z2
            have v3 := (hcc _).trans z3
            clear hcc z0 z1 z2 z3
            cases hbe
            have HT : Hid (keptTs c.w now ((ys8.map (·.t)).take (k + 1)) = keptTs c.w now ((ys8.map (·.t)).take k) ++ if idleB (keptT c.w now ys8[k].t) = true then [] else [keptT c.w now ys8[k].t]) := by
              show _ = _
              rw [kts_take _ _ _ _ (by rw [List.length_map]; exact hlt)]
              simp
            have hkl : (keptTs c.w now ((ys8.map (·.t)).take k)).length ≤ 5000000 := by
              have := kts_le c.w now (ys8.map (·.t)) k
              rw [List.length_map] at this
              omega
            obtain ⟨f1, f2, f3⟩ := HFY.out k hlt
            have HKT : Hid (∀ W, Below w.heap.size w W → Calls Tryz.prog 40 #[.agg #[.string ys8[k].t.name, .int .i64 ys8[k].t.limit, .slice ys8[k].a1 ys8[k].t.mets.length ys8[k].c1, .slice ys8[k].a2 ys8[k].t.sers.length ys8[k].c2], .int .i64 now, .int .i64 c.w] W fun e w' => TelOut W (keptT c.w now ys8[k].t).name (keptT c.w now ys8[k].t) e w') := fun W hW => l4Kept_any ys8[k].t _ _ _ _ now c.w W (o1.later hW) (o2.later hW) f1 f2 hn0 hn1 f3
            unfold TelOut at HKT
            clear o1 o2 f1 f2 f3
            generalize keptTs c.w now ((ys8.map (·.t)).take k) = KL at *
            generalize keptT c.w now ys8[k].t = K at *
            generalize ys8[k] = Y at *
            have HID : Hid (∀ W x1 x2 e1 e2, Calls Tryz.prog 28 #[.agg #[.string K.name, .int .i64 K.limit, .slice x1 K.mets.length e1, .slice x2 K.sers.length e2]] W fun e w' => e = .returned (.bool (idleB K)) ∧ Below W.heap.size W w') := fun W x1 x2 e1 e2 => l4Idle_any K x1 x2 e1 e2 W
            have x0 : (wr.alloc (.cells #[.string Y.t.name, .int .i64 Y.t.limit, .slice Y.a1 Y.t.mets.length Y.c1, .slice Y.a2 Y.t.sers.length Y.c2] 55)).cell? ⟨w.heap.size, 0, none⟩ = some (.int .i64 c.w) := (Cr.out.alloc _).cell 0
            have hww : w.heap.size < wr.heap.size := by omega
            go_wp2_with fail
            refine (HKT.out _ (bto BWr.out (bnew _ _))).mono ?_
            rintro e w4 ⟨M, x1, e1, x2, e2, rfl, hM, h1, h1M, h2, hM4, hb4⟩
            have hM' : wr.heap.size ≤ M := by simp at hM; omega
            have HH1 : Hid (PairsOwn w4 wr.heap.size x1 K.mets) := h1.mono (by simp)
            have HH2 := hid h2
            have HH3 := hid h1M
            have B4 : Hid (Below wr.heap.size wr w4) := bto (bnew _ _) hb4
            have hs4 : wr.heap.size ≤ w4.heap.size := B4.out.size
            clear hM h1 h1M h2 hb4 x0 v0 v1 v2 v3
            have X4 : Hid (Blk (w4.alloc (.cells #[.string K.name, .int .i64 K.limit, .slice x1 K.mets.length e1, .slice x2 K.sers.length e2] 55)) w4.heap.size #[.string K.name, .int .i64 K.limit, .slice x1 K.mets.length e1, .slice x2 K.sers.length e2] 55) := Blk.new _ _ _
            go_wp2_with fail
            refine (HID.out _ _ _ _ _).mono ?_
            rintro e w5 ⟨rfl, hb5⟩
            have B45 : Hid (Below w4.heap.size w4 w5) := bto (bnew _ _) hb5
            have B5 : Hid (Below wr.heap.size wr w5) := bto B4.out B45.out
            have X5 : Hid (Blk w5 w4.heap.size #[.string K.name, .int .i64 K.limit, .slice x1 K.mets.length e1, .slice x2 K.sers.length e2] 55) := X4.out.later hb5
            have O5 : Hid (Blk w5 w8.heap.size #[.int .i64 now, v] 33) := HX.out.later B5.out
            have T5 : Hid (Turn (· = w8.heap.size) w9 w5) := HTU.out.trans (Turn.of B5.out)
            have hs5 : w4.heap.size < w5.heap.size := lt_of_block X5.out
            clear hb5 X4 HID HKT
            cases hidl : idleB K with
            | true =>
              have HTT : Hid (keptTs c.w now ((ys8.map (·.t)).take (k + 1)) = KL) := by show _ = _; rw [HT.out, if_pos hidl, List.append_nil]
              have HRV5 : Hid (RowV w5 w9.heap.size 55 v KL.length KL) := HRV.out.turn (Turn.of (S := fun _ => False) B5.out) (fun _ e => e.elim)
              clear hidl
              go_wp2
              refine ⟨⟨k + 1, v, by omega, by go_num, O5.out, ?_, T5.out⟩, by simp [intOf]; omega⟩
              rw [HTT.out]
              exact HRV5
            | false =>
              have HTT : Hid (keptTs c.w now ((ys8.map (·.t)).take (k + 1)) = KL ++ [K]) := by show _ = _; rw [HT.out, if_neg (by rw [hidl]; simp)]
              clear hidl
              obtain ⟨TG, zs, hV1, hV2, hV3, hV4⟩ := HRV.out
              have HV1 : Hid (w5.ownsRow w9.heap.size 55 4 v KL.length (flatV zs)) := row_later hV1 B5.out
              have HV2 := hid hV2
              have HV3 := hid hV3
              have HV4 := hid hV4
              have HOB : Hid (∀ q, v.ownBlock = some q → w9.heap.size ≤ q ∧ q < wr.heap.size) := fun q hq => hV1.lt q hq
              clear hV1 hV2 hV3 hV4
              have s1 : w5.cell? ⟨w8.heap.size, 1, none⟩ = some v := O5.out.cell 1
              have r0 : w5.cell? ⟨w4.heap.size, 0, none⟩ = some (.string K.name) := X5.out.cell 0
              have r1 : w5.cell? ⟨w4.heap.size, 1, none⟩ = some (.int .i64 K.limit) := X5.out.cell 1
              have r2 : w5.cell? ⟨w4.heap.size, 2, none⟩ = some (.slice x1 K.mets.length e1) := X5.out.cell 2
              have r3 : w5.cell? ⟨w4.heap.size, 3, none⟩ = some (.slice x2 K.sers.length e2) := X5.out.cell 3
              go_wp2_with (at_builtin; refine wpList_append_lies _ rfl _ _ _ rfl w9.heap.size 55 ti _ 4 72 Tryz.underlying31 HI.out hz0 hz1 hz2 rfl (by omega) v KL.length (flatV zs) rfl (by exact row_later HV1.out (bnew _ _)) ⟨w5.heap.size, 0, none⟩ 1 1 [.string K.name, .int .i64 K.limit, .slice x1 K.mets.length e1, .slice x2 K.sers.length e2] rfl rfl (by exact World.news_of_block (cs := #[.string K.name, .int .i64 K.limit, .slice x1 K.mets.length e1, .slice x2 K.sers.length e2]) (heap_alloc_new _ _)) (by simp [Value.oneCell']) (by omega) (by simp [maxLen]; omega) (by omega) (by simp; omega) (w5.heap.size + 1) (by simp) ?_; intro gg cap6 w6 hown6 hgrow6 hat6 hlt6; have hag : v.ownBlock ≠ some w8.heap.size := (fun e => by have := (HOB.out _ e).1; omega); have BX6 : Hid (Blk w6 w8.heap.size #[.int .i64 now, v] 33) := (Turn.grown hgrow6).blk (O5.out.alloc _) hag; have s6 := BX6.out.cell 1; have f6 := BX6.out.free 1; have HO6 := hid hown6; have HGR6 := hid hgrow6; have HAT6 := hid hat6; clear hown6 hgrow6 hat6 hlt6 hag)
              have hgg : (v.ownBlock = some gg ∧ gg < wr.heap.size) ∨ w4.heap.size ≤ gg := by
                rcases HAT6.out with h | h
                · exact Or.inl ⟨h, (HOB.out _ h).2⟩
                · exact Or.inr (by omega)
              have hgb : w9.heap.size ≤ gg := by
                rcases hgg with h | h
                · exact (HOB.out _ h.1).1
                · omega
              have hset : Turn (· = w8.heap.size) w6 (w6.setCell ⟨w8.heap.size, 1, none⟩ (.slice (some ⟨gg, 0, none⟩) (KL.length + 1) cap6)) := (Turn.refl (· = w8.heap.size) w6).setCell (Or.inl rfl) 1 _
              have hgs : w5.heap.size + 1 ≤ w6.heap.size := by have := HGR6.out.size; simp at this; omega
              have hk5 : ∀ g, g < w5.heap.size → w9.heap.size ≤ g → v.ownBlock ≠ some g → (w6.setCell ⟨w8.heap.size, 1, none⟩ (.slice (some ⟨gg, 0, none⟩) (KL.length + 1) cap6)).heap[g]? = w5.heap[g]? := fun g hg hgR2 hne => by
                rw [hset.block g (by omega) (by omega), (Turn.grown HGR6.out).block g (by simp; omega) hne]
                exact (bnew _ _).block g hg
              refine ⟨⟨k + 1, .slice (some ⟨gg, 0, none⟩) (KL.length + 1) cap6, by omega, by go_num, ?_, ?_, ?_⟩, by simp [intOf]; omega⟩
              · refine hid ?_
                have := BX6.out.set 1 (.slice (some ⟨gg, 0, none⟩) (KL.length + 1) cap6)
                simpa using this
              · rw [HTT.out, List.length_append]
                have hyk : zs.length = KL.length := by rw [← HV2.out, List.length_map]
                exact RowV.snoc (wr := wr) (w4 := w4) (M := M) (v := v) (T := TG) (ys := zs) (hset.row HO6.out (fun q hq e => by simp [Value.ownBlock] at hq; omega)) HV2.out hyk HV3.out HV4.out (by omega) hM'
                  (fun g hg hgR2 hne => (hk5 g (by omega) hgR2 hne).trans (B5.out.block g hg))
                  (fun g hg hg4 => (hk5 g (by omega) (by omega) (fun e => by have := (HOB.out _ e).2; omega)).trans (B45.out.block g hg4))
                  HH1.out HH3.out HH2.out hgg hs4 hM4
              · exact ((T5.out.trans (Turn.of (bnew _ _))).trans ((Turn.grown HGR6.out).mono fun i _ e => Or.inr (HOB.out i e).1)).trans' hset
          · have ek : (ys8.map (·.t)).take k = ys8.map (·.t) := List.take_of_length_le (by rw [List.length_map]; omega)
            rw [ek, ← HRL.out] at HRV
            obtain ⟨ra, rc, rfl⟩ := HRV.out.row
            have Yr : Hid (Blk wr (w.heap.size + 1 + 1 + 1) #[.int .i64 0, .slice none 0 0] 33) := HTU.out.blk (R8.out.later B9.out) (by omega)
            have x0 : wr.cell? ⟨w8.heap.size, 0, none⟩ = some (.int .i64 now) := HX.out.cell 0
            have x1 : wr.cell? ⟨w8.heap.size, 1, none⟩ = some (.slice ra RES.length rc) := HX.out.cell 1
            have y0 : wr.cell? ⟨w.heap.size + 1 + 1 + 1, 0, none⟩ = some (.int .i64 0) := Yr.out.cell 0
            have y1 : wr.cell? ⟨w.heap.size + 1 + 1 + 1, 1, none⟩ = some (.slice none 0 0) := Yr.out.cell 1
            have f0 := Yr.out.free 0
            have f1 := Yr.out.free 1
            have hwl : w.heap.size + 1 + 1 + 1 < wr.heap.size := lt_of_block Yr.out
            go_wp2
            have HTE : Turn (· = w.heap.size + 1 + 1 + 1) wr ((wr.setCell ⟨w.heap.size + 1 + 1 + 1, 0, none⟩ (.int .i64 now)).setCell ⟨w.heap.size + 1 + 1 + 1, 1, none⟩ (.slice ra RES.length rc)) := ((Turn.refl (· = w.heap.size + 1 + 1 + 1) wr).setCell (Or.inl rfl) 0 _).setCell (Or.inl rfl) 1 _
            refine bodyPost_ret (v := .agg #[.int .i64 now, .slice ra RES.length rc]) (by simp [results, Tryz.results41, go_sem, y0, y1]) rfl ⟨ra, ⟨rc, rfl⟩, ((HRV.out.turn HTE (fun g e => by omega)).own rfl).mono (by omega), ((Turn.of (S := fun i => w.heap.size ≤ i) BWr.out).trans' (HTE.mono fun i _ e => by omega)).below (Nat.le_refl _) fun i hi h => by omega⟩
end Go.Proofs.YtojeemogabhaoaaGreatDoor
