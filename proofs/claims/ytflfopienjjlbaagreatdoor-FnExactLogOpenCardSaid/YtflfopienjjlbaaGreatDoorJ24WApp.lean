import Derived.Test.YtflfopienjjlbaaGreatDoorProg
import Derived.Test.YtflfopienjjlbaaGreatDoorJ09PropD
import Derived.Maps.AppendAt
import Derived.Test.YtflfopienjjlbaaGreatDoorJ23AppE
import Derived.Deep.AppendLies
import Derived.Deep.RegionHeld3
import Derived.Deep.DeepCutAuto
import Derived.Test.YtflfopienjjlbaaGreatDoorJ15WAdd
import Derived.Test.YtflfopienjjlbaaGreatDoorJ14WLog
namespace Go.Proofs.YtflfopienjjlbaaGreatDoor
open Go.RowKit

theorem row_from3 {w : World} {B : Nat} {e : TypeId} {size : Nat} {v : Value} {n : Nat} {xs : List Value} (h : w.ownsRow B e size v n xs) : ∀ g, v.ownBlock = some g → B ≤ g := by
  intro q hq
  rcases h.2 with ⟨he, _⟩ | ⟨g, cap, cur, he, hB, _⟩
  · rw [he] at hq; simp [Value.ownBlock] at hq
  · rw [he] at hq; simp [Value.ownBlock] at hq; omega
theorem add_at (g o q : Nat) : (⟨g, o, none⟩ : Addr).add q = ⟨g, o + q, none⟩ := by
  unfold Addr.add
  split <;> simp_all
theorem grow_facts {w wr w2 w5 : World} {P D cv : Nat} {n : Nat} {av : Option Addr} {xs : List Value} {first last : Int} {sz : Nat} (hsw : w.heap.size ≤ wr.heap.size) (hPl : P < w.heap.size) (hB2 : Below wr.heap.size wr w2) (hrow : w2.ownsRow w.heap.size 9 1 (.slice av n cv) n xs) (hg : w2.grownBy w5 (Value.slice av n cv).ownBlock)
    (hbl : Blk wr P #[.pointer (some ⟨D, 0, none⟩), .int .i64 first, .int .i64 last, .int .i64 (sz : Nat)] 68) :
    Below w.heap.size wr w5 ∧ Blk w5 P #[.pointer (some ⟨D, 0, none⟩), .int .i64 first, .int .i64 last, .int .i64 (sz : Nat)] 68 ∧ w5.cell? ⟨P, 3, none⟩ = some (.int .i64 (sz : Nat)) ∧ w5.frozen? ⟨P, 3, none⟩ = false := by
  have h1 : Below w.heap.size wr w5 := (hB2.mono hsw).grown hg (Nat.le_trans hsw hB2.size) (fun q hq => row_from3 hrow q hq)
  have h2 : Blk w5 P #[.pointer (some ⟨D, 0, none⟩), .int .i64 first, .int .i64 last, .int .i64 (sz : Nat)] 68 := (h1.block P hPl).trans hbl
  exact ⟨h1, h2, by rw [h2.cell]; rfl, h2.free 3⟩
theorem but_below {P : Nat} {w wr w5 : World} (h : But P w wr) (k : Below w.heap.size wr w5) : But P w w5 :=
  ⟨k.os.trans h.os, k.tape.trans h.tape, k.output.trans h.output, Nat.le_trans h.size k.size, fun q hq hne => (k.block q hq).trans (h.block q hq hne)⟩
theorem FilesIn.butA {w w' : World} {P : Nat} {a : Option Addr} {fs : List FileD} (h : FilesIn w a fs) (hb : But P w w') (hP : ∀ b o, a = some ⟨b, o, none⟩ → b ≠ P) : FilesIn w' a fs := by
  rcases h with h | ⟨b, o, rfl, hlt, h⟩
  · exact Or.inl h
  · exact FilesIn.but (Or.inr ⟨b, o, rfl, hlt, h⟩) hb (hP b o rfl)

set_option maxRecDepth 100000 in
set_option maxHeartbeats 2000000 in
theorem readAll_any (P D : Nat) (a : Option Addr) (cap cnt : Nat) (fs : List FileD) (first : Int) (w : World) (hPb : Blk w P #[.pointer (some ⟨D, 0, none⟩), .int .i64 first, .int .i64 (first + cnt), .int .i64 0] 68) (hD : w.cell? ⟨D, 4, none⟩ = some (.slice a fs.length cap)) (hDl : D < w.heap.size) (hDP : D ≠ P) (hf : FilesIn w a fs)
    (hfP : ∀ b o, a = some ⟨b, o, none⟩ → b ≠ P) (hasc : Asc fs) (hlen : fs.length ≤ 1048576) (hPg : ∀ W, But P w W → PowTab W) (hcnt : cnt < 1000) (hfirst : 1 ≤ first) (hf2 : first ≤ 999999) (hix : ∀ j : Nat, j ≤ cnt → ∃ i, ∃ h : i < fs.length, fs[i].name = segS (first + j)) (hsz : ∀ n, (datAt fs n).size ≤ 1000000000) :
    Calls Tryz.prog 66 #[.pointer (some ⟨P, 0, none⟩)] w fun e w' => ReadPost P D first (first + cnt) w (readR fs (first + cnt) (cnt + 1) first [] 0) e w' := by
  have hPl : P < w.heap.size := lt_of_block hPb
  have HF : Hid (FilesIn w a fs) := hf
  have HFP : Hid (∀ b o, a = some ⟨b, o, none⟩ → b ≠ P) := hfP
  have HA : Hid (Asc fs) := hasc
  have HPG : Hid (∀ W, But P w W → PowTab W) := hPg
  have HIX : Hid (∀ j : Nat, j ≤ cnt → ∃ i, ∃ h : i < fs.length, fs[i].name = segS (first + j)) := hix
  have HSZ : Hid (∀ n, (datAt fs n).size ≤ 1000000000) := hsz
  have HD : Hid (w.cell? ⟨D, 4, none⟩ = some (.slice a fs.length cap)) := hD
  obtain ⟨ti, hti, hz0, hz1, hz2⟩ := info_str
  have HI : Hid (Tryz.prog.info? 9 = some ti) := hti
  have c0 : w.cell? ⟨P, 1, none⟩ = some (.int .i64 first) := by rw [hPb.cell]; rfl
  have HPB : Hid (Blk w P #[.pointer (some ⟨D, 0, none⟩), .int .i64 first, .int .i64 (first + cnt), .int .i64 0] 68) := hPb
  have HG : ∃ R, Hid (readR fs (first + cnt) (cnt + 1) first [] 0 = R) := ⟨_, rfl⟩
  obtain ⟨R, HR0⟩ := HG
  rw [HR0.out]
  clear hti hf hfP hasc hPg hix hsz hD hPb
  go_enter Tryz.func66, Tryz.ntmps66
  go_wp2
  go_loopw [4, 5] (fun out i wr => ∃ (j sz : Nat) (ys : List ByteArray) (av : Option Addr) (cv : Nat), j ≤ cnt + 1 ∧ ys.length ≤ j * 1000000001 ∧ Hid (readR fs (first + cnt) (cnt + 1 - j) (first + j) ys sz = R) ∧ i = .int .i64 (first + j) ∧ out = .slice av ys.length cv ∧ Hid (wr.ownsRow w.heap.size 9 1 (.slice av ys.length cv) ys.length (ys.map Value.string)) ∧ Hid (But P w wr) ∧ Hid (Blk wr P #[.pointer (some ⟨D, 0, none⟩), .int .i64 first, .int .i64 (first + cnt), .int .i64 (sz : Nat)] 68)) (fun _ i _ => (first + cnt + 1 - intOf i).toNat)
  case atStart =>
    exact ⟨0, 0, [], none, 0, by omega, by simp, by simpa using HR0, by simp, rfl, ⟨rfl, Or.inl ⟨rfl, rfl⟩⟩, But.refl _ _, HPB.out⟩
  case round =>
    obtain ⟨j, sz, ys, av, cv, hj, hy, HR, rfl, rfl, HROW, HBU, HBL⟩ := hrel
    have d0 : wr.cell? ⟨P, 0, none⟩ = some (.pointer (some ⟨D, 0, none⟩)) := by rw [HBL.out.cell]; rfl
    have d2 : wr.cell? ⟨P, 2, none⟩ = some (.int .i64 (first + cnt)) := by rw [HBL.out.cell]; rfl
    have hsw : w.heap.size ≤ wr.heap.size := HBU.out.size
    clear c0
    by_cases hlt : j ≤ cnt
    · obtain ⟨i, hi, hnm⟩ := HIX.out j hlt
      have HFw : Hid (FilesIn wr a fs) := HF.out.butA HBU.out HFP.out
      have HDw : Hid (wr.cell? ⟨D, 4, none⟩ = some (.slice a fs.length cap)) := (World.cell?_of_block (HBU.out.block D hDl hDP)).trans HD.out
      have HC1 : Hid (Calls Tryz.prog 92 #[.pointer (some ⟨P, 0, none⟩), .int .i64 (first + j)] wr fun e w' => ∃ b o, a = some ⟨b, o, none⟩ ∧ e = .returned (.pointer (some ⟨b, o + i * 3, none⟩)) ∧ Below wr.heap.size wr w') := segAt_any P D a cap i fs (first + j) wr d0 (by omega) HDw.out (by omega) HFw.out HA.out hlen (HPG.out wr HBU.out) hi hnm
      have hdt : datAt fs (first + j) = fs[i].data := datAt_eq HA.out hi hnm
      have hds : fs[i].data.size ≤ 1000000000 := by rw [← hdt]; exact HSZ.out _
      go_wp2_with fail
      refine HC1.out.mono ?_
      rintro e w1 ⟨b, o, rfl, rfl, hb1⟩
      obtain ⟨b', o', eb, hbb, q0, q1, q2⟩ := (HFw.out.later hb1).at hi
      simp only [Option.some.injEq, Addr.mk.injEq, and_true] at eb
      obtain ⟨rfl, rfl⟩ := eb
      have HB1 : Hid (Below wr.heap.size wr w1) := hb1
      have hs1 : wr.heap.size ≤ w1.heap.size := hb1.size
      have HRR : Hid (readR fs (first + cnt) (cnt + 1 - j) (first + j) ys sz = if (scanV fs[i].data).2 < fs[i].data.size ∧ first + (j : Int) < first + cnt then none else readR fs (first + cnt) (cnt - j) (first + j + 1) (ys ++ (scanV fs[i].data).1) (scanV fs[i].data).2) := by
        show _ = _
        rw [show cnt + 1 - j = (cnt - j) + 1 by omega, readR, hdt]
      clear hb1 HC1 HFw HDw hnm hdt q0 q2 d0
      generalize fs[i].data = dt at *
      have hvl := scanV_len dt
      have HSC : Hid (∀ W, Calls Tryz.prog 19 #[.string dt] W fun e w' => ∃ a cap, e = .returned (.tuple #[.slice a (scanV dt).1.length cap, .int .i64 ((scanV dt).2 : Nat)]) ∧ StrsOwn w' W.heap.size a (scanV dt).1 ∧ Below W.heap.size W w') := fun W => implScan_any dt W hds
      generalize scanV dt = V at *
      obtain ⟨ps, vz⟩ := V
      simp only at hvl HSC HRR
      go_wp2_with fail
      refine (HSC.out _).mono ?_
      rintro e w2 ⟨a2, c2, rfl, hst, hb2⟩
      have HB2 : Hid (Below wr.heap.size wr w2) := bto HB1.out hb2
      have hs2 : wr.heap.size ≤ w2.heap.size := HB2.out.size
      have HST : Hid (StrsOwn w2 w1.heap.size a2 ps) := hst
      have HBL2 := HBL.out.later HB2.out
      have d2' : w2.cell? ⟨P, 2, none⟩ = some (.int .i64 (first + cnt)) := by rw [HBL2.cell]; rfl
      clear hst hb2 HSC q1 d2 HBL2
      by_cases ht : vz < dt.size
      · by_cases hl : j < cnt
        · have HN : Hid (R = none) := by
            show _ = _
            rw [← HR.out, HRR.out, if_pos ⟨ht, by omega⟩]
          go_wp2
          go_ret2
          refine ⟨HBU.out.trans (But.of HB2.out), ?_⟩
          rw [HN.out]
          exact ⟨rfl, sz, HBL.out.later HB2.out⟩
        · have HN : Hid (readR fs (first + cnt) (cnt + 1 - (j + 1)) (first + ((j + 1 : Nat) : Int)) (ys ++ ps) vz = R) := by
            show _ = _
            rw [← HR.out, HRR.out, if_neg (fun h => hl (by omega)), show cnt + 1 - (j + 1) = cnt - j by omega, show first + ((j + 1 : Nat) : Int) = first + j + 1 by omega]
          have HROW2 : Hid (w2.ownsRow w.heap.size 9 1 (.slice av ys.length cv) ys.length (ys.map Value.string)) := row_later HROW.out HB2.out
          have hbb2 : w.heap.size ≤ w2.heap.size := by omega
          by_cases hm : 0 < ps.length
          · rcases HST.out with hps | ⟨g, o2, cur, t2, ha2, hgB, hgb, hcl⟩
            · rw [hps] at hm; simp at hm
            · subst ha2
              have HNEWS : Hid (∀ q u, (ps.map Value.string)[q]? = some u → w2.cell? ((⟨g, o2, none⟩ : Addr).add q) = some u) := fun q u hq => by
                rw [List.getElem?_map] at hq
                obtain ⟨x, hx, rfl⟩ := Option.map_eq_some_iff.1 hq
                obtain ⟨hlt', rfl⟩ := List.getElem?_eq_some_iff.1 hx
                rw [add_at]; exact hcl q hlt'
              clear hcl hgb hgB
              go_wp2_with (at_builtin; refine wpList_append_lies _ rfl _ _ _ rfl w.heap.size 9 ti _ 1 16 Tryz.underlying31 HI.out hz0 hz1 hz2 rfl (by omega) (.slice av ys.length cv) ys.length (ys.map Value.string) rfl HROW2.out ⟨g, o2, none⟩ ps.length c2 (ps.map Value.string) rfl (by simp) HNEWS.out (by simp [Value.oneCell']) hm (by simp [maxLen]; omega) (by omega) hbb2 w2.heap.size rfl ?_; intro g5 cap5 w5 hown5 hgrow5 hat5 hlt5; have HH := grow_facts hsw hPl HB2.out HROW2.out hgrow5 HBL.out; have HB5 : Hid (Below w.heap.size wr w5) := HH.1; have HBL5 : Hid (Blk w5 P #[.pointer (some ⟨D, 0, none⟩), .int .i64 first, .int .i64 (first + cnt), .int .i64 (sz : Nat)] 68) := HH.2.1; have d3 := HH.2.2.1; have f3 := HH.2.2.2; have HO5 : Hid (w5.ownsRow w.heap.size 9 1 (.slice (some ⟨g5, 0, none⟩) (ys.length + ps.length) cap5) (ys.length + ps.length) (ys.map Value.string ++ ps.map Value.string)) := hown5; clear HH hown5 hgrow5 hat5)
              have h6 := HO5.out
              rw [← List.map_append, ← List.length_append] at h6
              refine ⟨⟨j + 1, vz, ys ++ ps, some ⟨g5, 0, none⟩, cap5, by omega, by rw [List.length_append]; omega, HN, by go_num, by rw [List.length_append], row_set_below h6 (p := ⟨P, 3, none⟩) hPl _, (but_below HBU.out HB5.out).setCell _ _, HBL5.out.set 3 _⟩, by simp [intOf]; omega⟩
          · obtain rfl : ps = [] := List.length_eq_zero_iff.1 (by omega)
            have HBL2 : Hid (Blk w2 P #[.pointer (some ⟨D, 0, none⟩), .int .i64 first, .int .i64 (first + cnt), .int .i64 (sz : Nat)] 68) := HBL.out.later HB2.out
            have d3 : w2.cell? ⟨P, 3, none⟩ = some (.int .i64 (sz : Nat)) := by rw [HBL2.out.cell]; rfl
            have f3 := HBL2.out.free 3
            have HN2 : Hid (readR fs (first + cnt) (cnt + 1 - (j + 1)) (first + ((j + 1 : Nat) : Int)) ys vz = R) := by
              have h := HN.out
              rw [List.append_nil] at h
              exact h
            clear hm HN
            go_wp2_with (at_builtin; refine wpList_append_empty rfl _ _ _ rfl w.heap.size 9 ti 1 Tryz.underlying31 HI.out (.slice av ys.length cv) ys.length (ys.map Value.string) rfl HROW2.out a2 c2 rfl ?_)
            refine ⟨⟨j + 1, vz, ys, av, cv, by omega, Nat.le_trans hy (Nat.mul_le_mul_right _ (Nat.le_succ _)), HN2, by go_num, rfl, row_set_below HROW2.out (p := ⟨P, 3, none⟩) hPl _, (HBU.out.trans (But.of HB2.out)).setCell _ _, HBL2.out.set 3 _⟩, by simp [intOf]; omega⟩
      · have HN : Hid (readR fs (first + cnt) (cnt + 1 - (j + 1)) (first + ((j + 1 : Nat) : Int)) (ys ++ ps) vz = R) := by
          show _ = _
          rw [← HR.out, HRR.out, if_neg (fun h => ht h.1), show cnt + 1 - (j + 1) = cnt - j by omega, show first + ((j + 1 : Nat) : Int) = first + j + 1 by omega]
        have HROW2 : Hid (w2.ownsRow w.heap.size 9 1 (.slice av ys.length cv) ys.length (ys.map Value.string)) := row_later HROW.out HB2.out
        have hbb2 : w.heap.size ≤ w2.heap.size := by omega
        by_cases hm : 0 < ps.length
        · rcases HST.out with hps | ⟨g, o2, cur, t2, ha2, hgB, hgb, hcl⟩
          · rw [hps] at hm; simp at hm
          · subst ha2
            have HNEWS : Hid (∀ q u, (ps.map Value.string)[q]? = some u → w2.cell? ((⟨g, o2, none⟩ : Addr).add q) = some u) := fun q u hq => by
              rw [List.getElem?_map] at hq
              obtain ⟨x, hx, rfl⟩ := Option.map_eq_some_iff.1 hq
              obtain ⟨hlt', rfl⟩ := List.getElem?_eq_some_iff.1 hx
              rw [add_at]; exact hcl q hlt'
            clear hcl hgb hgB
            go_wp2_with (at_builtin; refine wpList_append_lies _ rfl _ _ _ rfl w.heap.size 9 ti _ 1 16 Tryz.underlying31 HI.out hz0 hz1 hz2 rfl (by omega) (.slice av ys.length cv) ys.length (ys.map Value.string) rfl HROW2.out ⟨g, o2, none⟩ ps.length c2 (ps.map Value.string) rfl (by simp) HNEWS.out (by simp [Value.oneCell']) hm (by simp [maxLen]; omega) (by omega) hbb2 w2.heap.size rfl ?_; intro g5 cap5 w5 hown5 hgrow5 hat5 hlt5; have HH := grow_facts hsw hPl HB2.out HROW2.out hgrow5 HBL.out; have HB5 : Hid (Below w.heap.size wr w5) := HH.1; have HBL5 : Hid (Blk w5 P #[.pointer (some ⟨D, 0, none⟩), .int .i64 first, .int .i64 (first + cnt), .int .i64 (sz : Nat)] 68) := HH.2.1; have d3 := HH.2.2.1; have f3 := HH.2.2.2; have HO5 : Hid (w5.ownsRow w.heap.size 9 1 (.slice (some ⟨g5, 0, none⟩) (ys.length + ps.length) cap5) (ys.length + ps.length) (ys.map Value.string ++ ps.map Value.string)) := hown5; clear HH hown5 hgrow5 hat5)
            have h6 := HO5.out
            rw [← List.map_append, ← List.length_append] at h6
            refine ⟨⟨j + 1, vz, ys ++ ps, some ⟨g5, 0, none⟩, cap5, by omega, by rw [List.length_append]; omega, HN, by go_num, by rw [List.length_append], row_set_below h6 (p := ⟨P, 3, none⟩) hPl _, (but_below HBU.out HB5.out).setCell _ _, HBL5.out.set 3 _⟩, by simp [intOf]; omega⟩
        · obtain rfl : ps = [] := List.length_eq_zero_iff.1 (by omega)
          have HBL2 : Hid (Blk w2 P #[.pointer (some ⟨D, 0, none⟩), .int .i64 first, .int .i64 (first + cnt), .int .i64 (sz : Nat)] 68) := HBL.out.later HB2.out
          have d3 : w2.cell? ⟨P, 3, none⟩ = some (.int .i64 (sz : Nat)) := by rw [HBL2.out.cell]; rfl
          have f3 := HBL2.out.free 3
          have HN2 : Hid (readR fs (first + cnt) (cnt + 1 - (j + 1)) (first + ((j + 1 : Nat) : Int)) ys vz = R) := by
            have h := HN.out
            rw [List.append_nil] at h
            exact h
          clear hm HN
          go_wp2_with (at_builtin; refine wpList_append_empty rfl _ _ _ rfl w.heap.size 9 ti 1 Tryz.underlying31 HI.out (.slice av ys.length cv) ys.length (ys.map Value.string) rfl HROW2.out a2 c2 rfl ?_)
          refine ⟨⟨j + 1, vz, ys, av, cv, by omega, Nat.le_trans hy (Nat.mul_le_mul_right _ (Nat.le_succ _)), HN2, by go_num, rfl, row_set_below HROW2.out (p := ⟨P, 3, none⟩) hPl _, (HBU.out.trans (But.of HB2.out)).setCell _ _, HBL2.out.set 3 _⟩, by simp [intOf]; omega⟩
    · have e : j = cnt + 1 := by omega
      have HN : Hid (R = some (ys, sz)) := by
        show _ = _
        rw [← HR.out, e, Nat.sub_self, readR]
      go_wp2
      go_ret2
      refine ⟨HBU.out, ?_⟩
      rw [HN.out]
      exact ⟨⟨av, cv, rfl, HROW.out⟩, HBL.out⟩
end Go.Proofs.YtflfopienjjlbaaGreatDoor

namespace Go.Proofs.YtflfopienjjlbaaGreatDoor
open Go.RowKit

/-- What open answers. -/
def OpnPost (w0 w : World) (B P D : Nat) (R : DiskD × LogD × List ByteArray × Nat) (e : Ending) (w' : World) : Prop :=
  ∃ (sl : Value) (Lw : LogD), e = .returned (.tuple #[sl, errW R.2.2.2]) ∧ WSt w0 w' B P D R.1 Lw ∧ (R.2.2.2 = 0 → Lw = R.2.1 ∧ ∃ a cap, sl = .slice a R.2.2.1.length cap ∧ w'.ownsRow w.heap.size 9 1 sl R.2.2.1.length (R.2.2.1.map Value.string))

theorem WSt.dp {w0 w : World} {B P D : Nat} {K : DiskD} {L : LogD} (h : WSt w0 w B P D K L) : D ≠ P ∧ ∀ v, DriveAt w B D K.fs K.c K.k K.cr K.fl K.dn v → ∀ g, v.ownBlock = some g → g ≠ P := by
  constructor
  · intro e
    obtain ⟨v, hv⟩ := h.drive
    have e4 := hv.blk
    rw [e] at e4
    have e3 := (show w.heap[P]? = _ from e4).symm.trans h.wr
    simp at e3
  · intro v hv g hg e
    obtain ⟨cur, hc⟩ := own_file hv.row g hg
    rw [e] at hc
    have e3 := (show w.heap[P]? = _ from hc).symm.trans h.wr
    simp at e3
theorem WSt.but {w0 w w' : World} {B P D : Nat} {K : DiskD} {L L' : LogD} (h : WSt w0 w B P D K L) (hb : But P w w') (hw : WrAt w' P D L') : WSt w0 w' B P D K L' := by
  obtain ⟨v, hv⟩ := h.drive
  obtain ⟨h1, h2⟩ := h.dp
  refine ⟨h.pow, h.below.trans (hb.below h.hP h.below.size), h.hB, h.hP, hw, ⟨v, hv.from', ?_, ?_, hv.apart⟩, h.valid⟩
  · exact (hb.block D (lt_of_block hv.blk) h1).trans hv.blk
  · exact row_keeps (S := fun k => k = P) hv.row (Keeps.but hb) (fun g hg e => h2 v hv g hg e)
theorem row_ko {w w' : World} {B size : Nat} {v : Value} {n : Nat} {xs : List Value} (h : w.ownsRow B 9 size v n xs) (hk : KeepO w w') : w'.ownsRow B 9 size v n xs := by
  obtain ⟨h0, h1⟩ := h
  refine ⟨h0, ?_⟩
  rcases h1 with h1 | ⟨g, cap, cur, e1, hB, hg, h2⟩
  · exact Or.inl h1
  · exact Or.inr ⟨g, cap, cur, e1, hB, hk g cur 9 hg (by decide) (by decide), h2⟩
theorem name_short {fs : List FileD} (h : filesB fs = true) {i : Nat} (hi : i < fs.length) : fs[i].name.size ≤ 64 := by
  have h1 := fileB_of h fs[i] (List.getElem_mem hi)
  simp only [fileB, nameB, Bool.and_eq_true, decide_eq_true_eq] at h1
  omega
theorem datAt_le {fs : List FileD} (h : sumLen fs ≤ 1000000000) (n : Int) : (datAt fs n).size ≤ 1000000000 := by
  unfold datAt
  cases hq : fs[posOf (segS n) fs]? with
  | none => simp
  | some f =>
    obtain ⟨hi, rfl⟩ := List.getElem?_eq_some_iff.1 hq
    exact Nat.le_trans (sumLen_mem _ hi) h
theorem WSt.read {w0 w : World} {B P D : Nat} {K : DiskD} {x : Int} {cnt : Nat} (h : WSt w0 w B P D K ⟨x, x + cnt, 0⟩) (ha : Asc K.fs) (hl : K.fs.length ≤ 1000) (hs : sumLen K.fs ≤ 1000000000) (hc : cnt < 1000) (hx : 1 ≤ x) (hx2 : x ≤ 999999)
    (hix : ∀ j : Nat, j ≤ cnt → ∃ i, ∃ h : i < K.fs.length, K.fs[i].name = segS (x + j)) :
    Calls Tryz.prog 66 #[.pointer (some ⟨P, 0, none⟩)] w fun e w' => ReadPost P D x (x + cnt) w (readR K.fs (x + cnt) (cnt + 1) x [] 0) e w' := by
  obtain ⟨v, hv⟩ := h.drive
  obtain ⟨h1, h2⟩ := h.dp
  obtain ⟨a, cap, rfl, hf⟩ := hv.files
  exact readAll_any P D a cap cnt K.fs x w h.wr hv.cell4 (lt_of_block hv.blk) h1 hf (fun b o e => h2 _ hv b (by rw [e]; rfl)) ha (by omega) (fun W hW => h.pow.later (h.below.trans (hW.below h.hP h.below.size))) hc hx hx2 hix (datAt_le hs)

set_option maxRecDepth 100000 in
set_option maxHeartbeats 4000000 in
theorem open_any {w0 w : World} {B P D : Nat} {K : DiskD} (h : WSt w0 w B P D K noLog) (he : ErrTab w0) :
    Calls Tryz.prog 35 #[.pointer (some ⟨P, 0, none⟩)] w fun e w' => OpnPost w0 w B P D (openD K) e w' := by
  obtain ⟨v, hv⟩ := h.drive
  obtain ⟨a, cap, rfl, hf⟩ := hv.files
  obtain ⟨f1, f2, f3, f4, f5, f6, f7, _⟩ := files_of_disk h.valid
  have hasc : Asc K.fs := asc_of f1
  have HW := hid h
  have HV := hid hv
  have hvd := h.valid
  obtain ⟨c0, c1, c2, c3⟩ := h.wr.cells
  have d3 := hv.blk.cell 3
  by_cases hdn : K.dn = true
  · have E : Hid (openD K = (K, noLog, [], 1)) := by show _ = _; unfold openD; rw [if_neg (by rw [hvd]; decide), if_pos hdn]
    rw [E.out]
    rw [hdn] at d3
    clear h hv hdn
    go_enter Tryz.func35, Tryz.ntmps35
    go_wp2
    refine bodyPost_ret (v := .tuple #[.slice none 0 0, errW 1]) (by simp [results, Tryz.results35, go_sem, errW, errV, tDown]) rfl ⟨_, _, rfl, HW.out, fun h => absurd (show (1 : Nat) = 0 from h) (by decide)⟩
  have hdn' : K.dn = false := by simpa using hdn
  rw [hdn'] at d3
  have HSG : Hid (Calls Tryz.prog 65 #[.pointer (some ⟨P, 0, none⟩)] w fun e w' => ∃ a' cap', e = .returned (.slice a' (numsL K.fs).length cap') ∧ NumsIn w' a' (numsL K.fs) ∧ Below w.heap.size w w') :=
    segs_any P D a cap K.fs w c0 hv.cell4 hf (fun i hi => by have := name_short f1 hi; omega) (by omega) h.tab (he.later h.below)
  have hnl : (numsL K.fs).length ≤ 1000 := Nat.le_trans (numsL_length K.fs) (by omega)
  cases hq : numsL K.fs with
  | nil =>
    obtain ⟨⟨K1, x1⟩, hS⟩ : ∃ R, stepD K (opCreate 1) = R := ⟨_, rfl⟩
    have E : Hid (openD K = if x1 ≠ 0 then (K1, noLog, [], x1) else (K1, ⟨1, 1, 0⟩, [], 0)) := by
      show _ = _
      unfold openD
      rw [if_neg (by rw [hvd]; decide), if_neg hdn]
      simp only [hq, hS]
    rw [hq] at HSG
    generalize openD K = R at *
    clear h hv hdn hf
    go_enter Tryz.func35, Tryz.ntmps35
    go_wp2_with fail
    refine HSG.out.mono ?_
    rintro e w1 ⟨a', cap', rfl, _, hb1⟩
    have HW1 := hid (HW.out.later hb1)
    obtain ⟨v0, hv0⟩ := HW.out.drive
    have f1' := Blk.free HW1.out.wr 1
    have f2' := Blk.free HW1.out.wr 2
    have f3' := Blk.free HW1.out.wr 3
    obtain ⟨e0, e1, e2, e3⟩ := HW1.out.wr.cells
    clear c0 c1 c2 c3 d3 hb1
    go_upto_region 6 with fail
    have HWA : Hid (WSt w0 (((w1.setCell ⟨P, 1, none⟩ (.int .i64 1)).setCell ⟨P, 2, none⟩ (.int .i64 1)).setCell ⟨P, 3, none⟩ (.int .i64 0)) B P D K ⟨1, 1, 0⟩) := ((HW1.out.set (L' := ⟨1, 0, 0⟩) 1 _ (by simp [noLog])).set (L' := ⟨1, 1, 0⟩) 2 _ (by simp)).set (L' := ⟨1, 1, 0⟩) 3 _ (by simp)
    clear e0 e1 e2 e3 f1' f2' f3' HW1
    generalize ((w1.setCell ⟨P, 1, none⟩ (.int .i64 1)).setCell ⟨P, 2, none⟩ (.int .i64 1)).setCell ⟨P, 3, none⟩ (.int .i64 0) = WA at *
    obtain ⟨c0, _, _, _⟩ := HWA.out.wr.cells
    have HC0 : Hid (∀ W, WSt w0 W B P D K ⟨1, 1, 0⟩ → Calls Tryz.prog 49 #[.pointer (some ⟨D, 0, none⟩), .agg #[.int .i64 1, .string (segS 1), .string ⟨#[]⟩, .string ⟨#[]⟩, .int .i64 0]] W fun e w' => e = .returned (errV x1) ∧ x1 ≤ 6 ∧ WSt w0 w' B P D K1 ⟨1, 1, 0⟩) := fun W hW => stepOf (opCreate 1) hW (opB_mk (by omega) (by omega) (by omega)) (by show (1 : Int) ≤ 4; omega) hS
    go_region_held3 (fun w' => w'.cell? ⟨P, 0, none⟩ = some (.pointer (some ⟨D, 0, none⟩)))
      (first | exact HW8.out.wr.cells.1 | exact HW7.out.wr.cells.1 | exact (HWA.out.later (Below.refl _ _).drew).wr.cells.1)
      (first
      | (go_at_call 22; refine (implSeg_any 1 _ (HWA.out.later (Below.refl _ _).drew).tab).mono ?_; rintro e w7 ⟨rfl, hb7⟩; have HW7 : Hid (WSt w0 w7 B P D K ⟨1, 1, 0⟩) := (HWA.out.later (Below.refl _ _).drew).later hb7)
      | (go_at_call 49; refine (HC0.out _ HW7.out).mono ?_; rintro e w8 ⟨rfl, h6, hw8⟩; have HW8 : Hid (WSt w0 w8 B P D K1 ⟨1, 1, 0⟩) := hw8))
    all_goals (
      go_wp2
      have hE : errW x1 = errV x1 := by
        match x1, h6 with
        | 0, _ => rfl
        | 1, _ => rfl
        | 2, _ => rfl
        | 3, _ => rfl
        | 4, _ => rfl
        | 5, _ => rfl
        | 6, _ => rfl
      by_cases hx : x1 = 0
      · subst hx
        refine bodyPost_ret (v := .tuple #[.slice none 0 0, errV 0]) (by simp [results, Tryz.results35, go_sem]) rfl ?_
        rw [E.out, if_neg (by simp)]
        exact ⟨_, _, rfl, HW8.out, fun _ => ⟨rfl, none, 0, rfl, rfl, Or.inl ⟨rfl, rfl⟩⟩⟩
      · refine bodyPost_ret (v := .tuple #[.slice none 0 0, errV x1]) (by simp [results, Tryz.results35, go_sem]) rfl ?_
        rw [E.out, if_pos hx]
        exact ⟨_, _, by rw [hE], HW8.out, fun h => absurd h hx⟩)
  | cons x l =>
    have hlast : (x :: l).getLast (by simp) = (x :: l)[l.length] := List.getLast_eq_getElem _
    obtain ⟨y, hy⟩ : ∃ y, (x :: l)[l.length] = y := ⟨_, rfl⟩
    have E : Hid (openD K = openG K x y (l.length + 1)) := by
      show _ = _
      unfold openD
      rw [if_neg (by rw [hvd]; decide), if_neg hdn]
      simp only [hq, hlast, hy]
    have HNA : Hid (¬ ((l.length + 1 : Nat) : Int) ≤ y - x → ∃ cnt : Nat, y = x + cnt ∧ cnt + 1 = l.length + 1 ∧ 1 ≤ x ∧ x + cnt ≤ 999999 ∧ ∀ j : Nat, j ≤ cnt → ∃ i, ∃ h : i < K.fs.length, K.fs[i].name = segS (x + j)) := fun hg => by
      have := nums_at hasc hq (by rw [hlast, hy]; exact hg)
      rw [hlast, hy] at this
      exact this
    have hxb : 1 ≤ x ∧ x ≤ 999999 := by have := nums_mem (fs := K.fs) (n := x) (by rw [hq]; simp); exact ⟨this.1, this.2.1⟩
    have hyb : 1 ≤ y ∧ y ≤ 999999 := by have := nums_mem (fs := K.fs) (n := y) (by rw [hq, ← hy]; exact List.getElem_mem _); exact ⟨this.1, this.2.1⟩
    obtain ⟨hx1, hx2⟩ := hxb
    obtain ⟨hy1, hy2⟩ := hyb
    rw [hq] at HSG hnl
    rw [List.length_cons] at hnl
    have HSG2 : Hid (Calls Tryz.prog 65 #[.pointer (some ⟨P, 0, none⟩)] w fun e w' => ∃ nb no cap', e = .returned (.slice (some ⟨nb, no, none⟩) (l.length + 1) cap') ∧ nb < w'.heap.size ∧ w'.cell? ⟨nb, no, none⟩ = some (.int .i64 x) ∧ w'.cell? ⟨nb, no + l.length, none⟩ = some (.int .i64 y) ∧ Below w.heap.size w w') := by
      refine HSG.out.mono ?_
      rintro e w' ⟨a', cap', rfl, hn, hb⟩
      rcases hn with hn | ⟨nb, no, rfl, hlt, hc⟩
      · cases hn
      · refine ⟨nb, no, cap', rfl, hlt, hc 0 (by simp), ?_, hb⟩
        rw [hc l.length (by simp), hy]
    have HEX := hid (show ErrTab w0 ∧ Asc K.fs ∧ K.fs.length ≤ 1000 ∧ sumLen K.fs ≤ 1000000000 from ⟨he, hasc, f2, by omega⟩)
    generalize openD K = R at *
    clear hlast hy hq
    generalize l.length = m at *
    clear h hv hdn hf HSG f1 f2 f3 f4 f5 f6 f7 he hasc hvd
    go_enter Tryz.func35, Tryz.ntmps35
    go_wp2_with fail
    refine HSG2.out.mono ?_
    rintro e w1 ⟨nb, no, cap', rfl, hnb, n0, n1, hb1⟩
    have HW1 := hid (HW.out.later hb1)
    have HV1 := hid (HV.out.later hb1)
    have hb1s := hb1.size
    have f1' := Blk.free HW1.out.wr 1
    have f2' := Blk.free HW1.out.wr 2
    have f3' := Blk.free HW1.out.wr 3
    obtain ⟨e0, e1, e2, e3⟩ := HW1.out.wr.cells
    clear c0 c1 c2 c3 d3 hb1
    go_wp2_with fail
    go_region
    have HWA : Hid (WSt w0 ((((w1.setCell ⟨P, 1, none⟩ (.int .i64 x)).setCell ⟨P, 2, none⟩ (.int .i64 y)).setCell ⟨P, 3, none⟩ (.int .i64 0)).drew) B P D K ⟨x, y, 0⟩) := (((HW1.out.set (L' := ⟨x, 0, 0⟩) 1 _ (by simp [noLog])).set (L' := ⟨x, y, 0⟩) 2 _ (by simp)).set (L' := ⟨x, y, 0⟩) 3 _ (by simp)).later (Below.refl _ _).drew
    have hsA : w.heap.size ≤ ((((w1.setCell ⟨P, 1, none⟩ (.int .i64 x)).setCell ⟨P, 2, none⟩ (.int .i64 y)).setCell ⟨P, 3, none⟩ (.int .i64 0)).drew).heap.size := by simpa using hb1s
    clear e0 e1 e2 e3 f1' f2' f3' HW1 HV1 n0 n1 HSG2 hb1s
    generalize (((w1.setCell ⟨P, 1, none⟩ (.int .i64 x)).setCell ⟨P, 2, none⟩ (.int .i64 y)).setCell ⟨P, 3, none⟩ (.int .i64 0)).drew = WA at *
    obtain ⟨a0, a1, a2, a3⟩ := HWA.out.wr.cells
    simp only at a1 a2 a3
    by_cases hgap : ((m + 1 : Nat) : Int) ≤ y - x
    · have HE : Hid (R = (K, noLog, [], 21)) := E.out.trans (openG_gap hgap)
      have hg2 : (m : Int) + 1 ≤ y - x := by omega
      go_wp2_with fail
      go_region
      go_wp2
      refine bodyPost_ret (v := .tuple #[.slice none 0 0, errW 21]) (by simp [results, Tryz.results35, go_sem, errW, tGap]) rfl ?_
      rw [HE.out]
      exact ⟨_, _, rfl, HWA.out.later (Below.refl _ _).drew, fun h => absurd (show (21 : Nat) = 0 from h) (by decide)⟩
    · obtain ⟨cnt, rfl, hcm, _, hcx, hix⟩ := HNA.out (by omega)
      have hg2 : ¬ (m : Int) + 1 ≤ x + (cnt : Int) - x := by omega
      have hto : (x + (cnt : Int) - x).toNat = cnt := by omega
      have HRD : Hid (∀ W, Below WA.heap.size WA W → Calls Tryz.prog 66 #[.pointer (some ⟨P, 0, none⟩)] W fun e w' => ReadPost P D x (x + cnt) W (readR K.fs (x + cnt) (cnt + 1) x [] 0) e w') := fun W hW => (HWA.out.later hW).read HEX.out.2.1 HEX.out.2.2.1 HEX.out.2.2.2 (by omega) hx1 hx2 hix
      have HIX := hid hix
      have HGP := hid hgap
      have HTO := hid hto
      clear hix hgap hto HNA
      go_wp2_with fail
      go_region
      go_wp2_with fail
      refine (HRD.out _ (Below.refl _ _).drew).mono ?_
      intro e w3 hrp
      cases hRR : readR K.fs (x + cnt) (cnt + 1) x [] 0 with
      | none =>
        rw [hRR] at hrp
        obtain ⟨hbt, rfl, sz, hbl⟩ := hrp
        have HE : Hid (R = (K, noLog, [], 20)) := E.out.trans (openG_torn (by have := HGP.out; omega) (by rw [HTO.out]; exact hRR))
        have HW3 : Hid (WSt w0 w3 B P D K ⟨x, x + cnt, sz⟩) := (HWA.out.later (Below.refl _ _).drew).but hbt hbl
        clear hbt hbl
        unfold errW
        go_wp2
        refine bodyPost_ret (v := .tuple #[.slice none 0 0, errW 20]) (by simp [results, Tryz.results35, go_sem, errW]) rfl ?_
        rw [HE.out]
        exact ⟨_, _, rfl, HW3.out, fun h => absurd (show (20 : Nat) = 0 from h) (by decide)⟩
      | some q =>
        obtain ⟨all, sz⟩ := q
        rw [hRR] at hrp
        obtain ⟨hbt, ⟨a4, cap4, rfl, hrow⟩, hbl⟩ := hrp
        obtain ⟨⟨KM, xm⟩, hM⟩ : ∃ R, mendD K (x + cnt) sz = R := ⟨_, rfl⟩
        have HE : Hid (R = if xm ≠ 0 then (KM, noLog, [], xm) else (KM, ⟨x, x + cnt, sz⟩, all, 0)) := E.out.trans (openG_read (by have := HGP.out; omega) (by rw [HTO.out]; exact hRR) hM)
        have HW3 : Hid (WSt w0 w3 B P D K ⟨x, x + cnt, sz⟩) := (HWA.out.later (Below.refl _ _).drew).but hbt hbl
        have HROW : Hid (w3.ownsRow w.heap.size 9 1 (.slice a4 all.length cap4) all.length (all.map Value.string)) := row_mono hrow (by simpa using hsA)
        have HMD : Hid (Calls Tryz.prog 67 #[.pointer (some ⟨P, 0, none⟩)] w3 fun e w' => e = .returned (errV xm) ∧ xm ≤ 6 ∧ WSt w0 w' B P D KM ⟨x, x + cnt, sz⟩ ∧ KeepO w3 w') := by
          obtain ⟨i, hi, hn⟩ := HIX.out cnt (Nat.le_refl _)
          have := mend_any HW3.out (by show 1 ≤ x + (cnt : Int); omega) hcx hi hn
          simp only [hM] at this
          exact this
        clear hbt hbl hrow
        go_wp2_with fail
        refine HMD.out.mono ?_
        rintro e w5 ⟨rfl, hx6, hw5, hk5⟩
        go_wp2
        have hEE : errW xm = errV xm := by
          match xm, hx6 with
          | 0, _ => rfl
          | 1, _ => rfl
          | 2, _ => rfl
          | 3, _ => rfl
          | 4, _ => rfl
          | 5, _ => rfl
          | 6, _ => rfl
        refine bodyPost_ret (v := .tuple #[.slice a4 all.length cap4, errV xm]) (by simp [results, Tryz.results35, go_sem]) rfl ?_
        rw [HE.out]
        by_cases hx : xm = 0
        · subst hx
          rw [if_neg (by simp)]
          exact ⟨_, _, rfl, hw5, fun _ => ⟨rfl, a4, cap4, rfl, row_ko HROW.out hk5⟩⟩
        · rw [if_pos hx]
          exact ⟨_, _, by rw [hEE], hw5, fun h => absurd h hx⟩
end Go.Proofs.YtflfopienjjlbaaGreatDoor

namespace Go.Proofs.YtflfopienjjlbaaGreatDoor
open Go.RowKit

/-- appendD by its two parts. -/
theorem appendD_ref {K : DiskD} {L : LogD} {p : ByteArray} {most : Int} (h : refR L p most ≠ 0) : appendD K L p most = (K, L, refR L p most) := by
  have hfe : frameS p = ByteArray.empty ↔ btwB p.size 1 60000 = false := by
    constructor
    · intro e
      rw [Bool.eq_false_iff]
      intro hb
      have hz : 1 ≤ p.size ∧ p.size ≤ 60000 := by simp only [btwB, Bool.and_eq_true, decide_eq_true_eq] at hb; omega
      have := frameS_size hz
      rw [e, ByteArray.size_empty] at this
      omega
    · intro hb
      rw [frameS, if_neg]
      intro hz
      have : btwB p.size 1 60000 = true := by simp [btwB]; omega
      rw [this] at hb
      cases hb
  unfold refR at h ⊢
  unfold appendD
  split
  · rfl
  · rename_i h1
    rw [if_neg h1] at h
    by_cases h2 : btwB p.size 1 60000 = false
    · rw [if_pos h2, if_pos (hfe.2 h2)]
    · rw [if_neg h2, if_neg (fun e => h2 (hfe.1 e))]
      rw [if_neg h2] at h
      by_cases h3 : L.last = 999999 ∧ fullB L (8 + p.size) most = true
      · rw [if_pos h3]
        have hz : 1 ≤ p.size ∧ p.size ≤ 60000 := by
          have : btwB p.size 1 60000 = true := by simpa using h2
          simp only [btwB, Bool.and_eq_true, decide_eq_true_eq] at this; omega
        have hs := frameS_size hz
        have h4 := h3.2
        simp only [fullB, Bool.and_eq_true, decide_eq_true_eq] at h4
        rw [if_pos ⟨h4.1, by rw [hs]; have := h4.2; simp only [Int.natCast_add]; omega⟩, if_pos h3.1]
      · rw [if_neg h3] at h
        exact absurd rfl h
theorem appendD_add {K : DiskD} {L : LogD} {p : ByteArray} {most : Int} (h : refR L p most = 0) : appendD K L p most = addR K L (frameS p) most ∧ logB L = true ∧ (frameS p).size ≤ 60008 ∧ (fullB L (frameS p).size most = true → L.last ≠ 999999) := by
  unfold refR at h
  split at h
  · cases h
  · rename_i h1
    split at h
    · cases h
    · rename_i h2
      split at h
      · cases h
      · rename_i h3
        have hz : 1 ≤ p.size ∧ p.size ≤ 60000 := by
          have : btwB p.size 1 60000 = true := by simpa using h2
          simp only [btwB, Bool.and_eq_true, decide_eq_true_eq] at this; omega
        have hs := frameS_size hz
        have hl : (logB L && btwB most 1 1000000000) = true := by simpa using h1
        simp only [Bool.and_eq_true] at hl
        have hne : ¬ frameS p = ByteArray.empty := fun e => by rw [e, ByteArray.size_empty] at hs; omega
        have e8 : (((frameS p).size : Nat) : Int) = 8 + (p.size : Int) := by rw [hs]; omega
        refine ⟨?_, hl.1, by omega, fun hf h9 => h3 ⟨h9, by rw [← e8]; exact hf⟩⟩
        unfold appendD addR
        rw [if_neg h1, if_neg hne]
        by_cases hf : fullB L (frameS p).size most = true
        · rw [if_pos hf]
          have h4 := hf
          simp only [fullB, Bool.and_eq_true, decide_eq_true_eq] at h4
          rw [if_pos h4, if_neg (fun h9 => h3 ⟨h9, by rw [← e8]; exact hf⟩)]
        · rw [if_neg hf, if_neg]
          intro h4
          apply hf
          simp [fullB, h4.1, h4.2]
/-- An invalid disk: the first operation answers so. -/
theorem addR_bad {K : DiskD} {L : LogD} {f : ByteArray} {most : Int} (h : diskB K.fs K.c K.k K.cr K.fl = false) : addR K L f most = (⟨[], 0, 0, 0, 0, false⟩, L, 6) := by
  have hs : ∀ op, stepD K op = (⟨[], 0, 0, 0, 0, false⟩, 6) := fun op => by
    unfold stepD outR
    rw [if_neg (by simp [h])]
  unfold addR
  split
  · rw [hs, if_pos (by simp)]
  · unfold appendT
    rw [hs, if_pos (by simp)]
end Go.Proofs.YtflfopienjjlbaaGreatDoor

