import Derived.Test.YteohobkigjmjlaaDoorProg
import Derived.Test.YteohobkigjmjlaaDoorJ03Ord
import Derived.Test.YteohobkigjmjlaaDoorJ04NumL
import Derived.Test.YteohobkigjmjlaaDoorJ05IRd
import Derived.Test.YteohobkigjmjlaaDoorJ09SCanon
import Derived.Lib.AppendStr
namespace Go.Proofs.YteohobkigjmjlaaDoor
open Go.RowKit

/-- Labels whose texts are short. -/
def SizL (ls : List LabD) : Prop := ∀ l ∈ ls, l.name.size ≤ 1000 ∧ l.value.size ≤ 1000
theorem sizL_snoc {ls : List LabD} {l : LabD} (h : SizL ls) (hl : l.name.size ≤ 1000 ∧ l.value.size ≤ 1000) : SizL (ls ++ [l]) := fun x hx => by
  rw [List.mem_append, List.mem_singleton] at hx
  rcases hx with hx | rfl
  · exact h x hx
  · exact hl
theorem sizL_cons {ls : List LabD} {l : LabD} (h : SizL ls) (hl : l.name.size ≤ 1000 ∧ l.value.size ≤ 1000) : SizL (l :: ls) := fun x hx => by
  rw [List.mem_cons] at hx
  rcases hx with rfl | hx
  · exact hl
  · exact h x hx
theorem But.below_to {B : Nat} {w w1 w2 : World} (h : But B w w1) (hb : Below w.heap.size w1 w2) : But B w w2 :=
  ⟨hb.os.trans h.os, hb.tape.trans h.tape, hb.output.trans h.output, Nat.le_trans h.size hb.size, fun k hk hne => (hb.block k hk).trans (h.block k hk hne)⟩
theorem row_one {w : World} {base g : Nat} {e : TypeId} {x y : Value} (hb : base ≤ g) (h : Blk w g #[x, y] e) : w.ownsRow base e 2 (.slice (some ⟨g, 0, none⟩) 1 1) 1 [x, y] :=
  ⟨by simp, .inr ⟨g, 1, #[x, y], rfl, hb, h, Nat.le_refl _, by simp [maxLen], by simp, by simp⟩⟩
theorem RowT.below {w w' : World} {g m k P : Nat} (h : RowT w g m k) (hb : Below P w w') (hg : g < P) : RowT w' g m k := by
  obtain ⟨cur, t, h1, h2⟩ := h
  exact ⟨cur, t, (hb.block g hg).trans h1, h2⟩
theorem row_news {w : World} {B : Nat} {e : TypeId} {g cv : Nat} {ys : List LabD} (h : w.ownsRow B e 2 (.slice (some ⟨g, 0, none⟩) ys.length cv) ys.length (flatL ys)) : ∀ j u, (flatL ys)[j]? = some u → w.cell? ((⟨g, 0, none⟩ : Addr).add j) = some u := fun j u hu => by
  have hadd : (⟨g, 0, none⟩ : Addr).add j = ⟨g, j, none⟩ := by unfold Addr.add; split <;> simp_all
  rw [hadd]
  exact (row_cells h).2.2.2 j u hu
/-- What the draws of labels answer. -/
def DrawnL (w w' : World) (B P N : Nat) (e : Ending) : Prop := ∃ (g cv : Nat) (ls : List LabD), e = .returned (.slice (some ⟨g, 0, none⟩) ls.length cv) ∧ 1 ≤ ls.length ∧ ls.length ≤ 7 ∧ SizL ls ∧ w'.ownsRow w.heap.size 40 2 (.slice (some ⟨g, 0, none⟩) ls.length cv) ls.length (flatL ls) ∧ CurB w' B P N ∧ But B w w'

set_option maxRecDepth 100000 in
set_option maxHeartbeats 1000000 in
theorem drawLabels_any (B P N : Nat) (w : World) (h : CurB w B P N) (hN : N ≤ 100000) :
    Calls Tryd.prog 44 #[.pointer (some ⟨B, 0, none⟩)] w fun e w' => DrawnL w w' B P (N + 100) e := by
  obtain ⟨ti, hti, ht0, ht1, ht2⟩ := info_lab
  have HI : Hid (Tryd.prog.info? 40 = some ti) := hti
  clear hti
  have HC : Hid (CurB w B P N) := h
  have hlt := h.lt
  have hPw := h.up.2
  clear h
  go_enter Tryd.func44, Tryd.ntmps44
  go_wp2_with fail
  have HR0 : Hid (RowT (w.alloc (.cells ([⟨#[106, 111, 98]⟩, ⟨#[104, 111, 115, 116]⟩, ⟨#[95, 120]⟩, ⟨#[90, 111, 110, 101]⟩, ⟨#[97, 49]⟩, ⟨#[108, 101]⟩].map Value.string).toArray 9)) w.heap.size 6 4) := rowT_new w _ 4 _ 6 rfl (by decide)
  simp only [List.map_cons, List.map_nil] at HR0
  generalize hW0 : w.alloc (.cells #[.string ⟨#[106, 111, 98]⟩, .string ⟨#[104, 111, 115, 116]⟩, .string ⟨#[95, 120]⟩, .string ⟨#[90, 111, 110, 101]⟩, .string ⟨#[97, 49]⟩, .string ⟨#[108, 101]⟩] 9) = W0 at *
  have hz0 : W0.heap.size = w.heap.size + 1 := by rw [← hW0]; simp
  have HB0 : Hid (Below w.heap.size w W0) := by show Below _ _ _; rw [← hW0]; exact bnew _ _
  clear hW0
  have HR1 : Hid (RowT (W0.alloc (.cells ([⟨#[117, 112]⟩, ⟨#[99, 112, 117]⟩, ⟨#[109, 101, 109]⟩, ⟨#[117, 112]⟩].map Value.string).toArray 9)) W0.heap.size 4 3) := rowT_new W0 _ 3 _ 4 rfl (by decide)
  simp only [List.map_cons, List.map_nil] at HR1
  generalize hW1 : W0.alloc (.cells #[.string ⟨#[117, 112]⟩, .string ⟨#[99, 112, 117]⟩, .string ⟨#[109, 101, 109]⟩, .string ⟨#[117, 112]⟩] 9) = W1 at *
  have hz1 : W1.heap.size = w.heap.size + 2 := by rw [← hW1]; simp; omega
  have HB1 : Hid (Below W0.heap.size W0 W1) := by show Below _ _ _; rw [← hW1]; exact bnew _ _
  clear hW1
  have hC1 := (HC.out.later HB0.out).later HB1.out
  refine (curPick_any B P N 4 _ hC1 (by omega) (by omega) (by omega)).mono ?_
  rintro e w1 ⟨v, hv, rfl, hc1, hb1⟩
  rw [hz0] at HR1
  have HRm := HR1.out.but hb1 (by omega)
  obtain ⟨mv, hcell, hms⟩ := HRm.at hv
  have H1 : Hid (CurB w1 B P (N + 1) ∧ But B w w1 ∧ RowT w1 w.heap.size 6 4) := ⟨hc1, ((But.of HB0.out).trans (But.of HB1.out)).trans hb1, (HR0.out.later HB1.out).but hb1 (by omega)⟩
  have hz2 : w.heap.size + 2 ≤ w1.heap.size := by have := hb1.size; omega
  clear hc1 hb1 hC1 HR0 HR1 HRm HB0 HB1 HC hz0 hz1 W0 W1
  have hv' : (v : Int) < 4 := by omega
  go_wp2
  go_loopw [5, 7, 8, 20] (fun out _ _ i wr => ∃ (k : Nat) (acc : List LabD) (g cv : Nat), k ≤ 6 ∧ i = .int .i64 (k : Nat) ∧ out = .slice (some ⟨g, 0, none⟩) acc.length cv ∧ 1 ≤ acc.length ∧ acc.length ≤ k + 1 ∧ Hid (SizL acc ∧ CurB wr B P (N + 1 + 13 * k) ∧ But B w wr ∧ RowT wr w.heap.size 6 4) ∧ Hid (wr.ownsRow (w.heap.size + 1) 40 2 (.slice (some ⟨g, 0, none⟩) acc.length cv) acc.length (flatL acc)) ∧ w.heap.size + 2 ≤ wr.heap.size) (fun _ _ _ i _ => 6 - (intOf i).toNat)
  case atStart =>
    refine ⟨0, [⟨⟨#[95, 95, 110, 97, 109, 101, 95, 95]⟩, mv⟩], w1.heap.size, 1, by omega, rfl, rfl, by simp, by simp, ⟨?_, H1.out.1.later (bnew _ _), H1.out.2.1.later (bnew _ _), H1.out.2.2.later (bnew _ _)⟩, row_one (by omega) (heap_alloc_new _ _), by simp; omega⟩
    intro l hl
    rw [List.mem_singleton] at hl
    subst hl
    exact ⟨by show (8 : Nat) ≤ 1000; omega, by simp only; omega⟩
  case round =>
    clear H1
    obtain ⟨k, acc, g, cv, hk, rfl, rfl, ha1, ha2, HR, HROW, hsz⟩ := hrel
    by_cases hlt6 : k < 6
    · have hk6 : (k : Int) < 6 := by omega
      obtain ⟨nm, hnc, hns⟩ := HR.out.2.2.2.at hlt6
      go_wp2_with fail
      refine (curPick_any B P (N + 1 + 13 * k) 3 _ HR.out.2.1 (by omega) (by omega) (by omega)).mono ?_
      rintro e w2 ⟨v2, hv2, rfl, hc2, hb2⟩
      have H2 : Hid (SizL acc ∧ CurB w2 B P (N + 1 + 13 * k + 1) ∧ But B w w2 ∧ RowT w2 w.heap.size 6 4) := ⟨HR.out.1, hc2, HR.out.2.2.1.trans hb2, HR.out.2.2.2.but hb2 (by omega)⟩
      have HROW2 : Hid (w2.ownsRow (w.heap.size + 1) 40 2 (.slice (some ⟨g, 0, none⟩) acc.length cv) acc.length (flatL acc)) := row_but0 HROW.out hb2 (by omega)
      have hsz2 : w.heap.size + 2 ≤ w2.heap.size := by have := hb2.size; omega
      clear hc2 hb2 HR HROW hnc
      by_cases h0 : v2 = 0
      · have h0' : ((v2 : Nat) : Int) = 0 := by omega
        rw [h0']
        clear h0 h0' hv2
        go_wp2_with fail
        refine (drawValue_any B P _ w2 H2.out.2.1 (by omega)).mono ?_
        rintro e w3 ⟨va, hva, rfl, hc3, hb3⟩
        have H3 : Hid (SizL acc ∧ CurB w3 B P (N + 1 + 13 * k + 11) ∧ But B w w3 ∧ RowT w3 w.heap.size 6 4) := ⟨H2.out.1, hc3, H2.out.2.2.1.trans hb3, H2.out.2.2.2.but hb3 (by omega)⟩
        have HROW3 : Hid (w3.ownsRow (w.heap.size + 1) 40 2 (.slice (some ⟨g, 0, none⟩) acc.length cv) acc.length (flatL acc)) := row_but0 HROW2.out hb3 (by omega)
        have hsz3 : w.heap.size + 2 ≤ w3.heap.size := by have := hb3.size; omega
        clear hc3 hb3 H2 HROW2
        go_wp2_with fail
        refine (curPick_any B P (N + 1 + 13 * k + 11) 2 _ (H3.out.2.1.later (bnew _ _)) (by omega) (by omega) (by omega)).mono ?_
        rintro e w4 ⟨v4, hv4, rfl, hc4, hb4⟩
        have hbx : Blk (w3.alloc (.cells #[.string nm, .string va] 40)) w3.heap.size #[.string nm, .string va] 40 := heap_alloc_new _ _
        have hbx4 : Blk w4 w3.heap.size #[.string nm, .string va] 40 := (hb4.block _ (lt_of_block hbx) (by omega)).trans hbx
        have x0 := Blk.cell hbx4 0
        have x1 := Blk.cell hbx4 1
        simp only [List.getElem?_toArray, List.getElem?_cons_zero, List.getElem?_cons_succ] at x0 x1
        have H4 : Hid (SizL acc ∧ CurB w4 B P (N + 1 + 13 * k + 12) ∧ But B w w4 ∧ RowT w4 w.heap.size 6 4) := ⟨H3.out.1, hc4, (H3.out.2.2.1.later (bnew _ _)).trans hb4, (H3.out.2.2.2.later (bnew _ _)).but hb4 (by omega)⟩
        have HROW4 : Hid (w4.ownsRow (w.heap.size + 1) 40 2 (.slice (some ⟨g, 0, none⟩) acc.length cv) acc.length (flatL acc)) := row_but0 (row_later HROW3.out (bnew _ _)) hb4 (by omega)
        have hsz4 : w.heap.size + 2 ≤ w4.heap.size := by have := hb4.size; simp at this; omega
        clear hc4 hb4 H3 HROW3 hbx hbx4
        have hnv : nm.size ≤ 1000 ∧ va.size ≤ 1000 := ⟨by omega, by omega⟩
        by_cases h4 : v4 = 0
        · have h4' : ((v4 : Nat) : Int) = 0 := by omega
          rw [h4']
          clear h4 h4' hv4
          go_wp2_with (at_builtin; refine wpList_append_lies _ rfl _ _ _ rfl (w.heap.size + 1) 40 ti _ 2 32 Tryd.underlying24 HI.out ht0 ht1 ht2 rfl (by omega) (.slice (some ⟨g, 0, none⟩) acc.length cv) acc.length (flatL acc) rfl (by exact row_later HROW4.out (bnew _ _)) ⟨w4.heap.size, 0, none⟩ 1 1 [.string nm, .string va] rfl rfl (by exact World.news_of_block (cs := #[.string nm, .string va]) (heap_alloc_new _ _)) (by simp [Value.oneCell']) (by omega) (by simp [maxLen]; omega) (by omega) (by simp; omega) (w4.heap.size + 1) (by simp) ?_; intro g5 cap5 w5 hown5 hgrow5 hat5 hlt5)
          have hB5 : Below (w.heap.size + 1) w4 w5 := (((bnew w4 _).mono (by omega)).grown hgrow5 (by simp; omega) (fun q hq => row_from HROW4.out q hq))
          have hle : (acc ++ [(⟨nm, va⟩ : LabD)]).length = acc.length + 1 := by simp
          have hxs : flatL acc ++ [.string nm, .string va] = flatL (acc ++ [⟨nm, va⟩]) := by rw [flatL_append]; rfl
          rw [hxs, ← hle] at hown5
          refine ⟨⟨k + 1, acc ++ [(⟨nm, va⟩ : LabD)], g5, cap5, by omega, by go_num, by rw [hle], by omega, by omega, ⟨sizL_snoc H4.out.1 hnv, (H4.out.2.1.below (hB5.mono (by omega))).mono (by omega), H4.out.2.2.1.below_to (hB5.mono (by omega)), H4.out.2.2.2.below hB5 (by omega)⟩, hown5, by have := hB5.size; omega⟩, by simp [intOf]; omega⟩
        · have h4' : ¬ (((v4 : Nat) : Int) = 0) := by omega
          go_wp2_with (at_builtin; refine wpList_append_lies _ rfl _ _ _ rfl (w.heap.size + 1) 40 ti _ 2 32 Tryd.underlying24 HI.out ht0 ht1 ht2 rfl (by omega) (.slice (some ⟨w4.heap.size, 0, none⟩) 1 1) 1 [.string nm, .string va] rfl (by exact row_one (by omega) (heap_alloc_new _ _)) ⟨g, 0, none⟩ acc.length cv (flatL acc) rfl (flatL_length acc) (by exact row_news (row_later HROW4.out (bnew _ _))) (by exact flatL_cell acc) (by omega) (by simp [maxLen]; omega) (by omega) (by simp; omega) (w4.heap.size + 1) (by simp) ?_; intro g5 cap5 w5 hown5 hgrow5 hat5 hlt5)
          have hB5 : Below (w.heap.size + 1) w4 w5 := (((bnew w4 _).mono (by omega)).grown hgrow5 (by simp; omega) (fun q hq => by simp [Value.ownBlock] at hq; omega))
          have hle : ((⟨nm, va⟩ : LabD) :: acc).length = 1 + acc.length := by simp; omega
          have hxs : [.string nm, .string va] ++ flatL acc = flatL (⟨nm, va⟩ :: acc) := rfl
          rw [hxs, ← hle] at hown5
          refine ⟨⟨k + 1, (⟨nm, va⟩ : LabD) :: acc, g5, cap5, by omega, by go_num, by rw [hle], by omega, by omega, ⟨sizL_cons H4.out.1 hnv, (H4.out.2.1.below (hB5.mono (by omega))).mono (by omega), H4.out.2.2.1.below_to (hB5.mono (by omega)), H4.out.2.2.2.below hB5 (by omega)⟩, hown5, by have := hB5.size; omega⟩, by simp [intOf]; omega⟩
      · have h0' : ¬ (((v2 : Nat) : Int) = 0) := by omega
        go_wp2
        exact ⟨⟨k + 1, acc, g, cv, by omega, by go_num, rfl, ha1, by omega, ⟨H2.out.1, H2.out.2.1.mono (by omega), H2.out.2.2⟩, HROW2.out, hsz2⟩, by simp [intOf]; omega⟩
    · have hk6 : ¬ ((k : Int) < 6) := by omega
      go_wp2
      go_ret
      exact ⟨g, cv, acc, rfl, ha1, by omega, HR.out.1, row_mono0 HROW.out (by omega), HR.out.2.1.mono (by omega), HR.out.2.2.1⟩
end Go.Proofs.YteohobkigjmjlaaDoor

namespace Go.Proofs.YteohobkigjmjlaaDoor
open Go.RowKit Go.Lib

theorem row_form0 {w : World} {B : Nat} {e : TypeId} {size : Nat} {v : Value} {n : Nat} {xs : List Value} (h : w.ownsRow B e size v n xs) : ∃ a cap, v = .slice a n cap := by
  rcases h.2 with ⟨rfl, rfl⟩ | ⟨g, cap, cur, rfl, _⟩
  · exact ⟨_, _, rfl⟩
  · exact ⟨_, _, rfl⟩
theorem strOfNums_len (ys : List Int) : (strOfNums ys).size = ys.length := by
  rw [bsize]
  simp [strOfNums]
theorem strCells_nums (s : ByteArray) : ∃ zs : List Int, strCells s = zs.map (Value.int .u8) ∧ zs.length = s.size := by
  refine ⟨s.data.toList.map fun b => (b.toNat : Int), ?_, by rw [List.length_map, bsize]⟩
  simp [strCells]

set_option maxRecDepth 100000 in
set_option maxHeartbeats 1000000 in
theorem times_any (s : ByteArray) (n : Nat) (w : World) (hs : s.size ≤ 4) (hn : n ≤ 200) :
    Calls Tryd.prog 64 #[.string s, .int .i64 (n : Nat)] w fun e w' => ∃ t : ByteArray, t.size ≤ 4 * n ∧ e = .returned (.string t) ∧ Below w.heap.size w w' := by
  obtain ⟨ti, hti, hz0, hz1, hz2⟩ := info_u8
  have HI : Hid (Tryd.prog.info? 5 = some ti) := hti
  clear hti
  obtain ⟨zs, hzs, hzl⟩ := strCells_nums s
  have HZ : Hid (strCells s = zs.map (Value.int .u8) ∧ zs.length = s.size) := ⟨hzs, hzl⟩
  clear hzs hzl
  go_enter Tryd.func64, Tryd.ntmps64
  go_wp2
  go_loopw [5, 6] (fun out i wr => ∃ (k : Nat) (ys : List Int) (av : Option Addr) (cv : Nat), k ≤ n ∧ i = .int .i64 (k : Nat) ∧ out = .slice av ys.length cv ∧ ys.length ≤ 4 * k ∧ Hid (wr.ownsRow w.heap.size 5 1 (.slice av ys.length cv) ys.length (ys.map (Value.int .u8))) ∧ Below w.heap.size w wr) (fun _ i _ => n - (intOf i).toNat)
  case atStart =>
    exact ⟨0, [], _, _, by omega, rfl, rfl, by simp, World.ownsRow_made w #[] 0 (Nat.le_refl _) (by simp [maxLen]) (by simp), bnew _ _⟩
  case round =>
    obtain ⟨k, ys, av, cv, hk, rfl, rfl, hy, HROW, hbel⟩ := hrel
    have hsz := hbel.size
    by_cases hkn : k < n
    · have hkn' : (k : Int) < (n : Int) := by omega
      go_wp2_with (at_builtin; refine wpList_append_own_string _ rfl _ _ _ _ rfl w.heap.size 5 ti Tryd.underlying36 Tryd.underlying9 HI.out hz0 hz1 hz2 (.slice av ys.length cv) ys.length (ys.map (Value.int .u8)) rfl (by exact HROW.out) s rfl (by simp [maxLen]; omega) (by omega) (by omega) ?_; intro v5 w5 hown5 hgrow5 hat5)
      obtain ⟨a5, c5, rfl⟩ := row_form0 hown5
      have hB5 : Below w.heap.size w w5 := hbel.grown hgrow5 (by omega) (fun q hq => row_from HROW.out q hq)
      rw [HZ.out.1, ← List.map_append] at hown5
      have hle : (ys ++ zs).length = ys.length + s.size := by rw [List.length_append, HZ.out.2]
      rw [← hle] at hown5
      refine ⟨⟨k + 1, ys ++ zs, a5, c5, by omega, by go_num, by rw [hle], by omega, hown5, hB5⟩, by simp [intOf]; omega⟩
    · have hkn' : ¬ ((k : Int) < (n : Int)) := by omega
      have hcv := conv_row HROW.out
      go_wp2
      go_ret
      exact ⟨strOfNums ys, by rw [strOfNums_len]; omega, rfl, hbel⟩
end Go.Proofs.YteohobkigjmjlaaDoor

namespace Go.Proofs.YteohobkigjmjlaaDoor
open Go.RowKit

set_option maxRecDepth 100000 in
set_option maxHeartbeats 1000000 in
theorem badValue_any (B P N : Nat) (w : World) (h : CurB w B P N) (hN : N ≤ 100000) :
    Calls Tryd.prog 65 #[.pointer (some ⟨B, 0, none⟩)] w fun e w' => ∃ s : ByteArray, s.size ≤ 1000 ∧ e = .returned (.string s) ∧ CurB w' B P (N + 1) ∧ But B w w' := by
  have HC : Hid (CurB w B P N) := h
  have hlt := h.lt
  clear h
  go_enter Tryd.func65, Tryd.ntmps65
  go_wp2_with fail
  refine (times_any ⟨#[195, 169]⟩ 128 w (by decide) (by omega)).mono ?_
  rintro e w1 ⟨t1, ht1, rfl, hb1⟩
  have B1 : Hid (Below w.heap.size w w1) := hb1
  clear hb1
  go_wp2_with fail
  refine (times_any ⟨#[195, 169]⟩ 129 w1 (by decide) (by omega)).mono ?_
  rintro e w2 ⟨t2, ht2, rfl, hb2⟩
  have B2 : Hid (Below w.heap.size w w2) := bto B1.out hb2
  clear hb2 B1
  go_wp2_with fail
  refine (times_any ⟨#[122]⟩ 129 w2 (by decide) (by omega)).mono ?_
  rintro e w3 ⟨t3, ht3, rfl, hb3⟩
  have B3 : Hid (Below w.heap.size w w3) := bto B2.out hb3
  clear hb3 B2
  go_wp2_with fail
  have HR : Hid (RowT (w3.alloc (.cells ([⟨#[128]⟩, ⟨#[192, 128]⟩, ⟨#[237, 160, 128]⟩, ⟨#[244, 144, 128, 128]⟩, ⟨#[226, 130]⟩, ⟨#[31]⟩, ⟨#[127]⟩, ⟨#[194, 133]⟩, ⟨#[240, 128, 128, 128]⟩, ⟨#[255]⟩, ⟨#[97, 195]⟩, t1, t2, t3, ⟨#[194, 160]⟩, ⟨#[239, 191, 189]⟩, ⟨#[244, 143, 191, 191]⟩, ⟨#[238, 128, 128]⟩].map Value.string).toArray 9)) w3.heap.size 18 1000) := rowT_new w3 _ 1000 _ 18 rfl (by
    simp only [List.all_cons, List.all_nil, Bool.and_true, Bool.and_eq_true, decide_eq_true_eq]
    refine ⟨by decide, by decide, by decide, by decide, by decide, by decide, by decide, by decide, by decide, by decide, by decide, by omega, by omega, by omega, by decide, by decide, by decide, by decide⟩)
  simp only [List.map_cons, List.map_nil] at HR
  have hC3 := (HC.out.later B3.out).later (bnew w3 (.cells #[.string ⟨#[128]⟩, .string ⟨#[192, 128]⟩, .string ⟨#[237, 160, 128]⟩, .string ⟨#[244, 144, 128, 128]⟩, .string ⟨#[226, 130]⟩, .string ⟨#[31]⟩, .string ⟨#[127]⟩, .string ⟨#[194, 133]⟩, .string ⟨#[240, 128, 128, 128]⟩, .string ⟨#[255]⟩, .string ⟨#[97, 195]⟩, .string t1, .string t2, .string t3, .string ⟨#[194, 160]⟩, .string ⟨#[239, 191, 189]⟩, .string ⟨#[244, 143, 191, 191]⟩, .string ⟨#[238, 128, 128]⟩] 9))
  have hz3 : w.heap.size ≤ w3.heap.size := B3.out.size
  refine (curPick_any B P N 18 _ hC3 (by omega) (by omega) (by omega)).mono ?_
  rintro e w4 ⟨v, hv, rfl, hc4, hb4⟩
  have HR4 := HR.out.but hb4 (by omega)
  obtain ⟨s, hcell, hs⟩ := HR4.at hv
  have H4 : Hid (CurB w4 B P (N + 1) ∧ But B w w4) := ⟨hc4, ((But.of B3.out).later (bnew _ _)).trans hb4⟩
  clear hc4 hb4 HR4 HR hC3 B3 HC
  have hv' : (v : Int) < 18 := by omega
  go_wp2
  go_ret
  exact ⟨s, hs, rfl, H4.out⟩
end Go.Proofs.YteohobkigjmjlaaDoor

