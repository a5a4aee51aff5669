import Derived.Test.YteohobkigjmjlaaDoorProg
import Derived.Test.YteohobkigjmjlaaDoorJ10DrawB
import Derived.Deep.RegionLaw
import Derived.Test.YteohobkigjmjlaaDoorJ05IRd
import Derived.Laws.StructEq
import Derived.Shelf.SlicesE.Equal
namespace Go.Proofs.YteohobkigjmjlaaDoor
open Go.RowKit

def lenOf0 : Value → Nat
  | .slice _ n _ => n
  | _ => 0
theorem curPickN_any (B P N n : Nat) (w : World) (h : CurB w B P N) (hN : N ≤ 10000000) (h1 : 1 ≤ n) (hn : n ≤ 256) :
    Calls Tryd.prog 45 #[.pointer (some ⟨B, 0, none⟩), .int .i64 (n : Nat)] w fun e w' => ∃ v : Nat, v < n ∧ e = .returned (.int .i64 (v : Nat)) ∧ CurB w' B P (N + 1) ∧ But B w w' := by
  by_cases h2 : 2 ≤ n
  · exact curPick_any B P N n w h hN h2 hn
  · refine (curPick1_any B n w (by omega)).mono ?_
    rintro e w' ⟨rfl, rfl⟩
    exact ⟨0, by omega, rfl, h.mono (by omega), But.refl _ _⟩

theorem flatL_setN (ls : List LabD) : ∀ (i : Nat) (h : i < ls.length) (s : ByteArray), (flatL ls).set (i * 2) (.string s) = flatL (ls.set i ⟨s, ls[i].value⟩) := by
  induction ls with
  | nil => intro i h; exact absurd h (by simp)
  | cons l r ih =>
    intro i h s
    have e : ∀ (x : LabD) (q : List LabD), flatL (x :: q) = .string x.name :: .string x.value :: flatL q := fun _ _ => rfl
    cases i with
    | zero => rfl
    | succ i =>
      have hs : (i + 1) * 2 = i * 2 + 1 + 1 := by omega
      rw [e, hs, List.set_cons_succ, List.set_cons_succ, ih i (by simpa using h) s]
      rfl
theorem flatL_setV (ls : List LabD) : ∀ (i : Nat) (h : i < ls.length) (s : ByteArray), (flatL ls).set (i * 2 + 1) (.string s) = flatL (ls.set i ⟨ls[i].name, s⟩) := by
  induction ls with
  | nil => intro i h; exact absurd h (by simp)
  | cons l r ih =>
    intro i h s
    have e : ∀ (x : LabD) (q : List LabD), flatL (x :: q) = .string x.name :: .string x.value :: flatL q := fun _ _ => rfl
    cases i with
    | zero => rfl
    | succ i =>
      have hs : (i + 1) * 2 + 1 = i * 2 + 1 + 1 + 1 := by omega
      rw [e, hs, List.set_cons_succ, List.set_cons_succ, ih i (by simpa using h) s]
      rfl
theorem row_set {w : World} {base g cv n : Nat} {e : TypeId} {xs : List Value} (h : w.ownsRow base e 2 (.slice (some ⟨g, 0, none⟩) n cv) n xs) (j : Nat) (u : Value) : (w.setCell ⟨g, j, none⟩ u).ownsRow base e 2 (.slice (some ⟨g, 0, none⟩) n cv) n (xs.set j u) := by
  obtain ⟨h1, h2⟩ := h
  refine ⟨by rw [List.length_set]; exact h1, ?_⟩
  rcases h2 with ⟨e1, _⟩ | ⟨g', cap, cur, e1, hb, hg, hn, hm, hs, ht⟩
  · exact absurd e1 (by simp)
  · simp only [Value.slice.injEq, Option.some.injEq, Addr.mk.injEq, and_true, true_and] at e1
    obtain ⟨rfl, rfl⟩ := e1
    refine Or.inr ⟨g, cv, cur.setIfInBounds j u, rfl, hb, heap_setCell_same w g j cur e u hg, hn, hm, by rw [Array.size_setIfInBounds]; exact hs, ?_⟩
    rw [Array.toList_setIfInBounds, List.take_set, ht]
theorem row_spot {w : World} {base g cv : Nat} {e : TypeId} {ls : List LabD} (h : w.ownsRow base e 2 (.slice (some ⟨g, 0, none⟩) ls.length cv) ls.length (flatL ls)) (i : Nat) (hi : i < ls.length) : w.cell? ⟨g, i * 2, none⟩ = some (.string ls[i].name) ∧ w.cell? ⟨g, i * 2 + 1, none⟩ = some (.string ls[i].value) ∧ (∀ j, w.frozen? ⟨g, j, none⟩ = false) ∧ base ≤ g := by
  obtain ⟨h1, h2, h3, h4⟩ := row_cells h
  refine ⟨h4 _ _ (flatL_drop0 ls i hi), h4 _ _ ?_, ?_, h3⟩
  · have e : ∀ (ls : List LabD) (i : Nat) (hi : i < ls.length), (flatL ls)[i * 2 + 1]? = some (.string ls[i].value) := by
      intro ls
      induction ls with
      | nil => intro i hi; exact absurd hi (by simp)
      | cons l r ih =>
        intro i hi
        have e : flatL (l :: r) = .string l.name :: .string l.value :: flatL r := rfl
        cases i with
        | zero => rfl
        | succ i =>
          have hs : (i + 1) * 2 + 1 = i * 2 + 1 + 1 + 1 := by omega
          rw [e, hs, List.getElem?_cons_succ, List.getElem?_cons_succ, ih i (by simpa using hi)]
          rfl
    exact e ls i hi
  · rcases h.2 with ⟨e1, _⟩ | ⟨g', cap, cur, e1, hb, hg, _⟩
    · exact absurd e1 (by simp)
    · simp only [Value.slice.injEq, Option.some.injEq, Addr.mk.injEq, and_true, true_and] at e1
      obtain ⟨rfl, rfl⟩ := e1
      exact fun j => frozen_of_row w g j cur _ hg
theorem sizL_set {ls : List LabD} (h : SizL ls) (i : Nat) {l : LabD} (hl : l.name.size ≤ 1000 ∧ l.value.size ≤ 1000) : SizL (ls.set i l) := fun x hx => by
  rcases List.mem_or_eq_of_mem_set hx with hx | rfl
  · exact h x hx
  · exact hl
theorem row_setN {w : World} {base g cv : Nat} {e : TypeId} {ls : List LabD} (h : w.ownsRow base e 2 (.slice (some ⟨g, 0, none⟩) ls.length cv) ls.length (flatL ls)) (i : Nat) (hi : i < ls.length) (s : ByteArray) : (w.setCell ⟨g, i * 2, none⟩ (.string s)).ownsRow base e 2 (.slice (some ⟨g, 0, none⟩) (ls.set i ⟨s, ls[i].value⟩).length cv) (ls.set i ⟨s, ls[i].value⟩).length (flatL (ls.set i ⟨s, ls[i].value⟩)) := by
  have := row_set h (i * 2) (.string s)
  rw [flatL_setN ls i hi s] at this
  rw [List.length_set]
  exact this
theorem row_setV {w : World} {base g cv : Nat} {e : TypeId} {ls : List LabD} (h : w.ownsRow base e 2 (.slice (some ⟨g, 0, none⟩) ls.length cv) ls.length (flatL ls)) (i : Nat) (hi : i < ls.length) (s : ByteArray) : (w.setCell ⟨g, i * 2 + 1, none⟩ (.string s)).ownsRow base e 2 (.slice (some ⟨g, 0, none⟩) (ls.set i ⟨ls[i].name, s⟩).length cv) (ls.set i ⟨ls[i].name, s⟩).length (flatL (ls.set i ⟨ls[i].name, s⟩)) := by
  have := row_set h (i * 2 + 1) (.string s)
  rw [flatL_setV ls i hi s] at this
  rw [List.length_set]
  exact this
theorem row_pre {w : World} {base g cv : Nat} {e : TypeId} {ls : List LabD} (h : w.ownsRow base e 2 (.slice (some ⟨g, 0, none⟩) ls.length cv) ls.length (flatL ls)) (i : Nat) (hi : i ≤ ls.length) : w.ownsRow base e 2 (.slice (some ⟨g, 0, none⟩) i cv) i (flatL (ls.take i)) := by
  refine ⟨by rw [flatL_length, List.length_take]; omega, ?_⟩
  rcases h.2 with ⟨e1, _⟩ | ⟨g', cap, cur, e1, hb, hg, hn, hm, hs, ht⟩
  · exact absurd e1 (by simp)
  · simp only [Value.slice.injEq, Option.some.injEq, Addr.mk.injEq, and_true, true_and] at e1
    obtain ⟨rfl, rfl⟩ := e1
    refine Or.inr ⟨g, cv, cur, rfl, hb, hg, by omega, hm, hs, ?_⟩
    have h1 : flatL ls = flatL (ls.take i) ++ flatL (ls.drop i) := by rw [← flatL_append, List.take_append_drop]
    have h2 : (flatL (ls.take i)).length = i * 2 := by rw [flatL_length, List.length_take]; omega
    have h3 : cur.toList.take (i * 2) = (cur.toList.take (ls.length * 2)).take (i * 2) := by rw [List.take_take, Nat.min_eq_left (by omega)]
    rw [h3, ht, h1, ← h2, List.take_left]
theorem News_two (W : World) (x : Obj) {a b : Value} {t : TypeId} : ∀ j u, [a, b][j]? = some u → ((W.alloc x).alloc (.cells #[a, b] t)).cell? ((⟨W.heap.size + 1, 0, none⟩ : Addr).add j) = some u :=
  World.news_of_block (cs := #[a, b]) (fr := (0, 0)) (by have h := heap_alloc_new (W.alloc x) (.cells #[a, b] t); simpa using h)
/-- What a spoilt draw answers. -/
def DrawnS (w w' : World) (B P N : Nat) (e : Ending) : Prop := ∃ (g cv : Nat) (ls : List LabD), e = .returned (.slice (some ⟨g, 0, none⟩) ls.length cv) ∧ ls.length ≤ 20 ∧ SizL ls ∧ w'.ownsRow w.heap.size 40 2 (.slice (some ⟨g, 0, none⟩) ls.length cv) ls.length (flatL ls) ∧ CurB w' B P N ∧ But B w w'

set_option maxRecDepth 100000 in
set_option maxHeartbeats 1000000 in
theorem spoil_any (B P N : Nat) (w : World) (base g cv : Nat) (ls : List LabD) (h : CurB w B P N) (hN : N ≤ 90000) (hrow : w.ownsRow base 40 2 (.slice (some ⟨g, 0, none⟩) ls.length cv) ls.length (flatL ls)) (h1 : 1 ≤ ls.length) (h7 : ls.length ≤ 7) (hsl : SizL ls) :
    Calls Tryd.prog 46 #[.pointer (some ⟨B, 0, none⟩), .slice (some ⟨g, 0, none⟩) ls.length cv] w fun e w' => DrawnS w w' B P (N + 100) e := by
  obtain ⟨ti, hti, ht0, ht1, ht2⟩ := info_lab
  have HI : Hid (Tryd.prog.info? 40 = some ti) := hti
  clear hti
  have HC : Hid (CurB w B P N) := h
  have hlt := h.lt
  have hPw := h.up.2
  have HSL : Hid (SizL ls) := hsl
  have HROW : Hid (w.ownsRow base 40 2 (.slice (some ⟨g, 0, none⟩) ls.length cv) ls.length (flatL ls)) := hrow
  clear h hrow hsl
  go_enter Tryd.func46, Tryd.ntmps46
  go_wp2_with (at_builtin; refine wpList_append_lies _ rfl _ _ _ rfl w.heap.size 40 ti _ 2 32 Tryd.underlying24 HI.out ht0 ht1 ht2 rfl (by omega) (.slice (some ⟨w.heap.size, 0, none⟩) 0 0) 0 [] rfl (by exact World.ownsRow_made w #[] 0 (Nat.le_refl _) (by simp [maxLen]) (by simp)) ⟨g, 0, none⟩ ls.length cv (flatL ls) rfl (flatL_length ls) (by exact row_news (row_later HROW.out (bnew _ _))) (by exact flatL_cell ls) (by omega) (by simp [maxLen]; omega) (by omega) (by simp) (w.heap.size + 1) (by simp) ?_; intro g1 cap1 w1 hown1 hgrow1 hat1 hlt1)
  rw [Nat.zero_add, List.nil_append] at hown1
  have hB1 : Below w.heap.size w w1 := (bnew w _).grown hgrow1 (by simp) (fun q hq => by simp [Value.ownBlock] at hq; omega)
  have hz1 := hB1.size
  have HROW1 : Hid (w1.ownsRow w.heap.size 40 2 (.slice (some ⟨g1, 0, none⟩) ls.length cap1) ls.length (flatL ls)) := hown1
  have HB1 : Hid (Below w.heap.size w w1) := hB1
  clear hown1 hgrow1 hat1 hlt1 hB1 HROW
  refine (curPickN_any B P N ls.length w1 (HC.out.later HB1.out) (by omega) h1 (by omega)).mono ?_
  rintro e w2 ⟨i, hi, rfl, hc2, hb2⟩
  have H2 : Hid (CurB w2 B P (N + 1) ∧ But B w w2) := ⟨hc2, (But.of HB1.out).trans hb2⟩
  have HROW2 : Hid (w2.ownsRow w.heap.size 40 2 (.slice (some ⟨g1, 0, none⟩) ls.length cap1) ls.length (flatL ls)) := row_but0 HROW1.out hb2 hlt
  clear hc2 hb2 HROW1 HB1 HC
  go_wp2_with fail
  refine (curPick_any B P (N + 1) 7 w2 H2.out.1 (by omega) (by omega) (by omega)).mono ?_
  rintro e w3 ⟨sw, hsw, rfl, hc3, hb3⟩
  have H3 : Hid (CurB w3 B P (N + 2) ∧ But B w w3) := ⟨hc3, H2.out.2.trans hb3⟩
  have HROW3 : Hid (w3.ownsRow w.heap.size 40 2 (.slice (some ⟨g1, 0, none⟩) ls.length cap1) ls.length (flatL ls)) := row_but0 HROW2.out hb3 hlt
  have hz3 : w.heap.size ≤ w3.heap.size := H3.out.2.size
  clear hc3 hb3 HROW2 H2 hz1
  have hi' : (i : Int) < (ls.length : Nat) := by omega
  obtain ⟨x0, x1, xf, hg1⟩ := row_spot HROW3.out i hi
  have f0 := xf (i * 2)
  have f1 := xf (i * 2 + 1)
  clear xf
  have hS3 := HSL.out ls[i] (List.getElem_mem hi)
  have hcase : sw = 0 ∨ (sw = 1 ∨ sw = 2) ∨ sw = 3 ∨ sw = 4 ∨ sw = 5 ∨ sw = 6 := by omega
  clear hsw
  rcases hcase with rfl | hs12 | rfl | rfl | rfl | rfl
  · clear x0 x1 f0 f1
    go_wp2_with fail
    refine (times_any ⟨#[110]⟩ 64 w3 (by decide) (by omega)).mono ?_
    rintro e w4 ⟨t1, ht1, rfl, hb4⟩
    have B4 : Hid (Below w3.heap.size w3 w4) := hb4
    clear hb4
    go_wp2_with fail
    refine (times_any ⟨#[110]⟩ 65 w4 (by decide) (by omega)).mono ?_
    rintro e w5 ⟨t2, ht2, rfl, hb5⟩
    have B5 : Hid (Below w3.heap.size w3 w5) := bto B4.out hb5
    clear hb5 B4
    go_wp2_with fail
    have HR : Hid (RowT (w5.alloc (.cells ([⟨#[]⟩, ⟨#[57, 97]⟩, ⟨#[97, 45, 98]⟩, ⟨#[106, 111, 98]⟩, t1, t2, ⟨#[195, 169]⟩].map Value.string).toArray 9)) w5.heap.size 7 1000) := rowT_new w5 _ 1000 _ 7 rfl (by
      simp only [List.all_cons, List.all_nil, Bool.and_true, Bool.and_eq_true, decide_eq_true_eq]
      refine ⟨by decide, by decide, by decide, by decide, by omega, by omega, by decide⟩)
    simp only [List.map_cons, List.map_nil] at HR
    have hC5 := (H3.out.1.later B5.out).later (bnew w5 (.cells #[.string ⟨#[]⟩, .string ⟨#[57, 97]⟩, .string ⟨#[97, 45, 98]⟩, .string ⟨#[106, 111, 98]⟩, .string t1, .string t2, .string ⟨#[195, 169]⟩] 9))
    have hz5 : w3.heap.size ≤ w5.heap.size := B5.out.size
    refine (curPick_any B P (N + 2) 7 _ hC5 (by omega) (by omega) (by omega)).mono ?_
    rintro e w6 ⟨v, hv, rfl, hc6, hb6⟩
    have HR6 := HR.out.but hb6 (by omega)
    obtain ⟨s, hcell, hs⟩ := HR6.at hv
    have H6 : Hid (CurB w6 B P (N + 3) ∧ But B w w6) := ⟨hc6, ((H3.out.2.trans (But.of B5.out)).later (bnew _ _)).trans hb6⟩
    have HROW6 : Hid (w6.ownsRow w.heap.size 40 2 (.slice (some ⟨g1, 0, none⟩) ls.length cap1) ls.length (flatL ls)) := row_but0 (row_later (row_later HROW3.out B5.out) (bnew _ _)) hb6 hlt
    obtain ⟨y0, y1, yf, _⟩ := row_spot HROW6.out i hi
    have k0 := yf (i * 2)
    clear hc6 hb6 HR6 HR hC5 B5 H3 HROW3 yf
    have hv' : (v : Int) < 7 := by omega
    go_wp2
    refine bodyPost_ret (v := .slice (some ⟨g1, 0, none⟩) ls.length cap1) (by simp [results, Tryd.results46, go_sem]) rfl ?_
    have hB7 : Below w.heap.size w6 (w6.setCell ⟨g1, i * 2, none⟩ (.string s)) := (Below.refl _ _).setCell hg1 _
    exact ⟨g1, cap1, ls.set i ⟨s, ls[i].value⟩, by rw [List.length_set], by rw [List.length_set]; omega, sizL_set HSL.out i ⟨hs, hS3.2⟩, row_setN HROW6.out i hi _, (H6.out.1.below (hB7.mono hPw)).mono (by omega), H6.out.2.below_to hB7⟩
  · have c0 : ¬ ((sw : Int) = 0) := by omega
    have c12 : (sw : Int) = 1 ∨ (sw : Int) = 2 := by omega
    clear hs12
    rcases c12 with c | c
    all_goals
      rw [c]
      clear c c0 x0 x1 f0 f1
      go_wp2_with fail
      refine (badValue_any B P (N + 2) w3 H3.out.1 (by omega)).mono ?_
      rintro e w4 ⟨va, hva, rfl, hc4, hb4⟩
      have H4 : Hid (CurB w4 B P (N + 3) ∧ But B w w4) := ⟨hc4, H3.out.2.trans hb4⟩
      have HROW4 : Hid (w4.ownsRow w.heap.size 40 2 (.slice (some ⟨g1, 0, none⟩) ls.length cap1) ls.length (flatL ls)) := row_but0 HROW3.out hb4 hlt
      obtain ⟨y0, y1, yf, _⟩ := row_spot HROW4.out i hi
      have k1 := yf (i * 2 + 1)
      clear hc4 hb4 HROW3 H3 yf
      go_wp2
      refine bodyPost_ret (v := .slice (some ⟨g1, 0, none⟩) ls.length cap1) (by simp [results, Tryd.results46, go_sem]) rfl ?_
      have hB5 : Below w.heap.size w4 (w4.setCell ⟨g1, i * 2 + 1, none⟩ (.string va)) := (Below.refl _ _).setCell hg1 _
      exact ⟨g1, cap1, ls.set i ⟨ls[i].name, va⟩, by rw [List.length_set], by rw [List.length_set]; omega, sizL_set HSL.out i ⟨hS3.1, hva⟩, row_setV HROW4.out i hi _, (H4.out.1.below (hB5.mono hPw)).mono (by omega), H4.out.2.below_to hB5⟩
  · generalize hnm : ls[i].name = nm at *
    clear hnm
    go_wp2_with (at_builtin; refine wpList_append_lies _ rfl _ _ _ rfl w.heap.size 40 ti _ 2 32 Tryd.underlying24 HI.out ht0 ht1 ht2 rfl (by omega) (.slice (some ⟨g1, 0, none⟩) ls.length cap1) ls.length (flatL ls) rfl (by exact row_later HROW3.out (bnew _ _)) ⟨w3.heap.size, 0, none⟩ 1 1 [.string nm, .string ⟨#[119]⟩] rfl rfl (by exact World.news_of_block (cs := #[.string nm, .string ⟨#[119]⟩]) (heap_alloc_new _ _)) (by simp [Value.oneCell']) (by omega) (by simp [maxLen]; omega) (by omega) (by simp; omega) (w3.heap.size + 1) (by simp) ?_; intro g5 cap5 w5 hown5 hgrow5 hat5 hlt5)
    have hB5 : Below w.heap.size w3 w5 := ((bnew w3 _).mono (by omega)).grown hgrow5 (by simp; omega) (fun q hq => row_from HROW3.out q hq)
    have hle : (ls ++ [(⟨nm, ⟨#[119]⟩⟩ : LabD)]).length = ls.length + 1 := by simp
    have hxs : flatL ls ++ [.string nm, .string ⟨#[119]⟩] = flatL (ls ++ [⟨nm, ⟨#[119]⟩⟩]) := by rw [flatL_append]; rfl
    rw [hxs, ← hle] at hown5
    refine bodyPost_ret (v := .slice (some ⟨g5, 0, none⟩) (ls.length + 1) cap5) (by simp [results, Tryd.results46, go_sem]) rfl ?_
    exact ⟨g5, cap5, ls ++ [⟨nm, ⟨#[119]⟩⟩], by rw [hle], by omega, sizL_snoc HSL.out ⟨hS3.1, by show (1 : Nat) ≤ 1000; omega⟩, hown5, (H3.out.1.below (hB5.mono hPw)).mono (by omega), H3.out.2.below_to hB5⟩
  · go_wp2
    refine bodyPost_ret (v := .slice (some ⟨g1, 0, none⟩) ls.length cap1) (by simp [results, Tryd.results46, go_sem]) rfl ?_
    have hB5 : Below w.heap.size w3 (w3.setCell ⟨g1, i * 2 + 1, none⟩ (.string ⟨#[]⟩)) := (Below.refl _ _).setCell hg1 _
    exact ⟨g1, cap1, ls.set i ⟨ls[i].name, ⟨#[]⟩⟩, by rw [List.length_set], by rw [List.length_set]; omega, sizL_set HSL.out i ⟨hS3.1, by show (0 : Nat) ≤ 1000; omega⟩, row_setV HROW3.out i hi _, (H3.out.1.below (hB5.mono hPw)).mono (by omega), H3.out.2.below_to hB5⟩
  · obtain ⟨hcap, hgl, _, hcells⟩ := row_cells HROW3.out
    have hcm : cap1 ≤ maxLen := by
      rcases HROW3.out.2 with ⟨e1, _⟩ | ⟨g', cap, cur, e1, _, _, _, hm, _⟩
      · exact absurd e1 (by simp)
      · simp only [Value.slice.injEq, Option.some.injEq, Addr.mk.injEq, and_true, true_and] at e1
        rw [e1.2]; exact hm
    have HSRC : Hid (SrcAt w3.drew (if cap1 = i + 1 then some ⟨g1, 0, none⟩ else some ⟨g1, (i + 1) * 2, none⟩) (ls.length - (i + 1)) (flatL (ls.drop (i + 1)))) := src_tail (w := w3.drew) hcells (i + 1) hcap
    have HPRE : Hid (w3.drew.ownsRow w.heap.size 40 2 (.slice (some ⟨g1, 0, none⟩) i cap1) i (flatL (ls.take i))) := row_pre HROW3.out i (by omega)
    have HL : Hid ((flatL (ls.drop (i + 1))).length = (ls.length - (i + 1)) * 2) := by show _ = _; rw [flatL_length, List.length_drop]
    clear hcells x0 x1 f0 f1
    have hic : i ≤ cap1 := by omega
    have hwr : IntKind.i64.wrap ((i : Int) + 1) = (i : Int) + 1 := by
      simp only [IntKind.wrap, IntKind.bits, IntKind.signed]
      simp
      omega
    have hp0 : (0 : Int) ≤ (i : Int) + 1 := by omega
    have hp1 : (i : Int) + 1 ≤ (ls.length : Nat) := by omega
    have hp2 : ((i : Int) + 1).toNat = i + 1 := by omega
    have hcm2 : (cap1 : Int) ≤ 9223372036854775807 := by unfold maxLen at hcm; omega
    go_wp2_with fail
    go_region_law (refine step_append_any _ rfl (.tmp 59) (.tmp 63) 24 rfl w.heap.size 40 ti _ 2 32 Tryd.underlying24 HI.out ht0 ht1 ht2 rfl (by omega) g1 i cap1 (flatL (ls.take i)) (by simp [Act.eval, Act.put]) (by exact HPRE.out) (if cap1 = i + 1 then some ⟨g1, 0, none⟩ else some ⟨g1, (i + 1) * 2, none⟩) (ls.length - (i + 1)) (cap1 - (i + 1)) (flatL (ls.drop (i + 1))) (by simp [Act.eval, Act.put]; trace_state) HL.out (by exact HSRC.out) (flatL_cell _) (by simp [maxLen]; omega) (by omega) (by simpa using hz3) ?_; intro g5 cap5 w5 hown5 hB5 _ _ _ _)
    all_goals go_wp2
    all_goals
      have hle : (ls.take i ++ ls.drop (i + 1)).length = i + (ls.length - (i + 1)) := by rw [List.length_append, List.length_take, List.length_drop]; omega
      rw [← flatL_append, ← hle] at hown5
      have hB6 : Below w.heap.size w3 w5 := ((Below.refl _ w3).drew).trans hB5
      refine bodyPost_ret (v := .slice (some ⟨g5, 0, none⟩) (i + (ls.length - (i + 1))) cap5) (by simp [results, Tryd.results46, go_sem]) rfl ?_
      exact ⟨g5, cap5, ls.take i ++ ls.drop (i + 1), by rw [hle], by omega, fun x hx => by
        rw [List.mem_append] at hx
        rcases hx with hx | hx
        · exact HSL.out x (List.mem_of_mem_take hx)
        · exact HSL.out x (List.mem_of_mem_drop hx), hown5, (H3.out.1.below (hB6.mono hPw)).mono (by omega), H3.out.2.below_to hB6⟩
  · go_wp2_with fail
    refine (curPick_any B P (N + 2) 2 w3 H3.out.1 (by omega) (by omega) (by omega)).mono ?_
    rintro e w4 ⟨v4, hv4, rfl, hc4, hb4⟩
    have H4 : Hid (CurB w4 B P (N + 3) ∧ But B w w4) := ⟨hc4, H3.out.2.trans hb4⟩
    have HROW4 : Hid (w4.ownsRow w.heap.size 40 2 (.slice (some ⟨g1, 0, none⟩) ls.length cap1) ls.length (flatL ls)) := row_but0 HROW3.out hb4 hlt
    clear hc4 hb4 HROW3 H3 x0 x1 f0 f1
    have hv4' : (v4 : Int) < 2 := by omega
    have H5 : Hid (SizL ls) := HSL
    clear HSL hS3 hi hi' hg1
    go_wp2
    go_loopw [1] (fun out wr => ∃ (acc : List LabD) (g5 cv5 : Nat), out = .slice (some ⟨g5, 0, none⟩) acc.length cv5 ∧ acc.length ≤ 17 ∧ Hid (SizL acc ∧ CurB wr B P (N + 3) ∧ But B w wr) ∧ Hid (wr.ownsRow w.heap.size 40 2 (.slice (some ⟨g5, 0, none⟩) acc.length cv5) acc.length (flatL acc)) ∧ w.heap.size ≤ wr.heap.size) (fun out _ => 20 - lenOf0 out)
    case atStart => exact ⟨ls, g1, cap1, rfl, by omega, ⟨H5.out, H4.out⟩, HROW4.out, H4.out.2.size⟩
    case round =>
      clear H4 HROW4 H5 h1 h7
      obtain ⟨acc, g5, cv5, rfl, hal, HR, HROW, hszr⟩ := hrel
      by_cases hgo : (acc.length : Int) < 16 + (v4 : Int)
      · have hal2 : acc.length ≤ 16 := by omega
        obtain ⟨tx, htx, hcv⟩ : ∃ tx : ByteArray, tx.size = 1 ∧ (convert 36 9 (.slice (some ⟨wr.heap.size, 0, none⟩) 1 1)).run Tryd.prog (wr.alloc (.cells #[.int .u8 (97 + (acc.length : Nat))] 5)) = .ok (.string tx) (wr.alloc (.cells #[.int .u8 (97 + (acc.length : Nat))] 5)) :=
          ⟨strOfNums [97 + ((acc.length : Nat) : Int)], strOfNums_len _, conv_row (B := 0) (ys := [97 + ((acc.length : Nat) : Int)]) ⟨by simp, .inr ⟨wr.heap.size, 1, #[.int .u8 (97 + (acc.length : Nat))], rfl, Nat.zero_le _, heap_alloc_new _ _, Nat.le_refl _, by simp [maxLen], by simp, by simp⟩⟩⟩
        have HTX : Hid (tx.size = 1) := htx
        have htx2 : tx.size ≤ 1 := by omega
        clear htx
        have HA : Hid (((wr.alloc (.cells #[.int .u8 (97 + ((acc.length : Nat) : Int))] 5)).alloc (.cells #[.string (⟨#[110]⟩ ++ tx), .string ⟨#[118]⟩] 40)).ownsRow w.heap.size 40 2 (.slice (some ⟨g5, 0, none⟩) acc.length cv5) acc.length (flatL acc)) := row_later (row_later HROW.out (bnew _ _)) (bnew _ _)
        have HN2 : Hid (∀ j u, [Value.string (⟨#[110]⟩ ++ tx), Value.string ⟨#[118]⟩][j]? = some u → ((wr.alloc (.cells #[.int .u8 (97 + ((acc.length : Nat) : Int))] 5)).alloc (.cells #[.string (⟨#[110]⟩ ++ tx), .string ⟨#[118]⟩] 40)).cell? ((⟨wr.heap.size + 1, 0, none⟩ : Addr).add j) = some u) := News_two _ _
        have HZ : Hid (w.heap.size ≤ ((wr.alloc (.cells #[.int .u8 (97 + ((acc.length : Nat) : Int))] 5)).alloc (.cells #[.string (⟨#[110]⟩ ++ tx), .string ⟨#[118]⟩] 40)).heap.size ∧ ((wr.alloc (.cells #[.int .u8 (97 + ((acc.length : Nat) : Int))] 5)).alloc (.cells #[.string (⟨#[110]⟩ ++ tx), .string ⟨#[118]⟩] 40)).heap.size = wr.heap.size + 1 + 1) := ⟨by simp; omega, by simp⟩
        go_wp2_with (at_builtin; refine wpList_append_lies _ rfl _ _ _ rfl w.heap.size 40 ti _ 2 32 Tryd.underlying24 HI.out ht0 ht1 ht2 rfl (by omega) (.slice (some ⟨g5, 0, none⟩) acc.length cv5) acc.length (flatL acc) rfl HA.out ⟨wr.heap.size + 1, 0, none⟩ 1 1 [.string (⟨#[110]⟩ ++ tx), .string ⟨#[118]⟩] rfl rfl HN2.out (by simp [Value.oneCell']) (by omega) (by simp [maxLen]; omega) (by omega) HZ.out.1 (wr.heap.size + 1 + 1) HZ.out.2 ?_; intro g6 cap6 w6 hown6 hgrow6 hat6 hlt6)
        have hB6 : Below w.heap.size wr w6 := ((bto (bnew wr _) (bnew _ _)).mono hszr).grown hgrow6 (by simp; omega) (fun q hq => row_from HROW.out q hq)
        have hle : (acc ++ [(⟨⟨#[110]⟩ ++ tx, ⟨#[118]⟩⟩ : LabD)]).length = acc.length + 1 := by simp
        have hxs : flatL acc ++ [.string (⟨#[110]⟩ ++ tx), .string ⟨#[118]⟩] = flatL (acc ++ [⟨⟨#[110]⟩ ++ tx, ⟨#[118]⟩⟩]) := by rw [flatL_append]; rfl
        rw [hxs, ← hle] at hown6
        refine ⟨⟨acc ++ [(⟨⟨#[110]⟩ ++ tx, ⟨#[118]⟩⟩ : LabD)], g6, cap6, by rw [hle], by omega, ⟨sizL_snoc HR.out.1 ⟨?_, by show (1 : Nat) ≤ 1000; omega⟩, HR.out.2.1.below (hB6.mono hPw), HR.out.2.2.below_to hB6⟩, hown6, Nat.le_trans hszr hB6.size⟩, by simp only [lenOf0]; omega⟩
        simp only
        rw [ByteArray.size_append, HTX.out]
        show (1 : Nat) + 1 ≤ 1000
        omega
      · go_wp2
        refine bodyPost_ret (v := .slice (some ⟨g5, 0, none⟩) acc.length cv5) (by simp [results, Tryd.results46, go_sem]) rfl ?_
        exact ⟨g5, cv5, acc, rfl, by omega, HR.out.1, HROW.out, HR.out.2.1.mono (by omega), HR.out.2.2⟩
end Go.Proofs.YteohobkigjmjlaaDoor

namespace Go.Proofs.YteohobkigjmjlaaDoor
open Go.RowKit

set_option maxRecDepth 100000 in
set_option maxHeartbeats 1000000 in
theorem drawCanon_any (a : Option Addr) (n cap : Nat) (w : World) (hn : n ≤ 1048576) (hU : U8In w w.heap.size w.heap.size a n) :
    Calls Tryd.prog 21 #[.slice a n cap] w fun e w' => ∃ (g cv : Nat) (ls : List LabD), e = .returned (.slice (some ⟨g, 0, none⟩) ls.length cv) ∧ ls.length ≤ cv ∧ ls.length ≤ 20 ∧ SizL ls ∧ LabsOwn w' w.heap.size (some ⟨g, 0, none⟩) ls ∧ Below w.heap.size w w' := by
  have HU : Hid (U8In w w.heap.size w.heap.size a n) := hU
  clear hU
  go_enter Tryd.func21, Tryd.ntmps21
  go_wp2_with fail
  have HC : Hid (CurB (w.alloc (.cells #[.slice a n cap, .int .i64 0, .int .i64 0] 64)) w.heap.size (w.heap.size + 1) 0) := by
    refine ⟨a, n, cap, 0, 0, heap_alloc_new _ _, Nat.le_refl _, ⟨by omega, by omega⟩, hn, ?_, by omega, by simp⟩
    rcases HU.out with h | ⟨b, o, e, hne, hlt, h⟩
    · exact Or.inl h
    · exact Or.inr ⟨b, o, e, hne, by omega, fun i hi => by
        obtain ⟨v, hv, hc⟩ := h i hi
        exact ⟨v, hv, by rw [World.cell?_of_block ((bnew w _).block b hlt)]; exact hc⟩⟩
  refine (drawLabels_any w.heap.size (w.heap.size + 1) 0 _ HC.out (by omega)).mono ?_
  rintro e w1 ⟨g1, c1, ls, rfl, hl1, hl2, hsl, hrow, hc1, hb1⟩
  have hz : (w.alloc (.cells #[.slice a n cap, .int .i64 0, .int .i64 0] 64)).heap.size = w.heap.size + 1 := by simp
  rw [hz] at hrow
  have hb1z := hb1.size
  have hB1 : Below w.heap.size w w1 := (bnew w _).trans (hb1.below (Nat.le_refl _) (by omega))
  have H1 : Hid (CurB w1 w.heap.size (w.heap.size + 1) 100 ∧ Below w.heap.size w w1 ∧ SizL ls ∧ w1.ownsRow (w.heap.size + 1) 40 2 (.slice (some ⟨g1, 0, none⟩) ls.length c1) ls.length (flatL ls)) := ⟨hc1.mono (by omega), hB1, hsl, hrow⟩
  clear hc1 hb1 hsl hrow HC HU hB1
  go_wp2_with fail
  refine (curPick_any w.heap.size (w.heap.size + 1) 100 2 w1 H1.out.1 (by omega) (by omega) (by omega)).mono ?_
  rintro e w2 ⟨v, hv, rfl, hc2, hb2⟩
  have hz2 := hb2.size
  have H2 : Hid (CurB w2 w.heap.size (w.heap.size + 1) 101 ∧ Below w.heap.size w w2 ∧ SizL ls ∧ w2.ownsRow (w.heap.size + 1) 40 2 (.slice (some ⟨g1, 0, none⟩) ls.length c1) ls.length (flatL ls)) := ⟨hc2, H1.out.2.1.trans (hb2.below (Nat.le_refl _) (by omega)), H1.out.2.2.1, row_but0 H1.out.2.2.2 hb2 (by omega)⟩
  clear hc2 hb2 H1
  by_cases h0 : v = 0
  · have h0' : ((v : Nat) : Int) = 0 := by omega
    rw [h0']
    clear h0 h0' hv
    go_wp2_with fail
    refine (spoil_any w.heap.size (w.heap.size + 1) 101 w2 (w.heap.size + 1) g1 c1 ls H2.out.1 (by omega) H2.out.2.2.2 hl1 hl2 H2.out.2.2.1).mono ?_
    rintro e w3 ⟨g3, c3, ls3, rfl, hl3, hsl3, hrow3, _, hb3⟩
    have hz3 := hb3.size
    have H3 : Hid (SizL ls3 ∧ LabsOwn w3 w.heap.size (some ⟨g3, 0, none⟩) ls3 ∧ Below w.heap.size w w3) := ⟨hsl3, labs_of_row (row_mono0 hrow3 (by omega)), H2.out.2.1.trans (hb3.below (Nat.le_refl _) (by omega))⟩
    have hcv := (row_cells hrow3).1
    clear hsl3 hrow3 hb3 H2
    go_wp2
    go_ret
    exact ⟨g3, c3, ls3, rfl, hcv, hl3, H3.out⟩
  · have h0' : ¬ (((v : Nat) : Int) = 0) := by omega
    have hcv := (row_cells H2.out.2.2.2).1
    go_wp2
    go_ret
    exact ⟨g1, c1, ls, rfl, hcv, by omega, H2.out.2.2.1, labs_of_row (row_mono0 H2.out.2.2.2 (by omega)), H2.out.2.1⟩
end Go.Proofs.YteohobkigjmjlaaDoor

namespace Go.Proofs.YteohobkigjmjlaaDoor
open Go.RowKit

theorem specS8_any (s : ByteArray) (w : World) (hs : s.size ≤ 1000000000) :
    Calls Tryd.prog 36 #[.string s] w fun e w' => e = .returned (.string (s8B s)) ∧ Below w.heap.size w w' := by
  have HC : Hid (∀ W, Calls Tryd.prog 35 #[.int .i64 1, .int .i64 (s.size : Nat)] W fun e w' => e = .returned (.string (numS 1 (s.size : Nat))) ∧ Below W.heap.size W w') := fun W => specNum_any 1 (s.size : Nat) W (by omega) (by omega) (by omega)
  have hz := numS_size 1 (s.size : Nat)
  unfold s8B
  generalize numS 1 (s.size : Nat) = N at *
  go_enter Tryd.func36, Tryd.ntmps36
  go_wp2_with fail
  refine (HC.out _).mono ?_
  rintro e w1 ⟨rfl, hb1⟩
  have HB : Hid (Below w.heap.size w w1) := hb1
  clear hb1
  go_wp2
  go_ret
  exact ⟨rfl, HB.out⟩
theorem specS16_any (s : ByteArray) (w : World) (hs : s.size ≤ 1000000000) :
    Calls Tryd.prog 37 #[.string s] w fun e w' => e = .returned (.string (s16B s)) ∧ Below w.heap.size w w' := by
  have HC : Hid (∀ W, Calls Tryd.prog 35 #[.int .i64 2, .int .i64 (s.size : Nat)] W fun e w' => e = .returned (.string (numS 2 (s.size : Nat))) ∧ Below W.heap.size W w') := fun W => specNum_any 2 (s.size : Nat) W (by omega) (by omega) (by omega)
  have hz := numS_size 2 (s.size : Nat)
  unfold s16B
  generalize numS 2 (s.size : Nat) = N at *
  go_enter Tryd.func37, Tryd.ntmps37
  go_wp2_with fail
  refine (HC.out _).mono ?_
  rintro e w1 ⟨rfl, hb1⟩
  have HB : Hid (Below w.heap.size w w1) := hb1
  clear hb1
  go_wp2
  go_ret
  exact ⟨rfl, HB.out⟩

end Go.Proofs.YteohobkigjmjlaaDoor

namespace Go.Proofs.YteohobkigjmjlaaDoor
open Go.RowKit

theorem neqL : NeqAt Tryd.prog 40 (fun x : LabD => .agg #[.string x.name, .string x.value]) eqLabB := by
  refine ⟨fun x y w => ?_, GuardAt.agg _ (by kernel_rfl)⟩
  have u3 := Tryd.underlying9
  have a3 := Tryd.isAgg9
  have z3 := Tryd.sizeOf9
  have hS : Tryd.prog.underlying 40 = some (.struct (Tryd.prog.fieldsOf 40)) := by kernel_rfl
  have hp : Tryd.prog.stoodInHeld 40 = false := by kernel_rfl
  rw [run_neq_struct, show (10000 : Nat) = 9999 + 1 from rfl, run_equalIn_agg w 9999 40 _ _ hS hp]
  simp only [Program.fieldsOf, Tryd.underlying40]
  go_simp
  by_cases h1 : x.name.toList = y.name.toList <;> by_cases h2 : x.value.toList = y.value.toList <;> simp [eqLabB, h1, h2]
end Go.Proofs.YteohobkigjmjlaaDoor

