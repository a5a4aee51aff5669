import Derived.Test.YtpajhkikcofhfaaGreatDoorProg
import Derived.Test.YtpajhkikcofhfaaGreatDoorJ28DrawB
import Derived.Deep.RegionLaw
import Derived.Test.YtpajhkikcofhfaaGreatDoorJ02LabB
import Derived.Test.YtpajhkikcofhfaaGreatDoorJ06IdxM
namespace Go.Proofs.YtpajhkikcofhfaaGreatDoor
open Go.RowKit

def lenOf0 : Value → Nat
  | .slice _ n _ => n
  | _ => 0
theorem curPickN_any (B P N n : Nat) (w : World) (h : CurB w B P N) (hN : N ≤ 10000000) (h1 : 1 ≤ n) (hn : n ≤ 256) :
    Calls Tryz.prog 13 #[.pointer (some ⟨B, 0, none⟩), .int .i64 (n : Nat)] w fun e w' => ∃ v : Nat, v < n ∧ e = .returned (.int .i64 (v : Nat)) ∧ CurB w' B P (N + 1) ∧ But B w w' := by
  by_cases h2 : 2 ≤ n
  · exact curPick_any B P N n w h hN h2 hn
  · refine (curPick1_any B n w (by omega)).mono ?_
    rintro e w' ⟨rfl, rfl⟩
    exact ⟨0, by omega, rfl, h.mono (by omega), But.refl _ _⟩

theorem flatL_setN (ls : List LabD) : ∀ (i : Nat) (h : i < ls.length) (s : ByteArray), (flatL ls).set (i * 2) (.string s) = flatL (ls.set i ⟨s, ls[i].value⟩) := by
  induction ls with
  | nil => intro i h; exact absurd h (by simp)
  | cons l r ih =>
    intro i h s
    have e : ∀ (x : LabD) (q : List LabD), flatL (x :: q) = .string x.name :: .string x.value :: flatL q := fun _ _ => rfl
    cases i with
    | zero => rfl
    | succ i =>
      have hs : (i + 1) * 2 = i * 2 + 1 + 1 := by omega
      rw [e, hs, List.set_cons_succ, List.set_cons_succ, ih i (by simpa using h) s]
      rfl
theorem flatL_setV (ls : List LabD) : ∀ (i : Nat) (h : i < ls.length) (s : ByteArray), (flatL ls).set (i * 2 + 1) (.string s) = flatL (ls.set i ⟨ls[i].name, s⟩) := by
  induction ls with
  | nil => intro i h; exact absurd h (by simp)
  | cons l r ih =>
    intro i h s
    have e : ∀ (x : LabD) (q : List LabD), flatL (x :: q) = .string x.name :: .string x.value :: flatL q := fun _ _ => rfl
    cases i with
    | zero => rfl
    | succ i =>
      have hs : (i + 1) * 2 + 1 = i * 2 + 1 + 1 + 1 := by omega
      rw [e, hs, List.set_cons_succ, List.set_cons_succ, ih i (by simpa using h) s]
      rfl
theorem row_set {w : World} {base g cv n : Nat} {e : TypeId} {xs : List Value} (h : w.ownsRow base e 2 (.slice (some ⟨g, 0, none⟩) n cv) n xs) (j : Nat) (u : Value) : (w.setCell ⟨g, j, none⟩ u).ownsRow base e 2 (.slice (some ⟨g, 0, none⟩) n cv) n (xs.set j u) := by
  obtain ⟨h1, h2⟩ := h
  refine ⟨by rw [List.length_set]; exact h1, ?_⟩
  rcases h2 with ⟨e1, _⟩ | ⟨g', cap, cur, e1, hb, hg, hn, hm, hs, ht⟩
  · exact absurd e1 (by simp)
  · simp only [Value.slice.injEq, Option.some.injEq, Addr.mk.injEq, and_true, true_and] at e1
    obtain ⟨rfl, rfl⟩ := e1
    refine Or.inr ⟨g, cv, cur.setIfInBounds j u, rfl, hb, heap_setCell_same w g j cur e u hg, hn, hm, by rw [Array.size_setIfInBounds]; exact hs, ?_⟩
    rw [Array.toList_setIfInBounds, List.take_set, ht]
theorem row_spot {w : World} {base g cv : Nat} {e : TypeId} {ls : List LabD} (h : w.ownsRow base e 2 (.slice (some ⟨g, 0, none⟩) ls.length cv) ls.length (flatL ls)) (i : Nat) (hi : i < ls.length) : w.cell? ⟨g, i * 2, none⟩ = some (.string ls[i].name) ∧ w.cell? ⟨g, i * 2 + 1, none⟩ = some (.string ls[i].value) ∧ (∀ j, w.frozen? ⟨g, j, none⟩ = false) ∧ base ≤ g := by
  obtain ⟨h1, h2, h3, h4⟩ := row_cells h
  refine ⟨h4 _ _ (flatL_drop0 ls i hi), h4 _ _ ?_, ?_, h3⟩
  · have e : ∀ (ls : List LabD) (i : Nat) (hi : i < ls.length), (flatL ls)[i * 2 + 1]? = some (.string ls[i].value) := by
      intro ls
      induction ls with
      | nil => intro i hi; exact absurd hi (by simp)
      | cons l r ih =>
        intro i hi
        have e : flatL (l :: r) = .string l.name :: .string l.value :: flatL r := rfl
        cases i with
        | zero => rfl
        | succ i =>
          have hs : (i + 1) * 2 + 1 = i * 2 + 1 + 1 + 1 := by omega
          rw [e, hs, List.getElem?_cons_succ, List.getElem?_cons_succ, ih i (by simpa using hi)]
          rfl
    exact e ls i hi
  · rcases h.2 with ⟨e1, _⟩ | ⟨g', cap, cur, e1, hb, hg, _⟩
    · exact absurd e1 (by simp)
    · simp only [Value.slice.injEq, Option.some.injEq, Addr.mk.injEq, and_true, true_and] at e1
      obtain ⟨rfl, rfl⟩ := e1
      exact fun j => frozen_of_row w g j cur _ hg
theorem sizL_set {ls : List LabD} (h : SizL ls) (i : Nat) {l : LabD} (hl : l.name.size ≤ 1000 ∧ l.value.size ≤ 1000) : SizL (ls.set i l) := fun x hx => by
  rcases List.mem_or_eq_of_mem_set hx with hx | rfl
  · exact h x hx
  · exact hl
theorem row_setN {w : World} {base g cv : Nat} {e : TypeId} {ls : List LabD} (h : w.ownsRow base e 2 (.slice (some ⟨g, 0, none⟩) ls.length cv) ls.length (flatL ls)) (i : Nat) (hi : i < ls.length) (s : ByteArray) : (w.setCell ⟨g, i * 2, none⟩ (.string s)).ownsRow base e 2 (.slice (some ⟨g, 0, none⟩) (ls.set i ⟨s, ls[i].value⟩).length cv) (ls.set i ⟨s, ls[i].value⟩).length (flatL (ls.set i ⟨s, ls[i].value⟩)) := by
  have := row_set h (i * 2) (.string s)
  rw [flatL_setN ls i hi s] at this
  rw [List.length_set]
  exact this
theorem row_setV {w : World} {base g cv : Nat} {e : TypeId} {ls : List LabD} (h : w.ownsRow base e 2 (.slice (some ⟨g, 0, none⟩) ls.length cv) ls.length (flatL ls)) (i : Nat) (hi : i < ls.length) (s : ByteArray) : (w.setCell ⟨g, i * 2 + 1, none⟩ (.string s)).ownsRow base e 2 (.slice (some ⟨g, 0, none⟩) (ls.set i ⟨ls[i].name, s⟩).length cv) (ls.set i ⟨ls[i].name, s⟩).length (flatL (ls.set i ⟨ls[i].name, s⟩)) := by
  have := row_set h (i * 2 + 1) (.string s)
  rw [flatL_setV ls i hi s] at this
  rw [List.length_set]
  exact this
theorem row_pre {w : World} {base g cv : Nat} {e : TypeId} {ls : List LabD} (h : w.ownsRow base e 2 (.slice (some ⟨g, 0, none⟩) ls.length cv) ls.length (flatL ls)) (i : Nat) (hi : i ≤ ls.length) : w.ownsRow base e 2 (.slice (some ⟨g, 0, none⟩) i cv) i (flatL (ls.take i)) := by
  refine ⟨by rw [flatL_length, List.length_take]; omega, ?_⟩
  rcases h.2 with ⟨e1, _⟩ | ⟨g', cap, cur, e1, hb, hg, hn, hm, hs, ht⟩
  · exact absurd e1 (by simp)
  · simp only [Value.slice.injEq, Option.some.injEq, Addr.mk.injEq, and_true, true_and] at e1
    obtain ⟨rfl, rfl⟩ := e1
    refine Or.inr ⟨g, cv, cur, rfl, hb, hg, by omega, hm, hs, ?_⟩
    have h1 : flatL ls = flatL (ls.take i) ++ flatL (ls.drop i) := by rw [← flatL_append, List.take_append_drop]
    have h2 : (flatL (ls.take i)).length = i * 2 := by rw [flatL_length, List.length_take]; omega
    have h3 : cur.toList.take (i * 2) = (cur.toList.take (ls.length * 2)).take (i * 2) := by rw [List.take_take, Nat.min_eq_left (by omega)]
    rw [h3, ht, h1, ← h2, List.take_left]
theorem News_two (W : World) (x : Obj) {a b : Value} {t : TypeId} : ∀ j u, [a, b][j]? = some u → ((W.alloc x).alloc (.cells #[a, b] t)).cell? ((⟨W.heap.size + 1, 0, none⟩ : Addr).add j) = some u :=
  World.news_of_block (cs := #[a, b]) (fr := (0, 0)) (by have h := heap_alloc_new (W.alloc x) (.cells #[a, b] t); simpa using h)
/-- What a spoilt draw answers. -/
def DrawnS (w w' : World) (B P N : Nat) (e : Ending) : Prop := ∃ (g cv : Nat) (ls : List LabD), e = .returned (.slice (some ⟨g, 0, none⟩) ls.length cv) ∧ ls.length ≤ 20 ∧ SizL ls ∧ w'.ownsRow w.heap.size 57 2 (.slice (some ⟨g, 0, none⟩) ls.length cv) ls.length (flatL ls) ∧ CurB w' B P N ∧ But B w w'

set_option maxRecDepth 100000 in
set_option maxHeartbeats 1000000 in
theorem spoil_any (B P N : Nat) (w : World) (base g cv : Nat) (ls : List LabD) (h : CurB w B P N) (hN : N ≤ 90000) (hrow : w.ownsRow base 57 2 (.slice (some ⟨g, 0, none⟩) ls.length cv) ls.length (flatL ls)) (h1 : 1 ≤ ls.length) (h7 : ls.length ≤ 7) (hsl : SizL ls) :
    Calls Tryz.prog 34 #[.pointer (some ⟨B, 0, none⟩), .slice (some ⟨g, 0, none⟩) ls.length cv] w fun e w' => DrawnS w w' B P (N + 100) e := by
  obtain ⟨ti, hti, ht0, ht1, ht2⟩ := info_lab
  have HI : Hid (Tryz.prog.info? 57 = some ti) := hti
  clear hti
  have HC : Hid (CurB w B P N) := h
  have hlt := h.lt
  have hPw := h.up.2
  have HSL : Hid (SizL ls) := hsl
  have HROW : Hid (w.ownsRow base 57 2 (.slice (some ⟨g, 0, none⟩) ls.length cv) ls.length (flatL ls)) := hrow
  clear h hrow hsl
  go_enter Tryz.func34, Tryz.ntmps34
  go_wp2_with (at_builtin; refine wpList_append_lies _ rfl _ _ _ rfl w.heap.size 57 ti _ 2 32 Tryz.underlying32 HI.out ht0 ht1 ht2 rfl (by omega) (.slice (some ⟨w.heap.size, 0, none⟩) 0 0) 0 [] rfl (by exact World.ownsRow_made w #[] 0 (Nat.le_refl _) (by simp [maxLen]) (by simp)) ⟨g, 0, none⟩ ls.length cv (flatL ls) rfl (flatL_length ls) (by exact row_news (row_later HROW.out (bnew _ _))) (by exact flatL_cell ls) (by omega) (by simp [maxLen]; omega) (by omega) (by simp) (w.heap.size + 1) (by simp) ?_; intro g1 cap1 w1 hown1 hgrow1 hat1 hlt1)
  rw [Nat.zero_add, List.nil_append] at hown1
  have hB1 : Below w.heap.size w w1 := (bnew w _).grown hgrow1 (by simp) (fun q hq => by simp [Value.ownBlock] at hq; omega)
  have hz1 := hB1.size
  have HROW1 : Hid (w1.ownsRow w.heap.size 57 2 (.slice (some ⟨g1, 0, none⟩) ls.length cap1) ls.length (flatL ls)) := hown1
  have HB1 : Hid (Below w.heap.size w w1) := hB1
  clear hown1 hgrow1 hat1 hlt1 hB1 HROW
  refine (curPickN_any B P N ls.length w1 (HC.out.later HB1.out) (by omega) h1 (by omega)).mono ?_
  rintro e w2 ⟨i, hi, rfl, hc2, hb2⟩
  have H2 : Hid (CurB w2 B P (N + 1) ∧ But B w w2) := ⟨hc2, (But.of HB1.out).trans hb2⟩
  have HROW2 : Hid (w2.ownsRow w.heap.size 57 2 (.slice (some ⟨g1, 0, none⟩) ls.length cap1) ls.length (flatL ls)) := row_but0 HROW1.out hb2 hlt
  clear hc2 hb2 HROW1 HB1 HC
  go_wp2_with fail
  refine (curPick_any B P (N + 1) 7 w2 H2.out.1 (by omega) (by omega) (by omega)).mono ?_
  rintro e w3 ⟨sw, hsw, rfl, hc3, hb3⟩
  have H3 : Hid (CurB w3 B P (N + 2) ∧ But B w w3) := ⟨hc3, H2.out.2.trans hb3⟩
  have HROW3 : Hid (w3.ownsRow w.heap.size 57 2 (.slice (some ⟨g1, 0, none⟩) ls.length cap1) ls.length (flatL ls)) := row_but0 HROW2.out hb3 hlt
  have hz3 : w.heap.size ≤ w3.heap.size := H3.out.2.size
  clear hc3 hb3 HROW2 H2 hz1
  have hi' : (i : Int) < (ls.length : Nat) := by omega
  obtain ⟨x0, x1, xf, hg1⟩ := row_spot HROW3.out i hi
  have f0 := xf (i * 2)
  have f1 := xf (i * 2 + 1)
  clear xf
  have hS3 := HSL.out ls[i] (List.getElem_mem hi)
  have hcase : sw = 0 ∨ (sw = 1 ∨ sw = 2) ∨ sw = 3 ∨ sw = 4 ∨ sw = 5 ∨ sw = 6 := by omega
  clear hsw
  rcases hcase with rfl | hs12 | rfl | rfl | rfl | rfl
  · clear x0 x1 f0 f1
    go_wp2_with fail
    refine (times_any ⟨#[110]⟩ 64 w3 (by decide) (by omega)).mono ?_
    rintro e w4 ⟨t1, ht1, rfl, hb4⟩
    have B4 : Hid (Below w3.heap.size w3 w4) := hb4
    clear hb4
    go_wp2_with fail
    refine (times_any ⟨#[110]⟩ 65 w4 (by decide) (by omega)).mono ?_
    rintro e w5 ⟨t2, ht2, rfl, hb5⟩
    have B5 : Hid (Below w3.heap.size w3 w5) := bto B4.out hb5
    clear hb5 B4
    go_wp2_with fail
    have HR : Hid (RowT (w5.alloc (.cells ([⟨#[]⟩, ⟨#[57, 97]⟩, ⟨#[97, 45, 98]⟩, ⟨#[106, 111, 98]⟩, t1, t2, ⟨#[195, 169]⟩].map Value.string).toArray 9)) w5.heap.size 7 1000) := rowT_new w5 _ 1000 _ 7 rfl (by
      simp only [List.all_cons, List.all_nil, Bool.and_true, Bool.and_eq_true, decide_eq_true_eq]
      refine ⟨by decide, by decide, by decide, by decide, by omega, by omega, by decide⟩)
    simp only [List.map_cons, List.map_nil] at HR
    have hC5 := (H3.out.1.later B5.out).later (bnew w5 (.cells #[.string ⟨#[]⟩, .string ⟨#[57, 97]⟩, .string ⟨#[97, 45, 98]⟩, .string ⟨#[106, 111, 98]⟩, .string t1, .string t2, .string ⟨#[195, 169]⟩] 9))
    have hz5 : w3.heap.size ≤ w5.heap.size := B5.out.size
    refine (curPick_any B P (N + 2) 7 _ hC5 (by omega) (by omega) (by omega)).mono ?_
    rintro e w6 ⟨v, hv, rfl, hc6, hb6⟩
    have HR6 := HR.out.but hb6 (by omega)
    obtain ⟨s, hcell, hs⟩ := HR6.at hv
    have H6 : Hid (CurB w6 B P (N + 3) ∧ But B w w6) := ⟨hc6, ((H3.out.2.trans (But.of B5.out)).later (bnew _ _)).trans hb6⟩
    have HROW6 : Hid (w6.ownsRow w.heap.size 57 2 (.slice (some ⟨g1, 0, none⟩) ls.length cap1) ls.length (flatL ls)) := row_but0 (row_later (row_later HROW3.out B5.out) (bnew _ _)) hb6 hlt
    obtain ⟨y0, y1, yf, _⟩ := row_spot HROW6.out i hi
    have k0 := yf (i * 2)
    clear hc6 hb6 HR6 HR hC5 B5 H3 HROW3 yf
    have hv' : (v : Int) < 7 := by omega
    go_wp2
    refine bodyPost_ret (v := .slice (some ⟨g1, 0, none⟩) ls.length cap1) (by simp [results, Tryz.results34, go_sem]) rfl ?_
    have hB7 : Below w.heap.size w6 (w6.setCell ⟨g1, i * 2, none⟩ (.string s)) := (Below.refl _ _).setCell hg1 _
    exact ⟨g1, cap1, ls.set i ⟨s, ls[i].value⟩, by rw [List.length_set], by rw [List.length_set]; omega, sizL_set HSL.out i ⟨hs, hS3.2⟩, row_setN HROW6.out i hi _, (H6.out.1.below (hB7.mono hPw)).mono (by omega), H6.out.2.below_to hB7⟩
  · have c0 : ¬ ((sw : Int) = 0) := by omega
    have c12 : (sw : Int) = 1 ∨ (sw : Int) = 2 := by omega
    clear hs12
    rcases c12 with c | c
    all_goals
      rw [c]
      clear c c0 x0 x1 f0 f1
      go_wp2_with fail
      refine (badValue_any B P (N + 2) w3 H3.out.1 (by omega)).mono ?_
      rintro e w4 ⟨va, hva, rfl, hc4, hb4⟩
      have H4 : Hid (CurB w4 B P (N + 3) ∧ But B w w4) := ⟨hc4, H3.out.2.trans hb4⟩
      have HROW4 : Hid (w4.ownsRow w.heap.size 57 2 (.slice (some ⟨g1, 0, none⟩) ls.length cap1) ls.length (flatL ls)) := row_but0 HROW3.out hb4 hlt
      obtain ⟨y0, y1, yf, _⟩ := row_spot HROW4.out i hi
      have k1 := yf (i * 2 + 1)
      clear hc4 hb4 HROW3 H3 yf
      go_wp2
      refine bodyPost_ret (v := .slice (some ⟨g1, 0, none⟩) ls.length cap1) (by simp [results, Tryz.results34, go_sem]) rfl ?_
      have hB5 : Below w.heap.size w4 (w4.setCell ⟨g1, i * 2 + 1, none⟩ (.string va)) := (Below.refl _ _).setCell hg1 _
      exact ⟨g1, cap1, ls.set i ⟨ls[i].name, va⟩, by rw [List.length_set], by rw [List.length_set]; omega, sizL_set HSL.out i ⟨hS3.1, hva⟩, row_setV HROW4.out i hi _, (H4.out.1.below (hB5.mono hPw)).mono (by omega), H4.out.2.below_to hB5⟩
  · generalize hnm : ls[i].name = nm at *
    clear hnm
    go_wp2_with (at_builtin; refine wpList_append_lies _ rfl _ _ _ rfl w.heap.size 57 ti _ 2 32 Tryz.underlying32 HI.out ht0 ht1 ht2 rfl (by omega) (.slice (some ⟨g1, 0, none⟩) ls.length cap1) ls.length (flatL ls) rfl (by exact row_later HROW3.out (bnew _ _)) ⟨w3.heap.size, 0, none⟩ 1 1 [.string nm, .string ⟨#[119]⟩] rfl rfl (by exact World.news_of_block (cs := #[.string nm, .string ⟨#[119]⟩]) (heap_alloc_new _ _)) (by simp [Value.oneCell']) (by omega) (by simp [maxLen]; omega) (by omega) (by simp; omega) (w3.heap.size + 1) (by simp) ?_; intro g5 cap5 w5 hown5 hgrow5 hat5 hlt5)
    have hB5 : Below w.heap.size w3 w5 := ((bnew w3 _).mono (by omega)).grown hgrow5 (by simp; omega) (fun q hq => row_from HROW3.out q hq)
    have hle : (ls ++ [(⟨nm, ⟨#[119]⟩⟩ : LabD)]).length = ls.length + 1 := by simp
    have hxs : flatL ls ++ [.string nm, .string ⟨#[119]⟩] = flatL (ls ++ [⟨nm, ⟨#[119]⟩⟩]) := by rw [flatL_append]; rfl
    rw [hxs, ← hle] at hown5
    refine bodyPost_ret (v := .slice (some ⟨g5, 0, none⟩) (ls.length + 1) cap5) (by simp [results, Tryz.results34, go_sem]) rfl ?_
    exact ⟨g5, cap5, ls ++ [⟨nm, ⟨#[119]⟩⟩], by rw [hle], by omega, sizL_snoc HSL.out ⟨hS3.1, by show (1 : Nat) ≤ 1000; omega⟩, hown5, (H3.out.1.below (hB5.mono hPw)).mono (by omega), H3.out.2.below_to hB5⟩
  · go_wp2
    refine bodyPost_ret (v := .slice (some ⟨g1, 0, none⟩) ls.length cap1) (by simp [results, Tryz.results34, go_sem]) rfl ?_
    have hB5 : Below w.heap.size w3 (w3.setCell ⟨g1, i * 2 + 1, none⟩ (.string ⟨#[]⟩)) := (Below.refl _ _).setCell hg1 _
    exact ⟨g1, cap1, ls.set i ⟨ls[i].name, ⟨#[]⟩⟩, by rw [List.length_set], by rw [List.length_set]; omega, sizL_set HSL.out i ⟨hS3.1, by show (0 : Nat) ≤ 1000; omega⟩, row_setV HROW3.out i hi _, (H3.out.1.below (hB5.mono hPw)).mono (by omega), H3.out.2.below_to hB5⟩
  · obtain ⟨hcap, hgl, _, hcells⟩ := row_cells HROW3.out
    have hcm : cap1 ≤ maxLen := by
      rcases HROW3.out.2 with ⟨e1, _⟩ | ⟨g', cap, cur, e1, _, _, _, hm, _⟩
      · exact absurd e1 (by simp)
      · simp only [Value.slice.injEq, Option.some.injEq, Addr.mk.injEq, and_true, true_and] at e1
        rw [e1.2]; exact hm
    have HSRC : Hid (SrcAt w3.drew (if cap1 = i + 1 then some ⟨g1, 0, none⟩ else some ⟨g1, (i + 1) * 2, none⟩) (ls.length - (i + 1)) (flatL (ls.drop (i + 1)))) := src_tail (w := w3.drew) hcells (i + 1) hcap
    have HPRE : Hid (w3.drew.ownsRow w.heap.size 57 2 (.slice (some ⟨g1, 0, none⟩) i cap1) i (flatL (ls.take i))) := row_pre HROW3.out i (by omega)
    have HL : Hid ((flatL (ls.drop (i + 1))).length = (ls.length - (i + 1)) * 2) := by show _ = _; rw [flatL_length, List.length_drop]
    clear hcells x0 x1 f0 f1
    have hic : i ≤ cap1 := by omega
    have hwr : IntKind.i64.wrap ((i : Int) + 1) = (i : Int) + 1 := by
      simp only [IntKind.wrap, IntKind.bits, IntKind.signed]
      simp
      omega
    have hp0 : (0 : Int) ≤ (i : Int) + 1 := by omega
    have hp1 : (i : Int) + 1 ≤ (ls.length : Nat) := by omega
    have hp2 : ((i : Int) + 1).toNat = i + 1 := by omega
    have hcm2 : (cap1 : Int) ≤ 9223372036854775807 := by unfold maxLen at hcm; omega
    go_wp2_with fail
    go_region_law (refine step_append_any _ rfl (.tmp 59) (.tmp 63) 32 rfl w.heap.size 57 ti _ 2 32 Tryz.underlying32 HI.out ht0 ht1 ht2 rfl (by omega) g1 i cap1 (flatL (ls.take i)) (by simp [Act.eval, Act.put]) (by exact HPRE.out) (if cap1 = i + 1 then some ⟨g1, 0, none⟩ else some ⟨g1, (i + 1) * 2, none⟩) (ls.length - (i + 1)) (cap1 - (i + 1)) (flatL (ls.drop (i + 1))) (by simp [Act.eval, Act.put]; trace_state) HL.out (by exact HSRC.out) (flatL_cell _) (by simp [maxLen]; omega) (by omega) (by simpa using hz3) ?_; intro g5 cap5 w5 hown5 hB5 _ _ _ _)
    all_goals go_wp2
    all_goals
      have hle : (ls.take i ++ ls.drop (i + 1)).length = i + (ls.length - (i + 1)) := by rw [List.length_append, List.length_take, List.length_drop]; omega
      rw [← flatL_append, ← hle] at hown5
      have hB6 : Below w.heap.size w3 w5 := ((Below.refl _ w3).drew).trans hB5
      refine bodyPost_ret (v := .slice (some ⟨g5, 0, none⟩) (i + (ls.length - (i + 1))) cap5) (by simp [results, Tryz.results34, go_sem]) rfl ?_
      exact ⟨g5, cap5, ls.take i ++ ls.drop (i + 1), by rw [hle], by omega, fun x hx => by
        rw [List.mem_append] at hx
        rcases hx with hx | hx
        · exact HSL.out x (List.mem_of_mem_take hx)
        · exact HSL.out x (List.mem_of_mem_drop hx), hown5, (H3.out.1.below (hB6.mono hPw)).mono (by omega), H3.out.2.below_to hB6⟩
  · go_wp2_with fail
    refine (curPick_any B P (N + 2) 2 w3 H3.out.1 (by omega) (by omega) (by omega)).mono ?_
    rintro e w4 ⟨v4, hv4, rfl, hc4, hb4⟩
    have H4 : Hid (CurB w4 B P (N + 3) ∧ But B w w4) := ⟨hc4, H3.out.2.trans hb4⟩
    have HROW4 : Hid (w4.ownsRow w.heap.size 57 2 (.slice (some ⟨g1, 0, none⟩) ls.length cap1) ls.length (flatL ls)) := row_but0 HROW3.out hb4 hlt
    clear hc4 hb4 HROW3 H3 x0 x1 f0 f1
    have hv4' : (v4 : Int) < 2 := by omega
    have H5 : Hid (SizL ls) := HSL
    clear HSL hS3 hi hi' hg1
    go_wp2
    go_loopw [1] (fun out wr => ∃ (acc : List LabD) (g5 cv5 : Nat), out = .slice (some ⟨g5, 0, none⟩) acc.length cv5 ∧ acc.length ≤ 17 ∧ Hid (SizL acc ∧ CurB wr B P (N + 3) ∧ But B w wr) ∧ Hid (wr.ownsRow w.heap.size 57 2 (.slice (some ⟨g5, 0, none⟩) acc.length cv5) acc.length (flatL acc)) ∧ w.heap.size ≤ wr.heap.size) (fun out _ => 20 - lenOf0 out)
    case atStart => exact ⟨ls, g1, cap1, rfl, by omega, ⟨H5.out, H4.out⟩, HROW4.out, H4.out.2.size⟩
    case round =>
      clear H4 HROW4 H5 h1 h7
      obtain ⟨acc, g5, cv5, rfl, hal, HR, HROW, hszr⟩ := hrel
      by_cases hgo : (acc.length : Int) < 16 + (v4 : Int)
      · have hal2 : acc.length ≤ 16 := by omega
        obtain ⟨tx, htx, hcv⟩ : ∃ tx : ByteArray, tx.size = 1 ∧ (convert 22 9 (.slice (some ⟨wr.heap.size, 0, none⟩) 1 1)).run Tryz.prog (wr.alloc (.cells #[.int .u8 (97 + (acc.length : Nat))] 5)) = .ok (.string tx) (wr.alloc (.cells #[.int .u8 (97 + (acc.length : Nat))] 5)) :=
          ⟨strOfNums [97 + ((acc.length : Nat) : Int)], strOfNums_len _, conv_row (B := 0) (ys := [97 + ((acc.length : Nat) : Int)]) ⟨by simp, .inr ⟨wr.heap.size, 1, #[.int .u8 (97 + (acc.length : Nat))], rfl, Nat.zero_le _, heap_alloc_new _ _, Nat.le_refl _, by simp [maxLen], by simp, by simp⟩⟩⟩
        have HTX : Hid (tx.size = 1) := htx
        have htx2 : tx.size ≤ 1 := by omega
        clear htx
        have HA : Hid (((wr.alloc (.cells #[.int .u8 (97 + ((acc.length : Nat) : Int))] 5)).alloc (.cells #[.string (⟨#[110]⟩ ++ tx), .string ⟨#[118]⟩] 57)).ownsRow w.heap.size 57 2 (.slice (some ⟨g5, 0, none⟩) acc.length cv5) acc.length (flatL acc)) := row_later (row_later HROW.out (bnew _ _)) (bnew _ _)
        have HN2 : Hid (∀ j u, [Value.string (⟨#[110]⟩ ++ tx), Value.string ⟨#[118]⟩][j]? = some u → ((wr.alloc (.cells #[.int .u8 (97 + ((acc.length : Nat) : Int))] 5)).alloc (.cells #[.string (⟨#[110]⟩ ++ tx), .string ⟨#[118]⟩] 57)).cell? ((⟨wr.heap.size + 1, 0, none⟩ : Addr).add j) = some u) := News_two _ _
        have HZ : Hid (w.heap.size ≤ ((wr.alloc (.cells #[.int .u8 (97 + ((acc.length : Nat) : Int))] 5)).alloc (.cells #[.string (⟨#[110]⟩ ++ tx), .string ⟨#[118]⟩] 57)).heap.size ∧ ((wr.alloc (.cells #[.int .u8 (97 + ((acc.length : Nat) : Int))] 5)).alloc (.cells #[.string (⟨#[110]⟩ ++ tx), .string ⟨#[118]⟩] 57)).heap.size = wr.heap.size + 1 + 1) := ⟨by simp; omega, by simp⟩
        go_wp2_with (at_builtin; refine wpList_append_lies _ rfl _ _ _ rfl w.heap.size 57 ti _ 2 32 Tryz.underlying32 HI.out ht0 ht1 ht2 rfl (by omega) (.slice (some ⟨g5, 0, none⟩) acc.length cv5) acc.length (flatL acc) rfl HA.out ⟨wr.heap.size + 1, 0, none⟩ 1 1 [.string (⟨#[110]⟩ ++ tx), .string ⟨#[118]⟩] rfl rfl HN2.out (by simp [Value.oneCell']) (by omega) (by simp [maxLen]; omega) (by omega) HZ.out.1 (wr.heap.size + 1 + 1) HZ.out.2 ?_; intro g6 cap6 w6 hown6 hgrow6 hat6 hlt6)
        have hB6 : Below w.heap.size wr w6 := ((bto (bnew wr _) (bnew _ _)).mono hszr).grown hgrow6 (by simp; omega) (fun q hq => row_from HROW.out q hq)
        have hle : (acc ++ [(⟨⟨#[110]⟩ ++ tx, ⟨#[118]⟩⟩ : LabD)]).length = acc.length + 1 := by simp
        have hxs : flatL acc ++ [.string (⟨#[110]⟩ ++ tx), .string ⟨#[118]⟩] = flatL (acc ++ [⟨⟨#[110]⟩ ++ tx, ⟨#[118]⟩⟩]) := by rw [flatL_append]; rfl
        rw [hxs, ← hle] at hown6
        refine ⟨⟨acc ++ [(⟨⟨#[110]⟩ ++ tx, ⟨#[118]⟩⟩ : LabD)], g6, cap6, by rw [hle], by omega, ⟨sizL_snoc HR.out.1 ⟨?_, by show (1 : Nat) ≤ 1000; omega⟩, HR.out.2.1.below (hB6.mono hPw), HR.out.2.2.below_to hB6⟩, hown6, Nat.le_trans hszr hB6.size⟩, by simp only [lenOf0]; omega⟩
        simp only
        rw [ByteArray.size_append, HTX.out]
        show (1 : Nat) + 1 ≤ 1000
        omega
      · go_wp2
        refine bodyPost_ret (v := .slice (some ⟨g5, 0, none⟩) acc.length cv5) (by simp [results, Tryz.results34, go_sem]) rfl ?_
        exact ⟨g5, cv5, acc, rfl, by omega, HR.out.1, HROW.out, HR.out.2.1.mono (by omega), HR.out.2.2⟩
end Go.Proofs.YtpajhkikcofhfaaGreatDoor

namespace Go.Proofs.YtpajhkikcofhfaaGreatDoor
open Go.RowKit

structure SmpD where
  labs : List LabD
  bits : Int
structure ReqD where
  kind : Int
  tenant : ByteArray
  metric : ByteArray
  num : Int
  smps : List SmpD

/-- The two cells of a sample lie at ⟨b, o⟩. -/
def SmpAt (w : World) (b o : Nat) (x : SmpD) : Prop :=
  ∃ a c, w.cell? ⟨b, o, none⟩ = some (.slice a x.labs.length c) ∧ w.cell? ⟨b, o + 1, none⟩ = some (.int .i64 x.bits) ∧ LabsIn w a x.labs
def SmpsAt (w : World) (b o : Nat) (xs : List SmpD) : Prop := ∀ i (h : i < xs.length), SmpAt w b (o + i * 2) xs[i]
/-- A slice's address holds the samples xs (nothing is asked where there are none). -/
def SmpsIn (w : World) (a : Option Addr) (xs : List SmpD) : Prop := xs = [] ∨ ∃ b o, a = some ⟨b, o, none⟩ ∧ b < w.heap.size ∧ SmpsAt w b o xs
theorem SmpAt.later {w w' : World} {b o : Nat} {x : SmpD} (h : SmpAt w b o x) (hlt : b < w.heap.size) (hb : Below w.heap.size w w') : SmpAt w' b o x := by
  obtain ⟨a, c, h0, h1, h2⟩ := h
  exact ⟨a, c, (hb.cell hlt).trans h0, (hb.cell hlt).trans h1, h2.later hb⟩
theorem SmpsIn.later {w w' : World} {a : Option Addr} {xs : List SmpD} (h : SmpsIn w a xs) (hb : Below w.heap.size w w') : SmpsIn w' a xs := by
  rcases h with h | ⟨b, o, rfl, hlt, h⟩
  · exact Or.inl h
  · exact Or.inr ⟨b, o, rfl, Nat.lt_of_lt_of_le hlt hb.size, fun i hi => (h i hi).later hlt hb⟩
theorem SmpsIn.at {w : World} {a : Option Addr} {xs : List SmpD} (h : SmpsIn w a xs) {i : Nat} (hi : i < xs.length) :
    ∃ b o a1 c1, a = some ⟨b, o, none⟩ ∧ b < w.heap.size ∧ w.cell? ⟨b, o + i * 2, none⟩ = some (.slice a1 xs[i].labs.length c1) ∧ w.cell? ⟨b, o + i * 2 + 1, none⟩ = some (.int .i64 xs[i].bits) ∧ LabsIn w a1 xs[i].labs := by
  rcases h with rfl | ⟨b, o, rfl, hlt, h⟩
  · exact absurd hi (by simp)
  · obtain ⟨a1, c1, h⟩ := h i hi
    exact ⟨b, o, a1, c1, rfl, hlt, h⟩

theorem LabsOwn.butS {g b o B : Nat} {w w' : World} {fs : List LabD} (h : LabsOwn w B (some ⟨b, o, none⟩) fs) (hb : But g w w') (hg : b ≠ g) : LabsOwn w' B (some ⟨b, o, none⟩) fs := by
  rcases h with h | ⟨b', o', cur, t, e, hB, hblk, h⟩
  · exact Or.inl h
  · simp only [Option.some.injEq, Addr.mk.injEq, and_true] at e
    obtain ⟨rfl, rfl⟩ := e
    have hk := hb.block b (lt_of_block hblk) hg
    have hc : ∀ j, w'.cell? ⟨b, j, none⟩ = w.cell? ⟨b, j, none⟩ := fun j => World.cell?_of_block hk
    exact Or.inr ⟨b, o, cur, t, rfl, hB, hk.trans hblk, fun i hi => by simp only [hc]; exact h i hi⟩
/-- The labels lie in a block of their own, from B on, that may be written, and bears the tag n. -/
def LabsTag (w : World) (B : Nat) (T : Nat → Nat) (n : Nat) (a : Option Addr) (ps : List LabD) : Prop :=
  ps = [] ∨ ∃ g o cur t, a = some ⟨g, o, none⟩ ∧ B ≤ g ∧ T g = n ∧ w.heap[g]? = some (.cells cur t (0, 0)) ∧ LabsAt w g o ps
theorem LabsTag.labs {w : World} {B n : Nat} {T : Nat → Nat} {a : Option Addr} {ps : List LabD} (h : LabsTag w B T n a ps) : LabsIn w a ps := by
  rcases h with h | ⟨g, o, cur, t, rfl, _, _, hb, h⟩
  · exact Or.inl h
  · exact Or.inr ⟨g, o, rfl, lt_of_block hb, h⟩
theorem LabsTag.own {w : World} {B n : Nat} {T : Nat → Nat} {a : Option Addr} {ps : List LabD} (h : LabsTag w B T n a ps) : LabsOwn w B a ps := by
  rcases h with h | ⟨g, o, cur, t, e, hB, _, hb, h⟩
  · exact Or.inl h
  · exact Or.inr ⟨g, o, cur, t, e, hB, hb, h⟩
theorem LabsTag.base {w : World} {B B' n : Nat} {T : Nat → Nat} {a : Option Addr} {ps : List LabD} (h : LabsTag w B T n a ps) (hB : B' ≤ B) : LabsTag w B' T n a ps := by
  rcases h with h | ⟨g, o, cur, t, e, h1, h2, h3, h4⟩
  · exact Or.inl h
  · exact Or.inr ⟨g, o, cur, t, e, Nat.le_trans hB h1, h2, h3, h4⟩
/-- A world in which the blocks of the tag n are as they were. -/
theorem LabsTag.keep {w w' : World} {B n : Nat} {T T' : Nat → Nat} {a : Option Addr} {ps : List LabD} (h : LabsTag w B T n a ps)
    (hk : ∀ g, g < w.heap.size → B ≤ g → T g = n → w'.heap[g]? = w.heap[g]? ∧ T' g = n) : LabsTag w' B T' n a ps := by
  rcases h with h | ⟨g, o, cur, t, e, hB, hT, hb, h⟩
  · exact Or.inl h
  · obtain ⟨h1, h2⟩ := hk g (lt_of_block hb) hB hT
    have hc : ∀ j, w'.cell? ⟨g, j, none⟩ = w.cell? ⟨g, j, none⟩ := fun j => World.cell?_of_block h1
    exact Or.inr ⟨g, o, cur, t, e, hB, h2, h1.trans hb, fun i hi => by simp only [hc]; exact h i hi⟩
theorem LabsOwn.tag {w : World} {B n : Nat} {T : Nat → Nat} {a : Option Addr} {ps : List LabD} (h : LabsOwn w B a ps) (hT : ∀ g o, a = some ⟨g, o, none⟩ → T g = n) : LabsTag w B T n a ps := by
  rcases h with h | ⟨g, o, cur, t, e, hB, hb, h⟩
  · exact Or.inl h
  · exact Or.inr ⟨g, o, cur, t, e, hB, hT g o e, hb, h⟩

/-- The sample i at ⟨b, o⟩ whose labels bear the tag i + 1. -/
def SmpOwn (w : World) (B : Nat) (T : Nat → Nat) (i b o : Nat) (x : SmpD) : Prop :=
  ∃ a c, w.cell? ⟨b, o, none⟩ = some (.slice a x.labs.length c) ∧ w.cell? ⟨b, o + 1, none⟩ = some (.int .i64 x.bits) ∧ LabsTag w B T (i + 1) a x.labs
/-- The samples lie in blocks of their own, from B on, no two of them one, that may be written. -/
def SmpsOwn (w : World) (B : Nat) (a : Option Addr) (xs : List SmpD) : Prop :=
  xs = [] ∨ ∃ g o cur t T, a = some ⟨g, o, none⟩ ∧ B ≤ g ∧ w.heap[g]? = some (.cells cur t (0, 0)) ∧ T g = 0 ∧ ∀ i (h : i < xs.length), SmpOwn w B T i g (o + i * 2) xs[i]
theorem SmpOwn.at {w : World} {B i b o : Nat} {T : Nat → Nat} {x : SmpD} (h : SmpOwn w B T i b o x) : SmpAt w b o x := by
  obtain ⟨a, c, h0, h1, h2⟩ := h
  exact ⟨a, c, h0, h1, h2.labs⟩
theorem SmpsOwn.smps {w : World} {B : Nat} {a : Option Addr} {xs : List SmpD} (h : SmpsOwn w B a xs) : SmpsIn w a xs := by
  rcases h with h | ⟨g, o, cur, t, T, rfl, _, hb, _, h⟩
  · exact Or.inl h
  · exact Or.inr ⟨g, o, rfl, lt_of_block hb, fun i hi => (h i hi).at⟩
theorem SmpOwn.keep {w w' : World} {B i b o : Nat} {T T' : Nat → Nat} {x : SmpD} (h : SmpOwn w B T i b o x) (hc : ∀ j, j < 2 → w'.cell? ⟨b, o + j, none⟩ = w.cell? ⟨b, o + j, none⟩)
    (hk : ∀ g, g < w.heap.size → B ≤ g → T g = i + 1 → w'.heap[g]? = w.heap[g]? ∧ T' g = T g) : SmpOwn w' B T' i b o x := by
  obtain ⟨a, c, h0, h1, h2⟩ := h
  refine ⟨a, c, (hc 0 (by omega)).trans h0, (hc 1 (by omega)).trans h1, h2.keep fun g hg hB hT => ?_⟩
  obtain ⟨q1, q2⟩ := hk g hg hB hT
  exact ⟨q1, q2.trans hT⟩
theorem SmpsOwn.later {w w' : World} {B : Nat} {a : Option Addr} {xs : List SmpD} (h : SmpsOwn w B a xs) (hb : Below w.heap.size w w') : SmpsOwn w' B a xs := by
  rcases h with h | ⟨g, o, cur, t, T, rfl, hB, hg, hT, h⟩
  · exact Or.inl h
  · have hlt := lt_of_block hg
    exact Or.inr ⟨g, o, cur, t, T, rfl, hB, (hb.block g hlt).trans hg, hT, fun i hi => (h i hi).keep (fun j _ => World.cell?_of_block (hb.block g hlt)) fun g' hg' _ _ => ⟨hb.block g' hg', rfl⟩⟩
theorem SmpsOwn.but {g B : Nat} {w w' : World} {a : Option Addr} {xs : List SmpD} (h : SmpsOwn w B a xs) (hb : But g w w') (hg : g < B) : SmpsOwn w' B a xs := by
  rcases h with h | ⟨g', o, cur, t, T, rfl, hB, hg', hT, h⟩
  · exact Or.inl h
  · have hk := hb.block g' (lt_of_block hg') (by omega)
    exact Or.inr ⟨g', o, cur, t, T, rfl, hB, hk.trans hg', hT, fun i hi => (h i hi).keep (fun j _ => World.cell?_of_block hk) fun x hx hBx _ => ⟨hb.block x hx (by omega), rfl⟩⟩
theorem SmpsOwn.mono {B B' : Nat} {w : World} {a : Option Addr} {xs : List SmpD} (h : SmpsOwn w B a xs) (hB' : B' ≤ B) : SmpsOwn w B' a xs := by
  rcases h with h | ⟨g', o, cur, t, T, rfl, hB, hg', hT, h⟩
  · exact Or.inl h
  · refine Or.inr ⟨g', o, cur, t, T, rfl, by omega, hg', hT, fun i hi => ?_⟩
    obtain ⟨a, c, k0, k1, k2⟩ := h i hi
    exact ⟨a, c, k0, k1, k2.base hB'⟩

def smpBulk (x : SmpD) : Nat := x.labs.length + labBulk x.labs
def smpsBulk : List SmpD → Nat
  | [] => 0
  | f :: r => smpBulk f + smpsBulk r
theorem smpsBulk_append (a b : List SmpD) : smpsBulk (a ++ b) = smpsBulk a + smpsBulk b := by
  induction a with
  | nil => simp [smpsBulk]
  | cons f r ih => simp [smpsBulk, ih]; omega
theorem smpsBulk_take_succ (fs : List SmpD) (k : Nat) (h : k < fs.length) : smpsBulk (fs.take (k + 1)) = smpsBulk (fs.take k) + smpBulk fs[k] := by
  rw [List.take_succ_eq_append_getElem h, smpsBulk_append]; simp [smpsBulk]
theorem smpsBulk_take_le (fs : List SmpD) (k : Nat) : smpsBulk (fs.take k) ≤ smpsBulk fs := by
  have := smpsBulk_append (fs.take k) (fs.drop k)
  rw [List.take_append_drop] at this; omega
theorem smpBulk_at (fs : List SmpD) (k : Nat) (h : k < fs.length) : smpBulk fs[k] ≤ smpsBulk fs := by
  have h1 := smpsBulk_take_succ fs k h
  have h2 := smpsBulk_take_le fs (k + 1)
  omega
def szSmps (left : Int) (fs : List SmpD) : Int := if (fs.length + smpsBulk fs : Int) ≤ left then left - fs.length - smpsBulk fs else -1
def ShortSm (fs : List SmpD) : Prop := ∀ i (h : i < fs.length), ShortL fs[i].labs ∧ fs[i].labs.length ≤ maxLen
def reqBulk (r : ReqD) : Nat := r.tenant.size + r.metric.size + r.smps.length + smpsBulk r.smps
def szReq (left : Int) (r : ReqD) : Int := if (reqBulk r : Int) ≤ left then left - reqBulk r else -1
end Go.Proofs.YtpajhkikcofhfaaGreatDoor

namespace Go.Proofs.YtpajhkikcofhfaaGreatDoor
open Go.RowKit

/-- A sample and where its labels lie. -/
structure XV where
  x : SmpD
  a : Option Addr
  c : Nat
def flatX (ys : List XV) : List Value := ys.flatMap fun y => [.slice y.a y.x.labs.length y.c, .int .i64 y.x.bits]
theorem flatX_append (a b : List XV) : flatX (a ++ b) = flatX a ++ flatX b := by simp [flatX]
def PartsX (w : World) (b : Nat) (T : Nat → Nat) (ys : List XV) : Prop := ∀ i (h : i < ys.length), LabsTag w b T (i + 1) ys[i].a ys[i].x.labs
def RowX (w : World) (b : Nat) (e : TypeId) (v : Value) (n : Nat) (xs : List SmpD) : Prop :=
  ∃ T ys, w.ownsRow b e 2 v n (flatX ys) ∧ ys.map (·.x) = xs ∧ (∀ g, v.ownBlock = some g → T g = 0) ∧ PartsX w b T ys
theorem RowX.nil (w : World) (b : Nat) (e : TypeId) : RowX w b e (.slice none 0 0) 0 [] :=
  ⟨fun _ => 0, [], World.ownsRow_nil _ _ _ _, rfl, fun _ _ => rfl, fun i h => absurd h (by simp)⟩
theorem RowX.row {w : World} {b : Nat} {e : TypeId} {v : Value} {n : Nat} {xs : List SmpD} (h : RowX w b e v n xs) : ∃ a c, v = .slice a n c := by
  obtain ⟨_, _, h, _⟩ := h
  rcases h.2 with ⟨rfl, rfl⟩ | ⟨g, cap, cur, rfl, _⟩
  · exact ⟨none, 0, rfl⟩
  · exact ⟨_, _, rfl⟩
theorem RowX.lt {w : World} {b : Nat} {e : TypeId} {v : Value} {n : Nat} {xs : List SmpD} (h : RowX w b e v n xs) : ∀ g, v.ownBlock = some g → b ≤ g ∧ g < w.heap.size := by
  obtain ⟨_, _, h, _⟩ := h
  exact fun g hg => h.lt g hg
theorem RowX.turn {w w' : World} {S : Nat → Prop} {b : Nat} {e : TypeId} {v : Value} {n : Nat} {xs : List SmpD} (h : RowX w b e v n xs) (ht : Turn S w w') (hS : ∀ g, S g → g < b) : RowX w' b e v n xs := by
  obtain ⟨T, ys, h1, h2, h3, h4⟩ := h
  refine ⟨T, ys, ht.row h1 (fun g hg e => by have := (h1.lt g hg).1; have := hS g e; omega), h2, h3, fun i hi => ?_⟩
  exact (h4 i hi).keep fun g hg hb hT => ⟨ht.block g hg (fun e => by have := hS g e; omega), hT⟩
/-- One sample more: its labels lie in a block that was made since. -/
theorem RowX.snoc {wr w4 w6 : World} {b gg cap k : Nat} {e : TypeId} {v : Value} {T : Nat → Nat} {ys : List XV} {xs : List SmpD} {x : SmpD} {a1 : Option Addr} {c1 : Nat}
    (hrow : w6.ownsRow b e 2 (.slice (some ⟨gg, 0, none⟩) (k + 1) cap) (k + 1) (flatX ys ++ [.slice a1 x.labs.length c1, .int .i64 x.bits]))
    (hys : ys.map (·.x) = xs) (hyk : ys.length = k) (hv : ∀ g, v.ownBlock = some g → T g = 0) (hp : PartsX wr b T ys) (hb : b ≤ wr.heap.size)
    (hk0 : ∀ g, g < wr.heap.size → b ≤ g → v.ownBlock ≠ some g → w6.heap[g]? = wr.heap[g]?) (hk4 : ∀ g, wr.heap.size ≤ g → g < w4.heap.size → w6.heap[g]? = w4.heap[g]?)
    (h1 : LabsOwn w4 wr.heap.size a1 x.labs)
    (hgg : (v.ownBlock = some gg ∧ gg < wr.heap.size) ∨ w4.heap.size ≤ gg) (h4r : wr.heap.size ≤ w4.heap.size) : RowX w6 b e (.slice (some ⟨gg, 0, none⟩) (k + 1) cap) (k + 1) (xs ++ [x]) := by
  refine ⟨fun g => if g < wr.heap.size then T g else if g < w4.heap.size then k + 1 else 0, ys ++ [⟨x, a1, c1⟩], ?_, ?_, ?_, ?_⟩
  · rw [flatX_append]; exact hrow
  · rw [List.map_append, hys]; rfl
  · intro g hg
    simp only [Value.ownBlock, Option.some.injEq] at hg
    subst hg
    rcases hgg with ⟨h, hl⟩ | h
    · simp only [if_pos hl]; exact hv _ h
    · simp only [if_neg (show ¬ gg < wr.heap.size by omega), if_neg (show ¬ gg < w4.heap.size by omega)]
  · intro i hi
    by_cases hik : i < ys.length
    · rw [List.getElem_append_left hik]
      exact (hp i hik).keep fun g hg hbg hT => ⟨hk0 g hg hbg (fun e => by have := hv g e; omega), by simp only [if_pos hg]; exact hT⟩
    · have e : i = k := by simp at hi; omega
      subst e
      rw [List.getElem_append_right (by omega)]
      simp only [hyk, Nat.sub_self, List.getElem_cons_zero]
      rcases h1 with h | ⟨g, o, cur, ty, rfl, hBg, hblk, hat⟩
      · exact Or.inl h
      · have hlt := lt_of_block hblk
        have hke := hk4 g (by omega) hlt
        have hc : ∀ j, w6.cell? ⟨g, j, none⟩ = w4.cell? ⟨g, j, none⟩ := fun j => World.cell?_of_block hke
        exact Or.inr ⟨g, o, cur, ty, rfl, by omega, by simp only [if_neg (show ¬ g < wr.heap.size by omega), if_pos hlt], hke.trans hblk, fun i hi => by simp only [hc]; exact hat i hi⟩
/-- A row of samples is samples in blocks of their own. -/
theorem RowX.own {w : World} {b : Nat} {e : TypeId} {a : Option Addr} {n cap : Nat} {xs : List SmpD} (h : RowX w b e (.slice a n cap) n xs) (hn : xs.length = n) : SmpsOwn w b a xs := by
  obtain ⟨T, ys, h1, h2, h3, h4⟩ := h
  have hyl : ys.length = n := by rw [← hn, ← h2, List.length_map]
  rcases h1.2 with ⟨_, hl⟩ | ⟨g, cap', cur, he, hB, hg, _, _, hsz, htk⟩
  · exact Or.inl (List.length_eq_zero_iff.1 (by omega))
  · simp only [Value.slice.injEq] at he
    have hT : T g = 0 := h3 g (by rw [he.1]; rfl)
    have hf : ∀ (l : List XV) i (hi : i < l.length), (flatX l)[i * 2]? = some (.slice l[i].a l[i].x.labs.length l[i].c) ∧ (flatX l)[i * 2 + 1]? = some (.int .i64 l[i].x.bits) := by
      intro l
      unfold flatX
      induction l with
      | nil => intro i hi; exact absurd hi (by simp)
      | cons x r ih =>
        intro i hi
        cases i with
        | zero => simp
        | succ i =>
          have := ih i (by simpa using hi)
          simp only [List.flatMap_cons, List.cons_append, List.nil_append, List.getElem_cons_succ]
          refine ⟨?_, ?_⟩
          · rw [show (i + 1) * 2 = i * 2 + 1 + 1 by omega, List.getElem?_cons_succ, List.getElem?_cons_succ]; exact this.1
          · rw [show (i + 1) * 2 + 1 = i * 2 + 1 + 1 + 1 by omega, List.getElem?_cons_succ, List.getElem?_cons_succ]; exact this.2
    have hc : ∀ j, j < n * 2 → w.cell? ⟨g, j, none⟩ = (flatX ys)[j]? := fun j hj => by
      rw [Blk.cell (show Blk w g cur e from hg) j, ← Array.getElem?_toList, ← htk, List.getElem?_take_of_lt hj]
    refine Or.inr ⟨g, 0, cur, e, T, he.1, hB, hg, hT, fun i hi => ?_⟩
    have hiy : i < ys.length := by omega
    have et : xs[i] = ys[i].x := by simp only [← h2, List.getElem_map]
    obtain ⟨f0, f1⟩ := hf ys i hiy
    rw [et]
    refine ⟨ys[i].a, ys[i].c, ?_, ?_, h4 i hiy⟩
    · rw [Nat.zero_add, hc _ (by omega)]; exact f0
    · rw [Nat.zero_add, hc _ (by omega)]; exact f1
end Go.Proofs.YtpajhkikcofhfaaGreatDoor

