import Derived.Test.YteohobkigjmjlaaDoorProg
import Derived.Test.YteohobkigjmjlaaDoorISort
import Derived.Test.YteohobkigjmjlaaDoorLabF
import Derived.Deep.AppendLies
namespace Go.Proofs.YteohobkigjmjlaaDoor
open Go.RowKit

theorem fault_canon (ls : List LabD) : ((faultR ls).1 = 0 → canonR ls = (insAll [] ls, 0, 0) ∧ NoTw ls ∧ metB ls = true ∧ (faultR ls).2 = 0 ∧ ¬ 16 < ls.length) ∧ ((faultR ls).1 ≠ 0 → canonR ls = ([], (faultR ls).1, (faultR ls).2)) := by
  by_cases h16 : 16 < ls.length
  · rw [fault_many h16, canon_many h16]
    exact ⟨fun h => absurd h (by simp), fun _ => rfl⟩
  cases hb : firstBad ls 0 with
  | some ci =>
    obtain ⟨c, i⟩ := ci
    rw [fault_bad h16 hb, canon_bad h16 hb]
    refine ⟨fun h => ?_, fun _ => rfl⟩
    exfalso
    have : ∀ (l : List LabD) (j : Nat), firstBad l j = some (c, i) → c ≠ 0 := by
      intro l
      induction l with
      | nil => intro j h; simp [firstBad] at h
      | cons x r ih =>
        intro j h
        rw [firstBad] at h
        split at h
        · exact ih _ h
        · rename_i hx
          simp only [Option.some.injEq, Prod.mk.injEq] at h
          rw [← h.1]
          exact hx
    exact this ls 0 hb h
  | none =>
    cases ht : firstTw [] ls 0 with
    | some i =>
      rw [fault_twice h16 hb ht, canon_twice h16 hb ht]
      exact ⟨fun h => absurd h (by simp), fun _ => rfl⟩
    | none =>
      have hn := noTw_of ls ht
      rw [fault_end h16 hb ht, metV_iff ls hn]
      cases hm : metB ls with
      | true =>
        rw [canon_ok h16 hb ht hm]
        exact ⟨fun _ => ⟨rfl, hn, rfl, rfl, h16⟩, fun h => absurd rfl h⟩
      | false =>
        rw [canon_met h16 hb ht hm]
        exact ⟨fun h => absurd h (by simp), fun _ => rfl⟩
theorem kept_some {ls : List LabD} (h : metB ls = true) : 0 < (keptL ls).length := by
  unfold metB at h
  rw [List.any_eq_true] at h
  obtain ⟨x, hx, hc⟩ := h
  rw [Bool.and_eq_true] at hc
  exact List.length_pos_of_mem (List.mem_filter.2 ⟨hx, hc.1⟩)
set_option maxRecDepth 100000 in
set_option maxHeartbeats 2000000 in
theorem implCanon_any (a : Option Addr) (cap : Nat) (ls : List LabD) (w : World) (hf : LabsIn w a ls) (hB : BigL ls) (hlen : ls.length ≤ 2000000) (hcap : ls.length ≤ cap) (hT : UTab w) :
    Calls Tryd.prog 11 #[.slice a ls.length cap] w fun e w' => ∃ a' cap', e = .returned (.tuple #[.slice a' (canonR ls).1.length cap', .int .i64 ((canonR ls).2.1 : Nat), .int .i64 ((canonR ls).2.2 : Nat)]) ∧ (canonR ls).1.length ≤ cap' ∧ LabsOwn w' w.heap.size a' (canonR ls).1 ∧ Below w.heap.size w w' := by
  have HFO : Hid (Calls Tryd.prog 28 #[.slice a ls.length cap] w fun e w' => e = .returned (.tuple #[.int .i64 ((faultR ls).1 : Nat), .int .i64 ((faultR ls).2 : Nat)]) ∧ Below w.heap.size w w') := faultOf_any a cap ls w hf hB hlen hcap hT
  have HF : Hid (LabsIn w a ls) := hf
  obtain ⟨hc0, hc1⟩ := fault_canon ls
  clear hf hB hT
  by_cases h0 : (faultR ls).1 = 0
  · obtain ⟨hcr, hnt, hmet, h2, h16⟩ := hc0 h0
    have HFO2 : Hid (Calls Tryd.prog 28 #[.slice a ls.length cap] w fun e w' => e = .returned (.tuple #[.int .i64 0, .int .i64 0]) ∧ Below w.heap.size w w') := by
      show Calls _ _ _ _ _
      have := HFO.out
      rw [h0, h2] at this
      exact this
    have HCR : Hid (canonR ls = (insAll [] ls, 0, 0) ∧ NoTw ls ∧ 0 < (keptL ls).length) := ⟨hcr, hnt, kept_some hmet⟩
    obtain ⟨ti, hti, hz0, hz1, hz2⟩ := info_lab
    have HI : Hid (Tryd.prog.info? 40 = some ti) := hti
    clear hc0 hc1 h0 hcr hnt hmet h2 HFO hti
    go_enter Tryd.func11, Tryd.ntmps11
    go_wp2_with fail
    refine HFO2.out.mono ?_
    rintro e w1 ⟨rfl, hb1⟩
    have HB1 : Hid (Below w.heap.size w w1) := hb1
    clear hb1 HFO2
    go_wp2
    go_loopw [7, 9, 21] (fun out _ i wr => ∃ (k : Nat) (ys : List LabD) (av : Option Addr) (cv : Nat), k ≤ ls.length ∧ ys.length ≤ k ∧ Hid (ys = keptL (ls.take k)) ∧ i = .int .i64 k ∧ out = .slice av ys.length cv ∧ Hid (wr.ownsRow w.heap.size 40 2 (.slice av ys.length cv) ys.length (flatL ys)) ∧ Below w.heap.size w wr) (fun _ _ i _ => ls.length - (intOf i).toNat)
    case atStart => exact ⟨0, [], none, 0, Nat.zero_le _, Nat.zero_le _, rfl, rfl, rfl, ⟨rfl, Or.inl ⟨rfl, rfl⟩⟩, HB1.out⟩
    case round =>
      obtain ⟨k, ys, av, cv, hk, hy, HY, rfl, rfl, hrow, hbel⟩ := hrel
      by_cases hlt : k < ls.length
      · obtain ⟨b, o, rfl, hb, c0, c1⟩ := (HF.out.later hbel).at hlt
        have HS := keptL_take ls k hlt
        have hE := isEmp_eq ls[k]
        have hnb : ¬ b = wr.heap.size := by omega
        have hsz := hbel.size
        by_cases he : isEmp ls[k] = true
        · have E : Hid (ys = keptL (ls.take (k + 1))) := by show _ = _; rw [HS, if_pos he, List.append_nil]; exact HY.out
          have heb : ls[k].value.toList.isEmpty = true := by rw [← hE]; exact he
          clear HS he hE
          generalize ls[k].name = nm at *
          generalize ls[k].value = va at *
          go_wp2
          exact ⟨⟨k + 1, ys, av, cv, by omega, by omega, E.out, by go_num, rfl, row_later hrow.out (bnew _ _), bto hbel (bnew _ _)⟩, by simp [intOf]; omega⟩
        · have E : Hid (ys ++ [ls[k]] = keptL (ls.take (k + 1))) := by show _ = _; rw [HS, if_neg he, HY.out]
          have heb : ls[k].value.toList.isEmpty = false := by rw [← hE]; simpa using he
          have HLK : Hid (flatL [ls[k]] = [.string ls[k].name, .string ls[k].value]) := rfl
          clear HS he hE
          generalize ls[k] = lk at *
          generalize lk.name = nm at *
          generalize lk.value = va at *
          have HW : Hid (∀ x, Below wr.heap.size wr ((wr.alloc (.cells #[.string nm, .string va] 40)).alloc x)) := fun x => bto (bnew _ _) (bnew _ _)
          go_wp2_with (at_builtin; refine wpList_append_lies _ rfl _ _ _ rfl w.heap.size 40 ti _ 2 32 Tryd.underlying24 HI.out hz0 hz1 hz2 rfl (by omega) (.slice av ys.length cv) ys.length (flatL ys) rfl (by exact row_later hrow.out (HW.out _)) ⟨wr.heap.size + 1, 0, none⟩ 1 1 [.string nm, .string va] rfl rfl (by exact news_twoL _ _ #[.string nm, .string va] _) (by simp [Value.oneCell']) (by omega) (by simp [maxLen]; omega) (by omega) (by simp; omega) (wr.heap.size + 1 + 1) (by simp) ?_; intro g5 cap5 w5 hown5 hgrow5 hat5 hlt5)
          have hB5 : Below w.heap.size w w5 := (bto hbel (HW.out _)).grown hgrow5 (by simp; omega) (fun q hq => row_from hrow.out q hq)
          have hle : (ys ++ [lk]).length = ys.length + 1 := by simp
          have hxs : flatL ys ++ [.string nm, .string va] = flatL (ys ++ [lk]) := by rw [flatL_append, HLK.out]
          rw [hxs, ← hle] at hown5
          exact ⟨⟨k + 1, ys ++ [lk], some ⟨g5, 0, none⟩, cap5, by omega, by rw [hle]; omega, E.out, by go_num, by rw [hle], hown5, hB5⟩, by simp [intOf]; omega⟩
      · have HYE : Hid (ys = keptL ls) := by show _ = _; rw [HY.out, List.take_of_length_le (by omega)]
        have hpos : 0 < ys.length := by rw [HYE.out]; exact HCR.out.2.2
        have hlab : LabsOwn wr w.heap.size av ys := labs_of_row hrow.out
        obtain ⟨g, cur, hav, hgB, hgb, hat, hcv⟩ : ∃ g cur, av = some ⟨g, 0, none⟩ ∧ w.heap.size ≤ g ∧ Blk wr g cur 40 ∧ LabsAt wr g 0 ys ∧ ys.length ≤ cv := by
          rcases hrow.out.2 with ⟨_, hl⟩ | ⟨g, cap', cur, he, hgB, hg, hcc, _⟩
          · omega
          · simp only [Value.slice.injEq] at he
            rcases hlab with h | ⟨g', o', cur', t', e', _, _, hl⟩
            · rw [h] at hpos; exact absurd hpos (by simp)
            · rw [he.1] at e'
              simp only [Option.some.injEq, Addr.mk.injEq, and_true] at e'
              obtain ⟨rfl, rfl⟩ := e'
              exact ⟨g, cur, he.1, hgB, hg, hl, by rw [he.2.2]; exact hcc⟩
        have HSC : Hid (Calls Tryd.prog 29 #[.slice (some ⟨g, 0, none⟩) ys.length cv, .func (.func 30) #[] #[]] wr fun e w' =>
            e = .returned (.tuple #[]) ∧ ∃ ls', ls'.Perm ys ∧ ls'.Pairwise Le ∧ LabsOwn w' w.heap.size (some ⟨g, 0, none⟩) ls' ∧ Below w.heap.size wr w') := haveI := labI; sortCall_any g cv ys wr w.heap.size hgB hgb hat (by omega)
        subst hav
        clear hrow hlab hat hgb
        go_wp2_with fail
        refine HSC.out.mono ?_
        rintro e w2 ⟨rfl, ls', hp, hs, how, hb2⟩
        have E1 : ls' = insAll [] ls := sorted_is HCR.out.2.1 (by rw [← HYE.out]; exact hp) hs
        have EL : Hid (ys.length = (insAll [] ls).length) := by show _ = _; rw [← E1, hp.length_eq]
        have HOW : Hid (LabsOwn w2 w.heap.size (some ⟨g, 0, none⟩) (insAll [] ls)) := by rw [← E1]; exact how
        have HB2 : Hid (Below w.heap.size w w2) := hbel.trans hb2
        clear hp hs how hb2 E1
        go_wp2
        refine bodyPost_ret (v := .tuple #[.slice (some ⟨g, 0, none⟩) ys.length cv, .int .i64 0, .int .i64 0]) (by simp [results, Tryd.results11, go_sem]) rfl ⟨some ⟨g, 0, none⟩, cv, ?_, ?_, ?_, HB2.out⟩
        · rw [HCR.out.1, EL.out]; rfl
        · rw [HCR.out.1, ← EL.out]; exact hcv
        · rw [HCR.out.1]; exact HOW.out
  · have hcr := hc1 h0
    have HCR : Hid (canonR ls = ([], (faultR ls).1, (faultR ls).2)) := hcr
    have h0b : (((faultR ls).1 : Int) != 0) = true := by simp; omega
    clear hc0 hc1 h0 hcr
    generalize (faultR ls).1 = C at *
    generalize (faultR ls).2 = I at *
    go_enter Tryd.func11, Tryd.ntmps11
    go_wp2_with fail
    refine HFO.out.mono ?_
    rintro e w1 ⟨rfl, hb1⟩
    have HB1 : Hid (Below w.heap.size w w1) := hb1
    clear hb1 HFO
    go_wp2
    refine bodyPost_ret (v := .tuple #[.slice none 0 0, .int .i64 C, .int .i64 I]) (by simp [results, Tryd.results11, go_sem]) rfl ⟨none, 0, ?_, ?_, ?_, HB1.out⟩
    · rw [HCR.out]; rfl
    · rw [HCR.out]; exact Nat.le_refl _
    · rw [HCR.out]; exact Or.inl rfl
end Go.Proofs.YteohobkigjmjlaaDoor
