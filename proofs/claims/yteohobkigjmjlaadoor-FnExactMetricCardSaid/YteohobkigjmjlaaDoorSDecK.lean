import Derived.Test.YteohobkigjmjlaaDoorProg
import Derived.Test.YteohobkigjmjlaaDoorSDec
import Derived.Test.YteohobkigjmjlaaDoorDecL
import Derived.Test.YteohobkigjmjlaaDoorSKey
namespace Go.Proofs.YteohobkigjmjlaaDoor
open Go.RowKit

def lenOf : Value → Nat
  | .slice _ n _ => n
  | _ => 0
/-- What has been read of the key, if it is the key of ls. -/
def ReadOf (key : ByteArray) (acc : List LabD) (at_ : Int) : Prop := ∀ ls, canB ls = true → keyB ls = key → acc.length ≤ ls.length ∧ acc = ls.take acc.length ∧ at_ = ((1 + (tailB acc).size : Nat) : Int)

theorem tail_list (l : LabD) (r : List LabD) : (tailB (l :: r)).data.toList = (numS 1 (l.name.size : Nat)).data.toList ++ (l.name.data.toList ++ ((numS 2 (l.value.size : Nat)).data.toList ++ (l.value.data.toList ++ (tailB r).data.toList))) := by
  simp [tailB, s8B, s16B]
theorem key_split (ls : List LabD) (k : Nat) (h : k < ls.length) : (keyB ls).data.toList = ((numS 1 (ls.length : Nat)).data.toList ++ (tailB (ls.take k)).data.toList) ++ (tailB (ls[k] :: ls.drop (k + 1))).data.toList := by
  have e : tailB ls = tailB (ls.take k) ++ tailB (ls[k] :: ls.drop (k + 1)) := by
    rw [← tailB_append, ← List.drop_eq_getElem_cons h, List.take_append_drop]
  rw [keyB, e]
  simp
theorem pre_len (ls : List LabD) (k : Nat) : ((numS 1 (ls.length : Nat)).data.toList ++ (tailB (ls.take k)).data.toList).length = 1 + (tailB (ls.take k)).size := by
  rw [List.length_append, ← bsize, ← bsize, numS_size]
theorem part_name {ls : List LabD} (hc : canB ls = true) (k : Nat) (h : k < ls.length) : partN (keyB ls) (1 + (tailB (ls.take k)).size) 1 = some (ls[k].name, 1 + (tailB (ls.take k)).size + 1 + ls[k].name.size) := by
  have hs := can_small hc k h
  refine part_at (post := (numS 2 (ls[k].value.size : Nat)).data.toList ++ (ls[k].value.data.toList ++ (tailB (ls.drop (k + 1))).data.toList)) ?_ (pre_len ls k) (by omega)
  rw [key_split ls k h, tail_list]
theorem part_value {ls : List LabD} (hc : canB ls = true) (k : Nat) (h : k < ls.length) : partN (keyB ls) (1 + (tailB (ls.take k)).size + 1 + ls[k].name.size) 2 = some (ls[k].value, 1 + (tailB (ls.take k)).size + 1 + ls[k].name.size + 2 + ls[k].value.size) := by
  have hs := can_small hc k h
  refine part_at (pre := ((numS 1 (ls.length : Nat)).data.toList ++ (tailB (ls.take k)).data.toList) ++ ((numS 1 (ls[k].name.size : Nat)).data.toList ++ ls[k].name.data.toList)) (post := (tailB (ls.drop (k + 1))).data.toList) ?_ ?_ (by omega)
  · rw [key_split ls k h, tail_list]
    simp only [List.append_assoc]
  · rw [List.length_append, pre_len, List.length_append, ← bsize, ← bsize, numS_size]
    omega
theorem tail_size (ls : List LabD) (k : Nat) (h : k < ls.length) : (tailB (ls.take (k + 1))).size = (tailB (ls.take k)).size + 1 + ls[k].name.size + 2 + ls[k].value.size := by
  rw [tailB_take ls k h, ByteArray.size_append, ByteArray.size_append, s8B_size, s16B_size]
  omega
theorem tail_mono (ls : List LabD) (k : Nat) : (tailB (ls.take k)).size ≤ (tailB ls).size := by
  have e : tailB ls = tailB (ls.take k) ++ tailB (ls.drop k) := by rw [← tailB_append, List.take_append_drop]
  rw [e, ByteArray.size_append]
  omega
theorem key_size (ls : List LabD) : (keyB ls).size = 1 + (tailB ls).size := by rw [keyB, ByteArray.size_append, numS_size]

theorem readOf_start (key : ByteArray) : ReadOf key [] 1 := fun ls _ _ => ⟨Nat.zero_le _, by simp, rfl⟩
/-- If it is a key, there is a label to be read. -/
theorem readOf_more {key : ByteArray} {acc : List LabD} {p : Nat} (h : ReadOf key acc (p : Nat)) (hp : p < key.size) : ∀ ls, canB ls = true → keyB ls = key → ∃ hk : acc.length < ls.length, partN key p 1 = some (ls[acc.length].name, p + 1 + ls[acc.length].name.size) ∧ partN key (p + 1 + ls[acc.length].name.size) 2 = some (ls[acc.length].value, p + 1 + ls[acc.length].name.size + 2 + ls[acc.length].value.size) := by
  intro ls hc hk
  obtain ⟨h1, h2, h3⟩ := h ls hc hk
  have hpe : p = 1 + (tailB acc).size := by omega
  have hlt : acc.length < ls.length := by
    rcases Nat.lt_or_ge acc.length ls.length with hlt | hge
    · exact hlt
    · exfalso
      have e : acc = ls := by rw [h2]; exact List.take_of_length_le (by omega)
      have := key_size ls
      rw [hk] at this
      rw [e] at hpe
      omega
  refine ⟨hlt, ?_, ?_⟩
  · have := part_name hc acc.length hlt
    rw [← h2, hk, ← hpe] at this
    exact this
  · have := part_value hc acc.length hlt
    rw [← h2, hk, ← hpe] at this
    exact this
theorem readOf_some {key : ByteArray} {acc : List LabD} {p : Nat} (h : ReadOf key acc (p : Nat)) (hp : p < key.size) {nm va : ByteArray} {q q2 : Nat} (e1 : partN key p 1 = some (nm, q)) (e2 : partN key q 2 = some (va, q2)) : ReadOf key (acc ++ [⟨nm, va⟩]) (q2 : Nat) := by
  intro ls hc hk
  obtain ⟨hlt, g1, g2⟩ := readOf_more h hp ls hc hk
  obtain ⟨h1, h2, h3⟩ := h ls hc hk
  rw [e1] at g1
  simp only [Option.some.injEq, Prod.mk.injEq] at g1
  obtain ⟨rfl, rfl⟩ := g1
  rw [e2] at g2
  simp only [Option.some.injEq, Prod.mk.injEq] at g2
  obtain ⟨rfl, rfl⟩ := g2
  have hl : (acc ++ [(⟨ls[acc.length].name, ls[acc.length].value⟩ : LabD)]).length = acc.length + 1 := by simp
  have ht : acc ++ [(⟨ls[acc.length].name, ls[acc.length].value⟩ : LabD)] = ls.take (acc.length + 1) := by
    rw [List.take_succ_eq_append_getElem hlt, ← h2]
  refine ⟨by rw [hl]; omega, by rw [hl]; exact ht, ?_⟩
  rw [ht, tail_size ls acc.length hlt, ← h2]
  have hpe : p = 1 + (tailB acc).size := by omega
  congr 1
  omega
theorem readOf_none {key : ByteArray} {acc : List LabD} {p : Nat} (h : ReadOf key acc (p : Nat)) (hp : p < key.size) (hn : partN key p 1 = none ∨ ∃ nm q, partN key p 1 = some (nm, q) ∧ partN key q 2 = none) (acc' : List LabD) (a' : Int) : ReadOf key acc' a' := by
  intro ls hc hk
  exfalso
  obtain ⟨hlt, g1, g2⟩ := readOf_more h hp ls hc hk
  rcases hn with hn | ⟨nm, q, hn1, hn2⟩
  · rw [hn] at g1; exact absurd g1 (by simp)
  · rw [hn1] at g1
    simp only [Option.some.injEq, Prod.mk.injEq] at g1
    obtain ⟨rfl, rfl⟩ := g1
    rw [hn2] at g2
    exact absurd g2 (by simp)
/-- What has been read where the reading ends. -/
theorem readOf_end {key : ByteArray} {acc : List LabD} {a : Int} (h : ReadOf key acc a) (he : a ≤ 0 ∨ (key.size : Int) ≤ a ∨ 16 < acc.length) :
    (decV key = (acc, true) ∧ keyV acc = key ∧ 0 < key.size) ∨ (decV key = ([], false) ∧ (key.size = 0 ∨ keyV acc ≠ key)) := by
  cases hd : (decV key).2 with
  | true =>
    obtain ⟨hc, hk⟩ := dec_key hd
    obtain ⟨h1, h2, h3⟩ := h _ hc hk
    have h16 := can_le hc
    have hkz := key_size (decV key).1
    rw [hk] at hkz
    have e : acc = (decV key).1 := by
      rcases Nat.lt_or_ge acc.length (decV key).1.length with hlt | hge
      · exfalso
        have ht := tail_size (decV key).1 acc.length hlt
        have hm := tail_mono (decV key).1 (acc.length + 1)
        rw [← h2] at ht
        omega
      · rw [h2]; exact List.take_of_length_le (by omega)
    left
    refine ⟨?_, ?_, by omega⟩
    · rw [e]
      cases hdk : decV key with
      | mk x y => rw [hdk] at hd; simp only at hd ⊢; rw [hd]
    · rw [e, keyV, if_pos hc, hk]
  | false =>
    obtain ⟨h1, h2⟩ := dec_not hd
    right
    refine ⟨h1, ?_⟩
    by_cases hz : key.size = 0
    · exact Or.inl hz
    · right
      intro hk
      unfold keyV at hk
      split at hk
      · rename_i hc; exact h2 acc hc hk
      · rw [← hk] at hz; exact hz rfl

theorem big_snoc {acc : List LabD} (h : BigS acc) {l : LabD} (hl : l.name.size ≤ 1000000000 ∧ l.value.size ≤ 1000000000) : BigS (acc ++ [l]) := fun i hi => by
  by_cases e : i < acc.length
  · rw [List.getElem_append_left e]; exact h i e
  · rw [List.getElem_append_right (by omega)]
    simpa using hl

set_option maxRecDepth 100000 in
set_option maxHeartbeats 2000000 in
theorem specDec_any (key : ByteArray) (w : World) (hs : key.size ≤ 1000000000) :
    Calls Tryd.prog 17 #[.string key] w fun e w' => ∃ a cap, e = .returned (.tuple #[.slice a (decV key).1.length cap, .bool (decV key).2]) ∧ LabsOwn w' w.heap.size a (decV key).1 ∧ Below w.heap.size w w' := by
  obtain ⟨ti, hti, ht0, ht1, ht2⟩ := info_lab
  have HI : Hid (Tryd.prog.info? 40 = some ti) := hti
  clear hti
  go_enter Tryd.func17, Tryd.ntmps17
  go_wp2
  go_loopw [4, 5, 6, 7, 8, 9] (fun out at_ _ _ _ _ wr => ∃ (acc : List LabD) (p : Int) (g cv : Nat), at_ = .int .i64 p ∧ out = .slice (some ⟨g, 0, none⟩) acc.length cv ∧ -1 ≤ p ∧ p ≤ 1000000000 ∧ acc.length ≤ 17 ∧ Hid (BigS acc ∧ ReadOf key acc p) ∧ Hid (wr.ownsRow w.heap.size 40 2 (.slice (some ⟨g, 0, none⟩) acc.length cv) acc.length (flatL acc)) ∧ Below w.heap.size w wr) (fun out _ _ _ _ _ _ => 18 - lenOf out)
  case atStart =>
    exact ⟨[], 1, _, _, rfl, rfl, by omega, by omega, by simp, ⟨fun i h => absurd h (by simp), readOf_start key⟩, World.ownsRow_made w #[] 0 (Nat.le_refl _) (by simp [maxLen]) (by simp), bnew _ _⟩
  case round =>
    obtain ⟨acc, pI, g, cv, rfl, rfl, hp1, hp2, hal, HR, HROW, hbel⟩ := hrel
    have hsz := hbel.size
    by_cases hgo : 0 < pI ∧ pI < (key.size : Int) ∧ acc.length ≤ 16
    · obtain ⟨hg1, hg2, hg3⟩ := hgo
      obtain ⟨p, rfl⟩ : ∃ p : Nat, pI = (p : Int) := ⟨pI.toNat, by omega⟩
      have hpk : p < key.size := by omega
      have hacc : ((acc.length : Nat) : Int) ≤ 16 := by omega
      cases hn1 : partN key p 1 with
      | none =>
        have HP1 : Hid (∀ W, Calls Tryd.prog 40 #[.string key, .int .i64 (p : Nat), .int .i64 1] W fun e w' => e = .returned (.tuple #[.string ByteArray.empty, .int .i64 (-1)]) ∧ w' = W) := fun W => specPart_none key p 1 W hs (by omega) (by omega) hn1
        have HP2 : Hid (∀ W, Calls Tryd.prog 40 #[.string key, .int .i64 (-1), .int .i64 2] W fun e w' => e = .returned (.tuple #[.string ByteArray.empty, .int .i64 (-1)]) ∧ w' = W) := fun W => specPart_neg key 2 W
        have HRO : Hid (ReadOf key (acc ++ [⟨ByteArray.empty, ByteArray.empty⟩]) (-1)) := readOf_none HR.out.2 hpk (Or.inl hn1) _ _
        clear hn1
        generalize hEm : ByteArray.empty = em at *
        have HEM : Hid (em.size = 0) := by show _ = _; rw [← hEm]; rfl
        clear hEm
        go_wp2_with fail
        refine (HP1.out _).mono ?_
        rintro e w1 ⟨rfl, hw⟩
        replace hw := hw.symm
        subst hw
        go_wp2_with fail
        refine (HP2.out _).mono ?_
        rintro e w1 ⟨rfl, hw⟩
        replace hw := hw.symm
        subst hw
        go_wp2_with (at_builtin; refine wpList_append_lies _ rfl _ _ _ rfl w.heap.size 40 ti _ 2 32 Tryd.underlying24 HI.out ht0 ht1 ht2 rfl (by omega) (.slice (some ⟨g, 0, none⟩) acc.length cv) acc.length (flatL acc) rfl (by exact row_later HROW.out (bnew _ _)) ⟨wr.heap.size, 0, none⟩ 1 1 [.string em, .string em] rfl rfl (by exact World.news_of_block (cs := #[.string em, .string em]) (heap_alloc_new _ _)) (by simp [Value.oneCell']) (by omega) (by simp [maxLen]; omega) (by omega) (by simp; omega) (wr.heap.size + 1) (by simp) ?_; intro g5 cap5 w5 hown5 hgrow5 hat5 hlt5)
        have hB5 : Below w.heap.size w w5 := (bto hbel (bnew _ _)).grown hgrow5 (by simp; omega) (fun q hq => row_from HROW.out q hq)
        have hle : (acc ++ [(⟨em, em⟩ : LabD)]).length = acc.length + 1 := by simp
        have hxs : flatL acc ++ [.string em, .string em] = flatL (acc ++ [⟨em, em⟩]) := by rw [flatL_append]; rfl
        rw [hxs, ← hle] at hown5
        refine ⟨⟨acc ++ [(⟨em, em⟩ : LabD)], -1, g5, cap5, rfl, by rw [hle], by omega, by omega, by omega, ⟨big_snoc HR.out.1 ⟨by rw [HEM.out]; omega, by rw [HEM.out]; omega⟩, HRO.out⟩, hown5, hB5⟩, by simp only [lenOf]; omega⟩
      | some tq =>
        obtain ⟨nm, q⟩ := tq
        obtain ⟨hq1, hq2, hq3⟩ := part_le hn1
        have HP1 : Hid (∀ W, Calls Tryd.prog 40 #[.string key, .int .i64 (p : Nat), .int .i64 1] W fun e w' => e = .returned (.tuple #[.string nm, .int .i64 (q : Nat)]) ∧ w' = W) := fun W => specPart_some key p 1 nm q W hs (by omega) hn1
        cases hn2 : partN key q 2 with
        | none =>
          have HP2 : Hid (∀ W, Calls Tryd.prog 40 #[.string key, .int .i64 (q : Nat), .int .i64 2] W fun e w' => e = .returned (.tuple #[.string ByteArray.empty, .int .i64 (-1)]) ∧ w' = W) := fun W => specPart_none key q 2 W hs (by omega) (by omega) hn2
          have HRO : Hid (ReadOf key (acc ++ [⟨nm, ByteArray.empty⟩]) (-1)) := readOf_none HR.out.2 hpk (Or.inr ⟨nm, q, hn1, hn2⟩) _ _
          clear hn1 hn2
          generalize hEm : ByteArray.empty = em at *
          have HEM : Hid (em.size = 0) := by show _ = _; rw [← hEm]; rfl
          clear hEm
          go_wp2_with fail
          refine (HP1.out _).mono ?_
          rintro e w1 ⟨rfl, hw⟩
          replace hw := hw.symm
          subst hw
          go_wp2_with fail
          refine (HP2.out _).mono ?_
          rintro e w1 ⟨rfl, hw⟩
          replace hw := hw.symm
          subst hw
          go_wp2_with (at_builtin; refine wpList_append_lies _ rfl _ _ _ rfl w.heap.size 40 ti _ 2 32 Tryd.underlying24 HI.out ht0 ht1 ht2 rfl (by omega) (.slice (some ⟨g, 0, none⟩) acc.length cv) acc.length (flatL acc) rfl (by exact row_later HROW.out (bnew _ _)) ⟨wr.heap.size, 0, none⟩ 1 1 [.string nm, .string em] rfl rfl (by exact World.news_of_block (cs := #[.string nm, .string em]) (heap_alloc_new _ _)) (by simp [Value.oneCell']) (by omega) (by simp [maxLen]; omega) (by omega) (by simp; omega) (wr.heap.size + 1) (by simp) ?_; intro g5 cap5 w5 hown5 hgrow5 hat5 hlt5)
          have hB5 : Below w.heap.size w w5 := (bto hbel (bnew _ _)).grown hgrow5 (by simp; omega) (fun q hq => row_from HROW.out q hq)
          have hle : (acc ++ [(⟨nm, em⟩ : LabD)]).length = acc.length + 1 := by simp
          have hxs : flatL acc ++ [.string nm, .string em] = flatL (acc ++ [⟨nm, em⟩]) := by rw [flatL_append]; rfl
          rw [hxs, ← hle] at hown5
          refine ⟨⟨acc ++ [(⟨nm, em⟩ : LabD)], -1, g5, cap5, rfl, by rw [hle], by omega, by omega, by omega, ⟨big_snoc HR.out.1 ⟨by simp only; omega, by simp only; rw [HEM.out]; omega⟩, HRO.out⟩, hown5, hB5⟩, by simp only [lenOf]; omega⟩
        | some tq2 =>
          obtain ⟨va, q2⟩ := tq2
          obtain ⟨hr1, hr2, hr3⟩ := part_le hn2
          have HP2 : Hid (∀ W, Calls Tryd.prog 40 #[.string key, .int .i64 (q : Nat), .int .i64 2] W fun e w' => e = .returned (.tuple #[.string va, .int .i64 (q2 : Nat)]) ∧ w' = W) := fun W => specPart_some key q 2 va q2 W hs (by omega) hn2
          have HRO : Hid (ReadOf key (acc ++ [⟨nm, va⟩]) (q2 : Nat)) := readOf_some HR.out.2 hpk hn1 hn2
          clear hn1 hn2
          go_wp2_with fail
          refine (HP1.out _).mono ?_
          rintro e w1 ⟨rfl, hw⟩
          replace hw := hw.symm
          subst hw
          go_wp2_with fail
          refine (HP2.out _).mono ?_
          rintro e w1 ⟨rfl, hw⟩
          replace hw := hw.symm
          subst hw
          go_wp2_with (at_builtin; refine wpList_append_lies _ rfl _ _ _ rfl w.heap.size 40 ti _ 2 32 Tryd.underlying24 HI.out ht0 ht1 ht2 rfl (by omega) (.slice (some ⟨g, 0, none⟩) acc.length cv) acc.length (flatL acc) rfl (by exact row_later HROW.out (bnew _ _)) ⟨wr.heap.size, 0, none⟩ 1 1 [.string nm, .string va] rfl rfl (by exact World.news_of_block (cs := #[.string nm, .string va]) (heap_alloc_new _ _)) (by simp [Value.oneCell']) (by omega) (by simp [maxLen]; omega) (by omega) (by simp; omega) (wr.heap.size + 1) (by simp) ?_; intro g5 cap5 w5 hown5 hgrow5 hat5 hlt5)
          have hB5 : Below w.heap.size w w5 := (bto hbel (bnew _ _)).grown hgrow5 (by simp; omega) (fun q hq => row_from HROW.out q hq)
          have hle : (acc ++ [(⟨nm, va⟩ : LabD)]).length = acc.length + 1 := by simp
          have hxs : flatL acc ++ [.string nm, .string va] = flatL (acc ++ [⟨nm, va⟩]) := by rw [flatL_append]; rfl
          rw [hxs, ← hle] at hown5
          refine ⟨⟨acc ++ [(⟨nm, va⟩ : LabD)], (q2 : Nat), g5, cap5, rfl, by rw [hle], by omega, by omega, by omega, ⟨big_snoc HR.out.1 ⟨by simp only; omega, by simp only; omega⟩, HRO.out⟩, hown5, hB5⟩, by simp only [lenOf]; omega⟩
    · have hex := readOf_end HR.out.2 (by omega)
      obtain ⟨hcv, _, _, _⟩ := row_cells HROW.out
      have HL : Hid (LabsOwn wr w.heap.size (some ⟨g, 0, none⟩) acc) := labs_of_row HROW.out
      have HK : Hid (Calls Tryd.prog 15 #[.slice (some ⟨g, 0, none⟩) acc.length cv] wr fun e w' => e = .returned (.string (keyV acc)) ∧ Below wr.heap.size wr w') := specKey_any _ cv acc wr HL.out.labs HR.out.1 (by omega) hcv
      have HE0 : Hid (key.toList.isEmpty = decide (key.size = 0)) := by
        show _ = _
        rw [ByteArray.toList_eq, bsize]
        cases key.data.toList <;> simp
      have hEx : (decV key = (acc, true) ∧ key.toList.isEmpty = false ∧ ((keyV acc).toList == key.toList) = true) ∨ (decV key = ([], false) ∧ key.toList.isEmpty = true) ∨ (decV key = ([], false) ∧ key.toList.isEmpty = false ∧ ((keyV acc).toList == key.toList) = false) := by
        rcases hex with ⟨h1, h2, h3⟩ | ⟨h1, h2⟩
        · left
          refine ⟨h1, ?_, ?_⟩
          · rw [HE0.out]; exact decide_eq_false (by omega)
          · rw [h2]; simp
        · by_cases hz : key.size = 0
          · right; left
            exact ⟨h1, by rw [HE0.out]; exact decide_eq_true hz⟩
          · right; right
            refine ⟨h1, by rw [HE0.out]; exact decide_eq_false hz, ?_⟩
            rw [← Bool.not_eq_true]
            intro hb
            rcases h2 with h2 | h2
            · exact hz h2
            · exact h2 (toList_inj (by simpa using hb))
      have hgd : pI ≤ 0 ∨ (0 < pI ∧ (key.size : Int) ≤ pI) ∨ (0 < pI ∧ pI < (key.size : Int) ∧ (16 : Int) < (acc.length : Nat)) := by omega
      clear hex HROW hgo HE0
      generalize keyV acc = KV at *
      rcases hEx with ⟨h1, h2, h3⟩ | ⟨h1, h2⟩ | ⟨h1, h2, h3⟩
      · have E : Hid (decV key = (acc, true)) := h1
        clear h1
        rcases hgd with hg | ⟨hg, hg'⟩ | ⟨hg, hg', hg''⟩
        all_goals
          go_wp2_with fail
          refine HK.out.mono ?_
          rintro e w2 ⟨rfl, hb2⟩
          have H2 : Hid (LabsOwn w2 w.heap.size (some ⟨g, 0, none⟩) acc ∧ Below w.heap.size w w2) := ⟨HL.out.later hb2, bto hbel hb2⟩
          clear hb2
          go_wp2
          refine bodyPost_ret (v := .tuple #[.slice (some ⟨g, 0, none⟩) acc.length cv, .bool true]) (by simp [results, Tryd.results17, go_sem]) rfl ⟨some ⟨g, 0, none⟩, cv, ?_, ?_, H2.out.2⟩
          · rw [E.out]
          · rw [E.out]; exact H2.out.1
      · have E : Hid (decV key = ([], false)) := h1
        clear h1
        rcases hgd with hg | ⟨hg, hg'⟩ | ⟨hg, hg', hg''⟩
        all_goals
          go_wp2
          refine bodyPost_ret (v := .tuple #[.slice (some ⟨wr.heap.size, 0, none⟩) 0 0, .bool false]) (by simp [results, Tryd.results17, go_sem]) rfl ?_
          first
            | exact ⟨some ⟨wr.heap.size, 0, none⟩, 0, by rw [E.out]; rfl, by rw [E.out]; exact Or.inl rfl, bto hbel (bnew _ _)⟩
            | exact ⟨some ⟨wr.heap.size, 0, none⟩, ⟨0, by rw [E.out]; rfl⟩, by rw [E.out]; exact Or.inl rfl, bto hbel (bnew _ _)⟩
            | exact ⟨⟨some ⟨wr.heap.size, 0, none⟩, ⟨0, by rw [E.out]; rfl⟩, by rw [E.out]; exact Or.inl rfl⟩, bto hbel (bnew _ _)⟩
            | exact ⟨⟨some ⟨wr.heap.size, 0, none⟩, 0, by rw [E.out]; rfl, by rw [E.out]; exact Or.inl rfl⟩, bto hbel (bnew _ _)⟩
      · have E : Hid (decV key = ([], false)) := h1
        clear h1
        rcases hgd with hg | ⟨hg, hg'⟩ | ⟨hg, hg', hg''⟩
        all_goals
          go_wp2_with fail
          refine HK.out.mono ?_
          rintro e w2 ⟨rfl, hb2⟩
          have H2 : Hid (Below w.heap.size w w2) := bto hbel hb2
          clear hb2
          go_wp2
          refine bodyPost_ret (v := .tuple #[.slice (some ⟨w2.heap.size, 0, none⟩) 0 0, .bool false]) (by simp [results, Tryd.results17, go_sem]) rfl ⟨some ⟨w2.heap.size, 0, none⟩, 0, ?_, ?_, bto H2.out (bnew _ _)⟩
          · rw [E.out]; rfl
          · rw [E.out]; exact Or.inl rfl
end Go.Proofs.YteohobkigjmjlaaDoor
