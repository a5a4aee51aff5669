import Derived.Test.YteohobkigjmjlaaDoorProg
import Derived.Test.YteohobkigjmjlaaDoorJ15IKey
import Derived.Test.YteohobkigjmjlaaDoorJ05IRd
import Derived.Test.YteohobkigjmjlaaDoorJ12IName
namespace Go.Proofs.YteohobkigjmjlaaDoor
open Go.RowKit

def partsL (ls : List LabD) : List ByteArray := ls.flatMap fun l => [s8B l.name, s16B l.value]
theorem partsL_take (ls : List LabD) (k : Nat) (h : k < ls.length) : partsL (ls.take (k + 1)) = partsL (ls.take k) ++ [s8B ls[k].name, s16B ls[k].value] := by
  unfold partsL
  rw [List.take_succ_eq_append_getElem h, List.flatMap_append]
  rfl
theorem cat_parts : ∀ (ls : List LabD), catB (partsL ls) = tailB ls
  | [] => rfl
  | l :: r => by
    have e : partsL (l :: r) = [s8B l.name, s16B l.value] ++ partsL r := rfl
    rw [e, catB_append, cat_parts r, tailB]
    simp [catB]

set_option maxRecDepth 100000 in
set_option maxHeartbeats 2000000 in
theorem keyOf_any (a : Option Addr) (cap : Nat) (ls : List LabD) (w : World) (hf : LabsIn w a ls) (hB : BigL ls) (hlen : ls.length ≤ 16) :
    Calls Tryd.prog 39 #[.slice a ls.length cap] w fun e w' => e = .returned (.string (keyB ls)) ∧ Below w.heap.size w w' := by
  have HF : Hid (LabsIn w a ls) := hf
  have HB : Hid (BigL ls) := hB
  have HU : Hid (∀ W, Calls Tryd.prog 55 #[.int .i64 (ls.length : Nat)] W fun e w' => e = .returned (.string (numS 1 (ls.length : Nat))) ∧ Below W.heap.size W w') := fun W => implU8_any ls.length W
  have hz1 := numS_size 1 (ls.length : Nat)
  have HKB : Hid (keyB ls = numS 1 (ls.length : Nat) ++ tailB ls) := rfl
  generalize numS 1 (ls.length : Nat) = NB at *
  obtain ⟨ti, hti, ht0, ht1, ht2⟩ := info_strR
  have HI : Hid (Tryd.prog.info? 9 = some ti) := hti
  clear hf hB hti
  go_enter Tryd.func39, Tryd.ntmps39
  go_wp2_with fail
  refine (HU.out _).mono ?_
  rintro e w1 ⟨rfl, hb1⟩
  have B1 : Hid (Below w.heap.size w w1) := hb1
  have hs1 : w.heap.size ≤ w1.heap.size := hb1.size
  clear hb1
  go_wp2
  go_loopw [3, 5, 12] (fun out _ i wr => ∃ (k : Nat) (ps : List ByteArray) (g cv : Nat), k ≤ ls.length ∧ i = .int .i64 k ∧ out = .slice (some ⟨g, 0, none⟩) ps.length cv ∧ ps.length ≤ 1 + 2 * k ∧ sumB ps ≤ 1 + k * 3000000000 ∧ Hid (ps = NB :: partsL (ls.take k)) ∧ Hid (wr.ownsRow w.heap.size 9 1 (.slice (some ⟨g, 0, none⟩) ps.length cv) ps.length (ps.map Value.string)) ∧ Below w.heap.size w wr) (fun _ _ i _ => ls.length - (intOf i).toNat)
  case atStart =>
    exact ⟨0, [NB], _, _, Nat.zero_le _, rfl, rfl, by simp, by simp [sumB]; omega, rfl, ⟨rfl, Or.inr ⟨w1.heap.size, 1, _, rfl, hs1, heap_alloc_new _ _, Nat.le_refl _, by simp [maxLen], rfl, rfl⟩⟩, bto B1.out (bnew _ _)⟩
  case round =>
    obtain ⟨k, ps, g, cv, hk, rfl, rfl, hpl, hps, HPS, HROW, hbel⟩ := hrel
    by_cases hlt : k < ls.length
    · obtain ⟨b, o, rfl, hb, c0, c1⟩ := (HF.out.later hbel).at hlt
      obtain ⟨hn1, hn2⟩ := HB.out k hlt
      have HS8 : Hid (∀ W, Calls Tryd.prog 56 #[.string ls[k].name] W fun e w' => e = .returned (.string (s8B ls[k].name)) ∧ Below W.heap.size W w') := fun W => implS8_any ls[k].name W hn1
      have HS16 : Hid (∀ W, Calls Tryd.prog 57 #[.string ls[k].value] W fun e w' => e = .returned (.string (s16B ls[k].value)) ∧ Below W.heap.size W w') := fun W => implS16_any ls[k].value W hn2
      have hz8 := s8B_size ls[k].name
      have hz16 := s16B_size ls[k].value
      have HT := partsL_take ls k hlt
      have E2 : Hid (ps ++ [s8B ls[k].name, s16B ls[k].value] = NB :: partsL (ls.take (k + 1))) := by show _ = _; rw [HT, HPS.out]; rfl
      clear HT
      generalize s8B ls[k].name = S8 at *
      generalize s16B ls[k].value = S16 at *
      generalize ls[k].name = nm at *
      generalize ls[k].value = va at *
      have hnb : ¬ b = wr.heap.size := by omega
      have hsz := hbel.size
      have HBX : Hid (Blk (wr.alloc (.cells #[.string nm, .string va] 40)) wr.heap.size #[.string nm, .string va] 40 ∧ Below wr.heap.size wr (wr.alloc (.cells #[.string nm, .string va] 40))) := ⟨heap_alloc_new _ _, bnew _ _⟩
      have HR2 : Hid ((wr.alloc (.cells #[.string nm, .string va] 40)).ownsRow w.heap.size 9 1 (.slice (some ⟨g, 0, none⟩) ps.length cv) ps.length (ps.map Value.string) ∧ Below w.heap.size w (wr.alloc (.cells #[.string nm, .string va] 40))) := ⟨row_later HROW.out (bnew _ _), bto hbel (bnew _ _)⟩
      go_wp2_with fail
      generalize wr.alloc (.cells #[.string nm, .string va] 40) = W at *
      have x0 := HBX.out.1.cell 0
      have x1 := HBX.out.1.cell 1
      simp only [List.getElem?_toArray, List.getElem?_cons_zero, List.getElem?_cons_succ] at x0 x1
      have hBX : wr.heap.size < W.heap.size := lt_of_block HBX.out.1
      have hww : w.heap.size ≤ W.heap.size := HR2.out.2.size
      have hgB : g < wr.heap.size := (strs_cells HROW.out).2.1
      clear HROW HBX hnb hb c0 c1 hbel hsz
      generalize wr.heap.size = BX at *
      clear wr
      go_region_held3 (fun w' => w'.cell? ⟨BX, 0, none⟩ = some (.string nm) ∧ w'.cell? ⟨BX, 1, none⟩ = some (.string va))
        (first
          | go_keep
          | exact ⟨hk50.trans x0, hk51.trans x1⟩
          | exact ⟨((hc2.alloc hc2.size _).cell hBX).trans x0, ((hc2.alloc hc2.size _).cell hBX).trans x1⟩
          | exact ⟨(hc2.cell hBX).trans x0, (hc2.cell hBX).trans x1⟩
          | exact ⟨(hc1.cell hBX).trans x0, (hc1.cell hBX).trans x1⟩)
        ((first
          | (go_at_call 56; refine (HS8.out _).mono ?_; rintro e w1 ⟨rfl, hb1⟩; have hc1 : Below W.heap.size W w1 := (Below.refl _ W).drew.trans hb1)
          | (go_at_call 57; refine (HS16.out _).mono ?_; rintro e w2 ⟨rfl, hb2⟩; have hc2 : Below W.heap.size W w2 := hc1.trans (hb2.mono hc1.size))
          | (refine step_append_any _ (by rfl) _ _ _ (by rfl) w.heap.size 9 ti _ 1 16 Tryd.underlying76 HI.out ht0 ht1 ht2 rfl (by omega) g ps.length cv _ (by rfl) (by exact row_later (row_later HR2.out.1 hc2) (bnew _ _)) _ 2 2 [.string S8, .string S16] (by rfl) rfl (by exact Or.inr ⟨_, rfl, World.news_of_block (cs := #[.string S8, .string S16]) (heap_alloc_new _ _)⟩) (by simp [Value.oneCell']) (by simp [maxLen]; omega) (by omega) (by have := hc2.size; simp; omega) ?_; intro g5 cap5 w5 hown5 hB5 hk5 hg5 hat5 hlt5; have hk50 : w5.cell? ⟨BX, 0, none⟩ = W.cell? ⟨BX, 0, none⟩ := (World.cell?_of_block (hk5 BX (by have := hc2.size; simp; omega) (by omega))).trans ((hc2.alloc hc2.size _).cell hBX); have hk51 : w5.cell? ⟨BX, 1, none⟩ = W.cell? ⟨BX, 1, none⟩ := (World.cell?_of_block (hk5 BX (by have := hc2.size; simp; omega) (by omega))).trans ((hc2.alloc hc2.size _).cell hBX); have hB5' : Below w.heap.size w w5 := ((bto HR2.out.2 hc2).alloc (Nat.le_trans hww hc2.size) _).trans hB5)))
      have hxs : ps.map Value.string ++ [Value.string S8, .string S16] = (ps ++ [S8, S16]).map Value.string := by simp
      have hle : (ps ++ [S8, S16]).length = ps.length + 2 := by simp
      have hsm : sumB (ps ++ [S8, S16]) = sumB ps + (S8.size + S16.size) := by rw [sumB_append]; simp [sumB]
      rw [hxs, ← hle] at hown5
      rw [← hle]
      have HO5 : Hid (w5.ownsRow w.heap.size 9 1 (.slice (some ⟨g5, 0, none⟩) (ps ++ [S8, S16]).length cap5) (ps ++ [S8, S16]).length ((ps ++ [S8, S16]).map Value.string) ∧ Below w.heap.size w w5) := ⟨hown5, hB5'⟩
      clear hown5 hB5 hB5' hk5 hat5 hk50 hk51 hxs
      generalize ps ++ [S8, S16] = ps5 at *
      go_wp2
      exact ⟨⟨k + 1, ps5, g5, cap5, by omega, by go_num, rfl, by omega, by omega, E2.out, HO5.out.1, HO5.out.2⟩, by simp [intOf]; omega⟩
    · have E2 : Hid (catB ps = keyB ls) := by
        show _ = _
        rw [HPS.out, List.take_of_length_le (by omega), catB, cat_parts, HKB.out]
      obtain ⟨hcv, hg, hcs⟩ := strs_cells HROW.out
      have HJ : Hid (Calls Tryd.prog 58 #[.slice (some ⟨g, 0, none⟩) ps.length cv] wr fun e w' => e = .returned (.string (catB ps)) ∧ Below wr.heap.size wr w') := joined_any g ps.length cv ps wr rfl hcs hg hcv (by omega) (by omega)
      rw [E2.out] at HJ
      clear HROW hcs
      go_wp2_with fail
      refine HJ.out.mono ?_
      rintro e w2 ⟨rfl, hb2⟩
      have B2 : Hid (Below w.heap.size w w2) := bto hbel hb2
      clear hb2
      go_wp2
      go_ret
      exact ⟨rfl, B2.out⟩

set_option maxRecDepth 100000 in
set_option maxHeartbeats 1000000 in
theorem implKey_any (a : Option Addr) (cap : Nat) (ls : List LabD) (w : World) (hf : LabsIn w a ls) (hB : BigL ls) (hlen : ls.length ≤ 2000000) (hcap : ls.length ≤ cap) (hT : UTab w) :
    Calls Tryd.prog 16 #[.slice a ls.length cap] w fun e w' => e = .returned (.string (keyV ls)) ∧ Below w.heap.size w w' := by
  have HC : Hid (Calls Tryd.prog 38 #[.slice a ls.length cap] w fun e w' => e = .returned (.bool (canB ls)) ∧ Below w.heap.size w w') := isCan_any a cap ls w hf hB hlen hcap hT
  by_cases hc : canB ls = true
  · have HK : Hid (∀ W, Below w.heap.size w W → Calls Tryd.prog 39 #[.slice a ls.length cap] W fun e w' => e = .returned (.string (keyB ls)) ∧ Below W.heap.size W w') := fun W h => keyOf_any a cap ls W (hf.later h) hB (can_le hc)
    have E : Hid (keyV ls = keyB ls) := by show _ = _; rw [keyV, if_pos hc]
    rw [E.out]
    rw [hc] at HC
    clear hf hB hT hc E
    generalize keyB ls = K at *
    go_enter Tryd.func16, Tryd.ntmps16
    go_wp2_with fail
    refine HC.out.mono ?_
    rintro e w1 ⟨rfl, hb1⟩
    have B1 : Hid (Below w.heap.size w w1) := hb1
    clear hb1 HC
    go_wp2_with fail
    refine (HK.out _ B1.out).mono ?_
    rintro e w2 ⟨rfl, hb2⟩
    have B2 : Hid (Below w.heap.size w w2) := bto B1.out hb2
    clear hb2
    go_wp2
    go_ret
    exact ⟨rfl, B2.out⟩
  · have hc' : canB ls = false := by simpa using hc
    have E : Hid (keyV ls = ByteArray.empty) := by show _ = _; rw [keyV, if_neg hc]
    rw [E.out]
    rw [hc'] at HC
    clear hf hB hT hc hc' E
    go_enter Tryd.func16, Tryd.ntmps16
    go_wp2_with fail
    refine HC.out.mono ?_
    rintro e w1 ⟨rfl, hb1⟩
    have B1 : Hid (Below w.heap.size w w1) := hb1
    clear hb1 HC
    go_wp2
    go_ret
    exact ⟨rfl, B1.out⟩
end Go.Proofs.YteohobkigjmjlaaDoor

namespace Go.Proofs.YteohobkigjmjlaaDoor
open Go.RowKit

theorem cnt_le (key : ByteArray) : cntR key ≤ 255 := by
  have := num_lt 1 ⟨key, false⟩
  unfold cntR
  omega

set_option maxRecDepth 100000 in
set_option maxHeartbeats 2000000 in
theorem labels_any (B : Nat) (key : ByteArray) (w : World) (hB : RB w B ⟨key, false⟩) (hs : key.size ≤ 1000000000) :
    Calls Tryd.prog 41 #[.pointer (some ⟨B, 0, none⟩)] w fun e w' => ∃ g cap, e = .returned (.slice (some ⟨g, 0, none⟩) (rdAll key).1.length cap) ∧ w'.ownsRow w.heap.size 40 2 (.slice (some ⟨g, 0, none⟩) (rdAll key).1.length cap) (rdAll key).1.length (flatL (rdAll key).1) ∧ RB w' B (rdAll key).2 ∧ But B w w' := by
  have HC : Hid (Calls Tryd.prog 60 #[.pointer (some ⟨B, 0, none⟩), .int .i64 1] w fun e w' => e = .returned (.int .i64 (cntR key : Nat)) ∧ RB w' B (numR 1 ⟨key, false⟩).2 ∧ But B w w') := number_any B ⟨key, false⟩ 1 w hB (by omega) hs
  have hBlt : B < w.heap.size := lt_of_block hB
  have hz : (numR 1 ⟨key, false⟩).2.rest.size ≤ 1000000000 := by
    have h2 := (take_le 1 ⟨key, false⟩).2.2
    have h3 : (numR 1 ⟨key, false⟩).2.rest.size ≤ key.size := h2
    omega
  have hcl := cnt_le key
  have HRA : Hid (rdAll key = rdK (numR 1 ⟨key, false⟩).2 (cntR key)) := by show _ = _; rw [rdAll]
  rw [HRA.out]
  clear HRA hB
  generalize (numR 1 ⟨key, false⟩).2 = r0 at *
  generalize cntR key = n at *
  obtain ⟨ti, hti, ht0, ht1, ht2⟩ := info_lab
  have HI : Hid (Tryd.prog.info? 40 = some ti) := hti
  have hmk : ∀ W : World, (Instr.makeSlice 24 (.int .i64 0) (.int .i64 (n : Nat))).run Tryd.prog W = .ok (.slice (some ⟨W.heap.size, 0, none⟩) 0 n) (W.alloc (.cells (madeCells #[.string ByteArray.empty, .string ByteArray.empty] (n * 2)) 40)) := fun W => by
    have hr := run_make (P := Tryd.prog) W 24 40 ti _ Tryd.underlying24 hti ht0 .i64 .i64 0 (n : Nat) (by omega) (by omega) (by rw [ht2]; omega) (by omega)
    simp only [Int.toNat_natCast, ht1] at hr
    exact hr
  clear hti
  go_enter Tryd.func41, Tryd.ntmps41
  go_wp2_with fail
  refine HC.out.mono ?_
  rintro e w1 ⟨rfl, hr1, hb1⟩
  have H1 : Hid (RB w1 B r0 ∧ But B w w1) := ⟨hr1, hb1⟩
  have hz1 := hb1.size
  clear hr1 hb1 HC
  go_wp2
  clear hmk
  go_loopw [4, 5, 11] (fun out _ i wr => ∃ (k : Nat) (ys : List LabD) (g cv : Nat), k ≤ n ∧ i = .int .i64 k ∧ ys.length ≤ k ∧ k ≤ ys.length ∧ out = .slice (some ⟨g, 0, none⟩) ys.length cv ∧ Hid (ys = (rdK r0 k).1) ∧ Hid (RB wr B (rdK r0 k).2) ∧ Hid (wr.ownsRow w.heap.size 40 2 (.slice (some ⟨g, 0, none⟩) ys.length cv) ys.length (flatL ys)) ∧ Hid (But B w wr)) (fun _ _ i _ => n - (intOf i).toNat)
  case atStart =>
    refine ⟨0, [], _, _, Nat.zero_le _, rfl, Nat.zero_le _, Nat.zero_le _, rfl, rfl, Blk.later H1.out.1 (bnew _ _), ⟨rfl, Or.inr ⟨w1.heap.size, n, _, rfl, hz1, heap_alloc_new _ _, Nat.zero_le _, by simp [maxLen]; omega, size_madeCells _ _, rfl⟩⟩, H1.out.2.alloc _⟩
  case round =>
    obtain ⟨k, ys, g, cv, hk, rfl, hyl, hyl2, rfl, HY, HRB, HROW, HBU⟩ := hrel
    by_cases hlt : k < n
    · have hrest : (rdK r0 k).2.rest.size ≤ 1000000000 := by have := (rd_big r0 k).1; omega
      have hrest2 : (textR 1 (rdK r0 k).2).2.rest.size ≤ 1000000000 := by have := (text_le 1 (rdK r0 k).2).2; omega
      have HT1 : Hid (∀ W, RB W B (rdK r0 k).2 → Calls Tryd.prog 61 #[.pointer (some ⟨B, 0, none⟩), .int .i64 1] W fun e w' => e = .returned (.string (textR 1 (rdK r0 k).2).1) ∧ RB w' B (textR 1 (rdK r0 k).2).2 ∧ But B W w') := fun W h => text_any B _ 1 W h (by omega) hrest
      have HT2 : Hid (∀ W, RB W B (textR 1 (rdK r0 k).2).2 → Calls Tryd.prog 61 #[.pointer (some ⟨B, 0, none⟩), .int .i64 2] W fun e w' => e = .returned (.string (textR 2 (textR 1 (rdK r0 k).2).2).1) ∧ RB w' B (textR 2 (textR 1 (rdK r0 k).2).2).2 ∧ But B W w') := fun W h => text_any B _ 2 W h (by omega) hrest2
      have HST : Hid (rdK r0 (k + 1) = (ys ++ [⟨(textR 1 (rdK r0 k).2).1, (textR 2 (textR 1 (rdK r0 k).2).2).1⟩], (textR 2 (textR 1 (rdK r0 k).2).2).2)) := by show _ = _; rw [rdK_succ, labR_eq, HY.out]
      clear hrest hrest2
      generalize textR 2 (textR 1 (rdK r0 k).2).2 = t2 at *
      generalize textR 1 (rdK r0 k).2 = t1 at *
      generalize t1.1 = nm at *
      generalize t2.1 = va at *
      go_wp2_with fail
      refine (HT1.out _ HRB.out).mono ?_
      rintro e w2 ⟨rfl, hr2, hb2⟩
      have H2 : Hid (RB w2 B t1.2 ∧ But B w w2 ∧ w2.ownsRow w.heap.size 40 2 (.slice (some ⟨g, 0, none⟩) ys.length cv) ys.length (flatL ys)) := ⟨hr2, HBU.out.trans hb2, row_but0 HROW.out hb2 hBlt⟩
      clear hr2 hb2 HT1 HRB HROW HBU
      go_wp2_with fail
      refine (HT2.out _ H2.out.1).mono ?_
      rintro e w3 ⟨rfl, hr3, hb3⟩
      have H3 : Hid (RB w3 B t2.2 ∧ But B w w3 ∧ w3.ownsRow w.heap.size 40 2 (.slice (some ⟨g, 0, none⟩) ys.length cv) ys.length (flatL ys)) := ⟨hr3, H2.out.2.1.trans hb3, row_but0 H2.out.2.2 hb3 hBlt⟩
      have hz3 : w.heap.size ≤ w3.heap.size := H3.out.2.1.size
      clear hr3 hb3 HT2 H2
      go_wp2_with (at_builtin; refine wpList_append_lies _ rfl _ _ _ rfl w.heap.size 40 ti _ 2 32 Tryd.underlying24 HI.out ht0 ht1 ht2 rfl (by omega) (.slice (some ⟨g, 0, none⟩) ys.length cv) ys.length (flatL ys) rfl (by exact row_later H3.out.2.2 (bnew _ _)) ⟨w3.heap.size, 0, none⟩ 1 1 [.string nm, .string va] rfl rfl (by exact World.news_of_block (cs := #[.string nm, .string va]) (heap_alloc_new _ _)) (by simp [Value.oneCell']) (by omega) (by simp [maxLen]; omega) (by omega) (by simp; omega) (w3.heap.size + 1) (by simp) ?_; intro g5 cap5 w5 hown5 hgrow5 hat5 hlt5)
      have hkeep : w5.heap[B]? = w3.heap[B]? := (hgrow5.block B (by simp; omega) (fun e => by have := row_from H3.out.2.2 B e.symm; omega)).trans ((bnew w3 _).block B (by omega))
      have hbut : But B w w5 := by
        have hB3 := H3.out.2.1
        refine ⟨hgrow5.os.trans hB3.os, hgrow5.tape.trans hB3.tape, hgrow5.output.trans hB3.output, ?_, fun q hq hne => ?_⟩
        · have := hgrow5.size; simp at this; omega
        · exact (hgrow5.block q (by simp; omega) (fun e => by have := row_from H3.out.2.2 q e.symm; omega)).trans (((bnew w3 _).block q (by omega)).trans (hB3.block q hq hne))
      have hle : (ys ++ [(⟨nm, va⟩ : LabD)]).length = ys.length + 1 := by simp
      have hxs : flatL ys ++ [.string nm, .string va] = flatL (ys ++ [⟨nm, va⟩]) := by rw [flatL_append]; rfl
      rw [hxs, ← hle] at hown5
      refine ⟨⟨k + 1, ys ++ [(⟨nm, va⟩ : LabD)], g5, cap5, by omega, by go_num, by omega, by omega, by rw [hle], by show _ = _; rw [HST.out], ?_, hown5, hbut⟩, by simp [intOf]; omega⟩
      show RB w5 B (rdK r0 (k + 1)).2
      rw [HST.out]
      exact hkeep.trans H3.out.1
    · have e : k = n := by omega
      subst e
      have hY := HY.out
      clear HY
      subst hY
      go_wp2
      go_ret
      exact ⟨g, cv, rfl, HROW.out, HRB.out, HBU.out⟩

set_option maxRecDepth 100000 in
set_option maxHeartbeats 1000000 in
theorem implDec_any (key : ByteArray) (w : World) (hs : key.size ≤ 1000000000) (hT : UTab w) :
    Calls Tryd.prog 18 #[.string key] w fun e w' => ∃ a cap, e = .returned (.tuple #[.slice a (decV key).1.length cap, .bool (decV key).2]) ∧ LabsOwn w' w.heap.size a (decV key).1 ∧ Below w.heap.size w w' := by
  have HL : Hid (∀ W B, RB W B ⟨key, false⟩ → Calls Tryd.prog 41 #[.pointer (some ⟨B, 0, none⟩)] W fun e w' => ∃ g cap, e = .returned (.slice (some ⟨g, 0, none⟩) (rdAll key).1.length cap) ∧ w'.ownsRow W.heap.size 40 2 (.slice (some ⟨g, 0, none⟩) (rdAll key).1.length cap) (rdAll key).1.length (flatL (rdAll key).1) ∧ RB w' B (rdAll key).2 ∧ But B W w') := fun W B h => labels_any B key W h hs
  have hbig : BigL (rdAll key).1 := fun i hi => by
    have := rdAll_big key i hi
    exact ⟨by omega, by omega⟩
  have hlen : (rdAll key).1.length ≤ 255 := by
    have h : (rdAll key).1.length = cntR key := by rw [rdAll]; exact rdK_length _ _
    have := cnt_le key
    omega
  have HW : Hid (∀ W B, RB W B (rdAll key).2 → Calls Tryd.prog 42 #[.pointer (some ⟨B, 0, none⟩)] W fun e w' => e = .returned (.bool (wholeB (rdAll key).2)) ∧ w' = W) := fun W B h => whole_any B _ W h
  have HC : Hid (∀ W a c, LabsIn W a (rdAll key).1 → UTab W → (rdAll key).1.length ≤ c → Calls Tryd.prog 38 #[.slice a (rdAll key).1.length c] W fun e w' => e = .returned (.bool (canB (rdAll key).1)) ∧ Below W.heap.size W w') := fun W a c h hU hc => isCan_any a c _ W h hbig (by omega) hc hU
  have HT : Hid (UTab w) := hT
  have HBX : Hid (RB (w.alloc (.cells #[.string key, .bool false] 59)) w.heap.size ⟨key, false⟩ ∧ Below w.heap.size w (w.alloc (.cells #[.string key, .bool false] 59))) := ⟨heap_alloc_new _ _, bnew _ _⟩
  have hbx : w.heap.size < (w.alloc (.cells #[.string key, .bool false] 59)).heap.size := by simp
  have HDV : Hid (decV key = if (wholeB (rdAll key).2 && canB (rdAll key).1) = true then ((rdAll key).1, true) else ([], false)) := by show _ = _; rw [decV]
  clear hT hbig
  generalize wholeB (rdAll key).2 = wb at *
  generalize canB (rdAll key).1 = cb at *
  generalize (rdAll key).1 = L at *
  generalize (rdAll key).2 = rr at *
  cases wb with
  | true =>
    cases cb with
    | true =>
      have E : Hid (decV key = (L, true)) := HDV.out
      rw [E.out]
      go_enter Tryd.func18, Tryd.ntmps18
      go_wp2_with fail
      refine (HL.out _ _ HBX.out.1).mono ?_
      rintro e w1 ⟨g, cap, rfl, ho1, hr1, hb1⟩
      obtain ⟨hcap, _, _, _⟩ := row_cells ho1
      have H1 : Hid (RB w1 w.heap.size rr ∧ LabsOwn w1 w.heap.size (some ⟨g, 0, none⟩) L ∧ Below w.heap.size w w1) := ⟨hr1, (labs_of_row ho1).mono (by omega), HBX.out.2.trans (hb1.below (Nat.le_refl _) (by omega))⟩
      clear ho1 hr1 hb1 HBX hbx
      go_wp2_with fail
      refine (HW.out _ _ H1.out.1).mono ?_
      rintro e w2 ⟨rfl, hw⟩
      replace hw := hw.symm
      subst hw
      go_wp2_with fail
      refine (HC.out _ _ _ H1.out.2.1.labs (HT.out.later H1.out.2.2) hcap).mono ?_
      rintro e w3 ⟨rfl, hb3⟩
      have H3 : Hid (LabsOwn w3 w.heap.size (some ⟨g, 0, none⟩) L ∧ Below w.heap.size w w3) := ⟨H1.out.2.1.later hb3, bto H1.out.2.2 hb3⟩
      clear hb3
      go_wp2
      refine bodyPost_ret (v := .tuple #[.slice (some ⟨g, 0, none⟩) L.length cap, .bool true]) (by simp [results, Tryd.results18, go_sem]) rfl ⟨_, _, rfl, H3.out⟩
    | false =>
      have E : Hid (decV key = ([], false)) := HDV.out
      rw [E.out]
      go_enter Tryd.func18, Tryd.ntmps18
      go_wp2_with fail
      refine (HL.out _ _ HBX.out.1).mono ?_
      rintro e w1 ⟨g, cap, rfl, ho1, hr1, hb1⟩
      obtain ⟨hcap, _, _, _⟩ := row_cells ho1
      have H1 : Hid (RB w1 w.heap.size rr ∧ LabsOwn w1 w.heap.size (some ⟨g, 0, none⟩) L ∧ Below w.heap.size w w1) := ⟨hr1, (labs_of_row ho1).mono (by omega), HBX.out.2.trans (hb1.below (Nat.le_refl _) (by omega))⟩
      clear ho1 hr1 hb1 HBX hbx
      go_wp2_with fail
      refine (HW.out _ _ H1.out.1).mono ?_
      rintro e w2 ⟨rfl, hw⟩
      replace hw := hw.symm
      subst hw
      go_wp2_with fail
      refine (HC.out _ _ _ H1.out.2.1.labs (HT.out.later H1.out.2.2) hcap).mono ?_
      rintro e w3 ⟨rfl, hb3⟩
      have H3 : Hid (Below w.heap.size w w3) := bto H1.out.2.2 hb3
      clear hb3
      go_wp2
      refine bodyPost_ret (v := .tuple #[.slice none 0 0, .bool false]) (by simp [results, Tryd.results18, go_sem]) rfl ⟨_, _, rfl, Or.inl rfl, H3.out⟩
  | false =>
    have E : Hid (decV key = ([], false)) := HDV.out
    rw [E.out]
    go_enter Tryd.func18, Tryd.ntmps18
    go_wp2_with fail
    refine (HL.out _ _ HBX.out.1).mono ?_
    rintro e w1 ⟨g, cap, rfl, ho1, hr1, hb1⟩
    have H1 : Hid (RB w1 w.heap.size rr ∧ Below w.heap.size w w1) := ⟨hr1, HBX.out.2.trans (hb1.below (Nat.le_refl _) (by omega))⟩
    clear ho1 hr1 hb1 HBX hbx
    go_wp2_with fail
    refine (HW.out _ _ H1.out.1).mono ?_
    rintro e w2 ⟨rfl, hw⟩
    replace hw := hw.symm
    subst hw
    go_wp2
    refine bodyPost_ret (v := .tuple #[.slice none 0 0, .bool false]) (by simp [results, Tryd.results18, go_sem]) rfl ⟨_, _, rfl, Or.inl rfl, H1.out.2⟩
end Go.Proofs.YteohobkigjmjlaaDoor

namespace Go.Proofs.YteohobkigjmjlaaDoor
open Go.RowKit

theorem key_size0 (ls : List LabD) : (keyB ls).size = 1 + (tailB ls).size := by rw [keyB, ByteArray.size_append, numS_size]
theorem sizL_big {ls : List LabD} (h : SizL ls) : BigL ls := fun i hi => by
  have := h ls[i] (List.getElem_mem hi)
  exact ⟨by omega, by omega⟩
theorem sizL_perm {ls ls' : List LabD} (hp : ls'.Perm ls) (h : SizL ls) : SizL ls' := fun l hl => h l (hp.mem_iff.1 hl)
theorem sizL_form {ls : List LabD} (h : SizL ls) (h0 : (canonR ls).2.1 = 0) : SizL (canonR ls).1 := fun l hl => by
  obtain ⟨h1, h2, h3, h4⟩ := canon_nil h0
  rw [canon_fine h1 h2 h3 h4] at hl
  have hp : (insAll [] ls).Perm (keptL ls) := (insAll_perm ls []).trans (by rw [List.nil_append])
  exact h l (List.mem_filter.1 (hp.mem_iff.1 hl)).1

theorem tail_bound : ∀ {ls : List LabD}, SizL ls → (tailB ls).size ≤ ls.length * 2003
  | [], _ => by simp [tailB]
  | l :: r, h => by
    have h1 := h l (by simp)
    have h2 := tail_bound (ls := r) (fun x hx => h x (by simp [hx]))
    rw [tailB, ByteArray.size_append, ByteArray.size_append, s8B_size, s16B_size, List.length_cons]
    omega
set_option maxRecDepth 100000 in
set_option maxHeartbeats 2000000 in
theorem lawFnKey (a b : Option Addr) (n cn m cm : Nat) (w : World) (hA : U8In w w.heap.size w.heap.size a n) (hB : U8In w w.heap.size w.heap.size b m) (hn : n ≤ maxLen) (hm : m ≤ maxLen) (hT : UTab w) :
    Calls Tryd.prog 7 #[.slice a n cn, .slice b m cm] w fun e w' => e = .returned (.bool true) ∧ Below w.heap.size w w' := by
  unfold maxLen at hn hm
  have HA : Hid (U8In w w.heap.size w.heap.size a n) := hA
  have HBB : Hid (U8In w w.heap.size w.heap.size b m) := hB
  have HT : Hid (UTab w) := hT
  clear hA hB hT
  obtain ⟨ti, hti, ht0, ht1, ht2⟩ := info_lab
  have HI : Hid (Tryd.prog.info? 40 = some ti) := hti
  clear hti
  by_cases hbn : (1048576 : Int) < n
  · go_enter Tryd.func7, Tryd.ntmps7
    go_wp2
    go_ret
    exact ⟨rfl, Below.refl _ _⟩
  by_cases hbm : (1048576 : Int) < m
  · go_enter Tryd.func7, Tryd.ntmps7
    go_wp2
    go_ret
    exact ⟨rfl, Below.refl _ _⟩
  go_enter Tryd.func7, Tryd.ntmps7
  go_wp2_with fail
  refine (drawCanon_any a n cn w (by omega) HA.out).mono ?_
  rintro e w1 ⟨g1, c1, ls, rfl, hc1, hl1, hs1, ho1, hb1⟩
  have B1 : Hid (Below w.heap.size w w1) := hb1
  have O1 : Hid (LabsIn w1 (some ⟨g1, 0, none⟩) ls) := ho1.labs
  have HSZ : Hid (SizL ls) := hs1
  clear hs1 ho1 hb1
  go_wp2_with fail
  refine (specCanon_cap _ c1 ls w1 O1.out (sizL_big HSZ.out) (by omega) hc1).mono ?_
  rintro e w2 ⟨a2, k2, rfl, hk2, ho2, hb2⟩
  have B2 : Hid (Below w.heap.size w w2) := bto B1.out hb2
  have O2 : Hid (LabsIn w2 (some ⟨g1, 0, none⟩) ls) := O1.out.later hb2
  have R2 : Hid (LabsIn w2 a2 (canonR ls).1) := ho2.labs
  clear ho2 hb2 B1 O1
  go_wp2_with fail
  refine (implCanon_any _ c1 ls w2 O2.out (sizL_big HSZ.out) (by omega) hc1 (HT.out.later B2.out)).mono ?_
  rintro e w3 ⟨a3, k3, rfl, hk3, ho3, hb3⟩
  have B3 : Hid (Below w.heap.size w w3) := bto B2.out hb3
  have O3 : Hid (LabsIn w3 (some ⟨g1, 0, none⟩) ls) := O2.out.later hb3
  have R3 : Hid (LabsIn w3 a2 (canonR ls).1) := R2.out.later hb3
  have F3 : Hid (LabsIn w3 a3 (canonR ls).1) := ho3.labs
  clear ho3 hb3 B2 O2 R2
  have hC := canon_len0 ls
  have HSAME : Hid (sameLs (canonR ls).1 (canonR ls).1 = true) := (sameLs_iff _ _).2 rfl
  by_cases h0 : (canonR ls).2.1 = 0
  · have HF : Hid (canonR (canonR ls).1 = ((canonR ls).1, 0, 0) ∧ keyV (canonR ls).1 = keyB (canonR ls).1 ∧ decV (keyB (canonR ls).1) = ((canonR ls).1, true) ∧ canB (canonR ls).1 = true ∧ SizL (canonR ls).1) := ⟨canon_idem h0, (form_key h0).1, (form_key h0).2, form_can h0, sizL_form HSZ.out h0⟩
    have HP : Hid (∀ ls', ls'.Perm ls → canonR ls' = ((canonR ls).1, 0, (canonR ls).2.2)) := fun ls' hp => by
      rw [canon_perm hp h0]
      rw [← h0]
    have HZ : Hid (canonR ls = ((canonR ls).1, 0, (canonR ls).2.2)) := by
      show _ = _
      rw [← h0]
    have hl16 := canon_some16 h0
    have hl0 : 1 ≤ ls.length := by
      obtain ⟨_, _, _, h4⟩ := canon_nil h0
      rcases Nat.eq_zero_or_pos ls.length with hz | hp
      · rw [List.length_eq_zero_iff] at hz
        rw [hz] at h4
        exact absurd h4 (by simp [metB])
      · exact hp
    rw [h0]
    clear h0 HZ
    generalize (canonR ls).1 = C at *
    generalize (canonR ls).2.2 = ci at *
    go_wp2_with fail
    refine (hLabels_any _ _ _ _ C C w3 F3.out R3.out (by omega)).mono ?_
    rintro e w4 ⟨rfl, hb4⟩
    have B4 : Hid (Below w.heap.size w w4) := bto B3.out hb4
    have O4 : Hid (LabsIn w4 (some ⟨g1, 0, none⟩) ls) := O3.out.later hb4
    have R4 : Hid (LabsIn w4 a2 C) := R3.out.later hb4
    have F4 : Hid (LabsIn w4 a3 C) := F3.out.later hb4
    clear hb4 B3 O3 R3 F3
    rw [HSAME.out]
    go_wp2_with fail
    refine (hPick_any w.heap.size w.heap.size b m cm ls.length _ (HBB.out.below (bto B4.out (bnew _ _))) (by omega) hl0 (by omega)).mono ?_
    rintro e w5 ⟨fr, hfr, rfl, hw5⟩
    replace hw5 := hw5.symm
    subst hw5
    have hz4 : w.heap.size ≤ w4.heap.size := B4.out.size
    have HTP : Hid ((ls.drop fr ++ ls.take fr).Perm ls) := turn_perm ls fr
    have HTG : Hid (∀ k (hk : k < ls.length), ∃ q, ∃ hq : q < ls.length, ((k : Int) + (fr : Int)) % ((ls.length : Nat) : Int) = ((q : Nat) : Int) ∧ ∃ hT : k < (ls.drop fr ++ ls.take fr).length, (ls.drop fr ++ ls.take fr)[k] = ls[q]) := fun k hk => ⟨(k + fr) % ls.length, Nat.mod_lt _ (by omega), by push_cast; rfl, by rw [HTP.out.length_eq]; exact hk, turn_get ls fr k hfr hk⟩
    generalize ls.drop fr ++ ls.take fr = T at *
    go_wp2
    go_loopw [12, 14, 71] (fun out _ i wr => ∃ (k g cv : Nat), k ≤ ls.length ∧ i = .int .i64 (k : Nat) ∧ out = .slice (some ⟨g, 0, none⟩) k cv ∧ Hid (wr.ownsRow w4.heap.size 40 2 (.slice (some ⟨g, 0, none⟩) k cv) k (flatL (T.take k))) ∧ Below w4.heap.size w4 wr) (fun _ _ i _ => ls.length - (intOf i).toNat)
    case atStart =>
      exact ⟨0, w4.heap.size, 0, by omega, rfl, rfl, World.ownsRow_made w4 #[] 0 (Nat.le_refl _) (by simp [maxLen]) (by simp), bnew _ _⟩
    case round =>
      obtain ⟨k, g, cv, hk, rfl, rfl, HROW, hbel⟩ := hrel
      have hszr := hbel.size
      by_cases hlt : k < ls.length
      · obtain ⟨q, hq, hqe, hTk, hTe⟩ := HTG.out k hlt
        obtain ⟨b', o', he, hb', x0, x1⟩ := (O4.out.later hbel).at hq
        simp only [Option.some.injEq, Addr.mk.injEq, and_true] at he
        obtain ⟨rfl, rfl⟩ := he
        rw [Nat.zero_add] at x0 x1
        have HTE : Hid (T.take (k + 1) = T.take k ++ [⟨ls[q].name, ls[q].value⟩]) := by
          show _ = _
          rw [List.take_succ_eq_append_getElem hTk, hTe]
        clear hTe hTk
        generalize ls[q].name = nm at *
        generalize ls[q].value = va at *
        have hlt' : (k : Int) < (ls.length : Nat) := by omega
        have hq' : (q : Int) < (ls.length : Nat) := by omega
        have hln : ¬ (((ls.length : Nat) : Int) = 0) := by omega
        go_wp2_with (at_builtin; refine wpList_append_lies _ rfl _ _ _ rfl w4.heap.size 40 ti _ 2 32 Tryd.underlying24 HI.out ht0 ht1 ht2 rfl (by omega) (.slice (some ⟨g, 0, none⟩) k cv) k (flatL (T.take k)) rfl (by exact row_later HROW.out (bnew _ _)) ⟨wr.heap.size, 0, none⟩ 1 1 [.string nm, .string va] rfl rfl (by exact World.news_of_block (cs := #[.string nm, .string va]) (heap_alloc_new _ _)) (by simp [Value.oneCell']) (by omega) (by simp [maxLen]; omega) (by omega) (by simp; omega) (wr.heap.size + 1) (by simp) ?_; intro g6 cap6 w6 hown6 hgrow6 hat6 hlt6)
        have hB6 : Below w4.heap.size w4 w6 := (bto hbel (bnew _ _)).grown hgrow6 (by simp; omega) (fun q hq => row_from HROW.out q hq)
        have hxs : flatL (T.take k) ++ [.string nm, .string va] = flatL (T.take (k + 1)) := by rw [HTE.out, flatL_append]; rfl
        rw [hxs] at hown6
        exact ⟨⟨k + 1, g6, cap6, by omega, by go_num, rfl, hown6, hB6⟩, by simp [intOf]; omega⟩
      · have hke : k = ls.length := by omega
        subst hke
        have hTl : T.length = ls.length := HTP.out.length_eq
        have hrowT : wr.ownsRow w4.heap.size 40 2 (.slice (some ⟨g, 0, none⟩) T.length cv) T.length (flatL T) := by
          have := HROW.out
          rw [List.take_of_length_le (by omega)] at this
          rw [hTl]
          exact this
        have hcvT := (row_cells hrowT).1
        have HCT : Hid (Calls Tryd.prog 11 #[.slice (some ⟨g, 0, none⟩) ls.length cv] wr fun e w' => ∃ a' cap', e = .returned (.tuple #[.slice a' C.length cap', .int .i64 0, .int .i64 (ci : Nat)]) ∧ C.length ≤ cap' ∧ LabsOwn w' wr.heap.size a' C ∧ Below wr.heap.size wr w') := by
          have := implCanon_any (some ⟨g, 0, none⟩) cv T wr (labs_of_row hrowT).labs (sizL_big (sizL_perm HTP.out HSZ.out)) (by omega) hcvT (HT.out.later (bto B4.out hbel))
          rw [HP.out T HTP.out, hTl] at this
          exact this
        have B5 : Hid (Below w.heap.size w wr) := bto B4.out hbel
        have R5 : Hid (LabsIn wr a2 C) := R4.out.later hbel
        have F5 : Hid (LabsIn wr a3 C) := F4.out.later hbel
        clear hrowT hcvT hTl HROW hbel hk hlt HTG HTP HP O4 R4 F4 hszr B4
        go_wp2_with fail
        refine HCT.out.mono ?_
        rintro e w6 ⟨a6, k6, rfl, _, ho6, hb6⟩
        have B6 : Hid (Below w.heap.size w w6) := bto B5.out hb6
        have R6 : Hid (LabsIn w6 a2 C) := R5.out.later hb6
        have F6 : Hid (LabsIn w6 a3 C) := F5.out.later hb6
        have A6 : Hid (LabsIn w6 a6 C) := ho6.labs
        clear ho6 hb6 HCT B5 R5 F5
        have HKK : Hid (Calls Tryd.prog 16 #[.slice a3 C.length k3] w6 fun e w' => e = .returned (.string (keyB C)) ∧ Below w6.heap.size w6 w') := by
          have := implKey_any a3 k3 C w6 F6.out (sizL_big HF.out.2.2.2.2) (by omega) hk3 (HT.out.later B6.out)
          rw [HF.out.2.1] at this
          exact this
        have hKS : (keyB C).size ≤ 1000000000 := by
          have h1 := key_size0 C
          have h2 := tail_bound HF.out.2.2.2.2
          omega
        have HKE : Hid ((keyB C).toList.isEmpty = false) := by
          show _ = _
          have h1 := key_size0 C
          rw [ByteArray.toList_eq]
          cases hd : (keyB C).data.toList with
          | nil => rw [bsize, hd, List.length_nil] at h1; omega
          | cons _ _ => rfl
        have HDD : Hid (∀ W, UTab W → Calls Tryd.prog 18 #[.string (keyB C)] W fun e w' => ∃ a cap, e = .returned (.tuple #[.slice a C.length cap, .bool true]) ∧ LabsOwn w' W.heap.size a C ∧ Below W.heap.size W w') := fun W hW => by
          have := implDec_any (keyB C) W hKS hW
          rw [HF.out.2.2.1] at this
          exact this
        have HEQ : Hid (∀ D, canB D = true → (((keyB D).toList == (keyB C).toList) = sameLs D C)) := fun D hD => by
          rw [Bool.eq_iff_iff, beq_iff_eq, sameLs_iff]
          constructor
          · intro h; exact (key_inj hD HF.out.2.2.2.1).1 (toList_inj h)
          · intro h; rw [h]
        generalize keyB C = KB at *
        go_wp2_with fail
        refine HKK.out.mono ?_
        rintro e w7 ⟨rfl, hb7⟩
        have B7 : Hid (Below w.heap.size w w7) := bto B6.out hb7
        have R7 : Hid (LabsIn w7 a2 C) := R6.out.later hb7
        have A7 : Hid (LabsIn w7 a6 C) := A6.out.later hb7
        clear hb7 HKK B6 R6 A6 F6
        go_wp2_with fail
        refine (HDD.out w7 (HT.out.later B7.out)).mono ?_
        rintro e w8 ⟨a8, k8, rfl, ho8, hb8⟩
        have B8 : Hid (Below w.heap.size w w8) := bto B7.out hb8
        have R8 : Hid (LabsIn w8 a2 C) := R7.out.later hb8
        have A8 : Hid (LabsIn w8 a6 C) := A7.out.later hb8
        have D8 : Hid (LabsIn w8 a8 C) := ho8.labs
        clear ho8 hb8 HDD B7 R7 A7
        go_wp2_with fail
        refine (hLabels_any _ _ _ _ C C w8 A8.out R8.out (by omega)).mono ?_
        rintro e w9 ⟨rfl, hb9⟩
        have B9 : Hid (Below w.heap.size w w9) := bto B8.out hb9
        have R9 : Hid (LabsIn w9 a2 C) := R8.out.later hb9
        have D9 : Hid (LabsIn w9 a8 C) := D8.out.later hb9
        clear hb9 B8 R8 A8 D8
        rw [HSAME.out]
        have hKE : KB.toList.isEmpty = false := HKE.out
        go_wp2_with fail
        refine (hLabels_any _ _ _ _ C C w9 D9.out R9.out (by omega)).mono ?_
        rintro e w10 ⟨rfl, hb10⟩
        have B10 : Hid (Below w.heap.size w w10) := bto B9.out hb10
        have R10 : Hid (LabsIn w10 a2 C) := R9.out.later hb10
        clear hb10 B9 R9 D9
        rw [HSAME.out]
        go_wp2_with fail
        refine (drawCanon_any b m cm w10 (by omega) (HBB.out.up B10.out B10.out.size)).mono ?_
        rintro e w11 ⟨g11, c11, l2, rfl, hc11, hl11, hs11, ho11, hb11⟩
        have B11 : Hid (Below w.heap.size w w11) := bto B10.out hb11
        have R11 : Hid (LabsIn w11 a2 C) := R10.out.later hb11
        have O11 : Hid (LabsIn w11 (some ⟨g11, 0, none⟩) l2) := ho11.labs
        have HS2 : Hid (SizL l2) := hs11
        clear ho11 hb11 hs11 B10 R10
        go_wp2_with fail
        refine (specCanon_cap _ c11 l2 w11 O11.out (sizL_big HS2.out) (by omega) hc11).mono ?_
        rintro e w12 ⟨a12, k12, rfl, hk12, ho12, hb12⟩
        have B12 : Hid (Below w.heap.size w w12) := bto B11.out hb12
        have R12 : Hid (LabsIn w12 a2 C) := R11.out.later hb12
        have D12 : Hid (LabsIn w12 a12 (canonR l2).1) := ho12.labs
        clear ho12 hb12 B11 R11 O11
        have hC2 := canon_len0 l2
        by_cases h2 : (canonR l2).2.1 = 0
        · have HK2 : Hid (Calls Tryd.prog 16 #[.slice a12 (canonR l2).1.length k12] w12 fun e w' => e = .returned (.string (keyB (canonR l2).1)) ∧ Below w12.heap.size w12 w') := by
            have := implKey_any a12 k12 _ w12 D12.out (sizL_big (sizL_form HS2.out h2)) (by omega) hk12 (HT.out.later B12.out)
            rw [(form_key h2).1] at this
            exact this
          have HE2 : Hid (((keyB (canonR l2).1).toList == KB.toList) = sameLs (canonR l2).1 C) := HEQ.out _ (form_can h2)
          rw [h2]
          clear h2
          generalize (canonR l2).1 = D at *
          generalize (canonR l2).2.2 = di at *
          generalize keyB D = KD at *
          go_wp2_with fail
          refine HK2.out.mono ?_
          rintro e w13 ⟨rfl, hb13⟩
          have B13 : Hid (Below w.heap.size w w13) := bto B12.out hb13
          have R13 : Hid (LabsIn w13 a2 C) := R12.out.later hb13
          have D13 : Hid (LabsIn w13 a12 D) := D12.out.later hb13
          clear hb13 B12 R12 D12 HK2
          go_wp2_with fail
          refine (hLabels_any _ _ _ _ D C w13 D13.out R13.out (by omega)).mono ?_
          rintro e w14 ⟨rfl, hb14⟩
          have B14 : Hid (Below w.heap.size w w14) := bto B13.out hb14
          clear hb14 B13 R13 D13
          have hE2 := HE2.out
          generalize sameLs D C = SB at *
          go_wp2
          go_ret
          exact ⟨rfl, B14.out⟩
        · have h2' : ¬ (((canonR l2).2.1 : Nat) : Int) = 0 := by omega
          clear h2
          generalize (canonR l2).1 = D at *
          generalize (canonR l2).2.1 = dc at *
          generalize (canonR l2).2.2 = di at *
          go_wp2
          go_ret
          exact ⟨rfl, B12.out⟩
  · have HK : Hid (keyV ls = ByteArray.empty) := key_none h0
    have h0' : ¬ (((canonR ls).2.1 : Nat) : Int) = 0 := by omega
    clear h0
    generalize (canonR ls).1 = C at *
    generalize (canonR ls).2.1 = cc at *
    generalize (canonR ls).2.2 = ci at *
    go_wp2_with fail
    refine (hLabels_any _ _ _ _ C C w3 F3.out R3.out (by omega)).mono ?_
    rintro e w4 ⟨rfl, hb4⟩
    have B4 : Hid (Below w.heap.size w w4) := bto B3.out hb4
    have O4 : Hid (LabsIn w4 (some ⟨g1, 0, none⟩) ls) := O3.out.later hb4
    clear hb4 B3 O3 R3 F3
    rw [HSAME.out]
    go_wp2_with fail
    refine (implKey_any _ c1 ls w4 O4.out (sizL_big HSZ.out) (by omega) hc1 (HT.out.later B4.out)).mono ?_
    rintro e w5 ⟨rfl, hb5⟩
    have B5 : Hid (Below w.heap.size w w5) := bto B4.out hb5
    clear hb5
    rw [HK.out]
    go_wp2
    go_ret
    exact ⟨rfl, B5.out⟩
end Go.Proofs.YteohobkigjmjlaaDoor

