import Derived.Test.YtoecnlhnfhongaaDoorProg
import Derived.Test.YtoecnlhnfhongaaDoorKeyL
import Derived.Test.YtoecnlhnfhongaaDoorJn
import Derived.Test.YtoecnlhnfhongaaDoorAppE
import Derived.Test.YtoecnlhnfhongaaDoorAppA
import Derived.Test.YtoecnlhnfhongaaDoorLabI
namespace Go.Proofs.YtoecnlhnfhongaaDoor
open Go.RowKit

def BigK (ls : List LabD) : Prop := ∀ i (h : i < ls.length), ls[i].name.size ≤ 1000000000 ∧ ls[i].value.size ≤ 1000000000
def partsK (ls : List LabD) : List ByteArray := ls.flatMap fun l => [s8B l.name, s16B l.value]
theorem partsK_take (ls : List LabD) (k : Nat) (h : k < ls.length) : partsK (ls.take (k + 1)) = partsK (ls.take k) ++ [s8B ls[k].name, s16B ls[k].value] := by
  unfold partsK
  rw [List.take_succ_eq_append_getElem h, List.flatMap_append]
  rfl
theorem cat_partsK : ∀ (ls : List LabD), catB (partsK ls) = tailB ls
  | [] => rfl
  | l :: r => by
    have e : partsK (l :: r) = [s8B l.name, s16B l.value] ++ partsK r := rfl
    rw [e, catB_append, cat_partsK r, tailB]
    simp [catB]

set_option maxRecDepth 100000 in
set_option maxHeartbeats 2000000 in
theorem keyOfR_any (a : Option Addr) (cap : Nat) (ls : List LabD) (w : World) (hf : LabsIn w a ls) (hB : BigK ls) (hlen : ls.length ≤ 255) :
    Calls Tryd.prog 41 #[.slice a ls.length cap] w fun e w' => e = .returned (.string (keyB ls)) ∧ Below w.heap.size w w' := by
  have HF : Hid (LabsIn w a ls) := hf
  have HB : Hid (BigK ls) := hB
  have HU : Hid (∀ W, Calls Tryd.prog 38 #[.int .i64 (ls.length : Nat)] W fun e w' => e = .returned (.string (numS 1 (ls.length : Nat))) ∧ Below W.heap.size W w') := fun W => implU8_any ls.length W
  have hz1 := numS_size 1 (ls.length : Nat)
  have HKB : Hid (keyB ls = numS 1 (ls.length : Nat) ++ tailB ls) := rfl
  generalize numS 1 (ls.length : Nat) = NB at *
  obtain ⟨ti, hti, ht0, ht1, ht2⟩ := info_strR
  have HI : Hid (Tryd.prog.info? 9 = some ti) := hti
  clear hf hB hti
  go_enter Tryd.func41, Tryd.ntmps41
  go_wp2_with fail
  refine (HU.out _).mono ?_
  rintro e w1 ⟨rfl, hb1⟩
  have B1 : Hid (Below w.heap.size w w1) := hb1
  have hs1 : w.heap.size ≤ w1.heap.size := hb1.size
  clear hb1
  go_wp2
  go_loopw [3, 5, 12] (fun out _ i wr => ∃ (k : Nat) (ps : List ByteArray) (g cv : Nat), k ≤ ls.length ∧ i = .int .i64 k ∧ out = .slice (some ⟨g, 0, none⟩) ps.length cv ∧ ps.length ≤ 1 + 2 * k ∧ sumB ps ≤ 1 + k * 3000000000 ∧ Hid (ps = NB :: partsK (ls.take k)) ∧ Hid (wr.ownsRow w.heap.size 9 1 (.slice (some ⟨g, 0, none⟩) ps.length cv) ps.length (ps.map Value.string)) ∧ Below w.heap.size w wr) (fun _ _ i _ => ls.length - (intOf i).toNat)
  case atStart =>
    exact ⟨0, [NB], _, _, Nat.zero_le _, rfl, rfl, by simp, by simp [sumB]; omega, rfl, ⟨rfl, Or.inr ⟨w1.heap.size, 1, _, rfl, hs1, heap_alloc_new _ _, Nat.le_refl _, by simp [maxLen], rfl, rfl⟩⟩, bto B1.out (bnew _ _)⟩
  case round =>
    obtain ⟨k, ps, g, cv, hk, rfl, rfl, hpl, hps, HPS, HROW, hbel⟩ := hrel
    by_cases hlt : k < ls.length
    · obtain ⟨b, o, rfl, hb, c0, c1⟩ := (HF.out.later hbel).at hlt
      obtain ⟨hn1, hn2⟩ := HB.out k hlt
      have HS8 : Hid (∀ W, Calls Tryd.prog 39 #[.string ls[k].name] W fun e w' => e = .returned (.string (s8B ls[k].name)) ∧ Below W.heap.size W w') := fun W => implS8_any ls[k].name W hn1
      have HS16 : Hid (∀ W, Calls Tryd.prog 43 #[.string ls[k].value] W fun e w' => e = .returned (.string (s16B ls[k].value)) ∧ Below W.heap.size W w') := fun W => implS16_any ls[k].value W hn2
      have hz8 := s8B_size ls[k].name
      have hz16 := s16B_size ls[k].value
      have HT := partsK_take ls k hlt
      have E2 : Hid (ps ++ [s8B ls[k].name, s16B ls[k].value] = NB :: partsK (ls.take (k + 1))) := by show _ = _; rw [HT, HPS.out]; rfl
      clear HT
      generalize s8B ls[k].name = S8 at *
      generalize s16B ls[k].value = S16 at *
      generalize ls[k].name = nm at *
      generalize ls[k].value = va at *
      have hnb : ¬ b = wr.heap.size := by omega
      have hsz := hbel.size
      have HBX : Hid (Blk (wr.alloc (.cells #[.string nm, .string va] 56)) wr.heap.size #[.string nm, .string va] 56 ∧ Below wr.heap.size wr (wr.alloc (.cells #[.string nm, .string va] 56))) := ⟨heap_alloc_new _ _, bnew _ _⟩
      have HR2 : Hid ((wr.alloc (.cells #[.string nm, .string va] 56)).ownsRow w.heap.size 9 1 (.slice (some ⟨g, 0, none⟩) ps.length cv) ps.length (ps.map Value.string) ∧ Below w.heap.size w (wr.alloc (.cells #[.string nm, .string va] 56))) := ⟨row_later HROW.out (bnew _ _), bto hbel (bnew _ _)⟩
      go_wp2_with fail
      generalize wr.alloc (.cells #[.string nm, .string va] 56) = W at *
      have x0 := HBX.out.1.cell 0
      have x1 := HBX.out.1.cell 1
      simp only [List.getElem?_toArray, List.getElem?_cons_zero, List.getElem?_cons_succ] at x0 x1
      have hBX : wr.heap.size < W.heap.size := lt_of_block HBX.out.1
      have hww : w.heap.size ≤ W.heap.size := HR2.out.2.size
      have hgB : g < wr.heap.size := (strs_cells HROW.out).2.1
      clear HROW HBX hnb hb c0 c1 hbel hsz
      generalize wr.heap.size = BX at *
      clear wr
      go_region_held3 (fun w' => w'.cell? ⟨BX, 0, none⟩ = some (.string nm) ∧ w'.cell? ⟨BX, 1, none⟩ = some (.string va))
        (first
          | go_keep
          | exact ⟨hk50.trans x0, hk51.trans x1⟩
          | exact ⟨((hc2.alloc hc2.size _).cell hBX).trans x0, ((hc2.alloc hc2.size _).cell hBX).trans x1⟩
          | exact ⟨(hc2.cell hBX).trans x0, (hc2.cell hBX).trans x1⟩
          | exact ⟨(hc1.cell hBX).trans x0, (hc1.cell hBX).trans x1⟩)
        ((first
          | (go_at_call 39; refine (HS8.out _).mono ?_; rintro e w1 ⟨rfl, hb1⟩; have hc1 : Below W.heap.size W w1 := (Below.refl _ W).drew.trans hb1)
          | (go_at_call 43; refine (HS16.out _).mono ?_; rintro e w2 ⟨rfl, hb2⟩; have hc2 : Below W.heap.size W w2 := hc1.trans (hb2.mono hc1.size))
          | (refine step_append_any _ (by rfl) _ _ _ (by rfl) w.heap.size 9 ti _ 1 16 Tryd.underlying76 HI.out ht0 ht1 ht2 rfl (by omega) g ps.length cv _ (by rfl) (by exact row_later (row_later HR2.out.1 hc2) (bnew _ _)) _ 2 2 [.string S8, .string S16] (by rfl) rfl (by exact Or.inr ⟨_, rfl, World.news_of_block (cs := #[.string S8, .string S16]) (heap_alloc_new _ _)⟩) (by simp [Value.oneCell']) (by simp [maxLen]; omega) (by omega) (by have := hc2.size; simp; omega) ?_; intro g5 cap5 w5 hown5 hB5 hk5 hg5 hat5 hlt5; have hk50 : w5.cell? ⟨BX, 0, none⟩ = W.cell? ⟨BX, 0, none⟩ := (World.cell?_of_block (hk5 BX (by have := hc2.size; simp; omega) (by omega))).trans ((hc2.alloc hc2.size _).cell hBX); have hk51 : w5.cell? ⟨BX, 1, none⟩ = W.cell? ⟨BX, 1, none⟩ := (World.cell?_of_block (hk5 BX (by have := hc2.size; simp; omega) (by omega))).trans ((hc2.alloc hc2.size _).cell hBX); have hB5' : Below w.heap.size w w5 := ((bto HR2.out.2 hc2).alloc (Nat.le_trans hww hc2.size) _).trans hB5)))
      have hxs : ps.map Value.string ++ [Value.string S8, .string S16] = (ps ++ [S8, S16]).map Value.string := by simp
      have hle : (ps ++ [S8, S16]).length = ps.length + 2 := by simp
      have hsm : sumB (ps ++ [S8, S16]) = sumB ps + (S8.size + S16.size) := by rw [sumB_append]; simp [sumB]
      rw [hxs, ← hle] at hown5
      rw [← hle]
      have HO5 : Hid (w5.ownsRow w.heap.size 9 1 (.slice (some ⟨g5, 0, none⟩) (ps ++ [S8, S16]).length cap5) (ps ++ [S8, S16]).length ((ps ++ [S8, S16]).map Value.string) ∧ Below w.heap.size w w5) := ⟨hown5, hB5'⟩
      clear hown5 hB5 hB5' hk5 hat5 hk50 hk51 hxs
      generalize ps ++ [S8, S16] = ps5 at *
      go_wp2
      exact ⟨⟨k + 1, ps5, g5, cap5, by omega, by go_num, rfl, by omega, by omega, E2.out, HO5.out.1, HO5.out.2⟩, by simp [intOf]; omega⟩
    · have E2 : Hid (catB ps = keyB ls) := by
        show _ = _
        rw [HPS.out, List.take_of_length_le (by omega), catB, cat_partsK, HKB.out]
      obtain ⟨hcv, hg, hcs⟩ := strs_cells HROW.out
      have HJ : Hid (Calls Tryd.prog 44 #[.slice (some ⟨g, 0, none⟩) ps.length cv] wr fun e w' => e = .returned (.string (catB ps)) ∧ Below wr.heap.size wr w') := joined_any g ps.length cv ps wr rfl hcs hg hcv (by omega) (by omega)
      rw [E2.out] at HJ
      clear HROW hcs
      go_wp2_with fail
      refine HJ.out.mono ?_
      rintro e w2 ⟨rfl, hb2⟩
      have B2 : Hid (Below w.heap.size w w2) := bto hbel hb2
      clear hb2
      go_wp2
      go_ret
      exact ⟨rfl, B2.out⟩

end Go.Proofs.YtoecnlhnfhongaaDoor
