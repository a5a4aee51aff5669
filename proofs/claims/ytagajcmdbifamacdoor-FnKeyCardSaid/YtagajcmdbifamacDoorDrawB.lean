import Derived.Test.YtagajcmdbifamacDoorProg
import Derived.Test.YtagajcmdbifamacDoorDrawT
namespace Go.Proofs.YtagajcmdbifamacDoor
open Go.RowKit

set_option maxRecDepth 100000 in
set_option maxHeartbeats 1000000 in
theorem badValue_any (B P N : Nat) (w : World) (h : CurB w B P N) (hN : N ≤ 100000) :
    Calls Tryd.prog 49 #[.pointer (some ⟨B, 0, none⟩)] w fun e w' => ∃ s : ByteArray, s.size ≤ 1000 ∧ e = .returned (.string s) ∧ CurB w' B P (N + 1) ∧ But B w w' := by
  have HC : Hid (CurB w B P N) := h
  have hlt := h.lt
  clear h
  go_enter Tryd.func49, Tryd.ntmps49
  go_wp2_with fail
  refine (times_any ⟨#[195, 169]⟩ 128 w (by decide) (by omega)).mono ?_
  rintro e w1 ⟨t1, ht1, rfl, hb1⟩
  have B1 : Hid (Below w.heap.size w w1) := hb1
  clear hb1
  go_wp2_with fail
  refine (times_any ⟨#[195, 169]⟩ 129 w1 (by decide) (by omega)).mono ?_
  rintro e w2 ⟨t2, ht2, rfl, hb2⟩
  have B2 : Hid (Below w.heap.size w w2) := bto B1.out hb2
  clear hb2 B1
  go_wp2_with fail
  refine (times_any ⟨#[122]⟩ 129 w2 (by decide) (by omega)).mono ?_
  rintro e w3 ⟨t3, ht3, rfl, hb3⟩
  have B3 : Hid (Below w.heap.size w w3) := bto B2.out hb3
  clear hb3 B2
  go_wp2_with fail
  have HR : Hid (RowT (w3.alloc (.cells ([⟨#[128]⟩, ⟨#[192, 128]⟩, ⟨#[237, 160, 128]⟩, ⟨#[244, 144, 128, 128]⟩, ⟨#[226, 130]⟩, ⟨#[31]⟩, ⟨#[127]⟩, ⟨#[194, 133]⟩, ⟨#[240, 128, 128, 128]⟩, ⟨#[255]⟩, ⟨#[97, 195]⟩, t1, t2, t3, ⟨#[194, 160]⟩, ⟨#[239, 191, 189]⟩, ⟨#[244, 143, 191, 191]⟩, ⟨#[238, 128, 128]⟩].map Value.string).toArray 9)) w3.heap.size 18 1000) := rowT_new w3 _ 1000 _ 18 rfl (by
    simp only [List.all_cons, List.all_nil, Bool.and_true, Bool.and_eq_true, decide_eq_true_eq]
    refine ⟨by decide, by decide, by decide, by decide, by decide, by decide, by decide, by decide, by decide, by decide, by decide, by omega, by omega, by omega, by decide, by decide, by decide, by decide⟩)
  simp only [List.map_cons, List.map_nil] at HR
  have hC3 := (HC.out.later B3.out).later (bnew w3 (.cells #[.string ⟨#[128]⟩, .string ⟨#[192, 128]⟩, .string ⟨#[237, 160, 128]⟩, .string ⟨#[244, 144, 128, 128]⟩, .string ⟨#[226, 130]⟩, .string ⟨#[31]⟩, .string ⟨#[127]⟩, .string ⟨#[194, 133]⟩, .string ⟨#[240, 128, 128, 128]⟩, .string ⟨#[255]⟩, .string ⟨#[97, 195]⟩, .string t1, .string t2, .string t3, .string ⟨#[194, 160]⟩, .string ⟨#[239, 191, 189]⟩, .string ⟨#[244, 143, 191, 191]⟩, .string ⟨#[238, 128, 128]⟩] 9))
  have hz3 : w.heap.size ≤ w3.heap.size := B3.out.size
  refine (curPick_any B P N 18 _ hC3 (by omega) (by omega) (by omega)).mono ?_
  rintro e w4 ⟨v, hv, rfl, hc4, hb4⟩
  have HR4 := HR.out.but hb4 (by omega)
  obtain ⟨s, hcell, hs⟩ := HR4.at hv
  have H4 : Hid (CurB w4 B P (N + 1) ∧ But B w w4) := ⟨hc4, ((But.of B3.out).later (bnew _ _)).trans hb4⟩
  clear hc4 hb4 HR4 HR hC3 B3 HC
  have hv' : (v : Int) < 18 := by omega
  go_wp2
  go_ret
  exact ⟨s, hs, rfl, H4.out⟩
end Go.Proofs.YtagajcmdbifamacDoor
