import Derived.Test.YtploplddbemelaaGreatDoorProg
import Derived.Test.YtploplddbemelaaGreatDoorJ33MkT
import Derived.Test.YtploplddbemelaaGreatDoorJ29SKin
import Derived.Test.YtploplddbemelaaGreatDoorJ02LabB
import Derived.Test.YtploplddbemelaaGreatDoorJ22TenF
import Derived.Test.YtploplddbemelaaGreatDoorJ01Own
namespace Go.Proofs.YtploplddbemelaaGreatDoor
open Go.RowKit

set_option maxRecDepth 100000 in
set_option maxHeartbeats 1000000 in
theorem markTenantS_nil (a : Option Addr) (cap : Nat) (k : Nat) (w : World) :
    Calls Tryz.prog 69 #[.slice a 0 cap, .int .i64 (k : Int)] w fun e w' => e = .returned (.int .i64 (k : Int)) ∧ w' = w := by
  go_enter Tryz.func69, Tryz.ntmps69
  go_wp2
  go_loopw [1, 5] (fun l i wr => l = .int .i64 (k : Int) ∧ i = .int .i64 0 ∧ wr = w) (fun _ i _ => 0)
  case atStart => exact ⟨rfl, rfl, rfl⟩
  case round =>
    obtain ⟨rfl, rfl, rfl⟩ := hrel
    go_wp2
    go_ret
    exact ⟨rfl, rfl⟩
theorem tens_le_len (ts : List TenD) : ts.length ≤ tensLen ts := by
  induction ts with
  | nil => exact Nat.zero_le _
  | cons t r ih => simp only [List.length_cons, tensLen, tenLen]; omega
/-- Tenants of their own, all of whose blocks lay there at w0. -/
theorem markTens_any (a : Option Addr) (cap : Nat) (ts : List TenD) (k B : Nat) (w0 w : World) (hk : 0 < k) (hk2 : k + tensLen ts ≤ 100000000) (h0 : TensOwn w0 B a ts) (hb : Below w0.heap.size w0 w) :
    Calls Tryz.prog 69 #[.slice a ts.length cap, .int .i64 (k : Int)] w fun e w' => e = .returned (.int .i64 ((k + tensLen ts : Nat) : Int)) ∧ Turn (fun g => B ≤ g ∧ g < w0.heap.size) w w' ∧ TensOwn w' B a (markTens k ts) := by
  rcases h0 with rfl | ⟨g, o, cur, t, T, rfl, hB, hg, hT, h⟩
  · refine (markTenantS_nil a cap k w).mono ?_
    rintro e w' ⟨rfl, rfl⟩
    exact ⟨ret_int (by simp [tensLen]), Turn.refl _ _, Or.inl (by simp [markTens])⟩
  · have hlt := lt_of_block hg
    have hg' : Blk w g cur t := (hb.block g hlt).trans hg
    have hle := tens_le_len ts
    refine (markTenantS_any g o cap ts k B (fun x => if x < w0.heap.size then T x else 1000000007) cur t w hk hk2 hB hg' (by simp [hlt, hT]) (fun i hi => (h i hi).keep (fun j _ => World.cell?_of_block (hb.block g hlt)) fun x hx _ _ => ⟨hb.block x hx, if_pos hx⟩)).mono ?_
    rintro e w' ⟨rfl, ht, c, hc, hm⟩
    refine ⟨rfl, ht.mono fun x _ hx => ⟨hx.1, ?_⟩, Or.inr ⟨g, o, c, t, _, rfl, hB, hc, by simp [hlt, hT], hm⟩⟩
    by_cases hl : x < w0.heap.size
    · exact hl
    · have := hx.2
      rw [if_neg hl] at this
      omega

set_option maxRecDepth 100000 in
set_option maxHeartbeats 1000000 in
theorem markState_any (now : Int) (a : Option Addr) (cap : Nat) (ts : List TenD) (k B : Nat) (w0 w : World) (hk : 0 < k) (hk2 : k + tensLen ts ≤ 100000000) (h0 : TensOwn w0 B a ts) (hb : Below w0.heap.size w0 w) :
    Calls Tryz.prog 25 #[.agg #[.int .i64 now, .slice a ts.length cap], .int .i64 (k : Int)] w fun e w' => e = .returned (.int .i64 ((k + tensLen ts : Nat) : Int)) ∧ Turn (fun g => B ≤ g ∧ g < w0.heap.size) w w' ∧ TensOwn w' B a (markTens k ts) := by
  have HM : Hid (∀ W, Below w0.heap.size w0 W → Calls Tryz.prog 69 #[.slice a ts.length cap, .int .i64 (k : Int)] W fun e w' => e = .returned (.int .i64 ((k + tensLen ts : Nat) : Int)) ∧ Turn (fun g => B ≤ g ∧ g < w0.heap.size) W w' ∧ TensOwn w' B a (markTens k ts)) := fun W hW => markTens_any a cap ts k B w0 W hk hk2 h0 hW
  have HB : Hid (Below w0.heap.size w0 w) := hb
  clear h0 hb
  go_enter Tryz.func25, Tryz.ntmps25
  go_wp2_with fail
  refine (HM.out _ (bto HB.out (bnew _ _))).mono ?_
  rintro e w1 ⟨rfl, ht, ho⟩
  have HT : Hid (Turn (fun g => B ≤ g ∧ g < w0.heap.size) w w1 ∧ TensOwn w1 B a (markTens k ts)) := ⟨(Turn.of (bnew _ _)).trans' ht, ho⟩
  clear ht ho
  go_wp2
  go_ret
  exact ⟨rfl, HT.out.1, HT.out.2⟩

theorem heldMetricLimit_int (kI : Int) (a : Option Addr) (cap : Nat) (k n : Nat) (w : World) (hkI : kI = (k : Int)) (hk : 0 < k) (hk2 : k + 2 * n ≤ 100000000) (hf : PairsIn w a (markPairs k n)) :
    Calls Tryz.prog 121 #[.slice a n cap, .int .i64 kI] w fun e w' => e = .returned (.int .i64 ((k + 2 * n : Nat) : Int)) ∧ Below w.heap.size w w' := hkI ▸ heldMetricLimit_any a cap k n w hk hk2 hf
theorem heldSeries_int (kI : Int) (a : Option Addr) (cap : Nat) (k n : Nat) (w : World) (hkI : kI = (k : Int)) (hk : 0 < k) (hk2 : k + 2 * n ≤ 100000000) (hf : PairsIn w a (markPairs k n)) :
    Calls Tryz.prog 122 #[.slice a n cap, .int .i64 kI] w fun e w' => e = .returned (.int .i64 ((k + 2 * n : Nat) : Int)) ∧ Below w.heap.size w w' := hkI ▸ heldSeries_any a cap k n w hk hk2 hf

set_option maxRecDepth 100000 in
set_option maxHeartbeats 4000000 in
theorem heldTenantS_any (a : Option Addr) (cap : Nat) (ts : List TenD) (k : Nat) (w : World) (hk : 0 < k) (hk2 : k + tensLen ts ≤ 100000000) (hf : TensIn w a (markTens k ts)) :
    Calls Tryz.prog 70 #[.slice a ts.length cap, .int .i64 (k : Int)] w fun e w' => e = .returned (.int .i64 ((k + tensLen ts : Nat) : Int)) ∧ Below w.heap.size w w' := by
  have HF : Hid (TensIn w a (markTens k ts)) := hf
  have HK2 : Hid (k + tensLen ts ≤ 100000000) := hk2
  have hlen : ts.length ≤ 100000000 := by have := tens_le_len ts; omega
  clear hf hk2
  go_enter Tryz.func70, Tryz.ntmps70
  go_wp2
  go_loopw [1, 5] (fun l i wr => ∃ (j K : Nat), j ≤ ts.length ∧ i = .int .i64 j ∧ l = .int .i64 (K : Int) ∧ Hid (K = k + tensLen (ts.take j)) ∧ Hid (Below w.heap.size w wr)) (fun _ i _ => ts.length - (intOf i).toNat)
  case atStart => exact ⟨0, k, Nat.zero_le _, rfl, rfl, by show _ = _; simp [tensLen], Below.refl _ _⟩
  case round =>
    obtain ⟨j, K, hj, rfl, rfl, HK, HB⟩ := hrel
    by_cases hlt : j < ts.length
    · have hlt' : j < (markTens k ts).length := by rw [markTens_length]; exact hlt
      obtain ⟨b, o, a1, c1, a2, c2, rfl, hb, z0, z1, z2, z3, p1, p2⟩ := (HF.out.later HB.out).at hlt'
      rw [markTens_get hlt' hlt, ← HK.out] at z0 z1 z2 z3 p1 p2
      simp only [markTen, markPairs_length] at z0 z1 z2 z3 p1 p2
      have HLE : Hid (K + tenLen ts[j] ≤ 100000000 ∧ k + tensLen (ts.take (j + 1)) = K + tenLen ts[j]) := by
        have h1 := tensLen_take ts j hlt
        have h2 := tensLen_le ts (j + 1)
        have h3 := HK.out
        have h4 := HK2.out
        exact ⟨by omega, by omega⟩
      have hkb : K + 2 + 2 * ts[j].mets.length + 2 * ts[j].sers.length ≤ 100000000 := by have := HLE.out.1; unfold tenLen at this; omega
      have hKp : 0 < K := by have := HK.out; omega
      have P1 : Hid (PairsIn wr a1 (markPairs (K + 2) ts[j].mets.length)) := p1
      have P2 : Hid (PairsIn wr a2 (markPairs (K + 2 + 2 * ts[j].mets.length) ts[j].sers.length)) := p2
      have HZ : Hid (∀ W, Below wr.heap.size wr W → W.cell? ⟨b, o + j * 4 + 1, none⟩ = some (.int .i64 ((K : Int) + 1)) ∧ W.cell? ⟨b, o + j * 4 + 2, none⟩ = some (.slice a1 ts[j].mets.length c1) ∧ W.cell? ⟨b, o + j * 4 + 3, none⟩ = some (.slice a2 ts[j].sers.length c2)) := fun W hW => ⟨by rw [hW.cell hb, z1]; simp, (hW.cell hb).trans z2, (hW.cell hb).trans z3⟩
      have d0 := Later.cells z0
      have hne := Later.there wr
      clear z0 z1 z2 z3 p1 p2
      go_wp2_with fail
      refine wp_region_later (by kernel_rfl) (by kernel_rfl) ?_
      repeat (go_big_quiet_step (first | (go_at_call 118; exact calls_later (markText_int _ K (by omega) _ (by omega) (by omega)))))
      refine wpQuiet_nil ?_
      rintro _ ⟨x, rfl⟩
      have HX : Hid (Below wr.heap.size wr x.w') := x.h
      clear d0 hne
      generalize x.w' = W1 at *
      clear x
      obtain ⟨y1, y2, y3⟩ := HZ.out W1 HX.out
      go_wp2_with fail
      refine (heldMetricLimit_int _ a1 c1 (K + 2) ts[j].mets.length _ (by omega) (by omega) (by omega) (P1.out.later HX.out)).mono ?_
      rintro e w3 ⟨rfl, hb3⟩
      have HX3 : Hid (Below wr.heap.size wr w3) := bto HX.out hb3
      clear hb3 y1 y2 y3
      obtain ⟨y1, y2, y3⟩ := HZ.out w3 HX3.out
      go_wp2_with fail
      refine (heldSeries_int _ a2 c2 (K + 2 + 2 * ts[j].mets.length) ts[j].sers.length _ (by omega) (by omega) (by omega) (P2.out.later HX3.out)).mono ?_
      rintro e w4 ⟨rfl, hb4⟩
      have HX4 : Hid (Below w.heap.size w w4) := bto HB.out (bto HX3.out hb4)
      have HEND : Hid (((K + 2 + 2 * ts[j].mets.length + 2 * ts[j].sers.length : Nat) : Int) = ((k + tensLen (ts.take (j + 1)) : Nat) : Int)) := by
        show _ = _
        have := HLE.out.2
        unfold tenLen at this
        omega
      clear hb4 y1 y2 y3
      go_wp2
      exact ⟨⟨j + 1, k + tensLen (ts.take (j + 1)), by omega, by go_num, congrArg (Value.int .i64) (by have := HEND.out; omega), rfl, HX4.out⟩, by simp [intOf]; omega⟩
    · have ej : j = ts.length := by omega
      have HE : Hid (((K : Nat) : Int) = ((k + tensLen ts : Nat) : Int)) := by show _ = _; rw [HK.out, ej, List.take_length]
      go_wp2
      go_ret
      exact ⟨ret_int HE.out, HB.out⟩

set_option maxRecDepth 100000 in
set_option maxHeartbeats 1000000 in
theorem heldState_any (now : Int) (a : Option Addr) (cap : Nat) (ts : List TenD) (k : Nat) (w : World) (hk : 0 < k) (hk2 : k + tensLen ts ≤ 100000000) (hf : TensIn w a (markTens k ts)) :
    Calls Tryz.prog 26 #[.agg #[.int .i64 now, .slice a ts.length cap], .int .i64 (k : Int)] w fun e w' => e = .returned (.int .i64 ((k + tensLen ts : Nat) : Int)) ∧ Below w.heap.size w w' := by
  have HM : Hid (∀ W, Below w.heap.size w W → Calls Tryz.prog 70 #[.slice a ts.length cap, .int .i64 (k : Int)] W fun e w' => e = .returned (.int .i64 ((k + tensLen ts : Nat) : Int)) ∧ Below W.heap.size W w') := fun W hW => heldTenantS_any a cap ts k W hk hk2 (hf.later hW)
  clear hf
  go_enter Tryz.func26, Tryz.ntmps26
  go_wp2_with fail
  refine (HM.out _ (bnew _ _)).mono ?_
  rintro e w1 ⟨rfl, hb⟩
  have HB : Hid (Below w.heap.size w w1) := bto (bnew _ _) hb
  clear hb
  go_wp2
  go_ret
  exact ⟨ret_int (by omega), HB.out⟩
end Go.Proofs.YtploplddbemelaaGreatDoor

namespace Go.Proofs.YtploplddbemelaaGreatDoor
open Go.RowKit

theorem blk_allocB {w w' : World} {cs : Array Value} {t : TypeId} (h : Below (w.alloc (.cells cs t)).heap.size (w.alloc (.cells cs t)) w') : Blk w' w.heap.size cs t := (Blk.new w cs t).later h
theorem blk_drewB {w w' : World} {cs : Array Value} {t : TypeId} (h : Below (w.alloc (.cells cs t)).drew.heap.size (w.alloc (.cells cs t)).drew w') : Blk w' w.heap.size cs t := (Blk.new w cs t).later ⟨h.os, h.tape, h.output, h.size, h.block⟩
theorem set2 {w1 w5 : World} {X : Nat} {v0 v1 : Value} (h : Below w1.heap.size w1 w5) (hX : w1.heap.size ≤ X) : Below w1.heap.size w1 ((w5.setCell ⟨X, 0, none⟩ v0).setCell ⟨X, 1, none⟩ v1) := (h.setCell hX _).setCell hX _
/-- Tenants in blocks of their own from B on, none of them the block X. -/
def TensX (w : World) (B X : Nat) (a : Option Addr) (ts : List TenD) : Prop :=
  ts = [] ∨ ∃ g o cur t T, a = some ⟨g, o, none⟩ ∧ B ≤ g ∧ w.heap[g]? = some (.cells cur t (0, 0)) ∧ T g = 0 ∧ 2 * ts.length < T X ∧ ∀ i (h : i < ts.length), TenOwn w B T i g (o + i * 4) ts[i]
theorem TensX.tens {w : World} {B X : Nat} {a : Option Addr} {ts : List TenD} (h : TensX w B X a ts) : TensIn w a ts := by
  rcases h with h | ⟨g, o, cur, t, T, rfl, _, hb, _, _, h⟩
  · exact Or.inl h
  · exact Or.inr ⟨g, o, rfl, lt_of_block hb, fun i hi => (h i hi).at⟩
theorem TensX.turned {S : Nat → Prop} {w w' : World} {B X : Nat} {a : Option Addr} {ts : List TenD} (h : TensX w B X a ts) (ht : Turn S w w') (hS : ∀ g, B ≤ g → g < w.heap.size → g ≠ X → ¬ S g) : TensX w' B X a ts := by
  rcases h with h | ⟨g, o, cur, t, T, rfl, hB, hg, hT, hX, h⟩
  · exact Or.inl h
  · have hk := ht.block g (lt_of_block hg) (hS g hB (lt_of_block hg) (fun e => by subst e; omega))
    refine Or.inr ⟨g, o, cur, t, T, rfl, hB, hk.trans hg, hT, hX, fun i hi => (h i hi).keep (fun j _ => World.cell?_of_block hk) fun g' hg' hB' hT' => ⟨ht.block g' hg' (hS g' hB' hg' (fun e => by subst e; omega)), rfl⟩⟩
theorem TensX.later {w w' : World} {B X : Nat} {a : Option Addr} {ts : List TenD} (h : TensX w B X a ts) (hb : Below w.heap.size w w') : TensX w' B X a ts := h.turned (Turn.of (S := fun _ => False) hb) fun _ _ _ _ e => e
theorem TensOwn.toX {w : World} {B X : Nat} {a : Option Addr} {ts : List TenD} (h : TensOwn w B a ts) (hX : X < B ∨ w.heap.size ≤ X) : TensX w B X a ts := by
  rcases h with h | ⟨g, o, cur, t, T, rfl, hB, hg, hT, h⟩
  · exact Or.inl h
  · have hlt := lt_of_block hg
    refine Or.inr ⟨g, o, cur, t, fun x => if x = X then 2 * ts.length + 1 else T x, rfl, hB, hg, ?_, ?_, fun i hi => (h i hi).keep (fun j _ => rfl) fun g' hg' hB' _ => ⟨rfl, ?_⟩⟩
    · show (if g = X then _ else T g) = 0
      rw [if_neg (by omega)]; exact hT
    · show _ < (if X = X then _ else T X)
      rw [if_pos rfl]; omega
    · show (if g' = X then _ else T g') = T g'
      rw [if_neg (by omega)]
theorem markTensX (a : Option Addr) (cap : Nat) (ts : List TenD) (k B X : Nat) (w : World) (hk : 0 < k) (hk2 : k + tensLen ts ≤ 100000000) (h0 : TensX w B X a ts) :
    Calls Tryz.prog 69 #[.slice a ts.length cap, .int .i64 (k : Int)] w fun e w' => e = .returned (.int .i64 ((k + tensLen ts : Nat) : Int)) ∧ Turn (fun g => B ≤ g ∧ g ≠ X) w w' ∧ TensIn w' a (markTens k ts) := by
  rcases h0 with rfl | ⟨g, o, cur, t, T, rfl, hB, hg, hT, hX, h⟩
  · refine (markTenantS_nil a cap k w).mono ?_
    rintro e w' ⟨rfl, rfl⟩
    exact ⟨ret_int (by simp [tensLen]), Turn.refl _ _, Or.inl (by simp [markTens])⟩
  · refine (markTenantS_any g o cap ts k B T cur t w hk hk2 hB hg hT h).mono ?_
    rintro e w' ⟨rfl, ht, c, hc, hm⟩
    exact ⟨rfl, ht.mono fun x _ hx => ⟨hx.1, fun e => by subst e; have := hx.2; omega⟩, Or.inr ⟨g, o, rfl, lt_of_block hc, fun i hi => (hm i hi).at⟩⟩
set_option maxRecDepth 100000 in
set_option maxHeartbeats 1000000 in
theorem markStateX (now : Int) (a : Option Addr) (cap : Nat) (ts : List TenD) (k B X : Nat) (w : World) (hk : 0 < k) (hk2 : k + tensLen ts ≤ 100000000) (h0 : TensX w B X a ts) :
    Calls Tryz.prog 25 #[.agg #[.int .i64 now, .slice a ts.length cap], .int .i64 (k : Int)] w fun e w' => e = .returned (.int .i64 ((k + tensLen ts : Nat) : Int)) ∧ Turn (fun g => B ≤ g ∧ g ≠ X) w w' ∧ TensIn w' a (markTens k ts) := by
  have HM : Hid (∀ W, Below w.heap.size w W → Calls Tryz.prog 69 #[.slice a ts.length cap, .int .i64 (k : Int)] W fun e w' => e = .returned (.int .i64 ((k + tensLen ts : Nat) : Int)) ∧ Turn (fun g => B ≤ g ∧ g ≠ X) W w' ∧ TensIn w' a (markTens k ts)) := fun W hW => markTensX a cap ts k B X W hk hk2 (h0.later hW)
  clear h0
  go_enter Tryz.func25, Tryz.ntmps25
  go_wp2_with fail
  refine (HM.out _ (bnew _ _)).mono ?_
  rintro e w1 ⟨rfl, ht, ho⟩
  have HT : Hid (Turn (fun g => B ≤ g ∧ g ≠ X) w w1 ∧ TensIn w1 a (markTens k ts)) := ⟨(Turn.of (bnew _ _)).trans' ht, ho⟩
  clear ht ho
  go_wp2
  go_ret
  exact ⟨rfl, HT.out.1, HT.out.2⟩
/-- A state handed back lies in the box X, which was made since wv. -/
def StX (wv : World) (X : Nat) (v : Int) (vl : List TenD) (n : Nat) (wx : World) : Prop :=
  ∃ b d B, Blk wx X #[.int .i64 v, .slice b n d] 41 ∧ TensX wx B X b vl ∧ wv.heap.size ≤ B ∧ wv.heap.size ≤ X ∧ Below wv.heap.size wv wx
theorem stX_new {wv w4 : World} {v : Int} {vl : List TenD} {b : Option Addr} {d n B : Nat} (ho : TensOwn w4 B b vl) (hB : wv.heap.size ≤ B) (k : Below wv.heap.size wv w4) : StX wv w4.heap.size v vl n (w4.alloc (.cells #[.int .i64 v, .slice b n d] 41)) :=
  ⟨b, d, B, Blk.new _ _ _, (ho.toX (Or.inr (Nat.le_refl _))).later (bnew _ _), hB, k.size, bto k (bnew _ _)⟩
theorem stX_old {wv w4 : World} {v : Int} {vl : List TenD} {b : Option Addr} {d n B X : Nat} (ho : TensOwn w4 B b vl) (hX : X < B) (hx : wv.heap.size ≤ X) (hz : Blk w4 X #[.int .i64 0, .slice none 0 0] 41) (k : Below wv.heap.size wv w4) :
    StX wv X v vl n ((w4.setCell ⟨X, 0, none⟩ (.int .i64 v)).setCell ⟨X, 1, none⟩ (.slice b n d)) := by
  have ht : Turn (· = X) w4 ((w4.setCell ⟨X, 0, none⟩ (.int .i64 v)).setCell ⟨X, 1, none⟩ (.slice b n d)) := ((Turn.refl (· = X) w4).setCell (Or.inl rfl) 0 _).setCell (Or.inl rfl) 1 _
  refine ⟨b, d, B, ?_, (ho.toX (Or.inl hX)).turned ht (fun g _ _ h e => h e), by omega, hx, set2 k hx⟩
  have := (hz.set 0 (.int .i64 v)).set 1 (.slice b n d)
  simpa using this
theorem tensLen_ins {key : TenD → ByteArray} {t : TenD} (l : List TenD) : tensLen (insBy key t l) ≤ tensLen l + tenLen t := by
  induction l with
  | nil => simp [insBy, tensLen]
  | cons p r ih =>
    rw [insBy]
    split
    · simp only [tensLen]; omega
    · split <;> (simp only [tensLen]; omega)
theorem tensLen_filter (p : TenD → Bool) (l : List TenD) : tensLen (l.filter p) ≤ tensLen l := by
  induction l with
  | nil => exact Nat.le_refl _
  | cons a r ih =>
    rw [List.filter_cons]
    split <;> (simp only [tensLen]; omega)
theorem tensLen_small {ts : List TenD} (h : ts.length + tensBulk ts ≤ 1048576) : tensLen ts ≤ 4194304 := by
  have : tensLen ts ≤ 2 * tensBulk ts + 2 * ts.length := by
    clear h
    induction ts with
    | nil => exact Nat.zero_le _
    | cons t r ih => simp only [List.length_cons, tensLen, tenLen, tensBulk, tenBulk]; omega
  omega
/-- How great SetLimit's state may be. -/
theorem setLimV_small {c : CfgD} {now : Int} {ts : List TenD} (hbk : ts.length + tensBulk ts ≤ 1048576) {tenant metric : ByteArray} {limit : Int} (hn : tenant.size ≤ 1048576) (hm : metric.size ≤ 1048576) :
    tensLen (setLimV c now ts tenant metric limit).2.1 ≤ 50000000 ∧ (setLimV c now ts tenant metric limit).2.1.length ≤ 2000000 ∧ LenT (setLimV c now ts tenant metric limit).2.1 := by
  have hfs := fitS_of hbk
  by_cases h0 : stateB c now ts = true
  · rw [setL_eq h0]
    obtain ⟨hfl, hsl⟩ := setL_fit (limit := limit) hfs hn hm
    have ht := tensLen_small hbk
    refine ⟨?_, by show (setL ts tenant metric limit).1.length ≤ _; omega, fun i hi => ?_⟩
    · show tensLen (setL ts tenant metric limit).1 ≤ _
      unfold setL
      split
      · show tensLen ts ≤ _; omega
      · split
        · have : tensLen (delBy (·.name) tenant ts) ≤ tensLen ts := tensLen_filter _ _
          show tensLen (delBy (·.name) tenant ts) ≤ _
          omega
        · split
          · show tensLen ts ≤ _; omega
          · have h1 := tensLen_ins (key := fun t : TenD => t.name) (t := limT (tenOf ts tenant) metric limit) ts
            obtain ⟨_, _, _, h4, h5⟩ := limT_fit (limit := limit) (tenOf_fit hfs hn) hm
            show tensLen (insBy (·.name) (limT (tenOf ts tenant) metric limit) ts) ≤ _
            unfold tenLen at h1
            omega
    · obtain ⟨_, _, _, h4, h5⟩ := hfl _ (List.getElem_mem hi)
      unfold maxLen
      exact ⟨Nat.le_trans h4 (by omega), Nat.le_trans h5 (by omega)⟩
  · have e : setLimV c now ts tenant metric limit = (0, [], false) := by unfold setLimV; rw [if_pos (by simpa using h0)]
    rw [e]
    exact ⟨Nat.zero_le _, Nat.zero_le _, fun i h => absurd h (by simp)⟩
end Go.Proofs.YtploplddbemelaaGreatDoor

namespace Go.Proofs.YtploplddbemelaaGreatDoor
open Go.RowKit

set_option maxRecDepth 100000 in
set_option maxHeartbeats 1000000 in
theorem szTenant_any (f : TenD) (a1 a2 : Option Addr) (c1 c2 : Nat) (left : Int) (w : World) (h0 : 0 ≤ left) (h1 : left ≤ 1048576) (hs : ShortTen f) (p1 : PairsIn w a1 f.mets) (p2 : PairsIn w a2 f.sers) :
    Calls Tryz.prog 115 #[.agg #[.string f.name, .int .i64 f.limit, .slice a1 f.mets.length c1, .slice a2 f.sers.length c2], .int .i64 left] w fun e w' => e = .returned (.int .i64 (szTen left f)) ∧ Below w.heap.size w w' := by
  obtain ⟨hn, hsm, hlm, hss, hls⟩ := hs
  unfold maxLen at hn
  by_cases k1 : left - f.name.size < 0
  · have E : Hid (szTen left f = -1) := by show _ = _; unfold szTen tenBulk; rw [if_neg]; omega
    clear p1 p2 hsm hlm hss hls
    go_enter Tryz.func115, Tryz.ntmps115
    go_wp2
    go_ret
    exact ⟨ret_int E.out.symm, bnew _ _⟩
  have HM : Hid (∀ W, Below w.heap.size w W → Calls Tryz.prog 147 #[.slice a1 f.mets.length c1, .int .i64 (left - f.name.size)] W fun e w' => e = .returned (.int .i64 (szPairs (left - f.name.size) f.mets)) ∧ Below W.heap.size W w') :=
    fun W hW => szMetricLimitS_any a1 c1 f.mets _ W (by omega) (by omega) (p1.later hW) hsm hlm
  by_cases k2 : (f.mets.length + pairBulk f.mets : Int) ≤ left - f.name.size
  · have e2 : szPairs (left - f.name.size) f.mets = left - f.name.size - f.mets.length - pairBulk f.mets := by unfold szPairs; rw [if_pos k2]
    rw [e2] at HM
    have k2' : ¬ (left - f.name.size - f.mets.length - pairBulk f.mets < 0) := by omega
    have HS : Hid (∀ W, Below w.heap.size w W → Calls Tryz.prog 148 #[.slice a2 f.sers.length c2, .int .i64 (left - f.name.size - f.mets.length - pairBulk f.mets)] W fun e w' => e = .returned (.int .i64 (szPairs (left - f.name.size - f.mets.length - pairBulk f.mets) f.sers)) ∧ Below W.heap.size W w') :=
      fun W hW => szSeriesS_any a2 c2 f.sers _ W (by omega) (by omega) (p2.later hW) hss hls
    by_cases k3 : (f.sers.length + pairBulk f.sers : Int) ≤ left - f.name.size - f.mets.length - pairBulk f.mets
    · have e3 : szPairs (left - f.name.size - f.mets.length - pairBulk f.mets) f.sers = left - f.name.size - f.mets.length - pairBulk f.mets - f.sers.length - pairBulk f.sers := by unfold szPairs; rw [if_pos k3]
      rw [e3] at HS
      have k3' : ¬ (left - f.name.size - f.mets.length - pairBulk f.mets - f.sers.length - pairBulk f.sers < 0) := by omega
      have E : Hid (szTen left f = left - f.name.size - f.mets.length - pairBulk f.mets - f.sers.length - pairBulk f.sers) := by show _ = _; unfold szTen tenBulk; rw [if_pos] <;> omega
      clear p1 p2 hsm hlm hss hls e2 e3 k2 k3
      go_enter Tryz.func115, Tryz.ntmps115
      go_wp2_with fail
      refine (HM.out _ (bnew _ _)).mono ?_
      rintro e w1 ⟨rfl, hb1⟩
      have B1 : Hid (Below w.heap.size w w1) := bto (bnew _ _) hb1
      obtain ⟨hc, hf⟩ := bcell hb1
      clear hb1
      go_wp2_with fail
      refine (HS.out _ B1.out).mono ?_
      rintro e w2 ⟨rfl, hb2⟩
      have B2 : Hid (Below w.heap.size w w2) := bto B1.out hb2
      clear hb2 hc hf
      go_wp2
      go_ret
      exact ⟨ret_int E.out.symm, B2.out⟩
    · have e3 : szPairs (left - f.name.size - f.mets.length - pairBulk f.mets) f.sers = -1 := by unfold szPairs; rw [if_neg k3]
      rw [e3] at HS
      have E : Hid (szTen left f = -1) := by show _ = _; unfold szTen tenBulk; rw [if_neg]; omega
      clear p1 p2 hsm hlm hss hls e2 e3 k2 k3
      go_enter Tryz.func115, Tryz.ntmps115
      go_wp2_with fail
      refine (HM.out _ (bnew _ _)).mono ?_
      rintro e w1 ⟨rfl, hb1⟩
      have B1 : Hid (Below w.heap.size w w1) := bto (bnew _ _) hb1
      obtain ⟨hc, hf⟩ := bcell hb1
      clear hb1
      go_wp2_with fail
      refine (HS.out _ B1.out).mono ?_
      rintro e w2 ⟨rfl, hb2⟩
      have B2 : Hid (Below w.heap.size w w2) := bto B1.out hb2
      clear hb2 hc hf
      go_wp2
      go_ret
      exact ⟨ret_int E.out.symm, B2.out⟩
  · have e2 : szPairs (left - f.name.size) f.mets = -1 := by unfold szPairs; rw [if_neg k2]
    rw [e2] at HM
    have E : Hid (szTen left f = -1) := by show _ = _; unfold szTen tenBulk; rw [if_neg]; omega
    clear p1 p2 hsm hlm hss hls e2 k2
    go_enter Tryz.func115, Tryz.ntmps115
    go_wp2_with fail
    refine (HM.out _ (bnew _ _)).mono ?_
    rintro e w1 ⟨rfl, hb1⟩
    have B1 : Hid (Below w.heap.size w w1) := bto (bnew _ _) hb1
    clear hb1
    go_wp2
    go_ret
    exact ⟨ret_int E.out.symm, B1.out⟩

set_option maxRecDepth 100000 in
set_option maxHeartbeats 1000000 in
theorem szTenantS_any (a : Option Addr) (cap : Nat) (fs : List TenD) (left : Int) (w : World) (h0 : 0 ≤ left) (h1 : left ≤ 1048576) (hf : TensIn w a fs) (hs : ShortT fs) (hlen : fs.length ≤ maxLen) :
    Calls Tryz.prog 66 #[.slice a fs.length cap, .int .i64 left] w fun e w' => e = .returned (.int .i64 (szTens left fs)) ∧ Below w.heap.size w w' := by
  unfold maxLen at hlen
  by_cases c1 : left - fs.length < 0
  · have e : szTens left fs = -1 := by unfold szTens; rw [if_neg]; omega
    rw [e]
    clear hf hs
    go_enter Tryz.func66, Tryz.ntmps66
    go_wp2
    go_ret
    exact ⟨rfl, Below.refl _ _⟩
  · have hne : ¬ (left - fs.length < 0) := c1
    have HF : Hid (TensIn w a fs) := hf
    have HS : Hid (ShortT fs) := hs
    clear hf hs
    go_enter Tryz.func66, Tryz.ntmps66
    go_wp2
    go_loopw [1, 5] (fun l i wr => ∃ k : Nat, k ≤ fs.length ∧ i = .int .i64 k ∧ (tensBulk (fs.take k) : Int) ≤ left - fs.length ∧ l = .int .i64 (left - fs.length - tensBulk (fs.take k)) ∧ Below w.heap.size w wr) (fun _ i _ => fs.length - (intOf i).toNat)
    case atStart => exact ⟨0, Nat.zero_le _, rfl, by simp [tensBulk]; omega, by simp [tensBulk], Below.refl _ _⟩
    case round =>
      obtain ⟨k, hk, rfl, hle, rfl, hbel⟩ := hrel
      by_cases hlt : k < fs.length
      · obtain ⟨b, o, a1, q1, a2, q2, rfl, hb, c0, c1, c2, c3, p1, p2⟩ := (HF.out.later hbel).at hlt
        have hss := HS.out k hlt
        have hts := tensBulk_take_succ fs k hlt
        have htl := tensBulk_take_le fs (k + 1)
        have HC : Hid (∀ L : Int, 0 ≤ L → L ≤ 1048576 → Calls Tryz.prog 115 #[.agg #[.string fs[k].name, .int .i64 fs[k].limit, .slice a1 fs[k].mets.length q1, .slice a2 fs[k].sers.length q2], .int .i64 L] wr fun e w' => e = .returned (.int .i64 (szTen L fs[k])) ∧ Below wr.heap.size wr w') :=
          fun L g0 g1 => szTenant_any fs[k] a1 a2 q1 q2 L wr g0 g1 hss p1 p2
        clear p1 p2 hss
        by_cases c3 : (tenBulk fs[k] : Int) ≤ left - fs.length - tensBulk (fs.take k)
        · have E : Hid (szTen (left - fs.length - tensBulk (fs.take k)) fs[k] = left - fs.length - tensBulk (fs.take (k + 1))) := by
            show _ = _
            unfold szTen; rw [if_pos (by omega), hts]; omega
          have hle2 : (tensBulk (fs.take (k + 1)) : Int) ≤ left - fs.length := by omega
          clear hts
          go_wp2_with fail
          refine (HC.out _ (by omega) (by omega)).mono ?_
          rintro e w' ⟨rfl, hb2⟩
          rw [E.out]
          clear HC
          go_wp2
          exact ⟨⟨k + 1, by omega, by go_num, hle2, rfl, hbel.trans (hb2.mono hbel.size)⟩, by simp [intOf]; omega⟩
        · have E : Hid (szTen (left - fs.length - tensBulk (fs.take k)) fs[k] = -1) := by
            show _ = _
            unfold szTen; rw [if_neg (by omega)]
          have E2 : Hid (szTens left fs = -1) := by show szTens left fs = -1; unfold szTens; rw [if_neg (by omega)]
          clear hts
          go_wp2_with fail
          refine (HC.out _ (by omega) (by omega)).mono ?_
          rintro e w' ⟨rfl, hb2⟩
          rw [E.out]
          clear HC
          go_wp2
          go_ret
          exact ⟨ret_int E2.out.symm, hbel.trans (hb2.mono hbel.size)⟩
      · go_wp2
        go_ret
        have e : fs.take k = fs := List.take_of_length_le (by omega)
        rw [e] at hle ⊢
        exact ⟨ret_int (by unfold szTens; rw [if_pos (by omega)]), hbel⟩

set_option maxHeartbeats 1000000 in
theorem szState_any (a : Option Addr) (cap : Nat) (fs : List TenD) (now : Int) (left : Int) (w : World) (h0 : 0 ≤ left) (h1 : left ≤ 1048576) (hf : TensIn w a fs) (hs : ShortT fs) (hlen : fs.length ≤ maxLen) :
    Calls Tryz.prog 20 #[.agg #[.int .i64 now, .slice a fs.length cap], .int .i64 left] w fun e w' => e = .returned (.int .i64 (szTens left fs)) ∧ Below w.heap.size w w' := by
  have HC : Hid (∀ W, Below w.heap.size w W → Calls Tryz.prog 66 #[.slice a fs.length cap, .int .i64 left] W fun e w' => e = .returned (.int .i64 (szTens left fs)) ∧ Below W.heap.size W w') :=
    fun W hW => szTenantS_any a cap fs left W h0 h1 (hf.later hW) hs hlen
  clear hf hs
  by_cases c : (fs.length + tensBulk fs : Int) ≤ left
  · have e : szTens left fs = left - fs.length - tensBulk fs := by unfold szTens; rw [if_pos c]
    rw [e] at HC ⊢
    have hn : ¬ (left - fs.length - tensBulk fs < 0) := by omega
    generalize left - fs.length - tensBulk fs = L at *
    clear e
    go_enter Tryz.func20, Tryz.ntmps20
    go_wp2_with fail
    refine (HC.out _ (bnew _ _)).mono ?_
    rintro e w1 ⟨rfl, hb1⟩
    have B1 : Hid (Below w.heap.size w w1) := bto (bnew _ _) hb1
    clear hb1
    go_wp2
    go_ret
    exact ⟨rfl, B1.out⟩
  · have e : szTens left fs = -1 := by unfold szTens; rw [if_neg c]
    rw [e] at HC ⊢
    clear e
    go_enter Tryz.func20, Tryz.ntmps20
    go_wp2_with fail
    refine (HC.out _ (bnew _ _)).mono ?_
    rintro e w1 ⟨rfl, hb1⟩
    have B1 : Hid (Below w.heap.size w w1) := bto (bnew _ _) hb1
    clear hb1
    go_wp2
    go_ret
    exact ⟨rfl, B1.out⟩
end Go.Proofs.YtploplddbemelaaGreatDoor

namespace Go.Proofs.YtploplddbemelaaGreatDoor
open Go.RowKit

set_option maxRecDepth 100000 in
set_option maxHeartbeats 1000000 in
theorem toConfig_any (c0 c1 c2 c3 c4 c5 : Int) (w : World) :
    Calls Tryz.prog 22 #[.agg #[.int .i64 c0, .int .i64 c1, .int .i64 c2, .int .i64 c3, .int .i64 c4, .int .i64 c5]] w fun e w' => e = .returned (.agg #[.int .i64 c0, .int .i64 c1, .int .i64 c2, .int .i64 c3, .int .i64 c4, .int .i64 c5]) ∧ Below w.heap.size w w' := by
  go_enter Tryz.func22, Tryz.ntmps22
  go_wp2
  exact bodyPost_ret (v := .agg #[.int .i64 c0, .int .i64 c1, .int .i64 c2, .int .i64 c3, .int .i64 c4, .int .i64 c5]) (by simp [results, Tryz.results22, go_sem]) rfl ⟨rfl, (((Below.refl _ _).alloc (Nat.le_refl _) _).alloc (by simp) _).alloc (by simp; omega) _⟩

end Go.Proofs.YtploplddbemelaaGreatDoor

