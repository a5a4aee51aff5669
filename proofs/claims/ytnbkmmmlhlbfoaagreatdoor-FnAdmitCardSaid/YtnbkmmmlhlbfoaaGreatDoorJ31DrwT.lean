import Derived.Test.YtnbkmmmlhlbfoaaGreatDoorProg
import Derived.Test.YtnbkmmmlhlbfoaaGreatDoorJ11SplX
import Derived.Test.YtnbkmmmlhlbfoaaGreatDoorJ13TenS
import Derived.Deep.RegionLaw
import Derived.Test.YtnbkmmmlhlbfoaaGreatDoorJ30StepE
namespace Go.Proofs.YtnbkmmmlhlbfoaaGreatDoor
open Go.RowKit
def TickC (c : CfgD) : Prop := ∀ (now : Int) (a : Option Addr) (cap : Nat) (ts : List TenD) (b : Int) (W : World), TensIn W a ts → ts.length + tensBulk ts ≤ 1048576 → Calls Tryz.prog 63 #[cfgV c, .agg #[.int .i64 now, .slice a ts.length cap], .int .i64 b] W fun e w' => ∃ a cap, e = .returned (.tuple #[.agg #[.int .i64 (tickV c now ts b).1, .slice a (tickV c now ts b).2.1.length cap], .bool (tickV c now ts b).2.2]) ∧ TensOwn w' W.heap.size a (tickV c now ts b).2.1 ∧ Below W.heap.size W w'
def SetC (c : CfgD) : Prop := ∀ (now : Int) (a : Option Addr) (cap : Nat) (ts : List TenD) (t m : ByteArray) (b : Int) (W : World), TensIn W a ts → ts.length + tensBulk ts ≤ 1048576 → t.size ≤ 1048576 → m.size ≤ 1048576 → Calls Tryz.prog 65 #[cfgV c, .agg #[.int .i64 now, .slice a ts.length cap], .string t, .string m, .int .i64 b] W fun e w' => ∃ a cap, e = .returned (.tuple #[.agg #[.int .i64 (setLimV c now ts t m b).1, .slice a (setLimV c now ts t m b).2.1.length cap], .bool (setLimV c now ts t m b).2.2]) ∧ TensOwn w' W.heap.size a (setLimV c now ts t m b).2.1 ∧ Below W.heap.size W w'
def AdmtC (c : CfgD) : Prop := ∀ (now : Int) (a : Option Addr) (cap : Nat) (ts : List TenD) (t m : ByteArray) (W : World), TensIn W a ts → ts.length + tensBulk ts ≤ 1048576 → t.size ≤ 1048576 → m.size ≤ 1048576 → Calls Tryz.prog 5 #[cfgV c, .agg #[.int .i64 now, .slice a ts.length cap], .string t, .string m] W fun e w' => ∃ a cap, e = .returned (.tuple #[.agg #[.int .i64 (admitV c now ts t m).1, .slice a (admitV c now ts t m).2.1.length cap], .int .i64 ((admitV c now ts t m).2.2 : Nat)]) ∧ TensOwn w' W.heap.size a (admitV c now ts t m).2.1 ∧ Below W.heap.size W w'
theorem TensOwn.monoC {w : World} {C D : Nat} {a : Option Addr} {ts : List TenD} (h : TensOwn w C a ts) (hD : D ≤ C) : TensOwn w D a ts := by
  have tag : ∀ {T : Nat → Nat} {n : Nat} {a : Option Addr} {ps : List PairD}, PairsTag w C T n a ps → PairsTag w D T n a ps := fun h => by
    rcases h with h | ⟨g, o, cur, t, e, hC, hT, hb, h⟩
    · exact Or.inl h
    · exact Or.inr ⟨g, o, cur, t, e, Nat.le_trans hD hC, hT, hb, h⟩
  rcases h with h | ⟨g, o, cur, t, T, e, hC, hg, hT, h⟩
  · exact Or.inl h
  · refine Or.inr ⟨g, o, cur, t, T, e, Nat.le_trans hD hC, hg, hT, fun i hi => ?_⟩
    obtain ⟨a1, c1, a2, c2, h0, h1, h2, h3, h4, h5⟩ := h i hi
    exact ⟨a1, c1, a2, c2, h0, h1, h2, h3, tag h4, tag h5⟩
theorem TensOwn.keepC {w w' : World} {C : Nat} {a : Option Addr} {ts : List TenD} (h : TensOwn w C a ts) (hk : ∀ g, C ≤ g → g < w.heap.size → w'.heap[g]? = w.heap[g]?) : TensOwn w' C a ts := by
  rcases h with h | ⟨g, o, cur, t, T, rfl, hC, hg, hT, h⟩
  · exact Or.inl h
  · have hkg := hk g hC (lt_of_block hg)
    exact Or.inr ⟨g, o, cur, t, T, rfl, hC, hkg.trans hg, hT, fun i hi => (h i hi).keep (fun j _ => World.cell?_of_block hkg) fun g' hg' hC' _ => ⟨hk g' hC' hg', rfl⟩⟩
theorem TensOwn.butC {w w' : World} {B C : Nat} {a : Option Addr} {ts : List TenD} (h : TensOwn w C a ts) (hb : But B w w') (hB : B < C) : TensOwn w' C a ts := h.keepC fun g hg hl => hb.block g hl (by omega)
theorem Blk.butY {w w' : World} {B g : Nat} {cs : Array Value} {t : TypeId} (h : Blk w g cs t) (hb : But B w w') (hg : g ≠ B) : Blk w' g cs t := (hb.block g (lt_of_block h) hg).trans h
theorem dst_end {B P S : Nat} {bs : List Nat} {υ : CSt} {w w3 w4 : World} {a4 : Option Addr} {ts' : List TenD} {x y : Value} {cs : Array Value} {ty : TypeId} (hc : CurX w3 B P bs υ) (hb : But B w w3) (h4 : Below w3.heap.size w3 w4) (ho : TensOwn w4 w3.heap.size a4 ts') (hS : w.heap.size ≤ S) (hPw : P ≤ w.heap.size) (hSw : S < w3.heap.size) (hZ : Blk w4 S cs ty) :
    CurX ((w4.setCell ⟨S, 0, none⟩ x).setCell ⟨S, 1, none⟩ y) B P bs υ ∧ But B w ((w4.setCell ⟨S, 0, none⟩ x).setCell ⟨S, 1, none⟩ y) ∧ TensOwn ((w4.setCell ⟨S, 0, none⟩ x).setCell ⟨S, 1, none⟩ y) (S + 1) a4 ts' ∧ (∀ g, g ≠ S → g < w4.heap.size → ((w4.setCell ⟨S, 0, none⟩ x).setCell ⟨S, 1, none⟩ y).heap[g]? = w4.heap[g]?) ∧ Blk ((w4.setCell ⟨S, 0, none⟩ x).setCell ⟨S, 1, none⟩ y) S ((cs.setIfInBounds 0 x).setIfInBounds 1 y) ty := by
  have hbS : But S w4 ((w4.setCell ⟨S, 0, none⟩ x).setCell ⟨S, 1, none⟩ y) := ((But.refl S w4).setCell 0 _).setCell 1 _
  have hBe : Below w.heap.size w4 ((w4.setCell ⟨S, 0, none⟩ x).setCell ⟨S, 1, none⟩ y) := ((Below.refl _ _).setCell hS _).setCell hS _
  have hk : ∀ g, g ≠ S → g < w4.heap.size → ((w4.setCell ⟨S, 0, none⟩ x).setCell ⟨S, 1, none⟩ y).heap[g]? = w4.heap[g]? := fun g hg hl => hbS.block g hl hg
  exact ⟨(hc.later h4).below (hBe.mono hPw), (hb.later h4).below_to hBe, (ho.keepC fun g hg hl => hk g (by omega) hl).monoC (by omega), hk, (hZ.set 0 x).set 1 y⟩
set_option maxRecDepth 100000 in
set_option maxHeartbeats 4000000 in
theorem drawStateX_core (B P : Nat) (c : CfgD) (bs : List Nat) (σ : CSt) (w : World) (h : CurX w B P bs σ) (hN : σ.k ≤ 1000) (hT : TickC c) (hS : SetC c) (hA : AdmtC c) :
    Calls Tryz.prog 35 #[.pointer (some ⟨B, 0, none⟩), cfgV c] w fun e w' => ∃ a cap, e = .returned (.agg #[.int .i64 (stateX c bs σ).1, .slice a (stateX c bs σ).2.1.length cap]) ∧ TensN w' (w.heap.size ≤ ·) a (stateX c bs σ).2.1 ∧ CurX w' B P bs (stateX c bs σ).2.2 ∧ But B w w' := by
  have HT := hid hT
  have HSE := hid hS
  have HA := hid hA
  have HC : Hid (CurX w B P bs σ) := h
  have hlt := h.lt
  have hPw := h.up.2
  have HP1 : Hid (∀ W, CurX W B P bs σ → Calls Tryz.prog 14 #[.pointer (some ⟨B, 0, none⟩), .int .i64 16] W fun e w' => e = .returned (.int .i64 ((pickX bs σ 16).1 : Nat)) ∧ CurX w' B P bs (pickX bs σ 16).2 ∧ But B W w') := fun W h => curPickX_any B P bs σ 16 W h (by omega) (by omega)
  have hv := pickX_lt bs σ (n := 16) (by omega)
  have hk1 := pickX_k bs σ 16
  clear h hT hS hA
  unfold stateX
  generalize pickX bs σ 16 = R at *
  obtain ⟨v, τ⟩ := R
  simp only at HP1 hv hk1 ⊢
  obtain ⟨⟨fn, ft, fs⟩, hF⟩ : ∃ F : Int × List TenD × CSt, stK c bs τ (4 + v) = F := ⟨_, rfl⟩
  rw [hF]
  have HF := hid hF
  clear hF
  simp only
  unfold cfgV
  go_enter Tryz.func35, Tryz.ntmps35
  go_wp2_with fail
  have X0 : Hid (Blk (((w.alloc (.cells #[.int .i64 c.w, .int .i64 c.tl, .int .i64 c.ml, .int .i64 c.sh, .int .i64 c.ha, .int .i64 c.sg] 24)).alloc (.cells #[.int .i64 0, .slice none 0 0] 27)).alloc (.cells #[.int .i64 0, .slice none 0 0] 27)) w.heap.size #[.int .i64 c.w, .int .i64 c.tl, .int .i64 c.ml, .int .i64 c.sh, .int .i64 c.ha, .int .i64 c.sg] 24) := ((Blk.new _ _ _).alloc _).alloc _
  have Y0 : Hid (Blk (((w.alloc (.cells #[.int .i64 c.w, .int .i64 c.tl, .int .i64 c.ml, .int .i64 c.sh, .int .i64 c.ha, .int .i64 c.sg] 24)).alloc (.cells #[.int .i64 0, .slice none 0 0] 27)).alloc (.cells #[.int .i64 0, .slice none 0 0] 27)) (w.heap.size + 1) #[.int .i64 0, .slice none 0 0] 27) := hid (by have := (Blk.new (w.alloc (.cells #[.int .i64 c.w, .int .i64 c.tl, .int .i64 c.ml, .int .i64 c.sh, .int .i64 c.ha, .int .i64 c.sg] 24)) #[.int .i64 0, .slice none 0 0] 27).alloc (.cells #[.int .i64 0, .slice none 0 0] 27); simpa using this)
  have Z0 : Hid (Blk (((w.alloc (.cells #[.int .i64 c.w, .int .i64 c.tl, .int .i64 c.ml, .int .i64 c.sh, .int .i64 c.ha, .int .i64 c.sg] 24)).alloc (.cells #[.int .i64 0, .slice none 0 0] 27)).alloc (.cells #[.int .i64 0, .slice none 0 0] 27)) (w.heap.size + 1 + 1) #[.int .i64 0, .slice none 0 0] 27) := hid (by have := Blk.new ((w.alloc (.cells #[.int .i64 c.w, .int .i64 c.tl, .int .i64 c.ml, .int .i64 c.sh, .int .i64 c.ha, .int .i64 c.sg] 24)).alloc (.cells #[.int .i64 0, .slice none 0 0] 27)) #[.int .i64 0, .slice none 0 0] 27; simpa using this)
  have B0 : Hid (Below w.heap.size w (((w.alloc (.cells #[.int .i64 c.w, .int .i64 c.tl, .int .i64 c.ml, .int .i64 c.sh, .int .i64 c.ha, .int .i64 c.sg] 24)).alloc (.cells #[.int .i64 0, .slice none 0 0] 27)).alloc (.cells #[.int .i64 0, .slice none 0 0] 27))) := bto (bto (bnew _ _) (bnew _ _)) (bnew _ _)
  generalize (((w.alloc (.cells #[.int .i64 c.w, .int .i64 c.tl, .int .i64 c.ml, .int .i64 c.sh, .int .i64 c.ha, .int .i64 c.sg] 24)).alloc (.cells #[.int .i64 0, .slice none 0 0] 27)).alloc (.cells #[.int .i64 0, .slice none 0 0] 27)) = W0 at *
  refine (HP1.out _ (HC.out.later B0.out)).mono ?_
  rintro e w1 ⟨rfl, hc1, hb1⟩
  have X1 : Hid (Blk w1 w.heap.size #[.int .i64 c.w, .int .i64 c.tl, .int .i64 c.ml, .int .i64 c.sh, .int .i64 c.ha, .int .i64 c.sg] 24) := (hb1.block _ (lt_of_block X0.out) (by omega)).trans X0.out
  have Y1 : Hid (Blk w1 (w.heap.size + 1) #[.int .i64 0, .slice none 0 0] 27) := (hb1.block _ (lt_of_block Y0.out) (by omega)).trans Y0.out
  have Z1 : Hid (Blk w1 (w.heap.size + 1 + 1) #[.int .i64 0, .slice none 0 0] 27) := (hb1.block _ (lt_of_block Z0.out) (by omega)).trans Z0.out
  have H1 : Hid (CurX w1 B P bs τ ∧ But B w w1) := ⟨hc1, (But.of B0.out).trans hb1⟩
  have hs1 : w.heap.size + 1 + 1 < w1.heap.size := lt_of_block Z1.out
  clear hc1 hb1 HC HP1 X0 Y0 Z0 B0 W0
  have hv' : (v : Int) < 16 := by omega
  go_wp2
  go_loopw [7] (fun i wr => ∃ (k : Nat) (a : Option Addr) (cap : Nat), k ≤ 4 + v ∧ i = .int .i64 (k : Nat) ∧ Hid (CurX wr B P bs (stK c bs τ k).2.2 ∧ But B w wr ∧ TensOwn wr (w.heap.size + 1 + 1 + 1) a (stK c bs τ k).2.1) ∧ Hid (Blk wr w.heap.size #[.int .i64 c.w, .int .i64 c.tl, .int .i64 c.ml, .int .i64 c.sh, .int .i64 c.ha, .int .i64 c.sg] 24) ∧ Hid (Blk wr (w.heap.size + 1) #[.int .i64 0, .slice none 0 0] 27) ∧ Hid (Blk wr (w.heap.size + 1 + 1) #[.int .i64 (stK c bs τ k).1, .slice a (stK c bs τ k).2.1.length cap] 27) ∧ w.heap.size + 1 + 1 < wr.heap.size) (fun i _ => 4 + v - (intOf i).toNat)
  case atStart => exact ⟨0, none, 0, Nat.zero_le _, rfl, ⟨H1.out.1, H1.out.2, Or.inl rfl⟩, X1.out, Y1.out, Z1.out, hs1⟩
  case round =>
    clear H1 X1 Y1 Z1 hs1
    obtain ⟨k, a, cap, hk, rfl, HR, HX, HY, HZ, hsr⟩ := hrel
    by_cases hgo : k < 4 + v
    · have hgo' : (k : Int) < 4 + (v : Int) := by omega
      have HSM := hid (stK_is c bs τ k)
      have hkk := stK_k c bs τ k
      have HS1 : Hid (stK c bs τ (k + 1) = chgX c bs (stK c bs τ k)) := hid rfl
      generalize stK c bs τ k = A at *
      obtain ⟨now, ts, υ⟩ := A
      simp only at HR HZ HSM hkk HS1
      unfold chgX at HS1
      simp only at HS1
      have HP8 : Hid (∀ W, CurX W B P bs υ → Calls Tryz.prog 14 #[.pointer (some ⟨B, 0, none⟩), .int .i64 8] W fun e w' => e = .returned (.int .i64 ((pickX bs υ 8).1 : Nat)) ∧ CurX w' B P bs (pickX bs υ 8).2 ∧ But B W w') := fun W h => curPickX_any B P bs υ 8 W h (by omega) (by omega)
      have hp8 := pickX_lt bs υ (n := 8) (by omega)
      have hk8 := pickX_k bs υ 8
      generalize pickX bs υ 8 = R8 at *
      obtain ⟨v8, υ8⟩ := R8
      simp only at HP8 hp8 hk8 HS1
      go_wp2_with fail
      refine (HP8.out _ HR.out.1).mono ?_
      rintro e w2 ⟨rfl, hc2, hb2⟩
      have H2 : Hid (CurX w2 B P bs υ8 ∧ But B w w2 ∧ TensOwn w2 (w.heap.size + 1 + 1 + 1) a ts) := ⟨hc2, HR.out.2.1.trans hb2, HR.out.2.2.butC hb2 (by omega)⟩
      have X2 : Hid (Blk w2 w.heap.size #[.int .i64 c.w, .int .i64 c.tl, .int .i64 c.ml, .int .i64 c.sh, .int .i64 c.ha, .int .i64 c.sg] 24) := (hb2.block _ (lt_of_block HX.out) (by omega)).trans HX.out
      have Y2 : Hid (Blk w2 (w.heap.size + 1) #[.int .i64 0, .slice none 0 0] 27) := (hb2.block _ (lt_of_block HY.out) (by omega)).trans HY.out
      have Z2 : Hid (Blk w2 (w.heap.size + 1 + 1) #[.int .i64 now, .slice a ts.length cap] 27) := (hb2.block _ (lt_of_block HZ.out) (by omega)).trans HZ.out
      have hs2 : w.heap.size + 1 + 1 < w2.heap.size := lt_of_block Z2.out
      clear hc2 hb2 HR HX HY HZ HP8 hsr
      by_cases h0 : v8 = 0
      · subst h0
        rw [if_pos rfl] at HS1
        have HP3 : Hid (∀ W, CurX W B P bs υ8 → Calls Tryz.prog 14 #[.pointer (some ⟨B, 0, none⟩), .int .i64 3] W fun e w' => e = .returned (.int .i64 ((pickX bs υ8 3).1 : Nat)) ∧ CurX w' B P bs (pickX bs υ8 3).2 ∧ But B W w') := fun W h => curPickX_any B P bs υ8 3 W h (by omega) (by omega)
        have v3_lt := pickX_lt bs υ8 (n := 3) (by omega)
        have υ3_k := pickX_k bs υ8 3
        generalize pickX bs υ8 3 = Rv3 at *
        obtain ⟨v3, υ3⟩ := Rv3
        simp only at HP3 v3_lt υ3_k HS1
        have hv3 : (v3 : Int) < 3 := by omega
        have hwr : IntKind.i64.wrap (1 + (v3 : Int)) = 1 + (v3 : Int) := by
          simp only [IntKind.wrap, IntKind.bits, IntKind.signed]
          simp
          omega
        have c0 := X2.out.cell 0
        have c1 := X2.out.cell 1
        have c2 := X2.out.cell 2
        have c3 := X2.out.cell 3
        have c4 := X2.out.cell 4
        have c5 := X2.out.cell 5
        have z0 := Z2.out.cell 0
        have z1 := Z2.out.cell 1
        go_wp2_with fail
        go_region_law
          (first
            | ((fail_if_success (have q := p3)); refine step_enterE (f := 14) (args := #[.pointer (some ⟨B, 0, none⟩), .int .i64 3]) rfl (by go_simp) ?_; refine (HP3.out _ H2.out.1.drew).mono ?_; rintro e wa ⟨rfl, p3, hba'⟩; have hba : But B w2 wa := (ButDrewE (But.refl B w2)).trans hba'; have Xa := hid (X2.out.butY hba (by omega)); have Ya := hid (Y2.out.butY hba (by omega)); have Za := hid (Z2.out.butY hba (by omega)); have c0 := Xa.out.cell 0; have c1 := Xa.out.cell 1; have c2 := Xa.out.cell 2; have c3 := Xa.out.cell 3; have c4 := Xa.out.cell 4; have c5 := Xa.out.cell 5; have z0 := Za.out.cell 0; have z1 := Za.out.cell 1; have Ta : Hid (TensOwn wa (w.heap.size + 1 + 1 + 1) a ts ∧ But B w wa) := ⟨H2.out.2.2.butC hba (by omega), H2.out.2.1.trans hba⟩; refine ⟨_, rfl, ?_⟩)
            | (have q := p3; clear q; refine step_enterE (f := 63) (args := #[.agg #[.int .i64 c.w, .int .i64 c.tl, .int .i64 c.ml, .int .i64 c.sh, .int .i64 c.ha, .int .i64 c.sg], .agg #[.int .i64 now, .slice a ts.length cap], .int .i64 (1 + (v3 : Int))]) rfl (by go_simp) ?_; refine (HT.out now a cap ts (1 + (v3 : Int)) _ Ta.out.1.tens (by have := HSM.out.1; omega)).mono ?_; rintro e wb ⟨ab, capb, rfl, hob, hbb⟩; have Xb := hid (Xa.out.later hbb); have Yb := hid (Ya.out.later hbb); have Zb := hid (Za.out.later hbb); have y0 := Zb.out.cell 0; have yf0 := Zb.out.free 0; have y1 := Zb.out.cell 1; have yf1 := Zb.out.free 1; refine ⟨_, rfl, ?_⟩))
        all_goals (
          have HE := hid (dst_end (x := .int .i64 (tickV c now ts (1 + (v3 : Int))).1) (y := .slice ab (tickV c now ts (1 + (v3 : Int))).2.1.length capb) p3 Ta.out.2 hbb hob (show w.heap.size ≤ w.heap.size + 1 + 1 by omega) hPw (lt_of_block Za.out) Zb.out)
          have hsb := lt_of_block Zb.out
          clear c0 c1 c2 c3 c4 c5 z0 z1 y0 y1 yf0 yf1
          go_wp2
          refine ⟨⟨k + 1, ab, capb, by omega, by go_num, by rw [HS1.out]; exact ⟨HE.out.1, HE.out.2.1, HE.out.2.2.1⟩, (HE.out.2.2.2.1 _ (by omega) (lt_of_block Xb.out)).trans Xb.out, (HE.out.2.2.2.1 _ (by omega) (lt_of_block Yb.out)).trans Yb.out, ?_, lt_of_block HE.out.2.2.2.2⟩, by simp [intOf]; omega⟩
          rw [HS1.out]
          exact HE.out.2.2.2.2)
      by_cases h1 : v8 = 1
      · subst h1
        rw [if_neg h0, if_pos rfl] at HS1
        have HDT : Hid (∀ W, CurX W B P bs υ8 → Calls Tryz.prog 39 #[.pointer (some ⟨B, 0, none⟩)] W fun e w' => e = .returned (.string (tenantX bs υ8).1) ∧ CurX w' B P bs (tenantX bs υ8).2 ∧ But B W w') := fun W h => drawTenantX_any B P bs υ8 W h (by omega)
        have htk : (tenantX bs υ8).2.k ≤ υ8.k + 1 := pickX_k bs υ8 4
        have htz := tenantX_size bs υ8
        generalize tenantX bs υ8 = Rtn at *
        obtain ⟨tn, υt⟩ := Rtn
        simp only at HDT htk htz HS1
        have HDM : Hid (∀ W, CurX W B P bs υt → Calls Tryz.prog 64 #[.pointer (some ⟨B, 0, none⟩)] W fun e w' => e = .returned (.string (metricX bs υt).1) ∧ CurX w' B P bs (metricX bs υt).2 ∧ But B W w') := fun W h => drawMetricX_any B P bs υt W h (by omega)
        have hmk : (metricX bs υt).2.k ≤ υt.k + 1 := pickX_k bs υt 4
        have hmz := metricX_size bs υt
        generalize metricX bs υt = Rme at *
        obtain ⟨me, υm⟩ := Rme
        simp only at HDM hmk hmz HS1
        have HP3 : Hid (∀ W, CurX W B P bs υm → Calls Tryz.prog 14 #[.pointer (some ⟨B, 0, none⟩), .int .i64 8] W fun e w' => e = .returned (.int .i64 ((pickX bs υm 8).1 : Nat)) ∧ CurX w' B P bs (pickX bs υm 8).2 ∧ But B W w') := fun W h => curPickX_any B P bs υm 8 W h (by omega) (by omega)
        have v3_lt := pickX_lt bs υm (n := 8) (by omega)
        have υ3_k := pickX_k bs υm 8
        generalize pickX bs υm 8 = Rv3 at *
        obtain ⟨v3, υ3⟩ := Rv3
        simp only at HP3 v3_lt υ3_k HS1
        have hv3 : (v3 : Int) < 8 := by omega
        have hwr : IntKind.i64.wrap ((v3 : Int) - 1) = (v3 : Int) - 1 := by
          simp only [IntKind.wrap, IntKind.bits, IntKind.signed]
          simp
          omega
        go_wp2_with fail
        refine (HDT.out _ H2.out.1).mono ?_
        rintro e w3 ⟨rfl, hc3, hb3⟩
        have X3 := hid (X2.out.butY hb3 (by omega))
        have Y3 := hid (Y2.out.butY hb3 (by omega))
        have Z3 := hid (Z2.out.butY hb3 (by omega))
        have H3 := hid (And.intro hc3 (And.intro (H2.out.2.1.trans hb3) (H2.out.2.2.butC hb3 (by omega))))
        have hs3 : w.heap.size + 1 + 1 < w3.heap.size := lt_of_block Z3.out
        clear hc3 hb3 H2 X2 Y2 Z2 hs2 HDT
        go_wp2_with fail
        refine (HDM.out _ H3.out.1).mono ?_
        rintro e w4 ⟨rfl, hc4, hb4⟩
        have X4 := hid (X3.out.butY hb4 (by omega))
        have Y4 := hid (Y3.out.butY hb4 (by omega))
        have Z4 := hid (Z3.out.butY hb4 (by omega))
        have H4 := hid (And.intro hc4 (And.intro (H3.out.2.1.trans hb4) (H3.out.2.2.butC hb4 (by omega))))
        have hs4 : w.heap.size + 1 + 1 < w4.heap.size := lt_of_block Z4.out
        clear hc4 hb4 H3 X3 Y3 Z3 hs3 HDM
        have c0 := X4.out.cell 0
        have c1 := X4.out.cell 1
        have c2 := X4.out.cell 2
        have c3 := X4.out.cell 3
        have c4 := X4.out.cell 4
        have c5 := X4.out.cell 5
        have z0 := Z4.out.cell 0
        have z1 := Z4.out.cell 1
        go_wp2_with fail
        go_region_law
          (first
            | ((fail_if_success (have q := p3)); refine step_enterE (f := 14) (args := #[.pointer (some ⟨B, 0, none⟩), .int .i64 8]) rfl (by go_simp) ?_; refine (HP3.out _ H4.out.1.drew).mono ?_; rintro e wa ⟨rfl, p3, hba'⟩; have hba : But B w4 wa := (ButDrewE (But.refl B w4)).trans hba'; have Xa := hid (X4.out.butY hba (by omega)); have Ya := hid (Y4.out.butY hba (by omega)); have Za := hid (Z4.out.butY hba (by omega)); have c0 := Xa.out.cell 0; have c1 := Xa.out.cell 1; have c2 := Xa.out.cell 2; have c3 := Xa.out.cell 3; have c4 := Xa.out.cell 4; have c5 := Xa.out.cell 5; have z0 := Za.out.cell 0; have z1 := Za.out.cell 1; have Ta : Hid (TensOwn wa (w.heap.size + 1 + 1 + 1) a ts ∧ But B w wa) := ⟨H4.out.2.2.butC hba (by omega), H4.out.2.1.trans hba⟩; refine ⟨_, rfl, ?_⟩)
            | (have q := p3; clear q; refine step_enterE (f := 65) (args := #[.agg #[.int .i64 c.w, .int .i64 c.tl, .int .i64 c.ml, .int .i64 c.sh, .int .i64 c.ha, .int .i64 c.sg], .agg #[.int .i64 now, .slice a ts.length cap], .string tn, .string me, .int .i64 ((v3 : Int) - 1)]) rfl (by go_simp) ?_; refine (HSE.out now a cap ts tn me ((v3 : Int) - 1) _ Ta.out.1.tens (by have := HSM.out.1; omega) (by omega) (by omega)).mono ?_; rintro e wb ⟨ab, capb, rfl, hob, hbb⟩; have Xb := hid (Xa.out.later hbb); have Yb := hid (Ya.out.later hbb); have Zb := hid (Za.out.later hbb); have y0 := Zb.out.cell 0; have yf0 := Zb.out.free 0; have y1 := Zb.out.cell 1; have yf1 := Zb.out.free 1; refine ⟨_, rfl, ?_⟩))
        all_goals (
          have HE := hid (dst_end (x := .int .i64 (setLimV c now ts tn me ((v3 : Int) - 1)).1) (y := .slice ab (setLimV c now ts tn me ((v3 : Int) - 1)).2.1.length capb) p3 Ta.out.2 hbb hob (show w.heap.size ≤ w.heap.size + 1 + 1 by omega) hPw (lt_of_block Za.out) Zb.out)
          have hsb := lt_of_block Zb.out
          clear c0 c1 c2 c3 c4 c5 z0 z1 y0 y1 yf0 yf1
          go_wp2
          refine ⟨⟨k + 1, ab, capb, by omega, by go_num, by rw [HS1.out]; exact ⟨HE.out.1, HE.out.2.1, HE.out.2.2.1⟩, (HE.out.2.2.2.1 _ (by omega) (lt_of_block Xb.out)).trans Xb.out, (HE.out.2.2.2.1 _ (by omega) (lt_of_block Yb.out)).trans Yb.out, ?_, lt_of_block HE.out.2.2.2.2⟩, by simp [intOf]; omega⟩
          rw [HS1.out]
          exact HE.out.2.2.2.2)
      · rw [if_neg h0, if_neg h1] at HS1
        have n0 : ¬ ((v8 : Int) = 0) := by omega
        have n1 : ¬ ((v8 : Int) = 1) := by omega
        have HDT : Hid (∀ W, CurX W B P bs υ8 → Calls Tryz.prog 39 #[.pointer (some ⟨B, 0, none⟩)] W fun e w' => e = .returned (.string (tenantX bs υ8).1) ∧ CurX w' B P bs (tenantX bs υ8).2 ∧ But B W w') := fun W h => drawTenantX_any B P bs υ8 W h (by omega)
        have htk : (tenantX bs υ8).2.k ≤ υ8.k + 1 := pickX_k bs υ8 4
        have htz := tenantX_size bs υ8
        generalize tenantX bs υ8 = Rtn at *
        obtain ⟨tn, υt⟩ := Rtn
        simp only at HDT htk htz HS1
        have HDK : Hid (∀ W, CurX W B P bs υt → Calls Tryz.prog 12 #[.pointer (some ⟨B, 0, none⟩)] W fun e w' => e = .returned (.string (keyX bs υt).1) ∧ CurX w' B P bs (keyX bs υt).2 ∧ But B W w') := fun W h => drawKeyX_any B P bs υt W h (by omega)
        have hyz := keyX_size bs υt
        generalize keyX bs υt = Rky at *
        obtain ⟨ky, υy⟩ := Rky
        simp only at HDK hyz HS1
        go_wp2_with fail
        refine (HDT.out _ H2.out.1).mono ?_
        rintro e w3 ⟨rfl, hc3, hb3⟩
        have X3 := hid (X2.out.butY hb3 (by omega))
        have Y3 := hid (Y2.out.butY hb3 (by omega))
        have Z3 := hid (Z2.out.butY hb3 (by omega))
        have H3 := hid (And.intro hc3 (And.intro (H2.out.2.1.trans hb3) (H2.out.2.2.butC hb3 (by omega))))
        have hs3 : w.heap.size + 1 + 1 < w3.heap.size := lt_of_block Z3.out
        clear hc3 hb3 H2 X2 Y2 Z2 hs2 HDT
        have c0 := X3.out.cell 0
        have c1 := X3.out.cell 1
        have c2 := X3.out.cell 2
        have c3 := X3.out.cell 3
        have c4 := X3.out.cell 4
        have c5 := X3.out.cell 5
        have z0 := Z3.out.cell 0
        have z1 := Z3.out.cell 1
        go_wp2_with fail
        go_region_law
          (first
            | ((fail_if_success (have q := p3)); refine step_enterE (f := 12) (args := #[.pointer (some ⟨B, 0, none⟩)]) rfl (by go_simp) ?_; refine (HDK.out _ H3.out.1.drew).mono ?_; rintro e wa ⟨rfl, p3, hba'⟩; have hba : But B w3 wa := (ButDrewE (But.refl B w3)).trans hba'; have Xa := hid (X3.out.butY hba (by omega)); have Ya := hid (Y3.out.butY hba (by omega)); have Za := hid (Z3.out.butY hba (by omega)); have c0 := Xa.out.cell 0; have c1 := Xa.out.cell 1; have c2 := Xa.out.cell 2; have c3 := Xa.out.cell 3; have c4 := Xa.out.cell 4; have c5 := Xa.out.cell 5; have z0 := Za.out.cell 0; have z1 := Za.out.cell 1; have Ta : Hid (TensOwn wa (w.heap.size + 1 + 1 + 1) a ts ∧ But B w wa) := ⟨H3.out.2.2.butC hba (by omega), H3.out.2.1.trans hba⟩; refine ⟨_, rfl, ?_⟩)
            | (have q := p3; clear q; refine step_enterE (f := 5) (args := #[.agg #[.int .i64 c.w, .int .i64 c.tl, .int .i64 c.ml, .int .i64 c.sh, .int .i64 c.ha, .int .i64 c.sg], .agg #[.int .i64 now, .slice a ts.length cap], .string tn, .string ky]) rfl (by go_simp) ?_; refine (HA.out now a cap ts tn ky _ Ta.out.1.tens (by have := HSM.out.1; omega) (by omega) (by omega)).mono ?_; rintro e wb ⟨ab, capb, rfl, hob, hbb⟩; have Xb := hid (Xa.out.later hbb); have Yb := hid (Ya.out.later hbb); have Zb := hid (Za.out.later hbb); have y0 := Zb.out.cell 0; have yf0 := Zb.out.free 0; have y1 := Zb.out.cell 1; have yf1 := Zb.out.free 1; refine ⟨_, rfl, ?_⟩))
        all_goals (
          have HE := hid (dst_end (x := .int .i64 (admitV c now ts tn ky).1) (y := .slice ab (admitV c now ts tn ky).2.1.length capb) p3 Ta.out.2 hbb hob (show w.heap.size ≤ w.heap.size + 1 + 1 by omega) hPw (lt_of_block Za.out) Zb.out)
          have hsb := lt_of_block Zb.out
          clear c0 c1 c2 c3 c4 c5 z0 z1 y0 y1 yf0 yf1
          go_wp2
          refine ⟨⟨k + 1, ab, capb, by omega, by go_num, by rw [HS1.out]; exact ⟨HE.out.1, HE.out.2.1, HE.out.2.2.1⟩, (HE.out.2.2.2.1 _ (by omega) (lt_of_block Xb.out)).trans Xb.out, (HE.out.2.2.2.1 _ (by omega) (lt_of_block Yb.out)).trans Yb.out, ?_, lt_of_block HE.out.2.2.2.2⟩, by simp [intOf]; omega⟩
          rw [HS1.out]
          exact HE.out.2.2.2.2)
    · have hgo' : ¬ ((k : Int) < 4 + (v : Int)) := by omega
      have hke : k = 4 + v := by omega
      subst hke
      have z0 := HZ.out.cell 0
      have z1 := HZ.out.cell 1
      have r0 := HY.out.cell 0
      have r1 := HY.out.cell 1
      have s0 := HY.out.free 0
      have s1 := HY.out.free 1
      rw [HF.out] at HR z0 z1
      clear HF HZ
      simp only at HR z0 z1
      go_wp2
      refine bodyPost_ret (v := .agg #[.int .i64 fn, .slice a ft.length cap]) (by simp [results, Tryz.results35, go_sem, r0, r1]) rfl ?_
      have hq1 : w.heap.size ≤ w.heap.size + 1 := by omega
      have hBe : Below w.heap.size wr ((wr.setCell ⟨w.heap.size + 1, 0, none⟩ (.int .i64 fn)).setCell ⟨w.heap.size + 1, 1, none⟩ (.slice a ft.length cap)) := ((Below.refl _ _).setCell hq1 _).setCell hq1 _
      have hbS : But (w.heap.size + 1) wr ((wr.setCell ⟨w.heap.size + 1, 0, none⟩ (.int .i64 fn)).setCell ⟨w.heap.size + 1, 1, none⟩ (.slice a ft.length cap)) := ((But.refl _ wr).setCell 0 _).setCell 1 _
      have hfin := (HR.out.2.2.butC hbS (by omega)).toN (A := (w.heap.size ≤ ·)) (fun g hg => show w.heap.size ≤ g by omega)
      first | exact ⟨a, ⟨cap, rfl⟩, hfin, HR.out.1.below (hBe.mono hPw), HR.out.2.1.below_to hBe⟩ | exact ⟨a, cap, rfl, hfin, HR.out.1.below (hBe.mono hPw), HR.out.2.1.below_to hBe⟩
end Go.Proofs.YtnbkmmmlhlbfoaaGreatDoor
