import Derived.Test.YtnbkmmmlhlbfoaaGreatDoorProg
import Derived.Test.YtnbkmmmlhlbfoaaGreatDoorJ32DrwB
import Derived.Test.YtnbkmmmlhlbfoaaGreatDoorJ33STenN
namespace Go.Proofs.YtnbkmmmlhlbfoaaGreatDoor
open Go.RowKit
theorem field_sers (n : ByteArray) (l : Int) (a1 : Option Addr) (k1 c1 : Nat) (a2 : Option Addr) (k2 c2 : Nat) (W : World) : (Instr.field 46 (.agg #[.string n, .int .i64 l, .slice a1 k1 c1, .slice a2 k2 c2]) 3).run Tryz.prog W = .ok (.slice a2 k2 c2) W := by
  kernel_rfl
def keyA (bs : List Nat) (ps : List PairD) (x : ByteArray × CSt) : ByteArray × CSt :=
  if 0 < ps.length then
    if (pickX bs x.2 4).1 = 0 then ((ps.getD (pickY bs (pickX bs x.2 4).2 ps.length).1 dPair).s, (pickY bs (pickX bs x.2 4).2 ps.length).2)
    else (x.1, (pickX bs x.2 4).2)
  else x
def keyZ (bs : List Nat) (x : ByteArray × CSt) : ByteArray × CSt :=
  if (pickX bs x.2 10).1 = 9 then spTx bs x.1 (pickX bs x.2 10).2 else (x.1, (pickX bs x.2 10).2)
def admK (bs : List Nat) (ts : List TenD) (x : ByteArray × CSt) : ByteArray × ByteArray := (x.1, (keyZ bs (keyA bs (tenOf ts x.1).sers (keyX bs x.2))).1)
def admB (bs : List Nat) (x : CfgD × Int × List TenD × CSt) : CfgD × Int × List TenD × ByteArray × ByteArray := (x.1, x.2.1, x.2.2.1, admK bs x.2.2.1 (anyTenX bs x.2.2.2))
def admX (bs : List Nat) : CfgD × Int × List TenD × ByteArray × ByteArray := admB bs (bothX bs ⟨0, 0⟩)
theorem tenOf_bulk {ts : List TenD} {name : ByteArray} : pairBulk (tenOf ts name).sers ≤ tensBulk ts ∧ (tenOf ts name).sers.length ≤ tensBulk ts := by
  rcases tenOf_in (ts := ts) (name := name) with ⟨hm, _⟩ | ⟨e, _⟩
  · obtain ⟨i, hi, e⟩ := List.getElem_of_mem hm
    have := tenBulk_mem hi
    rw [e] at this
    unfold tenBulk at this
    omega
  · rw [e]
    exact ⟨Nat.zero_le _, Nat.zero_le _⟩
theorem anyTenX_is (bs : List Nat) (σ : CSt) : (anyTenX bs σ).1.size ≤ 40 ∧ (anyTenX bs σ).2.k ≤ σ.k + 2 := by
  have h0 := pickX_k bs σ 10
  unfold anyTenX
  split
  · have h1 := pickX_k bs (pickX bs σ 10).2 6
    refine ⟨getD_size (L := anyL) (m := 40) ?_ _, by simp only; omega⟩
    unfold anyL
    simp only [List.all_cons, List.all_nil, Bool.and_true, Bool.and_eq_true, decide_eq_true_eq, timesB_size]
    decide
  · have h1 := pickX_k bs (pickX bs σ 10).2 4
    have h2 := tenantX_size bs (pickX bs σ 10).2
    exact ⟨by omega, by show (pickX bs (pickX bs σ 10).2 4).2.k ≤ _; omega⟩
theorem keyX_k (bs : List Nat) (σ : CSt) : (keyX bs σ).2.k ≤ σ.k + 37 := (labelsX_is bs σ).2.2.2
theorem keyA_is (bs : List Nat) (ps : List PairD) (x : ByteArray × CSt) : (keyA bs ps x).1.size ≤ x.1.size + pairBulk ps ∧ (keyA bs ps x).2.k ≤ x.2.k + 3 := by
  have h0 := pickX_k bs x.2 4
  unfold keyA
  split
  · rename_i h
    split
    · have h1 := pickY_k bs (pickX bs x.2 4).2 ps.length
      have h2 := pairBulk_getD (pickY_lt bs (pickX bs x.2 4).2 h)
      simp only
      omega
    · simp only
      omega
  · omega
theorem admK_is (bs : List Nat) (ts : List TenD) (x : ByteArray × CSt) (hb : ts.length + tensBulk ts ≤ 1000000) : (admK bs ts x).2.size ≤ 1014060 := by
  have h1 := keyX_size bs x.2
  have h2 := keyA_is bs (tenOf ts x.1).sers (keyX bs x.2)
  have h3 := (tenOf_bulk (ts := ts) (name := x.1)).1
  show (keyZ bs (keyA bs (tenOf ts x.1).sers (keyX bs x.2))).1.size ≤ _
  unfold keyZ
  split
  · have h4 := spTx_is bs (keyA bs (tenOf ts x.1).sers (keyX bs x.2)).1 (pickX bs (keyA bs (tenOf ts x.1).sers (keyX bs x.2)).2 10).2
    omega
  · simp only
    omega
def AdO (w : World) (CX SX : Nat) (c : CfgD) (now : Int) (ts : List TenD) (wx : World) : Prop :=
  ∃ a cap, Blk wx w.heap.size #[.int .i64 0, .int .i64 0, .int .i64 0, .int .i64 0, .int .i64 0, .int .i64 0] 24 ∧ Blk wx (w.heap.size + 1) #[.int .i64 0, .slice none 0 0] 27 ∧ Blk wx CX #[.int .i64 c.w, .int .i64 c.tl, .int .i64 c.ml, .int .i64 c.sh, .int .i64 c.ha, .int .i64 c.sg] 24 ∧ Blk wx SX #[.int .i64 now, .slice a ts.length cap] 27 ∧ TensN wx (fun g => w.heap.size + 1 + 1 < g) a ts ∧ But (w.heap.size + 1 + 1) w wx
set_option maxRecDepth 100000 in
set_option maxHeartbeats 4000000 in
theorem drawAdmit_core (ac : Option Addr) (cc : Nat) (bs : List Nat) (w : World) (hU : U8X w w.heap.size w.heap.size ac bs) (hn : bs.length ≤ 1048576) (hT : ∀ c, TickC c) (hS : ∀ c, SetC c) (hA : ∀ c, AdmtC c) (hO : SpoC) :
    Calls Tryz.prog 4 #[.slice ac bs.length cc] w fun e w' => ∃ a cap, e = .returned (.tuple #[cfgV (admX bs).1, .agg #[.int .i64 (admX bs).2.1, .slice a (admX bs).2.2.1.length cap], .string (admX bs).2.2.2.1, .string (admX bs).2.2.2.2]) ∧ TensN w' (w.heap.size ≤ ·) a (admX bs).2.2.1 ∧ Below w.heap.size w w' := by
  have HBO : Hid (∀ W, CurX W (w.heap.size + 1 + 1) (w.heap.size + 1 + 1 + 1) bs ⟨0, 0⟩ → Calls Tryz.prog 10 #[.pointer (some ⟨w.heap.size + 1 + 1, 0, none⟩)] W fun e w' => BothO (w.heap.size + 1 + 1) (w.heap.size + 1 + 1 + 1) bs (bothX bs ⟨0, 0⟩) W e w') := fun W h => drawBothX_core (w.heap.size + 1 + 1) (w.heap.size + 1 + 1 + 1) bs ⟨0, 0⟩ W h (by simp) hT hS hA hO
  have HBI := hid (bothX_is bs ⟨0, 0⟩)
  have HU := hid hU
  clear hU hT hS hA hO
  obtain ⟨V, hV⟩ : ∃ V, admX bs = V := ⟨_, rfl⟩
  rw [hV]
  have HV := hid hV
  clear hV
  unfold admX at HV
  generalize bothX bs ⟨0, 0⟩ = Rb at *
  obtain ⟨c, now, ts, σ1⟩ := Rb
  simp only [admB] at HBO HBI HV
  have hk1 : σ1.k ≤ 830 := by have := HBI.out.2; simpa using this
  have hbk : ts.length + tensBulk ts ≤ 1000000 := HBI.out.1
  clear HBI
  have HTE : Hid (∀ W, CurX W (w.heap.size + 1 + 1) (w.heap.size + 1 + 1 + 1) bs σ1 → Calls Tryz.prog 11 #[.pointer (some ⟨w.heap.size + 1 + 1, 0, none⟩)] W fun e w' => e = .returned (.string (anyTenX bs σ1).1) ∧ CurX w' (w.heap.size + 1 + 1) (w.heap.size + 1 + 1 + 1) bs (anyTenX bs σ1).2 ∧ But (w.heap.size + 1 + 1) W w') := fun W h => anyTenX_any (w.heap.size + 1 + 1) (w.heap.size + 1 + 1 + 1) bs σ1 W h (by omega)
  obtain ⟨htz, hk2⟩ := anyTenX_is bs σ1
  generalize anyTenX bs σ1 = Rt at *
  obtain ⟨tn, σ2⟩ := Rt
  simp only [admK] at HTE htz hk2 HV
  have HKE : Hid (∀ W, CurX W (w.heap.size + 1 + 1) (w.heap.size + 1 + 1 + 1) bs σ2 → Calls Tryz.prog 12 #[.pointer (some ⟨w.heap.size + 1 + 1, 0, none⟩)] W fun e w' => e = .returned (.string (keyX bs σ2).1) ∧ CurX w' (w.heap.size + 1 + 1) (w.heap.size + 1 + 1 + 1) bs (keyX bs σ2).2 ∧ But (w.heap.size + 1 + 1) W w') := fun W h => drawKeyX_any (w.heap.size + 1 + 1) (w.heap.size + 1 + 1 + 1) bs σ2 W h (by omega)
  have hkz := keyX_size bs σ2
  have hk3 := keyX_k bs σ2
  generalize keyX bs σ2 = Rk at *
  obtain ⟨ky, σ3⟩ := Rk
  simp only at HKE hkz hk3 HV
  have HTB := hid (tenOf_bulk (ts := ts) (name := tn))
  have HT4 : Hid (∀ (a : Option Addr) (cap : Nat) W, TensN W (fun g => w.heap.size + 1 + 1 < g) a ts → Calls Tryz.prog 13 #[.agg #[.int .i64 now, .slice a ts.length cap], .string tn] W fun e w' => TenW w' (fun g => w.heap.size + 1 + 1 < g) e (tenOf ts tn) ∧ Below W.heap.size W w') := fun a cap W h => l4TenantN_any (fun g => w.heap.size + 1 + 1 < g) now a cap ts tn W h (by omega)
  generalize tenOf ts tn = tnt at *
  unfold TenW at HT4
  have hsl : tnt.sers.length ≤ 1000000 := by have := HTB.out.2; omega
  have hsz : pairBulk tnt.sers ≤ 1000000 := by have := HTB.out.1; omega
  clear HTB
  unfold BothO cfgV at HBO
  unfold cfgV
  go_enter Tryz.func4, Tryz.ntmps4
  go_wp2_with fail
  have RC0 : Hid (Blk (((w.alloc (.cells #[.int .i64 0, .int .i64 0, .int .i64 0, .int .i64 0, .int .i64 0, .int .i64 0] 24)).alloc (.cells #[.int .i64 0, .slice none 0 0] 27)).alloc (.cells #[.slice ac bs.length cc, .int .i64 0, .int .i64 0] 39)) w.heap.size #[.int .i64 0, .int .i64 0, .int .i64 0, .int .i64 0, .int .i64 0, .int .i64 0] 24) := ((Blk.new _ _ _).alloc _).alloc _
  have RS0 : Hid (Blk (((w.alloc (.cells #[.int .i64 0, .int .i64 0, .int .i64 0, .int .i64 0, .int .i64 0, .int .i64 0] 24)).alloc (.cells #[.int .i64 0, .slice none 0 0] 27)).alloc (.cells #[.slice ac bs.length cc, .int .i64 0, .int .i64 0] 39)) (w.heap.size + 1) #[.int .i64 0, .slice none 0 0] 27) := hid (by have := (Blk.new (w.alloc (.cells #[.int .i64 0, .int .i64 0, .int .i64 0, .int .i64 0, .int .i64 0, .int .i64 0] 24)) #[.int .i64 0, .slice none 0 0] 27).alloc (.cells #[.slice ac bs.length cc, .int .i64 0, .int .i64 0] 39); simpa using this)
  have B0 : Hid (Below w.heap.size w (((w.alloc (.cells #[.int .i64 0, .int .i64 0, .int .i64 0, .int .i64 0, .int .i64 0, .int .i64 0] 24)).alloc (.cells #[.int .i64 0, .slice none 0 0] 27)).alloc (.cells #[.slice ac bs.length cc, .int .i64 0, .int .i64 0] 39))) := bto (bto (bnew _ _) (bnew _ _)) (bnew _ _)
  have HC0 : Hid (CurX (((w.alloc (.cells #[.int .i64 0, .int .i64 0, .int .i64 0, .int .i64 0, .int .i64 0, .int .i64 0] 24)).alloc (.cells #[.int .i64 0, .slice none 0 0] 27)).alloc (.cells #[.slice ac bs.length cc, .int .i64 0, .int .i64 0] 39)) (w.heap.size + 1 + 1) (w.heap.size + 1 + 1 + 1) bs ⟨0, 0⟩) := hid (by
    refine ⟨ac, cc, ?_, ⟨by simp, by simp⟩, hn, ?_, by omega, by simp⟩
    · have := Blk.new ((w.alloc (.cells #[.int .i64 0, .int .i64 0, .int .i64 0, .int .i64 0, .int .i64 0, .int .i64 0] 24)).alloc (.cells #[.int .i64 0, .slice none 0 0] 27)) #[.slice ac bs.length cc, .int .i64 0, .int .i64 0] 39
      simpa using this
    · rcases HU.out with h | ⟨b, o, e, hne, hlt, h⟩
      · exact Or.inl h
      · exact Or.inr ⟨b, o, e, by omega, by omega, fun i hi => ⟨(h i hi).1, by rw [World.cell?_of_block (B0.out.block b hlt)]; exact (h i hi).2⟩⟩)
  generalize (((w.alloc (.cells #[.int .i64 0, .int .i64 0, .int .i64 0, .int .i64 0, .int .i64 0, .int .i64 0] 24)).alloc (.cells #[.int .i64 0, .slice none 0 0] 27)).alloc (.cells #[.slice ac bs.length cc, .int .i64 0, .int .i64 0] 39)) = w0 at *
  refine (HBO.out _ HC0.out).mono ?_
  rintro e w1 ⟨a, cap, rfl, ht1, hc1, hb1⟩
  have hz0 : w.heap.size + 1 + 1 < w0.heap.size := HC0.out.lt
  have RC1 : Hid (Blk w1 w.heap.size #[.int .i64 0, .int .i64 0, .int .i64 0, .int .i64 0, .int .i64 0, .int .i64 0] 24) := (hb1.block _ (lt_of_block RC0.out) (by omega)).trans RC0.out
  have RS1 : Hid (Blk w1 (w.heap.size + 1) #[.int .i64 0, .slice none 0 0] 27) := (hb1.block _ (lt_of_block RS0.out) (by omega)).trans RS0.out
  have TN1 : Hid (TensN w1 (fun g => w.heap.size + 1 + 1 < g) a ts) := hid (ht1.mono fun g hg => show w.heap.size + 1 + 1 < g by have : w0.heap.size ≤ g := hg; omega)
  have hb01 : But (w.heap.size + 1 + 1) w w1 := (But.of B0.out).trans hb1
  have H1 : Hid (CurX w1 (w.heap.size + 1 + 1) (w.heap.size + 1 + 1 + 1) bs σ1 ∧ But (w.heap.size + 1 + 1) w w1) := ⟨hc1, hb01⟩
  have hz1 : w.heap.size + 1 + 1 < w1.heap.size := by have := hb1.size; omega
  have hAB : ¬ (fun g => w.heap.size + 1 + 1 < g) (w.heap.size + 1 + 1) := fun e => by have : w.heap.size + 1 + 1 < w.heap.size + 1 + 1 := e; omega
  clear hc1 hb1 ht1 hb01 HC0 RC0 RS0 B0 HBO hz0 w0 HU
  go_upto_region 3 with fail
  have RC2 : Hid (Blk ((w1.alloc (.cells #[.int .i64 c.w, .int .i64 c.tl, .int .i64 c.ml, .int .i64 c.sh, .int .i64 c.ha, .int .i64 c.sg] 24)).alloc (.cells #[.int .i64 now, .slice a ts.length cap] 27)) w.heap.size #[.int .i64 0, .int .i64 0, .int .i64 0, .int .i64 0, .int .i64 0, .int .i64 0] 24) := (RC1.out.alloc _).alloc _
  have RS2 : Hid (Blk ((w1.alloc (.cells #[.int .i64 c.w, .int .i64 c.tl, .int .i64 c.ml, .int .i64 c.sh, .int .i64 c.ha, .int .i64 c.sg] 24)).alloc (.cells #[.int .i64 now, .slice a ts.length cap] 27)) (w.heap.size + 1) #[.int .i64 0, .slice none 0 0] 27) := (RS1.out.alloc _).alloc _
  have CB2 : Hid (Blk ((w1.alloc (.cells #[.int .i64 c.w, .int .i64 c.tl, .int .i64 c.ml, .int .i64 c.sh, .int .i64 c.ha, .int .i64 c.sg] 24)).alloc (.cells #[.int .i64 now, .slice a ts.length cap] 27)) w1.heap.size #[.int .i64 c.w, .int .i64 c.tl, .int .i64 c.ml, .int .i64 c.sh, .int .i64 c.ha, .int .i64 c.sg] 24) := (Blk.new _ _ _).alloc _
  have SB2 : Hid (Blk ((w1.alloc (.cells #[.int .i64 c.w, .int .i64 c.tl, .int .i64 c.ml, .int .i64 c.sh, .int .i64 c.ha, .int .i64 c.sg] 24)).alloc (.cells #[.int .i64 now, .slice a ts.length cap] 27)) (w1.heap.size + 1) #[.int .i64 now, .slice a ts.length cap] 27) := hid (by have := Blk.new (w1.alloc (.cells #[.int .i64 c.w, .int .i64 c.tl, .int .i64 c.ml, .int .i64 c.sh, .int .i64 c.ha, .int .i64 c.sg] 24)) #[.int .i64 now, .slice a ts.length cap] 27; simpa using this)
  have TN2 : Hid (TensN ((w1.alloc (.cells #[.int .i64 c.w, .int .i64 c.tl, .int .i64 c.ml, .int .i64 c.sh, .int .i64 c.ha, .int .i64 c.sg] 24)).alloc (.cells #[.int .i64 now, .slice a ts.length cap] 27)) (fun g => w.heap.size + 1 + 1 < g) a ts) := TN1.out.later (bto (bnew _ _) (bnew _ _))
  have H2 : Hid (CurX ((w1.alloc (.cells #[.int .i64 c.w, .int .i64 c.tl, .int .i64 c.ml, .int .i64 c.sh, .int .i64 c.ha, .int .i64 c.sg] 24)).alloc (.cells #[.int .i64 now, .slice a ts.length cap] 27)) (w.heap.size + 1 + 1) (w.heap.size + 1 + 1 + 1) bs σ1 ∧ But (w.heap.size + 1 + 1) w ((w1.alloc (.cells #[.int .i64 c.w, .int .i64 c.tl, .int .i64 c.ml, .int .i64 c.sh, .int .i64 c.ha, .int .i64 c.sg] 24)).alloc (.cells #[.int .i64 now, .slice a ts.length cap] 27))) := ⟨H1.out.1.later (bto (bnew _ _) (bnew _ _)), H1.out.2.later (bto (bnew _ _) (bnew _ _))⟩
  clear RC1 RS1 TN1 H1
  generalize ((w1.alloc (.cells #[.int .i64 c.w, .int .i64 c.tl, .int .i64 c.ml, .int .i64 c.sh, .int .i64 c.ha, .int .i64 c.sg] 24)).alloc (.cells #[.int .i64 now, .slice a ts.length cap] 27)) = w2 at *
  go_wp2_with fail
  refine (HTE.out _ H2.out.1).mono ?_
  rintro e w3 ⟨rfl, hc3, hb3⟩
  have RC3 := hid (RC2.out.butZ hb3 (by omega))
  have RS3 := hid (RS2.out.butZ hb3 (by omega))
  have CB3 := hid (CB2.out.butZ hb3 (by omega))
  have SB3 := hid (SB2.out.butZ hb3 (by omega))
  have TN3 := hid (TN2.out.but hb3 hAB)
  have H3 := hid (And.intro hc3 (H2.out.2.trans hb3))
  clear hc3 hb3 H2 RC2 RS2 CB2 SB2 TN2 HTE
  go_wp2_with fail
  refine (HKE.out _ H3.out.1).mono ?_
  rintro e w4 ⟨rfl, hc4, hb4⟩
  have RC4 := hid (RC3.out.butZ hb4 (by omega))
  have RS4 := hid (RS3.out.butZ hb4 (by omega))
  have CB4 := hid (CB3.out.butZ hb4 (by omega))
  have SB4 := hid (SB3.out.butZ hb4 (by omega))
  have TN4 := hid (TN3.out.but hb4 hAB)
  have H4 := hid (And.intro hc4 (H3.out.2.trans hb4))
  clear hc4 hb4 H3 RC3 RS3 CB3 SB3 TN3 HKE
  unfold keyA at HV
  have k0 := SB4.out.cell 0
  have k1 := SB4.out.cell 1
  go_wp2_with fail
  refine (HT4.out a cap _ TN4.out).mono ?_
  rintro e w5 ⟨⟨a1, c1, a2, c2, rfl, hp1, hp2⟩, hbb5⟩
  have hc5 := H4.out.1.later hbb5
  have hb5 : But (w.heap.size + 1 + 1) w4 w5 := But.of hbb5
  have RC5 := hid (RC4.out.butZ hb5 (by omega))
  have RS5 := hid (RS4.out.butZ hb5 (by omega))
  have CB5 := hid (CB4.out.butZ hb5 (by omega))
  have SB5 := hid (SB4.out.butZ hb5 (by omega))
  have TN5 := hid (TN4.out.but hb5 hAB)
  have H5 : Hid (CurX w5 (w.heap.size + 1 + 1) (w.heap.size + 1 + 1 + 1) bs σ3 ∧ But (w.heap.size + 1 + 1) w w5) := ⟨hc5, H4.out.2.trans hb5⟩
  have PP5 : Hid (PairsN w5 (fun g => w.heap.size + 1 + 1 < g) a2 tnt.sers) := hp2
  have fd5 := field_sers tnt.name tnt.limit a1 tnt.mets.length c1 a2 tnt.sers.length c2 w5
  clear hc5 hb5 hbb5 hp1 hp2 H4 RC4 RS4 CB4 SB4 TN4 k0 k1
  by_cases hl : 0 < tnt.sers.length
  · rw [if_pos hl] at HV
    have hl' : (0 : Int) < (tnt.sers.length : Nat) := by omega
    have HP4 : Hid (∀ W, CurX W (w.heap.size + 1 + 1) (w.heap.size + 1 + 1 + 1) bs σ3 → Calls Tryz.prog 14 #[.pointer (some ⟨w.heap.size + 1 + 1, 0, none⟩), .int .i64 4] W fun e w' => e = .returned (.int .i64 ((pickX bs σ3 4).1 : Nat)) ∧ CurX w' (w.heap.size + 1 + 1) (w.heap.size + 1 + 1 + 1) bs (pickX bs σ3 4).2 ∧ But (w.heap.size + 1 + 1) W w') := fun W h => curPickX_any (w.heap.size + 1 + 1) (w.heap.size + 1 + 1 + 1) bs σ3 4 W h (by omega) (by omega)
    have v4_lt := pickX_lt bs σ3 (n := 4) (by omega)
    have σ4_k := pickX_k bs σ3 4
    generalize pickX bs σ3 4 = Rv4 at *
    obtain ⟨v4, σ4⟩ := Rv4
    simp only at HP4 v4_lt σ4_k HV
    go_wp2_with fail
    refine (HP4.out _ H5.out.1).mono ?_
    rintro e w6 ⟨rfl, hc6, hb6⟩
    have RC6 := hid (RC5.out.butZ hb6 (by omega))
    have RS6 := hid (RS5.out.butZ hb6 (by omega))
    have CB6 := hid (CB5.out.butZ hb6 (by omega))
    have SB6 := hid (SB5.out.butZ hb6 (by omega))
    have TN6 := hid (TN5.out.but hb6 hAB)
    have H6 := hid (And.intro hc6 (H5.out.2.trans hb6))
    clear hc6 hb6 H5 RC5 RS5 CB5 SB5 TN5 HP4 PP5
    by_cases h4 : v4 = 0
    · subst h4
      rw [if_pos rfl] at HV
      have HPy : Hid (∀ W, CurX W (w.heap.size + 1 + 1) (w.heap.size + 1 + 1 + 1) bs σ4 → Calls Tryz.prog 14 #[.pointer (some ⟨w.heap.size + 1 + 1, 0, none⟩), .int .i64 ((tnt.sers.length : Nat) : Int)] W fun e w' => e = .returned (.int .i64 ((pickY bs σ4 tnt.sers.length).1 : Nat)) ∧ CurX w' (w.heap.size + 1 + 1) (w.heap.size + 1 + 1 + 1) bs (pickY bs σ4 tnt.sers.length).2 ∧ But (w.heap.size + 1 + 1) W w') := fun W h => curPickY_any (w.heap.size + 1 + 1) (w.heap.size + 1 + 1 + 1) bs σ4 tnt.sers.length W h (by omega) (by omega)
      have p_lt := pickY_lt bs σ4 (n := tnt.sers.length) (by omega)
      have σ5_k := pickY_k bs σ4 tnt.sers.length
      generalize pickY bs σ4 tnt.sers.length = Rp at *
      obtain ⟨p, σ5⟩ := Rp
      simp only at HPy p_lt σ5_k HV
      have k0 := SB6.out.cell 0
      have k1 := SB6.out.cell 1
      go_wp2_with fail
      refine (HT4.out a cap _ TN6.out).mono ?_
      rintro e w7 ⟨⟨a1, c1, a2, c2, rfl, hp1, hp2⟩, hbb7⟩
      have hc7 := H6.out.1.later hbb7
      have hb7 : But (w.heap.size + 1 + 1) w6 w7 := But.of hbb7
      have RC7 := hid (RC6.out.butZ hb7 (by omega))
      have RS7 := hid (RS6.out.butZ hb7 (by omega))
      have CB7 := hid (CB6.out.butZ hb7 (by omega))
      have SB7 := hid (SB6.out.butZ hb7 (by omega))
      have TN7 := hid (TN6.out.but hb7 hAB)
      have H7 : Hid (CurX w7 (w.heap.size + 1 + 1) (w.heap.size + 1 + 1 + 1) bs σ4 ∧ But (w.heap.size + 1 + 1) w w7) := ⟨hc7, H6.out.2.trans hb7⟩
      have PP7 : Hid (PairsN w7 (fun g => w.heap.size + 1 + 1 < g) a2 tnt.sers) := hp2
      have fd7 := field_sers tnt.name tnt.limit a1 tnt.mets.length c1 a2 tnt.sers.length c2 w7
      clear hc7 hb7 hbb7 hp1 hp2 H6 RC6 RS6 CB6 SB6 TN6 k0 k1
      have pI : (p : Int) < (tnt.sers.length : Nat) := by omega
      obtain ⟨kb, hkb⟩ : ∃ kb : ByteArray, (tnt.sers.getD p dPair).s = kb := ⟨_, rfl⟩
      rw [hkb] at HV
      have hkbz : kb.size ≤ 1000000 := by have := pairBulk_getD p_lt; rw [hkb] at this; omega
      have HKB : Hid (tnt.sers[p].s = kb) := hid (by rw [← hkb, List.getD_eq_getElem?_getD, List.getElem?_eq_getElem p_lt]; rfl)
      clear hkb
      go_wp2_with fail
      refine (HPy.out _ H7.out.1).mono ?_
      rintro e w8 ⟨rfl, hc8, hb8⟩
      have RC8 := hid (RC7.out.butZ hb8 (by omega))
      have RS8 := hid (RS7.out.butZ hb8 (by omega))
      have CB8 := hid (CB7.out.butZ hb8 (by omega))
      have SB8 := hid (SB7.out.butZ hb8 (by omega))
      have TN8 := hid (TN7.out.but hb8 hAB)
      have H8 : Hid (CurX w8 (w.heap.size + 1 + 1) (w.heap.size + 1 + 1 + 1) bs σ5 ∧ But (w.heap.size + 1 + 1) w w8) := ⟨hc8, H7.out.2.trans hb8⟩
      have PP8 := PP7.out.but hb8 hAB
      obtain ⟨pb, po, rfl, pl, pc⟩ : ∃ b o, a2 = some ⟨b, o, none⟩ ∧ b < w8.heap.size ∧ w8.cell? ⟨b, o + p * 2, none⟩ = some (.string kb) := (by
        rcases PP8 with h | ⟨g, o, e, _, hl8, h⟩
        · rw [h] at p_lt; exact absurd p_lt (by simp)
        · exact ⟨g, o, e, hl8, by rw [← HKB.out]; exact (h p p_lt).1⟩)
      clear PP8 PP7 HKB HPy hc8 hb8 H7 RC7 RS7 CB7 SB7 TN7 HT4
      unfold keyZ at HV
      simp only at HV
      have HPz : Hid (∀ W, CurX W (w.heap.size + 1 + 1) (w.heap.size + 1 + 1 + 1) bs σ5 → Calls Tryz.prog 14 #[.pointer (some ⟨w.heap.size + 1 + 1, 0, none⟩), .int .i64 10] W fun e w' => e = .returned (.int .i64 ((pickX bs σ5 10).1 : Nat)) ∧ CurX w' (w.heap.size + 1 + 1) (w.heap.size + 1 + 1 + 1) bs (pickX bs σ5 10).2 ∧ But (w.heap.size + 1 + 1) W w') := fun W h => curPickX_any (w.heap.size + 1 + 1) (w.heap.size + 1 + 1 + 1) bs σ5 10 W h (by omega) (by omega)
      have vz_lt := pickX_lt bs σ5 (n := 10) (by omega)
      have σz_k := pickX_k bs σ5 10
      generalize pickX bs σ5 10 = Rvz at *
      obtain ⟨vz, σz⟩ := Rvz
      simp only at HPz vz_lt σz_k HV
      go_wp2_with fail
      refine (HPz.out _ H8.out.1).mono ?_
      rintro e w20 ⟨rfl, hc20, hb20⟩
      have RC20 := hid (RC8.out.butZ hb20 (by omega))
      have RS20 := hid (RS8.out.butZ hb20 (by omega))
      have CB20 := hid (CB8.out.butZ hb20 (by omega))
      have SB20 := hid (SB8.out.butZ hb20 (by omega))
      have TN20 := hid (TN8.out.but hb20 hAB)
      have H20 := hid (And.intro hc20 (H8.out.2.trans hb20))
      clear hc20 hb20 H8 RC8 RS8 CB8 SB8 TN8 HPz
      by_cases h9 : vz = 9
      · subst h9
        rw [if_pos rfl] at HV
        have HSX : Hid (∀ W, CurX W (w.heap.size + 1 + 1) (w.heap.size + 1 + 1 + 1) bs σz → Calls Tryz.prog 15 #[.pointer (some ⟨w.heap.size + 1 + 1, 0, none⟩), .string kb] W fun e w' => e = .returned (.string (spTx bs kb σz).1) ∧ CurX w' (w.heap.size + 1 + 1) (w.heap.size + 1 + 1 + 1) bs (spTx bs kb σz).2 ∧ But (w.heap.size + 1 + 1) W w') := fun W h => spoilTxt_any (w.heap.size + 1 + 1) (w.heap.size + 1 + 1 + 1) bs kb σz W h (by omega) (by omega)
        generalize spTx bs kb σz = Rq at *
        obtain ⟨kf, σf⟩ := Rq
        simp only at HSX HV
        go_wp2_with fail
        refine (HSX.out _ H20.out.1).mono ?_
        rintro e w21 ⟨rfl, hc21, hb21⟩
        have RC21 := hid (RC20.out.butZ hb21 (by omega))
        have RS21 := hid (RS20.out.butZ hb21 (by omega))
        have CB21 := hid (CB20.out.butZ hb21 (by omega))
        have SB21 := hid (SB20.out.butZ hb21 (by omega))
        have TN21 := hid (TN20.out.but hb21 hAB)
        have H21 := hid (And.intro hc21 (H20.out.2.trans hb21))
        clear hc21 hb21 H20 RC20 RS20 CB20 SB20 TN20 HSX
        go_upto_region 10 with fail
        refine at_world (C := fun wz => Code.wp Tryz.prog _ _ _ wz) (R := AdO w w1.heap.size (w1.heap.size + 1) c now ts) ⟨a, cap, RC21.out, RS21.out, CB21.out, SB21.out, TN21.out, H21.out.2⟩ ?_
        clear RC21 RS21 CB21 SB21 TN21 H21
        intro wz hbo
        obtain ⟨az, capz, hRC, hRS, hCB, hSB, hTN, hbz⟩ := hbo
        have HTN := hid (box_end (c := c) (now := now) (cap := capz) (hTN.mono fun g hg => show w.heap.size + 1 < g by omega))
        have HBZ := hid hbz
        obtain ⟨c0, c1, c2, c3, c4, c5, s0, s1, r0, r1, r2, r3, r4, r5, q0, q1, q2, q3, q4, q5, x0, x1, y0, y1, n1, n2, n3, n4, n5, n6⟩ := box_cells hRC hRS hCB hSB (by omega) (by omega)
        clear hRC hRS hCB hSB hTN hbz
        go_wp2_with fail
        go_region
        go_wp2
        refine bodyPost_ret (v := .tuple #[.agg #[.int .i64 c.w, .int .i64 c.tl, .int .i64 c.ml, .int .i64 c.sh, .int .i64 c.ha, .int .i64 c.sg], .agg #[.int .i64 now, .slice az ts.length capz], .string tn, .string kf]) (by simp [results, Tryz.results4, go_sem, r0, r1, r2, r3, r4, r5, x0, x1]) rfl ?_
        rw [← HV.out]
        have hbq := (HBZ.out.below (by omega) (Nat.le_refl _)).trans HTN.out.2
        first | exact ⟨az, ⟨capz, rfl⟩, HTN.out.1, hbq⟩ | exact ⟨az, capz, rfl, HTN.out.1, hbq⟩
      · rw [if_neg h9] at HV
        simp only at HV
        have h9' : ¬ ((vz : Int) = 9) := by omega
        go_upto_region 10 with fail
        refine at_world (C := fun wz => Code.wp Tryz.prog _ _ _ wz) (R := AdO w w1.heap.size (w1.heap.size + 1) c now ts) ⟨a, cap, RC20.out, RS20.out, CB20.out, SB20.out, TN20.out, H20.out.2⟩ ?_
        clear RC20 RS20 CB20 SB20 TN20 H20
        intro wz hbo
        obtain ⟨az, capz, hRC, hRS, hCB, hSB, hTN, hbz⟩ := hbo
        have HTN := hid (box_end (c := c) (now := now) (cap := capz) (hTN.mono fun g hg => show w.heap.size + 1 < g by omega))
        have HBZ := hid hbz
        obtain ⟨c0, c1, c2, c3, c4, c5, s0, s1, r0, r1, r2, r3, r4, r5, q0, q1, q2, q3, q4, q5, x0, x1, y0, y1, n1, n2, n3, n4, n5, n6⟩ := box_cells hRC hRS hCB hSB (by omega) (by omega)
        clear hRC hRS hCB hSB hTN hbz
        go_wp2_with fail
        go_region
        go_wp2
        refine bodyPost_ret (v := .tuple #[.agg #[.int .i64 c.w, .int .i64 c.tl, .int .i64 c.ml, .int .i64 c.sh, .int .i64 c.ha, .int .i64 c.sg], .agg #[.int .i64 now, .slice az ts.length capz], .string tn, .string kb]) (by simp [results, Tryz.results4, go_sem, r0, r1, r2, r3, r4, r5, x0, x1]) rfl ?_
        rw [← HV.out]
        have hbq := (HBZ.out.below (by omega) (Nat.le_refl _)).trans HTN.out.2
        first | exact ⟨az, ⟨capz, rfl⟩, HTN.out.1, hbq⟩ | exact ⟨az, capz, rfl, HTN.out.1, hbq⟩
    · rw [if_neg h4] at HV
      have h4' : ¬ ((v4 : Int) = 0) := by omega
      clear HT4
      unfold keyZ at HV
      simp only at HV
      have HPz : Hid (∀ W, CurX W (w.heap.size + 1 + 1) (w.heap.size + 1 + 1 + 1) bs σ4 → Calls Tryz.prog 14 #[.pointer (some ⟨w.heap.size + 1 + 1, 0, none⟩), .int .i64 10] W fun e w' => e = .returned (.int .i64 ((pickX bs σ4 10).1 : Nat)) ∧ CurX w' (w.heap.size + 1 + 1) (w.heap.size + 1 + 1 + 1) bs (pickX bs σ4 10).2 ∧ But (w.heap.size + 1 + 1) W w') := fun W h => curPickX_any (w.heap.size + 1 + 1) (w.heap.size + 1 + 1 + 1) bs σ4 10 W h (by omega) (by omega)
      have vz_lt := pickX_lt bs σ4 (n := 10) (by omega)
      have σz_k := pickX_k bs σ4 10
      generalize pickX bs σ4 10 = Rvz at *
      obtain ⟨vz, σz⟩ := Rvz
      simp only at HPz vz_lt σz_k HV
      go_wp2_with fail
      refine (HPz.out _ H6.out.1).mono ?_
      rintro e w20 ⟨rfl, hc20, hb20⟩
      have RC20 := hid (RC6.out.butZ hb20 (by omega))
      have RS20 := hid (RS6.out.butZ hb20 (by omega))
      have CB20 := hid (CB6.out.butZ hb20 (by omega))
      have SB20 := hid (SB6.out.butZ hb20 (by omega))
      have TN20 := hid (TN6.out.but hb20 hAB)
      have H20 := hid (And.intro hc20 (H6.out.2.trans hb20))
      clear hc20 hb20 H6 RC6 RS6 CB6 SB6 TN6 HPz
      by_cases h9 : vz = 9
      · subst h9
        rw [if_pos rfl] at HV
        have HSX : Hid (∀ W, CurX W (w.heap.size + 1 + 1) (w.heap.size + 1 + 1 + 1) bs σz → Calls Tryz.prog 15 #[.pointer (some ⟨w.heap.size + 1 + 1, 0, none⟩), .string ky] W fun e w' => e = .returned (.string (spTx bs ky σz).1) ∧ CurX w' (w.heap.size + 1 + 1) (w.heap.size + 1 + 1 + 1) bs (spTx bs ky σz).2 ∧ But (w.heap.size + 1 + 1) W w') := fun W h => spoilTxt_any (w.heap.size + 1 + 1) (w.heap.size + 1 + 1 + 1) bs ky σz W h (by omega) (by omega)
        generalize spTx bs ky σz = Rq at *
        obtain ⟨kf, σf⟩ := Rq
        simp only at HSX HV
        go_wp2_with fail
        refine (HSX.out _ H20.out.1).mono ?_
        rintro e w21 ⟨rfl, hc21, hb21⟩
        have RC21 := hid (RC20.out.butZ hb21 (by omega))
        have RS21 := hid (RS20.out.butZ hb21 (by omega))
        have CB21 := hid (CB20.out.butZ hb21 (by omega))
        have SB21 := hid (SB20.out.butZ hb21 (by omega))
        have TN21 := hid (TN20.out.but hb21 hAB)
        have H21 := hid (And.intro hc21 (H20.out.2.trans hb21))
        clear hc21 hb21 H20 RC20 RS20 CB20 SB20 TN20 HSX
        go_upto_region 10 with fail
        refine at_world (C := fun wz => Code.wp Tryz.prog _ _ _ wz) (R := AdO w w1.heap.size (w1.heap.size + 1) c now ts) ⟨a, cap, RC21.out, RS21.out, CB21.out, SB21.out, TN21.out, H21.out.2⟩ ?_
        clear RC21 RS21 CB21 SB21 TN21 H21
        intro wz hbo
        obtain ⟨az, capz, hRC, hRS, hCB, hSB, hTN, hbz⟩ := hbo
        have HTN := hid (box_end (c := c) (now := now) (cap := capz) (hTN.mono fun g hg => show w.heap.size + 1 < g by omega))
        have HBZ := hid hbz
        obtain ⟨c0, c1, c2, c3, c4, c5, s0, s1, r0, r1, r2, r3, r4, r5, q0, q1, q2, q3, q4, q5, x0, x1, y0, y1, n1, n2, n3, n4, n5, n6⟩ := box_cells hRC hRS hCB hSB (by omega) (by omega)
        clear hRC hRS hCB hSB hTN hbz
        go_wp2_with fail
        go_region
        go_wp2
        refine bodyPost_ret (v := .tuple #[.agg #[.int .i64 c.w, .int .i64 c.tl, .int .i64 c.ml, .int .i64 c.sh, .int .i64 c.ha, .int .i64 c.sg], .agg #[.int .i64 now, .slice az ts.length capz], .string tn, .string kf]) (by simp [results, Tryz.results4, go_sem, r0, r1, r2, r3, r4, r5, x0, x1]) rfl ?_
        rw [← HV.out]
        have hbq := (HBZ.out.below (by omega) (Nat.le_refl _)).trans HTN.out.2
        first | exact ⟨az, ⟨capz, rfl⟩, HTN.out.1, hbq⟩ | exact ⟨az, capz, rfl, HTN.out.1, hbq⟩
      · rw [if_neg h9] at HV
        simp only at HV
        have h9' : ¬ ((vz : Int) = 9) := by omega
        go_upto_region 10 with fail
        refine at_world (C := fun wz => Code.wp Tryz.prog _ _ _ wz) (R := AdO w w1.heap.size (w1.heap.size + 1) c now ts) ⟨a, cap, RC20.out, RS20.out, CB20.out, SB20.out, TN20.out, H20.out.2⟩ ?_
        clear RC20 RS20 CB20 SB20 TN20 H20
        intro wz hbo
        obtain ⟨az, capz, hRC, hRS, hCB, hSB, hTN, hbz⟩ := hbo
        have HTN := hid (box_end (c := c) (now := now) (cap := capz) (hTN.mono fun g hg => show w.heap.size + 1 < g by omega))
        have HBZ := hid hbz
        obtain ⟨c0, c1, c2, c3, c4, c5, s0, s1, r0, r1, r2, r3, r4, r5, q0, q1, q2, q3, q4, q5, x0, x1, y0, y1, n1, n2, n3, n4, n5, n6⟩ := box_cells hRC hRS hCB hSB (by omega) (by omega)
        clear hRC hRS hCB hSB hTN hbz
        go_wp2_with fail
        go_region
        go_wp2
        refine bodyPost_ret (v := .tuple #[.agg #[.int .i64 c.w, .int .i64 c.tl, .int .i64 c.ml, .int .i64 c.sh, .int .i64 c.ha, .int .i64 c.sg], .agg #[.int .i64 now, .slice az ts.length capz], .string tn, .string ky]) (by simp [results, Tryz.results4, go_sem, r0, r1, r2, r3, r4, r5, x0, x1]) rfl ?_
        rw [← HV.out]
        have hbq := (HBZ.out.below (by omega) (Nat.le_refl _)).trans HTN.out.2
        first | exact ⟨az, ⟨capz, rfl⟩, HTN.out.1, hbq⟩ | exact ⟨az, capz, rfl, HTN.out.1, hbq⟩
  · rw [if_neg hl] at HV
    have hl' : ¬ ((0 : Int) < (tnt.sers.length : Nat)) := by omega
    clear HT4 PP5
    unfold keyZ at HV
    simp only at HV
    have HPz : Hid (∀ W, CurX W (w.heap.size + 1 + 1) (w.heap.size + 1 + 1 + 1) bs σ3 → Calls Tryz.prog 14 #[.pointer (some ⟨w.heap.size + 1 + 1, 0, none⟩), .int .i64 10] W fun e w' => e = .returned (.int .i64 ((pickX bs σ3 10).1 : Nat)) ∧ CurX w' (w.heap.size + 1 + 1) (w.heap.size + 1 + 1 + 1) bs (pickX bs σ3 10).2 ∧ But (w.heap.size + 1 + 1) W w') := fun W h => curPickX_any (w.heap.size + 1 + 1) (w.heap.size + 1 + 1 + 1) bs σ3 10 W h (by omega) (by omega)
    have vz_lt := pickX_lt bs σ3 (n := 10) (by omega)
    have σz_k := pickX_k bs σ3 10
    generalize pickX bs σ3 10 = Rvz at *
    obtain ⟨vz, σz⟩ := Rvz
    simp only at HPz vz_lt σz_k HV
    go_wp2_with fail
    refine (HPz.out _ H5.out.1).mono ?_
    rintro e w20 ⟨rfl, hc20, hb20⟩
    have RC20 := hid (RC5.out.butZ hb20 (by omega))
    have RS20 := hid (RS5.out.butZ hb20 (by omega))
    have CB20 := hid (CB5.out.butZ hb20 (by omega))
    have SB20 := hid (SB5.out.butZ hb20 (by omega))
    have TN20 := hid (TN5.out.but hb20 hAB)
    have H20 := hid (And.intro hc20 (H5.out.2.trans hb20))
    clear hc20 hb20 H5 RC5 RS5 CB5 SB5 TN5 HPz
    by_cases h9 : vz = 9
    · subst h9
      rw [if_pos rfl] at HV
      have HSX : Hid (∀ W, CurX W (w.heap.size + 1 + 1) (w.heap.size + 1 + 1 + 1) bs σz → Calls Tryz.prog 15 #[.pointer (some ⟨w.heap.size + 1 + 1, 0, none⟩), .string ky] W fun e w' => e = .returned (.string (spTx bs ky σz).1) ∧ CurX w' (w.heap.size + 1 + 1) (w.heap.size + 1 + 1 + 1) bs (spTx bs ky σz).2 ∧ But (w.heap.size + 1 + 1) W w') := fun W h => spoilTxt_any (w.heap.size + 1 + 1) (w.heap.size + 1 + 1 + 1) bs ky σz W h (by omega) (by omega)
      generalize spTx bs ky σz = Rq at *
      obtain ⟨kf, σf⟩ := Rq
      simp only at HSX HV
      go_wp2_with fail
      refine (HSX.out _ H20.out.1).mono ?_
      rintro e w21 ⟨rfl, hc21, hb21⟩
      have RC21 := hid (RC20.out.butZ hb21 (by omega))
      have RS21 := hid (RS20.out.butZ hb21 (by omega))
      have CB21 := hid (CB20.out.butZ hb21 (by omega))
      have SB21 := hid (SB20.out.butZ hb21 (by omega))
      have TN21 := hid (TN20.out.but hb21 hAB)
      have H21 := hid (And.intro hc21 (H20.out.2.trans hb21))
      clear hc21 hb21 H20 RC20 RS20 CB20 SB20 TN20 HSX
      go_upto_region 10 with fail
      refine at_world (C := fun wz => Code.wp Tryz.prog _ _ _ wz) (R := AdO w w1.heap.size (w1.heap.size + 1) c now ts) ⟨a, cap, RC21.out, RS21.out, CB21.out, SB21.out, TN21.out, H21.out.2⟩ ?_
      clear RC21 RS21 CB21 SB21 TN21 H21
      intro wz hbo
      obtain ⟨az, capz, hRC, hRS, hCB, hSB, hTN, hbz⟩ := hbo
      have HTN := hid (box_end (c := c) (now := now) (cap := capz) (hTN.mono fun g hg => show w.heap.size + 1 < g by omega))
      have HBZ := hid hbz
      obtain ⟨c0, c1, c2, c3, c4, c5, s0, s1, r0, r1, r2, r3, r4, r5, q0, q1, q2, q3, q4, q5, x0, x1, y0, y1, n1, n2, n3, n4, n5, n6⟩ := box_cells hRC hRS hCB hSB (by omega) (by omega)
      clear hRC hRS hCB hSB hTN hbz
      go_wp2_with fail
      go_region
      go_wp2
      refine bodyPost_ret (v := .tuple #[.agg #[.int .i64 c.w, .int .i64 c.tl, .int .i64 c.ml, .int .i64 c.sh, .int .i64 c.ha, .int .i64 c.sg], .agg #[.int .i64 now, .slice az ts.length capz], .string tn, .string kf]) (by simp [results, Tryz.results4, go_sem, r0, r1, r2, r3, r4, r5, x0, x1]) rfl ?_
      rw [← HV.out]
      have hbq := (HBZ.out.below (by omega) (Nat.le_refl _)).trans HTN.out.2
      first | exact ⟨az, ⟨capz, rfl⟩, HTN.out.1, hbq⟩ | exact ⟨az, capz, rfl, HTN.out.1, hbq⟩
    · rw [if_neg h9] at HV
      simp only at HV
      have h9' : ¬ ((vz : Int) = 9) := by omega
      go_upto_region 10 with fail
      refine at_world (C := fun wz => Code.wp Tryz.prog _ _ _ wz) (R := AdO w w1.heap.size (w1.heap.size + 1) c now ts) ⟨a, cap, RC20.out, RS20.out, CB20.out, SB20.out, TN20.out, H20.out.2⟩ ?_
      clear RC20 RS20 CB20 SB20 TN20 H20
      intro wz hbo
      obtain ⟨az, capz, hRC, hRS, hCB, hSB, hTN, hbz⟩ := hbo
      have HTN := hid (box_end (c := c) (now := now) (cap := capz) (hTN.mono fun g hg => show w.heap.size + 1 < g by omega))
      have HBZ := hid hbz
      obtain ⟨c0, c1, c2, c3, c4, c5, s0, s1, r0, r1, r2, r3, r4, r5, q0, q1, q2, q3, q4, q5, x0, x1, y0, y1, n1, n2, n3, n4, n5, n6⟩ := box_cells hRC hRS hCB hSB (by omega) (by omega)
      clear hRC hRS hCB hSB hTN hbz
      go_wp2_with fail
      go_region
      go_wp2
      refine bodyPost_ret (v := .tuple #[.agg #[.int .i64 c.w, .int .i64 c.tl, .int .i64 c.ml, .int .i64 c.sh, .int .i64 c.ha, .int .i64 c.sg], .agg #[.int .i64 now, .slice az ts.length capz], .string tn, .string ky]) (by simp [results, Tryz.results4, go_sem, r0, r1, r2, r3, r4, r5, x0, x1]) rfl ?_
      rw [← HV.out]
      have hbq := (HBZ.out.below (by omega) (Nat.le_refl _)).trans HTN.out.2
      first | exact ⟨az, ⟨capz, rfl⟩, HTN.out.1, hbq⟩ | exact ⟨az, capz, rfl, HTN.out.1, hbq⟩
end Go.Proofs.YtnbkmmmlhlbfoaaGreatDoor
