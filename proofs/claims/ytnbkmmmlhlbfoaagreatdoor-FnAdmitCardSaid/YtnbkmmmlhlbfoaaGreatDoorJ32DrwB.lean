import Derived.Test.YtnbkmmmlhlbfoaaGreatDoorProg
import Derived.Test.YtnbkmmmlhlbfoaaGreatDoorJ13TenS
import Derived.Test.YtnbkmmmlhlbfoaaGreatDoorJ30StepE
import Derived.Test.YtnbkmmmlhlbfoaaGreatDoorJ31DrwT
import Derived.Deep.AppendLies
namespace Go.Proofs.YtnbkmmmlhlbfoaaGreatDoor
open Go.RowKit Go.Lib
theorem PairsN.monoL {w : World} {A A' : Nat → Prop} {a : Option Addr} {ps : List PairD} (h : PairsN w A a ps) (hA : ∀ g, A g → g < w.heap.size → A' g) : PairsN w A' a ps := by
  rcases h with h | ⟨g, o, e, q, hlt, h⟩
  · exact Or.inl h
  · exact Or.inr ⟨g, o, e, hA g q hlt, hlt, h⟩
theorem TensN.monoL {w : World} {A A' : Nat → Prop} {a : Option Addr} {ts : List TenD} (h : TensN w A a ts) (hA : ∀ g, A g → g < w.heap.size → A' g) : TensN w A' a ts := by
  rcases h with h | ⟨b, o, e, q, hlt, h⟩
  · exact Or.inl h
  · refine Or.inr ⟨b, o, e, hA b q hlt, hlt, fun i hi => ?_⟩
    obtain ⟨a1, c1, a2, c2, h0, h1, h2, h3, h4, h5⟩ := h i hi
    exact ⟨a1, c1, a2, c2, h0, h1, h2, h3, h4.monoL hA, h5.monoL hA⟩
def BoO (B P : Nat) (bs : List Nat) (w : World) (CX SX : Nat) (V : CfgD × Int × List TenD × CSt) (wx : World) : Prop :=
  ∃ a cap, Blk wx w.heap.size #[.int .i64 0, .int .i64 0, .int .i64 0, .int .i64 0, .int .i64 0, .int .i64 0] 24 ∧ Blk wx (w.heap.size + 1) #[.int .i64 0, .slice none 0 0] 27 ∧ Blk wx CX #[.int .i64 V.1.w, .int .i64 V.1.tl, .int .i64 V.1.ml, .int .i64 V.1.sh, .int .i64 V.1.ha, .int .i64 V.1.sg] 24 ∧ Blk wx SX #[.int .i64 V.2.1, .slice a V.2.2.1.length cap] 27 ∧ TensN wx (fun g => w.heap.size + 1 < g) a V.2.2.1 ∧ CurX wx B P bs V.2.2.2 ∧ But B w wx
theorem box_cells {w wz : World} {CX SX : Nat} {c : CfgD} {now : Int} {a : Option Addr} {cap : Nat} {ts : List TenD} (hRC : Blk wz w.heap.size #[.int .i64 0, .int .i64 0, .int .i64 0, .int .i64 0, .int .i64 0, .int .i64 0] 24) (hRS : Blk wz (w.heap.size + 1) #[.int .i64 0, .slice none 0 0] 27) (hCB : Blk wz CX #[.int .i64 c.w, .int .i64 c.tl, .int .i64 c.ml, .int .i64 c.sh, .int .i64 c.ha, .int .i64 c.sg] 24) (hSB : Blk wz SX #[.int .i64 now, .slice a ts.length cap] 27) (hC : w.heap.size + 1 < CX) (hS : w.heap.size + 1 < SX) :
    wz.cell? ⟨CX, 0, none⟩ = some (.int .i64 c.w) ∧ wz.cell? ⟨CX, 1, none⟩ = some (.int .i64 c.tl) ∧ wz.cell? ⟨CX, 2, none⟩ = some (.int .i64 c.ml) ∧ wz.cell? ⟨CX, 3, none⟩ = some (.int .i64 c.sh) ∧ wz.cell? ⟨CX, 4, none⟩ = some (.int .i64 c.ha) ∧ wz.cell? ⟨CX, 5, none⟩ = some (.int .i64 c.sg) ∧ wz.cell? ⟨SX, 0, none⟩ = some (.int .i64 now) ∧ wz.cell? ⟨SX, 1, none⟩ = some (.slice a ts.length cap) ∧ wz.cell? ⟨w.heap.size, 0, none⟩ = some (.int .i64 0) ∧ wz.cell? ⟨w.heap.size, 1, none⟩ = some (.int .i64 0) ∧ wz.cell? ⟨w.heap.size, 2, none⟩ = some (.int .i64 0) ∧ wz.cell? ⟨w.heap.size, 3, none⟩ = some (.int .i64 0) ∧ wz.cell? ⟨w.heap.size, 4, none⟩ = some (.int .i64 0) ∧ wz.cell? ⟨w.heap.size, 5, none⟩ = some (.int .i64 0) ∧ wz.frozen? ⟨w.heap.size, 0, none⟩ = false ∧ wz.frozen? ⟨w.heap.size, 1, none⟩ = false ∧ wz.frozen? ⟨w.heap.size, 2, none⟩ = false ∧ wz.frozen? ⟨w.heap.size, 3, none⟩ = false ∧ wz.frozen? ⟨w.heap.size, 4, none⟩ = false ∧ wz.frozen? ⟨w.heap.size, 5, none⟩ = false ∧ wz.cell? ⟨w.heap.size + 1, 0, none⟩ = some (.int .i64 0) ∧ wz.cell? ⟨w.heap.size + 1, 1, none⟩ = some (.slice none 0 0) ∧ wz.frozen? ⟨w.heap.size + 1, 0, none⟩ = false ∧ wz.frozen? ⟨w.heap.size + 1, 1, none⟩ = false ∧ ¬ (CX = w.heap.size) ∧ ¬ (SX = w.heap.size) ∧ ¬ (w.heap.size = CX) ∧ ¬ (w.heap.size = SX) ∧ ¬ (CX = w.heap.size + 1) ∧ ¬ (SX = w.heap.size + 1) :=
  ⟨hCB.cell 0, hCB.cell 1, hCB.cell 2, hCB.cell 3, hCB.cell 4, hCB.cell 5, hSB.cell 0, hSB.cell 1, hRC.cell 0, hRC.cell 1, hRC.cell 2, hRC.cell 3, hRC.cell 4, hRC.cell 5, hRC.free 0, hRC.free 1, hRC.free 2, hRC.free 3, hRC.free 4, hRC.free 5, hRS.cell 0, hRS.cell 1, hRS.free 0, hRS.free 1, by omega, by omega, by omega, by omega, by omega, by omega⟩
theorem box_end {w wz : World} {c : CfgD} {now : Int} {a : Option Addr} {cap : Nat} {ts : List TenD} (h : TensN wz (fun g => w.heap.size + 1 < g) a ts) :
    TensN ((((((((wz.setCell ⟨w.heap.size, 0, none⟩ (.int .i64 c.w)).setCell ⟨w.heap.size, 1, none⟩ (.int .i64 c.tl)).setCell ⟨w.heap.size, 2, none⟩ (.int .i64 c.ml)).setCell ⟨w.heap.size, 3, none⟩ (.int .i64 c.sh)).setCell ⟨w.heap.size, 4, none⟩ (.int .i64 c.ha)).setCell ⟨w.heap.size, 5, none⟩ (.int .i64 c.sg)).setCell ⟨w.heap.size + 1, 0, none⟩ (.int .i64 now)).setCell ⟨w.heap.size + 1, 1, none⟩ (.slice a ts.length cap)).drew (w.heap.size ≤ ·) a ts ∧ Below w.heap.size wz ((((((((wz.setCell ⟨w.heap.size, 0, none⟩ (.int .i64 c.w)).setCell ⟨w.heap.size, 1, none⟩ (.int .i64 c.tl)).setCell ⟨w.heap.size, 2, none⟩ (.int .i64 c.ml)).setCell ⟨w.heap.size, 3, none⟩ (.int .i64 c.sh)).setCell ⟨w.heap.size, 4, none⟩ (.int .i64 c.ha)).setCell ⟨w.heap.size, 5, none⟩ (.int .i64 c.sg)).setCell ⟨w.heap.size + 1, 0, none⟩ (.int .i64 now)).setCell ⟨w.heap.size + 1, 1, none⟩ (.slice a ts.length cap)).drew := by
  have hR0 : w.heap.size ≤ w.heap.size := Nat.le_refl _
  have hR1 : w.heap.size ≤ w.heap.size + 1 := by omega
  have hbe : Below w.heap.size wz ((((((((wz.setCell ⟨w.heap.size, 0, none⟩ (.int .i64 c.w)).setCell ⟨w.heap.size, 1, none⟩ (.int .i64 c.tl)).setCell ⟨w.heap.size, 2, none⟩ (.int .i64 c.ml)).setCell ⟨w.heap.size, 3, none⟩ (.int .i64 c.sh)).setCell ⟨w.heap.size, 4, none⟩ (.int .i64 c.ha)).setCell ⟨w.heap.size, 5, none⟩ (.int .i64 c.sg)).setCell ⟨w.heap.size + 1, 0, none⟩ (.int .i64 now)).setCell ⟨w.heap.size + 1, 1, none⟩ (.slice a ts.length cap)) := (((((((((Below.refl w.heap.size wz).setCell hR0 _).setCell hR0 _).setCell hR0 _).setCell hR0 _).setCell hR0 _).setCell hR0 _).setCell hR1 _).setCell hR1 _)
  have ht : Turn (fun g => g = w.heap.size ∨ g = w.heap.size + 1) wz ((((((((wz.setCell ⟨w.heap.size, 0, none⟩ (.int .i64 c.w)).setCell ⟨w.heap.size, 1, none⟩ (.int .i64 c.tl)).setCell ⟨w.heap.size, 2, none⟩ (.int .i64 c.ml)).setCell ⟨w.heap.size, 3, none⟩ (.int .i64 c.sh)).setCell ⟨w.heap.size, 4, none⟩ (.int .i64 c.ha)).setCell ⟨w.heap.size, 5, none⟩ (.int .i64 c.sg)).setCell ⟨w.heap.size + 1, 0, none⟩ (.int .i64 now)).setCell ⟨w.heap.size + 1, 1, none⟩ (.slice a ts.length cap)) := ((((((((Turn.refl _ wz).setCell (Or.inl (Or.inl rfl)) _ _).setCell (Or.inl (Or.inl rfl)) _ _).setCell (Or.inl (Or.inl rfl)) _ _).setCell (Or.inl (Or.inl rfl)) _ _).setCell (Or.inl (Or.inl rfl)) _ _).setCell (Or.inl (Or.inl rfl)) _ _).setCell (Or.inl (Or.inr rfl)) _ _).setCell (Or.inl (Or.inr rfl)) _ _
  have hfin := ((h.keep ht.size fun g hg hl => ht.block g hl (fun e => by rcases e with e | e <;> omega)).mono (A' := (w.heap.size ≤ ·)) fun g hg => show w.heap.size ≤ g by omega)
  generalize ((((((((wz.setCell ⟨w.heap.size, 0, none⟩ (.int .i64 c.w)).setCell ⟨w.heap.size, 1, none⟩ (.int .i64 c.tl)).setCell ⟨w.heap.size, 2, none⟩ (.int .i64 c.ml)).setCell ⟨w.heap.size, 3, none⟩ (.int .i64 c.sh)).setCell ⟨w.heap.size, 4, none⟩ (.int .i64 c.ha)).setCell ⟨w.heap.size, 5, none⟩ (.int .i64 c.sg)).setCell ⟨w.heap.size + 1, 0, none⟩ (.int .i64 now)).setCell ⟨w.heap.size + 1, 1, none⟩ (.slice a ts.length cap)) = wq at *
  exact ⟨hfin.keep (Nat.le_refl _) (fun _ _ _ => rfl), hbe.drew⟩
def BothO (B P : Nat) (bs : List Nat) (V : CfgD × Int × List TenD × CSt) (w : World) (e : Ending) (w' : World) : Prop :=
  ∃ a cap, e = .returned (.tuple #[cfgV V.1, .agg #[.int .i64 V.2.1, .slice a V.2.2.1.length cap]]) ∧ TensN w' (w.heap.size ≤ ·) a V.2.2.1 ∧ CurX w' B P bs V.2.2.2 ∧ But B w w'
def SpoC : Prop := ∀ (B P : Nat) (A : Nat → Prop) (bs : List Nat) (σ : CSt) (now : Int) (a : Option Addr) (cap : Nat) (ts : List TenD) (w : World), CurX w B P bs σ → σ.k ≤ 3000 → ¬ A B → (∀ q, w.heap.size ≤ q → A q) → TensN w A a ts → ts.length + tensBulk ts ≤ 281200 → 0 ≤ now → now ≤ 60 →
    Calls Tryz.prog 37 #[.pointer (some ⟨B, 0, none⟩), .agg #[.int .i64 now, .slice a ts.length cap]] w fun e w' => SplO B P A bs (spX bs now ts σ) w e w'
def bigYs (k : Nat) : List TV := (bigTs k).map fun t => ⟨t, none, 0, none, 0⟩
theorem digit_val (k pw : Nat) (hk : k ≤ 10001) : wrap64 (48 + (wrap64 ((k : Int) / (pw : Int))).tmod 10) % 256 = 48 + ((k / pw % 10 : Nat) : Int) := by
  have e1 : ((k : Int) / (pw : Int)) = ((k / pw : Nat) : Int) := by simp
  have e2 : k / pw ≤ 10001 := Nat.le_trans (Nat.div_le_self _ _) (by omega)
  rw [e1]
  generalize k / pw = q at *
  have e3 : wrap64 (q : Int) = q := by unfold wrap64; omega
  rw [e3]
  have e4 : (q : Int).tmod 10 = ((q % 10 : Nat) : Int) := by rw [Int.tmod_eq_emod_of_nonneg (by omega)]; simp
  rw [e4]
  have e5 : q % 10 < 10 := Nat.mod_lt _ (by omega)
  generalize q % 10 = r at *
  have e6 : wrap64 (48 + (r : Int)) = 48 + r := by unfold wrap64; omega
  rw [e6]
  omega
theorem bigYs_map (k : Nat) : (bigYs k).map (·.t) = bigTs k := by
  unfold bigYs
  rw [List.map_map]
  exact List.map_id _
theorem bigYs_nil (k : Nat) : ∀ y ∈ bigYs k, y.t.mets = [] ∧ y.t.sers = [] := by
  have key : ∀ t ∈ bigTs k, t.mets = [] ∧ t.sers = [] := by
    induction k with
    | zero => intro t ht; cases ht
    | succ k ih =>
      intro t ht
      rcases List.mem_append.1 ht with ht | ht
      · exact ih t ht
      · rw [List.mem_singleton] at ht
        subst ht
        exact ⟨rfl, rfl⟩
  intro y hy
  obtain ⟨t, ht, rfl⟩ := List.mem_map.1 hy
  exact key t ht
theorem flatV_big (k : Nat) : flatV (bigYs (k + 1)) = flatV (bigYs k) ++ [.string (⟨#[116]⟩ ++ nmJ k 5), .int .i64 3, .slice none 0 0, .slice none 0 0] := by
  have : bigYs (k + 1) = bigYs k ++ [⟨bigT k, none, 0, none, 0⟩] := by unfold bigYs; rw [bigTs, List.map_append]; rfl
  rw [this, flatV_append]
  rfl
set_option maxRecDepth 100000 in
set_option maxHeartbeats 4000000 in
theorem drawBothX_core (B P : Nat) (bs : List Nat) (σ : CSt) (w : World) (h : CurX w B P bs σ) (hN : σ.k ≤ 10) (hT : ∀ c, TickC c) (hS : ∀ c, SetC c) (hA : ∀ c, AdmtC c) (hO : SpoC) :
    Calls Tryz.prog 10 #[.pointer (some ⟨B, 0, none⟩)] w fun e w' => BothO B P bs (bothX bs σ) w e w' := by
  have HTI := hid hT
  have HSE := hid hS
  have HAD := hid hA
  have HSP := hid hO
  have HC := hid h
  have hlt := h.lt
  have hPw := h.up.2
  have HM : Hid (∀ W, CurX W B P bs σ → Calls Tryz.prog 33 #[.pointer (some ⟨B, 0, none⟩)] W fun e w' => e = .returned (.int .i64 ((modeX bs σ).1 : Nat)) ∧ CurX w' B P bs (modeX bs σ).2 ∧ But B W w') := fun W h => modeX_any B P bs σ W h (by omega)
  have hm3 : (modeX bs σ).1 ≤ 2 := by
    unfold modeX
    simp only
    split
    · omega
    · split <;> omega
  have hk0 : (modeX bs σ).2.k ≤ σ.k + 1 := pickX_k bs σ 10
  clear h hT hS hA hO
  obtain ⟨V, hV⟩ : ∃ V, bothX bs σ = V := ⟨_, rfl⟩
  rw [hV]
  have HV := hid hV
  clear hV
  unfold bothX at HV
  generalize modeX bs σ = Rm at *
  obtain ⟨mode, σ1⟩ := Rm
  simp only at HM hm3 hk0 HV
  have HCF : Hid (∀ W, CurX W B P bs σ1 → Calls Tryz.prog 34 #[.pointer (some ⟨B, 0, none⟩)] W fun e w' => e = .returned (cfgV (configX bs σ1).1) ∧ CurX w' B P bs (configX bs σ1).2 ∧ But B W w') := fun W h => drawConfigX_any B P bs σ1 W h (by omega)
  have hk1 := configX_k bs σ1
  generalize configX bs σ1 = Rc at *
  obtain ⟨c, σ2⟩ := Rc
  simp only [bothC] at HCF hk1 HV
  have HST : Hid (∀ W, CurX W B P bs σ2 → Calls Tryz.prog 35 #[.pointer (some ⟨B, 0, none⟩), cfgV c] W fun e w' => ∃ a cap, e = .returned (.agg #[.int .i64 (stateX c bs σ2).1, .slice a (stateX c bs σ2).2.1.length cap]) ∧ TensN w' (W.heap.size ≤ ·) a (stateX c bs σ2).2.1 ∧ CurX w' B P bs (stateX c bs σ2).2.2 ∧ But B W w') := fun W h => drawStateX_core B P c bs σ2 W h (by omega) (HTI.out c) (HSE.out c) (HAD.out c)
  have hk2 := stateX_k c bs σ2
  have HB2 := hid (stateX_is c bs σ2)
  generalize stateX c bs σ2 = Rs at *
  obtain ⟨now, ts, σ3⟩ := Rs
  simp only [bothZ] at HST hk2 HB2 HV
  unfold cfgV at HCF HST
  go_enter Tryz.func10, Tryz.ntmps10
  go_wp2_with fail
  have RC0 : Hid (Blk ((w.alloc (.cells #[.int .i64 0, .int .i64 0, .int .i64 0, .int .i64 0, .int .i64 0, .int .i64 0] 24)).alloc (.cells #[.int .i64 0, .slice none 0 0] 27)) w.heap.size #[.int .i64 0, .int .i64 0, .int .i64 0, .int .i64 0, .int .i64 0, .int .i64 0] 24) := (Blk.new _ _ _).alloc _
  have RS0 : Hid (Blk ((w.alloc (.cells #[.int .i64 0, .int .i64 0, .int .i64 0, .int .i64 0, .int .i64 0, .int .i64 0] 24)).alloc (.cells #[.int .i64 0, .slice none 0 0] 27)) (w.heap.size + 1) #[.int .i64 0, .slice none 0 0] 27) := hid (by have := Blk.new (w.alloc (.cells #[.int .i64 0, .int .i64 0, .int .i64 0, .int .i64 0, .int .i64 0, .int .i64 0] 24)) #[.int .i64 0, .slice none 0 0] 27; simpa using this)
  have B0 : Hid (Below w.heap.size w ((w.alloc (.cells #[.int .i64 0, .int .i64 0, .int .i64 0, .int .i64 0, .int .i64 0, .int .i64 0] 24)).alloc (.cells #[.int .i64 0, .slice none 0 0] 27))) := bto (bnew _ _) (bnew _ _)
  generalize ((w.alloc (.cells #[.int .i64 0, .int .i64 0, .int .i64 0, .int .i64 0, .int .i64 0, .int .i64 0] 24)).alloc (.cells #[.int .i64 0, .slice none 0 0] 27)) = w0 at *
  refine (HM.out _ (HC.out.later B0.out)).mono ?_
  rintro e w1 ⟨rfl, hc1, hb1⟩
  have RC1 := hid (RC0.out.butZ hb1 (by omega))
  have RS1 := hid (RS0.out.butZ hb1 (by omega))
  have H1 : Hid (CurX w1 B P bs σ1 ∧ But B w w1) := ⟨hc1, (But.of B0.out).trans hb1⟩
  clear hc1 hb1 HC HM RC0 RS0 B0 w0
  go_wp2_with fail
  refine (HCF.out _ H1.out.1).mono ?_
  rintro e w2 ⟨rfl, hc2, hb2⟩
  have RC2 := hid (RC1.out.butZ hb2 (by omega))
  have RS2 := hid (RS1.out.butZ hb2 (by omega))
  have H2 : Hid (CurX w2 B P bs σ2 ∧ But B w w2) := ⟨hc2, H1.out.2.trans hb2⟩
  have hs2 : w.heap.size + 1 < w2.heap.size := lt_of_block RS2.out
  clear hc2 hb2 HCF RC1 RS1 H1
  go_wp2_with fail
  have CBb : Hid (Blk (w2.alloc (.cells #[.int .i64 c.w, .int .i64 c.tl, .int .i64 c.ml, .int .i64 c.sh, .int .i64 c.ha, .int .i64 c.sg] 24)) w2.heap.size #[.int .i64 c.w, .int .i64 c.tl, .int .i64 c.ml, .int .i64 c.sh, .int .i64 c.ha, .int .i64 c.sg] 24) := Blk.new _ _ _
  refine (HST.out _ (H2.out.1.later (bnew _ _))).mono ?_
  rintro e w3 ⟨a, cap, rfl, ht3, hc3, hb3'⟩
  have hb3 : But B w2 w3 := (But.of (bnew _ _)).trans hb3'
  have RC3 := hid (RC2.out.butZ hb3 (by omega))
  have RS3 := hid (RS2.out.butZ hb3 (by omega))
  have CB3 : Hid (Blk w3 w2.heap.size #[.int .i64 c.w, .int .i64 c.tl, .int .i64 c.ml, .int .i64 c.sh, .int .i64 c.ha, .int .i64 c.sg] 24) := (hb3'.block _ (by simp) (by omega)).trans CBb.out
  have H3 : Hid (CurX w3 B P bs σ3 ∧ But B w w3) := ⟨hc3, H2.out.2.trans hb3⟩
  have hs3 : w2.heap.size < w3.heap.size := lt_of_block CB3.out
  have TN3 : Hid (TensN w3 (fun g => w.heap.size + 1 < g ∧ g ≠ w2.heap.size ∧ g ≠ w3.heap.size) a ts) := hid (ht3.monoL fun g hg hl => by simp at hg; refine ⟨?_, ?_, ?_⟩ <;> omega)
  have hAB : ¬ (fun g => w.heap.size + 1 < g ∧ g ≠ w2.heap.size ∧ g ≠ w3.heap.size) B := fun e => by have := e.1; omega
  clear hc3 hb3 hb3' ht3 HST RC2 RS2 H2 CBb
  go_upto_region 4 with fail
  have SB4 : Hid (Blk (w3.alloc (.cells #[.int .i64 now, .slice a ts.length cap] 27)) w3.heap.size #[.int .i64 now, .slice a ts.length cap] 27) := Blk.new _ _ _
  have RC4 : Hid (Blk (w3.alloc (.cells #[.int .i64 now, .slice a ts.length cap] 27)) w.heap.size #[.int .i64 0, .int .i64 0, .int .i64 0, .int .i64 0, .int .i64 0, .int .i64 0] 24) := RC3.out.alloc _
  have RS4 : Hid (Blk (w3.alloc (.cells #[.int .i64 now, .slice a ts.length cap] 27)) (w.heap.size + 1) #[.int .i64 0, .slice none 0 0] 27) := RS3.out.alloc _
  have CB4 : Hid (Blk (w3.alloc (.cells #[.int .i64 now, .slice a ts.length cap] 27)) w2.heap.size #[.int .i64 c.w, .int .i64 c.tl, .int .i64 c.ml, .int .i64 c.sh, .int .i64 c.ha, .int .i64 c.sg] 24) := CB3.out.alloc _
  have TN4 : Hid (TensN (w3.alloc (.cells #[.int .i64 now, .slice a ts.length cap] 27)) (fun g => w.heap.size + 1 < g ∧ g ≠ w2.heap.size ∧ g ≠ w3.heap.size) a ts) := TN3.out.later (bnew _ _)
  have H4 : Hid (CurX (w3.alloc (.cells #[.int .i64 now, .slice a ts.length cap] 27)) B P bs σ3 ∧ But B w (w3.alloc (.cells #[.int .i64 now, .slice a ts.length cap] 27))) := ⟨H3.out.1.later (bnew _ _), H3.out.2.later (bnew _ _)⟩
  clear RC3 RS3 CB3 TN3 H3
  generalize (w3.alloc (.cells #[.int .i64 now, .slice a ts.length cap] 27)) = w4 at *
  have hs4 : w3.heap.size < w4.heap.size := lt_of_block SB4.out
  unfold bothY at HV
  have hmm : mode = 0 ∨ mode = 1 ∨ mode = 2 := by omega
  have hw2 : w.heap.size ≤ w2.heap.size := by omega
  have hw3 : w.heap.size ≤ w3.heap.size := by omega
  rcases hmm with rfl | rfl | rfl
  · rw [if_neg (by omega), if_neg (by omega)] at HV
    go_upto_region 20 with fail
    refine at_world (C := fun wz => Code.wp Tryz.prog _ _ _ wz) (R := BoO B P bs w w2.heap.size w3.heap.size V) ?_ ?_
    · rw [← HV.out]; exact ⟨a, cap, RC4.out, RS4.out, CB4.out, SB4.out, TN4.out.mono fun g hg => hg.1, H4.out.1, H4.out.2⟩
    · clear RC4 RS4 CB4 SB4 TN4 H4
      intro wz hbo
      obtain ⟨az, capz, hRC, hRS, hCB, hSB, hTN, hcz, hbz⟩ := hbo
      obtain ⟨cz, nz, tz, τz⟩ := V
      simp only at hCB hSB hTN hcz
      have HTN := hid (box_end (c := cz) (now := nz) (cap := capz) hTN)
      have HCZ := hid hcz
      have HBZ := hid hbz
      obtain ⟨c0, c1, c2, c3, c4, c5, s0, s1, r0, r1, r2, r3, r4, r5, q0, q1, q2, q3, q4, q5, x0, x1, y0, y1, n1, n2, n3, n4, n5, n6⟩ := box_cells hRC hRS hCB hSB (by omega) (by omega)
      clear hRC hRS hCB hSB hTN hcz hbz HV
      go_wp2_with fail
      go_region
      go_wp2
      refine bodyPost_ret (v := .tuple #[.agg #[.int .i64 cz.w, .int .i64 cz.tl, .int .i64 cz.ml, .int .i64 cz.sh, .int .i64 cz.ha, .int .i64 cz.sg], .agg #[.int .i64 nz, .slice az tz.length capz]]) (by simp [results, Tryz.results10, go_sem, r0, r1, r2, r3, r4, r5, x0, x1]) rfl ?_
      exact ⟨az, capz, rfl, HTN.out.1, HCZ.out.below (HTN.out.2.mono hPw), HBZ.out.below_to HTN.out.2⟩
  · rw [if_pos rfl] at HV
    have HP3 : Hid (∀ W, CurX W B P bs σ3 → Calls Tryz.prog 14 #[.pointer (some ⟨B, 0, none⟩), .int .i64 3] W fun e w' => e = .returned (.int .i64 ((pickX bs σ3 3).1 : Nat)) ∧ CurX w' B P bs (pickX bs σ3 3).2 ∧ But B W w') := fun W h => curPickX_any B P bs σ3 3 W h (by omega) (by omega)
    have v3_lt := pickX_lt bs σ3 (n := 3) (by omega)
    have σ4_k := pickX_k bs σ3 3
    generalize pickX bs σ3 3 = Rv3 at *
    obtain ⟨v3, σ4⟩ := Rv3
    simp only at HP3 v3_lt σ4_k HV
    go_wp2_with fail
    refine (HP3.out _ H4.out.1).mono ?_
    rintro e w5 ⟨rfl, hc5, hb5⟩
    have RC5 := hid (RC4.out.butZ hb5 (by omega))
    have RS5 := hid (RS4.out.butZ hb5 (by omega))
    have CB5 := hid (CB4.out.butZ hb5 (by omega))
    have SB5 := hid (SB4.out.butZ hb5 (by omega))
    have TN5 := hid (TN4.out.but hb5 hAB)
    have H5 := hid (And.intro hc5 (H4.out.2.trans hb5))
    clear hc5 hb5 H4 RC4 RS4 CB4 SB4 TN4
    by_cases h0 : v3 = 0
    · subst h0
      rw [if_pos rfl] at HV
      have HSC : Hid (∀ W, CurX W B P bs σ4 → Calls Tryz.prog 36 #[.pointer (some ⟨B, 0, none⟩), .agg #[.int .i64 c.w, .int .i64 c.tl, .int .i64 c.ml, .int .i64 c.sh, .int .i64 c.ha, .int .i64 c.sg]] W fun e w' => e = .returned (cfgV (spoilCfgX bs σ4 c).1) ∧ CurX w' B P bs (spoilCfgX bs σ4 c).2 ∧ But B W w') := fun W h => spoilCfgX_any B P bs σ4 c W h (by omega)
      generalize spoilCfgX bs σ4 c = Rz at *
      obtain ⟨c2, σ5⟩ := Rz
      simp only at HSC HV
      unfold cfgV at HSC
      have k0 := CB5.out.cell 0
      have k1 := CB5.out.cell 1
      have k2 := CB5.out.cell 2
      have k3 := CB5.out.cell 3
      have k4 := CB5.out.cell 4
      have k5 := CB5.out.cell 5
      go_wp2_with fail
      refine (HSC.out _ H5.out.1).mono ?_
      rintro e w6 ⟨rfl, hc6, hb6⟩
      have RC6 := hid (RC5.out.butZ hb6 (by omega))
      have RS6 := hid (RS5.out.butZ hb6 (by omega))
      have CB6 := hid (CB5.out.butZ hb6 (by omega))
      have SB6 := hid (SB5.out.butZ hb6 (by omega))
      have TN6 := hid (TN5.out.but hb6 hAB)
      have H6 := hid (And.intro hc6 (H5.out.2.trans hb6))
      clear hc6 hb6 H5 RC5 RS5 CB5 SB5 TN5
      clear k0 k1 k2 k3 k4 k5
      have k0 := CB6.out.cell 0
      have k1 := CB6.out.cell 1
      have k2 := CB6.out.cell 2
      have k3 := CB6.out.cell 3
      have k4 := CB6.out.cell 4
      have k5 := CB6.out.cell 5
      have l0 := CB6.out.free 0
      have l1 := CB6.out.free 1
      have l2 := CB6.out.free 2
      have l3 := CB6.out.free 3
      have l4 := CB6.out.free 4
      have l5 := CB6.out.free 5
      go_upto_region 20 with fail
      have hCn : Hid (Blk ((((((w6.setCell ⟨w2.heap.size, 0, none⟩ (.int .i64 c2.w)).setCell ⟨w2.heap.size, 1, none⟩ (.int .i64 c2.tl)).setCell ⟨w2.heap.size, 2, none⟩ (.int .i64 c2.ml)).setCell ⟨w2.heap.size, 3, none⟩ (.int .i64 c2.sh)).setCell ⟨w2.heap.size, 4, none⟩ (.int .i64 c2.ha)).setCell ⟨w2.heap.size, 5, none⟩ (.int .i64 c2.sg)) w2.heap.size #[.int .i64 c2.w, .int .i64 c2.tl, .int .i64 c2.ml, .int .i64 c2.sh, .int .i64 c2.ha, .int .i64 c2.sg] 24) := hid (by have := (((((CB6.out.set 0 (.int .i64 c2.w)).set 1 (.int .i64 c2.tl)).set 2 (.int .i64 c2.ml)).set 3 (.int .i64 c2.sh)).set 4 (.int .i64 c2.ha)).set 5 (.int .i64 c2.sg); simpa using this)
      have hbu : But w2.heap.size w6 ((((((w6.setCell ⟨w2.heap.size, 0, none⟩ (.int .i64 c2.w)).setCell ⟨w2.heap.size, 1, none⟩ (.int .i64 c2.tl)).setCell ⟨w2.heap.size, 2, none⟩ (.int .i64 c2.ml)).setCell ⟨w2.heap.size, 3, none⟩ (.int .i64 c2.sh)).setCell ⟨w2.heap.size, 4, none⟩ (.int .i64 c2.ha)).setCell ⟨w2.heap.size, 5, none⟩ (.int .i64 c2.sg)) := ((((((But.refl w2.heap.size w6).setCell _ _).setCell _ _).setCell _ _).setCell _ _).setCell _ _).setCell _ _
      have hbe : Below w.heap.size w6 ((((((w6.setCell ⟨w2.heap.size, 0, none⟩ (.int .i64 c2.w)).setCell ⟨w2.heap.size, 1, none⟩ (.int .i64 c2.tl)).setCell ⟨w2.heap.size, 2, none⟩ (.int .i64 c2.ml)).setCell ⟨w2.heap.size, 3, none⟩ (.int .i64 c2.sh)).setCell ⟨w2.heap.size, 4, none⟩ (.int .i64 c2.ha)).setCell ⟨w2.heap.size, 5, none⟩ (.int .i64 c2.sg)) := ((((((Below.refl w.heap.size w6).setCell hw2 _).setCell hw2 _).setCell hw2 _).setCell hw2 _).setCell hw2 _).setCell hw2 _
      refine at_world (C := fun wz => Code.wp Tryz.prog _ _ _ wz) (R := BoO B P bs w w2.heap.size w3.heap.size V) ?_ ?_
      · rw [← HV.out]; exact ⟨a, cap, (hbu.block _ (lt_of_block RC6.out) (by omega)).trans RC6.out, (hbu.block _ (lt_of_block RS6.out) (by omega)).trans RS6.out, hCn.out, (hbu.block _ (lt_of_block SB6.out) (by omega)).trans SB6.out, (TN6.out.keep hbu.size fun g hg hl => hbu.block g hl (fun e => hg.2.1 e)).mono fun g hg => hg.1, H6.out.1.below (hbe.mono hPw), H6.out.2.below_to hbe⟩
      · clear hCn hbu hbe RC6 RS6 CB6 SB6 TN6 H6 k0 l0 k1 l1 k2 l2 k3 l3 k4 l4 k5 l5
        intro wz hbo
        obtain ⟨az, capz, hRC, hRS, hCB, hSB, hTN, hcz, hbz⟩ := hbo
        obtain ⟨cz, nz, tz, τz⟩ := V
        simp only at hCB hSB hTN hcz
        have HTN := hid (box_end (c := cz) (now := nz) (cap := capz) hTN)
        have HCZ := hid hcz
        have HBZ := hid hbz
        obtain ⟨c0, c1, c2, c3, c4, c5, s0, s1, r0, r1, r2, r3, r4, r5, q0, q1, q2, q3, q4, q5, x0, x1, y0, y1, n1, n2, n3, n4, n5, n6⟩ := box_cells hRC hRS hCB hSB (by omega) (by omega)
        clear hRC hRS hCB hSB hTN hcz hbz HV
        go_wp2_with fail
        go_region
        go_wp2
        refine bodyPost_ret (v := .tuple #[.agg #[.int .i64 cz.w, .int .i64 cz.tl, .int .i64 cz.ml, .int .i64 cz.sh, .int .i64 cz.ha, .int .i64 cz.sg], .agg #[.int .i64 nz, .slice az tz.length capz]]) (by simp [results, Tryz.results10, go_sem, r0, r1, r2, r3, r4, r5, x0, x1]) rfl ?_
        exact ⟨az, capz, rfl, HTN.out.1, HCZ.out.below (HTN.out.2.mono hPw), HBZ.out.below_to HTN.out.2⟩
    · rw [if_neg h0] at HV
      have h0' : ¬ ((v3 : Int) = 0) := by omega
      have HSO : Hid (∀ W, CurX W B P bs σ4 → W.heap.size = w5.heap.size → TensN W (fun g => w.heap.size + 1 < g ∧ g ≠ w2.heap.size ∧ g ≠ w3.heap.size) a ts → Calls Tryz.prog 37 #[.pointer (some ⟨B, 0, none⟩), .agg #[.int .i64 now, .slice a ts.length cap]] W fun e w' => SplO B P (fun g => w.heap.size + 1 < g ∧ g ≠ w2.heap.size ∧ g ≠ w3.heap.size) bs (spX bs now ts σ4) W e w') := fun W h hW hT => HSP.out B P (fun g => w.heap.size + 1 < g ∧ g ≠ w2.heap.size ∧ g ≠ w3.heap.size) bs σ4 now a cap ts W h (by omega) hAB (fun q hq => by have := lt_of_block SB5.out; refine ⟨?_, ?_, ?_⟩ <;> omega) hT HB2.out.1 HB2.out.2.1 HB2.out.2.2
      generalize spX bs now ts σ4 = Rz at *
      obtain ⟨now2, ts2, σ5⟩ := Rz
      simp only [SplO] at HSO HV
      have k0 := SB5.out.cell 0
      have k1 := SB5.out.cell 1
      go_wp2_with fail
      refine (HSO.out _ H5.out.1 rfl TN5.out).mono ?_
      rintro e w6 ⟨a2, cap2, rfl, ht6, hc6, hb6⟩
      have hs5 : w3.heap.size < w5.heap.size := lt_of_block SB5.out
      have RC6 := hid (RC5.out.butZ hb6 (by omega))
      have RS6 := hid (RS5.out.butZ hb6 (by omega))
      have CB6 := hid (CB5.out.butZ hb6 (by omega))
      have SB6 : Hid (Blk w6 w3.heap.size #[.int .i64 now, .slice a ts.length cap] 27) := (hb6.block _ (lt_of_block SB5.out) (by omega)).trans SB5.out
      have TN6 : Hid (TensN w6 (fun g => w.heap.size + 1 < g ∧ g ≠ w2.heap.size ∧ g ≠ w3.heap.size) a2 ts2) := ht6
      have H6 : Hid (CurX w6 B P bs σ5 ∧ But B w w6) := ⟨hc6, H5.out.2.trans hb6⟩
      clear hc6 hb6 ht6 H5 RC5 RS5 CB5 SB5 TN5 k0 k1
      have k0 := SB6.out.cell 0
      have k1 := SB6.out.cell 1
      have l0 := SB6.out.free 0
      have l1 := SB6.out.free 1
      go_upto_region 20 with fail
      have hSn : Hid (Blk ((w6.setCell ⟨w3.heap.size, 0, none⟩ (.int .i64 now2)).setCell ⟨w3.heap.size, 1, none⟩ (.slice a2 ts2.length cap2)) w3.heap.size #[.int .i64 now2, .slice a2 ts2.length cap2] 27) := hid (by have := (SB6.out.set 0 (.int .i64 now2)).set 1 (.slice a2 ts2.length cap2); simpa using this)
      have hbu : But w3.heap.size w6 ((w6.setCell ⟨w3.heap.size, 0, none⟩ (.int .i64 now2)).setCell ⟨w3.heap.size, 1, none⟩ (.slice a2 ts2.length cap2)) := ((But.refl w3.heap.size w6).setCell _ _).setCell _ _
      have hbe : Below w.heap.size w6 ((w6.setCell ⟨w3.heap.size, 0, none⟩ (.int .i64 now2)).setCell ⟨w3.heap.size, 1, none⟩ (.slice a2 ts2.length cap2)) := ((Below.refl w.heap.size w6).setCell hw3 _).setCell hw3 _
      refine at_world (C := fun wz => Code.wp Tryz.prog _ _ _ wz) (R := BoO B P bs w w2.heap.size w3.heap.size V) ?_ ?_
      · rw [← HV.out]; exact ⟨a2, cap2, (hbu.block _ (lt_of_block RC6.out) (by omega)).trans RC6.out, (hbu.block _ (lt_of_block RS6.out) (by omega)).trans RS6.out, (hbu.block _ (lt_of_block CB6.out) (by omega)).trans CB6.out, hSn.out, (TN6.out.keep hbu.size fun g hg hl => hbu.block g hl (fun e => hg.2.2 e)).mono fun g hg => hg.1, H6.out.1.below (hbe.mono hPw), H6.out.2.below_to hbe⟩
      · clear hSn hbu hbe RC6 RS6 CB6 SB6 TN6 H6 k0 k1 l0 l1
        intro wz hbo
        obtain ⟨az, capz, hRC, hRS, hCB, hSB, hTN, hcz, hbz⟩ := hbo
        obtain ⟨cz, nz, tz, τz⟩ := V
        simp only at hCB hSB hTN hcz
        have HTN := hid (box_end (c := cz) (now := nz) (cap := capz) hTN)
        have HCZ := hid hcz
        have HBZ := hid hbz
        obtain ⟨c0, c1, c2, c3, c4, c5, s0, s1, r0, r1, r2, r3, r4, r5, q0, q1, q2, q3, q4, q5, x0, x1, y0, y1, n1, n2, n3, n4, n5, n6⟩ := box_cells hRC hRS hCB hSB (by omega) (by omega)
        clear hRC hRS hCB hSB hTN hcz hbz HV
        go_wp2_with fail
        go_region
        go_wp2
        refine bodyPost_ret (v := .tuple #[.agg #[.int .i64 cz.w, .int .i64 cz.tl, .int .i64 cz.ml, .int .i64 cz.sh, .int .i64 cz.ha, .int .i64 cz.sg], .agg #[.int .i64 nz, .slice az tz.length capz]]) (by simp [results, Tryz.results10, go_sem, r0, r1, r2, r3, r4, r5, x0, x1]) rfl ?_
        exact ⟨az, capz, rfl, HTN.out.1, HCZ.out.below (HTN.out.2.mono hPw), HBZ.out.below_to HTN.out.2⟩
  · rw [if_neg (by omega), if_pos rfl] at HV
    have HP3 : Hid (∀ W, CurX W B P bs σ3 → Calls Tryz.prog 14 #[.pointer (some ⟨B, 0, none⟩), .int .i64 3] W fun e w' => e = .returned (.int .i64 ((pickX bs σ3 3).1 : Nat)) ∧ CurX w' B P bs (pickX bs σ3 3).2 ∧ But B W w') := fun W h => curPickX_any B P bs σ3 3 W h (by omega) (by omega)
    have v3_lt := pickX_lt bs σ3 (n := 3) (by omega)
    have σ4_k := pickX_k bs σ3 3
    generalize pickX bs σ3 3 = Rv3 at *
    obtain ⟨v3, σ4⟩ := Rv3
    simp only at HP3 v3_lt σ4_k HV
    go_wp2_with fail
    refine (HP3.out _ H4.out.1).mono ?_
    rintro e w5 ⟨rfl, hc5, hb5⟩
    have RC5 := hid (RC4.out.butZ hb5 (by omega))
    have RS5 := hid (RS4.out.butZ hb5 (by omega))
    have CB5 := hid (CB4.out.butZ hb5 (by omega))
    have SB5 := hid (SB4.out.butZ hb5 (by omega))
    have TN5 := hid (TN4.out.but hb5 hAB)
    have H5 := hid (And.intro hc5 (H4.out.2.trans hb5))
    clear hc5 hb5 H4 RC4 RS4 CB4 SB4 TN4
    by_cases h0 : v3 = 0
    · subst h0
      rw [if_pos rfl] at HV
      have HP2 : Hid (∀ W, CurX W B P bs σ4 → Calls Tryz.prog 14 #[.pointer (some ⟨B, 0, none⟩), .int .i64 2] W fun e w' => e = .returned (.int .i64 ((pickX bs σ4 2).1 : Nat)) ∧ CurX w' B P bs (pickX bs σ4 2).2 ∧ But B W w') := fun W h => curPickX_any B P bs σ4 2 W h (by omega) (by omega)
      have v2_lt := pickX_lt bs σ4 (n := 2) (by omega)
      have σ5_k := pickX_k bs σ4 2
      generalize pickX bs σ4 2 = Rv2 at *
      obtain ⟨v2, σ5⟩ := Rv2
      simp only at HP2 v2_lt σ5_k HV
      have k0 := SB5.out.cell 0
      have k1 := SB5.out.cell 1
      have l0 := SB5.out.free 0
      have l1 := SB5.out.free 1
      go_wp2_with fail
      have hSn : Hid (Blk ((w5.setCell ⟨w3.heap.size, 0, none⟩ (.int .i64 0)).setCell ⟨w3.heap.size, 1, none⟩ (.slice none 0 0)) w3.heap.size #[.int .i64 0, .slice none 0 0] 27) := hid (by have := (SB5.out.set 0 (.int .i64 0)).set 1 (.slice none 0 0); simpa using this)
      have hbu : But w3.heap.size w5 ((w5.setCell ⟨w3.heap.size, 0, none⟩ (.int .i64 0)).setCell ⟨w3.heap.size, 1, none⟩ (.slice none 0 0)) := ((But.refl w3.heap.size w5).setCell _ _).setCell _ _
      have hbe : Below w.heap.size w5 ((w5.setCell ⟨w3.heap.size, 0, none⟩ (.int .i64 0)).setCell ⟨w3.heap.size, 1, none⟩ (.slice none 0 0)) := ((Below.refl w.heap.size w5).setCell hw3 _).setCell hw3 _
      have RCx : Hid (Blk ((w5.setCell ⟨w3.heap.size, 0, none⟩ (.int .i64 0)).setCell ⟨w3.heap.size, 1, none⟩ (.slice none 0 0)) w.heap.size #[.int .i64 0, .int .i64 0, .int .i64 0, .int .i64 0, .int .i64 0, .int .i64 0] 24) := (hbu.block _ (lt_of_block RC5.out) (by omega)).trans RC5.out
      have RSx : Hid (Blk ((w5.setCell ⟨w3.heap.size, 0, none⟩ (.int .i64 0)).setCell ⟨w3.heap.size, 1, none⟩ (.slice none 0 0)) (w.heap.size + 1) #[.int .i64 0, .slice none 0 0] 27) := (hbu.block _ (lt_of_block RS5.out) (by omega)).trans RS5.out
      have CBx : Hid (Blk ((w5.setCell ⟨w3.heap.size, 0, none⟩ (.int .i64 0)).setCell ⟨w3.heap.size, 1, none⟩ (.slice none 0 0)) w2.heap.size #[.int .i64 c.w, .int .i64 c.tl, .int .i64 c.ml, .int .i64 c.sh, .int .i64 c.ha, .int .i64 c.sg] 24) := (hbu.block _ (lt_of_block CB5.out) (by omega)).trans CB5.out
      have Hx : Hid (CurX ((w5.setCell ⟨w3.heap.size, 0, none⟩ (.int .i64 0)).setCell ⟨w3.heap.size, 1, none⟩ (.slice none 0 0)) B P bs σ4 ∧ But B w ((w5.setCell ⟨w3.heap.size, 0, none⟩ (.int .i64 0)).setCell ⟨w3.heap.size, 1, none⟩ (.slice none 0 0))) := ⟨H5.out.1.below (hbe.mono hPw), H5.out.2.below_to hbe⟩
      clear hbu hbe RC5 RS5 CB5 SB5 TN5 H5 k0 k1 l0 l1
      generalize ((w5.setCell ⟨w3.heap.size, 0, none⟩ (.int .i64 0)).setCell ⟨w3.heap.size, 1, none⟩ (.slice none 0 0)) = wx at *
      refine (HP2.out _ Hx.out.1).mono ?_
      rintro e w7 ⟨rfl, hc7, hb7⟩
      have RC7 := hid (RCx.out.butZ hb7 (by omega))
      have RS7 := hid (RSx.out.butZ hb7 (by omega))
      have CB7 := hid (CBx.out.butZ hb7 (by omega))
      have SB7 : Hid (Blk w7 w3.heap.size #[.int .i64 0, .slice none 0 0] 27) := (hb7.block _ (lt_of_block hSn.out) (by omega)).trans hSn.out
      have H7 : Hid (CurX w7 B P bs σ5 ∧ But B w w7) := ⟨hc7, Hx.out.2.trans hb7⟩
      clear hc7 hb7 RCx RSx CBx hSn Hx wx HP2
      obtain ⟨i0, hi0, hz0, hz1, hz2⟩ := info_parts info_tenant
      have HI := hid hi0
      clear hi0
      have v2' : (v2 : Int) < 2 := by omega
      have hs7 : w3.heap.size < w7.heap.size := lt_of_block SB7.out
      go_wp2
      go_loopw [8] (fun i wr => ∃ (k : Nat) (v : Value), k ≤ 10000 + v2 ∧ i = .int .i64 (k : Nat) ∧ Hid (wr.ownsRow w7.heap.size 46 4 v k (flatV (bigYs k))) ∧ Hid (Blk wr w3.heap.size #[.int .i64 0, v] 27) ∧ Hid (Turn (fun g => g = w3.heap.size ∨ w7.heap.size ≤ g) w7 wr)) (fun i _ => 10000 + v2 - (RowKit.intOf i).toNat)
      case atStart => exact ⟨0, .slice none 0 0, Nat.zero_le _, rfl, World.ownsRow_nil _ _ _ _, SB7.out, Turn.refl _ _⟩
      case round =>
        obtain ⟨k, v, hk, rfl, HRW, HSB, HTU⟩ := hrel
        by_cases hgo : k < 10000 + v2
        · have hgo' : (k : Int) < 10000 + (v2 : Int) := by omega
          obtain ⟨wo, hwo⟩ : ∃ wo : World, wo = wr := ⟨_, rfl⟩
          subst hwo
          go_wp2
          go_loopw [9, 10] (fun nm kk wr => ∃ j : Nat, j ≤ 5 ∧ nm = .string (nmJ k j) ∧ kk = .int .i64 ((powT j : Nat) : Int) ∧ Hid (Below wo.heap.size wo wr)) (fun _ kk _ => (RowKit.intOf kk).toNat)
          case atStart => exact ⟨0, by omega, rfl, rfl, Below.refl _ _⟩
          case round =>
            obtain ⟨j, hj, rfl, rfl, HBW⟩ := hrel
            by_cases h5 : j < 5
            · obtain ⟨hp1, hp2⟩ := powT_pos h5
              have HNX : Hid (nmJ k (j + 1) = nmJ k j ++ strOfNums [48 + ((k / powT j % 10 : Nat) : Int)]) := hid rfl
              have HPX : Hid (powT (j + 1) = powT j / 10) := hid rfl
              have hns := nmJ_size k j
              have hns2 : (nmJ k j).size ≤ 5 := by omega
              clear hns
              generalize nmJ k j = nm at *
              generalize powT j = pw at *
              have hq1 : (0 : Int) < (pw : Nat) := by omega
              have hq2 : ((pw : Nat) : Int) ≠ 0 := by omega
              have hq3 : ((pw : Nat) : Int) ≤ 10000 := by omega
              have hval := digit_val k pw (by omega)
              obtain ⟨E, hE⟩ : ∃ E : Int, wrap64 (48 + (wrap64 ((k : Int) / (pw : Int))).tmod 10) % 256 = E := ⟨_, rfl⟩
              have hcv : (convert 22 9 (.slice (some ⟨wr.heap.size, 0, none⟩) 1 1)).run Tryz.prog (wr.alloc (.cells #[.int .u8 E] 5)) = .ok (.string (strOfNums [E])) (wr.alloc (.cells #[.int .u8 E] 5)) :=
                conv_row (B := 0) (ys := [E]) ⟨by simp, .inr ⟨wr.heap.size, 1, #[.int .u8 E], rfl, Nat.zero_le _, heap_alloc_new _ _, Nat.le_refl _, by simp [maxLen], by simp, by simp⟩⟩
              have HTX : Hid (strOfNums [E] = strOfNums [48 + ((k / pw % 10 : Nat) : Int)]) := hid (by rw [← hE, hval])
              have htx : (strOfNums [E]).size ≤ 1 := by rw [strOfNums_len]; simp
              generalize strOfNums [E] = tx at *
              clear hval
              rw [← hE] at hcv
              clear hE
              go_wp2
              refine ⟨⟨j + 1, by omega, by rw [HNX.out, HTX.out], ?_, bto HBW.out (bnew _ _)⟩, ?_⟩
              · rw [HPX.out]
                first
                  | rfl
                  | (congr 1; unfold wrap64; omega)
                  | (congr 1; omega)
                  | simp
              · simp only [RowKit.intOf]
                omega
            · have hj5 : j = 5 := by omega
              subst hj5
              rw [powT_five]
              have hns := nmJ_size k 5
              have hns2 : (nmJ k 5).size ≤ 5 := by omega
              clear hns
              have HFB := hid (flatV_big k)
              generalize nmJ k 5 = nm at *
              have hob : ∀ q, v.ownBlock = some q → w7.heap.size ≤ q ∧ q < wo.heap.size := fun q hq => HRW.out.lt q hq
              have agv : v.ownBlock ≠ some w3.heap.size := fun e => by have := (hob _ e).1; omega
              have hso := HBW.out.size
              have hs7o : w7.heap.size ≤ wo.heap.size := HTU.out.size
              have HR5 : Hid (wr.ownsRow w7.heap.size 46 4 v k (flatV (bigYs k))) := row_later HRW.out HBW.out
              have HS5 : Hid (Blk wr w3.heap.size #[.int .i64 0, v] 27) := HSB.out.later HBW.out
              have g1 := HS5.out.cell 1
              have g1a : (wr.alloc (.cells #[.string (⟨#[116]⟩ ++ nm), .int .i64 3, .slice none 0 0, .slice none 0 0] 46)).cell? ⟨w3.heap.size, 1, none⟩ = some v := (HS5.out.alloc _).cell 1
              obtain ⟨NW, hNW⟩ : ∃ NW : List Value, NW = [.string (⟨#[116]⟩ ++ nm), .int .i64 3, .slice none 0 0, .slice none 0 0] := ⟨_, rfl⟩
              have HNW := hid hNW
              clear hNW
              go_wp2_with (at_builtin; refine wpList_append_lies _ rfl _ _ _ rfl w7.heap.size 46 i0 _ 4 72 Tryz.underlying25 HI.out hz0 hz1 hz2 rfl (by omega) v k (flatV (bigYs k)) rfl (by exact HR5.out.alloc _) ⟨wr.heap.size, 0, none⟩ 1 1 [.string (⟨#[116]⟩ ++ nm), .int .i64 3, .slice none 0 0, .slice none 0 0] rfl rfl (by have := World.news_of_block (cs := #[.string (⟨#[116]⟩ ++ nm), .int .i64 3, .slice none 0 0, .slice none 0 0]) (t := 46) (fr := (0, 0)) (heap_alloc_new wr (.cells #[.string (⟨#[116]⟩ ++ nm), .int .i64 3, .slice none 0 0, .slice none 0 0] 46)); simpa using this) (by simp [Value.oneCell']) (by omega) (by simp [maxLen]; omega) (by omega) (by simp; omega) (wr.heap.size + 1) (by simp) ?_; intro g9 c9 w9 hown9 hgrow9 hat9 hlt9; have HS9 : Hid (Blk w9 w3.heap.size #[.int .i64 0, v] 27) := (Turn.grown hgrow9).blk (HS5.out.alloc _) agv; have g9c := HS9.out.cell 1; have g9f := HS9.out.free 1)
              have hg9 : g9 ≠ w3.heap.size := by
                rcases hat9 with h | h
                · have := (hob _ h).1; omega
                · omega
              have hgb : w7.heap.size ≤ g9 := (row_cellM hown9).2.2.2.1
              have hbT : But w3.heap.size w9 (w9.setCell ⟨w3.heap.size, 1, none⟩ (.slice (some ⟨g9, 0, none⟩) (k + 1) c9)) := (But.refl _ w9).setCell _ _
              refine ⟨⟨k + 1, .slice (some ⟨g9, 0, none⟩) (k + 1) c9, by omega, by go_num, ?_, ?_, ?_⟩, by simp [RowKit.intOf]; omega⟩
              · rw [HFB.out]
                exact row_keepM hown9 (hbT.block _ hlt9 hg9)
              · exact hid (by have := HS9.out.set 1 (.slice (some ⟨g9, 0, none⟩) (k + 1) c9); simpa using this)
              · exact (((HTU.out.trans' (Turn.of HBW.out)).alloc _).trans' ((Turn.grown hgrow9).mono fun i _ e => Or.inr (hob _ e).1)).setCell (Or.inl (Or.inl rfl)) _ _
        · have hke : k = 10000 + v2 := by omega
          have hgo' : ¬ ((k : Int) < 10000 + (v2 : Int)) := by omega
          subst hke
          obtain ⟨ra, rc, rfl⟩ : ∃ a c, v = .slice a (10000 + v2) c := by
            rcases HRW.out.2 with ⟨e, h0⟩ | ⟨g, cap, cur, e, _⟩
            · omega
            · exact ⟨_, _, e⟩
          have hl : (bigTs (10000 + v2)).length = 10000 + v2 := bigTs_length _
          have hyl : (bigYs (10000 + v2)).length = 10000 + v2 := by unfold bigYs; rw [List.length_map, hl]
          go_upto_region 20 with fail
          refine at_world (C := fun wz => Code.wp Tryz.prog _ _ _ wz) (R := BoO B P bs w w2.heap.size w3.heap.size V) ?_ ?_
          · rw [← HV.out]
            have hbb : Below w.heap.size w7 wr := HTU.out.below (by omega) fun i hi e => by omega
            refine ⟨ra, rc, HTU.out.blk RC7.out (by omega), HTU.out.blk RS7.out (by omega), HTU.out.blk CB7.out (by omega), ?_, ?_, H7.out.1.below (hbb.mono hPw), H7.out.2.below_to hbb⟩
            · rw [hl]; exact HSB.out
            · obtain ⟨gg, rfl⟩ : ∃ g, ra = some ⟨g, 0, none⟩ := by
                rcases HRW.out.2 with ⟨e, h0⟩ | ⟨g, cap, cur, e, _⟩
                · omega
                · simp only [Value.slice.injEq] at e
                  exact ⟨g, e.1⟩
              have := tensN_of_row (A := fun g => w.heap.size + 1 < g) (ys := bigYs (10000 + v2)) (by rw [hyl]; exact HRW.out) (fun q hq => show w.heap.size + 1 < q by omega) fun z hz => ⟨Or.inl (bigYs_nil _ z hz).1, Or.inl (bigYs_nil _ z hz).2⟩
              rw [bigYs_map] at this
              exact this
          · clear HTU HRW HSB RC7 RS7 CB7 SB7 H7
            intro wz hbo
            obtain ⟨az, capz, hRC, hRS, hCB, hSB, hTN, hcz, hbz⟩ := hbo
            obtain ⟨cz, nz, tz, τz⟩ := V
            simp only at hCB hSB hTN hcz
            have HTN := hid (box_end (c := cz) (now := nz) (cap := capz) hTN)
            have HCZ := hid hcz
            have HBZ := hid hbz
            obtain ⟨c0, c1, c2, c3, c4, c5, s0, s1, r0, r1, r2, r3, r4, r5, q0, q1, q2, q3, q4, q5, x0, x1, y0, y1, n1, n2, n3, n4, n5, n6⟩ := box_cells hRC hRS hCB hSB (by omega) (by omega)
            clear hRC hRS hCB hSB hTN hcz hbz HV
            go_wp2_with fail
            go_region
            go_wp2
            refine bodyPost_ret (v := .tuple #[.agg #[.int .i64 cz.w, .int .i64 cz.tl, .int .i64 cz.ml, .int .i64 cz.sh, .int .i64 cz.ha, .int .i64 cz.sg], .agg #[.int .i64 nz, .slice az tz.length capz]]) (by simp [results, Tryz.results10, go_sem, r0, r1, r2, r3, r4, r5, x0, x1]) rfl ?_
            exact ⟨az, capz, rfl, HTN.out.1, HCZ.out.below (HTN.out.2.mono hPw), HBZ.out.below_to HTN.out.2⟩
    · rw [if_neg h0] at HV
      have h0' : ¬ ((v3 : Int) = 0) := by omega
      go_upto_region 20 with fail
      refine at_world (C := fun wz => Code.wp Tryz.prog _ _ _ wz) (R := BoO B P bs w w2.heap.size w3.heap.size V) ?_ ?_
      · rw [← HV.out]; exact ⟨a, cap, RC5.out, RS5.out, CB5.out, SB5.out, TN5.out.mono fun g hg => hg.1, H5.out.1, H5.out.2⟩
      · clear RC5 RS5 CB5 SB5 TN5 H5
        intro wz hbo
        obtain ⟨az, capz, hRC, hRS, hCB, hSB, hTN, hcz, hbz⟩ := hbo
        obtain ⟨cz, nz, tz, τz⟩ := V
        simp only at hCB hSB hTN hcz
        have HTN := hid (box_end (c := cz) (now := nz) (cap := capz) hTN)
        have HCZ := hid hcz
        have HBZ := hid hbz
        obtain ⟨c0, c1, c2, c3, c4, c5, s0, s1, r0, r1, r2, r3, r4, r5, q0, q1, q2, q3, q4, q5, x0, x1, y0, y1, n1, n2, n3, n4, n5, n6⟩ := box_cells hRC hRS hCB hSB (by omega) (by omega)
        clear hRC hRS hCB hSB hTN hcz hbz HV
        go_wp2_with fail
        go_region
        go_wp2
        refine bodyPost_ret (v := .tuple #[.agg #[.int .i64 cz.w, .int .i64 cz.tl, .int .i64 cz.ml, .int .i64 cz.sh, .int .i64 cz.ha, .int .i64 cz.sg], .agg #[.int .i64 nz, .slice az tz.length capz]]) (by simp [results, Tryz.results10, go_sem, r0, r1, r2, r3, r4, r5, x0, x1]) rfl ?_
        exact ⟨az, capz, rfl, HTN.out.1, HCZ.out.below (HTN.out.2.mono hPw), HBZ.out.below_to HTN.out.2⟩
end Go.Proofs.YtnbkmmmlhlbfoaaGreatDoor
