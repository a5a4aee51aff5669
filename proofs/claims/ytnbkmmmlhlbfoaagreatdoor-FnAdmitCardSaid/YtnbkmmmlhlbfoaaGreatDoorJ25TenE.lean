import Derived.Test.YtnbkmmmlhlbfoaaGreatDoorProg
import Derived.Test.YtnbkmmmlhlbfoaaGreatDoorJ24ISer
import Derived.Test.YtnbkmmmlhlbfoaaGreatDoorJ01DrawV
import Derived.StillTail
import Derived.Test.YtnbkmmmlhlbfoaaGreatDoorJ07DrwL
import Derived.Deep.DeepCutAuto
import Derived.Deep.RegionHeld3
import Derived.Test.YtnbkmmmlhlbfoaaGreatDoorJ09InsL
import Derived.Deep.OwnRows
namespace Go.Proofs.YtnbkmmmlhlbfoaaGreatDoor
open Go.RowKit Go.Maps
structure LedS (w : World) (B : Nat) (T : Nat → Option Nat) (l m : Nat) (c : CfgD) (now : Int) (L : List (TenD × Nat)) (M : Nat) : Prop where
  blk : Blk w l (ledV c now m) 87
  ten : w.ownsMap Tryz.prog 9 ptrElem m L.length (mapOf (L.map fun p => (p.1.name, pVal p.2)))
  rise : RiseBy (fun p : TenD × Nat => p.1.name) L
  idx : ∀ p ∈ L, IdxAt w (fun g => B ≤ g ∧ T g = some p.2) p.2 p.1 M
  nd : (L.map (·.2)).Nodup
  tl : T l = none
  tm : T m = none
  lB : B ≤ l
  mB : B ≤ m
def LedAt (w : World) (B l m : Nat) (c : CfgD) (now : Int) (ts : List TenD) (M : Nat) : Prop := ∃ T L, LedS w B T l m c now L M ∧ L.map (·.1) = ts
theorem LedS.lm {w : World} {B : Nat} {T : Nat → Option Nat} {l m : Nat} {c : CfgD} {now : Int} {L : List (TenD × Nat)} {M : Nat} (h : LedS w B T l m c now L M) : m ≠ l := map_ne_cells h.ten h.blk
theorem LedS.keep {w w' : World} {B : Nat} {T : Nat → Option Nat} {l m : Nat} {c : CfgD} {now : Int} {L : List (TenD × Nat)} {M : Nat} (h : LedS w B T l m c now L M) (hk : ∀ g, g < w.heap.size → B ≤ g → w'.heap[g]? = w.heap[g]?) : LedS w' B T l m c now L M :=
  { h with
    blk := (hk l (lt_of_block h.blk) h.lB).trans h.blk
    ten := by
      have hlt := h.ten.lt
      obtain ⟨es, clock, hb, r⟩ := h.ten
      exact ⟨es, clock, (hk m hlt h.mB).trans hb, r⟩
    idx := fun p hp => (h.idx p hp).keep fun g hg hs => ⟨hk g hg hs.1, hs⟩ }
theorem LedAt.later {w w' : World} {B l m : Nat} {c : CfgD} {now : Int} {ts : List TenD} {M : Nat} (h : LedAt w B l m c now ts M) (hb : Below w.heap.size w w') : LedAt w' B l m c now ts M := by
  obtain ⟨T, L, h, e⟩ := h
  exact ⟨T, L, h.keep fun g hg _ => hb.block g hg, e⟩
theorem load_end {w w1 w2 w3 w5 : World} {B : Nat} {T : Nat → Option Nat} {l m x n : Nat} {c : CfgD} {now : Int} {L : List (TenD × Nat)} {M M' : Nat} {t : TenD} (h : LedS w B T l m c now L M) (hB : B ≤ w.heap.size) (hnew : getBy (fun p : TenD × Nat => p.1.name) t.name L = none)
    (b1 : Below w.heap.size w w1) (b2 : Below w1.heap.size w1 w2) (hx : w1.heap.size ≤ x) (t3 : Turn (· = m) w2 w3) (own3 : w3.ownsMap Tryz.prog 9 ptrElem m n (DataW.put (mapOf (L.map fun p => (p.1.name, pVal p.2))) (kL t.name) (pVal x)))
    (t5 : Turn (fun g => w1.heap.size ≤ g) w3 w5) (hi5 : IdxAt w5 (fun g => w1.heap.size ≤ g) x t M') (hM : M' ≤ M) :
    LedAt w5 B l m c now ((insBy (fun p : TenD × Nat => p.1.name) (t, x) L).map (·.1)) M := by
  have hl := lt_of_block h.blk
  have hm := h.ten.lt
  have h1 := b1.size
  have h2 := b2.size
  have h3 := t3.size
  have hmem : ∀ p, p ∈ insBy (fun p : TenD × Nat => p.1.name) (t, x) L → p = (t, x) ∨ p ∈ L := fun p hp => insBy_mem hp
  have hperm := insBy_new (key := fun p : TenD × Nat => p.1.name) (a := (t, x)) hnew
  have hblk : ∀ g, g < w.heap.size → g ≠ m → w5.heap[g]? = w.heap[g]? := fun g hg hne => by
    rw [t5.block g (by omega) (by omega), t3.block g (by omega) hne, b2.block g (by omega), b1.block g hg]
  have hput : DataW.put (mapOf (L.map fun p => (p.1.name, pVal p.2))) (kL t.name) (pVal x) = mapOf ((insBy (fun p : TenD × Nat => p.1.name) (t, x) L).map fun p => (p.1.name, pVal p.2)) :=
    put_by (key := fun p : TenD × Nat => p.1.name) (fun p => pVal p.2) (t, x) h.rise
  refine ⟨fun g => if g < w.heap.size then T g else some x, _, ?_, rfl⟩
  exact {
    blk := (hblk l hl h.lm.symm).trans h.blk
    ten := by
      have := tight (t5.map own3 (by omega))
      rw [hput, size_by] at this
      exact this
    rise := insBy_rise h.rise
    idx := fun p hp => by
      rcases hmem p hp with rfl | hp
      · refine (hi5.mono hM).keep fun g _ hs => ⟨rfl, by omega, ?_⟩
        show (if g < w.heap.size then T g else some x) = some x
        rw [if_neg (by omega)]
      · refine (h.idx p hp).keep fun g hg hs => ⟨hblk g hg (fun e => by rw [e, h.tm] at hs; cases hs.2), hs.1, ?_⟩
        show (if g < w.heap.size then T g else some x) = _
        rw [if_pos hg]; exact hs.2
    nd := by
      rw [(hperm.map _).nodup_iff, List.map_cons, List.nodup_cons]
      refine ⟨fun hq => ?_, h.nd⟩
      obtain ⟨p, hp, e⟩ := List.mem_map.1 hq
      have := (h.idx p hp).lt
      simp only at e
      omega
    tl := by show (if l < w.heap.size then T l else _) = none; rw [if_pos hl]; exact h.tl
    tm := by show (if m < w.heap.size then T m else _) = none; rw [if_pos hm]; exact h.tm
    lB := h.lB
    mB := h.mB }
theorem getBy_led {L : List (TenD × Nat)} {k : ByteArray} (h : getBy (·.name) k (L.map (·.1)) = none) : getBy (fun p : TenD × Nat => p.1.name) k L = none := by
  have := getBy_map (key := fun p : TenD × Nat => p.1.name) (key' := fun t : TenD => t.name) (fun p => p.1) (fun _ => rfl) k L
  rw [h] at this
  cases hg : getBy (fun p : TenD × Nat => p.1.name) k L with
  | none => rfl
  | some q => rw [hg] at this; cases this
set_option maxRecDepth 100000 in
set_option maxHeartbeats 4000000 in
theorem load_any (l m : Nat) (t : TenD) (a1 a2 : Option Addr) (c1 c2 : Nat) (c : CfgD) (now : Int) (ts : List TenD) (M : Nat) (w0 w : World) (h : LedAt w w0.heap.size l m c now ts M) (h0 : Below w0.heap.size w0 w) (hU : UTab w0) (p1 : PairsIn w0 a1 t.mets) (p2 : PairsIn w0 a2 t.sers)
    (hnew : getBy (·.name) t.name ts = none) (hn : t.name.size ≤ maxLen) (hb1 : ∀ i (h : i < t.mets.length), t.mets[i].s.size ≤ 1000000000) (hb2 : ∀ i (h : i < t.sers.length), t.sers[i].s.size ≤ 1000000000) (hl1 : t.mets.length ≤ 500000000) (hl2 : t.sers.length ≤ 500000000) (hLL : ts.length ≤ 1000000000) (hM : t.sers.length ≤ M)
    (hn0 : 0 ≤ now) (hn1 : now ≤ 1000000000000) (hw0 : 1 ≤ c.w) (hw1 : c.w ≤ 1000000000) :
    Calls Tryz.prog 49 #[.pointer (some ⟨l, 0, none⟩), .agg #[.string t.name, .int .i64 t.limit, .slice a1 t.mets.length c1, .slice a2 t.sers.length c2]] w fun e w' => e = .returned (.bool (tenB c.w now t)) ∧
      (tenB c.w now t = true → LedAt w' w0.heap.size l m c now (insBy (·.name) t ts) M) ∧ Turn (· = m) w w' := by
  obtain ⟨T, L, h, hL⟩ := h
  have HTB : Hid (tenB c.w now t = (tnameB t.name && btwB t.limit (-1) 1000000 && metsB t.mets && sersB c.w now t.sers && !idleB t)) := rfl
  have HNM : Hid (∀ W, Calls Tryz.prog 30 #[.string t.name] W fun e w' => e = .returned (.bool (tnameB t.name)) ∧ w' = W) := fun W => isTenantName_any t.name W hn
  by_cases e1 : tnameB t.name = false
  · rw [e1] at HNM HTB
    clear h
    go_enter Tryz.func49, Tryz.ntmps49
    go_wp2_with fail
    refine (HNM.out _).mono ?_
    rintro e w1 ⟨rfl, hw⟩
    replace hw := hw.symm
    subst hw
    go_wp2
    go_ret
    exact ⟨ret_bool (by rw [HTB.out]; simp), fun h => absurd h (by rw [HTB.out]; simp), Turn.of (bnew _ _)⟩
  have e1' : tnameB t.name = true := by simpa using e1
  rw [e1'] at HNM HTB
  clear e1 e1'
  have HLM : Hid (∀ W, Calls Tryz.prog 75 #[.int .i64 t.limit] W fun e w' => e = .returned (.bool (btwB t.limit (-1) 1000000)) ∧ w' = W) := fun W => isLimitOrNone_any t.limit W
  by_cases e2 : btwB t.limit (-1) 1000000 = false
  · rw [e2] at HLM HTB
    clear h
    go_enter Tryz.func49, Tryz.ntmps49
    go_wp2_with fail
    refine (HNM.out _).mono ?_
    rintro e w1 ⟨rfl, hw⟩
    replace hw := hw.symm
    subst hw
    go_wp2_with fail
    refine (HLM.out _).mono ?_
    rintro e w1 ⟨rfl, hw⟩
    replace hw := hw.symm
    subst hw
    go_wp2
    go_ret
    exact ⟨ret_bool (by rw [HTB.out]; simp), fun h => absurd h (by rw [HTB.out]; simp), Turn.of (bnew _ _)⟩
  have e2' : btwB t.limit (-1) 1000000 = true := by simpa using e2
  rw [e2'] at HLM HTB
  clear e2 e2'
  have HH : Hid (LedS w w0.heap.size T l m c now L M) := h
  have hml := h.ten.lt
  have hll := lt_of_block h.blk
  have hw0l := h0.size
  have HLE : Hid (L.map (·.1) = ts) := hL
  have hLn : L.length = ts.length := by rw [← hL, List.length_map]
  have HGN : Hid (getBy (fun p : TenD × Nat => p.1.name) t.name L = none) := getBy_led (by rw [hL]; exact hnew)
  have HK : Hid (keyOf Tryz.prog 9 (.string t.name) = some (kL t.name)) := key_mk hn
  have HNI : Hid (∀ W, Calls Tryz.prog 76 #[.int .i64 t.limit] W fun e w' => ∃ x, e = .returned (.pointer (some ⟨x, 0, none⟩)) ∧ W.heap.size ≤ x ∧ IdxAt w' (fun g => W.heap.size ≤ g) x ⟨t.name, t.limit, [], []⟩ 0 ∧ Below W.heap.size W w') := fun W => newIndex_any t.limit t.name W
  have HLL : Hid (∀ (S : Nat → Prop) (x : Nat) (W : World), IdxAt W S x ⟨t.name, t.limit, [], []⟩ 0 → Below w0.heap.size w0 W → (∀ g, S g → w0.heap.size ≤ g) → Calls Tryz.prog 77 #[.pointer (some ⟨x, 0, none⟩), .slice a1 t.mets.length c1] W fun e w' => e = .returned (.bool (metsB t.mets)) ∧ (metsB t.mets = true → IdxAt w' (fun g => S g ∨ W.heap.size ≤ g) x ⟨t.name, t.limit, t.mets, []⟩ 0) ∧ Turn S W w') :=
    fun S x W hi hb hs => loadLimits_any x a1 c1 t.mets ⟨t.name, t.limit, [], []⟩ S 0 w0 W hi hb hU p1 hs hb1 (by omega)
  have HSS : Hid (∀ (S : Nat → Prop) (x : Nat) (W : World), IdxAt W S x ⟨t.name, t.limit, t.mets, []⟩ 0 → Below w0.heap.size w0 W → (∀ g, S g → w0.heap.size ≤ g) → Blk W l (ledV c now m) 87 → ¬ S l → Calls Tryz.prog 78 #[.pointer (some ⟨l, 0, none⟩), .pointer (some ⟨x, 0, none⟩), .slice a2 t.sers.length c2] W fun e w' => e = .returned (.bool (sersB c.w now t.sers)) ∧ (sersB c.w now t.sers = true → IdxAt w' (fun g => S g ∨ W.heap.size ≤ g) x ⟨t.name, t.limit, t.mets, t.sers⟩ (0 + t.sers.length)) ∧ Turn S W w') :=
    fun S x W hi hb hs hbl hsl => loadSeries_any l m x a2 c2 t.sers ⟨t.name, t.limit, t.mets, []⟩ c now S 0 w0 W hbl hsl hi hb hU p2 hs hb2 hl2 (by omega) hn0 hn1 hw0 hw1
  have H0 : Hid (Below w0.heap.size w0 w) := h0
  clear h p1 p2 hnew hn hb1 hb2 hl1 hl2 hL h0 hU
  go_enter Tryz.func49, Tryz.ntmps49
  go_wp2_with fail
  refine (HNM.out _).mono ?_
  rintro e w1 ⟨rfl, hw⟩
  replace hw := hw.symm
  subst hw
  go_wp2_with fail
  refine (HLM.out _).mono ?_
  rintro e w1 ⟨rfl, hw⟩
  replace hw := hw.symm
  subst hw
  go_wp2_with fail
  have B1 : Hid (Below w.heap.size w (w.alloc (.cells #[.string t.name, .int .i64 t.limit, .slice a1 t.mets.length c1, .slice a2 t.sers.length c2] 46))) := bnew _ _
  have X1 : Hid (Blk (w.alloc (.cells #[.string t.name, .int .i64 t.limit, .slice a1 t.mets.length c1, .slice a2 t.sers.length c2] 46)) w.heap.size #[.string t.name, .int .i64 t.limit, .slice a1 t.mets.length c1, .slice a2 t.sers.length c2] 46) := Blk.new _ _ _
  have hz1 : w.heap.size < (w.alloc (.cells #[.string t.name, .int .i64 t.limit, .slice a1 t.mets.length c1, .slice a2 t.sers.length c2] 46)).heap.size := by simp
  generalize w.alloc (.cells #[.string t.name, .int .i64 t.limit, .slice a1 t.mets.length c1, .slice a2 t.sers.length c2] 46) = w1 at *
  refine (HNI.out w1).mono ?_
  rintro e w2 ⟨x, rfl, hx, hi2, hb2⟩
  have B2 : Hid (Below w1.heap.size w1 w2) := hb2
  have b12 := bto B1.out hb2
  have X2 : Hid (Blk w2 w.heap.size #[.string t.name, .int .i64 t.limit, .slice a1 t.mets.length c1, .slice a2 t.sers.length c2] 46) := X1.out.later hb2
  have L2 : Hid (Blk w2 l (ledV c now m) 87) := HH.out.blk.later b12
  have ten2 : w2.ownsMap Tryz.prog 9 ptrElem m L.length (mapOf (L.map fun p => (p.1.name, pVal p.2))) := (Turn.of (S := fun _ => False) b12).map HH.out.ten (fun e => e)
  obtain ⟨w3, run3, own3, gr3⟩ := ten2.drew.update keyed Tryz.underlying85 (by unfold maxLen; omega) HK.out (ptrElem_mk x)
  have t3 : Turn (· = m) w2 w3 := (Turn.grown (a := w2) ⟨gr3.os, gr3.tape, gr3.output, gr3.size, gr3.block⟩).mono fun i _ e => by simp only [Option.some.injEq] at e; exact e.symm
  have T3 : Hid (Turn (· = m) w2 w3) := t3
  have OWN3 : Hid (w3.ownsMap Tryz.prog 9 ptrElem m (L.length + 1) (DataW.put (mapOf (L.map fun p => (p.1.name, pVal p.2))) (kL t.name) (pVal x))) := own3
  have HI3 : Hid (IdxAt w3 (fun g => w1.heap.size ≤ g) x ⟨t.name, t.limit, [], []⟩ 0) := hi2.keep fun g hg hs => ⟨t3.block g hg (by omega), hs⟩
  have hmb : w0.heap.size ≤ m := HH.out.mB
  have hlb : w0.heap.size ≤ l := HH.out.lB
  have B3 : Hid (Below w0.heap.size w0 w3) := (H0.out.trans (b12.mono hw0l)).trans (t3.below (by have := b12.size; omega) (fun k hk => by omega))
  have X3 : Hid (Blk w3 w.heap.size #[.string t.name, .int .i64 t.limit, .slice a1 t.mets.length c1, .slice a2 t.sers.length c2] 46) := t3.blk X2.out (by omega)
  have L3 : Hid (Blk w3 l (ledV c now m) 87) := t3.blk L2.out HH.out.lm.symm
  have x0 : w2.cell? ⟨l, 7, none⟩ = some (.map (some m)) := L2.out.cell 7
  have x1 : w2.cell? ⟨w.heap.size, 0, none⟩ = some (.string t.name) := X2.out.cell 0
  have hz2 := hb2.size
  have hz3 := t3.size
  have TW3 : Hid (Turn (· = m) w w3) := (Turn.of b12).trans' t3
  clear hb2 b12 ten2 own3 gr3 t3 hi2 X1 X2 L2 HNI HNM HLM
  go_upto_region 4 with fail
  go_cut [25] (fun _ wx => wx = w3)
  case first =>
    go_region
    go_wp2_with fail
    go_meet
    exact rfl
  subst hcut
  clear run3 x0 x1
  have y0 : wc.cell? ⟨w.heap.size, 2, none⟩ = some (.slice a1 t.mets.length c1) := X3.out.cell 2
  go_wp2_with fail
  refine (HLL.out _ x wc HI3.out B3.out (fun g hg => by omega)).mono ?_
  rintro e w4 ⟨rfl, hi4, t4⟩
  have HI4 : Hid (metsB t.mets = true → IdxAt w4 (fun g => w1.heap.size ≤ g ∨ wc.heap.size ≤ g) x ⟨t.name, t.limit, t.mets, []⟩ 0) := hi4
  have T4 : Hid (Turn (fun g => w1.heap.size ≤ g) wc w4) := t4
  have TW4 : Hid (Turn (· = m) w w4) := TW3.out.trans (t4.mono fun i _ e => Or.inr (by omega))
  have X4 : Hid (Blk w4 w.heap.size #[.string t.name, .int .i64 t.limit, .slice a1 t.mets.length c1, .slice a2 t.sers.length c2] 46) := t4.blk X3.out (by omega)
  have L4 : Hid (Blk w4 l (ledV c now m) 87) := t4.blk L3.out (by omega)
  have B4 : Hid (Below w0.heap.size w0 w4) := B3.out.trans (t4.below (by omega) (fun k hk => by omega))
  clear hi4 t4 y0 HLL X3 L3 HI3 B3 TW3
  by_cases e3 : metsB t.mets = false
  · rw [e3] at HTB ⊢
    go_wp2
    go_ret
    exact ⟨ret_bool (by rw [HTB.out]; simp), fun h => absurd h (by rw [HTB.out]; simp), TW4.out⟩
  have e3' : metsB t.mets = true := by simpa using e3
  have HI4' : Hid (IdxAt w4 (fun g => w1.heap.size ≤ g) x ⟨t.name, t.limit, t.mets, []⟩ 0) := (HI4.out e3').keep fun g _ hs => ⟨rfl, by rcases hs with hs | hs <;> omega⟩
  rw [e3'] at HTB ⊢
  clear e3 e3' HI4
  have y1 : w4.cell? ⟨w.heap.size, 3, none⟩ = some (.slice a2 t.sers.length c2) := X4.out.cell 3
  go_wp2_with fail
  refine (HSS.out _ x w4 HI4'.out B4.out (fun g hg => by omega) L4.out (by omega)).mono ?_
  rintro e w5 ⟨rfl, hi5, t5⟩
  have TW5 : Hid (Turn (· = m) w w5) := TW4.out.trans (t5.mono fun i _ e => Or.inr (by omega))
  have hz4 := T4.out.size
  by_cases e4 : sersB c.w now t.sers = false
  · rw [e4] at HTB ⊢
    clear hi5 t5
    go_wp2
    go_ret
    exact ⟨ret_bool (by rw [HTB.out]; simp), fun h => absurd h (by rw [HTB.out]; simp), TW5.out⟩
  have e4' : sersB c.w now t.sers = true := by simpa using e4
  have HI5 : Hid (IdxAt w5 (fun g => w1.heap.size ≤ g) x t t.sers.length) := by
    have := (hi5 e4').keep (w' := w5) (S' := fun g => w1.heap.size ≤ g) fun g _ hs => ⟨rfl, by rcases hs with hs | hs <;> omega⟩
    rw [Nat.zero_add] at this
    exact this
  have T35 : Hid (Turn (fun g => w1.heap.size ≤ g) wc w5) := T4.out.trans' t5
  rw [e4'] at HTB ⊢
  have HEND : Hid (LedAt w5 w0.heap.size l m c now (insBy (·.name) t ts) M) := by
    have := load_end HH.out hw0l HGN.out B1.out B2.out hx T3.out OWN3.out T35.out HI5.out hM
    rw [insBy_map (key' := fun t : TenD => t.name) (fun p : TenD × Nat => p.1) (fun _ => rfl), HLE.out] at this
    exact this
  clear e4 e4' hi5 t5 T35 T4 HSS HI4' B4 L4 X4 TW4 y1 OWN3 T3 HH
  have HID : Hid (Calls Tryz.prog 79 #[.pointer (some ⟨x, 0, none⟩)] w5 fun e w' => e = .returned (.bool (idleB t)) ∧ w' = w5) := idle_any x t _ _ w5 HI5.out
  go_wp2_with fail
  refine HID.out.mono ?_
  rintro e w6 ⟨rfl, hw⟩
  replace hw := hw.symm
  subst hw
  clear HID HI5
  cases hid : idleB t with
  | true =>
    rw [hid] at HTB
    go_wp2
    go_ret
    exact ⟨ret_bool (by rw [HTB.out]; rfl), fun h => absurd h (by rw [HTB.out]; simp), TW5.out⟩
  | false =>
    rw [hid] at HTB
    go_wp2
    go_ret
    exact ⟨ret_bool (by rw [HTB.out]; rfl), fun _ => HEND.out, TW5.out⟩
end Go.Proofs.YtnbkmmmlhlbfoaaGreatDoor
namespace Go.Proofs.YtnbkmmmlhlbfoaaGreatDoor
open Go.RowKit
theorem still_of_quiet {P : Program} {o : Oper} {a : Act} {w : World} {next : Act → Prop} (h : o.quiet P a (fun w' => ∃ _ : Unit, w' = w) next) : o.still P a w next := by
  obtain ⟨v, hq, hn⟩ := h
  have h1 := hq w ⟨(), rfl⟩
  unfold Oper.quietAt at h1
  unfold Oper.still
  generalize (execOp a.eval o).run P w = r at h1
  unfold Oper.quietUpon at h1
  unfold Oper.stillUpon
  split at h1
  · obtain ⟨rfl, rfl⟩ := h1
    exact ⟨rfl, hn⟩
  · obtain ⟨rfl, rfl⟩ := h1
    exact ⟨rfl, hn⟩
  · obtain ⟨rfl, hc⟩ := h1
    exact ⟨rfl, v, hc.mono fun e w'' ⟨he, _, hw⟩ => ⟨he, hw⟩, hn⟩
  · exact h1.elim
theorem wpStill_of_quiet {P : Program} {ops : Array Oper} {w : World} {Q : Act → Prop} : ∀ (l : List Oper) (a : Act), wpQuiet P ops (fun w' => ∃ _ : Unit, w' = w) Q l a → wpStill P ops w Q l a
  | [], a, h => h
  | o :: rest, a, h => by
    unfold wpQuiet at h
    unfold wpStill
    split
    · rename_i hw
      rw [if_pos hw] at h
      exact still_of_quiet (Oper.quiet_mono (fun a' h' => wpStill_of_quiet rest a' h') h)
    · rename_i hw
      rw [if_neg hw] at h
      exact wpStill_of_quiet rest _ h
theorem wp_region_quiet_tail {P : Program} {id : Nat} {Q : Exit → Act → World → Prop} {a : Act} {w : World} {l : List Oper} (n : Nat) (hm : P.follows .mixedOrders = true) (hB : Region.lexTailB .any l.toArray n = true)
    (h : wpQuiet P l.toArray (fun w' => ∃ _ : Unit, w' = w.drew) (fun a' => wpList P l.toArray Q (l.drop n) a' w.drew) (l.take n) a) : (Code.region id l.toArray true).wp P Q a w :=
  wp_region_still_tail n hm hB (wpStill_of_quiet _ _ h)
end Go.Proofs.YtnbkmmmlhlbfoaaGreatDoor
namespace Go.Proofs.YtnbkmmmlhlbfoaaGreatDoor
open Go.RowKit Go.Maps
theorem LedAt.base {w : World} {B B' l m : Nat} {c : CfgD} {now : Int} {ts : List TenD} {M : Nat} (h : LedAt w B l m c now ts M) (hB : B' ≤ B) : LedAt w B' l m c now ts M := by
  obtain ⟨T, L, h, e⟩ := h
  refine ⟨T, L, { h with idx := fun p hp => (h.idx p hp).keep fun g _ hs => ⟨rfl, Nat.le_trans hB hs.1, hs.2⟩, lB := Nat.le_trans hB h.lB, mB := Nat.le_trans hB h.mB }, e⟩
def FitT (ts : List TenD) (M : Nat) : Prop := ∀ i (h : i < ts.length), ts[i].name.size ≤ maxLen ∧ (∀ j (h' : j < ts[i].mets.length), ts[i].mets[j].s.size ≤ 1000000000) ∧ (∀ j (h' : j < ts[i].sers.length), ts[i].sers[j].s.size ≤ 1000000000) ∧ ts[i].mets.length ≤ 500000000 ∧ ts[i].sers.length ≤ 500000000 ∧ ts[i].sers.length ≤ M
def OpenOut (c : CfgD) (now : Int) (ts : List TenD) (M : Nat) (w : World) (e : Ending) (w' : World) : Prop :=
  (stateB c now ts = false ∧ e = .returned (.tuple #[.pointer none, .bool false]) ∧ Below w.heap.size w w') ∨
  (stateB c now ts = true ∧ ∃ l m, e = .returned (.tuple #[.pointer (some ⟨l, 0, none⟩), .bool true]) ∧ w.heap.size ≤ l ∧ LedAt w' w.heap.size l m c now ts M ∧ Below w.heap.size w w')
set_option maxRecDepth 100000 in
set_option maxHeartbeats 8000000 in
theorem open_any (c : CfgD) (now : Int) (a : Option Addr) (cap : Nat) (ts : List TenD) (M : Nat) (w : World) (hf : TensIn w a ts) (hfit : FitT ts M) (hlen : ts.length ≤ 1000000000) (hU : UTab w) :
    Calls Tryz.prog 25 #[cfgV c, .agg #[.int .i64 now, .slice a ts.length cap]] w fun e w' => OpenOut c now ts M w e w' := by
  have HC : Hid (∀ W, Calls Tryz.prog 47 #[cfgV c] W fun e w' => e = .returned (.bool (cfgB c)) ∧ Below W.heap.size W w') := fun W => implCfg_any c W
  have HSB : Hid (stateB c now ts = (cfgB c && btwB now 0 1000000000000 && decide (ts.length ≤ 10000) && tensB c.w now ts)) := rfl
  have HF : Hid (TensIn w a ts) := hf
  have HB : Hid (FitT ts M) := hfit
  have HU : Hid (UTab w) := hU
  have HWI : Hid (∀ W, Calls Tryz.prog 48 #[.int .i64 now, .int .i64 1000000000000] W fun e w' => e = .returned (.bool (btwB now 0 1000000000000)) ∧ w' = W) := fun W => within_any now 1000000000000 W
  have HCW : Hid (cfgB c = true → 1 ≤ c.w ∧ c.w ≤ 1000000000) := fun h => by
    have : btwB c.w 1 1000000000 = true := by
      cases hb : btwB c.w 1 1000000000 with
      | true => rfl
      | false => rw [cfgB, hb] at h; simp at h
    exact btw_in this
  clear hf hfit hU
  unfold cfgV at *
  by_cases g0 : cfgB c = false
  · rw [g0] at HC HSB
    go_enter Tryz.func25, Tryz.ntmps25
    go_wp2_with fail
    refine (HC.out _).mono ?_
    rintro e w1 ⟨rfl, hb1⟩
    go_wp2
    go_ret2
    exact Or.inl ⟨by rw [HSB.out]; simp, rfl, bto (bto (bnew _ _) (bnew _ _)) hb1⟩
  have g0' : cfgB c = true := by simpa using g0
  obtain ⟨hw0, hw1⟩ := HCW.out g0'
  rw [g0'] at HC HSB
  clear g0 g0' HCW
  by_cases g1 : btwB now 0 1000000000000 = false
  · rw [g1] at HSB HWI
    clear g1
    go_enter Tryz.func25, Tryz.ntmps25
    go_wp2_with fail
    refine (HC.out _).mono ?_
    rintro e w1 ⟨rfl, hb1⟩
    have B1 : Hid (Below w.heap.size w w1) := bto (bto (bnew _ _) (bnew _ _)) hb1
    have S1 : Hid (Blk w1 (w.heap.size + 1) #[.int .i64 now, .slice a ts.length cap] 27) := hid (by have := (Blk.new (w.alloc (.cells #[.int .i64 c.w, .int .i64 c.tl, .int .i64 c.ml, .int .i64 c.sh, .int .i64 c.ha, .int .i64 c.sg] 24)) #[.int .i64 now, .slice a ts.length cap] 27).later hb1; simpa using this)
    have s0 : w1.cell? ⟨w.heap.size + 1, 0, none⟩ = some (.int .i64 now) := S1.out.cell 0
    clear hb1
    go_wp2_with fail
    refine (HWI.out _).mono ?_
    rintro e w2 ⟨rfl, hw⟩
    replace hw := hw.symm
    subst hw
    go_wp2
    go_ret2
    exact Or.inl ⟨by rw [HSB.out]; simp, rfl, B1.out⟩
  have g1' : btwB now 0 1000000000000 = true := by simpa using g1
  obtain ⟨hn0, hn1⟩ := btw_in g1'
  rw [g1'] at HSB HWI
  clear g1 g1'
  by_cases g2 : (10000 : Int) < ts.length
  · have e2 : decide (ts.length ≤ 10000) = false := by simp; omega
    rw [e2] at HSB
    go_enter Tryz.func25, Tryz.ntmps25
    go_wp2_with fail
    refine (HC.out _).mono ?_
    rintro e w1 ⟨rfl, hb1⟩
    have B1 : Hid (Below w.heap.size w w1) := bto (bto (bnew _ _) (bnew _ _)) hb1
    have S1 : Hid (Blk w1 (w.heap.size + 1) #[.int .i64 now, .slice a ts.length cap] 27) := hid (by have := (Blk.new (w.alloc (.cells #[.int .i64 c.w, .int .i64 c.tl, .int .i64 c.ml, .int .i64 c.sh, .int .i64 c.ha, .int .i64 c.sg] 24)) #[.int .i64 now, .slice a ts.length cap] 27).later hb1; simpa using this)
    have s0 : w1.cell? ⟨w.heap.size + 1, 0, none⟩ = some (.int .i64 now) := S1.out.cell 0
    have s1 : w1.cell? ⟨w.heap.size + 1, 1, none⟩ = some (.slice a ts.length cap) := S1.out.cell 1
    clear hb1
    go_wp2_with fail
    refine (HWI.out _).mono ?_
    rintro e w2 ⟨rfl, hw⟩
    replace hw := hw.symm
    subst hw
    go_wp2
    go_ret2
    exact Or.inl ⟨by rw [HSB.out]; simp, rfl, B1.out⟩
  have e2 : decide (ts.length ≤ 10000) = true := by simp; omega
  rw [e2] at HSB
  clear e2
  have HSB2 : Hid (stateB c now ts = tensB c.w now ts) := by show _ = _; rw [HSB.out]; simp
  clear HSB
  have hmm := @run_makeMap Tryz.prog
  go_enter Tryz.func25, Tryz.ntmps25
  go_wp2_with fail
  refine (HC.out _).mono ?_
  rintro e w1 ⟨rfl, hb1⟩
  have B1 : Hid (Below w.heap.size w w1) := bto (bto (bnew _ _) (bnew _ _)) hb1
  have C1 : Hid (Blk w1 w.heap.size #[.int .i64 c.w, .int .i64 c.tl, .int .i64 c.ml, .int .i64 c.sh, .int .i64 c.ha, .int .i64 c.sg] 24) := hid (((Blk.new _ _ _).alloc _).later hb1)
  have S1 : Hid (Blk w1 (w.heap.size + 1) #[.int .i64 now, .slice a ts.length cap] 27) := hid (by have := (Blk.new (w.alloc (.cells #[.int .i64 c.w, .int .i64 c.tl, .int .i64 c.ml, .int .i64 c.sh, .int .i64 c.ha, .int .i64 c.sg] 24)) #[.int .i64 now, .slice a ts.length cap] 27).later hb1; simpa using this)
  have s0 : w1.cell? ⟨w.heap.size + 1, 0, none⟩ = some (.int .i64 now) := S1.out.cell 0
  have s1 : w1.cell? ⟨w.heap.size + 1, 1, none⟩ = some (.slice a ts.length cap) := S1.out.cell 1
  have k0 : w1.cell? ⟨w.heap.size, 0, none⟩ = some (.int .i64 c.w) := C1.out.cell 0
  have k1 : w1.cell? ⟨w.heap.size, 1, none⟩ = some (.int .i64 c.tl) := C1.out.cell 1
  have k2 : w1.cell? ⟨w.heap.size, 2, none⟩ = some (.int .i64 c.ml) := C1.out.cell 2
  have k3 : w1.cell? ⟨w.heap.size, 3, none⟩ = some (.int .i64 c.sh) := C1.out.cell 3
  have k4 : w1.cell? ⟨w.heap.size, 4, none⟩ = some (.int .i64 c.ha) := C1.out.cell 4
  have k5 : w1.cell? ⟨w.heap.size, 5, none⟩ = some (.int .i64 c.sg) := C1.out.cell 5
  have hs1l := lt_of_block S1.out
  clear hb1 HC
  go_wp2_with fail
  refine (HWI.out _).mono ?_
  rintro e w2 ⟨rfl, hw⟩
  replace hw := hw.symm
  subst hw
  clear HWI
  go_upto_region 3 with fail
  go_cut [6] (fun s wx => s = .pointer (some ⟨w1.heap.size + 1, 0, none⟩) ∧ wx = (w1.alloc (.map #[] 0)).alloc (.cells (ledV c now w1.heap.size) 87))
  case first =>
    go_wp2
    go_meet
    exact ⟨rfl, rfl⟩
  obtain ⟨rfl, hwc⟩ := hcut
  have L0 : Hid (LedAt wc w1.heap.size (w1.heap.size + 1) w1.heap.size c now (ts.take 0) M) := by
    rw [hwc]
    refine ⟨fun _ => none, [], ?_, rfl⟩
    exact {
      blk := by have := Blk.new (w1.alloc (.map #[] 0)) (ledV c now w1.heap.size) 87; simpa using this
      ten := (World.ownsMap_made w1 _ _ _).alloc _
      rise := List.Pairwise.nil
      idx := fun p hp => by cases hp
      nd := List.nodup_nil
      tl := rfl
      tm := rfl
      lB := by omega
      mB := Nat.le_refl _ }
  have BC : Hid (Below w1.heap.size w1 wc) := by rw [hwc]; exact bto (bnew _ _) (bnew _ _)
  have s2 : wc.cell? ⟨w.heap.size + 1, 1, none⟩ = some (.slice a ts.length cap) := (BC.out.cell hs1l).trans s1
  have SC : Hid (Blk wc (w.heap.size + 1) #[.int .i64 now, .slice a ts.length cap] 27) := S1.out.later BC.out
  have HU1 : Hid (UTab w1) := HU.out.later B1.out
  have HF1 : Hid (TensIn w1 a ts) := HF.out.later B1.out
  clear hwc hmm s0 s1 k0 k1 k2 k3 k4 k5 C1 HU HF
  go_wp2
  clear s2
  go_loopw [7, 8, 33] (fun _ _ i wr => ∃ k : Nat, k ≤ ts.length ∧ i = .int .i64 k ∧ allTo (tenAt c.w now ts) k = true ∧ LedAt wr w1.heap.size (w1.heap.size + 1) w1.heap.size c now (ts.take k) M ∧ Below w1.heap.size w1 wr) (fun _ _ i _ => ts.length - (intOf i).toNat)
  case atStart => exact ⟨0, Nat.zero_le _, rfl, rfl, L0.out, BC.out⟩
  case round =>
    obtain ⟨k, hk, rfl, hok, hled, hbel⟩ := hrel
    have HOK : Hid (allTo (tenAt c.w now ts) k = true) := hok
    have HLED : Hid (LedAt wr w1.heap.size (w1.heap.size + 1) w1.heap.size c now (ts.take k) M) := hled
    have HBEL : Hid (Below w1.heap.size w1 wr) := hbel
    clear hok hled hbel L0 BC SC
    by_cases hlt : k < ts.length
    · obtain ⟨b, o, a1, q1, a2, q2, rfl, hbl, t0, t1, t2, t3, p1, p2⟩ := HF1.out.at hlt
      obtain ⟨n1, n2, n3, n4, n5, n6⟩ := HB.out k hlt
      have HAT : Hid (tenAt c.w now ts k = (prevT ts k && tenB c.w now ts[k])) := tenAt_eq hlt
      have HFAIL : Hid (tenAt c.w now ts k = false → stateB c now ts = false) := fun h => by rw [HSB2.out]; exact allTo_not h hlt
      have HPRE : Hid (0 < k → ∃ pn : ByteArray, prevT ts k = blt pn ts[k].name ∧ w1.cell? ⟨b, o + (k - 1) * 4, none⟩ = some (.string pn)) := fun h0 => by
        refine ⟨_, prevT_at h0 hlt, ?_⟩
        obtain ⟨b', o', _, _, _, _, e, _, u0, _⟩ := HF1.out.at (i := k - 1) (by omega)
        simp only [Option.some.injEq, Addr.mk.injEq, and_true] at e
        rw [e.1, e.2]; exact u0
      have HPZ : Hid (k = 0 → prevT ts k = true) := fun h0 => by subst h0; rfl
      have HTK : Hid (prevT ts k = true → insBy (·.name) ts[k] (ts.take k) = ts.take (k + 1) ∧ getBy (·.name) ts[k].name (ts.take k) = none) := fun h => ins_take (key := fun t : TenD => t.name) hlt (by
        apply rise_steps
        intro j hj
        simp only [List.length_take] at hj
        by_cases e : j + 1 = k
        · subst e
          rw [prevT_at (by omega) hlt] at h
          simpa using h
        · have := allTo_at HOK.out (k := j + 1) (by omega)
          rw [tenAt_eq (by omega), Bool.and_eq_true] at this
          have h1 := this.1
          rw [prevT_at (by omega) (by omega)] at h1
          simpa using h1)
      have HTL : Hid ((ts.take k).length ≤ 1000000000) := by show _ ≤ _; rw [List.length_take]; omega
      have z0 : wr.cell? ⟨b, o + k * 4, none⟩ = some (.string ts[k].name) := (HBEL.out.cell hbl).trans t0
      have z1 : wr.cell? ⟨b, o + k * 4 + 1, none⟩ = some (.int .i64 ts[k].limit) := (HBEL.out.cell hbl).trans t1
      have z2 : wr.cell? ⟨b, o + k * 4 + 2, none⟩ = some (.slice a1 ts[k].mets.length q1) := (HBEL.out.cell hbl).trans t2
      have z3 : wr.cell? ⟨b, o + k * 4 + 3, none⟩ = some (.slice a2 ts[k].sers.length q2) := (HBEL.out.cell hbl).trans t3
      generalize ts[k] = T at *
      have HLDA : Hid (∀ W, LedAt W w1.heap.size (w1.heap.size + 1) w1.heap.size c now (ts.take k) M → Below w1.heap.size w1 W → prevT ts k = true → Calls Tryz.prog 49 #[.pointer (some ⟨w1.heap.size + 1, 0, none⟩), .agg #[.string T.name, .int .i64 T.limit, .slice a1 T.mets.length q1, .slice a2 T.sers.length q2]] W fun e w' => e = .returned (.bool (tenB c.w now T)) ∧ (tenB c.w now T = true → LedAt w' w1.heap.size (w1.heap.size + 1) w1.heap.size c now (ts.take (k + 1)) M) ∧ Turn (· = w1.heap.size) W w') := fun W hW hb hp => by
        refine (load_any (w1.heap.size + 1) w1.heap.size T a1 a2 q1 q2 c now (ts.take k) M w1 W hW hb HU1.out p1 p2 (HTK.out hp).2 n1 n2 n3 n4 n5 HTL.out n6 hn0 hn1 hw0 hw1).mono ?_
        rintro e w' ⟨h1, h2, h3⟩
        rw [(HTK.out hp).1] at h2
        exact ⟨h1, h2, h3⟩
      have hTBG : w1.heap.size + 1 < wr.heap.size := by obtain ⟨_, _, hz, _⟩ := HLED.out; exact lt_of_block hz.blk
      go_upto_region 7 with fail
      have TBX : Hid (Blk (wr.alloc (.cells #[.string T.name, .int .i64 T.limit, .slice a1 T.mets.length q1, .slice a2 T.sers.length q2] 46)) wr.heap.size #[.string T.name, .int .i64 T.limit, .slice a1 T.mets.length q1, .slice a2 T.sers.length q2] 46) := Blk.new _ _ _
      have HB2 : Hid (Below w1.heap.size w1 (wr.alloc (.cells #[.string T.name, .int .i64 T.limit, .slice a1 T.mets.length q1, .slice a2 T.sers.length q2] 46))) := HBEL.out.trans ((bnew _ _).mono HBEL.out.size)
      have HL2 : Hid (LedAt (wr.alloc (.cells #[.string T.name, .int .i64 T.limit, .slice a1 T.mets.length q1, .slice a2 T.sers.length q2] 46)) w1.heap.size (w1.heap.size + 1) w1.heap.size c now (ts.take k) M) := HLED.out.later (bnew _ _)
      generalize wr.alloc (.cells #[.string T.name, .int .i64 T.limit, .slice a1 T.mets.length q1, .slice a2 T.sers.length q2] 46) = W at *
      generalize wr.heap.size = tb at *
      have x0 : W.cell? ⟨w.heap.size + 1, 1, none⟩ = some (.slice (some ⟨b, o, none⟩) ts.length cap) := (HB2.out.cell hs1l).trans (S1.out.cell 1)
      have x1 : W.cell? ⟨tb, 0, none⟩ = some (.string T.name) := TBX.out.cell 0
      have x2 : W.cell? ⟨tb, 1, none⟩ = some (.int .i64 T.limit) := TBX.out.cell 1
      have x3 : W.cell? ⟨tb, 2, none⟩ = some (.slice a1 T.mets.length q1) := TBX.out.cell 2
      have x4 : W.cell? ⟨tb, 3, none⟩ = some (.slice a2 T.sers.length q2) := TBX.out.cell 3
      have HPR2 : Hid (0 < k → ∃ pn : ByteArray, prevT ts k = blt pn T.name ∧ W.cell? ⟨b, o + (k - 1) * 4, none⟩ = some (.string pn)) := fun h0 => by
        obtain ⟨pn, e1, e2⟩ := HPRE.out h0
        exact ⟨pn, e1, (HB2.out.cell hbl).trans e2⟩
      have HLD0 : Hid (prevT ts k = true → ∀ W', Below W.heap.size W W' → Calls Tryz.prog 49 #[.pointer (some ⟨w1.heap.size + 1, 0, none⟩), .agg #[.string T.name, .int .i64 T.limit, .slice a1 T.mets.length q1, .slice a2 T.sers.length q2]] W' fun e w' => e = .returned (.bool (tenB c.w now T)) ∧ (tenB c.w now T = true → LedAt w' w1.heap.size (w1.heap.size + 1) w1.heap.size c now (ts.take (k + 1)) M) ∧ Turn (· = w1.heap.size) W' w') := fun hp W' hW => HLDA.out W' (HL2.out.later hW) (HB2.out.trans (hW.mono HB2.out.size)) hp
      have hTBL : tb < W.heap.size := lt_of_block TBX.out
      have hTB1 : w1.heap.size + 1 < tb := hTBG
      have hWs := HB2.out.size
      have HBT : Hid (∀ w', Turn (· = w1.heap.size) W w' → Below w1.heap.size w1 w') := fun w' hw => HB2.out.trans (hw.below hWs (fun k hk => by omega))
      clear z0 z1 z2 z3 t0 t1 t2 t3 p1 p2 HPRE HLDA HLED HBEL TBX wr
      go_cut [57] (fun s wx => s = .bool (!(tenAt c.w now ts k)) ∧ (tenAt c.w now ts k = true → LedAt wx w1.heap.size (w1.heap.size + 1) w1.heap.size c now (ts.take (k + 1)) M) ∧ Below w1.heap.size w1 wx)
      case first =>
        by_cases h0 : (0 : Int) < k
        · have h0' : 0 < k := by omega
          obtain ⟨pn, hp, cp⟩ := HPR2.out h0'
          obtain ⟨j, hj⟩ : ∃ j, j = k - 1 := ⟨_, rfl⟩
          rw [← hj] at cp
          have hi0 : IntKind.i64.wrap ((k : Int) - 1) = (j : Int) := by
            have : (k : Int) - 1 = (j : Int) := by omega
            rw [this]
            simp only [IntKind.wrap, IntKind.bits, IntKind.signed]
            simp
            omega
          have hi1 : (j : Int) < ts.length := by omega
          have hi2 : j < ts.length := by omega
          clear hj
          by_cases hb : Op.bytesLess pn.toList T.name.toList = true
          · have hpt : prevT ts k = true := by rw [hp]; exact hb
            have HLD := hid (HLD0.out hpt)
            have HV : Hid (tenAt c.w now ts k = tenB c.w now T) := by show _ = _; rw [HAT.out, hpt, Bool.true_and]
            clear hp hpt
            have HKS : Hid (∀ w', Turn (· = w1.heap.size) W w' → w'.cell? ⟨w.heap.size + 1, 1, none⟩ = some (.slice (some ⟨b, o, none⟩) ts.length cap) ∧ w'.cell? ⟨b, o + j * 4, none⟩ = some (.string pn) ∧ w'.cell? ⟨tb, 0, none⟩ = some (.string T.name) ∧ w'.cell? ⟨tb, 1, none⟩ = some (.int .i64 T.limit) ∧ w'.cell? ⟨tb, 2, none⟩ = some (.slice a1 T.mets.length q1) ∧ w'.cell? ⟨tb, 3, none⟩ = some (.slice a2 T.sers.length q2)) := fun w' hw => by
              have hg : ∀ g, g < W.heap.size → g ≠ w1.heap.size → ∀ q, w'.cell? ⟨g, q, none⟩ = W.cell? ⟨g, q, none⟩ := fun g h1 h2 q => World.cell?_of_block (hw.block g h1 h2)
              exact ⟨(hg _ (by omega) (by omega) _).trans x0, (hg _ (by omega) (by omega) _).trans cp, (hg _ hTBL (by omega) _).trans x1, (hg _ hTBL (by omega) _).trans x2, (hg _ hTBL (by omega) _).trans x3, (hg _ hTBL (by omega) _).trans x4⟩
            go_region_held3 (fun w' => w'.cell? ⟨w.heap.size + 1, 1, none⟩ = some (.slice (some ⟨b, o, none⟩) ts.length cap) ∧ w'.cell? ⟨b, o + j * 4, none⟩ = some (.string pn) ∧ w'.cell? ⟨tb, 0, none⟩ = some (.string T.name) ∧ w'.cell? ⟨tb, 1, none⟩ = some (.int .i64 T.limit) ∧ w'.cell? ⟨tb, 2, none⟩ = some (.slice a1 T.mets.length q1) ∧ w'.cell? ⟨tb, 3, none⟩ = some (.slice a2 T.sers.length q2))
              (first | go_keep | exact HKS.out _ hs8)
              (first | (go_at_call 49; refine (HLD.out _ (by repeat (first | with_reducible exact Below.refl _ _ | exact (Below.refl _ _).drew | with_reducible refine Below.drew ?_))).mono ?_; rintro e w8 ⟨rfl, hl8, ht8⟩; have hs8 : Turn (· = w1.heap.size) W w8 := (Turn.refl _ _).drew.trans' ht8))
            all_goals (go_wp2_with fail; go_meet)
            all_goals exact ⟨by rw [HV.out], fun h => by rw [HV.out] at h; exact hl8 h, HBT.out _ hs8⟩
          · have hb' : Op.bytesLess pn.toList T.name.toList = false := by simpa using hb
            have HV : Hid (tenAt c.w now ts k = false) := by show _ = _; rw [HAT.out, hp, blt, hb']; rfl
            clear hp hb
            go_quiet (fail)
            go_wp2_with fail
            go_meet
            exact ⟨by rw [HV.out]; rfl, fun h => absurd h (by rw [HV.out]; simp), below_drewN HB2.out _⟩
        · have hd : decide ((0 : Int) < k) = false := by simpa using h0
          have hd' : decide (0 < k) = false := by simp; omega
          have hnk : ¬ 0 < k := by omega
          have hpt : prevT ts k = true := HPZ.out (by omega)
          have HLD := hid (HLD0.out hpt)
          have HV : Hid (tenAt c.w now ts k = tenB c.w now T) := by show _ = _; rw [HAT.out, hpt, Bool.true_and]
          clear hpt
          refine wp_region_quiet_tail 17 (by kernel_rfl) (by kernel_rfl) ?_
          simp only [List.take_succ_cons, List.take_zero, List.drop_succ_cons, List.drop_zero]
          have hnel : Nonempty Unit := ⟨()⟩
          repeat (go_big_quiet_step (fail))
          refine wpQuiet_nil ?_
          go_wp2_with (first | (go_at_call 49; refine (HLD.out _ ((Below.refl _ _).drew)).mono ?_; rintro e w8 ⟨rfl, hl8, ht8⟩))
          go_meet
          exact ⟨by rw [HV.out], fun h => by rw [HV.out] at h; exact hl8 h, HBT.out _ ((Turn.refl _ _).drew.trans' ht8)⟩
      obtain ⟨rfl, hl8, hb8⟩ := hcut
      rename World => w8
      have HB8 : Hid (Below w1.heap.size w1 w8) := hb8
      by_cases f4 : tenAt c.w now ts k = false
      · have HF4 : Hid (stateB c now ts = false) := HFAIL.out f4
        rw [f4]
        clear f4 hl8 hb8
        go_wp2
        go_ret2
        exact Or.inl ⟨HF4.out, rfl, bto B1.out HB8.out⟩
      · have f4' : tenAt c.w now ts k = true := by simpa using f4
        have HF4 : Hid (allTo (tenAt c.w now ts) (k + 1) = true) := by show _ = _; rw [allTo_succ, HOK.out, f4']; rfl
        have HL8 : Hid (LedAt w8 w1.heap.size (w1.heap.size + 1) w1.heap.size c now (ts.take (k + 1)) M) := hl8 f4'
        rw [f4']
        clear f4 f4' hl8 hb8
        go_wp2
        exact ⟨⟨k + 1, by omega, by go_num, HF4.out, HL8.out, HB8.out⟩, by simp [intOf]; omega⟩
    · have ek : k = ts.length := by omega
      have HEND : Hid (stateB c now ts = true) := by show _ = _; rw [HSB2.out]; have := HOK.out; rw [ek] at this; exact this
      have HLE : Hid (LedAt wr w1.heap.size (w1.heap.size + 1) w1.heap.size c now ts M) := by have := HLED.out; rw [ek, List.take_length] at this; exact this
      have hz := B1.out.size
      go_wp2
      go_ret2
      exact Or.inr ⟨HEND.out, _, _, rfl, by omega, HLE.out.base hz, bto B1.out HBEL.out⟩
end Go.Proofs.YtnbkmmmlhlbfoaaGreatDoor
namespace Go.Proofs.YtnbkmmmlhlbfoaaGreatDoor
open Go.RowKit
end Go.Proofs.YtnbkmmmlhlbfoaaGreatDoor
namespace Go.Proofs.YtnbkmmmlhlbfoaaGreatDoor
open Go.RowKit
def LenT (fs : List TenD) : Prop := ∀ i (h : i < fs.length), fs[i].mets.length ≤ maxLen ∧ fs[i].sers.length ≤ maxLen
end Go.Proofs.YtnbkmmmlhlbfoaaGreatDoor
