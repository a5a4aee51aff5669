import Derived.Test.YtojeemogabhaoaaGreatDoorProg
import Derived.Test.YtojeemogabhaoaaGreatDoorJ42MkS
import Derived.Test.YtojeemogabhaoaaGreatDoorJ40StrL
namespace Go.Proofs.YtojeemogabhaoaaGreatDoor
open Go.RowKit
theorem blk_allocB {w w' : World} {cs : Array Value} {t : TypeId} (h : Below (w.alloc (.cells cs t)).heap.size (w.alloc (.cells cs t)) w') : Blk w' w.heap.size cs t := (Blk.new w cs t).later h
theorem blk_drewB {w w' : World} {cs : Array Value} {t : TypeId} (h : Below (w.alloc (.cells cs t)).drew.heap.size (w.alloc (.cells cs t)).drew w') : Blk w' w.heap.size cs t := (Blk.new w cs t).later ⟨h.os, h.tape, h.output, h.size, h.block⟩
theorem set2 {w1 w5 : World} {X : Nat} {v0 v1 : Value} (h : Below w1.heap.size w1 w5) (hX : w1.heap.size ≤ X) : Below w1.heap.size w1 ((w5.setCell ⟨X, 0, none⟩ v0).setCell ⟨X, 1, none⟩ v1) := (h.setCell hX _).setCell hX _
def TensX (w : World) (B X : Nat) (a : Option Addr) (ts : List TenD) : Prop :=
  ts = [] ∨ ∃ g o cur t T, a = some ⟨g, o, none⟩ ∧ B ≤ g ∧ w.heap[g]? = some (.cells cur t (0, 0)) ∧ T g = 0 ∧ 2 * ts.length < T X ∧ ∀ i (h : i < ts.length), TenOwn w B T i g (o + i * 4) ts[i]
theorem TensX.tens {w : World} {B X : Nat} {a : Option Addr} {ts : List TenD} (h : TensX w B X a ts) : TensIn w a ts := by
  rcases h with h | ⟨g, o, cur, t, T, rfl, _, hb, _, _, h⟩
  · exact Or.inl h
  · exact Or.inr ⟨g, o, rfl, lt_of_block hb, fun i hi => (h i hi).at⟩
theorem TensX.turned {S : Nat → Prop} {w w' : World} {B X : Nat} {a : Option Addr} {ts : List TenD} (h : TensX w B X a ts) (ht : Turn S w w') (hS : ∀ g, B ≤ g → g < w.heap.size → g ≠ X → ¬ S g) : TensX w' B X a ts := by
  rcases h with h | ⟨g, o, cur, t, T, rfl, hB, hg, hT, hX, h⟩
  · exact Or.inl h
  · have hk := ht.block g (lt_of_block hg) (hS g hB (lt_of_block hg) (fun e => by subst e; omega))
    refine Or.inr ⟨g, o, cur, t, T, rfl, hB, hk.trans hg, hT, hX, fun i hi => (h i hi).keep (fun j _ => World.cell?_of_block hk) fun g' hg' hB' hT' => ⟨ht.block g' hg' (hS g' hB' hg' (fun e => by subst e; omega)), rfl⟩⟩
theorem TensX.later {w w' : World} {B X : Nat} {a : Option Addr} {ts : List TenD} (h : TensX w B X a ts) (hb : Below w.heap.size w w') : TensX w' B X a ts := h.turned (Turn.of (S := fun _ => False) hb) fun _ _ _ _ e => e
theorem TensOwn.toX {w : World} {B X : Nat} {a : Option Addr} {ts : List TenD} (h : TensOwn w B a ts) (hX : X < B ∨ w.heap.size ≤ X) : TensX w B X a ts := by
  rcases h with h | ⟨g, o, cur, t, T, rfl, hB, hg, hT, h⟩
  · exact Or.inl h
  · have hlt := lt_of_block hg
    refine Or.inr ⟨g, o, cur, t, fun x => if x = X then 2 * ts.length + 1 else T x, rfl, hB, hg, ?_, ?_, fun i hi => (h i hi).keep (fun j _ => rfl) fun g' hg' hB' _ => ⟨rfl, ?_⟩⟩
    · show (if g = X then _ else T g) = 0
      rw [if_neg (by omega)]; exact hT
    · show _ < (if X = X then _ else T X)
      rw [if_pos rfl]; omega
    · show (if g' = X then _ else T g') = T g'
      rw [if_neg (by omega)]
theorem markTensX (a : Option Addr) (cap : Nat) (ts : List TenD) (k B X : Nat) (w : World) (hk : 0 < k) (hk2 : k + tensLen ts ≤ 100000000) (h0 : TensX w B X a ts) :
    Calls Tryz.prog 44 #[.slice a ts.length cap, .int .i64 (k : Int)] w fun e w' => e = .returned (.int .i64 ((k + tensLen ts : Nat) : Int)) ∧ Turn (fun g => B ≤ g ∧ g ≠ X) w w' ∧ TensIn w' a (markTens k ts) := by
  rcases h0 with rfl | ⟨g, o, cur, t, T, rfl, hB, hg, hT, hX, h⟩
  · refine (markTenantS_nil a cap k w).mono ?_
    rintro e w' ⟨rfl, rfl⟩
    exact ⟨ret_int (by simp [tensLen]), Turn.refl _ _, Or.inl (by simp [markTens])⟩
  · refine (markTenantS_any g o cap ts k B T cur t w hk hk2 hB hg hT h).mono ?_
    rintro e w' ⟨rfl, ht, c, hc, hm⟩
    exact ⟨rfl, ht.mono fun x _ hx => ⟨hx.1, fun e => by subst e; have := hx.2; omega⟩, Or.inr ⟨g, o, rfl, lt_of_block hc, fun i hi => (hm i hi).at⟩⟩
set_option maxRecDepth 100000 in
set_option maxHeartbeats 1000000 in
theorem markStateX (now : Int) (a : Option Addr) (cap : Nat) (ts : List TenD) (k B X : Nat) (w : World) (hk : 0 < k) (hk2 : k + tensLen ts ≤ 100000000) (h0 : TensX w B X a ts) :
    Calls Tryz.prog 17 #[.agg #[.int .i64 now, .slice a ts.length cap], .int .i64 (k : Int)] w fun e w' => e = .returned (.int .i64 ((k + tensLen ts : Nat) : Int)) ∧ Turn (fun g => B ≤ g ∧ g ≠ X) w w' ∧ TensIn w' a (markTens k ts) := by
  have HM : Hid (∀ W, Below w.heap.size w W → Calls Tryz.prog 44 #[.slice a ts.length cap, .int .i64 (k : Int)] W fun e w' => e = .returned (.int .i64 ((k + tensLen ts : Nat) : Int)) ∧ Turn (fun g => B ≤ g ∧ g ≠ X) W w' ∧ TensIn w' a (markTens k ts)) := fun W hW => markTensX a cap ts k B X W hk hk2 (h0.later hW)
  clear h0
  go_enter Tryz.func17, Tryz.ntmps17
  go_wp2_with fail
  refine (HM.out _ (bnew _ _)).mono ?_
  rintro e w1 ⟨rfl, ht, ho⟩
  have HT : Hid (Turn (fun g => B ≤ g ∧ g ≠ X) w w1 ∧ TensIn w1 a (markTens k ts)) := ⟨(Turn.of (bnew _ _)).trans' ht, ho⟩
  clear ht ho
  go_wp2
  go_ret
  exact ⟨rfl, HT.out.1, HT.out.2⟩
def StX (wv : World) (X : Nat) (v : Int) (vl : List TenD) (n : Nat) (wx : World) : Prop :=
  ∃ b d B, Blk wx X #[.int .i64 v, .slice b n d] 33 ∧ TensX wx B X b vl ∧ wv.heap.size ≤ B ∧ wv.heap.size ≤ X ∧ Below wv.heap.size wv wx
theorem stX_new {wv w4 : World} {v : Int} {vl : List TenD} {b : Option Addr} {d n B : Nat} (ho : TensOwn w4 B b vl) (hB : wv.heap.size ≤ B) (k : Below wv.heap.size wv w4) : StX wv w4.heap.size v vl n (w4.alloc (.cells #[.int .i64 v, .slice b n d] 33)) :=
  ⟨b, d, B, Blk.new _ _ _, (ho.toX (Or.inr (Nat.le_refl _))).later (bnew _ _), hB, k.size, bto k (bnew _ _)⟩
theorem stX_old {wv w4 : World} {v : Int} {vl : List TenD} {b : Option Addr} {d n B X : Nat} (ho : TensOwn w4 B b vl) (hX : X < B) (hx : wv.heap.size ≤ X) (hz : Blk w4 X #[.int .i64 0, .slice none 0 0] 33) (k : Below wv.heap.size wv w4) :
    StX wv X v vl n ((w4.setCell ⟨X, 0, none⟩ (.int .i64 v)).setCell ⟨X, 1, none⟩ (.slice b n d)) := by
  have ht : Turn (· = X) w4 ((w4.setCell ⟨X, 0, none⟩ (.int .i64 v)).setCell ⟨X, 1, none⟩ (.slice b n d)) := ((Turn.refl (· = X) w4).setCell (Or.inl rfl) 0 _).setCell (Or.inl rfl) 1 _
  refine ⟨b, d, B, ?_, (ho.toX (Or.inl hX)).turned ht (fun g _ _ h e => h e), by omega, hx, set2 k hx⟩
  have := (hz.set 0 (.int .i64 v)).set 1 (.slice b n d)
  simpa using this
theorem tensLen_ins {key : TenD → ByteArray} {t : TenD} (l : List TenD) : tensLen (insBy key t l) ≤ tensLen l + tenLen t := by
  induction l with
  | nil => simp [insBy, tensLen]
  | cons p r ih =>
    rw [insBy]
    split
    · simp only [tensLen]; omega
    · split <;> (simp only [tensLen]; omega)
theorem tensLen_filter (p : TenD → Bool) (l : List TenD) : tensLen (l.filter p) ≤ tensLen l := by
  induction l with
  | nil => exact Nat.le_refl _
  | cons a r ih =>
    rw [List.filter_cons]
    split <;> (simp only [tensLen]; omega)
theorem tensLen_small {ts : List TenD} (h : ts.length + tensBulk ts ≤ 1048576) : tensLen ts ≤ 4194304 := by
  have : tensLen ts ≤ 2 * tensBulk ts + 2 * ts.length := by
    clear h
    induction ts with
    | nil => exact Nat.zero_le _
    | cons t r ih => simp only [List.length_cons, tensLen, tenLen, tensBulk, tenBulk]; omega
  omega
theorem setLimV_small {c : CfgD} {now : Int} {ts : List TenD} (hbk : ts.length + tensBulk ts ≤ 1048576) {tenant metric : ByteArray} {limit : Int} (hn : tenant.size ≤ 1048576) (hm : metric.size ≤ 1048576) :
    tensLen (setLimV c now ts tenant metric limit).2.1 ≤ 50000000 ∧ (setLimV c now ts tenant metric limit).2.1.length ≤ 2000000 ∧ LenT (setLimV c now ts tenant metric limit).2.1 := by
  have hfs := fitS_of hbk
  by_cases h0 : stateB c now ts = true
  · rw [setL_eq h0]
    obtain ⟨hfl, hsl⟩ := setL_fit (limit := limit) hfs hn hm
    have ht := tensLen_small hbk
    refine ⟨?_, by show (setL ts tenant metric limit).1.length ≤ _; omega, fun i hi => ?_⟩
    · show tensLen (setL ts tenant metric limit).1 ≤ _
      unfold setL
      split
      · show tensLen ts ≤ _; omega
      · split
        · have : tensLen (delBy (·.name) tenant ts) ≤ tensLen ts := tensLen_filter _ _
          show tensLen (delBy (·.name) tenant ts) ≤ _
          omega
        · split
          · show tensLen ts ≤ _; omega
          · have h1 := tensLen_ins (key := fun t : TenD => t.name) (t := limT (tenOf ts tenant) metric limit) ts
            obtain ⟨_, _, _, h4, h5⟩ := limT_fit (limit := limit) (tenOf_fit hfs hn) hm
            show tensLen (insBy (·.name) (limT (tenOf ts tenant) metric limit) ts) ≤ _
            unfold tenLen at h1
            omega
    · obtain ⟨_, _, _, h4, h5⟩ := hfl _ (List.getElem_mem hi)
      unfold maxLen
      exact ⟨Nat.le_trans h4 (by omega), Nat.le_trans h5 (by omega)⟩
  · have e : setLimV c now ts tenant metric limit = (0, [], false) := by unfold setLimV; rw [if_pos (by simpa using h0)]
    rw [e]
    exact ⟨Nat.zero_le _, Nat.zero_le _, fun i h => absurd h (by simp)⟩
end Go.Proofs.YtojeemogabhaoaaGreatDoor
