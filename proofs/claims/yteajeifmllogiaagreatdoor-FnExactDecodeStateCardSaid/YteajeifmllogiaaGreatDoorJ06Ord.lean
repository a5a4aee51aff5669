import Derived.Test.YteajeifmllogiaaGreatDoorJ03CrcL
import Derived.Test.YteajeifmllogiaaGreatDoorProg
import Derived.Test.YteajeifmllogiaaGreatDoorJ05ITenD
import Derived.WalkKit
namespace Go.Proofs.YteajeifmllogiaaGreatDoor
open Go.RowKit

/-- A tenant and where its two lists lie. -/
structure TV where
  t : TenD
  a1 : Option Addr
  c1 : Nat
  a2 : Option Addr
  c2 : Nat
def flatV (ys : List TV) : List Value := ys.flatMap fun y => [.string y.t.name, .int .i64 y.t.limit, .slice y.a1 y.t.mets.length y.c1, .slice y.a2 y.t.sers.length y.c2]
theorem flatV_append (a b : List TV) : flatV (a ++ b) = flatV a ++ flatV b := by simp [flatV]
def PartsV (w : World) (b : Nat) (T : Nat → Nat) (ys : List TV) : Prop :=
  ∀ i (h : i < ys.length), PairsTag w b T (2 * i + 1) ys[i].a1 ys[i].t.mets ∧ PairsTag w b T (2 * i + 2) ys[i].a2 ys[i].t.sers
def RowV (w : World) (b : Nat) (e : TypeId) (v : Value) (n : Nat) (ts : List TenD) : Prop :=
  ∃ T ys, w.ownsRow b e 4 v n (flatV ys) ∧ ys.map (·.t) = ts ∧ (∀ g, v.ownBlock = some g → T g = 0) ∧ PartsV w b T ys
theorem RowV.nil (w : World) (b : Nat) (e : TypeId) : RowV w b e (.slice none 0 0) 0 [] :=
  ⟨fun _ => 0, [], World.ownsRow_nil _ _ _ _, rfl, fun _ _ => rfl, fun i h => absurd h (by simp)⟩
theorem RowV.row {w : World} {b : Nat} {e : TypeId} {v : Value} {n : Nat} {ts : List TenD} (h : RowV w b e v n ts) : ∃ a c, v = .slice a n c := by
  obtain ⟨_, _, h, _⟩ := h
  rcases h.2 with ⟨rfl, rfl⟩ | ⟨g, cap, cur, rfl, _⟩
  · exact ⟨none, 0, rfl⟩
  · exact ⟨_, _, rfl⟩
theorem RowV.lt {w : World} {b : Nat} {e : TypeId} {v : Value} {n : Nat} {ts : List TenD} (h : RowV w b e v n ts) : ∀ g, v.ownBlock = some g → b ≤ g ∧ g < w.heap.size := by
  obtain ⟨_, _, h, _⟩ := h
  exact fun g hg => h.lt g hg
theorem RowV.turn {w w' : World} {S : Nat → Prop} {b : Nat} {e : TypeId} {v : Value} {n : Nat} {ts : List TenD} (h : RowV w b e v n ts) (ht : Turn S w w') (hS : ∀ g, S g → g < b) : RowV w' b e v n ts := by
  obtain ⟨T, ys, h1, h2, h3, h4⟩ := h
  refine ⟨T, ys, ht.row h1 (fun g hg e => by have := (h1.lt g hg).1; have := hS g e; omega), h2, h3, fun i hi => ?_⟩
  have hk : ∀ g, g < w.heap.size → b ≤ g → w'.heap[g]? = w.heap[g]? := fun g hg hb => ht.block g hg (fun e => by have := hS g e; omega)
  exact ⟨(h4 i hi).1.keep fun g hg hb hT => ⟨hk g hg hb, hT⟩, (h4 i hi).2.keep fun g hg hb hT => ⟨hk g hg hb, hT⟩⟩
/-- One tenant more: its lists lie in blocks that were made since. -/
theorem RowV.snoc {wr w4 w6 : World} {b M gg cap k : Nat} {e : TypeId} {v : Value} {T : Nat → Nat} {ys : List TV} {ts : List TenD} {t : TenD} {a1 a2 : Option Addr} {c1 c2 : Nat}
    (hrow : w6.ownsRow b e 4 (.slice (some ⟨gg, 0, none⟩) (k + 1) cap) (k + 1) (flatV ys ++ [.string t.name, .int .i64 t.limit, .slice a1 t.mets.length c1, .slice a2 t.sers.length c2]))
    (hys : ys.map (·.t) = ts) (hyk : ys.length = k) (hv : ∀ g, v.ownBlock = some g → T g = 0) (hp : PartsV wr b T ys) (hb : b ≤ wr.heap.size) (hM : wr.heap.size ≤ M)
    (hk0 : ∀ g, g < wr.heap.size → b ≤ g → v.ownBlock ≠ some g → w6.heap[g]? = wr.heap[g]?) (hk4 : ∀ g, wr.heap.size ≤ g → g < w4.heap.size → w6.heap[g]? = w4.heap[g]?)
    (h1 : PairsOwn w4 wr.heap.size a1 t.mets) (h1M : ∀ g o, a1 = some ⟨g, o, none⟩ → g < M) (h2 : PairsOwn w4 M a2 t.sers)
    (hgg : (v.ownBlock = some gg ∧ gg < wr.heap.size) ∨ w4.heap.size ≤ gg) (h4r : wr.heap.size ≤ w4.heap.size) (hM4 : M ≤ w4.heap.size) : RowV w6 b e (.slice (some ⟨gg, 0, none⟩) (k + 1) cap) (k + 1) (ts ++ [t]) := by
  have own6 : ∀ {B n : Nat} {T' : Nat → Nat} {a : Option Addr} {ps : List PairD}, wr.heap.size ≤ B → PairsOwn w4 B a ps → (∀ g o, a = some ⟨g, o, none⟩ → B ≤ g → g < w4.heap.size → T' g = n) → PairsTag w6 b T' n a ps := by
    intro B n T' a ps hB h hT
    rcases h with h | ⟨g, o, cur, ty, rfl, hBg, hblk, hat⟩
    · exact Or.inl h
    · have hlt := lt_of_block hblk
      have hke := hk4 g (by omega) hlt
      have hc : ∀ j, w6.cell? ⟨g, j, none⟩ = w4.cell? ⟨g, j, none⟩ := fun j => World.cell?_of_block hke
      exact Or.inr ⟨g, o, cur, ty, rfl, by omega, hT g o rfl hBg hlt, hke.trans hblk, fun i hi => by simp only [hc]; exact hat i hi⟩
  refine ⟨fun g => if g < wr.heap.size then T g else if g < M then 2 * k + 1 else if g < w4.heap.size then 2 * k + 2 else 0, ys ++ [⟨t, a1, c1, a2, c2⟩], ?_, ?_, ?_, ?_⟩
  · rw [flatV_append]; exact hrow
  · rw [List.map_append, hys]; rfl
  · intro g hg
    simp only [Value.ownBlock, Option.some.injEq] at hg
    subst hg
    rcases hgg with ⟨h, hl⟩ | h
    · simp only [if_pos hl]; exact hv _ h
    · simp only [if_neg (show ¬ gg < wr.heap.size by omega), if_neg (show ¬ gg < M by omega), if_neg (show ¬ gg < w4.heap.size by omega)]
  · intro i hi
    by_cases hik : i < ys.length
    · rw [List.getElem_append_left hik]
      obtain ⟨p1, p2⟩ := hp i hik
      refine ⟨p1.keep fun g hg hbg hT => ⟨hk0 g hg hbg (fun e => by have := hv g e; omega), by simp only [if_pos hg]; exact hT⟩, p2.keep fun g hg hbg hT => ⟨hk0 g hg hbg (fun e => by have := hv g e; omega), by simp only [if_pos hg]; exact hT⟩⟩
    · have e : i = k := by simp at hi; omega
      subst e
      rw [List.getElem_append_right (by omega)]
      simp only [hyk, Nat.sub_self, List.getElem_cons_zero]
      refine ⟨own6 (Nat.le_refl _) h1 fun g o ha hg _ => ?_, own6 hM h2 fun g o ha hg hl => ?_⟩
      · simp only [if_neg (show ¬ g < wr.heap.size by omega), if_pos (h1M g o ha)]
      · simp only [if_neg (show ¬ g < wr.heap.size by omega), if_neg (show ¬ g < M by omega), if_pos hl]
/-- A row of tenants is tenants in blocks of their own. -/
theorem RowV.own {w : World} {b : Nat} {e : TypeId} {a : Option Addr} {n cap : Nat} {ts : List TenD} (h : RowV w b e (.slice a n cap) n ts) (hn : ts.length = n) : TensOwn w b a ts := by
  obtain ⟨T, ys, h1, h2, h3, h4⟩ := h
  have hyl : ys.length = n := by rw [← hn, ← h2, List.length_map]
  rcases h1.2 with ⟨_, hl⟩ | ⟨g, cap', cur, he, hB, hg, _, _, hsz, htk⟩
  · exact Or.inl (List.length_eq_zero_iff.1 (by omega))
  · simp only [Value.slice.injEq] at he
    have hT : T g = 0 := h3 g (by rw [he.1]; rfl)
    have hf : ∀ (l : List TV) i (hi : i < l.length), (flatV l)[i * 4]? = some (.string l[i].t.name) ∧ (flatV l)[i * 4 + 1]? = some (.int .i64 l[i].t.limit) ∧ (flatV l)[i * 4 + 2]? = some (.slice l[i].a1 l[i].t.mets.length l[i].c1) ∧ (flatV l)[i * 4 + 3]? = some (.slice l[i].a2 l[i].t.sers.length l[i].c2) := by
      intro l
      unfold flatV
      induction l with
      | nil => intro i hi; exact absurd hi (by simp)
      | cons x r ih =>
        intro i hi
        cases i with
        | zero => simp
        | succ i =>
          have := ih i (by simpa using hi)
          simp only [List.flatMap_cons, List.cons_append, List.nil_append, List.getElem_cons_succ]
          refine ⟨?_, ?_, ?_, ?_⟩
          · rw [show (i + 1) * 4 = i * 4 + 1 + 1 + 1 + 1 by omega, List.getElem?_cons_succ, List.getElem?_cons_succ, List.getElem?_cons_succ, List.getElem?_cons_succ]; exact this.1
          · rw [show (i + 1) * 4 + 1 = i * 4 + 1 + 1 + 1 + 1 + 1 by omega, List.getElem?_cons_succ, List.getElem?_cons_succ, List.getElem?_cons_succ, List.getElem?_cons_succ]; exact this.2.1
          · rw [show (i + 1) * 4 + 2 = i * 4 + 2 + 1 + 1 + 1 + 1 by omega, List.getElem?_cons_succ, List.getElem?_cons_succ, List.getElem?_cons_succ, List.getElem?_cons_succ]; exact this.2.2.1
          · rw [show (i + 1) * 4 + 3 = i * 4 + 3 + 1 + 1 + 1 + 1 by omega, List.getElem?_cons_succ, List.getElem?_cons_succ, List.getElem?_cons_succ, List.getElem?_cons_succ]; exact this.2.2.2
    have hc : ∀ j, j < n * 4 → w.cell? ⟨g, j, none⟩ = (flatV ys)[j]? := fun j hj => by
      rw [Blk.cell (show Blk w g cur e from hg) j, ← Array.getElem?_toList, ← htk, List.getElem?_take_of_lt hj]
    refine Or.inr ⟨g, 0, cur, e, T, he.1, hB, hg, hT, fun i hi => ?_⟩
    have hiy : i < ys.length := by omega
    have et : ts[i] = ys[i].t := by simp only [← h2, List.getElem_map]
    obtain ⟨f0, f1, f2, f3⟩ := hf ys i hiy
    rw [et]
    refine ⟨ys[i].a1, ys[i].c1, ys[i].a2, ys[i].c2, ?_, ?_, ?_, ?_, (h4 i hiy).1, (h4 i hiy).2⟩
    · rw [Nat.zero_add, hc _ (by omega)]; exact f0
    · rw [Nat.zero_add, hc _ (by omega)]; exact f1
    · rw [Nat.zero_add, hc _ (by omega)]; exact f2
    · rw [Nat.zero_add, hc _ (by omega)]; exact f3
end Go.Proofs.YteajeifmllogiaaGreatDoor

namespace Go.Proofs.YteajeifmllogiaaGreatDoor
open Go.RowKit

theorem info_tenP : ∃ i, Tryz.prog.info? 39 = some i ∧ i.zero = some (.agg #[.string ⟨#[]⟩, .int .i64 0, .slice none 0 0, .slice none 0 0]) ∧ i.size = 4 ∧ i.bytes = 72 := by
  have h : (Tryz.prog.info? 39).map (fun i => (i.zero, i.size, i.bytes)) = some (some (.agg #[.string ⟨#[]⟩, .int .i64 0, .slice none 0 0, .slice none 0 0]), 4, 72) := by kernel_rfl
  obtain ⟨i, hi, hz⟩ := Option.map_eq_some_iff.1 h
  simp only [Prod.mk.injEq] at hz
  exact ⟨i, hi, hz.1, hz.2.1, hz.2.2⟩
/-- The state that is being read: its two boxes and its row. -/
def GS (w0 : World) (B R1 R2 : Nat) (N : Int) (v : Value) (k : Nat) (ts : List TenD) (w' : World) : Prop :=
  Blk w' R2 #[.int .i64 N, v] 26 ∧ Blk w' R1 #[.int .i64 0, .slice none 0 0] 26 ∧ RowV w' (R2 + 1) 39 v k ts ∧ But B w0 w'
theorem GS.turn {w0 : World} {B R1 R2 : Nat} {N : Int} {v : Value} {k : Nat} {ts : List TenD} {w' w'' : World} (h : GS w0 B R1 R2 N v k ts w') (hb : But B w' w'') (h1 : B < R1) (h2 : R1 < R2) : GS w0 B R1 R2 N v k ts w'' :=
  ⟨h.1.but hb (by omega), h.2.1.but hb (by omega), h.2.2.1.turn (Turn.but hb) (fun g e => by omega), h.2.2.2.trans hb⟩
def ChkOut (B : Nat) (s : ByteArray) (w : World) (e : Ending) (w' : World) : Prop :=
  ((staR s).2.short = false ∧ ∃ av cap, e = .returned (.tuple #[.int .i64 (wrapN (slR s).1), .agg #[.int .i64 (wrapN (snR s).1), .slice av (staR s).1.length cap]]) ∧ TensOwn w' w.heap.size av (staR s).1 ∧ RT w' B (staR s).2 ∧ But B w w') ∨
  ((staR s).2.short = true ∧ e = .panicked dcdP ∧ But B w w')
theorem sl_short {s : ByteArray} (h : (ckR s).2.short = true) : (slR s).2.short = true := by rw [slR]; exact num_short h
theorem sw_short {s : ByteArray} (h : (slR s).2.short = true) : (snR s).2.short = true := by rw [snR]; exact num_short h
theorem sc_short {s : ByteArray} (h : (snR s).2.short = true) : (scR s).2.short = true := by rw [scR]; exact num_short h
theorem st_short {s : ByteArray} (h : (scR s).2.short = true) : (staR s).2.short = true := by rw [staR]; exact rdts_short (k := 0) (by rw [rdTs_zero]; exact h) _ (Nat.zero_le _)
theorem big_ck {s : ByteArray} (h : s.size ≤ 1000000000) : (ckR s).2.rest.size ≤ 1000000000 := by rw [ckR]; exact Nat.le_trans (take_le 4 ⟨s, false⟩).2.2 h
theorem big_sl {s : ByteArray} (h : s.size ≤ 1000000000) : (slR s).2.rest.size ≤ 1000000000 := by rw [slR]; exact Nat.le_trans (num_le 8 _) (big_ck h)
theorem big_sw {s : ByteArray} (h : s.size ≤ 1000000000) : (snR s).2.rest.size ≤ 1000000000 := by rw [snR]; exact Nat.le_trans (num_le 8 _) (big_sl h)
theorem big_sc {s : ByteArray} (h : s.size ≤ 1000000000) : (scR s).2.rest.size ≤ 1000000000 := by rw [scR]; exact Nat.le_trans (num_le 4 _) (big_sw h)
theorem PairsTag.base {w : World} {B B' n : Nat} {T : Nat → Nat} {a : Option Addr} {ps : List PairD} (h : PairsTag w B T n a ps) (hB : B' ≤ B) : PairsTag w B' T n a ps := by
  rcases h with h | ⟨g, o, cur, t, e, h1, h2, h3, h4⟩
  · exact Or.inl h
  · exact Or.inr ⟨g, o, cur, t, e, Nat.le_trans hB h1, h2, h3, h4⟩
theorem TensOwn.base {w : World} {B B' : Nat} {a : Option Addr} {ts : List TenD} (h : TensOwn w B a ts) (hB : B' ≤ B) : TensOwn w B' a ts := by
  rcases h with h | ⟨g, o, cur, t, T, e, h1, h2, h3, h4⟩
  · exact Or.inl h
  · refine Or.inr ⟨g, o, cur, t, T, e, Nat.le_trans hB h1, h2, h3, fun i hi => ?_⟩
    obtain ⟨a1, c1, a2, c2, q0, q1, q2, q3, q4, q5⟩ := h4 i hi
    exact ⟨a1, c1, a2, c2, q0, q1, q2, q3, q4.base hB, q5.base hB⟩
/-- What a tenant's reading gives, as the loop wants it. -/
def TenOk (B : Nat) (W : World) (t : TenD) (r' : Rd) (e : Ending) (w' : World) : Prop :=
  ∃ M a1 c1 a2 c2, e = .returned (.agg #[.string t.name, .int .i64 t.limit, .slice a1 t.mets.length c1, .slice a2 t.sers.length c2]) ∧ W.heap.size ≤ M ∧ PairsOwn w' W.heap.size a1 t.mets ∧ (∀ g o, a1 = some ⟨g, o, none⟩ → g < M) ∧ PairsOwn w' M a2 t.sers ∧ M ≤ w'.heap.size ∧ RT w' B r' ∧ But B W w'

set_option maxRecDepth 100000 in
set_option maxHeartbeats 8000000 in
theorem checkD_any (B : Nat) (s : ByteArray) (w : World) (hB : RT w B ⟨s, false⟩) (hs : s.size ≤ 1000000000) :
    Calls Tryz.prog 15 #[.pointer (some ⟨B, 0, none⟩)] w fun e w' => ChkOut B s w e w' := by
  have hBw : B < w.heap.size := by obtain ⟨t, h⟩ := hB; exact lt_of_block h
  have HB : Hid (RT w B ⟨s, false⟩) := hB
  have HOK : Hid (∀ av cap w', (rdTs (scR s).2 (scR s).1).2.short = false → TensOwn w' w.heap.size av (rdTs (scR s).2 (scR s).1).1 → RT w' B (rdTs (scR s).2 (scR s).1).2 → But B w w' → ChkOut B s w (.returned (.tuple #[.int .i64 (wrapN (slR s).1), .agg #[.int .i64 (wrapN (snR s).1), .slice av (scR s).1 cap]])) w') := fun av cap w' a b c d => by
    have hl : (staR s).1.length = (scR s).1 := by rw [staR]; exact rdTs_length _ _
    have e0 : rdTs (scR s).2 (scR s).1 = staR s := by rw [staR]
    rw [e0] at a b c
    refine Or.inl ⟨a, av, cap, ?_, b, c, d⟩
    rw [hl]
  have HBAD : Hid (∀ w', (staR s).2.short = true → But B w w' → ChkOut B s w (.panicked dcdP) w') := fun w' a b => Or.inr ⟨a, rfl, b⟩
  have HC0 : Hid (∀ W, RT W B ⟨s, false⟩ → Calls Tryz.prog 33 #[.pointer (some ⟨B, 0, none⟩), .int .i64 4] W fun e w' => (∃ x, e = .returned (.string x)) ∧ RT w' B (ckR s).2 ∧ But B W w') := fun W h => (takeT_any B ⟨s, false⟩ 4 W h (by omega) hs).mono fun e w' q => ⟨⟨_, q.1⟩, by rw [ckR]; exact q.2.1, q.2.2⟩
  have HC1 : Hid (∀ W, RT W B (ckR s).2 → Calls Tryz.prog 34 #[.pointer (some ⟨B, 0, none⟩), .int .i64 8] W fun e w' => (e = .returned (.int .i64 (wrapN (slR s).1)) ∧ RT w' B (slR s).2 ∧ But B W w') ∨ (e = .panicked dcdP ∧ (staR s).2.short = true ∧ But B W w')) := fun W h => by
    refine (numD_any B _ 8 W h (by omega) (big_ck hs)).mono ?_
    rintro e w' (⟨a, b, c⟩ | ⟨a, b, c⟩)
    · exact Or.inl ⟨by rw [slR]; exact a, by rw [slR]; exact c.1, c.2⟩
    · exact Or.inr ⟨a, st_short (sc_short (sw_short (by rw [slR]; exact b))), c⟩
  have HC2 : Hid (∀ W, RT W B (slR s).2 → Calls Tryz.prog 34 #[.pointer (some ⟨B, 0, none⟩), .int .i64 8] W fun e w' => (e = .returned (.int .i64 (wrapN (snR s).1)) ∧ RT w' B (snR s).2 ∧ But B W w') ∨ (e = .panicked dcdP ∧ (staR s).2.short = true ∧ But B W w')) := fun W h => by
    refine (numD_any B _ 8 W h (by omega) (big_sl hs)).mono ?_
    rintro e w' (⟨a, b, c⟩ | ⟨a, b, c⟩)
    · exact Or.inl ⟨by rw [snR]; exact a, by rw [snR]; exact c.1, c.2⟩
    · exact Or.inr ⟨a, st_short (sc_short (by rw [snR]; exact b)), c⟩
  have hn : (scR s).1 < 4294967296 := by rw [scR]; exact num_lt 4 _
  have HC3 : Hid (∀ W, RT W B (snR s).2 → Calls Tryz.prog 34 #[.pointer (some ⟨B, 0, none⟩), .int .i64 4] W fun e w' => (e = .returned (.int .i64 ((scR s).1 : Nat)) ∧ (scR s).2.short = false ∧ RT w' B (scR s).2 ∧ But B W w') ∨ (e = .panicked dcdP ∧ (staR s).2.short = true ∧ But B W w')) := fun W h => by
    refine (numD_any B _ 4 W h (by omega) (big_sw hs)).mono ?_
    have e0 : numR 4 (snR s).2 = scR s := by rw [scR]
    rw [e0, wrapN_small (by omega)]
    rintro e w' (⟨a, b, c⟩ | ⟨a, b, c⟩)
    · exact Or.inl ⟨a, b, c⟩
    · exact Or.inr ⟨a, st_short b, c⟩
  have HST : Hid ((rdTs (scR s).2 (scR s).1).2.short = true → (staR s).2.short = true) := fun h => by rw [staR]; exact h
  have hz := big_sc hs
  clear hB hs
  generalize ChkOut B s w = Post at *
  generalize (staR s).2.short = TS at *
  generalize (ckR s).2 = r0 at *
  generalize wrapN (slR s).1 = L at *
  generalize (slR s).2 = r1 at *
  generalize wrapN (snR s).1 = N at *
  generalize (snR s).2 = r2 at *
  generalize (scR s).1 = n at *
  generalize (scR s).2 = c at *
  obtain ⟨i1, hi1, hq10, hq11, hq12⟩ := info_tenP
  have HI1 : Hid (Tryz.prog.info? 39 = some i1) := hi1
  clear hi1
  obtain ⟨tB, hBB⟩ := HB.out
  have p0 : w.cell? ⟨B, 0, none⟩ = some (.string s) := hBB.cell 0
  clear hBB
  go_enter Tryz.func15, Tryz.ntmps15
  go_wp2_with fail
  refine (HC0.out _ (HB.out.laterD (bnew _ _))).mono ?_
  rintro e w1 ⟨⟨x0, rfl⟩, hr1, hb1⟩
  have H1 : Hid (RT w1 B r0 ∧ But B w w1 ∧ Blk w1 w.heap.size #[.int .i64 0, .slice none 0 0] 26) := ⟨hr1, (But.of (bnew _ _)).trans hb1, Blk.but (Blk.new _ _ _) hb1 (by omega)⟩
  clear hr1 hb1 HC0 p0
  go_wp2_with fail
  refine (HC1.out _ H1.out.1).mono ?_
  rintro e w2 (⟨rfl, hr2, hb2⟩ | ⟨rfl, hsh, hb2⟩)
  rotate_left
  · exact ⟨rfl, HBAD.out _ hsh (H1.out.2.1.trans hb2)⟩
  have H2 : Hid (RT w2 B r1 ∧ But B w w2 ∧ Blk w2 w.heap.size #[.int .i64 0, .slice none 0 0] 26) := ⟨hr2, H1.out.2.1.trans hb2, Blk.but H1.out.2.2 hb2 (by omega)⟩
  clear hr2 hb2 HC1 H1
  go_wp2_with fail
  refine (HC2.out _ H2.out.1).mono ?_
  rintro e w3 (⟨rfl, hr3, hb3⟩ | ⟨rfl, hsh, hb3⟩)
  rotate_left
  · exact ⟨rfl, HBAD.out _ hsh (H2.out.2.1.trans hb3)⟩
  have H3 : Hid (RT w3 B r2 ∧ But B w w3 ∧ Blk w3 w.heap.size #[.int .i64 0, .slice none 0 0] 26) := ⟨hr3, H2.out.2.1.trans hb3, Blk.but H2.out.2.2 hb3 (by omega)⟩
  clear hr3 hb3 HC2 H2
  have hR1 : w.heap.size < w3.heap.size := lt_of_block H3.out.2.2
  go_wp2_with fail
  refine (HC3.out _ (H3.out.1.laterD (bnew _ _))).mono ?_
  rintro e w4 (⟨rfl, hs4, hr4, hb4⟩ | ⟨rfl, hsh, hb4⟩)
  rotate_left
  · exact ⟨rfl, HBAD.out _ hsh ((H3.out.2.1.trans (But.of (bnew _ _))).trans hb4)⟩
  have H4 : Hid (RT w4 B c ∧ GS w B w.heap.size w3.heap.size N (.slice none 0 0) 0 [] w4 ∧ c.short = false) := ⟨hr4, ⟨Blk.but (Blk.new _ _ _) hb4 (by omega), Blk.but (H3.out.2.2.alloc _) hb4 (by omega), RowV.nil _ _ _, (H3.out.2.1.trans (But.of (bnew _ _))).trans hb4⟩, hs4⟩
  clear hr4 hb4 hs4 HC3 H3
  generalize w3.heap.size = R2 at *
  go_wp2
  go_loopw [17] (fun i wr => ∃ (k : Nat) (v : Value), k ≤ n ∧ i = .int .i64 k ∧ Hid (GS w B w.heap.size R2 N v k (rdTs c k).1 wr) ∧ Hid (RT wr B (rdTs c k).2) ∧ Hid ((rdTs c k).2.short = false)) (fun i _ => n - (intOf i).toNat)
  case atStart => exact ⟨0, _, Nat.zero_le _, rfl, by rw [rdTs_zero]; exact H4.out.2.1, by rw [rdTs_zero]; exact H4.out.1, by rw [rdTs_zero]; exact H4.out.2.2⟩
  case round =>
    obtain ⟨k, v, hk, rfl, HG, HRT, HSH⟩ := hrel
    by_cases hlt : k < n
    · have hzr : (rdTs c k).2.rest.size ≤ 1000000000 := Nat.le_trans (rdTs_big c k) hz
      have hk17 : 17 * k ≤ 1000000000 := by have := rdTs_room k HSH.out; omega
      have hst : (rdTs c (k + 1)).2.short = true → TS = true := fun h => HST.out (rdts_short h n (by omega))
      have e1 : (rdTs c (k + 1)).1 = (rdTs c k).1 ++ [(tenR (rdTs c k).2).1] := by rw [rdTs_succ]
      have e2 : (rdTs c (k + 1)).2 = (tenR (rdTs c k).2).2 := by rw [rdTs_succ]
      rw [e2] at hst
      have hlen : (rdTs c k).1.length = k := rdTs_length c k
      have c0 : wr.cell? ⟨R2, 1, none⟩ = some v := HG.out.1.cell 1
      have HCL : Hid (∀ W, But B wr W → W.cell? ⟨R2, 1, none⟩ = some v) := fun W h => (HG.out.turn h hBw hR1).1.cell 1
      by_cases s1 : (tenR (rdTs c k).2).2.short = true
      · have E : Hid (TS = true) := hst s1
        have P1 : Hid (∀ W, RT W B (rdTs c k).2 → Calls Tryz.prog 35 #[.pointer (some ⟨B, 0, none⟩)] W fun e w' => e = .panicked dcdP ∧ But B W w') := fun W h => (tenantD_any B _ W h hzr).mono fun e w' q => by
          rcases q with ⟨q, _⟩ | ⟨_, q⟩
          · rw [q] at s1; exact absurd s1 (by simp)
          · exact q
        clear hst e1 e2 hzr hk17 hlen
        go_wp2_with fail
        refine wp_region_held_drew (S := fun w' => w'.cell? ⟨R2, 1, none⟩ = some v) (by kernel_rfl) (HCL.out _ (ButDrewD (But.refl _ _))) (fun hHeld => ?_)
        refine wpAnyH_take (i := 0) (oi := _) (v := .pointer (some ⟨R2, 1, none⟩)) rfl (by kernel_rfl) (by kernel_rfl) (by kernel_rfl) (fun _ _ _ h => h) (Or.inl ⟨by rfl, by intro w' hSw; go_simp⟩) (by assumption) ?_
        refine wpAnyH_take (i := 1) (oi := _) (v := v) rfl (by kernel_rfl) (by kernel_rfl) (by kernel_rfl) (fun _ _ _ h => h) (Or.inl ⟨by rfl, by intro w' hSw; go_simp⟩) (by assumption) ?_
        refine wpAnyH_take (i := 2) (oi := _) (v := .pointer (some ⟨B, 0, none⟩)) rfl (by kernel_rfl) (by kernel_rfl) (by kernel_rfl) (fun _ _ _ h => h) (Or.inl ⟨by rfl, by intro w' hSw; go_simp⟩) (by assumption) ?_
        refine wpAnyH_ready (rs := [3]) (by kernel_rfl) (by simp) ?_
        refine AllReadyH.cons (o := _) rfl (fun K hK => ?_) AllReadyH.nil
        go_simp
        refine (P1.out _ (HRT.out.laterD (Below.refl _ _).drew)).mono ?_
        rintro e w1 ⟨rfl, hb1⟩
        exact ⟨rfl, HBAD.out _ E.out (HG.out.2.2.2.trans ((ButDrewD (But.refl B wr)).trans hb1))⟩
      have sA : (tenR (rdTs c k).2).2.short = false := by simpa using s1
      clear s1
      have P1 : Hid (∀ W, RT W B (rdTs c k).2 → Calls Tryz.prog 35 #[.pointer (some ⟨B, 0, none⟩)] W fun e w' => TenOk B W (tenR (rdTs c k).2).1 (tenR (rdTs c k).2).2 e w') := fun W h => (tenantD_any B _ W h hzr).mono fun e w' q => by
        rcases q with ⟨_, M, v1, v2, he, hM, h1, h1M, h2, h3, h4⟩ | ⟨q, _⟩
        · obtain ⟨a1, c1, rfl⟩ := row_formT h1
          obtain ⟨a2, c2, rfl⟩ := row_formT h2
          exact ⟨min M w'.heap.size, a1, c1, a2, c2, he, by have := h4.size; omega, pairs_of_row h1, fun g o ha => by have q1 := h1M g (by rw [ha]; rfl); have q2 := (h1.lt g (by rw [ha]; rfl)).2; omega, (pairs_of_row h2).mono (Nat.min_le_left _ _), Nat.min_le_right _ _, h3, h4⟩
        · rw [q] at sA; exact absurd sA (by simp)
      have E3 : Hid ((rdTs c (k + 1)).2.short = false) := by show _ = _; rw [e2]; exact sA
      clear hst hzr sA
      have E1 : Hid ((rdTs c (k + 1)).1 = (rdTs c k).1 ++ [(tenR (rdTs c k).2).1]) := e1
      have E2 : Hid ((rdTs c (k + 1)).2 = (tenR (rdTs c k).2).2) := e2
      have HL : Hid ((rdTs c k).1.length = k) := hlen
      clear e1 e2 hlen
      generalize (tenR (rdTs c k).2).1 = t at *
      generalize (tenR (rdTs c k).2).2 = rA at *
      obtain ⟨T, ys, hV1, hV2, hV3, hV4⟩ := HG.out.2.2.1
      have HV1 : Hid (∀ W, But B wr W → W.ownsRow (R2 + 1) 39 4 v k (flatV ys)) := fun W h => (Turn.but h).row hV1 (fun g hg e => by have := (hV1.lt g hg).1; omega)
      have HV2 := hid hV2
      have HV3 := hid hV3
      have HV4 := hid hV4
      have hRw : R2 < wr.heap.size := lt_of_block HG.out.1
      have hob : ∀ q, v.ownBlock = some q → R2 + 1 ≤ q ∧ q < wr.heap.size := fun q hq => hV1.lt q hq
      have agv : v.ownBlock ≠ some R2 := fun e => by have := hob _ e; omega
      clear hV1 hV2 hV3 hV4
      go_wp2_with fail
      go_region_law
        (first
          | ((fail_if_success (have q := t4)); refine step_enterD (f := 35) (args := #[.pointer (some ⟨B, 0, none⟩)]) rfl (by go_simp) ?_; refine (P1.out _ (HRT.out.laterD (Below.refl _ _).drew)).mono ?_; rintro e w4 ⟨M, a1, d1, a2, d2, rfl, hM, o1, o1M, o2, oM, t4, hb4⟩; have b4 : But B wr w4 := (ButDrewD (But.refl B wr)).trans hb4; have x4 := HCL.out _ b4; have x5 : (w4.alloc (.cells #[.string t.name, .int .i64 t.limit, .slice a1 t.mets.length d1, .slice a2 t.sers.length d2] 39)).cell? ⟨R2, 1, none⟩ = some v := ((HG.out.turn b4 hBw hR1).1.alloc _).cell 1; have O := hid (And.intro hM (And.intro o1 (And.intro o1M (And.intro o2 oM)))); clear hM o1 o1M o2 oM; refine ⟨_, rfl, ?_⟩)
          | (have q := t4; clear q; refine step_append_lies _ (by rfl) _ _ _ (by rfl) (R2 + 1) 39 i1 _ 4 72 Tryz.underlying24 HI1.out hq10 hq11 hq12 rfl (by omega) v k (flatV ys) (by rfl) (by exact ((HV1.out _ b4).alloc _)) ⟨w4.heap.size, 0, none⟩ 1 1 [.string t.name, .int .i64 t.limit, .slice a1 t.mets.length d1, .slice a2 t.sers.length d2] (by rfl) (by rfl) (by exact World.news_of_block (cs := #[.string t.name, .int .i64 t.limit, .slice a1 t.mets.length d1, .slice a2 t.sers.length d2]) (heap_alloc_new _ _)) (by simp [Value.oneCell']) (by omega) (by unfold maxLen; omega) (by omega) (by have := b4.size; simp; omega) (w4.heap.size + 1) (by simp) ?_; intro gg cap w5 hown5 hgrow hat hlt5; have HX5 : Hid (Blk w5 R2 #[.int .i64 N, v] 26) := (Turn.grown hgrow).blk ((HG.out.turn b4 hBw hR1).1.alloc _) agv; have s5 := HX5.out.cell 1; have f5 := HX5.out.free 1))
      all_goals (
        have hsz4 := b4.size
        have hgg : (v.ownBlock = some gg ∧ gg < wr.heap.size) ∨ w4.heap.size ≤ gg := by
          rcases hat with h | h
          · exact Or.inl ⟨h, (hob _ h).2⟩
          · exact Or.inr (by omega)
        have hgR : R2 + 1 ≤ gg := by
          rcases hgg with h | h
          · exact (hob _ h.1).1
          · omega
        have HG5 : Hid (GS w B w.heap.size R2 N (.slice (some ⟨gg, 0, none⟩) (k + 1) cap) (k + 1) (rdTs c (k + 1)).1 (w5.setCell ⟨R2, 1, none⟩ (.slice (some ⟨gg, 0, none⟩) (k + 1) cap))) := by
          refine ⟨?_, ?_, ?_, ?_⟩
          · have := HX5.out.set 1 (.slice (some ⟨gg, 0, none⟩) (k + 1) cap); simpa using this
          · exact Blk.but ((Turn.grown hgrow).blk ((HG.out.turn b4 hBw hR1).2.1.alloc _) (fun e => by have := hob _ e; omega)) ((But.refl R2 w5).setCell 1 _) (by omega)
          · rw [E1.out]
            have hset : Turn (· = R2) w5 (w5.setCell ⟨R2, 1, none⟩ (.slice (some ⟨gg, 0, none⟩) (k + 1) cap)) := (Turn.refl (· = R2) w5).setCell (Or.inl rfl) 1 _
            have hk5 : ∀ g, g < w4.heap.size → R2 + 1 ≤ g → v.ownBlock ≠ some g → (w5.setCell ⟨R2, 1, none⟩ (.slice (some ⟨gg, 0, none⟩) (k + 1) cap)).heap[g]? = w4.heap[g]? := fun g hg hgR2 hne => by
              rw [hset.block g (by have := hgrow.size; simp at this; omega) (by omega), (Turn.grown hgrow).block g (by simp; omega) hne]
              exact (bnew _ _).block g hg
            have hyk : ys.length = k := by have h1 := HL.out; rw [← HV2.out, List.length_map] at h1; exact h1
            exact RowV.snoc (wr := wr) (w4 := w4) (M := M) (v := v) (T := T) (ys := ys) (hset.row hown5 (fun q hq e => by simp [Value.ownBlock] at hq; omega)) HV2.out hyk HV3.out HV4.out (by omega) O.out.1
              (fun g hg hgR2 hne => (hk5 g (by omega) hgR2 hne).trans (b4.block g hg (by omega)))
              (fun g hg hg4 => hk5 g hg4 (by omega) (fun e => by have := (hob _ e).2; omega))
              O.out.2.1 O.out.2.2.1 O.out.2.2.2.1 hgg hsz4 O.out.2.2.2.2
          · exact (((HG.out.2.2.2.trans b4).trans (But.of (bnew _ _))).upToD ((Below.refl _ _).grown hgrow (by have := HG.out.2.2.2.size; simp; omega) (fun q hq => by have := hob q hq; omega))).upToD ((Below.refl _ _).setCell (by simp; omega) _)
        have HR5 : Hid (RT (w5.setCell ⟨R2, 1, none⟩ (.slice (some ⟨gg, 0, none⟩) (k + 1) cap)) B (rdTs c (k + 1)).2) := by
          rw [E2.out]
          obtain ⟨tt, ht⟩ := t4
          exact ⟨tt, Blk.but ((Turn.grown hgrow).blk (ht.alloc _) (fun e => by have := hob _ e; omega)) ((But.refl R2 w5).setCell 1 _) (by omega)⟩)
      all_goals clear hown5 hgrow hat s5 f5 HX5
      all_goals go_wp2
      all_goals exact ⟨⟨k + 1, _, by omega, by go_num, HG5.out, HR5.out, E3.out⟩, by simp [intOf]; omega⟩
    · obtain rfl : k = n := by omega
      obtain ⟨ra, rc, rfl⟩ := HG.out.2.2.1.row
      have x0 : wr.cell? ⟨R2, 0, none⟩ = some (.int .i64 N) := HG.out.1.cell 0
      have x1 : wr.cell? ⟨R2, 1, none⟩ = some (.slice ra k rc) := HG.out.1.cell 1
      have y0 : wr.cell? ⟨w.heap.size, 0, none⟩ = some (.int .i64 0) := HG.out.2.1.cell 0
      have y1 : wr.cell? ⟨w.heap.size, 1, none⟩ = some (.slice none 0 0) := HG.out.2.1.cell 1
      have f0 := HG.out.2.1.free 0
      have f1 := HG.out.2.1.free 1
      have hlen := rdTs_length c k
      go_wp2_with fail
      go_region
      go_wp2
      have HTE : Turn (· = w.heap.size) wr ((wr.setCell ⟨w.heap.size, 0, none⟩ (.int .i64 N)).setCell ⟨w.heap.size, 1, none⟩ (.slice ra k rc)).drew := (((Turn.refl (· = w.heap.size) wr).setCell (Or.inl rfl) 0 _).setCell (Or.inl rfl) 1 _).drew
      refine bodyPost_ret (v := .tuple #[.int .i64 L, .agg #[.int .i64 N, .slice ra k rc]]) (by simp [results, Tryz.results15, go_sem, y0, y1]) rfl (HOK.out _ _ _ HSH.out (((HG.out.2.2.1.turn HTE (fun g e => by omega)).own hlen).base (by omega)) ?_ ?_)
      · obtain ⟨tt, ht⟩ := HRT.out
        exact ⟨tt, HTE.blk ht (by omega)⟩
      · exact HG.out.2.2.2.upToD (HTE.below (by have := lt_of_block HG.out.2.1; omega) (fun q hq e => by omega))
end Go.Proofs.YteajeifmllogiaaGreatDoor

namespace Go.Proofs.YteajeifmllogiaaGreatDoor

theorem less_irrefl : ∀ x : List UInt8, Op.bytesLess x x = false
  | [] => rfl
  | a :: x => by simp [Op.bytesLess, less_irrefl x]

theorem less_trans : ∀ x y z : List UInt8, Op.bytesLess x y = true → Op.bytesLess y z = true → Op.bytesLess x z = true
  | _, _, [], _, h => by simp [Op.bytesLess] at h
  | _, [], _ :: _, h, _ => by simp [Op.bytesLess] at h
  | [], _ :: _, _ :: _, _, _ => by simp [Op.bytesLess]
  | a :: x, b :: y, c :: z, h1, h2 => by
    simp only [Op.bytesLess, Bool.or_eq_true, Bool.and_eq_true, decide_eq_true_eq, beq_iff_eq] at h1 h2 ⊢
    rcases h1 with h1 | ⟨rfl, h1⟩
    · rcases h2 with h2 | ⟨rfl, _⟩
      · exact Or.inl (UInt8.lt_trans h1 h2)
      · exact Or.inl h1
    · rcases h2 with h2 | ⟨rfl, h2⟩
      · exact Or.inl h2
      · exact Or.inr ⟨rfl, less_trans x y z h1 h2⟩

theorem less_total : ∀ x y : List UInt8, Op.bytesLess x y = false → x ≠ y → Op.bytesLess y x = true
  | [], [], _, h => absurd rfl h
  | [], _ :: _, h, _ => by simp [Op.bytesLess] at h
  | _ :: _, [], _, _ => by simp [Op.bytesLess]
  | a :: x, b :: y, h, hne => by
    simp only [Op.bytesLess, Bool.or_eq_false_iff, Bool.and_eq_false_iff, decide_eq_false_iff_not, Bool.or_eq_true, Bool.and_eq_true, decide_eq_true_eq, beq_iff_eq] at h ⊢
    obtain ⟨h1, h2⟩ := h
    by_cases e : a = b
    · subst e
      rcases h2 with h2 | h2
      · simp at h2
      · exact Or.inr ⟨rfl, less_total x y h2 (fun e => hne (by rw [e]))⟩
    · left
      rcases UInt8.lt_or_lt_of_ne e with h | h
      · exact absurd h h1
      · exact h

theorem less_asymm {x y : List UInt8} (h : Op.bytesLess x y = true) : Op.bytesLess y x = false := by
  rw [Bool.eq_false_iff]
  intro h'
  have := less_trans x y x h h'
  rw [less_irrefl] at this
  exact absurd this (by simp)

theorem toList_inj {x y : ByteArray} (h : x.toList = y.toList) : x = y := by
  have h' : x.data.toList = y.data.toList := by rw [← ByteArray.toList_eq x, ← ByteArray.toList_eq y]; exact h
  cases x; cases y
  simp only [ByteArray.mk.injEq]
  exact Array.toList_inj.1 h'
end Go.Proofs.YteajeifmllogiaaGreatDoor

