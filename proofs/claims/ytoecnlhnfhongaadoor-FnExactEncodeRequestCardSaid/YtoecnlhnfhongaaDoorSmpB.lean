/- The verifier's own text: what samples are in memory. -/
import Derived.Test.YtoecnlhnfhongaaDoorLabB
import Derived.Test.YtoecnlhnfhongaaDoorBlkN
namespace Go.Proofs.YtoecnlhnfhongaaDoor
open Go.RowKit

structure SmpD where
  labs : List LabD
  bits : Int
structure ReqD where
  kind : Int
  tenant : ByteArray
  metric : ByteArray
  num : Int
  smps : List SmpD

/-- The two cells of a sample lie at ⟨b, o⟩. -/
def SmpAt (w : World) (b o : Nat) (x : SmpD) : Prop :=
  ∃ a c, w.cell? ⟨b, o, none⟩ = some (.slice a x.labs.length c) ∧ w.cell? ⟨b, o + 1, none⟩ = some (.int .i64 x.bits) ∧ LabsIn w a x.labs
def SmpsAt (w : World) (b o : Nat) (xs : List SmpD) : Prop := ∀ i (h : i < xs.length), SmpAt w b (o + i * 2) xs[i]
/-- A slice's address holds the samples xs (nothing is asked where there are none). -/
def SmpsIn (w : World) (a : Option Addr) (xs : List SmpD) : Prop := xs = [] ∨ ∃ b o, a = some ⟨b, o, none⟩ ∧ b < w.heap.size ∧ SmpsAt w b o xs
theorem SmpAt.later {w w' : World} {b o : Nat} {x : SmpD} (h : SmpAt w b o x) (hlt : b < w.heap.size) (hb : Below w.heap.size w w') : SmpAt w' b o x := by
  obtain ⟨a, c, h0, h1, h2⟩ := h
  exact ⟨a, c, (hb.cell hlt).trans h0, (hb.cell hlt).trans h1, h2.later hb⟩
theorem SmpsIn.later {w w' : World} {a : Option Addr} {xs : List SmpD} (h : SmpsIn w a xs) (hb : Below w.heap.size w w') : SmpsIn w' a xs := by
  rcases h with h | ⟨b, o, rfl, hlt, h⟩
  · exact Or.inl h
  · exact Or.inr ⟨b, o, rfl, Nat.lt_of_lt_of_le hlt hb.size, fun i hi => (h i hi).later hlt hb⟩
theorem SmpsIn.at {w : World} {a : Option Addr} {xs : List SmpD} (h : SmpsIn w a xs) {i : Nat} (hi : i < xs.length) :
    ∃ b o a1 c1, a = some ⟨b, o, none⟩ ∧ b < w.heap.size ∧ w.cell? ⟨b, o + i * 2, none⟩ = some (.slice a1 xs[i].labs.length c1) ∧ w.cell? ⟨b, o + i * 2 + 1, none⟩ = some (.int .i64 xs[i].bits) ∧ LabsIn w a1 xs[i].labs := by
  rcases h with rfl | ⟨b, o, rfl, hlt, h⟩
  · exact absurd hi (by simp)
  · obtain ⟨a1, c1, h⟩ := h i hi
    exact ⟨b, o, a1, c1, rfl, hlt, h⟩

theorem LabsOwn.butS {g b o B : Nat} {w w' : World} {fs : List LabD} (h : LabsOwn w B (some ⟨b, o, none⟩) fs) (hb : But g w w') (hg : b ≠ g) : LabsOwn w' B (some ⟨b, o, none⟩) fs := by
  rcases h with h | ⟨b', o', cur, t, e, hB, hblk, h⟩
  · exact Or.inl h
  · simp only [Option.some.injEq, Addr.mk.injEq, and_true] at e
    obtain ⟨rfl, rfl⟩ := e
    have hk := hb.block b (lt_of_block hblk) hg
    have hc : ∀ j, w'.cell? ⟨b, j, none⟩ = w.cell? ⟨b, j, none⟩ := fun j => World.cell?_of_block hk
    exact Or.inr ⟨b, o, cur, t, rfl, hB, hk.trans hblk, fun i hi => by simp only [hc]; exact h i hi⟩
/-- The labels lie in a block of their own, from B on, that may be written, and bears the tag n. -/
def LabsTag (w : World) (B : Nat) (T : Nat → Nat) (n : Nat) (a : Option Addr) (ps : List LabD) : Prop :=
  ps = [] ∨ ∃ g o cur t, a = some ⟨g, o, none⟩ ∧ B ≤ g ∧ T g = n ∧ w.heap[g]? = some (.cells cur t (0, 0)) ∧ LabsAt w g o ps
theorem LabsTag.labs {w : World} {B n : Nat} {T : Nat → Nat} {a : Option Addr} {ps : List LabD} (h : LabsTag w B T n a ps) : LabsIn w a ps := by
  rcases h with h | ⟨g, o, cur, t, rfl, _, _, hb, h⟩
  · exact Or.inl h
  · exact Or.inr ⟨g, o, rfl, lt_of_block hb, h⟩
theorem LabsTag.own {w : World} {B n : Nat} {T : Nat → Nat} {a : Option Addr} {ps : List LabD} (h : LabsTag w B T n a ps) : LabsOwn w B a ps := by
  rcases h with h | ⟨g, o, cur, t, e, hB, _, hb, h⟩
  · exact Or.inl h
  · exact Or.inr ⟨g, o, cur, t, e, hB, hb, h⟩
theorem LabsTag.base {w : World} {B B' n : Nat} {T : Nat → Nat} {a : Option Addr} {ps : List LabD} (h : LabsTag w B T n a ps) (hB : B' ≤ B) : LabsTag w B' T n a ps := by
  rcases h with h | ⟨g, o, cur, t, e, h1, h2, h3, h4⟩
  · exact Or.inl h
  · exact Or.inr ⟨g, o, cur, t, e, Nat.le_trans hB h1, h2, h3, h4⟩
/-- A world in which the blocks of the tag n are as they were. -/
theorem LabsTag.keep {w w' : World} {B n : Nat} {T T' : Nat → Nat} {a : Option Addr} {ps : List LabD} (h : LabsTag w B T n a ps)
    (hk : ∀ g, g < w.heap.size → B ≤ g → T g = n → w'.heap[g]? = w.heap[g]? ∧ T' g = n) : LabsTag w' B T' n a ps := by
  rcases h with h | ⟨g, o, cur, t, e, hB, hT, hb, h⟩
  · exact Or.inl h
  · obtain ⟨h1, h2⟩ := hk g (lt_of_block hb) hB hT
    have hc : ∀ j, w'.cell? ⟨g, j, none⟩ = w.cell? ⟨g, j, none⟩ := fun j => World.cell?_of_block h1
    exact Or.inr ⟨g, o, cur, t, e, hB, h2, h1.trans hb, fun i hi => by simp only [hc]; exact h i hi⟩
theorem LabsOwn.tag {w : World} {B n : Nat} {T : Nat → Nat} {a : Option Addr} {ps : List LabD} (h : LabsOwn w B a ps) (hT : ∀ g o, a = some ⟨g, o, none⟩ → T g = n) : LabsTag w B T n a ps := by
  rcases h with h | ⟨g, o, cur, t, e, hB, hb, h⟩
  · exact Or.inl h
  · exact Or.inr ⟨g, o, cur, t, e, hB, hT g o e, hb, h⟩

/-- The sample i at ⟨b, o⟩ whose labels bear the tag i + 1. -/
def SmpOwn (w : World) (B : Nat) (T : Nat → Nat) (i b o : Nat) (x : SmpD) : Prop :=
  ∃ a c, w.cell? ⟨b, o, none⟩ = some (.slice a x.labs.length c) ∧ w.cell? ⟨b, o + 1, none⟩ = some (.int .i64 x.bits) ∧ LabsTag w B T (i + 1) a x.labs
/-- The samples lie in blocks of their own, from B on, no two of them one, that may be written. -/
def SmpsOwn (w : World) (B : Nat) (a : Option Addr) (xs : List SmpD) : Prop :=
  xs = [] ∨ ∃ g o cur t T, a = some ⟨g, o, none⟩ ∧ B ≤ g ∧ w.heap[g]? = some (.cells cur t (0, 0)) ∧ T g = 0 ∧ ∀ i (h : i < xs.length), SmpOwn w B T i g (o + i * 2) xs[i]
theorem SmpOwn.at {w : World} {B i b o : Nat} {T : Nat → Nat} {x : SmpD} (h : SmpOwn w B T i b o x) : SmpAt w b o x := by
  obtain ⟨a, c, h0, h1, h2⟩ := h
  exact ⟨a, c, h0, h1, h2.labs⟩
theorem SmpsOwn.smps {w : World} {B : Nat} {a : Option Addr} {xs : List SmpD} (h : SmpsOwn w B a xs) : SmpsIn w a xs := by
  rcases h with h | ⟨g, o, cur, t, T, rfl, _, hb, _, h⟩
  · exact Or.inl h
  · exact Or.inr ⟨g, o, rfl, lt_of_block hb, fun i hi => (h i hi).at⟩
theorem SmpOwn.keep {w w' : World} {B i b o : Nat} {T T' : Nat → Nat} {x : SmpD} (h : SmpOwn w B T i b o x) (hc : ∀ j, j < 2 → w'.cell? ⟨b, o + j, none⟩ = w.cell? ⟨b, o + j, none⟩)
    (hk : ∀ g, g < w.heap.size → B ≤ g → T g = i + 1 → w'.heap[g]? = w.heap[g]? ∧ T' g = T g) : SmpOwn w' B T' i b o x := by
  obtain ⟨a, c, h0, h1, h2⟩ := h
  refine ⟨a, c, (hc 0 (by omega)).trans h0, (hc 1 (by omega)).trans h1, h2.keep fun g hg hB hT => ?_⟩
  obtain ⟨q1, q2⟩ := hk g hg hB hT
  exact ⟨q1, q2.trans hT⟩
theorem SmpsOwn.later {w w' : World} {B : Nat} {a : Option Addr} {xs : List SmpD} (h : SmpsOwn w B a xs) (hb : Below w.heap.size w w') : SmpsOwn w' B a xs := by
  rcases h with h | ⟨g, o, cur, t, T, rfl, hB, hg, hT, h⟩
  · exact Or.inl h
  · have hlt := lt_of_block hg
    exact Or.inr ⟨g, o, cur, t, T, rfl, hB, (hb.block g hlt).trans hg, hT, fun i hi => (h i hi).keep (fun j _ => World.cell?_of_block (hb.block g hlt)) fun g' hg' _ _ => ⟨hb.block g' hg', rfl⟩⟩
theorem SmpsOwn.but {g B : Nat} {w w' : World} {a : Option Addr} {xs : List SmpD} (h : SmpsOwn w B a xs) (hb : But g w w') (hg : g < B) : SmpsOwn w' B a xs := by
  rcases h with h | ⟨g', o, cur, t, T, rfl, hB, hg', hT, h⟩
  · exact Or.inl h
  · have hk := hb.block g' (lt_of_block hg') (by omega)
    exact Or.inr ⟨g', o, cur, t, T, rfl, hB, hk.trans hg', hT, fun i hi => (h i hi).keep (fun j _ => World.cell?_of_block hk) fun x hx hBx _ => ⟨hb.block x hx (by omega), rfl⟩⟩
theorem SmpsOwn.mono {B B' : Nat} {w : World} {a : Option Addr} {xs : List SmpD} (h : SmpsOwn w B a xs) (hB' : B' ≤ B) : SmpsOwn w B' a xs := by
  rcases h with h | ⟨g', o, cur, t, T, rfl, hB, hg', hT, h⟩
  · exact Or.inl h
  · refine Or.inr ⟨g', o, cur, t, T, rfl, by omega, hg', hT, fun i hi => ?_⟩
    obtain ⟨a, c, k0, k1, k2⟩ := h i hi
    exact ⟨a, c, k0, k1, k2.base hB'⟩

def smpBulk (x : SmpD) : Nat := x.labs.length + labBulk x.labs
def smpsBulk : List SmpD → Nat
  | [] => 0
  | f :: r => smpBulk f + smpsBulk r
theorem smpsBulk_append (a b : List SmpD) : smpsBulk (a ++ b) = smpsBulk a + smpsBulk b := by
  induction a with
  | nil => simp [smpsBulk]
  | cons f r ih => simp [smpsBulk, ih]; omega
theorem smpsBulk_take_succ (fs : List SmpD) (k : Nat) (h : k < fs.length) : smpsBulk (fs.take (k + 1)) = smpsBulk (fs.take k) + smpBulk fs[k] := by
  rw [List.take_succ_eq_append_getElem h, smpsBulk_append]; simp [smpsBulk]
theorem smpsBulk_take_le (fs : List SmpD) (k : Nat) : smpsBulk (fs.take k) ≤ smpsBulk fs := by
  have := smpsBulk_append (fs.take k) (fs.drop k)
  rw [List.take_append_drop] at this; omega
theorem smpBulk_at (fs : List SmpD) (k : Nat) (h : k < fs.length) : smpBulk fs[k] ≤ smpsBulk fs := by
  have h1 := smpsBulk_take_succ fs k h
  have h2 := smpsBulk_take_le fs (k + 1)
  omega
def szSmps (left : Int) (fs : List SmpD) : Int := if (fs.length + smpsBulk fs : Int) ≤ left then left - fs.length - smpsBulk fs else -1
def ShortSm (fs : List SmpD) : Prop := ∀ i (h : i < fs.length), ShortL fs[i].labs ∧ fs[i].labs.length ≤ maxLen
def reqBulk (r : ReqD) : Nat := r.tenant.size + r.metric.size + r.smps.length + smpsBulk r.smps
def szReq (left : Int) (r : ReqD) : Int := if (reqBulk r : Int) ≤ left then left - reqBulk r else -1
end Go.Proofs.YtoecnlhnfhongaaDoor
