import Derived.Test.YtnbkmmmlhlbfoaaGreatDoorJ39SAdmK
import Derived.Test.YtnbkmmmlhlbfoaaGreatDoorJ40SAdmN
import Derived.Test.YtnbkmmmlhlbfoaaGreatDoorJ10RecB
namespace Go.Proofs.YtnbkmmmlhlbfoaaGreatDoor
open Go.RowKit
theorem specAdmit_any (c : CfgD) (now : Int) (a : Option Addr) (cap : Nat) (ts : List TenD) (tenant key : ByteArray) (w : World) (hf : TensIn w a ts) (hbk : ts.length + tensBulk ts ≤ 1048576) (hn : tenant.size ≤ 1048576) (hk : key.size ≤ 1048576) :
    Calls Tryz.prog 5 #[cfgV c, .agg #[.int .i64 now, .slice a ts.length cap], .string tenant, .string key] w fun e w' => AdOut (admitV c now ts tenant key) w e w' := by
  cases h0 : stateB c now ts with
  | false => exact specAdmit_no c now a cap ts tenant key w hf hbk hn hk h0
  | true =>
    cases hb : (tnameB tenant && keyOK key) with
    | false => exact specAdmit_bad c now a cap ts tenant key w hf hbk hn hk h0 hb
    | true =>
      cases hg : getBy (·.s) key (tenOf ts tenant).sers with
      | some q => exact specAdmit_known c now a cap ts tenant key w hf hbk hn hk h0 hb (by rw [hg]; rfl)
      | none => exact specAdmit_new c now a cap ts tenant key w hf hbk hn hk h0 hb hg
end Go.Proofs.YtnbkmmmlhlbfoaaGreatDoor
namespace Go.Proofs.YtnbkmmmlhlbfoaaGreatDoor
def pStep (t : PairD) (s : List PairD × Bool) (p : PairD) : List PairD × Bool :=
  (s.1 ++ (if s.2 = true then [] else if blt p.s t.s = true then [] else [t]) ++ (if (p.s.toList == t.s.toList) = true then [] else [p]), if s.2 = true then true else !blt p.s t.s)
def pUpto (t : PairD) (b : Bool) (ps : List PairD) : List PairD × Bool := ps.foldl (pStep t) ([], b)
def pAll (t : PairD) (b : Bool) (ps : List PairD) : List PairD := (pUpto t b ps).1 ++ if (pUpto t b ps).2 = true then [] else [t]
theorem pUpto_take (t : PairD) (b : Bool) (ps : List PairD) (k : Nat) (h : k < ps.length) : pUpto t b (ps.take (k + 1)) = pStep t (pUpto t b (ps.take k)) ps[k] := by
  rw [List.take_succ_eq_append_getElem h, pUpto, List.foldl_append]; rfl
theorem pUpto_acc (t : PairD) (ps : List PairD) : ∀ (acc : List PairD) (b : Bool), ps.foldl (pStep t) (acc, b) = (acc ++ (ps.foldl (pStep t) ([], b)).1, (ps.foldl (pStep t) ([], b)).2) := by
  induction ps with
  | nil => intro acc b; simp
  | cons p r ih =>
    intro acc b
    simp only [List.foldl_cons]
    rw [ih (pStep t (acc, b) p).1 (pStep t (acc, b) p).2, ih (pStep t ([], b) p).1 (pStep t ([], b) p).2]
    simp [pStep]
theorem pAll_cons (t p : PairD) (r : List PairD) (b : Bool) : pAll t b (p :: r) = (pStep t ([], b) p).1 ++ pAll t (pStep t ([], b) p).2 r := by
  unfold pAll pUpto
  rw [List.foldl_cons, pUpto_acc t r (pStep t ([], b) p).1 (pStep t ([], b) p).2]
  simp
theorem pAll_placed (t : PairD) (ps : List PairD) : pAll t true ps = delBy (·.s) t.s ps := by
  induction ps with
  | nil => rfl
  | cons p r ih =>
    rw [pAll_cons]
    by_cases h1 : (p.s.toList == t.s.toList) = true
    · simp only [pStep, h1, if_true, List.nil_append, ih]
      unfold delBy
      rw [List.filter_cons_of_neg (by rw [h1]; simp)]
    · have h1' : (p.s.toList == t.s.toList) = false := by simpa using h1
      simp only [pStep, h1', if_true, List.nil_append, ih]
      unfold delBy
      rw [List.filter_cons_of_pos (by rw [h1']; rfl)]
      rfl
theorem pAll_ins {t : PairD} {ps : List PairD} (hr : RiseBy (·.s) ps) : pAll t false ps = insBy (·.s) t ps := by
  induction ps with
  | nil => rfl
  | cons p r ih =>
    have ihr := ih hr.tail
    rw [pAll_cons, insBy]
    by_cases h2 : blt p.s t.s = true
    · have h3 : (p.s.toList == t.s.toList) = false := same_not (blt_ne h2)
      simp only [pStep, h2, h3, if_true]
      simp [ihr]
    · have h2' : blt p.s t.s = false := by simpa using h2
      have hnone : ∀ q ∈ r, q.s ≠ t.s := fun q hq e => by
        have hb := hr.head q hq
        rw [e] at hb
        exact h2 hb
      have hdel : delBy (·.s) t.s r = r := List.filter_eq_self.2 fun q hq => by rw [same_not (hnone q hq)]; rfl
      by_cases h3 : p.s = t.s
      · have h4 : (p.s.toList == t.s.toList) = true := (same_iff _ _).2 h3
        simp only [pStep, h2', h4, if_true]
        simp [pAll_placed, hdel]
      · have h4 : (p.s.toList == t.s.toList) = false := same_not h3
        simp only [pStep, h2', h4]
        simp [pAll_placed, hdel]
theorem limT_all {t : TenD} {metric : ByteArray} {limit : Int} (hr : RiseBy (·.s) t.mets) (he : metric.toList.isEmpty = false) : limT t metric limit = ⟨t.name, t.limit, pAll ⟨metric, limit⟩ (decide (limit < 0)) t.mets, t.sers⟩ := by
  unfold limT
  rw [if_neg (by rw [he]; simp)]
  by_cases h : limit < 0
  · rw [if_pos h, decide_eq_true h, pAll_placed]
  · rw [if_neg h, decide_eq_false h, pAll_ins hr]
end Go.Proofs.YtnbkmmmlhlbfoaaGreatDoor
