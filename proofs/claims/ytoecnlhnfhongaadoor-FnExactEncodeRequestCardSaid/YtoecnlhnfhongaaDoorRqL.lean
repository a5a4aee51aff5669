/- The verifier's own text: the bytes of a request. -/
import Derived.Test.YtoecnlhnfhongaaDoorSmpB
import Derived.Test.YtoecnlhnfhongaaDoorKeyL
namespace Go.Proofs.YtoecnlhnfhongaaDoor
open Go.RowKit

def tnK (k : Int) : Bool := k == 1 || k == 3 || k == 5 || k == 6
def mtK (k : Int) : Bool := k == 3 || k == 5
def nmK (k : Int) : Bool := k == 2 || k == 3
def labOK (l : LabD) : Prop := l.name.size ≤ 255 ∧ l.value.size ≤ 65535
def smpOK (x : SmpD) : Prop := x.labs.length ≤ 255 ∧ ∀ i (h : i < x.labs.length), labOK x.labs[i]
def allX (xs : List SmpD) : Prop := ∀ i (h : i < xs.length), smpOK xs[i]
/-- What a request must be, whatever its length. -/
def rqOK (r : ReqD) : Prop := (1 ≤ r.kind ∧ r.kind ≤ 6) ∧ (tnK r.kind = false → r.tenant.size = 0) ∧ (mtK r.kind = false → r.metric.size = 0) ∧ (nmK r.kind = false → r.num = 0) ∧ (r.kind ≠ 1 → r.smps = []) ∧ r.tenant.size ≤ 255 ∧ r.metric.size ≤ 65535 ∧ r.smps.length ≤ 500 ∧ allX r.smps
def encX (x : SmpD) : ByteArray := keyB x.labs ++ numS 8 x.bits
def encXs : List SmpD → ByteArray
  | [] => ByteArray.empty
  | x :: r => encX x ++ encXs r
theorem encXs_append : ∀ (a b : List SmpD), encXs (a ++ b) = encXs a ++ encXs b
  | [], b => by simp [encXs]
  | r :: q, b => by
    show encX r ++ encXs (q ++ b) = encX r ++ encXs q ++ encXs b
    rw [encXs_append q b, ByteArray.append_assoc]
theorem encXs_take (rs : List SmpD) (k : Nat) (h : k < rs.length) : encXs (rs.take (k + 1)) = encXs (rs.take k) ++ encX rs[k] := by
  rw [List.take_succ_eq_append_getElem h, encXs_append]
  simp [encXs]
def rqX (r : ReqD) : ByteArray :=
  numS 1 r.kind ++ ((if tnK r.kind = true then s8B r.tenant else ByteArray.empty) ++ ((if r.kind = 1 then numS 2 (r.smps.length : Nat) ++ encXs r.smps else ByteArray.empty) ++ ((if mtK r.kind = true then s16B r.metric else ByteArray.empty) ++ (if nmK r.kind = true then numS 8 r.num else ByteArray.empty))))
def reqE (l : List SmpD) : Decidable (l = []) := match l with
  | [] => isTrue rfl
  | _ :: _ => isFalse (fun h => by cases h)
def reqD (r : ReqD) : Decidable (rqOK r) := by
  haveI := reqE r.smps
  unfold rqOK allX smpOK labOK
  infer_instance
def reqB (r : ReqD) : ByteArray := haveI := reqD r; if rqOK r ∧ (rqX r).size ≤ 60000 then rqX r else ByteArray.empty
theorem reqB_ok {r : ReqD} (h : rqOK r) (hz : (rqX r).size ≤ 60000) : reqB r = rqX r := by unfold reqB; rw [if_pos ⟨h, hz⟩]
theorem reqB_no {r : ReqD} (h : ¬ rqOK r) : reqB r = ByteArray.empty := by unfold reqB; rw [if_neg fun hh => h hh.1]
theorem reqB_big {r : ReqD} (h : 60000 < (rqX r).size) : reqB r = ByteArray.empty := by unfold reqB; rw [if_neg fun hh => by omega]
theorem bemp (b : ByteArray) : b ++ ByteArray.empty = b := by simp
theorem empb (b : ByteArray) : ByteArray.empty ++ b = b := by simp
theorem rqX1 (te me : ByteArray) (nu : Int) (xs : List SmpD) : rqX ⟨1, te, me, nu, xs⟩ = numS 1 1 ++ s8B te ++ numS 2 (xs.length : Nat) ++ encXs xs := by
  rw [rqX]
  simp only [show tnK 1 = true from rfl, show mtK 1 = false from rfl, show nmK 1 = false from rfl, if_true, Bool.false_eq_true, if_false, bemp, ByteArray.append_assoc]
theorem rqX2 (te me : ByteArray) (nu : Int) (xs : List SmpD) : rqX ⟨2, te, me, nu, xs⟩ = numS 1 2 ++ numS 8 nu := by
  rw [rqX]
  simp only [show tnK 2 = false from rfl, show mtK 2 = false from rfl, show nmK 2 = true from rfl, show ¬ (2 : Int) = 1 from by omega, if_true, Bool.false_eq_true, if_false, empb]
theorem rqX3 (te me : ByteArray) (nu : Int) (xs : List SmpD) : rqX ⟨3, te, me, nu, xs⟩ = numS 1 3 ++ s8B te ++ s16B me ++ numS 8 nu := by
  rw [rqX]
  simp only [show tnK 3 = true from rfl, show mtK 3 = true from rfl, show nmK 3 = true from rfl, show ¬ (3 : Int) = 1 from by omega, if_true, if_false, empb, ByteArray.append_assoc]
theorem rqX4 (te me : ByteArray) (nu : Int) (xs : List SmpD) : rqX ⟨4, te, me, nu, xs⟩ = numS 1 4 := by
  rw [rqX]
  simp only [show tnK 4 = false from rfl, show mtK 4 = false from rfl, show nmK 4 = false from rfl, show ¬ (4 : Int) = 1 from by omega, Bool.false_eq_true, if_false, bemp]
theorem rqX5 (te me : ByteArray) (nu : Int) (xs : List SmpD) : rqX ⟨5, te, me, nu, xs⟩ = numS 1 5 ++ s8B te ++ s16B me := by
  rw [rqX]
  simp only [show tnK 5 = true from rfl, show mtK 5 = true from rfl, show nmK 5 = false from rfl, show ¬ (5 : Int) = 1 from by omega, if_true, Bool.false_eq_true, if_false, empb, bemp, ByteArray.append_assoc]
theorem rqX6 (te me : ByteArray) (nu : Int) (xs : List SmpD) : rqX ⟨6, te, me, nu, xs⟩ = numS 1 6 ++ s8B te := by
  rw [rqX]
  simp only [show tnK 6 = true from rfl, show mtK 6 = false from rfl, show nmK 6 = false from rfl, show ¬ (6 : Int) = 1 from by omega, if_true, Bool.false_eq_true, if_false, bemp]
theorem kinds {k : Int} (h : 1 ≤ k ∧ k ≤ 6) : k = 1 ∨ k = 2 ∨ k = 3 ∨ k = 4 ∨ k = 5 ∨ k = 6 := by omega
theorem tailB_size : ∀ (ls : List LabD), (tailB ls).size = 3 * ls.length + labBulk ls
  | [] => rfl
  | l :: r => by
    rw [tailB, ByteArray.size_append, ByteArray.size_append, s8B_size, s16B_size, tailB_size r]
    simp only [List.length_cons, labBulk]
    omega
theorem encX_size (x : SmpD) : (encX x).size = 9 + 3 * x.labs.length + labBulk x.labs := by
  rw [encX, ByteArray.size_append, keyB, ByteArray.size_append, numS_size, numS_size, tailB_size]
  omega
/-- The letters of all labels. -/
def txtS : List SmpD → Nat
  | [] => 0
  | x :: r => labBulk x.labs + txtS r
theorem txtS_append (a b : List SmpD) : txtS (a ++ b) = txtS a + txtS b := by
  induction a with
  | nil => simp [txtS]
  | cons f r ih => simp [txtS, ih]; omega
theorem txtS_take (xs : List SmpD) (k : Nat) (h : k < xs.length) : txtS (xs.take (k + 1)) = txtS (xs.take k) + labBulk xs[k].labs := by
  rw [List.take_succ_eq_append_getElem h, txtS_append]; simp [txtS]
theorem txtS_le (xs : List SmpD) : txtS xs ≤ smpsBulk xs := by
  induction xs with
  | nil => simp [txtS, smpsBulk]
  | cons x r ih => simp only [txtS, smpsBulk, smpBulk]; omega
theorem encXs_size : ∀ (xs : List SmpD), txtS xs ≤ (encXs xs).size
  | [] => by simp [txtS]
  | x :: r => by
    have h := encXs_size r
    have e : (encXs (x :: r)).size = (encX x).size + (encXs r).size := by show (encX x ++ encXs r).size = _; rw [ByteArray.size_append]
    have e2 := encX_size x
    rw [e]
    simp only [txtS]
    omega
theorem lab_in (ls : List LabD) (i : Nat) (h : i < ls.length) : ls[i].name.size + ls[i].value.size ≤ labBulk ls := by
  have h1 := labBulk_take_succ ls i h
  have h2 := labBulk_take_le ls (i + 1)
  omega
theorem txt_in (xs : List SmpD) (i : Nat) (h : i < xs.length) : labBulk xs[i].labs ≤ txtS xs := by
  have h1 := txtS_take xs i h
  have e := txtS_append (xs.take (i + 1)) (xs.drop (i + 1))
  rw [List.take_append_drop] at e
  omega
/-- What the program asks first: all that is told in one byte fits, and there are not too many samples. -/
def cntX (x : SmpD) : Prop := x.labs.length ≤ 255 ∧ ∀ i (h : i < x.labs.length), x.labs[i].name.size ≤ 255
def cntOK (r : ReqD) : Prop := r.tenant.size ≤ 255 ∧ r.smps.length ≤ 500 ∧ ∀ i (h : i < r.smps.length), cntX r.smps[i]
def fitOK (r : ReqD) : Prop := (tnK r.kind = false → r.tenant.size = 0) ∧ (mtK r.kind = false → r.metric.size = 0) ∧ (nmK r.kind = false → r.num = 0) ∧ (r.kind ≠ 1 → r.smps = [])
theorem rq_of {r : ReqD} (hk : 1 ≤ r.kind ∧ r.kind ≤ 6) (hf : fitOK r) (hc : cntOK r) (ht : r.tenant.size + r.metric.size + txtS r.smps ≤ 60000) : rqOK r := by
  refine ⟨hk, hf.1, hf.2.1, hf.2.2.1, hf.2.2.2, hc.1, by omega, hc.2.1, fun i hi => ⟨(hc.2.2 i hi).1, fun j hj => ⟨(hc.2.2 i hi).2 j hj, ?_⟩⟩⟩
  have h1 := lab_in r.smps[i].labs j hj
  have h2 := txt_in r.smps i hi
  omega
theorem rq_fit {r : ReqD} (h : rqOK r) : fitOK r := ⟨h.2.1, h.2.2.1, h.2.2.2.1, h.2.2.2.2.1⟩
theorem rq_cnt {r : ReqD} (h : rqOK r) : cntOK r := ⟨h.2.2.2.2.2.1, h.2.2.2.2.2.2.2.1, fun i hi => ⟨(h.2.2.2.2.2.2.2.2 i hi).1, fun j hj => ((h.2.2.2.2.2.2.2.2 i hi).2 j hj).1⟩⟩
/-- A request of too many letters is too long. -/
theorem txt_big {r : ReqD} (h : rqOK r) (ht : 60000 < r.tenant.size + r.metric.size + txtS r.smps) : 60000 < (rqX r).size := by
  obtain ⟨hk, h1, h2, _, h4, _⟩ := h
  obtain ⟨k, te, me, nu, xs⟩ := r
  simp only at *
  rcases kinds hk with rfl | rfl | rfl | rfl | rfl | rfl
  · have := h2 rfl
    have e := encXs_size xs
    rw [rqX1, ByteArray.size_append, ByteArray.size_append, ByteArray.size_append, numS_size, numS_size, s8B_size]; omega
  · have := h1 rfl; have := h2 rfl; have e := h4 (by omega); subst e; simp [txtS] at ht; omega
  · have e := h4 (by omega); subst e; simp [txtS] at ht
    rw [rqX3, ByteArray.size_append, ByteArray.size_append, ByteArray.size_append, numS_size, numS_size, s8B_size, s16B_size]; omega
  · have := h1 rfl; have := h2 rfl; have e := h4 (by omega); subst e; simp [txtS] at ht; omega
  · have e := h4 (by omega); subst e; simp [txtS] at ht
    rw [rqX5, ByteArray.size_append, ByteArray.size_append, numS_size, s8B_size, s16B_size]; omega
  · have := h2 rfl; have e := h4 (by omega); subst e; simp [txtS] at ht
    rw [rqX6, ByteArray.size_append, numS_size, s8B_size]; omega
end Go.Proofs.YtoecnlhnfhongaaDoor
