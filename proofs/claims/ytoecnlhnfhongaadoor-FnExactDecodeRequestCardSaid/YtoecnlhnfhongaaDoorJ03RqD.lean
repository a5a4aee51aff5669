import Derived.Test.YtoecnlhnfhongaaDoorJ02SNum
import Derived.Test.YtoecnlhnfhongaaDoorJ01SmpB
namespace Go.Proofs.YtoecnlhnfhongaaDoor
open Go.RowKit

/-- The lowest n bytes of a natural number, the highest first. -/
def numN (v : Nat) : Nat → List Nat
  | 0 => []
  | n + 1 => v / 256 ^ n % 256 :: numN v n
theorem numN_length (v : Nat) : ∀ n, (numN v n).length = n
  | 0 => rfl
  | n + 1 => by simp [numN, numN_length v n]
theorem shrN_nat (v : Nat) : ∀ k, shrN (v : Int) k = ((v / 256 ^ k : Nat) : Int)
  | 0 => by simp [shrN]
  | k + 1 => by rw [shrN, shrN_nat v k, Nat.pow_succ, ← Nat.div_div_eq_div_mul]; omega
theorem numI_nat (v : Nat) : ∀ n, numI (v : Int) n = (numN v n).map (fun x : Nat => (x : Int))
  | 0 => rfl
  | n + 1 => by rw [numI, numN, List.map_cons, numI_nat v n, shrN_nat]; simp
theorem numN_add (a b n : Nat) : ∀ m, m ≤ n → numN (a * 256 ^ n + b) m = numN b m
  | 0, _ => rfl
  | m + 1, h => by
    rw [numN, numN, numN_add a b n m (by omega)]
    congr 1
    obtain ⟨d, rfl⟩ : ∃ d, n = m + 1 + d := ⟨n - (m + 1), by omega⟩
    have e : a * 256 ^ (m + 1 + d) + b = b + 256 ^ m * (a * 256 ^ d * 256) := by rw [Nat.pow_add, Nat.pow_succ, Nat.add_comm]; congr 1; ac_rfl
    rw [e, Nat.add_mul_div_left _ _ (Nat.pow_pos (by omega))]
    omega
theorem beL_cons (c : UInt8) (l : List UInt8) : beL (c :: l) = c.toNat * 256 ^ l.length + beL l := by
  have hg : ∀ (l : List UInt8) (v : Nat), l.foldl (fun v c => v * 256 + c.toNat) v = v * 256 ^ l.length + beL l := fun l => by
    induction l with
    | nil => intro v; simp [beL]
    | cons d l ih =>
      intro v
      have h1 := ih (v * 256 + d.toNat)
      have h2 := ih (0 * 256 + d.toNat)
      simp only [beL, List.foldl_cons, List.length_cons, Nat.pow_succ] at h1 h2 ⊢
      rw [h1, h2]
      simp only [Nat.add_mul, Nat.zero_mul, Nat.zero_add]
      rw [Nat.add_assoc]
      congr 1
      ac_rfl
  have := hg l (0 * 256 + c.toNat)
  simpa [beL] using this
/-- What was read off bytes is written as these bytes. -/
theorem numN_be : ∀ (l : List UInt8), numN (beL l) l.length = l.map (fun c => c.toNat)
  | [] => rfl
  | c :: l => by
    have hb := beL_lt l
    have hc := c.toNat_lt
    rw [List.length_cons, numN, beL_cons, numN_add _ _ _ _ (Nat.le_refl _), numN_be l, List.map_cons]
    congr 1
    rw [Nat.add_comm, Nat.mul_comm, Nat.add_mul_div_left _ _ (Nat.pow_pos (by omega)), Nat.div_eq_of_lt hb]
    omega
theorem numS_be (l : List UInt8) (n : Nat) (h : l.length = n) : numS n (beL l : Nat) = ⟨l.toArray⟩ := by
  subst h
  rw [numS, numI_nat, numN_be, strOfNums]
  congr 2
  rw [List.map_map, List.map_map]
  conv => rhs; rw [← List.map_id l]
  congr 1
  funext c
  simp
theorem be_numN (v : Nat) : ∀ n, beL ((numN v n).map UInt8.ofNat) = v % 256 ^ n
  | 0 => by simp [numN, beL, Nat.mod_one]
  | n + 1 => by
    rw [numN, List.map_cons, beL_cons, be_numN v n, List.length_map, numN_length, UInt8.toNat_ofNat_of_lt' (by show _ < 256; omega), Nat.pow_succ, Nat.mod_mul]
    rw [Nat.mul_comm, Nat.add_comm]
theorem numS_data (n v : Nat) : (numS n v).data.toList = (numN v n).map UInt8.ofNat := by
  rw [numS, numI_nat, strOfNums_data, List.map_map]
  congr 1
/-- What was written is read back. -/
theorem be_numS (n v : Nat) (h : v < 256 ^ n) : beL (numS n v).data.toList = v := by
  rw [numS_data, be_numN, Nat.mod_eq_of_lt h]
end Go.Proofs.YtoecnlhnfhongaaDoor

namespace Go.Proofs.YtoecnlhnfhongaaDoor
open Go.RowKit

def s8B (s : ByteArray) : ByteArray := numS 1 (s.size : Nat) ++ s
def s16B (s : ByteArray) : ByteArray := numS 2 (s.size : Nat) ++ s
theorem s8B_size (s : ByteArray) : (s8B s).size = 1 + s.size := by rw [s8B, ByteArray.size_append, numS_size]
theorem s16B_size (s : ByteArray) : (s16B s).size = 2 + s.size := by rw [s16B, ByteArray.size_append, numS_size]
end Go.Proofs.YtoecnlhnfhongaaDoor

namespace Go.Proofs.YtoecnlhnfhongaaDoor
open Go.RowKit

def eqLabB (x y : LabD) : Bool := x.name.toList == y.name.toList && x.value.toList == y.value.toList
def sameLs : List LabD → List LabD → Bool
  | [], [] => true
  | x :: r, y :: q => eqLabB x y && sameLs r q
  | _, _ => false
theorem eqLabB_iff (x y : LabD) : eqLabB x y = true ↔ x = y := by
  unfold eqLabB
  rw [Bool.and_eq_true, beq_iff_eq, beq_iff_eq]
  constructor
  · rintro ⟨h1, h2⟩
    cases x; cases y
    simp only [LabD.mk.injEq]
    exact ⟨toList_inj h1, toList_inj h2⟩
  · rintro rfl; exact ⟨rfl, rfl⟩
theorem sameLs_iff : ∀ (a b : List LabD), sameLs a b = true ↔ a = b
  | [], [] => by simp [sameLs]
  | [], _ :: _ => by simp [sameLs]
  | _ :: _, [] => by simp [sameLs]
  | x :: r, y :: q => by
    rw [sameLs, Bool.and_eq_true, eqLabB_iff, sameLs_iff r q]
    simp
theorem sameLs_len {a b : List LabD} (h : a.length ≠ b.length) : sameLs a b = false := by
  rw [Bool.eq_false_iff]
  intro h'
  exact h (by rw [(sameLs_iff a b).1 h'])
theorem sameLs_drop (a b : List LabD) (k : Nat) (ha : k < a.length) (hb : k < b.length) : sameLs (a.drop k) (b.drop k) = (eqLabB a[k] b[k] && sameLs (a.drop (k + 1)) (b.drop (k + 1))) := by
  rw [List.drop_eq_getElem_cons ha, List.drop_eq_getElem_cons hb, sameLs]

def canB (ls : List LabD) : Bool := decide ((canonR ls).2.1 = 0) && sameLs (canonR ls).1 ls
def tailB : List LabD → ByteArray
  | [] => ByteArray.empty
  | l :: r => s8B l.name ++ s16B l.value ++ tailB r
def keyB (ls : List LabD) : ByteArray := numS 1 (ls.length : Nat) ++ tailB ls
def keyV (ls : List LabD) : ByteArray := if canB ls = true then keyB ls else ByteArray.empty

theorem tailB_append : ∀ (a b : List LabD), tailB (a ++ b) = tailB a ++ tailB b
  | [], b => by simp [tailB]
  | l :: r, b => by
    show s8B l.name ++ s16B l.value ++ tailB (r ++ b) = s8B l.name ++ s16B l.value ++ tailB r ++ tailB b
    rw [tailB_append r b, ByteArray.append_assoc (b := tailB r)]
theorem tailB_take (ls : List LabD) (k : Nat) (h : k < ls.length) : tailB (ls.take (k + 1)) = tailB (ls.take k) ++ (s8B ls[k].name ++ s16B ls[k].value) := by
  rw [List.take_succ_eq_append_getElem h, tailB_append]
  simp [tailB]
theorem canon_len0 (ls : List LabD) : (canonR ls).1.length ≤ 16 := by
  unfold canonR
  split
  · simp
  · rename_i h16
    split
    · simp
    · split
      · simp
      · split
        · simp only
          rw [insAll_len]
          have := keptL_len ls
          omega
        · simp
theorem canon_some16 {ls : List LabD} (h : (canonR ls).2.1 = 0) : ls.length ≤ 16 := by
  unfold canonR at h
  split at h
  · exact absurd h (by simp)
  · omega
theorem can_le {ls : List LabD} (h : canB ls = true) : ls.length ≤ 16 := by
  unfold canB at h
  rw [Bool.and_eq_true, decide_eq_true_eq] at h
  exact canon_some16 h.1
theorem can_form {ls : List LabD} (h : canB ls = true) : canonR ls = (ls, 0, (canonR ls).2.2) := by
  unfold canB at h
  rw [Bool.and_eq_true, decide_eq_true_eq] at h
  have h2 := (sameLs_iff _ _).1 h.2
  have h1 := h.1
  generalize canonR ls = c at *
  obtain ⟨x, y, z⟩ := c
  simp only at h1 h2
  rw [h1, h2]
end Go.Proofs.YtoecnlhnfhongaaDoor

namespace Go.Proofs.YtoecnlhnfhongaaDoor
open Go.RowKit

def tnK (k : Int) : Bool := k == 1 || k == 3 || k == 5 || k == 6
def mtK (k : Int) : Bool := k == 3 || k == 5
def nmK (k : Int) : Bool := k == 2 || k == 3
def labOK (l : LabD) : Prop := l.name.size ≤ 255 ∧ l.value.size ≤ 65535
def smpOK (x : SmpD) : Prop := x.labs.length ≤ 255 ∧ ∀ i (h : i < x.labs.length), labOK x.labs[i]
def allX (xs : List SmpD) : Prop := ∀ i (h : i < xs.length), smpOK xs[i]
/-- What a request must be, whatever its length. -/
def rqOK (r : ReqD) : Prop := (1 ≤ r.kind ∧ r.kind ≤ 6) ∧ (tnK r.kind = false → r.tenant.size = 0) ∧ (mtK r.kind = false → r.metric.size = 0) ∧ (nmK r.kind = false → r.num = 0) ∧ (r.kind ≠ 1 → r.smps = []) ∧ r.tenant.size ≤ 255 ∧ r.metric.size ≤ 65535 ∧ r.smps.length ≤ 500 ∧ allX r.smps
def encX (x : SmpD) : ByteArray := keyB x.labs ++ numS 8 x.bits
def encXs : List SmpD → ByteArray
  | [] => ByteArray.empty
  | x :: r => encX x ++ encXs r
theorem encXs_append : ∀ (a b : List SmpD), encXs (a ++ b) = encXs a ++ encXs b
  | [], b => by simp [encXs]
  | r :: q, b => by
    show encX r ++ encXs (q ++ b) = encX r ++ encXs q ++ encXs b
    rw [encXs_append q b, ByteArray.append_assoc]
theorem encXs_take (rs : List SmpD) (k : Nat) (h : k < rs.length) : encXs (rs.take (k + 1)) = encXs (rs.take k) ++ encX rs[k] := by
  rw [List.take_succ_eq_append_getElem h, encXs_append]
  simp [encXs]
def rqX (r : ReqD) : ByteArray :=
  numS 1 r.kind ++ ((if tnK r.kind = true then s8B r.tenant else ByteArray.empty) ++ ((if r.kind = 1 then numS 2 (r.smps.length : Nat) ++ encXs r.smps else ByteArray.empty) ++ ((if mtK r.kind = true then s16B r.metric else ByteArray.empty) ++ (if nmK r.kind = true then numS 8 r.num else ByteArray.empty))))
def reqE (l : List SmpD) : Decidable (l = []) := match l with
  | [] => isTrue rfl
  | _ :: _ => isFalse (fun h => by cases h)
def reqD (r : ReqD) : Decidable (rqOK r) := by
  haveI := reqE r.smps
  unfold rqOK allX smpOK labOK
  infer_instance
def reqB (r : ReqD) : ByteArray := haveI := reqD r; if rqOK r ∧ (rqX r).size ≤ 60000 then rqX r else ByteArray.empty
theorem reqB_ok {r : ReqD} (h : rqOK r) (hz : (rqX r).size ≤ 60000) : reqB r = rqX r := by unfold reqB; rw [if_pos ⟨h, hz⟩]
theorem reqB_no {r : ReqD} (h : ¬ rqOK r) : reqB r = ByteArray.empty := by unfold reqB; rw [if_neg fun hh => h hh.1]
theorem reqB_big {r : ReqD} (h : 60000 < (rqX r).size) : reqB r = ByteArray.empty := by unfold reqB; rw [if_neg fun hh => by omega]
theorem bemp (b : ByteArray) : b ++ ByteArray.empty = b := by simp
theorem empb (b : ByteArray) : ByteArray.empty ++ b = b := by simp
theorem rqX1 (te me : ByteArray) (nu : Int) (xs : List SmpD) : rqX ⟨1, te, me, nu, xs⟩ = numS 1 1 ++ s8B te ++ numS 2 (xs.length : Nat) ++ encXs xs := by
  rw [rqX]
  simp only [show tnK 1 = true from rfl, show mtK 1 = false from rfl, show nmK 1 = false from rfl, if_true, Bool.false_eq_true, if_false, bemp, ByteArray.append_assoc]
theorem rqX2 (te me : ByteArray) (nu : Int) (xs : List SmpD) : rqX ⟨2, te, me, nu, xs⟩ = numS 1 2 ++ numS 8 nu := by
  rw [rqX]
  simp only [show tnK 2 = false from rfl, show mtK 2 = false from rfl, show nmK 2 = true from rfl, show ¬ (2 : Int) = 1 from by omega, if_true, Bool.false_eq_true, if_false, empb]
theorem rqX3 (te me : ByteArray) (nu : Int) (xs : List SmpD) : rqX ⟨3, te, me, nu, xs⟩ = numS 1 3 ++ s8B te ++ s16B me ++ numS 8 nu := by
  rw [rqX]
  simp only [show tnK 3 = true from rfl, show mtK 3 = true from rfl, show nmK 3 = true from rfl, show ¬ (3 : Int) = 1 from by omega, if_true, if_false, empb, ByteArray.append_assoc]
theorem rqX4 (te me : ByteArray) (nu : Int) (xs : List SmpD) : rqX ⟨4, te, me, nu, xs⟩ = numS 1 4 := by
  rw [rqX]
  simp only [show tnK 4 = false from rfl, show mtK 4 = false from rfl, show nmK 4 = false from rfl, show ¬ (4 : Int) = 1 from by omega, Bool.false_eq_true, if_false, bemp]
theorem rqX5 (te me : ByteArray) (nu : Int) (xs : List SmpD) : rqX ⟨5, te, me, nu, xs⟩ = numS 1 5 ++ s8B te ++ s16B me := by
  rw [rqX]
  simp only [show tnK 5 = true from rfl, show mtK 5 = true from rfl, show nmK 5 = false from rfl, show ¬ (5 : Int) = 1 from by omega, if_true, Bool.false_eq_true, if_false, empb, bemp, ByteArray.append_assoc]
theorem rqX6 (te me : ByteArray) (nu : Int) (xs : List SmpD) : rqX ⟨6, te, me, nu, xs⟩ = numS 1 6 ++ s8B te := by
  rw [rqX]
  simp only [show tnK 6 = true from rfl, show mtK 6 = false from rfl, show nmK 6 = false from rfl, show ¬ (6 : Int) = 1 from by omega, if_true, Bool.false_eq_true, if_false, bemp]
theorem kinds {k : Int} (h : 1 ≤ k ∧ k ≤ 6) : k = 1 ∨ k = 2 ∨ k = 3 ∨ k = 4 ∨ k = 5 ∨ k = 6 := by omega
theorem tailB_size : ∀ (ls : List LabD), (tailB ls).size = 3 * ls.length + labBulk ls
  | [] => rfl
  | l :: r => by
    rw [tailB, ByteArray.size_append, ByteArray.size_append, s8B_size, s16B_size, tailB_size r]
    simp only [List.length_cons, labBulk]
    omega
theorem encX_size (x : SmpD) : (encX x).size = 9 + 3 * x.labs.length + labBulk x.labs := by
  rw [encX, ByteArray.size_append, keyB, ByteArray.size_append, numS_size, numS_size, tailB_size]
  omega
/-- The letters of all labels. -/
def txtS : List SmpD → Nat
  | [] => 0
  | x :: r => labBulk x.labs + txtS r
theorem txtS_append (a b : List SmpD) : txtS (a ++ b) = txtS a + txtS b := by
  induction a with
  | nil => simp [txtS]
  | cons f r ih => simp [txtS, ih]; omega
theorem txtS_take (xs : List SmpD) (k : Nat) (h : k < xs.length) : txtS (xs.take (k + 1)) = txtS (xs.take k) + labBulk xs[k].labs := by
  rw [List.take_succ_eq_append_getElem h, txtS_append]; simp [txtS]
theorem txtS_le (xs : List SmpD) : txtS xs ≤ smpsBulk xs := by
  induction xs with
  | nil => simp [txtS, smpsBulk]
  | cons x r ih => simp only [txtS, smpsBulk, smpBulk]; omega
theorem encXs_size : ∀ (xs : List SmpD), txtS xs ≤ (encXs xs).size
  | [] => by simp [txtS]
  | x :: r => by
    have h := encXs_size r
    have e : (encXs (x :: r)).size = (encX x).size + (encXs r).size := by show (encX x ++ encXs r).size = _; rw [ByteArray.size_append]
    have e2 := encX_size x
    rw [e]
    simp only [txtS]
    omega
theorem lab_in (ls : List LabD) (i : Nat) (h : i < ls.length) : ls[i].name.size + ls[i].value.size ≤ labBulk ls := by
  have h1 := labBulk_take_succ ls i h
  have h2 := labBulk_take_le ls (i + 1)
  omega
theorem txt_in (xs : List SmpD) (i : Nat) (h : i < xs.length) : labBulk xs[i].labs ≤ txtS xs := by
  have h1 := txtS_take xs i h
  have e := txtS_append (xs.take (i + 1)) (xs.drop (i + 1))
  rw [List.take_append_drop] at e
  omega
/-- What the program asks first: all that is told in one byte fits, and there are not too many samples. -/
def cntX (x : SmpD) : Prop := x.labs.length ≤ 255 ∧ ∀ i (h : i < x.labs.length), x.labs[i].name.size ≤ 255
def cntOK (r : ReqD) : Prop := r.tenant.size ≤ 255 ∧ r.smps.length ≤ 500 ∧ ∀ i (h : i < r.smps.length), cntX r.smps[i]
def fitOK (r : ReqD) : Prop := (tnK r.kind = false → r.tenant.size = 0) ∧ (mtK r.kind = false → r.metric.size = 0) ∧ (nmK r.kind = false → r.num = 0) ∧ (r.kind ≠ 1 → r.smps = [])
theorem rq_of {r : ReqD} (hk : 1 ≤ r.kind ∧ r.kind ≤ 6) (hf : fitOK r) (hc : cntOK r) (ht : r.tenant.size + r.metric.size + txtS r.smps ≤ 60000) : rqOK r := by
  refine ⟨hk, hf.1, hf.2.1, hf.2.2.1, hf.2.2.2, hc.1, by omega, hc.2.1, fun i hi => ⟨(hc.2.2 i hi).1, fun j hj => ⟨(hc.2.2 i hi).2 j hj, ?_⟩⟩⟩
  have h1 := lab_in r.smps[i].labs j hj
  have h2 := txt_in r.smps i hi
  omega
theorem rq_fit {r : ReqD} (h : rqOK r) : fitOK r := ⟨h.2.1, h.2.2.1, h.2.2.2.1, h.2.2.2.2.1⟩
theorem rq_cnt {r : ReqD} (h : rqOK r) : cntOK r := ⟨h.2.2.2.2.2.1, h.2.2.2.2.2.2.2.1, fun i hi => ⟨(h.2.2.2.2.2.2.2.2 i hi).1, fun j hj => ((h.2.2.2.2.2.2.2.2 i hi).2 j hj).1⟩⟩
/-- A request of too many letters is too long. -/
theorem txt_big {r : ReqD} (h : rqOK r) (ht : 60000 < r.tenant.size + r.metric.size + txtS r.smps) : 60000 < (rqX r).size := by
  obtain ⟨hk, h1, h2, _, h4, _⟩ := h
  obtain ⟨k, te, me, nu, xs⟩ := r
  simp only at *
  rcases kinds hk with rfl | rfl | rfl | rfl | rfl | rfl
  · have := h2 rfl
    have e := encXs_size xs
    rw [rqX1, ByteArray.size_append, ByteArray.size_append, ByteArray.size_append, numS_size, numS_size, s8B_size]; omega
  · have := h1 rfl; have := h2 rfl; have e := h4 (by omega); subst e; simp [txtS] at ht; omega
  · have e := h4 (by omega); subst e; simp [txtS] at ht
    rw [rqX3, ByteArray.size_append, ByteArray.size_append, ByteArray.size_append, numS_size, numS_size, s8B_size, s16B_size]; omega
  · have := h1 rfl; have := h2 rfl; have e := h4 (by omega); subst e; simp [txtS] at ht; omega
  · have e := h4 (by omega); subst e; simp [txtS] at ht
    rw [rqX5, ByteArray.size_append, ByteArray.size_append, numS_size, s8B_size, s16B_size]; omega
  · have := h2 rfl; have e := h4 (by omega); subst e; simp [txtS] at ht
    rw [rqX6, ByteArray.size_append, numS_size, s8B_size]; omega
end Go.Proofs.YtoecnlhnfhongaaDoor

namespace Go.Proofs.YtoecnlhnfhongaaDoor
open Go.RowKit

theorem bext {x y : ByteArray} (h : x.data.toList = y.data.toList) : x = y := by
  cases x; cases y
  simp only [ByteArray.mk.injEq]
  exact Array.toList_inj.1 h
theorem blist_append (x y : ByteArray) : (x ++ y).data.toList = x.data.toList ++ y.data.toList := by simp
theorem blist_extract (s : ByteArray) (i j : Nat) : (s.extract i j).data.toList = (s.data.toList.take j).drop i := by
  rw [ByteArray.data_extract, Array.toList_extract, List.extract_eq_drop_take']
theorem bsize (s : ByteArray) : s.size = s.data.toList.length := by simp

structure Rd where
  rest : ByteArray
  short : Bool
def takeR (n : Nat) (r : Rd) : ByteArray × Rd := if r.rest.size < n then (ByteArray.empty, ⟨r.rest, true⟩) else (r.rest.extract 0 n, ⟨r.rest.extract n r.rest.size, r.short⟩)
def numR (k : Nat) (r : Rd) : Nat × Rd := (beL (takeR k r).1.data.toList, (takeR k r).2)
def textR (k : Nat) (r : Rd) : ByteArray × Rd := takeR (numR k r).1 (numR k r).2
theorem take_le (n : Nat) (r : Rd) : (takeR n r).1.size ≤ n ∧ (takeR n r).1.size ≤ r.rest.size ∧ (takeR n r).2.rest.size ≤ r.rest.size := by
  unfold takeR
  split
  · exact ⟨by simp, by simp, Nat.le_refl _⟩
  · refine ⟨?_, ?_, ?_⟩ <;> simp <;> omega
theorem take_sound {n : Nat} {r : Rd} (h : (takeR n r).2.short = false) : r.short = false ∧ (takeR n r).1.size = n ∧ r.rest = (takeR n r).1 ++ (takeR n r).2.rest := by
  unfold takeR at *
  split at h
  · exact absurd h (by simp)
  · rename_i hn
    rw [if_neg hn]
    refine ⟨h, by simp; omega, ?_⟩
    apply bext
    rw [blist_append, blist_extract, blist_extract, List.drop_zero, bsize, List.take_length, List.take_append_drop]
theorem take_full {n : Nat} {r : Rd} {t q : ByteArray} (h : r.rest = t ++ q) (hn : t.size = n) : takeR n r = (t, ⟨q, r.short⟩) := by
  have hz : r.rest.size = n + q.size := by rw [h, ByteArray.size_append, hn]
  unfold takeR
  rw [if_neg (by omega)]
  have e1 : r.rest.extract 0 n = t := by
    apply bext
    rw [blist_extract, List.drop_zero, h, blist_append, ← hn, bsize, List.take_left]
  have e2 : r.rest.extract n r.rest.size = q := by
    apply bext
    rw [blist_extract, bsize r.rest, List.take_length, h, blist_append, ← hn, bsize, List.drop_left]
  rw [e1, e2]
theorem text_sound {k : Nat} {r : Rd} (h : (textR k r).2.short = false) : r.short = false ∧ r.rest = numS k ((textR k r).1.size : Nat) ++ ((textR k r).1 ++ (textR k r).2.rest) := by
  obtain ⟨h1, h2, h3⟩ := take_sound (r := (numR k r).2) h
  obtain ⟨g1, g2, g3⟩ := take_sound (n := k) (r := r) h1
  refine ⟨g1, ?_⟩
  have e : numS k ((textR k r).1.size : Nat) = (takeR k r).1 := by
    show numS k ((takeR (numR k r).1 (numR k r).2).1.size : Nat) = _
    rw [h2]
    have := numS_be (takeR k r).1.data.toList k (by rw [← bsize]; exact g2)
    show numS k (beL (takeR k r).1.data.toList : Nat) = _
    rw [this]
  rw [e]
  have h3' : (takeR k r).2.rest = (textR k r).1 ++ (textR k r).2.rest := h3
  rw [← h3']
  exact g3
theorem text_full {k : Nat} {r : Rd} {t q : ByteArray} (h : r.rest = numS k (t.size : Nat) ++ (t ++ q)) (hk : t.size < 256 ^ k) : textR k r = (t, ⟨q, r.short⟩) := by
  have h1 := take_full (n := k) h (numS_size k _)
  have e1 : (numR k r).1 = t.size := by
    show beL (takeR k r).1.data.toList = _
    rw [h1]
    exact be_numS k t.size hk
  have e2 : (numR k r).2 = ⟨t ++ q, r.short⟩ := by
    show (takeR k r).2 = _
    rw [h1]
  rw [textR, e1, e2]
  exact take_full rfl rfl
theorem text_le (k : Nat) (r : Rd) : (textR k r).1.size ≤ r.rest.size ∧ (textR k r).2.rest.size ≤ r.rest.size := by
  have h1 := take_le k r
  have h2 := take_le (numR k r).1 (numR k r).2
  have e : (numR k r).2 = (takeR k r).2 := rfl
  rw [e] at h2
  exact ⟨by have := h2.2.1; unfold textR; rw [e]; omega, by have := h2.2.2; unfold textR; rw [e]; omega⟩
theorem num_lt (k : Nat) (r : Rd) : (numR k r).1 < 256 ^ k := by
  have h := beL_lt (takeR k r).1.data.toList
  have h1 := (take_le k r).1
  have h2 : 256 ^ (takeR k r).1.data.toList.length ≤ 256 ^ k := Nat.pow_le_pow_right (by omega) (by rw [← bsize]; exact h1)
  show beL (takeR k r).1.data.toList < _
  omega
end Go.Proofs.YtoecnlhnfhongaaDoor

namespace Go.Proofs.YtoecnlhnfhongaaDoor
open Go.RowKit

def labR (r : Rd) : LabD × Rd := (⟨(textR 1 r).1, (textR 2 (textR 1 r).2).1⟩, (textR 2 (textR 1 r).2).2)
def rdK (r : Rd) : Nat → List LabD × Rd
  | 0 => ([], r)
  | k + 1 => ((rdK r k).1 ++ [(labR (rdK r k).2).1], (labR (rdK r k).2).2)
def cntR (key : ByteArray) : Nat := (numR 1 ⟨key, false⟩).1
def rdAll (key : ByteArray) : List LabD × Rd := rdK (numR 1 ⟨key, false⟩).2 (cntR key)
def wholeB (r : Rd) : Bool := !r.short && (r.rest.toList == ByteArray.empty.toList)
def decV (key : ByteArray) : List LabD × Bool := if (wholeB (rdAll key).2 && canB (rdAll key).1) = true then ((rdAll key).1, true) else ([], false)

theorem labR_eq (r : Rd) : labR r = (⟨(textR 1 r).1, (textR 2 (textR 1 r).2).1⟩, (textR 2 (textR 1 r).2).2) := by rw [labR]
theorem rdK_succ (r : Rd) (k : Nat) : rdK r (k + 1) = ((rdK r k).1 ++ [(labR (rdK r k).2).1], (labR (rdK r k).2).2) := by rw [rdK]
theorem rdK_length (r : Rd) : ∀ k, (rdK r k).1.length = k
  | 0 => rfl
  | k + 1 => by rw [rdK]; simp [rdK_length r k]
theorem lab_sound {r : Rd} (h : (labR r).2.short = false) : r.short = false ∧ r.rest = s8B (labR r).1.name ++ s16B (labR r).1.value ++ (labR r).2.rest := by
  obtain ⟨h1, h2⟩ := text_sound (k := 2) (r := (textR 1 r).2) h
  obtain ⟨g1, g2⟩ := text_sound (k := 1) (r := r) h1
  refine ⟨g1, ?_⟩
  rw [g2, h2]
  apply bext
  simp [labR, s8B, s16B]
theorem lab_full {r : Rd} {l : LabD} {q : ByteArray} (h : r.rest = s8B l.name ++ s16B l.value ++ q) (h1 : l.name.size < 256) (h2 : l.value.size < 65536) : labR r = (l, ⟨q, r.short⟩) := by
  have e : r.rest = numS 1 (l.name.size : Nat) ++ (l.name ++ (s16B l.value ++ q)) := by
    rw [h]; apply bext; simp [s8B]
  have e1 := text_full e (by omega)
  have e2 : textR 2 (textR 1 r).2 = (l.value, ⟨q, r.short⟩) := by
    rw [e1]
    exact text_full (r := ⟨s16B l.value ++ q, r.short⟩) (by show s16B l.value ++ q = _; apply bext; simp [s16B]) (by omega)
  rw [labR, e2, e1]
theorem rd_sound {r : Rd} (k : Nat) : (rdK r k).2.short = false → r.short = false ∧ r.rest = tailB (rdK r k).1 ++ (rdK r k).2.rest := by
  induction k with
  | zero =>
    intro h
    refine ⟨h, ?_⟩
    show r.rest = ByteArray.empty ++ r.rest
    apply bext
    simp
  | succ k ih =>
    intro h
    rw [rdK_succ] at h ⊢
    simp only at h ⊢
    obtain ⟨h1, h2⟩ := lab_sound h
    obtain ⟨g1, g2⟩ := ih h1
    refine ⟨g1, ?_⟩
    generalize rdK r k = R at *
    generalize labR R.2 = L at *
    rw [g2, h2, tailB_append]
    have e3 : tailB [L.1] = s8B L.1.name ++ s16B L.1.value := by
      show s8B L.1.name ++ s16B L.1.value ++ ByteArray.empty = _
      apply bext
      simp
    rw [e3]
    apply bext
    simp
def SmallL (ls : List LabD) : Prop := ∀ i (h : i < ls.length), ls[i].name.size < 256 ∧ ls[i].value.size < 65536
theorem rd_full {r : Rd} {ls : List LabD} {q : ByteArray} (h : r.rest = tailB ls ++ q) (hs : SmallL ls) : ∀ k, k ≤ ls.length → rdK r k = (ls.take k, ⟨tailB (ls.drop k) ++ q, r.short⟩)
  | 0, _ => by
    cases r
    simp only at h
    simp [rdK, h]
  | k + 1, hk => by
    have ih := rd_full h hs k (by omega)
    have e : tailB (ls.drop k) ++ q = s8B ls[k].name ++ s16B ls[k].value ++ (tailB (ls.drop (k + 1)) ++ q) := by
      rw [List.drop_eq_getElem_cons (by omega)]
      apply bext
      simp [tailB]
    have hl := lab_full (r := ⟨tailB (ls.drop k) ++ q, r.short⟩) e (hs k (by omega)).1 (hs k (by omega)).2
    rw [rdK_succ, ih, hl, List.take_succ_eq_append_getElem (by omega)]

theorem runes_size (s : ByteArray) : ∀ (b p : Nat) (l : List Nat), s.size ≤ p + b → runesFrom s b p = some l → s.size ≤ p + 4 * l.length
  | 0, p, l, hb, _ => by omega
  | b + 1, p, l, hb, h => by
    rw [runesFrom] at h
    split at h
    · split at h
      · exact absurd h (by simp)
      · obtain ⟨l', hl', rfl⟩ := Option.map_eq_some_iff.1 h
        have h1 := decode_pos s p
        have h4 := (decode_rune s p).2
        have := runes_size s b _ l' (by omega) hl'
        simp
        omega
    · omega
theorem val_size {s : ByteArray} (h : valV s = 0) : s.size ≤ 512 := by
  unfold valV at h
  split at h
  · exact absurd h (by simp)
  · rename_i l hl
    unfold endV at h
    split at h
    · exact absurd h (by simp)
    · have := runes_size s s.size 0 l (by omega) hl
      omega
theorem firstBad_none : ∀ (ls : List LabD) (j : Nat), firstBad ls j = none → ∀ i (h : i < ls.length), labV ls[i] = 0
  | [], _, _, i, h => absurd h (by simp)
  | l :: r, j, hn, i, h => by
    rw [firstBad] at hn
    split at hn
    · rename_i h0
      cases i with
      | zero => exact h0
      | succ i => exact firstBad_none r _ hn i (by simpa using h)
    · exact absurd hn (by simp)
theorem firstBad_ne : ∀ (l : List LabD) (j c i : Nat), firstBad l j = some (c, i) → c ≠ 0
  | [], _, _, _, h => by simp [firstBad] at h
  | x :: r, j, c, i, h => by
    rw [firstBad] at h
    split at h
    · exact firstBad_ne r _ _ _ h
    · rename_i hx
      simp only [Option.some.injEq, Prod.mk.injEq] at h
      rw [← h.1]
      exact hx
theorem can_small {ls : List LabD} (h : canB ls = true) : SmallL ls := by
  have hc := can_form h
  have h16 := can_le h
  have h0 : (canonR ls).2.1 = 0 := by rw [hc]
  have hb : firstBad ls 0 = none := by
    cases hb : firstBad ls 0 with
    | none => rfl
    | some ci =>
      obtain ⟨c, i⟩ := ci
      rw [canon_bad (by omega) hb] at h0
      exact absurd h0 (firstBad_ne ls 0 c i hb)
  intro i hi
  have hl := firstBad_none ls 0 hb i hi
  unfold labV at hl
  split at hl
  · rename_i hn
    have hn' : nameOK ls[i].name := by simpa [nameB] using hn
    have := val_size hl
    exact ⟨by have := hn'.2.1; omega, by omega⟩
  · exact absurd hl (by simp)

theorem dec_full {ls : List LabD} (h : canB ls = true) : decV (keyB ls) = (ls, true) := by
  have h16 := can_le h
  have hs := can_small h
  have h1 : takeR 1 ⟨keyB ls, false⟩ = (numS 1 (ls.length : Nat), ⟨tailB ls, false⟩) := take_full rfl (numS_size 1 _)
  have hc : cntR (keyB ls) = ls.length := by
    show beL (takeR 1 ⟨keyB ls, false⟩).1.data.toList = _
    rw [h1]
    exact be_numS 1 ls.length (by omega)
  have hn : (numR 1 ⟨keyB ls, false⟩).2 = ⟨tailB ls, false⟩ := by
    show (takeR 1 ⟨keyB ls, false⟩).2 = _
    rw [h1]
  have ha : rdAll (keyB ls) = (ls, ⟨ByteArray.empty, false⟩) := by
    unfold rdAll
    rw [hc, hn]
    have e := rd_full (r := ⟨tailB ls, false⟩) (q := ByteArray.empty) (by apply bext; simp) hs ls.length (Nat.le_refl _)
    rw [e, List.take_length, List.drop_length]
    simp [tailB]
  unfold decV
  rw [ha]
  simp only
  rw [if_pos (by simp [wholeB, h])]
theorem dec_key {key : ByteArray} (h : (decV key).2 = true) : canB (decV key).1 = true ∧ keyB (decV key).1 = key := by
  unfold decV at h ⊢
  split at h
  · rename_i hw
    rw [if_pos hw]
    rw [Bool.and_eq_true] at hw
    refine ⟨hw.2, ?_⟩
    have hwh := hw.1
    unfold wholeB at hwh
    rw [Bool.and_eq_true] at hwh
    have hsh : (rdAll key).2.short = false := by simpa using hwh.1
    have hre : (rdAll key).2.rest = ByteArray.empty := toList_inj (by simpa using hwh.2)
    obtain ⟨g1, g2⟩ := rd_sound (r := (numR 1 ⟨key, false⟩).2) (cntR key) hsh
    obtain ⟨k1, k2, k3⟩ := take_sound (n := 1) (r := ⟨key, false⟩) g1
    have hl : (rdAll key).1.length = cntR key := rdK_length _ _
    have e : numS 1 ((rdAll key).1.length : Nat) = (takeR 1 ⟨key, false⟩).1 := by
      rw [hl]
      have := numS_be (takeR 1 ⟨key, false⟩).1.data.toList 1 (by rw [← bsize]; exact k2)
      show numS 1 (beL (takeR 1 ⟨key, false⟩).1.data.toList : Nat) = _
      rw [this]
    show numS 1 ((rdAll key).1.length : Nat) ++ tailB (rdAll key).1 = key
    have g2' : (takeR 1 ⟨key, false⟩).2.rest = tailB (rdAll key).1 ++ (rdAll key).2.rest := g2
    have k3' : key = (takeR 1 ⟨key, false⟩).1 ++ (takeR 1 ⟨key, false⟩).2.rest := k3
    rw [e]
    conv => rhs; rw [k3', g2', hre]
    apply bext
    simp
  · exact absurd h (by simp)
theorem dec_not {key : ByteArray} (h : (decV key).2 = false) : decV key = ([], false) ∧ ∀ ls, canB ls = true → keyB ls ≠ key := by
  refine ⟨?_, fun ls hc e => ?_⟩
  · unfold decV at h ⊢
    split at h
    · exact absurd h (by simp)
    · rename_i hw; rw [if_neg hw]
  · rw [← e, dec_full hc] at h
    exact absurd h (by simp)

theorem rd_big (r : Rd) (k : Nat) : (rdK r k).2.rest.size ≤ r.rest.size ∧ ∀ i (h : i < (rdK r k).1.length), (rdK r k).1[i].name.size ≤ r.rest.size ∧ (rdK r k).1[i].value.size ≤ r.rest.size := by
  induction k with
  | zero => exact ⟨Nat.le_refl _, fun i h => absurd h (by simp [rdK])⟩
  | succ k ih =>
    have h1 := text_le 1 (rdK r k).2
    have h2 := text_le 2 (textR 1 (rdK r k).2).2
    rw [rdK_succ, labR_eq]
    generalize rdK r k = R at *
    generalize textR 1 R.2 = t1 at *
    generalize textR 2 t1.2 = t2 at *
    refine ⟨by have := ih.1; simp only; omega, fun i hi => ?_⟩
    simp only at hi
    by_cases e : i < R.1.length
    · simp only [List.getElem_append_left e]; exact ih.2 i e
    · have hlen : i = R.1.length := by simp at hi; omega
      subst hlen
      simp only [List.getElem_concat_length]
      have := ih.1
      exact ⟨by omega, by omega⟩
theorem rdAll_big (key : ByteArray) : ∀ i (h : i < (rdAll key).1.length), (rdAll key).1[i].name.size ≤ key.size ∧ (rdAll key).1[i].value.size ≤ key.size := by
  intro i hi
  have h1 := (rd_big (numR 1 ⟨key, false⟩).2 (cntR key)).2 i hi
  have h2 := (take_le 1 ⟨key, false⟩).2.2
  have h3 : (numR 1 ⟨key, false⟩).2.rest.size ≤ key.size := h2
  exact ⟨Nat.le_trans h1.1 h3, Nat.le_trans h1.2 h3⟩
end Go.Proofs.YtoecnlhnfhongaaDoor

namespace Go.Proofs.YtoecnlhnfhongaaDoor
open Go.RowKit

def I64 (v : Int) : Prop := -9223372036854775808 ≤ v ∧ v ≤ 9223372036854775807
def wrapN (n : Nat) : Int := IntKind.i64.wrap (n : Int)
theorem wrapN_eq (n : Nat) : wrapN n = if n % 18446744073709551616 < 9223372036854775808 then ((n % 18446744073709551616 : Nat) : Int) else ((n % 18446744073709551616 : Nat) : Int) - 18446744073709551616 := by
  unfold wrapN IntKind.wrap
  simp [IntKind.bits, IntKind.signed]
  split <;> split <;> omega
theorem wrapN_small {n : Nat} (h : n < 9223372036854775808) : wrapN n = (n : Int) := by rw [wrapN_eq, if_pos (by omega)]; omega
theorem wrapN_rng (n : Nat) : I64 (wrapN n) := by rw [wrapN_eq]; unfold I64; split <;> omega

/-- The eight bytes of a number, read again, are the number. -/
theorem numS_mod (n : Nat) (v : Int) : numS n v = numS n ((v % (256 ^ n : Nat)).toNat : Nat) := by
  have key : ∀ m, m ≤ n → numI v m = numI ((v % (256 ^ n : Nat)).toNat : Nat) m := by
    intro m
    induction m with
    | zero => intro _; rfl
    | succ m ih =>
      intro hm
      rw [numI, numI, ih (by omega)]
      congr 1
      have sh : ∀ (u : Int) k, shrN u k = u / ((256 ^ k : Nat) : Int) := by
        intro u k
        induction k with
        | zero => simp [shrN]
        | succ k ih => rw [shrN, ih, Int.ediv_ediv_of_nonneg (Int.natCast_nonneg _), Nat.pow_succ, Int.natCast_mul]; rfl
      have h0 : 0 ≤ v % ((256 ^ n : Nat) : Int) := Int.emod_nonneg _ (by have := Nat.pow_pos (n := n) (show 0 < 256 by omega); omega)
      rw [sh, sh, Int.toNat_of_nonneg h0]
      obtain ⟨d, hd⟩ : ∃ d, n = m + 1 + d := ⟨n - m - 1, by omega⟩
      have e : ((256 ^ n : Nat) : Int) = ((256 ^ m : Nat) : Int) * (256 * ((256 ^ d : Nat) : Int)) := by
        subst hd
        rw [Nat.pow_add, Nat.pow_add, Nat.pow_one, Nat.mul_assoc, Int.natCast_mul, Int.natCast_mul]
        rfl
      have hp : (0 : Int) < ((256 ^ m : Nat) : Int) := by have := Nat.pow_pos (n := m) (show 0 < 256 by omega); omega
      generalize ((256 ^ m : Nat) : Int) = A at *
      generalize ((256 ^ d : Nat) : Int) = D at *
      rw [e]
      have h1 : v % (A * (256 * D)) = v - A * (256 * D * (v / (A * (256 * D)))) := by
        rw [Int.emod_def]; congr 1; rw [Int.mul_assoc]
      rw [h1, show v - A * (256 * D * (v / (A * (256 * D)))) = v + A * (-(256 * D * (v / (A * (256 * D))))) by rw [Int.mul_neg]; rfl, Int.add_mul_ediv_left _ _ (by omega)]
      rw [show -(256 * D * (v / (A * (256 * D)))) = 256 * (-(D * (v / (A * (256 * D))))) by rw [Int.mul_neg, Int.mul_assoc], Int.add_mul_emod_self_left]
  show strOfNums _ = strOfNums _
  rw [key n (Nat.le_refl _)]
theorem be_numS8 (v : Int) (h : I64 v) : wrapN (beL (numS 8 v).data.toList) = v := by
  obtain ⟨h0, h1⟩ := h
  have e256 : ((256 ^ 8 : Nat) : Int) = 18446744073709551616 := by decide
  have hm : ((v % ((256 ^ 8 : Nat) : Int)).toNat : Int) = v % 18446744073709551616 := by rw [e256]; omega
  rw [numS_mod, be_numS 8 _ (by
    have : (256 : Nat) ^ 8 = 18446744073709551616 := by decide
    rw [this]
    omega), wrapN_eq]
  split <;> omega

/-- Whoever was short stays so. -/
theorem take_short {n : Nat} {r : Rd} (h : r.short = true) : (takeR n r).2.short = true := by
  unfold takeR; split <;> simp [h]
theorem num_short {k : Nat} {r : Rd} (h : r.short = true) : (numR k r).2.short = true := by rw [numR]; exact take_short h
theorem text_short {k : Nat} {r : Rd} (h : r.short = true) : (textR k r).2.short = true := by rw [textR]; exact take_short (num_short h)
theorem num_full {k : Nat} {r : Rd} {v : Int} {q : ByteArray} (h : r.rest = numS k v ++ q) : numR k r = (beL (numS k v).data.toList, ⟨q, r.short⟩) := by
  have h1 := take_full (n := k) h (numS_size k _)
  unfold numR
  rw [h1]
end Go.Proofs.YtoecnlhnfhongaaDoor

namespace Go.Proofs.YtoecnlhnfhongaaDoor
open Go.RowKit

def smN (r : Rd) : Nat × Rd := numR 1 r
def smL (r : Rd) : List LabD × Rd := rdK (smN r).2 (smN r).1
def smB (r : Rd) : Nat × Rd := numR 8 (smL r).2
def smpR (r : Rd) : SmpD × Rd := (⟨(smL r).1, wrapN (smB r).1⟩, (smB r).2)
theorem smpR_fst (r : Rd) : (smpR r).1 = ⟨(smL r).1, wrapN (smB r).1⟩ := by rw [smpR]
theorem smpR_snd (r : Rd) : (smpR r).2 = (smB r).2 := by rw [smpR]
def rdXs (r : Rd) : Nat → List SmpD × Rd
  | 0 => ([], r)
  | k + 1 => ((rdXs r k).1 ++ [(smpR (rdXs r k).2).1], (smpR (rdXs r k).2).2)
theorem rdXs_zero (r : Rd) : rdXs r 0 = ([], r) := by rw [rdXs]
theorem rdXs_succ (r : Rd) (k : Nat) : rdXs r (k + 1) = ((rdXs r k).1 ++ [(smpR (rdXs r k).2).1], (smpR (rdXs r k).2).2) := by rw [rdXs]
theorem rdXs_length (r : Rd) (k : Nat) : (rdXs r k).1.length = k := by
  induction k with
  | zero => rw [rdXs_zero]; rfl
  | succ k ih =>
    rw [rdXs_succ]
    generalize smpR (rdXs r k).2 = A
    simp [ih]
/-- Whoever was short stays so. -/
theorem lab_short {r : Rd} (h : r.short = true) : (labR r).2.short = true := by
  rw [labR_eq]
  exact text_short (k := 2) (text_short (k := 1) h)
theorem rdK_short {r : Rd} (h : r.short = true) (k : Nat) : (rdK r k).2.short = true := by
  induction k with
  | zero => rw [rdK]; exact h
  | succ k ih =>
    rw [rdK_succ]
    have := lab_short ih
    generalize labR (rdK r k).2 = A at *
    exact this
theorem smL_short {r : Rd} (h : r.short = true) : (smL r).2.short = true := by rw [smL]; exact rdK_short (by rw [smN]; exact num_short h) _
theorem smp_short {r : Rd} (h : r.short = true) : (smpR r).2.short = true := by rw [smpR_snd, smB]; exact num_short (smL_short h)
theorem rdXs_short {r : Rd} {k : Nat} (h : (rdXs r k).2.short = true) : ∀ m, k ≤ m → (rdXs r m).2.short = true := by
  intro m hm
  induction m with
  | zero => rw [show k = 0 by omega] at h; exact h
  | succ m ih =>
    rcases Nat.eq_or_lt_of_le hm with rfl | hlt
    · exact h
    · rw [rdXs_succ]
      have := smp_short (ih (by omega))
      generalize smpR (rdXs r m).2 = R at *
      exact this
/-- What has been written is read again. -/
theorem smp_full {r : Rd} {x : SmpD} {q : ByteArray} (h : r.rest = encX x ++ q) (hx : smpOK x) (hn : I64 x.bits) : smpR r = (x, ⟨q, r.short⟩) := by
  have e0 : r.rest = numS 1 (x.labs.length : Nat) ++ (tailB x.labs ++ (numS 8 x.bits ++ q)) := by rw [h, encX, keyB]; apply bext; simp
  have h0 : smN r = (x.labs.length, ⟨tailB x.labs ++ (numS 8 x.bits ++ q), r.short⟩) := by
    rw [smN, num_full e0, be_numS 1 _ (by have := hx.1; omega)]
  have h1 : smL r = (x.labs, ⟨numS 8 x.bits ++ q, r.short⟩) := by
    rw [smL, h0]
    have := rd_full (r := ⟨tailB x.labs ++ (numS 8 x.bits ++ q), r.short⟩) rfl (fun i hi => ⟨by have := (hx.2 i hi).1; omega, by have := (hx.2 i hi).2; omega⟩) x.labs.length (Nat.le_refl _)
    rw [this, List.take_length, List.drop_length]
    simp [tailB]
  have h2 : smB r = (beL (numS 8 x.bits).data.toList, ⟨q, r.short⟩) := by
    rw [smB, h1]
    exact num_full (r := ⟨numS 8 x.bits ++ q, r.short⟩) rfl
  rw [smpR, h2, h1]
  simp only [be_numS8 _ hn]
theorem rdXs_full {r : Rd} {xs : List SmpD} {q : ByteArray} (h : r.rest = encXs xs ++ q) (hx : allX xs) (hn : ∀ i (h : i < xs.length), I64 xs[i].bits) (k : Nat) : k ≤ xs.length → rdXs r k = (xs.take k, ⟨encXs (xs.drop k) ++ q, r.short⟩) := by
  induction k with
  | zero =>
    intro _
    cases r
    simp only at h
    simp [rdXs_zero, h]
  | succ k ih =>
    intro hk
    have ih := ih (by omega)
    have e : encXs (xs.drop k) ++ q = encX xs[k] ++ (encXs (xs.drop (k + 1)) ++ q) := by
      rw [List.drop_eq_getElem_cons (by omega)]
      apply bext
      simp [encXs]
    have hl := smp_full (r := ⟨encXs (xs.drop k) ++ q, r.short⟩) e (hx k (by omega)) (hn k (by omega))
    rw [rdXs_succ, ih, hl, List.take_succ_eq_append_getElem (by omega)]

/-- A request's parts, one behind another; a part that the kind has not is not read. -/
def rqK (s : ByteArray) : Nat × Rd := numR 1 ⟨s, false⟩
def rqT (s : ByteArray) : ByteArray × Rd := if tnK ((rqK s).1 : Nat) = true then textR 1 (rqK s).2 else (ByteArray.empty, (rqK s).2)
def rqC (s : ByteArray) : Nat × Rd := numR 2 (rqT s).2
def rqS (s : ByteArray) : List SmpD × Rd := if (rqK s).1 = 1 then rdXs (rqC s).2 (rqC s).1 else ([], (rqT s).2)
def rqM (s : ByteArray) : ByteArray × Rd := if mtK ((rqK s).1 : Nat) = true then textR 2 (rqS s).2 else (ByteArray.empty, (rqS s).2)
def rqN (s : ByteArray) : Int × Rd := if nmK ((rqK s).1 : Nat) = true then (wrapN (numR 8 (rqM s).2).1, (numR 8 (rqM s).2).2) else (0, (rqM s).2)
def rqR (s : ByteArray) : ReqD := ⟨((rqK s).1 : Nat), (rqT s).1, (rqM s).1, (rqN s).1, (rqS s).1⟩
/-- The request that a text is. -/
def decR (s : ByteArray) : ReqD × Bool := if (1 ≤ (rqK s).1 ∧ (rqK s).1 ≤ 6) ∧ (rqN s).2.short = false ∧ reqB (rqR s) = s then (rqR s, true) else (⟨0, ByteArray.empty, ByteArray.empty, 0, []⟩, false)
end Go.Proofs.YtoecnlhnfhongaaDoor

