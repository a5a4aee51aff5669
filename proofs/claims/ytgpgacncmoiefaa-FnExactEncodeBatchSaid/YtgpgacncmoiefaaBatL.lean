/- The verifier's own text: a batch of records as bytes. -/
import Derived.Test.YtgpgacncmoiefaaRecB
import Derived.Test.YtgpgacncmoiefaaS8L
import Derived.Test.YtgpgacncmoiefaaWrN
namespace Go.Proofs.Ytgpgacncmoiefaa
open Go.RowKit

def RngR (fs : List RecD) : Prop := ∀ i (h : i < fs.length), I64 fs[i].kind ∧ I64 fs[i].num

/-- What a record must be to have bytes. -/
def recOK (r : RecD) : Prop := r.tenant.size ≤ 255 ∧ r.text.size ≤ 65535 ∧ ((r.kind = 1 ∧ r.num = 0) ∨ (r.kind = 2 ∧ r.tenant.size = 0 ∧ r.text.size = 0) ∨ r.kind = 3)
def rcD (r : RecD) : Decidable (recOK r) := by unfold recOK; infer_instance
def rcB (r : RecD) : Bool := @decide (recOK r) (rcD r)
theorem rcB_t {r : RecD} (h : recOK r) : rcB r = true := @decide_eq_true _ (rcD r) h
theorem rcB_f {r : RecD} (h : ¬ recOK r) : rcB r = false := @decide_eq_false _ (rcD r) h
def encR (r : RecD) : ByteArray := numS 1 r.kind ++ s8B r.tenant ++ s16B r.text ++ numS 8 r.num
def encRs : List RecD → ByteArray
  | [] => ByteArray.empty
  | r :: q => encR r ++ encRs q
def allR (rs : List RecD) : Prop := ∀ i (h : i < rs.length), recOK rs[i]
def batOK (lsn : Int) (rs : List RecD) : Prop := 1 ≤ lsn ∧ lsn ≤ 1000000000000000 ∧ 1 ≤ rs.length ∧ rs.length ≤ 500 ∧ allR rs
def batHead (lsn : Int) (n : Nat) : ByteArray := numS 8 lsn ++ numS 2 (n : Nat)
def batBD (lsn : Int) (rs : List RecD) : Decidable (batOK lsn rs) := by unfold batOK allR recOK; infer_instance
def batB (lsn : Int) (rs : List RecD) : ByteArray := haveI := batBD lsn rs; if batOK lsn rs then batHead lsn rs.length ++ encRs rs else ByteArray.empty
theorem batB_ok {lsn : Int} {rs : List RecD} (h : batOK lsn rs) : batB lsn rs = batHead lsn rs.length ++ encRs rs := by unfold batB; rw [if_pos h]
theorem batB_no {lsn : Int} {rs : List RecD} (h : ¬ batOK lsn rs) : batB lsn rs = ByteArray.empty := by unfold batB; rw [if_neg h]

theorem encRs_append : ∀ (a b : List RecD), encRs (a ++ b) = encRs a ++ encRs b
  | [], b => by simp [encRs]
  | r :: q, b => by
    show encR r ++ encRs (q ++ b) = encR r ++ encRs q ++ encRs b
    rw [encRs_append q b, ByteArray.append_assoc]
theorem encRs_take (rs : List RecD) (k : Nat) (h : k < rs.length) : encRs (rs.take (k + 1)) = encRs (rs.take k) ++ encR rs[k] := by
  rw [List.take_succ_eq_append_getElem h, encRs_append]
  simp [encRs]
theorem encR_size (r : RecD) : (encR r).size = 12 + r.tenant.size + r.text.size := by
  unfold encR
  rw [ByteArray.size_append, ByteArray.size_append, ByteArray.size_append, numS_size, numS_size, s8B_size, s16B_size]; omega
theorem batHead_size (lsn : Int) (n : Nat) : (batHead lsn n).size = 10 := by unfold batHead; rw [ByteArray.size_append, numS_size, numS_size]
theorem allR_no {rs : List RecD} {k : Nat} (hk : k < rs.length) (h : ¬ recOK rs[k]) (lsn : Int) : batB lsn rs = ByteArray.empty := batB_no fun hb => h (hb.2.2.2.2 k hk)
end Go.Proofs.Ytgpgacncmoiefaa
