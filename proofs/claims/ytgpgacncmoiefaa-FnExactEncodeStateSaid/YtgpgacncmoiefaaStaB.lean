/- The verifier's own text: a state as bytes. -/
import Derived.Test.YtgpgacncmoiefaaTenB
import Derived.Test.YtgpgacncmoiefaaS8L
import Derived.Test.YtgpgacncmoiefaaCrcL
namespace Go.Proofs.Ytgpgacncmoiefaa
open Go.RowKit

def I64p (v : Int) : Prop := -9223372036854775808 ≤ v ∧ v ≤ 9223372036854775807
def RngP (ps : List PairD) : Prop := ∀ i (h : i < ps.length), I64p ps[i].n
def RngT (ts : List TenD) : Prop := ∀ i (h : i < ts.length), I64p ts[i].limit ∧ RngP ts[i].mets ∧ RngP ts[i].sers

def encP (p : PairD) : ByteArray := s16B p.s ++ numS 8 p.n
def encPs : List PairD → ByteArray
  | [] => ByteArray.empty
  | p :: q => encP p ++ encPs q
def allP (ps : List PairD) : Prop := ∀ i (h : i < ps.length), ps[i].s.size ≤ 65535
def tenOKb (t : TenD) : Prop := t.name.size ≤ 255 ∧ allP t.mets ∧ allP t.sers
def tenHead (t : TenD) : ByteArray := s8B t.name ++ numS 8 t.limit ++ numS 4 (t.mets.length : Nat)
def encT (t : TenD) : ByteArray := tenHead t ++ encPs t.mets ++ numS 4 (t.sers.length : Nat) ++ encPs t.sers
def encTs : List TenD → ByteArray
  | [] => ByteArray.empty
  | t :: q => encT t ++ encTs q
def ckB : ByteArray := ⟨#[67, 75, 80, 84]⟩
def staHead (lsn now : Int) (n : Nat) : ByteArray := ckB ++ numS 8 lsn ++ numS 8 now ++ numS 4 (n : Nat)
def staOK (lsn : Int) (ts : List TenD) : Prop := 0 ≤ lsn ∧ lsn ≤ 1000000000000000 ∧ ∀ i (h : i < ts.length), tenOKb ts[i]
def staX (lsn now : Int) (ts : List TenD) : ByteArray := staHead lsn now ts.length ++ encTs ts
def staBD (lsn : Int) (ts : List TenD) : Decidable (staOK lsn ts) := by unfold staOK tenOKb allP; infer_instance
def staB (lsn now : Int) (ts : List TenD) : ByteArray := haveI := staBD lsn ts; if staOK lsn ts then staX lsn now ts ++ numS 4 (crcV (staX lsn now ts) : Nat) else ByteArray.empty
theorem staB_ok {lsn now : Int} {ts : List TenD} (h : staOK lsn ts) : staB lsn now ts = staX lsn now ts ++ numS 4 (crcV (staX lsn now ts) : Nat) := by unfold staB; rw [if_pos h]
theorem staB_no {lsn now : Int} {ts : List TenD} (h : ¬ staOK lsn ts) : staB lsn now ts = ByteArray.empty := by unfold staB; rw [if_neg h]

theorem encPs_append : ∀ (a b : List PairD), encPs (a ++ b) = encPs a ++ encPs b
  | [], b => by simp [encPs]
  | r :: q, b => by
    show encP r ++ encPs (q ++ b) = encP r ++ encPs q ++ encPs b
    rw [encPs_append q b, ByteArray.append_assoc]
theorem encPs_take (rs : List PairD) (k : Nat) (h : k < rs.length) : encPs (rs.take (k + 1)) = encPs (rs.take k) ++ encP rs[k] := by
  rw [List.take_succ_eq_append_getElem h, encPs_append]
  simp [encPs]
theorem encTs_append : ∀ (a b : List TenD), encTs (a ++ b) = encTs a ++ encTs b
  | [], b => by simp [encTs]
  | r :: q, b => by
    show encT r ++ encTs (q ++ b) = encT r ++ encTs q ++ encTs b
    rw [encTs_append q b, ByteArray.append_assoc]
theorem encTs_take (rs : List TenD) (k : Nat) (h : k < rs.length) : encTs (rs.take (k + 1)) = encTs (rs.take k) ++ encT rs[k] := by
  rw [List.take_succ_eq_append_getElem h, encTs_append]
  simp [encTs]
theorem encP_size (p : PairD) : (encP p).size = 10 + p.s.size := by
  unfold encP
  rw [ByteArray.size_append, s16B_size, numS_size]; omega
theorem encPs_size : ∀ (ps : List PairD), (encPs ps).size = 10 * ps.length + pairBulk ps
  | [] => rfl
  | p :: q => by
    show (encP p ++ encPs q).size = _
    rw [ByteArray.size_append, encP_size, encPs_size q]
    show _ = 10 * (q.length + 1) + (p.s.size + pairBulk q)
    omega
theorem tenHead_size (t : TenD) : (tenHead t).size = 13 + t.name.size := by
  unfold tenHead
  rw [ByteArray.size_append, ByteArray.size_append, s8B_size, numS_size, numS_size]; omega
theorem encT_size (t : TenD) : (encT t).size = 17 + t.name.size + 10 * t.mets.length + pairBulk t.mets + 10 * t.sers.length + pairBulk t.sers := by
  unfold encT
  rw [ByteArray.size_append, ByteArray.size_append, ByteArray.size_append, tenHead_size, encPs_size, encPs_size, numS_size]; omega
theorem staHead_size (lsn now : Int) (n : Nat) : (staHead lsn now n).size = 24 := by
  unfold staHead
  rw [ByteArray.size_append, ByteArray.size_append, ByteArray.size_append, numS_size, numS_size, numS_size]; rfl
theorem staB_at {ts : List TenD} {k : Nat} (hk : k < ts.length) (h : ¬ tenOKb ts[k]) (lsn now : Int) : staB lsn now ts = ByteArray.empty := staB_no fun hb => h (hb.2.2 k hk)
end Go.Proofs.Ytgpgacncmoiefaa
