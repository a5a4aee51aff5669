import Derived.Test.YtoecnlhnfhongaaDoorProg
import Derived.Test.YtoecnlhnfhongaaDoorJ17SRqO
namespace Go.Proofs.YtoecnlhnfhongaaDoor
open Go.RowKit

def I64r (v : Int) : Prop := -9223372036854775808 ≤ v ∧ v ≤ 9223372036854775807
def RngX (xs : List SmpD) : Prop := ∀ i (h : i < xs.length), I64r xs[i].bits
set_option maxRecDepth 100000 in
set_option maxHeartbeats 2000000 in
theorem bytesN_any (k : Int) (te me : ByteArray) (nu : Int) (sl : Value) (w : World) (hk : ¬ (1 ≤ k ∧ k ≤ 6)) :
    Calls Tryd.prog 15 #[.agg #[.int .i64 k, .string te, .string me, .int .i64 nu, sl]] w fun e w' => e = .returned (.tuple #[.string ByteArray.empty, .bool false]) ∧ Below w.heap.size w w' := by
  have HBT : Hid (∀ W, Calls Tryd.prog 31 #[.int .i64 k, .int .i64 1, .int .i64 6] W fun e w' => e = .returned (.bool false) ∧ w' = W) := fun W => by
    have h := between_any k 1 6 W
    rw [show btwB k 1 6 = false by unfold btwB; simp; omega] at h
    exact h
  have b1 : (k == 1) = false := by simp; omega
  have b2 : (k == 2) = false := by simp; omega
  have b3 : (k == 3) = false := by simp; omega
  have b5 : (k == 5) = false := by simp; omega
  have b6 : (k == 6) = false := by simp; omega
  clear hk
  go_enter Tryd.func15, Tryd.ntmps15
  go_wp2_with fail
  refine (HBT.out _).mono ?_
  rintro e wx ⟨rfl, hw⟩
  replace hw := hw.symm
  subst hw
  go_wp2
  go_ret2
  exact ⟨rfl, bnew _ _⟩
theorem bytes_any (r : ReqD) (a : Option Addr) (cap : Nat) (w : World) (V : ByteArray) (B : Bool) (HOK : Hid (rqOK r → V = rqX r ∧ B = true)) (HNO : Hid (¬ rqOK r → V = ByteArray.empty ∧ B = false)) (hf : SmpsIn w a r.smps) (hz : reqBulk r ≤ 1048576) (hnu : I64r r.num) (hbi : RngX r.smps) :
    Calls Tryd.prog 15 #[.agg #[.int .i64 r.kind, .string r.tenant, .string r.metric, .int .i64 r.num, .slice a r.smps.length cap]] w fun e w' => e = .returned (.tuple #[.string V, .bool B]) ∧ Below w.heap.size w w' := by
  by_cases hk : 1 ≤ r.kind ∧ r.kind ≤ 6
  · have hb : reqBulk r = r.tenant.size + r.metric.size + r.smps.length + smpsBulk r.smps := rfl
    obtain ⟨k, te, me, nu, xs⟩ := r
    simp only at *
    have hz' : te.size ≤ 1048576 ∧ me.size ≤ 1048576 ∧ xs.length ≤ 1048576 ∧ smpsBulk xs ≤ 1048576 := ⟨by omega, by omega, by omega, by omega⟩
    rcases kinds hk with rfl | rfl | rfl | rfl | rfl | rfl
    · exact bytes1_any te me nu xs a cap w V B HOK HNO hf hz' hnu hbi
    · exact bytes2_any te me nu xs a cap w V B HOK HNO hf hz' hnu hbi
    · exact bytes3_any te me nu xs a cap w V B HOK HNO hf hz' hnu hbi
    · exact bytes4_any te me nu xs a cap w V B HOK HNO hf hz' hnu hbi
    · exact bytes5_any te me nu xs a cap w V B HOK HNO hf hz' hnu hbi
    · exact bytes6_any te me nu xs a cap w V B HOK HNO hf hz' hnu hbi
  · obtain ⟨e1, e2⟩ := HNO.out fun h => hk h.1
    rw [e1, e2]
    exact bytesN_any r.kind _ _ _ _ w hk
set_option maxRecDepth 100000 in
set_option maxHeartbeats 2000000 in
theorem specReq_any (r : ReqD) (a : Option Addr) (cap : Nat) (w : World) (hf : SmpsIn w a r.smps) (hz : reqBulk r ≤ 1048576) (hnu : I64r r.num) (hbi : RngX r.smps) :
    Calls Tryd.prog 6 #[.agg #[.int .i64 r.kind, .string r.tenant, .string r.metric, .int .i64 r.num, .slice a r.smps.length cap]] w fun e w' => e = .returned (.string (reqB r)) ∧ Below w.heap.size w w' := by
  by_cases hok : rqOK r
  · have HB : Hid (∀ W, Below w.heap.size w W → Calls Tryd.prog 15 #[.agg #[.int .i64 r.kind, .string r.tenant, .string r.metric, .int .i64 r.num, .slice a r.smps.length cap]] W fun e w' => e = .returned (.tuple #[.string (rqX r), .bool true]) ∧ Below W.heap.size W w') := fun W hW => bytes_any r a cap W (rqX r) true (fun _ => ⟨rfl, rfl⟩) (fun h => absurd hok h) (hf.later hW) hz hnu hbi
    have H1 : Hid (60000 < (rqX r).size → reqB r = ByteArray.empty) := fun h => reqB_big h
    have H2 : Hid ((rqX r).size ≤ 60000 → reqB r = rqX r) := fun h => reqB_ok hok h
    clear hf hz hnu hbi hok
    generalize rqX r = RX at *
    generalize reqB r = RQ at *
    by_cases d : (RX.size : Int) > 60000
    · have E : Hid (RQ = ByteArray.empty) := H1.out (by omega)
      rw [E.out]
      go_enter Tryd.func6, Tryd.ntmps6
      go_wp2_with fail
      refine (HB.out _ (bnew _ _)).mono ?_
      rintro e w1 ⟨rfl, hb1⟩
      have B1 : Hid (Below w.heap.size w w1) := bto (bnew _ _) hb1
      clear hb1
      go_wp2
      go_ret
      exact ⟨rfl, B1.out⟩
    · have E : Hid (RQ = RX) := H2.out (by omega)
      rw [E.out]
      go_enter Tryd.func6, Tryd.ntmps6
      go_wp2_with fail
      refine (HB.out _ (bnew _ _)).mono ?_
      rintro e w1 ⟨rfl, hb1⟩
      have B1 : Hid (Below w.heap.size w w1) := bto (bnew _ _) hb1
      clear hb1
      go_wp2
      go_ret
      exact ⟨rfl, B1.out⟩
  · have HB : Hid (∀ W, Below w.heap.size w W → Calls Tryd.prog 15 #[.agg #[.int .i64 r.kind, .string r.tenant, .string r.metric, .int .i64 r.num, .slice a r.smps.length cap]] W fun e w' => e = .returned (.tuple #[.string ByteArray.empty, .bool false]) ∧ Below W.heap.size W w') := fun W hW => bytes_any r a cap W ByteArray.empty false (fun h => absurd h hok) (fun _ => ⟨rfl, rfl⟩) (hf.later hW) hz hnu hbi
    have E : Hid (reqB r = ByteArray.empty) := reqB_no hok
    rw [E.out]
    clear hf hz hnu hbi hok
    go_enter Tryd.func6, Tryd.ntmps6
    go_wp2_with fail
    refine (HB.out _ (bnew _ _)).mono ?_
    rintro e w1 ⟨rfl, hb1⟩
    have B1 : Hid (Below w.heap.size w w1) := bto (bnew _ _) hb1
    clear hb1
    go_wp2
    go_ret
    exact ⟨rfl, B1.out⟩
end Go.Proofs.YtoecnlhnfhongaaDoor

