import Derived.Test.YtgpgacncmoiefaaISum
namespace Go.Proofs.Ytgpgacncmoiefaa
open Go.RowKit

set_option maxRecDepth 100000 in
set_option maxHeartbeats 1000000 in
theorem implCrc_any (s : ByteArray) (w : World) (hs : s.size ≤ maxLen) :
    Calls Try.prog 10 #[.string s] w fun e w' => e = .returned (.int .i64 (crcV s : Nat)) ∧ Below w.heap.size w w' := by
  have HS : Hid (s.size ≤ maxLen) := hs
  clear hs
  go_enter Try.func10, Try.ntmps10
  go_wp2_with fail
  refine (makeTab_any _).mono ?_
  rintro e w1 ⟨b, cur, rfl, _, hB, hcur, hb1⟩
  have HB : Hid (Blk w1 b cur 98 ∧ (∀ i, i < 256 → cur[i]? = some (.int .u32 (crcT i : Nat))) ∧ Below w.heap.size w w1) := ⟨hB, hcur, hb1⟩
  clear hB hcur hb1
  go_wp2_with fail
  refine (tabSum_any b cur s _ HS.out HB.out.1 HB.out.2.1).mono ?_
  rintro e w2 ⟨rfl, hb2⟩
  have HB2 : Hid (Below w.heap.size w w2) := bto HB.out.2.2 hb2
  clear hb2
  go_wp2
  go_ret
  exact ⟨rfl, HB2.out⟩
end Go.Proofs.Ytgpgacncmoiefaa
