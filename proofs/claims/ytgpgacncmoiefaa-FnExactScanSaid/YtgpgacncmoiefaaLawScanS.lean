import Derived.Test.YtgpgacncmoiefaaLawScan
import Derived.Test.YtgpgacncmoiefaaIScan
namespace Go.Proofs.Ytgpgacncmoiefaa
open Go.RowKit

theorem lawScan (s : ByteArray) (w : World) (hs : s.size ≤ maxLen) :
    Calls Try.prog 5 #[.string s] w fun e w' => e = .returned (.bool true) ∧ Below w.heap.size w w' :=
  lawScan_core s w hs (fun h W => implScan_any s W (by omega))
end Go.Proofs.Ytgpgacncmoiefaa
