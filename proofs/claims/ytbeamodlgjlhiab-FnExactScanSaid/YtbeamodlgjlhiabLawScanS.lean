import Derived.Test.YtbeamodlgjlhiabLawScan
import Derived.Test.YtbeamodlgjlhiabIScan
namespace Go.Proofs.Ytbeamodlgjlhiab
open Go.RowKit

theorem lawScan (s : ByteArray) (w : World) (hs : s.size ≤ maxLen) :
    Calls Try.prog 4 #[.string s] w fun e w' => e = .returned (.bool true) ∧ Below w.heap.size w w' :=
  lawScan_core s w hs (fun h W => implScan_any s W (by omega))
end Go.Proofs.Ytbeamodlgjlhiab
