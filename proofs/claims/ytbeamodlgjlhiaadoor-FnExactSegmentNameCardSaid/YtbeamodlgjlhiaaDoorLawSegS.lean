import Derived.Test.YtbeamodlgjlhiaaDoorLawSeg
import Derived.Test.YtbeamodlgjlhiaaDoorISeg
namespace Go.Proofs.YtbeamodlgjlhiaaDoor
open Go.RowKit

theorem lawSeg (n : Int) (w : World) (htab : PowTab w) :
    Calls Tryd.prog 3 #[.int .i64 n] w fun e w' => e = .returned (.bool true) ∧ Below w.heap.size w w' :=
  lawSeg_core n w (fun W hb => implSeg_any n W (htab.later hb))
end Go.Proofs.YtbeamodlgjlhiaaDoor
