import Derived.Test.YtgpgacncmoiefaaLawSmall
import Derived.Test.YtgpgacncmoiefaaIFrame
namespace Go.Proofs.Ytgpgacncmoiefaa
open Go.RowKit

theorem lawCrc (s : ByteArray) (w : World) (hs : s.size ≤ maxLen) :
    Calls Try.prog 3 #[.string s] w fun e w' => e = .returned (.bool true) ∧ Below w.heap.size w w' :=
  lawCrc_core s w hs (fun _ W => implCrc_any s W hs)
theorem lawFrame (s : ByteArray) (w : World) (hs : s.size ≤ maxLen) :
    Calls Try.prog 4 #[.string s] w fun e w' => e = .returned (.bool true) ∧ Below w.heap.size w w' :=
  lawFrame_core s w hs (fun _ W => implFrame_any s W hs)
end Go.Proofs.Ytgpgacncmoiefaa
