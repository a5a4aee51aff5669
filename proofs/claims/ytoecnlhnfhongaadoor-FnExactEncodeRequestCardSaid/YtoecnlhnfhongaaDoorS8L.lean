/- The verifier's own text: a text behind its length. -/
import Derived.Test.YtoecnlhnfhongaaDoorNumL
namespace Go.Proofs.YtoecnlhnfhongaaDoor
open Go.RowKit

def s8B (s : ByteArray) : ByteArray := numS 1 (s.size : Nat) ++ s
def s16B (s : ByteArray) : ByteArray := numS 2 (s.size : Nat) ++ s
theorem s8B_size (s : ByteArray) : (s8B s).size = 1 + s.size := by rw [s8B, ByteArray.size_append, numS_size]
theorem s16B_size (s : ByteArray) : (s16B s).size = 2 + s.size := by rw [s16B, ByteArray.size_append, numS_size]
end Go.Proofs.YtoecnlhnfhongaaDoor
