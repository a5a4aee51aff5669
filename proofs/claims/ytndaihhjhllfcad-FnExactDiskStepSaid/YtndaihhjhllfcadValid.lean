import Derived.Test.YtndaihhjhllfcadProg
import Derived.Test.YtndaihhjhllfcadDv
import Derived.Test.YtndaihhjhllfcadSv
namespace Go.Proofs.Ytndaihhjhllfcad
open Go.RowKit

theorem implValid_is {a : Option Addr} {cap : Nat} {fs : List FileD} {c k cr fl : Int} {dn b : Bool} (h : diskB fs c k cr fl = b) (w : World) (hf : FilesIn w a fs) (hs : Short fs) (hlen : fs.length ≤ maxLen) (hsum : sumLen fs ≤ 1000000000) :
    Calls Try.prog 19 #[.agg #[.slice a fs.length cap, .int .i64 c, .int .i64 k, .int .i64 cr, .int .i64 fl, .bool dn]] w fun e w' => e = .returned (.bool b) ∧ Below w.heap.size w w' := h ▸ implValid_any a cap fs c k cr fl dn w hf hs hlen hsum
theorem specValid_is {a : Option Addr} {cap : Nat} {fs : List FileD} {c k cr fl : Int} {dn b : Bool} (h : diskB fs c k cr fl = b) (w : World) (hf : FilesIn w a fs) (hs : Short fs) (hlen : fs.length ≤ maxLen) (hsum : sumLen fs ≤ 1000000000) :
    Calls Try.prog 14 #[.agg #[.slice a fs.length cap, .int .i64 c, .int .i64 k, .int .i64 cr, .int .i64 fl, .bool dn]] w fun e w' => e = .returned (.bool b) ∧ Below w.heap.size w w' := h ▸ specValid_any a cap fs c k cr fl dn w hf hs hlen hsum

theorem files_of_disk {fs : List FileD} {c k cr fl : Int} (h : diskB fs c k cr fl = true) : filesB fs = true ∧ fs.length ≤ 1000 ∧ 0 ≤ c ∧ c ≤ 1000000000 ∧ (sumLen fs : Int) ≤ c ∧ 0 ≤ k ∧ k ≤ 1000000000000000 ∧ 0 ≤ cr ∧ cr ≤ 1000000000000000 ∧ 0 ≤ fl ∧ fl ≤ 1000000000000000 := by
  simp only [diskB, btwB, Bool.and_eq_true, decide_eq_true_eq] at h
  obtain ⟨⟨⟨⟨⟨⟨h1, h2⟩, h3, h4⟩, h5⟩, h6, h7⟩, h8, h9⟩, h10, h11⟩ := h
  exact ⟨h2, h1, h3, h4, h5, h6, h7, h8, h9, h10, h11⟩
end Go.Proofs.Ytndaihhjhllfcad
