import Derived.Test.YtndaihhjhllfcadProg
import Derived.Test.YtndaihhjhllfcadSStep5
import Derived.Test.YtndaihhjhllfcadLawCore
import Derived.Test.YtndaihhjhllfcadIStep
namespace Go.Proofs.Ytndaihhjhllfcad
open Go.RowKit

theorem with_length (es : List FileD) (f : FileD) : (withL es f).length ≤ es.length + 1 := by
  have hpl : ∀ (l : List FileD), (placeL l f).length = l.length + 1 := fun l => by
    induction l with
    | nil => rfl
    | cons g r ih => unfold placeL; split <;> simp [ih]
  unfold withL
  rw [hpl]
  have := without_length es f.name
  omega

theorem doR_length (fs : List FileD) (c : Int) (op : OpD) : (doR fs c op).2.length ≤ fs.length + 1 := by
  have he : (fs.eraseIdx (posOf op.name fs)).length ≤ fs.length := by rw [List.length_eraseIdx]; split <;> omega
  unfold doR
  simp only
  split
  · split
    · simp
    · split
      · simp
      · simp [insL]; omega
  · split
    · simp
    · rename_i f hf
      split
      · simp
      · split
        · split <;> simp
        · split
          · simp
          · split
            · split <;> simp
            · split
              · have := with_length (fs.eraseIdx (posOf op.name fs)) ⟨op.to, f.data, f.synced⟩
                show (withL _ _).length ≤ _
                omega
              · show (fs.eraseIdx _).length ≤ _
                omega

theorem outR_length (fs : List FileD) (c k cr fl : Int) (dn : Bool) (op : OpD) : (outR fs c k cr fl dn op).2.1.length ≤ fs.length + 1 := by
  unfold outR
  split
  · unfold stepR
    split
    · exact doR_length fs c op
    · show fs.length ≤ _; omega
  · simp

set_option maxRecDepth 100000 in
set_option maxHeartbeats 4000000 in
theorem lawDiskStep (a : Option Addr) (cap : Nat) (fs : List FileD) (c k cr fl : Int) (dn : Bool) (op : OpD) (w : World) (hf : FilesIn w a fs) (hs : Short fs) (hlen : fs.length ≤ maxLen) (hn : op.name.size ≤ maxLen) (ht : op.to.size ≤ maxLen) (hdt : op.data.size ≤ maxLen) :
    Calls Try.prog 3 #[.agg #[.slice a fs.length cap, .int .i64 c, .int .i64 k, .int .i64 cr, .int .i64 fl, .bool dn], .agg #[.int .i64 op.kind, .string op.name, .string op.to, .string op.data, .int .i64 op.size]] w fun e w' => e = .returned (.bool true) ∧ Below w.heap.size w w' := by
  have HF : Hid (FilesIn w a fs) := hf
  clear hf
  by_cases hneg : szFs 1048576 fs < 0
  · go_enter Try.func3, Try.ntmps3
    go_wp2_with fail
    refine (szDisk_any a cap fs c k cr fl dn 1048576 _ (by omega) (by omega) ((HF.out.later (bnew _ _)).later (bnew _ _)) hs hlen).mono ?_
    rintro e w1 ⟨rfl, hb1⟩
    have HB : Hid (Below w.heap.size w w1) := bto (bto (bnew _ _) (bnew _ _)) hb1
    clear hb1
    go_wp2
    go_ret
    exact ⟨rfl, HB.out⟩
  have hbd := szFs_bound (Int.not_lt.1 hneg)
  have hl20 : fs.length ≤ 1048576 := by omega
  have hsum : sumLen fs ≤ 1000000000 := by have := sumLen_le_bulk fs; omega
  have hsz1 : szFs 1048576 fs ≤ 1048576 := by unfold szFs; split <;> omega
  have hszn : 0 ≤ szFs 1048576 fs := by omega
  clear hbd
  by_cases hneg2 : szO (szFs 1048576 fs) op < 0
  · have HN2 : Hid (szO (szFs 1048576 fs) op < 0) := hneg2
    go_enter Try.func3, Try.ntmps3
    go_wp2_with fail
    refine (szDisk_any a cap fs c k cr fl dn 1048576 _ (by omega) (by omega) ((HF.out.later (bnew _ _)).later (bnew _ _)) hs hlen).mono ?_
    rintro e w1 ⟨rfl, hb1⟩
    obtain ⟨_, hO1, hbl1⟩ := twoBoxes hb1
    obtain ⟨o0, o1, o2, o3, o4⟩ := hO1.five
    have HB1 : Hid (Below w.heap.size w w1) := hbl1
    clear hb1 hO1 hbl1
    go_wp2_with fail
    refine (szDiskOp_any op (szFs 1048576 fs) _ hszn hsz1 hn ht hdt).mono ?_
    rintro e w2 ⟨rfl, hb2⟩
    have HB : Hid (Below w.heap.size w w2) := bto HB1.out hb2
    clear hb2 o0 o1 o2 o3 o4
    go_wp2
    go_ret
    exact ⟨rfl, HB.out⟩
  have hob := szO_bound hneg2
  have hdata : op.data.size ≤ 1048576 := by omega
  have hgiven : ∀ a' W, FilesIn W a' fs → Given W a' fs op := fun a' W h => ⟨h, hs, hl20, hsum, hn, ht, hdata⟩
  have hsp : ∀ a' cap' W, FilesIn W a' fs → Specs W a' cap' fs c k cr fl dn op := fun a' cap' W h => specStep_any W a' cap' fs c k cr fl dn op (hgiven a' W h)
  have him := fun a' cap' W h => implStep_any a' cap' fs c k cr fl dn op W h hs hlen hsum hn ht
  have hFl := outR_length fs c k cr fl dn op
  simp only [Specs] at hsp
  generalize outR fs c k cr fl dn op = R at *
  obtain ⟨code, F0, c0, k0, cr0, fl0, dn0⟩ := R
  simp only [outV] at hsp him
  have hFl2 : F0.length ≤ 1048577 := by have : F0.length ≤ fs.length + 1 := hFl; omega
  have HSP : Hid (∀ a' cap' W, FilesIn W a' fs → Calls Try.prog 6 #[.agg #[.slice a' fs.length cap', .int .i64 c, .int .i64 k, .int .i64 cr, .int .i64 fl, .bool dn], .agg #[.int .i64 op.kind, .string op.name, .string op.to, .string op.data, .int .i64 op.size]] W fun e w' => ∃ aw cw, e = .returned (.tuple #[.agg #[.slice aw F0.length cw, .int .i64 c0, .int .i64 k0, .int .i64 cr0, .int .i64 fl0, .bool dn0], .int .i64 code]) ∧ FilesIn w' aw F0 ∧ Below W.heap.size W w') := hsp
  have HIM : Hid (∀ a' cap' W, FilesIn W a' fs → Calls Try.prog 9 #[.agg #[.slice a' fs.length cap', .int .i64 c, .int .i64 k, .int .i64 cr, .int .i64 fl, .bool dn], .agg #[.int .i64 op.kind, .string op.name, .string op.to, .string op.data, .int .i64 op.size]] W fun e w' => ∃ ag cg, e = .returned (.tuple #[.agg #[.slice ag F0.length cg, .int .i64 c0, .int .i64 k0, .int .i64 cr0, .int .i64 fl0, .bool dn0], .int .i64 code]) ∧ Owned w' W.heap.size ag F0 ∧ Below W.heap.size W w') := him
  exact lawDiskStep_core a cap fs c k cr fl dn op w F0 code c0 k0 cr0 fl0 dn0 HF hs hlen hn ht hdt hneg hneg2 hl20 hFl2 HSP HIM
end Go.Proofs.Ytndaihhjhllfcad
