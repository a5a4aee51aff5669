import Derived.Test.YtndaihhjhllfcadProg
import Derived.Test.YtndaihhjhllfcadPos
import Derived.Test.YtndaihhjhllfcadCharge
import Derived.Test.YtndaihhjhllfcadNm
namespace Go.Proofs.Ytndaihhjhllfcad
open Go.RowKit

structure OpD where
  kind : Int
  name : ByteArray
  to : ByteArray
  data : ByteArray
  size : Int

def opB (op : OpD) : Bool := btwB op.kind 1 6 && nameB op.name && (decide (op.kind ≠ 5) || nameB op.to)

/-- What an operation does to the files: its code, the files behind it. -/
def doR (fs : List FileD) (c : Int) (op : OpD) : Nat × List FileD :=
  let i := posOf op.name fs
  if op.kind = 1 then (if hasB fs op.name i = true then (5, fs) else if 1000 ≤ fs.length then (3, fs) else (0, insL fs i ⟨op.name, ByteArray.empty, 0⟩))
  else match fs[i]? with
    | none => (4, fs)
    | some f =>
      if hasB fs op.name i = false then (4, fs)
      else if op.kind = 2 then (if c < sumLen fs + op.data.size then (3, fs) else (0, fs.set i ⟨f.name, f.data ++ op.data, f.synced⟩))
      else if op.kind = 3 then (0, fs.set i ⟨f.name, f.data, f.data.size⟩)
      else if op.kind = 4 then (if btwB op.size 0 f.data.size = true then (0, fs.set i ⟨f.name, f.data.extract 0 op.size.toNat, op.size⟩) else (6, fs))
      else if op.kind = 5 then (0, withL (fs.eraseIdx i) ⟨op.to, f.data, f.synced⟩)
      else (0, fs.eraseIdx i)

theorem isFileName_is {s : ByteArray} {b : Bool} (h : nameB s = b) (w : World) (hs : s.size ≤ maxLen) : Calls Try.prog 37 #[.string s] w fun e w' => e = .returned (.bool b) ∧ w' = w := h ▸ isFileName_any s w hs

/-- The five cells of an operation lie at the head of block b. -/
def OpAt (w : World) (b : Nat) (op : OpD) (t : TypeId) : Prop := Blk w b #[.int .i64 op.kind, .string op.name, .string op.to, .string op.data, .int .i64 op.size] t

theorem OpAt.cells {w : World} {b : Nat} {op : OpD} {t : TypeId} (h : OpAt w b op t) : w.cell? ⟨b, 0, none⟩ = some (.int .i64 op.kind) ∧ w.cell? ⟨b, 1, none⟩ = some (.string op.name) ∧ w.cell? ⟨b, 2, none⟩ = some (.string op.to) ∧ w.cell? ⟨b, 3, none⟩ = some (.string op.data) ∧ w.cell? ⟨b, 4, none⟩ = some (.int .i64 op.size) := by
  refine ⟨?_, ?_, ?_, ?_, ?_⟩ <;> rw [Blk.cell h] <;> rfl

end Go.Proofs.Ytndaihhjhllfcad
