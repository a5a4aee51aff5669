import Derived.Test.YtgpgacncmoiefaaProg
import Derived.Test.YtgpgacncmoiefaaBatL
import Derived.Test.YtgpgacncmoiefaaBlkN
import Derived.Test.YtgpgacncmoiefaaTurn
namespace Go.Proofs.Ytgpgacncmoiefaa
open Go.RowKit

def recV (r : RecD) : Value := .agg #[.int .i64 r.kind, .string r.tenant, .string r.text, .int .i64 r.num]

set_option maxRecDepth 100000 in
theorem followed_any (ki nu : Int) (te tx : ByteArray) (w : World) :
    Calls Try.prog 119 #[.agg #[.int .i64 ki, .string te], .string tx, .int .i64 nu] w fun e w' => e = .returned (.agg #[.int .i64 ki, .string te, .string tx, .int .i64 nu]) ∧ Below w.heap.size w w' := by
  go_enter Try.func119, Try.ntmps119
  go_wp2
  exact bodyPost_ret (v := .agg #[.int .i64 ki, .string te, .string tx, .int .i64 nu]) (by simp [results, Try.results119, go_sem]) rfl ⟨rfl, bto (bnew _ _) (bnew _ _)⟩

set_option maxRecDepth 100000 in
set_option maxHeartbeats 1000000 in
theorem flatS_any (ki : Int) (te tx : ByteArray) (w : World) :
    Calls Try.prog 120 #[.agg #[.int .i64 ki, .string te, .string tx]] w fun e w' => e = .returned (.agg #[.int .i64 ki, .string te, .string tx, .int .i64 0]) ∧ Below w.heap.size w w' := by
  go_enter Try.func120, Try.ntmps120
  go_wp2_with fail
  refine (followed_any _ _ _ _ _).mono ?_
  rintro e w1 ⟨rfl, hb1⟩
  have B1 : Hid (Below w.heap.size w w1) := bto (bto (bnew _ _) (bnew _ _)) hb1
  have R1 : Hid (Blk w1 (w.heap.size + 1) #[.int .i64 0, .string ByteArray.empty, .string ByteArray.empty, .int .i64 0] 67) := by have := (Blk.new (w.alloc (.cells #[.int .i64 ki, .string te, .string tx] 127)) #[.int .i64 0, .string ByteArray.empty, .string ByteArray.empty, .int .i64 0] 67).later hb1; exact hid (by simpa using this)
  have s0 : w1.cell? ⟨w.heap.size + 1, 0, none⟩ = some (.int .i64 0) := R1.out.cell 0
  have s1 : w1.cell? ⟨w.heap.size + 1, 1, none⟩ = some (.string ByteArray.empty) := R1.out.cell 1
  have s2 : w1.cell? ⟨w.heap.size + 1, 2, none⟩ = some (.string ByteArray.empty) := R1.out.cell 2
  have s3 : w1.cell? ⟨w.heap.size + 1, 3, none⟩ = some (.int .i64 0) := R1.out.cell 3
  have u0 := R1.out.free 0
  have u1 := R1.out.free 1
  have u2 := R1.out.free 2
  have u3 := R1.out.free 3
  clear hb1
  go_wp2
  refine bodyPost_ret (v := .agg #[.int .i64 ki, .string te, .string tx, .int .i64 0]) (by simp [results, Try.results120, go_sem, s0, s1, s2, s3]) rfl ⟨rfl, ?_⟩
  exact (((B1.out.setCell (by simp) _).setCell (by simp) _).setCell (by simp) _).setCell (by simp) _

set_option maxRecDepth 100000 in
set_option maxHeartbeats 1000000 in
theorem flatT_any (ki nu : Int) (te : ByteArray) (w : World) :
    Calls Try.prog 121 #[.agg #[.int .i64 ki, .string te, .int .i64 nu]] w fun e w' => e = .returned (.agg #[.int .i64 ki, .string te, .string ByteArray.empty, .int .i64 nu]) ∧ Below w.heap.size w w' := by
  go_enter Try.func121, Try.ntmps121
  go_wp2_with fail
  refine (followed_any _ _ _ _ _).mono ?_
  rintro e w1 ⟨rfl, hb1⟩
  have B1 : Hid (Below w.heap.size w w1) := bto (bto (bnew _ _) (bnew _ _)) hb1
  have R1 : Hid (Blk w1 (w.heap.size + 1) #[.int .i64 0, .string ByteArray.empty, .string ByteArray.empty, .int .i64 0] 67) := by have := (Blk.new (w.alloc (.cells #[.int .i64 ki, .string te, .int .i64 nu] 129)) #[.int .i64 0, .string ByteArray.empty, .string ByteArray.empty, .int .i64 0] 67).later hb1; exact hid (by simpa using this)
  have s0 : w1.cell? ⟨w.heap.size + 1, 0, none⟩ = some (.int .i64 0) := R1.out.cell 0
  have s1 : w1.cell? ⟨w.heap.size + 1, 1, none⟩ = some (.string ByteArray.empty) := R1.out.cell 1
  have s2 : w1.cell? ⟨w.heap.size + 1, 2, none⟩ = some (.string ByteArray.empty) := R1.out.cell 2
  have s3 : w1.cell? ⟨w.heap.size + 1, 3, none⟩ = some (.int .i64 0) := R1.out.cell 3
  have u0 := R1.out.free 0
  have u1 := R1.out.free 1
  have u2 := R1.out.free 2
  have u3 := R1.out.free 3
  clear hb1
  go_wp2
  refine bodyPost_ret (v := .agg #[.int .i64 ki, .string te, .string ByteArray.empty, .int .i64 nu]) (by simp [results, Try.results121, go_sem, s0, s1, s2, s3]; rfl) rfl ⟨rfl, ?_⟩
  exact (((B1.out.setCell (by simp) _).setCell (by simp) _).setCell (by simp) _).setCell (by simp) _

set_option maxRecDepth 100000 in
set_option maxHeartbeats 1000000 in
theorem flatL_any (ki nu : Int) (te tx : ByteArray) (w : World) :
    Calls Try.prog 122 #[.agg #[.int .i64 ki, .string te, .string tx, .int .i64 nu]] w fun e w' => e = .returned (.agg #[.int .i64 ki, .string te, .string tx, .int .i64 nu]) ∧ Below w.heap.size w w' := by
  go_enter Try.func122, Try.ntmps122
  go_wp2_with fail
  refine (followed_any _ _ _ _ _).mono ?_
  rintro e w1 ⟨rfl, hb1⟩
  have B1 : Hid (Below w.heap.size w w1) := bto (bto (bnew _ _) (bnew _ _)) hb1
  have R1 : Hid (Blk w1 (w.heap.size + 1) #[.int .i64 0, .string ByteArray.empty, .string ByteArray.empty, .int .i64 0] 67) := by have := (Blk.new (w.alloc (.cells #[.int .i64 ki, .string te, .string tx, .int .i64 nu] 131)) #[.int .i64 0, .string ByteArray.empty, .string ByteArray.empty, .int .i64 0] 67).later hb1; exact hid (by simpa using this)
  have s0 : w1.cell? ⟨w.heap.size + 1, 0, none⟩ = some (.int .i64 0) := R1.out.cell 0
  have s1 : w1.cell? ⟨w.heap.size + 1, 1, none⟩ = some (.string ByteArray.empty) := R1.out.cell 1
  have s2 : w1.cell? ⟨w.heap.size + 1, 2, none⟩ = some (.string ByteArray.empty) := R1.out.cell 2
  have s3 : w1.cell? ⟨w.heap.size + 1, 3, none⟩ = some (.int .i64 0) := R1.out.cell 3
  have u0 := R1.out.free 0
  have u1 := R1.out.free 1
  have u2 := R1.out.free 2
  have u3 := R1.out.free 3
  clear hb1
  go_wp2
  refine bodyPost_ret (v := .agg #[.int .i64 ki, .string te, .string tx, .int .i64 nu]) (by simp [results, Try.results122, go_sem, s0, s1, s2, s3]) rfl ⟨rfl, ?_⟩
  exact (((B1.out.setCell (by simp) _).setCell (by simp) _).setCell (by simp) _).setCell (by simp) _

/-- The record of a known kind, as an interface's value. -/
def knownV (r : RecD) : Value := if r.kind = 1 then .iface 127 (.agg #[.int .i64 1, .string r.tenant, .string r.text]) else if r.kind = 2 then .iface 129 (.agg #[.int .i64 2, .string ByteArray.empty, .int .i64 r.num]) else if r.kind = 3 then .iface 131 (.agg #[.int .i64 3, .string r.tenant, .string r.text, .int .i64 r.num]) else .nilIface
def kindB (r : RecD) : Bool := decide (r.kind = 1 ∨ r.kind = 2 ∨ r.kind = 3)
set_option maxRecDepth 100000 in
set_option maxHeartbeats 1000000 in
theorem recordOf_any (r : RecD) (w : World) :
    Calls Try.prog 72 #[recV r] w fun e w' => e = .returned (.tuple #[knownV r, .bool (kindB r)]) ∧ Below w.heap.size w w' := by
  obtain ⟨ki, te, tx, nu⟩ := r
  unfold recV
  by_cases h1 : ki = 1
  · subst h1
    go_enter Try.func72, Try.ntmps72
    go_wp2
    go_ret2
    exact ⟨rfl, bnew _ _⟩
  · by_cases h2 : ki = 2
    · subst h2
      go_enter Try.func72, Try.ntmps72
      go_wp2
      go_ret2
      exact ⟨rfl, bnew _ _⟩
    · by_cases h3 : ki = 3
      · subst h3
        go_enter Try.func72, Try.ntmps72
        go_wp2
        go_ret2
        exact ⟨rfl, bnew _ _⟩
      · have E : Hid (knownV ⟨ki, te, tx, nu⟩ = .nilIface ∧ kindB ⟨ki, te, tx, nu⟩ = false) := ⟨by unfold knownV; simp [h1, h2, h3], by unfold kindB; simp [h1, h2, h3]⟩
        go_enter Try.func72, Try.ntmps72
        go_wp2
        go_ret2
        exact ⟨by rw [E.out.1, E.out.2]; rfl, bnew _ _⟩
theorem invokeFlat1 (x : Value) (w : World) : (invoke (.fn (.method "loop.example/s02176/impl.flat") #[]) #[.iface 127 x]).run Try.prog w = .ok (.enter 120 #[x]) w := by kernel_rfl
theorem invokeFlat2 (x : Value) (w : World) : (invoke (.fn (.method "loop.example/s02176/impl.flat") #[]) #[.iface 129 x]).run Try.prog w = .ok (.enter 121 #[x]) w := by kernel_rfl
theorem invokeFlat3 (x : Value) (w : World) : (invoke (.fn (.method "loop.example/s02176/impl.flat") #[]) #[.iface 131 x]).run Try.prog w = .ok (.enter 122 #[x]) w := by kernel_rfl
end Go.Proofs.Ytgpgacncmoiefaa
