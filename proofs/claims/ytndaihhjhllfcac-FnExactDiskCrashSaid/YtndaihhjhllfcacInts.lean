import Derived.Test.YtndaihhjhllfcacProg
import Derived.Test.YtndaihhjhllfcacOwn
import Derived.Deep.OwnRows
namespace Go.Proofs.Ytndaihhjhllfcac
open Go.RowKit

def IntsAt (w : World) (b o : Nat) (zs : List Int) : Prop := ∀ i (h : i < zs.length), w.cell? ⟨b, o + i, none⟩ = some (.int .i64 zs[i])
def IntsIn (w : World) (a : Option Addr) (zs : List Int) : Prop := zs = [] ∨ ∃ b o, a = some ⟨b, o, none⟩ ∧ b < w.heap.size ∧ IntsAt w b o zs

theorem IntsIn.later {w w' : World} {a : Option Addr} {zs : List Int} (h : IntsIn w a zs) (hb : Below w.heap.size w w') : IntsIn w' a zs := by
  rcases h with h | ⟨b, o, rfl, hlt, h⟩
  · exact Or.inl h
  · exact Or.inr ⟨b, o, rfl, Nat.lt_of_lt_of_le hlt hb.size, fun i hi => (hb.cell hlt).trans (h i hi)⟩

theorem IntsIn.at {w : World} {a : Option Addr} {zs : List Int} (h : IntsIn w a zs) {i : Nat} (hi : i < zs.length) :
    ∃ b o, a = some ⟨b, o, none⟩ ∧ b < w.heap.size ∧ w.cell? ⟨b, o + i, none⟩ = some (.int .i64 zs[i]) := by
  rcases h with rfl | ⟨b, o, rfl, hlt, h⟩
  · exact absurd hi (by simp)
  · exact ⟨b, o, rfl, hlt, h i hi⟩

theorem IntsIn.but {g b o : Nat} {w w' : World} {zs : List Int} (h : IntsIn w (some ⟨b, o, none⟩) zs) (hb : But g w w') (hg : b ≠ g) : IntsIn w' (some ⟨b, o, none⟩) zs := by
  rcases h with h | ⟨b', o', e, hlt, h⟩
  · exact Or.inl h
  · simp only [Option.some.injEq, Addr.mk.injEq, and_true] at e
    obtain ⟨rfl, rfl⟩ := e
    exact Or.inr ⟨b, o, rfl, Nat.lt_of_lt_of_le hlt hb.size, fun i hi => (World.cell?_of_block (hb.block b hlt hg)).trans (h i hi)⟩

theorem info_int : (Try.prog.info? 3).map (fun i => (i.zero, i.size, i.bytes)) = some (some (.int .i64 0), 1, 8) := by kernel_rfl

/-- toIntS: a new row of its own. -/
theorem make_ints (n : Nat) (hn : n ≤ 1048576) (w : World) :
    (Instr.makeSlice 25 (.int .i64 (n : Int)) (.int .i64 (n : Int))).run Try.prog w = .ok (.slice (some ⟨w.heap.size, 0, none⟩) n n) (w.alloc (.cells (madeCells #[.int .i64 0] n) 3)) :=
  run_make_row' (P := Try.prog) 25 3 (.int .i64 0) 8 Try.underlying25 info_int rfl .i64 .i64 n (by omega) (by omega) w

set_option maxHeartbeats 1000000 in
theorem toIntS_any (a : Option Addr) (cap : Nat) (zs : List Int) (w : World) (hf : IntsIn w a zs) (hlen : zs.length ≤ 1048576) :
    Calls Try.prog 8 #[.slice a zs.length cap] w fun e w' => ∃ cur, e = .returned (.slice (some ⟨w.heap.size, 0, none⟩) zs.length zs.length) ∧ Blk w' w.heap.size cur 3 ∧ cur.size = zs.length ∧
      IntsIn w' (some ⟨w.heap.size, 0, none⟩) zs ∧ Below w.heap.size w w' := by
  have HF : Hid (IntsIn w a zs) := hf
  clear hf
  have hmk := make_ints zs.length hlen
  go_enter Try.func8, Try.ntmps8
  go_wp2
  go_loopw [4] (fun i wr => ∃ (k : Nat) (cur : Array Value), k ≤ zs.length ∧ i = .int .i64 k ∧ Blk wr w.heap.size cur 3 ∧ cur.size = zs.length ∧ (∀ m (h : m < zs.length), m < k → cur[m]? = some (.int .i64 zs[m])) ∧ Below w.heap.size w wr) (fun i _ => zs.length - (intOf i).toNat)
  case atStart => exact ⟨0, _, Nat.zero_le _, rfl, heap_alloc_new _ _, size_madeCells _ _, fun m _ h => absurd h (by omega), bnew _ _⟩
  case round =>
    obtain ⟨k, cur, hk, rfl, hblk, hcs, hrows, hbel⟩ := hrel
    have HR : Hid (∀ m (h : m < zs.length), m < k → cur[m]? = some (.int .i64 zs[m])) := hrows
    have HB : Hid (Blk wr w.heap.size cur 3) := hblk
    clear hrows hblk hmk
    by_cases hlt : k < zs.length
    · obtain ⟨b, o, rfl, hb, c0⟩ := (HF.out.later hbel).at hlt
      obtain ⟨v, d0⟩ := HB.out.there (j := k) (by omega)
      have f0 := HB.out.free k
      go_wp2
      refine ⟨⟨k + 1, _, by omega, by go_num, HB.out.set k _, by simp [hcs], ?_, hbel.setCell (Nat.le_refl _) _⟩, by simp [intOf]; omega⟩
      intro m hm hmk
      by_cases e : m = k
      · subst e; simp [Array.getElem?_setIfInBounds]; omega
      · rw [Array.getElem?_setIfInBounds_ne (by omega)]; exact HR.out m hm (by omega)
    · go_wp2
      go_ret
      have e : k = zs.length := by omega
      refine ⟨cur, rfl, HB.out, hcs, Or.inr ⟨w.heap.size, 0, rfl, lt_of_block HB.out, fun i hi => ?_⟩, hbel⟩
      rw [HB.out.cell, Nat.zero_add]
      exact HR.out i hi (by omega)

set_option maxHeartbeats 1000000 in
theorem eqIntS_same (a a' : Option Addr) (cap cap' : Nat) (zs : List Int) (w : World) (hf : IntsIn w a zs) (hf' : IntsIn w a' zs) (hlen : zs.length ≤ 1048576) :
    Calls Try.prog 11 #[.slice a zs.length cap, .slice a' zs.length cap'] w fun e w' => e = .returned (.bool true) ∧ Below w.heap.size w w' := by
  have HF : Hid (IntsIn w a zs) := hf
  have HF' : Hid (IntsIn w a' zs) := hf'
  clear hf hf'
  go_enter Try.func11, Try.ntmps11
  go_wp2
  go_loopw [5] (fun i wr => ∃ k : Nat, k ≤ zs.length ∧ i = .int .i64 k ∧ Below w.heap.size w wr) (fun i _ => zs.length - (intOf i).toNat)
  case atStart => exact ⟨0, Nat.zero_le _, rfl, Below.refl _ _⟩
  case round =>
    obtain ⟨k, hk, rfl, hbel⟩ := hrel
    by_cases hlt : k < zs.length
    · obtain ⟨b, o, rfl, hb, c0⟩ := (HF.out.later hbel).at hlt
      obtain ⟨b', o', rfl, hb', c0'⟩ := (HF'.out.later hbel).at hlt
      go_wp2_with fail
      go_quiet (fail)
      go_wp2
      exact ⟨⟨k + 1, by omega, by go_num, below_drewN hbel _⟩, by simp [intOf]; omega⟩
    · go_wp2
      go_ret
      exact ⟨rfl, hbel⟩

set_option maxHeartbeats 1000000 in
theorem markIntS_any (g n cap k : Nat) (t : TypeId) (cur : Array Value) (w : World) (hk2 : k + n ≤ 100000000) (hb : Blk w g cur t) (hs : cur.size = n) :
    Calls Try.prog 13 #[.slice (some ⟨g, 0, none⟩) n cap, .int .i64 (k : Int)] w fun e w' => e = .returned (.int .i64 ((k + n : Nat) : Int)) ∧ But g w w' := by
  have HG : Hid (Blk w g cur t) := hb
  clear hb
  go_enter Try.func13, Try.ntmps13
  go_wp2
  go_loopw [1, 5] (fun l i wr => ∃ (j : Nat) (c : Array Value), j ≤ n ∧ i = .int .i64 j ∧ l = .int .i64 ((k + j : Nat) : Int) ∧ Blk wr g c t ∧ c.size = n ∧ But g w wr) (fun _ i _ => n - (intOf i).toNat)
  case atStart => exact ⟨0, cur, Nat.zero_le _, rfl, rfl, HG.out, hs, But.refl _ _⟩
  case round =>
    obtain ⟨j, c, hj, rfl, rfl, hblk, hcs, hbut⟩ := hrel
    have HB : Hid (Blk wr g c t) := hblk
    have HBU : Hid (But g w wr) := hbut
    clear hblk hbut
    by_cases hlt : j < n
    · obtain ⟨v, d0⟩ := HB.out.there (j := j) (by omega)
      have f0 := HB.out.free j
      go_wp2
      exact ⟨⟨j + 1, _, by omega, by go_num, by go_num, HB.out.set j _, by simp [hcs], HBU.out.setCell _ _⟩, by simp [intOf]; omega⟩
    · go_wp2
      go_ret
      have e : j = n := by omega
      subst e
      exact ⟨ret_int (by omega), HBU.out⟩
end Go.Proofs.Ytndaihhjhllfcac
