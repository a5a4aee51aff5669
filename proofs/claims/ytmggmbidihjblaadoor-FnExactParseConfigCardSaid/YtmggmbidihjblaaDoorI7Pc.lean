import Derived.Test.YtmggmbidihjblaaDoorProg
import Derived.Test.YtmggmbidihjblaaDoorI7Nx
import Derived.Test.YtmggmbidihjblaaDoorPcV
namespace Go.Proofs.YtmggmbidihjblaaDoor
open Go.RowKit

set_option maxHeartbeats 2000000 in
set_option maxRecDepth 100000 in
theorem lineOf_any (n : Int) (t : ByteArray) (w : World) :
    Calls Tryd.prog 10 #[.int .i64 n, .string t] w fun e w' => e = .returned (.pointer (some ⟨w.heap.size, 0, none⟩)) ∧ Blk w' w.heap.size (lnC n t.data.toList false false) 38 ∧ Below w.heap.size w w' := by
  unfold lnC
  rw [baL_back]
  go_enter Tryd.func10, Tryd.ntmps10
  go_wp2
  go_ret
  exact ⟨rfl, Blk.new _ _ _, bnew _ _⟩

set_option maxHeartbeats 2000000 in
set_option maxRecDepth 100000 in
theorem whole_any (L : Nat) (n : Int) (rest : List UInt8) (more bad : Bool) (w : World) (hL : Blk w L (lnC n rest more bad) 38) :
    Calls Tryd.prog 13 #[.pointer (some ⟨L, 0, none⟩)] w fun e w' => e = .returned (.bool (!more && !bad)) ∧ Below w.heap.size w w' := by
  unfold lnC at hL
  generalize baL rest = RB at *
  have HL := hid hL
  have y2 := hL.cell 2
  have y3 := hL.cell 3
  clear hL
  cases more <;> cases bad <;> (
    go_enter Tryd.func13, Tryd.ntmps13
    go_wp2
    go_ret
    exact ⟨rfl, Below.refl _ _⟩)

/-- The line at block L: what is left of it, and that the library's variables are there. -/
structure LS (W : World) (L : Nat) (rest : List UInt8) (more bad : Bool) : Prop where
  blk : Blk W L (lnC 1 rest more bad) 38
  sy : SynTab W
theorem LS.but {W W' : World} {L g : Nat} {r : List UInt8} {m b : Bool} (h : LS W L r m b) (hb : But g W W') (hg : L ≠ g) (hG : 6 ≤ g) : LS W' L r m b := ⟨h.blk.but hb hg, h.sy.but hb hG⟩
theorem LS.later {W W' : World} {L : Nat} {r : List UInt8} {m b : Bool} (h : LS W L r m b) (hb : Below W.heap.size W W') (hG : 6 ≤ L) : LS W' L r m b :=
  ⟨h.blk.later hb, h.sy.later hb (Nat.le_of_lt (Nat.lt_of_le_of_lt hG (lt_of_block h.blk)))⟩
theorem num_ls {L : Nat} {r F r' : List UInt8} {m m' b : Bool} {W : World} (h : LS W L r m b) (hr : r.length ≤ 1048576) (hG : 6 ≤ L) (hc : cutA 32 r = (F, r', m')) :
    Calls Tryd.prog 12 #[.pointer (some ⟨L, 0, none⟩)] W fun e w' => e = .returned (.int .i64 (nvV F)) ∧ LS w' L r' m' (b || !numB F) ∧ But L W w' := by
  have := num_any L 1 r m b W h.blk hr h.sy hG
  rw [hc] at this
  exact this.mono fun e w' ⟨he, hb, hu⟩ => ⟨he, ⟨hb, h.sy.but hu hG⟩, hu⟩
theorem next_ls {L : Nat} {r F r' : List UInt8} {m m' b : Bool} {W : World} (h : LS W L r m b) (hr : r.length ≤ 1048576) (hG : 6 ≤ L) (hc : cutA 32 r = (F, r', m')) :
    Calls Tryd.prog 11 #[.pointer (some ⟨L, 0, none⟩)] W fun e w' => e = .returned (.string (baL F)) ∧ LS w' L r' m' b ∧ But L W w' := by
  have := next_any L 1 r m b W h.blk hr
  rw [hc] at this
  exact this.mono fun e w' ⟨he, hb, hu⟩ => ⟨he, ⟨hb, h.sy.but hu hG⟩, hu⟩
theorem cut_le {r F r' : List UInt8} {m' : Bool} (hc : cutA 32 r = (F, r', m')) (hr : r.length ≤ 1048576) : r'.length ≤ 1048576 := by
  have := (cutA_len 32 r).2
  rw [hc] at this
  exact Nat.le_trans this hr
end Go.Proofs.YtmggmbidihjblaaDoor
