import Derived.Test.YtgpgacncmoiefaaProg
import Derived.Test.YtgpgacncmoiefaaRecT
import Derived.Test.YtgpgacncmoiefaaRecE
import Derived.Test.YtgpgacncmoiefaaBlkN
namespace Go.Proofs.Ytgpgacncmoiefaa
open Go.RowKit

theorem RecsOwn.but {g b o B : Nat} {w w' : World} {fs : List RecD} (h : RecsOwn w B (some ⟨b, o, none⟩) fs) (hb : But g w w') (hg : b ≠ g) : RecsOwn w' B (some ⟨b, o, none⟩) fs := by
  rcases h with h | ⟨b', o', cur, t, e, hB, hblk, h⟩
  · exact Or.inl h
  · simp only [Option.some.injEq, Addr.mk.injEq, and_true] at e
    obtain ⟨rfl, rfl⟩ := e
    have hk := hb.block b (lt_of_block hblk) hg
    have hc : ∀ j, w'.cell? ⟨b, j, none⟩ = w.cell? ⟨b, j, none⟩ := fun j => World.cell?_of_block hk
    exact Or.inr ⟨b, o, cur, t, rfl, hB, hk.trans hblk, fun i hi => by simp only [hc]; exact h i hi⟩

set_option maxHeartbeats 1000000 in
theorem szBatch_any (a : Option Addr) (cap : Nat) (fs : List RecD) (now : Int) (left : Int) (w : World) (h0 : 0 ≤ left) (h1 : left ≤ 1048576) (hf : RecsIn w a fs) (hs : ShortR fs) (hlen : fs.length ≤ maxLen) :
    Calls Try.prog 18 #[.agg #[.int .i64 now, .slice a fs.length cap], .int .i64 left] w fun e w' => e = .returned (.int .i64 (szRecs left fs)) ∧ Below w.heap.size w w' := by
  have HC : Hid (∀ W, Below w.heap.size w W → Calls Try.prog 41 #[.slice a fs.length cap, .int .i64 left] W fun e w' => e = .returned (.int .i64 (szRecs left fs)) ∧ Below W.heap.size W w') :=
    fun W hW => szRecS_any a cap fs left W h0 h1 (hf.later hW) hs hlen
  clear hf hs
  by_cases c : (fs.length + recBulk fs : Int) ≤ left
  · have e : szRecs left fs = left - fs.length - recBulk fs := by unfold szRecs; rw [if_pos c]
    rw [e] at HC ⊢
    have hn : ¬ (left - fs.length - recBulk fs < 0) := by omega
    generalize left - fs.length - recBulk fs = L at *
    clear e
    go_enter Try.func18, Try.ntmps18
    go_wp2_with fail
    refine (HC.out _ (bnew _ _)).mono ?_
    rintro e w1 ⟨rfl, hb1⟩
    have B1 : Hid (Below w.heap.size w w1) := bto (bnew _ _) hb1
    clear hb1
    go_wp2
    go_ret
    exact ⟨rfl, B1.out⟩
  · have e : szRecs left fs = -1 := by unfold szRecs; rw [if_neg c]
    rw [e] at HC ⊢
    clear e
    go_enter Try.func18, Try.ntmps18
    go_wp2_with fail
    refine (HC.out _ (bnew _ _)).mono ?_
    rintro e w1 ⟨rfl, hb1⟩
    have B1 : Hid (Below w.heap.size w w1) := bto (bnew _ _) hb1
    clear hb1
    go_wp2
    go_ret
    exact ⟨rfl, B1.out⟩
set_option maxRecDepth 100000 in
set_option maxHeartbeats 1000000 in
theorem eqBatch_same (now : Int) (a a' : Option Addr) (cap cap' : Nat) (fs : List RecD) (w : World) (hf : RecsIn w a fs) (hf' : RecsIn w a' fs) (hlen : fs.length ≤ maxLen) :
    Calls Try.prog 22 #[.agg #[.int .i64 now, .slice a fs.length cap], .agg #[.int .i64 now, .slice a' fs.length cap']] w fun e w' => e = .returned (.bool true) ∧ Below w.heap.size w w' := by
  have HC : Hid (∀ W, Below w.heap.size w W → Calls Try.prog 53 #[.slice a fs.length cap, .slice a' fs.length cap'] W fun e w' => e = .returned (.bool true) ∧ Below W.heap.size W w') :=
    fun W hW => eqRecS_same a a' cap cap' fs W (hf.later hW) (hf'.later hW) hlen
  clear hf hf'
  go_enter Try.func22, Try.ntmps22
  go_wp2_with fail
  refine (HC.out _ (bto (bnew _ _) (bnew _ _))).mono ?_
  rintro e w1 ⟨rfl, hb1⟩
  have B1 : Hid (Below w.heap.size w w1) := bto (bto (bnew _ _) (bnew _ _)) hb1
  clear hb1
  go_wp2
  go_ret
  exact ⟨rfl, B1.out⟩
set_option maxRecDepth 100000 in
set_option maxHeartbeats 1000000 in
theorem toBatch_any (now : Int) (a : Option Addr) (cap : Nat) (fs : List RecD) (w : World) (hf : RecsIn w a fs) (hlen : fs.length ≤ 1048576) :
    Calls Try.prog 20 #[.agg #[.int .i64 now, .slice a fs.length cap]] w fun e w' => ∃ g, e = .returned (.agg #[.int .i64 now, .slice (some ⟨g, 0, none⟩) fs.length fs.length]) ∧ w.heap.size ≤ g ∧ g < w'.heap.size ∧ RecsOwn w' w.heap.size (some ⟨g, 0, none⟩) fs ∧ Below w.heap.size w w' := by
  have HC : Hid (∀ W, Below w.heap.size w W → Calls Try.prog 45 #[.slice a fs.length cap] W fun e w' => e = .returned (.slice (some ⟨W.heap.size, 0, none⟩) fs.length fs.length) ∧ RecsOwn w' W.heap.size (some ⟨W.heap.size, 0, none⟩) fs ∧ Below W.heap.size W w' ∧ W.heap.size < w'.heap.size) :=
    fun W hW => toRecS_any a cap fs W (hf.later hW) hlen
  clear hf
  go_enter Try.func20, Try.ntmps20
  go_wp2_with fail
  refine (HC.out _ (bto (bto (bnew _ _) (bnew _ _)) (bnew _ _))).mono ?_
  rintro e w1 ⟨rfl, o1, hb1, z1⟩
  have B1 : Hid (Below w.heap.size w w1) := bto (bto (bto (bnew _ _) (bnew _ _)) (bnew _ _)) hb1
  have R1 : Hid (Blk w1 (w.heap.size + 1) #[.int .i64 0, .slice none 0 0] 37) := by have := ((Blk.new (w.alloc (.cells #[.int .i64 now, .slice a fs.length cap] 32)) #[.int .i64 0, .slice none 0 0] 37).alloc (.cells #[.int .i64 now, .slice none 0 0] 37)).later hb1; exact hid (by simpa using this)
  have X1 : Hid (Blk w1 (w.heap.size + 1 + 1) #[.int .i64 now, .slice none 0 0] 37) := by have := (Blk.new ((w.alloc (.cells #[.int .i64 now, .slice a fs.length cap] 32)).alloc (.cells #[.int .i64 0, .slice none 0 0] 37)) #[.int .i64 now, .slice none 0 0] 37).later hb1; exact hid (by simpa using this)
  have O1 : Hid (RecsOwn w1 (w.heap.size + 1 + 1 + 1) (some ⟨w.heap.size + 1 + 1 + 1, 0, none⟩) fs) := hid (by simpa using o1)
  have z1' : w.heap.size + 1 + 1 + 1 < w1.heap.size := by simpa using z1
  have r0 : w1.cell? ⟨w.heap.size + 1 + 1, 0, none⟩ = some (.int .i64 now) := X1.out.cell 0
  have r1 : w1.cell? ⟨w.heap.size + 1 + 1, 1, none⟩ = some (.slice none 0 0) := X1.out.cell 1
  have r2 := X1.out.free 1
  have s0 : w1.cell? ⟨w.heap.size + 1, 0, none⟩ = some (.int .i64 0) := R1.out.cell 0
  have s1 : w1.cell? ⟨w.heap.size + 1, 1, none⟩ = some (.slice none 0 0) := R1.out.cell 1
  have u0 := R1.out.free 0
  have u1 := R1.out.free 1
  clear o1 z1 hb1 HC
  go_wp2
  refine bodyPost_ret (v := .agg #[.int .i64 now, .slice (some ⟨w.heap.size + 1 + 1 + 1, 0, none⟩) fs.length fs.length]) (by simp [results, Try.results20, go_sem, s0, s1]) rfl ⟨_, rfl, by omega, by simpa using z1', ?_, ?_⟩
  · exact (((O1.out.but ((But.refl _ _).setCell _ _) (by omega)).but ((But.refl _ _).setCell _ _) (by omega)).but ((But.refl _ _).setCell _ _) (by omega)).mono (by omega)
  · exact ((B1.out.setCell (by simp; omega) _).setCell (by simp) _).setCell (by simp) _

end Go.Proofs.Ytgpgacncmoiefaa
