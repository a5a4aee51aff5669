import Derived.Test.YtgnppdghjlnlhaaGreatDoorProg
import Derived.Test.YtgnppdghjlnlhaaGreatDoorJ21MarkT
import Derived.Test.YtgnppdghjlnlhaaGreatDoorJ22MkS
import Derived.Test.YtgnppdghjlnlhaaGreatDoorJ20SNum
import Derived.Deep.OwnRows
namespace Go.Proofs.YtgnppdghjlnlhaaGreatDoor
open Go.RowKit
set_option maxRecDepth 100000 in
set_option maxHeartbeats 2000000 in
theorem markFileS_any (a : Option Addr) (cap : Nat) (fs : List FileD) (k B : Nat) (w : World) (hk : 0 < k) (hk2 : k + 3 * fs.length ≤ 100000000) (hf : Owned w B a fs) :
    Calls Tryz.prog 73 #[.slice a fs.length cap, .int .i64 (k : Int)] w fun e w' => e = .returned (.int .i64 ((k + 3 * fs.length : Nat) : Int)) ∧ Marked w w' B a fs.length ∧ Owned w' B a (markL k fs.length) := by
  have hf2 : Owned w B a fs ∧ (fs = [] ∨ 0 < fs.length) := ⟨hf, by rcases fs with _ | ⟨f, r⟩ <;> simp⟩
  have hf3 : fs = [] ∨ (0 < fs.length ∧ ∃ g o cur t, a = some ⟨g, o, none⟩ ∧ B ≤ g ∧ w.heap[g]? = some (.cells cur t (0, 0)) ∧ FilesAt w g o fs) := by
    rcases hf2.2 with h | h
    · exact Or.inl h
    · rcases hf2.1 with h' | h'
      · exact Or.inl h'
      · exact Or.inr ⟨h, h'⟩
  clear hf hf2
  rcases hf3 with rfl | ⟨hpos, g, o, cur, t, rfl, hB, hg, hfs⟩
  · go_enter Tryz.func73, Tryz.ntmps73
    go_wp2
    go_loopw [1, 5] (fun l i wr => l = .int .i64 (k : Int) ∧ i = .int .i64 0 ∧ wr = w) (fun _ i _ => 0)
    case atStart => exact ⟨rfl, rfl, rfl⟩
    case round =>
      obtain ⟨rfl, rfl, rfl⟩ := hrel
      go_wp2
      go_ret
      exact ⟨rfl, Or.inl ⟨rfl, Below.refl _ _⟩, Or.inl rfl⟩
  have hrow : ∀ j (hj : j < fs.length), RowFile cur o j fs[j] := rows_of_filesAt hg hfs
  have hsz := rows_size hrow
  have HG : Hid (Blk w g cur t) := hg
  clear hrow hg hfs
  generalize hn : fs.length = n at *
  have hsz2 : n = 0 ∨ o + n * 3 ≤ cur.size := by
    rcases hsz with h | h
    · left; rw [← hn, h]; rfl
    · exact Or.inr h
  clear hsz hn
  go_enter Tryz.func73, Tryz.ntmps73
  go_wp2
  go_loopw [1, 5] (fun l i wr => ∃ (j : Nat) (c : Array Value), j ≤ n ∧ i = .int .i64 j ∧ l = .int .i64 ((k + 3 * j : Nat) : Int) ∧ Blk wr g c t ∧ c.size = cur.size ∧ (∀ m, m < j → RowFile c o m (markF k m)) ∧ But g w wr) (fun _ i _ => n - (intOf i).toNat)
  case atStart => exact ⟨0, cur, Nat.zero_le _, rfl, rfl, HG.out, rfl, fun m h => absurd h (by omega), But.refl _ _⟩
  case round =>
    obtain ⟨j, c, hj, rfl, rfl, hblk, hcs, hrows, hbut⟩ := hrel
    have HBLK : Hid (Blk wr g c t) := hblk
    have HROWS : Hid (∀ m, m < j → RowFile c o m (markF k m)) := hrows
    have HCS : Hid (c.size = cur.size) := hcs
    clear hblk hrows
    by_cases hlt : j < n
    · have hbd : o + j * 3 + 2 < c.size := by rcases hsz2 with h | h <;> omega
      clear hcs hsz2
      go_wp2_with fail
      refine (markText_int _ (k + 3 * j) (by omega) _ (by omega) (by omega)).mono ?_
      rintro e w1 ⟨rfl, hb1⟩
      have hB1 := HBLK.out.later hb1
      obtain ⟨v0, d0⟩ := hB1.there (j := o + j * 3) (by omega)
      have f0 := hB1.free (o + j * 3)
      have HB1 : Hid (Blk w1 g c t) := hB1
      clear hB1
      go_wp2_with fail
      refine (markText_int _ (k + 3 * j + 1) (by omega) _ (by omega) (by omega)).mono ?_
      rintro e w2 ⟨rfl, hb2⟩
      have hB2 := (HB1.out.set (o + j * 3) (.string (mt (k + 3 * j)))).later hb2
      obtain ⟨v1, d1⟩ := hB2.there (j := o + j * 3 + 1) (by simp; omega)
      have f1 := hB2.free (o + j * 3 + 1)
      obtain ⟨v2, d2⟩ := hB2.there (j := o + j * 3 + 2) (by simp; omega)
      have f2 := hB2.free (o + j * 3 + 2)
      have HB2 : Hid (Blk w2 g (c.setIfInBounds (o + j * 3) (.string (mt (k + 3 * j)))) t) := hB2
      have HBUT : Hid (But g w w2) := ((hbut.trans (But.of hb1)).setCell _ _).trans (But.of hb2)
      clear hB2 d0 f0 hb1 hb2 hbut
      go_wp2
      refine ⟨⟨j + 1, _, by omega, by go_num, by go_num, (HB2.out.set (o + j * 3 + 1) (.string (mt (k + 3 * j + 1)))).set (o + j * 3 + 2) (.int .i64 ((k + 3 * j + 2 : Nat) : Int)), by simp [HCS.out], ?_, (HBUT.out.setCell _ _).setCell _ _⟩, by simp [intOf]; omega⟩
      intro m hm
      by_cases e : m = j
      · subst e
        exact RowFile.made c o m (markF k m) hbd
      · exact (((HROWS.out m (by omega)).set (by omega) _).set (by omega) _).set (by omega) _
    · go_wp2
      go_ret
      have e : j = n := by omega
      subst e
      refine ⟨ret_int (by omega), Or.inr ⟨hpos, g, o, rfl, hB, hbut⟩, Or.inr ⟨g, o, c, t, rfl, hB, HBLK.out, filesAt_of_rows HBLK.out ?_⟩⟩
      intro m hm
      rw [markL_get]
      exact HROWS.out m (by rw [markL_length] at hm; exact hm)
end Go.Proofs.YtgnppdghjlnlhaaGreatDoor
namespace Go.Proofs.YtgnppdghjlnlhaaGreatDoor
open Go.RowKit
theorem Marked.from {w w1 w' : World} {B n : Nat} {a : Option Addr} (hb : Below w.heap.size w w1) (h : Marked w1 w' B a n) : Marked w w' B a n := by
  rcases h with ⟨h0, h⟩ | ⟨hp, g, o, e, hB, h⟩
  · exact Or.inl ⟨h0, bto hb h⟩
  · exact Or.inr ⟨hp, g, o, e, hB, (But.of hb).trans h⟩
set_option maxHeartbeats 1000000 in
theorem markDisk_any (a : Option Addr) (cap : Nat) (fs : List FileD) (c k0 cr fl : Int) (dn : Bool) (k B : Nat) (w : World) (hk : 0 < k) (hk2 : k + 3 * fs.length ≤ 100000000) (hf : Owned w B a fs) :
    Calls Tryz.prog 39 #[.agg #[.slice a fs.length cap, .int .i64 c, .int .i64 k0, .int .i64 cr, .int .i64 fl, .bool dn], .int .i64 (k : Int)] w fun e w' =>
      e = .returned (.int .i64 ((k + 3 * fs.length : Nat) : Int)) ∧ Marked w w' B a fs.length ∧ Owned w' B a (markL k fs.length) := by
  have HF : Hid (Owned w B a fs) := hf
  clear hf
  go_enter Tryz.func39, Tryz.ntmps39
  go_wp2_with fail
  refine (markFileS_any a cap fs k B _ hk hk2 (HF.out.later (bnew _ _))).mono ?_
  rintro e w1 ⟨rfl, hm, ho⟩
  have HM : Hid (Marked w w1 B a fs.length ∧ Owned w1 B a (markL k fs.length)) := ⟨hm.from (bnew _ _), ho⟩
  clear hm ho
  go_wp2
  go_ret
  exact ⟨rfl, HM.out.1, HM.out.2⟩
set_option maxRecDepth 100000 in
set_option maxHeartbeats 2000000 in
theorem heldFileS_any (a : Option Addr) (cap : Nat) (k n : Nat) (w : World) (hk : 0 < k) (hk2 : k + 3 * n ≤ 100000000) (hf : FilesIn w a (markL k n)) :
    Calls Tryz.prog 75 #[.slice a n cap, .int .i64 (k : Int)] w fun e w' => e = .returned (.int .i64 ((k + 3 * n : Nat) : Int)) ∧ Below w.heap.size w w' := by
  have HF : Hid (FilesIn w a (markL k n)) := hf
  clear hf
  go_enter Tryz.func75, Tryz.ntmps75
  go_wp2
  go_loopw [1, 5] (fun l i wr => ∃ j : Nat, j ≤ n ∧ i = .int .i64 j ∧ l = .int .i64 ((k + 3 * j : Nat) : Int) ∧ Below w.heap.size w wr) (fun _ i _ => n - (intOf i).toNat)
  case atStart => exact ⟨0, Nat.zero_le _, rfl, rfl, Below.refl _ _⟩
  case round =>
    obtain ⟨j, hj, rfl, rfl, hbel⟩ := hrel
    by_cases hlt : j < n
    · obtain ⟨b, o, rfl, hb, c0, c1, c2⟩ := (HF.out.later hbel).at (i := j) (by rw [markL_length]; exact hlt)
      rw [markL_get] at c0 c1 c2
      simp only [markF] at c0 c1 c2
      have d0 := Later.cells c0
      have hne := Later.there wr
      have HC : Hid (wr.cell? ⟨b, o + j * 3 + 1, none⟩ = some (.string (mt (k + 3 * j + 1))) ∧ wr.cell? ⟨b, o + j * 3 + 2, none⟩ = some (.int .i64 ((k + 3 * j + 2 : Nat) : Int))) := ⟨c1, c2⟩
      clear c0 c1 c2
      go_wp2_with fail
      refine wp_region_later (by kernel_rfl) (by kernel_rfl) ?_
      repeat (go_big_quiet_step (first | (go_at_call 107; exact calls_later (markText_int _ (k + 3 * j) (by omega) _ (by omega) (by omega)))))
      refine wpQuiet_nil ?_
      rintro _ ⟨x, rfl⟩
      have d1 := Later.cells (x.cell HC.out.1)
      have d2 : ∀ y : Later x.w', y.w'.cell? ⟨b, o + j * 3 + 2, none⟩ = some (.int .i64 ((k : Int) + 3 * (j : Int) + 2)) := fun y => by rw [y.cell (x.cell HC.out.2)]; simp
      have hne2 := Later.there x.w'
      have HX : Hid (Below w.heap.size w x.w') := bto hbel x.h
      clear d0 hne HC hbel
      generalize x.w' = W at *
      clear x
      go_wp2_with fail
      refine wp_region_later (by kernel_rfl) (by kernel_rfl) ?_
      repeat (go_big_quiet_step (first | (go_at_call 107; exact calls_later (markText_int _ (k + 3 * j + 1) (by omega) _ (by omega) (by omega)))))
      refine wpQuiet_nil ?_
      rintro _ ⟨y, rfl⟩
      have e2 := d2 y
      have HY : Hid (Below w.heap.size w y.w') := bto HX.out y.h
      clear d1 d2 hne2
      generalize y.w' = W2 at *
      clear y
      go_wp2
      exact ⟨⟨j + 1, by omega, by go_num, by go_num, HY.out⟩, by simp [intOf]; omega⟩
    · go_wp2
      go_ret
      have e : j = n := by omega
      subst e
      exact ⟨ret_int (by omega), hbel⟩
set_option maxHeartbeats 1000000 in
theorem heldDisk_any (a : Option Addr) (cap : Nat) (c k0 cr fl : Int) (dn : Bool) (k n : Nat) (w : World) (hk : 0 < k) (hk2 : k + 3 * n ≤ 100000000) (hf : FilesIn w a (markL k n)) :
    Calls Tryz.prog 41 #[.agg #[.slice a n cap, .int .i64 c, .int .i64 k0, .int .i64 cr, .int .i64 fl, .bool dn], .int .i64 (k : Int)] w fun e w' =>
      e = .returned (.int .i64 ((k + 3 * n : Nat) : Int)) ∧ Below w.heap.size w w' := by
  have HF : Hid (FilesIn w a (markL k n)) := hf
  clear hf
  go_enter Tryz.func41, Tryz.ntmps41
  go_wp2_with fail
  refine (heldFileS_any a cap k n _ hk hk2 (HF.out.later (bnew _ _))).mono ?_
  rintro e w1 ⟨rfl, hb⟩
  have HB : Hid (Below w.heap.size w w1) := bto (bnew _ _) hb
  clear hb
  go_wp2
  go_ret
  exact ⟨ret_int (by omega), HB.out⟩
end Go.Proofs.YtgnppdghjlnlhaaGreatDoor
namespace Go.Proofs.YtgnppdghjlnlhaaGreatDoor
open Go.RowKit
def TensA (w : World) (A : Nat → Prop) (a : Option Addr) (ts : List TenD) : Prop :=
  ts = [] ∨ ∃ g o cur t T, a = some ⟨g, o, none⟩ ∧ w.heap[g]? = some (.cells cur t (0, 0)) ∧ T g = 0 ∧ (∀ x, T x ≤ 2 * ts.length → A x) ∧ ∀ i (h : i < ts.length), TenOwn w 0 T i g (o + i * 4) ts[i]
theorem TensA.tens {w : World} {A : Nat → Prop} {a : Option Addr} {ts : List TenD} (h : TensA w A a ts) : TensIn w a ts := by
  rcases h with h | ⟨g, o, cur, t, T, rfl, hb, _, _, h⟩
  · exact Or.inl h
  · exact Or.inr ⟨g, o, rfl, lt_of_block hb, fun i hi => (h i hi).at⟩
theorem TensA.turned {S A : Nat → Prop} {w w' : World} {a : Option Addr} {ts : List TenD} (h : TensA w A a ts) (ht : Turn S w w') (hS : ∀ g, A g → g < w.heap.size → ¬ S g) : TensA w' A a ts := by
  rcases h with h | ⟨g, o, cur, t, T, rfl, hg, hT, hA, h⟩
  · exact Or.inl h
  · have hk := ht.block g (lt_of_block hg) (hS g (hA g (by omega)) (lt_of_block hg))
    exact Or.inr ⟨g, o, cur, t, T, rfl, hk.trans hg, hT, hA, fun i hi => (h i hi).keep (fun j _ => World.cell?_of_block hk) fun g' hg' _ hT' => ⟨ht.block g' hg' (hS g' (hA g' (by omega)) hg'), rfl⟩⟩
theorem TensA.later {w w' : World} {A : Nat → Prop} {a : Option Addr} {ts : List TenD} (h : TensA w A a ts) (hb : Below w.heap.size w w') : TensA w' A a ts := h.turned (Turn.of (S := fun _ => False) hb) fun _ _ _ e => e
theorem TensA.mono {w : World} {A A' : Nat → Prop} {a : Option Addr} {ts : List TenD} (h : TensA w A a ts) (hA : ∀ x, A x → A' x) : TensA w A' a ts := by
  rcases h with h | ⟨g, o, cur, t, T, e, hg, hT, h1, h⟩
  · exact Or.inl h
  · exact Or.inr ⟨g, o, cur, t, T, e, hg, hT, fun x hx => hA x (h1 x hx), h⟩
theorem TensOwn.toA {w : World} {B H : Nat} {a : Option Addr} {ts : List TenD} (h : TensOwn w B a ts) (hH : w.heap.size ≤ H) : TensA w (fun x => B ≤ x ∧ x < H) a ts := by
  rcases h with h | ⟨g, o, cur, t, T, rfl, hB, hg, hT, h⟩
  · exact Or.inl h
  · have hlt := lt_of_block hg
    refine Or.inr ⟨g, o, cur, t, fun x => if B ≤ x ∧ x < H then T x else 2 * ts.length + 1, rfl, hg, ?_, fun x hx => ?_, fun i hi => ?_⟩
    · show (if _ then _ else _) = 0
      rw [if_pos ⟨hB, by omega⟩]; exact hT
    · by_cases hc : B ≤ x ∧ x < H
      · exact hc
      · simp only [if_neg hc] at hx; omega
    · obtain ⟨a1, c1, a2, c2, h0, h1, h2, h3, h4, h5⟩ := h i hi
      have hp : ∀ {n : Nat} {q : Option Addr} {ps : List PairD}, PairsTag w B T n q ps → PairsTag w 0 (fun x => if B ≤ x ∧ x < H then T x else 2 * ts.length + 1) n q ps := fun hp => by
        rcases hp with hp | ⟨g', o', cur', t', e, hB', hT', hb', hp⟩
        · exact Or.inl hp
        · have := lt_of_block hb'
          exact Or.inr ⟨g', o', cur', t', e, Nat.zero_le _, by show (if _ then _ else _) = _; rw [if_pos ⟨hB', by omega⟩]; exact hT', hb', hp⟩
      exact ⟨a1, c1, a2, c2, h0, h1, h2, h3, hp h4, hp h5⟩
def FilesA (w : World) (A : Nat → Prop) (a : Option Addr) (fs : List FileD) : Prop :=
  fs = [] ∨ ∃ g o cur t, a = some ⟨g, o, none⟩ ∧ A g ∧ w.heap[g]? = some (.cells cur t (0, 0)) ∧ FilesAt w g o fs
theorem FilesA.files {w : World} {A : Nat → Prop} {a : Option Addr} {fs : List FileD} (h : FilesA w A a fs) : FilesIn w a fs := by
  rcases h with h | ⟨g, o, cur, t, rfl, _, hb, h⟩
  · exact Or.inl h
  · exact Or.inr ⟨g, o, rfl, lt_of_block hb, h⟩
theorem FilesA.turned {S A : Nat → Prop} {w w' : World} {a : Option Addr} {fs : List FileD} (h : FilesA w A a fs) (ht : Turn S w w') (hS : ∀ g, A g → g < w.heap.size → ¬ S g) : FilesA w' A a fs := by
  rcases h with h | ⟨g, o, cur, t, rfl, hA, hg, h⟩
  · exact Or.inl h
  · have hk := ht.block g (lt_of_block hg) (hS g hA (lt_of_block hg))
    have hc : ∀ j, w'.cell? ⟨g, j, none⟩ = w.cell? ⟨g, j, none⟩ := fun j => World.cell?_of_block hk
    exact Or.inr ⟨g, o, cur, t, rfl, hA, hk.trans hg, fun i hi => by simp only [hc]; exact h i hi⟩
theorem FilesA.later {w w' : World} {A : Nat → Prop} {a : Option Addr} {fs : List FileD} (h : FilesA w A a fs) (hb : Below w.heap.size w w') : FilesA w' A a fs := h.turned (Turn.of (S := fun _ => False) hb) fun _ _ _ e => e
theorem FilesA.mono {w : World} {A A' : Nat → Prop} {a : Option Addr} {fs : List FileD} (h : FilesA w A a fs) (hA : ∀ x, A x → A' x) : FilesA w A' a fs := by
  rcases h with h | ⟨g, o, cur, t, e, q, h⟩
  · exact Or.inl h
  · exact Or.inr ⟨g, o, cur, t, e, hA g q, h⟩
theorem Owned.toA {w : World} {B H : Nat} {a : Option Addr} {fs : List FileD} (h : Owned w B a fs) (hH : w.heap.size ≤ H) : FilesA w (fun x => B ≤ x ∧ x < H) a fs := by
  rcases h with h | ⟨g, o, cur, t, e, hB, hg, h⟩
  · exact Or.inl h
  · have := lt_of_block hg
    exact Or.inr ⟨g, o, cur, t, e, ⟨hB, by omega⟩, hg, h⟩
theorem FilesA.own {w : World} {A : Nat → Prop} {a : Option Addr} {fs : List FileD} (h : FilesA w A a fs) : fs = [] ∨ ∃ g o, a = some ⟨g, o, none⟩ ∧ A g ∧ Owned w g a fs := by
  rcases h with h | ⟨g, o, cur, t, e, q, hg, h⟩
  · exact Or.inl h
  · exact Or.inr ⟨g, o, e, q, Or.inr ⟨g, o, cur, t, e, Nat.le_refl _, hg, h⟩⟩
theorem markTensA (a : Option Addr) (cap : Nat) (ts : List TenD) (k : Nat) (A : Nat → Prop) (w : World) (hk : 0 < k) (hk2 : k + tensLen ts ≤ 100000000) (h0 : TensA w A a ts) :
    Calls Tryz.prog 74 #[.slice a ts.length cap, .int .i64 (k : Int)] w fun e w' => e = .returned (.int .i64 ((k + tensLen ts : Nat) : Int)) ∧ Turn A w w' ∧ TensIn w' a (markTens k ts) := by
  rcases h0 with rfl | ⟨g, o, cur, t, T, rfl, hg, hT, hA, h⟩
  · refine (markTenantS_nil a cap k w).mono ?_
    rintro e w' ⟨rfl, rfl⟩
    exact ⟨ret_int (by simp [tensLen]), Turn.refl _ _, Or.inl (by simp [markTens])⟩
  · refine (markTenantS_any g o cap ts k 0 T cur t w hk hk2 (Nat.zero_le _) hg hT h).mono ?_
    rintro e w' ⟨rfl, ht, c, hc, hm⟩
    exact ⟨rfl, ht.mono fun x _ hx => hA x hx.2, Or.inr ⟨g, o, rfl, lt_of_block hc, fun i hi => (hm i hi).at⟩⟩
set_option maxRecDepth 100000 in
set_option maxHeartbeats 1000000 in
theorem markStateA (now : Int) (a : Option Addr) (cap : Nat) (ts : List TenD) (k : Nat) (A : Nat → Prop) (w : World) (hk : 0 < k) (hk2 : k + tensLen ts ≤ 100000000) (h0 : TensA w A a ts) :
    Calls Tryz.prog 40 #[.agg #[.int .i64 now, .slice a ts.length cap], .int .i64 (k : Int)] w fun e w' => e = .returned (.int .i64 ((k + tensLen ts : Nat) : Int)) ∧ Turn A w w' ∧ TensIn w' a (markTens k ts) := by
  have HM := hid (fun W (hW : Below w.heap.size w W) => markTensA a cap ts k A W hk hk2 (h0.later hW))
  clear h0
  go_enter Tryz.func40, Tryz.ntmps40
  go_wp2_with fail
  refine (HM.out _ (bnew _ _)).mono ?_
  rintro e w1 ⟨rfl, ht, ho⟩
  have HT := hid (And.intro ((Turn.of (bnew _ _)).trans' ht) ho)
  clear ht ho
  go_wp2
  go_ret
  exact ⟨rfl, HT.out.1, HT.out.2⟩
theorem markDiskA (a : Option Addr) (cap : Nat) (fs : List FileD) (c k0 cr fl : Int) (dn : Bool) (k : Nat) (A : Nat → Prop) (w : World) (hk : 0 < k) (hk2 : k + 3 * fs.length ≤ 100000000) (hf : FilesA w A a fs) :
    Calls Tryz.prog 39 #[.agg #[.slice a fs.length cap, .int .i64 c, .int .i64 k0, .int .i64 cr, .int .i64 fl, .bool dn], .int .i64 (k : Int)] w fun e w' =>
      e = .returned (.int .i64 ((k + 3 * fs.length : Nat) : Int)) ∧ Turn A w w' ∧ FilesA w' A a (markL k fs.length) := by
  rcases hf.own with rfl | ⟨g, o, rfl, q, h⟩
  · refine (markDisk_any a cap [] c k0 cr fl dn k 0 w hk hk2 (Or.inl rfl)).mono ?_
    rintro e w' ⟨rfl, hm, _⟩
    rcases hm with ⟨_, hm⟩ | ⟨hm, _⟩
    · exact ⟨rfl, Turn.of hm, Or.inl rfl⟩
    · exact absurd hm (by simp)
  · refine (markDisk_any _ cap fs c k0 cr fl dn k g w hk hk2 h).mono ?_
    rintro e w' ⟨rfl, hm, ho⟩
    refine ⟨rfl, ?_, ?_⟩
    · rcases hm with ⟨_, hm⟩ | ⟨_, g', o', e, _, hm⟩
      · exact Turn.of hm
      · simp only [Option.some.injEq, Addr.mk.injEq] at e
        obtain ⟨rfl, _⟩ := e
        exact (Turn.but hm).mono fun x _ hx => hx ▸ q
    · rcases ho with ho | ⟨g', o', cur, t, e, _, hb, ho⟩
      · exact Or.inl ho
      · simp only [Option.some.injEq, Addr.mk.injEq] at e
        obtain ⟨rfl, rfl, _⟩ := e
        exact Or.inr ⟨g, o, cur, t, rfl, q, hb, ho⟩
end Go.Proofs.YtgnppdghjlnlhaaGreatDoor
namespace Go.Proofs.YtgnppdghjlnlhaaGreatDoor
open Go.RowKit
theorem info_MetricLimit : (Tryz.prog.info? 99).map (fun i => (i.zero, i.size, i.bytes)) = some (some (.agg #[.string ByteArray.empty, .int .i64 0]), 2, 24) := by kernel_rfl
theorem make_MetricLimit (n : Nat) (hn : n ≤ 1048576) (w : World) :
    (Instr.makeSlice 91 (.int .i64 (n : Int)) (.int .i64 (n : Int))).run Tryz.prog w = .ok (.slice (some ⟨w.heap.size, 0, none⟩) n n) (w.alloc (.cells (madeCells #[.string ByteArray.empty, .int .i64 0] (n * 2)) 99)) := by
  obtain ⟨i, hi, hzz⟩ := Option.map_eq_some_iff.1 info_MetricLimit
  simp only [Prod.mk.injEq] at hzz
  obtain ⟨hz, hs, hb⟩ := hzz
  have hr := run_make (P := Tryz.prog) w 91 99 i _ Tryz.underlying91 hi hz .i64 .i64 n n (by omega) (Int.le_refl _) (by rw [hb]; omega) (by omega)
  simp only [Int.toNat_natCast, hs] at hr
  exact hr
def FillMetricLimit (w : World) (g n : Nat) (fs : List PairD) (k : Nat) : Prop := ∃ cur : Array Value, w.heap[g]? = some (.cells cur 99 (0, 0)) ∧ cur.size = n * 2 ∧
  ∀ i (h : i < fs.length), i < k → cur[i * 2]? = some (.string fs[i].s) ∧ cur[i * 2 + 1]? = some (.int .i64 fs[i].n)
theorem FillMetricLimit.later {w w' : World} {g n k : Nat} {fs : List PairD} {B : Nat} (h : FillMetricLimit w g n fs k) (hb : Below B w w') (hg : g < B) : FillMetricLimit w' g n fs k := by
  obtain ⟨cur, h1, h2⟩ := h
  exact ⟨cur, by rw [hb.block g hg]; exact h1, h2⟩
theorem FillMetricLimit.cells {w : World} {g n k : Nat} {fs : List PairD} (h : FillMetricLimit w g n fs k) {j : Nat} (hj : j < n * 2) : (∃ v, w.cell? ⟨g, j, none⟩ = some v) ∧ w.frozen? ⟨g, j, none⟩ = false := by
  obtain ⟨cur, h1, h2, _⟩ := h
  refine ⟨⟨cur[j], ?_⟩, frozen_of_row w g j cur _ h1⟩
  rw [cell_of_row w g j cur _ _ h1]
  exact Array.getElem?_eq_getElem (by omega)
theorem FillMetricLimit.step {w : World} {g n k : Nat} {fs : List PairD} (h : FillMetricLimit w g n fs k) (hk : k < fs.length) (hn : fs.length ≤ n) :
    FillMetricLimit ((w.setCell ⟨g, k * 2, none⟩ (.string fs[k].s)).setCell ⟨g, k * 2 + 1, none⟩ (.int .i64 fs[k].n)) g n fs (k + 1) := by
  obtain ⟨cur, h1, h2, h3⟩ := h
  refine ⟨_, heap_setCell_same _ _ _ _ _ _ (heap_setCell_same _ _ _ _ _ _ h1), by simp [h2], fun i hi hlt => ?_⟩
  by_cases e : i = k
  · subst e
    refine ⟨?_, ?_⟩ <;> simp [Array.getElem?_setIfInBounds] <;> omega
  · obtain ⟨a1, a2⟩ := h3 i hi (by omega)
    refine ⟨?_, ?_⟩
    · rw [Array.getElem?_setIfInBounds_ne (by omega), Array.getElem?_setIfInBounds_ne (by omega)]; exact a1
    · rw [Array.getElem?_setIfInBounds_ne (by omega), Array.getElem?_setIfInBounds_ne (by omega)]; exact a2
theorem FillMetricLimit.done {w : World} {g B : Nat} {fs : List PairD} (h : FillMetricLimit w g fs.length fs fs.length) (hB : B ≤ g) : PairsOwn w B (some ⟨g, 0, none⟩) fs := by
  obtain ⟨cur, h1, h2, h3⟩ := h
  refine Or.inr ⟨g, 0, cur, _, rfl, hB, h1, fun i hi => ?_⟩
  obtain ⟨a1, a2⟩ := h3 i hi hi
  simp only [cell_of_row w g _ cur _ _ h1, Nat.zero_add]
  exact ⟨a1, a2⟩
set_option maxHeartbeats 400000 in
theorem szMetricLimit_any (f : PairD) (left : Int) (w : World) (h0 : 0 ≤ left) (h1 : left ≤ 1048576) (hn : f.s.size ≤ maxLen) :
    Calls Tryz.prog 130 #[.agg #[.string f.s, .int .i64 f.n], .int .i64 left] w fun e w' => e = .returned (.int .i64 (szPair left f)) ∧ Below w.heap.size w w' := by
  unfold maxLen at hn
  obtain ⟨nm, da⟩ := f
  simp only at hn ⊢
  by_cases c1 : left - nm.size < 0
  · have e : szPair left ⟨nm, da⟩ = -1 := by unfold szPair; rw [if_neg]; simp only; omega
    rw [e]
    go_enter Tryz.func130, Tryz.ntmps130
    go_wp2
    go_ret
    exact ⟨rfl, (Below.refl _ _).alloc (Nat.le_refl _) _⟩
  · have e : szPair left ⟨nm, da⟩ = left - nm.size := by unfold szPair; rw [if_pos]; simp only; omega
    rw [e]
    go_enter Tryz.func130, Tryz.ntmps130
    go_wp2
    go_ret
    exact ⟨rfl, (Below.refl _ _).alloc (Nat.le_refl _) _⟩
set_option maxHeartbeats 1000000 in
theorem szMetricLimitS_any (a : Option Addr) (cap : Nat) (fs : List PairD) (left : Int) (w : World) (h0 : 0 ≤ left) (h1 : left ≤ 1048576) (hf : PairsIn w a fs) (hs : ShortP fs) (hlen : fs.length ≤ maxLen) :
    Calls Tryz.prog 112 #[.slice a fs.length cap, .int .i64 left] w fun e w' => e = .returned (.int .i64 (szPairs left fs)) ∧ Below w.heap.size w w' := by
  unfold maxLen at hlen
  by_cases c1 : left - fs.length < 0
  · have e : szPairs left fs = -1 := by unfold szPairs; rw [if_neg]; omega
    rw [e]
    clear hf hs
    go_enter Tryz.func112, Tryz.ntmps112
    go_wp2
    go_ret
    exact ⟨rfl, Below.refl _ _⟩
  · have hne : ¬ (left - fs.length < 0) := c1
    have HF : Hid (PairsIn w a fs) := hf
    have HS : Hid (ShortP fs) := hs
    clear hf hs
    go_enter Tryz.func112, Tryz.ntmps112
    go_wp2
    go_loopw [1, 5] (fun l i wr => ∃ k : Nat, k ≤ fs.length ∧ i = .int .i64 k ∧ (pairBulk (fs.take k) : Int) ≤ left - fs.length ∧ l = .int .i64 (left - fs.length - pairBulk (fs.take k)) ∧ Below w.heap.size w wr) (fun _ i _ => fs.length - (intOf i).toNat)
    case atStart => exact ⟨0, Nat.zero_le _, rfl, by simp [pairBulk]; omega, by simp [pairBulk], Below.refl _ _⟩
    case round =>
      obtain ⟨k, hk, rfl, hle, rfl, hbel⟩ := hrel
      by_cases hlt : k < fs.length
      · obtain ⟨b, o, rfl, hb, c0, c1⟩ := (HF.out.later hbel).at hlt
        have hss := HS.out k hlt
        have hts := pairBulk_take_succ fs k hlt
        have htl := pairBulk_take_le fs (k + 1)
        by_cases c3 : ((fs[k].s.size : Nat) : Int) ≤ left - fs.length - pairBulk (fs.take k)
        · have e : szPair (left - fs.length - pairBulk (fs.take k)) fs[k] = left - fs.length - pairBulk (fs.take (k + 1)) := by
            unfold szPair; rw [if_pos (by omega), hts]; omega
          have E : Hid (szPair (left - fs.length - pairBulk (fs.take k)) fs[k] = left - fs.length - pairBulk (fs.take (k + 1))) := e
          have hle2 : (pairBulk (fs.take (k + 1)) : Int) ≤ left - fs.length := by omega
          clear e hts
          go_wp2_with fail
          refine (szMetricLimit_any fs[k] _ _ (by omega) (by omega) hss).mono ?_
          rintro e w' ⟨rfl, hb2⟩
          rw [E.out]
          go_wp2
          exact ⟨⟨k + 1, by omega, by go_num, hle2, rfl, hbel.trans (hb2.mono hbel.size)⟩, by simp [intOf]; omega⟩
        · have e : szPair (left - fs.length - pairBulk (fs.take k)) fs[k] = -1 := by
            unfold szPair; rw [if_neg (by omega)]
          have E : Hid (szPair (left - fs.length - pairBulk (fs.take k)) fs[k] = -1) := e
          have E2 : Hid (szPairs left fs = -1) := by show szPairs left fs = -1; unfold szPairs; rw [if_neg (by omega)]
          clear e hts
          go_wp2_with fail
          refine (szMetricLimit_any fs[k] _ _ (by omega) (by omega) hss).mono ?_
          rintro e w' ⟨rfl, hb2⟩
          rw [E.out]
          go_wp2
          go_ret
          exact ⟨ret_int E2.out.symm, hbel.trans (hb2.mono hbel.size)⟩
      · go_wp2
        go_ret
        have e : fs.take k = fs := List.take_of_length_le (by omega)
        rw [e] at hle ⊢
        exact ⟨ret_int (by unfold szPairs; rw [if_pos (by omega)]), hbel⟩
set_option maxHeartbeats 400000 in
theorem toMetricLimit_any (nm : ByteArray) (da : Int) (w : World) :
    Calls Tryz.prog 132 #[.agg #[.string nm, .int .i64 da]] w fun e w' => e = .returned (.agg #[.string nm, .int .i64 da]) ∧ Below w.heap.size w w' := by
  go_enter Tryz.func132, Tryz.ntmps132
  go_wp2
  exact bodyPost_ret (v := .agg #[.string nm, .int .i64 da]) (by simp [results, Tryz.results132, go_sem]) rfl ⟨rfl, (((Below.refl _ _).alloc (Nat.le_refl _) _).alloc (by simp) _).alloc (by simp; omega) _⟩
set_option maxHeartbeats 1000000 in
theorem toMetricLimitS_any (a : Option Addr) (cap : Nat) (fs : List PairD) (w : World) (hf : PairsIn w a fs) (hlen : fs.length ≤ 1048576) :
    Calls Tryz.prog 114 #[.slice a fs.length cap] w fun e w' => e = .returned (.slice (some ⟨w.heap.size, 0, none⟩) fs.length fs.length) ∧ PairsOwn w' w.heap.size (some ⟨w.heap.size, 0, none⟩) fs ∧ Below w.heap.size w w' ∧ w.heap.size < w'.heap.size := by
  have HF : Hid (PairsIn w a fs) := hf
  clear hf
  have hmk := make_MetricLimit fs.length hlen
  go_enter Tryz.func114, Tryz.ntmps114
  go_wp2
  go_loopw [4] (fun i wr => ∃ k : Nat, k ≤ fs.length ∧ i = .int .i64 k ∧ FillMetricLimit wr w.heap.size fs.length fs k ∧ Below w.heap.size w wr ∧ w.heap.size < wr.heap.size) (fun i _ => fs.length - (intOf i).toNat)
  case atStart => exact ⟨0, Nat.zero_le _, rfl, ⟨_, heap_alloc_new _ _, size_madeCells _ _, fun i _ h => absurd h (by omega)⟩, (Below.refl _ _).alloc (Nat.le_refl _) _, by simp⟩
  case round =>
    obtain ⟨k, hk, rfl, hfill, hbel, hsz⟩ := hrel
    have HFill : Hid (FillMetricLimit wr w.heap.size fs.length fs k) := hfill
    clear hfill hmk
    by_cases hlt : k < fs.length
    · obtain ⟨b, o, rfl, hb, c0, c1⟩ := (HF.out.later hbel).at hlt
      go_wp2_with fail
      refine (toMetricLimit_any _ _ _).mono ?_
      rintro e w' ⟨rfl, hb2⟩
      have hF2 := HFill.out.later hb2 hsz
      obtain ⟨⟨v0, d0⟩, f0⟩ := hF2.cells (j := k * 2) (by omega)
      obtain ⟨⟨v1, d1⟩, f1⟩ := hF2.cells (j := k * 2 + 1) (by omega)
      have HF2 : Hid (FillMetricLimit w' w.heap.size fs.length fs k) := hF2
      clear hF2
      go_wp2
      exact ⟨⟨k + 1, by omega, by go_num, HF2.out.step hlt (Nat.le_refl _), ((hbel.trans (hb2.mono hbel.size)).setCell (Nat.le_refl _) _).setCell (Nat.le_refl _) _, by have := hb2.size; simp; omega⟩, by simp [intOf]; omega⟩
    · go_wp2
      go_ret
      have e : k = fs.length := by omega
      exact ⟨rfl, by have := HFill.out; rw [e] at this; exact this.done (Nat.le_refl _), hbel, hsz⟩
theorem info_Series : (Tryz.prog.info? 101).map (fun i => (i.zero, i.size, i.bytes)) = some (some (.agg #[.string ByteArray.empty, .int .i64 0]), 2, 24) := by kernel_rfl
theorem make_Series (n : Nat) (hn : n ≤ 1048576) (w : World) :
    (Instr.makeSlice 92 (.int .i64 (n : Int)) (.int .i64 (n : Int))).run Tryz.prog w = .ok (.slice (some ⟨w.heap.size, 0, none⟩) n n) (w.alloc (.cells (madeCells #[.string ByteArray.empty, .int .i64 0] (n * 2)) 101)) := by
  obtain ⟨i, hi, hzz⟩ := Option.map_eq_some_iff.1 info_Series
  simp only [Prod.mk.injEq] at hzz
  obtain ⟨hz, hs, hb⟩ := hzz
  have hr := run_make (P := Tryz.prog) w 92 101 i _ Tryz.underlying92 hi hz .i64 .i64 n n (by omega) (Int.le_refl _) (by rw [hb]; omega) (by omega)
  simp only [Int.toNat_natCast, hs] at hr
  exact hr
def FillSeries (w : World) (g n : Nat) (fs : List PairD) (k : Nat) : Prop := ∃ cur : Array Value, w.heap[g]? = some (.cells cur 101 (0, 0)) ∧ cur.size = n * 2 ∧
  ∀ i (h : i < fs.length), i < k → cur[i * 2]? = some (.string fs[i].s) ∧ cur[i * 2 + 1]? = some (.int .i64 fs[i].n)
theorem FillSeries.later {w w' : World} {g n k : Nat} {fs : List PairD} {B : Nat} (h : FillSeries w g n fs k) (hb : Below B w w') (hg : g < B) : FillSeries w' g n fs k := by
  obtain ⟨cur, h1, h2⟩ := h
  exact ⟨cur, by rw [hb.block g hg]; exact h1, h2⟩
theorem FillSeries.cells {w : World} {g n k : Nat} {fs : List PairD} (h : FillSeries w g n fs k) {j : Nat} (hj : j < n * 2) : (∃ v, w.cell? ⟨g, j, none⟩ = some v) ∧ w.frozen? ⟨g, j, none⟩ = false := by
  obtain ⟨cur, h1, h2, _⟩ := h
  refine ⟨⟨cur[j], ?_⟩, frozen_of_row w g j cur _ h1⟩
  rw [cell_of_row w g j cur _ _ h1]
  exact Array.getElem?_eq_getElem (by omega)
theorem FillSeries.step {w : World} {g n k : Nat} {fs : List PairD} (h : FillSeries w g n fs k) (hk : k < fs.length) (hn : fs.length ≤ n) :
    FillSeries ((w.setCell ⟨g, k * 2, none⟩ (.string fs[k].s)).setCell ⟨g, k * 2 + 1, none⟩ (.int .i64 fs[k].n)) g n fs (k + 1) := by
  obtain ⟨cur, h1, h2, h3⟩ := h
  refine ⟨_, heap_setCell_same _ _ _ _ _ _ (heap_setCell_same _ _ _ _ _ _ h1), by simp [h2], fun i hi hlt => ?_⟩
  by_cases e : i = k
  · subst e
    refine ⟨?_, ?_⟩ <;> simp [Array.getElem?_setIfInBounds] <;> omega
  · obtain ⟨a1, a2⟩ := h3 i hi (by omega)
    refine ⟨?_, ?_⟩
    · rw [Array.getElem?_setIfInBounds_ne (by omega), Array.getElem?_setIfInBounds_ne (by omega)]; exact a1
    · rw [Array.getElem?_setIfInBounds_ne (by omega), Array.getElem?_setIfInBounds_ne (by omega)]; exact a2
theorem FillSeries.done {w : World} {g B : Nat} {fs : List PairD} (h : FillSeries w g fs.length fs fs.length) (hB : B ≤ g) : PairsOwn w B (some ⟨g, 0, none⟩) fs := by
  obtain ⟨cur, h1, h2, h3⟩ := h
  refine Or.inr ⟨g, 0, cur, _, rfl, hB, h1, fun i hi => ?_⟩
  obtain ⟨a1, a2⟩ := h3 i hi hi
  simp only [cell_of_row w g _ cur _ _ h1, Nat.zero_add]
  exact ⟨a1, a2⟩
set_option maxHeartbeats 400000 in
theorem szSeries_any (f : PairD) (left : Int) (w : World) (h0 : 0 ≤ left) (h1 : left ≤ 1048576) (hn : f.s.size ≤ maxLen) :
    Calls Tryz.prog 131 #[.agg #[.string f.s, .int .i64 f.n], .int .i64 left] w fun e w' => e = .returned (.int .i64 (szPair left f)) ∧ Below w.heap.size w w' := by
  unfold maxLen at hn
  obtain ⟨nm, da⟩ := f
  simp only at hn ⊢
  by_cases c1 : left - nm.size < 0
  · have e : szPair left ⟨nm, da⟩ = -1 := by unfold szPair; rw [if_neg]; simp only; omega
    rw [e]
    go_enter Tryz.func131, Tryz.ntmps131
    go_wp2
    go_ret
    exact ⟨rfl, (Below.refl _ _).alloc (Nat.le_refl _) _⟩
  · have e : szPair left ⟨nm, da⟩ = left - nm.size := by unfold szPair; rw [if_pos]; simp only; omega
    rw [e]
    go_enter Tryz.func131, Tryz.ntmps131
    go_wp2
    go_ret
    exact ⟨rfl, (Below.refl _ _).alloc (Nat.le_refl _) _⟩
set_option maxHeartbeats 1000000 in
theorem szSeriesS_any (a : Option Addr) (cap : Nat) (fs : List PairD) (left : Int) (w : World) (h0 : 0 ≤ left) (h1 : left ≤ 1048576) (hf : PairsIn w a fs) (hs : ShortP fs) (hlen : fs.length ≤ maxLen) :
    Calls Tryz.prog 113 #[.slice a fs.length cap, .int .i64 left] w fun e w' => e = .returned (.int .i64 (szPairs left fs)) ∧ Below w.heap.size w w' := by
  unfold maxLen at hlen
  by_cases c1 : left - fs.length < 0
  · have e : szPairs left fs = -1 := by unfold szPairs; rw [if_neg]; omega
    rw [e]
    clear hf hs
    go_enter Tryz.func113, Tryz.ntmps113
    go_wp2
    go_ret
    exact ⟨rfl, Below.refl _ _⟩
  · have hne : ¬ (left - fs.length < 0) := c1
    have HF : Hid (PairsIn w a fs) := hf
    have HS : Hid (ShortP fs) := hs
    clear hf hs
    go_enter Tryz.func113, Tryz.ntmps113
    go_wp2
    go_loopw [1, 5] (fun l i wr => ∃ k : Nat, k ≤ fs.length ∧ i = .int .i64 k ∧ (pairBulk (fs.take k) : Int) ≤ left - fs.length ∧ l = .int .i64 (left - fs.length - pairBulk (fs.take k)) ∧ Below w.heap.size w wr) (fun _ i _ => fs.length - (intOf i).toNat)
    case atStart => exact ⟨0, Nat.zero_le _, rfl, by simp [pairBulk]; omega, by simp [pairBulk], Below.refl _ _⟩
    case round =>
      obtain ⟨k, hk, rfl, hle, rfl, hbel⟩ := hrel
      by_cases hlt : k < fs.length
      · obtain ⟨b, o, rfl, hb, c0, c1⟩ := (HF.out.later hbel).at hlt
        have hss := HS.out k hlt
        have hts := pairBulk_take_succ fs k hlt
        have htl := pairBulk_take_le fs (k + 1)
        by_cases c3 : ((fs[k].s.size : Nat) : Int) ≤ left - fs.length - pairBulk (fs.take k)
        · have e : szPair (left - fs.length - pairBulk (fs.take k)) fs[k] = left - fs.length - pairBulk (fs.take (k + 1)) := by
            unfold szPair; rw [if_pos (by omega), hts]; omega
          have E : Hid (szPair (left - fs.length - pairBulk (fs.take k)) fs[k] = left - fs.length - pairBulk (fs.take (k + 1))) := e
          have hle2 : (pairBulk (fs.take (k + 1)) : Int) ≤ left - fs.length := by omega
          clear e hts
          go_wp2_with fail
          refine (szSeries_any fs[k] _ _ (by omega) (by omega) hss).mono ?_
          rintro e w' ⟨rfl, hb2⟩
          rw [E.out]
          go_wp2
          exact ⟨⟨k + 1, by omega, by go_num, hle2, rfl, hbel.trans (hb2.mono hbel.size)⟩, by simp [intOf]; omega⟩
        · have e : szPair (left - fs.length - pairBulk (fs.take k)) fs[k] = -1 := by
            unfold szPair; rw [if_neg (by omega)]
          have E : Hid (szPair (left - fs.length - pairBulk (fs.take k)) fs[k] = -1) := e
          have E2 : Hid (szPairs left fs = -1) := by show szPairs left fs = -1; unfold szPairs; rw [if_neg (by omega)]
          clear e hts
          go_wp2_with fail
          refine (szSeries_any fs[k] _ _ (by omega) (by omega) hss).mono ?_
          rintro e w' ⟨rfl, hb2⟩
          rw [E.out]
          go_wp2
          go_ret
          exact ⟨ret_int E2.out.symm, hbel.trans (hb2.mono hbel.size)⟩
      · go_wp2
        go_ret
        have e : fs.take k = fs := List.take_of_length_le (by omega)
        rw [e] at hle ⊢
        exact ⟨ret_int (by unfold szPairs; rw [if_pos (by omega)]), hbel⟩
set_option maxHeartbeats 400000 in
theorem toSeries_any (nm : ByteArray) (da : Int) (w : World) :
    Calls Tryz.prog 133 #[.agg #[.string nm, .int .i64 da]] w fun e w' => e = .returned (.agg #[.string nm, .int .i64 da]) ∧ Below w.heap.size w w' := by
  go_enter Tryz.func133, Tryz.ntmps133
  go_wp2
  exact bodyPost_ret (v := .agg #[.string nm, .int .i64 da]) (by simp [results, Tryz.results133, go_sem]) rfl ⟨rfl, (((Below.refl _ _).alloc (Nat.le_refl _) _).alloc (by simp) _).alloc (by simp; omega) _⟩
set_option maxHeartbeats 1000000 in
theorem toSeriesS_any (a : Option Addr) (cap : Nat) (fs : List PairD) (w : World) (hf : PairsIn w a fs) (hlen : fs.length ≤ 1048576) :
    Calls Tryz.prog 115 #[.slice a fs.length cap] w fun e w' => e = .returned (.slice (some ⟨w.heap.size, 0, none⟩) fs.length fs.length) ∧ PairsOwn w' w.heap.size (some ⟨w.heap.size, 0, none⟩) fs ∧ Below w.heap.size w w' ∧ w.heap.size < w'.heap.size := by
  have HF : Hid (PairsIn w a fs) := hf
  clear hf
  have hmk := make_Series fs.length hlen
  go_enter Tryz.func115, Tryz.ntmps115
  go_wp2
  go_loopw [4] (fun i wr => ∃ k : Nat, k ≤ fs.length ∧ i = .int .i64 k ∧ FillSeries wr w.heap.size fs.length fs k ∧ Below w.heap.size w wr ∧ w.heap.size < wr.heap.size) (fun i _ => fs.length - (intOf i).toNat)
  case atStart => exact ⟨0, Nat.zero_le _, rfl, ⟨_, heap_alloc_new _ _, size_madeCells _ _, fun i _ h => absurd h (by omega)⟩, (Below.refl _ _).alloc (Nat.le_refl _) _, by simp⟩
  case round =>
    obtain ⟨k, hk, rfl, hfill, hbel, hsz⟩ := hrel
    have HFill : Hid (FillSeries wr w.heap.size fs.length fs k) := hfill
    clear hfill hmk
    by_cases hlt : k < fs.length
    · obtain ⟨b, o, rfl, hb, c0, c1⟩ := (HF.out.later hbel).at hlt
      go_wp2_with fail
      refine (toSeries_any _ _ _).mono ?_
      rintro e w' ⟨rfl, hb2⟩
      have hF2 := HFill.out.later hb2 hsz
      obtain ⟨⟨v0, d0⟩, f0⟩ := hF2.cells (j := k * 2) (by omega)
      obtain ⟨⟨v1, d1⟩, f1⟩ := hF2.cells (j := k * 2 + 1) (by omega)
      have HF2 : Hid (FillSeries w' w.heap.size fs.length fs k) := hF2
      clear hF2
      go_wp2
      exact ⟨⟨k + 1, by omega, by go_num, HF2.out.step hlt (Nat.le_refl _), ((hbel.trans (hb2.mono hbel.size)).setCell (Nat.le_refl _) _).setCell (Nat.le_refl _) _, by have := hb2.size; simp; omega⟩, by simp [intOf]; omega⟩
    · go_wp2
      go_ret
      have e : k = fs.length := by omega
      exact ⟨rfl, by have := HFill.out; rw [e] at this; exact this.done (Nat.le_refl _), hbel, hsz⟩
end Go.Proofs.YtgnppdghjlnlhaaGreatDoor
