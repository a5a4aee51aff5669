import Derived.Test.YtboofidegpnkaaaGreatDoorProg
import Derived.Test.YtboofidegpnkaaaGreatDoorJ20Eq
import Derived.Test.YtboofidegpnkaaaGreatDoorJ01Btw
import Derived.Laws.Bits64
import Derived.Test.YtboofidegpnkaaaGreatDoorJ04Clone
import Derived.Deep.AppendLies
import Derived.Laws.BytesArg
import Derived.Lib.ItoaNum
namespace Go.Proofs.YtboofidegpnkaaaGreatDoor
open Go.RowKit
theorem szFs_bound {left : Int} {fs : List FileD} (h : 0 ≤ szFs left fs) : (fs.length + bulk fs : Int) ≤ left := by
  unfold szFs at h
  split at h
  · assumption
  · omega
theorem owned_of {w : World} {B g : Nat} {fs : List FileD} (h : FilesIn w (some ⟨g, 0, none⟩) fs) (hx : ∃ cur t, w.heap[g]? = some (.cells cur t (0, 0))) (hB : B ≤ g) : Owned w B (some ⟨g, 0, none⟩) fs := by
  obtain ⟨cur, t, hx⟩ := hx
  rcases h with h | ⟨b, o, e, _, h⟩
  · exact Or.inl h
  · simp only [Option.some.injEq, Addr.mk.injEq, and_true] at e
    obtain ⟨rfl, rfl⟩ := e
    exact Or.inr ⟨g, 0, cur, t, rfl, hB, hx, h⟩
theorem FilesIn.lt {w : World} {a : Option Addr} {fs : List FileD} (h : FilesIn w a fs) (hn : fs ≠ []) : ∃ b o, a = some ⟨b, o, none⟩ ∧ b < w.heap.size := by
  rcases h with h | ⟨b, o, e, hlt, _⟩
  · exact absurd h hn
  · exact ⟨b, o, e, hlt⟩
theorem blk_new (w : World) (cs : Array Value) (t : TypeId) : Blk (w.alloc (.cells cs t)) w.heap.size cs t := heap_alloc_new _ _
theorem Blk.six {w : World} {b : Nat} {v0 v1 v2 v3 v4 v5 : Value} {t : TypeId} (h : Blk w b #[v0, v1, v2, v3, v4, v5] t) :
    w.cell? ⟨b, 0, none⟩ = some v0 ∧ w.cell? ⟨b, 1, none⟩ = some v1 ∧ w.cell? ⟨b, 2, none⟩ = some v2 ∧ w.cell? ⟨b, 3, none⟩ = some v3 ∧ w.cell? ⟨b, 4, none⟩ = some v4 ∧ w.cell? ⟨b, 5, none⟩ = some v5 := by
  simp [h.cell]
theorem Owned.but {w w' : World} {B g : Nat} {a : Option Addr} {fs : List FileD} (h : Owned w B a fs) (hb : But g w w') (hg : g < B) : Owned w' B a fs := by
  rcases h with h | ⟨g', o, cur, t, rfl, hB, hx, hf⟩
  · exact Or.inl h
  · have he : w'.heap[g']? = w.heap[g']? := hb.block g' (lt_of_block hx) (by omega)
    have hk : ∀ j, w'.cell? ⟨g', j, none⟩ = w.cell? ⟨g', j, none⟩ := fun j => World.cell?_of_block he
    exact Or.inr ⟨g', o, cur, t, rfl, hB, he.trans hx, fun i hi => by simp only [hk]; exact hf i hi⟩
def Front (a : Option Addr) (fs : List FileD) (P : Nat) : Prop := fs = [] ∨ ∃ b o, a = some ⟨b, o, none⟩ ∧ b < P
theorem front_of {w : World} {a : Option Addr} {fs : List FileD} (h : FilesIn w a fs) : Front a fs w.heap.size := by
  rcases h with h | ⟨b, o, e, hlt, _⟩
  · exact Or.inl h
  · exact Or.inr ⟨b, o, e, hlt⟩
theorem FilesIn.but' {w w' : World} {g P : Nat} {a : Option Addr} {fs : List FileD} (h : FilesIn w a fs) (hb : But g w w') (hf : Front a fs P) (hg : P ≤ g) : FilesIn w' a fs := by
  rcases hf with hn | ⟨b, o, rfl, hlt⟩
  · exact Or.inl hn
  · exact h.but hb (by omega)
theorem Marked.keeps {w w' : World} {B n : Nat} {a a2 : Option Addr} {fs : List FileD} (h : Marked w w' B a n) (hf : FilesIn w a2 fs) (hlt : fs = [] ∨ ∃ b o, a2 = some ⟨b, o, none⟩ ∧ b < B) : FilesIn w' a2 fs := by
  rcases hlt with hn | ⟨b, o, rfl, hb⟩
  · exact Or.inl hn
  · rcases h with ⟨_, h⟩ | ⟨_, g, o', _, hB, h⟩
    · exact hf.later h
    · exact hf.but h (by omega)
theorem Blk.but {w w' : World} {g D : Nat} {cur : Array Value} {t : TypeId} (h : Blk w D cur t) (hb : But g w w') (hne : D ≠ g) : Blk w' D cur t := (hb.block D (lt_of_block h) hne).trans h
theorem Blk.five {w : World} {b : Nat} {v0 v1 v2 v3 v4 : Value} {t : TypeId} (h : Blk w b #[v0, v1, v2, v3, v4] t) :
    w.cell? ⟨b, 0, none⟩ = some v0 ∧ w.cell? ⟨b, 1, none⟩ = some v1 ∧ w.cell? ⟨b, 2, none⟩ = some v2 ∧ w.cell? ⟨b, 3, none⟩ = some v3 ∧ w.cell? ⟨b, 4, none⟩ = some v4 := by
  simp [h.cell]
def Apart (a : Option Addr) (fs : List FileD) (P : Nat) : Prop := fs = [] ∨ ∃ b o, a = some ⟨b, o, none⟩ ∧ b ≠ P
theorem Front.apart {a : Option Addr} {fs : List FileD} {P : Nat} (h : Front a fs P) : Apart a fs P := by
  rcases h with h | ⟨b, o, e, hlt⟩
  · exact Or.inl h
  · exact Or.inr ⟨b, o, e, by omega⟩
theorem Owned.apart {w : World} {B P : Nat} {a : Option Addr} {fs : List FileD} (h : Owned w B a fs) (hP : P < B) : Apart a fs P := by
  rcases h with h | ⟨g, o, cur, t, e, hB, _⟩
  · exact Or.inl h
  · exact Or.inr ⟨g, o, e, by omega⟩
theorem blk_of_alloc {w w' : World} {cs : Array Value} {t : TypeId} (h : Below (w.alloc (.cells cs t)).heap.size (w.alloc (.cells cs t)) w') : Blk w' w.heap.size cs t := (blk_new w cs t).later h
theorem blk_fill {w : World} {P : Nat} {z0 z1 z2 z3 z4 z5 v0 v1 v2 v3 v4 v5 : Value} {t : TypeId} (h : Blk w P #[z0, z1, z2, z3, z4, z5] t) :
    Blk ((((((w.setCell ⟨P, 0, none⟩ v0).setCell ⟨P, 1, none⟩ v1).setCell ⟨P, 2, none⟩ v2).setCell ⟨P, 3, none⟩ v3).setCell ⟨P, 4, none⟩ v4).setCell ⟨P, 5, none⟩ v5) P #[v0, v1, v2, v3, v4, v5] t := by
  have h6 := (((((h.set 0 v0).set 1 v1).set 2 v2).set 3 v3).set 4 v4).set 5 v5
  simpa using h6
theorem twoBoxes {w w1 : World} {x y : Array Value} {tx ty : TypeId} (hb : Below ((w.alloc (.cells x tx)).alloc (.cells y ty)).heap.size ((w.alloc (.cells x tx)).alloc (.cells y ty)) w1) :
    Blk w1 w.heap.size x tx ∧ Blk w1 (w.heap.size + 1) y ty ∧ Below w.heap.size w w1 := by
  refine ⟨?_, ?_, bto (bto (bnew _ _) (bnew _ _)) hb⟩
  · exact ((blk_new w x tx).later (bnew _ _)).later hb
  · have h := (blk_new (w.alloc (.cells x tx)) y ty).later hb
    simpa using h
theorem blk_of_drew {w w' : World} {cs : Array Value} {t : TypeId} (h : Below (w.alloc (.cells cs t)).drew.heap.size (w.alloc (.cells cs t)).drew w') : Blk w' w.heap.size cs t := (blk_new w cs t).later ⟨h.os, h.tape, h.output, h.size, h.block⟩
theorem low {a b : World} (h : Below a.heap.size a b) : a.heap.size ≤ b.heap.size := h.size
theorem apart_zero {w : World} {a : Option Addr} {fs : List FileD} {P : Nat} {t : TypeId} (h : FilesIn w a fs) (hz : Blk w P #[.slice none 0 0, .int .i64 0, .int .i64 0, .int .i64 0, .int .i64 0, .bool false] t) : Apart a fs P := by
  rcases h with h | ⟨b, o, e, _, h⟩
  · exact Or.inl h
  · by_cases hn : fs = []
    · exact Or.inl hn
    · refine Or.inr ⟨b, o, e, fun hb => ?_⟩
      subst hb
      have hl : 0 < fs.length := by
        cases fs with
        | nil => exact absurd rfl hn
        | cons _ _ => simp
      have h0 := (h 0 hl).1
      rw [hz.cell] at h0
      simp only [Nat.zero_mul, Nat.add_zero] at h0
      match o, h0 with
      | 0, h0 => simp at h0
      | 1, h0 => simp at h0
      | 2, h0 => simp at h0
      | 3, h0 => simp at h0
      | 4, h0 => simp at h0
      | 5, h0 => simp at h0
      | n + 6, h0 => simp at h0
theorem but_fill {w : World} {P : Nat} (v0 v1 v2 v3 v4 v5 : Value) :
    But P w ((((((w.setCell ⟨P, 0, none⟩ v0).setCell ⟨P, 1, none⟩ v1).setCell ⟨P, 2, none⟩ v2).setCell ⟨P, 3, none⟩ v3).setCell ⟨P, 4, none⟩ v4).setCell ⟨P, 5, none⟩ v5) :=
  ((((((But.refl P w).setCell 0 v0).setCell 1 v1).setCell 2 v2).setCell 3 v3).setCell 4 v4).setCell 5 v5
theorem FilesIn.apart {w w' : World} {P : Nat} {a : Option Addr} {fs : List FileD} (h : FilesIn w a fs) (ha : Apart a fs P) (hb : But P w w') : FilesIn w' a fs := by
  rcases ha with hn | ⟨b, o, rfl, hne⟩
  · exact Or.inl hn
  · exact h.but hb hne
theorem Owned.beside {w w' : World} {B P : Nat} {a : Option Addr} {fs : List FileD} (h : Owned w B a fs) (ha : Apart a fs P) (hb : But P w w') : Owned w' B a fs := by
  rcases h with h | ⟨g', o, cur, t, rfl, hB, hx, hf⟩
  · exact Or.inl h
  · rcases ha with hn | ⟨b, o', e, hne⟩
    · exact Or.inl hn
    · simp only [Option.some.injEq, Addr.mk.injEq, and_true] at e
      obtain ⟨rfl, rfl⟩ := e
      have he : w'.heap[g']? = w.heap[g']? := hb.block g' (lt_of_block hx) hne
      have hk : ∀ j, w'.cell? ⟨g', j, none⟩ = w.cell? ⟨g', j, none⟩ := fun j => World.cell?_of_block he
      exact Or.inr ⟨g', o, cur, t, rfl, hB, he.trans hx, fun i hi => by simp only [hk]; exact hf i hi⟩
end Go.Proofs.YtboofidegpnkaaaGreatDoor
namespace Go.Proofs.YtboofidegpnkaaaGreatDoor
open Go.RowKit
def crcBit (reg x : Nat) : Nat := if (reg + x) % 2 = 1 then (reg / 2) ^^^ 2197175160 else reg / 2
def crcBits (reg b : Nat) : Nat → Nat
  | 0 => reg
  | k + 1 => crcBit (crcBits reg b k) (b / 2 ^ k)
def crcByte (reg : Nat) (c : UInt8) : Nat := crcBits reg c.toNat 8
def crcL (l : List UInt8) : Nat := l.foldl crcByte 4294967295
def crcV (s : ByteArray) : Nat := 4294967295 - crcL s.data.toList
theorem crcBit_lt {reg x : Nat} (h : reg < 4294967296) : crcBit reg x < 4294967296 := by
  unfold crcBit
  split
  · exact Nat.xor_lt_two_pow (n := 32) (by omega) (by omega)
  · omega
theorem crcBits_lt {reg b : Nat} (h : reg < 4294967296) : ∀ k, crcBits reg b k < 4294967296
  | 0 => h
  | k + 1 => crcBit_lt (crcBits_lt h k)
theorem crcL_lt (l : List UInt8) : crcL l < 4294967296 := by
  have hg : ∀ (l : List UInt8) (r : Nat), r < 4294967296 → l.foldl crcByte r < 4294967296 := fun l => by
    induction l with
    | nil => exact fun r h => h
    | cons c l ih => exact fun r h => ih _ (crcBits_lt h 8)
  exact hg l _ (by omega)
theorem crcL_snoc (l : List UInt8) (c : UInt8) : crcL (l ++ [c]) = crcByte (crcL l) c := by simp [crcL]
theorem crcV_lt (s : ByteArray) : crcV s < 4294967296 := by unfold crcV; omega
theorem xor_i64 (a b : Nat) (ha : a < 4611686018427387904) (hb : b < 4611686018427387904) : bits .xor .i64 (a : Int) (b : Int) = ((a ^^^ b : Nat) : Int) := by
  have hx : a ^^^ b < 2 ^ 62 := Nat.xor_lt_two_pow (by omega) (by omega)
  show IntKind.i64.wrap ((BitVec.ofInt 64 (a : Int) ^^^ BitVec.ofInt 64 (b : Int)).toNat : Int) = _
  rw [BitVec.toNat_xor, BitVec.ofInt_natCast, BitVec.ofInt_natCast, BitVec.toNat_ofNat, BitVec.toNat_ofNat, Nat.mod_eq_of_lt (by omega), Nat.mod_eq_of_lt (by omega)]
  simp only [IntKind.wrap, IntKind.bits, IntKind.signed]
  simp
  omega
end Go.Proofs.YtboofidegpnkaaaGreatDoor
namespace Go.Proofs.YtboofidegpnkaaaGreatDoor
open Go.RowKit
def beL (l : List UInt8) : Nat := l.foldl (fun v c => v * 256 + c.toNat) 0
theorem beL_snoc (l : List UInt8) (c : UInt8) : beL (l ++ [c]) = beL l * 256 + c.toNat := by simp [beL]
theorem beL_lt (l : List UInt8) : beL l < 256 ^ l.length := by
  have hg : ∀ (n : Nat) (l : List UInt8), l.length = n → beL l < 256 ^ n := fun n => by
    induction n with
    | zero => intro l h; rw [List.length_eq_zero_iff.1 h]; decide
    | succ n ih =>
      intro l h
      have hne : l ≠ [] := by intro e; rw [e] at h; simp at h
      rw [← List.dropLast_concat_getLast hne, beL_snoc]
      have h1 := ih l.dropLast (by simp [h])
      have h2 := (l.getLast hne).toNat_lt
      rw [Nat.pow_succ]
      omega
  exact hg _ l rfl
def sectL (s : ByteArray) (p n : Nat) : List UInt8 := (s.data.toList.drop p).take n
theorem sectL_length {s : ByteArray} {p n : Nat} (h : p + n ≤ s.size) : (sectL s p n).length = n := by
  have : s.data.toList.length = s.size := by simp
  simp only [sectL, List.length_take, List.length_drop]
  omega
theorem sectL_snoc {s : ByteArray} {p k : Nat} (h : p + k < s.size) : sectL s p (k + 1) = sectL s p k ++ [s[p + k]] := by
  have hl : s.data.toList.length = s.size := by simp
  unfold sectL
  rw [List.take_succ_eq_append_getElem (by rw [List.length_drop, hl]; omega), List.getElem_drop]
  rfl
end Go.Proofs.YtboofidegpnkaaaGreatDoor
namespace Go.Proofs.YtboofidegpnkaaaGreatDoor
open Go.RowKit
def shrN (v : Int) : Nat → Int
  | 0 => v
  | k + 1 => shrN v k / 256
def numI (v : Int) : Nat → List Int
  | 0 => []
  | n + 1 => shrN v n % 256 :: numI v n
def numS (n : Nat) (v : Int) : ByteArray := strOfNums (numI v n)
theorem numI_length (v : Int) : ∀ n, (numI v n).length = n
  | 0 => rfl
  | n + 1 => by simp [numI, numI_length v n]
theorem numS_size (n : Nat) (v : Int) : (numS n v).size = n := by
  rw [numS, strOfNums_size, numI_length]
theorem info_u8 : ∃ i, Tryz.prog.info? 5 = some i ∧ i.zero = some (.int .u8 0) ∧ i.size = 1 ∧ i.bytes = 1 := by
  have h : (Tryz.prog.info? 5).map (fun i => (i.zero, i.size, i.bytes)) = some (some (.int .u8 0), 1, 1) := by kernel_rfl
  obtain ⟨i, hi, hz⟩ := Option.map_eq_some_iff.1 h
  simp only [Prod.mk.injEq] at hz
  exact ⟨i, hi, hz.1, hz.2.1, hz.2.2⟩
theorem shrN_rng (v : Int) (h0 : -9223372036854775808 ≤ v) (h1 : v ≤ 9223372036854775807) : ∀ k, -9223372036854775808 ≤ shrN v k ∧ shrN v k ≤ 9223372036854775807
  | 0 => ⟨h0, h1⟩
  | k + 1 => by have := shrN_rng v h0 h1 k; unfold shrN; omega
theorem conv_row {w : World} {B : Nat} {av : Option Addr} {cv : Nat} {ys : List Int} (h : w.ownsRow B 5 1 (.slice av ys.length cv) ys.length (ys.map (Value.int .u8))) :
    (convert 70 9 (.slice av ys.length cv)).run Tryz.prog w = .ok (.string (strOfNums ys)) w := by
  rcases h.2 with ⟨he, hl⟩ | ⟨g, cap, cur, he, _, hg, hle, _, hsz, htk⟩
  · simp only [Value.slice.injEq] at he
    obtain ⟨rfl, h1, rfl⟩ := he
    have e : ys = [] := List.length_eq_zero_iff.1 h1
    subst e
    exact run_convert_bytes_nil w 70 5 Tryz.underlying70 Tryz.underlying5 _ _ 9 Tryz.underlying9
  · simp only [Value.slice.injEq] at he
    obtain ⟨rfl, _, rfl⟩ := he
    refine run_convert_bytes_arg w 70 5 Tryz.underlying70 Tryz.underlying5 g 0 _ _ ys rfl (fun i hi => ?_) 9 Tryz.underlying9
    rw [Nat.zero_add, cell_of_row w g i cur _ _ hg]
    have h2 : (cur.toList.take (ys.length * 1))[i]? = (ys.map (Value.int .u8))[i]? := by rw [htk]
    rw [List.getElem?_take_of_lt (by omega)] at h2
    rw [← Array.getElem?_toList, h2]
    simp [List.getD, List.getElem?_eq_getElem hi]
set_option maxRecDepth 100000 in
set_option maxHeartbeats 1000000 in
theorem specNum_any (n : Nat) (v : Int) (w : World) (hn : n ≤ 8) (h0 : -9223372036854775808 ≤ v) (h1 : v ≤ 9223372036854775807) :
    Calls Tryz.prog 31 #[.int .i64 n, .int .i64 v] w fun e w' => e = .returned (.string (numS n v)) ∧ Below w.heap.size w w' := by
  obtain ⟨ti, hti, hz0, hz1, hz2⟩ := info_u8
  have HI : Hid (Tryz.prog.info? 5 = some ti) := hti
  clear hti
  have HV : Hid (-9223372036854775808 ≤ v ∧ v ≤ 9223372036854775807) := ⟨h0, h1⟩
  clear h0 h1
  go_enter Tryz.func31, Tryz.ntmps31
  go_wp2
  go_loopw [5, 6, 7, 8] (fun out i _ _ wr => ∃ (m : Nat) (ys : List Int) (av : Option Addr) (cv : Nat), ys.length + m = n ∧ Hid (ys ++ numI v m = numI v n) ∧ i = .int .i64 ((m : Int) - 1) ∧ out = .slice av ys.length cv ∧ Hid (wr.ownsRow w.heap.size 5 1 (.slice av ys.length cv) ys.length (ys.map (Value.int .u8))) ∧ Below w.heap.size w wr) (fun _ i _ _ _ => ((intOf i) + 1).toNat)
  case atStart =>
    exact ⟨n, [], _, _, by simp, by show _ = _; simp, by simp, rfl, World.ownsRow_made w #[] 0 (Nat.le_refl _) (by simp [maxLen]) (by simp), bnew _ _⟩
  case round =>
    obtain ⟨m, ys, av, cv, hm, hnum, rfl, rfl, hrow, hbel⟩ := hrel
    by_cases hp : 0 < m
    · obtain ⟨r, rfl⟩ : ∃ r, m = r + 1 := ⟨m - 1, by omega⟩
      have er : ((r + 1 : Nat) : Int) - 1 = (r : Int) := by omega
      rw [er]
      clear er
      go_wp2
      go_loop [7, 8] (fun x k => ∃ (j : Nat) (X : Int), j ≤ r ∧ k = .int .i64 j ∧ x = .int .i64 X ∧ Hid (X = shrN v j)) (fun _ k => r - (intOf k).toNat)
      case atStart => exact ⟨0, v, Nat.zero_le _, rfl, rfl, rfl⟩
      case round =>
        obtain ⟨j, X, hj, rfl, rfl, hX⟩ := hrel
        by_cases hlt : j < r
        · go_wp2
          exact ⟨⟨j + 1, X / 256, by omega, by go_num, rfl, by show _ = _; rw [shrN, hX.out]⟩, by simp [intOf]; omega⟩
        · have e : j = r := by omega
          subst e
          have hsz := hbel.size
          go_wp2_with (at_builtin; refine wpList_append_lies _ rfl _ _ _ rfl w.heap.size 5 ti _ 1 1 Tryz.underlying70 HI.out hz0 hz1 hz2 rfl (by omega) (.slice av ys.length cv) ys.length (ys.map (Value.int .u8)) rfl (by exact row_later hrow.out (bnew _ _)) ⟨wr.heap.size, 0, none⟩ 1 1 [.int .u8 (X % 256)] rfl rfl (by exact World.news_of_block (heap_alloc_new _ _)) (by simp [Value.oneCell']) (by omega) (by simp [maxLen]; omega) (by omega) (by simp; omega) (wr.heap.size + 1) (by simp) ?_; intro g5 cap5 w5 hown5 hgrow5 hat5 hlt5)
          have hB5 : Below w.heap.size w w5 := (bto hbel (bnew _ _)).grown hgrow5 (by simp; omega) (fun q hq => by
            rcases hrow.out.2 with ⟨he, _⟩ | ⟨g, cap, cur, he, hB, _⟩
            · rw [he] at hq; simp [Value.ownBlock] at hq
            · rw [he] at hq; simp [Value.ownBlock] at hq; omega)
          have hxs : ys.map (Value.int .u8) ++ [Value.int .u8 (X % 256)] = (ys ++ [X % 256]).map (Value.int .u8) := by simp
          have hle : (ys ++ [X % 256]).length = ys.length + 1 := by simp
          rw [hxs, ← hle] at hown5
          refine ⟨⟨j, ys ++ [X % 256], some ⟨g5, 0, none⟩, cap5, by rw [hle]; omega, ?_, rfl, by rw [hle], hown5, hB5⟩, by simp [intOf]⟩
          show _ = _
          rw [← hnum.out, numI, hX.out]
          simp
    · have e : m = 0 := by omega
      subst e
      have hcv := conv_row hrow.out
      go_wp2
      go_ret
      refine ⟨congrArg (fun x => Ending.returned (.string x)) ?_, hbel⟩
      rw [numS, ← hnum.out, numI, List.append_nil]
end Go.Proofs.YtboofidegpnkaaaGreatDoor
namespace Go.Proofs.YtboofidegpnkaaaGreatDoor
open Go.RowKit
def numN (v : Nat) : Nat → List Nat
  | 0 => []
  | n + 1 => v / 256 ^ n % 256 :: numN v n
theorem numN_length (v : Nat) : ∀ n, (numN v n).length = n
  | 0 => rfl
  | n + 1 => by simp [numN, numN_length v n]
theorem shrN_nat (v : Nat) : ∀ k, shrN (v : Int) k = ((v / 256 ^ k : Nat) : Int)
  | 0 => by simp [shrN]
  | k + 1 => by rw [shrN, shrN_nat v k, Nat.pow_succ, ← Nat.div_div_eq_div_mul]; omega
theorem numI_nat (v : Nat) : ∀ n, numI (v : Int) n = (numN v n).map (fun x : Nat => (x : Int))
  | 0 => rfl
  | n + 1 => by rw [numI, numN, List.map_cons, numI_nat v n, shrN_nat]; simp
theorem numN_add (a b n : Nat) : ∀ m, m ≤ n → numN (a * 256 ^ n + b) m = numN b m
  | 0, _ => rfl
  | m + 1, h => by
    rw [numN, numN, numN_add a b n m (by omega)]
    congr 1
    obtain ⟨d, rfl⟩ : ∃ d, n = m + 1 + d := ⟨n - (m + 1), by omega⟩
    have e : a * 256 ^ (m + 1 + d) + b = b + 256 ^ m * (a * 256 ^ d * 256) := by rw [Nat.pow_add, Nat.pow_succ, Nat.add_comm]; congr 1; ac_rfl
    rw [e, Nat.add_mul_div_left _ _ (Nat.pow_pos (by omega))]
    omega
theorem beL_cons (c : UInt8) (l : List UInt8) : beL (c :: l) = c.toNat * 256 ^ l.length + beL l := by
  have hg : ∀ (l : List UInt8) (v : Nat), l.foldl (fun v c => v * 256 + c.toNat) v = v * 256 ^ l.length + beL l := fun l => by
    induction l with
    | nil => intro v; simp [beL]
    | cons d l ih =>
      intro v
      have h1 := ih (v * 256 + d.toNat)
      have h2 := ih (0 * 256 + d.toNat)
      simp only [beL, List.foldl_cons, List.length_cons, Nat.pow_succ] at h1 h2 ⊢
      rw [h1, h2]
      simp only [Nat.add_mul, Nat.zero_mul, Nat.zero_add]
      rw [Nat.add_assoc]
      congr 1
      ac_rfl
  have := hg l (0 * 256 + c.toNat)
  simpa [beL] using this
theorem numN_be : ∀ (l : List UInt8), numN (beL l) l.length = l.map (fun c => c.toNat)
  | [] => rfl
  | c :: l => by
    have hb := beL_lt l
    have hc := c.toNat_lt
    rw [List.length_cons, numN, beL_cons, numN_add _ _ _ _ (Nat.le_refl _), numN_be l, List.map_cons]
    congr 1
    rw [Nat.add_comm, Nat.mul_comm, Nat.add_mul_div_left _ _ (Nat.pow_pos (by omega)), Nat.div_eq_of_lt hb]
    omega
theorem numS_be (l : List UInt8) (n : Nat) (h : l.length = n) : numS n (beL l : Nat) = ⟨l.toArray⟩ := by
  subst h
  rw [numS, numI_nat, numN_be, strOfNums]
  congr 2
  rw [List.map_map, List.map_map]
  conv => rhs; rw [← List.map_id l]
  congr 1
  funext c
  simp
theorem be_numN (v : Nat) : ∀ n, beL ((numN v n).map UInt8.ofNat) = v % 256 ^ n
  | 0 => by simp [numN, beL, Nat.mod_one]
  | n + 1 => by
    rw [numN, List.map_cons, beL_cons, be_numN v n, List.length_map, numN_length, UInt8.toNat_ofNat_of_lt' (by show _ < 256; omega), Nat.pow_succ, Nat.mod_mul]
    rw [Nat.mul_comm, Nat.add_comm]
theorem numS_data (n v : Nat) : (numS n v).data.toList = (numN v n).map UInt8.ofNat := by
  rw [numS, numI_nat, strOfNums_data, List.map_map]
  congr 1
theorem be_numS (n v : Nat) (h : v < 256 ^ n) : beL (numS n v).data.toList = v := by
  rw [numS_data, be_numN, Nat.mod_eq_of_lt h]
end Go.Proofs.YtboofidegpnkaaaGreatDoor
namespace Go.Proofs.YtboofidegpnkaaaGreatDoor
open Go.RowKit
theorem bytes_ext {a b : ByteArray} (h : a.data.toList = b.data.toList) : a = b := by
  obtain ⟨⟨l⟩⟩ := a
  obtain ⟨⟨m⟩⟩ := b
  simp only at h
  rw [h]
theorem bytes_append (a b : ByteArray) : (a ++ b).data.toList = a.data.toList ++ b.data.toList := by simp
theorem bytes_part (d : ByteArray) (p n : Nat) : (d.extract p (p + n)).data.toList = sectL d p n := by
  simp [sectL, ByteArray.data_extract, Array.toList_extract]
theorem bytes_size (d : ByteArray) : d.data.toList.length = d.size := by simp
def frameS (p : ByteArray) : ByteArray := if 1 ≤ p.size ∧ p.size ≤ 60000 then numS 4 p.size ++ numS 4 (crcV p : Nat) ++ p else ByteArray.empty
def headN (d : ByteArray) : Nat := beL (sectL d 0 4)
def firstS (d : ByteArray) : ByteArray :=
  if d.size < 8 then ByteArray.empty
  else if d.size - 8 < headN d then ByteArray.empty
  else if frameS (d.extract 8 (8 + headN d)) = ByteArray.empty ∨ frameS (d.extract 8 (8 + headN d)) ≠ d.extract 0 (8 + headN d) then ByteArray.empty
  else d.extract 8 (8 + headN d)
def FrameAt (d : ByteArray) : Prop := 8 ≤ d.size ∧ 1 ≤ headN d ∧ headN d ≤ 60000 ∧ headN d ≤ d.size - 8 ∧ beL (sectL d 4 4) = crcV (d.extract 8 (8 + headN d))
def frD (d : ByteArray) : Decidable (FrameAt d) := by unfold FrameAt; infer_instance
def frB (d : ByteArray) : Bool := @decide (FrameAt d) (frD d)
theorem frB_t {d : ByteArray} (h : FrameAt d) : frB d = true := @decide_eq_true _ (frD d) h
theorem frB_f {d : ByteArray} (h : ¬ FrameAt d) : frB d = false := @decide_eq_false _ (frD d) h
theorem part_size {d : ByteArray} {p n : Nat} (h : p + n ≤ d.size) : (d.extract p (p + n)).size = n := by rw [ByteArray.size_extract]; omega
theorem frameS_size {p : ByteArray} (h : 1 ≤ p.size ∧ p.size ≤ 60000) : (frameS p).size = 8 + p.size := by
  rw [frameS, if_pos h, ByteArray.size_append, ByteArray.size_append, numS_size, numS_size]
theorem frame_is {d : ByteArray} (h8 : 8 ≤ d.size) (h1 : 1 ≤ headN d) (h2 : headN d ≤ 60000) (h3 : headN d ≤ d.size - 8) :
    frameS (d.extract 8 (8 + headN d)) = d.extract 0 (8 + headN d) ↔ beL (sectL d 4 4) = crcV (d.extract 8 (8 + headN d)) := by
  have hz : (d.extract 8 (8 + headN d)).size = headN d := part_size (by omega)
  have hw : (d.extract 0 (8 + headN d)).data.toList = sectL d 0 4 ++ sectL d 4 4 ++ (d.extract 8 (8 + headN d)).data.toList := by
    have e0 := bytes_part d 0 (8 + headN d)
    rw [Nat.zero_add] at e0
    rw [e0, bytes_part]
    simp only [sectL, List.drop_zero]
    have hl := bytes_size d
    rw [show 8 + headN d = 4 + (4 + headN d) by omega, List.take_add, List.take_add, List.drop_drop]
    simp
  have hn : numS 4 (headN d : Nat) = ⟨(sectL d 0 4).toArray⟩ := numS_be _ 4 (sectL_length (by omega))
  rw [frameS, if_pos (by rw [hz]; exact ⟨h1, h2⟩), hz, hn]
  constructor
  · intro h
    have h' := congrArg (fun x : ByteArray => x.data.toList) h
    simp only [bytes_append] at h'
    rw [hw, List.append_left_inj, List.append_right_inj] at h'
    rw [← h', be_numS 4 _ (by have := crcV_lt (d.extract 8 (8 + headN d)); omega)]
  · intro h
    apply bytes_ext
    rw [bytes_append, bytes_append, hw, ← h, numS_be _ 4 (sectL_length (by omega))]
theorem firstS_eq (d : ByteArray) : firstS d = haveI := frD d; if FrameAt d then d.extract 8 (8 + headN d) else ByteArray.empty := by
  unfold firstS
  by_cases h8 : d.size < 8
  · rw [if_pos h8, if_neg (fun h => by have := h.1; omega)]
  · rw [if_neg h8]
    by_cases h3 : d.size - 8 < headN d
    · rw [if_pos h3, if_neg (fun h => by have := h.2.2.2.1; omega)]
    · rw [if_neg h3]
      have hz : (d.extract 8 (8 + headN d)).size = headN d := part_size (by omega)
      by_cases h1 : 1 ≤ headN d ∧ headN d ≤ 60000
      · have hne : frameS (d.extract 8 (8 + headN d)) ≠ ByteArray.empty := by
          intro e
          have := frameS_size (p := d.extract 8 (8 + headN d)) (by rw [hz]; exact h1)
          rw [e, ByteArray.size_empty] at this
          omega
        by_cases hc : beL (sectL d 4 4) = crcV (d.extract 8 (8 + headN d))
        · have hf := (frame_is (by omega) h1.1 h1.2 (by omega)).2 hc
          rw [if_neg (by intro h; rcases h with h | h; exact hne h; exact h hf), if_pos ⟨by omega, h1.1, h1.2, by omega, hc⟩]
        · have hf : ¬ frameS (d.extract 8 (8 + headN d)) = d.extract 0 (8 + headN d) := fun h => hc ((frame_is (by omega) h1.1 h1.2 (by omega)).1 h)
          rw [if_pos (Or.inr hf), if_neg (fun h => hc h.2.2.2.2)]
      · have he : frameS (d.extract 8 (8 + headN d)) = ByteArray.empty := by rw [frameS, if_neg (by rw [hz]; exact h1)]
        rw [if_pos (Or.inl he), if_neg (fun h => h1 ⟨h.2.1, h.2.2.1⟩)]
def scanR (d : ByteArray) : Nat → Nat → List ByteArray × Nat
  | 0, p => ([], p)
  | n + 1, p => haveI := frD (d.extract p d.size); if FrameAt (d.extract p d.size) then
      let q := (d.extract p d.size).extract 8 (8 + headN (d.extract p d.size))
      (q :: (scanR d n (p + 8 + q.size)).1, (scanR d n (p + 8 + q.size)).2) else ([], p)
def scanV (d : ByteArray) : List ByteArray × Nat := scanR d (d.size + 1) 0
end Go.Proofs.YtboofidegpnkaaaGreatDoor
namespace Go.Proofs.YtboofidegpnkaaaGreatDoor
open Go.RowKit
def segD (n : Nat) : Nat → List UInt8
  | 0 => []
  | i + 1 => (48 + UInt8.ofNat (n / 10 ^ i % 10)) :: segD n i
def segN (n : Nat) : ByteArray := ⟨(119 :: 97 :: 108 :: 45 :: segD n 6).toArray⟩
def segS (n : Int) : ByteArray := if 1 ≤ n ∧ n ≤ 999999 then segN n.toNat else ByteArray.empty
theorem segD_length (n : Nat) : ∀ i, (segD n i).length = i
  | 0 => rfl
  | i + 1 => by simp [segD, segD_length n i]
theorem segS_size (n : Int) : (segS n).size ≤ 10 := by
  unfold segS
  split
  · show (119 :: 97 :: 108 :: 45 :: segD n.toNat 6).toArray.size ≤ 10
    simp [segD_length]
  · simp
theorem dig_ofNat (k : Nat) : UInt8.ofNat (48 + k) = 48 + UInt8.ofNat k := by rw [UInt8.ofNat_add]; rfl
theorem itoa_seg (n : Nat) (h : n < 1000000) : Lib.itoa ((1000000 + n : Nat) : Int) = 49 :: segD n 6 := by
  have h7 : Lib.nDigits (1000000 + n) = 7 := Lib.nDigits_unique 6 _ (by omega) (by omega)
  rw [Lib.itoa, if_neg (by omega), Int.toNat_natCast, Lib.decDigits_eq, h7]
  simp only [List.range_succ, List.range_zero, List.map_cons, List.map_nil, List.nil_append, List.cons_append, segD, Lib.dg, dig_ofNat]
  congr 1
  · rw [show (1000000 + n) / 10 ^ (7 - 1 - 0) % 10 = 1 by omega]; rfl
  · simp only [List.cons.injEq, and_true]
    refine ⟨?_, ?_, ?_, ?_, ?_, ?_⟩ <;> congr 2 <;> omega
end Go.Proofs.YtboofidegpnkaaaGreatDoor
