import Derived.Test.YtnbkmmmlhlbfoaaGreatDoorProg
import Derived.Test.YtnbkmmmlhlbfoaaGreatDoorJ02AppA
import Derived.Deep.AppendLies
import Derived.Test.YtnbkmmmlhlbfoaaGreatDoorJ01DrawV
import Derived.Laws.BytesArg
namespace Go.Proofs.YtnbkmmmlhlbfoaaGreatDoor
open Go.RowKit
def flatL (ls : List LabD) : List Value := ls.flatMap fun x => [.string x.name, .string x.value]
theorem flatL_append (a b : List LabD) : flatL (a ++ b) = flatL a ++ flatL b := by simp [flatL]
theorem flatL_length (ls : List LabD) : (flatL ls).length = ls.length * 2 := by
  induction ls with
  | nil => rfl
  | cons f r ih => simp [flatL] at *; omega
theorem info_lab : ∃ i, Tryz.prog.info? 83 = some i ∧ i.zero = some (.agg #[.string ByteArray.empty, .string ByteArray.empty]) ∧ i.size = 2 ∧ i.bytes = 32 := by
  obtain ⟨i, hi, hz⟩ := Option.map_eq_some_iff.1 info_label
  simp only [Prod.mk.injEq] at hz
  exact ⟨i, hi, hz.1, hz.2.1, hz.2.2⟩
theorem news_twoL (W : World) (x : Obj) (cs : Array Value) (t : TypeId) : ∀ j u, cs.toList[j]? = some u → ((W.alloc x).alloc (.cells cs t)).cell? ((⟨W.heap.size + 1, 0, none⟩ : Addr).add j) = some u :=
  World.news_of_block (fr := (0, 0)) (by have h := heap_alloc_new (W.alloc x) (.cells cs t); simpa using h)
theorem isEmp_eq (l : LabD) : isEmp l = l.value.toList.isEmpty := by
  have e : ByteArray.empty.toList = [] := by rw [ByteArray.toList_eq]; rfl
  unfold isEmp
  rw [e]
  cases l.value.toList <;> rfl
theorem flatL_cell (ls : List LabD) : ∀ u ∈ flatL ls, u.oneCell' = true := by
  intro u hu
  simp only [flatL, List.mem_flatMap, List.mem_cons, List.not_mem_nil, or_false] at hu
  obtain ⟨f, _, rfl | rfl⟩ := hu <;> rfl
theorem flatL_at {w : World} {g : Nat} {ys : List LabD} (h : ∀ j u, (flatL ys)[j]? = some u → w.cell? ⟨g, j, none⟩ = some u) (p : Nat) : ∀ j u, (flatL (ys.drop p))[j]? = some u → w.cell? ⟨g, p * 2 + j, none⟩ = some u := by
  intro j u hu
  refine h _ _ ?_
  by_cases hp : p ≤ ys.length
  · have e : flatL ys = flatL (ys.take p) ++ flatL (ys.drop p) := by rw [← flatL_append, List.take_append_drop]
    have hl : (flatL (ys.take p)).length = p * 2 := by rw [flatL_length, List.length_take]; omega
    rw [e, List.getElem?_append_right (by omega), hl, Nat.add_sub_cancel_left]
    exact hu
  · rw [List.drop_of_length_le (by omega)] at hu
    simp [flatL] at hu
theorem flatL_take {ys : List LabD} {p : Nat} : ∀ (j : Nat) (u : Value), (flatL (ys.take p))[j]? = some u → (flatL ys)[j]? = some u := by
  intro j u hu
  have e : flatL ys = flatL (ys.take p) ++ flatL (ys.drop p) := by rw [← flatL_append, List.take_append_drop]
  have hj : j < (flatL (ys.take p)).length := (List.getElem?_eq_some_iff.1 hu).1
  rw [e, List.getElem?_append_left hj]
  exact hu
theorem row_cells {w : World} {B : Nat} {e : TypeId} {g cv : Nat} {ys : List LabD} (h : w.ownsRow B e 2 (.slice (some ⟨g, 0, none⟩) ys.length cv) ys.length (flatL ys)) : ys.length ≤ cv ∧ g < w.heap.size ∧ B ≤ g ∧ ∀ j u, (flatL ys)[j]? = some u → w.cell? ⟨g, j, none⟩ = some u := by
  rcases h.2 with ⟨he, _⟩ | ⟨g', cap', cur, he, hB, hb, hc, _, _, ht⟩
  · simp at he
  · simp only [Value.slice.injEq, Option.some.injEq, Addr.mk.injEq, and_true] at he
    obtain ⟨rfl, _, rfl⟩ := he
    refine ⟨hc, lt_of_block hb, hB, fun j u hu => ?_⟩
    rw [cell_of_row w g j cur _ _ hb, ← Array.getElem?_toList]
    rw [← ht] at hu
    have hj := (List.getElem?_eq_some_iff.1 hu).1
    rw [List.length_take] at hj
    rw [List.getElem?_take_of_lt (by omega)] at hu
    exact hu
theorem src_head {w : World} {g : Nat} {ys : List LabD} (h : ∀ j u, (flatL ys)[j]? = some u → w.cell? ⟨g, j, none⟩ = some u) (p : Nat) : SrcAt w (some ⟨g, 0, none⟩) p (flatL (ys.take p)) :=
  Or.inr ⟨_, rfl, fun j u hu => by rw [addr_add, Nat.zero_add]; exact h _ _ (flatL_take j u hu)⟩
theorem src_tail {w : World} {g cv : Nat} {ys : List LabD} (h : ∀ j u, (flatL ys)[j]? = some u → w.cell? ⟨g, j, none⟩ = some u) (p : Nat) (hc : ys.length ≤ cv) : SrcAt w (if cv = p then some ⟨g, 0, none⟩ else some ⟨g, p * 2, none⟩) (ys.length - p) (flatL (ys.drop p)) := by
  by_cases e : cv = p
  · exact Or.inl (by omega)
  · rw [if_neg e]
    exact Or.inr ⟨_, rfl, fun j u hu => by rw [addr_add]; exact flatL_at h p j u hu⟩
theorem src_one {w : World} {g : Nat} {x y : Value} {t : TypeId} (h : w.heap[g]? = some (.cells #[x, y] t (0, 0))) : SrcAt w (some ⟨g, 0, none⟩) 1 [x, y] :=
  Or.inr ⟨_, rfl, World.news_of_block (cs := #[x, y]) h⟩
theorem cells_later {W w : World} {g : Nat} {ys : List LabD} (h : ∀ j u, (flatL ys)[j]? = some u → W.cell? ⟨g, j, none⟩ = some u) (hg : g < W.heap.size) (hb : Below W.heap.size W w) : ∀ j u, (flatL ys)[j]? = some u → w.cell? ⟨g, j, none⟩ = some u :=
  fun j u hu => (hb.cell hg).trans (h j u hu)
theorem two_new (W : World) (x y : Obj) : ((W.alloc x).alloc y).drew.heap[W.heap.size + 1]? = some y := by
  have h := heap_alloc_new (W.alloc x) y
  have e : (W.alloc x).heap.size = W.heap.size + 1 := by simp
  rw [e] at h
  exact h
theorem two_old (W : World) (x y : Obj) : ((W.alloc x).alloc y).drew.heap[W.heap.size]? = some x := by
  have h := heap_alloc_new W x
  have h2 := (bnew (W.alloc x) y).block W.heap.size (by simp)
  exact h2.trans h
theorem rowE_a (W : World) (t : TypeId) : (W.alloc (.cells #[] t)).drew.ownsRow W.heap.size t 2 (.slice (some ⟨W.heap.size, 0, none⟩) 0 0) 0 [] :=
  ⟨rfl, Or.inr ⟨W.heap.size, 0, #[], rfl, Nat.le_refl _, heap_alloc_new _ _, Nat.le_refl _, Nat.zero_le _, rfl, rfl⟩⟩
theorem rowE_b (W : World) (t : TypeId) (x : Obj) : ((W.alloc (.cells #[] t)).alloc x).drew.ownsRow W.heap.size t 2 (.slice (some ⟨W.heap.size, 0, none⟩) 0 0) 0 [] :=
  ⟨rfl, Or.inr ⟨W.heap.size, 0, #[], rfl, Nat.le_refl _, two_old _ _ _, Nat.le_refl _, Nat.zero_le _, rfl, rfl⟩⟩
theorem rowE_c (W : World) (t : TypeId) (x : Obj) : ((W.alloc x).alloc (.cells #[] t)).drew.ownsRow W.heap.size t 2 (.slice (some ⟨W.heap.size + 1, 0, none⟩) 0 0) 0 [] :=
  ⟨rfl, Or.inr ⟨W.heap.size + 1, 0, #[], rfl, by omega, two_new _ _ _, Nat.le_refl _, Nat.zero_le _, rfl, rfl⟩⟩
end Go.Proofs.YtnbkmmmlhlbfoaaGreatDoor
namespace Go.Proofs.YtnbkmmmlhlbfoaaGreatDoor
open Go.RowKit
def beL (l : List UInt8) : Nat := l.foldl (fun v c => v * 256 + c.toNat) 0
theorem beL_snoc (l : List UInt8) (c : UInt8) : beL (l ++ [c]) = beL l * 256 + c.toNat := by simp [beL]
theorem beL_lt (l : List UInt8) : beL l < 256 ^ l.length := by
  have hg : ∀ (n : Nat) (l : List UInt8), l.length = n → beL l < 256 ^ n := fun n => by
    induction n with
    | zero => intro l h; rw [List.length_eq_zero_iff.1 h]; decide
    | succ n ih =>
      intro l h
      have hne : l ≠ [] := by intro e; rw [e] at h; simp at h
      rw [← List.dropLast_concat_getLast hne, beL_snoc]
      have h1 := ih l.dropLast (by simp [h])
      have h2 := (l.getLast hne).toNat_lt
      rw [Nat.pow_succ]
      omega
  exact hg _ l rfl
def sectL (s : ByteArray) (p n : Nat) : List UInt8 := (s.data.toList.drop p).take n
theorem sectL_length {s : ByteArray} {p n : Nat} (h : p + n ≤ s.size) : (sectL s p n).length = n := by
  have : s.data.toList.length = s.size := by simp
  simp only [sectL, List.length_take, List.length_drop]
  omega
theorem sectL_snoc {s : ByteArray} {p k : Nat} (h : p + k < s.size) : sectL s p (k + 1) = sectL s p k ++ [s[p + k]] := by
  have hl : s.data.toList.length = s.size := by simp
  unfold sectL
  rw [List.take_succ_eq_append_getElem (by rw [List.length_drop, hl]; omega), List.getElem_drop]
  rfl
end Go.Proofs.YtnbkmmmlhlbfoaaGreatDoor
namespace Go.Proofs.YtnbkmmmlhlbfoaaGreatDoor
open Go.RowKit
def shrN (v : Int) : Nat → Int
  | 0 => v
  | k + 1 => shrN v k / 256
def numI (v : Int) : Nat → List Int
  | 0 => []
  | n + 1 => shrN v n % 256 :: numI v n
def numS (n : Nat) (v : Int) : ByteArray := strOfNums (numI v n)
theorem numI_length (v : Int) : ∀ n, (numI v n).length = n
  | 0 => rfl
  | n + 1 => by simp [numI, numI_length v n]
theorem numS_size (n : Nat) (v : Int) : (numS n v).size = n := by
  rw [numS, strOfNums_size, numI_length]
theorem info_u8 : ∃ i, Tryz.prog.info? 5 = some i ∧ i.zero = some (.int .u8 0) ∧ i.size = 1 ∧ i.bytes = 1 := by
  have h : (Tryz.prog.info? 5).map (fun i => (i.zero, i.size, i.bytes)) = some (some (.int .u8 0), 1, 1) := by kernel_rfl
  obtain ⟨i, hi, hz⟩ := Option.map_eq_some_iff.1 h
  simp only [Prod.mk.injEq] at hz
  exact ⟨i, hi, hz.1, hz.2.1, hz.2.2⟩
theorem conv_row {w : World} {B : Nat} {av : Option Addr} {cv : Nat} {ys : List Int} (h : w.ownsRow B 5 1 (.slice av ys.length cv) ys.length (ys.map (Value.int .u8))) :
    (convert 22 9 (.slice av ys.length cv)).run Tryz.prog w = .ok (.string (strOfNums ys)) w := by
  rcases h.2 with ⟨he, hl⟩ | ⟨g, cap, cur, he, _, hg, hle, _, hsz, htk⟩
  · simp only [Value.slice.injEq] at he
    obtain ⟨rfl, h1, rfl⟩ := he
    have e : ys = [] := List.length_eq_zero_iff.1 h1
    subst e
    exact run_convert_bytes_nil w 22 5 Tryz.underlying22 Tryz.underlying5 _ _ 9 Tryz.underlying9
  · simp only [Value.slice.injEq] at he
    obtain ⟨rfl, _, rfl⟩ := he
    refine run_convert_bytes_arg w 22 5 Tryz.underlying22 Tryz.underlying5 g 0 _ _ ys rfl (fun i hi => ?_) 9 Tryz.underlying9
    rw [Nat.zero_add, cell_of_row w g i cur _ _ hg]
    have h2 : (cur.toList.take (ys.length * 1))[i]? = (ys.map (Value.int .u8))[i]? := by rw [htk]
    rw [List.getElem?_take_of_lt (by omega)] at h2
    rw [← Array.getElem?_toList, h2]
    simp [List.getD, List.getElem?_eq_getElem hi]
set_option maxRecDepth 100000 in
set_option maxHeartbeats 1000000 in
theorem specNum_any (n : Nat) (v : Int) (w : World) (hn : n ≤ 8) (h0 : -9223372036854775808 ≤ v) (h1 : v ≤ 9223372036854775807) :
    Calls Tryz.prog 68 #[.int .i64 n, .int .i64 v] w fun e w' => e = .returned (.string (numS n v)) ∧ Below w.heap.size w w' := by
  obtain ⟨ti, hti, hz0, hz1, hz2⟩ := info_u8
  have HI : Hid (Tryz.prog.info? 5 = some ti) := hti
  clear hti
  have HV : Hid (-9223372036854775808 ≤ v ∧ v ≤ 9223372036854775807) := ⟨h0, h1⟩
  clear h0 h1
  go_enter Tryz.func68, Tryz.ntmps68
  go_wp2
  go_loopw [5, 6, 7, 8] (fun out i _ _ wr => ∃ (m : Nat) (ys : List Int) (av : Option Addr) (cv : Nat), ys.length + m = n ∧ Hid (ys ++ numI v m = numI v n) ∧ i = .int .i64 ((m : Int) - 1) ∧ out = .slice av ys.length cv ∧ Hid (wr.ownsRow w.heap.size 5 1 (.slice av ys.length cv) ys.length (ys.map (Value.int .u8))) ∧ Below w.heap.size w wr) (fun _ i _ _ _ => ((intOf i) + 1).toNat)
  case atStart =>
    exact ⟨n, [], _, _, by simp, by show _ = _; simp, by simp, rfl, World.ownsRow_made w #[] 0 (Nat.le_refl _) (by simp [maxLen]) (by simp), bnew _ _⟩
  case round =>
    obtain ⟨m, ys, av, cv, hm, hnum, rfl, rfl, hrow, hbel⟩ := hrel
    by_cases hp : 0 < m
    · obtain ⟨r, rfl⟩ : ∃ r, m = r + 1 := ⟨m - 1, by omega⟩
      have er : ((r + 1 : Nat) : Int) - 1 = (r : Int) := by omega
      rw [er]
      clear er
      go_wp2
      go_loop [7, 8] (fun x k => ∃ (j : Nat) (X : Int), j ≤ r ∧ k = .int .i64 j ∧ x = .int .i64 X ∧ Hid (X = shrN v j)) (fun _ k => r - (intOf k).toNat)
      case atStart => exact ⟨0, v, Nat.zero_le _, rfl, rfl, rfl⟩
      case round =>
        obtain ⟨j, X, hj, rfl, rfl, hX⟩ := hrel
        by_cases hlt : j < r
        · go_wp2
          exact ⟨⟨j + 1, X / 256, by omega, by go_num, rfl, by show _ = _; rw [shrN, hX.out]⟩, by simp [intOf]; omega⟩
        · have e : j = r := by omega
          subst e
          have hsz := hbel.size
          go_wp2_with (at_builtin; refine wpList_append_lies _ rfl _ _ _ rfl w.heap.size 5 ti _ 1 1 Tryz.underlying22 HI.out hz0 hz1 hz2 rfl (by omega) (.slice av ys.length cv) ys.length (ys.map (Value.int .u8)) rfl (by exact row_later hrow.out (bnew _ _)) ⟨wr.heap.size, 0, none⟩ 1 1 [.int .u8 (X % 256)] rfl rfl (by exact World.news_of_block (heap_alloc_new _ _)) (by simp [Value.oneCell']) (by omega) (by simp [maxLen]; omega) (by omega) (by simp; omega) (wr.heap.size + 1) (by simp) ?_; intro g5 cap5 w5 hown5 hgrow5 hat5 hlt5)
          have hB5 : Below w.heap.size w w5 := (bto hbel (bnew _ _)).grown hgrow5 (by simp; omega) (fun q hq => by
            rcases hrow.out.2 with ⟨he, _⟩ | ⟨g, cap, cur, he, hB, _⟩
            · rw [he] at hq; simp [Value.ownBlock] at hq
            · rw [he] at hq; simp [Value.ownBlock] at hq; omega)
          have hxs : ys.map (Value.int .u8) ++ [Value.int .u8 (X % 256)] = (ys ++ [X % 256]).map (Value.int .u8) := by simp
          have hle : (ys ++ [X % 256]).length = ys.length + 1 := by simp
          rw [hxs, ← hle] at hown5
          refine ⟨⟨j, ys ++ [X % 256], some ⟨g5, 0, none⟩, cap5, by rw [hle]; omega, ?_, rfl, by rw [hle], hown5, hB5⟩, by simp [intOf]⟩
          show _ = _
          rw [← hnum.out, numI, hX.out]
          simp
    · have e : m = 0 := by omega
      subst e
      have hcv := conv_row hrow.out
      go_wp2
      go_ret
      refine ⟨congrArg (fun x => Ending.returned (.string x)) ?_, hbel⟩
      rw [numS, ← hnum.out, numI, List.append_nil]
end Go.Proofs.YtnbkmmmlhlbfoaaGreatDoor
namespace Go.Proofs.YtnbkmmmlhlbfoaaGreatDoor
open Go.RowKit
def numN (v : Nat) : Nat → List Nat
  | 0 => []
  | n + 1 => v / 256 ^ n % 256 :: numN v n
theorem numN_length (v : Nat) : ∀ n, (numN v n).length = n
  | 0 => rfl
  | n + 1 => by simp [numN, numN_length v n]
theorem shrN_nat (v : Nat) : ∀ k, shrN (v : Int) k = ((v / 256 ^ k : Nat) : Int)
  | 0 => by simp [shrN]
  | k + 1 => by rw [shrN, shrN_nat v k, Nat.pow_succ, ← Nat.div_div_eq_div_mul]; omega
theorem numI_nat (v : Nat) : ∀ n, numI (v : Int) n = (numN v n).map (fun x : Nat => (x : Int))
  | 0 => rfl
  | n + 1 => by rw [numI, numN, List.map_cons, numI_nat v n, shrN_nat]; simp
theorem numN_add (a b n : Nat) : ∀ m, m ≤ n → numN (a * 256 ^ n + b) m = numN b m
  | 0, _ => rfl
  | m + 1, h => by
    rw [numN, numN, numN_add a b n m (by omega)]
    congr 1
    obtain ⟨d, rfl⟩ : ∃ d, n = m + 1 + d := ⟨n - (m + 1), by omega⟩
    have e : a * 256 ^ (m + 1 + d) + b = b + 256 ^ m * (a * 256 ^ d * 256) := by rw [Nat.pow_add, Nat.pow_succ, Nat.add_comm]; congr 1; ac_rfl
    rw [e, Nat.add_mul_div_left _ _ (Nat.pow_pos (by omega))]
    omega
theorem beL_cons (c : UInt8) (l : List UInt8) : beL (c :: l) = c.toNat * 256 ^ l.length + beL l := by
  have hg : ∀ (l : List UInt8) (v : Nat), l.foldl (fun v c => v * 256 + c.toNat) v = v * 256 ^ l.length + beL l := fun l => by
    induction l with
    | nil => intro v; simp [beL]
    | cons d l ih =>
      intro v
      have h1 := ih (v * 256 + d.toNat)
      have h2 := ih (0 * 256 + d.toNat)
      simp only [beL, List.foldl_cons, List.length_cons, Nat.pow_succ] at h1 h2 ⊢
      rw [h1, h2]
      simp only [Nat.add_mul, Nat.zero_mul, Nat.zero_add]
      rw [Nat.add_assoc]
      congr 1
      ac_rfl
  have := hg l (0 * 256 + c.toNat)
  simpa [beL] using this
theorem numN_be : ∀ (l : List UInt8), numN (beL l) l.length = l.map (fun c => c.toNat)
  | [] => rfl
  | c :: l => by
    have hb := beL_lt l
    have hc := c.toNat_lt
    rw [List.length_cons, numN, beL_cons, numN_add _ _ _ _ (Nat.le_refl _), numN_be l, List.map_cons]
    congr 1
    rw [Nat.add_comm, Nat.mul_comm, Nat.add_mul_div_left _ _ (Nat.pow_pos (by omega)), Nat.div_eq_of_lt hb]
    omega
theorem numS_be (l : List UInt8) (n : Nat) (h : l.length = n) : numS n (beL l : Nat) = ⟨l.toArray⟩ := by
  subst h
  rw [numS, numI_nat, numN_be, strOfNums]
  congr 2
  rw [List.map_map, List.map_map]
  conv => rhs; rw [← List.map_id l]
  congr 1
  funext c
  simp
theorem be_numN (v : Nat) : ∀ n, beL ((numN v n).map UInt8.ofNat) = v % 256 ^ n
  | 0 => by simp [numN, beL, Nat.mod_one]
  | n + 1 => by
    rw [numN, List.map_cons, beL_cons, be_numN v n, List.length_map, numN_length, UInt8.toNat_ofNat_of_lt' (by show _ < 256; omega), Nat.pow_succ, Nat.mod_mul]
    rw [Nat.mul_comm, Nat.add_comm]
theorem numS_data (n v : Nat) : (numS n v).data.toList = (numN v n).map UInt8.ofNat := by
  rw [numS, numI_nat, strOfNums_data, List.map_map]
  congr 1
theorem be_numS (n v : Nat) (h : v < 256 ^ n) : beL (numS n v).data.toList = v := by
  rw [numS_data, be_numN, Nat.mod_eq_of_lt h]
end Go.Proofs.YtnbkmmmlhlbfoaaGreatDoor
namespace Go.Proofs.YtnbkmmmlhlbfoaaGreatDoor
open Go.RowKit
def s8B (s : ByteArray) : ByteArray := numS 1 (s.size : Nat) ++ s
def s16B (s : ByteArray) : ByteArray := numS 2 (s.size : Nat) ++ s
theorem s8B_size (s : ByteArray) : (s8B s).size = 1 + s.size := by rw [s8B, ByteArray.size_append, numS_size]
theorem s16B_size (s : ByteArray) : (s16B s).size = 2 + s.size := by rw [s16B, ByteArray.size_append, numS_size]
end Go.Proofs.YtnbkmmmlhlbfoaaGreatDoor
namespace Go.Proofs.YtnbkmmmlhlbfoaaGreatDoor
open Go.RowKit
def eqLabB (x y : LabD) : Bool := x.name.toList == y.name.toList && x.value.toList == y.value.toList
def sameLs : List LabD → List LabD → Bool
  | [], [] => true
  | x :: r, y :: q => eqLabB x y && sameLs r q
  | _, _ => false
theorem eqLabB_iff (x y : LabD) : eqLabB x y = true ↔ x = y := by
  unfold eqLabB
  rw [Bool.and_eq_true, beq_iff_eq, beq_iff_eq]
  constructor
  · rintro ⟨h1, h2⟩
    cases x; cases y
    simp only [LabD.mk.injEq]
    exact ⟨toList_inj h1, toList_inj h2⟩
  · rintro rfl; exact ⟨rfl, rfl⟩
theorem sameLs_iff : ∀ (a b : List LabD), sameLs a b = true ↔ a = b
  | [], [] => by simp [sameLs]
  | [], _ :: _ => by simp [sameLs]
  | _ :: _, [] => by simp [sameLs]
  | x :: r, y :: q => by
    rw [sameLs, Bool.and_eq_true, eqLabB_iff, sameLs_iff r q]
    simp
theorem sameLs_len {a b : List LabD} (h : a.length ≠ b.length) : sameLs a b = false := by
  rw [Bool.eq_false_iff]
  intro h'
  exact h (by rw [(sameLs_iff a b).1 h'])
theorem sameLs_drop (a b : List LabD) (k : Nat) (ha : k < a.length) (hb : k < b.length) : sameLs (a.drop k) (b.drop k) = (eqLabB a[k] b[k] && sameLs (a.drop (k + 1)) (b.drop (k + 1))) := by
  rw [List.drop_eq_getElem_cons ha, List.drop_eq_getElem_cons hb, sameLs]
def canB (ls : List LabD) : Bool := decide ((canonR ls).2.1 = 0) && sameLs (canonR ls).1 ls
def tailB : List LabD → ByteArray
  | [] => ByteArray.empty
  | l :: r => s8B l.name ++ s16B l.value ++ tailB r
def keyB (ls : List LabD) : ByteArray := numS 1 (ls.length : Nat) ++ tailB ls
def keyV (ls : List LabD) : ByteArray := if canB ls = true then keyB ls else ByteArray.empty
theorem tailB_append : ∀ (a b : List LabD), tailB (a ++ b) = tailB a ++ tailB b
  | [], b => by simp [tailB]
  | l :: r, b => by
    show s8B l.name ++ s16B l.value ++ tailB (r ++ b) = s8B l.name ++ s16B l.value ++ tailB r ++ tailB b
    rw [tailB_append r b, ByteArray.append_assoc (b := tailB r)]
theorem tailB_take (ls : List LabD) (k : Nat) (h : k < ls.length) : tailB (ls.take (k + 1)) = tailB (ls.take k) ++ (s8B ls[k].name ++ s16B ls[k].value) := by
  rw [List.take_succ_eq_append_getElem h, tailB_append]
  simp [tailB]
theorem canon_len0 (ls : List LabD) : (canonR ls).1.length ≤ 16 := by
  unfold canonR
  split
  · simp
  · rename_i h16
    split
    · simp
    · split
      · simp
      · split
        · simp only
          rw [insAll_len]
          have := keptL_len ls
          omega
        · simp
theorem canon_some16 {ls : List LabD} (h : (canonR ls).2.1 = 0) : ls.length ≤ 16 := by
  unfold canonR at h
  split at h
  · exact absurd h (by simp)
  · omega
theorem can_le {ls : List LabD} (h : canB ls = true) : ls.length ≤ 16 := by
  unfold canB at h
  rw [Bool.and_eq_true, decide_eq_true_eq] at h
  exact canon_some16 h.1
theorem can_form {ls : List LabD} (h : canB ls = true) : canonR ls = (ls, 0, (canonR ls).2.2) := by
  unfold canB at h
  rw [Bool.and_eq_true, decide_eq_true_eq] at h
  have h2 := (sameLs_iff _ _).1 h.2
  have h1 := h.1
  generalize canonR ls = c at *
  obtain ⟨x, y, z⟩ := c
  simp only at h1 h2
  rw [h1, h2]
end Go.Proofs.YtnbkmmmlhlbfoaaGreatDoor
namespace Go.Proofs.YtnbkmmmlhlbfoaaGreatDoor
open Go.RowKit
theorem bext {x y : ByteArray} (h : x.data.toList = y.data.toList) : x = y := by
  cases x; cases y
  simp only [ByteArray.mk.injEq]
  exact Array.toList_inj.1 h
theorem blist_append (x y : ByteArray) : (x ++ y).data.toList = x.data.toList ++ y.data.toList := by simp
theorem blist_extract (s : ByteArray) (i j : Nat) : (s.extract i j).data.toList = (s.data.toList.take j).drop i := by
  rw [ByteArray.data_extract, Array.toList_extract, List.extract_eq_drop_take']
theorem bsize (s : ByteArray) : s.size = s.data.toList.length := by simp
structure Rd where
  rest : ByteArray
  short : Bool
def takeR (n : Nat) (r : Rd) : ByteArray × Rd := if r.rest.size < n then (ByteArray.empty, ⟨r.rest, true⟩) else (r.rest.extract 0 n, ⟨r.rest.extract n r.rest.size, r.short⟩)
def numR (k : Nat) (r : Rd) : Nat × Rd := (beL (takeR k r).1.data.toList, (takeR k r).2)
def textR (k : Nat) (r : Rd) : ByteArray × Rd := takeR (numR k r).1 (numR k r).2
theorem take_le (n : Nat) (r : Rd) : (takeR n r).1.size ≤ n ∧ (takeR n r).1.size ≤ r.rest.size ∧ (takeR n r).2.rest.size ≤ r.rest.size := by
  unfold takeR
  split
  · exact ⟨by simp, by simp, Nat.le_refl _⟩
  · refine ⟨?_, ?_, ?_⟩ <;> simp <;> omega
theorem take_sound {n : Nat} {r : Rd} (h : (takeR n r).2.short = false) : r.short = false ∧ (takeR n r).1.size = n ∧ r.rest = (takeR n r).1 ++ (takeR n r).2.rest := by
  unfold takeR at *
  split at h
  · exact absurd h (by simp)
  · rename_i hn
    rw [if_neg hn]
    refine ⟨h, by simp; omega, ?_⟩
    apply bext
    rw [blist_append, blist_extract, blist_extract, List.drop_zero, bsize, List.take_length, List.take_append_drop]
theorem take_full {n : Nat} {r : Rd} {t q : ByteArray} (h : r.rest = t ++ q) (hn : t.size = n) : takeR n r = (t, ⟨q, r.short⟩) := by
  have hz : r.rest.size = n + q.size := by rw [h, ByteArray.size_append, hn]
  unfold takeR
  rw [if_neg (by omega)]
  have e1 : r.rest.extract 0 n = t := by
    apply bext
    rw [blist_extract, List.drop_zero, h, blist_append, ← hn, bsize, List.take_left]
  have e2 : r.rest.extract n r.rest.size = q := by
    apply bext
    rw [blist_extract, bsize r.rest, List.take_length, h, blist_append, ← hn, bsize, List.drop_left]
  rw [e1, e2]
theorem text_sound {k : Nat} {r : Rd} (h : (textR k r).2.short = false) : r.short = false ∧ r.rest = numS k ((textR k r).1.size : Nat) ++ ((textR k r).1 ++ (textR k r).2.rest) := by
  obtain ⟨h1, h2, h3⟩ := take_sound (r := (numR k r).2) h
  obtain ⟨g1, g2, g3⟩ := take_sound (n := k) (r := r) h1
  refine ⟨g1, ?_⟩
  have e : numS k ((textR k r).1.size : Nat) = (takeR k r).1 := by
    show numS k ((takeR (numR k r).1 (numR k r).2).1.size : Nat) = _
    rw [h2]
    have := numS_be (takeR k r).1.data.toList k (by rw [← bsize]; exact g2)
    show numS k (beL (takeR k r).1.data.toList : Nat) = _
    rw [this]
  rw [e]
  have h3' : (takeR k r).2.rest = (textR k r).1 ++ (textR k r).2.rest := h3
  rw [← h3']
  exact g3
theorem text_full {k : Nat} {r : Rd} {t q : ByteArray} (h : r.rest = numS k (t.size : Nat) ++ (t ++ q)) (hk : t.size < 256 ^ k) : textR k r = (t, ⟨q, r.short⟩) := by
  have h1 := take_full (n := k) h (numS_size k _)
  have e1 : (numR k r).1 = t.size := by
    show beL (takeR k r).1.data.toList = _
    rw [h1]
    exact be_numS k t.size hk
  have e2 : (numR k r).2 = ⟨t ++ q, r.short⟩ := by
    show (takeR k r).2 = _
    rw [h1]
  rw [textR, e1, e2]
  exact take_full rfl rfl
theorem text_le (k : Nat) (r : Rd) : (textR k r).1.size ≤ r.rest.size ∧ (textR k r).2.rest.size ≤ r.rest.size := by
  have h1 := take_le k r
  have h2 := take_le (numR k r).1 (numR k r).2
  have e : (numR k r).2 = (takeR k r).2 := rfl
  rw [e] at h2
  exact ⟨by have := h2.2.1; unfold textR; rw [e]; omega, by have := h2.2.2; unfold textR; rw [e]; omega⟩
theorem num_lt (k : Nat) (r : Rd) : (numR k r).1 < 256 ^ k := by
  have h := beL_lt (takeR k r).1.data.toList
  have h1 := (take_le k r).1
  have h2 : 256 ^ (takeR k r).1.data.toList.length ≤ 256 ^ k := Nat.pow_le_pow_right (by omega) (by rw [← bsize]; exact h1)
  show beL (takeR k r).1.data.toList < _
  omega
end Go.Proofs.YtnbkmmmlhlbfoaaGreatDoor
namespace Go.Proofs.YtnbkmmmlhlbfoaaGreatDoor
open Go.RowKit
def labR (r : Rd) : LabD × Rd := (⟨(textR 1 r).1, (textR 2 (textR 1 r).2).1⟩, (textR 2 (textR 1 r).2).2)
def rdK (r : Rd) : Nat → List LabD × Rd
  | 0 => ([], r)
  | k + 1 => ((rdK r k).1 ++ [(labR (rdK r k).2).1], (labR (rdK r k).2).2)
def cntR (key : ByteArray) : Nat := (numR 1 ⟨key, false⟩).1
def rdAll (key : ByteArray) : List LabD × Rd := rdK (numR 1 ⟨key, false⟩).2 (cntR key)
def wholeB (r : Rd) : Bool := !r.short && (r.rest.toList == ByteArray.empty.toList)
def decV (key : ByteArray) : List LabD × Bool := if (wholeB (rdAll key).2 && canB (rdAll key).1) = true then ((rdAll key).1, true) else ([], false)
theorem labR_eq (r : Rd) : labR r = (⟨(textR 1 r).1, (textR 2 (textR 1 r).2).1⟩, (textR 2 (textR 1 r).2).2) := by rw [labR]
theorem rdK_succ (r : Rd) (k : Nat) : rdK r (k + 1) = ((rdK r k).1 ++ [(labR (rdK r k).2).1], (labR (rdK r k).2).2) := by rw [rdK]
theorem rdK_length (r : Rd) : ∀ k, (rdK r k).1.length = k
  | 0 => rfl
  | k + 1 => by rw [rdK]; simp [rdK_length r k]
theorem lab_sound {r : Rd} (h : (labR r).2.short = false) : r.short = false ∧ r.rest = s8B (labR r).1.name ++ s16B (labR r).1.value ++ (labR r).2.rest := by
  obtain ⟨h1, h2⟩ := text_sound (k := 2) (r := (textR 1 r).2) h
  obtain ⟨g1, g2⟩ := text_sound (k := 1) (r := r) h1
  refine ⟨g1, ?_⟩
  rw [g2, h2]
  apply bext
  simp [labR, s8B, s16B]
theorem lab_full {r : Rd} {l : LabD} {q : ByteArray} (h : r.rest = s8B l.name ++ s16B l.value ++ q) (h1 : l.name.size < 256) (h2 : l.value.size < 65536) : labR r = (l, ⟨q, r.short⟩) := by
  have e : r.rest = numS 1 (l.name.size : Nat) ++ (l.name ++ (s16B l.value ++ q)) := by
    rw [h]; apply bext; simp [s8B]
  have e1 := text_full e (by omega)
  have e2 : textR 2 (textR 1 r).2 = (l.value, ⟨q, r.short⟩) := by
    rw [e1]
    exact text_full (r := ⟨s16B l.value ++ q, r.short⟩) (by show s16B l.value ++ q = _; apply bext; simp [s16B]) (by omega)
  rw [labR, e2, e1]
theorem rd_sound {r : Rd} (k : Nat) : (rdK r k).2.short = false → r.short = false ∧ r.rest = tailB (rdK r k).1 ++ (rdK r k).2.rest := by
  induction k with
  | zero =>
    intro h
    refine ⟨h, ?_⟩
    show r.rest = ByteArray.empty ++ r.rest
    apply bext
    simp
  | succ k ih =>
    intro h
    rw [rdK_succ] at h ⊢
    simp only at h ⊢
    obtain ⟨h1, h2⟩ := lab_sound h
    obtain ⟨g1, g2⟩ := ih h1
    refine ⟨g1, ?_⟩
    generalize rdK r k = R at *
    generalize labR R.2 = L at *
    rw [g2, h2, tailB_append]
    have e3 : tailB [L.1] = s8B L.1.name ++ s16B L.1.value := by
      show s8B L.1.name ++ s16B L.1.value ++ ByteArray.empty = _
      apply bext
      simp
    rw [e3]
    apply bext
    simp
def SmallL (ls : List LabD) : Prop := ∀ i (h : i < ls.length), ls[i].name.size < 256 ∧ ls[i].value.size < 65536
theorem rd_full {r : Rd} {ls : List LabD} {q : ByteArray} (h : r.rest = tailB ls ++ q) (hs : SmallL ls) : ∀ k, k ≤ ls.length → rdK r k = (ls.take k, ⟨tailB (ls.drop k) ++ q, r.short⟩)
  | 0, _ => by
    cases r
    simp only at h
    simp [rdK, h]
  | k + 1, hk => by
    have ih := rd_full h hs k (by omega)
    have e : tailB (ls.drop k) ++ q = s8B ls[k].name ++ s16B ls[k].value ++ (tailB (ls.drop (k + 1)) ++ q) := by
      rw [List.drop_eq_getElem_cons (by omega)]
      apply bext
      simp [tailB]
    have hl := lab_full (r := ⟨tailB (ls.drop k) ++ q, r.short⟩) e (hs k (by omega)).1 (hs k (by omega)).2
    rw [rdK_succ, ih, hl, List.take_succ_eq_append_getElem (by omega)]
theorem runes_size (s : ByteArray) : ∀ (b p : Nat) (l : List Nat), s.size ≤ p + b → runesFrom s b p = some l → s.size ≤ p + 4 * l.length
  | 0, p, l, hb, _ => by omega
  | b + 1, p, l, hb, h => by
    rw [runesFrom] at h
    split at h
    · split at h
      · exact absurd h (by simp)
      · obtain ⟨l', hl', rfl⟩ := Option.map_eq_some_iff.1 h
        have h1 := decode_pos s p
        have h4 := (decode_rune s p).2
        have := runes_size s b _ l' (by omega) hl'
        simp
        omega
    · omega
theorem val_size {s : ByteArray} (h : valV s = 0) : s.size ≤ 512 := by
  unfold valV at h
  split at h
  · exact absurd h (by simp)
  · rename_i l hl
    unfold endV at h
    split at h
    · exact absurd h (by simp)
    · have := runes_size s s.size 0 l (by omega) hl
      omega
theorem firstBad_none : ∀ (ls : List LabD) (j : Nat), firstBad ls j = none → ∀ i (h : i < ls.length), labV ls[i] = 0
  | [], _, _, i, h => absurd h (by simp)
  | l :: r, j, hn, i, h => by
    rw [firstBad] at hn
    split at hn
    · rename_i h0
      cases i with
      | zero => exact h0
      | succ i => exact firstBad_none r _ hn i (by simpa using h)
    · exact absurd hn (by simp)
theorem firstBad_ne : ∀ (l : List LabD) (j c i : Nat), firstBad l j = some (c, i) → c ≠ 0
  | [], _, _, _, h => by simp [firstBad] at h
  | x :: r, j, c, i, h => by
    rw [firstBad] at h
    split at h
    · exact firstBad_ne r _ _ _ h
    · rename_i hx
      simp only [Option.some.injEq, Prod.mk.injEq] at h
      rw [← h.1]
      exact hx
theorem can_small {ls : List LabD} (h : canB ls = true) : SmallL ls := by
  have hc := can_form h
  have h16 := can_le h
  have h0 : (canonR ls).2.1 = 0 := by rw [hc]
  have hb : firstBad ls 0 = none := by
    cases hb : firstBad ls 0 with
    | none => rfl
    | some ci =>
      obtain ⟨c, i⟩ := ci
      rw [canon_bad (by omega) hb] at h0
      exact absurd h0 (firstBad_ne ls 0 c i hb)
  intro i hi
  have hl := firstBad_none ls 0 hb i hi
  unfold labV at hl
  split at hl
  · rename_i hn
    have hn' : nameOK ls[i].name := by simpa [nameB] using hn
    have := val_size hl
    exact ⟨by have := hn'.2.1; omega, by omega⟩
  · exact absurd hl (by simp)
theorem dec_full {ls : List LabD} (h : canB ls = true) : decV (keyB ls) = (ls, true) := by
  have h16 := can_le h
  have hs := can_small h
  have h1 : takeR 1 ⟨keyB ls, false⟩ = (numS 1 (ls.length : Nat), ⟨tailB ls, false⟩) := take_full rfl (numS_size 1 _)
  have hc : cntR (keyB ls) = ls.length := by
    show beL (takeR 1 ⟨keyB ls, false⟩).1.data.toList = _
    rw [h1]
    exact be_numS 1 ls.length (by omega)
  have hn : (numR 1 ⟨keyB ls, false⟩).2 = ⟨tailB ls, false⟩ := by
    show (takeR 1 ⟨keyB ls, false⟩).2 = _
    rw [h1]
  have ha : rdAll (keyB ls) = (ls, ⟨ByteArray.empty, false⟩) := by
    unfold rdAll
    rw [hc, hn]
    have e := rd_full (r := ⟨tailB ls, false⟩) (q := ByteArray.empty) (by apply bext; simp) hs ls.length (Nat.le_refl _)
    rw [e, List.take_length, List.drop_length]
    simp [tailB]
  unfold decV
  rw [ha]
  simp only
  rw [if_pos (by simp [wholeB, h])]
theorem dec_key {key : ByteArray} (h : (decV key).2 = true) : canB (decV key).1 = true ∧ keyB (decV key).1 = key := by
  unfold decV at h ⊢
  split at h
  · rename_i hw
    rw [if_pos hw]
    rw [Bool.and_eq_true] at hw
    refine ⟨hw.2, ?_⟩
    have hwh := hw.1
    unfold wholeB at hwh
    rw [Bool.and_eq_true] at hwh
    have hsh : (rdAll key).2.short = false := by simpa using hwh.1
    have hre : (rdAll key).2.rest = ByteArray.empty := toList_inj (by simpa using hwh.2)
    obtain ⟨g1, g2⟩ := rd_sound (r := (numR 1 ⟨key, false⟩).2) (cntR key) hsh
    obtain ⟨k1, k2, k3⟩ := take_sound (n := 1) (r := ⟨key, false⟩) g1
    have hl : (rdAll key).1.length = cntR key := rdK_length _ _
    have e : numS 1 ((rdAll key).1.length : Nat) = (takeR 1 ⟨key, false⟩).1 := by
      rw [hl]
      have := numS_be (takeR 1 ⟨key, false⟩).1.data.toList 1 (by rw [← bsize]; exact k2)
      show numS 1 (beL (takeR 1 ⟨key, false⟩).1.data.toList : Nat) = _
      rw [this]
    show numS 1 ((rdAll key).1.length : Nat) ++ tailB (rdAll key).1 = key
    have g2' : (takeR 1 ⟨key, false⟩).2.rest = tailB (rdAll key).1 ++ (rdAll key).2.rest := g2
    have k3' : key = (takeR 1 ⟨key, false⟩).1 ++ (takeR 1 ⟨key, false⟩).2.rest := k3
    rw [e]
    conv => rhs; rw [k3', g2', hre]
    apply bext
    simp
  · exact absurd h (by simp)
theorem dec_not {key : ByteArray} (h : (decV key).2 = false) : decV key = ([], false) ∧ ∀ ls, canB ls = true → keyB ls ≠ key := by
  refine ⟨?_, fun ls hc e => ?_⟩
  · unfold decV at h ⊢
    split at h
    · exact absurd h (by simp)
    · rename_i hw; rw [if_neg hw]
  · rw [← e, dec_full hc] at h
    exact absurd h (by simp)
theorem rd_big (r : Rd) (k : Nat) : (rdK r k).2.rest.size ≤ r.rest.size ∧ ∀ i (h : i < (rdK r k).1.length), (rdK r k).1[i].name.size ≤ r.rest.size ∧ (rdK r k).1[i].value.size ≤ r.rest.size := by
  induction k with
  | zero => exact ⟨Nat.le_refl _, fun i h => absurd h (by simp [rdK])⟩
  | succ k ih =>
    have h1 := text_le 1 (rdK r k).2
    have h2 := text_le 2 (textR 1 (rdK r k).2).2
    rw [rdK_succ, labR_eq]
    generalize rdK r k = R at *
    generalize textR 1 R.2 = t1 at *
    generalize textR 2 t1.2 = t2 at *
    refine ⟨by have := ih.1; simp only; omega, fun i hi => ?_⟩
    simp only at hi
    by_cases e : i < R.1.length
    · simp only [List.getElem_append_left e]; exact ih.2 i e
    · have hlen : i = R.1.length := by simp at hi; omega
      subst hlen
      simp only [List.getElem_concat_length]
      have := ih.1
      exact ⟨by omega, by omega⟩
theorem rdAll_big (key : ByteArray) : ∀ i (h : i < (rdAll key).1.length), (rdAll key).1[i].name.size ≤ key.size ∧ (rdAll key).1[i].value.size ≤ key.size := by
  intro i hi
  have h1 := (rd_big (numR 1 ⟨key, false⟩).2 (cntR key)).2 i hi
  have h2 := (take_le 1 ⟨key, false⟩).2.2
  have h3 : (numR 1 ⟨key, false⟩).2.rest.size ≤ key.size := h2
  exact ⟨Nat.le_trans h1.1 h3, Nat.le_trans h1.2 h3⟩
end Go.Proofs.YtnbkmmmlhlbfoaaGreatDoor
namespace Go.Proofs.YtnbkmmmlhlbfoaaGreatDoor
open Go.RowKit
theorem or_i64 (a b : Nat) (ha : a < 4611686018427387904) (hb : b < 4611686018427387904) : bits .or .i64 (a : Int) (b : Int) = ((a ||| b : Nat) : Int) := by
  have hx : a ||| b < 2 ^ 62 := Nat.or_lt_two_pow (by omega) (by omega)
  show IntKind.i64.wrap ((BitVec.ofInt 64 (a : Int) ||| BitVec.ofInt 64 (b : Int)).toNat : Int) = _
  rw [BitVec.toNat_or, BitVec.ofInt_natCast, BitVec.ofInt_natCast, BitVec.toNat_ofNat, BitVec.toNat_ofNat, Nat.mod_eq_of_lt (by omega), Nat.mod_eq_of_lt (by omega)]
  simp only [IntKind.wrap, IntKind.bits, IntKind.signed]
  simp
  omega
theorem or_low (a b : Nat) (hb : b < 256) (ha : a < 281474976710656) : bits .or .i64 ((a : Int) * 256) (b : Int) = ((a * 256 + b : Nat) : Int) := by
  have hx : a * 256 ||| b = a * 256 + b := by
    have := Nat.two_pow_add_eq_or_of_lt (i := 8) (b := b) (by omega) a
    rw [show 2 ^ 8 * a = a * 256 by omega] at this
    exact this.symm
  rw [← hx]
  exact or_i64 (a * 256) b (by omega) (by omega)
set_option maxRecDepth 100000 in
set_option maxHeartbeats 1000000 in
theorem implNum_any (s : ByteArray) (w : World) (hs : s.size ≤ 7) :
    Calls Tryz.prog 103 #[.string s] w fun e w' => e = .returned (.int .i64 (beL s.data.toList : Nat)) ∧ w' = w := by
  go_enter Tryz.func103, Tryz.ntmps103
  go_wp2
  go_loopw [3, 4, 7] (fun x _ c wr => ∃ (k X : Nat), k ≤ s.size ∧ c = .int .i64 k ∧ x = .int .i64 X ∧ X < 256 ^ k ∧ Hid (X = beL (s.data.toList.take k)) ∧ wr = w) (fun _ _ c _ => s.size - (intOf c).toNat)
  case atStart => exact ⟨0, 0, by omega, rfl, rfl, by simp, by show _ = _; simp [beL], rfl⟩
  case round =>
    obtain ⟨k, X, hk, rfl, rfl, hX, hx, rfl⟩ := hrel
    by_cases hlt : k < s.size
    · have hc := (s[k]).toNat_lt
      have hX6 : X < 281474976710656 := Nat.lt_of_lt_of_le hX (Nat.pow_le_pow_right (n := 256) (by omega) (show k ≤ 6 by omega))
      have ho := or_low X (s[k]).toNat (by omega) (by omega)
      go_wp2
      refine ⟨⟨k + 1, X * 256 + (s[k]).toNat, by omega, by go_num, ?_, ?_, ?_, trivial⟩, by simp [intOf]; omega⟩
      · go_num
      · rw [Nat.pow_succ]; omega
      · show _ = _
        rw [take_snoc s k hlt, beL_snoc, ← hx.out]
    · have e : k = s.size := by omega
      subst e
      go_wp2
      go_ret
      refine ⟨?_, rfl⟩
      show Ending.returned (.int .i64 (X : Nat)) = _
      rw [hx.out, List.take_of_length_le (by simp)]
end Go.Proofs.YtnbkmmmlhlbfoaaGreatDoor
