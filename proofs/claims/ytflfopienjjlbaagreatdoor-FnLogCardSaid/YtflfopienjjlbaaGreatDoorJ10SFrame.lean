import Derived.Test.YtflfopienjjlbaaGreatDoorProg
import Derived.Test.YtflfopienjjlbaaGreatDoorJ09ITab
import Derived.Test.YtflfopienjjlbaaGreatDoorJ03Btw
import Derived.Test.YtflfopienjjlbaaGreatDoorJ01Drive
import Derived.Deep.AppendLies
import Derived.Laws.BytesArg
import Derived.Test.YtflfopienjjlbaaGreatDoorJ08Find
namespace Go.Proofs.YtflfopienjjlbaaGreatDoor
open Go.RowKit

set_option maxRecDepth 100000 in
set_option maxHeartbeats 1000000 in
theorem specCrc_any (s : ByteArray) (w : World) (hs : s.size ≤ maxLen) :
    Calls Tryz.prog 105 #[.string s] w fun e w' => e = .returned (.int .i64 (crcV s : Nat)) ∧ w' = w := by
  unfold maxLen at hs
  go_enter Tryz.func105, Tryz.ntmps105
  go_wp2
  go_loop [3, 4, 5, 6, 7, 8] (fun r i _ _ _ _ => ∃ (j R : Nat), j ≤ s.size ∧ i = .int .i64 j ∧ r = .int .i64 R ∧ Hid (R = crcL (s.data.toList.take j))) (fun _ i _ _ _ _ => s.size - (intOf i).toNat)
  case atStart => exact ⟨0, 4294967295, Nat.zero_le _, rfl, rfl, rfl⟩
  case round =>
    obtain ⟨j, R, hj, rfl, rfl, hR⟩ := hrel
    have hRlt : R < 4294967296 := by rw [hR.out]; exact crcL_lt _
    by_cases hlt : j < s.size
    · have hU : s[j].toNat < 256 := s[j].toNat_lt
      go_wp2
      go_loop [3, 5, 6, 7, 8] (fun r k _ _ _ => ∃ (m S : Nat), m ≤ 8 ∧ k = .int .i64 m ∧ r = .int .i64 S ∧ Hid (S = crcBits R s[j].toNat m)) (fun _ k _ _ _ => 8 - (intOf k).toNat)
      case atStart => exact ⟨0, R, by omega, rfl, rfl, rfl⟩
      case round =>
        obtain ⟨m, S, hm, rfl, rfl, hS⟩ := hrel
        have hSlt : S < 4294967296 := by rw [hS.out]; exact crcBits_lt hRlt _
        by_cases hm8 : m < 8
        · go_wp2
          go_loop [6, 7] (fun x q => ∃ (t X : Nat), t ≤ m ∧ q = .int .i64 t ∧ x = .int .i64 X ∧ Hid (X = s[j].toNat / 2 ^ t)) (fun _ q => m - (intOf q).toNat)
          case atStart => exact ⟨0, s[j].toNat, by omega, rfl, rfl, by show _ = _; simp⟩
          case round =>
            obtain ⟨t, X, ht, rfl, rfl, hX⟩ := hrel
            have hXlt : X < 256 := by
              have : X ≤ s[j].toNat := by rw [hX.out]; exact Nat.div_le_self _ _
              omega
            by_cases htm : t < m
            · go_wp2
              exact ⟨⟨t + 1, X / 2, by omega, by go_num, by go_num, by show _ = _; rw [hX.out, Nat.div_div_eq_div_mul, Nat.pow_succ]⟩, by simp [intOf]; omega⟩
            · have e : t = m := by omega
              subst e
              by_cases hodd : (S + X) % 2 = 1
              · go_wp2
                have e2 : bits BinOp.xor IntKind.i64 ((S : Int) / 2) 2197175160 = (((S / 2) ^^^ 2197175160 : Nat) : Int) := xor_i64 (S / 2) 2197175160 (by omega) (by omega)
                rw [e2]
                exact ⟨⟨t + 1, _, by omega, by go_num, rfl, by show _ = _; rw [crcBits, crcBit, ← hS.out, ← hX.out, if_pos hodd]⟩, by simp [intOf]; omega⟩
              · go_wp2
                exact ⟨⟨t + 1, S / 2, by omega, by go_num, by go_num, by show _ = _; rw [crcBits, crcBit, ← hS.out, ← hX.out, if_neg hodd]⟩, by simp [intOf]; omega⟩
        · go_wp2
          have e : m = 8 := by omega
          subst e
          exact ⟨⟨j + 1, S, by omega, by go_num, rfl, by show _ = _; rw [take_snoc s j hlt, crcL_snoc, ← hR.out, crcByte, hS.out]⟩, by simp [intOf]; omega⟩
    · go_wp2
      go_ret
      refine ⟨ret_int ?_, rfl⟩
      rw [crcV, ← List.take_of_length_le (l := s.data.toList) (i := j) (by simp; omega), ← hR.out]
      omega
end Go.Proofs.YtflfopienjjlbaaGreatDoor

namespace Go.Proofs.YtflfopienjjlbaaGreatDoor
open Go.RowKit

theorem xor_u8 (a b : Nat) (ha : a < 256) (hb : b < 256) : bits .xor .u8 (a : Int) (b : Int) = ((a ^^^ b : Nat) : Int) := by
  have hx : a ^^^ b < 2 ^ 8 := Nat.xor_lt_two_pow (by omega) (by omega)
  show IntKind.u8.wrap ((BitVec.ofInt 8 (a : Int) ^^^ BitVec.ofInt 8 (b : Int)).toNat : Int) = _
  rw [BitVec.toNat_xor, BitVec.ofInt_natCast, BitVec.ofInt_natCast, BitVec.toNat_ofNat, BitVec.toNat_ofNat, Nat.mod_eq_of_lt (by omega), Nat.mod_eq_of_lt (by omega)]
  simp only [IntKind.wrap, IntKind.bits, IntKind.signed]
  simp
  omega

theorem not_u32 (a : Nat) (ha : a < 4294967296) : bits .xor .u32 IntKind.u32.max (a : Int) = ((4294967295 - a : Nat) : Int) := by
  have h1 : bits .xor .u32 IntKind.u32.max (a : Int) = ((4294967295 ^^^ a : Nat) : Int) := xor_u32 4294967295 a (by omega) ha
  have h2 : (4294967295 ^^^ a : Nat) = 4294967295 - a := by
    have e : (BitVec.allOnes 32 ^^^ BitVec.ofNat 32 a).toNat = (~~~ BitVec.ofNat 32 a).toNat := by rw [BitVec.allOnes_xor]
    rw [BitVec.toNat_xor, BitVec.toNat_allOnes, BitVec.toNat_not, BitVec.toNat_ofNat, Nat.mod_eq_of_lt (by omega)] at e
    exact e
  rw [h1, h2]

set_option maxRecDepth 100000 in
set_option maxHeartbeats 1000000 in
theorem tabSum_any (b : Nat) (cur : Array Value) (s : ByteArray) (w : World) (hs : s.size ≤ maxLen) (hB : Blk w b cur 133) (hcur : ∀ i, i < 256 → cur[i]? = some (.int .u32 (crcT i : Nat))) :
    Calls Tryz.prog 71 #[.pointer (some ⟨b, 0, none⟩), .string s] w fun e w' => e = .returned (.int .i64 (crcV s : Nat)) ∧ Below w.heap.size w w' := by
  have HB : Hid (Blk w b cur 133 ∧ ∀ i, i < 256 → cur[i]? = some (.int .u32 (crcT i : Nat))) := ⟨hB, hcur⟩
  clear hB hcur
  unfold maxLen at hs
  go_enter Tryz.func71, Tryz.ntmps71
  go_wp2
  go_loopw [5, 6, 9] (fun x _ c wr => ∃ (k X : Nat), k ≤ s.size ∧ c = .int .i64 k ∧ x = .int .u32 X ∧ X < 4294967296 ∧ Hid (X = crcL (s.data.toList.take k)) ∧ Hid (Below w.heap.size w wr)) (fun _ _ c _ => s.size - (intOf c).toNat)
  case atStart => exact ⟨0, 4294967295, by omega, rfl, rfl, by omega, by show _ = _; simp [crcL], Below.refl _ _⟩
  case round =>
    obtain ⟨k, X, hk, rfl, rfl, hX, hx, hbel⟩ := hrel
    by_cases hlt : k < s.size
    · have hc := (s[k]).toNat_lt
      obtain ⟨N, T, Y, hN, hT, hY, hxr, hxt, hcell, hcr⟩ : ∃ N T Y : Nat, N < 256 ∧ T < 4294967296 ∧ Y < 4294967296 ∧ bits .xor .u8 ((X : Int) % 256) ((s[k]).toNat : Int) = (N : Int) ∧ bits .xor .u32 ((X : Int) / 256) (T : Int) = (Y : Int) ∧ wr.cell? ⟨b, N, none⟩ = some (.int .u32 (T : Nat)) ∧ Hid (crcByte X s[k] = Y) := by
        have hxr := xor_u8 (X % 256) (s[k]).toNat (by omega) (by omega)
        have hi : (X % 256) ^^^ (s[k]).toNat < 256 := Nat.xor_lt_two_pow (n := 8) (by omega) (by omega)
        have hb' := HB.out.1.later hbel.out
        have hT := crcT_lt hi
        refine ⟨_, _, _, hi, hT, Nat.xor_lt_two_pow (n := 32) (by omega) hT, hxr, xor_u32 (X / 256) _ (by omega) hT, by rw [hb'.cell]; exact HB.out.2 _ hi, crc_table X _ (by omega)⟩
      go_wp2
      go_region
      go_wp2
      refine ⟨⟨k + 1, Y, by omega, by go_num, rfl, hY, ?_, hbel.out.drew⟩, by simp [intOf]; omega⟩
      show _ = _
      rw [take_snoc s k hlt, crcL_snoc, ← hx.out, hcr.out]
    · have e : k = s.size := by omega
      subst e
      have hn := not_u32 X hX
      go_wp2
      refine bodyPost_ret (v := .int .i64 (crcV s : Nat)) ?_ rfl ⟨rfl, hbel.out⟩
      have e2 : wrap64 ((4294967295 - X : Nat) : Int) = ((4294967295 - X : Nat) : Int) := by simp only [wrap64]; omega
      rw [e2, show crcV s = 4294967295 - X by rw [crcV, hx.out, List.take_of_length_le (by simp)]]
      simp [results, Tryz.results71, go_sem]
end Go.Proofs.YtflfopienjjlbaaGreatDoor

namespace Go.Proofs.YtflfopienjjlbaaGreatDoor
open Go.RowKit

/-- v without its lowest k bytes. -/
def shrN (v : Int) : Nat → Int
  | 0 => v
  | k + 1 => shrN v k / 256
/-- The lowest n bytes of v, the highest first. -/
def numI (v : Int) : Nat → List Int
  | 0 => []
  | n + 1 => shrN v n % 256 :: numI v n
def numS (n : Nat) (v : Int) : ByteArray := strOfNums (numI v n)
theorem numI_length (v : Int) : ∀ n, (numI v n).length = n
  | 0 => rfl
  | n + 1 => by simp [numI, numI_length v n]
theorem numS_size (n : Nat) (v : Int) : (numS n v).size = n := by
  rw [numS, strOfNums_size, numI_length]

theorem info_u8 : ∃ i, Tryz.prog.info? 5 = some i ∧ i.zero = some (.int .u8 0) ∧ i.size = 1 ∧ i.bytes = 1 := by
  have h : (Tryz.prog.info? 5).map (fun i => (i.zero, i.size, i.bytes)) = some (some (.int .u8 0), 1, 1) := by kernel_rfl
  obtain ⟨i, hi, hz⟩ := Option.map_eq_some_iff.1 h
  simp only [Prod.mk.injEq] at hz
  exact ⟨i, hi, hz.1, hz.2.1, hz.2.2⟩

theorem shrN_rng (v : Int) (h0 : -9223372036854775808 ≤ v) (h1 : v ≤ 9223372036854775807) : ∀ k, -9223372036854775808 ≤ shrN v k ∧ shrN v k ≤ 9223372036854775807
  | 0 => ⟨h0, h1⟩
  | k + 1 => by have := shrN_rng v h0 h1 k; unfold shrN; omega

/-- A row of bytes of the call's own, as a string. -/
theorem conv_row {w : World} {B : Nat} {av : Option Addr} {cv : Nat} {ys : List Int} (h : w.ownsRow B 5 1 (.slice av ys.length cv) ys.length (ys.map (Value.int .u8))) :
    (convert 41 9 (.slice av ys.length cv)).run Tryz.prog w = .ok (.string (strOfNums ys)) w := by
  rcases h.2 with ⟨he, hl⟩ | ⟨g, cap, cur, he, _, hg, hle, _, hsz, htk⟩
  · simp only [Value.slice.injEq] at he
    obtain ⟨rfl, h1, rfl⟩ := he
    have e : ys = [] := List.length_eq_zero_iff.1 h1
    subst e
    exact run_convert_bytes_nil w 41 5 Tryz.underlying41 Tryz.underlying5 _ _ 9 Tryz.underlying9
  · simp only [Value.slice.injEq] at he
    obtain ⟨rfl, _, rfl⟩ := he
    refine run_convert_bytes_arg w 41 5 Tryz.underlying41 Tryz.underlying5 g 0 _ _ ys rfl (fun i hi => ?_) 9 Tryz.underlying9
    rw [Nat.zero_add, cell_of_row w g i cur _ _ hg]
    have h2 : (cur.toList.take (ys.length * 1))[i]? = (ys.map (Value.int .u8))[i]? := by rw [htk]
    rw [List.getElem?_take_of_lt (by omega)] at h2
    rw [← Array.getElem?_toList, h2]
    simp [List.getD, List.getElem?_eq_getElem hi]

set_option maxRecDepth 100000 in
set_option maxHeartbeats 1000000 in
theorem specNum_any (n : Nat) (v : Int) (w : World) (hn : n ≤ 8) (h0 : -9223372036854775808 ≤ v) (h1 : v ≤ 9223372036854775807) :
    Calls Tryz.prog 104 #[.int .i64 n, .int .i64 v] w fun e w' => e = .returned (.string (numS n v)) ∧ Below w.heap.size w w' := by
  obtain ⟨ti, hti, hz0, hz1, hz2⟩ := info_u8
  have HI : Hid (Tryz.prog.info? 5 = some ti) := hti
  clear hti
  have HV : Hid (-9223372036854775808 ≤ v ∧ v ≤ 9223372036854775807) := ⟨h0, h1⟩
  clear h0 h1
  go_enter Tryz.func104, Tryz.ntmps104
  go_wp2
  go_loopw [5, 6, 7, 8] (fun out i _ _ wr => ∃ (m : Nat) (ys : List Int) (av : Option Addr) (cv : Nat), ys.length + m = n ∧ Hid (ys ++ numI v m = numI v n) ∧ i = .int .i64 ((m : Int) - 1) ∧ out = .slice av ys.length cv ∧ Hid (wr.ownsRow w.heap.size 5 1 (.slice av ys.length cv) ys.length (ys.map (Value.int .u8))) ∧ Below w.heap.size w wr) (fun _ i _ _ _ => ((intOf i) + 1).toNat)
  case atStart =>
    exact ⟨n, [], _, _, by simp, by show _ = _; simp, by simp, rfl, World.ownsRow_made w #[] 0 (Nat.le_refl _) (by simp [maxLen]) (by simp), bnew _ _⟩
  case round =>
    obtain ⟨m, ys, av, cv, hm, hnum, rfl, rfl, hrow, hbel⟩ := hrel
    by_cases hp : 0 < m
    · obtain ⟨r, rfl⟩ : ∃ r, m = r + 1 := ⟨m - 1, by omega⟩
      have er : ((r + 1 : Nat) : Int) - 1 = (r : Int) := by omega
      rw [er]
      clear er
      go_wp2
      go_loop [7, 8] (fun x k => ∃ (j : Nat) (X : Int), j ≤ r ∧ k = .int .i64 j ∧ x = .int .i64 X ∧ Hid (X = shrN v j)) (fun _ k => r - (intOf k).toNat)
      case atStart => exact ⟨0, v, Nat.zero_le _, rfl, rfl, rfl⟩
      case round =>
        obtain ⟨j, X, hj, rfl, rfl, hX⟩ := hrel
        by_cases hlt : j < r
        · go_wp2
          exact ⟨⟨j + 1, X / 256, by omega, by go_num, rfl, by show _ = _; rw [shrN, hX.out]⟩, by simp [intOf]; omega⟩
        · have e : j = r := by omega
          subst e
          have hsz := hbel.size
          go_wp2_with (at_builtin; refine wpList_append_lies _ rfl _ _ _ rfl w.heap.size 5 ti _ 1 1 Tryz.underlying41 HI.out hz0 hz1 hz2 rfl (by omega) (.slice av ys.length cv) ys.length (ys.map (Value.int .u8)) rfl (by exact row_later hrow.out (bnew _ _)) ⟨wr.heap.size, 0, none⟩ 1 1 [.int .u8 (X % 256)] rfl rfl (by exact World.news_of_block (heap_alloc_new _ _)) (by simp [Value.oneCell']) (by omega) (by simp [maxLen]; omega) (by omega) (by simp; omega) (wr.heap.size + 1) (by simp) ?_; intro g5 cap5 w5 hown5 hgrow5 hat5 hlt5)
          have hB5 : Below w.heap.size w w5 := (bto hbel (bnew _ _)).grown hgrow5 (by simp; omega) (fun q hq => by
            rcases hrow.out.2 with ⟨he, _⟩ | ⟨g, cap, cur, he, hB, _⟩
            · rw [he] at hq; simp [Value.ownBlock] at hq
            · rw [he] at hq; simp [Value.ownBlock] at hq; omega)
          have hxs : ys.map (Value.int .u8) ++ [Value.int .u8 (X % 256)] = (ys ++ [X % 256]).map (Value.int .u8) := by simp
          have hle : (ys ++ [X % 256]).length = ys.length + 1 := by simp
          rw [hxs, ← hle] at hown5
          refine ⟨⟨j, ys ++ [X % 256], some ⟨g5, 0, none⟩, cap5, by rw [hle]; omega, ?_, rfl, by rw [hle], hown5, hB5⟩, by simp [intOf]⟩
          show _ = _
          rw [← hnum.out, numI, hX.out]
          simp
    · have e : m = 0 := by omega
      subst e
      have hcv := conv_row hrow.out
      go_wp2
      go_ret
      refine ⟨congrArg (fun x => Ending.returned (.string x)) ?_, hbel⟩
      rw [numS, ← hnum.out, numI, List.append_nil]
end Go.Proofs.YtflfopienjjlbaaGreatDoor

namespace Go.Proofs.YtflfopienjjlbaaGreatDoor
open Go.RowKit

/-- The lowest n bytes of a natural number, the highest first. -/
def numN (v : Nat) : Nat → List Nat
  | 0 => []
  | n + 1 => v / 256 ^ n % 256 :: numN v n
theorem numN_length (v : Nat) : ∀ n, (numN v n).length = n
  | 0 => rfl
  | n + 1 => by simp [numN, numN_length v n]
theorem shrN_nat (v : Nat) : ∀ k, shrN (v : Int) k = ((v / 256 ^ k : Nat) : Int)
  | 0 => by simp [shrN]
  | k + 1 => by rw [shrN, shrN_nat v k, Nat.pow_succ, ← Nat.div_div_eq_div_mul]; omega
theorem numI_nat (v : Nat) : ∀ n, numI (v : Int) n = (numN v n).map (fun x : Nat => (x : Int))
  | 0 => rfl
  | n + 1 => by rw [numI, numN, List.map_cons, numI_nat v n, shrN_nat]; simp
theorem numN_add (a b n : Nat) : ∀ m, m ≤ n → numN (a * 256 ^ n + b) m = numN b m
  | 0, _ => rfl
  | m + 1, h => by
    rw [numN, numN, numN_add a b n m (by omega)]
    congr 1
    obtain ⟨d, rfl⟩ : ∃ d, n = m + 1 + d := ⟨n - (m + 1), by omega⟩
    have e : a * 256 ^ (m + 1 + d) + b = b + 256 ^ m * (a * 256 ^ d * 256) := by rw [Nat.pow_add, Nat.pow_succ, Nat.add_comm]; congr 1; ac_rfl
    rw [e, Nat.add_mul_div_left _ _ (Nat.pow_pos (by omega))]
    omega
theorem beL_cons (c : UInt8) (l : List UInt8) : beL (c :: l) = c.toNat * 256 ^ l.length + beL l := by
  have hg : ∀ (l : List UInt8) (v : Nat), l.foldl (fun v c => v * 256 + c.toNat) v = v * 256 ^ l.length + beL l := fun l => by
    induction l with
    | nil => intro v; simp [beL]
    | cons d l ih =>
      intro v
      have h1 := ih (v * 256 + d.toNat)
      have h2 := ih (0 * 256 + d.toNat)
      simp only [beL, List.foldl_cons, List.length_cons, Nat.pow_succ] at h1 h2 ⊢
      rw [h1, h2]
      simp only [Nat.add_mul, Nat.zero_mul, Nat.zero_add]
      rw [Nat.add_assoc]
      congr 1
      ac_rfl
  have := hg l (0 * 256 + c.toNat)
  simpa [beL] using this
/-- What was read off bytes is written as these bytes. -/
theorem numN_be : ∀ (l : List UInt8), numN (beL l) l.length = l.map (fun c => c.toNat)
  | [] => rfl
  | c :: l => by
    have hb := beL_lt l
    have hc := c.toNat_lt
    rw [List.length_cons, numN, beL_cons, numN_add _ _ _ _ (Nat.le_refl _), numN_be l, List.map_cons]
    congr 1
    rw [Nat.add_comm, Nat.mul_comm, Nat.add_mul_div_left _ _ (Nat.pow_pos (by omega)), Nat.div_eq_of_lt hb]
    omega
theorem numS_be (l : List UInt8) (n : Nat) (h : l.length = n) : numS n (beL l : Nat) = ⟨l.toArray⟩ := by
  subst h
  rw [numS, numI_nat, numN_be, strOfNums]
  congr 2
  rw [List.map_map, List.map_map]
  conv => rhs; rw [← List.map_id l]
  congr 1
  funext c
  simp
theorem be_numN (v : Nat) : ∀ n, beL ((numN v n).map UInt8.ofNat) = v % 256 ^ n
  | 0 => by simp [numN, beL, Nat.mod_one]
  | n + 1 => by
    rw [numN, List.map_cons, beL_cons, be_numN v n, List.length_map, numN_length, UInt8.toNat_ofNat_of_lt' (by show _ < 256; omega), Nat.pow_succ, Nat.mod_mul]
    rw [Nat.mul_comm, Nat.add_comm]
theorem numS_data (n v : Nat) : (numS n v).data.toList = (numN v n).map UInt8.ofNat := by
  rw [numS, numI_nat, strOfNums_data, List.map_map]
  congr 1
/-- What was written is read back. -/
theorem be_numS (n v : Nat) (h : v < 256 ^ n) : beL (numS n v).data.toList = v := by
  rw [numS_data, be_numN, Nat.mod_eq_of_lt h]
end Go.Proofs.YtflfopienjjlbaaGreatDoor

namespace Go.Proofs.YtflfopienjjlbaaGreatDoor
open Go.RowKit

theorem or_i64 (a b : Nat) (ha : a < 4611686018427387904) (hb : b < 4611686018427387904) : bits .or .i64 (a : Int) (b : Int) = ((a ||| b : Nat) : Int) := by
  have hx : a ||| b < 2 ^ 62 := Nat.or_lt_two_pow (by omega) (by omega)
  show IntKind.i64.wrap ((BitVec.ofInt 64 (a : Int) ||| BitVec.ofInt 64 (b : Int)).toNat : Int) = _
  rw [BitVec.toNat_or, BitVec.ofInt_natCast, BitVec.ofInt_natCast, BitVec.toNat_ofNat, BitVec.toNat_ofNat, Nat.mod_eq_of_lt (by omega), Nat.mod_eq_of_lt (by omega)]
  simp only [IntKind.wrap, IntKind.bits, IntKind.signed]
  simp
  omega
theorem or_low (a b : Nat) (hb : b < 256) (ha : a < 281474976710656) : bits .or .i64 ((a : Int) * 256) (b : Int) = ((a * 256 + b : Nat) : Int) := by
  have hx : a * 256 ||| b = a * 256 + b := by
    have := Nat.two_pow_add_eq_or_of_lt (i := 8) (b := b) (by omega) a
    rw [show 2 ^ 8 * a = a * 256 by omega] at this
    exact this.symm
  rw [← hx]
  exact or_i64 (a * 256) b (by omega) (by omega)

set_option maxRecDepth 100000 in
set_option maxHeartbeats 1000000 in
theorem implNum_any (s : ByteArray) (w : World) (hs : s.size ≤ 7) :
    Calls Tryz.prog 95 #[.string s] w fun e w' => e = .returned (.int .i64 (beL s.data.toList : Nat)) ∧ w' = w := by
  go_enter Tryz.func95, Tryz.ntmps95
  go_wp2
  go_loopw [3, 4, 7] (fun x _ c wr => ∃ (k X : Nat), k ≤ s.size ∧ c = .int .i64 k ∧ x = .int .i64 X ∧ X < 256 ^ k ∧ Hid (X = beL (s.data.toList.take k)) ∧ wr = w) (fun _ _ c _ => s.size - (intOf c).toNat)
  case atStart => exact ⟨0, 0, by omega, rfl, rfl, by simp, by show _ = _; simp [beL], rfl⟩
  case round =>
    obtain ⟨k, X, hk, rfl, rfl, hX, hx, rfl⟩ := hrel
    by_cases hlt : k < s.size
    · have hc := (s[k]).toNat_lt
      have hX6 : X < 281474976710656 := Nat.lt_of_lt_of_le hX (Nat.pow_le_pow_right (n := 256) (by omega) (show k ≤ 6 by omega))
      have ho := or_low X (s[k]).toNat (by omega) (by omega)
      go_wp2
      refine ⟨⟨k + 1, X * 256 + (s[k]).toNat, by omega, by go_num, ?_, ?_, ?_, trivial⟩, by simp [intOf]; omega⟩
      · go_num
      · rw [Nat.pow_succ]; omega
      · show _ = _
        rw [take_snoc s k hlt, beL_snoc, ← hx.out]
    · have e : k = s.size := by omega
      subst e
      go_wp2
      go_ret
      refine ⟨?_, rfl⟩
      show Ending.returned (.int .i64 (X : Nat)) = _
      rw [hx.out, List.take_of_length_le (by simp)]
end Go.Proofs.YtflfopienjjlbaaGreatDoor

namespace Go.Proofs.YtflfopienjjlbaaGreatDoor
open Go.RowKit

theorem fits_any (x : Int) (w : World) : Calls Tryz.prog 42 #[.int .i64 x] w fun e w' => e = .returned (.bool (btwB x 1 60000)) ∧ w' = w := by
  by_cases h1 : 1 ≤ x
  · by_cases h2 : x ≤ 60000
    · have e : btwB x 1 60000 = true := by simp [btwB, h1, h2]
      rw [e]
      go_enter Tryz.func42, Tryz.ntmps42
      go_wp2
      go_ret
      exact ⟨rfl, rfl⟩
    · have e : btwB x 1 60000 = false := by simp [btwB, h2]
      rw [e]
      go_enter Tryz.func42, Tryz.ntmps42
      go_wp2
      go_ret
      exact ⟨rfl, rfl⟩
  · have e : btwB x 1 60000 = false := by simp [btwB, h1]
    rw [e]
    go_enter Tryz.func42, Tryz.ntmps42
    go_wp2
    go_ret
    exact ⟨rfl, rfl⟩

end Go.Proofs.YtflfopienjjlbaaGreatDoor

namespace Go.Proofs.YtflfopienjjlbaaGreatDoor
open Go.RowKit

theorem bytes_ext {a b : ByteArray} (h : a.data.toList = b.data.toList) : a = b := by
  obtain ⟨⟨l⟩⟩ := a
  obtain ⟨⟨m⟩⟩ := b
  simp only at h
  rw [h]
theorem bytes_append (a b : ByteArray) : (a ++ b).data.toList = a.data.toList ++ b.data.toList := by simp
theorem bytes_part (d : ByteArray) (p n : Nat) : (d.extract p (p + n)).data.toList = sectL d p n := by
  simp [sectL, ByteArray.data_extract, Array.toList_extract]
theorem bytes_size (d : ByteArray) : d.data.toList.length = d.size := by simp

def frameS (p : ByteArray) : ByteArray := if 1 ≤ p.size ∧ p.size ≤ 60000 then numS 4 p.size ++ numS 4 (crcV p : Nat) ++ p else ByteArray.empty
/-- The length that the head of d tells. -/
def headN (d : ByteArray) : Nat := beL (sectL d 0 4)
def firstS (d : ByteArray) : ByteArray :=
  if d.size < 8 then ByteArray.empty
  else if d.size - 8 < headN d then ByteArray.empty
  else if frameS (d.extract 8 (8 + headN d)) = ByteArray.empty ∨ frameS (d.extract 8 (8 + headN d)) ≠ d.extract 0 (8 + headN d) then ByteArray.empty
  else d.extract 8 (8 + headN d)
/-- A frame begins d. -/
def FrameAt (d : ByteArray) : Prop := 8 ≤ d.size ∧ 1 ≤ headN d ∧ headN d ≤ 60000 ∧ headN d ≤ d.size - 8 ∧ beL (sectL d 4 4) = crcV (d.extract 8 (8 + headN d))
def frD (d : ByteArray) : Decidable (FrameAt d) := by unfold FrameAt; infer_instance
def frB (d : ByteArray) : Bool := @decide (FrameAt d) (frD d)
theorem frB_t {d : ByteArray} (h : FrameAt d) : frB d = true := @decide_eq_true _ (frD d) h
theorem frB_f {d : ByteArray} (h : ¬ FrameAt d) : frB d = false := @decide_eq_false _ (frD d) h

theorem part_size {d : ByteArray} {p n : Nat} (h : p + n ≤ d.size) : (d.extract p (p + n)).size = n := by rw [ByteArray.size_extract]; omega

theorem frameS_size {p : ByteArray} (h : 1 ≤ p.size ∧ p.size ≤ 60000) : (frameS p).size = 8 + p.size := by
  rw [frameS, if_pos h, ByteArray.size_append, ByteArray.size_append, numS_size, numS_size]

theorem frame_is {d : ByteArray} (h8 : 8 ≤ d.size) (h1 : 1 ≤ headN d) (h2 : headN d ≤ 60000) (h3 : headN d ≤ d.size - 8) :
    frameS (d.extract 8 (8 + headN d)) = d.extract 0 (8 + headN d) ↔ beL (sectL d 4 4) = crcV (d.extract 8 (8 + headN d)) := by
  have hz : (d.extract 8 (8 + headN d)).size = headN d := part_size (by omega)
  have hw : (d.extract 0 (8 + headN d)).data.toList = sectL d 0 4 ++ sectL d 4 4 ++ (d.extract 8 (8 + headN d)).data.toList := by
    have e0 := bytes_part d 0 (8 + headN d)
    rw [Nat.zero_add] at e0
    rw [e0, bytes_part]
    simp only [sectL, List.drop_zero]
    have hl := bytes_size d
    rw [show 8 + headN d = 4 + (4 + headN d) by omega, List.take_add, List.take_add, List.drop_drop]
    simp
  have hn : numS 4 (headN d : Nat) = ⟨(sectL d 0 4).toArray⟩ := numS_be _ 4 (sectL_length (by omega))
  rw [frameS, if_pos (by rw [hz]; exact ⟨h1, h2⟩), hz, hn]
  constructor
  · intro h
    have h' := congrArg (fun x : ByteArray => x.data.toList) h
    simp only [bytes_append] at h'
    rw [hw, List.append_left_inj, List.append_right_inj] at h'
    rw [← h', be_numS 4 _ (by have := crcV_lt (d.extract 8 (8 + headN d)); omega)]
  · intro h
    apply bytes_ext
    rw [bytes_append, bytes_append, hw, ← h, numS_be _ 4 (sectL_length (by omega))]

theorem firstS_eq (d : ByteArray) : firstS d = haveI := frD d; if FrameAt d then d.extract 8 (8 + headN d) else ByteArray.empty := by
  unfold firstS
  by_cases h8 : d.size < 8
  · rw [if_pos h8, if_neg (fun h => by have := h.1; omega)]
  · rw [if_neg h8]
    by_cases h3 : d.size - 8 < headN d
    · rw [if_pos h3, if_neg (fun h => by have := h.2.2.2.1; omega)]
    · rw [if_neg h3]
      have hz : (d.extract 8 (8 + headN d)).size = headN d := part_size (by omega)
      by_cases h1 : 1 ≤ headN d ∧ headN d ≤ 60000
      · have hne : frameS (d.extract 8 (8 + headN d)) ≠ ByteArray.empty := by
          intro e
          have := frameS_size (p := d.extract 8 (8 + headN d)) (by rw [hz]; exact h1)
          rw [e, ByteArray.size_empty] at this
          omega
        by_cases hc : beL (sectL d 4 4) = crcV (d.extract 8 (8 + headN d))
        · have hf := (frame_is (by omega) h1.1 h1.2 (by omega)).2 hc
          rw [if_neg (by intro h; rcases h with h | h; exact hne h; exact h hf), if_pos ⟨by omega, h1.1, h1.2, by omega, hc⟩]
        · have hf : ¬ frameS (d.extract 8 (8 + headN d)) = d.extract 0 (8 + headN d) := fun h => hc ((frame_is (by omega) h1.1 h1.2 (by omega)).1 h)
          rw [if_pos (Or.inr hf), if_neg (fun h => hc h.2.2.2.2)]
      · have he : frameS (d.extract 8 (8 + headN d)) = ByteArray.empty := by rw [frameS, if_neg (by rw [hz]; exact h1)]
        rw [if_pos (Or.inl he), if_neg (fun h => h1 ⟨h.2.1, h.2.2.1⟩)]

/-- The payloads from place p on, and where they end. -/
def scanR (d : ByteArray) : Nat → Nat → List ByteArray × Nat
  | 0, p => ([], p)
  | n + 1, p => haveI := frD (d.extract p d.size); if FrameAt (d.extract p d.size) then
      let q := (d.extract p d.size).extract 8 (8 + headN (d.extract p d.size))
      (q :: (scanR d n (p + 8 + q.size)).1, (scanR d n (p + 8 + q.size)).2) else ([], p)
def scanV (d : ByteArray) : List ByteArray × Nat := scanR d (d.size + 1) 0
end Go.Proofs.YtflfopienjjlbaaGreatDoor

namespace Go.Proofs.YtflfopienjjlbaaGreatDoor
open Go.RowKit

theorem head_be (d : ByteArray) : beL (d.extract 0 4).data.toList = headN d := by
  have h := bytes_part d 0 4
  rw [Nat.zero_add] at h
  rw [h]; rfl
theorem crc_be (d : ByteArray) : beL (d.extract 4 8).data.toList = beL (sectL d 4 4) := by rw [← bytes_part d 4 4]
theorem body_part (d : ByteArray) (N : Nat) (h : 8 + N ≤ d.size) : (d.extract 8 d.size).extract 0 N = d.extract 8 (8 + N) := by
  apply bytes_ext
  have h1 := bytes_part (d.extract 8 d.size) 0 N
  rw [Nat.zero_add] at h1
  have h2 := bytes_part d 8 (d.size - 8)
  rw [show 8 + (d.size - 8) = d.size by omega] at h2
  rw [h1, bytes_part, sectL, h2, sectL, sectL, List.drop_zero, List.take_take, Nat.min_eq_left (by omega)]

set_option maxRecDepth 100000 in
set_option maxHeartbeats 1000000 in
theorem implPay_any (d : ByteArray) (b : Nat) (cur : Array Value) (w : World) (hs : d.size ≤ maxLen) (hB : Blk w b cur 133) (hcur : ∀ i, i < 256 → cur[i]? = some (.int .u32 (crcT i : Nat))) :
    Calls Tryz.prog 75 #[.string d, .pointer (some ⟨b, 0, none⟩)] w fun e w' => (∃ p, e = .returned (.tuple #[.string p, .bool (frB d)]) ∧ (FrameAt d → p = d.extract 8 (8 + headN d))) ∧ Below w.heap.size w w' := by
  have HB : Hid (Blk w b cur 133 ∧ ∀ i, i < 256 → cur[i]? = some (.int .u32 (crcT i : Nat))) := ⟨hB, hcur⟩
  clear hB hcur
  unfold maxLen at hs
  by_cases h8 : d.size < 8
  · have E : Hid (¬ FrameAt d) := fun h => by have := h.1; omega
    go_enter Tryz.func75, Tryz.ntmps75
    go_wp2
    refine bodyPost_ret (v := .tuple #[.string ByteArray.empty, .bool false]) (by simp [results, Tryz.results75, go_sem]; rfl) rfl ⟨⟨ByteArray.empty, by rw [frB_f E.out], fun h => absurd h E.out⟩, Below.refl _ _⟩
  have HNU : Hid (∀ W, Calls Tryz.prog 95 #[.string (d.extract 0 4)] W fun e w' => e = .returned (.int .i64 (headN d : Nat)) ∧ w' = W) := fun W => by
    rw [← head_be d]
    exact implNum_any _ W (by rw [ByteArray.size_extract]; omega)
  have HNC : Hid (∀ W, Calls Tryz.prog 95 #[.string (d.extract 4 8)] W fun e w' => e = .returned (.int .i64 (beL (sectL d 4 4) : Nat)) ∧ w' = W) := fun W => by
    rw [← crc_be d]
    exact implNum_any _ W (by rw [ByteArray.size_extract]; omega)
  have HF : Hid (∀ W, Calls Tryz.prog 42 #[.int .i64 (headN d : Int)] W fun e w' => e = .returned (.bool (btwB (headN d) 1 60000)) ∧ w' = W) := fun W => fits_any _ W
  have hne := Later.there w
  have h4i : (4 : Int) ≤ (d.size : Int) := by omega
  have h8i : (8 : Int) ≤ (d.size : Int) := by omega
  have hbz : (d.extract 8 d.size).size = d.size - 8 := by rw [ByteArray.size_extract]; omega
  by_cases h : 1 ≤ headN d ∧ headN d ≤ 60000 ∧ headN d ≤ d.size - 8
  · have HP : Hid ((d.extract 8 d.size).extract 0 (headN d) = d.extract 8 (8 + headN d)) := body_part d _ (by omega)
    have HPz : Hid (((d.extract 8 d.size).extract 0 (headN d)).size ≤ maxLen) := by
      show _ ≤ _
      rw [HP.out, part_size (by omega)]; unfold maxLen; omega
    have hb : btwB (headN d) 1 60000 = true := by simp [btwB]; omega
    rw [hb] at HF
    have HFA : Hid (FrameAt d ↔ beL (sectL d 4 4) = crcV (d.extract 8 (8 + headN d))) := ⟨fun h' => h'.2.2.2.2, fun h' => ⟨by omega, h.1, h.2.1, h.2.2, h'⟩⟩
    have hgt : ¬ ((d.size - 8 : Nat) : Int) < (headN d : Int) := by omega
    generalize headN d = N at *
    obtain ⟨hN1, hN2, hN3⟩ := h
    generalize beL (sectL d 4 4) = K at *
    go_enter Tryz.func75, Tryz.ntmps75
    go_wp2_with fail
    refine wp_region_later (by kernel_rfl) (by kernel_rfl) ?_
    repeat (go_big_quiet_step ((go_at_call 95; exact calls_later_same (HNU.out _))))
    refine wpQuiet_nil ?_
    rintro _ ⟨x, rfl⟩
    have HBx : Hid (Below w.heap.size w x.w') := x.h
    have HBB : Hid (Blk x.w' b cur 133) := HB.out.1.later x.h
    generalize x.w' = w1 at *
    clear hne
    have hne := Later.there w1
    go_wp2_with (go_at_call 42; refine (HF.out _).mono ?_; rintro e w' ⟨rfl, hw⟩; replace hw := hw.symm; subst hw)
    refine wp_region_later (by kernel_rfl) (by kernel_rfl) ?_
    repeat (go_big_quiet_step (first | (go_at_call 95; exact calls_later_same (HNC.out _)) | (go_at_call 71; exact calls_later (tabSum_any b cur _ _ HPz.out (HBB.out.later (Later.h _)) HB.out.2))))
    refine wpQuiet_nil ?_
    rintro _ ⟨y, rfl⟩
    have HBy : Hid (Below w.heap.size w y.w') := bto HBx.out y.h
    go_wp2
    refine bodyPost_ret (v := .tuple #[.string ((d.extract 8 d.size).extract 0 N), .bool ((crcV ((d.extract 8 d.size).extract 0 N) : Int) == (K : Int))]) (by simp [results, Tryz.results75, go_sem]) rfl ⟨⟨_, ?_, fun _ => HP.out⟩, HBy.out⟩
    have e : (((crcV ((d.extract 8 d.size).extract 0 N) : Nat) : Int) == (K : Int)) = frB d := by
      rw [HP.out]
      by_cases hK : K = crcV (d.extract 8 (8 + N))
      · rw [frB_t (HFA.out.2 hK), hK]; simp
      · rw [frB_f (fun h => hK (HFA.out.1 h))]
        simp; omega
    rw [e]
  · have E : Hid (¬ FrameAt d) := fun h' => h ⟨h'.2.1, h'.2.2.1, h'.2.2.2.1⟩
    have hcond : (!btwB (headN d) 1 60000) = true ∨ (!btwB (headN d) 1 60000) = false ∧ ((d.size - 8 : Nat) : Int) < (headN d : Int) := by
      simp only [btwB]
      by_cases h1 : (1 : Int) ≤ (headN d : Int) <;> by_cases h2 : ((headN d : Nat) : Int) ≤ 60000 <;> simp [h1, h2] <;> omega
    generalize btwB (headN d) 1 60000 = bb at *
    generalize headN d = N at *
    go_enter Tryz.func75, Tryz.ntmps75
    go_wp2_with fail
    refine wp_region_later (by kernel_rfl) (by kernel_rfl) ?_
    repeat (go_big_quiet_step ((go_at_call 95; exact calls_later_same (HNU.out _))))
    refine wpQuiet_nil ?_
    rintro _ ⟨x, rfl⟩
    have HBx : Hid (Below w.heap.size w x.w') := x.h
    generalize x.w' = w1 at *
    rcases hcond with hc | ⟨hc, hgt⟩
    · have hbb : bb = false := by simpa using hc
      subst hbb
      clear hc
      go_wp2_with (go_at_call 42; refine (HF.out _).mono ?_; rintro e w' ⟨rfl, hw⟩; replace hw := hw.symm; subst hw)
      refine bodyPost_ret (v := .tuple #[.string ByteArray.empty, .bool false]) (by simp [results, Tryz.results75, go_sem]; rfl) rfl ⟨⟨ByteArray.empty, by rw [frB_f E.out], fun h => absurd h E.out⟩, HBx.out⟩
    · have hbb : bb = true := by simpa using hc
      subst hbb
      clear hc
      go_wp2_with (go_at_call 42; refine (HF.out _).mono ?_; rintro e w' ⟨rfl, hw⟩; replace hw := hw.symm; subst hw)
      refine bodyPost_ret (v := .tuple #[.string ByteArray.empty, .bool false]) (by simp [results, Tryz.results75, go_sem]; rfl) rfl ⟨⟨ByteArray.empty, by rw [frB_f E.out], fun h => absurd h E.out⟩, HBx.out⟩
end Go.Proofs.YtflfopienjjlbaaGreatDoor

namespace Go.Proofs.YtflfopienjjlbaaGreatDoor
open Go.RowKit

theorem ret_str {a b : ByteArray} (h : a = b) : Ending.returned (.string a) = .returned (.string b) := by rw [h]

set_option maxRecDepth 100000 in
set_option maxHeartbeats 1000000 in
theorem specFrame_any (p : ByteArray) (w : World) (hs : p.size ≤ maxLen) :
    Calls Tryz.prog 89 #[.string p] w fun e w' => e = .returned (.string (frameS p)) ∧ Below w.heap.size w w' := by
  by_cases h : 1 ≤ p.size ∧ p.size ≤ 60000
  · have hB : btwB (p.size : Int) 1 60000 = true := by unfold btwB; simp; omega
    have E : Hid (frameS p = numS 4 p.size ++ numS 4 (crcV p : Nat) ++ p) := if_pos h
    have h1 := numS_size 4 (p.size : Int)
    have h2 := numS_size 4 ((crcV p : Nat) : Int)
    have hc := crcV_lt p
    have hp := h.2
    have HS : Hid (p.size ≤ maxLen) := hs
    clear hs h
    go_enter Tryz.func89, Tryz.ntmps89
    go_wp2_with (go_at_call 55; refine (between_any _ _ _ _).mono ?_; rintro e w' ⟨rfl, hw⟩; replace hw := hw.symm; subst hw)
    refine (specNum_any 4 (p.size : Int) _ (by omega) (by omega) (by omega)).mono ?_
    rintro e w1 ⟨rfl, hb1⟩
    go_wp2_with fail
    refine (specCrc_any p _ HS.out).mono ?_
    rintro e w' ⟨rfl, hw⟩
    replace hw := hw.symm
    subst hw
    go_wp2_with fail
    refine (specNum_any 4 ((crcV p : Nat) : Int) _ (by omega) (by omega) (by omega)).mono ?_
    rintro e w2 ⟨rfl, hb2⟩
    generalize numS 4 (p.size : Int) = A at *
    generalize numS 4 ((crcV p : Nat) : Int) = B at *
    have HB : Hid (Below w.heap.size w w2) := bto hb1 hb2
    clear hb1 hb2
    go_wp2
    go_ret
    exact ⟨ret_str E.out.symm, HB.out⟩
  · have hB : btwB (p.size : Int) 1 60000 = false := by unfold btwB; simp; omega
    have E : Hid (frameS p = ByteArray.empty) := if_neg h
    go_enter Tryz.func89, Tryz.ntmps89
    go_wp2_with (go_at_call 55; refine (between_any _ _ _ _).mono ?_; rintro e w' ⟨rfl, hw⟩; replace hw := hw.symm; subst hw)
    go_ret
    exact ⟨ret_str E.out.symm, Below.refl _ _⟩
end Go.Proofs.YtflfopienjjlbaaGreatDoor

