import Derived.Test.YteajeifmllogiaaGreatDoorProg
import Derived.Test.YteajeifmllogiaaGreatDoorJ01Flat
import Derived.Deep.AppendLies
import Derived.Laws.BytesArg
namespace Go.Proofs.YteajeifmllogiaaGreatDoor
open Go.RowKit

/-- v without its lowest k bytes. -/
def shrN (v : Int) : Nat → Int
  | 0 => v
  | k + 1 => shrN v k / 256
/-- The lowest n bytes of v, the highest first. -/
def numI (v : Int) : Nat → List Int
  | 0 => []
  | n + 1 => shrN v n % 256 :: numI v n
def numS (n : Nat) (v : Int) : ByteArray := strOfNums (numI v n)
theorem numI_length (v : Int) : ∀ n, (numI v n).length = n
  | 0 => rfl
  | n + 1 => by simp [numI, numI_length v n]
theorem numS_size (n : Nat) (v : Int) : (numS n v).size = n := by
  rw [numS, strOfNums_size, numI_length]

theorem info_u8 : ∃ i, Tryz.prog.info? 5 = some i ∧ i.zero = some (.int .u8 0) ∧ i.size = 1 ∧ i.bytes = 1 := by
  have h : (Tryz.prog.info? 5).map (fun i => (i.zero, i.size, i.bytes)) = some (some (.int .u8 0), 1, 1) := by kernel_rfl
  obtain ⟨i, hi, hz⟩ := Option.map_eq_some_iff.1 h
  simp only [Prod.mk.injEq] at hz
  exact ⟨i, hi, hz.1, hz.2.1, hz.2.2⟩

theorem shrN_rng (v : Int) (h0 : -9223372036854775808 ≤ v) (h1 : v ≤ 9223372036854775807) : ∀ k, -9223372036854775808 ≤ shrN v k ∧ shrN v k ≤ 9223372036854775807
  | 0 => ⟨h0, h1⟩
  | k + 1 => by have := shrN_rng v h0 h1 k; unfold shrN; omega

/-- A row of bytes of the call's own, as a string. -/
theorem conv_row {w : World} {B : Nat} {av : Option Addr} {cv : Nat} {ys : List Int} (h : w.ownsRow B 5 1 (.slice av ys.length cv) ys.length (ys.map (Value.int .u8))) :
    (convert 62 9 (.slice av ys.length cv)).run Tryz.prog w = .ok (.string (strOfNums ys)) w := by
  rcases h.2 with ⟨he, hl⟩ | ⟨g, cap, cur, he, _, hg, hle, _, hsz, htk⟩
  · simp only [Value.slice.injEq] at he
    obtain ⟨rfl, h1, rfl⟩ := he
    have e : ys = [] := List.length_eq_zero_iff.1 h1
    subst e
    exact run_convert_bytes_nil w 62 5 Tryz.underlying62 Tryz.underlying5 _ _ 9 Tryz.underlying9
  · simp only [Value.slice.injEq] at he
    obtain ⟨rfl, _, rfl⟩ := he
    refine run_convert_bytes_arg w 62 5 Tryz.underlying62 Tryz.underlying5 g 0 _ _ ys rfl (fun i hi => ?_) 9 Tryz.underlying9
    rw [Nat.zero_add, cell_of_row w g i cur _ _ hg]
    have h2 : (cur.toList.take (ys.length * 1))[i]? = (ys.map (Value.int .u8))[i]? := by rw [htk]
    rw [List.getElem?_take_of_lt (by omega)] at h2
    rw [← Array.getElem?_toList, h2]
    simp [List.getD, List.getElem?_eq_getElem hi]

set_option maxRecDepth 100000 in
set_option maxHeartbeats 1000000 in
theorem specNum_any (n : Nat) (v : Int) (w : World) (hn : n ≤ 8) (h0 : -9223372036854775808 ≤ v) (h1 : v ≤ 9223372036854775807) :
    Calls Tryz.prog 29 #[.int .i64 n, .int .i64 v] w fun e w' => e = .returned (.string (numS n v)) ∧ Below w.heap.size w w' := by
  obtain ⟨ti, hti, hz0, hz1, hz2⟩ := info_u8
  have HI : Hid (Tryz.prog.info? 5 = some ti) := hti
  clear hti
  have HV : Hid (-9223372036854775808 ≤ v ∧ v ≤ 9223372036854775807) := ⟨h0, h1⟩
  clear h0 h1
  go_enter Tryz.func29, Tryz.ntmps29
  go_wp2
  go_loopw [5, 6, 7, 8] (fun out i _ _ wr => ∃ (m : Nat) (ys : List Int) (av : Option Addr) (cv : Nat), ys.length + m = n ∧ Hid (ys ++ numI v m = numI v n) ∧ i = .int .i64 ((m : Int) - 1) ∧ out = .slice av ys.length cv ∧ Hid (wr.ownsRow w.heap.size 5 1 (.slice av ys.length cv) ys.length (ys.map (Value.int .u8))) ∧ Below w.heap.size w wr) (fun _ i _ _ _ => ((intOf i) + 1).toNat)
  case atStart =>
    exact ⟨n, [], _, _, by simp, by show _ = _; simp, by simp, rfl, World.ownsRow_made w #[] 0 (Nat.le_refl _) (by simp [maxLen]) (by simp), bnew _ _⟩
  case round =>
    obtain ⟨m, ys, av, cv, hm, hnum, rfl, rfl, hrow, hbel⟩ := hrel
    by_cases hp : 0 < m
    · obtain ⟨r, rfl⟩ : ∃ r, m = r + 1 := ⟨m - 1, by omega⟩
      have er : ((r + 1 : Nat) : Int) - 1 = (r : Int) := by omega
      rw [er]
      clear er
      go_wp2
      go_loop [7, 8] (fun x k => ∃ (j : Nat) (X : Int), j ≤ r ∧ k = .int .i64 j ∧ x = .int .i64 X ∧ Hid (X = shrN v j)) (fun _ k => r - (intOf k).toNat)
      case atStart => exact ⟨0, v, Nat.zero_le _, rfl, rfl, rfl⟩
      case round =>
        obtain ⟨j, X, hj, rfl, rfl, hX⟩ := hrel
        by_cases hlt : j < r
        · go_wp2
          exact ⟨⟨j + 1, X / 256, by omega, by go_num, rfl, by show _ = _; rw [shrN, hX.out]⟩, by simp [intOf]; omega⟩
        · have e : j = r := by omega
          subst e
          have hsz := hbel.size
          go_wp2_with (at_builtin; refine wpList_append_lies _ rfl _ _ _ rfl w.heap.size 5 ti _ 1 1 Tryz.underlying62 HI.out hz0 hz1 hz2 rfl (by omega) (.slice av ys.length cv) ys.length (ys.map (Value.int .u8)) rfl (by exact row_later hrow.out (bnew _ _)) ⟨wr.heap.size, 0, none⟩ 1 1 [.int .u8 (X % 256)] rfl rfl (by exact World.news_of_block (heap_alloc_new _ _)) (by simp [Value.oneCell']) (by omega) (by simp [maxLen]; omega) (by omega) (by simp; omega) (wr.heap.size + 1) (by simp) ?_; intro g5 cap5 w5 hown5 hgrow5 hat5 hlt5)
          have hB5 : Below w.heap.size w w5 := (bto hbel (bnew _ _)).grown hgrow5 (by simp; omega) (fun q hq => by
            rcases hrow.out.2 with ⟨he, _⟩ | ⟨g, cap, cur, he, hB, _⟩
            · rw [he] at hq; simp [Value.ownBlock] at hq
            · rw [he] at hq; simp [Value.ownBlock] at hq; omega)
          have hxs : ys.map (Value.int .u8) ++ [Value.int .u8 (X % 256)] = (ys ++ [X % 256]).map (Value.int .u8) := by simp
          have hle : (ys ++ [X % 256]).length = ys.length + 1 := by simp
          rw [hxs, ← hle] at hown5
          refine ⟨⟨j, ys ++ [X % 256], some ⟨g5, 0, none⟩, cap5, by rw [hle]; omega, ?_, rfl, by rw [hle], hown5, hB5⟩, by simp [intOf]⟩
          show _ = _
          rw [← hnum.out, numI, hX.out]
          simp
    · have e : m = 0 := by omega
      subst e
      have hcv := conv_row hrow.out
      go_wp2
      go_ret
      refine ⟨congrArg (fun x => Ending.returned (.string x)) ?_, hbel⟩
      rw [numS, ← hnum.out, numI, List.append_nil]
end Go.Proofs.YteajeifmllogiaaGreatDoor

namespace Go.Proofs.YteajeifmllogiaaGreatDoor
open Go.RowKit

/-- The lowest n bytes of a natural number, the highest first. -/
def numN (v : Nat) : Nat → List Nat
  | 0 => []
  | n + 1 => v / 256 ^ n % 256 :: numN v n
theorem numN_length (v : Nat) : ∀ n, (numN v n).length = n
  | 0 => rfl
  | n + 1 => by simp [numN, numN_length v n]
theorem shrN_nat (v : Nat) : ∀ k, shrN (v : Int) k = ((v / 256 ^ k : Nat) : Int)
  | 0 => by simp [shrN]
  | k + 1 => by rw [shrN, shrN_nat v k, Nat.pow_succ, ← Nat.div_div_eq_div_mul]; omega
theorem numI_nat (v : Nat) : ∀ n, numI (v : Int) n = (numN v n).map (fun x : Nat => (x : Int))
  | 0 => rfl
  | n + 1 => by rw [numI, numN, List.map_cons, numI_nat v n, shrN_nat]; simp
theorem numN_add (a b n : Nat) : ∀ m, m ≤ n → numN (a * 256 ^ n + b) m = numN b m
  | 0, _ => rfl
  | m + 1, h => by
    rw [numN, numN, numN_add a b n m (by omega)]
    congr 1
    obtain ⟨d, rfl⟩ : ∃ d, n = m + 1 + d := ⟨n - (m + 1), by omega⟩
    have e : a * 256 ^ (m + 1 + d) + b = b + 256 ^ m * (a * 256 ^ d * 256) := by rw [Nat.pow_add, Nat.pow_succ, Nat.add_comm]; congr 1; ac_rfl
    rw [e, Nat.add_mul_div_left _ _ (Nat.pow_pos (by omega))]
    omega
theorem beL_cons (c : UInt8) (l : List UInt8) : beL (c :: l) = c.toNat * 256 ^ l.length + beL l := by
  have hg : ∀ (l : List UInt8) (v : Nat), l.foldl (fun v c => v * 256 + c.toNat) v = v * 256 ^ l.length + beL l := fun l => by
    induction l with
    | nil => intro v; simp [beL]
    | cons d l ih =>
      intro v
      have h1 := ih (v * 256 + d.toNat)
      have h2 := ih (0 * 256 + d.toNat)
      simp only [beL, List.foldl_cons, List.length_cons, Nat.pow_succ] at h1 h2 ⊢
      rw [h1, h2]
      simp only [Nat.add_mul, Nat.zero_mul, Nat.zero_add]
      rw [Nat.add_assoc]
      congr 1
      ac_rfl
  have := hg l (0 * 256 + c.toNat)
  simpa [beL] using this
/-- What was read off bytes is written as these bytes. -/
theorem numN_be : ∀ (l : List UInt8), numN (beL l) l.length = l.map (fun c => c.toNat)
  | [] => rfl
  | c :: l => by
    have hb := beL_lt l
    have hc := c.toNat_lt
    rw [List.length_cons, numN, beL_cons, numN_add _ _ _ _ (Nat.le_refl _), numN_be l, List.map_cons]
    congr 1
    rw [Nat.add_comm, Nat.mul_comm, Nat.add_mul_div_left _ _ (Nat.pow_pos (by omega)), Nat.div_eq_of_lt hb]
    omega
theorem numS_be (l : List UInt8) (n : Nat) (h : l.length = n) : numS n (beL l : Nat) = ⟨l.toArray⟩ := by
  subst h
  rw [numS, numI_nat, numN_be, strOfNums]
  congr 2
  rw [List.map_map, List.map_map]
  conv => rhs; rw [← List.map_id l]
  congr 1
  funext c
  simp
theorem be_numN (v : Nat) : ∀ n, beL ((numN v n).map UInt8.ofNat) = v % 256 ^ n
  | 0 => by simp [numN, beL, Nat.mod_one]
  | n + 1 => by
    rw [numN, List.map_cons, beL_cons, be_numN v n, List.length_map, numN_length, UInt8.toNat_ofNat_of_lt' (by show _ < 256; omega), Nat.pow_succ, Nat.mod_mul]
    rw [Nat.mul_comm, Nat.add_comm]
theorem numS_data (n v : Nat) : (numS n v).data.toList = (numN v n).map UInt8.ofNat := by
  rw [numS, numI_nat, strOfNums_data, List.map_map]
  congr 1
/-- What was written is read back. -/
theorem be_numS (n v : Nat) (h : v < 256 ^ n) : beL (numS n v).data.toList = v := by
  rw [numS_data, be_numN, Nat.mod_eq_of_lt h]
end Go.Proofs.YteajeifmllogiaaGreatDoor

namespace Go.Proofs.YteajeifmllogiaaGreatDoor
open Go.RowKit

def s8B (s : ByteArray) : ByteArray := numS 1 (s.size : Nat) ++ s
def s16B (s : ByteArray) : ByteArray := numS 2 (s.size : Nat) ++ s
theorem s8B_size (s : ByteArray) : (s8B s).size = 1 + s.size := by rw [s8B, ByteArray.size_append, numS_size]
theorem s16B_size (s : ByteArray) : (s16B s).size = 2 + s.size := by rw [s16B, ByteArray.size_append, numS_size]
end Go.Proofs.YteajeifmllogiaaGreatDoor

namespace Go.Proofs.YteajeifmllogiaaGreatDoor
open Go.RowKit

def I64 (v : Int) : Prop := -9223372036854775808 ≤ v ∧ v ≤ 9223372036854775807
def RngR (fs : List RecD) : Prop := ∀ i (h : i < fs.length), I64 fs[i].kind ∧ I64 fs[i].num

/-- What a record must be to have bytes. -/
def recOK (r : RecD) : Prop := r.tenant.size ≤ 255 ∧ r.text.size ≤ 65535 ∧ ((r.kind = 1 ∧ r.num = 0) ∨ (r.kind = 2 ∧ r.tenant.size = 0 ∧ r.text.size = 0) ∨ r.kind = 3)
instance (r : RecD) : Decidable (recOK r) := inferInstanceAs (Decidable (_ ∧ _ ∧ _))
def encR (r : RecD) : ByteArray := numS 1 r.kind ++ s8B r.tenant ++ s16B r.text ++ numS 8 r.num
def encRs : List RecD → ByteArray
  | [] => ByteArray.empty
  | r :: q => encR r ++ encRs q
def allR (rs : List RecD) : Prop := ∀ i (h : i < rs.length), recOK rs[i]
def batOK (lsn : Int) (rs : List RecD) : Prop := 1 ≤ lsn ∧ lsn ≤ 1000000000000000 ∧ 1 ≤ rs.length ∧ rs.length ≤ 500 ∧ allR rs
def batHead (lsn : Int) (n : Nat) : ByteArray := numS 8 lsn ++ numS 2 (n : Nat)
open Classical in
noncomputable def batB (lsn : Int) (rs : List RecD) : ByteArray := if batOK lsn rs then batHead lsn rs.length ++ encRs rs else ByteArray.empty
theorem batB_ok {lsn : Int} {rs : List RecD} (h : batOK lsn rs) : batB lsn rs = batHead lsn rs.length ++ encRs rs := by unfold batB; rw [if_pos h]
theorem batB_no {lsn : Int} {rs : List RecD} (h : ¬ batOK lsn rs) : batB lsn rs = ByteArray.empty := by unfold batB; rw [if_neg h]

theorem encRs_append : ∀ (a b : List RecD), encRs (a ++ b) = encRs a ++ encRs b
  | [], b => by simp [encRs]
  | r :: q, b => by
    show encR r ++ encRs (q ++ b) = encR r ++ encRs q ++ encRs b
    rw [encRs_append q b, ByteArray.append_assoc]
theorem encRs_take (rs : List RecD) (k : Nat) (h : k < rs.length) : encRs (rs.take (k + 1)) = encRs (rs.take k) ++ encR rs[k] := by
  rw [List.take_succ_eq_append_getElem h, encRs_append]
  simp [encRs]
theorem encR_size (r : RecD) : (encR r).size = 12 + r.tenant.size + r.text.size := by
  unfold encR
  rw [ByteArray.size_append, ByteArray.size_append, ByteArray.size_append, numS_size, numS_size, s8B_size, s16B_size]; omega
theorem batHead_size (lsn : Int) (n : Nat) : (batHead lsn n).size = 10 := by unfold batHead; rw [ByteArray.size_append, numS_size, numS_size]
theorem allR_no {rs : List RecD} {k : Nat} (hk : k < rs.length) (h : ¬ recOK rs[k]) (lsn : Int) : batB lsn rs = ByteArray.empty := batB_no fun hb => h (hb.2.2.2.2 k hk)
end Go.Proofs.YteajeifmllogiaaGreatDoor

namespace Go.Proofs.YteajeifmllogiaaGreatDoor
open Go.RowKit

theorem bext {x y : ByteArray} (h : x.data.toList = y.data.toList) : x = y := by
  cases x; cases y
  simp only [ByteArray.mk.injEq]
  exact Array.toList_inj.1 h
theorem blist_append (x y : ByteArray) : (x ++ y).data.toList = x.data.toList ++ y.data.toList := by simp
theorem blist_extract (s : ByteArray) (i j : Nat) : (s.extract i j).data.toList = (s.data.toList.take j).drop i := by
  rw [ByteArray.data_extract, Array.toList_extract, List.extract_eq_drop_take']
theorem bsize (s : ByteArray) : s.size = s.data.toList.length := by simp

structure Rd where
  rest : ByteArray
  short : Bool
def takeR (n : Nat) (r : Rd) : ByteArray × Rd := if r.rest.size < n then (ByteArray.empty, ⟨r.rest, true⟩) else (r.rest.extract 0 n, ⟨r.rest.extract n r.rest.size, r.short⟩)
def numR (k : Nat) (r : Rd) : Nat × Rd := (beL (takeR k r).1.data.toList, (takeR k r).2)
def textR (k : Nat) (r : Rd) : ByteArray × Rd := takeR (numR k r).1 (numR k r).2
theorem take_le (n : Nat) (r : Rd) : (takeR n r).1.size ≤ n ∧ (takeR n r).1.size ≤ r.rest.size ∧ (takeR n r).2.rest.size ≤ r.rest.size := by
  unfold takeR
  split
  · exact ⟨by simp, by simp, Nat.le_refl _⟩
  · refine ⟨?_, ?_, ?_⟩ <;> simp <;> omega
theorem take_sound {n : Nat} {r : Rd} (h : (takeR n r).2.short = false) : r.short = false ∧ (takeR n r).1.size = n ∧ r.rest = (takeR n r).1 ++ (takeR n r).2.rest := by
  unfold takeR at *
  split at h
  · exact absurd h (by simp)
  · rename_i hn
    rw [if_neg hn]
    refine ⟨h, by simp; omega, ?_⟩
    apply bext
    rw [blist_append, blist_extract, blist_extract, List.drop_zero, bsize, List.take_length, List.take_append_drop]
theorem take_full {n : Nat} {r : Rd} {t q : ByteArray} (h : r.rest = t ++ q) (hn : t.size = n) : takeR n r = (t, ⟨q, r.short⟩) := by
  have hz : r.rest.size = n + q.size := by rw [h, ByteArray.size_append, hn]
  unfold takeR
  rw [if_neg (by omega)]
  have e1 : r.rest.extract 0 n = t := by
    apply bext
    rw [blist_extract, List.drop_zero, h, blist_append, ← hn, bsize, List.take_left]
  have e2 : r.rest.extract n r.rest.size = q := by
    apply bext
    rw [blist_extract, bsize r.rest, List.take_length, h, blist_append, ← hn, bsize, List.drop_left]
  rw [e1, e2]
theorem text_sound {k : Nat} {r : Rd} (h : (textR k r).2.short = false) : r.short = false ∧ r.rest = numS k ((textR k r).1.size : Nat) ++ ((textR k r).1 ++ (textR k r).2.rest) := by
  obtain ⟨h1, h2, h3⟩ := take_sound (r := (numR k r).2) h
  obtain ⟨g1, g2, g3⟩ := take_sound (n := k) (r := r) h1
  refine ⟨g1, ?_⟩
  have e : numS k ((textR k r).1.size : Nat) = (takeR k r).1 := by
    show numS k ((takeR (numR k r).1 (numR k r).2).1.size : Nat) = _
    rw [h2]
    have := numS_be (takeR k r).1.data.toList k (by rw [← bsize]; exact g2)
    show numS k (beL (takeR k r).1.data.toList : Nat) = _
    rw [this]
  rw [e]
  have h3' : (takeR k r).2.rest = (textR k r).1 ++ (textR k r).2.rest := h3
  rw [← h3']
  exact g3
theorem text_full {k : Nat} {r : Rd} {t q : ByteArray} (h : r.rest = numS k (t.size : Nat) ++ (t ++ q)) (hk : t.size < 256 ^ k) : textR k r = (t, ⟨q, r.short⟩) := by
  have h1 := take_full (n := k) h (numS_size k _)
  have e1 : (numR k r).1 = t.size := by
    show beL (takeR k r).1.data.toList = _
    rw [h1]
    exact be_numS k t.size hk
  have e2 : (numR k r).2 = ⟨t ++ q, r.short⟩ := by
    show (takeR k r).2 = _
    rw [h1]
  rw [textR, e1, e2]
  exact take_full rfl rfl
theorem text_le (k : Nat) (r : Rd) : (textR k r).1.size ≤ r.rest.size ∧ (textR k r).2.rest.size ≤ r.rest.size := by
  have h1 := take_le k r
  have h2 := take_le (numR k r).1 (numR k r).2
  have e : (numR k r).2 = (takeR k r).2 := rfl
  rw [e] at h2
  exact ⟨by have := h2.2.1; unfold textR; rw [e]; omega, by have := h2.2.2; unfold textR; rw [e]; omega⟩
theorem num_lt (k : Nat) (r : Rd) : (numR k r).1 < 256 ^ k := by
  have h := beL_lt (takeR k r).1.data.toList
  have h1 := (take_le k r).1
  have h2 : 256 ^ (takeR k r).1.data.toList.length ≤ 256 ^ k := Nat.pow_le_pow_right (by omega) (by rw [← bsize]; exact h1)
  show beL (takeR k r).1.data.toList < _
  omega
end Go.Proofs.YteajeifmllogiaaGreatDoor

namespace Go.Proofs.YteajeifmllogiaaGreatDoor
open Go.RowKit

def wrapN (n : Nat) : Int := IntKind.i64.wrap (n : Int)
theorem wrapN_eq (n : Nat) : wrapN n = if n % 18446744073709551616 < 9223372036854775808 then ((n % 18446744073709551616 : Nat) : Int) else ((n % 18446744073709551616 : Nat) : Int) - 18446744073709551616 := by
  unfold wrapN IntKind.wrap
  simp [IntKind.bits, IntKind.signed]
  split <;> split <;> omega
theorem wrapN_small {n : Nat} (h : n < 9223372036854775808) : wrapN n = (n : Int) := by rw [wrapN_eq, if_pos (by omega)]; omega
theorem wrapN_rng (n : Nat) : I64 (wrapN n) := by rw [wrapN_eq]; unfold I64; split <;> omega

/-- The eight bytes of a number, read again, are the number. -/
theorem numS_mod (n : Nat) (v : Int) : numS n v = numS n ((v % (256 ^ n : Nat)).toNat : Nat) := by
  have key : ∀ m, m ≤ n → numI v m = numI ((v % (256 ^ n : Nat)).toNat : Nat) m := by
    intro m
    induction m with
    | zero => intro _; rfl
    | succ m ih =>
      intro hm
      rw [numI, numI, ih (by omega)]
      congr 1
      have sh : ∀ (u : Int) k, shrN u k = u / ((256 ^ k : Nat) : Int) := by
        intro u k
        induction k with
        | zero => simp [shrN]
        | succ k ih => rw [shrN, ih, Int.ediv_ediv_of_nonneg (Int.natCast_nonneg _), Nat.pow_succ, Int.natCast_mul]; rfl
      have h0 : 0 ≤ v % ((256 ^ n : Nat) : Int) := Int.emod_nonneg _ (by have := Nat.pow_pos (n := n) (show 0 < 256 by omega); omega)
      rw [sh, sh, Int.toNat_of_nonneg h0]
      obtain ⟨d, hd⟩ : ∃ d, n = m + 1 + d := ⟨n - m - 1, by omega⟩
      have e : ((256 ^ n : Nat) : Int) = ((256 ^ m : Nat) : Int) * (256 * ((256 ^ d : Nat) : Int)) := by
        subst hd
        rw [Nat.pow_add, Nat.pow_add, Nat.pow_one, Nat.mul_assoc, Int.natCast_mul, Int.natCast_mul]
        rfl
      have hp : (0 : Int) < ((256 ^ m : Nat) : Int) := by have := Nat.pow_pos (n := m) (show 0 < 256 by omega); omega
      generalize ((256 ^ m : Nat) : Int) = A at *
      generalize ((256 ^ d : Nat) : Int) = D at *
      rw [e]
      have h1 : v % (A * (256 * D)) = v - A * (256 * D * (v / (A * (256 * D)))) := by
        rw [Int.emod_def]; congr 1; rw [Int.mul_assoc]
      rw [h1, show v - A * (256 * D * (v / (A * (256 * D)))) = v + A * (-(256 * D * (v / (A * (256 * D))))) by rw [Int.mul_neg]; rfl, Int.add_mul_ediv_left _ _ (by omega)]
      rw [show -(256 * D * (v / (A * (256 * D)))) = 256 * (-(D * (v / (A * (256 * D))))) by rw [Int.mul_neg, Int.mul_assoc], Int.add_mul_emod_self_left]
  show strOfNums _ = strOfNums _
  rw [key n (Nat.le_refl _)]
theorem be_numS8 (v : Int) (h : I64 v) : wrapN (beL (numS 8 v).data.toList) = v := by
  obtain ⟨h0, h1⟩ := h
  have e256 : ((256 ^ 8 : Nat) : Int) = 18446744073709551616 := by decide
  have hm : ((v % ((256 ^ 8 : Nat) : Int)).toNat : Int) = v % 18446744073709551616 := by rw [e256]; omega
  rw [numS_mod, be_numS 8 _ (by
    have : (256 : Nat) ^ 8 = 18446744073709551616 := by decide
    rw [this]
    omega), wrapN_eq]
  split <;> omega

def recR (r : Rd) : RecD × Rd :=
  (⟨((numR 1 r).1 : Nat), (textR 1 (numR 1 r).2).1, (textR 2 (textR 1 (numR 1 r).2).2).1, wrapN (numR 8 (textR 2 (textR 1 (numR 1 r).2).2).2).1⟩, (numR 8 (textR 2 (textR 1 (numR 1 r).2).2).2).2)
theorem recR_snd (r : Rd) : (recR r).2 = (numR 8 (textR 2 (textR 1 (numR 1 r).2).2).2).2 := by rw [recR]
theorem recR_fst (r : Rd) : (recR r).1 = ⟨((numR 1 r).1 : Nat), (textR 1 (numR 1 r).2).1, (textR 2 (textR 1 (numR 1 r).2).2).1, wrapN (numR 8 (textR 2 (textR 1 (numR 1 r).2).2).2).1⟩ := by rw [recR]
def rdRs (r : Rd) : Nat → List RecD × Rd
  | 0 => ([], r)
  | k + 1 => ((rdRs r k).1 ++ [(recR (rdRs r k).2).1], (recR (rdRs r k).2).2)
theorem rdRs_succ (r : Rd) (k : Nat) : rdRs r (k + 1) = ((rdRs r k).1 ++ [(recR (rdRs r k).2).1], (recR (rdRs r k).2).2) := by rw [rdRs]
theorem rdRs_length (r : Rd) : ∀ k, (rdRs r k).1.length = k
  | 0 => rfl
  | k + 1 => by rw [rdRs]; simp [rdRs_length r k]
def lsnR (s : ByteArray) : Nat × Rd := numR 8 ⟨s, false⟩
def cntB (s : ByteArray) : Nat × Rd := numR 2 (lsnR s).2
def batR (s : ByteArray) : List RecD × Rd := rdRs (cntB s).2 (cntB s).1
open Classical in
noncomputable def decB (s : ByteArray) : Int × List RecD × Bool := if (batR s).2.short = false ∧ batB (wrapN (lsnR s).1) (batR s).1 = s then (wrapN (lsnR s).1, (batR s).1, true) else (0, [], false)

/-- Whoever was short stays so. -/
theorem take_short {n : Nat} {r : Rd} (h : r.short = true) : (takeR n r).2.short = true := by
  unfold takeR; split <;> simp [h]
theorem num_short {k : Nat} {r : Rd} (h : r.short = true) : (numR k r).2.short = true := by rw [numR]; exact take_short h
theorem text_short {k : Nat} {r : Rd} (h : r.short = true) : (textR k r).2.short = true := by rw [textR]; exact take_short (num_short h)
theorem rec_short {r : Rd} (h : r.short = true) : (recR r).2.short = true := by
  rw [recR_snd]
  exact num_short (k := 8) (text_short (k := 2) (text_short (k := 1) (num_short (k := 1) h)))
theorem rds_short {r : Rd} {k : Nat} (h : (rdRs r k).2.short = true) : ∀ m, k ≤ m → (rdRs r m).2.short = true := by
  intro m hm
  induction m with
  | zero => rw [show k = 0 by omega] at h; exact h
  | succ m ih =>
    rcases Nat.eq_or_lt_of_le hm with rfl | hlt
    · exact h
    · rw [rdRs_succ]
      have := rec_short (ih (by omega))
      generalize recR (rdRs r m).2 = R at *
      exact this

theorem num_full {k : Nat} {r : Rd} {v : Int} {q : ByteArray} (h : r.rest = numS k v ++ q) : numR k r = (beL (numS k v).data.toList, ⟨q, r.short⟩) := by
  have h1 := take_full (n := k) h (numS_size k _)
  unfold numR
  rw [h1]
theorem rec_full {r : Rd} {x : RecD} {q : ByteArray} (h : r.rest = encR x ++ q) (hx : recOK x) (hn : I64 x.num) : recR r = (x, ⟨q, r.short⟩) := by
  have e0 : r.rest = numS 1 x.kind ++ (s8B x.tenant ++ (s16B x.text ++ (numS 8 x.num ++ q))) := by rw [h]; apply bext; simp [encR]
  have h0 := num_full e0
  have hk : ((beL (numS 1 x.kind).data.toList : Nat) : Int) = x.kind := by
    obtain ⟨_, _, h | h | h⟩ := hx
    · rw [h.1]; exact congrArg Int.ofNat (be_numS 1 1 (by decide))
    · rw [h.1]; exact congrArg Int.ofNat (be_numS 1 2 (by decide))
    · rw [h]; exact congrArg Int.ofNat (be_numS 1 3 (by decide))
  have h1 : textR 1 (numR 1 r).2 = (x.tenant, ⟨s16B x.text ++ (numS 8 x.num ++ q), r.short⟩) := by
    rw [h0]
    exact text_full (r := ⟨s8B x.tenant ++ (s16B x.text ++ (numS 8 x.num ++ q)), r.short⟩) (by show s8B x.tenant ++ (s16B x.text ++ (numS 8 x.num ++ q)) = _; apply bext; simp [s8B]) (by have := hx.1; omega)
  have h2 : textR 2 (textR 1 (numR 1 r).2).2 = (x.text, ⟨numS 8 x.num ++ q, r.short⟩) := by
    rw [h1]
    exact text_full (r := ⟨s16B x.text ++ (numS 8 x.num ++ q), r.short⟩) (by show s16B x.text ++ (numS 8 x.num ++ q) = _; apply bext; simp [s16B]) (by have := hx.2.1; omega)
  have h3 : numR 8 (textR 2 (textR 1 (numR 1 r).2).2).2 = (beL (numS 8 x.num).data.toList, ⟨q, r.short⟩) := by
    rw [h2]
    exact num_full (r := ⟨numS 8 x.num ++ q, r.short⟩) rfl
  unfold recR
  rw [h3, h2, h1, h0]
  simp only [be_numS8 _ hn, hk]
theorem rds_full {r : Rd} {xs : List RecD} {q : ByteArray} (h : r.rest = encRs xs ++ q) (hx : allR xs) (hn : RngR xs) : ∀ k, k ≤ xs.length → rdRs r k = (xs.take k, ⟨encRs (xs.drop k) ++ q, r.short⟩)
  | 0, _ => by
    cases r
    simp only at h
    simp [rdRs, h]
  | k + 1, hk => by
    have ih := rds_full h hx hn k (by omega)
    have e : encRs (xs.drop k) ++ q = encR xs[k] ++ (encRs (xs.drop (k + 1)) ++ q) := by
      rw [List.drop_eq_getElem_cons (by omega)]
      apply bext
      simp [encRs]
    have hl := rec_full (r := ⟨encRs (xs.drop k) ++ q, r.short⟩) e (hx k (by omega)) (hn k (by omega)).2
    rw [rdRs_succ, ih, hl, List.take_succ_eq_append_getElem (by omega)]
/-- What has been written is read again. -/
theorem bat_full {lsn : Int} {xs : List RecD} (hb : batOK lsn xs) (hn : RngR xs) : wrapN (lsnR (batB lsn xs)).1 = lsn ∧ (cntB (batB lsn xs)).1 = xs.length ∧ batR (batB lsn xs) = (xs, ⟨ByteArray.empty, false⟩) := by
  obtain ⟨b1, b2, b3, b4, b5⟩ := hb
  have e0 : (⟨batB lsn xs, false⟩ : Rd).rest = numS 8 lsn ++ (numS 2 (xs.length : Nat) ++ (encRs xs ++ ByteArray.empty)) := by
    show batB lsn xs = _
    rw [batB_ok ⟨b1, b2, b3, b4, b5⟩]; apply bext; simp [batHead]
  have h0 : lsnR (batB lsn xs) = _ := num_full e0
  have h1 : cntB (batB lsn xs) = (xs.length, ⟨encRs xs ++ ByteArray.empty, false⟩) := by
    unfold cntB
    rw [h0]
    have := num_full (k := 2) (r := ⟨numS 2 (xs.length : Nat) ++ (encRs xs ++ ByteArray.empty), false⟩) (v := (xs.length : Nat)) rfl
    rw [this, be_numS 2 _ (by omega)]
  refine ⟨by rw [h0]; exact be_numS8 _ ⟨by omega, by omega⟩, by rw [h1], ?_⟩
  unfold batR
  rw [h1]
  have := rds_full (r := ⟨encRs xs ++ ByteArray.empty, false⟩) rfl b5 hn xs.length (Nat.le_refl _)
  rw [this]
  simp [encRs]
theorem recR_rng (r : Rd) : I64 (recR r).1.kind ∧ I64 (recR r).1.num := by
  have h1 := num_lt 1 r
  have h2 := wrapN_rng (numR 8 (textR 2 (textR 1 (numR 1 r).2).2).2).1
  rw [recR_fst]
  generalize wrapN (numR 8 (textR 2 (textR 1 (numR 1 r).2).2).2).1 = Z at *
  generalize (numR 1 r).1 = N at *
  exact ⟨⟨by show (_ : Int) ≤ (N : Int); omega, by show (N : Int) ≤ _; omega⟩, h2⟩
theorem rds_rng {r : Rd} : ∀ k, RngR (rdRs r k).1
  | 0 => fun i h => absurd h (by simp [rdRs])
  | k + 1 => by
    intro i h
    rw [rdRs_length] at h
    simp only [rdRs_succ]
    rw [List.getElem_append]
    split
    · rename_i hi; exact rds_rng k i hi
    · simp only [List.getElem_singleton]
      exact recR_rng _
/-- The batch that a text is, whoever names it: what is read. -/
theorem dec_of {s : ByteArray} {lsn : Int} {xs : List RecD} (hs : s.size ≠ 0) (hn : RngR xs) (h : batB lsn xs = s) : decB s = (lsn, xs, true) := by
  have hb : batOK lsn xs := by
    by_cases hb : batOK lsn xs
    · exact hb
    · rw [batB_no hb] at h; rw [← h] at hs; exact absurd rfl hs
  subst h
  obtain ⟨h1, _, h3⟩ := bat_full hb hn
  unfold decB
  rw [h1, h3, if_pos ⟨rfl, rfl⟩]
theorem dec_short {s : ByteArray} (h : (batR s).2.short = true) : decB s = (0, [], false) := by
  unfold decB; rw [if_neg]; rw [h]; simp
theorem dec_ne {s : ByteArray} (h : batB (wrapN (lsnR s).1) (batR s).1 ≠ s) : decB s = (0, [], false) := by
  unfold decB; rw [if_neg]; exact fun hh => h hh.2
theorem dec_eq {s : ByteArray} (h : batB (wrapN (lsnR s).1) (batR s).1 = s) (h2 : (batR s).2.short = false) : decB s = (wrapN (lsnR s).1, (batR s).1, true) := by
  unfold decB; rw [if_pos ⟨h2, h⟩]
end Go.Proofs.YteajeifmllogiaaGreatDoor

namespace Go.Proofs.YteajeifmllogiaaGreatDoor
open Go.RowKit

def btwB (x lo hi : Int) : Bool := decide (lo ≤ x) && decide (x ≤ hi)

theorem between_any (x lo hi : Int) (w : World) : Calls Tryz.prog 24 #[.int .i64 x, .int .i64 lo, .int .i64 hi] w fun e w' => e = .returned (.bool (btwB x lo hi)) ∧ w' = w := by
  by_cases h1 : lo ≤ x
  · by_cases h2 : x ≤ hi
    · have e : btwB x lo hi = true := by simp [btwB, h1, h2]
      rw [e]
      go_enter Tryz.func24, Tryz.ntmps24
      go_wp2
      go_ret
      exact ⟨rfl, rfl⟩
    · have e : btwB x lo hi = false := by simp [btwB, h2]
      rw [e]
      go_enter Tryz.func24, Tryz.ntmps24
      go_wp2
      go_ret
      exact ⟨rfl, rfl⟩
  · have e : btwB x lo hi = false := by simp [btwB, h1]
    rw [e]
    go_enter Tryz.func24, Tryz.ntmps24
    go_wp2
    go_ret
    exact ⟨rfl, rfl⟩

theorem take_snoc (s : ByteArray) (k : Nat) (h : k < s.size) : s.data.toList.take (k + 1) = s.data.toList.take k ++ [s[k]] := by
  rw [List.take_succ_eq_append_getElem (by simpa using h)]; rfl

end Go.Proofs.YteajeifmllogiaaGreatDoor

namespace Go.Proofs.YteajeifmllogiaaGreatDoor
open Go.RowKit

theorem or_i64 (a b : Nat) (ha : a < 4611686018427387904) (hb : b < 4611686018427387904) : bits .or .i64 (a : Int) (b : Int) = ((a ||| b : Nat) : Int) := by
  have hx : a ||| b < 2 ^ 62 := Nat.or_lt_two_pow (by omega) (by omega)
  show IntKind.i64.wrap ((BitVec.ofInt 64 (a : Int) ||| BitVec.ofInt 64 (b : Int)).toNat : Int) = _
  rw [BitVec.toNat_or, BitVec.ofInt_natCast, BitVec.ofInt_natCast, BitVec.toNat_ofNat, BitVec.toNat_ofNat, Nat.mod_eq_of_lt (by omega), Nat.mod_eq_of_lt (by omega)]
  simp only [IntKind.wrap, IntKind.bits, IntKind.signed]
  simp
  omega
theorem or_low (a b : Nat) (hb : b < 256) (ha : a < 281474976710656) : bits .or .i64 ((a : Int) * 256) (b : Int) = ((a * 256 + b : Nat) : Int) := by
  have hx : a * 256 ||| b = a * 256 + b := by
    have := Nat.two_pow_add_eq_or_of_lt (i := 8) (b := b) (by omega) a
    rw [show 2 ^ 8 * a = a * 256 by omega] at this
    exact this.symm
  rw [← hx]
  exact or_i64 (a * 256) b (by omega) (by omega)

set_option maxRecDepth 100000 in
set_option maxHeartbeats 1000000 in
theorem implNum_any (s : ByteArray) (w : World) (hs : s.size ≤ 7) :
    Calls Tryz.prog 66 #[.string s] w fun e w' => e = .returned (.int .i64 (beL s.data.toList : Nat)) ∧ w' = w := by
  go_enter Tryz.func66, Tryz.ntmps66
  go_wp2
  go_loopw [3, 4, 7] (fun x _ c wr => ∃ (k X : Nat), k ≤ s.size ∧ c = .int .i64 k ∧ x = .int .i64 X ∧ X < 256 ^ k ∧ Hid (X = beL (s.data.toList.take k)) ∧ wr = w) (fun _ _ c _ => s.size - (intOf c).toNat)
  case atStart => exact ⟨0, 0, by omega, rfl, rfl, by simp, by show _ = _; simp [beL], rfl⟩
  case round =>
    obtain ⟨k, X, hk, rfl, rfl, hX, hx, rfl⟩ := hrel
    by_cases hlt : k < s.size
    · have hc := (s[k]).toNat_lt
      have hX6 : X < 281474976710656 := Nat.lt_of_lt_of_le hX (Nat.pow_le_pow_right (n := 256) (by omega) (show k ≤ 6 by omega))
      have ho := or_low X (s[k]).toNat (by omega) (by omega)
      go_wp2
      refine ⟨⟨k + 1, X * 256 + (s[k]).toNat, by omega, by go_num, ?_, ?_, ?_, trivial⟩, by simp [intOf]; omega⟩
      · go_num
      · rw [Nat.pow_succ]; omega
      · show _ = _
        rw [take_snoc s k hlt, beL_snoc, ← hx.out]
    · have e : k = s.size := by omega
      subst e
      go_wp2
      go_ret
      refine ⟨?_, rfl⟩
      show Ending.returned (.int .i64 (X : Nat)) = _
      rw [hx.out, List.take_of_length_le (by simp)]
end Go.Proofs.YteajeifmllogiaaGreatDoor

namespace Go.Proofs.YteajeifmllogiaaGreatDoor
open Go.RowKit

theorem hid {p : Prop} (h : p) : Hid p := h
theorem Blk.new (w : World) (cs : Array Value) (t : TypeId) : Blk (w.alloc (.cells cs t)) w.heap.size cs t := heap_alloc_new _ _
theorem Blk.alloc {w : World} {g : Nat} {cur : Array Value} {t : TypeId} (h : Blk w g cur t) (o : Obj) : Blk (w.alloc o) g cur t := h.later (bnew _ _)
theorem Blk.but {w w' : World} {g g' : Nat} {cur : Array Value} {t : TypeId} (h : Blk w g cur t) (hb : But g' w w') (hne : g ≠ g') : Blk w' g cur t := (hb.block g (lt_of_block h) hne).trans h
end Go.Proofs.YteajeifmllogiaaGreatDoor

