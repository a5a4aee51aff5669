import Derived.Test.YtojeemogabhaoaaGreatDoorJ04SNum
import Derived.Test.YtojeemogabhaoaaGreatDoorProg
import Derived.Test.YtojeemogabhaoaaGreatDoorJ01BlkN
namespace Go.Proofs.YtojeemogabhaoaaGreatDoor
open Go.RowKit
def numN (v : Nat) : Nat → List Nat
  | 0 => []
  | n + 1 => v / 256 ^ n % 256 :: numN v n
theorem numN_length (v : Nat) : ∀ n, (numN v n).length = n
  | 0 => rfl
  | n + 1 => by simp [numN, numN_length v n]
theorem shrN_nat (v : Nat) : ∀ k, shrN (v : Int) k = ((v / 256 ^ k : Nat) : Int)
  | 0 => by simp [shrN]
  | k + 1 => by rw [shrN, shrN_nat v k, Nat.pow_succ, ← Nat.div_div_eq_div_mul]; omega
theorem numI_nat (v : Nat) : ∀ n, numI (v : Int) n = (numN v n).map (fun x : Nat => (x : Int))
  | 0 => rfl
  | n + 1 => by rw [numI, numN, List.map_cons, numI_nat v n, shrN_nat]; simp
theorem numN_add (a b n : Nat) : ∀ m, m ≤ n → numN (a * 256 ^ n + b) m = numN b m
  | 0, _ => rfl
  | m + 1, h => by
    rw [numN, numN, numN_add a b n m (by omega)]
    congr 1
    obtain ⟨d, rfl⟩ : ∃ d, n = m + 1 + d := ⟨n - (m + 1), by omega⟩
    have e : a * 256 ^ (m + 1 + d) + b = b + 256 ^ m * (a * 256 ^ d * 256) := by rw [Nat.pow_add, Nat.pow_succ, Nat.add_comm]; congr 1; ac_rfl
    rw [e, Nat.add_mul_div_left _ _ (Nat.pow_pos (by omega))]
    omega
theorem beL_cons (c : UInt8) (l : List UInt8) : beL (c :: l) = c.toNat * 256 ^ l.length + beL l := by
  have hg : ∀ (l : List UInt8) (v : Nat), l.foldl (fun v c => v * 256 + c.toNat) v = v * 256 ^ l.length + beL l := fun l => by
    induction l with
    | nil => intro v; simp [beL]
    | cons d l ih =>
      intro v
      have h1 := ih (v * 256 + d.toNat)
      have h2 := ih (0 * 256 + d.toNat)
      simp only [beL, List.foldl_cons, List.length_cons, Nat.pow_succ] at h1 h2 ⊢
      rw [h1, h2]
      simp only [Nat.add_mul, Nat.zero_mul, Nat.zero_add]
      rw [Nat.add_assoc]
      congr 1
      ac_rfl
  have := hg l (0 * 256 + c.toNat)
  simpa [beL] using this
theorem numN_be : ∀ (l : List UInt8), numN (beL l) l.length = l.map (fun c => c.toNat)
  | [] => rfl
  | c :: l => by
    have hb := beL_lt l
    have hc := c.toNat_lt
    rw [List.length_cons, numN, beL_cons, numN_add _ _ _ _ (Nat.le_refl _), numN_be l, List.map_cons]
    congr 1
    rw [Nat.add_comm, Nat.mul_comm, Nat.add_mul_div_left _ _ (Nat.pow_pos (by omega)), Nat.div_eq_of_lt hb]
    omega
theorem numS_be (l : List UInt8) (n : Nat) (h : l.length = n) : numS n (beL l : Nat) = ⟨l.toArray⟩ := by
  subst h
  rw [numS, numI_nat, numN_be, strOfNums]
  congr 2
  rw [List.map_map, List.map_map]
  conv => rhs; rw [← List.map_id l]
  congr 1
  funext c
  simp
theorem be_numN (v : Nat) : ∀ n, beL ((numN v n).map UInt8.ofNat) = v % 256 ^ n
  | 0 => by simp [numN, beL, Nat.mod_one]
  | n + 1 => by
    rw [numN, List.map_cons, beL_cons, be_numN v n, List.length_map, numN_length, UInt8.toNat_ofNat_of_lt' (by show _ < 256; omega), Nat.pow_succ, Nat.mod_mul]
    rw [Nat.mul_comm, Nat.add_comm]
theorem numS_data (n v : Nat) : (numS n v).data.toList = (numN v n).map UInt8.ofNat := by
  rw [numS, numI_nat, strOfNums_data, List.map_map]
  congr 1
theorem be_numS (n v : Nat) (h : v < 256 ^ n) : beL (numS n v).data.toList = v := by
  rw [numS_data, be_numN, Nat.mod_eq_of_lt h]
end Go.Proofs.YtojeemogabhaoaaGreatDoor
namespace Go.Proofs.YtojeemogabhaoaaGreatDoor
open Go.RowKit
def s8B (s : ByteArray) : ByteArray := numS 1 (s.size : Nat) ++ s
def s16B (s : ByteArray) : ByteArray := numS 2 (s.size : Nat) ++ s
theorem s8B_size (s : ByteArray) : (s8B s).size = 1 + s.size := by rw [s8B, ByteArray.size_append, numS_size]
theorem s16B_size (s : ByteArray) : (s16B s).size = 2 + s.size := by rw [s16B, ByteArray.size_append, numS_size]
end Go.Proofs.YtojeemogabhaoaaGreatDoor
namespace Go.Proofs.YtojeemogabhaoaaGreatDoor
open Go.RowKit
def eqLabB (x y : LabD) : Bool := x.name.toList == y.name.toList && x.value.toList == y.value.toList
def sameLs : List LabD → List LabD → Bool
  | [], [] => true
  | x :: r, y :: q => eqLabB x y && sameLs r q
  | _, _ => false
theorem eqLabB_iff (x y : LabD) : eqLabB x y = true ↔ x = y := by
  unfold eqLabB
  rw [Bool.and_eq_true, beq_iff_eq, beq_iff_eq]
  constructor
  · rintro ⟨h1, h2⟩
    cases x; cases y
    simp only [LabD.mk.injEq]
    exact ⟨toList_inj h1, toList_inj h2⟩
  · rintro rfl; exact ⟨rfl, rfl⟩
theorem sameLs_iff : ∀ (a b : List LabD), sameLs a b = true ↔ a = b
  | [], [] => by simp [sameLs]
  | [], _ :: _ => by simp [sameLs]
  | _ :: _, [] => by simp [sameLs]
  | x :: r, y :: q => by
    rw [sameLs, Bool.and_eq_true, eqLabB_iff, sameLs_iff r q]
    simp
theorem sameLs_len {a b : List LabD} (h : a.length ≠ b.length) : sameLs a b = false := by
  rw [Bool.eq_false_iff]
  intro h'
  exact h (by rw [(sameLs_iff a b).1 h'])
theorem sameLs_drop (a b : List LabD) (k : Nat) (ha : k < a.length) (hb : k < b.length) : sameLs (a.drop k) (b.drop k) = (eqLabB a[k] b[k] && sameLs (a.drop (k + 1)) (b.drop (k + 1))) := by
  rw [List.drop_eq_getElem_cons ha, List.drop_eq_getElem_cons hb, sameLs]
def canB (ls : List LabD) : Bool := decide ((canonR ls).2.1 = 0) && sameLs (canonR ls).1 ls
def tailB : List LabD → ByteArray
  | [] => ByteArray.empty
  | l :: r => s8B l.name ++ s16B l.value ++ tailB r
def keyB (ls : List LabD) : ByteArray := numS 1 (ls.length : Nat) ++ tailB ls
def keyV (ls : List LabD) : ByteArray := if canB ls = true then keyB ls else ByteArray.empty
theorem tailB_append : ∀ (a b : List LabD), tailB (a ++ b) = tailB a ++ tailB b
  | [], b => by simp [tailB]
  | l :: r, b => by
    show s8B l.name ++ s16B l.value ++ tailB (r ++ b) = s8B l.name ++ s16B l.value ++ tailB r ++ tailB b
    rw [tailB_append r b, ByteArray.append_assoc (b := tailB r)]
theorem tailB_take (ls : List LabD) (k : Nat) (h : k < ls.length) : tailB (ls.take (k + 1)) = tailB (ls.take k) ++ (s8B ls[k].name ++ s16B ls[k].value) := by
  rw [List.take_succ_eq_append_getElem h, tailB_append]
  simp [tailB]
theorem canon_len0 (ls : List LabD) : (canonR ls).1.length ≤ 16 := by
  unfold canonR
  split
  · simp
  · rename_i h16
    split
    · simp
    · split
      · simp
      · split
        · simp only
          rw [insAll_len]
          have := keptL_len ls
          omega
        · simp
theorem canon_some16 {ls : List LabD} (h : (canonR ls).2.1 = 0) : ls.length ≤ 16 := by
  unfold canonR at h
  split at h
  · exact absurd h (by simp)
  · omega
theorem can_le {ls : List LabD} (h : canB ls = true) : ls.length ≤ 16 := by
  unfold canB at h
  rw [Bool.and_eq_true, decide_eq_true_eq] at h
  exact canon_some16 h.1
theorem can_form {ls : List LabD} (h : canB ls = true) : canonR ls = (ls, 0, (canonR ls).2.2) := by
  unfold canB at h
  rw [Bool.and_eq_true, decide_eq_true_eq] at h
  have h2 := (sameLs_iff _ _).1 h.2
  have h1 := h.1
  generalize canonR ls = c at *
  obtain ⟨x, y, z⟩ := c
  simp only at h1 h2
  rw [h1, h2]
end Go.Proofs.YtojeemogabhaoaaGreatDoor
namespace Go.Proofs.YtojeemogabhaoaaGreatDoor
open Go.RowKit
theorem bext {x y : ByteArray} (h : x.data.toList = y.data.toList) : x = y := by
  cases x; cases y
  simp only [ByteArray.mk.injEq]
  exact Array.toList_inj.1 h
theorem blist_append (x y : ByteArray) : (x ++ y).data.toList = x.data.toList ++ y.data.toList := by simp
theorem blist_extract (s : ByteArray) (i j : Nat) : (s.extract i j).data.toList = (s.data.toList.take j).drop i := by
  rw [ByteArray.data_extract, Array.toList_extract, List.extract_eq_drop_take']
theorem bsize (s : ByteArray) : s.size = s.data.toList.length := by simp
structure Rd where
  rest : ByteArray
  short : Bool
def takeR (n : Nat) (r : Rd) : ByteArray × Rd := if r.rest.size < n then (ByteArray.empty, ⟨r.rest, true⟩) else (r.rest.extract 0 n, ⟨r.rest.extract n r.rest.size, r.short⟩)
def numR (k : Nat) (r : Rd) : Nat × Rd := (beL (takeR k r).1.data.toList, (takeR k r).2)
def textR (k : Nat) (r : Rd) : ByteArray × Rd := takeR (numR k r).1 (numR k r).2
theorem take_le (n : Nat) (r : Rd) : (takeR n r).1.size ≤ n ∧ (takeR n r).1.size ≤ r.rest.size ∧ (takeR n r).2.rest.size ≤ r.rest.size := by
  unfold takeR
  split
  · exact ⟨by simp, by simp, Nat.le_refl _⟩
  · refine ⟨?_, ?_, ?_⟩ <;> simp <;> omega
theorem take_sound {n : Nat} {r : Rd} (h : (takeR n r).2.short = false) : r.short = false ∧ (takeR n r).1.size = n ∧ r.rest = (takeR n r).1 ++ (takeR n r).2.rest := by
  unfold takeR at *
  split at h
  · exact absurd h (by simp)
  · rename_i hn
    rw [if_neg hn]
    refine ⟨h, by simp; omega, ?_⟩
    apply bext
    rw [blist_append, blist_extract, blist_extract, List.drop_zero, bsize, List.take_length, List.take_append_drop]
theorem take_full {n : Nat} {r : Rd} {t q : ByteArray} (h : r.rest = t ++ q) (hn : t.size = n) : takeR n r = (t, ⟨q, r.short⟩) := by
  have hz : r.rest.size = n + q.size := by rw [h, ByteArray.size_append, hn]
  unfold takeR
  rw [if_neg (by omega)]
  have e1 : r.rest.extract 0 n = t := by
    apply bext
    rw [blist_extract, List.drop_zero, h, blist_append, ← hn, bsize, List.take_left]
  have e2 : r.rest.extract n r.rest.size = q := by
    apply bext
    rw [blist_extract, bsize r.rest, List.take_length, h, blist_append, ← hn, bsize, List.drop_left]
  rw [e1, e2]
theorem text_sound {k : Nat} {r : Rd} (h : (textR k r).2.short = false) : r.short = false ∧ r.rest = numS k ((textR k r).1.size : Nat) ++ ((textR k r).1 ++ (textR k r).2.rest) := by
  obtain ⟨h1, h2, h3⟩ := take_sound (r := (numR k r).2) h
  obtain ⟨g1, g2, g3⟩ := take_sound (n := k) (r := r) h1
  refine ⟨g1, ?_⟩
  have e : numS k ((textR k r).1.size : Nat) = (takeR k r).1 := by
    show numS k ((takeR (numR k r).1 (numR k r).2).1.size : Nat) = _
    rw [h2]
    have := numS_be (takeR k r).1.data.toList k (by rw [← bsize]; exact g2)
    show numS k (beL (takeR k r).1.data.toList : Nat) = _
    rw [this]
  rw [e]
  have h3' : (takeR k r).2.rest = (textR k r).1 ++ (textR k r).2.rest := h3
  rw [← h3']
  exact g3
theorem text_full {k : Nat} {r : Rd} {t q : ByteArray} (h : r.rest = numS k (t.size : Nat) ++ (t ++ q)) (hk : t.size < 256 ^ k) : textR k r = (t, ⟨q, r.short⟩) := by
  have h1 := take_full (n := k) h (numS_size k _)
  have e1 : (numR k r).1 = t.size := by
    show beL (takeR k r).1.data.toList = _
    rw [h1]
    exact be_numS k t.size hk
  have e2 : (numR k r).2 = ⟨t ++ q, r.short⟩ := by
    show (takeR k r).2 = _
    rw [h1]
  rw [textR, e1, e2]
  exact take_full rfl rfl
theorem text_le (k : Nat) (r : Rd) : (textR k r).1.size ≤ r.rest.size ∧ (textR k r).2.rest.size ≤ r.rest.size := by
  have h1 := take_le k r
  have h2 := take_le (numR k r).1 (numR k r).2
  have e : (numR k r).2 = (takeR k r).2 := rfl
  rw [e] at h2
  exact ⟨by have := h2.2.1; unfold textR; rw [e]; omega, by have := h2.2.2; unfold textR; rw [e]; omega⟩
theorem num_lt (k : Nat) (r : Rd) : (numR k r).1 < 256 ^ k := by
  have h := beL_lt (takeR k r).1.data.toList
  have h1 := (take_le k r).1
  have h2 : 256 ^ (takeR k r).1.data.toList.length ≤ 256 ^ k := Nat.pow_le_pow_right (by omega) (by rw [← bsize]; exact h1)
  show beL (takeR k r).1.data.toList < _
  omega
end Go.Proofs.YtojeemogabhaoaaGreatDoor
namespace Go.Proofs.YtojeemogabhaoaaGreatDoor
open Go.RowKit
def labR (r : Rd) : LabD × Rd := (⟨(textR 1 r).1, (textR 2 (textR 1 r).2).1⟩, (textR 2 (textR 1 r).2).2)
def rdK (r : Rd) : Nat → List LabD × Rd
  | 0 => ([], r)
  | k + 1 => ((rdK r k).1 ++ [(labR (rdK r k).2).1], (labR (rdK r k).2).2)
def cntR (key : ByteArray) : Nat := (numR 1 ⟨key, false⟩).1
def rdAll (key : ByteArray) : List LabD × Rd := rdK (numR 1 ⟨key, false⟩).2 (cntR key)
def wholeB (r : Rd) : Bool := !r.short && (r.rest.toList == ByteArray.empty.toList)
def decV (key : ByteArray) : List LabD × Bool := if (wholeB (rdAll key).2 && canB (rdAll key).1) = true then ((rdAll key).1, true) else ([], false)
theorem labR_eq (r : Rd) : labR r = (⟨(textR 1 r).1, (textR 2 (textR 1 r).2).1⟩, (textR 2 (textR 1 r).2).2) := by rw [labR]
theorem rdK_succ (r : Rd) (k : Nat) : rdK r (k + 1) = ((rdK r k).1 ++ [(labR (rdK r k).2).1], (labR (rdK r k).2).2) := by rw [rdK]
theorem rdK_length (r : Rd) : ∀ k, (rdK r k).1.length = k
  | 0 => rfl
  | k + 1 => by rw [rdK]; simp [rdK_length r k]
theorem lab_sound {r : Rd} (h : (labR r).2.short = false) : r.short = false ∧ r.rest = s8B (labR r).1.name ++ s16B (labR r).1.value ++ (labR r).2.rest := by
  obtain ⟨h1, h2⟩ := text_sound (k := 2) (r := (textR 1 r).2) h
  obtain ⟨g1, g2⟩ := text_sound (k := 1) (r := r) h1
  refine ⟨g1, ?_⟩
  rw [g2, h2]
  apply bext
  simp [labR, s8B, s16B]
theorem lab_full {r : Rd} {l : LabD} {q : ByteArray} (h : r.rest = s8B l.name ++ s16B l.value ++ q) (h1 : l.name.size < 256) (h2 : l.value.size < 65536) : labR r = (l, ⟨q, r.short⟩) := by
  have e : r.rest = numS 1 (l.name.size : Nat) ++ (l.name ++ (s16B l.value ++ q)) := by
    rw [h]; apply bext; simp [s8B]
  have e1 := text_full e (by omega)
  have e2 : textR 2 (textR 1 r).2 = (l.value, ⟨q, r.short⟩) := by
    rw [e1]
    exact text_full (r := ⟨s16B l.value ++ q, r.short⟩) (by show s16B l.value ++ q = _; apply bext; simp [s16B]) (by omega)
  rw [labR, e2, e1]
theorem rd_sound {r : Rd} (k : Nat) : (rdK r k).2.short = false → r.short = false ∧ r.rest = tailB (rdK r k).1 ++ (rdK r k).2.rest := by
  induction k with
  | zero =>
    intro h
    refine ⟨h, ?_⟩
    show r.rest = ByteArray.empty ++ r.rest
    apply bext
    simp
  | succ k ih =>
    intro h
    rw [rdK_succ] at h ⊢
    simp only at h ⊢
    obtain ⟨h1, h2⟩ := lab_sound h
    obtain ⟨g1, g2⟩ := ih h1
    refine ⟨g1, ?_⟩
    generalize rdK r k = R at *
    generalize labR R.2 = L at *
    rw [g2, h2, tailB_append]
    have e3 : tailB [L.1] = s8B L.1.name ++ s16B L.1.value := by
      show s8B L.1.name ++ s16B L.1.value ++ ByteArray.empty = _
      apply bext
      simp
    rw [e3]
    apply bext
    simp
def SmallL (ls : List LabD) : Prop := ∀ i (h : i < ls.length), ls[i].name.size < 256 ∧ ls[i].value.size < 65536
theorem rd_full {r : Rd} {ls : List LabD} {q : ByteArray} (h : r.rest = tailB ls ++ q) (hs : SmallL ls) : ∀ k, k ≤ ls.length → rdK r k = (ls.take k, ⟨tailB (ls.drop k) ++ q, r.short⟩)
  | 0, _ => by
    cases r
    simp only at h
    simp [rdK, h]
  | k + 1, hk => by
    have ih := rd_full h hs k (by omega)
    have e : tailB (ls.drop k) ++ q = s8B ls[k].name ++ s16B ls[k].value ++ (tailB (ls.drop (k + 1)) ++ q) := by
      rw [List.drop_eq_getElem_cons (by omega)]
      apply bext
      simp [tailB]
    have hl := lab_full (r := ⟨tailB (ls.drop k) ++ q, r.short⟩) e (hs k (by omega)).1 (hs k (by omega)).2
    rw [rdK_succ, ih, hl, List.take_succ_eq_append_getElem (by omega)]
theorem runes_size (s : ByteArray) : ∀ (b p : Nat) (l : List Nat), s.size ≤ p + b → runesFrom s b p = some l → s.size ≤ p + 4 * l.length
  | 0, p, l, hb, _ => by omega
  | b + 1, p, l, hb, h => by
    rw [runesFrom] at h
    split at h
    · split at h
      · exact absurd h (by simp)
      · obtain ⟨l', hl', rfl⟩ := Option.map_eq_some_iff.1 h
        have h1 := decode_pos s p
        have h4 := (decode_rune s p).2
        have := runes_size s b _ l' (by omega) hl'
        simp
        omega
    · omega
theorem val_size {s : ByteArray} (h : valV s = 0) : s.size ≤ 512 := by
  unfold valV at h
  split at h
  · exact absurd h (by simp)
  · rename_i l hl
    unfold endV at h
    split at h
    · exact absurd h (by simp)
    · have := runes_size s s.size 0 l (by omega) hl
      omega
theorem firstBad_none : ∀ (ls : List LabD) (j : Nat), firstBad ls j = none → ∀ i (h : i < ls.length), labV ls[i] = 0
  | [], _, _, i, h => absurd h (by simp)
  | l :: r, j, hn, i, h => by
    rw [firstBad] at hn
    split at hn
    · rename_i h0
      cases i with
      | zero => exact h0
      | succ i => exact firstBad_none r _ hn i (by simpa using h)
    · exact absurd hn (by simp)
theorem firstBad_ne : ∀ (l : List LabD) (j c i : Nat), firstBad l j = some (c, i) → c ≠ 0
  | [], _, _, _, h => by simp [firstBad] at h
  | x :: r, j, c, i, h => by
    rw [firstBad] at h
    split at h
    · exact firstBad_ne r _ _ _ h
    · rename_i hx
      simp only [Option.some.injEq, Prod.mk.injEq] at h
      rw [← h.1]
      exact hx
theorem can_small {ls : List LabD} (h : canB ls = true) : SmallL ls := by
  have hc := can_form h
  have h16 := can_le h
  have h0 : (canonR ls).2.1 = 0 := by rw [hc]
  have hb : firstBad ls 0 = none := by
    cases hb : firstBad ls 0 with
    | none => rfl
    | some ci =>
      obtain ⟨c, i⟩ := ci
      rw [canon_bad (by omega) hb] at h0
      exact absurd h0 (firstBad_ne ls 0 c i hb)
  intro i hi
  have hl := firstBad_none ls 0 hb i hi
  unfold labV at hl
  split at hl
  · rename_i hn
    have hn' : nameOK ls[i].name := by simpa [nameB] using hn
    have := val_size hl
    exact ⟨by have := hn'.2.1; omega, by omega⟩
  · exact absurd hl (by simp)
theorem dec_full {ls : List LabD} (h : canB ls = true) : decV (keyB ls) = (ls, true) := by
  have h16 := can_le h
  have hs := can_small h
  have h1 : takeR 1 ⟨keyB ls, false⟩ = (numS 1 (ls.length : Nat), ⟨tailB ls, false⟩) := take_full rfl (numS_size 1 _)
  have hc : cntR (keyB ls) = ls.length := by
    show beL (takeR 1 ⟨keyB ls, false⟩).1.data.toList = _
    rw [h1]
    exact be_numS 1 ls.length (by omega)
  have hn : (numR 1 ⟨keyB ls, false⟩).2 = ⟨tailB ls, false⟩ := by
    show (takeR 1 ⟨keyB ls, false⟩).2 = _
    rw [h1]
  have ha : rdAll (keyB ls) = (ls, ⟨ByteArray.empty, false⟩) := by
    unfold rdAll
    rw [hc, hn]
    have e := rd_full (r := ⟨tailB ls, false⟩) (q := ByteArray.empty) (by apply bext; simp) hs ls.length (Nat.le_refl _)
    rw [e, List.take_length, List.drop_length]
    simp [tailB]
  unfold decV
  rw [ha]
  simp only
  rw [if_pos (by simp [wholeB, h])]
theorem dec_key {key : ByteArray} (h : (decV key).2 = true) : canB (decV key).1 = true ∧ keyB (decV key).1 = key := by
  unfold decV at h ⊢
  split at h
  · rename_i hw
    rw [if_pos hw]
    rw [Bool.and_eq_true] at hw
    refine ⟨hw.2, ?_⟩
    have hwh := hw.1
    unfold wholeB at hwh
    rw [Bool.and_eq_true] at hwh
    have hsh : (rdAll key).2.short = false := by simpa using hwh.1
    have hre : (rdAll key).2.rest = ByteArray.empty := toList_inj (by simpa using hwh.2)
    obtain ⟨g1, g2⟩ := rd_sound (r := (numR 1 ⟨key, false⟩).2) (cntR key) hsh
    obtain ⟨k1, k2, k3⟩ := take_sound (n := 1) (r := ⟨key, false⟩) g1
    have hl : (rdAll key).1.length = cntR key := rdK_length _ _
    have e : numS 1 ((rdAll key).1.length : Nat) = (takeR 1 ⟨key, false⟩).1 := by
      rw [hl]
      have := numS_be (takeR 1 ⟨key, false⟩).1.data.toList 1 (by rw [← bsize]; exact k2)
      show numS 1 (beL (takeR 1 ⟨key, false⟩).1.data.toList : Nat) = _
      rw [this]
    show numS 1 ((rdAll key).1.length : Nat) ++ tailB (rdAll key).1 = key
    have g2' : (takeR 1 ⟨key, false⟩).2.rest = tailB (rdAll key).1 ++ (rdAll key).2.rest := g2
    have k3' : key = (takeR 1 ⟨key, false⟩).1 ++ (takeR 1 ⟨key, false⟩).2.rest := k3
    rw [e]
    conv => rhs; rw [k3', g2', hre]
    apply bext
    simp
  · exact absurd h (by simp)
theorem dec_not {key : ByteArray} (h : (decV key).2 = false) : decV key = ([], false) ∧ ∀ ls, canB ls = true → keyB ls ≠ key := by
  refine ⟨?_, fun ls hc e => ?_⟩
  · unfold decV at h ⊢
    split at h
    · exact absurd h (by simp)
    · rename_i hw; rw [if_neg hw]
  · rw [← e, dec_full hc] at h
    exact absurd h (by simp)
theorem rd_big (r : Rd) (k : Nat) : (rdK r k).2.rest.size ≤ r.rest.size ∧ ∀ i (h : i < (rdK r k).1.length), (rdK r k).1[i].name.size ≤ r.rest.size ∧ (rdK r k).1[i].value.size ≤ r.rest.size := by
  induction k with
  | zero => exact ⟨Nat.le_refl _, fun i h => absurd h (by simp [rdK])⟩
  | succ k ih =>
    have h1 := text_le 1 (rdK r k).2
    have h2 := text_le 2 (textR 1 (rdK r k).2).2
    rw [rdK_succ, labR_eq]
    generalize rdK r k = R at *
    generalize textR 1 R.2 = t1 at *
    generalize textR 2 t1.2 = t2 at *
    refine ⟨by have := ih.1; simp only; omega, fun i hi => ?_⟩
    simp only at hi
    by_cases e : i < R.1.length
    · simp only [List.getElem_append_left e]; exact ih.2 i e
    · have hlen : i = R.1.length := by simp at hi; omega
      subst hlen
      simp only [List.getElem_concat_length]
      have := ih.1
      exact ⟨by omega, by omega⟩
theorem rdAll_big (key : ByteArray) : ∀ i (h : i < (rdAll key).1.length), (rdAll key).1[i].name.size ≤ key.size ∧ (rdAll key).1[i].value.size ≤ key.size := by
  intro i hi
  have h1 := (rd_big (numR 1 ⟨key, false⟩).2 (cntR key)).2 i hi
  have h2 := (take_le 1 ⟨key, false⟩).2.2
  have h3 : (numR 1 ⟨key, false⟩).2.rest.size ≤ key.size := h2
  exact ⟨Nat.le_trans h1.1 h3, Nat.le_trans h1.2 h3⟩
end Go.Proofs.YtojeemogabhaoaaGreatDoor
namespace Go.Proofs.YtojeemogabhaoaaGreatDoor
open Go.RowKit
def btwB (x lo hi : Int) : Bool := decide (lo ≤ x) && decide (x ≤ hi)
theorem between_any (x lo hi : Int) (w : World) : Calls Tryz.prog 26 #[.int .i64 x, .int .i64 lo, .int .i64 hi] w fun e w' => e = .returned (.bool (btwB x lo hi)) ∧ w' = w := by
  by_cases h1 : lo ≤ x
  · by_cases h2 : x ≤ hi
    · have e : btwB x lo hi = true := by simp [btwB, h1, h2]
      rw [e]
      go_enter Tryz.func26, Tryz.ntmps26
      go_wp2
      go_ret
      exact ⟨rfl, rfl⟩
    · have e : btwB x lo hi = false := by simp [btwB, h2]
      rw [e]
      go_enter Tryz.func26, Tryz.ntmps26
      go_wp2
      go_ret
      exact ⟨rfl, rfl⟩
  · have e : btwB x lo hi = false := by simp [btwB, h1]
    rw [e]
    go_enter Tryz.func26, Tryz.ntmps26
    go_wp2
    go_ret
    exact ⟨rfl, rfl⟩
theorem take_snoc (s : ByteArray) (k : Nat) (h : k < s.size) : s.data.toList.take (k + 1) = s.data.toList.take k ++ [s[k]] := by
  rw [List.take_succ_eq_append_getElem (by simpa using h)]; rfl
end Go.Proofs.YtojeemogabhaoaaGreatDoor
namespace Go.Proofs.YtojeemogabhaoaaGreatDoor
open Go.RowKit
theorem within_any (x hi : Int) (w : World) : Calls Tryz.prog 60 #[.int .i64 x, .int .i64 hi] w fun e w' => e = .returned (.bool (btwB x 0 hi)) ∧ w' = w := by
  by_cases h1 : 0 ≤ x
  · by_cases h2 : x ≤ hi
    · have e : btwB x 0 hi = true := by simp [btwB, h1, h2]
      rw [e]
      go_enter Tryz.func60, Tryz.ntmps60
      go_wp2
      go_ret
      exact ⟨rfl, rfl⟩
    · have e : btwB x 0 hi = false := by simp [btwB, h2]
      rw [e]
      go_enter Tryz.func60, Tryz.ntmps60
      go_wp2
      go_ret
      exact ⟨rfl, rfl⟩
  · have e : btwB x 0 hi = false := by simp [btwB, h1]
    rw [e]
    go_enter Tryz.func60, Tryz.ntmps60
    go_wp2
    go_ret
    exact ⟨rfl, rfl⟩
end Go.Proofs.YtojeemogabhaoaaGreatDoor
namespace Go.Proofs.YtojeemogabhaoaaGreatDoor
open Go.RowKit
structure CfgD where
  w : Int
  tl : Int
  ml : Int
  sh : Int
  ha : Int
  sg : Int
def cfgV (c : CfgD) : Value := .agg #[.int .i64 c.w, .int .i64 c.tl, .int .i64 c.ml, .int .i64 c.sh, .int .i64 c.ha, .int .i64 c.sg]
def cfgB (c : CfgD) : Bool := btwB c.w 1 1000000000 && btwB c.tl 0 1000000 && btwB c.ml 0 1000000 && btwB c.sh 1 64 && btwB c.ha 0 2 && btwB c.sg 100 1000000
theorem btw_in {x lo hi : Int} (h : btwB x lo hi = true) : lo ≤ x ∧ x ≤ hi := by simpa [btwB] using h
theorem btw_out {x lo hi : Int} (h : ¬ btwB x lo hi = true) : x < lo ∨ hi < x := by
  by_cases h1 : lo ≤ x
  · by_cases h2 : x ≤ hi
    · exact absurd (by simp [btwB, h1, h2]) h
    · exact Or.inr (by omega)
  · exact Or.inl (by omega)
set_option maxHeartbeats 400000 in
theorem isLimit_any (x : Int) (w : World) : Calls Tryz.prog 89 #[.int .i64 x] w fun e w' => e = .returned (.bool (btwB x 0 1000000)) ∧ w' = w := by
  go_enter Tryz.func89, Tryz.ntmps89
  go_wp2_with (go_at_call 60; refine (within_any _ _ _).mono ?_; rintro e w' ⟨rfl, rfl⟩)
  go_ret
  exact ⟨rfl, rfl⟩
set_option maxRecDepth 100000 in
set_option maxHeartbeats 1000000 in
theorem specCfg_any (c : CfgD) (w : World) : Calls Tryz.prog 25 #[cfgV c] w fun e w' => e = .returned (.bool (cfgB c)) ∧ Below w.heap.size w w' := by
  obtain ⟨cw, ctl, cml, csh, cha, csg⟩ := c
  unfold cfgV
  simp only
  by_cases g0 : btwB cw 1 1000000000 = false
  · have h0 := g0
    have E : Hid (cfgB ⟨cw, ctl, cml, csh, cha, csg⟩ = false) := by show _ = _; simp [cfgB, g0]
    clear h0
    go_enter Tryz.func25, Tryz.ntmps25
    go_wp2_with (go_at_call 26; refine (between_any _ _ _ _).mono ?_; rintro e w' ⟨rfl, rfl⟩)
    go_ret
    exact ⟨ret_bool E.out.symm, bnew _ _⟩
  have h0 : btwB cw 1 1000000000 = true := by simpa using g0
  clear g0
  by_cases g1 : btwB ctl 0 1000000 = false
  · have h1 := g1
    have E : Hid (cfgB ⟨cw, ctl, cml, csh, cha, csg⟩ = false) := by show _ = _; simp [cfgB, h0, g1]
    clear h1
    go_enter Tryz.func25, Tryz.ntmps25
    go_wp2_with (go_at_call 26; refine (between_any _ _ _ _).mono ?_; rintro e w' ⟨rfl, rfl⟩)
    go_ret
    exact ⟨ret_bool E.out.symm, bnew _ _⟩
  have h1 : btwB ctl 0 1000000 = true := by simpa using g1
  clear g1
  by_cases g2 : btwB cml 0 1000000 = false
  · have h2 := g2
    have E : Hid (cfgB ⟨cw, ctl, cml, csh, cha, csg⟩ = false) := by show _ = _; simp [cfgB, h0, h1, g2]
    clear h2
    go_enter Tryz.func25, Tryz.ntmps25
    go_wp2_with (go_at_call 26; refine (between_any _ _ _ _).mono ?_; rintro e w' ⟨rfl, rfl⟩)
    go_ret
    exact ⟨ret_bool E.out.symm, bnew _ _⟩
  have h2 : btwB cml 0 1000000 = true := by simpa using g2
  clear g2
  by_cases g3 : btwB csh 1 64 = false
  · have h3 := g3
    have E : Hid (cfgB ⟨cw, ctl, cml, csh, cha, csg⟩ = false) := by show _ = _; simp [cfgB, h0, h1, h2, g3]
    clear h3
    go_enter Tryz.func25, Tryz.ntmps25
    go_wp2_with (go_at_call 26; refine (between_any _ _ _ _).mono ?_; rintro e w' ⟨rfl, rfl⟩)
    go_ret
    exact ⟨ret_bool E.out.symm, bnew _ _⟩
  have h3 : btwB csh 1 64 = true := by simpa using g3
  clear g3
  by_cases g4 : btwB cha 0 2 = false
  · have h4 := g4
    have E : Hid (cfgB ⟨cw, ctl, cml, csh, cha, csg⟩ = false) := by show _ = _; simp [cfgB, h0, h1, h2, h3, g4]
    clear h4
    go_enter Tryz.func25, Tryz.ntmps25
    go_wp2_with (go_at_call 26; refine (between_any _ _ _ _).mono ?_; rintro e w' ⟨rfl, rfl⟩)
    go_ret
    exact ⟨ret_bool E.out.symm, bnew _ _⟩
  have h4 : btwB cha 0 2 = true := by simpa using g4
  clear g4
  by_cases g5 : btwB csg 100 1000000 = false
  · have h5 := g5
    have E : Hid (cfgB ⟨cw, ctl, cml, csh, cha, csg⟩ = false) := by show _ = _; simp [cfgB, h0, h1, h2, h3, h4, g5]
    clear h5
    go_enter Tryz.func25, Tryz.ntmps25
    go_wp2_with (go_at_call 26; refine (between_any _ _ _ _).mono ?_; rintro e w' ⟨rfl, rfl⟩)
    go_ret
    exact ⟨ret_bool E.out.symm, bnew _ _⟩
  have h5 : btwB csg 100 1000000 = true := by simpa using g5
  clear g5
  have E : Hid (cfgB ⟨cw, ctl, cml, csh, cha, csg⟩ = true) := by show _ = _; simp [cfgB, h0, h1, h2, h3, h4, h5]
  go_enter Tryz.func25, Tryz.ntmps25
  go_wp2_with (go_at_call 26; refine (between_any _ _ _ _).mono ?_; rintro e w' ⟨rfl, rfl⟩)
  go_ret
  exact ⟨ret_bool E.out.symm, bnew _ _⟩
set_option maxRecDepth 100000 in
set_option maxHeartbeats 1000000 in
theorem implCfg_any (c : CfgD) (w : World) : Calls Tryz.prog 59 #[cfgV c] w fun e w' => e = .returned (.bool (cfgB c)) ∧ Below w.heap.size w w' := by
  obtain ⟨cw, ctl, cml, csh, cha, csg⟩ := c
  unfold cfgV
  simp only
  by_cases g0 : btwB cw 1 1000000000 = false
  · have h0 : ¬ btwB cw 1 1000000000 = true := by simpa using g0
    have E : Hid (cfgB ⟨cw, ctl, cml, csh, cha, csg⟩ = false) := by show _ = _; simp [cfgB, g0]
    have ho := btw_out h0
    clear h0 g0
    by_cases hx : 1 ≤ cw
    · have hy : ¬ cw ≤ 1000000000 := by omega
      clear ho
      go_enter Tryz.func59, Tryz.ntmps59
      go_wp2_with (first | (go_at_call 89; refine (isLimit_any _ _).mono ?_; rintro e w' ⟨rfl, rfl⟩) | (go_at_call 60; refine (within_any _ _ _).mono ?_; rintro e w' ⟨rfl, rfl⟩))
      go_ret
      exact ⟨ret_bool (by first | exact E.out.symm | (rw [E.out]; simp; omega)), bnew _ _⟩
    · clear ho
      go_enter Tryz.func59, Tryz.ntmps59
      go_wp2_with (first | (go_at_call 89; refine (isLimit_any _ _).mono ?_; rintro e w' ⟨rfl, rfl⟩) | (go_at_call 60; refine (within_any _ _ _).mono ?_; rintro e w' ⟨rfl, rfl⟩))
      go_ret
      exact ⟨ret_bool (by first | exact E.out.symm | (rw [E.out]; simp; omega)), bnew _ _⟩
  have h0 : btwB cw 1 1000000000 = true := by simpa using g0
  clear g0
  obtain ⟨i0, j0⟩ := btw_in h0
  by_cases g1 : btwB ctl 0 1000000 = false
  · have h1 : ¬ btwB ctl 0 1000000 = true := by simpa using g1
    have E : Hid (cfgB ⟨cw, ctl, cml, csh, cha, csg⟩ = false) := by show _ = _; simp [cfgB, h0, g1]
    clear h1
    go_enter Tryz.func59, Tryz.ntmps59
    go_wp2_with (first | (go_at_call 89; refine (isLimit_any _ _).mono ?_; rintro e w' ⟨rfl, rfl⟩) | (go_at_call 60; refine (within_any _ _ _).mono ?_; rintro e w' ⟨rfl, rfl⟩))
    go_ret
    exact ⟨ret_bool (by first | exact E.out.symm | (rw [E.out]; simp; omega)), bnew _ _⟩
  have h1 : btwB ctl 0 1000000 = true := by simpa using g1
  clear g1
  by_cases g2 : btwB cml 0 1000000 = false
  · have h2 : ¬ btwB cml 0 1000000 = true := by simpa using g2
    have E : Hid (cfgB ⟨cw, ctl, cml, csh, cha, csg⟩ = false) := by show _ = _; simp [cfgB, h0, h1, g2]
    clear h2
    go_enter Tryz.func59, Tryz.ntmps59
    go_wp2_with (first | (go_at_call 89; refine (isLimit_any _ _).mono ?_; rintro e w' ⟨rfl, rfl⟩) | (go_at_call 60; refine (within_any _ _ _).mono ?_; rintro e w' ⟨rfl, rfl⟩))
    go_ret
    exact ⟨ret_bool (by first | exact E.out.symm | (rw [E.out]; simp; omega)), bnew _ _⟩
  have h2 : btwB cml 0 1000000 = true := by simpa using g2
  clear g2
  by_cases g3 : btwB csh 1 64 = false
  · have h3 : ¬ btwB csh 1 64 = true := by simpa using g3
    have E : Hid (cfgB ⟨cw, ctl, cml, csh, cha, csg⟩ = false) := by show _ = _; simp [cfgB, h0, h1, h2, g3]
    have ho := btw_out h3
    clear h3 g3
    by_cases hx : 1 ≤ csh
    · have hy : ¬ csh ≤ 64 := by omega
      clear ho
      go_enter Tryz.func59, Tryz.ntmps59
      go_wp2_with (first | (go_at_call 89; refine (isLimit_any _ _).mono ?_; rintro e w' ⟨rfl, rfl⟩) | (go_at_call 60; refine (within_any _ _ _).mono ?_; rintro e w' ⟨rfl, rfl⟩))
      go_ret
      exact ⟨ret_bool (by first | exact E.out.symm | (rw [E.out]; simp; omega)), bnew _ _⟩
    · clear ho
      go_enter Tryz.func59, Tryz.ntmps59
      go_wp2_with (first | (go_at_call 89; refine (isLimit_any _ _).mono ?_; rintro e w' ⟨rfl, rfl⟩) | (go_at_call 60; refine (within_any _ _ _).mono ?_; rintro e w' ⟨rfl, rfl⟩))
      go_ret
      exact ⟨ret_bool (by first | exact E.out.symm | (rw [E.out]; simp; omega)), bnew _ _⟩
  have h3 : btwB csh 1 64 = true := by simpa using g3
  clear g3
  obtain ⟨i3, j3⟩ := btw_in h3
  by_cases g4 : btwB cha 0 2 = false
  · have h4 : ¬ btwB cha 0 2 = true := by simpa using g4
    have E : Hid (cfgB ⟨cw, ctl, cml, csh, cha, csg⟩ = false) := by show _ = _; simp [cfgB, h0, h1, h2, h3, g4]
    clear h4
    go_enter Tryz.func59, Tryz.ntmps59
    go_wp2_with (first | (go_at_call 89; refine (isLimit_any _ _).mono ?_; rintro e w' ⟨rfl, rfl⟩) | (go_at_call 60; refine (within_any _ _ _).mono ?_; rintro e w' ⟨rfl, rfl⟩))
    go_ret
    exact ⟨ret_bool (by first | exact E.out.symm | (rw [E.out]; simp; omega)), bnew _ _⟩
  have h4 : btwB cha 0 2 = true := by simpa using g4
  clear g4
  by_cases g5 : btwB csg 100 1000000 = false
  · have h5 : ¬ btwB csg 100 1000000 = true := by simpa using g5
    have E : Hid (cfgB ⟨cw, ctl, cml, csh, cha, csg⟩ = false) := by show _ = _; simp [cfgB, h0, h1, h2, h3, h4, g5]
    have ho := btw_out h5
    clear h5 g5
    by_cases hx : 100 ≤ csg
    · have hy : ¬ csg ≤ 1000000 := by omega
      clear ho
      go_enter Tryz.func59, Tryz.ntmps59
      go_wp2_with (first | (go_at_call 89; refine (isLimit_any _ _).mono ?_; rintro e w' ⟨rfl, rfl⟩) | (go_at_call 60; refine (within_any _ _ _).mono ?_; rintro e w' ⟨rfl, rfl⟩))
      go_ret
      exact ⟨ret_bool (by first | exact E.out.symm | (rw [E.out]; simp; omega)), bnew _ _⟩
    · clear ho
      go_enter Tryz.func59, Tryz.ntmps59
      go_wp2_with (first | (go_at_call 89; refine (isLimit_any _ _).mono ?_; rintro e w' ⟨rfl, rfl⟩) | (go_at_call 60; refine (within_any _ _ _).mono ?_; rintro e w' ⟨rfl, rfl⟩))
      go_ret
      exact ⟨ret_bool (by first | exact E.out.symm | (rw [E.out]; simp; omega)), bnew _ _⟩
  have h5 : btwB csg 100 1000000 = true := by simpa using g5
  clear g5
  obtain ⟨i5, j5⟩ := btw_in h5
  have E : Hid (cfgB ⟨cw, ctl, cml, csh, cha, csg⟩ = true) := by show _ = _; simp [cfgB, h0, h1, h2, h3, h4, h5]
  go_enter Tryz.func59, Tryz.ntmps59
  go_wp2_with (first | (go_at_call 89; refine (isLimit_any _ _).mono ?_; rintro e w' ⟨rfl, rfl⟩) | (go_at_call 60; refine (within_any _ _ _).mono ?_; rintro e w' ⟨rfl, rfl⟩))
  go_ret
  exact ⟨ret_bool (by first | exact E.out.symm | (rw [E.out]; simp; omega)), bnew _ _⟩
end Go.Proofs.YtojeemogabhaoaaGreatDoor
