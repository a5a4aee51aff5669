import Derived.Test.YtojeemogabhaoaaGreatDoorProg
import Derived.Test.YtojeemogabhaoaaGreatDoorJ01BlkN
import Derived.Test.YtojeemogabhaoaaGreatDoorJ02Ord
namespace Go.Proofs.YtojeemogabhaoaaGreatDoor
open Go.RowKit
theorem conv_one (w : World) (n : Int) : (convert 147 9 (.slice (some ⟨w.heap.size, 0, none⟩) 1 1)).run Tryz.prog (w.alloc (.cells #[.int .u8 n] 5)) = .ok (.string ⟨#[UInt8.ofNat n.toNat]⟩) (w.alloc (.cells #[.int .u8 n] 5)) := by
  rw [run_convert_bytes_string _ 147 9 5 _ 1 1 Tryz.underlying147 Tryz.underlying5 Tryz.underlying9, run_bytesToString _ _ 1 1 [n] (by simp [go_sem, loadCells])]
  rfl
theorem str_one (c : UInt8) (s : ByteArray) : ((⟨#[c]⟩ : ByteArray) ++ s).data.toList = c :: s.data.toList := by
  simp
theorem str_one_size (c : UInt8) (s : ByteArray) : ((⟨#[c]⟩ : ByteArray) ++ s).size = s.size + 1 := by
  rw [ByteArray.size_append]; show 1 + s.size = _; omega
theorem mk_toList (s : ByteArray) (l : List UInt8) (h : s.data.toList = l) : s = ⟨l.toArray⟩ := by
  subst h; simp
end Go.Proofs.YtojeemogabhaoaaGreatDoor
namespace Go.Proofs.YtojeemogabhaoaaGreatDoor
open Go.RowKit
theorem digits_pos {n : Nat} (h : 0 < n) (acc : List UInt8) : digits n n acc = digits (n / 10) (n / 10) ((48 + UInt8.ofNat (n % 10)) :: acc) := by
  obtain ⟨m, rfl⟩ : ∃ m, n = m + 1 := ⟨n - 1, by omega⟩
  conv => lhs; rw [digits]
  rw [if_neg (by omega)]
  exact digits_fuel _ _ _ _ (by omega) (Nat.le_refl _)
set_option maxRecDepth 100000 in
set_option maxHeartbeats 1000000 in
theorem markText_any (k : Nat) (w : World) (h0 : 0 < k) (h1 : k ≤ 1000000000) :
    Calls Tryz.prog 74 #[.int .i64 (k : Int)] w fun e w' => e = .returned (.string (mt k)) ∧ Below w.heap.size w w' := by
  have hk : ¬ ((k : Int) ≤ 0) := by omega
  have hcv := conv_one
  go_enter Tryz.func74, Tryz.ntmps74
  go_wp2
  go_loopw [0, 3] (fun a s wr => ∃ (n : Nat) (st : ByteArray), st.size + n ≤ k ∧ a = .int .i64 n ∧ s = .string st ∧ digits n n st.data.toList = digits k k [] ∧ Below w.heap.size w wr) (fun a _ _ => (intOf a).toNat)
  case atStart => exact ⟨k, ByteArray.empty, by simp, rfl, rfl, rfl, Below.refl _ _⟩
  case round =>
    obtain ⟨n, st, hn, rfl, rfl, hd, hbel⟩ := hrel
    have HD : Hid (digits n n st.data.toList = digits k k []) := hd
    clear hd
    have hsz : (st.size : Int) ≤ 1000000000 := by omega
    by_cases hp : 0 < n
    · go_wp2
      refine ⟨⟨n / 10, _, ?_, by go_num, rfl, ?_, hbel.alloc hbel.size _⟩, by simp [intOf]; omega⟩
      · rw [str_one_size]; omega
      · rw [str_one, ← digits_pos hp]; exact HD.out
    · go_wp2
      go_ret
      refine ⟨?_, hbel⟩
      have e0 : n = 0 := by omega
      have hd := HD.out
      rw [e0] at hd
      have e : st.data.toList = digits k k [] := by rw [← hd]; rfl
      have e2 : ((⟨#[109]⟩ : ByteArray) ++ st) = mt k := by
        unfold mt
        exact mk_toList _ _ (by rw [str_one, e])
      exact congrArg (fun x => Ending.returned (.string x)) e2
theorem markText_int (k : Int) (n : Nat) (hk : k = (n : Int)) (w : World) (h0 : 0 < n) (h1 : n ≤ 1000000000) :
    Calls Tryz.prog 74 #[.int .i64 k] w fun e w' => e = .returned (.string (mt n)) ∧ Below w.heap.size w w' := hk ▸ markText_any n w h0 h1
end Go.Proofs.YtojeemogabhaoaaGreatDoor
namespace Go.Proofs.YtojeemogabhaoaaGreatDoor
open Go.RowKit
set_option maxRecDepth 100000 in
set_option maxHeartbeats 2000000 in
theorem markMetricLimit_any (a : Option Addr) (cap : Nat) (ps : List PairD) (k B n0 : Nat) (T : Nat → Nat) (w : World) (hk : 0 < k) (hk2 : k + 2 * ps.length ≤ 100000000) (hf : PairsTag w B T n0 a ps) :
    Calls Tryz.prog 75 #[.slice a ps.length cap, .int .i64 (k : Int)] w fun e w' => e = .returned (.int .i64 ((k + 2 * ps.length : Nat) : Int)) ∧ Turn (fun g => B ≤ g ∧ T g = n0) w w' ∧ PairsTag w' B T n0 a (markPairs k ps.length) := by
  have hf3 : ps = [] ∨ (0 < ps.length ∧ ∃ g o cur t, a = some ⟨g, o, none⟩ ∧ B ≤ g ∧ T g = n0 ∧ w.heap[g]? = some (.cells cur t (0, 0)) ∧ PairsAt w g o ps) := by
    rcases hf with h | h
    · exact Or.inl h
    · by_cases h0 : ps = []
      · exact Or.inl h0
      · exact Or.inr ⟨List.length_pos_iff.2 h0, h⟩
  clear hf
  rcases hf3 with rfl | ⟨hpos, g, o, cur, t, rfl, hB, hT, hg, hfs⟩
  · go_enter Tryz.func75, Tryz.ntmps75
    go_wp2
    go_loopw [1, 5] (fun l i wr => l = .int .i64 (k : Int) ∧ i = .int .i64 0 ∧ wr = w) (fun _ i _ => 0)
    case atStart => exact ⟨rfl, rfl, rfl⟩
    case round =>
      obtain ⟨rfl, rfl, rfl⟩ := hrel
      go_wp2
      go_ret
      exact ⟨rfl, Turn.of (Below.refl _ _), Or.inl rfl⟩
  have hrow : ∀ j (hj : j < ps.length), RowPair cur o j ps[j] := rows_of_pairsAt hg hfs
  have hsz := pairs_size hrow
  have HG : Hid (Blk w g cur t) := hg
  have HBT : Hid (B ≤ g ∧ T g = n0) := ⟨hB, hT⟩
  clear hrow hg hfs hB hT
  generalize ps.length = n at *
  go_enter Tryz.func75, Tryz.ntmps75
  go_wp2
  go_loopw [1, 5] (fun l i wr => ∃ (j : Nat) (c : Array Value), j ≤ n ∧ i = .int .i64 j ∧ l = .int .i64 ((k + 2 * j : Nat) : Int) ∧ Blk wr g c t ∧ c.size = cur.size ∧ (∀ m, m < j → RowPair c o m (markP k m)) ∧ But g w wr) (fun _ i _ => n - (intOf i).toNat)
  case atStart => exact ⟨0, cur, Nat.zero_le _, rfl, rfl, HG.out, rfl, fun m h => absurd h (by omega), But.refl _ _⟩
  case round =>
    obtain ⟨j, c, hj, rfl, rfl, hblk, hcs, hrows, hbut⟩ := hrel
    have HBLK : Hid (Blk wr g c t) := hblk
    have HROWS : Hid (∀ m, m < j → RowPair c o m (markP k m)) := hrows
    have HCS : Hid (c.size = cur.size) := hcs
    clear hblk hrows
    by_cases hlt : j < n
    · have hbd : o + j * 2 + 1 < c.size := by rcases hsz with h | h <;> omega
      clear hcs hsz
      go_wp2_with fail
      refine (markText_int _ (k + 2 * j) (by omega) _ (by omega) (by omega)).mono ?_
      rintro e w1 ⟨rfl, hb1⟩
      have hB1 := HBLK.out.later hb1
      obtain ⟨v0, d0⟩ := hB1.there (j := o + j * 2) (by omega)
      have f0 := hB1.free (o + j * 2)
      obtain ⟨v1, d1⟩ := hB1.there (j := o + j * 2 + 1) (by omega)
      have f1 := hB1.free (o + j * 2 + 1)
      have HB1 : Hid (Blk w1 g c t) := hB1
      have HBUT : Hid (But g w w1) := hbut.trans (But.of hb1)
      clear hB1 hb1 hbut
      go_wp2
      refine ⟨⟨j + 1, _, by omega, by go_num, by go_num, (HB1.out.set (o + j * 2) (.string (mt (k + 2 * j)))).set (o + j * 2 + 1) (.int .i64 ((k + 2 * j + 1 : Nat) : Int)), by simp [HCS.out], ?_, (HBUT.out.setCell _ _).setCell _ _⟩, by simp [intOf]; omega⟩
      intro m hm
      by_cases e : m = j
      · subst e
        exact RowPair.made c o m (markP k m) hbd
      · exact ((HROWS.out m (by omega)).set (by omega) _).set (by omega) _
    · go_wp2
      go_ret
      have e : j = n := by omega
      subst e
      refine ⟨ret_int (by omega), (Turn.but hbut).mono fun i _ e => by subst e; exact HBT.out, Or.inr ⟨g, o, c, t, rfl, HBT.out.1, HBT.out.2, HBLK.out, pairsAt_of_rows HBLK.out ?_⟩⟩
      intro m hm
      rw [markPairs_get]
      exact HROWS.out m (by rw [markPairs_length] at hm; exact hm)
set_option maxRecDepth 100000 in
set_option maxHeartbeats 2000000 in
theorem heldMetricLimit_any (a : Option Addr) (cap : Nat) (k n : Nat) (w : World) (hk : 0 < k) (hk2 : k + 2 * n ≤ 100000000) (hf : PairsIn w a (markPairs k n)) :
    Calls Tryz.prog 77 #[.slice a n cap, .int .i64 (k : Int)] w fun e w' => e = .returned (.int .i64 ((k + 2 * n : Nat) : Int)) ∧ Below w.heap.size w w' := by
  have HF : Hid (PairsIn w a (markPairs k n)) := hf
  clear hf
  go_enter Tryz.func77, Tryz.ntmps77
  go_wp2
  go_loopw [1, 5] (fun l i wr => ∃ j : Nat, j ≤ n ∧ i = .int .i64 j ∧ l = .int .i64 ((k + 2 * j : Nat) : Int) ∧ Below w.heap.size w wr) (fun _ i _ => n - (intOf i).toNat)
  case atStart => exact ⟨0, Nat.zero_le _, rfl, rfl, Below.refl _ _⟩
  case round =>
    obtain ⟨j, hj, rfl, rfl, hbel⟩ := hrel
    by_cases hlt : j < n
    · obtain ⟨b, o, rfl, hb, c0, c1⟩ := (HF.out.later hbel).at (i := j) (by rw [markPairs_length]; exact hlt)
      rw [markPairs_get] at c0 c1
      simp only [markP] at c0 c1
      have d0 := Later.cells c0
      have hne := Later.there wr
      have HC : Hid (wr.cell? ⟨b, o + j * 2 + 1, none⟩ = some (.int .i64 ((k + 2 * j + 1 : Nat) : Int))) := c1
      clear c0 c1
      go_wp2_with fail
      refine wp_region_later (by kernel_rfl) (by kernel_rfl) ?_
      repeat (go_big_quiet_step (first | (go_at_call 74; exact calls_later (markText_int _ (k + 2 * j) (by omega) _ (by omega) (by omega)))))
      refine wpQuiet_nil ?_
      rintro _ ⟨x, rfl⟩
      have d1 : x.w'.cell? ⟨b, o + j * 2 + 1, none⟩ = some (.int .i64 ((k : Int) + 2 * (j : Int) + 1)) := by rw [x.cell HC.out]; simp
      have HX : Hid (Below w.heap.size w x.w') := bto hbel x.h
      clear d0 hne HC hbel
      generalize x.w' = W at *
      clear x
      go_wp2
      exact ⟨⟨j + 1, by omega, by go_num, by go_num, HX.out⟩, by simp [intOf]; omega⟩
    · go_wp2
      go_ret
      have e : j = n := by omega
      subst e
      exact ⟨ret_int (by omega), hbel⟩
set_option maxRecDepth 100000 in
set_option maxHeartbeats 2000000 in
theorem markSeries_any (a : Option Addr) (cap : Nat) (ps : List PairD) (k B n0 : Nat) (T : Nat → Nat) (w : World) (hk : 0 < k) (hk2 : k + 2 * ps.length ≤ 100000000) (hf : PairsTag w B T n0 a ps) :
    Calls Tryz.prog 76 #[.slice a ps.length cap, .int .i64 (k : Int)] w fun e w' => e = .returned (.int .i64 ((k + 2 * ps.length : Nat) : Int)) ∧ Turn (fun g => B ≤ g ∧ T g = n0) w w' ∧ PairsTag w' B T n0 a (markPairs k ps.length) := by
  have hf3 : ps = [] ∨ (0 < ps.length ∧ ∃ g o cur t, a = some ⟨g, o, none⟩ ∧ B ≤ g ∧ T g = n0 ∧ w.heap[g]? = some (.cells cur t (0, 0)) ∧ PairsAt w g o ps) := by
    rcases hf with h | h
    · exact Or.inl h
    · by_cases h0 : ps = []
      · exact Or.inl h0
      · exact Or.inr ⟨List.length_pos_iff.2 h0, h⟩
  clear hf
  rcases hf3 with rfl | ⟨hpos, g, o, cur, t, rfl, hB, hT, hg, hfs⟩
  · go_enter Tryz.func76, Tryz.ntmps76
    go_wp2
    go_loopw [1, 5] (fun l i wr => l = .int .i64 (k : Int) ∧ i = .int .i64 0 ∧ wr = w) (fun _ i _ => 0)
    case atStart => exact ⟨rfl, rfl, rfl⟩
    case round =>
      obtain ⟨rfl, rfl, rfl⟩ := hrel
      go_wp2
      go_ret
      exact ⟨rfl, Turn.of (Below.refl _ _), Or.inl rfl⟩
  have hrow : ∀ j (hj : j < ps.length), RowPair cur o j ps[j] := rows_of_pairsAt hg hfs
  have hsz := pairs_size hrow
  have HG : Hid (Blk w g cur t) := hg
  have HBT : Hid (B ≤ g ∧ T g = n0) := ⟨hB, hT⟩
  clear hrow hg hfs hB hT
  generalize ps.length = n at *
  go_enter Tryz.func76, Tryz.ntmps76
  go_wp2
  go_loopw [1, 5] (fun l i wr => ∃ (j : Nat) (c : Array Value), j ≤ n ∧ i = .int .i64 j ∧ l = .int .i64 ((k + 2 * j : Nat) : Int) ∧ Blk wr g c t ∧ c.size = cur.size ∧ (∀ m, m < j → RowPair c o m (markP k m)) ∧ But g w wr) (fun _ i _ => n - (intOf i).toNat)
  case atStart => exact ⟨0, cur, Nat.zero_le _, rfl, rfl, HG.out, rfl, fun m h => absurd h (by omega), But.refl _ _⟩
  case round =>
    obtain ⟨j, c, hj, rfl, rfl, hblk, hcs, hrows, hbut⟩ := hrel
    have HBLK : Hid (Blk wr g c t) := hblk
    have HROWS : Hid (∀ m, m < j → RowPair c o m (markP k m)) := hrows
    have HCS : Hid (c.size = cur.size) := hcs
    clear hblk hrows
    by_cases hlt : j < n
    · have hbd : o + j * 2 + 1 < c.size := by rcases hsz with h | h <;> omega
      clear hcs hsz
      go_wp2_with fail
      refine (markText_int _ (k + 2 * j) (by omega) _ (by omega) (by omega)).mono ?_
      rintro e w1 ⟨rfl, hb1⟩
      have hB1 := HBLK.out.later hb1
      obtain ⟨v0, d0⟩ := hB1.there (j := o + j * 2) (by omega)
      have f0 := hB1.free (o + j * 2)
      obtain ⟨v1, d1⟩ := hB1.there (j := o + j * 2 + 1) (by omega)
      have f1 := hB1.free (o + j * 2 + 1)
      have HB1 : Hid (Blk w1 g c t) := hB1
      have HBUT : Hid (But g w w1) := hbut.trans (But.of hb1)
      clear hB1 hb1 hbut
      go_wp2
      refine ⟨⟨j + 1, _, by omega, by go_num, by go_num, (HB1.out.set (o + j * 2) (.string (mt (k + 2 * j)))).set (o + j * 2 + 1) (.int .i64 ((k + 2 * j + 1 : Nat) : Int)), by simp [HCS.out], ?_, (HBUT.out.setCell _ _).setCell _ _⟩, by simp [intOf]; omega⟩
      intro m hm
      by_cases e : m = j
      · subst e
        exact RowPair.made c o m (markP k m) hbd
      · exact ((HROWS.out m (by omega)).set (by omega) _).set (by omega) _
    · go_wp2
      go_ret
      have e : j = n := by omega
      subst e
      refine ⟨ret_int (by omega), (Turn.but hbut).mono fun i _ e => by subst e; exact HBT.out, Or.inr ⟨g, o, c, t, rfl, HBT.out.1, HBT.out.2, HBLK.out, pairsAt_of_rows HBLK.out ?_⟩⟩
      intro m hm
      rw [markPairs_get]
      exact HROWS.out m (by rw [markPairs_length] at hm; exact hm)
set_option maxRecDepth 100000 in
set_option maxHeartbeats 2000000 in
theorem heldSeries_any (a : Option Addr) (cap : Nat) (k n : Nat) (w : World) (hk : 0 < k) (hk2 : k + 2 * n ≤ 100000000) (hf : PairsIn w a (markPairs k n)) :
    Calls Tryz.prog 78 #[.slice a n cap, .int .i64 (k : Int)] w fun e w' => e = .returned (.int .i64 ((k + 2 * n : Nat) : Int)) ∧ Below w.heap.size w w' := by
  have HF : Hid (PairsIn w a (markPairs k n)) := hf
  clear hf
  go_enter Tryz.func78, Tryz.ntmps78
  go_wp2
  go_loopw [1, 5] (fun l i wr => ∃ j : Nat, j ≤ n ∧ i = .int .i64 j ∧ l = .int .i64 ((k + 2 * j : Nat) : Int) ∧ Below w.heap.size w wr) (fun _ i _ => n - (intOf i).toNat)
  case atStart => exact ⟨0, Nat.zero_le _, rfl, rfl, Below.refl _ _⟩
  case round =>
    obtain ⟨j, hj, rfl, rfl, hbel⟩ := hrel
    by_cases hlt : j < n
    · obtain ⟨b, o, rfl, hb, c0, c1⟩ := (HF.out.later hbel).at (i := j) (by rw [markPairs_length]; exact hlt)
      rw [markPairs_get] at c0 c1
      simp only [markP] at c0 c1
      have d0 := Later.cells c0
      have hne := Later.there wr
      have HC : Hid (wr.cell? ⟨b, o + j * 2 + 1, none⟩ = some (.int .i64 ((k + 2 * j + 1 : Nat) : Int))) := c1
      clear c0 c1
      go_wp2_with fail
      refine wp_region_later (by kernel_rfl) (by kernel_rfl) ?_
      repeat (go_big_quiet_step (first | (go_at_call 74; exact calls_later (markText_int _ (k + 2 * j) (by omega) _ (by omega) (by omega)))))
      refine wpQuiet_nil ?_
      rintro _ ⟨x, rfl⟩
      have d1 : x.w'.cell? ⟨b, o + j * 2 + 1, none⟩ = some (.int .i64 ((k : Int) + 2 * (j : Int) + 1)) := by rw [x.cell HC.out]; simp
      have HX : Hid (Below w.heap.size w x.w') := bto hbel x.h
      clear d0 hne HC hbel
      generalize x.w' = W at *
      clear x
      go_wp2
      exact ⟨⟨j + 1, by omega, by go_num, by go_num, HX.out⟩, by simp [intOf]; omega⟩
    · go_wp2
      go_ret
      have e : j = n := by omega
      subst e
      exact ⟨ret_int (by omega), hbel⟩
end Go.Proofs.YtojeemogabhaoaaGreatDoor
namespace Go.Proofs.YtojeemogabhaoaaGreatDoor
open Go.RowKit
def tenLen (t : TenD) : Nat := 2 + 2 * t.mets.length + 2 * t.sers.length
def tensLen : List TenD → Nat
  | [] => 0
  | t :: r => tenLen t + tensLen r
theorem tensLen_append (a b : List TenD) : tensLen (a ++ b) = tensLen a + tensLen b := by
  induction a with
  | nil => simp [tensLen]
  | cons f r ih => simp [tensLen, ih]; omega
theorem tensLen_take (ts : List TenD) (j : Nat) (h : j < ts.length) : tensLen (ts.take (j + 1)) = tensLen (ts.take j) + tenLen ts[j] := by
  rw [List.take_succ_eq_append_getElem h, tensLen_append]; simp [tensLen]
theorem tensLen_le (ts : List TenD) (j : Nat) : tensLen (ts.take j) ≤ tensLen ts := by
  have := tensLen_append (ts.take j) (ts.drop j)
  rw [List.take_append_drop] at this; omega
def markTen (k : Nat) (t : TenD) : TenD := ⟨mt k, ((k + 1 : Nat) : Int), markPairs (k + 2) t.mets.length, markPairs (k + 2 + 2 * t.mets.length) t.sers.length⟩
def markAt (k : Nat) (ts : List TenD) (i : Nat) (t : TenD) : TenD := markTen (k + tensLen (ts.take i)) t
def markTens (k : Nat) (ts : List TenD) : List TenD := ts.mapIdx (markAt k ts)
theorem markTens_length (k : Nat) (ts : List TenD) : (markTens k ts).length = ts.length := by simp [markTens]
theorem markTens_get {k : Nat} {ts : List TenD} {i : Nat} (h : i < (markTens k ts).length) (h' : i < ts.length) : (markTens k ts)[i] = markTen (k + tensLen (ts.take i)) ts[i] := by simp [markTens, markAt]
def RowTen (c : Array Value) (p : Nat) (t : TenD) (a1 : Option Addr) (c1 : Nat) (a2 : Option Addr) (c2 : Nat) : Prop :=
  c[p]? = some (.string t.name) ∧ c[p + 1]? = some (.int .i64 t.limit) ∧ c[p + 2]? = some (.slice a1 t.mets.length c1) ∧ c[p + 3]? = some (.slice a2 t.sers.length c2)
def TenRow (w : World) (B : Nat) (T : Nat → Nat) (c : Array Value) (o i : Nat) (t : TenD) : Prop :=
  ∃ a1 c1 a2 c2, RowTen c (o + i * 4) t a1 c1 a2 c2 ∧ PairsTag w B T (2 * i + 1) a1 t.mets ∧ PairsTag w B T (2 * i + 2) a2 t.sers
theorem TenOwn.row {w : World} {B i g o : Nat} {T : Nat → Nat} {t : TenD} {c : Array Value} {ty : TypeId} (h : TenOwn w B T i g (o + i * 4) t) (hb : Blk w g c ty) : TenRow w B T c o i t := by
  obtain ⟨a1, c1, a2, c2, h0, h1, h2, h3, h4, h5⟩ := h
  rw [hb.cell] at h0 h1 h2 h3
  exact ⟨a1, c1, a2, c2, ⟨h0, h1, h2, h3⟩, h4, h5⟩
theorem TenRow.own {w : World} {B i g o : Nat} {T : Nat → Nat} {t : TenD} {c : Array Value} {ty : TypeId} (h : TenRow w B T c o i t) (hb : Blk w g c ty) : TenOwn w B T i g (o + i * 4) t := by
  obtain ⟨a1, c1, a2, c2, ⟨h0, h1, h2, h3⟩, h4, h5⟩ := h
  exact ⟨a1, c1, a2, c2, (hb.cell _).trans h0, (hb.cell _).trans h1, (hb.cell _).trans h2, (hb.cell _).trans h3, h4, h5⟩
theorem RowTen.set {c : Array Value} {p : Nat} {t : TenD} {a1 a2 : Option Addr} {c1 c2 : Nat} (h : RowTen c p t a1 c1 a2 c2) {q : Nat} (hq : q < p ∨ p + 3 < q) (v : Value) : RowTen (c.setIfInBounds q v) p t a1 c1 a2 c2 := by
  obtain ⟨h0, h1, h2, h3⟩ := h
  refine ⟨?_, ?_, ?_, ?_⟩
  · rw [Array.getElem?_setIfInBounds_ne (by omega)]; exact h0
  · rw [Array.getElem?_setIfInBounds_ne (by omega)]; exact h1
  · rw [Array.getElem?_setIfInBounds_ne (by omega)]; exact h2
  · rw [Array.getElem?_setIfInBounds_ne (by omega)]; exact h3
theorem PairsTag.turn {S : Nat → Prop} {w w' : World} {B n : Nat} {T : Nat → Nat} {a : Option Addr} {ps : List PairD} (h : PairsTag w B T n a ps) (ht : Turn S w w') (hS : ∀ g, T g = n → ¬ S g) : PairsTag w' B T n a ps :=
  h.keep fun g hg _ hT => ⟨ht.block g hg (hS g hT), hT⟩
theorem mark_step {w w2 w3 w4 : World} {B o j K k : Nat} {T : Nat → Nat} {g : Nat} {c : Array Value} {ts : List TenD} {a1 a2 : Option Addr} {c1 c2 : Nat} (hTg : T g = 0) (hj : j < ts.length)
    (hr : ∀ i (h : i < ts.length), i ≠ j → TenRow w B T c o i (if i < j then markTen (k + tensLen (ts.take i)) ts[i] else ts[i])) (hrow : RowTen c (o + j * 4) ts[j] a1 c1 a2 c2) (hK : K = k + tensLen (ts.take j))
    (h2 : But g w w2) (h3 : Turn (fun g => B ≤ g ∧ T g = 2 * j + 1) w2 w3) (h4 : Turn (fun g => B ≤ g ∧ T g = 2 * j + 2) w3 w4) (p1 : PairsTag w3 B T (2 * j + 1) a1 (markPairs (K + 2) ts[j].mets.length)) (p2 : PairsTag w4 B T (2 * j + 2) a2 (markPairs (K + 2 + 2 * ts[j].mets.length) ts[j].sers.length)) :
    ∀ i (h : i < ts.length), TenRow w4 B T ((c.setIfInBounds (o + j * 4) (.string (mt K))).setIfInBounds (o + j * 4 + 1) (.int .i64 ((K + 1 : Nat) : Int))) o i (if i < j + 1 then markTen (k + tensLen (ts.take i)) ts[i] else ts[i]) := by
  intro i hi
  by_cases e : i = j
  · subst e
    rw [if_pos (by omega), ← hK]
    obtain ⟨q0, q1, q2, q3⟩ := hrow
    have s3 := (Array.getElem?_eq_some_iff.1 q3).1
    refine ⟨a1, c1, a2, c2, ⟨?_, ?_, ?_, ?_⟩, p1.turn h4 fun g' hg' hs => by omega, p2⟩
    · rw [Array.getElem?_setIfInBounds_ne (by omega), Array.getElem?_setIfInBounds_self_of_lt (by omega)]; rfl
    · rw [Array.getElem?_setIfInBounds_self_of_lt (by simp; omega)]; rfl
    · rw [Array.getElem?_setIfInBounds_ne (by omega), Array.getElem?_setIfInBounds_ne (by omega), q2]
      simp [markTen, markPairs_length]
    · rw [Array.getElem?_setIfInBounds_ne (by omega), Array.getElem?_setIfInBounds_ne (by omega), q3]
      simp [markTen, markPairs_length]
  · obtain ⟨b1, d1, b2, d2, hrow', r1, r2⟩ := hr i hi e
    have hif : (if i < j + 1 then markTen (k + tensLen (ts.take i)) ts[i] else ts[i]) = (if i < j then markTen (k + tensLen (ts.take i)) ts[i] else ts[i]) := by
      by_cases h : i < j
      · rw [if_pos h, if_pos (by omega)]
      · rw [if_neg h, if_neg (by omega)]
    rw [hif]
    refine ⟨b1, d1, b2, d2, (hrow'.set (by omega) _).set (by omega) _, ?_, ?_⟩
    · exact ((r1.turn (Turn.but h2) fun g' hg' e => by subst e; omega).turn h3 fun g' hg' hs => by omega).turn h4 fun g' hg' hs => by omega
    · exact ((r2.turn (Turn.but h2) fun g' hg' e => by subst e; omega).turn h3 fun g' hg' hs => by omega).turn h4 fun g' hg' hs => by omega
theorem markMetricLimit_int (kI : Int) (a : Option Addr) (cap : Nat) (ps : List PairD) (k B n0 : Nat) (T : Nat → Nat) (w : World) (hkI : kI = (k : Int)) (hk : 0 < k) (hk2 : k + 2 * ps.length ≤ 100000000) (hf : PairsTag w B T n0 a ps) :
    Calls Tryz.prog 75 #[.slice a ps.length cap, .int .i64 kI] w fun e w' => e = .returned (.int .i64 ((k + 2 * ps.length : Nat) : Int)) ∧ Turn (fun g => B ≤ g ∧ T g = n0) w w' ∧ PairsTag w' B T n0 a (markPairs k ps.length) := hkI ▸ markMetricLimit_any a cap ps k B n0 T w hk hk2 hf
theorem markSeries_int (kI : Int) (a : Option Addr) (cap : Nat) (ps : List PairD) (k B n0 : Nat) (T : Nat → Nat) (w : World) (hkI : kI = (k : Int)) (hk : 0 < k) (hk2 : k + 2 * ps.length ≤ 100000000) (hf : PairsTag w B T n0 a ps) :
    Calls Tryz.prog 76 #[.slice a ps.length cap, .int .i64 kI] w fun e w' => e = .returned (.int .i64 ((k + 2 * ps.length : Nat) : Int)) ∧ Turn (fun g => B ≤ g ∧ T g = n0) w w' ∧ PairsTag w' B T n0 a (markPairs k ps.length) := hkI ▸ markSeries_any a cap ps k B n0 T w hk hk2 hf
set_option maxRecDepth 100000 in
set_option maxHeartbeats 4000000 in
theorem markTenantS_any (g o cap : Nat) (ts : List TenD) (k B : Nat) (T : Nat → Nat) (cur : Array Value) (ty : TypeId) (w : World) (hk : 0 < k) (hk2 : k + tensLen ts ≤ 100000000) (hB : B ≤ g) (hg : Blk w g cur ty) (hT : T g = 0) (hf : ∀ i (h : i < ts.length), TenOwn w B T i g (o + i * 4) ts[i]) :
    Calls Tryz.prog 44 #[.slice (some ⟨g, o, none⟩) ts.length cap, .int .i64 (k : Int)] w fun e w' => e = .returned (.int .i64 ((k + tensLen ts : Nat) : Int)) ∧ Turn (fun g' => B ≤ g' ∧ T g' ≤ 2 * ts.length) w w' ∧ (∃ c, Blk w' g c ty ∧ ∀ i (h : i < (markTens k ts).length), TenOwn w' B T i g (o + i * 4) (markTens k ts)[i]) := by
  have H0 : Hid (∀ i (h : i < ts.length), TenRow w B T cur o i ts[i]) := fun i h => (hf i h).row hg
  have HG : Hid (Blk w g cur ty) := hg
  have HT : Hid (B ≤ g ∧ T g = 0) := ⟨hB, hT⟩
  have HK2 : Hid (k + tensLen ts ≤ 100000000) := hk2
  clear hf hg hB hT hk2
  have hlen : ts.length ≤ 100000000 := by
    have h1 : ts.length ≤ tensLen ts := by
      clear H0 HK2
      induction ts with
      | nil => exact Nat.zero_le _
      | cons t r ih => simp only [List.length_cons, tensLen, tenLen]; omega
    have := HK2.out
    omega
  go_enter Tryz.func44, Tryz.ntmps44
  go_wp2
  go_loopw [1, 5] (fun l i wr => ∃ (j K : Nat) (c : Array Value), j ≤ ts.length ∧ i = .int .i64 j ∧ l = .int .i64 (K : Int) ∧ Hid (K = k + tensLen (ts.take j)) ∧ Hid (Blk wr g c ty) ∧ Hid (∀ i (h : i < ts.length), TenRow wr B T c o i (if i < j then markTen (k + tensLen (ts.take i)) ts[i] else ts[i])) ∧ Hid (Turn (fun g' => B ≤ g' ∧ T g' ≤ 2 * ts.length) w wr)) (fun _ i _ => ts.length - (intOf i).toNat)
  case atStart => exact ⟨0, k, cur, Nat.zero_le _, rfl, rfl, by show _ = _; simp [tensLen], HG.out, fun i h => by rw [if_neg (by omega)]; exact H0.out i h, Turn.refl _ _⟩
  case round =>
    obtain ⟨j, K, c, hj, rfl, rfl, HK, HBLK, HR, HTU⟩ := hrel
    by_cases hlt : j < ts.length
    · obtain ⟨a1, c1, a2, c2, hrow, p1, p2⟩ := HR.out j hlt
      rw [if_neg (Nat.lt_irrefl _)] at hrow p1 p2
      have HROW : Hid (RowTen c (o + j * 4) ts[j] a1 c1 a2 c2) := hrow
      have P1 : Hid (PairsTag wr B T (2 * j + 1) a1 ts[j].mets) := p1
      have P2 : Hid (PairsTag wr B T (2 * j + 2) a2 ts[j].sers) := p2
      have HLE : Hid (K + tenLen ts[j] ≤ 100000000 ∧ k + tensLen (ts.take (j + 1)) = K + tenLen ts[j]) := by
        have h1 := tensLen_take ts j hlt
        have h2 := tensLen_le ts (j + 1)
        have h3 := HK.out
        have h4 := HK2.out
        exact ⟨by omega, by omega⟩
      have hkb : K + 2 + 2 * ts[j].mets.length + 2 * ts[j].sers.length ≤ 100000000 := by have := HLE.out.1; unfold tenLen at this; omega
      have hKp : 0 < K := by have := HK.out; omega
      clear hrow p1 p2
      go_wp2_with fail
      refine (markText_int _ K (by omega) _ (by omega) (by omega)).mono ?_
      rintro e w1 ⟨rfl, hb1⟩
      have HB1 : Hid (Blk w1 g c ty) := HBLK.out.later hb1
      have hcs : o + j * 4 + 3 < c.size := (Array.getElem?_eq_some_iff.1 HROW.out.2.2.2).1
      obtain ⟨v0, d0⟩ := HB1.out.there (j := o + j * 4) (by omega)
      have f0 := HB1.out.free (o + j * 4)
      obtain ⟨v1, d1⟩ := HB1.out.there (j := o + j * 4 + 1) (by omega)
      have f1 := HB1.out.free (o + j * 4 + 1)
      have d2 : w1.cell? ⟨g, o + j * 4 + 2, none⟩ = some (.slice a1 ts[j].mets.length c1) := (HB1.out.cell _).trans HROW.out.2.2.1
      have BU1 : Hid (But g wr w1) := But.of hb1
      clear hb1
      go_wp2_with fail
      have BU2 : Hid (But g wr ((w1.setCell ⟨g, o + j * 4, none⟩ (.string (mt K))).setCell ⟨g, o + j * 4 + 1, none⟩ (.int .i64 ((K : Int) + 1)))) := (BU1.out.setCell _ _).setCell _ _
      have HB2 : Hid (Blk ((w1.setCell ⟨g, o + j * 4, none⟩ (.string (mt K))).setCell ⟨g, o + j * 4 + 1, none⟩ (.int .i64 ((K : Int) + 1))) g ((c.setIfInBounds (o + j * 4) (.string (mt K))).setIfInBounds (o + j * 4 + 1) (.int .i64 ((K + 1 : Nat) : Int))) ty) := hid (by have := (HB1.out.set (o + j * 4) (.string (mt K))).set (o + j * 4 + 1) (.int .i64 ((K : Int) + 1)); simpa using this)
      refine (markMetricLimit_int _ a1 c1 ts[j].mets (K + 2) B (2 * j + 1) T _ (by omega) (by omega) (by omega) (P1.out.turn (Turn.but BU2.out) fun g' hg' e => by subst e; have := HT.out.2; omega)).mono ?_
      rintro e w3 ⟨rfl, ht3, q1⟩
      have HT3 := hid ht3
      have Q1 := hid q1
      have HB3 : Hid (Blk w3 g ((c.setIfInBounds (o + j * 4) (.string (mt K))).setIfInBounds (o + j * 4 + 1) (.int .i64 ((K + 1 : Nat) : Int))) ty) := ht3.blk HB2.out (fun h => by have := HT.out.2; omega)
      have e3 : w3.cell? ⟨g, o + j * 4 + 3, none⟩ = some (.slice a2 ts[j].sers.length c2) := by
        rw [HB3.out.cell, Array.getElem?_setIfInBounds_ne (by omega), Array.getElem?_setIfInBounds_ne (by omega)]
        exact HROW.out.2.2.2
      clear ht3 q1 d0 d1 d2 f0 f1
      go_wp2_with fail
      refine (markSeries_int _ a2 c2 ts[j].sers (K + 2 + 2 * ts[j].mets.length) B (2 * j + 2) T _ (by omega) (by omega) (by omega) ((P2.out.turn (Turn.but BU2.out) fun g' hg' e => by subst e; have := HT.out.2; omega).turn HT3.out fun g' hg' hs => by omega)).mono ?_
      rintro e w4 ⟨rfl, ht4, q2⟩
      have HB4 : Hid (Blk w4 g ((c.setIfInBounds (o + j * 4) (.string (mt K))).setIfInBounds (o + j * 4 + 1) (.int .i64 ((K + 1 : Nat) : Int))) ty) := ht4.blk HB3.out (fun h => by have := HT.out.2; omega)
      have HR4 : Hid (∀ i (h : i < ts.length), TenRow w4 B T ((c.setIfInBounds (o + j * 4) (.string (mt K))).setIfInBounds (o + j * 4 + 1) (.int .i64 ((K + 1 : Nat) : Int))) o i (if i < j + 1 then markTen (k + tensLen (ts.take i)) ts[i] else ts[i])) := mark_step HT.out.2 hlt (fun i h _ => HR.out i h) HROW.out HK.out BU2.out HT3.out ht4 Q1.out q2
      have HTU4 : Hid (Turn (fun g' => B ≤ g' ∧ T g' ≤ 2 * ts.length) w w4) := by
        refine ((HTU.out.trans' ((Turn.but BU2.out).mono fun i _ e => ?_)).trans' (HT3.out.mono fun i _ h => ?_)).trans' (ht4.mono fun i _ h => ?_)
        · subst e; exact ⟨HT.out.1, by rw [HT.out.2]; omega⟩
        · exact ⟨h.1, by omega⟩
        · exact ⟨h.1, by omega⟩
      have HEND : Hid (((K + 2 + 2 * ts[j].mets.length + 2 * ts[j].sers.length : Nat) : Int) = ((k + tensLen (ts.take (j + 1)) : Nat) : Int)) := by
        show _ = _
        have := HLE.out.2
        unfold tenLen at this
        omega
      clear ht4 q2 e3
      go_wp2
      exact ⟨⟨j + 1, k + tensLen (ts.take (j + 1)), _, by omega, by go_num, congrArg (Value.int .i64) (by have := HEND.out; omega), rfl, HB4.out, HR4.out, HTU4.out⟩, by simp [intOf]; omega⟩
    · have ej : j = ts.length := by omega
      have HE : Hid (((K : Nat) : Int) = ((k + tensLen ts : Nat) : Int)) := by show _ = _; rw [HK.out, ej, List.take_length]
      go_wp2
      go_ret
      refine ⟨ret_int HE.out, HTU.out, c, HBLK.out, fun i hi => ?_⟩
      have hi' : i < ts.length := by rw [markTens_length] at hi; exact hi
      have := HR.out i hi'
      rw [if_pos (by omega)] at this
      rw [markTens_get hi hi']
      exact this.own HBLK.out
end Go.Proofs.YtojeemogabhaoaaGreatDoor
namespace Go.Proofs.YtojeemogabhaoaaGreatDoor
open Go.RowKit
set_option maxRecDepth 100000 in
set_option maxHeartbeats 1000000 in
theorem markTenantS_nil (a : Option Addr) (cap : Nat) (k : Nat) (w : World) :
    Calls Tryz.prog 44 #[.slice a 0 cap, .int .i64 (k : Int)] w fun e w' => e = .returned (.int .i64 (k : Int)) ∧ w' = w := by
  go_enter Tryz.func44, Tryz.ntmps44
  go_wp2
  go_loopw [1, 5] (fun l i wr => l = .int .i64 (k : Int) ∧ i = .int .i64 0 ∧ wr = w) (fun _ i _ => 0)
  case atStart => exact ⟨rfl, rfl, rfl⟩
  case round =>
    obtain ⟨rfl, rfl, rfl⟩ := hrel
    go_wp2
    go_ret
    exact ⟨rfl, rfl⟩
theorem tens_le_len (ts : List TenD) : ts.length ≤ tensLen ts := by
  induction ts with
  | nil => exact Nat.zero_le _
  | cons t r ih => simp only [List.length_cons, tensLen, tenLen]; omega
theorem markTens_any (a : Option Addr) (cap : Nat) (ts : List TenD) (k B : Nat) (w0 w : World) (hk : 0 < k) (hk2 : k + tensLen ts ≤ 100000000) (h0 : TensOwn w0 B a ts) (hb : Below w0.heap.size w0 w) :
    Calls Tryz.prog 44 #[.slice a ts.length cap, .int .i64 (k : Int)] w fun e w' => e = .returned (.int .i64 ((k + tensLen ts : Nat) : Int)) ∧ Turn (fun g => B ≤ g ∧ g < w0.heap.size) w w' ∧ TensOwn w' B a (markTens k ts) := by
  rcases h0 with rfl | ⟨g, o, cur, t, T, rfl, hB, hg, hT, h⟩
  · refine (markTenantS_nil a cap k w).mono ?_
    rintro e w' ⟨rfl, rfl⟩
    exact ⟨ret_int (by simp [tensLen]), Turn.refl _ _, Or.inl (by simp [markTens])⟩
  · have hlt := lt_of_block hg
    have hg' : Blk w g cur t := (hb.block g hlt).trans hg
    have hle := tens_le_len ts
    refine (markTenantS_any g o cap ts k B (fun x => if x < w0.heap.size then T x else 1000000007) cur t w hk hk2 hB hg' (by simp [hlt, hT]) (fun i hi => (h i hi).keep (fun j _ => World.cell?_of_block (hb.block g hlt)) fun x hx _ _ => ⟨hb.block x hx, if_pos hx⟩)).mono ?_
    rintro e w' ⟨rfl, ht, c, hc, hm⟩
    refine ⟨rfl, ht.mono fun x _ hx => ⟨hx.1, ?_⟩, Or.inr ⟨g, o, c, t, _, rfl, hB, hc, by simp [hlt, hT], hm⟩⟩
    by_cases hl : x < w0.heap.size
    · exact hl
    · have := hx.2
      rw [if_neg hl] at this
      omega
set_option maxRecDepth 100000 in
set_option maxHeartbeats 1000000 in
theorem markState_any (now : Int) (a : Option Addr) (cap : Nat) (ts : List TenD) (k B : Nat) (w0 w : World) (hk : 0 < k) (hk2 : k + tensLen ts ≤ 100000000) (h0 : TensOwn w0 B a ts) (hb : Below w0.heap.size w0 w) :
    Calls Tryz.prog 17 #[.agg #[.int .i64 now, .slice a ts.length cap], .int .i64 (k : Int)] w fun e w' => e = .returned (.int .i64 ((k + tensLen ts : Nat) : Int)) ∧ Turn (fun g => B ≤ g ∧ g < w0.heap.size) w w' ∧ TensOwn w' B a (markTens k ts) := by
  have HM : Hid (∀ W, Below w0.heap.size w0 W → Calls Tryz.prog 44 #[.slice a ts.length cap, .int .i64 (k : Int)] W fun e w' => e = .returned (.int .i64 ((k + tensLen ts : Nat) : Int)) ∧ Turn (fun g => B ≤ g ∧ g < w0.heap.size) W w' ∧ TensOwn w' B a (markTens k ts)) := fun W hW => markTens_any a cap ts k B w0 W hk hk2 h0 hW
  have HB : Hid (Below w0.heap.size w0 w) := hb
  clear h0 hb
  go_enter Tryz.func17, Tryz.ntmps17
  go_wp2_with fail
  refine (HM.out _ (bto HB.out (bnew _ _))).mono ?_
  rintro e w1 ⟨rfl, ht, ho⟩
  have HT : Hid (Turn (fun g => B ≤ g ∧ g < w0.heap.size) w w1 ∧ TensOwn w1 B a (markTens k ts)) := ⟨(Turn.of (bnew _ _)).trans' ht, ho⟩
  clear ht ho
  go_wp2
  go_ret
  exact ⟨rfl, HT.out.1, HT.out.2⟩
theorem heldMetricLimit_int (kI : Int) (a : Option Addr) (cap : Nat) (k n : Nat) (w : World) (hkI : kI = (k : Int)) (hk : 0 < k) (hk2 : k + 2 * n ≤ 100000000) (hf : PairsIn w a (markPairs k n)) :
    Calls Tryz.prog 77 #[.slice a n cap, .int .i64 kI] w fun e w' => e = .returned (.int .i64 ((k + 2 * n : Nat) : Int)) ∧ Below w.heap.size w w' := hkI ▸ heldMetricLimit_any a cap k n w hk hk2 hf
theorem heldSeries_int (kI : Int) (a : Option Addr) (cap : Nat) (k n : Nat) (w : World) (hkI : kI = (k : Int)) (hk : 0 < k) (hk2 : k + 2 * n ≤ 100000000) (hf : PairsIn w a (markPairs k n)) :
    Calls Tryz.prog 78 #[.slice a n cap, .int .i64 kI] w fun e w' => e = .returned (.int .i64 ((k + 2 * n : Nat) : Int)) ∧ Below w.heap.size w w' := hkI ▸ heldSeries_any a cap k n w hk hk2 hf
set_option maxRecDepth 100000 in
set_option maxHeartbeats 4000000 in
theorem heldTenantS_any (a : Option Addr) (cap : Nat) (ts : List TenD) (k : Nat) (w : World) (hk : 0 < k) (hk2 : k + tensLen ts ≤ 100000000) (hf : TensIn w a (markTens k ts)) :
    Calls Tryz.prog 45 #[.slice a ts.length cap, .int .i64 (k : Int)] w fun e w' => e = .returned (.int .i64 ((k + tensLen ts : Nat) : Int)) ∧ Below w.heap.size w w' := by
  have HF : Hid (TensIn w a (markTens k ts)) := hf
  have HK2 : Hid (k + tensLen ts ≤ 100000000) := hk2
  have hlen : ts.length ≤ 100000000 := by have := tens_le_len ts; omega
  clear hf hk2
  go_enter Tryz.func45, Tryz.ntmps45
  go_wp2
  go_loopw [1, 5] (fun l i wr => ∃ (j K : Nat), j ≤ ts.length ∧ i = .int .i64 j ∧ l = .int .i64 (K : Int) ∧ Hid (K = k + tensLen (ts.take j)) ∧ Hid (Below w.heap.size w wr)) (fun _ i _ => ts.length - (intOf i).toNat)
  case atStart => exact ⟨0, k, Nat.zero_le _, rfl, rfl, by show _ = _; simp [tensLen], Below.refl _ _⟩
  case round =>
    obtain ⟨j, K, hj, rfl, rfl, HK, HB⟩ := hrel
    by_cases hlt : j < ts.length
    · have hlt' : j < (markTens k ts).length := by rw [markTens_length]; exact hlt
      obtain ⟨b, o, a1, c1, a2, c2, rfl, hb, z0, z1, z2, z3, p1, p2⟩ := (HF.out.later HB.out).at hlt'
      rw [markTens_get hlt' hlt, ← HK.out] at z0 z1 z2 z3 p1 p2
      simp only [markTen, markPairs_length] at z0 z1 z2 z3 p1 p2
      have HLE : Hid (K + tenLen ts[j] ≤ 100000000 ∧ k + tensLen (ts.take (j + 1)) = K + tenLen ts[j]) := by
        have h1 := tensLen_take ts j hlt
        have h2 := tensLen_le ts (j + 1)
        have h3 := HK.out
        have h4 := HK2.out
        exact ⟨by omega, by omega⟩
      have hkb : K + 2 + 2 * ts[j].mets.length + 2 * ts[j].sers.length ≤ 100000000 := by have := HLE.out.1; unfold tenLen at this; omega
      have hKp : 0 < K := by have := HK.out; omega
      have P1 : Hid (PairsIn wr a1 (markPairs (K + 2) ts[j].mets.length)) := p1
      have P2 : Hid (PairsIn wr a2 (markPairs (K + 2 + 2 * ts[j].mets.length) ts[j].sers.length)) := p2
      have HZ : Hid (∀ W, Below wr.heap.size wr W → W.cell? ⟨b, o + j * 4 + 1, none⟩ = some (.int .i64 ((K : Int) + 1)) ∧ W.cell? ⟨b, o + j * 4 + 2, none⟩ = some (.slice a1 ts[j].mets.length c1) ∧ W.cell? ⟨b, o + j * 4 + 3, none⟩ = some (.slice a2 ts[j].sers.length c2)) := fun W hW => ⟨by rw [hW.cell hb, z1]; simp, (hW.cell hb).trans z2, (hW.cell hb).trans z3⟩
      have d0 := Later.cells z0
      have hne := Later.there wr
      clear z0 z1 z2 z3 p1 p2
      go_wp2_with fail
      refine wp_region_later (by kernel_rfl) (by kernel_rfl) ?_
      repeat (go_big_quiet_step (first | (go_at_call 74; exact calls_later (markText_int _ K (by omega) _ (by omega) (by omega)))))
      refine wpQuiet_nil ?_
      rintro _ ⟨x, rfl⟩
      have HX : Hid (Below wr.heap.size wr x.w') := x.h
      clear d0 hne
      generalize x.w' = W1 at *
      clear x
      obtain ⟨y1, y2, y3⟩ := HZ.out W1 HX.out
      go_wp2_with fail
      refine (heldMetricLimit_int _ a1 c1 (K + 2) ts[j].mets.length _ (by omega) (by omega) (by omega) (P1.out.later HX.out)).mono ?_
      rintro e w3 ⟨rfl, hb3⟩
      have HX3 : Hid (Below wr.heap.size wr w3) := bto HX.out hb3
      clear hb3 y1 y2 y3
      obtain ⟨y1, y2, y3⟩ := HZ.out w3 HX3.out
      go_wp2_with fail
      refine (heldSeries_int _ a2 c2 (K + 2 + 2 * ts[j].mets.length) ts[j].sers.length _ (by omega) (by omega) (by omega) (P2.out.later HX3.out)).mono ?_
      rintro e w4 ⟨rfl, hb4⟩
      have HX4 : Hid (Below w.heap.size w w4) := bto HB.out (bto HX3.out hb4)
      have HEND : Hid (((K + 2 + 2 * ts[j].mets.length + 2 * ts[j].sers.length : Nat) : Int) = ((k + tensLen (ts.take (j + 1)) : Nat) : Int)) := by
        show _ = _
        have := HLE.out.2
        unfold tenLen at this
        omega
      clear hb4 y1 y2 y3
      go_wp2
      exact ⟨⟨j + 1, k + tensLen (ts.take (j + 1)), by omega, by go_num, congrArg (Value.int .i64) (by have := HEND.out; omega), rfl, HX4.out⟩, by simp [intOf]; omega⟩
    · have ej : j = ts.length := by omega
      have HE : Hid (((K : Nat) : Int) = ((k + tensLen ts : Nat) : Int)) := by show _ = _; rw [HK.out, ej, List.take_length]
      go_wp2
      go_ret
      exact ⟨ret_int HE.out, HB.out⟩
set_option maxRecDepth 100000 in
set_option maxHeartbeats 1000000 in
theorem heldState_any (now : Int) (a : Option Addr) (cap : Nat) (ts : List TenD) (k : Nat) (w : World) (hk : 0 < k) (hk2 : k + tensLen ts ≤ 100000000) (hf : TensIn w a (markTens k ts)) :
    Calls Tryz.prog 18 #[.agg #[.int .i64 now, .slice a ts.length cap], .int .i64 (k : Int)] w fun e w' => e = .returned (.int .i64 ((k + tensLen ts : Nat) : Int)) ∧ Below w.heap.size w w' := by
  have HM : Hid (∀ W, Below w.heap.size w W → Calls Tryz.prog 45 #[.slice a ts.length cap, .int .i64 (k : Int)] W fun e w' => e = .returned (.int .i64 ((k + tensLen ts : Nat) : Int)) ∧ Below W.heap.size W w') := fun W hW => heldTenantS_any a cap ts k W hk hk2 (hf.later hW)
  clear hf
  go_enter Tryz.func18, Tryz.ntmps18
  go_wp2_with fail
  refine (HM.out _ (bnew _ _)).mono ?_
  rintro e w1 ⟨rfl, hb⟩
  have HB : Hid (Below w.heap.size w w1) := bto (bnew _ _) hb
  clear hb
  go_wp2
  go_ret
  exact ⟨ret_int (by omega), HB.out⟩
end Go.Proofs.YtojeemogabhaoaaGreatDoor
