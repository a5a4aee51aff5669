import Derived.Test.YtboofidegpnkaaaGreatDoorProg
import Derived.Test.YtboofidegpnkaaaGreatDoorJ19SStep4
import Derived.Test.YtboofidegpnkaaaGreatDoorJ04Clone
import Derived.Test.YtboofidegpnkaaaGreatDoorJ01Btw
import Derived.Deep.OwnRows
namespace Go.Proofs.YtboofidegpnkaaaGreatDoor
open Go.RowKit
theorem specStep_any (w : World) (a : Option Addr) (cap : Nat) (fs : List FileD) (c k cr fl : Int) (dn : Bool) (op : OpD) (h : Given w a fs op) : Specs w a cap fs c k cr fl dn op := by
  cases hq : diskB fs c k cr fl with
  | false => exact sbad_disk w a cap fs c k cr fl dn op h hq
  | true =>
    by_cases ho : opB op = true
    · by_cases hk : op.kind = 5
      · cases hdn : dn with
        | true => exact sdown5 w a cap fs c k cr fl true op h hq hk ho rfl
        | false =>
          by_cases hm : k = 1000000000000000
          · exact smax5 w a cap fs c k cr fl false op h hq hk ho rfl hm
          by_cases hc : cr = 0
          · by_cases hf : fl = 0
            · exact sdo005 w a cap fs c k cr fl false op h hq hk ho rfl hm hc hf
            by_cases hf2 : k + 1 = fl
            · exact sfl05 w a cap fs c k cr fl false op h hq hk ho rfl hm hc hf hf2
            · exact sdo105 w a cap fs c k cr fl false op h hq hk ho rfl hm hc hf hf2
          by_cases hc2 : k + 1 = cr
          · exact scr5 w a cap fs c k cr fl false op h hq hk ho rfl hm hc hc2
          by_cases hf : fl = 0
          · exact sdo0ne5 w a cap fs c k cr fl false op h hq hk ho rfl hm hc hc2 hf
          by_cases hf2 : k + 1 = fl
          · exact sflne5 w a cap fs c k cr fl false op h hq hk ho rfl hm hc hc2 hf hf2
          · exact sdo1ne5 w a cap fs c k cr fl false op h hq hk ho rfl hm hc hc2 hf hf2
      · cases hdn : dn with
        | true => exact sdown w a cap fs c k cr fl true op h hq hk ho rfl
        | false =>
          by_cases hm : k = 1000000000000000
          · exact smax w a cap fs c k cr fl false op h hq hk ho rfl hm
          by_cases hc : cr = 0
          · by_cases hf : fl = 0
            · exact sdo00 w a cap fs c k cr fl false op h hq hk ho rfl hm hc hf
            by_cases hf2 : k + 1 = fl
            · exact sfl0 w a cap fs c k cr fl false op h hq hk ho rfl hm hc hf hf2
            · exact sdo10 w a cap fs c k cr fl false op h hq hk ho rfl hm hc hf hf2
          by_cases hc2 : k + 1 = cr
          · exact scr w a cap fs c k cr fl false op h hq hk ho rfl hm hc hc2
          by_cases hf : fl = 0
          · exact sdo0ne w a cap fs c k cr fl false op h hq hk ho rfl hm hc hc2 hf
          by_cases hf2 : k + 1 = fl
          · exact sflne w a cap fs c k cr fl false op h hq hk ho rfl hm hc hc2 hf hf2
          · exact sdo1ne w a cap fs c k cr fl false op h hq hk ho rfl hm hc hc2 hf hf2
    · cases hb : btwB op.kind 1 6 with
      | false => exact sbad_kind w a cap fs c k cr fl dn op h hq hb
      | true =>
        cases hn : nameB op.name with
        | false => exact sbad_name w a cap fs c k cr fl dn op h hq hb hn
        | true =>
          have hx : op.kind = 5 ∧ nameB op.to = false := by
            unfold opB at ho
            rw [hb, hn] at ho
            simp at ho
            exact ho
          exact sbad_to w a cap fs c k cr fl dn op h hq hx.1 hn hx.2
end Go.Proofs.YtboofidegpnkaaaGreatDoor
namespace Go.Proofs.YtboofidegpnkaaaGreatDoor
open Go.RowKit
theorem conv_one (w : World) (n : Int) : (convert 70 9 (.slice (some ⟨w.heap.size, 0, none⟩) 1 1)).run Tryz.prog (w.alloc (.cells #[.int .u8 n] 5)) = .ok (.string ⟨#[UInt8.ofNat n.toNat]⟩) (w.alloc (.cells #[.int .u8 n] 5)) := by
  rw [run_convert_bytes_string _ 70 9 5 _ 1 1 Tryz.underlying70 Tryz.underlying5 Tryz.underlying9, run_bytesToString _ _ 1 1 [n] (by simp [go_sem, loadCells])]
  rfl
theorem str_one (c : UInt8) (s : ByteArray) : ((⟨#[c]⟩ : ByteArray) ++ s).data.toList = c :: s.data.toList := by
  simp
theorem str_one_size (c : UInt8) (s : ByteArray) : ((⟨#[c]⟩ : ByteArray) ++ s).size = s.size + 1 := by
  rw [ByteArray.size_append]; show 1 + s.size = _; omega
theorem mk_toList (s : ByteArray) (l : List UInt8) (h : s.data.toList = l) : s = ⟨l.toArray⟩ := by
  subst h; simp
end Go.Proofs.YtboofidegpnkaaaGreatDoor
namespace Go.Proofs.YtboofidegpnkaaaGreatDoor
open Go.RowKit
theorem digits_pos {n : Nat} (h : 0 < n) (acc : List UInt8) : digits n n acc = digits (n / 10) (n / 10) ((48 + UInt8.ofNat (n % 10)) :: acc) := by
  obtain ⟨m, rfl⟩ : ∃ m, n = m + 1 := ⟨n - 1, by omega⟩
  conv => lhs; rw [digits]
  rw [if_neg (by omega)]
  exact digits_fuel _ _ _ _ (by omega) (Nat.le_refl _)
set_option maxRecDepth 100000 in
set_option maxHeartbeats 1000000 in
theorem markText_any (k : Nat) (w : World) (h0 : 0 < k) (h1 : k ≤ 1000000000) :
    Calls Tryz.prog 51 #[.int .i64 (k : Int)] w fun e w' => e = .returned (.string (mt k)) ∧ Below w.heap.size w w' := by
  have hk : ¬ ((k : Int) ≤ 0) := by omega
  have hcv := conv_one
  go_enter Tryz.func51, Tryz.ntmps51
  go_wp2
  go_loopw [0, 3] (fun a s wr => ∃ (n : Nat) (st : ByteArray), st.size + n ≤ k ∧ a = .int .i64 n ∧ s = .string st ∧ digits n n st.data.toList = digits k k [] ∧ Below w.heap.size w wr) (fun a _ _ => (intOf a).toNat)
  case atStart => exact ⟨k, ByteArray.empty, by simp, rfl, rfl, rfl, Below.refl _ _⟩
  case round =>
    obtain ⟨n, st, hn, rfl, rfl, hd, hbel⟩ := hrel
    have HD : Hid (digits n n st.data.toList = digits k k []) := hd
    clear hd
    have hsz : (st.size : Int) ≤ 1000000000 := by omega
    by_cases hp : 0 < n
    · go_wp2
      refine ⟨⟨n / 10, _, ?_, by go_num, rfl, ?_, hbel.alloc hbel.size _⟩, by simp [intOf]; omega⟩
      · rw [str_one_size]; omega
      · rw [str_one, ← digits_pos hp]; exact HD.out
    · go_wp2
      go_ret
      refine ⟨?_, hbel⟩
      have e0 : n = 0 := by omega
      have hd := HD.out
      rw [e0] at hd
      have e : st.data.toList = digits k k [] := by rw [← hd]; rfl
      have e2 : ((⟨#[109]⟩ : ByteArray) ++ st) = mt k := by
        unfold mt
        exact mk_toList _ _ (by rw [str_one, e])
      exact congrArg (fun x => Ending.returned (.string x)) e2
theorem markText_int (k : Int) (n : Nat) (hk : k = (n : Int)) (w : World) (h0 : 0 < n) (h1 : n ≤ 1000000000) :
    Calls Tryz.prog 51 #[.int .i64 k] w fun e w' => e = .returned (.string (mt n)) ∧ Below w.heap.size w w' := hk ▸ markText_any n w h0 h1
end Go.Proofs.YtboofidegpnkaaaGreatDoor
namespace Go.Proofs.YtboofidegpnkaaaGreatDoor
open Go.RowKit
set_option maxRecDepth 100000 in
set_option maxHeartbeats 2000000 in
theorem markFileS_any (a : Option Addr) (cap : Nat) (fs : List FileD) (k B : Nat) (w : World) (hk : 0 < k) (hk2 : k + 3 * fs.length ≤ 100000000) (hf : Owned w B a fs) :
    Calls Tryz.prog 28 #[.slice a fs.length cap, .int .i64 (k : Int)] w fun e w' => e = .returned (.int .i64 ((k + 3 * fs.length : Nat) : Int)) ∧ Marked w w' B a fs.length ∧ Owned w' B a (markL k fs.length) := by
  have hf2 : Owned w B a fs ∧ (fs = [] ∨ 0 < fs.length) := ⟨hf, by rcases fs with _ | ⟨f, r⟩ <;> simp⟩
  have hf3 : fs = [] ∨ (0 < fs.length ∧ ∃ g o cur t, a = some ⟨g, o, none⟩ ∧ B ≤ g ∧ w.heap[g]? = some (.cells cur t (0, 0)) ∧ FilesAt w g o fs) := by
    rcases hf2.2 with h | h
    · exact Or.inl h
    · rcases hf2.1 with h' | h'
      · exact Or.inl h'
      · exact Or.inr ⟨h, h'⟩
  clear hf hf2
  rcases hf3 with rfl | ⟨hpos, g, o, cur, t, rfl, hB, hg, hfs⟩
  · go_enter Tryz.func28, Tryz.ntmps28
    go_wp2
    go_loopw [1, 5] (fun l i wr => l = .int .i64 (k : Int) ∧ i = .int .i64 0 ∧ wr = w) (fun _ i _ => 0)
    case atStart => exact ⟨rfl, rfl, rfl⟩
    case round =>
      obtain ⟨rfl, rfl, rfl⟩ := hrel
      go_wp2
      go_ret
      exact ⟨rfl, Or.inl ⟨rfl, Below.refl _ _⟩, Or.inl rfl⟩
  have hrow : ∀ j (hj : j < fs.length), RowFile cur o j fs[j] := rows_of_filesAt hg hfs
  have hsz := rows_size hrow
  have HG : Hid (Blk w g cur t) := hg
  clear hrow hg hfs
  generalize hn : fs.length = n at *
  have hsz2 : n = 0 ∨ o + n * 3 ≤ cur.size := by
    rcases hsz with h | h
    · left; rw [← hn, h]; rfl
    · exact Or.inr h
  clear hsz hn
  go_enter Tryz.func28, Tryz.ntmps28
  go_wp2
  go_loopw [1, 5] (fun l i wr => ∃ (j : Nat) (c : Array Value), j ≤ n ∧ i = .int .i64 j ∧ l = .int .i64 ((k + 3 * j : Nat) : Int) ∧ Blk wr g c t ∧ c.size = cur.size ∧ (∀ m, m < j → RowFile c o m (markF k m)) ∧ But g w wr) (fun _ i _ => n - (intOf i).toNat)
  case atStart => exact ⟨0, cur, Nat.zero_le _, rfl, rfl, HG.out, rfl, fun m h => absurd h (by omega), But.refl _ _⟩
  case round =>
    obtain ⟨j, c, hj, rfl, rfl, hblk, hcs, hrows, hbut⟩ := hrel
    have HBLK : Hid (Blk wr g c t) := hblk
    have HROWS : Hid (∀ m, m < j → RowFile c o m (markF k m)) := hrows
    have HCS : Hid (c.size = cur.size) := hcs
    clear hblk hrows
    by_cases hlt : j < n
    · have hbd : o + j * 3 + 2 < c.size := by rcases hsz2 with h | h <;> omega
      clear hcs hsz2
      go_wp2_with fail
      refine (markText_int _ (k + 3 * j) (by omega) _ (by omega) (by omega)).mono ?_
      rintro e w1 ⟨rfl, hb1⟩
      have hB1 := HBLK.out.later hb1
      obtain ⟨v0, d0⟩ := hB1.there (j := o + j * 3) (by omega)
      have f0 := hB1.free (o + j * 3)
      have HB1 : Hid (Blk w1 g c t) := hB1
      clear hB1
      go_wp2_with fail
      refine (markText_int _ (k + 3 * j + 1) (by omega) _ (by omega) (by omega)).mono ?_
      rintro e w2 ⟨rfl, hb2⟩
      have hB2 := (HB1.out.set (o + j * 3) (.string (mt (k + 3 * j)))).later hb2
      obtain ⟨v1, d1⟩ := hB2.there (j := o + j * 3 + 1) (by simp; omega)
      have f1 := hB2.free (o + j * 3 + 1)
      obtain ⟨v2, d2⟩ := hB2.there (j := o + j * 3 + 2) (by simp; omega)
      have f2 := hB2.free (o + j * 3 + 2)
      have HB2 : Hid (Blk w2 g (c.setIfInBounds (o + j * 3) (.string (mt (k + 3 * j)))) t) := hB2
      have HBUT : Hid (But g w w2) := ((hbut.trans (But.of hb1)).setCell _ _).trans (But.of hb2)
      clear hB2 d0 f0 hb1 hb2 hbut
      go_wp2
      refine ⟨⟨j + 1, _, by omega, by go_num, by go_num, (HB2.out.set (o + j * 3 + 1) (.string (mt (k + 3 * j + 1)))).set (o + j * 3 + 2) (.int .i64 ((k + 3 * j + 2 : Nat) : Int)), by simp [HCS.out], ?_, (HBUT.out.setCell _ _).setCell _ _⟩, by simp [intOf]; omega⟩
      intro m hm
      by_cases e : m = j
      · subst e
        exact RowFile.made c o m (markF k m) hbd
      · exact (((HROWS.out m (by omega)).set (by omega) _).set (by omega) _).set (by omega) _
    · go_wp2
      go_ret
      have e : j = n := by omega
      subst e
      refine ⟨ret_int (by omega), Or.inr ⟨hpos, g, o, rfl, hB, hbut⟩, Or.inr ⟨g, o, c, t, rfl, hB, HBLK.out, filesAt_of_rows HBLK.out ?_⟩⟩
      intro m hm
      rw [markL_get]
      exact HROWS.out m (by rw [markL_length] at hm; exact hm)
end Go.Proofs.YtboofidegpnkaaaGreatDoor
namespace Go.Proofs.YtboofidegpnkaaaGreatDoor
open Go.RowKit
theorem Marked.from {w w1 w' : World} {B n : Nat} {a : Option Addr} (hb : Below w.heap.size w w1) (h : Marked w1 w' B a n) : Marked w w' B a n := by
  rcases h with ⟨h0, h⟩ | ⟨hp, g, o, e, hB, h⟩
  · exact Or.inl ⟨h0, bto hb h⟩
  · exact Or.inr ⟨hp, g, o, e, hB, (But.of hb).trans h⟩
set_option maxHeartbeats 1000000 in
theorem markDisk_any (a : Option Addr) (cap : Nat) (fs : List FileD) (c k0 cr fl : Int) (dn : Bool) (k B : Nat) (w : World) (hk : 0 < k) (hk2 : k + 3 * fs.length ≤ 100000000) (hf : Owned w B a fs) :
    Calls Tryz.prog 11 #[.agg #[.slice a fs.length cap, .int .i64 c, .int .i64 k0, .int .i64 cr, .int .i64 fl, .bool dn], .int .i64 (k : Int)] w fun e w' =>
      e = .returned (.int .i64 ((k + 3 * fs.length : Nat) : Int)) ∧ Marked w w' B a fs.length ∧ Owned w' B a (markL k fs.length) := by
  have HF : Hid (Owned w B a fs) := hf
  clear hf
  go_enter Tryz.func11, Tryz.ntmps11
  go_wp2_with fail
  refine (markFileS_any a cap fs k B _ hk hk2 (HF.out.later (bnew _ _))).mono ?_
  rintro e w1 ⟨rfl, hm, ho⟩
  have HM : Hid (Marked w w1 B a fs.length ∧ Owned w1 B a (markL k fs.length)) := ⟨hm.from (bnew _ _), ho⟩
  clear hm ho
  go_wp2
  go_ret
  exact ⟨rfl, HM.out.1, HM.out.2⟩
set_option maxRecDepth 100000 in
set_option maxHeartbeats 2000000 in
theorem heldFileS_any (a : Option Addr) (cap : Nat) (k n : Nat) (w : World) (hk : 0 < k) (hk2 : k + 3 * n ≤ 100000000) (hf : FilesIn w a (markL k n)) :
    Calls Tryz.prog 29 #[.slice a n cap, .int .i64 (k : Int)] w fun e w' => e = .returned (.int .i64 ((k + 3 * n : Nat) : Int)) ∧ Below w.heap.size w w' := by
  have HF : Hid (FilesIn w a (markL k n)) := hf
  clear hf
  go_enter Tryz.func29, Tryz.ntmps29
  go_wp2
  go_loopw [1, 5] (fun l i wr => ∃ j : Nat, j ≤ n ∧ i = .int .i64 j ∧ l = .int .i64 ((k + 3 * j : Nat) : Int) ∧ Below w.heap.size w wr) (fun _ i _ => n - (intOf i).toNat)
  case atStart => exact ⟨0, Nat.zero_le _, rfl, rfl, Below.refl _ _⟩
  case round =>
    obtain ⟨j, hj, rfl, rfl, hbel⟩ := hrel
    by_cases hlt : j < n
    · obtain ⟨b, o, rfl, hb, c0, c1, c2⟩ := (HF.out.later hbel).at (i := j) (by rw [markL_length]; exact hlt)
      rw [markL_get] at c0 c1 c2
      simp only [markF] at c0 c1 c2
      have d0 := Later.cells c0
      have hne := Later.there wr
      have HC : Hid (wr.cell? ⟨b, o + j * 3 + 1, none⟩ = some (.string (mt (k + 3 * j + 1))) ∧ wr.cell? ⟨b, o + j * 3 + 2, none⟩ = some (.int .i64 ((k + 3 * j + 2 : Nat) : Int))) := ⟨c1, c2⟩
      clear c0 c1 c2
      go_wp2_with fail
      refine wp_region_later (by kernel_rfl) (by kernel_rfl) ?_
      repeat (go_big_quiet_step (first | (go_at_call 51; exact calls_later (markText_int _ (k + 3 * j) (by omega) _ (by omega) (by omega)))))
      refine wpQuiet_nil ?_
      rintro _ ⟨x, rfl⟩
      have d1 := Later.cells (x.cell HC.out.1)
      have d2 : ∀ y : Later x.w', y.w'.cell? ⟨b, o + j * 3 + 2, none⟩ = some (.int .i64 ((k : Int) + 3 * (j : Int) + 2)) := fun y => by rw [y.cell (x.cell HC.out.2)]; simp
      have hne2 := Later.there x.w'
      have HX : Hid (Below w.heap.size w x.w') := bto hbel x.h
      clear d0 hne HC hbel
      generalize x.w' = W at *
      clear x
      go_wp2_with fail
      refine wp_region_later (by kernel_rfl) (by kernel_rfl) ?_
      repeat (go_big_quiet_step (first | (go_at_call 51; exact calls_later (markText_int _ (k + 3 * j + 1) (by omega) _ (by omega) (by omega)))))
      refine wpQuiet_nil ?_
      rintro _ ⟨y, rfl⟩
      have e2 := d2 y
      have HY : Hid (Below w.heap.size w y.w') := bto HX.out y.h
      clear d1 d2 hne2
      generalize y.w' = W2 at *
      clear y
      go_wp2
      exact ⟨⟨j + 1, by omega, by go_num, by go_num, HY.out⟩, by simp [intOf]; omega⟩
    · go_wp2
      go_ret
      have e : j = n := by omega
      subst e
      exact ⟨ret_int (by omega), hbel⟩
set_option maxHeartbeats 1000000 in
theorem heldDisk_any (a : Option Addr) (cap : Nat) (c k0 cr fl : Int) (dn : Bool) (k n : Nat) (w : World) (hk : 0 < k) (hk2 : k + 3 * n ≤ 100000000) (hf : FilesIn w a (markL k n)) :
    Calls Tryz.prog 12 #[.agg #[.slice a n cap, .int .i64 c, .int .i64 k0, .int .i64 cr, .int .i64 fl, .bool dn], .int .i64 (k : Int)] w fun e w' =>
      e = .returned (.int .i64 ((k + 3 * n : Nat) : Int)) ∧ Below w.heap.size w w' := by
  have HF : Hid (FilesIn w a (markL k n)) := hf
  clear hf
  go_enter Tryz.func12, Tryz.ntmps12
  go_wp2_with fail
  refine (heldFileS_any a cap k n _ hk hk2 (HF.out.later (bnew _ _))).mono ?_
  rintro e w1 ⟨rfl, hb⟩
  have HB : Hid (Below w.heap.size w w1) := bto (bnew _ _) hb
  clear hb
  go_wp2
  go_ret
  exact ⟨ret_int (by omega), HB.out⟩
end Go.Proofs.YtboofidegpnkaaaGreatDoor
namespace Go.Proofs.YtboofidegpnkaaaGreatDoor
open Go.RowKit
set_option maxHeartbeats 400000 in
theorem szFile_any (f : FileD) (left : Int) (w : World) (h0 : 0 ≤ left) (h1 : left ≤ 1048576) (hn : f.name.size ≤ maxLen) (hd : f.data.size ≤ maxLen) :
    Calls Tryz.prog 30 #[.agg #[.string f.name, .string f.data, .int .i64 f.synced], .int .i64 left] w fun e w' => e = .returned (.int .i64 (szF left f)) ∧ Below w.heap.size w w' := by
  unfold maxLen at hn hd
  obtain ⟨nm, da, sy⟩ := f
  simp only at hn hd ⊢
  by_cases c1 : left - nm.size < 0
  · have e : szF left ⟨nm, da, sy⟩ = -1 := by unfold szF; rw [if_neg]; simp only; omega
    rw [e]
    go_enter Tryz.func30, Tryz.ntmps30
    go_wp2
    go_ret
    exact ⟨rfl, (Below.refl _ _).alloc (Nat.le_refl _) _⟩
  · by_cases c2 : left - nm.size - da.size < 0
    · have e : szF left ⟨nm, da, sy⟩ = -1 := by unfold szF; rw [if_neg]; simp only; omega
      rw [e]
      go_enter Tryz.func30, Tryz.ntmps30
      go_wp2
      go_ret
      exact ⟨rfl, (Below.refl _ _).alloc (Nat.le_refl _) _⟩
    · have e : szF left ⟨nm, da, sy⟩ = left - nm.size - da.size := by unfold szF; rw [if_pos]; simp only; omega
      rw [e]
      go_enter Tryz.func30, Tryz.ntmps30
      go_wp2
      go_ret
      exact ⟨rfl, (Below.refl _ _).alloc (Nat.le_refl _) _⟩
set_option maxHeartbeats 1000000 in
theorem szFileS_any (a : Option Addr) (cap : Nat) (fs : List FileD) (left : Int) (w : World) (h0 : 0 ≤ left) (h1 : left ≤ 1048576) (hf : FilesIn w a fs) (hs : Short fs) (hlen : fs.length ≤ maxLen) :
    Calls Tryz.prog 13 #[.slice a fs.length cap, .int .i64 left] w fun e w' => e = .returned (.int .i64 (szFs left fs)) ∧ Below w.heap.size w w' := by
  unfold maxLen at hlen
  by_cases c1 : left - fs.length < 0
  · have e : szFs left fs = -1 := by unfold szFs; rw [if_neg]; omega
    rw [e]
    clear hf hs
    go_enter Tryz.func13, Tryz.ntmps13
    go_wp2
    go_ret
    exact ⟨rfl, Below.refl _ _⟩
  · have hne : ¬ (left - fs.length < 0) := c1
    have HF : Hid (FilesIn w a fs) := hf
    have HS : Hid (Short fs) := hs
    clear hf hs
    go_enter Tryz.func13, Tryz.ntmps13
    go_wp2
    go_loopw [1, 5] (fun l i wr => ∃ k : Nat, k ≤ fs.length ∧ i = .int .i64 k ∧ (bulk (fs.take k) : Int) ≤ left - fs.length ∧ l = .int .i64 (left - fs.length - bulk (fs.take k)) ∧ Below w.heap.size w wr) (fun _ i _ => fs.length - (intOf i).toNat)
    case atStart => exact ⟨0, Nat.zero_le _, rfl, by simp [bulk]; omega, by simp [bulk], Below.refl _ _⟩
    case round =>
      obtain ⟨k, hk, rfl, hle, rfl, hbel⟩ := hrel
      by_cases hlt : k < fs.length
      · obtain ⟨b, o, rfl, hb, c0, c1, c2⟩ := (HF.out.later hbel).at hlt
        have hss := HS.out k hlt
        have hts := bulk_take_succ fs k hlt
        have htl := bulk_take_le fs (k + 1)
        by_cases c3 : ((fs[k].name.size + fs[k].data.size : Nat) : Int) ≤ left - fs.length - bulk (fs.take k)
        · have e : szF (left - fs.length - bulk (fs.take k)) fs[k] = left - fs.length - bulk (fs.take (k + 1)) := by
            unfold szF; rw [if_pos (by omega), hts]; omega
          have E : Hid (szF (left - fs.length - bulk (fs.take k)) fs[k] = left - fs.length - bulk (fs.take (k + 1))) := e
          have hle2 : (bulk (fs.take (k + 1)) : Int) ≤ left - fs.length := by omega
          clear e hts
          go_wp2_with fail
          refine (szFile_any fs[k] _ _ (by omega) (by omega) hss.1 hss.2).mono ?_
          rintro e w' ⟨rfl, hb2⟩
          rw [E.out]
          go_wp2
          exact ⟨⟨k + 1, by omega, by go_num, hle2, rfl, hbel.trans (hb2.mono hbel.size)⟩, by simp [intOf]; omega⟩
        · have e : szF (left - fs.length - bulk (fs.take k)) fs[k] = -1 := by
            unfold szF; rw [if_neg (by omega)]
          have E : Hid (szF (left - fs.length - bulk (fs.take k)) fs[k] = -1) := e
          have E2 : Hid (szFs left fs = -1) := by show szFs left fs = -1; unfold szFs; rw [if_neg (by omega)]
          clear e hts
          go_wp2_with fail
          refine (szFile_any fs[k] _ _ (by omega) (by omega) hss.1 hss.2).mono ?_
          rintro e w' ⟨rfl, hb2⟩
          rw [E.out]
          go_wp2
          go_ret
          exact ⟨ret_int E2.out.symm, hbel.trans (hb2.mono hbel.size)⟩
      · go_wp2
        go_ret
        have e : fs.take k = fs := List.take_of_length_le (by omega)
        rw [e] at hle ⊢
        exact ⟨ret_int (by unfold szFs; rw [if_pos (by omega)]), hbel⟩
abbrev diskV (a : Option Addr) (n cap : Nat) (c k cr fl : Int) (dn : Bool) : Value := .agg #[.slice a n cap, .int .i64 c, .int .i64 k, .int .i64 cr, .int .i64 fl, .bool dn]
set_option maxHeartbeats 400000 in
theorem szDisk_any (a : Option Addr) (cap : Nat) (fs : List FileD) (c k cr fl : Int) (dn : Bool) (left : Int) (w : World) (h0 : 0 ≤ left) (h1 : left ≤ 1048576) (hf : FilesIn w a fs) (hs : Short fs) (hlen : fs.length ≤ maxLen) :
    Calls Tryz.prog 4 #[.agg #[.slice a fs.length cap, .int .i64 c, .int .i64 k, .int .i64 cr, .int .i64 fl, .bool dn], .int .i64 left] w fun e w' => e = .returned (.int .i64 (szFs left fs)) ∧ Below w.heap.size w w' := by
  have HF : Hid (FilesIn w a fs) := hf
  clear hf
  by_cases c1 : szFs left fs < 0
  · have E : Hid (szFs left fs = -1) := by show szFs left fs = -1; unfold szFs at c1 ⊢; split at c1 <;> omega
    go_enter Tryz.func4, Tryz.ntmps4
    go_wp2_with fail
    refine (szFileS_any a cap fs left _ h0 h1 (HF.out.later ((Below.refl _ _).alloc (Nat.le_refl _) _)) hs hlen).mono ?_
    rintro e w' ⟨rfl, hb2⟩
    go_wp2
    go_ret
    exact ⟨ret_int E.out.symm, ((Below.refl _ _).alloc (Nat.le_refl _) _).trans (hb2.mono (by simp))⟩
  · go_enter Tryz.func4, Tryz.ntmps4
    go_wp2_with fail
    refine (szFileS_any a cap fs left _ h0 h1 (HF.out.later ((Below.refl _ _).alloc (Nat.le_refl _) _)) hs hlen).mono ?_
    rintro e w' ⟨rfl, hb2⟩
    go_wp2
    go_ret
    exact ⟨rfl, ((Below.refl _ _).alloc (Nat.le_refl _) _).trans (hb2.mono (by simp))⟩
end Go.Proofs.YtboofidegpnkaaaGreatDoor
namespace Go.Proofs.YtboofidegpnkaaaGreatDoor
open Go.RowKit
set_option maxHeartbeats 400000 in
theorem toFile_any (nm da : ByteArray) (sy : Int) (w : World) :
    Calls Tryz.prog 36 #[.agg #[.string nm, .string da, .int .i64 sy]] w fun e w' => e = .returned (.agg #[.string nm, .string da, .int .i64 sy]) ∧ Below w.heap.size w w' := by
  go_enter Tryz.func36, Tryz.ntmps36
  go_wp2
  exact bodyPost_ret (v := .agg #[.string nm, .string da, .int .i64 sy]) (by simp [results, Tryz.results36, go_sem]) rfl ⟨rfl, (((Below.refl _ _).alloc (Nat.le_refl _) _).alloc (by simp) _).alloc (by simp; omega) _⟩
theorem info_file : (Tryz.prog.info? 71).map (fun i => (i.zero, i.size, i.bytes)) = some (some (.agg #[.string ByteArray.empty, .string ByteArray.empty, .int .i64 0]), 3, 40) := by kernel_rfl
theorem make_files (n : Nat) (hn : n ≤ 1048576) (w : World) :
    (Instr.makeSlice 28 (.int .i64 (n : Int)) (.int .i64 (n : Int))).run Tryz.prog w = .ok (.slice (some ⟨w.heap.size, 0, none⟩) n n) (w.alloc (.cells (madeCells #[.string ByteArray.empty, .string ByteArray.empty, .int .i64 0] (n * 3)) 71)) := by
  obtain ⟨i, hi, hzz⟩ := Option.map_eq_some_iff.1 info_file
  simp only [Prod.mk.injEq] at hzz
  obtain ⟨hz, hs, hb⟩ := hzz
  have hr := run_make (P := Tryz.prog) w 28 71 i _ Tryz.underlying28 hi hz .i64 .i64 n n (by omega) (Int.le_refl _) (by rw [hb]; omega) (by omega)
  simp only [Int.toNat_natCast, hs] at hr
  exact hr
def Fill (w : World) (g n : Nat) (fs : List FileD) (k : Nat) : Prop := ∃ cur : Array Value, w.heap[g]? = some (.cells cur 71 (0, 0)) ∧ cur.size = n * 3 ∧
  ∀ i (h : i < fs.length), i < k → cur[i * 3]? = some (.string fs[i].name) ∧ cur[i * 3 + 1]? = some (.string fs[i].data) ∧ cur[i * 3 + 2]? = some (.int .i64 fs[i].synced)
theorem Fill.later {w w' : World} {g n k : Nat} {fs : List FileD} {B : Nat} (h : Fill w g n fs k) (hb : Below B w w') (hg : g < B) : Fill w' g n fs k := by
  obtain ⟨cur, h1, h2⟩ := h
  exact ⟨cur, by rw [hb.block g hg]; exact h1, h2⟩
theorem Fill.cells {w : World} {g n k : Nat} {fs : List FileD} (h : Fill w g n fs k) {j : Nat} (hj : j < n * 3) : (∃ v, w.cell? ⟨g, j, none⟩ = some v) ∧ w.frozen? ⟨g, j, none⟩ = false := by
  obtain ⟨cur, h1, h2, _⟩ := h
  refine ⟨⟨cur[j], ?_⟩, frozen_of_row w g j cur _ h1⟩
  rw [cell_of_row w g j cur _ _ h1]
  exact Array.getElem?_eq_getElem (by omega)
theorem Fill.step {w : World} {g n k : Nat} {fs : List FileD} (h : Fill w g n fs k) (hk : k < fs.length) (hn : fs.length ≤ n) :
    Fill (((w.setCell ⟨g, k * 3, none⟩ (.string fs[k].name)).setCell ⟨g, k * 3 + 1, none⟩ (.string fs[k].data)).setCell ⟨g, k * 3 + 2, none⟩ (.int .i64 fs[k].synced)) g n fs (k + 1) := by
  obtain ⟨cur, h1, h2, h3⟩ := h
  refine ⟨_, heap_setCell_same _ _ _ _ _ _ (heap_setCell_same _ _ _ _ _ _ (heap_setCell_same _ _ _ _ _ _ h1)), by simp [h2], fun i hi hlt => ?_⟩
  by_cases e : i = k
  · subst e
    refine ⟨?_, ?_, ?_⟩ <;> simp [Array.getElem?_setIfInBounds] <;> omega
  · obtain ⟨a1, a2, a3⟩ := h3 i hi (by omega)
    refine ⟨?_, ?_, ?_⟩
    · rw [Array.getElem?_setIfInBounds_ne (by omega), Array.getElem?_setIfInBounds_ne (by omega), Array.getElem?_setIfInBounds_ne (by omega)]; exact a1
    · rw [Array.getElem?_setIfInBounds_ne (by omega), Array.getElem?_setIfInBounds_ne (by omega), Array.getElem?_setIfInBounds_ne (by omega)]; exact a2
    · rw [Array.getElem?_setIfInBounds_ne (by omega), Array.getElem?_setIfInBounds_ne (by omega), Array.getElem?_setIfInBounds_ne (by omega)]; exact a3
theorem Fill.done {w : World} {g : Nat} {fs : List FileD} (h : Fill w g fs.length fs fs.length) : FilesIn w (some ⟨g, 0, none⟩) fs := by
  obtain ⟨cur, h1, h2, h3⟩ := h
  have hg : g < w.heap.size := by
    rcases Nat.lt_or_ge g w.heap.size with h | h
    · exact h
    · rw [Array.getElem?_eq_none h] at h1; exact absurd h1 (by simp)
  refine Or.inr ⟨g, 0, rfl, hg, fun i hi => ?_⟩
  obtain ⟨a1, a2, a3⟩ := h3 i hi hi
  simp only [cell_of_row w g _ cur _ _ h1, Nat.zero_add]
  exact ⟨a1, a2, a3⟩
set_option maxHeartbeats 1000000 in
theorem toFileS_any (a : Option Addr) (cap : Nat) (fs : List FileD) (w : World) (hf : FilesIn w a fs) (hlen : fs.length ≤ 1048576) :
    Calls Tryz.prog 19 #[.slice a fs.length cap] w fun e w' => e = .returned (.slice (some ⟨w.heap.size, 0, none⟩) fs.length fs.length) ∧ (∃ cur t, w'.heap[w.heap.size]? = some (.cells cur t (0, 0))) ∧ FilesIn w' (some ⟨w.heap.size, 0, none⟩) fs ∧ Below w.heap.size w w' := by
  have HF : Hid (FilesIn w a fs) := hf
  clear hf
  have hmk := make_files fs.length hlen
  go_enter Tryz.func19, Tryz.ntmps19
  go_wp2
  go_loopw [4] (fun i wr => ∃ k : Nat, k ≤ fs.length ∧ i = .int .i64 k ∧ Fill wr w.heap.size fs.length fs k ∧ Below w.heap.size w wr ∧ w.heap.size < wr.heap.size) (fun i _ => fs.length - (intOf i).toNat)
  case atStart => exact ⟨0, Nat.zero_le _, rfl, ⟨_, heap_alloc_new _ _, size_madeCells _ _, fun i _ h => absurd h (by omega)⟩, (Below.refl _ _).alloc (Nat.le_refl _) _, by simp⟩
  case round =>
    obtain ⟨k, hk, rfl, hfill, hbel, hsz⟩ := hrel
    have HFill : Hid (Fill wr w.heap.size fs.length fs k) := hfill
    clear hfill hmk
    by_cases hlt : k < fs.length
    · obtain ⟨b, o, rfl, hb, c0, c1, c2⟩ := (HF.out.later hbel).at hlt
      go_wp2_with fail
      refine (toFile_any _ _ _ _).mono ?_
      rintro e w' ⟨rfl, hb2⟩
      have hF2 := HFill.out.later hb2 hsz
      obtain ⟨⟨v0, d0⟩, f0⟩ := hF2.cells (j := k * 3) (by omega)
      obtain ⟨⟨v1, d1⟩, f1⟩ := hF2.cells (j := k * 3 + 1) (by omega)
      obtain ⟨⟨v2, d2⟩, f2⟩ := hF2.cells (j := k * 3 + 2) (by omega)
      have HF2 : Hid (Fill w' w.heap.size fs.length fs k) := hF2
      clear hF2
      go_wp2
      exact ⟨⟨k + 1, by omega, by go_num, HF2.out.step hlt (Nat.le_refl _), (((hbel.trans (hb2.mono hbel.size)).setCell (Nat.le_refl _) _).setCell (Nat.le_refl _) _).setCell (Nat.le_refl _) _, by have := hb2.size; simp; omega⟩, by simp [intOf]; omega⟩
    · go_wp2
      go_ret
      have e : k = fs.length := by omega
      exact ⟨rfl, by obtain ⟨cur, h, _⟩ := HFill.out; exact ⟨cur, _, h⟩, by have := HFill.out; rw [e] at this; exact this.done, hbel⟩
set_option maxHeartbeats 1000000 in
theorem toDisk_any (a : Option Addr) (cap : Nat) (fs : List FileD) (c k cr fl : Int) (dn : Bool) (w : World) (hf : FilesIn w a fs) (hlen : fs.length ≤ 1048576) :
    Calls Tryz.prog 6 #[.agg #[.slice a fs.length cap, .int .i64 c, .int .i64 k, .int .i64 cr, .int .i64 fl, .bool dn]] w fun e w' =>
      ∃ g, e = .returned (.agg #[.slice (some ⟨g, 0, none⟩) fs.length fs.length, .int .i64 c, .int .i64 k, .int .i64 cr, .int .i64 fl, .bool dn]) ∧ w.heap.size ≤ g ∧ (∃ cur t, w'.heap[g]? = some (.cells cur t (0, 0))) ∧ FilesIn w' (some ⟨g, 0, none⟩) fs ∧ Below w.heap.size w w' := by
  have HF : Hid (FilesIn w a fs) := hf
  clear hf
  go_enter Tryz.func6, Tryz.ntmps6
  go_wp2_with fail
  refine (toFileS_any a cap fs _ (HF.out.later ((((Below.refl _ _).alloc (Nat.le_refl _) _).alloc (by simp) _).alloc (by simp; omega) _)) hlen).mono ?_
  rintro e w' ⟨rfl, hx1, hf1, hb1⟩
  have HX1 : Hid (∃ cur t, w'.heap[w.heap.size + 1 + 1 + 1]? = some (.cells cur t (0, 0))) := by show ∃ _, _; simpa using hx1
  clear hx1
  obtain ⟨hc, hz⟩ := bcell hb1
  have hf2 : FilesIn w' (some ⟨w.heap.size + 1 + 1 + 1, 0, none⟩) fs := by simpa using hf1
  have HF1 : Hid (FilesIn w' (some ⟨w.heap.size + 1 + 1 + 1, 0, none⟩) fs) := hf2
  clear hf2
  clear hf1
  have hb0 : Below w.heap.size w w' := ((((Below.refl _ _).alloc (Nat.le_refl _) _).alloc (by simp) _).alloc (by simp; omega) _).trans (hb1.mono (by simp; omega))
  have HB : Hid (Below w.heap.size w w') := hb0
  clear hb0 hb1
  go_wp2
  refine bodyPost_ret (v := .agg #[.slice (some ⟨w.heap.size + 1 + 1 + 1, 0, none⟩) fs.length fs.length, .int .i64 c, .int .i64 k, .int .i64 cr, .int .i64 fl, .bool dn]) (by simp [results, Tryz.results6, go_sem, hc]) rfl ⟨w.heap.size + 1 + 1 + 1, rfl, by omega, ?_, ?_, ?_⟩
  · obtain ⟨cu, tt, hx⟩ := HX1.out
    refine ⟨cu, tt, ?_⟩
    iterate 12 (refine (Below.heap_setCell _ _ _ _ (by first | omega | (simp; done) | (simp; omega))).trans ?_)
    exact hx
  · have h := HF1.out
    iterate 12 (refine FilesIn.setCell ?_ (by simp) _)
    exact h
  · have h := HB.out
    iterate 12 (refine Below.setCell ?_ (by first | (simp; done) | (simp; omega)) _)
    exact h
end Go.Proofs.YtboofidegpnkaaaGreatDoor
namespace Go.Proofs.YtboofidegpnkaaaGreatDoor
open Go.RowKit
set_option maxHeartbeats 400000 in
theorem eqFile_same (nm da : ByteArray) (sy : Int) (w : World) :
    Calls Tryz.prog 50 #[.agg #[.string nm, .string da, .int .i64 sy], .agg #[.string nm, .string da, .int .i64 sy]] w fun e w' => e = .returned (.bool true) ∧ Below w.heap.size w w' := by
  go_enter Tryz.func50, Tryz.ntmps50
  go_wp2
  go_ret
  exact ⟨rfl, ((Below.refl _ _).alloc (Nat.le_refl _) _).alloc (by simp) _⟩
set_option maxHeartbeats 1000000 in
theorem eqFileS_same (a a' : Option Addr) (cap cap' : Nat) (fs : List FileD) (w : World) (hf : FilesIn w a fs) (hf' : FilesIn w a' fs) (hlen : fs.length ≤ maxLen) :
    Calls Tryz.prog 27 #[.slice a fs.length cap, .slice a' fs.length cap'] w fun e w' => e = .returned (.bool true) ∧ Below w.heap.size w w' := by
  unfold maxLen at hlen
  have HF : Hid (FilesIn w a fs) := hf
  have HF' : Hid (FilesIn w a' fs) := hf'
  clear hf hf'
  go_enter Tryz.func27, Tryz.ntmps27
  go_wp2
  go_loopw [5] (fun i wr => ∃ k : Nat, k ≤ fs.length ∧ i = .int .i64 k ∧ Below w.heap.size w wr) (fun i _ => fs.length - (intOf i).toNat)
  case atStart => exact ⟨0, Nat.zero_le _, rfl, Below.refl _ _⟩
  case round =>
    obtain ⟨k, hk, rfl, hbel⟩ := hrel
    by_cases hlt : k < fs.length
    · obtain ⟨b, o, rfl, hb, c0, c1, c2⟩ := (HF.out.later hbel).at hlt
      obtain ⟨b', o', rfl, hb', c0', c1', c2'⟩ := (HF'.out.later hbel).at hlt
      have d0 := Later.cells c0
      have d1 := Later.cells c1
      have d2 := Later.cells c2
      have d0' := Later.cells c0'
      have d1' := Later.cells c1'
      have d2' := Later.cells c2'
      clear c0 c1 c2 c0' c1' c2'
      have hne := Later.there wr
      go_wp2_with fail
      refine wp_region_later (by kernel_rfl) (by kernel_rfl) ?_
      repeat (go_big_quiet_step (refine calls_later (eqFile_same _ _ _ _)))
      refine wpQuiet_nil ?_
      rintro _ ⟨x, rfl⟩
      go_wp2
      exact ⟨⟨k + 1, by omega, by go_num, hbel.trans (x.h.mono hbel.size)⟩, by simp [intOf]; omega⟩
    · go_wp2
      go_ret
      exact ⟨rfl, hbel⟩
set_option maxHeartbeats 1000000 in
theorem eqDisk_same (a a' : Option Addr) (cap cap' : Nat) (fs : List FileD) (c k cr fl : Int) (dn : Bool) (w : World) (hf : FilesIn w a fs) (hf' : FilesIn w a' fs) (hlen : fs.length ≤ maxLen) :
    Calls Tryz.prog 9 #[.agg #[.slice a fs.length cap, .int .i64 c, .int .i64 k, .int .i64 cr, .int .i64 fl, .bool dn], .agg #[.slice a' fs.length cap', .int .i64 c, .int .i64 k, .int .i64 cr, .int .i64 fl, .bool dn]] w
      fun e w' => e = .returned (.bool true) ∧ Below w.heap.size w w' := by
  have HF : Hid (FilesIn w a fs) := hf
  have HF' : Hid (FilesIn w a' fs) := hf'
  clear hf hf'
  go_enter Tryz.func9, Tryz.ntmps9
  go_wp2_with fail
  have hb0 := fun o1 o2 => ((Below.refl w.heap.size w).alloc (Nat.le_refl _) o1).alloc (by simp) o2
  refine (eqFileS_same a a' cap cap' fs _ (HF.out.later (hb0 _ _)) (HF'.out.later (hb0 _ _)) hlen).mono ?_
  rintro e w' ⟨rfl, hb1⟩
  obtain ⟨hc, _⟩ := bcell hb1
  have HB : Hid (Below w.heap.size w w') := (hb0 _ _).trans (hb1.mono (by simp; omega))
  clear hb0 hb1
  go_wp2
  go_ret
  exact ⟨rfl, HB.out⟩
end Go.Proofs.YtboofidegpnkaaaGreatDoor
