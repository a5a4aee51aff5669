import Derived.Test.YtboofidegpnkaaaProg
import Derived.Test.YtboofidegpnkaaaJ07Errs
import Derived.Test.YtboofidegpnkaaaJ06Cells
import Derived.Test.YtboofidegpnkaaaJ03Cmp
import Derived.Deep.RegionLaw
namespace Go.Proofs.Ytboofidegpnkaaa
open Go.RowKit

def tDown : ByteArray := ⟨#[116, 104, 101, 32, 100, 105, 115, 107, 32, 105, 115, 32, 100, 111, 119, 110]⟩
def tFailed : ByteArray := ⟨#[116, 104, 101, 32, 111, 112, 101, 114, 97, 116, 105, 111, 110, 32, 102, 97, 105, 108, 101, 100]⟩
def tFull : ByteArray := ⟨#[116, 104, 101, 32, 100, 105, 115, 107, 32, 105, 115, 32, 102, 117, 108, 108]⟩
def tMissing : ByteArray := ⟨#[116, 104, 101, 32, 102, 105, 108, 101, 32, 105, 115, 32, 109, 105, 115, 115, 105, 110, 103]⟩
def tExists : ByteArray := ⟨#[116, 104, 101, 32, 102, 105, 108, 101, 32, 101, 120, 105, 115, 116, 115]⟩
def tBad : ByteArray := ⟨#[116, 104, 101, 32, 111, 112, 101, 114, 97, 116, 105, 111, 110, 32, 105, 115, 32, 105, 109, 112, 114, 111, 112, 101, 114]⟩

/-- The error of a code. -/
def errV (code : Nat) : Value := match code with
  | 0 => .nilIface
  | 1 => .iface 78 (.string tDown)
  | 2 => .iface 78 (.string tFailed)
  | 3 => .iface 78 (.string tFull)
  | 4 => .iface 78 (.string tMissing)
  | 5 => .iface 78 (.string tExists)
  | _ => .iface 78 (.string tBad)

set_option maxHeartbeats 400000 in
theorem code_ok (w : World) : Calls Try.prog 24 #[.nilIface] w fun e w' => e = .returned (.int .i64 0) ∧ w' = w := by
  go_enter Try.func24, Try.ntmps24
  go_wp2
  go_ret
  exact ⟨rfl, rfl⟩

set_option maxHeartbeats 400000 in
theorem code_Down (w : World) : Calls Try.prog 24 #[.iface 78 (.string tDown)] w fun e w' => e = .returned (.int .i64 1) ∧ w' = w := by
  go_enter Try.func24, Try.ntmps24
  go_wp2_with fail
  refine (is_any _ _ true (by kernel_rfl) _).mono ?_
  rintro e w' ⟨rfl, rfl⟩
  go_wp2
  go_ret
  exact ⟨rfl, rfl⟩

set_option maxHeartbeats 400000 in
theorem code_Failed (w : World) : Calls Try.prog 24 #[.iface 78 (.string tFailed)] w fun e w' => e = .returned (.int .i64 2) ∧ w' = w := by
  go_enter Try.func24, Try.ntmps24
  go_wp2_with fail
  refine (is_any _ _ false (by kernel_rfl) _).mono ?_
  rintro e w' ⟨rfl, rfl⟩
  go_wp2_with fail
  refine (is_any _ _ true (by kernel_rfl) _).mono ?_
  rintro e w' ⟨rfl, rfl⟩
  go_wp2
  go_ret
  exact ⟨rfl, rfl⟩

set_option maxHeartbeats 400000 in
theorem code_Full (w : World) : Calls Try.prog 24 #[.iface 78 (.string tFull)] w fun e w' => e = .returned (.int .i64 3) ∧ w' = w := by
  go_enter Try.func24, Try.ntmps24
  go_wp2_with fail
  refine (is_any _ _ false (by kernel_rfl) _).mono ?_
  rintro e w' ⟨rfl, rfl⟩
  go_wp2_with fail
  refine (is_any _ _ false (by kernel_rfl) _).mono ?_
  rintro e w' ⟨rfl, rfl⟩
  go_wp2_with fail
  refine (is_any _ _ true (by kernel_rfl) _).mono ?_
  rintro e w' ⟨rfl, rfl⟩
  go_wp2
  go_ret
  exact ⟨rfl, rfl⟩

set_option maxHeartbeats 400000 in
theorem code_Missing (w : World) : Calls Try.prog 24 #[.iface 78 (.string tMissing)] w fun e w' => e = .returned (.int .i64 4) ∧ w' = w := by
  go_enter Try.func24, Try.ntmps24
  go_wp2_with fail
  refine (is_any _ _ false (by kernel_rfl) _).mono ?_
  rintro e w' ⟨rfl, rfl⟩
  go_wp2_with fail
  refine (is_any _ _ false (by kernel_rfl) _).mono ?_
  rintro e w' ⟨rfl, rfl⟩
  go_wp2_with fail
  refine (is_any _ _ false (by kernel_rfl) _).mono ?_
  rintro e w' ⟨rfl, rfl⟩
  go_wp2_with fail
  refine (is_any _ _ true (by kernel_rfl) _).mono ?_
  rintro e w' ⟨rfl, rfl⟩
  go_wp2
  go_ret
  exact ⟨rfl, rfl⟩

set_option maxHeartbeats 400000 in
theorem code_Exists (w : World) : Calls Try.prog 24 #[.iface 78 (.string tExists)] w fun e w' => e = .returned (.int .i64 5) ∧ w' = w := by
  go_enter Try.func24, Try.ntmps24
  go_wp2_with fail
  refine (is_any _ _ false (by kernel_rfl) _).mono ?_
  rintro e w' ⟨rfl, rfl⟩
  go_wp2_with fail
  refine (is_any _ _ false (by kernel_rfl) _).mono ?_
  rintro e w' ⟨rfl, rfl⟩
  go_wp2_with fail
  refine (is_any _ _ false (by kernel_rfl) _).mono ?_
  rintro e w' ⟨rfl, rfl⟩
  go_wp2_with fail
  refine (is_any _ _ false (by kernel_rfl) _).mono ?_
  rintro e w' ⟨rfl, rfl⟩
  go_wp2_with fail
  refine (is_any _ _ true (by kernel_rfl) _).mono ?_
  rintro e w' ⟨rfl, rfl⟩
  go_wp2
  go_ret
  exact ⟨rfl, rfl⟩

set_option maxHeartbeats 400000 in
theorem code_Bad (w : World) : Calls Try.prog 24 #[.iface 78 (.string tBad)] w fun e w' => e = .returned (.int .i64 6) ∧ w' = w := by
  go_enter Try.func24, Try.ntmps24
  go_wp2_with fail
  refine (is_any _ _ false (by kernel_rfl) _).mono ?_
  rintro e w' ⟨rfl, rfl⟩
  go_wp2_with fail
  refine (is_any _ _ false (by kernel_rfl) _).mono ?_
  rintro e w' ⟨rfl, rfl⟩
  go_wp2_with fail
  refine (is_any _ _ false (by kernel_rfl) _).mono ?_
  rintro e w' ⟨rfl, rfl⟩
  go_wp2_with fail
  refine (is_any _ _ false (by kernel_rfl) _).mono ?_
  rintro e w' ⟨rfl, rfl⟩
  go_wp2_with fail
  refine (is_any _ _ false (by kernel_rfl) _).mono ?_
  rintro e w' ⟨rfl, rfl⟩
  go_wp2
  go_ret
  exact ⟨rfl, rfl⟩

theorem code_any (code : Nat) (h : code ≤ 6) (w : World) : Calls Try.prog 24 #[errV code] w fun e w' => e = .returned (.int .i64 code) ∧ w' = w := by
  match code, h with
  | 0, _ => exact code_ok w
  | 1, _ => exact code_Down w
  | 2, _ => exact code_Failed w
  | 3, _ => exact code_Full w
  | 4, _ => exact code_Missing w
  | 5, _ => exact code_Exists w
  | 6, _ => exact code_Bad w
end Go.Proofs.Ytboofidegpnkaaa

namespace Go.Proofs.Ytboofidegpnkaaa
open Go.RowKit

/-- What the meter answers: the code, the count behind it, whether the disk is down. -/
def chargeR (k cr fl : Int) (dn : Bool) : Nat × Int × Bool :=
  if dn = true then (1, k, true) else if k = 1000000000000000 then (2, k, false) else if cr ≠ 0 ∧ k + 1 = cr then (1, k + 1, true) else if fl ≠ 0 ∧ k + 1 = fl then (2, k + 1, false) else (0, k + 1, false)

set_option maxRecDepth 100000 in
set_option maxHeartbeats 1000000 in
theorem charge_any (D : Nat) (t : TypeId) (v4 v5 : Value) (k cr fl : Int) (dn : Bool) (w : World) (hb : Blk w D #[.int .i64 k, .int .i64 cr, .int .i64 fl, .bool dn, v4, v5] t) (hk0 : 0 ≤ k) (hk1 : k ≤ 1000000000000000) :
    Calls Try.prog 39 #[.pointer (some ⟨D, 0, none⟩)] w fun e w' => e = .returned (errV (chargeR k cr fl dn).1) ∧ But D w w' ∧ Blk w' D #[.int .i64 (chargeR k cr fl dn).2.1, .int .i64 cr, .int .i64 fl, .bool (chargeR k cr fl dn).2.2, v4, v5] t := by
  have c0 := hb.cell 0
  have c3 := hb.cell 3
  simp only [List.getElem?_toArray, List.getElem?_cons_zero, List.getElem?_cons_succ] at c0 c3
  have f0 := hb.free 0
  cases dn with
  | true =>
    have HB : Hid (Blk w D #[.int .i64 k, .int .i64 cr, .int .i64 fl, .bool true, v4, v5] t) := hb
    clear hb
    go_enter Try.func39, Try.ntmps39
    go_wp2
    go_ret
    exact ⟨rfl, But.refl _ _, HB.out⟩
  | false =>
    by_cases hm : k = 1000000000000000
    · subst hm
      have HB : Hid (Blk w D #[.int .i64 1000000000000000, .int .i64 cr, .int .i64 fl, .bool false, v4, v5] t) := hb
      clear hb
      go_enter Try.func39, Try.ntmps39
      go_wp2
      go_ret
      exact ⟨rfl, But.refl _ _, HB.out⟩
    · have hb1 := hb.set 0 (.int .i64 (k + 1))
      have HB : Hid (Blk w D #[.int .i64 k, .int .i64 cr, .int .i64 fl, .bool false, v4, v5] t) := hb
      have HB1 : Hid (Blk (w.setCell ⟨D, 0, none⟩ (.int .i64 (k + 1))) D #[.int .i64 (k + 1), .int .i64 cr, .int .i64 fl, .bool false, v4, v5] t) := by show Blk _ _ _ _; simpa using hb1
      clear hb hb1
      have d0 := HB1.out.cell 0
      have d1 := HB1.out.cell 1
      have d2 := HB1.out.cell 2
      have d3 := HB1.out.cell 3
      simp only [List.getElem?_toArray, List.getElem?_cons_zero, List.getElem?_cons_succ] at d0 d1 d2 d3
      have e3 := HB1.out.free 3
      have HBut : Hid (But D w (w.setCell ⟨D, 0, none⟩ (.int .i64 (k + 1)))) := (But.refl _ _).setCell _ _
      have hw1 : IntKind.i64.wrap (k + 1) = k + 1 := by rw [IntKind.wrap_i64]; omega
      by_cases hc : cr = 0
      · subst hc
        by_cases hf : fl = 0
        · subst hf
          have E : Hid (chargeR k 0 0 false = (0, k + 1, false)) := by show _ = _; simp [chargeR, hm]
          go_enter Try.func39, Try.ntmps39
          go_wp2_with fail
          go_quiet (fail)
          go_wp2_with fail
          go_quiet (fail)
          go_wp2
          go_ret
          rw [E.out]
          first | exact ⟨rfl, HBut.out.trans (But.of (below_drewN (below_drewN (Below.refl _ _) _) _)), HB1.out.later (below_drewN (below_drewN (Below.refl _ _) _) _)⟩ | exact ⟨rfl, HBut.out.trans (But.of (below_drewN (Below.refl _ _) _)), HB1.out.later (below_drewN (Below.refl _ _) _)⟩
        · have hf1 : decide (fl = 0) = false := by simpa using hf
          by_cases hf2 : k + 1 = fl
          · subst hf2
            have E : Hid (chargeR k 0 (k + 1) false = (2, k + 1, false)) := by show _ = _; simp [chargeR, hm, hf]
            go_enter Try.func39, Try.ntmps39
            go_wp2_with fail
            go_quiet (fail)
            go_wp2_with fail
            go_quiet (fail)
            go_wp2
            go_ret
            rw [E.out]
            first | exact ⟨rfl, HBut.out.trans (But.of (below_drewN (below_drewN (Below.refl _ _) _) _)), HB1.out.later (below_drewN (below_drewN (Below.refl _ _) _) _)⟩ | exact ⟨rfl, HBut.out.trans (But.of (below_drewN (Below.refl _ _) _)), HB1.out.later (below_drewN (Below.refl _ _) _)⟩
          · have hf3 : (k + 1 == fl) = false := by simpa using hf2
            have E : Hid (chargeR k 0 fl false = (0, k + 1, false)) := by show _ = _; simp [chargeR, hm, hf, hf2]
            go_enter Try.func39, Try.ntmps39
            go_wp2_with fail
            go_quiet (fail)
            go_wp2_with fail
            go_quiet (fail)
            go_wp2
            go_ret
            rw [E.out]
            first | exact ⟨rfl, HBut.out.trans (But.of (below_drewN (below_drewN (Below.refl _ _) _) _)), HB1.out.later (below_drewN (below_drewN (Below.refl _ _) _) _)⟩ | exact ⟨rfl, HBut.out.trans (But.of (below_drewN (Below.refl _ _) _)), HB1.out.later (below_drewN (Below.refl _ _) _)⟩
      · have hc1 : decide (cr = 0) = false := by simpa using hc
        by_cases hc2 : k + 1 = cr
        · subst hc2
          have E : Hid (chargeR k (k + 1) fl false = (1, k + 1, true)) := by show _ = _; simp [chargeR, hm, hc]
          go_enter Try.func39, Try.ntmps39
          go_wp2_with fail
          go_quiet (fail)
          go_wp2
          go_ret
          rw [E.out]
          refine ⟨rfl, (HBut.out.trans (But.of (below_drewN (Below.refl _ _) _))).setCell _ _, ?_⟩
          have := (HB1.out.later (below_drewN (Below.refl _ _) nq)).set 3 (.bool true)
          simpa using this
        · have hc3 : (k + 1 == cr) = false := by simpa using hc2
          by_cases hf : fl = 0
          · subst hf
            have E : Hid (chargeR k cr 0 false = (0, k + 1, false)) := by show _ = _; simp [chargeR, hm, hc, hc2]
            go_enter Try.func39, Try.ntmps39
            go_wp2_with fail
            go_quiet (fail)
            go_wp2_with fail
            go_quiet (fail)
            go_wp2
            go_ret
            rw [E.out]
            first | exact ⟨rfl, HBut.out.trans (But.of (below_drewN (below_drewN (Below.refl _ _) _) _)), HB1.out.later (below_drewN (below_drewN (Below.refl _ _) _) _)⟩ | exact ⟨rfl, HBut.out.trans (But.of (below_drewN (Below.refl _ _) _)), HB1.out.later (below_drewN (Below.refl _ _) _)⟩
          · have hf1 : decide (fl = 0) = false := by simpa using hf
            by_cases hf2 : k + 1 = fl
            · subst hf2
              have E : Hid (chargeR k cr (k + 1) false = (2, k + 1, false)) := by show _ = _; simp [chargeR, hm, hc, hc2, hf]
              go_enter Try.func39, Try.ntmps39
              go_wp2_with fail
              go_quiet (fail)
              go_wp2_with fail
              go_quiet (fail)
              go_wp2
              go_ret
              rw [E.out]
              first | exact ⟨rfl, HBut.out.trans (But.of (below_drewN (below_drewN (Below.refl _ _) _) _)), HB1.out.later (below_drewN (below_drewN (Below.refl _ _) _) _)⟩ | exact ⟨rfl, HBut.out.trans (But.of (below_drewN (Below.refl _ _) _)), HB1.out.later (below_drewN (Below.refl _ _) _)⟩
            · have hf3 : (k + 1 == fl) = false := by simpa using hf2
              have E : Hid (chargeR k cr fl false = (0, k + 1, false)) := by show _ = _; simp [chargeR, hm, hc, hc2, hf, hf2]
              go_enter Try.func39, Try.ntmps39
              go_wp2_with fail
              go_quiet (fail)
              go_wp2_with fail
              go_quiet (fail)
              go_wp2
              go_ret
              rw [E.out]
              first | exact ⟨rfl, HBut.out.trans (But.of (below_drewN (below_drewN (Below.refl _ _) _) _)), HB1.out.later (below_drewN (below_drewN (Below.refl _ _) _) _)⟩ | exact ⟨rfl, HBut.out.trans (But.of (below_drewN (Below.refl _ _) _)), HB1.out.later (below_drewN (Below.refl _ _) _)⟩
end Go.Proofs.Ytboofidegpnkaaa

namespace Go.Proofs.Ytboofidegpnkaaa
open Go.RowKit

structure OpD where
  kind : Int
  name : ByteArray
  to : ByteArray
  data : ByteArray
  size : Int

def opB (op : OpD) : Bool := btwB op.kind 1 6 && nameB op.name && (decide (op.kind ≠ 5) || nameB op.to)

/-- What an operation does to the files: its code, the files behind it. -/
def doR (fs : List FileD) (c : Int) (op : OpD) : Nat × List FileD :=
  let i := posOf op.name fs
  if op.kind = 1 then (if hasB fs op.name i = true then (5, fs) else if 1000 ≤ fs.length then (3, fs) else (0, insL fs i ⟨op.name, ByteArray.empty, 0⟩))
  else match fs[i]? with
    | none => (4, fs)
    | some f =>
      if hasB fs op.name i = false then (4, fs)
      else if op.kind = 2 then (if c < sumLen fs + op.data.size then (3, fs) else (0, fs.set i ⟨f.name, f.data ++ op.data, f.synced⟩))
      else if op.kind = 3 then (0, fs.set i ⟨f.name, f.data, f.data.size⟩)
      else if op.kind = 4 then (if btwB op.size 0 f.data.size = true then (0, fs.set i ⟨f.name, f.data.extract 0 op.size.toNat, op.size⟩) else (6, fs))
      else if op.kind = 5 then (0, withL (fs.eraseIdx i) ⟨op.to, f.data, f.synced⟩)
      else (0, fs.eraseIdx i)

theorem isFileName_is {s : ByteArray} {b : Bool} (h : nameB s = b) (w : World) (hs : s.size ≤ maxLen) : Calls Try.prog 37 #[.string s] w fun e w' => e = .returned (.bool b) ∧ w' = w := h ▸ isFileName_any s w hs

/-- The five cells of an operation lie at the head of block b. -/
def OpAt (w : World) (b : Nat) (op : OpD) (t : TypeId) : Prop := Blk w b #[.int .i64 op.kind, .string op.name, .string op.to, .string op.data, .int .i64 op.size] t

theorem OpAt.cells {w : World} {b : Nat} {op : OpD} {t : TypeId} (h : OpAt w b op t) : w.cell? ⟨b, 0, none⟩ = some (.int .i64 op.kind) ∧ w.cell? ⟨b, 1, none⟩ = some (.string op.name) ∧ w.cell? ⟨b, 2, none⟩ = some (.string op.to) ∧ w.cell? ⟨b, 3, none⟩ = some (.string op.data) ∧ w.cell? ⟨b, 4, none⟩ = some (.int .i64 op.size) := by
  refine ⟨?_, ?_, ?_, ?_, ?_⟩ <;> rw [Blk.cell h] <;> rfl

end Go.Proofs.Ytboofidegpnkaaa

namespace Go.Proofs.Ytboofidegpnkaaa
open Go.RowKit

set_option maxHeartbeats 4000000 in
set_option maxRecDepth 1000000 in
theorem delete_any (B g cap i : Nat) (fs : List FileD) (w : World) (hown : w.ownsRow B 61 3 (.slice (some ⟨g, 0, none⟩) fs.length cap) fs.length (flat fs)) (hi : i < fs.length) (hlen : fs.length ≤ 1048576) :
    Calls Try.prog 57 #[.slice (some ⟨g, 0, none⟩) fs.length cap, .int .i64 i, .int .i64 ((i : Int) + 1)] w fun e w' =>
      e = .returned (.slice (some ⟨g, 0, none⟩) (fs.length - 1) cap) ∧ w'.ownsRow B 61 3 (.slice (some ⟨g, 0, none⟩) (fs.length - 1) cap) (fs.length - 1) (flat (fs.eraseIdx i)) ∧ Keeps (fun k => k = g) w w' := by
  obtain ⟨cur, hB, _, hblk, hnc, hcm, hsz, hcs⟩ := cells_of_row hown
  obtain ⟨i0, hi0, hz0, hz1, hz2⟩ := info_filex
  obtain ⟨n, hn⟩ : ∃ n, fs.length = n := ⟨_, rfl⟩
  obtain ⟨news, hnews⟩ : ∃ news, news = flat (fs.drop (i + 1)) := ⟨_, rfl⟩
  have hlenN : news.length = (n - (i + 1)) * 3 := by rw [hnews, flat_length, List.length_drop, hn]
  have hfl : (flat fs).length = n * 3 := by rw [flat_length, hn]
  have hthere : ∀ j, j < n * 3 → (w.cell? ⟨g, j, none⟩).isSome = true := fun j hj => by rw [hcs j _ (List.getElem?_eq_getElem (by omega))]; rfl
  obtain ⟨A, hA, hsrc⟩ : ∃ A : Addr, (if cap = i + 1 then some (⟨g, 0, none⟩ : Addr) else some ⟨g, (i + 1) * 3, none⟩) = some A ∧ Hid (∀ j u, news[j]? = some u → w.drew.cell? (A.add j) = some u) := by
    by_cases h : cap = i + 1
    · refine ⟨⟨g, 0, none⟩, by simp [h], fun j u hu => ?_⟩
      have h0 : news.length = 0 := by rw [hlenN]; omega
      rw [List.length_eq_zero_iff.1 h0] at hu
      simp at hu
    · refine ⟨⟨g, (i + 1) * 3, none⟩, by simp [h], fun j u hu => ?_⟩
      rw [hnews, flat_drop_get fs (i + 1) j (by omega)] at hu
      rw [Addr.add_lit]
      exact hcs _ _ hu
  have s1 : Hid (news.length = (n - (i + 1)) * 3) := hlenN
  have s2 : Hid (∀ u ∈ news, u.oneCell' = true) := by rw [hnews]; exact flat_one_cell _
  have s3 : Hid (∀ j, j < news.length → (w.drew.cell? ⟨g, 0 + i * 3 + j, none⟩).isSome = true ∧ w.drew.frozen? ⟨g, 0 + i * 3 + j, none⟩ = false) := by
    intro j hj
    rw [hlenN] at hj
    exact ⟨hthere _ (by omega), hblk.free _⟩
  obtain ⟨W1, hW1⟩ : ∃ W1, W1 = w.drew.setCells g (0 + i * 3) news := ⟨_, rfl⟩
  have hblk1 : Blk w.drew g cur 61 := hblk
  obtain ⟨cur1, hb1, hs1⟩ := Blk.setCells news (0 + i * 3) hblk1
  rw [← hW1] at hb1
  have hcl : ∀ ty c, (Builtin.clear_ #[29] ty #[.slice (some ⟨g, (n - 1) * 3, none⟩) 1 c]).run Try.prog W1 = .ok (.tuple #[]) (W1.setCells g ((n - 1) * 3) zeroF) := fun ty c =>
    run_clear_one W1 _ ty _ i0 Try.underlying29 hi0 hz0 g _ c (fun j hj => by obtain ⟨v, hv⟩ := hb1.there (j := (n - 1) * 3 + j) (by rw [hs1, hsz]; omega); rw [hv]; rfl) (fun j _ => hb1.free _)
  obtain ⟨cur2, hb2, hs2⟩ := Blk.setCells zeroF ((n - 1) * 3) hb1
  have HK : Hid (Keeps (fun k => k = g) w (W1.setCells g ((n - 1) * 3) zeroF)) := by
    show Keeps _ _ _
    rw [hW1]
    exact Keeps.setCells (S := fun k => k = g) rfl _ _ (Keeps.setCells (S := fun k => k = g) rfl _ _ (Keeps.refl _ _).drew)
  have HO : Hid ((W1.setCells g ((n - 1) * 3) zeroF).ownsRow B 61 3 (.slice (some ⟨g, 0, none⟩) (n - 1) cap) (n - 1) (flat (fs.eraseIdx i))) := by
    refine row_of_cells hB hb2 (by omega) hcm (by rw [hs2, hs1, hsz]) (by rw [flat_length, List.length_eraseIdx, if_pos hi, hn]) fun j u hu => ?_
    have hjl := (List.getElem?_eq_some_iff.1 hu).1
    rw [flat_length, List.length_eraseIdx, if_pos hi, hn] at hjl
    rw [World.cell?_setCells_out g zeroF ((n - 1) * 3) W1 _ (fun _ _ => Or.inl (by show j < _; omega)), hW1]
    rw [erase_flat] at hu
    have htl : (flat (fs.take i)).length = i * 3 := by rw [flat_length, List.length_take]; omega
    by_cases hji : j < i * 3
    · rw [World.cell?_setCells_out g news (0 + i * 3) _ _ (fun _ _ => Or.inl (by show j < _; omega))]
      rw [List.getElem?_append_left (by omega), flat_take_get fs i j (by omega) hji] at hu
      exact hcs j u hu
    · rw [List.getElem?_append_right (by omega), htl, ← hnews] at hu
      have hin := World.cell?_setCells_in g news (0 + i * 3) w.drew (fun k hk => (s3.out k hk).1) (j - i * 3) (by omega)
      rw [show 0 + i * 3 + (j - i * 3) = j by omega] at hin
      rw [hin, ← hu, List.getElem?_eq_getElem]
  have hic : i ≤ cap := by omega
  have hjc : i + 1 ≤ cap := by omega
  have hp0 : (0 : Int) ≤ (i : Int) + 1 := by omega
  have hp1 : (i : Int) + 1 ≤ (n : Int) := by omega
  have hp2 : ((i : Int) + 1).toNat = i + 1 := by omega
  have hp3 : ¬ ((i : Int) = (i : Int) + 1) := by omega
  have hcm2 : (cap : Int) ≤ 9223372036854775807 := by unfold maxLen at hcm; omega
  have e1 : i + (n - (i + 1)) = n - 1 := by omega
  have e2 : n - (n - 1) = 1 := by omega
  have hW : Hid (W1 = w.drew.setCells g (0 + i * 3) news) := hW1
  rw [hn]
  clear hW1 hown hblk hblk1 hb1 hb2 hcs hthere hnews hfl hlenN hs1 hs2 hsz
  go_enter Try.func57, Try.ntmps57
  go_wp2_with fail
  go_region_law (refine step_append_room rfl (.tmp 22) (.tmp 25) 29 rfl 61 i0 3 Try.underlying29 hi0 hz1 g 0 i cap (by simp [Act.eval, Act.put]) A (n - (i + 1)) (cap - (i + 1)) news (by simp [Act.eval, Act.put]) s1.out hsrc.out s2.out (by omega) s3.out ?_; rw [← hW.out])
  go_wp2
  go_ret
  exact ⟨rfl, HO.out, HK.out⟩
end Go.Proofs.Ytboofidegpnkaaa

