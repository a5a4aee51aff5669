import Derived.Test.YtboofidegpnkaaaJ06Cells
import Derived.Test.YtboofidegpnkaaaProg
import Derived.Test.YtboofidegpnkaaaJ10Ops1
import Derived.Test.YtboofidegpnkaaaJ04Find
import Derived.Test.YtboofidegpnkaaaJ09By
namespace Go.Proofs.Ytboofidegpnkaaa
open Go.RowKit

/-- Every block that is no file's and no drive's lies as it lay. -/
def KeepO (w w' : World) : Prop := ∀ b cur t, Blk w b cur t → t ≠ 61 → t ≠ 73 → Blk w' b cur t
theorem KeepO.trans {a b c : World} (h : KeepO a b) (k : KeepO b c) : KeepO a c := fun x cur t hx h1 h2 => k x cur t (h x cur t hx h1 h2) h1 h2
theorem KeepO.of {w w' : World} (h : Below w.heap.size w w') : KeepO w w' := fun _ _ _ hx _ _ => hx.later h
theorem KeepO.keeps {S : Nat → Prop} {w w' : World} (h : Keeps S w w') (hS : ∀ k, S k → ∃ cur t, Blk w k cur t ∧ (t = 61 ∨ t = 73)) : KeepO w w' := fun x cur t hx h1 h2 => hx.keeps h (fun hs => by
  obtain ⟨cur', t', hb, ht⟩ := hS x hs
  have e := (show w.heap[x]? = _ from hx).symm.trans hb
  simp only [Option.some.injEq, Obj.cells.injEq] at e
  rcases ht with ht | ht
  · exact h1 (e.2.1.trans ht)
  · exact h2 (e.2.1.trans ht))
theorem KeepO.set {w : World} {g o : Nat} {cur : Array Value} {t : TypeId} (hb : Blk w g cur t) (ht : t = 61 ∨ t = 73) (v : Value) : KeepO w (w.setCell ⟨g, o, none⟩ v) :=
  KeepO.keeps (S := fun k => k = g) ((Keeps.refl (fun k => k = g) w).setCell (g := g) rfl o v) (fun k e => ⟨cur, t, by rw [e]; exact hb, ht⟩)

theorem own_file {w : World} {B : Nat} {v : Value} {n : Nat} {xs : List Value} (h : w.ownsRow B 61 3 v n xs) : ∀ g, v.ownBlock = some g → ∃ cur, Blk w g cur 61 := by
  intro g hg
  rcases h.2 with ⟨rfl, _⟩ | ⟨g', cap, cur, rfl, _, hb, _⟩
  · simp [Value.ownBlock] at hg
  · simp [Value.ownBlock] at hg
    subst hg
    exact ⟨cur, hb⟩

/-- What lay below B, and what is no file's and no drive's. -/
structure Rest (B : Nat) (w w' : World) : Prop where
  below : Below B w w'
  other : KeepO w w'
theorem Rest.trans {B : Nat} {a b c : World} (h : Rest B a b) (k : Rest B b c) : Rest B a c := ⟨h.below.trans k.below, h.other.trans k.other⟩
theorem Rest.of {B : Nat} {w w' : World} (h : Below w.heap.size w w') (hB : B ≤ w.heap.size) : Rest B w w' := ⟨h.mono hB, KeepO.of h⟩
theorem Rest.on {B : Nat} {a w w' : World} (h : Rest B a w) (k : Below w.heap.size w w') (hB : B ≤ w.heap.size) : Rest B a w' := h.trans (Rest.of k hB)
theorem Rest.set {B g o : Nat} {a w : World} {cur : Array Value} {t : TypeId} (h : Rest B a w) (hb : Blk w g cur t) (ht : t = 61 ∨ t = 73) (hg : B ≤ g) (v : Value) : Rest B a (w.setCell ⟨g, o, none⟩ v) :=
  ⟨h.below.setCell (by show B ≤ g; exact hg) _, h.other.trans (KeepO.set hb ht v)⟩
theorem Rest.but {B g : Nat} {a w w' : World} {cur : Array Value} {t : TypeId} (h : Rest B a w) (k : But g w w') (hb : Blk w g cur t) (ht : t = 61 ∨ t = 73) (hg : B ≤ g) (hB : B ≤ w.heap.size) : Rest B a w' :=
  ⟨h.below.trans (k.below hg hB), h.other.trans (KeepO.keeps (Keeps.but k) (fun j e => ⟨cur, t, by rw [e]; exact hb, ht⟩))⟩
theorem Rest.charge {B D : Nat} {fs : List FileD} {c k cr fl : Int} {dn : Bool} {v : Value} {w w1 : World} {o : Obj} (h : DriveAt w B D fs c k cr fl dn v) (hB : B ≤ w.heap.size) (hbut : But D (w.alloc o) w1) : Rest B w w1 :=
  (Rest.of (bnew w o) hB).but hbut (h.later (bnew w o)).blk (Or.inr rfl) h.from' (by simp; omega)
end Go.Proofs.Ytboofidegpnkaaa

namespace Go.Proofs.Ytboofidegpnkaaa
open Go.RowKit

/-- A drive whose files have got another row. -/
theorem DriveAt.turn {w w' : World} {B D : Nat} {fs fs' : List FileD} {c k cr fl : Int} {dn : Bool} {v v' : Value} (h : DriveAt w B D fs c k cr fl dn v) (hb : Blk w' D #[.int .i64 k, .int .i64 cr, .int .i64 fl, .bool dn, v', .int .i64 c] 73)
    (hr : w'.ownsRow B 61 3 v' fs'.length (flat fs')) (ha : ∀ g, v'.ownBlock = some g → g ≠ D) : DriveAt w' B D fs' c k cr fl dn v' := ⟨h.from', hb, hr, ha⟩

theorem row_set_apart {w : World} {B : Nat} {e : TypeId} {size : Nat} {v : Value} {n : Nat} {xs : List Value} (h : w.ownsRow B e size v n xs) {D : Nat} (hD : ∀ g, v.ownBlock = some g → g ≠ D) (o : Nat) (u : Value) : (w.setCell ⟨D, o, none⟩ u).ownsRow B e size v n xs := by
  obtain ⟨h1, h2⟩ := h
  refine ⟨h1, ?_⟩
  rcases h2 with h2 | ⟨g, cap, cur, hv, hB, hg, r⟩
  · exact Or.inl h2
  · have hne : g ≠ D := hD g (by rw [hv]; rfl)
    exact Or.inr ⟨g, cap, cur, hv, hB, (Below.heap_setCell w ⟨D, o, none⟩ u g hne).trans hg, r⟩

set_option maxRecDepth 100000 in
set_option maxHeartbeats 1000000 in
theorem remove_any (B D i : Nat) (fs : List FileD) (c k cr fl : Int) (dn : Bool) (v : Value) (w : World) (h : DriveAt w B D fs c k cr fl dn v) (hi : i < fs.length) (hlen : fs.length ≤ 1048576) :
    Calls Try.prog 46 #[.pointer (some ⟨D, 0, none⟩), .int .i64 i] w fun e w' =>
      e = .returned (.tuple #[]) ∧ ∃ v', DriveAt w' B D (fs.eraseIdx i) c k cr fl dn v' ∧ v'.ownBlock = v.ownBlock ∧ Keeps (fun k => k = D ∨ v.ownBlock = some k) w w' := by
  obtain ⟨g, cap, rfl, hgD, hBg⟩ := h.slice (by omega)
  have d4 := h.cell4
  have HD : Hid (DriveAt w B D fs c k cr fl dn (.slice (some ⟨g, 0, none⟩) fs.length cap)) := h
  have hw1 : IntKind.i64.wrap ((i : Int) + 1) = (i : Int) + 1 := by rw [IntKind.wrap_i64]; omega
  clear h
  go_enter Try.func46, Try.ntmps46
  go_wp2_with fail
  refine (delete_any B g cap i fs _ HD.out.row hi hlen).mono ?_
  rintro e w1 ⟨rfl, hrow, hk⟩
  have hblk := HD.out.blk.keeps hk (fun e => hgD e.symm)
  have e4 := hblk.cell 4
  have f4 := hblk.free 4
  simp only [List.getElem?_toArray, List.getElem?_cons_zero, List.getElem?_cons_succ] at e4
  have HR : Hid (w1.ownsRow B 61 3 (.slice (some ⟨g, 0, none⟩) (fs.length - 1) cap) (fs.length - 1) (flat (fs.eraseIdx i))) := hrow
  have HK : Hid (Keeps (fun k => k = g) w w1) := hk
  have HB : Hid (Blk w1 D #[.int .i64 k, .int .i64 cr, .int .i64 fl, .bool dn, .slice (some ⟨g, 0, none⟩) fs.length cap, .int .i64 c] 73) := hblk
  clear hrow hk hblk
  go_wp2
  go_end0
  refine ⟨rfl, .slice (some ⟨g, 0, none⟩) (fs.length - 1) cap, HD.out.turn ?_ ?_ (fun g' e => by simp [Value.ownBlock] at e; omega), rfl, ?_⟩
  · have := HB.out.set 4 (.slice (some ⟨g, 0, none⟩) (fs.length - 1) cap)
    simpa using this
  · have e : (fs.eraseIdx i).length = fs.length - 1 := by rw [List.length_eraseIdx, if_pos hi]
    rw [e]
    exact row_set_apart HR.out (fun g' e => by simp [Value.ownBlock] at e; omega) _ _
  · have hk2 : Keeps (fun k' => k' = D ∨ (Value.slice (some ⟨g, 0, none⟩) fs.length cap).ownBlock = some k') w w1 := HK.out.mono (fun k' e => Or.inr (by subst e; rfl))
    exact hk2.setCell (Or.inl rfl) _ _

theorem bytesOf_is {a : Option Addr} {cap : Nat} {fs : List FileD} (w : World) (hf : FilesIn w a fs) (hlen : fs.length ≤ maxLen) (hsum : sumLen fs ≤ 1000000000) :
    Calls Try.prog 36 #[.slice a fs.length cap] w fun e w' => e = .returned (.int .i64 (sumLen fs)) ∧ Below w.heap.size w w' := bytesOf_any a cap fs w hf hlen hsum

set_option maxRecDepth 100000 in
set_option maxHeartbeats 1000000 in
theorem appendTo_any (B D i : Nat) (fs : List FileD) (c k cr fl : Int) (dn : Bool) (v : Value) (x : ByteArray) (w : World) (h : DriveAt w B D fs c k cr fl dn v) (hi : i < fs.length) (hlen : fs.length ≤ 1048576) (hsum : (sumLen fs : Int) ≤ c) (hc : c ≤ 1000000000) :
    Calls Try.prog 42 #[.pointer (some ⟨D, 0, none⟩), .int .i64 i, .string x] w fun e w' =>
      ((c < sumLen fs + x.size ∧ e = .returned (errV 3) ∧ DriveAt w' B D fs c k cr fl dn v) ∨ (sumLen fs + x.size ≤ c ∧ e = .returned (errV 0) ∧ DriveAt w' B D (fs.set i ⟨fs[i].name, fs[i].data ++ x, fs[i].synced⟩) c k cr fl dn v)) ∧ Rest B w w' := by
  obtain ⟨g, cap, rfl, hgD, hBg⟩ := h.slice (by omega)
  obtain ⟨a', cap', ea, hfin⟩ := h.files
  have d4 := Later.cells h.cell4
  have d5 := Later.cells h.cell5
  have hne := Later.there w
  have HD : Hid (DriveAt w B D fs c k cr fl dn (.slice (some ⟨g, 0, none⟩) fs.length cap)) := h
  have HF : Hid (FilesIn w (some ⟨g, 0, none⟩) fs) := by
    simp only [Value.slice.injEq] at ea
    obtain ⟨rfl, _⟩ := ea
    exact hfin
  have hw1 : IntKind.i64.wrap (c - (sumLen fs : Int)) = c - (sumLen fs : Int) := by rw [IntKind.wrap_i64]; omega
  have HFx : Hid (∀ x : Later w, FilesIn x.w' (some ⟨g, 0, none⟩) fs) := fun x => HF.out.later x.h
  have HDx : Hid (∀ x : Later w, DriveAt x.w' B D fs c k cr fl dn (.slice (some ⟨g, 0, none⟩) fs.length cap)) := fun x => HD.out.later x.h
  have hml : fs.length ≤ maxLen := by simp [maxLen]; omega
  have hsl : sumLen fs ≤ 1000000000 := by omega
  clear h ea hfin
  by_cases hf : c - (sumLen fs : Int) < (x.size : Int)
  · go_enter Try.func42, Try.ntmps42
    go_wp2_with fail
    refine wp_region_later (by kernel_rfl) (by kernel_rfl) ?_
    repeat (go_big_quiet_step (first | (go_at_call 36; exact calls_later (bytesOf_any _ _ _ _ (HFx.out _) hml hsl))))
    refine wpQuiet_nil ?_
    rintro _ ⟨y, rfl⟩
    have HY : Hid (Below w.heap.size w y.w') := y.h
    have HZ : Hid (DriveAt y.w' B D fs c k cr fl dn (.slice (some ⟨g, 0, none⟩) fs.length cap)) := HDx.out y
    have hB : B ≤ w.heap.size := HD.out.size
    clear d4 d5 hne HDx HFx
    generalize y.w' = W at *
    clear y
    go_wp2
    go_ret
    exact ⟨Or.inl ⟨by omega, rfl, HZ.out⟩, Rest.of HY.out hB⟩
  · go_enter Try.func42, Try.ntmps42
    go_wp2_with fail
    refine wp_region_later (by kernel_rfl) (by kernel_rfl) ?_
    repeat (go_big_quiet_step (first | (go_at_call 36; exact calls_later (bytesOf_any _ _ _ _ (HFx.out _) hml hsl))))
    refine wpQuiet_nil ?_
    rintro _ ⟨y, rfl⟩
    have HY : Hid (Below w.heap.size w y.w') := y.h
    have HZ : Hid (DriveAt y.w' B D fs c k cr fl dn (.slice (some ⟨g, 0, none⟩) fs.length cap)) := HDx.out y
    have hB : B ≤ w.heap.size := HD.out.size
    have e4 := (HDx.out y).cell4
    clear d4 d5 hne HDx HFx
    generalize y.w' = W at *
    clear y
    obtain ⟨cur, _, hblk, hnc, hcm, hcs, hrows⟩ := files_of_row HZ.out.row
    have hr1 := (hrows i hi).2.1
    rw [Nat.zero_add] at hr1
    have hdl : fs[i].data.size ≤ sumLen fs := by
      have h1 := sumLen_take_succ fs i hi
      have h2 := sumLen_take_le fs (i + 1)
      omega
    have HW : Hid (Calls Try.prog 56 #[.pointer (some ⟨g, i * 3, none⟩), .string x] W fun e w' => e = .returned (.tuple #[]) ∧ w' = W.setCell ⟨g, i * 3 + 1, none⟩ (.string (fs[i].data ++ x))) := write_any g (i * 3) cur 61 fs[i].data x W hblk hr1 (by omega)
    have HP : Hid (DriveAt (W.setCell ⟨g, i * 3 + 1, none⟩ (.string (fs[i].data ++ x))) B D (fs.set i ⟨fs[i].name, fs[i].data ++ x, fs[i].synced⟩) c k cr fl dn (.slice (some ⟨g, 0, none⟩) fs.length cap)) :=
      HZ.out.put ((But.refl _ _).setCell _ _) (hblk.set _ _) (by simp [hcs]) (rows_put1 hi hrows _)
    have HB : Hid (Rest B w (W.setCell ⟨g, i * 3 + 1, none⟩ (.string (fs[i].data ++ x)))) := (Rest.of HY.out hB).set hblk (Or.inl rfl) (by omega) _
    clear hblk hrows hr1
    go_wp2_with fail
    refine HW.out.mono ?_
    rintro e w3 ⟨rfl, rfl⟩
    go_wp2
    go_ret
    exact ⟨Or.inr ⟨by omega, rfl, HP.out⟩, HB.out⟩
end Go.Proofs.Ytboofidegpnkaaa

namespace Go.Proofs.Ytboofidegpnkaaa
open Go.RowKit

theorem row_from {w : World} {B : Nat} {e : TypeId} {size : Nat} {v : Value} {n : Nat} {xs : List Value} (h : w.ownsRow B e size v n xs) : ∀ g, v.ownBlock = some g → B ≤ g := by
  intro g hg
  rcases h.2 with ⟨rfl, _⟩ | ⟨g', cap, cur, rfl, hB, _⟩
  · simp [Value.ownBlock] at hg
  · simp [Value.ownBlock] at hg
    subst hg
    exact hB

/-- What a drive is after its files were handed to Insert and the answer was stored. -/
theorem DriveAt.inserted {w w1 : World} {B D i : Nat} {fs : List FileD} {f : FileD} {c k cr fl : Int} {dn : Bool} {v v' : Value} (h : DriveAt w B D fs c k cr fl dn v) (hi : i ≤ fs.length)
    (hr : w1.ownsRow B 61 3 v' (fs.length + 1) (flat (insL fs i f))) (hk : Keeps (fun k => v.ownBlock = some k) w w1) (hat : v'.ownBlock = v.ownBlock ∨ v'.ownBlock = some w.heap.size) :
    DriveAt (w1.setCell ⟨D, 4, none⟩ v') B D (insL fs i f) c k cr fl dn v' ∧ Rest B w (w1.setCell ⟨D, 4, none⟩ v') := by
  have hD : D < w.heap.size := lt_of_block h.blk
  have hap : ∀ g, v'.ownBlock = some g → g ≠ D := fun g hg => by
    rcases hat with e | e
    · exact h.apart g (by rw [← e]; exact hg)
    · rw [e] at hg; simp at hg; omega
  have hb := h.blk.keeps hk (fun e => h.apart D e rfl)
  refine ⟨⟨h.from', ?_, ?_, hap⟩, ?_⟩
  · have := hb.set 4 v'
    simpa using this
  · rw [insL_length fs i f hi]
    exact row_set_apart hr hap _ _
  · have h1 : Rest B w w1 := ⟨hk.below (fun g hg => row_from h.row g hg) h.size, KeepO.keeps hk (fun g hg => by
      obtain ⟨cur, hc⟩ := own_file h.row g hg
      exact ⟨cur, _, hc, Or.inl rfl⟩)⟩
    exact h1.set hb (Or.inr rfl) h.from' _

set_option maxRecDepth 100000 in
set_option maxHeartbeats 1000000 in
theorem create_any (B D : Nat) (fs : List FileD) (c k cr fl : Int) (dn : Bool) (v : Value) (nm : ByteArray) (w : World) (h : DriveAt w B D fs c k cr fl dn v) (hasc : Asc fs) (hlen : fs.length ≤ 1048576) :
    Calls Try.prog 40 #[.pointer (some ⟨D, 0, none⟩), .string nm] w fun e w' => ∃ i v', PosIs fs nm i ∧ Rest B w w' ∧
      ((hasB fs nm i = true ∧ e = .returned (errV 5) ∧ DriveAt w' B D fs c k cr fl dn v') ∨ (hasB fs nm i = false ∧ 1000 ≤ fs.length ∧ e = .returned (errV 3) ∧ DriveAt w' B D fs c k cr fl dn v') ∨
        (hasB fs nm i = false ∧ fs.length < 1000 ∧ e = .returned (errV 0) ∧ DriveAt w' B D (insL fs i ⟨nm, ByteArray.empty, 0⟩) c k cr fl dn v')) := by
  obtain ⟨a, cap, rfl, hfin⟩ := h.files
  have d4 := h.cell4
  have HD : Hid (DriveAt w B D fs c k cr fl dn (.slice a fs.length cap)) := h
  have HF : Hid (FilesIn w a fs) := hfin
  have HA : Hid (Asc fs) := hasc
  clear h hfin hasc
  go_enter Try.func40, Try.ntmps40
  go_wp2_with fail
  refine (findFile_any a cap fs nm _ HF.out HA.out hlen).mono ?_
  rintro e w1 ⟨i, hp, rfl, hb1⟩
  have HP : Hid (PosIs fs nm i) := hp
  have hile : i ≤ fs.length := hp.1
  have HD1 : Hid (DriveAt w1 B D fs c k cr fl dn (.slice a fs.length cap)) := HD.out.later hb1
  have HB1 : Hid (Rest B w w1) := Rest.of hb1 HD.out.size
  have e4 := HD1.out.cell4
  clear d4 hb1 hp
  cases hq : hasB fs nm i with
  | true =>
    have HQ : Hid (hasB fs nm i = true) := hq
    clear hq
    go_wp2
    go_ret
    exact ⟨i, _, HP.out, HB1.out, Or.inl ⟨HQ.out, rfl, HD1.out⟩⟩
  | false =>
    have HQ : Hid (hasB fs nm i = false) := hq
    clear hq
    by_cases hm : (1000 : Int) ≤ (fs.length : Int)
    · go_wp2
      go_ret
      exact ⟨i, _, HP.out, HB1.out, Or.inr (Or.inl ⟨HQ.out, by omega, rfl, HD1.out⟩)⟩
    · go_wp2_with fail
      have hD2 := HD1.out.later (bnew w1 (.cells #[.string nm, .string ByteArray.empty, .int .i64 0] 61))
      refine (insert_any B w1.heap.size i (.slice a fs.length cap) fs ⟨nm, ByteArray.empty, 0⟩ _ hD2.row (heap_alloc_new _ _) (fun e => by have := row_block_lt HD1.out.row _ e; omega) hile hlen hD2.size).mono ?_
      rintro e w2 ⟨v', rfl, hrow, hk, hat⟩
      obtain ⟨hdr, hbel⟩ := hD2.inserted hile hrow hk hat
      have hblk := hD2.blk.keeps hk (fun e => hD2.apart D e rfl)
      obtain ⟨a', cap', rfl⟩ := row_form hrow
      have g4 := hblk.cell 4
      have f4 := hblk.free 4
      simp only [List.getElem?_toArray, List.getElem?_cons_zero, List.getElem?_cons_succ] at g4
      have HR : Hid (DriveAt (w2.setCell ⟨D, 4, none⟩ (.slice a' (fs.length + 1) cap')) B D (insL fs i ⟨nm, ByteArray.empty, 0⟩) c k cr fl dn (.slice a' (fs.length + 1) cap')) := hdr
      have HS : Hid (Rest B w (w2.setCell ⟨D, 4, none⟩ (.slice a' (fs.length + 1) cap'))) := (HB1.out.on (bnew _ _) HD1.out.size).trans hbel
      clear hdr hbel hblk hrow hk hat hD2 e4
      go_wp2
      go_ret
      exact ⟨i, _, HP.out, HS.out, Or.inr (Or.inr ⟨HQ.out, by omega, rfl, HR.out⟩)⟩
end Go.Proofs.Ytboofidegpnkaaa

