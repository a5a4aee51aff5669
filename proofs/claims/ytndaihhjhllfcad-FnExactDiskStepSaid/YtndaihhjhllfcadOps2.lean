import Derived.Test.YtndaihhjhllfcadProg
import Derived.Test.YtndaihhjhllfcadOps1
import Derived.Test.YtndaihhjhllfcadFind
import Derived.Test.YtndaihhjhllfcadBy
import Derived.Test.YtndaihhjhllfcadRest
namespace Go.Proofs.Ytndaihhjhllfcad
open Go.RowKit

/-- A drive whose files have got another row. -/
theorem DriveAt.turn {w w' : World} {B D : Nat} {fs fs' : List FileD} {c k cr fl : Int} {dn : Bool} {v v' : Value} (h : DriveAt w B D fs c k cr fl dn v) (hb : Blk w' D #[.int .i64 k, .int .i64 cr, .int .i64 fl, .bool dn, v', .int .i64 c] 73)
    (hr : w'.ownsRow B 61 3 v' fs'.length (flat fs')) (ha : ∀ g, v'.ownBlock = some g → g ≠ D) : DriveAt w' B D fs' c k cr fl dn v' := ⟨h.from', hb, hr, ha⟩

theorem row_set_apart {w : World} {B : Nat} {e : TypeId} {size : Nat} {v : Value} {n : Nat} {xs : List Value} (h : w.ownsRow B e size v n xs) {D : Nat} (hD : ∀ g, v.ownBlock = some g → g ≠ D) (o : Nat) (u : Value) : (w.setCell ⟨D, o, none⟩ u).ownsRow B e size v n xs := by
  obtain ⟨h1, h2⟩ := h
  refine ⟨h1, ?_⟩
  rcases h2 with h2 | ⟨g, cap, cur, hv, hB, hg, r⟩
  · exact Or.inl h2
  · have hne : g ≠ D := hD g (by rw [hv]; rfl)
    exact Or.inr ⟨g, cap, cur, hv, hB, (Below.heap_setCell w ⟨D, o, none⟩ u g hne).trans hg, r⟩

set_option maxRecDepth 100000 in
set_option maxHeartbeats 1000000 in
theorem remove_any (B D i : Nat) (fs : List FileD) (c k cr fl : Int) (dn : Bool) (v : Value) (w : World) (h : DriveAt w B D fs c k cr fl dn v) (hi : i < fs.length) (hlen : fs.length ≤ 1048576) :
    Calls Try.prog 46 #[.pointer (some ⟨D, 0, none⟩), .int .i64 i] w fun e w' =>
      e = .returned (.tuple #[]) ∧ ∃ v', DriveAt w' B D (fs.eraseIdx i) c k cr fl dn v' ∧ v'.ownBlock = v.ownBlock ∧ Keeps (fun k => k = D ∨ v.ownBlock = some k) w w' := by
  obtain ⟨g, cap, rfl, hgD, hBg⟩ := h.slice (by omega)
  have d4 := h.cell4
  have HD : Hid (DriveAt w B D fs c k cr fl dn (.slice (some ⟨g, 0, none⟩) fs.length cap)) := h
  have hw1 : IntKind.i64.wrap ((i : Int) + 1) = (i : Int) + 1 := by rw [IntKind.wrap_i64]; omega
  clear h
  go_enter Try.func46, Try.ntmps46
  go_wp2_with fail
  refine (delete_any B g cap i fs _ HD.out.row hi hlen).mono ?_
  rintro e w1 ⟨rfl, hrow, hk⟩
  have hblk := HD.out.blk.keeps hk (fun e => hgD e.symm)
  have e4 := hblk.cell 4
  have f4 := hblk.free 4
  simp only [List.getElem?_toArray, List.getElem?_cons_zero, List.getElem?_cons_succ] at e4
  have HR : Hid (w1.ownsRow B 61 3 (.slice (some ⟨g, 0, none⟩) (fs.length - 1) cap) (fs.length - 1) (flat (fs.eraseIdx i))) := hrow
  have HK : Hid (Keeps (fun k => k = g) w w1) := hk
  have HB : Hid (Blk w1 D #[.int .i64 k, .int .i64 cr, .int .i64 fl, .bool dn, .slice (some ⟨g, 0, none⟩) fs.length cap, .int .i64 c] 73) := hblk
  clear hrow hk hblk
  go_wp2
  go_end0
  refine ⟨rfl, .slice (some ⟨g, 0, none⟩) (fs.length - 1) cap, HD.out.turn ?_ ?_ (fun g' e => by simp [Value.ownBlock] at e; omega), rfl, ?_⟩
  · have := HB.out.set 4 (.slice (some ⟨g, 0, none⟩) (fs.length - 1) cap)
    simpa using this
  · have e : (fs.eraseIdx i).length = fs.length - 1 := by rw [List.length_eraseIdx, if_pos hi]
    rw [e]
    exact row_set_apart HR.out (fun g' e => by simp [Value.ownBlock] at e; omega) _ _
  · have hk2 : Keeps (fun k' => k' = D ∨ (Value.slice (some ⟨g, 0, none⟩) fs.length cap).ownBlock = some k') w w1 := HK.out.mono (fun k' e => Or.inr (by subst e; rfl))
    exact hk2.setCell (Or.inl rfl) _ _

theorem bytesOf_is {a : Option Addr} {cap : Nat} {fs : List FileD} (w : World) (hf : FilesIn w a fs) (hlen : fs.length ≤ maxLen) (hsum : sumLen fs ≤ 1000000000) :
    Calls Try.prog 36 #[.slice a fs.length cap] w fun e w' => e = .returned (.int .i64 (sumLen fs)) ∧ Below w.heap.size w w' := bytesOf_any a cap fs w hf hlen hsum

set_option maxRecDepth 100000 in
set_option maxHeartbeats 1000000 in
theorem appendTo_any (B D i : Nat) (fs : List FileD) (c k cr fl : Int) (dn : Bool) (v : Value) (x : ByteArray) (w : World) (h : DriveAt w B D fs c k cr fl dn v) (hi : i < fs.length) (hlen : fs.length ≤ 1048576) (hsum : (sumLen fs : Int) ≤ c) (hc : c ≤ 1000000000) :
    Calls Try.prog 42 #[.pointer (some ⟨D, 0, none⟩), .int .i64 i, .string x] w fun e w' =>
      ((c < sumLen fs + x.size ∧ e = .returned (errV 3) ∧ DriveAt w' B D fs c k cr fl dn v) ∨ (sumLen fs + x.size ≤ c ∧ e = .returned (errV 0) ∧ DriveAt w' B D (fs.set i ⟨fs[i].name, fs[i].data ++ x, fs[i].synced⟩) c k cr fl dn v)) ∧ Rest B w w' := by
  obtain ⟨g, cap, rfl, hgD, hBg⟩ := h.slice (by omega)
  obtain ⟨a', cap', ea, hfin⟩ := h.files
  have d4 := Later.cells h.cell4
  have d5 := Later.cells h.cell5
  have hne := Later.there w
  have HD : Hid (DriveAt w B D fs c k cr fl dn (.slice (some ⟨g, 0, none⟩) fs.length cap)) := h
  have HF : Hid (FilesIn w (some ⟨g, 0, none⟩) fs) := by
    simp only [Value.slice.injEq] at ea
    obtain ⟨rfl, _⟩ := ea
    exact hfin
  have hw1 : IntKind.i64.wrap (c - (sumLen fs : Int)) = c - (sumLen fs : Int) := by rw [IntKind.wrap_i64]; omega
  have HFx : Hid (∀ x : Later w, FilesIn x.w' (some ⟨g, 0, none⟩) fs) := fun x => HF.out.later x.h
  have HDx : Hid (∀ x : Later w, DriveAt x.w' B D fs c k cr fl dn (.slice (some ⟨g, 0, none⟩) fs.length cap)) := fun x => HD.out.later x.h
  have hml : fs.length ≤ maxLen := by simp [maxLen]; omega
  have hsl : sumLen fs ≤ 1000000000 := by omega
  clear h ea hfin
  by_cases hf : c - (sumLen fs : Int) < (x.size : Int)
  · go_enter Try.func42, Try.ntmps42
    go_wp2_with fail
    refine wp_region_later (by kernel_rfl) (by kernel_rfl) ?_
    repeat (go_big_quiet_step (first | (go_at_call 36; exact calls_later (bytesOf_any _ _ _ _ (HFx.out _) hml hsl))))
    refine wpQuiet_nil ?_
    rintro _ ⟨y, rfl⟩
    have HY : Hid (Below w.heap.size w y.w') := y.h
    have HZ : Hid (DriveAt y.w' B D fs c k cr fl dn (.slice (some ⟨g, 0, none⟩) fs.length cap)) := HDx.out y
    have hB : B ≤ w.heap.size := HD.out.size
    clear d4 d5 hne HDx HFx
    generalize y.w' = W at *
    clear y
    go_wp2
    go_ret
    exact ⟨Or.inl ⟨by omega, rfl, HZ.out⟩, Rest.of HY.out hB⟩
  · go_enter Try.func42, Try.ntmps42
    go_wp2_with fail
    refine wp_region_later (by kernel_rfl) (by kernel_rfl) ?_
    repeat (go_big_quiet_step (first | (go_at_call 36; exact calls_later (bytesOf_any _ _ _ _ (HFx.out _) hml hsl))))
    refine wpQuiet_nil ?_
    rintro _ ⟨y, rfl⟩
    have HY : Hid (Below w.heap.size w y.w') := y.h
    have HZ : Hid (DriveAt y.w' B D fs c k cr fl dn (.slice (some ⟨g, 0, none⟩) fs.length cap)) := HDx.out y
    have hB : B ≤ w.heap.size := HD.out.size
    have e4 := (HDx.out y).cell4
    clear d4 d5 hne HDx HFx
    generalize y.w' = W at *
    clear y
    obtain ⟨cur, _, hblk, hnc, hcm, hcs, hrows⟩ := files_of_row HZ.out.row
    have hr1 := (hrows i hi).2.1
    rw [Nat.zero_add] at hr1
    have hdl : fs[i].data.size ≤ sumLen fs := by
      have h1 := sumLen_take_succ fs i hi
      have h2 := sumLen_take_le fs (i + 1)
      omega
    have HW : Hid (Calls Try.prog 56 #[.pointer (some ⟨g, i * 3, none⟩), .string x] W fun e w' => e = .returned (.tuple #[]) ∧ w' = W.setCell ⟨g, i * 3 + 1, none⟩ (.string (fs[i].data ++ x))) := write_any g (i * 3) cur 61 fs[i].data x W hblk hr1 (by omega)
    have HP : Hid (DriveAt (W.setCell ⟨g, i * 3 + 1, none⟩ (.string (fs[i].data ++ x))) B D (fs.set i ⟨fs[i].name, fs[i].data ++ x, fs[i].synced⟩) c k cr fl dn (.slice (some ⟨g, 0, none⟩) fs.length cap)) :=
      HZ.out.put ((But.refl _ _).setCell _ _) (hblk.set _ _) (by simp [hcs]) (rows_put1 hi hrows _)
    have HB : Hid (Rest B w (W.setCell ⟨g, i * 3 + 1, none⟩ (.string (fs[i].data ++ x)))) := (Rest.of HY.out hB).set hblk (Or.inl rfl) (by omega) _
    clear hblk hrows hr1
    go_wp2_with fail
    refine HW.out.mono ?_
    rintro e w3 ⟨rfl, rfl⟩
    go_wp2
    go_ret
    exact ⟨Or.inr ⟨by omega, rfl, HP.out⟩, HB.out⟩
end Go.Proofs.Ytndaihhjhllfcad
