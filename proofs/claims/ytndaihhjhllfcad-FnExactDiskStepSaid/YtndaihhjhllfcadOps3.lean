import Derived.Test.YtndaihhjhllfcadProg
import Derived.Test.YtndaihhjhllfcadOps2
namespace Go.Proofs.Ytndaihhjhllfcad
open Go.RowKit

theorem row_from {w : World} {B : Nat} {e : TypeId} {size : Nat} {v : Value} {n : Nat} {xs : List Value} (h : w.ownsRow B e size v n xs) : ∀ g, v.ownBlock = some g → B ≤ g := by
  intro g hg
  rcases h.2 with ⟨rfl, _⟩ | ⟨g', cap, cur, rfl, hB, _⟩
  · simp [Value.ownBlock] at hg
  · simp [Value.ownBlock] at hg
    subst hg
    exact hB

/-- What a drive is after its files were handed to Insert and the answer was stored. -/
theorem DriveAt.inserted {w w1 : World} {B D i : Nat} {fs : List FileD} {f : FileD} {c k cr fl : Int} {dn : Bool} {v v' : Value} (h : DriveAt w B D fs c k cr fl dn v) (hi : i ≤ fs.length)
    (hr : w1.ownsRow B 61 3 v' (fs.length + 1) (flat (insL fs i f))) (hk : Keeps (fun k => v.ownBlock = some k) w w1) (hat : v'.ownBlock = v.ownBlock ∨ v'.ownBlock = some w.heap.size) :
    DriveAt (w1.setCell ⟨D, 4, none⟩ v') B D (insL fs i f) c k cr fl dn v' ∧ Rest B w (w1.setCell ⟨D, 4, none⟩ v') := by
  have hD : D < w.heap.size := lt_of_block h.blk
  have hap : ∀ g, v'.ownBlock = some g → g ≠ D := fun g hg => by
    rcases hat with e | e
    · exact h.apart g (by rw [← e]; exact hg)
    · rw [e] at hg; simp at hg; omega
  have hb := h.blk.keeps hk (fun e => h.apart D e rfl)
  refine ⟨⟨h.from', ?_, ?_, hap⟩, ?_⟩
  · have := hb.set 4 v'
    simpa using this
  · rw [insL_length fs i f hi]
    exact row_set_apart hr hap _ _
  · have h1 : Rest B w w1 := ⟨hk.below (fun g hg => row_from h.row g hg) h.size, KeepO.keeps hk (fun g hg => by
      obtain ⟨cur, hc⟩ := own_file h.row g hg
      exact ⟨cur, _, hc, Or.inl rfl⟩)⟩
    exact h1.set hb (Or.inr rfl) h.from' _

set_option maxRecDepth 100000 in
set_option maxHeartbeats 1000000 in
theorem create_any (B D : Nat) (fs : List FileD) (c k cr fl : Int) (dn : Bool) (v : Value) (nm : ByteArray) (w : World) (h : DriveAt w B D fs c k cr fl dn v) (hasc : Asc fs) (hlen : fs.length ≤ 1048576) :
    Calls Try.prog 40 #[.pointer (some ⟨D, 0, none⟩), .string nm] w fun e w' => ∃ i v', PosIs fs nm i ∧ Rest B w w' ∧
      ((hasB fs nm i = true ∧ e = .returned (errV 5) ∧ DriveAt w' B D fs c k cr fl dn v') ∨ (hasB fs nm i = false ∧ 1000 ≤ fs.length ∧ e = .returned (errV 3) ∧ DriveAt w' B D fs c k cr fl dn v') ∨
        (hasB fs nm i = false ∧ fs.length < 1000 ∧ e = .returned (errV 0) ∧ DriveAt w' B D (insL fs i ⟨nm, ByteArray.empty, 0⟩) c k cr fl dn v')) := by
  obtain ⟨a, cap, rfl, hfin⟩ := h.files
  have d4 := h.cell4
  have HD : Hid (DriveAt w B D fs c k cr fl dn (.slice a fs.length cap)) := h
  have HF : Hid (FilesIn w a fs) := hfin
  have HA : Hid (Asc fs) := hasc
  clear h hfin hasc
  go_enter Try.func40, Try.ntmps40
  go_wp2_with fail
  refine (findFile_any a cap fs nm _ HF.out HA.out hlen).mono ?_
  rintro e w1 ⟨i, hp, rfl, hb1⟩
  have HP : Hid (PosIs fs nm i) := hp
  have hile : i ≤ fs.length := hp.1
  have HD1 : Hid (DriveAt w1 B D fs c k cr fl dn (.slice a fs.length cap)) := HD.out.later hb1
  have HB1 : Hid (Rest B w w1) := Rest.of hb1 HD.out.size
  have e4 := HD1.out.cell4
  clear d4 hb1 hp
  cases hq : hasB fs nm i with
  | true =>
    have HQ : Hid (hasB fs nm i = true) := hq
    clear hq
    go_wp2
    go_ret
    exact ⟨i, _, HP.out, HB1.out, Or.inl ⟨HQ.out, rfl, HD1.out⟩⟩
  | false =>
    have HQ : Hid (hasB fs nm i = false) := hq
    clear hq
    by_cases hm : (1000 : Int) ≤ (fs.length : Int)
    · go_wp2
      go_ret
      exact ⟨i, _, HP.out, HB1.out, Or.inr (Or.inl ⟨HQ.out, by omega, rfl, HD1.out⟩)⟩
    · go_wp2_with fail
      have hD2 := HD1.out.later (bnew w1 (.cells #[.string nm, .string ByteArray.empty, .int .i64 0] 61))
      refine (insert_any B w1.heap.size i (.slice a fs.length cap) fs ⟨nm, ByteArray.empty, 0⟩ _ hD2.row (heap_alloc_new _ _) (fun e => by have := row_block_lt HD1.out.row _ e; omega) hile hlen hD2.size).mono ?_
      rintro e w2 ⟨v', rfl, hrow, hk, hat⟩
      obtain ⟨hdr, hbel⟩ := hD2.inserted hile hrow hk hat
      have hblk := hD2.blk.keeps hk (fun e => hD2.apart D e rfl)
      obtain ⟨a', cap', rfl⟩ := row_form hrow
      have g4 := hblk.cell 4
      have f4 := hblk.free 4
      simp only [List.getElem?_toArray, List.getElem?_cons_zero, List.getElem?_cons_succ] at g4
      have HR : Hid (DriveAt (w2.setCell ⟨D, 4, none⟩ (.slice a' (fs.length + 1) cap')) B D (insL fs i ⟨nm, ByteArray.empty, 0⟩) c k cr fl dn (.slice a' (fs.length + 1) cap')) := hdr
      have HS : Hid (Rest B w (w2.setCell ⟨D, 4, none⟩ (.slice a' (fs.length + 1) cap'))) := (HB1.out.on (bnew _ _) HD1.out.size).trans hbel
      clear hdr hbel hblk hrow hk hat hD2 e4
      go_wp2
      go_ret
      exact ⟨i, _, HP.out, HS.out, Or.inr (Or.inr ⟨HQ.out, by omega, rfl, HR.out⟩)⟩
end Go.Proofs.Ytndaihhjhllfcad
