import Derived.Test.YtndaihhjhllfcadProg
import Derived.Test.YtndaihhjhllfcadClone
import Derived.Deep.RegionHeld3
namespace Go.Proofs.Ytndaihhjhllfcad
open Go.RowKit

theorem row_block_lt {w : World} {B : Nat} {e : TypeId} {size : Nat} {v : Value} {n : Nat} {xs : List Value} (h : w.ownsRow B e size v n xs) : ∀ g, v.ownBlock = some g → g < w.heap.size := by
  intro g hg
  rcases h.2 with ⟨rfl, _⟩ | ⟨g', cap, cur, rfl, _, hb, _⟩
  · simp [Value.ownBlock] at hg
  · simp [Value.ownBlock] at hg
    subst hg
    exact lt_of_block hb

theorem row_form {w : World} {B : Nat} {e : TypeId} {size : Nat} {v : Value} {n : Nat} {xs : List Value} (h : w.ownsRow B e size v n xs) : ∃ a cap, v = .slice a n cap := by
  rcases h.2 with ⟨rfl, rfl⟩ | ⟨g', cap, cur, rfl, _⟩
  · exact ⟨none, 0, rfl⟩
  · exact ⟨_, cap, rfl⟩

theorem row_mono {w : World} {B B' : Nat} {e : TypeId} {size : Nat} {v : Value} {n : Nat} {xs : List Value} (h : w.ownsRow B e size v n xs) (hB : B' ≤ B) : w.ownsRow B' e size v n xs := by
  refine ⟨h.1, ?_⟩
  rcases h.2 with h2 | ⟨g, cap, cur, hv, hb, r⟩
  · exact Or.inl h2
  · exact Or.inr ⟨g, cap, cur, hv, Nat.le_trans hB hb, r⟩

/-- A drive: its six cells at the head of block D; the files in a row of their own. -/
structure DriveAt (w : World) (B D : Nat) (fs : List FileD) (c k cr fl : Int) (dn : Bool) (v : Value) : Prop where
  from' : B ≤ D
  blk : Blk w D #[.int .i64 k, .int .i64 cr, .int .i64 fl, .bool dn, v, .int .i64 c] 73
  row : w.ownsRow B 61 3 v fs.length (flat fs)
  apart : ∀ g, v.ownBlock = some g → g ≠ D

theorem DriveAt.later {w w' : World} {B D : Nat} {fs : List FileD} {c k cr fl : Int} {dn : Bool} {v : Value} (h : DriveAt w B D fs c k cr fl dn v) (hb : Below w.heap.size w w') : DriveAt w' B D fs c k cr fl dn v :=
  ⟨h.from', h.blk.later hb, row_later h.row hb, h.apart⟩

set_option maxRecDepth 100000 in
set_option maxHeartbeats 2000000 in
theorem mount_any (a : Option Addr) (cap : Nat) (fs : List FileD) (c k cr fl : Int) (dn : Bool) (w : World) (hf : FilesIn w a fs) (hlen : fs.length ≤ 1048576) :
    Calls Try.prog 21 #[.agg #[.slice a fs.length cap, .int .i64 c, .int .i64 k, .int .i64 cr, .int .i64 fl, .bool dn]] w fun e w' =>
      ∃ D v, e = .returned (.pointer (some ⟨D, 0, none⟩)) ∧ DriveAt w' w.heap.size D fs c k cr fl dn v ∧ Below w.heap.size w w' := by
  have HF : Hid (FilesIn w a fs) := hf
  clear hf
  obtain ⟨k0, k1, k2, k3, k4, k5⟩ := BoxAt.new w (.slice a fs.length cap) (.int .i64 c) (.int .i64 k) (.int .i64 cr) (.int .i64 fl) (.bool dn) 31
  have HK : Hid (∀ w', Below (w.alloc (.cells #[.slice a fs.length cap, .int .i64 c, .int .i64 k, .int .i64 cr, .int .i64 fl, .bool dn] 31)).heap.size (w.alloc (.cells #[.slice a fs.length cap, .int .i64 c, .int .i64 k, .int .i64 cr, .int .i64 fl, .bool dn] 31)) w' → w'.cell? ⟨w.heap.size, 0, none⟩ = some (.slice a fs.length cap) ∧ w'.cell? ⟨w.heap.size, 1, none⟩ = some (.int .i64 c) ∧ w'.cell? ⟨w.heap.size, 2, none⟩ = some (.int .i64 k) ∧ w'.cell? ⟨w.heap.size, 3, none⟩ = some (.int .i64 cr) ∧ w'.cell? ⟨w.heap.size, 4, none⟩ = some (.int .i64 fl) ∧ w'.cell? ⟨w.heap.size, 5, none⟩ = some (.bool dn)) := fun w' h =>
    (BoxAt.new w (.slice a fs.length cap) (.int .i64 c) (.int .i64 k) (.int .i64 cr) (.int .i64 fl) (.bool dn) 31).later h
  go_enter Try.func21, Try.ntmps21
  go_wp2_with fail
  go_region_held3 (fun w' => w'.cell? ⟨w.heap.size, 0, none⟩ = some (.slice a fs.length cap) ∧ w'.cell? ⟨w.heap.size, 1, none⟩ = some (.int .i64 c) ∧ w'.cell? ⟨w.heap.size, 2, none⟩ = some (.int .i64 k) ∧ w'.cell? ⟨w.heap.size, 3, none⟩ = some (.int .i64 cr) ∧ w'.cell? ⟨w.heap.size, 4, none⟩ = some (.int .i64 fl) ∧ w'.cell? ⟨w.heap.size, 5, none⟩ = some (.bool dn))
    (first | (exact HK.out _ (bto (bto (Below.refl _ _).drew hb7) (bnew _ _))) | (exact HK.out _ (bto (Below.refl _ _).drew hb7)) | (exact HK.out _ (Below.refl _ _).drew))
    (first
    | (go_at_call 38; refine (clone_any a cap fs _ ((HF.out.later (bnew _ _)).later (Below.refl _ _).drew) hlen).mono ?_; rintro e w7 ⟨v, rfl, hrow, hb7⟩; obtain ⟨a7, cap7, rfl⟩ := row_form hrow))
  go_wp2
  go_ret
  have hb8 := hb7.size
  have hlt := row_block_lt hrow
  refine ⟨w7.heap.size, _, rfl, ⟨?_, heap_alloc_new _ _, row_mono (row_later hrow (bnew _ _)) (by simp), ?_⟩, bto (bto (bnew _ _) (bto (Below.refl _ _).drew hb7)) (bnew _ _)⟩
  · simp at hb8; omega
  · intro g hg; have := hlt g hg; omega

set_option maxHeartbeats 400000 in
theorem sync_any (b o : Nat) (cur : Array Value) (t : TypeId) (d : ByteArray) (w : World) (hb : Blk w b cur t) (h1 : cur[o + 1]? = some (.string d)) (h2 : o + 2 < cur.size) :
    Calls Try.prog 43 #[.pointer (some ⟨b, o, none⟩)] w fun e w' => e = .returned (.tuple #[]) ∧ w' = w.setCell ⟨b, o + 2, none⟩ (.int .i64 d.size) := by
  have c1 := hb.cell (o + 1)
  rw [h1] at c1
  obtain ⟨v2, c2⟩ := hb.there h2
  have f2 := hb.free (o + 2)
  clear hb h1 h2
  go_enter Try.func43, Try.ntmps43
  go_wp2
  go_end0
  exact ⟨rfl, rfl⟩

set_option maxRecDepth 100000 in
set_option maxHeartbeats 1000000 in
theorem unmount_any (D : Nat) (t : TypeId) (a : Option Addr) (n cap : Nat) (c k cr fl : Int) (dn : Bool) (w : World) (hb : Blk w D #[.int .i64 k, .int .i64 cr, .int .i64 fl, .bool dn, .slice a n cap, .int .i64 c] t) :
    Calls Try.prog 23 #[.pointer (some ⟨D, 0, none⟩)] w fun e w' => e = .returned (.agg #[.slice a n cap, .int .i64 c, .int .i64 k, .int .i64 cr, .int .i64 fl, .bool dn]) ∧ Below w.heap.size w w' := by
  have hD : D < w.heap.size := lt_of_block hb
  have hb1 := hb.later (bnew w (.cells #[.slice none 0 0, .int .i64 0, .int .i64 0, .int .i64 0, .int .i64 0, .bool false] 31))
  have c0 := hb1.cell 0
  have c1 := hb1.cell 1
  have c2 := hb1.cell 2
  have c3 := hb1.cell 3
  have c4 := hb1.cell 4
  have c5 := hb1.cell 5
  simp only [List.getElem?_toArray, List.getElem?_cons_zero, List.getElem?_cons_succ] at c0 c1 c2 c3 c4 c5
  clear hb hb1
  go_enter Try.func23, Try.ntmps23
  go_wp2_with fail
  go_region
  go_wp2
  exact bodyPost_ret (v := .agg #[.slice a n cap, .int .i64 c, .int .i64 k, .int .i64 cr, .int .i64 fl, .bool dn]) (by simp [results, Try.results23, go_sem]) rfl ⟨rfl, (bnew _ _).drew⟩
end Go.Proofs.Ytndaihhjhllfcad
