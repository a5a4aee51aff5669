import Derived.Test.YtgnppdghjlnlhaaGreatDoorJ02Shelf
import Derived.Test.YtgnppdghjlnlhaaGreatDoorJ21MarkT
import Derived.Test.YtgnppdghjlnlhaaGreatDoorJ04Clone
import Derived.Lib.LaidTab
import Derived.Lib.AppendIntMem
import Derived.Test.YtgnppdghjlnlhaaGreatDoorJ30WLog
import Derived.Test.YtgnppdghjlnlhaaGreatDoorJ09Dv
import Derived.Test.YtgnppdghjlnlhaaGreatDoorProg
import Derived.Deep.RegionHeld3
import Derived.Deep.Cut
import Derived.Laws.MakeOwn
import Derived.Test.YtgnppdghjlnlhaaGreatDoorJ29Win
namespace Go.Proofs.YtgnppdghjlnlhaaGreatDoor
open Go.RowKit
def PowTab (w : World) : Prop := Lib.TabIs Tryz.prog w "internal/strconv.uint64pow10" .u64 Lib.pow10Tab
theorem PowTab.later {w w' : World} (h : PowTab w) (hb : Below w.heap.size w w') : PowTab w' := by
  unfold PowTab Lib.TabIs World.var? at h ⊢
  cases hg : Tryz.prog.globalNamed "internal/strconv.uint64pow10" with
  | none => rw [hg] at h; cases h
  | some g =>
    rw [hg] at h
    simp only [Option.bind_some] at h ⊢
    have hlt : g < w.heap.size := by
      rcases Nat.lt_or_ge g w.heap.size with h' | h'
      · exact h'
      · rw [Array.getElem?_eq_none h'] at h; cases h
    rw [hb.block g hlt]
    exact h
theorem segN_of (n : Nat) (h : n < 1000000) : (⟨#[119, 97, 108, 45]⟩ : ByteArray) ++ (⟨(Lib.itoa ((1000000 + n : Nat) : Int)).toArray⟩ : ByteArray).extract 1 7 = segN n := by
  rw [itoa_seg n h]
  apply ByteArray.ext
  simp [segN, segD]
set_option maxRecDepth 100000 in
set_option maxHeartbeats 1000000 in
theorem implSeg_any (n : Int) (w : World) (htab : PowTab w) :
    Calls Tryz.prog 68 #[.int .i64 n] w fun e w' => e = .returned (.string (segS n)) ∧ Below w.heap.size w w' := by
  by_cases h : 1 ≤ n ∧ n ≤ 999999
  · obtain ⟨N, rfl⟩ := Int.eq_ofNat_of_zero_le (show 0 ≤ n by omega)
    have E : Hid (segS N = segN N) := if_pos h
    have hN0 : 1 ≤ N := by omega
    have hN1 : N ≤ 999999 := by omega
    have HI : Hid (Calls Tryz.prog 95 #[.int .i64 (1000000 + (N : Int))] w fun e w' => e = .returned (.string ⟨(Lib.itoa ((1000000 + N : Nat) : Int)).toArray⟩) ∧ Below w.heap.size w w') :=
      (Tryz.strconv_Itoa ((1000000 + N : Nat) : Int) (by omega) (by omega) w htab).mono (by
        rintro e w' ⟨rfl, k, os, rfl⟩
        exact ⟨rfl, Lib.below_grow _ _ (Nat.le_refl _) _ _⟩)
    have HX : Hid ((⟨#[119, 97, 108, 45]⟩ : ByteArray) ++ (⟨(Lib.itoa ((1000000 + N : Nat) : Int)).toArray⟩ : ByteArray).extract 1 7 = segN N) := segN_of N (by omega)
    have hz : (⟨(Lib.itoa ((1000000 + N : Nat) : Int)).toArray⟩ : ByteArray).size = 7 := by
      rw [itoa_seg N (by omega)]; simp [segD, ByteArray.size]
    generalize (⟨(Lib.itoa ((1000000 + N : Nat) : Int)).toArray⟩ : ByteArray) = X at *
    clear h htab
    go_enter Tryz.func68, Tryz.ntmps68
    go_wp2_with fail
    refine HI.out.mono ?_
    rintro e w1 ⟨rfl, hb1⟩
    have HB : Hid (Below w.heap.size w w1) := hb1
    clear hb1
    go_wp2
    go_ret
    refine ⟨?_, HB.out⟩
    rw [E.out, ← HX.out]
    rfl
  · have E : Hid (segS n = ByteArray.empty) := if_neg h
    by_cases h1 : n < 1
    · go_enter Tryz.func68, Tryz.ntmps68
      go_wp2
      go_ret
      exact ⟨by rw [E.out]; rfl, Below.refl _ _⟩
    · have h2 : 999999 < n := by omega
      clear h
      go_enter Tryz.func68, Tryz.ntmps68
      go_wp2
      go_ret
      exact ⟨by rw [E.out]; rfl, Below.refl _ _⟩
end Go.Proofs.YtgnppdghjlnlhaaGreatDoor
namespace Go.Proofs.YtgnppdghjlnlhaaGreatDoor
open Go.RowKit
theorem okByte_dig (k : Nat) (h : k < 10) : okByte (48 + UInt8.ofNat k) = true := by
  rcases (show k = 0 ∨ k = 1 ∨ k = 2 ∨ k = 3 ∨ k = 4 ∨ k = 5 ∨ k = 6 ∨ k = 7 ∨ k = 8 ∨ k = 9 by omega) with rfl | rfl | rfl | rfl | rfl | rfl | rfl | rfl | rfl | rfl <;> decide
theorem okBytes_seg (n : Nat) : ∀ i, okBytes (segD n i) = true
  | 0 => rfl
  | i + 1 => by
    have h1 := okBytes_seg n i
    simp only [okBytes, segD, List.all_cons, Bool.and_eq_true] at h1 ⊢
    exact ⟨okByte_dig _ (by omega), h1⟩
theorem segS_is (n : Int) (h1 : 1 ≤ n) (h2 : n ≤ 999999) : segS n = segN n.toNat := if_pos ⟨h1, h2⟩
theorem nameB_seg (n : Int) (h1 : 1 ≤ n) (h2 : n ≤ 999999) : nameB (segS n) = true := by
  rw [segS_is n h1 h2]
  have hz : (segN n.toNat).size = 10 := by
    show (119 :: 97 :: 108 :: 45 :: segD n.toNat 6).toArray.size = 10
    simp [segD_length]
  have hd : (segN n.toNat).data.toList = 119 :: 97 :: 108 :: 45 :: segD n.toNat 6 := rfl
  have hb := okBytes_seg n.toNat 6
  unfold nameB
  rw [hz, hd]
  simp only [okBytes, List.all_cons] at hb ⊢
  rw [hb]
  decide
theorem opB_five {last : Int} {text : ByteArray} (h1 : 0 ≤ last) (h2 : last < 999999) : ∀ op ∈ fiveO last text, opB op = true := by
  have h3 : nameB tmpN = true := by decide
  have h4 : nameB ckN = true := by decide
  have h5 : nameB (segS (last + 1)) = true := nameB_seg _ (by omega) (by omega)
  intro op hop
  simp only [fiveO, List.mem_cons, List.not_mem_nil, or_false] at hop
  rcases hop with hop | hop | hop | hop | hop <;> (subst hop; simp [opB, btwB, h3, h4, h5])
theorem opB_tmp : opB opTmp = true := by
  have h3 : nameB tmpN = true := by decide
  simp [opB, opTmp, btwB, h3]
theorem opB_del {n : Int} (h1 : 1 ≤ n) (h2 : n ≤ 999999) : opB (opDel n) = true := by
  have h5 : nameB (segS n) = true := nameB_seg _ (by omega) (by omega)
  simp [opB, opDel, btwB, h5]
theorem logz {L : LogD} (h : logB L = true) : 0 ≤ L.size ∧ L.size ≤ 1000000000 ∧ 1 ≤ L.first ∧ L.first ≤ L.last ∧ 1 ≤ L.last ∧ L.last ≤ 999999 := by
  simp only [logB, btwB, Bool.and_eq_true, decide_eq_true_eq] at h
  omega
structure WSt (w0 w : World) (B P D : Nat) (K : DiskD) (L : LogD) : Prop where
  pow : PowTab w0
  below : Below w0.heap.size w0 w
  hB : w0.heap.size ≤ B
  hP : w0.heap.size ≤ P
  wr : WrAt w P D L
  drive : ∃ v, DriveAt w B D K.fs K.c K.k K.cr K.fl K.dn v
  valid : diskB K.fs K.c K.k K.cr K.fl = true
theorem WSt.later {w0 w w' : World} {B P D : Nat} {K : DiskD} {L : LogD} (h : WSt w0 w B P D K L) (hb : Below w.heap.size w w') : WSt w0 w' B P D K L :=
  ⟨h.pow, bto h.below hb, h.hB, h.hP, h.wr.later hb, by obtain ⟨v, hv⟩ := h.drive; exact ⟨v, hv.later hb⟩, h.valid⟩
theorem WSt.tab {w0 w : World} {B P D : Nat} {K : DiskD} {L : LogD} (h : WSt w0 w B P D K L) : PowTab w := h.pow.later h.below
theorem WSt.set {w0 w : World} {B P D : Nat} {K : DiskD} {L L' : LogD} (h : WSt w0 w B P D K L) (j : Nat) (x : Value) (hj : #[Value.pointer (some ⟨D, 0, none⟩), .int .i64 L'.first, .int .i64 L'.last, .int .i64 L'.size] = (#[Value.pointer (some ⟨D, 0, none⟩), .int .i64 L.first, .int .i64 L.last, .int .i64 L.size] : Array Value).setIfInBounds j x) : WSt w0 (w.setCell ⟨P, j, none⟩ x) B P D K L' := by
  refine ⟨h.pow, h.below.setCell (by show w0.heap.size ≤ P; exact h.hP) _, h.hB, h.hP, ?_, ?_, h.valid⟩
  · show Blk _ _ _ _
    rw [hj]
    exact Blk.set h.wr j x
  · obtain ⟨v, hv⟩ := h.drive
    refine ⟨v, hv.from', ?_, ?_, hv.apart⟩
    · refine (Below.heap_setCell _ _ _ D (fun e => ?_)).trans hv.blk
      have e2 : D = P := e
      have e4 := hv.blk
      rw [e2] at e4
      have e3 := (show w.heap[P]? = _ from e4).symm.trans h.wr
      simp at e3
    · refine row_keeps (S := fun k => k = P) hv.row ((Keeps.refl (fun k => k = P) w).setCell (g := P) rfl j x) (fun g hg e => ?_)
      obtain ⟨cur, hc⟩ := own_file hv.row g hg
      rw [e] at hc
      have e3 := (show w.heap[P]? = _ from hc).symm.trans h.wr
      simp at e3
theorem stepD_ok {K : DiskD} {op : OpD} (h : diskB K.fs K.c K.k K.cr K.fl = true) (ho : opB op = true) :
    stepD K op = (⟨(stepR K.fs K.c K.k K.cr K.fl K.dn op).2.1, K.c, (stepR K.fs K.c K.k K.cr K.fl K.dn op).2.2.1, K.cr, K.fl, (stepR K.fs K.c K.k K.cr K.fl K.dn op).2.2.2⟩, (stepR K.fs K.c K.k K.cr K.fl K.dn op).1) := by
  unfold stepD outR
  rw [if_pos (by simp [h, ho])]
theorem stepK {w0 w : World} {B P D : Nat} {K : DiskD} {L : LogD} (op : OpD) (h : WSt w0 w B P D K L) (ho : opB op = true) :
    Calls Tryz.prog 69 #[.pointer (some ⟨D, 0, none⟩), .agg #[.int .i64 op.kind, .string op.name, .string op.to, .string op.data, .int .i64 op.size]] w fun e w' =>
      e = .returned (errV (stepD K op).2) ∧ WSt w0 w' B P D (stepD K op).1 L ∧ KeepO w w' := by
  obtain ⟨v, hv⟩ := h.drive
  obtain ⟨f1, f2, f3, f4, f5, f6, f7, _⟩ := files_of_disk h.valid
  have hop : btwB op.kind 1 6 = true := by simp only [opB, Bool.and_eq_true] at ho; exact ho.1.1
  have h6 : op.kind ≤ 6 := by simp only [btwB, Bool.and_eq_true, decide_eq_true_eq] at hop; exact hop.2
  rw [stepD_ok h.valid ho]
  refine (step_any w B D K.fs K.c K.k K.cr K.fl K.dn v op ⟨hv, asc_of f1, f2, f5, f4, f6, f7⟩ hop).mono ?_
  rintro e w' ⟨rfl, hb, hko, v', hd', _⟩
  exact ⟨rfl, ⟨h.pow, h.below.trans (hb.mono h.hB), h.hB, h.hP, hko h6 P _ _ h.wr (by decide) (by decide), ⟨v', hd'⟩, diskB_step h.valid ho⟩, hko h6⟩
theorem ret_err {a b : Nat} (h : a = b) : Ending.returned (errV a) = .returned (errV b) := by rw [h]
theorem errV_iface {x : Nat} (h0 : ¬ x = 0) (h6 : x ≤ 6) : ∃ t, errV x = .iface 126 (.string t) := by
  match x, h0, h6 with
  | 1, _, _ => exact ⟨_, rfl⟩
  | 2, _, _ => exact ⟨_, rfl⟩
  | 3, _, _ => exact ⟨_, rfl⟩
  | 4, _, _ => exact ⟨_, rfl⟩
  | 5, _, _ => exact ⟨_, rfl⟩
  | 6, _, _ => exact ⟨_, rfl⟩
end Go.Proofs.YtgnppdghjlnlhaaGreatDoor
namespace Go.Proofs.YtgnppdghjlnlhaaGreatDoor
open Go.RowKit
def flatO (ops : List OpD) : List Value := ops.flatMap fun o => [.int .i64 o.kind, .string o.name, .string o.to, .string o.data, .int .i64 o.size]
theorem flatO_get : ∀ (l : List OpD) (i : Nat) (hi : i < l.length), (flatO l)[i * 5]? = some (.int .i64 l[i].kind) ∧ (flatO l)[i * 5 + 1]? = some (.string l[i].name) ∧ (flatO l)[i * 5 + 2]? = some (.string l[i].to) ∧ (flatO l)[i * 5 + 3]? = some (.string l[i].data) ∧ (flatO l)[i * 5 + 4]? = some (.int .i64 l[i].size) := by
  intro l
  unfold flatO
  induction l with
  | nil => intro i hi; exact absurd hi (by simp)
  | cons x r ih =>
    intro i hi
    cases i with
    | zero => simp
    | succ i =>
      have := ih i (by simpa using hi)
      simp only [List.flatMap_cons, List.cons_append, List.nil_append, List.getElem_cons_succ]
      have e : ∀ k, (i + 1) * 5 + k = i * 5 + k + 1 + 1 + 1 + 1 + 1 := fun k => by omega
      refine ⟨?_, ?_, ?_, ?_, ?_⟩
      · rw [show (i + 1) * 5 = i * 5 + 1 + 1 + 1 + 1 + 1 by omega]; simpa only [List.getElem?_cons_succ] using this.1
      · rw [e]; simpa only [List.getElem?_cons_succ] using this.2.1
      · rw [e]; simpa only [List.getElem?_cons_succ] using this.2.2.1
      · rw [e]; simpa only [List.getElem?_cons_succ] using this.2.2.2.1
      · rw [e]; simpa only [List.getElem?_cons_succ] using this.2.2.2.2
theorem opAt {w : World} {g : Nat} {l : List OpD} (h : ∀ j u, (flatO l)[j]? = some u → w.cell? ⟨g, j, none⟩ = some u) (i : Nat) (hi : i < l.length) :
    w.cell? ⟨g, i * 5, none⟩ = some (.int .i64 l[i].kind) ∧ w.cell? ⟨g, i * 5 + 1, none⟩ = some (.string l[i].name) ∧ w.cell? ⟨g, i * 5 + 2, none⟩ = some (.string l[i].to) ∧ w.cell? ⟨g, i * 5 + 3, none⟩ = some (.string l[i].data) ∧ w.cell? ⟨g, i * 5 + 4, none⟩ = some (.int .i64 l[i].size) := by
  obtain ⟨h0, h1, h2, h3, h4⟩ := flatO_get l i hi
  exact ⟨h _ _ h0, h _ _ h1, h _ _ h2, h _ _ h3, h _ _ h4⟩
theorem opsBlk {w : World} {g : Nat} {l : List OpD} {t : TypeId} (h : Blk w g (flatO l).toArray t) : ∀ j u, (flatO l)[j]? = some u → w.cell? ⟨g, j, none⟩ = some u := fun j u hu => by
  rw [h.cell]; simpa using hu
end Go.Proofs.YtgnppdghjlnlhaaGreatDoor
namespace Go.Proofs.YtgnppdghjlnlhaaGreatDoor
open Go.RowKit
def ckL (L : LogD) (x : Nat) : LogD := if x = 0 then ⟨L.last + 1, L.last + 1, 0⟩ else L
theorem runD_one (K : DiskD) (op : OpD) : runD K [op] = stepD K op := by
  exact runD_snoc (K := K) (xs := []) op rfl
set_option maxRecDepth 100000 in
set_option maxHeartbeats 2000000 in
theorem drop_any {w0 w : World} {B P D : Nat} {K : DiskD} {L : LogD} (h : WSt w0 w B P D K L) :
    Calls Tryz.prog 67 #[.pointer (some ⟨P, 0, none⟩)] w fun e w' => e = .returned (errV (runD K (firstO K.fs)).2) ∧ WSt w0 w' B P D (runD K (firstO K.fs)).1 L ∧ KeepO w w' := by
  obtain ⟨f1, f2, f3, f4, f5, f6, f7, _⟩ := files_of_disk h.valid
  obtain ⟨v, hv⟩ := h.drive
  obtain ⟨a, ca, rfl, hfin⟩ := hv.files
  have HF := hid (fun W (hW : Below w.heap.size w W) => findFile_is a ca K.fs tmpN W (hfin.later hW) (asc_of f1) (by omega))
  have HFD := hid (found_has (t := tmpN) (asc_of f1))
  have d4 := hv.cell4
  obtain ⟨c0, _, _, _⟩ := h.wr.cells
  have HW := hid h
  clear hv hfin f1 f2 f3 f4 f5 f6 f7 h
  go_enter Tryz.func67, Tryz.ntmps67
  go_wp2_with fail
  refine (HF.out _ (Below.refl _ _)).mono ?_
  rintro e w1 ⟨rfl, hb1⟩
  have W1 := hid (HW.out.later hb1)
  have K1 := hid (KeepO.of hb1)
  obtain ⟨c0', _, _, _⟩ := W1.out.wr.cells
  clear hb1 HF c0 d4 HW
  cases hq : hasB K.fs tmpN (posOf tmpN K.fs) with
  | false =>
    have E := hid (show firstO K.fs = [] from if_neg (fun h => by have := HFD.out.1 h; rw [hq] at this; cases this))
    clear hq HFD
    go_wp2
    go_ret
    rw [E.out]
    exact ⟨rfl, W1.out, K1.out⟩
  | true =>
    have E := hid (show firstO K.fs = [opTmp] from if_pos (HFD.out.2 hq))
    have HS := hid (stepK opTmp W1.out opB_tmp)
    clear hq HFD
    go_wp2_with fail
    refine HS.out.mono ?_
    rintro e w2 ⟨rfl, hw2, hk2⟩
    have W2 := hid hw2
    have K2 := hid (K1.out.trans hk2)
    clear hw2 hk2 c0' HS
    go_wp2
    go_ret
    rw [E.out, runD_one]
    exact ⟨rfl, W2.out, K2.out⟩
theorem at_oneK {C : World → Prop} {w : World} {cs : Array Value} {t : TypeId} (k : ∀ W, Below w.heap.size w W → Blk W w.heap.size cs t → C W) : C (w.alloc (.cells cs t)) :=
  k _ (bnew _ _) (Blk.new w _ _)
set_option maxRecDepth 100000 in
set_option maxHeartbeats 4000000 in
theorem checkpoint_any {w0 w : World} {B P D : Nat} {K : DiskD} {L : LogD} (text : ByteArray) (h : WSt w0 w B P D K L) (hl : logB L = true) (h9 : L.last < 999999) :
    Calls Tryz.prog 33 #[.pointer (some ⟨P, 0, none⟩), .string text] w fun e w' => e = .returned (errV (runD K (ckOps K L text)).2) ∧ WSt w0 w' B P D (runD K (ckOps K L text)).1 (ckL L (runD K (ckOps K L text)).2) := by
  obtain ⟨_, _, hl1, hl2, hl3, _⟩ := logz hl
  have HD := hid (drop_any h)
  obtain ⟨R0, hR0⟩ : ∃ R, R = runD K (firstO K.fs) := ⟨_, rfl⟩
  have HC := hid (runD_code (firstO K.fs) K)
  rw [← hR0] at HD HC
  have E0 := hid (show runD K (ckOps K L text) = if R0.2 = 0 then runD R0.1 (fiveO L.last text ++ delsO L.first (L.last + 1 - L.first).toNat) else R0 by rw [ckOps, runD_append, hR0])
  obtain ⟨K0, x0⟩ := R0
  clear hR0 h hl
  generalize runD K (ckOps K L text) = RR at *
  go_enter Tryz.func33, Tryz.ntmps33
  go_wp2_with fail
  refine HD.out.mono ?_
  rintro e w1 ⟨rfl, hw1, _⟩
  have W1 := hid hw1
  clear hw1 HD
  by_cases hx : x0 = 0
  · subst hx
    simp only [errV]
    have hwl : IntKind.i64.wrap (L.last + 1) = L.last + 1 := by rw [IntKind.wrap_i64]; omega
    obtain ⟨c0, c1, c2, c3⟩ := W1.out.wr.cells
    have HG := hid (fun W (hW : Below w1.heap.size w1 W) => implSeg_any (L.last + 1) W (W1.out.later hW).tab)
    have E1 := hid (E0.out.trans (if_pos rfl))
    have HB5 := hid (opB_five (text := text) (show 0 ≤ L.last by omega) h9)
    go_wp2_with fail
    refine (HG.out _ (Below.refl _ _)).mono ?_
    rintro e w2 ⟨rfl, hb2⟩
    have W2 := hid (W1.out.later hb2)
    clear hb2 c0 c1 c2 c3 W1 HG E0 HC
    go_upto_region 6 with fail
    refine at_oneK (C := fun W => Code.wp Tryz.prog _ _ _ W) ?_
    intro w3 hb3 G3
    have W3 := hid (W2.out.later hb3)
    have H3 := hid (show Blk w3 w2.heap.size (flatO (fiveO L.last text)).toArray _ from G3)
    clear G3 hb3 W2
    generalize w2.heap.size = G at *
    generalize hfive : fiveO L.last text = five at *
    have hf5 : five.length = 5 := by rw [← hfive]; rfl
    clear hfive
    go_wp2
    go_loopw [35] (fun i wr => ∃ (j : Nat) (Kj : DiskD), j ≤ 5 ∧ i = .int .i64 j ∧ Hid (runD K0 (five.take j) = (Kj, 0)) ∧ Hid (WSt w0 wr B P D Kj L) ∧ Hid (Blk wr G (flatO five).toArray 61)) (fun i _ => 5 - (RowKit.intOf i).toNat)
    case atStart => exact ⟨0, K0, Nat.zero_le _, rfl, rfl, W3.out, H3.out⟩
    case round =>
      obtain ⟨j, Kj, hj, rfl, hrun, hst, hblk⟩ := hrel
      by_cases hlt : j < 5
      · have hj5 : j < five.length := by omega
        obtain ⟨q0, q1, q2, q3, q4⟩ := opAt (opsBlk hblk.out) j hj5
        obtain ⟨op, hop⟩ : ∃ op, op = five[j] := ⟨_, rfl⟩
        have HO := hid (show opB op = true from HB5.out _ (hop ▸ List.getElem_mem hj5))
        have HE := hid (show five.take (j + 1) = five.take j ++ [op] by rw [hop, List.take_succ_eq_append_getElem hj5])
        have HX := hid (show ∀ r, five ++ r = five.take j ++ op :: (five.drop (j + 1) ++ r) from fun r => by
          conv => lhs; rw [← List.take_append_drop j five, List.drop_eq_getElem_cons hj5, ← hop]
          simp)
        rw [← hop] at q0 q1 q2 q3 q4
        clear hop
        go_upto_region 9 with fail
        refine at_oneK (C := fun W => Code.wp Tryz.prog _ _ _ W) ?_
        intro w4 hb4 X4
        have W4 := hid (hst.out.later hb4)
        have G4 := hid (hblk.out.later hb4)
        obtain ⟨c0, _, _, _⟩ := W4.out.wr.cells
        have x0 : w4.cell? ⟨wr.heap.size, 0, none⟩ = some (.int .i64 op.kind) := X4.cell 0
        have x1 : w4.cell? ⟨wr.heap.size, 1, none⟩ = some (.string op.name) := X4.cell 1
        have x2 : w4.cell? ⟨wr.heap.size, 2, none⟩ = some (.string op.to) := X4.cell 2
        have x3 : w4.cell? ⟨wr.heap.size, 3, none⟩ = some (.string op.data) := X4.cell 3
        have x4 : w4.cell? ⟨wr.heap.size, 4, none⟩ = some (.int .i64 op.size) := X4.cell 4
        have HS := hid (fun W (hW : Below w4.heap.size w4 W) => stepK op (W4.out.later hW) HO.out)
        have HK := hid (fun W Kq (h : WSt w0 W B P D Kq L) => h.wr.cells.1)
        have HX4 := hid X4
        clear q0 q1 q2 q3 q4 hb4 X4
        go_wp2_with fail
        go_region_held3 (fun w' => w'.cell? ⟨P, 0, none⟩ = some (.pointer (some ⟨D, 0, none⟩)) ∧ w'.cell? ⟨wr.heap.size, 0, none⟩ = some (.int .i64 op.kind) ∧ w'.cell? ⟨wr.heap.size, 1, none⟩ = some (.string op.name) ∧ w'.cell? ⟨wr.heap.size, 2, none⟩ = some (.string op.to) ∧ w'.cell? ⟨wr.heap.size, 3, none⟩ = some (.string op.data) ∧ w'.cell? ⟨wr.heap.size, 4, none⟩ = some (.int .i64 op.size))
          (first | exact ⟨HK.out _ _ W5.out, X5.out.cell 0, X5.out.cell 1, X5.out.cell 2, X5.out.cell 3, X5.out.cell 4⟩ | (have hbd := (Below.refl w4.heap.size w4).drew; exact ⟨HK.out _ _ (W4.out.later hbd), (HX4.out.later hbd).cell 0, (HX4.out.later hbd).cell 1, (HX4.out.later hbd).cell 2, (HX4.out.later hbd).cell 3, (HX4.out.later hbd).cell 4⟩))
          (first | (go_at_call 69; refine (HS.out _ (Below.refl _ _).drew).mono ?_; rintro e w5 ⟨rfl, hw5, hk5⟩; have W5 := hid hw5; have X5 := hid (hk5 _ _ _ (HX4.out.later (Below.refl _ _).drew) (by decide) (by decide)); have G5 := hid (hk5 _ _ _ (G4.out.later (Below.refl _ _).drew) (by decide) (by decide))))
        clear c0 x0 x1 x2 x3 x4 HK HS HX4 W4 G4 hw5 hk5 X5
        have HC := hid (stepD_code Kj op)
        obtain ⟨⟨K1, y1⟩, hS1⟩ : ∃ R, stepD Kj op = R := ⟨_, rfl⟩
        have HS1 := hid hS1
        rw [hS1] at W5 HC
        simp only [hS1]
        clear hS1
        by_cases hy : y1 = 0
        · subst hy
          simp only [errV]
          go_wp2
          refine ⟨⟨j + 1, K1, by omega, by go_num, ?_, W5.out, G5.out⟩, by simp [RowKit.intOf]; omega⟩
          show _ = _
          rw [HE.out, runD_snoc op (by rw [hrun.out]), hrun.out]
          exact HS1.out
        · obtain ⟨t, ht⟩ := errV_iface hy HC.out
          have HT := hid ht
          rw [ht]
          clear ht
          go_wp2
          go_ret
          have EE : RR = (K1, y1) := by
            rw [E1.out, HX.out, runD_stop op (by rw [hrun.out]) (by rw [hrun.out]; show (stepD Kj op).2 ≠ 0; rw [HS1.out]; exact hy), hrun.out]
            exact HS1.out
          rw [EE]
          exact ⟨by rw [HT.out]; rfl, by rw [show ckL L (K1, y1).2 = L from if_neg hy]; exact W5.out⟩
      · obtain rfl : j = 5 := by omega
        have hr5 := hrun.out
        rw [List.take_of_length_le (by omega)] at hr5
        have E2 := hid (E1.out.trans (show _ = runD Kj (delsO L.first (L.last + 1 - L.first).toNat) by rw [runD_append, hr5, if_pos rfl]))
        obtain ⟨c0, c1, c2, c3⟩ := hst.out.wr.cells
        clear hrun hr5 hblk E1 H3 W3 HB5
        go_wp2
        obtain ⟨cnt, hcnt⟩ : ∃ cnt : Nat, (cnt : Int) = L.last + 1 - L.first := ⟨(L.last + 1 - L.first).toNat, by omega⟩
        have hc2 : (L.last + 1 - L.first).toNat = cnt := by omega
        rw [hc2] at E2
        clear hc2
        have WS := hid hst.out
        clear c0 c1 c2 c3 hst hj hlt
        go_loopw [11] (fun i wz => ∃ (k : Nat) (Kk : DiskD), k ≤ cnt ∧ i = .int .i64 (L.first + k) ∧ Hid (runD Kj (delsO L.first k) = (Kk, 0)) ∧ Hid (WSt w0 wz B P D Kk L)) (fun i _ => (L.last + 1 - RowKit.intOf i).toNat)
        case atStart => exact ⟨0, Kj, Nat.zero_le _, by simp, rfl, WS.out⟩
        case round =>
          obtain ⟨k, Kk, hk, rfl, hrun, hst⟩ := hrel
          by_cases hlt : k < cnt
          · have hlt3 : L.first + (k : Int) < L.last + 1 := by omega
            have HO := hid (opB_del (n := L.first + k) (by omega) (by omega))
            have HG := hid (fun W (hW : Below _ _ W) => implSeg_any (L.first + k) W (hst.out.later hW).tab)
            have HS := hid (fun W (hW : WSt w0 W B P D Kk L) => stepK (opDel (L.first + k)) hW HO.out)
            have HK := hid (fun W Kq (h : WSt w0 W B P D Kq L) => h.wr.cells.1)
            have c0 := hst.out.wr.cells.1
            have hwk : IntKind.i64.wrap (L.first + (k : Int) + 1) = L.first + (k : Int) + 1 := by rw [IntKind.wrap_i64]; omega
            go_wp2_with fail
            go_region_held3 (fun w' => w'.cell? ⟨P, 0, none⟩ = some (.pointer (some ⟨D, 0, none⟩)))
              (first | exact HK.out _ _ W8.out | exact HK.out _ _ W7.out | exact HK.out _ _ (hst.out.later (Below.refl _ _).drew))
              (first
              | (go_at_call 68; refine (HG.out _ (Below.refl _ _).drew).mono ?_; rintro e w7 ⟨rfl, hb7⟩; have W7 := hid ((hst.out.later (Below.refl _ _).drew).later hb7))
              | (go_at_call 69; refine (HS.out _ W7.out).mono ?_; rintro e w8 ⟨rfl, hw8, _⟩; have W8 := hid hw8))
            clear c0 HK HS HG W7 hb7 hw8
            have HC := hid (stepD_code Kk (opDel (L.first + k)))
            obtain ⟨⟨K1, y1⟩, hS1⟩ : ∃ R, stepD Kk (opDel (L.first + k)) = R := ⟨_, rfl⟩
            have HS1 := hid hS1
            rw [hS1] at W8 HC
            simp only [hS1]
            clear hS1
            by_cases hy : y1 = 0
            · subst hy
              simp only [errV]
              go_wp2
              refine ⟨⟨k + 1, by omega, by go_num, K1, ?_, W8.out⟩, by simp [RowKit.intOf]; omega⟩
              show _ = _
              rw [delsO_succ, runD_snoc _ (by rw [hrun.out]), hrun.out]
              exact HS1.out
            · obtain ⟨t, ht⟩ := errV_iface hy HC.out
              have HT := hid ht
              rw [ht]
              clear ht
              go_wp2
              go_ret
              obtain ⟨r, hr⟩ := delsO_split L.first k cnt hlt
              have EE : RR = (K1, y1) := by
                rw [E2.out, hr, runD_stop _ (by rw [hrun.out]) (by rw [hrun.out]; show (stepD Kk _).2 ≠ 0; rw [HS1.out]; exact hy), hrun.out]
                exact HS1.out
              rw [EE]
              exact ⟨by rw [HT.out]; rfl, by rw [show ckL L (K1, y1).2 = L from if_neg hy]; exact W8.out⟩
          · obtain rfl : k = cnt := by omega
            have hlt3 : ¬ L.first + (k : Int) < L.last + 1 := by omega
            have EE := hid (E2.out.trans hrun.out)
            obtain ⟨c0, c1, c2, c3⟩ := hst.out.wr.cells
            have q1 := Blk.free hst.out.wr 1
            have q2 := Blk.free hst.out.wr 2
            have q3 := Blk.free hst.out.wr 3
            have WF := hid (((hst.out.set (L' := ⟨L.last + 1, L.last, L.size⟩) 1 (.int .i64 (L.last + 1)) (by simp)).set (L' := ⟨L.last + 1, L.last + 1, L.size⟩) 2 (.int .i64 (L.last + 1)) (by simp)).set (L' := ⟨L.last + 1, L.last + 1, 0⟩) 3 (.int .i64 0) (by simp))
            go_wp2
            go_ret
            rw [EE.out]
            exact ⟨rfl, WF.out⟩
  · obtain ⟨t, ht⟩ := errV_iface hx HC.out
    have HT := hid ht
    rw [ht]
    clear ht
    go_wp2
    go_ret
    rw [E0.out.trans (if_neg hx)]
    exact ⟨by rw [HT.out]; rfl, by rw [show ckL L (K0, x0).2 = L from if_neg hx]; exact W1.out⟩
end Go.Proofs.YtgnppdghjlnlhaaGreatDoor
namespace Go.Proofs.YtgnppdghjlnlhaaGreatDoor
open Go.RowKit
theorem shrN_pow (v : Int) : ∀ k, shrN v k = v / 2 ^ (8 * k)
  | 0 => by simp [shrN]
  | k + 1 => by
    rw [shrN, shrN_pow v k, show 8 * (k + 1) = 8 * k + 8 by omega, Int.pow_add, Int.ediv_ediv_of_nonneg (Int.pow_nonneg (by omega))]
    rfl
theorem numI_get (v : Int) : ∀ n i, i < n → (numI v n)[i]? = some (shrN v (n - 1 - i) % 256)
  | 0, i, h => absurd h (by omega)
  | n + 1, 0, _ => by simp [numI]
  | n + 1, i + 1, h => by
    rw [numI, List.getElem?_cons_succ, numI_get v n i (by omega)]
    congr 3
    omega
set_option maxRecDepth 100000 in
set_option maxHeartbeats 1000000 in
theorem implHigh_any (n : Nat) (v : Int) (w : World) (hn : n ≤ 8) :
    Calls Tryz.prog 87 #[.int .i64 v, .int .i64 n] w fun e w' => e = .returned (.string (numS n v)) ∧ Below w.heap.size w w' := by
  obtain ⟨C, hC, hmk⟩ : ∃ C : Array Value, C.size = n ∧ (Instr.makeSlice 95 (.int .i64 n) (.int .i64 n)).run Tryz.prog w = .ok (.slice (some ⟨w.heap.size, 0, none⟩) n n) (w.alloc (.cells C 5)) := by
    obtain ⟨ti, hti, hz0, hz1, hz2⟩ := info_u8
    have h := run_make (P := Tryz.prog) w 95 5 ti _ Tryz.underlying95 hti hz0 .i64 .i64 (n : Int) (n : Int) (by omega) (by omega) (by rw [hz2]; omega) (by omega)
    rw [hz1, Int.toNat_natCast, Nat.mul_one] at h
    exact ⟨_, size_madeCells _ _, h⟩
  have HB : Hid (Blk (w.alloc (.cells C 5)) w.heap.size C 5) := heap_alloc_new _ _
  go_enter Tryz.func87, Tryz.ntmps87
  go_wp2
  go_loopw [6, 11] (fun _ c wr => ∃ (k : Nat) (cur : Array Value), k ≤ n ∧ c = .int .i64 k ∧ Hid (Blk wr w.heap.size cur 5) ∧ cur.size = n ∧ Hid (∀ i, i < k → cur[n - 1 - i]? = some (.int .u8 (shrN v i % 256))) ∧ Hid (Below w.heap.size w wr)) (fun _ c _ => n - (intOf c).toNat)
  case atStart => exact ⟨0, C, by omega, rfl, HB, hC, fun i hi => absurd hi (by omega), bnew _ _⟩
  case round =>
    obtain ⟨k, cur, hk, rfl, hblk, hcs, hcur, hbel⟩ := hrel
    by_cases hlt : k < n
    · obtain ⟨p, hp, hpn⟩ : ∃ p : Nat, (n : Int) - 1 - (k : Int) = (p : Int) ∧ Hid (p = n - 1 - k) := ⟨n - 1 - k, by omega, rfl⟩
      have hc : wr.cell? ⟨w.heap.size, p, none⟩ = some (cur[p]'(by have := hpn.out; omega)) := by rw [hblk.out.cell]; exact Array.getElem?_eq_getElem _
      have hf := hblk.out.free p
      go_wp2
      refine ⟨⟨k + 1, cur.setIfInBounds p (.int .u8 (v / 2 ^ (8 * k) % 256)), by omega, by go_num, hblk.out.set p _, by simp [hcs], ?_, hbel.out.setCell (p := ⟨w.heap.size, p, none⟩) (Nat.le_refl _) _⟩, by simp [intOf]; omega⟩
      intro i hi
      have hp2 := hpn.out
      rw [Array.getElem?_setIfInBounds]
      split
      · rename_i e
        have e2 : i = k := by omega
        subst e2
        rw [if_pos (by omega), shrN_pow]
      · rename_i e
        exact hcur.out i (by omega)
    · have e : k = n := by omega
      subst e
      have hcv : (convert 95 9 (.slice (some ⟨w.heap.size, 0, none⟩) k k)).run Tryz.prog wr = .ok (.string (numS k v)) wr := by
        refine run_convert_bytes_arg wr 95 5 Tryz.underlying95 Tryz.underlying5 w.heap.size 0 _ _ (numI v k) (numI_length v k) (fun i hi => ?_) 9 Tryz.underlying9
        rw [hblk.out.cell, Nat.zero_add]
        have h2 := hcur.out (k - 1 - i) (by omega)
        rw [show k - 1 - (k - 1 - i) = i by omega] at h2
        rw [h2]
        have h3 := numI_get v k i (by omega)
        simp [List.getD, h3]
      go_wp2
      go_ret
      exact ⟨rfl, hbel.out⟩
end Go.Proofs.YtgnppdghjlnlhaaGreatDoor
namespace Go.Proofs.YtgnppdghjlnlhaaGreatDoor
open Go.RowKit
theorem info_strR : ∃ i, Tryz.prog.info? 9 = some i ∧ i.zero = some (.string ByteArray.empty) ∧ i.size = 1 ∧ i.bytes = 16 := by
  have h : (Tryz.prog.info? 9).map (fun i => (i.zero, i.size, i.bytes)) = some (some (.string ByteArray.empty), 1, 16) := by kernel_rfl
  obtain ⟨i, hi, hz⟩ := Option.map_eq_some_iff.1 h
  simp only [Prod.mk.injEq] at hz
  exact ⟨i, hi, hz.1, hz.2.1, hz.2.2⟩
theorem strs_cells {w : World} {B : Nat} {e : TypeId} {g cv : Nat} {xs : List ByteArray} (h : w.ownsRow B e 1 (.slice (some ⟨g, 0, none⟩) xs.length cv) xs.length (xs.map Value.string)) :
    xs.length ≤ cv ∧ g < w.heap.size ∧ ∀ (j : Nat) x, xs[j]? = some x → w.cell? ⟨g, 0 + j, none⟩ = some (.string x) := by
  rcases h.2 with ⟨he, _⟩ | ⟨g', cap', cur, he, hB, hb, hc, _, _, ht⟩
  · simp at he
  · simp only [Value.slice.injEq, Option.some.injEq, Addr.mk.injEq, and_true] at he
    obtain ⟨rfl, _, rfl⟩ := he
    refine ⟨hc, lt_of_block hb, fun j x hx => ?_⟩
    rw [cell_of_row w g _ cur _ _ hb, Nat.zero_add, ← Array.getElem?_toList]
    have h2 : (xs.map Value.string)[j]? = some (.string x) := by rw [List.getElem?_map, hx]; rfl
    rw [← ht] at h2
    have hj := (List.getElem?_eq_some_iff.1 h2).1
    rw [List.length_take] at hj
    rw [List.getElem?_take_of_lt (by omega)] at h2
    exact h2
end Go.Proofs.YtgnppdghjlnlhaaGreatDoor
namespace Go.Proofs.YtgnppdghjlnlhaaGreatDoor
open Go.RowKit
def catB : List ByteArray → ByteArray
  | [] => ByteArray.empty
  | x :: r => x ++ catB r
theorem catB_append : ∀ (a b : List ByteArray), catB (a ++ b) = catB a ++ catB b
  | [], b => by simp [catB]
  | x :: r, b => by
    show x ++ catB (r ++ b) = x ++ catB r ++ catB b
    rw [catB_append r b, ByteArray.append_assoc]
theorem cat_list (xs : List ByteArray) : (catB xs).data.toList = (xs.map (·.data.toList)).flatten := by
  induction xs with
  | nil => rfl
  | cons x r ih => simp [catB, ih]
theorem join_cat (xs : List ByteArray) : Lib.join (xs.map (·.data.toList)) ByteArray.empty.data.toList = (catB xs).data.toList := by
  have e : ByteArray.empty.data.toList = [] := rfl
  rw [cat_list, e]
  cases xs with
  | nil => rfl
  | cons x r =>
    rw [List.map_cons, Lib.join_cons, Lib.joinTail]
    simp
    rfl
theorem arr_cat (xs : List ByteArray) : (⟨(Lib.join (xs.map (·.data.toList)) ByteArray.empty.data.toList).toArray⟩ : ByteArray) = catB xs := by
  rw [join_cat]
def sumB : List ByteArray → Nat
  | [] => 0
  | x :: r => x.size + sumB r
theorem catB_size : ∀ (xs : List ByteArray), (catB xs).size = sumB xs
  | [] => rfl
  | x :: r => by rw [catB, ByteArray.size_append, catB_size r, sumB]
theorem sumB_append : ∀ (a b : List ByteArray), sumB (a ++ b) = sumB a + sumB b
  | [], b => by simp [sumB]
  | x :: r, b => by show x.size + sumB (r ++ b) = x.size + sumB r + sumB b; rw [sumB_append r b]; omega
theorem implU8_any (n : Nat) (w : World) : Calls Tryz.prog 116 #[.int .i64 (n : Nat)] w fun e w' => e = .returned (.string (numS 1 (n : Nat))) ∧ Below w.heap.size w w' := by
  have HC : Hid (∀ W, Calls Tryz.prog 87 #[.int .i64 (n : Nat), .int .i64 1] W fun e w' => e = .returned (.string (numS 1 (n : Nat))) ∧ Below W.heap.size W w') := fun W => implHigh_any 1 (n : Nat) W (by omega)
  generalize numS 1 (n : Nat) = N at *
  go_enter Tryz.func116, Tryz.ntmps116
  go_wp2_with fail
  refine (HC.out _).mono ?_
  rintro e w1 ⟨rfl, hb1⟩
  have HB : Hid (Below w.heap.size w w1) := hb1
  clear hb1
  go_wp2
  go_ret
  exact ⟨rfl, HB.out⟩
theorem joined_any (g n cap : Nat) (xs : List ByteArray) (w : World) (hn : n = xs.length) (hc : ∀ (j : Nat) x, xs[j]? = some x → w.cell? ⟨g, 0 + j, none⟩ = some (.string x)) (hg : g < w.heap.size) (hcap : xs.length ≤ cap) (hl : xs.length ≤ 1000000000) (hz : sumB xs ≤ 140737488355328) :
    Calls Tryz.prog 63 #[.slice (some ⟨g, 0, none⟩) n cap] w fun e w' => e = .returned (.string (catB xs)) ∧ Below w.heap.size w w' := by
  subst hn
  have HC : Hid (Calls Tryz.prog 90 #[.slice (some ⟨g, 0, none⟩) xs.length cap, .string ByteArray.empty] w fun e w' => e = .returned (.string (catB xs)) ∧ Below w.heap.size w w') := by
    have h := Tryz.strings_Join g 0 cap xs ByteArray.empty w hc hg (by omega) hcap (by rw [join_cat, ← Lib.size_eq, catB_size]; exact hz)
    rw [arr_cat] at h
    exact h
  clear hc hz
  generalize catB xs = C at *
  generalize xs.length = n at *
  go_enter Tryz.func63, Tryz.ntmps63
  go_wp2_with fail
  refine HC.out.mono ?_
  rintro e w1 ⟨rfl, hb1⟩
  have HB : Hid (Below w.heap.size w w1) := hb1
  clear hb1
  go_wp2
  go_ret
  exact ⟨rfl, HB.out⟩
theorem two_cells {W : World} {x y : ByteArray} {t : TypeId} : ∀ (j : Nat) z, [x, y][j]? = some z → (W.alloc (.cells #[.string x, .string y] t)).cell? ⟨W.heap.size, 0 + j, none⟩ = some (.string z) := by
  intro j z h
  rw [cell_of_row _ W.heap.size _ _ _ _ (heap_alloc_new _ _), Nat.zero_add]
  match j, h with
  | 0, h => simp at h; simp [h]
  | 1, h => simp at h; simp [h]
  | j + 2, h => simp at h
theorem implS8_any (s : ByteArray) (w : World) (hs : s.size ≤ 1000000000) : Calls Tryz.prog 88 #[.string s] w fun e w' => e = .returned (.string (s8B s)) ∧ Below w.heap.size w w' := by
  have HU : Hid (∀ W, Calls Tryz.prog 116 #[.int .i64 (s.size : Nat)] W fun e w' => e = .returned (.string (numS 1 (s.size : Nat))) ∧ Below W.heap.size W w') := fun W => implU8_any s.size W
  have hz := numS_size 1 (s.size : Nat)
  unfold s8B
  generalize numS 1 (s.size : Nat) = N at *
  have HJ : Hid (∀ W : World, Calls Tryz.prog 63 #[.slice (some ⟨W.heap.size, 0, none⟩) 2 2] (W.alloc (.cells #[.string N, .string s] 9)) fun e w' => e = .returned (.string (N ++ s)) ∧ Below (W.alloc (.cells #[.string N, .string s] 9)).heap.size (W.alloc (.cells #[.string N, .string s] 9)) w') := fun W => by
    have h := joined_any W.heap.size 2 2 [N, s] (W.alloc (.cells #[.string N, .string s] 9)) rfl two_cells (by simp) (by simp) (by simp) (by simp [sumB]; omega)
    have e : catB [N, s] = N ++ s := by simp [catB]
    rw [e] at h
    exact h
  go_enter Tryz.func88, Tryz.ntmps88
  go_wp2_with fail
  refine (HU.out _).mono ?_
  rintro e w1 ⟨rfl, hb1⟩
  have HB : Hid (Below w.heap.size w w1) := hb1
  clear hb1
  go_wp2_with fail
  refine (HJ.out _).mono ?_
  rintro e w2 ⟨rfl, hb2⟩
  have HB2 : Hid (Below w.heap.size w w2) := bto (bto HB.out (bnew _ _)) hb2
  clear hb2
  go_wp2
  go_ret
  exact ⟨rfl, HB2.out⟩
theorem implS16_any (s : ByteArray) (w : World) (hs : s.size ≤ 1000000000) : Calls Tryz.prog 89 #[.string s] w fun e w' => e = .returned (.string (s16B s)) ∧ Below w.heap.size w w' := by
  have HU : Hid (∀ W, Calls Tryz.prog 87 #[.int .i64 (s.size : Nat), .int .i64 2] W fun e w' => e = .returned (.string (numS 2 (s.size : Nat))) ∧ Below W.heap.size W w') := fun W => implHigh_any 2 (s.size : Nat) W (by omega)
  have hz := numS_size 2 (s.size : Nat)
  unfold s16B
  generalize numS 2 (s.size : Nat) = N at *
  have HJ : Hid (∀ W : World, Calls Tryz.prog 63 #[.slice (some ⟨W.heap.size, 0, none⟩) 2 2] (W.alloc (.cells #[.string N, .string s] 9)) fun e w' => e = .returned (.string (N ++ s)) ∧ Below (W.alloc (.cells #[.string N, .string s] 9)).heap.size (W.alloc (.cells #[.string N, .string s] 9)) w') := fun W => by
    have h := joined_any W.heap.size 2 2 [N, s] (W.alloc (.cells #[.string N, .string s] 9)) rfl two_cells (by simp) (by simp) (by simp) (by simp [sumB]; omega)
    have e : catB [N, s] = N ++ s := by simp [catB]
    rw [e] at h
    exact h
  go_enter Tryz.func89, Tryz.ntmps89
  go_wp2_with fail
  refine (HU.out _).mono ?_
  rintro e w1 ⟨rfl, hb1⟩
  have HB : Hid (Below w.heap.size w w1) := hb1
  clear hb1
  go_wp2_with fail
  refine (HJ.out _).mono ?_
  rintro e w2 ⟨rfl, hb2⟩
  have HB2 : Hid (Below w.heap.size w w2) := bto (bto HB.out (bnew _ _)) hb2
  clear hb2
  go_wp2
  go_ret
  exact ⟨rfl, HB2.out⟩
end Go.Proofs.YtgnppdghjlnlhaaGreatDoor
