import Derived.Test.YtboofidegpnkaaaProg
import Derived.Test.YtboofidegpnkaaaJ11Ops3
import Derived.Deep.RegionWith
import Derived.Test.YtboofidegpnkaaaJ08Del
namespace Go.Proofs.Ytboofidegpnkaaa
open Go.RowKit

theorem rows_put3 {cur : Array Value} {fs : List FileD} {i : Nat} (hi : i < fs.length) (h : ∀ m (hm : m < fs.length), RowFile cur 0 m fs[m]) (f : FileD) :
    ∀ m (hm : m < fs.length), RowFile (((cur.setIfInBounds (i * 3) (.string f.name)).setIfInBounds (i * 3 + 1) (.string f.data)).setIfInBounds (i * 3 + 2) (.int .i64 f.synced)) 0 m (if m = i then f else fs[m]) := by
  intro m hm
  by_cases e : m = i
  · subst e
    rw [if_pos rfl]
    have l3 := (Array.getElem?_eq_some_iff.1 (h m hm).2.2).1
    have := RowFile.made cur 0 m f l3
    simpa only [Nat.zero_add] using this
  · rw [if_neg e]
    exact (((h m hm).set (by omega) _).set (by omega) _).set (by omega) _

set_option maxRecDepth 100000 in
set_option maxHeartbeats 2000000 in
theorem rename_any (B D i : Nat) (fs : List FileD) (c k cr fl : Int) (dn : Bool) (v : Value) (to : ByteArray) (w : World) (h : DriveAt w B D fs c k cr fl dn v) (hi : i < fs.length) (hasc : Asc (fs.eraseIdx i)) (hlen : fs.length ≤ 1048576) :
    Calls Try.prog 45 #[.pointer (some ⟨D, 0, none⟩), .int .i64 i, .string to] w fun e w' => e = .returned (.tuple #[]) ∧ ∃ j v', PosIs (fs.eraseIdx i) to j ∧ Below B w w' ∧
      ((hasB (fs.eraseIdx i) to j = true ∧ DriveAt w' B D ((fs.eraseIdx i).set j ⟨to, fs[i].data, fs[i].synced⟩) c k cr fl dn v') ∨ (hasB (fs.eraseIdx i) to j = false ∧ DriveAt w' B D (insL (fs.eraseIdx i) j ⟨to, fs[i].data, fs[i].synced⟩) c k cr fl dn v')) := by
  obtain ⟨g, cap, rfl, hgD, hBg⟩ := h.slice (by omega)
  obtain ⟨cur, _, hblk, hnc, hcm, hcs, hrows⟩ := files_of_row h.row
  obtain ⟨r0, r1, r2⟩ := hrows i hi
  rw [Nat.zero_add] at r0 r1 r2
  have c0 := hblk.cell (i * 3)
  have c1 := hblk.cell (i * 3 + 1)
  have c2 := hblk.cell (i * 3 + 2)
  rw [r0] at c0
  rw [r1] at c1
  rw [r2] at c2
  have d4 := h.cell4
  have HD : Hid (DriveAt w B D fs c k cr fl dn (.slice (some ⟨g, 0, none⟩) fs.length cap)) := h
  have HA : Hid (Asc (fs.eraseIdx i)) := hasc
  have hgl : g < w.heap.size := lt_of_block hblk
  have hDl : D < w.heap.size := lt_of_block h.blk
  clear h hasc hblk hrows r0 r1 r2
  go_enter Try.func45, Try.ntmps45
  go_wp2_with fail
  refine (remove_any B D i fs c k cr fl dn _ _ (HD.out.later (bnew w (.cells #[.string to, .string fs[i].data, .int .i64 fs[i].synced] 61))) hi hlen).mono ?_
  rintro e w1 ⟨rfl, v1, hdr, hob, hk⟩
  have HF1 : Hid (Blk w1 w.heap.size #[.string to, .string fs[i].data, .int .i64 fs[i].synced] 61) := Blk.keeps (heap_alloc_new _ _) hk (fun e => by
    rcases e with e | e
    · omega
    · simp [Value.ownBlock] at e; omega)
  have HB1 : Hid (Below B w w1) := ((bnew _ _).mono HD.out.size).trans (hk.below (fun k e => by
    rcases e with e | e
    · have := HD.out.from'; omega
    · simp [Value.ownBlock] at e; omega) (by have := HD.out.size; simp; omega))
  have hl1 : (fs.eraseIdx i).length ≤ 1048576 := by rw [List.length_eraseIdx, if_pos hi]; omega
  have hv1 : v1.ownBlock = some g := hob
  obtain ⟨a1, cap1, rfl, hfin⟩ := hdr.files
  have HV1 : Hid ((Value.slice a1 (fs.eraseIdx i).length cap1).ownBlock = some g) := hv1
  have HD1 : Hid (DriveAt w1 B D (fs.eraseIdx i) c k cr fl dn (.slice a1 (fs.eraseIdx i).length cap1)) := hdr
  have HFI : Hid (FilesIn w1 a1 (fs.eraseIdx i)) := hfin
  have e4 := hdr.cell4
  clear c0 c1 c2 d4 hdr hk hfin hob hv1
  generalize hes : fs.eraseIdx i = es at *
  go_wp2_with fail
  refine (findFile_any a1 cap1 es to _ HFI.out HA.out hl1).mono ?_
  rintro e w2 ⟨j, hp, rfl, hb2⟩
  have HP : Hid (PosIs es to j) := hp
  have hjle : j ≤ es.length := hp.1
  have HD2 : Hid (DriveAt w2 B D es c k cr fl dn (.slice a1 es.length cap1)) := HD1.out.later hb2
  have HB2 : Hid (Below B w w2) := HB1.out.trans (hb2.mono HD1.out.size)
  have HF2 : Hid (Blk w2 w.heap.size #[.string to, .string fs[i].data, .int .i64 fs[i].synced] 61) := HF1.out.later hb2
  have g4 := HD2.out.cell4
  have x0 := HF2.out.cell 0
  have x1 := HF2.out.cell 1
  have x2 := HF2.out.cell 2
  simp only [List.getElem?_toArray, List.getElem?_cons_zero, List.getElem?_cons_succ] at x0 x1 x2
  clear e4 hb2 hp HFI HD1 HB1 HF1
  cases hq : hasB es to j with
  | true =>
    have HQ : Hid (hasB es to j = true) := hq
    have hjl : j < es.length := by
      rcases Nat.lt_or_ge j es.length with h | h
      · exact h
      · rw [hasB, List.getElem?_eq_none h] at hq; exact absurd hq (by simp)
    obtain ⟨g', cap', ev, _, _⟩ := HD2.out.slice (by omega)
    obtain rfl : g' = g := by have := HV1.out; rw [ev] at this; simpa [Value.ownBlock] using this
    simp only [Value.slice.injEq] at ev
    obtain ⟨rfl, _, rfl⟩ := ev
    obtain ⟨cur2, _, hblk, hnc2, hcm2, hcs2, hrows⟩ := files_of_row HD2.out.row
    have hsz2 : j * 3 + 2 < cur2.size := by omega
    obtain ⟨y0, z0⟩ := hblk.there (j := j * 3) (by omega)
    obtain ⟨y1, z1⟩ := hblk.there (j := j * 3 + 1) (by omega)
    obtain ⟨y2, z2⟩ := hblk.there (j := j * 3 + 2) (by omega)
    have k0 := hblk.free (j * 3)
    have k1 := hblk.free (j * 3 + 1)
    have k2 := hblk.free (j * 3 + 2)
    have hbut3 : But g' w2 (((w2.setCell ⟨g', j * 3, none⟩ (.string to)).setCell ⟨g', j * 3 + 1, none⟩ (.string fs[i].data)).setCell ⟨g', j * 3 + 2, none⟩ (.int .i64 fs[i].synced)) := (((But.refl _ _).setCell _ _).setCell _ _).setCell _ _
    have HPUT : Hid (DriveAt (((w2.setCell ⟨g', j * 3, none⟩ (.string to)).setCell ⟨g', j * 3 + 1, none⟩ (.string fs[i].data)).setCell ⟨g', j * 3 + 2, none⟩ (.int .i64 fs[i].synced)) B D (es.set j ⟨to, fs[i].data, fs[i].synced⟩) c k cr fl dn (.slice (some ⟨g', 0, none⟩) es.length cap1)) :=
      HD2.out.put hbut3 (((hblk.set (j * 3) (.string to)).set (j * 3 + 1) (.string fs[i].data)).set (j * 3 + 2) (.int .i64 fs[i].synced)) (by simp [hcs2]) (rows_put3 hjl hrows ⟨to, fs[i].data, fs[i].synced⟩)
    have HBL : Hid (Below B w (((w2.setCell ⟨g', j * 3, none⟩ (.string to)).setCell ⟨g', j * 3 + 1, none⟩ (.string fs[i].data)).setCell ⟨g', j * 3 + 2, none⟩ (.int .i64 fs[i].synced))) := HB2.out.trans (hbut3.below hBg HD2.out.size)
    clear hq hblk hrows hbut3
    go_wp2_with fail
    go_region
    go_wp2
    refine bodyPost_ret (results_none rfl _ _ _) rfl ?_
    subst hes
    exact ⟨rfl, j, _, HP.out, HBL.out.drew, Or.inl ⟨HQ.out, HPUT.out.later (Below.refl _ _).drew⟩⟩
  | false =>
    have HQ : Hid (hasB es to j = false) := hq
    have hap2 : (Value.slice a1 es.length cap1).ownBlock ≠ some D := fun e => HD2.out.apart D e rfl
    have hap3 : (Value.slice a1 es.length cap1).ownBlock ≠ some w.heap.size := fun e => by rw [HV1.out] at e; simp at e; omega
    have HDD : Hid (DriveAt (w2.drew.alloc (.cells #[.string to, .string fs[i].data, .int .i64 fs[i].synced] 61)) B D es c k cr fl dn (.slice a1 es.length cap1)) := (HD2.out.later (Below.refl _ _).drew).later (bnew _ _)
    clear hq
    go_wp2_with fail
    have hDl2 : D < w2.heap.size := lt_of_block HD2.out.blk
    have hFl2 : w.heap.size < w2.heap.size := lt_of_block HF2.out
    have hne1 : ¬ (D = w2.heap.size) := by omega
    have hne2 : ¬ (w.heap.size = w2.heap.size) := by omega
    go_region_with (go_at_call 52; refine (insert_any B w2.heap.size j (.slice a1 es.length cap1) es ⟨to, fs[i].data, fs[i].synced⟩ _ HDD.out.row (heap_alloc_new _ _) (fun e => by have := row_block_lt HD2.out.row _ e; omega) hjle hl1 HDD.out.size).mono ?_; rintro e w7 ⟨v', rfl, hrow, hk7, hat⟩; obtain ⟨a7, cap7, rfl⟩ := row_form hrow; have q4 := (HDD.out.blk.keeps hk7 hap2).cell 4; have q5 := (HDD.out.blk.keeps hk7 hap2).free 4; simp only [List.getElem?_toArray, List.getElem?_cons_zero, List.getElem?_cons_succ] at q4)
    all_goals (
      go_wp2
      go_end0
      subst hes
      obtain ⟨hdr, hbel⟩ := HDD.out.inserted hjle hrow hk7 hat
      exact ⟨rfl, j, _, HP.out, HB2.out.trans ((((Below.refl _ _).drew.trans (bnew _ _)).mono HD2.out.size).trans hbel.below), Or.inr ⟨HQ.out, hdr⟩⟩)
end Go.Proofs.Ytboofidegpnkaaa

namespace Go.Proofs.Ytboofidegpnkaaa
open Go.RowKit

theorem row_keeps {S : Nat → Prop} {w w' : World} {B : Nat} {e : TypeId} {size : Nat} {v : Value} {n : Nat} {xs : List Value} (h : w.ownsRow B e size v n xs) (hk : Keeps S w w') (hS : ∀ g, v.ownBlock = some g → ¬ S g) : w'.ownsRow B e size v n xs := by
  obtain ⟨h1, h2⟩ := h
  refine ⟨h1, ?_⟩
  rcases h2 with h2 | ⟨g, cap, cur, hv, hB, hg, r⟩
  · exact Or.inl h2
  · exact Or.inr ⟨g, cap, cur, hv, hB, (hk.block g (lt_of_block hg) (hS g (by rw [hv]; rfl))).trans hg, r⟩

theorem DriveAt.charged {w w' : World} {B D : Nat} {fs : List FileD} {c k k' cr fl : Int} {dn dn' : Bool} {v : Value} (h : DriveAt w B D fs c k cr fl dn v) (hb : But D w w') (hblk : Blk w' D #[.int .i64 k', .int .i64 cr, .int .i64 fl, .bool dn', v, .int .i64 c] 73) : DriveAt w' B D fs c k' cr fl dn' v :=
  ⟨h.from', hblk, row_keeps h.row (Keeps.but hb) (fun g hg e => h.apart g hg e), h.apart⟩

/-- The whole step: the code, the files, the count, whether the disk is down. -/
def stepR (fs : List FileD) (c k cr fl : Int) (dn : Bool) (op : OpD) : Nat × List FileD × Int × Bool :=
  if (chargeR k cr fl dn).1 = 0 then ((doR fs c op).1, (doR fs c op).2, (chargeR k cr fl dn).2) else ((chargeR k cr fl dn).1, fs, (chargeR k cr fl dn).2)

/-- What is known when step is called. -/
structure Ready (w : World) (B D : Nat) (fs : List FileD) (c k cr fl : Int) (dn : Bool) (v : Value) (op : OpD) : Prop where
  drive : DriveAt w B D fs c k cr fl dn v
  asc : Asc fs
  len : fs.length ≤ 1000
  sum : (sumLen fs : Int) ≤ c
  cap : c ≤ 1000000000
  k0 : 0 ≤ k
  k1 : k ≤ 1000000000000000

/-- Step's contract at one input. -/
def Steps (w : World) (B D : Nat) (fs : List FileD) (c k cr fl : Int) (dn : Bool) (v : Value) (op : OpD) : Prop :=
  Calls Try.prog 22 #[.pointer (some ⟨D, 0, none⟩), .agg #[.int .i64 op.kind, .string op.name, .string op.to, .string op.data, .int .i64 op.size]] w fun e w' =>
    e = .returned (errV (stepR fs c k cr fl dn op).1) ∧ Below B w w' ∧ (op.kind ≤ 4 → KeepO w w') ∧ ∃ v', DriveAt w' B D (stepR fs c k cr fl dn op).2.1 c (stepR fs c k cr fl dn op).2.2.1 cr fl (stepR fs c k cr fl dn op).2.2.2 v' ∧ (op.kind = 4 → v' = v)

theorem charge_cases (k cr fl : Int) (dn : Bool) : (chargeR k cr fl dn).1 = 0 ∨ (chargeR k cr fl dn).1 = 1 ∨ (chargeR k cr fl dn).1 = 2 := by
  unfold chargeR
  split
  · simp
  · split
    · simp
    · split
      · simp
      · split <;> simp

theorem doR_missing {fs : List FileD} {c : Int} {op : OpD} (hk : op.kind ≠ 1) (hq : hasB fs op.name (posOf op.name fs) = false) : doR fs c op = (4, fs) := by
  unfold doR
  simp only [if_neg hk]
  split
  · rfl
  · rw [if_pos hq]

theorem doR_there {fs : List FileD} {c : Int} {op : OpD} (hk : op.kind ≠ 1) (hq : hasB fs op.name (posOf op.name fs) = true) (hi : posOf op.name fs < fs.length) :
    doR fs c op = if op.kind = 2 then (if c < sumLen fs + op.data.size then (3, fs) else (0, fs.set (posOf op.name fs) ⟨fs[posOf op.name fs].name, fs[posOf op.name fs].data ++ op.data, fs[posOf op.name fs].synced⟩))
      else if op.kind = 3 then (0, fs.set (posOf op.name fs) ⟨fs[posOf op.name fs].name, fs[posOf op.name fs].data, fs[posOf op.name fs].data.size⟩)
      else if op.kind = 4 then (if btwB op.size 0 fs[posOf op.name fs].data.size = true then (0, fs.set (posOf op.name fs) ⟨fs[posOf op.name fs].name, fs[posOf op.name fs].data.extract 0 op.size.toNat, op.size⟩) else (6, fs))
      else if op.kind = 5 then (0, withL (fs.eraseIdx (posOf op.name fs)) ⟨op.to, fs[posOf op.name fs].data, fs[posOf op.name fs].synced⟩)
      else (0, fs.eraseIdx (posOf op.name fs)) := by
  unfold doR
  simp only [if_neg hk, List.getElem?_eq_getElem hi, hq, Bool.true_eq_false, if_false]

set_option maxRecDepth 100000 in
set_option maxHeartbeats 1000000 in
theorem step_refused (w : World) (B D : Nat) (fs : List FileD) (c k cr fl : Int) (dn : Bool) (v : Value) (op : OpD) (h : Ready w B D fs c k cr fl dn v op) (hr : (chargeR k cr fl dn).1 ≠ 0) : Steps w B D fs c k cr fl dn v op := by
  unfold Steps
  have HD : Hid (DriveAt w B D fs c k cr fl dn v) := h.drive
  have hk0 := h.k0
  have hk1 := h.k1
  have HA : Hid (Asc fs) := h.asc
  have hlen := h.len
  have hsum := h.sum
  have hcap := h.cap
  have E : Hid (stepR fs c k cr fl dn op = ((chargeR k cr fl dn).1, fs, (chargeR k cr fl dn).2)) := by show _ = _; rw [stepR, if_neg hr]
  have HC : Hid ((chargeR k cr fl dn).1 = 1 ∨ (chargeR k cr fl dn).1 = 2) := Or.resolve_left (charge_cases k cr fl dn) hr
  clear HA hlen hsum hcap
  clear h hr
  go_enter Try.func22, Try.ntmps22
  go_wp2_with fail
  refine (charge_any D 73 v (.int .i64 c) k cr fl dn _ (HD.out.later (bnew _ _)).blk hk0 hk1).mono ?_
  rintro e w1 ⟨rfl, hbut, hblk⟩
  have HD1 : Hid (DriveAt w1 B D fs c (chargeR k cr fl dn).2.1 cr fl (chargeR k cr fl dn).2.2 v) := (HD.out.later (bnew _ _)).charged hbut hblk
  have HB1 : Hid (Rest B w w1) := Rest.charge HD.out HD.out.size hbut
  clear hbut hblk
  generalize hcr : chargeR k cr fl dn = R at *
  obtain ⟨code, k', dn'⟩ := R
  have HC2 : Hid (code = 1 ∨ code = 2) := HC.out
  clear HC
  rcases HC2.out with rfl | rfl
  · simp only [errV]
    go_wp2
    go_ret
    rw [E.out]
    exact ⟨rfl, HB1.out.below, fun _ => HB1.out.other, v, HD1.out, fun _ => rfl⟩
  · simp only [errV]
    go_wp2
    go_ret
    rw [E.out]
    exact ⟨rfl, HB1.out.below, fun _ => HB1.out.other, v, HD1.out, fun _ => rfl⟩


set_option maxRecDepth 100000 in
set_option maxHeartbeats 1000000 in
theorem step_create (w : World) (B D : Nat) (fs : List FileD) (c k cr fl : Int) (dn : Bool) (v : Value) (op : OpD) (h : Ready w B D fs c k cr fl dn v op) (hr : (chargeR k cr fl dn).1 = 0) (hk : op.kind = 1) : Steps w B D fs c k cr fl dn v op := by
  unfold Steps
  have HD : Hid (DriveAt w B D fs c k cr fl dn v) := h.drive
  have hk0 := h.k0
  have hk1 := h.k1
  have HA : Hid (Asc fs) := h.asc
  have hlen := h.len
  have hsum := h.sum
  have hcap := h.cap
  have E : Hid (stepR fs c k cr fl dn op = ((doR fs c op).1, (doR fs c op).2, (chargeR k cr fl dn).2)) := by show _ = _; rw [stepR, if_pos hr]
  have HR : Hid ((chargeR k cr fl dn).1 = 0) := hr
  have ED : Hid (doR fs c op = if hasB fs op.name (posOf op.name fs) = true then (5, fs) else if 1000 ≤ fs.length then (3, fs) else (0, insL fs (posOf op.name fs) ⟨op.name, ByteArray.empty, 0⟩)) := by show _ = _; simp [doR, hk]
  clear hsum hcap
  have HKD : Hid (op.kind = 1) := hk
  clear h hr hk
  go_enter Try.func22, Try.ntmps22
  go_wp2_with fail
  refine (charge_any D 73 v (.int .i64 c) k cr fl dn _ (HD.out.later (bnew _ _)).blk hk0 hk1).mono ?_
  rintro e w1 ⟨rfl, hbut, hblk⟩
  have HD1 : Hid (DriveAt w1 B D fs c (chargeR k cr fl dn).2.1 cr fl (chargeR k cr fl dn).2.2 v) := (HD.out.later (bnew _ _)).charged hbut hblk
  have HB1 : Hid (Rest B w w1) := Rest.charge HD.out HD.out.size hbut
  have hOD : ¬ (w.heap.size = D) := by have := lt_of_block HD.out.blk; omega
  have HO : Hid (OpAt w1 w.heap.size op 35) := Blk.keeps (S := fun k => k = D) (g := w.heap.size) (heap_alloc_new w (.cells #[.int .i64 op.kind, .string op.name, .string op.to, .string op.data, .int .i64 op.size] 35)) (Keeps.but hbut) hOD
  obtain ⟨o0, o1, o2, o3, o4⟩ := HO.out.cells
  clear hbut hblk
  rw [HR.out]
  simp only [errV]
  have hk := HKD.out
  clear o2 o3 o4
  go_wp2_with fail
  refine (create_any B D fs c _ cr fl _ v op.name w1 HD1.out HA.out (by omega)).mono ?_
  rintro e w2 ⟨i, v', hp, hb2, hcs⟩
  obtain rfl := hp.uniq (posOf_is op.name HA.out)
  have HB2 : Hid (Rest B w w2) := HB1.out.trans hb2
  clear hp hb2 o0 o1
  rcases hcs with ⟨hq, rfl, hd⟩ | ⟨hq, hl, rfl, hd⟩ | ⟨hq, hl, rfl, hd⟩
  · have EQ : Hid (doR fs c op = (5, fs)) := by show _ = _; rw [ED.out, if_pos hq]
    have HD2 : Hid (DriveAt w2 B D fs c (chargeR k cr fl dn).2.1 cr fl (chargeR k cr fl dn).2.2 v') := hd
    clear hq hd
    go_wp2
    go_ret
    rw [E.out, EQ.out]
    exact ⟨rfl, HB2.out.below, fun _ => HB2.out.other, v', HD2.out, fun h => (by have := HKD.out; omega)⟩
  · have EQ : Hid (doR fs c op = (3, fs)) := by show _ = _; rw [ED.out, if_neg (by rw [hq]; simp), if_pos hl]
    have HD2 : Hid (DriveAt w2 B D fs c (chargeR k cr fl dn).2.1 cr fl (chargeR k cr fl dn).2.2 v') := hd
    clear hq hd
    go_wp2
    go_ret
    rw [E.out, EQ.out]
    exact ⟨rfl, HB2.out.below, fun _ => HB2.out.other, v', HD2.out, fun h => (by have := HKD.out; omega)⟩
  · have EQ : Hid (doR fs c op = (0, insL fs (posOf op.name fs) ⟨op.name, ByteArray.empty, 0⟩)) := by show _ = _; rw [ED.out, if_neg (by rw [hq]; simp), if_neg (by omega)]
    have HD2 : Hid (DriveAt w2 B D (insL fs (posOf op.name fs) ⟨op.name, ByteArray.empty, 0⟩) c (chargeR k cr fl dn).2.1 cr fl (chargeR k cr fl dn).2.2 v') := hd
    clear hq hd
    go_wp2
    go_ret
    rw [E.out, EQ.out]
    exact ⟨rfl, HB2.out.below, fun _ => HB2.out.other, v', HD2.out, fun h => (by have := HKD.out; omega)⟩


set_option maxRecDepth 100000 in
set_option maxHeartbeats 1000000 in
theorem step_missing (w : World) (B D : Nat) (fs : List FileD) (c k cr fl : Int) (dn : Bool) (v : Value) (op : OpD) (h : Ready w B D fs c k cr fl dn v op) (hr : (chargeR k cr fl dn).1 = 0) (hk : op.kind ≠ 1) (hq : hasB fs op.name (posOf op.name fs) = false) : Steps w B D fs c k cr fl dn v op := by
  unfold Steps
  have HD : Hid (DriveAt w B D fs c k cr fl dn v) := h.drive
  have hk0 := h.k0
  have hk1 := h.k1
  have HA : Hid (Asc fs) := h.asc
  have hlen := h.len
  have hsum := h.sum
  have hcap := h.cap
  have E : Hid (stepR fs c k cr fl dn op = ((doR fs c op).1, (doR fs c op).2, (chargeR k cr fl dn).2)) := by show _ = _; rw [stepR, if_pos hr]
  have HR : Hid ((chargeR k cr fl dn).1 = 0) := hr
  have EQ : Hid (doR fs c op = (4, fs)) := doR_missing hk hq
  have HQ : Hid (hasB fs op.name (posOf op.name fs) = false) := hq
  have hkb : (op.kind == 1) = false := by simpa using hk
  clear hsum hcap hq
  clear h hr
  go_enter Try.func22, Try.ntmps22
  go_wp2_with fail
  refine (charge_any D 73 v (.int .i64 c) k cr fl dn _ (HD.out.later (bnew _ _)).blk hk0 hk1).mono ?_
  rintro e w1 ⟨rfl, hbut, hblk⟩
  have HD1 : Hid (DriveAt w1 B D fs c (chargeR k cr fl dn).2.1 cr fl (chargeR k cr fl dn).2.2 v) := (HD.out.later (bnew _ _)).charged hbut hblk
  have HB1 : Hid (Rest B w w1) := Rest.charge HD.out HD.out.size hbut
  have hOD : ¬ (w.heap.size = D) := by have := lt_of_block HD.out.blk; omega
  have HO : Hid (OpAt w1 w.heap.size op 35) := Blk.keeps (S := fun k => k = D) (g := w.heap.size) (heap_alloc_new w (.cells #[.int .i64 op.kind, .string op.name, .string op.to, .string op.data, .int .i64 op.size] 35)) (Keeps.but hbut) hOD
  obtain ⟨o0, o1, o2, o3, o4⟩ := HO.out.cells
  clear hbut hblk
  rw [HR.out]
  simp only [errV]
  obtain ⟨a, cap, rfl, hfin⟩ := HD1.out.files
  have p1 := Later.cells o1
  have p4 := Later.cells HD1.out.cell4
  have hne := Later.there w1
  have HFx : Hid (∀ x : Later w1, FilesIn x.w' a fs) := fun x => hfin.later x.h
  have HDx : Hid (∀ x : Later w1, DriveAt x.w' B D fs c (chargeR k cr fl dn).2.1 cr fl (chargeR k cr fl dn).2.2 (.slice a fs.length cap)) := fun x => HD1.out.later x.h
  have HOx : Hid (∀ x : Later w1, OpAt x.w' w.heap.size op 35) := fun x => Blk.later HO.out x.h
  have hl2 : fs.length ≤ 1048576 := by omega
  clear o1 o2 o3 o4 hfin HO
  go_wp2_with fail
  refine wp_region_later (by kernel_rfl) (by kernel_rfl) ?_
  repeat (go_big_quiet_step (first | (go_at_call 41; exact calls_later (findFile_is _ _ _ _ _ (HFx.out _) HA.out hl2))))
  refine wpQuiet_nil ?_
  rintro _ ⟨y, rfl⟩
  have HD2 : Hid (DriveAt y.w' B D fs c (chargeR k cr fl dn).2.1 cr fl (chargeR k cr fl dn).2.2 (.slice a fs.length cap)) := HDx.out y
  have HO2 : Hid (OpAt y.w' w.heap.size op 35) := HOx.out y
  have HB2 : Hid (Rest B w y.w') := HB1.out.on y.h HD1.out.size
  clear o0 p1 p4 hne HDx HFx HOx HD1 HB1
  generalize y.w' = W at *
  clear y
  rw [HQ.out]
  clear HO2
  go_wp2
  go_ret
  rw [E.out, EQ.out]
  exact ⟨rfl, HB2.out.below, fun _ => HB2.out.other, _, HD2.out, fun _ => rfl⟩

end Go.Proofs.Ytboofidegpnkaaa

