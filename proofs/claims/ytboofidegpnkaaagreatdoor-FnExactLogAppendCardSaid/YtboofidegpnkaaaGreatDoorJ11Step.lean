import Derived.Test.YtboofidegpnkaaaGreatDoorProg
import Derived.Test.YtboofidegpnkaaaGreatDoorJ09Dv
import Derived.Test.YtboofidegpnkaaaGreatDoorJ10Ren
namespace Go.Proofs.YtboofidegpnkaaaGreatDoor
open Go.RowKit
theorem row_keeps {S : Nat → Prop} {w w' : World} {B : Nat} {e : TypeId} {size : Nat} {v : Value} {n : Nat} {xs : List Value} (h : w.ownsRow B e size v n xs) (hk : Keeps S w w') (hS : ∀ g, v.ownBlock = some g → ¬ S g) : w'.ownsRow B e size v n xs := by
  obtain ⟨h1, h2⟩ := h
  refine ⟨h1, ?_⟩
  rcases h2 with h2 | ⟨g, cap, cur, hv, hB, hg, r⟩
  · exact Or.inl h2
  · exact Or.inr ⟨g, cap, cur, hv, hB, (hk.block g (lt_of_block hg) (hS g (by rw [hv]; rfl))).trans hg, r⟩
theorem DriveAt.charged {w w' : World} {B D : Nat} {fs : List FileD} {c k k' cr fl : Int} {dn dn' : Bool} {v : Value} (h : DriveAt w B D fs c k cr fl dn v) (hb : But D w w') (hblk : Blk w' D #[.int .i64 k', .int .i64 cr, .int .i64 fl, .bool dn', v, .int .i64 c] 77) : DriveAt w' B D fs c k' cr fl dn' v :=
  ⟨h.from', hblk, row_keeps h.row (Keeps.but hb) (fun g hg e => h.apart g hg e), h.apart⟩
def stepR (fs : List FileD) (c k cr fl : Int) (dn : Bool) (op : OpD) : Nat × List FileD × Int × Bool :=
  if (chargeR k cr fl dn).1 = 0 then ((doR fs c op).1, (doR fs c op).2, (chargeR k cr fl dn).2) else ((chargeR k cr fl dn).1, fs, (chargeR k cr fl dn).2)
structure Ready (w : World) (B D : Nat) (fs : List FileD) (c k cr fl : Int) (dn : Bool) (v : Value) (op : OpD) : Prop where
  drive : DriveAt w B D fs c k cr fl dn v
  asc : Asc fs
  len : fs.length ≤ 1000
  sum : (sumLen fs : Int) ≤ c
  cap : c ≤ 1000000000
  k0 : 0 ≤ k
  k1 : k ≤ 1000000000000000
def Steps (w : World) (B D : Nat) (fs : List FileD) (c k cr fl : Int) (dn : Bool) (v : Value) (op : OpD) : Prop :=
  Calls Tryz.prog 46 #[.pointer (some ⟨D, 0, none⟩), .agg #[.int .i64 op.kind, .string op.name, .string op.to, .string op.data, .int .i64 op.size]] w fun e w' =>
    e = .returned (errV (stepR fs c k cr fl dn op).1) ∧ Below B w w' ∧ (op.kind ≤ 4 → KeepO w w') ∧ ∃ v', DriveAt w' B D (stepR fs c k cr fl dn op).2.1 c (stepR fs c k cr fl dn op).2.2.1 cr fl (stepR fs c k cr fl dn op).2.2.2 v' ∧ (op.kind = 4 → v' = v)
theorem charge_cases (k cr fl : Int) (dn : Bool) : (chargeR k cr fl dn).1 = 0 ∨ (chargeR k cr fl dn).1 = 1 ∨ (chargeR k cr fl dn).1 = 2 := by
  unfold chargeR
  split
  · simp
  · split
    · simp
    · split
      · simp
      · split <;> simp
theorem doR_missing {fs : List FileD} {c : Int} {op : OpD} (hk : op.kind ≠ 1) (hq : hasB fs op.name (posOf op.name fs) = false) : doR fs c op = (4, fs) := by
  unfold doR
  simp only [if_neg hk]
  split
  · rfl
  · rw [if_pos hq]
theorem doR_there {fs : List FileD} {c : Int} {op : OpD} (hk : op.kind ≠ 1) (hq : hasB fs op.name (posOf op.name fs) = true) (hi : posOf op.name fs < fs.length) :
    doR fs c op = if op.kind = 2 then (if c < sumLen fs + op.data.size then (3, fs) else (0, fs.set (posOf op.name fs) ⟨fs[posOf op.name fs].name, fs[posOf op.name fs].data ++ op.data, fs[posOf op.name fs].synced⟩))
      else if op.kind = 3 then (0, fs.set (posOf op.name fs) ⟨fs[posOf op.name fs].name, fs[posOf op.name fs].data, fs[posOf op.name fs].data.size⟩)
      else if op.kind = 4 then (if btwB op.size 0 fs[posOf op.name fs].data.size = true then (0, fs.set (posOf op.name fs) ⟨fs[posOf op.name fs].name, fs[posOf op.name fs].data.extract 0 op.size.toNat, op.size⟩) else (6, fs))
      else if op.kind = 5 then (0, withL (fs.eraseIdx (posOf op.name fs)) ⟨op.to, fs[posOf op.name fs].data, fs[posOf op.name fs].synced⟩)
      else (0, fs.eraseIdx (posOf op.name fs)) := by
  unfold doR
  simp only [if_neg hk, List.getElem?_eq_getElem hi, hq, Bool.true_eq_false, if_false]
set_option maxRecDepth 100000 in
set_option maxHeartbeats 1000000 in
theorem step_refused (w : World) (B D : Nat) (fs : List FileD) (c k cr fl : Int) (dn : Bool) (v : Value) (op : OpD) (h : Ready w B D fs c k cr fl dn v op) (hr : (chargeR k cr fl dn).1 ≠ 0) : Steps w B D fs c k cr fl dn v op := by
  unfold Steps
  have HD : Hid (DriveAt w B D fs c k cr fl dn v) := h.drive
  have hk0 := h.k0
  have hk1 := h.k1
  have HA : Hid (Asc fs) := h.asc
  have hlen := h.len
  have hsum := h.sum
  have hcap := h.cap
  have E : Hid (stepR fs c k cr fl dn op = ((chargeR k cr fl dn).1, fs, (chargeR k cr fl dn).2)) := by show _ = _; rw [stepR, if_neg hr]
  have HC : Hid ((chargeR k cr fl dn).1 = 1 ∨ (chargeR k cr fl dn).1 = 2) := Or.resolve_left (charge_cases k cr fl dn) hr
  clear HA hlen hsum hcap
  clear h hr
  go_enter Tryz.func46, Tryz.ntmps46
  go_wp2_with fail
  refine (charge_any D 77 v (.int .i64 c) k cr fl dn _ (HD.out.later (bnew _ _)).blk hk0 hk1).mono ?_
  rintro e w1 ⟨rfl, hbut, hblk⟩
  have HD1 : Hid (DriveAt w1 B D fs c (chargeR k cr fl dn).2.1 cr fl (chargeR k cr fl dn).2.2 v) := (HD.out.later (bnew _ _)).charged hbut hblk
  have HB1 : Hid (Rest B w w1) := Rest.charge HD.out HD.out.size hbut
  clear hbut hblk
  generalize hcr : chargeR k cr fl dn = R at *
  obtain ⟨code, k', dn'⟩ := R
  have HC2 : Hid (code = 1 ∨ code = 2) := HC.out
  clear HC
  rcases HC2.out with rfl | rfl
  · simp only [errV]
    go_wp2
    go_ret
    rw [E.out]
    exact ⟨rfl, HB1.out.below, fun _ => HB1.out.other, v, HD1.out, fun _ => rfl⟩
  · simp only [errV]
    go_wp2
    go_ret
    rw [E.out]
    exact ⟨rfl, HB1.out.below, fun _ => HB1.out.other, v, HD1.out, fun _ => rfl⟩
set_option maxRecDepth 100000 in
set_option maxHeartbeats 1000000 in
theorem step_create (w : World) (B D : Nat) (fs : List FileD) (c k cr fl : Int) (dn : Bool) (v : Value) (op : OpD) (h : Ready w B D fs c k cr fl dn v op) (hr : (chargeR k cr fl dn).1 = 0) (hk : op.kind = 1) : Steps w B D fs c k cr fl dn v op := by
  unfold Steps
  have HD : Hid (DriveAt w B D fs c k cr fl dn v) := h.drive
  have hk0 := h.k0
  have hk1 := h.k1
  have HA : Hid (Asc fs) := h.asc
  have hlen := h.len
  have hsum := h.sum
  have hcap := h.cap
  have E : Hid (stepR fs c k cr fl dn op = ((doR fs c op).1, (doR fs c op).2, (chargeR k cr fl dn).2)) := by show _ = _; rw [stepR, if_pos hr]
  have HR : Hid ((chargeR k cr fl dn).1 = 0) := hr
  have ED : Hid (doR fs c op = if hasB fs op.name (posOf op.name fs) = true then (5, fs) else if 1000 ≤ fs.length then (3, fs) else (0, insL fs (posOf op.name fs) ⟨op.name, ByteArray.empty, 0⟩)) := by show _ = _; simp [doR, hk]
  clear hsum hcap
  have HKD : Hid (op.kind = 1) := hk
  clear h hr hk
  go_enter Tryz.func46, Tryz.ntmps46
  go_wp2_with fail
  refine (charge_any D 77 v (.int .i64 c) k cr fl dn _ (HD.out.later (bnew _ _)).blk hk0 hk1).mono ?_
  rintro e w1 ⟨rfl, hbut, hblk⟩
  have HD1 : Hid (DriveAt w1 B D fs c (chargeR k cr fl dn).2.1 cr fl (chargeR k cr fl dn).2.2 v) := (HD.out.later (bnew _ _)).charged hbut hblk
  have HB1 : Hid (Rest B w w1) := Rest.charge HD.out HD.out.size hbut
  have hOD : ¬ (w.heap.size = D) := by have := lt_of_block HD.out.blk; omega
  have HO : Hid (OpAt w1 w.heap.size op 48) := Blk.keeps (S := fun k => k = D) (g := w.heap.size) (heap_alloc_new w (.cells #[.int .i64 op.kind, .string op.name, .string op.to, .string op.data, .int .i64 op.size] 48)) (Keeps.but hbut) hOD
  obtain ⟨o0, o1, o2, o3, o4⟩ := HO.out.cells
  clear hbut hblk
  rw [HR.out]
  simp only [errV]
  have hk := HKD.out
  clear o2 o3 o4
  go_wp2_with fail
  refine (create_any B D fs c _ cr fl _ v op.name w1 HD1.out HA.out (by omega)).mono ?_
  rintro e w2 ⟨i, v', hp, hb2, hcs⟩
  obtain rfl := hp.uniq (posOf_is op.name HA.out)
  have HB2 : Hid (Rest B w w2) := HB1.out.trans hb2
  clear hp hb2 o0 o1
  rcases hcs with ⟨hq, rfl, hd⟩ | ⟨hq, hl, rfl, hd⟩ | ⟨hq, hl, rfl, hd⟩
  · have EQ : Hid (doR fs c op = (5, fs)) := by show _ = _; rw [ED.out, if_pos hq]
    have HD2 : Hid (DriveAt w2 B D fs c (chargeR k cr fl dn).2.1 cr fl (chargeR k cr fl dn).2.2 v') := hd
    clear hq hd
    go_wp2
    go_ret
    rw [E.out, EQ.out]
    exact ⟨rfl, HB2.out.below, fun _ => HB2.out.other, v', HD2.out, fun h => (by have := HKD.out; omega)⟩
  · have EQ : Hid (doR fs c op = (3, fs)) := by show _ = _; rw [ED.out, if_neg (by rw [hq]; simp), if_pos hl]
    have HD2 : Hid (DriveAt w2 B D fs c (chargeR k cr fl dn).2.1 cr fl (chargeR k cr fl dn).2.2 v') := hd
    clear hq hd
    go_wp2
    go_ret
    rw [E.out, EQ.out]
    exact ⟨rfl, HB2.out.below, fun _ => HB2.out.other, v', HD2.out, fun h => (by have := HKD.out; omega)⟩
  · have EQ : Hid (doR fs c op = (0, insL fs (posOf op.name fs) ⟨op.name, ByteArray.empty, 0⟩)) := by show _ = _; rw [ED.out, if_neg (by rw [hq]; simp), if_neg (by omega)]
    have HD2 : Hid (DriveAt w2 B D (insL fs (posOf op.name fs) ⟨op.name, ByteArray.empty, 0⟩) c (chargeR k cr fl dn).2.1 cr fl (chargeR k cr fl dn).2.2 v') := hd
    clear hq hd
    go_wp2
    go_ret
    rw [E.out, EQ.out]
    exact ⟨rfl, HB2.out.below, fun _ => HB2.out.other, v', HD2.out, fun h => (by have := HKD.out; omega)⟩
set_option maxRecDepth 100000 in
set_option maxHeartbeats 1000000 in
theorem step_missing (w : World) (B D : Nat) (fs : List FileD) (c k cr fl : Int) (dn : Bool) (v : Value) (op : OpD) (h : Ready w B D fs c k cr fl dn v op) (hr : (chargeR k cr fl dn).1 = 0) (hk : op.kind ≠ 1) (hq : hasB fs op.name (posOf op.name fs) = false) : Steps w B D fs c k cr fl dn v op := by
  unfold Steps
  have HD : Hid (DriveAt w B D fs c k cr fl dn v) := h.drive
  have hk0 := h.k0
  have hk1 := h.k1
  have HA : Hid (Asc fs) := h.asc
  have hlen := h.len
  have hsum := h.sum
  have hcap := h.cap
  have E : Hid (stepR fs c k cr fl dn op = ((doR fs c op).1, (doR fs c op).2, (chargeR k cr fl dn).2)) := by show _ = _; rw [stepR, if_pos hr]
  have HR : Hid ((chargeR k cr fl dn).1 = 0) := hr
  have EQ : Hid (doR fs c op = (4, fs)) := doR_missing hk hq
  have HQ : Hid (hasB fs op.name (posOf op.name fs) = false) := hq
  have hkb : (op.kind == 1) = false := by simpa using hk
  clear hsum hcap hq
  clear h hr
  go_enter Tryz.func46, Tryz.ntmps46
  go_wp2_with fail
  refine (charge_any D 77 v (.int .i64 c) k cr fl dn _ (HD.out.later (bnew _ _)).blk hk0 hk1).mono ?_
  rintro e w1 ⟨rfl, hbut, hblk⟩
  have HD1 : Hid (DriveAt w1 B D fs c (chargeR k cr fl dn).2.1 cr fl (chargeR k cr fl dn).2.2 v) := (HD.out.later (bnew _ _)).charged hbut hblk
  have HB1 : Hid (Rest B w w1) := Rest.charge HD.out HD.out.size hbut
  have hOD : ¬ (w.heap.size = D) := by have := lt_of_block HD.out.blk; omega
  have HO : Hid (OpAt w1 w.heap.size op 48) := Blk.keeps (S := fun k => k = D) (g := w.heap.size) (heap_alloc_new w (.cells #[.int .i64 op.kind, .string op.name, .string op.to, .string op.data, .int .i64 op.size] 48)) (Keeps.but hbut) hOD
  obtain ⟨o0, o1, o2, o3, o4⟩ := HO.out.cells
  clear hbut hblk
  rw [HR.out]
  simp only [errV]
  obtain ⟨a, cap, rfl, hfin⟩ := HD1.out.files
  have p1 := Later.cells o1
  have p4 := Later.cells HD1.out.cell4
  have hne := Later.there w1
  have HFx : Hid (∀ x : Later w1, FilesIn x.w' a fs) := fun x => hfin.later x.h
  have HDx : Hid (∀ x : Later w1, DriveAt x.w' B D fs c (chargeR k cr fl dn).2.1 cr fl (chargeR k cr fl dn).2.2 (.slice a fs.length cap)) := fun x => HD1.out.later x.h
  have HOx : Hid (∀ x : Later w1, OpAt x.w' w.heap.size op 48) := fun x => Blk.later HO.out x.h
  have hl2 : fs.length ≤ 1048576 := by omega
  clear o1 o2 o3 o4 hfin HO
  go_wp2_with fail
  refine wp_region_later (by kernel_rfl) (by kernel_rfl) ?_
  repeat (go_big_quiet_step (first | (go_at_call 61; exact calls_later (findFile_is _ _ _ _ _ (HFx.out _) HA.out hl2))))
  refine wpQuiet_nil ?_
  rintro _ ⟨y, rfl⟩
  have HD2 : Hid (DriveAt y.w' B D fs c (chargeR k cr fl dn).2.1 cr fl (chargeR k cr fl dn).2.2 (.slice a fs.length cap)) := HDx.out y
  have HO2 : Hid (OpAt y.w' w.heap.size op 48) := HOx.out y
  have HB2 : Hid (Rest B w y.w') := HB1.out.on y.h HD1.out.size
  clear o0 p1 p4 hne HDx HFx HOx HD1 HB1
  generalize y.w' = W at *
  clear y
  rw [HQ.out]
  clear HO2
  go_wp2
  go_ret
  rw [E.out, EQ.out]
  exact ⟨rfl, HB2.out.below, fun _ => HB2.out.other, _, HD2.out, fun _ => rfl⟩
end Go.Proofs.YtboofidegpnkaaaGreatDoor
