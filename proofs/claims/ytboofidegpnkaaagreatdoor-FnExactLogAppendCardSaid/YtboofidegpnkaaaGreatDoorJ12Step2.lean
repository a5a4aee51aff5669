import Derived.Test.YtboofidegpnkaaaGreatDoorProg
import Derived.Test.YtboofidegpnkaaaGreatDoorJ11Step
import Derived.Deep.RegionWith
namespace Go.Proofs.YtboofidegpnkaaaGreatDoor
open Go.RowKit
set_option maxRecDepth 100000 in
set_option maxHeartbeats 1000000 in
theorem step_delete (w : World) (B D : Nat) (fs : List FileD) (c k cr fl : Int) (dn : Bool) (v : Value) (op : OpD) (h : Ready w B D fs c k cr fl dn v op) (hr : (chargeR k cr fl dn).1 = 0) (hk : op.kind = 6) (hq : hasB fs op.name (posOf op.name fs) = true) : Steps w B D fs c k cr fl dn v op := by
  unfold Steps
  have HD : Hid (DriveAt w B D fs c k cr fl dn v) := h.drive
  have hk0 := h.k0
  have hk1 := h.k1
  have HA : Hid (Asc fs) := h.asc
  have hlen := h.len
  have hsum := h.sum
  have hcap := h.cap
  have E : Hid (stepR fs c k cr fl dn op = ((doR fs c op).1, (doR fs c op).2, (chargeR k cr fl dn).2)) := by show _ = _; rw [stepR, if_pos hr]
  have HR : Hid ((chargeR k cr fl dn).1 = 0) := hr
  obtain ⟨hi, _⟩ := hasB_lt hq
  have EQ : Hid (doR fs c op = (0, fs.eraseIdx (posOf op.name fs))) := by show _ = _; rw [doR_there (by omega) hq hi]; simp [hk]
  clear hsum hcap
  have HQ : Hid (hasB fs op.name (posOf op.name fs) = true) := hq
  clear hq
  have HKD : Hid (op.kind = 6) := hk
  clear h hr hk
  go_enter Tryz.func46, Tryz.ntmps46
  go_wp2_with fail
  refine (charge_any D 77 v (.int .i64 c) k cr fl dn _ (HD.out.later (bnew _ _)).blk hk0 hk1).mono ?_
  rintro e w1 ⟨rfl, hbut, hblk⟩
  have HD1 : Hid (DriveAt w1 B D fs c (chargeR k cr fl dn).2.1 cr fl (chargeR k cr fl dn).2.2 v) := (HD.out.later (bnew _ _)).charged hbut hblk
  have HB1 : Hid (Below B w w1) := ((bnew _ _).mono HD.out.size).trans (hbut.below HD.out.from' (by have := HD.out.size; simp; omega))
  have hOD : ¬ (w.heap.size = D) := by have := lt_of_block HD.out.blk; omega
  have HO : Hid (OpAt w1 w.heap.size op 48) := Blk.keeps (S := fun k => k = D) (g := w.heap.size) (heap_alloc_new w (.cells #[.int .i64 op.kind, .string op.name, .string op.to, .string op.data, .int .i64 op.size] 48)) (Keeps.but hbut) hOD
  obtain ⟨o0, o1, o2, o3, o4⟩ := HO.out.cells
  clear hbut hblk
  rw [HR.out]
  simp only [errV]
  have hk := HKD.out
  obtain ⟨a, cap, rfl, hfin⟩ := HD1.out.files
  have p1 := Later.cells o1
  have p4 := Later.cells HD1.out.cell4
  have hne := Later.there w1
  have HFx : Hid (∀ x : Later w1, FilesIn x.w' a fs) := fun x => hfin.later x.h
  have HDx : Hid (∀ x : Later w1, DriveAt x.w' B D fs c (chargeR k cr fl dn).2.1 cr fl (chargeR k cr fl dn).2.2 (.slice a fs.length cap)) := fun x => HD1.out.later x.h
  have HOx : Hid (∀ x : Later w1, OpAt x.w' w.heap.size op 48) := fun x => Blk.later HO.out x.h
  have hl2 : fs.length ≤ 1048576 := by omega
  clear o1 o2 o3 o4 hfin HO
  go_wp2_with fail
  refine wp_region_later (by kernel_rfl) (by kernel_rfl) ?_
  repeat (go_big_quiet_step (first | (go_at_call 61; exact calls_later (findFile_is _ _ _ _ _ (HFx.out _) HA.out hl2))))
  refine wpQuiet_nil ?_
  rintro _ ⟨y, rfl⟩
  have HD2 : Hid (DriveAt y.w' B D fs c (chargeR k cr fl dn).2.1 cr fl (chargeR k cr fl dn).2.2 (.slice a fs.length cap)) := HDx.out y
  have HO2 : Hid (OpAt y.w' w.heap.size op 48) := HOx.out y
  have HB2 : Hid (Below B w y.w') := HB1.out.trans (y.h.mono HD1.out.size)
  clear o0 p1 p4 hne HDx HFx HOx HD1 HB1
  generalize y.w' = W at *
  clear y
  rw [HQ.out]
  obtain ⟨o0, o1, o2, o3, o4⟩ := HO2.out.cells
  clear o1 o2 o3 o4
  go_wp2_with fail
  refine (remove_any B D _ fs c _ cr fl _ _ _ HD2.out hi hl2).mono ?_
  rintro e w3 ⟨rfl, v3, hd3, _, hk3⟩
  have HD3 : Hid (DriveAt w3 B D (fs.eraseIdx (posOf op.name fs)) c (chargeR k cr fl dn).2.1 cr fl (chargeR k cr fl dn).2.2 v3) := hd3
  have HB3 : Hid (Below B w w3) := HB2.out.trans (hk3.below (fun g e => by
    rcases e with e | e
    · rw [e]; exact HD2.out.from'
    · exact row_from HD2.out.row g e) HD2.out.size)
  clear hd3 hk3
  go_wp2
  go_ret
  rw [E.out, EQ.out]
  exact ⟨rfl, HB3.out, fun h => (by have := HKD.out; omega), v3, HD3.out, fun h => (by have := HKD.out; omega)⟩
set_option maxRecDepth 100000 in
set_option maxHeartbeats 1000000 in
theorem step_rename (w : World) (B D : Nat) (fs : List FileD) (c k cr fl : Int) (dn : Bool) (v : Value) (op : OpD) (h : Ready w B D fs c k cr fl dn v op) (hr : (chargeR k cr fl dn).1 = 0) (hk : op.kind = 5) (hq : hasB fs op.name (posOf op.name fs) = true) : Steps w B D fs c k cr fl dn v op := by
  unfold Steps
  have HD : Hid (DriveAt w B D fs c k cr fl dn v) := h.drive
  have hk0 := h.k0
  have hk1 := h.k1
  have HA : Hid (Asc fs) := h.asc
  have hlen := h.len
  have hsum := h.sum
  have hcap := h.cap
  have E : Hid (stepR fs c k cr fl dn op = ((doR fs c op).1, (doR fs c op).2, (chargeR k cr fl dn).2)) := by show _ = _; rw [stepR, if_pos hr]
  have HR : Hid ((chargeR k cr fl dn).1 = 0) := hr
  obtain ⟨hi, _⟩ := hasB_lt hq
  have EQ : Hid (doR fs c op = (0, withL (fs.eraseIdx (posOf op.name fs)) ⟨op.to, fs[posOf op.name fs].data, fs[posOf op.name fs].synced⟩)) := by show _ = _; rw [doR_there (by omega) hq hi]; simp [hk]
  clear hsum hcap
  have HQ : Hid (hasB fs op.name (posOf op.name fs) = true) := hq
  clear hq
  have HKD : Hid (op.kind = 5) := hk
  clear h hr hk
  go_enter Tryz.func46, Tryz.ntmps46
  go_wp2_with fail
  refine (charge_any D 77 v (.int .i64 c) k cr fl dn _ (HD.out.later (bnew _ _)).blk hk0 hk1).mono ?_
  rintro e w1 ⟨rfl, hbut, hblk⟩
  have HD1 : Hid (DriveAt w1 B D fs c (chargeR k cr fl dn).2.1 cr fl (chargeR k cr fl dn).2.2 v) := (HD.out.later (bnew _ _)).charged hbut hblk
  have HB1 : Hid (Below B w w1) := ((bnew _ _).mono HD.out.size).trans (hbut.below HD.out.from' (by have := HD.out.size; simp; omega))
  have hOD : ¬ (w.heap.size = D) := by have := lt_of_block HD.out.blk; omega
  have HO : Hid (OpAt w1 w.heap.size op 48) := Blk.keeps (S := fun k => k = D) (g := w.heap.size) (heap_alloc_new w (.cells #[.int .i64 op.kind, .string op.name, .string op.to, .string op.data, .int .i64 op.size] 48)) (Keeps.but hbut) hOD
  obtain ⟨o0, o1, o2, o3, o4⟩ := HO.out.cells
  clear hbut hblk
  rw [HR.out]
  simp only [errV]
  have hk := HKD.out
  obtain ⟨a, cap, rfl, hfin⟩ := HD1.out.files
  have p1 := Later.cells o1
  have p4 := Later.cells HD1.out.cell4
  have hne := Later.there w1
  have HFx : Hid (∀ x : Later w1, FilesIn x.w' a fs) := fun x => hfin.later x.h
  have HDx : Hid (∀ x : Later w1, DriveAt x.w' B D fs c (chargeR k cr fl dn).2.1 cr fl (chargeR k cr fl dn).2.2 (.slice a fs.length cap)) := fun x => HD1.out.later x.h
  have HOx : Hid (∀ x : Later w1, OpAt x.w' w.heap.size op 48) := fun x => Blk.later HO.out x.h
  have hl2 : fs.length ≤ 1048576 := by omega
  clear o1 o2 o3 o4 hfin HO
  go_wp2_with fail
  refine wp_region_later (by kernel_rfl) (by kernel_rfl) ?_
  repeat (go_big_quiet_step (first | (go_at_call 61; exact calls_later (findFile_is _ _ _ _ _ (HFx.out _) HA.out hl2))))
  refine wpQuiet_nil ?_
  rintro _ ⟨y, rfl⟩
  have HD2 : Hid (DriveAt y.w' B D fs c (chargeR k cr fl dn).2.1 cr fl (chargeR k cr fl dn).2.2 (.slice a fs.length cap)) := HDx.out y
  have HO2 : Hid (OpAt y.w' w.heap.size op 48) := HOx.out y
  have HB2 : Hid (Below B w y.w') := HB1.out.trans (y.h.mono HD1.out.size)
  clear o0 p1 p4 hne HDx HFx HOx HD1 HB1
  generalize y.w' = W at *
  clear y
  rw [HQ.out]
  obtain ⟨o0, o1, o2, o3, o4⟩ := HO2.out.cells
  clear o1 o3 o4
  go_wp2_with fail
  refine (rename_any B D _ fs c _ cr fl _ _ op.to _ HD2.out hi (HA.out.erase _) hl2).mono ?_
  rintro e w3 ⟨rfl, j, v3, hp, hb3, hd3⟩
  obtain rfl := hp.uniq (posOf_is op.to (HA.out.erase _))
  have HB3 : Hid (Below B w w3) := HB2.out.trans hb3
  have HD3 : Hid (DriveAt w3 B D (withL (fs.eraseIdx (posOf op.name fs)) ⟨op.to, fs[posOf op.name fs].data, fs[posOf op.name fs].synced⟩) c (chargeR k cr fl dn).2.1 cr fl (chargeR k cr fl dn).2.2 v3) := by
    rcases hd3 with ⟨h1, h2⟩ | ⟨h1, h2⟩
    · obtain ⟨hlt, hnm⟩ := hasB_lt h1
      show DriveAt _ _ _ _ _ _ _ _ _ _
      rw [with_old (HA.out.erase _) hlt hnm]
      exact h2
    · show DriveAt _ _ _ _ _ _ _ _ _ _
      rw [with_new (HA.out.erase _) h1]
      exact h2
  clear hd3 hb3 hp
  go_wp2
  go_ret
  rw [E.out, EQ.out]
  exact ⟨rfl, HB3.out, fun h => (by have := HKD.out; omega), v3, HD3.out, fun h => (by have := HKD.out; omega)⟩
set_option maxRecDepth 100000 in
set_option maxHeartbeats 1000000 in
theorem step_append (w : World) (B D : Nat) (fs : List FileD) (c k cr fl : Int) (dn : Bool) (v : Value) (op : OpD) (h : Ready w B D fs c k cr fl dn v op) (hr : (chargeR k cr fl dn).1 = 0) (hk : op.kind = 2) (hq : hasB fs op.name (posOf op.name fs) = true) : Steps w B D fs c k cr fl dn v op := by
  unfold Steps
  have HD : Hid (DriveAt w B D fs c k cr fl dn v) := h.drive
  have hk0 := h.k0
  have hk1 := h.k1
  have HA : Hid (Asc fs) := h.asc
  have hlen := h.len
  have hsum := h.sum
  have hcap := h.cap
  have E : Hid (stepR fs c k cr fl dn op = ((doR fs c op).1, (doR fs c op).2, (chargeR k cr fl dn).2)) := by show _ = _; rw [stepR, if_pos hr]
  have HR : Hid ((chargeR k cr fl dn).1 = 0) := hr
  obtain ⟨hi, _⟩ := hasB_lt hq
  have ED : Hid (doR fs c op = if c < sumLen fs + op.data.size then (3, fs) else (0, fs.set (posOf op.name fs) ⟨fs[posOf op.name fs].name, fs[posOf op.name fs].data ++ op.data, fs[posOf op.name fs].synced⟩)) := by show _ = _; rw [doR_there (by omega) hq hi]; simp [hk]
  have HQ : Hid (hasB fs op.name (posOf op.name fs) = true) := hq
  clear hq
  have HKD : Hid (op.kind = 2) := hk
  clear h hr hk
  go_enter Tryz.func46, Tryz.ntmps46
  go_wp2_with fail
  refine (charge_any D 77 v (.int .i64 c) k cr fl dn _ (HD.out.later (bnew _ _)).blk hk0 hk1).mono ?_
  rintro e w1 ⟨rfl, hbut, hblk⟩
  have HD1 : Hid (DriveAt w1 B D fs c (chargeR k cr fl dn).2.1 cr fl (chargeR k cr fl dn).2.2 v) := (HD.out.later (bnew _ _)).charged hbut hblk
  have HB1 : Hid (Rest B w w1) := Rest.charge HD.out HD.out.size hbut
  have hOD : ¬ (w.heap.size = D) := by have := lt_of_block HD.out.blk; omega
  have HO : Hid (OpAt w1 w.heap.size op 48) := Blk.keeps (S := fun k => k = D) (g := w.heap.size) (heap_alloc_new w (.cells #[.int .i64 op.kind, .string op.name, .string op.to, .string op.data, .int .i64 op.size] 48)) (Keeps.but hbut) hOD
  obtain ⟨o0, o1, o2, o3, o4⟩ := HO.out.cells
  clear hbut hblk
  rw [HR.out]
  simp only [errV]
  have hk := HKD.out
  obtain ⟨a, cap, rfl, hfin⟩ := HD1.out.files
  have p1 := Later.cells o1
  have p4 := Later.cells HD1.out.cell4
  have hne := Later.there w1
  have HFx : Hid (∀ x : Later w1, FilesIn x.w' a fs) := fun x => hfin.later x.h
  have HDx : Hid (∀ x : Later w1, DriveAt x.w' B D fs c (chargeR k cr fl dn).2.1 cr fl (chargeR k cr fl dn).2.2 (.slice a fs.length cap)) := fun x => HD1.out.later x.h
  have HOx : Hid (∀ x : Later w1, OpAt x.w' w.heap.size op 48) := fun x => Blk.later HO.out x.h
  have hl2 : fs.length ≤ 1048576 := by omega
  clear o1 o2 o3 o4 hfin HO
  go_wp2_with fail
  refine wp_region_later (by kernel_rfl) (by kernel_rfl) ?_
  repeat (go_big_quiet_step (first | (go_at_call 61; exact calls_later (findFile_is _ _ _ _ _ (HFx.out _) HA.out hl2))))
  refine wpQuiet_nil ?_
  rintro _ ⟨y, rfl⟩
  have HD2 : Hid (DriveAt y.w' B D fs c (chargeR k cr fl dn).2.1 cr fl (chargeR k cr fl dn).2.2 (.slice a fs.length cap)) := HDx.out y
  have HO2 : Hid (OpAt y.w' w.heap.size op 48) := HOx.out y
  have HB2 : Hid (Rest B w y.w') := HB1.out.on y.h HD1.out.size
  clear o0 p1 p4 hne HDx HFx HOx HD1 HB1
  generalize y.w' = W at *
  clear y
  rw [HQ.out]
  obtain ⟨o0, o1, o2, o3, o4⟩ := HO2.out.cells
  clear o1 o2 o4
  go_wp2_with fail
  refine (appendTo_any B D _ fs c _ cr fl _ _ op.data _ HD2.out hi hl2 hsum hcap).mono ?_
  rintro e w3 ⟨hd3, hb3⟩
  have HB3 : Hid (Rest B w w3) := HB2.out.trans hb3
  clear hb3 o0 o3
  rcases hd3 with ⟨hlt, rfl, hd⟩ | ⟨hge, rfl, hd⟩
  · have EQ : Hid (doR fs c op = (3, fs)) := by show _ = _; rw [ED.out, if_pos hlt]
    have HD3 : Hid (DriveAt w3 B D fs c (chargeR k cr fl dn).2.1 cr fl (chargeR k cr fl dn).2.2 (.slice a fs.length cap)) := hd
    clear hd hlt
    go_wp2
    go_ret
    rw [E.out, EQ.out]
    exact ⟨rfl, HB3.out.below, fun _ => HB3.out.other, _, HD3.out, fun _ => rfl⟩
  · have EQ : Hid (doR fs c op = (0, fs.set (posOf op.name fs) ⟨fs[posOf op.name fs].name, fs[posOf op.name fs].data ++ op.data, fs[posOf op.name fs].synced⟩)) := by show _ = _; rw [ED.out, if_neg (by omega)]
    have HD3 : Hid (DriveAt w3 B D (fs.set (posOf op.name fs) ⟨fs[posOf op.name fs].name, fs[posOf op.name fs].data ++ op.data, fs[posOf op.name fs].synced⟩) c (chargeR k cr fl dn).2.1 cr fl (chargeR k cr fl dn).2.2 (.slice a fs.length cap)) := hd
    clear hd hge
    go_wp2
    go_ret
    rw [E.out, EQ.out]
    exact ⟨rfl, HB3.out.below, fun _ => HB3.out.other, _, HD3.out, fun _ => rfl⟩
set_option maxRecDepth 100000 in
set_option maxHeartbeats 1000000 in
theorem step_sync (w : World) (B D : Nat) (fs : List FileD) (c k cr fl : Int) (dn : Bool) (v : Value) (op : OpD) (h : Ready w B D fs c k cr fl dn v op) (hr : (chargeR k cr fl dn).1 = 0) (hk : op.kind = 3) (hq : hasB fs op.name (posOf op.name fs) = true) : Steps w B D fs c k cr fl dn v op := by
  unfold Steps
  have HD : Hid (DriveAt w B D fs c k cr fl dn v) := h.drive
  have hk0 := h.k0
  have hk1 := h.k1
  have HA : Hid (Asc fs) := h.asc
  have hlen := h.len
  have hsum := h.sum
  have hcap := h.cap
  have E : Hid (stepR fs c k cr fl dn op = ((doR fs c op).1, (doR fs c op).2, (chargeR k cr fl dn).2)) := by show _ = _; rw [stepR, if_pos hr]
  have HR : Hid ((chargeR k cr fl dn).1 = 0) := hr
  obtain ⟨hi, _⟩ := hasB_lt hq
  have EQ : Hid (doR fs c op = (0, fs.set (posOf op.name fs) ⟨fs[posOf op.name fs].name, fs[posOf op.name fs].data, fs[posOf op.name fs].data.size⟩)) := by show _ = _; rw [doR_there (by omega) hq hi]; simp [hk]
  clear hsum hcap
  have HQ : Hid (hasB fs op.name (posOf op.name fs) = true) := hq
  clear hq
  have HKD : Hid (op.kind = 3) := hk
  clear h hr hk
  go_enter Tryz.func46, Tryz.ntmps46
  go_wp2_with fail
  refine (charge_any D 77 v (.int .i64 c) k cr fl dn _ (HD.out.later (bnew _ _)).blk hk0 hk1).mono ?_
  rintro e w1 ⟨rfl, hbut, hblk⟩
  have HD1 : Hid (DriveAt w1 B D fs c (chargeR k cr fl dn).2.1 cr fl (chargeR k cr fl dn).2.2 v) := (HD.out.later (bnew _ _)).charged hbut hblk
  have HB1 : Hid (Rest B w w1) := Rest.charge HD.out HD.out.size hbut
  have hOD : ¬ (w.heap.size = D) := by have := lt_of_block HD.out.blk; omega
  have HO : Hid (OpAt w1 w.heap.size op 48) := Blk.keeps (S := fun k => k = D) (g := w.heap.size) (heap_alloc_new w (.cells #[.int .i64 op.kind, .string op.name, .string op.to, .string op.data, .int .i64 op.size] 48)) (Keeps.but hbut) hOD
  obtain ⟨o0, o1, o2, o3, o4⟩ := HO.out.cells
  clear hbut hblk
  rw [HR.out]
  simp only [errV]
  have hk := HKD.out
  obtain ⟨a, cap, rfl, hfin⟩ := HD1.out.files
  have p1 := Later.cells o1
  have p4 := Later.cells HD1.out.cell4
  have hne := Later.there w1
  have HFx : Hid (∀ x : Later w1, FilesIn x.w' a fs) := fun x => hfin.later x.h
  have HDx : Hid (∀ x : Later w1, DriveAt x.w' B D fs c (chargeR k cr fl dn).2.1 cr fl (chargeR k cr fl dn).2.2 (.slice a fs.length cap)) := fun x => HD1.out.later x.h
  have HOx : Hid (∀ x : Later w1, OpAt x.w' w.heap.size op 48) := fun x => Blk.later HO.out x.h
  have hl2 : fs.length ≤ 1048576 := by omega
  clear o1 o2 o3 o4 hfin HO
  go_wp2_with fail
  refine wp_region_later (by kernel_rfl) (by kernel_rfl) ?_
  repeat (go_big_quiet_step (first | (go_at_call 61; exact calls_later (findFile_is _ _ _ _ _ (HFx.out _) HA.out hl2))))
  refine wpQuiet_nil ?_
  rintro _ ⟨y, rfl⟩
  have HD2 : Hid (DriveAt y.w' B D fs c (chargeR k cr fl dn).2.1 cr fl (chargeR k cr fl dn).2.2 (.slice a fs.length cap)) := HDx.out y
  have HO2 : Hid (OpAt y.w' w.heap.size op 48) := HOx.out y
  have HB2 : Hid (Rest B w y.w') := HB1.out.on y.h HD1.out.size
  clear o0 p1 p4 hne HDx HFx HOx HD1 HB1
  generalize y.w' = W at *
  clear y
  rw [HQ.out]
  obtain ⟨o0, o1, o2, o3, o4⟩ := HO2.out.cells
  obtain ⟨g, cap', ev, hgD, hBg⟩ := HD2.out.slice (by omega)
  simp only [Value.slice.injEq] at ev
  obtain ⟨rfl, _, rfl⟩ := ev
  obtain ⟨cur, _, hblk, hnc, hcm, hcs, hrows⟩ := files_of_row HD2.out.row
  have r1 := (hrows _ hi).2.1
  rw [Nat.zero_add] at r1
  have q4 := HD2.out.cell4
  have HS : Hid (Calls Tryz.prog 63 #[.pointer (some ⟨g, posOf op.name fs * 3, none⟩)] W fun e w' => e = .returned (.tuple #[]) ∧ w' = W.setCell ⟨g, posOf op.name fs * 3 + 2, none⟩ (.int .i64 fs[posOf op.name fs].data.size)) := sync_any g _ cur 71 _ W hblk r1 (by omega)
  have HD3 : Hid (DriveAt (W.setCell ⟨g, posOf op.name fs * 3 + 2, none⟩ (.int .i64 fs[posOf op.name fs].data.size)) B D (fs.set (posOf op.name fs) ⟨fs[posOf op.name fs].name, fs[posOf op.name fs].data, fs[posOf op.name fs].data.size⟩) c (chargeR k cr fl dn).2.1 cr fl (chargeR k cr fl dn).2.2 (.slice (some ⟨g, 0, none⟩) fs.length cap)) :=
    HD2.out.put ((But.refl _ _).setCell _ _) (hblk.set _ _) (by simp [hcs]) (rows_put2 hi hrows _)
  have HB3 : Hid (Rest B w (W.setCell ⟨g, posOf op.name fs * 3 + 2, none⟩ (.int .i64 fs[posOf op.name fs].data.size))) := HB2.out.set hblk (Or.inl rfl) hBg _
  clear hblk hrows r1 o1 o2 o3 o4
  go_wp2_with fail
  refine HS.out.mono ?_
  rintro e w3 ⟨rfl, rfl⟩
  go_wp2
  go_ret
  rw [E.out, EQ.out]
  exact ⟨rfl, HB3.out.below, fun _ => HB3.out.other, _, HD3.out, fun _ => rfl⟩
set_option maxRecDepth 100000 in
set_option maxHeartbeats 1000000 in
theorem step_trunc_bad (w : World) (B D : Nat) (fs : List FileD) (c k cr fl : Int) (dn : Bool) (v : Value) (op : OpD) (h : Ready w B D fs c k cr fl dn v op) (hr : (chargeR k cr fl dn).1 = 0) (hk : op.kind = 4) (hq : hasB fs op.name (posOf op.name fs) = true) (hi : posOf op.name fs < fs.length) (hb : btwB op.size 0 fs[posOf op.name fs].data.size = false) : Steps w B D fs c k cr fl dn v op := by
  unfold Steps
  have HD : Hid (DriveAt w B D fs c k cr fl dn v) := h.drive
  have hk0 := h.k0
  have hk1 := h.k1
  have HA : Hid (Asc fs) := h.asc
  have hlen := h.len
  have hsum := h.sum
  have hcap := h.cap
  have E : Hid (stepR fs c k cr fl dn op = ((doR fs c op).1, (doR fs c op).2, (chargeR k cr fl dn).2)) := by show _ = _; rw [stepR, if_pos hr]
  have HR : Hid ((chargeR k cr fl dn).1 = 0) := hr
  have EQ : Hid (doR fs c op = (6, fs)) := by show _ = _; rw [doR_there (by omega) hq hi]; simp [hk, hb]
  clear hsum hcap
  have HQ : Hid (hasB fs op.name (posOf op.name fs) = true) := hq
  clear hq
  have HKD : Hid (op.kind = 4) := hk
  clear h hr hk
  go_enter Tryz.func46, Tryz.ntmps46
  go_wp2_with fail
  refine (charge_any D 77 v (.int .i64 c) k cr fl dn _ (HD.out.later (bnew _ _)).blk hk0 hk1).mono ?_
  rintro e w1 ⟨rfl, hbut, hblk⟩
  have HD1 : Hid (DriveAt w1 B D fs c (chargeR k cr fl dn).2.1 cr fl (chargeR k cr fl dn).2.2 v) := (HD.out.later (bnew _ _)).charged hbut hblk
  have HB1 : Hid (Rest B w w1) := Rest.charge HD.out HD.out.size hbut
  have hOD : ¬ (w.heap.size = D) := by have := lt_of_block HD.out.blk; omega
  have HO : Hid (OpAt w1 w.heap.size op 48) := Blk.keeps (S := fun k => k = D) (g := w.heap.size) (heap_alloc_new w (.cells #[.int .i64 op.kind, .string op.name, .string op.to, .string op.data, .int .i64 op.size] 48)) (Keeps.but hbut) hOD
  obtain ⟨o0, o1, o2, o3, o4⟩ := HO.out.cells
  clear hbut hblk
  rw [HR.out]
  simp only [errV]
  have hk := HKD.out
  obtain ⟨a, cap, rfl, hfin⟩ := HD1.out.files
  have p1 := Later.cells o1
  have p4 := Later.cells HD1.out.cell4
  have hne := Later.there w1
  have HFx : Hid (∀ x : Later w1, FilesIn x.w' a fs) := fun x => hfin.later x.h
  have HDx : Hid (∀ x : Later w1, DriveAt x.w' B D fs c (chargeR k cr fl dn).2.1 cr fl (chargeR k cr fl dn).2.2 (.slice a fs.length cap)) := fun x => HD1.out.later x.h
  have HOx : Hid (∀ x : Later w1, OpAt x.w' w.heap.size op 48) := fun x => Blk.later HO.out x.h
  have hl2 : fs.length ≤ 1048576 := by omega
  clear o1 o2 o3 o4 hfin HO
  go_wp2_with fail
  refine wp_region_later (by kernel_rfl) (by kernel_rfl) ?_
  repeat (go_big_quiet_step (first | (go_at_call 61; exact calls_later (findFile_is _ _ _ _ _ (HFx.out _) HA.out hl2))))
  refine wpQuiet_nil ?_
  rintro _ ⟨y, rfl⟩
  have HD2 : Hid (DriveAt y.w' B D fs c (chargeR k cr fl dn).2.1 cr fl (chargeR k cr fl dn).2.2 (.slice a fs.length cap)) := HDx.out y
  have HO2 : Hid (OpAt y.w' w.heap.size op 48) := HOx.out y
  have HB2 : Hid (Rest B w y.w') := HB1.out.on y.h HD1.out.size
  clear o0 p1 p4 hne HDx HFx HOx HD1 HB1
  generalize y.w' = W at *
  clear y
  rw [HQ.out]
  obtain ⟨o0, o1, o2, o3, o4⟩ := HO2.out.cells
  obtain ⟨g, cap', ev, hgD, hBg⟩ := HD2.out.slice (by omega)
  simp only [Value.slice.injEq] at ev
  obtain ⟨rfl, _, rfl⟩ := ev
  obtain ⟨cur, _, hblk, hnc, hcm, hcs, hrows⟩ := files_of_row HD2.out.row
  have r1 := (hrows _ hi).2.1
  rw [Nat.zero_add] at r1
  have q4 := HD2.out.cell4
  have HS : Hid (∀ W', Blk W' g cur 71 → Calls Tryz.prog 64 #[.pointer (some ⟨g, posOf op.name fs * 3, none⟩), .int .i64 op.size] W' fun e w' => e = .returned (errV 6) ∧ Below W'.heap.size W' w') := fun W' h => truncate_bad g _ cur 71 _ op.size W' h r1 hb
  have HBK : Hid (Blk W g cur 71) := hblk
  clear hblk hrows r1 o1 o2 o3 hb
  go_wp2_with fail
  go_region_with (go_at_call 64; refine (HS.out _ (HBK.out.later (Below.refl _ _).drew)).mono ?_; rintro e w3 ⟨rfl, hb3⟩)
  all_goals (
    simp only [errV]
    go_wp2
    go_ret
    rw [E.out, EQ.out]
    have hR : Rest B w _ := (HB2.out.on (Below.refl _ _).drew HD2.out.size).on hb3 HD2.out.size
    exact ⟨rfl, hR.below, fun _ => hR.other, _, (HD2.out.later (Below.refl _ _).drew).later hb3, fun _ => rfl⟩)
set_option maxRecDepth 100000 in
set_option maxHeartbeats 1000000 in
theorem step_trunc (w : World) (B D : Nat) (fs : List FileD) (c k cr fl : Int) (dn : Bool) (v : Value) (op : OpD) (h : Ready w B D fs c k cr fl dn v op) (hr : (chargeR k cr fl dn).1 = 0) (hk : op.kind = 4) (hq : hasB fs op.name (posOf op.name fs) = true) (hi : posOf op.name fs < fs.length) (hb : btwB op.size 0 fs[posOf op.name fs].data.size = true) : Steps w B D fs c k cr fl dn v op := by
  unfold Steps
  have HD : Hid (DriveAt w B D fs c k cr fl dn v) := h.drive
  have hk0 := h.k0
  have hk1 := h.k1
  have HA : Hid (Asc fs) := h.asc
  have hlen := h.len
  have hsum := h.sum
  have hcap := h.cap
  have E : Hid (stepR fs c k cr fl dn op = ((doR fs c op).1, (doR fs c op).2, (chargeR k cr fl dn).2)) := by show _ = _; rw [stepR, if_pos hr]
  have HR : Hid ((chargeR k cr fl dn).1 = 0) := hr
  have EQ : Hid (doR fs c op = (0, fs.set (posOf op.name fs) ⟨fs[posOf op.name fs].name, fs[posOf op.name fs].data.extract 0 op.size.toNat, op.size⟩)) := by show _ = _; rw [doR_there (by omega) hq hi]; simp [hk, hb]
  have hdl : fs[posOf op.name fs].data.size ≤ 1000000000 := by
    have h1 := sumLen_take_succ fs _ hi
    have h2 := sumLen_take_le fs (posOf op.name fs + 1)
    omega
  clear hsum hcap
  have HQ : Hid (hasB fs op.name (posOf op.name fs) = true) := hq
  clear hq
  have HKD : Hid (op.kind = 4) := hk
  clear h hr hk
  go_enter Tryz.func46, Tryz.ntmps46
  go_wp2_with fail
  refine (charge_any D 77 v (.int .i64 c) k cr fl dn _ (HD.out.later (bnew _ _)).blk hk0 hk1).mono ?_
  rintro e w1 ⟨rfl, hbut, hblk⟩
  have HD1 : Hid (DriveAt w1 B D fs c (chargeR k cr fl dn).2.1 cr fl (chargeR k cr fl dn).2.2 v) := (HD.out.later (bnew _ _)).charged hbut hblk
  have HB1 : Hid (Rest B w w1) := Rest.charge HD.out HD.out.size hbut
  have hOD : ¬ (w.heap.size = D) := by have := lt_of_block HD.out.blk; omega
  have HO : Hid (OpAt w1 w.heap.size op 48) := Blk.keeps (S := fun k => k = D) (g := w.heap.size) (heap_alloc_new w (.cells #[.int .i64 op.kind, .string op.name, .string op.to, .string op.data, .int .i64 op.size] 48)) (Keeps.but hbut) hOD
  obtain ⟨o0, o1, o2, o3, o4⟩ := HO.out.cells
  clear hbut hblk
  rw [HR.out]
  simp only [errV]
  have hk := HKD.out
  obtain ⟨a, cap, rfl, hfin⟩ := HD1.out.files
  have p1 := Later.cells o1
  have p4 := Later.cells HD1.out.cell4
  have hne := Later.there w1
  have HFx : Hid (∀ x : Later w1, FilesIn x.w' a fs) := fun x => hfin.later x.h
  have HDx : Hid (∀ x : Later w1, DriveAt x.w' B D fs c (chargeR k cr fl dn).2.1 cr fl (chargeR k cr fl dn).2.2 (.slice a fs.length cap)) := fun x => HD1.out.later x.h
  have HOx : Hid (∀ x : Later w1, OpAt x.w' w.heap.size op 48) := fun x => Blk.later HO.out x.h
  have hl2 : fs.length ≤ 1048576 := by omega
  clear o1 o2 o3 o4 hfin HO
  go_wp2_with fail
  refine wp_region_later (by kernel_rfl) (by kernel_rfl) ?_
  repeat (go_big_quiet_step (first | (go_at_call 61; exact calls_later (findFile_is _ _ _ _ _ (HFx.out _) HA.out hl2))))
  refine wpQuiet_nil ?_
  rintro _ ⟨y, rfl⟩
  have HD2 : Hid (DriveAt y.w' B D fs c (chargeR k cr fl dn).2.1 cr fl (chargeR k cr fl dn).2.2 (.slice a fs.length cap)) := HDx.out y
  have HO2 : Hid (OpAt y.w' w.heap.size op 48) := HOx.out y
  have HB2 : Hid (Rest B w y.w') := HB1.out.on y.h HD1.out.size
  clear o0 p1 p4 hne HDx HFx HOx HD1 HB1
  generalize y.w' = W at *
  clear y
  rw [HQ.out]
  obtain ⟨o0, o1, o2, o3, o4⟩ := HO2.out.cells
  obtain ⟨g, cap', ev, hgD, hBg⟩ := HD2.out.slice (by omega)
  simp only [Value.slice.injEq] at ev
  obtain ⟨rfl, _, rfl⟩ := ev
  obtain ⟨cur, _, hblk, hnc, hcm, hcs, hrows⟩ := files_of_row HD2.out.row
  have r1 := (hrows _ hi).2.1
  rw [Nat.zero_add] at r1
  have q4 := HD2.out.cell4
  have HS : Hid (∀ W', Blk W' g cur 71 → Calls Tryz.prog 64 #[.pointer (some ⟨g, posOf op.name fs * 3, none⟩), .int .i64 op.size] W' fun e w' => e = .returned (errV 0) ∧ But g W' w' ∧
    Blk w' g ((cur.setIfInBounds (posOf op.name fs * 3 + 1) (.string (fs[posOf op.name fs].data.extract 0 op.size.toNat))).setIfInBounds (posOf op.name fs * 3 + 2) (.int .i64 op.size)) 71) := fun W' h => truncate_ok g _ cur 71 _ op.size W' h r1 (by omega) hb hdl
  have HBK : Hid (Blk W g cur 71) := hblk
  have HRW : Hid (∀ m (hm : m < fs.length), RowFile cur 0 m fs[m]) := hrows
  clear hblk hrows r1 o1 o2 o3 hb hdl
  go_wp2_with fail
  go_region_with (go_at_call 64; refine (HS.out _ (HBK.out.later (Below.refl _ _).drew)).mono ?_; rintro e w3 ⟨rfl, hbut, hb3⟩)
  all_goals (
    simp only [errV]
    go_wp2
    go_ret
    rw [E.out, EQ.out]
    have hR : Rest B w _ := (HB2.out.on (Below.refl _ _).drew HD2.out.size).but hbut (HBK.out.later (Below.refl _ _).drew) (Or.inl rfl) hBg HD2.out.size
    exact ⟨rfl, hR.below, fun _ => hR.other, _, (HD2.out.later (Below.refl _ _).drew).put hbut hb3 (by simp [hcs]) (rows_put hi HRW.out _ _), fun _ => rfl⟩)
theorem step_any (w : World) (B D : Nat) (fs : List FileD) (c k cr fl : Int) (dn : Bool) (v : Value) (op : OpD) (h : Ready w B D fs c k cr fl dn v op) (hop : btwB op.kind 1 6 = true) : Steps w B D fs c k cr fl dn v op := by
  have hb : 1 ≤ op.kind ∧ op.kind ≤ 6 := by simpa [btwB] using hop
  by_cases hr : (chargeR k cr fl dn).1 = 0
  · by_cases h1 : op.kind = 1
    · exact step_create w B D fs c k cr fl dn v op h hr h1
    · cases hq : hasB fs op.name (posOf op.name fs) with
      | false => exact step_missing w B D fs c k cr fl dn v op h hr h1 hq
      | true =>
        obtain ⟨hi, _⟩ := hasB_lt hq
        by_cases h2 : op.kind = 2
        · exact step_append w B D fs c k cr fl dn v op h hr h2 hq
        by_cases h3 : op.kind = 3
        · exact step_sync w B D fs c k cr fl dn v op h hr h3 hq
        by_cases h4 : op.kind = 4
        · cases hs : btwB op.size 0 fs[posOf op.name fs].data.size with
          | false => exact step_trunc_bad w B D fs c k cr fl dn v op h hr h4 hq hi hs
          | true => exact step_trunc w B D fs c k cr fl dn v op h hr h4 hq hi hs
        by_cases h5 : op.kind = 5
        · exact step_rename w B D fs c k cr fl dn v op h hr h5 hq
        · exact step_delete w B D fs c k cr fl dn v op h hr (by omega) hq
  · exact step_refused w B D fs c k cr fl dn v op h hr
end Go.Proofs.YtboofidegpnkaaaGreatDoor
