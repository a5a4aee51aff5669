import Derived.Test.YtojeemogabhaoaaGreatDoorProg
import Derived.Test.YtojeemogabhaoaaGreatDoorJ13IFault
import Derived.Test.YtojeemogabhaoaaGreatDoorJ01BlkN
import Derived.Shelf.SlSortCmp.WholeK
import Derived.Test.YtojeemogabhaoaaGreatDoorJ11IRd
import Derived.Deep.AppendLies
import Derived.Test.YtojeemogabhaoaaGreatDoorJ05Cfg
import Derived.Laws.StructEq
import Derived.Shelf.SlicesE.Equal
import Derived.Shelf.SlicesQ.Equal
namespace Go.Proofs.YtojeemogabhaoaaGreatDoor
open Go.RowKit
def BigL (ls : List LabD) : Prop := ∀ i (h : i < ls.length), ls[i].name.size ≤ 1000000000 ∧ ls[i].value.size ≤ 1000000000
def faultR (ls : List LabD) : Nat × Nat :=
  if 16 < ls.length then (40, 0) else match firstBad ls 0 with
  | some (c, i) => (c, i)
  | none => match firstTw [] ls 0 with
    | some i => (45, i)
    | none => if ((metV ls).toList == ByteArray.empty.toList) = true then (46, 0) else (0, 0)
theorem ret_2 {a b c d : Nat} (h1 : a = c) (h2 : b = d) : Ending.returned (.tuple #[.int .i64 (a : Nat), .int .i64 (b : Nat)]) = .returned (.tuple #[.int .i64 (c : Nat), .int .i64 (d : Nat)]) := by rw [h1, h2]
theorem fault_many {ls : List LabD} (h : 16 < ls.length) : faultR ls = (40, 0) := by unfold faultR; rw [if_pos h]
theorem fault_bad {ls : List LabD} (h : ¬ 16 < ls.length) {c i : Nat} (hb : firstBad ls 0 = some (c, i)) : faultR ls = (c, i) := by unfold faultR; rw [if_neg h, hb]
theorem fault_twice {ls : List LabD} (h : ¬ 16 < ls.length) (hb : firstBad ls 0 = none) {i : Nat} (ht : firstTw [] ls 0 = some i) : faultR ls = (45, i) := by unfold faultR; rw [if_neg h, hb, ht]
theorem fault_end {ls : List LabD} (h : ¬ 16 < ls.length) (hb : firstBad ls 0 = none) (ht : firstTw [] ls 0 = none) : faultR ls = if ((metV ls).toList == ByteArray.empty.toList) = true then (46, 0) else (0, 0) := by unfold faultR; rw [if_neg h, hb, ht]
set_option maxRecDepth 100000 in
set_option maxHeartbeats 2000000 in
theorem faultOf_any (a : Option Addr) (cap : Nat) (ls : List LabD) (w : World) (hf : LabsIn w a ls) (hB : BigL ls) (hlen : ls.length ≤ 2000000) (hcap : ls.length ≤ cap) (hT : UTab w) :
    Calls Tryz.prog 158 #[.slice a ls.length cap] w fun e w' => e = .returned (.tuple #[.int .i64 ((faultR ls).1 : Nat), .int .i64 ((faultR ls).2 : Nat)]) ∧ Below w.heap.size w w' := by
  have HF : Hid (LabsIn w a ls) := hf
  have HB : Hid (BigL ls) := hB
  have HT : Hid (UTab w) := hT
  clear hf hB hT
  by_cases h16 : 16 < ls.length
  · rw [fault_many h16]
    go_enter Tryz.func158, Tryz.ntmps158
    go_wp2
    go_ret2
    exact ⟨rfl, Below.refl _ _⟩
  have H16 : Hid (¬ 16 < ls.length) := h16
  go_enter Tryz.func158, Tryz.ntmps158
  go_wp2
  go_loopw [4, 5, 6, 14] (fun _ _ _ i wr => ∃ k : Nat, k ≤ ls.length ∧ i = .int .i64 k ∧ Hid (firstBad ls 0 = firstBad (ls.drop k) k) ∧ Below w.heap.size w wr) (fun _ _ _ i _ => ls.length - (intOf i).toNat)
  case atStart => exact ⟨0, Nat.zero_le _, rfl, rfl, Below.refl _ _⟩
  case round =>
    obtain ⟨k, hk, rfl, HK, hbel⟩ := hrel
    by_cases hlt : k < ls.length
    · obtain ⟨b, o, rfl, hb, c0, c1⟩ := (HF.out.later hbel).at hlt
      obtain ⟨hs1, hs2⟩ := HB.out k hlt
      have HLC : Hid (∀ W, UTab W → Calls Tryz.prog 162 #[.agg #[.string ls[k].name, .string ls[k].value]] W fun e w' => e = .returned (.int .i64 (labV ls[k] : Nat)) ∧ Below W.heap.size W w') := fun W h => labelCode_any ls[k] W hs1 hs2 h
      have HS := firstBad_step ls k hlt
      have hnb : ¬ b = wr.heap.size := by omega
      by_cases h0 : labV ls[k] = 0
      · have E : Hid (firstBad ls 0 = firstBad (ls.drop (k + 1)) (k + 1)) := by show _ = _; rw [HK.out, HS, if_pos h0]
        have HLC2 : Hid (∀ W, UTab W → Calls Tryz.prog 162 #[.agg #[.string ls[k].name, .string ls[k].value]] W fun e w' => e = .returned (.int .i64 0) ∧ Below W.heap.size W w') := by
          show ∀ _, _
          have := HLC.out
          rw [h0] at this
          exact this
        clear HS HLC h0 hs1 hs2
        generalize ls[k].name = nm at *
        generalize ls[k].value = va at *
        go_wp2_with fail
        refine (HLC2.out _ ((HT.out.later hbel).later (bnew _ _))).mono ?_
        rintro e w1 ⟨rfl, hb1⟩
        have HB1 : Hid (Below w.heap.size w w1) := bto (bto hbel (bnew _ _)) hb1
        clear hb1
        go_wp2
        exact ⟨⟨k + 1, by omega, by go_num, E.out, HB1.out⟩, by simp [intOf]; omega⟩
      · have E : Hid (faultR ls = (labV ls[k], k)) := fault_bad H16.out (by rw [HK.out, HS, if_neg h0])
        have h0b : ((labV ls[k] : Int) != 0) = true := by simp; omega
        clear HS h0 hs1 hs2
        generalize labV ls[k] = V at *
        generalize ls[k].name = nm at *
        generalize ls[k].value = va at *
        go_wp2_with fail
        refine (HLC.out _ ((HT.out.later hbel).later (bnew _ _))).mono ?_
        rintro e w1 ⟨rfl, hb1⟩
        have HB1 : Hid (Below w.heap.size w w1) := bto (bto hbel (bnew _ _)) hb1
        clear hb1
        go_wp2
        go_ret2
        exact ⟨ret_2 (by rw [E.out]) (by rw [E.out]), HB1.out⟩
    · have HN : Hid (firstBad ls 0 = none) := by
        show _ = _
        rw [HK.out, List.drop_of_length_le (by omega)]; rfl
      clear HK
      go_wp2
      clear hlt hk
      go_loopw [7, 8, 28] (fun _ _ i wr => ∃ k : Nat, k ≤ ls.length ∧ i = .int .i64 k ∧ Hid (firstTw [] ls 0 = firstTw (ls.take k) (ls.drop k) k) ∧ Below w.heap.size w wr) (fun _ _ i _ => ls.length - (intOf i).toNat)
      case atStart => exact ⟨0, Nat.zero_le _, rfl, rfl, hbel⟩
      case round =>
        clear hbel
        obtain ⟨k, hk, rfl, HK, hbel⟩ := hrel
        by_cases hlt : k < ls.length
        · obtain ⟨b, o, rfl, hb, c0, c1⟩ := (HF.out.later hbel).at hlt
          have HS := firstTw_step ls k hlt
          have hnb : ¬ b = wr.heap.size := by omega
          have hat : LabsAt wr b o ls := by
            rcases HF.out.later hbel with h | ⟨b', o', e, _, h⟩
            · rw [h] at hlt; exact absurd hlt (by simp)
            · simp only [Option.some.injEq, Addr.mk.injEq, and_true] at e
              obtain ⟨rfl, rfl⟩ := e
              exact h
          have HHN : Hid (∀ W, Below wr.heap.size wr W → Calls Tryz.prog 163 #[.slice (some ⟨b, o, none⟩) k cap, .string ls[k].name] W fun e w' => e = .returned (.bool ((ls.take k).any fun x => sameN x ls[k])) ∧ Below W.heap.size W w') := fun W hW => by
            have h2 : LabsAt W b o ls := fun i hi => by
              have := hat i hi
              exact ⟨(hW.cell hb).trans this.1, (hW.cell hb).trans this.2⟩
            exact hasName_any b o k cap ls ls[k].name W (Nat.lt_of_lt_of_le hb hW.size) h2 (by omega) hlen
          have hk0 : (0 : Int) ≤ (k : Int) := by omega
          have hkc : (k : Int) ≤ (cap : Int) := by omega
          clear hat
          by_cases ht : ((ls.take k).any fun x => sameN x ls[k]) = true
          · have E : Hid (faultR ls = (45, k)) := fault_twice H16.out HN.out (by rw [HK.out, HS, if_pos ht])
            have HHN2 : Hid (∀ W, Below wr.heap.size wr W → Calls Tryz.prog 163 #[.slice (some ⟨b, o, none⟩) k cap, .string ls[k].name] W fun e w' => e = .returned (.bool true) ∧ Below W.heap.size W w') := by
              show ∀ _, _
              have := HHN.out
              rw [ht] at this
              exact this
            clear HS HHN ht
            generalize ls[k].name = nm at *
            generalize ls[k].value = va at *
            have d0 : ∀ x : Later (wr.alloc (.cells #[.string nm, .string va] 135)), x.w'.cell? ⟨wr.heap.size, 0, none⟩ = some (.string nm) := Later.cells (by simp)
            have hne := Later.there (wr.alloc (.cells #[.string nm, .string va] 135))
            go_wp2_with fail
            refine wp_region_later (by kernel_rfl) (by kernel_rfl) ?_
            repeat (go_big_quiet_step (first | (go_at_call 163; exact calls_later (HHN2.out _ (bto (bnew _ _) (Later.h _))))))
            refine wpQuiet_nil ?_
            rintro _ ⟨x, rfl⟩
            have HX : Hid (Below w.heap.size w x.w') := bto (bto hbel (bnew _ _)) x.h
            clear d0 hne
            generalize x.w' = W at *
            clear x
            go_wp2
            go_ret2
            exact ⟨ret_2 (by rw [E.out]) (by rw [E.out]), HX.out⟩
          · have E : Hid (firstTw [] ls 0 = firstTw (ls.take (k + 1)) (ls.drop (k + 1)) (k + 1)) := by show _ = _; rw [HK.out, HS, if_neg ht]
            have HHN2 : Hid (∀ W, Below wr.heap.size wr W → Calls Tryz.prog 163 #[.slice (some ⟨b, o, none⟩) k cap, .string ls[k].name] W fun e w' => e = .returned (.bool false) ∧ Below W.heap.size W w') := by
              show ∀ _, _
              have h1 : ((ls.take k).any fun x => sameN x ls[k]) = false := by simpa using ht
              have := HHN.out
              rw [h1] at this
              exact this
            clear HS HHN ht
            generalize ls[k].name = nm at *
            generalize ls[k].value = va at *
            have d0 : ∀ x : Later (wr.alloc (.cells #[.string nm, .string va] 135)), x.w'.cell? ⟨wr.heap.size, 0, none⟩ = some (.string nm) := Later.cells (by simp)
            have hne := Later.there (wr.alloc (.cells #[.string nm, .string va] 135))
            go_wp2_with fail
            refine wp_region_later (by kernel_rfl) (by kernel_rfl) ?_
            repeat (go_big_quiet_step (first | (go_at_call 163; exact calls_later (HHN2.out _ (bto (bnew _ _) (Later.h _))))))
            refine wpQuiet_nil ?_
            rintro _ ⟨x, rfl⟩
            have HX : Hid (Below w.heap.size w x.w') := bto (bto hbel (bnew _ _)) x.h
            clear d0 hne
            generalize x.w' = W at *
            clear x
            go_wp2
            exact ⟨⟨k + 1, by omega, by go_num, E.out, HX.out⟩, by simp [intOf]; omega⟩
        · have HN2 : Hid (firstTw [] ls 0 = none) := by
            show _ = _
            rw [HK.out, List.drop_of_length_le (by omega)]; rfl
          have HM : Hid (Calls Tryz.prog 125 #[.slice a ls.length cap] wr fun e w' => e = .returned (.string (metV ls)) ∧ Below wr.heap.size wr w') := metricOf_any a cap ls wr (HF.out.later hbel) hlen
          have E := fault_end H16.out HN.out HN2.out
          have HEM : Hid (ByteArray.empty.toList = []) := by show _ = _; rw [ByteArray.toList_eq]; rfl
          generalize metV ls = M at *
          by_cases hm : (M.toList == ByteArray.empty.toList) = true
          · have E2 : Hid (faultR ls = (46, 0)) := by show _ = _; rw [E, if_pos hm]
            have hmb : M.toList.isEmpty = true := by rw [HEM.out] at hm; simpa using hm
            clear hm E
            go_wp2_with fail
            refine HM.out.mono ?_
            rintro e w1 ⟨rfl, hb1⟩
            have HB1 : Hid (Below w.heap.size w w1) := bto hbel hb1
            clear hb1
            go_wp2
            go_ret2
            exact ⟨ret_2 (by rw [E2.out]) (by rw [E2.out]), HB1.out⟩
          · have E2 : Hid (faultR ls = (0, 0)) := by show _ = _; rw [E, if_neg hm]
            have hmb : M.toList.isEmpty = false := by rw [HEM.out] at hm; simpa using hm
            clear hm E
            go_wp2_with fail
            refine HM.out.mono ?_
            rintro e w1 ⟨rfl, hb1⟩
            have HB1 : Hid (Below w.heap.size w w1) := bto hbel hb1
            clear hb1
            go_wp2
            go_ret2
            exact ⟨ret_2 (by rw [E2.out]) (by rw [E2.out]), HB1.out⟩
end Go.Proofs.YtojeemogabhaoaaGreatDoor
namespace Go.Proofs.YtojeemogabhaoaaGreatDoor
open Go.RowKit
def cmpZ (x y : ByteArray) : Int := if Op.bytesLess x.toList y.toList = true then -1 else if (x.toList == y.toList) = true then 0 else 1
set_option maxHeartbeats 400000 in
theorem isNaN_any (s : ByteArray) (w : World) : Calls Tryz.prog 150 #[.string s] w fun e w' => e = .returned (.bool false) ∧ w' = w := by
  go_enter Tryz.func150, Tryz.ntmps150
  go_wp2
  go_ret
  exact ⟨rfl, rfl⟩
set_option maxHeartbeats 400000 in
theorem compare_any (x y : ByteArray) (w : World) : Calls Tryz.prog 161 #[.string x, .string y] w fun e w' => e = .returned (.int .i64 (cmpZ x y)) ∧ w' = w := by
  by_cases h1 : Op.bytesLess x.toList y.toList = true
  · have E : Hid (cmpZ x y = -1) := by show _ = _; simp [cmpZ, h1]
    go_enter Tryz.func161, Tryz.ntmps161
    go_wp2_with (first | (go_at_call 150; refine (isNaN_any _ _).mono ?_; rintro e w' ⟨rfl, rfl⟩))
    go_ret
    exact ⟨ret_int E.out.symm, rfl⟩
  have h1' : Op.bytesLess x.toList y.toList = false := by simpa using h1
  by_cases h2 : (x.toList == y.toList) = true
  · have E : Hid (cmpZ x y = 0) := by show _ = _; simp [cmpZ, h1', h2]
    clear h1
    go_enter Tryz.func161, Tryz.ntmps161
    go_wp2_with (first | (go_at_call 150; refine (isNaN_any _ _).mono ?_; rintro e w' ⟨rfl, rfl⟩))
    go_ret
    exact ⟨ret_int E.out.symm, rfl⟩
  have h2' : (x.toList == y.toList) = false := by simpa using h2
  have E : Hid (cmpZ x y = 1) := by show _ = _; simp only [cmpZ, h1', h2']; rfl
  clear h1 h2
  go_enter Tryz.func161, Tryz.ntmps161
  go_wp2_with (first | (go_at_call 150; refine (isNaN_any _ _).mono ?_; rintro e w' ⟨rfl, rfl⟩))
  go_ret
  exact ⟨ret_int E.out.symm, rfl⟩
end Go.Proofs.YtojeemogabhaoaaGreatDoor
namespace Go.Proofs.YtojeemogabhaoaaGreatDoor
open Go.RowKit Go.Sort
def cfL (x y : LabD) : Int := cmpZ x.name y.name
theorem ltL (x y : LabD) : ltOf cfL x y = lessN x y := by
  unfold ltOf cfL cmpZ lessN
  split
  · rename_i h; rw [h]; rfl
  · rename_i h
    have h' : Op.bytesLess x.name.toList y.name.toList = false := by simpa using h
    rw [h']
    split <;> rfl
theorem swoL : SWO (ltOf cfL) where
  irrefl x := by rw [ltL]; exact less_irrefl _
  trans x y z h1 h2 := by rw [ltL] at *; exact less_trans _ _ _ h1 h2
  ntrans x y z h1 h2 := by rw [ltL] at *; exact le_trans_L (x := z) (y := y) (z := x) h2 h1
set_option maxRecDepth 100000 in
set_option maxHeartbeats 1000000 in
theorem sortFn_any (x y : LabD) (W : World) : Calls Tryz.prog 160 #[.agg #[.string x.name, .string x.value], .agg #[.string y.name, .string y.value]] W fun e w' => e = .returned (.int .i64 (cfL x y)) ∧ ∃ q os', w' = grow (W.drewN q) os' := by
  have hcon := fun W' => compare_any x.name y.name W'
  unfold cfL
  generalize cmpZ x.name y.name = r at hcon ⊢
  go_enter Tryz.func160, Tryz.ntmps160
  go_wp2_with (go_at_call 161; refine (hcon _).mono ?_; rintro e w' ⟨rfl, rfl⟩)
  go_ret
  exact ⟨rfl, 0, _, by rw [alloc_eq_grow, alloc_eq_grow, grow_grow]; rfl⟩
section
variable [Inhabited LabD]
theorem cmpLays_any (blk off size : Nat) (w : World) : CmpLays Tryz.prog 160 #[] encL 2 cfL blk off size w :=
  fun _ _ _ _ x y => sortFn_any x y _
theorem sort_block {w : World} {g n : Nat} {cur : Array Value} {t : TypeId} (h : Blk w g cur t) (d : Array LabD) (os : Array Obj) : ∃ cur', Blk (sortWorldK encL 2 w g 0 n d os) g cur' t := by
  have hg := lt_of_block h
  refine ⟨putCells id 0 (flatK encL 2 d) cur, ?_⟩
  unfold Blk sortWorldK putRowK putRow mapBlock
  rw [heap_grow_old _ _ (by simpa [ahead] using hg)]
  show (Array.modify w.heap g _)[g]? = _
  rw [Array.getElem?_modify, if_pos rfl]
  unfold Blk at h
  rw [h]
  rfl
theorem sort_below {w : World} {g n B : Nat} (hB : B ≤ g) (hg : g < w.heap.size) (d : Array LabD) (os : Array Obj) : Below B w (sortWorldK encL 2 w g 0 n d os) := by
  refine ⟨rfl, rfl, rfl, ?_, fun k hk => ?_⟩
  · simp [sortWorldK, putRowK, putRow, mapBlock]
  · unfold sortWorldK putRowK putRow mapBlock
    rw [heap_grow_old _ _ (by simp; omega)]
    show (Array.modify w.heap g _)[k]? = _
    rw [Array.getElem?_modify, if_neg (by omega)]
theorem holds_of {w : World} {g : Nat} {cur : Array Value} {t : TypeId} {ls : List LabD} (h : Blk w g cur t) (hl : LabsAt w g 0 ls) : HoldsK encL 2 w g 0 ls.toArray := by
  intro j hj
  rw [size_flatK] at hj
  have hj2 : j / 2 < ls.length := by simp at hj; omega
  refine ⟨?_, h.free _⟩
  rw [get_flatK _ _ _ _ hj]
  have e : ls.toArray[j / 2]! = ls[j / 2] := by simp [getElem!_pos, hj2]
  rw [e]
  have hc := hl (j / 2) hj2
  rcases Nat.mod_two_eq_zero_or_one j with hm | hm
  · rw [hm]
    have := hc.1
    rw [show 0 + j / 2 * 2 = 0 + j by omega] at this
    rw [this]
    rfl
  · rw [hm]
    have := hc.2
    rw [show 0 + j / 2 * 2 + 1 = 0 + j by omega] at this
    rw [this]
    rfl
theorem labs_of {w : World} {g B : Nat} {cur : Array Value} {t : TypeId} {d : Array LabD} (h : Blk w g cur t) (hB : B ≤ g) (hd : HoldsK encL 2 w g 0 d) : LabsOwn w B (some ⟨g, 0, none⟩) d.toList := by
  refine Or.inr ⟨g, 0, cur, t, rfl, hB, h, fun i hi => ?_⟩
  have hi' : i < d.size := by simpa using hi
  have h0 := (hd.cell (c := 0) hi' (by omega)).1
  have h1 := (hd.cell (c := 1) hi' (by omega)).1
  have e : d[i]! = d[i] := getElem!_pos d i hi'
  rw [e] at h0 h1
  rw [Array.getElem_toList]
  exact ⟨h0, h1⟩
theorem sorted_list {d : Array LabD} (h : SortedIn (ltOf cfL) 0 d.size d) : d.toList.Pairwise Le := by
  rw [List.pairwise_iff_getElem]
  intro i j hi hj hij
  have hj' : j < d.size := by simpa using hj
  have := h i j (Nat.zero_le _) hij hj'
  rw [ltL, getElem!_pos d i (by omega), getElem!_pos d j hj'] at this
  rw [Array.getElem_toList, Array.getElem_toList]
  exact this
set_option maxRecDepth 100000 in
set_option maxHeartbeats 1000000 in
theorem sortCall_any (g cap : Nat) (ls : List LabD) (w : World) (B : Nat) (hB : B ≤ g) {cur : Array Value} {t : TypeId} (hb : Blk w g cur t) (hl : LabsAt w g 0 ls) (hlen : ls.length ≤ 2000000) :
    Calls Tryz.prog 159 #[.slice (some ⟨g, 0, none⟩) ls.length cap, .func (.func 160) #[] #[]] w fun e w' =>
      e = .returned (.tuple #[]) ∧ ∃ ls', ls'.Perm ls ∧ ls'.Pairwise Le ∧ LabsOwn w' B (some ⟨g, 0, none⟩) ls' ∧ Below B w w' := by
  have eg : ∀ args w, (callFunc 160 args).run Tryz.prog w = .ok (.enter 160 args) w := enters_of Tryz.func160 (by kernel_rfl) rfl
  have hg := lt_of_block hb
  have hcon := AnyQ.slices_SortFunc Tryz.sortL 2 Tryz.isAgg135 Tryz.sizeOf135 encL (fun _ => rfl) (fun x v hv => by simp [encL] at hv; rcases hv with rfl | rfl <;> rfl) cfL swoL 160 #[] g 0 cap ls.toArray w eg (cmpLays_any g 0 _ w) (holds_of hb hl) hg (by simp; omega)
  change Calls Tryz.prog 159 _ _ _ at hcon
  refine hcon.mono ?_
  rintro e w' ⟨rfl, d', n, os, hp, hs, rfl⟩
  obtain ⟨hsz, _, hpp⟩ := hp
  obtain ⟨cur', hb'⟩ := sort_block (n := n) hb d' os
  have hd : HoldsK encL 2 (sortWorldK encL 2 w g 0 n d' os) g 0 d' :=
    holdsK_grow encL 2 _ _ _ _ _ (by simpa [putRowK, putRow, mapBlock, ahead] using hg) (holdsK_putRowK encL 2 _ _ _ ls.toArray d' (holdsK_ahead encL 2 _ _ _ _ _ (holds_of hb hl)) hsz)
  have hsz' : d'.size = ls.length := by simpa using hsz
  refine ⟨rfl, d'.toList, ?_, sorted_list (by rw [hsz']; simpa using hs), labs_of hb' hB hd, sort_below hB hg d' os⟩
  have e1 : d'.extract 0 ls.toArray.size = d' := by rw [← hsz]; simp
  have e2 : ls.toArray.extract 0 ls.toArray.size = ls.toArray := by simp
  rw [e1, e2] at hpp
  exact hpp
end
end Go.Proofs.YtojeemogabhaoaaGreatDoor
namespace Go.Proofs.YtojeemogabhaoaaGreatDoor
open Go.RowKit
theorem fault_canon (ls : List LabD) : ((faultR ls).1 = 0 → canonR ls = (insAll [] ls, 0, 0) ∧ NoTw ls ∧ metB ls = true ∧ (faultR ls).2 = 0 ∧ ¬ 16 < ls.length) ∧ ((faultR ls).1 ≠ 0 → canonR ls = ([], (faultR ls).1, (faultR ls).2)) := by
  by_cases h16 : 16 < ls.length
  · rw [fault_many h16, canon_many h16]
    exact ⟨fun h => absurd h (by simp), fun _ => rfl⟩
  cases hb : firstBad ls 0 with
  | some ci =>
    obtain ⟨c, i⟩ := ci
    rw [fault_bad h16 hb, canon_bad h16 hb]
    refine ⟨fun h => ?_, fun _ => rfl⟩
    exfalso
    have : ∀ (l : List LabD) (j : Nat), firstBad l j = some (c, i) → c ≠ 0 := by
      intro l
      induction l with
      | nil => intro j h; simp [firstBad] at h
      | cons x r ih =>
        intro j h
        rw [firstBad] at h
        split at h
        · exact ih _ h
        · rename_i hx
          simp only [Option.some.injEq, Prod.mk.injEq] at h
          rw [← h.1]
          exact hx
    exact this ls 0 hb h
  | none =>
    cases ht : firstTw [] ls 0 with
    | some i =>
      rw [fault_twice h16 hb ht, canon_twice h16 hb ht]
      exact ⟨fun h => absurd h (by simp), fun _ => rfl⟩
    | none =>
      have hn := noTw_of ls ht
      rw [fault_end h16 hb ht, metV_iff ls hn]
      cases hm : metB ls with
      | true =>
        rw [canon_ok h16 hb ht hm]
        exact ⟨fun _ => ⟨rfl, hn, rfl, rfl, h16⟩, fun h => absurd rfl h⟩
      | false =>
        rw [canon_met h16 hb ht hm]
        exact ⟨fun h => absurd h (by simp), fun _ => rfl⟩
theorem kept_some {ls : List LabD} (h : metB ls = true) : 0 < (keptL ls).length := by
  unfold metB at h
  rw [List.any_eq_true] at h
  obtain ⟨x, hx, hc⟩ := h
  rw [Bool.and_eq_true] at hc
  exact List.length_pos_of_mem (List.mem_filter.2 ⟨hx, hc.1⟩)
set_option maxRecDepth 100000 in
set_option maxHeartbeats 2000000 in
theorem implCanon_any (a : Option Addr) (cap : Nat) (ls : List LabD) (w : World) (hf : LabsIn w a ls) (hB : BigL ls) (hlen : ls.length ≤ 2000000) (hcap : ls.length ≤ cap) (hT : UTab w) :
    Calls Tryz.prog 153 #[.slice a ls.length cap] w fun e w' => ∃ a' cap', e = .returned (.tuple #[.slice a' (canonR ls).1.length cap', .int .i64 ((canonR ls).2.1 : Nat), .int .i64 ((canonR ls).2.2 : Nat)]) ∧ (canonR ls).1.length ≤ cap' ∧ LabsOwn w' w.heap.size a' (canonR ls).1 ∧ Below w.heap.size w w' := by
  have HFO : Hid (Calls Tryz.prog 158 #[.slice a ls.length cap] w fun e w' => e = .returned (.tuple #[.int .i64 ((faultR ls).1 : Nat), .int .i64 ((faultR ls).2 : Nat)]) ∧ Below w.heap.size w w') := faultOf_any a cap ls w hf hB hlen hcap hT
  have HF : Hid (LabsIn w a ls) := hf
  obtain ⟨hc0, hc1⟩ := fault_canon ls
  clear hf hB hT
  by_cases h0 : (faultR ls).1 = 0
  · obtain ⟨hcr, hnt, hmet, h2, h16⟩ := hc0 h0
    have HFO2 : Hid (Calls Tryz.prog 158 #[.slice a ls.length cap] w fun e w' => e = .returned (.tuple #[.int .i64 0, .int .i64 0]) ∧ Below w.heap.size w w') := by
      show Calls _ _ _ _ _
      have := HFO.out
      rw [h0, h2] at this
      exact this
    have HCR : Hid (canonR ls = (insAll [] ls, 0, 0) ∧ NoTw ls ∧ 0 < (keptL ls).length) := ⟨hcr, hnt, kept_some hmet⟩
    obtain ⟨ti, hti, hz0, hz1, hz2⟩ := info_lab
    have HI : Hid (Tryz.prog.info? 135 = some ti) := hti
    clear hc0 hc1 h0 hcr hnt hmet h2 HFO hti
    go_enter Tryz.func153, Tryz.ntmps153
    go_wp2_with fail
    refine HFO2.out.mono ?_
    rintro e w1 ⟨rfl, hb1⟩
    have HB1 : Hid (Below w.heap.size w w1) := hb1
    clear hb1 HFO2
    go_wp2
    go_loopw [7, 9, 21] (fun out _ i wr => ∃ (k : Nat) (ys : List LabD) (av : Option Addr) (cv : Nat), k ≤ ls.length ∧ ys.length ≤ k ∧ Hid (ys = keptL (ls.take k)) ∧ i = .int .i64 k ∧ out = .slice av ys.length cv ∧ Hid (wr.ownsRow w.heap.size 135 2 (.slice av ys.length cv) ys.length (flatL ys)) ∧ Below w.heap.size w wr) (fun _ _ i _ => ls.length - (intOf i).toNat)
    case atStart => exact ⟨0, [], none, 0, Nat.zero_le _, Nat.zero_le _, rfl, rfl, rfl, ⟨rfl, Or.inl ⟨rfl, rfl⟩⟩, HB1.out⟩
    case round =>
      obtain ⟨k, ys, av, cv, hk, hy, HY, rfl, rfl, hrow, hbel⟩ := hrel
      by_cases hlt : k < ls.length
      · obtain ⟨b, o, rfl, hb, c0, c1⟩ := (HF.out.later hbel).at hlt
        have HS := keptL_take ls k hlt
        have hE := isEmp_eq ls[k]
        have hnb : ¬ b = wr.heap.size := by omega
        have hsz := hbel.size
        by_cases he : isEmp ls[k] = true
        · have E : Hid (ys = keptL (ls.take (k + 1))) := by show _ = _; rw [HS, if_pos he, List.append_nil]; exact HY.out
          have heb : ls[k].value.toList.isEmpty = true := by rw [← hE]; exact he
          clear HS he hE
          generalize ls[k].name = nm at *
          generalize ls[k].value = va at *
          go_wp2
          exact ⟨⟨k + 1, ys, av, cv, by omega, by omega, E.out, by go_num, rfl, row_later hrow.out (bnew _ _), bto hbel (bnew _ _)⟩, by simp [intOf]; omega⟩
        · have E : Hid (ys ++ [ls[k]] = keptL (ls.take (k + 1))) := by show _ = _; rw [HS, if_neg he, HY.out]
          have heb : ls[k].value.toList.isEmpty = false := by rw [← hE]; simpa using he
          have HLK : Hid (flatL [ls[k]] = [.string ls[k].name, .string ls[k].value]) := rfl
          clear HS he hE
          generalize ls[k] = lk at *
          generalize lk.name = nm at *
          generalize lk.value = va at *
          have HW : Hid (∀ x, Below wr.heap.size wr ((wr.alloc (.cells #[.string nm, .string va] 135)).alloc x)) := fun x => bto (bnew _ _) (bnew _ _)
          go_wp2_with (at_builtin; refine wpList_append_lies _ rfl _ _ _ rfl w.heap.size 135 ti _ 2 32 Tryz.underlying91 HI.out hz0 hz1 hz2 rfl (by omega) (.slice av ys.length cv) ys.length (flatL ys) rfl (by exact row_later hrow.out (HW.out _)) ⟨wr.heap.size + 1, 0, none⟩ 1 1 [.string nm, .string va] rfl rfl (by exact news_twoL _ _ #[.string nm, .string va] _) (by simp [Value.oneCell']) (by omega) (by simp [maxLen]; omega) (by omega) (by simp; omega) (wr.heap.size + 1 + 1) (by simp) ?_; intro g5 cap5 w5 hown5 hgrow5 hat5 hlt5)
          have hB5 : Below w.heap.size w w5 := (bto hbel (HW.out _)).grown hgrow5 (by simp; omega) (fun q hq => row_from hrow.out q hq)
          have hle : (ys ++ [lk]).length = ys.length + 1 := by simp
          have hxs : flatL ys ++ [.string nm, .string va] = flatL (ys ++ [lk]) := by rw [flatL_append, HLK.out]
          rw [hxs, ← hle] at hown5
          exact ⟨⟨k + 1, ys ++ [lk], some ⟨g5, 0, none⟩, cap5, by omega, by rw [hle]; omega, E.out, by go_num, by rw [hle], hown5, hB5⟩, by simp [intOf]; omega⟩
      · have HYE : Hid (ys = keptL ls) := by show _ = _; rw [HY.out, List.take_of_length_le (by omega)]
        have hpos : 0 < ys.length := by rw [HYE.out]; exact HCR.out.2.2
        have hlab : LabsOwn wr w.heap.size av ys := labs_of_row hrow.out
        obtain ⟨g, cur, hav, hgB, hgb, hat, hcv⟩ : ∃ g cur, av = some ⟨g, 0, none⟩ ∧ w.heap.size ≤ g ∧ Blk wr g cur 135 ∧ LabsAt wr g 0 ys ∧ ys.length ≤ cv := by
          rcases hrow.out.2 with ⟨_, hl⟩ | ⟨g, cap', cur, he, hgB, hg, hcc, _⟩
          · omega
          · simp only [Value.slice.injEq] at he
            rcases hlab with h | ⟨g', o', cur', t', e', _, _, hl⟩
            · rw [h] at hpos; exact absurd hpos (by simp)
            · rw [he.1] at e'
              simp only [Option.some.injEq, Addr.mk.injEq, and_true] at e'
              obtain ⟨rfl, rfl⟩ := e'
              exact ⟨g, cur, he.1, hgB, hg, hl, by rw [he.2.2]; exact hcc⟩
        have HSC : Hid (Calls Tryz.prog 159 #[.slice (some ⟨g, 0, none⟩) ys.length cv, .func (.func 160) #[] #[]] wr fun e w' =>
            e = .returned (.tuple #[]) ∧ ∃ ls', ls'.Perm ys ∧ ls'.Pairwise Le ∧ LabsOwn w' w.heap.size (some ⟨g, 0, none⟩) ls' ∧ Below w.heap.size wr w') := haveI := labI; sortCall_any g cv ys wr w.heap.size hgB hgb hat (by omega)
        subst hav
        clear hrow hlab hat hgb
        go_wp2_with fail
        refine HSC.out.mono ?_
        rintro e w2 ⟨rfl, ls', hp, hs, how, hb2⟩
        have E1 : ls' = insAll [] ls := sorted_is HCR.out.2.1 (by rw [← HYE.out]; exact hp) hs
        have EL : Hid (ys.length = (insAll [] ls).length) := by show _ = _; rw [← E1, hp.length_eq]
        have HOW : Hid (LabsOwn w2 w.heap.size (some ⟨g, 0, none⟩) (insAll [] ls)) := by rw [← E1]; exact how
        have HB2 : Hid (Below w.heap.size w w2) := hbel.trans hb2
        clear hp hs how hb2 E1
        go_wp2
        refine bodyPost_ret (v := .tuple #[.slice (some ⟨g, 0, none⟩) ys.length cv, .int .i64 0, .int .i64 0]) (by simp [results, Tryz.results153, go_sem]) rfl ⟨some ⟨g, 0, none⟩, cv, ?_, ?_, ?_, HB2.out⟩
        · rw [HCR.out.1, EL.out]; rfl
        · rw [HCR.out.1, ← EL.out]; exact hcv
        · rw [HCR.out.1]; exact HOW.out
  · have hcr := hc1 h0
    have HCR : Hid (canonR ls = ([], (faultR ls).1, (faultR ls).2)) := hcr
    have h0b : (((faultR ls).1 : Int) != 0) = true := by simp; omega
    clear hc0 hc1 h0 hcr
    generalize (faultR ls).1 = C at *
    generalize (faultR ls).2 = I at *
    go_enter Tryz.func153, Tryz.ntmps153
    go_wp2_with fail
    refine HFO.out.mono ?_
    rintro e w1 ⟨rfl, hb1⟩
    have HB1 : Hid (Below w.heap.size w w1) := hb1
    clear hb1 HFO
    go_wp2
    refine bodyPost_ret (v := .tuple #[.slice none 0 0, .int .i64 C, .int .i64 I]) (by simp [results, Tryz.results153, go_sem]) rfl ⟨none, 0, ?_, ?_, ?_, HB1.out⟩
    · rw [HCR.out]; rfl
    · rw [HCR.out]; exact Nat.le_refl _
    · rw [HCR.out]; exact Or.inl rfl
end Go.Proofs.YtojeemogabhaoaaGreatDoor
namespace Go.Proofs.YtojeemogabhaoaaGreatDoor
open Go.RowKit
theorem neqL : NeqAt Tryz.prog 135 (fun x : LabD => .agg #[.string x.name, .string x.value]) eqLabB := by
  refine ⟨fun x y w => ?_, GuardAt.agg _ (by kernel_rfl)⟩
  have u3 := Tryz.underlying9
  have a3 := Tryz.isAgg9
  have z3 := Tryz.sizeOf9
  have hS : Tryz.prog.underlying 135 = some (.struct (Tryz.prog.fieldsOf 135)) := by kernel_rfl
  have hp : Tryz.prog.stoodInHeld 135 = false := by kernel_rfl
  rw [run_neq_struct, show (10000 : Nat) = 9999 + 1 from rfl, run_equalIn_agg w 9999 135 _ _ hS hp]
  simp only [Program.fieldsOf, Tryz.underlying135]
  go_simp
  by_cases h1 : x.name.toList = y.name.toList <;> by_cases h2 : x.value.toList = y.value.toList <;> simp [eqLabB, h1, h2]
end Go.Proofs.YtojeemogabhaoaaGreatDoor
namespace Go.Proofs.YtojeemogabhaoaaGreatDoor
open Go.RowKit
theorem canon_zero {ls : List LabD} (h : (canonR ls).2.1 = 0) : 0 < (canonR ls).1.length ∧ 0 < ls.length := by
  obtain ⟨h0, h1⟩ := fault_canon ls
  by_cases hf : (faultR ls).1 = 0
  · obtain ⟨hc, _, hm, _⟩ := h0 hf
    have hk := kept_some hm
    have hl := keptL_len ls
    rw [hc]
    simp only
    rw [insAll_len]
    exact ⟨hk, by omega⟩
  · have hc := h1 hf
    rw [hc] at h
    exact absurd h hf
theorem allEq_same : ∀ (xs ys : List LabD), Lib.allEq eqLabB xs ys = sameLs xs ys
  | [], [] => rfl
  | [], _ :: _ => rfl
  | _ :: _, [] => rfl
  | x :: r, y :: q => by rw [Lib.allEq, sameLs, allEq_same r q]
theorem labs_cells [Inhabited LabD] {w : World} {b o : Nat} {ls : List LabD} (h : LabsAt w b o ls) : ∀ j, j < ls.length → ∀ i v, (encL ls[j]!)[i]? = some v → w.cell? ⟨b, o + j * 2 + i, none⟩ = some v := by
  intro j hj i v hi
  have h1 := h j hj
  have e : ls[j]! = ls[j] := getElem!_pos ls j hj
  rw [e] at hi
  match i, hi with
  | 0, hi => simp [encL] at hi; rw [← hi]; exact h1.1
  | 1, hi => simp [encL] at hi; rw [← hi]; exact h1.2
  | i + 2, hi => simp [encL] at hi
theorem LabsIn.some {w : World} {a : Option Addr} {ls : List LabD} (h : LabsIn w a ls) (h0 : 0 < ls.length) : ∃ b o, a = some ⟨b, o, none⟩ ∧ b < w.heap.size ∧ LabsAt w b o ls := by
  rcases h with rfl | h
  · exact absurd h0 (by simp)
  · exact h
theorem drewN_below (w : World) (q : Nat) : Below w.heap.size w (w.drewN q) := ⟨rfl, rfl, rfl, Nat.le_refl _, fun _ _ => rfl⟩
theorem equal_any (a a' : Option Addr) (cap cap' : Nat) (xs ys : List LabD) (w : World) (hx : LabsIn w a xs) (hy : LabsIn w a' ys) (hx0 : 0 < xs.length) (hy0 : 0 < ys.length) (hxl : xs.length ≤ 2000000) (hyl : ys.length ≤ 2000000) :
    Calls Tryz.prog 154 #[.slice a xs.length cap, .slice a' ys.length cap'] w fun e w' => e = .returned (.bool (sameLs xs ys)) ∧ Below w.heap.size w w' := by
  obtain ⟨b1, o1, rfl, _, h1⟩ := hx.some hx0
  obtain ⟨b2, o2, rfl, _, h2⟩ := hy.some hy0
  haveI := labI
  have hcon := AnyQ.slices_Equal Tryz.eqlL 2 Tryz.isAgg135 Tryz.sizeOf135 encL (fun _ => rfl) eqLabB neqL b1 o1 xs.length cap b2 o2 ys.length cap' xs ys w (Nat.le_refl _) (Nat.le_refl _) (by omega) (by omega) (labs_cells h1) (labs_cells h2)
  change Calls Tryz.prog 154 _ _ _ at hcon
  refine hcon.mono ?_
  rintro e w' ⟨rfl, q, rfl⟩
  rw [List.take_length, List.take_length, allEq_same]
  exact ⟨rfl, drewN_below w q⟩
set_option maxRecDepth 100000 in
set_option maxHeartbeats 1000000 in
theorem isCan_any (a : Option Addr) (cap : Nat) (ls : List LabD) (w : World) (hf : LabsIn w a ls) (hB : BigL ls) (hlen : ls.length ≤ 2000000) (hcap : ls.length ≤ cap) (hT : UTab w) :
    Calls Tryz.prog 142 #[.slice a ls.length cap] w fun e w' => e = .returned (.bool (canB ls)) ∧ Below w.heap.size w w' := by
  have HC : Hid (Calls Tryz.prog 153 #[.slice a ls.length cap] w fun e w' => ∃ a' cap', e = .returned (.tuple #[.slice a' (canonR ls).1.length cap', .int .i64 ((canonR ls).2.1 : Nat), .int .i64 ((canonR ls).2.2 : Nat)]) ∧ (canonR ls).1.length ≤ cap' ∧ LabsOwn w' w.heap.size a' (canonR ls).1 ∧ Below w.heap.size w w') := implCanon_any a cap ls w hf hB hlen hcap hT
  have HF : Hid (LabsIn w a ls) := hf
  have hcl := canon_len0 ls
  clear hf hB hT
  by_cases h0 : (canonR ls).2.1 = 0
  · obtain ⟨hp1, hp2⟩ := canon_zero h0
    have HEQ : Hid (∀ W af cf, LabsIn W af (canonR ls).1 → LabsIn W a ls → Calls Tryz.prog 154 #[.slice af (canonR ls).1.length cf, .slice a ls.length cap] W fun e w' => e = .returned (.bool (sameLs (canonR ls).1 ls)) ∧ Below W.heap.size W w') := fun W af cf h1 h2 => equal_any af a cf cap _ ls W h1 h2 hp1 hp2 (by omega) hlen
    have E : Hid (canB ls = sameLs (canonR ls).1 ls) := by show _ = _; unfold canB; rw [h0]; rfl
    have h0b : (((canonR ls).2.1 : Int) == 0) = true := by simp; omega
    rw [E.out]
    clear h0 E
    generalize sameLs (canonR ls).1 ls = SB at *
    generalize (canonR ls).1 = C at *
    generalize (canonR ls).2.1 = c1 at *
    generalize (canonR ls).2.2 = c2 at *
    go_enter Tryz.func142, Tryz.ntmps142
    go_wp2_with fail
    refine HC.out.mono ?_
    rintro e w1 ⟨af, cf, rfl, _, hof, hb1⟩
    have B1 : Hid (Below w.heap.size w w1) := hb1
    have O1 : Hid (LabsIn w1 af C ∧ LabsIn w1 a ls) := ⟨hof.labs, HF.out.later hb1⟩
    clear hof hb1 HC
    go_wp2_with fail
    refine (HEQ.out _ _ _ O1.out.1 O1.out.2).mono ?_
    rintro e w2 ⟨rfl, hb2⟩
    have B2 : Hid (Below w.heap.size w w2) := bto B1.out hb2
    clear hb2
    go_wp2
    go_ret
    exact ⟨rfl, B2.out⟩
  · have E : Hid (canB ls = false) := by show _ = _; unfold canB; rw [decide_eq_false h0]; rfl
    have h0b : (((canonR ls).2.1 : Int) == 0) = false := by simp; omega
    rw [E.out]
    clear h0 E
    generalize (canonR ls).1 = C at *
    generalize (canonR ls).2.1 = c1 at *
    generalize (canonR ls).2.2 = c2 at *
    go_enter Tryz.func142, Tryz.ntmps142
    go_wp2_with fail
    refine HC.out.mono ?_
    rintro e w1 ⟨af, cf, rfl, _, hof, hb1⟩
    have B1 : Hid (Below w.heap.size w w1) := hb1
    clear hof hb1 HC
    go_wp2
    go_ret
    exact ⟨rfl, B1.out⟩
end Go.Proofs.YtojeemogabhaoaaGreatDoor
