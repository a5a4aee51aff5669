import Derived.Test.YtnbkmmmlhlbfoaaGreatDoorProg
import Derived.Test.YtnbkmmmlhlbfoaaGreatDoorJ01DrawV
import Derived.Test.YtnbkmmmlhlbfoaaGreatDoorJ16IFaultOf
import Derived.Shelf.SlSortCmp.WholeK
import Derived.Test.YtnbkmmmlhlbfoaaGreatDoorJ03INum
import Derived.Deep.AppendLies
import Derived.Test.YtnbkmmmlhlbfoaaGreatDoorJ08DrwK
import Derived.Shelf.SlicesQ.Equal
import Derived.Test.YtnbkmmmlhlbfoaaGreatDoorJ04SVal
namespace Go.Proofs.YtnbkmmmlhlbfoaaGreatDoor
open Go.RowKit
def cmpZ (x y : ByteArray) : Int := if Op.bytesLess x.toList y.toList = true then -1 else if (x.toList == y.toList) = true then 0 else 1
set_option maxHeartbeats 400000 in
theorem isNaN_any (s : ByteArray) (w : World) : Calls Tryz.prog 127 #[.string s] w fun e w' => e = .returned (.bool false) ∧ w' = w := by
  go_enter Tryz.func127, Tryz.ntmps127
  go_wp2
  go_ret
  exact ⟨rfl, rfl⟩
set_option maxHeartbeats 400000 in
theorem compare_any (x y : ByteArray) (w : World) : Calls Tryz.prog 108 #[.string x, .string y] w fun e w' => e = .returned (.int .i64 (cmpZ x y)) ∧ w' = w := by
  by_cases h1 : Op.bytesLess x.toList y.toList = true
  · have E : Hid (cmpZ x y = -1) := by show _ = _; simp [cmpZ, h1]
    go_enter Tryz.func108, Tryz.ntmps108
    go_wp2_with (first | (go_at_call 127; refine (isNaN_any _ _).mono ?_; rintro e w' ⟨rfl, rfl⟩))
    go_ret
    exact ⟨ret_int E.out.symm, rfl⟩
  have h1' : Op.bytesLess x.toList y.toList = false := by simpa using h1
  by_cases h2 : (x.toList == y.toList) = true
  · have E : Hid (cmpZ x y = 0) := by show _ = _; simp [cmpZ, h1', h2]
    clear h1
    go_enter Tryz.func108, Tryz.ntmps108
    go_wp2_with (first | (go_at_call 127; refine (isNaN_any _ _).mono ?_; rintro e w' ⟨rfl, rfl⟩))
    go_ret
    exact ⟨ret_int E.out.symm, rfl⟩
  have h2' : (x.toList == y.toList) = false := by simpa using h2
  have E : Hid (cmpZ x y = 1) := by show _ = _; simp only [cmpZ, h1', h2']; rfl
  clear h1 h2
  go_enter Tryz.func108, Tryz.ntmps108
  go_wp2_with (first | (go_at_call 127; refine (isNaN_any _ _).mono ?_; rintro e w' ⟨rfl, rfl⟩))
  go_ret
  exact ⟨ret_int E.out.symm, rfl⟩
end Go.Proofs.YtnbkmmmlhlbfoaaGreatDoor
namespace Go.Proofs.YtnbkmmmlhlbfoaaGreatDoor
open Go.RowKit Go.Sort
def cfL (x y : LabD) : Int := cmpZ x.name y.name
theorem ltL (x y : LabD) : ltOf cfL x y = lessN x y := by
  unfold ltOf cfL cmpZ lessN
  split
  · rename_i h; rw [h]; rfl
  · rename_i h
    have h' : Op.bytesLess x.name.toList y.name.toList = false := by simpa using h
    rw [h']
    split <;> rfl
theorem swoL : SWO (ltOf cfL) where
  irrefl x := by rw [ltL]; exact less_irrefl _
  trans x y z h1 h2 := by rw [ltL] at *; exact less_trans _ _ _ h1 h2
  ntrans x y z h1 h2 := by rw [ltL] at *; exact le_trans_L (x := z) (y := y) (z := x) h2 h1
set_option maxRecDepth 100000 in
set_option maxHeartbeats 1000000 in
theorem sortFn_any (x y : LabD) (W : World) : Calls Tryz.prog 107 #[.agg #[.string x.name, .string x.value], .agg #[.string y.name, .string y.value]] W fun e w' => e = .returned (.int .i64 (cfL x y)) ∧ ∃ q os', w' = grow (W.drewN q) os' := by
  have hcon := fun W' => compare_any x.name y.name W'
  unfold cfL
  generalize cmpZ x.name y.name = r at hcon ⊢
  go_enter Tryz.func107, Tryz.ntmps107
  go_wp2_with (go_at_call 108; refine (hcon _).mono ?_; rintro e w' ⟨rfl, rfl⟩)
  go_ret
  exact ⟨rfl, 0, _, by rw [alloc_eq_grow, alloc_eq_grow, grow_grow]; rfl⟩
section
variable [Inhabited LabD]
theorem cmpLays_any (blk off size : Nat) (w : World) : CmpLays Tryz.prog 107 #[] encL 2 cfL blk off size w :=
  fun _ _ _ _ x y => sortFn_any x y _
theorem sort_block {w : World} {g n : Nat} {cur : Array Value} {t : TypeId} (h : Blk w g cur t) (d : Array LabD) (os : Array Obj) : ∃ cur', Blk (sortWorldK encL 2 w g 0 n d os) g cur' t := by
  have hg := lt_of_block h
  refine ⟨putCells id 0 (flatK encL 2 d) cur, ?_⟩
  unfold Blk sortWorldK putRowK putRow mapBlock
  rw [heap_grow_old _ _ (by simpa [ahead] using hg)]
  show (Array.modify w.heap g _)[g]? = _
  rw [Array.getElem?_modify, if_pos rfl]
  unfold Blk at h
  rw [h]
  rfl
theorem sort_below {w : World} {g n B : Nat} (hB : B ≤ g) (hg : g < w.heap.size) (d : Array LabD) (os : Array Obj) : Below B w (sortWorldK encL 2 w g 0 n d os) := by
  refine ⟨rfl, rfl, rfl, ?_, fun k hk => ?_⟩
  · simp [sortWorldK, putRowK, putRow, mapBlock]
  · unfold sortWorldK putRowK putRow mapBlock
    rw [heap_grow_old _ _ (by simp; omega)]
    show (Array.modify w.heap g _)[k]? = _
    rw [Array.getElem?_modify, if_neg (by omega)]
theorem holds_of {w : World} {g : Nat} {cur : Array Value} {t : TypeId} {ls : List LabD} (h : Blk w g cur t) (hl : LabsAt w g 0 ls) : HoldsK encL 2 w g 0 ls.toArray := by
  intro j hj
  rw [size_flatK] at hj
  have hj2 : j / 2 < ls.length := by simp at hj; omega
  refine ⟨?_, h.free _⟩
  rw [get_flatK _ _ _ _ hj]
  have e : ls.toArray[j / 2]! = ls[j / 2] := by simp [getElem!_pos, hj2]
  rw [e]
  have hc := hl (j / 2) hj2
  rcases Nat.mod_two_eq_zero_or_one j with hm | hm
  · rw [hm]
    have := hc.1
    rw [show 0 + j / 2 * 2 = 0 + j by omega] at this
    rw [this]
    rfl
  · rw [hm]
    have := hc.2
    rw [show 0 + j / 2 * 2 + 1 = 0 + j by omega] at this
    rw [this]
    rfl
theorem labs_of {w : World} {g B : Nat} {cur : Array Value} {t : TypeId} {d : Array LabD} (h : Blk w g cur t) (hB : B ≤ g) (hd : HoldsK encL 2 w g 0 d) : LabsOwn w B (some ⟨g, 0, none⟩) d.toList := by
  refine Or.inr ⟨g, 0, cur, t, rfl, hB, h, fun i hi => ?_⟩
  have hi' : i < d.size := by simpa using hi
  have h0 := (hd.cell (c := 0) hi' (by omega)).1
  have h1 := (hd.cell (c := 1) hi' (by omega)).1
  have e : d[i]! = d[i] := getElem!_pos d i hi'
  rw [e] at h0 h1
  rw [Array.getElem_toList]
  exact ⟨h0, h1⟩
theorem sorted_list {d : Array LabD} (h : SortedIn (ltOf cfL) 0 d.size d) : d.toList.Pairwise Le := by
  rw [List.pairwise_iff_getElem]
  intro i j hi hj hij
  have hj' : j < d.size := by simpa using hj
  have := h i j (Nat.zero_le _) hij hj'
  rw [ltL, getElem!_pos d i (by omega), getElem!_pos d j hj'] at this
  rw [Array.getElem_toList, Array.getElem_toList]
  exact this
set_option maxRecDepth 100000 in
set_option maxHeartbeats 1000000 in
theorem sortCall_any (g cap : Nat) (ls : List LabD) (w : World) (B : Nat) (hB : B ≤ g) {cur : Array Value} {t : TypeId} (hb : Blk w g cur t) (hl : LabsAt w g 0 ls) (hlen : ls.length ≤ 2000000) :
    Calls Tryz.prog 106 #[.slice (some ⟨g, 0, none⟩) ls.length cap, .func (.func 107) #[] #[]] w fun e w' =>
      e = .returned (.tuple #[]) ∧ ∃ ls', ls'.Perm ls ∧ ls'.Pairwise Le ∧ LabsOwn w' B (some ⟨g, 0, none⟩) ls' ∧ Below B w w' := by
  have eg : ∀ args w, (callFunc 107 args).run Tryz.prog w = .ok (.enter 107 args) w := enters_of Tryz.func107 (by kernel_rfl) rfl
  have hg := lt_of_block hb
  have hcon := AnyQ.slices_SortFunc Tryz.sortL 2 Tryz.isAgg83 Tryz.sizeOf83 encL (fun _ => rfl) (fun x v hv => by simp [encL] at hv; rcases hv with rfl | rfl <;> rfl) cfL swoL 107 #[] g 0 cap ls.toArray w eg (cmpLays_any g 0 _ w) (holds_of hb hl) hg (by simp; omega)
  change Calls Tryz.prog 106 _ _ _ at hcon
  refine hcon.mono ?_
  rintro e w' ⟨rfl, d', n, os, hp, hs, rfl⟩
  obtain ⟨hsz, _, hpp⟩ := hp
  obtain ⟨cur', hb'⟩ := sort_block (n := n) hb d' os
  have hd : HoldsK encL 2 (sortWorldK encL 2 w g 0 n d' os) g 0 d' :=
    holdsK_grow encL 2 _ _ _ _ _ (by simpa [putRowK, putRow, mapBlock, ahead] using hg) (holdsK_putRowK encL 2 _ _ _ ls.toArray d' (holdsK_ahead encL 2 _ _ _ _ _ (holds_of hb hl)) hsz)
  have hsz' : d'.size = ls.length := by simpa using hsz
  refine ⟨rfl, d'.toList, ?_, sorted_list (by rw [hsz']; simpa using hs), labs_of hb' hB hd, sort_below hB hg d' os⟩
  have e1 : d'.extract 0 ls.toArray.size = d' := by rw [← hsz]; simp
  have e2 : ls.toArray.extract 0 ls.toArray.size = ls.toArray := by simp
  rw [e1, e2] at hpp
  exact hpp
end
end Go.Proofs.YtnbkmmmlhlbfoaaGreatDoor
namespace Go.Proofs.YtnbkmmmlhlbfoaaGreatDoor
open Go.RowKit
theorem fault_canon (ls : List LabD) : ((faultR ls).1 = 0 → canonR ls = (insAll [] ls, 0, 0) ∧ NoTw ls ∧ metB ls = true ∧ (faultR ls).2 = 0 ∧ ¬ 16 < ls.length) ∧ ((faultR ls).1 ≠ 0 → canonR ls = ([], (faultR ls).1, (faultR ls).2)) := by
  by_cases h16 : 16 < ls.length
  · rw [fault_many h16, canon_many h16]
    exact ⟨fun h => absurd h (by simp), fun _ => rfl⟩
  cases hb : firstBad ls 0 with
  | some ci =>
    obtain ⟨c, i⟩ := ci
    rw [fault_bad h16 hb, canon_bad h16 hb]
    refine ⟨fun h => ?_, fun _ => rfl⟩
    exfalso
    have : ∀ (l : List LabD) (j : Nat), firstBad l j = some (c, i) → c ≠ 0 := by
      intro l
      induction l with
      | nil => intro j h; simp [firstBad] at h
      | cons x r ih =>
        intro j h
        rw [firstBad] at h
        split at h
        · exact ih _ h
        · rename_i hx
          simp only [Option.some.injEq, Prod.mk.injEq] at h
          rw [← h.1]
          exact hx
    exact this ls 0 hb h
  | none =>
    cases ht : firstTw [] ls 0 with
    | some i =>
      rw [fault_twice h16 hb ht, canon_twice h16 hb ht]
      exact ⟨fun h => absurd h (by simp), fun _ => rfl⟩
    | none =>
      have hn := noTw_of ls ht
      rw [fault_end h16 hb ht, metV_iff ls hn]
      cases hm : metB ls with
      | true =>
        rw [canon_ok h16 hb ht hm]
        exact ⟨fun _ => ⟨rfl, hn, rfl, rfl, h16⟩, fun h => absurd rfl h⟩
      | false =>
        rw [canon_met h16 hb ht hm]
        exact ⟨fun h => absurd h (by simp), fun _ => rfl⟩
theorem kept_some {ls : List LabD} (h : metB ls = true) : 0 < (keptL ls).length := by
  unfold metB at h
  rw [List.any_eq_true] at h
  obtain ⟨x, hx, hc⟩ := h
  rw [Bool.and_eq_true] at hc
  exact List.length_pos_of_mem (List.mem_filter.2 ⟨hx, hc.1⟩)
set_option maxRecDepth 100000 in
set_option maxHeartbeats 2000000 in
theorem implCanon_any (a : Option Addr) (cap : Nat) (ls : List LabD) (w : World) (hf : LabsIn w a ls) (hB : BigL ls) (hlen : ls.length ≤ 2000000) (hcap : ls.length ≤ cap) (hT : UTab w) :
    Calls Tryz.prog 88 #[.slice a ls.length cap] w fun e w' => ∃ a' cap', e = .returned (.tuple #[.slice a' (canonR ls).1.length cap', .int .i64 ((canonR ls).2.1 : Nat), .int .i64 ((canonR ls).2.2 : Nat)]) ∧ (canonR ls).1.length ≤ cap' ∧ LabsOwn w' w.heap.size a' (canonR ls).1 ∧ Below w.heap.size w w' := by
  have HFO : Hid (Calls Tryz.prog 105 #[.slice a ls.length cap] w fun e w' => e = .returned (.tuple #[.int .i64 ((faultR ls).1 : Nat), .int .i64 ((faultR ls).2 : Nat)]) ∧ Below w.heap.size w w') := faultOf_any a cap ls w hf hB hlen hcap hT
  have HF : Hid (LabsIn w a ls) := hf
  obtain ⟨hc0, hc1⟩ := fault_canon ls
  clear hf hB hT
  by_cases h0 : (faultR ls).1 = 0
  · obtain ⟨hcr, hnt, hmet, h2, h16⟩ := hc0 h0
    have HFO2 : Hid (Calls Tryz.prog 105 #[.slice a ls.length cap] w fun e w' => e = .returned (.tuple #[.int .i64 0, .int .i64 0]) ∧ Below w.heap.size w w') := by
      show Calls _ _ _ _ _
      have := HFO.out
      rw [h0, h2] at this
      exact this
    have HCR : Hid (canonR ls = (insAll [] ls, 0, 0) ∧ NoTw ls ∧ 0 < (keptL ls).length) := ⟨hcr, hnt, kept_some hmet⟩
    obtain ⟨ti, hti, hz0, hz1, hz2⟩ := info_lab
    have HI : Hid (Tryz.prog.info? 83 = some ti) := hti
    clear hc0 hc1 h0 hcr hnt hmet h2 HFO hti
    go_enter Tryz.func88, Tryz.ntmps88
    go_wp2_with fail
    refine HFO2.out.mono ?_
    rintro e w1 ⟨rfl, hb1⟩
    have HB1 : Hid (Below w.heap.size w w1) := hb1
    clear hb1 HFO2
    go_wp2
    go_loopw [7, 9, 21] (fun out _ i wr => ∃ (k : Nat) (ys : List LabD) (av : Option Addr) (cv : Nat), k ≤ ls.length ∧ ys.length ≤ k ∧ Hid (ys = keptL (ls.take k)) ∧ i = .int .i64 k ∧ out = .slice av ys.length cv ∧ Hid (wr.ownsRow w.heap.size 83 2 (.slice av ys.length cv) ys.length (flatL ys)) ∧ Below w.heap.size w wr) (fun _ _ i _ => ls.length - (intOf i).toNat)
    case atStart => exact ⟨0, [], none, 0, Nat.zero_le _, Nat.zero_le _, rfl, rfl, rfl, ⟨rfl, Or.inl ⟨rfl, rfl⟩⟩, HB1.out⟩
    case round =>
      obtain ⟨k, ys, av, cv, hk, hy, HY, rfl, rfl, hrow, hbel⟩ := hrel
      by_cases hlt : k < ls.length
      · obtain ⟨b, o, rfl, hb, c0, c1⟩ := (HF.out.later hbel).at hlt
        have HS := keptL_take ls k hlt
        have hE := isEmp_eq ls[k]
        have hnb : ¬ b = wr.heap.size := by omega
        have hsz := hbel.size
        by_cases he : isEmp ls[k] = true
        · have E : Hid (ys = keptL (ls.take (k + 1))) := by show _ = _; rw [HS, if_pos he, List.append_nil]; exact HY.out
          have heb : ls[k].value.toList.isEmpty = true := by rw [← hE]; exact he
          clear HS he hE
          generalize ls[k].name = nm at *
          generalize ls[k].value = va at *
          go_wp2
          exact ⟨⟨k + 1, ys, av, cv, by omega, by omega, E.out, by go_num, rfl, row_later hrow.out (bnew _ _), bto hbel (bnew _ _)⟩, by simp [intOf]; omega⟩
        · have E : Hid (ys ++ [ls[k]] = keptL (ls.take (k + 1))) := by show _ = _; rw [HS, if_neg he, HY.out]
          have heb : ls[k].value.toList.isEmpty = false := by rw [← hE]; simpa using he
          have HLK : Hid (flatL [ls[k]] = [.string ls[k].name, .string ls[k].value]) := rfl
          clear HS he hE
          generalize ls[k] = lk at *
          generalize lk.name = nm at *
          generalize lk.value = va at *
          have HW : Hid (∀ x, Below wr.heap.size wr ((wr.alloc (.cells #[.string nm, .string va] 83)).alloc x)) := fun x => bto (bnew _ _) (bnew _ _)
          go_wp2_with (at_builtin; refine wpList_append_lies _ rfl _ _ _ rfl w.heap.size 83 ti _ 2 32 Tryz.underlying66 HI.out hz0 hz1 hz2 rfl (by omega) (.slice av ys.length cv) ys.length (flatL ys) rfl (by exact row_later hrow.out (HW.out _)) ⟨wr.heap.size + 1, 0, none⟩ 1 1 [.string nm, .string va] rfl rfl (by exact news_twoL _ _ #[.string nm, .string va] _) (by simp [Value.oneCell']) (by omega) (by simp [maxLen]; omega) (by omega) (by simp; omega) (wr.heap.size + 1 + 1) (by simp) ?_; intro g5 cap5 w5 hown5 hgrow5 hat5 hlt5)
          have hB5 : Below w.heap.size w w5 := (bto hbel (HW.out _)).grown hgrow5 (by simp; omega) (fun q hq => row_from hrow.out q hq)
          have hle : (ys ++ [lk]).length = ys.length + 1 := by simp
          have hxs : flatL ys ++ [.string nm, .string va] = flatL (ys ++ [lk]) := by rw [flatL_append, HLK.out]
          rw [hxs, ← hle] at hown5
          exact ⟨⟨k + 1, ys ++ [lk], some ⟨g5, 0, none⟩, cap5, by omega, by rw [hle]; omega, E.out, by go_num, by rw [hle], hown5, hB5⟩, by simp [intOf]; omega⟩
      · have HYE : Hid (ys = keptL ls) := by show _ = _; rw [HY.out, List.take_of_length_le (by omega)]
        have hpos : 0 < ys.length := by rw [HYE.out]; exact HCR.out.2.2
        have hlab : LabsOwn wr w.heap.size av ys := labs_of_row hrow.out
        obtain ⟨g, cur, hav, hgB, hgb, hat, hcv⟩ : ∃ g cur, av = some ⟨g, 0, none⟩ ∧ w.heap.size ≤ g ∧ Blk wr g cur 83 ∧ LabsAt wr g 0 ys ∧ ys.length ≤ cv := by
          rcases hrow.out.2 with ⟨_, hl⟩ | ⟨g, cap', cur, he, hgB, hg, hcc, _⟩
          · omega
          · simp only [Value.slice.injEq] at he
            rcases hlab with h | ⟨g', o', cur', t', e', _, _, hl⟩
            · rw [h] at hpos; exact absurd hpos (by simp)
            · rw [he.1] at e'
              simp only [Option.some.injEq, Addr.mk.injEq, and_true] at e'
              obtain ⟨rfl, rfl⟩ := e'
              exact ⟨g, cur, he.1, hgB, hg, hl, by rw [he.2.2]; exact hcc⟩
        have HSC : Hid (Calls Tryz.prog 106 #[.slice (some ⟨g, 0, none⟩) ys.length cv, .func (.func 107) #[] #[]] wr fun e w' =>
            e = .returned (.tuple #[]) ∧ ∃ ls', ls'.Perm ys ∧ ls'.Pairwise Le ∧ LabsOwn w' w.heap.size (some ⟨g, 0, none⟩) ls' ∧ Below w.heap.size wr w') := haveI := labI; sortCall_any g cv ys wr w.heap.size hgB hgb hat (by omega)
        subst hav
        clear hrow hlab hat hgb
        go_wp2_with fail
        refine HSC.out.mono ?_
        rintro e w2 ⟨rfl, ls', hp, hs, how, hb2⟩
        have E1 : ls' = insAll [] ls := sorted_is HCR.out.2.1 (by rw [← HYE.out]; exact hp) hs
        have EL : Hid (ys.length = (insAll [] ls).length) := by show _ = _; rw [← E1, hp.length_eq]
        have HOW : Hid (LabsOwn w2 w.heap.size (some ⟨g, 0, none⟩) (insAll [] ls)) := by rw [← E1]; exact how
        have HB2 : Hid (Below w.heap.size w w2) := hbel.trans hb2
        clear hp hs how hb2 E1
        go_wp2
        refine bodyPost_ret (v := .tuple #[.slice (some ⟨g, 0, none⟩) ys.length cv, .int .i64 0, .int .i64 0]) (by simp [results, Tryz.results88, go_sem]) rfl ⟨some ⟨g, 0, none⟩, cv, ?_, ?_, ?_, HB2.out⟩
        · rw [HCR.out.1, EL.out]; rfl
        · rw [HCR.out.1, ← EL.out]; exact hcv
        · rw [HCR.out.1]; exact HOW.out
  · have hcr := hc1 h0
    have HCR : Hid (canonR ls = ([], (faultR ls).1, (faultR ls).2)) := hcr
    have h0b : (((faultR ls).1 : Int) != 0) = true := by simp; omega
    clear hc0 hc1 h0 hcr
    generalize (faultR ls).1 = C at *
    generalize (faultR ls).2 = I at *
    go_enter Tryz.func88, Tryz.ntmps88
    go_wp2_with fail
    refine HFO.out.mono ?_
    rintro e w1 ⟨rfl, hb1⟩
    have HB1 : Hid (Below w.heap.size w w1) := hb1
    clear hb1 HFO
    go_wp2
    refine bodyPost_ret (v := .tuple #[.slice none 0 0, .int .i64 C, .int .i64 I]) (by simp [results, Tryz.results88, go_sem]) rfl ⟨none, 0, ?_, ?_, ?_, HB1.out⟩
    · rw [HCR.out]; rfl
    · rw [HCR.out]; exact Nat.le_refl _
    · rw [HCR.out]; exact Or.inl rfl
end Go.Proofs.YtnbkmmmlhlbfoaaGreatDoor
namespace Go.Proofs.YtnbkmmmlhlbfoaaGreatDoor
open Go.RowKit
theorem canon_zero {ls : List LabD} (h : (canonR ls).2.1 = 0) : 0 < (canonR ls).1.length ∧ 0 < ls.length := by
  obtain ⟨h0, h1⟩ := fault_canon ls
  by_cases hf : (faultR ls).1 = 0
  · obtain ⟨hc, _, hm, _⟩ := h0 hf
    have hk := kept_some hm
    have hl := keptL_len ls
    rw [hc]
    simp only
    rw [insAll_len]
    exact ⟨hk, by omega⟩
  · have hc := h1 hf
    rw [hc] at h
    exact absurd h hf
theorem allEq_same : ∀ (xs ys : List LabD), Lib.allEq eqLabB xs ys = sameLs xs ys
  | [], [] => rfl
  | [], _ :: _ => rfl
  | _ :: _, [] => rfl
  | x :: r, y :: q => by rw [Lib.allEq, sameLs, allEq_same r q]
theorem labs_cells [Inhabited LabD] {w : World} {b o : Nat} {ls : List LabD} (h : LabsAt w b o ls) : ∀ j, j < ls.length → ∀ i v, (encL ls[j]!)[i]? = some v → w.cell? ⟨b, o + j * 2 + i, none⟩ = some v := by
  intro j hj i v hi
  have h1 := h j hj
  have e : ls[j]! = ls[j] := getElem!_pos ls j hj
  rw [e] at hi
  match i, hi with
  | 0, hi => simp [encL] at hi; rw [← hi]; exact h1.1
  | 1, hi => simp [encL] at hi; rw [← hi]; exact h1.2
  | i + 2, hi => simp [encL] at hi
theorem LabsIn.some {w : World} {a : Option Addr} {ls : List LabD} (h : LabsIn w a ls) (h0 : 0 < ls.length) : ∃ b o, a = some ⟨b, o, none⟩ ∧ b < w.heap.size ∧ LabsAt w b o ls := by
  rcases h with rfl | h
  · exact absurd h0 (by simp)
  · exact h
theorem drewN_below (w : World) (q : Nat) : Below w.heap.size w (w.drewN q) := ⟨rfl, rfl, rfl, Nat.le_refl _, fun _ _ => rfl⟩
theorem equal_any (a a' : Option Addr) (cap cap' : Nat) (xs ys : List LabD) (w : World) (hx : LabsIn w a xs) (hy : LabsIn w a' ys) (hx0 : 0 < xs.length) (hy0 : 0 < ys.length) (hxl : xs.length ≤ 2000000) (hyl : ys.length ≤ 2000000) :
    Calls Tryz.prog 89 #[.slice a xs.length cap, .slice a' ys.length cap'] w fun e w' => e = .returned (.bool (sameLs xs ys)) ∧ Below w.heap.size w w' := by
  obtain ⟨b1, o1, rfl, _, h1⟩ := hx.some hx0
  obtain ⟨b2, o2, rfl, _, h2⟩ := hy.some hy0
  haveI := labI
  have hcon := AnyQ.slices_Equal Tryz.eqlL 2 Tryz.isAgg83 Tryz.sizeOf83 encL (fun _ => rfl) eqLabB neqL b1 o1 xs.length cap b2 o2 ys.length cap' xs ys w (Nat.le_refl _) (Nat.le_refl _) (by omega) (by omega) (labs_cells h1) (labs_cells h2)
  change Calls Tryz.prog 89 _ _ _ at hcon
  refine hcon.mono ?_
  rintro e w' ⟨rfl, q, rfl⟩
  rw [List.take_length, List.take_length, allEq_same]
  exact ⟨rfl, drewN_below w q⟩
set_option maxRecDepth 100000 in
set_option maxHeartbeats 1000000 in
theorem isCan_any (a : Option Addr) (cap : Nat) (ls : List LabD) (w : World) (hf : LabsIn w a ls) (hB : BigL ls) (hlen : ls.length ≤ 2000000) (hcap : ls.length ≤ cap) (hT : UTab w) :
    Calls Tryz.prog 60 #[.slice a ls.length cap] w fun e w' => e = .returned (.bool (canB ls)) ∧ Below w.heap.size w w' := by
  have HC : Hid (Calls Tryz.prog 88 #[.slice a ls.length cap] w fun e w' => ∃ a' cap', e = .returned (.tuple #[.slice a' (canonR ls).1.length cap', .int .i64 ((canonR ls).2.1 : Nat), .int .i64 ((canonR ls).2.2 : Nat)]) ∧ (canonR ls).1.length ≤ cap' ∧ LabsOwn w' w.heap.size a' (canonR ls).1 ∧ Below w.heap.size w w') := implCanon_any a cap ls w hf hB hlen hcap hT
  have HF : Hid (LabsIn w a ls) := hf
  have hcl := canon_len0 ls
  clear hf hB hT
  by_cases h0 : (canonR ls).2.1 = 0
  · obtain ⟨hp1, hp2⟩ := canon_zero h0
    have HEQ : Hid (∀ W af cf, LabsIn W af (canonR ls).1 → LabsIn W a ls → Calls Tryz.prog 89 #[.slice af (canonR ls).1.length cf, .slice a ls.length cap] W fun e w' => e = .returned (.bool (sameLs (canonR ls).1 ls)) ∧ Below W.heap.size W w') := fun W af cf h1 h2 => equal_any af a cf cap _ ls W h1 h2 hp1 hp2 (by omega) hlen
    have E : Hid (canB ls = sameLs (canonR ls).1 ls) := by show _ = _; unfold canB; rw [h0]; rfl
    have h0b : (((canonR ls).2.1 : Int) == 0) = true := by simp; omega
    rw [E.out]
    clear h0 E
    generalize sameLs (canonR ls).1 ls = SB at *
    generalize (canonR ls).1 = C at *
    generalize (canonR ls).2.1 = c1 at *
    generalize (canonR ls).2.2 = c2 at *
    go_enter Tryz.func60, Tryz.ntmps60
    go_wp2_with fail
    refine HC.out.mono ?_
    rintro e w1 ⟨af, cf, rfl, _, hof, hb1⟩
    have B1 : Hid (Below w.heap.size w w1) := hb1
    have O1 : Hid (LabsIn w1 af C ∧ LabsIn w1 a ls) := ⟨hof.labs, HF.out.later hb1⟩
    clear hof hb1 HC
    go_wp2_with fail
    refine (HEQ.out _ _ _ O1.out.1 O1.out.2).mono ?_
    rintro e w2 ⟨rfl, hb2⟩
    have B2 : Hid (Below w.heap.size w w2) := bto B1.out hb2
    clear hb2
    go_wp2
    go_ret
    exact ⟨rfl, B2.out⟩
  · have E : Hid (canB ls = false) := by show _ = _; unfold canB; rw [decide_eq_false h0]; rfl
    have h0b : (((canonR ls).2.1 : Int) == 0) = false := by simp; omega
    rw [E.out]
    clear h0 E
    generalize (canonR ls).1 = C at *
    generalize (canonR ls).2.1 = c1 at *
    generalize (canonR ls).2.2 = c2 at *
    go_enter Tryz.func60, Tryz.ntmps60
    go_wp2_with fail
    refine HC.out.mono ?_
    rintro e w1 ⟨af, cf, rfl, _, hof, hb1⟩
    have B1 : Hid (Below w.heap.size w w1) := hb1
    clear hof hb1 HC
    go_wp2
    go_ret
    exact ⟨rfl, B1.out⟩
end Go.Proofs.YtnbkmmmlhlbfoaaGreatDoor
namespace Go.Proofs.YtnbkmmmlhlbfoaaGreatDoor
open Go.RowKit
theorem cnt_le (key : ByteArray) : cntR key ≤ 255 := by
  have := num_lt 1 ⟨key, false⟩
  unfold cntR
  omega
set_option maxRecDepth 100000 in
set_option maxHeartbeats 2000000 in
theorem labels_any (B : Nat) (key : ByteArray) (w : World) (hB : RB w B ⟨key, false⟩) (hs : key.size ≤ 1000000000) :
    Calls Tryz.prog 58 #[.pointer (some ⟨B, 0, none⟩)] w fun e w' => ∃ g cap, e = .returned (.slice (some ⟨g, 0, none⟩) (rdAll key).1.length cap) ∧ w'.ownsRow w.heap.size 83 2 (.slice (some ⟨g, 0, none⟩) (rdAll key).1.length cap) (rdAll key).1.length (flatL (rdAll key).1) ∧ RB w' B (rdAll key).2 ∧ But B w w' := by
  have HC : Hid (Calls Tryz.prog 86 #[.pointer (some ⟨B, 0, none⟩), .int .i64 1] w fun e w' => e = .returned (.int .i64 (cntR key : Nat)) ∧ RB w' B (numR 1 ⟨key, false⟩).2 ∧ But B w w') := number_any B ⟨key, false⟩ 1 w hB (by omega) hs
  have hBlt : B < w.heap.size := lt_of_block hB
  have hz : (numR 1 ⟨key, false⟩).2.rest.size ≤ 1000000000 := by
    have h2 := (take_le 1 ⟨key, false⟩).2.2
    have h3 : (numR 1 ⟨key, false⟩).2.rest.size ≤ key.size := h2
    omega
  have hcl := cnt_le key
  have HRA : Hid (rdAll key = rdK (numR 1 ⟨key, false⟩).2 (cntR key)) := by show _ = _; rw [rdAll]
  rw [HRA.out]
  clear HRA hB
  generalize (numR 1 ⟨key, false⟩).2 = r0 at *
  generalize cntR key = n at *
  obtain ⟨ti, hti, ht0, ht1, ht2⟩ := info_lab
  have HI : Hid (Tryz.prog.info? 83 = some ti) := hti
  have hmk : ∀ W : World, (Instr.makeSlice 66 (.int .i64 0) (.int .i64 (n : Nat))).run Tryz.prog W = .ok (.slice (some ⟨W.heap.size, 0, none⟩) 0 n) (W.alloc (.cells (madeCells #[.string ByteArray.empty, .string ByteArray.empty] (n * 2)) 83)) := fun W => by
    have hr := run_make (P := Tryz.prog) W 66 83 ti _ Tryz.underlying66 hti ht0 .i64 .i64 0 (n : Nat) (by omega) (by omega) (by rw [ht2]; omega) (by omega)
    simp only [Int.toNat_natCast, ht1] at hr
    exact hr
  clear hti
  go_enter Tryz.func58, Tryz.ntmps58
  go_wp2_with fail
  refine HC.out.mono ?_
  rintro e w1 ⟨rfl, hr1, hb1⟩
  have H1 : Hid (RB w1 B r0 ∧ But B w w1) := ⟨hr1, hb1⟩
  have hz1 := hb1.size
  clear hr1 hb1 HC
  go_wp2
  clear hmk
  go_loopw [4, 5, 11] (fun out _ i wr => ∃ (k : Nat) (ys : List LabD) (g cv : Nat), k ≤ n ∧ i = .int .i64 k ∧ ys.length ≤ k ∧ k ≤ ys.length ∧ out = .slice (some ⟨g, 0, none⟩) ys.length cv ∧ Hid (ys = (rdK r0 k).1) ∧ Hid (RB wr B (rdK r0 k).2) ∧ Hid (wr.ownsRow w.heap.size 83 2 (.slice (some ⟨g, 0, none⟩) ys.length cv) ys.length (flatL ys)) ∧ Hid (But B w wr)) (fun _ _ i _ => n - (intOf i).toNat)
  case atStart =>
    refine ⟨0, [], _, _, Nat.zero_le _, rfl, Nat.zero_le _, Nat.zero_le _, rfl, rfl, Blk.later H1.out.1 (bnew _ _), ⟨rfl, Or.inr ⟨w1.heap.size, n, _, rfl, hz1, heap_alloc_new _ _, Nat.zero_le _, by simp [maxLen]; omega, size_madeCells _ _, rfl⟩⟩, H1.out.2.alloc _⟩
  case round =>
    obtain ⟨k, ys, g, cv, hk, rfl, hyl, hyl2, rfl, HY, HRB, HROW, HBU⟩ := hrel
    by_cases hlt : k < n
    · have hrest : (rdK r0 k).2.rest.size ≤ 1000000000 := by have := (rd_big r0 k).1; omega
      have hrest2 : (textR 1 (rdK r0 k).2).2.rest.size ≤ 1000000000 := by have := (text_le 1 (rdK r0 k).2).2; omega
      have HT1 : Hid (∀ W, RB W B (rdK r0 k).2 → Calls Tryz.prog 87 #[.pointer (some ⟨B, 0, none⟩), .int .i64 1] W fun e w' => e = .returned (.string (textR 1 (rdK r0 k).2).1) ∧ RB w' B (textR 1 (rdK r0 k).2).2 ∧ But B W w') := fun W h => text_any B _ 1 W h (by omega) hrest
      have HT2 : Hid (∀ W, RB W B (textR 1 (rdK r0 k).2).2 → Calls Tryz.prog 87 #[.pointer (some ⟨B, 0, none⟩), .int .i64 2] W fun e w' => e = .returned (.string (textR 2 (textR 1 (rdK r0 k).2).2).1) ∧ RB w' B (textR 2 (textR 1 (rdK r0 k).2).2).2 ∧ But B W w') := fun W h => text_any B _ 2 W h (by omega) hrest2
      have HST : Hid (rdK r0 (k + 1) = (ys ++ [⟨(textR 1 (rdK r0 k).2).1, (textR 2 (textR 1 (rdK r0 k).2).2).1⟩], (textR 2 (textR 1 (rdK r0 k).2).2).2)) := by show _ = _; rw [rdK_succ, labR_eq, HY.out]
      clear hrest hrest2
      generalize textR 2 (textR 1 (rdK r0 k).2).2 = t2 at *
      generalize textR 1 (rdK r0 k).2 = t1 at *
      generalize t1.1 = nm at *
      generalize t2.1 = va at *
      go_wp2_with fail
      refine (HT1.out _ HRB.out).mono ?_
      rintro e w2 ⟨rfl, hr2, hb2⟩
      have H2 : Hid (RB w2 B t1.2 ∧ But B w w2 ∧ w2.ownsRow w.heap.size 83 2 (.slice (some ⟨g, 0, none⟩) ys.length cv) ys.length (flatL ys)) := ⟨hr2, HBU.out.trans hb2, row_but0 HROW.out hb2 hBlt⟩
      clear hr2 hb2 HT1 HRB HROW HBU
      go_wp2_with fail
      refine (HT2.out _ H2.out.1).mono ?_
      rintro e w3 ⟨rfl, hr3, hb3⟩
      have H3 : Hid (RB w3 B t2.2 ∧ But B w w3 ∧ w3.ownsRow w.heap.size 83 2 (.slice (some ⟨g, 0, none⟩) ys.length cv) ys.length (flatL ys)) := ⟨hr3, H2.out.2.1.trans hb3, row_but0 H2.out.2.2 hb3 hBlt⟩
      have hz3 : w.heap.size ≤ w3.heap.size := H3.out.2.1.size
      clear hr3 hb3 HT2 H2
      go_wp2_with (at_builtin; refine wpList_append_lies _ rfl _ _ _ rfl w.heap.size 83 ti _ 2 32 Tryz.underlying66 HI.out ht0 ht1 ht2 rfl (by omega) (.slice (some ⟨g, 0, none⟩) ys.length cv) ys.length (flatL ys) rfl (by exact row_later H3.out.2.2 (bnew _ _)) ⟨w3.heap.size, 0, none⟩ 1 1 [.string nm, .string va] rfl rfl (by exact World.news_of_block (cs := #[.string nm, .string va]) (heap_alloc_new _ _)) (by simp [Value.oneCell']) (by omega) (by simp [maxLen]; omega) (by omega) (by simp; omega) (w3.heap.size + 1) (by simp) ?_; intro g5 cap5 w5 hown5 hgrow5 hat5 hlt5)
      have hkeep : w5.heap[B]? = w3.heap[B]? := (hgrow5.block B (by simp; omega) (fun e => by have := row_from H3.out.2.2 B e.symm; omega)).trans ((bnew w3 _).block B (by omega))
      have hbut : But B w w5 := by
        have hB3 := H3.out.2.1
        refine ⟨hgrow5.os.trans hB3.os, hgrow5.tape.trans hB3.tape, hgrow5.output.trans hB3.output, ?_, fun q hq hne => ?_⟩
        · have := hgrow5.size; simp at this; omega
        · exact (hgrow5.block q (by simp; omega) (fun e => by have := row_from H3.out.2.2 q e.symm; omega)).trans (((bnew w3 _).block q (by omega)).trans (hB3.block q hq hne))
      have hle : (ys ++ [(⟨nm, va⟩ : LabD)]).length = ys.length + 1 := by simp
      have hxs : flatL ys ++ [.string nm, .string va] = flatL (ys ++ [⟨nm, va⟩]) := by rw [flatL_append]; rfl
      rw [hxs, ← hle] at hown5
      refine ⟨⟨k + 1, ys ++ [(⟨nm, va⟩ : LabD)], g5, cap5, by omega, by go_num, by omega, by omega, by rw [hle], by show _ = _; rw [HST.out], ?_, hown5, hbut⟩, by simp [intOf]; omega⟩
      show RB w5 B (rdK r0 (k + 1)).2
      rw [HST.out]
      exact hkeep.trans H3.out.1
    · have e : k = n := by omega
      subst e
      have hY := HY.out
      clear HY
      subst hY
      go_wp2
      go_ret
      exact ⟨g, cv, rfl, HROW.out, HRB.out, HBU.out⟩
set_option maxRecDepth 100000 in
set_option maxHeartbeats 1000000 in
theorem implDec_any (key : ByteArray) (w : World) (hs : key.size ≤ 1000000000) (hT : UTab w) :
    Calls Tryz.prog 28 #[.string key] w fun e w' => ∃ a cap, e = .returned (.tuple #[.slice a (decV key).1.length cap, .bool (decV key).2]) ∧ LabsOwn w' w.heap.size a (decV key).1 ∧ Below w.heap.size w w' := by
  have HL : Hid (∀ W B, RB W B ⟨key, false⟩ → Calls Tryz.prog 58 #[.pointer (some ⟨B, 0, none⟩)] W fun e w' => ∃ g cap, e = .returned (.slice (some ⟨g, 0, none⟩) (rdAll key).1.length cap) ∧ w'.ownsRow W.heap.size 83 2 (.slice (some ⟨g, 0, none⟩) (rdAll key).1.length cap) (rdAll key).1.length (flatL (rdAll key).1) ∧ RB w' B (rdAll key).2 ∧ But B W w') := fun W B h => labels_any B key W h hs
  have hbig : BigL (rdAll key).1 := fun i hi => by
    have := rdAll_big key i hi
    exact ⟨by omega, by omega⟩
  have hlen : (rdAll key).1.length ≤ 255 := by
    have h : (rdAll key).1.length = cntR key := by rw [rdAll]; exact rdK_length _ _
    have := cnt_le key
    omega
  have HW : Hid (∀ W B, RB W B (rdAll key).2 → Calls Tryz.prog 59 #[.pointer (some ⟨B, 0, none⟩)] W fun e w' => e = .returned (.bool (wholeB (rdAll key).2)) ∧ w' = W) := fun W B h => whole_any B _ W h
  have HC : Hid (∀ W a c, LabsIn W a (rdAll key).1 → UTab W → (rdAll key).1.length ≤ c → Calls Tryz.prog 60 #[.slice a (rdAll key).1.length c] W fun e w' => e = .returned (.bool (canB (rdAll key).1)) ∧ Below W.heap.size W w') := fun W a c h hU hc => isCan_any a c _ W h hbig (by omega) hc hU
  have HT : Hid (UTab w) := hT
  have HBX : Hid (RB (w.alloc (.cells #[.string key, .bool false] 110)) w.heap.size ⟨key, false⟩ ∧ Below w.heap.size w (w.alloc (.cells #[.string key, .bool false] 110))) := ⟨heap_alloc_new _ _, bnew _ _⟩
  have hbx : w.heap.size < (w.alloc (.cells #[.string key, .bool false] 110)).heap.size := by simp
  have HDV : Hid (decV key = if (wholeB (rdAll key).2 && canB (rdAll key).1) = true then ((rdAll key).1, true) else ([], false)) := by show _ = _; rw [decV]
  clear hT hbig
  generalize wholeB (rdAll key).2 = wb at *
  generalize canB (rdAll key).1 = cb at *
  generalize (rdAll key).1 = L at *
  generalize (rdAll key).2 = rr at *
  cases wb with
  | true =>
    cases cb with
    | true =>
      have E : Hid (decV key = (L, true)) := HDV.out
      rw [E.out]
      go_enter Tryz.func28, Tryz.ntmps28
      go_wp2_with fail
      refine (HL.out _ _ HBX.out.1).mono ?_
      rintro e w1 ⟨g, cap, rfl, ho1, hr1, hb1⟩
      obtain ⟨hcap, _, _, _⟩ := row_cells ho1
      have H1 : Hid (RB w1 w.heap.size rr ∧ LabsOwn w1 w.heap.size (some ⟨g, 0, none⟩) L ∧ Below w.heap.size w w1) := ⟨hr1, (labs_of_row ho1).mono (by omega), HBX.out.2.trans (hb1.below (Nat.le_refl _) (by omega))⟩
      clear ho1 hr1 hb1 HBX hbx
      go_wp2_with fail
      refine (HW.out _ _ H1.out.1).mono ?_
      rintro e w2 ⟨rfl, hw⟩
      replace hw := hw.symm
      subst hw
      go_wp2_with fail
      refine (HC.out _ _ _ H1.out.2.1.labs (HT.out.later H1.out.2.2) hcap).mono ?_
      rintro e w3 ⟨rfl, hb3⟩
      have H3 : Hid (LabsOwn w3 w.heap.size (some ⟨g, 0, none⟩) L ∧ Below w.heap.size w w3) := ⟨H1.out.2.1.later hb3, bto H1.out.2.2 hb3⟩
      clear hb3
      go_wp2
      refine bodyPost_ret (v := .tuple #[.slice (some ⟨g, 0, none⟩) L.length cap, .bool true]) (by simp [results, Tryz.results28, go_sem]) rfl ⟨_, _, rfl, H3.out⟩
    | false =>
      have E : Hid (decV key = ([], false)) := HDV.out
      rw [E.out]
      go_enter Tryz.func28, Tryz.ntmps28
      go_wp2_with fail
      refine (HL.out _ _ HBX.out.1).mono ?_
      rintro e w1 ⟨g, cap, rfl, ho1, hr1, hb1⟩
      obtain ⟨hcap, _, _, _⟩ := row_cells ho1
      have H1 : Hid (RB w1 w.heap.size rr ∧ LabsOwn w1 w.heap.size (some ⟨g, 0, none⟩) L ∧ Below w.heap.size w w1) := ⟨hr1, (labs_of_row ho1).mono (by omega), HBX.out.2.trans (hb1.below (Nat.le_refl _) (by omega))⟩
      clear ho1 hr1 hb1 HBX hbx
      go_wp2_with fail
      refine (HW.out _ _ H1.out.1).mono ?_
      rintro e w2 ⟨rfl, hw⟩
      replace hw := hw.symm
      subst hw
      go_wp2_with fail
      refine (HC.out _ _ _ H1.out.2.1.labs (HT.out.later H1.out.2.2) hcap).mono ?_
      rintro e w3 ⟨rfl, hb3⟩
      have H3 : Hid (Below w.heap.size w w3) := bto H1.out.2.2 hb3
      clear hb3
      go_wp2
      refine bodyPost_ret (v := .tuple #[.slice none 0 0, .bool false]) (by simp [results, Tryz.results28, go_sem]) rfl ⟨_, _, rfl, Or.inl rfl, H3.out⟩
  | false =>
    have E : Hid (decV key = ([], false)) := HDV.out
    rw [E.out]
    go_enter Tryz.func28, Tryz.ntmps28
    go_wp2_with fail
    refine (HL.out _ _ HBX.out.1).mono ?_
    rintro e w1 ⟨g, cap, rfl, ho1, hr1, hb1⟩
    have H1 : Hid (RB w1 w.heap.size rr ∧ Below w.heap.size w w1) := ⟨hr1, HBX.out.2.trans (hb1.below (Nat.le_refl _) (by omega))⟩
    clear ho1 hr1 hb1 HBX hbx
    go_wp2_with fail
    refine (HW.out _ _ H1.out.1).mono ?_
    rintro e w2 ⟨rfl, hw⟩
    replace hw := hw.symm
    subst hw
    go_wp2
    refine bodyPost_ret (v := .tuple #[.slice none 0 0, .bool false]) (by simp [results, Tryz.results28, go_sem]) rfl ⟨_, _, rfl, Or.inl rfl, H1.out.2⟩
end Go.Proofs.YtnbkmmmlhlbfoaaGreatDoor
namespace Go.Proofs.YtnbkmmmlhlbfoaaGreatDoor
open Go.RowKit
set_option maxHeartbeats 1000000 in
theorem specGet_any (s : ByteArray) (p n : Nat) (w : World) (hs : s.size ≤ maxLen) (h : p + n ≤ s.size) (hn : n ≤ 7) :
    Calls Tryz.prog 95 #[.string s, .int .i64 p, .int .i64 n] w fun e w' => e = .returned (.int .i64 (beL (sectL s p n) : Nat)) ∧ w' = w := by
  unfold maxLen at hs
  go_enter Tryz.func95, Tryz.ntmps95
  go_wp2
  go_loop [7, 8] (fun v i => ∃ (k V : Nat), k ≤ n ∧ i = .int .i64 k ∧ v = .int .i64 V ∧ Hid (V = beL (sectL s p k))) (fun _ i => n - (intOf i).toNat)
  case atStart => exact ⟨0, 0, Nat.zero_le _, rfl, rfl, rfl⟩
  case round =>
    obtain ⟨k, V, hk, rfl, rfl, hV⟩ := hrel
    have hlt64 : V < 72057594037927936 := by
      have h1 := beL_lt (sectL s p k)
      rw [sectL_length (by omega), ← hV.out] at h1
      have h2 : 256 ^ k ≤ 256 ^ 7 := Nat.pow_le_pow_right (by omega) (by omega)
      omega
    by_cases hlt : k < n
    · have hV7 : V * 256 + 255 < 9223372036854775807 := by
        have h1 := beL_lt (sectL s p k)
        rw [sectL_length (by omega), ← hV.out] at h1
        have h2 : 256 ^ k ≤ 256 ^ 6 := Nat.pow_le_pow_right (by omega) (by omega)
        omega
      have hi0 : (0 : Int) ≤ (p : Int) + (k : Int) := by omega
      have hi1 : (p : Int) + (k : Int) < (s.size : Int) := by omega
      have hi2 : p + k < s.size := by omega
      have hU := s[p + k].toNat_lt
      go_wp2
      exact ⟨⟨k + 1, V * 256 + s[p + k].toNat, by omega, by go_num, by go_num, by show _ = _; rw [sectL_snoc hi2, beL_snoc, hV.out]⟩, by simp [intOf]; omega⟩
    · go_wp2
      go_ret
      have e : k = n := by omega
      subst e
      exact ⟨ret_int (by rw [hV.out]), rfl⟩
end Go.Proofs.YtnbkmmmlhlbfoaaGreatDoor
