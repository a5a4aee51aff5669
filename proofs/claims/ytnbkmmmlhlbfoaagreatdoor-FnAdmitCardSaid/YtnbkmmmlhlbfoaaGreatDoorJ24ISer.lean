import Derived.Test.YtnbkmmmlhlbfoaaGreatDoorProg
import Derived.Test.YtnbkmmmlhlbfoaaGreatDoorJ23IdxA
import Derived.Test.YtnbkmmmlhlbfoaaGreatDoorJ19HpM
import Derived.Deep.DeepCutAuto
namespace Go.Proofs.YtnbkmmmlhlbfoaaGreatDoor
open Go.RowKit Go.Maps
theorem mapOf_mets (ms : List PairD) (k : Nat) (hk : k < ms.length) (hr : RiseBy (·.s) (ms.take (k + 1))) :
    DataW.put (mapOf ((ms.take k).map fun p => (p.s, iVal p.n))) (kL ms[k].s) (iVal ms[k].n) = mapOf ((ms.take (k + 1)).map fun p => (p.s, iVal p.n)) := by
  obtain ⟨h1, _⟩ := ins_take hk hr
  have := put_by (key := fun p : PairD => p.s) (fun p => iVal p.n) ms[k] (rise_take k (l := ms.take (k + 1)) hr)
  rw [List.take_take, Nat.min_eq_left (by omega)] at this
  rw [this, h1]
set_option maxRecDepth 100000 in
set_option maxHeartbeats 4000000 in
theorem loadLimits_any (x : Nat) (a : Option Addr) (cap : Nat) (ms : List PairD) (t : TenD) (S : Nat → Prop) (M : Nat) (w0 w : World) (h : IdxAt w S x { t with mets := [] } M) (h0 : Below w0.heap.size w0 w) (hU : UTab w0) (hp : PairsIn w0 a ms) (hS : ∀ g, S g → w0.heap.size ≤ g) (hb : ∀ i (h : i < ms.length), ms[i].s.size ≤ 1000000000) (hl : ms.length ≤ 1000000000) :
    Calls Tryz.prog 77 #[.pointer (some ⟨x, 0, none⟩), .slice a ms.length cap] w fun e w' => e = .returned (.bool (metsB ms)) ∧ (metsB ms = true → IdxAt w' (fun g => S g ∨ w.heap.size ≤ g) x { t with mets := ms } M) ∧ Turn S w w' := by
  have HI : Hid (IdxAt w S x { t with mets := [] } M) := h
  have H0 : Hid (Below w0.heap.size w0 w) := h0
  have HU : Hid (UTab w0) := hU
  have HPI : Hid (PairsIn w0 a ms) := hp
  have HSS : Hid (∀ g, S g → w0.heap.size ≤ g) := hS
  have HBB : Hid (∀ i (h : i < ms.length), ms[i].s.size ≤ 1000000000) := hb
  clear h h0 hU hp hS hb
  go_enter Tryz.func77, Tryz.ntmps77
  go_wp2
  go_loopw [5, 6, 9] (fun _ _ j wr => ∃ k : Nat, k ≤ ms.length ∧ j = .int .i64 k ∧ allTo (metAt ms) k = true ∧ IdxAt wr (fun g => S g ∨ w.heap.size ≤ g) x { t with mets := ms.take k } M ∧ Turn S w wr) (fun _ _ j _ => ms.length - (intOf j).toNat)
  case atStart => exact ⟨0, Nat.zero_le _, rfl, rfl, HI.out.keep (fun g _ hs => ⟨rfl, Or.inl hs⟩), Turn.refl _ _⟩
  case round =>
    obtain ⟨k, hk, rfl, hok, hidx, htn⟩ := hrel
    have HOK : Hid (allTo (metAt ms) k = true) := hok
    have HIX : Hid (IdxAt wr (fun g => S g ∨ w.heap.size ≤ g) x { t with mets := ms.take k } M) := hidx
    have HTN : Hid (Turn S w wr) := htn
    have B0 : Hid (Below w0.heap.size w0 wr) := H0.out.trans (htn.below H0.out.size (fun k hk hs => by have := HSS.out k hs; omega))
    clear hok hidx htn
    by_cases hlt : k < ms.length
    · obtain ⟨pb, po, rfl, hpl, c0, c1⟩ := (HPI.out.later B0.out).at hlt
      have HMF : Hid (metAt ms k = false → metsB ms = false) := fun h => allTo_not h hlt
      have HMA : Hid (metAt ms k = (prevB ms k && mnameB ms[k].s && btwB ms[k].n 0 1000000)) := metAt_eq hlt
      have hsz := HBB.out k hlt
      have HPRE : Hid (0 < k → ∃ pn : ByteArray, prevB ms k = blt pn ms[k].s ∧ wr.cell? ⟨pb, po + (k - 1) * 2, none⟩ = some (.string pn)) := fun h0 => by
        refine ⟨_, prevB_at h0 hlt, ?_⟩
        obtain ⟨b', o', e, _, u0, _⟩ := (HPI.out.later B0.out).at (i := k - 1) (by omega)
        simp only [Option.some.injEq, Addr.mk.injEq, and_true] at e
        rw [e.1, e.2]; exact u0
      have HPZ : Hid (k = 0 → prevB ms k = true) := fun h0 => by subst h0; rfl
      have HMP := mapOf_mets ms k hlt
      have HTK : Hid (metAt ms k = true → allTo (metAt ms) (k + 1) = true ∧ RiseBy (·.s) (ms.take (k + 1))) := fun h => by
        have h1 : allTo (metAt ms) (k + 1) = true := by rw [allTo_succ, HOK.out, h]; rfl
        exact ⟨h1, mets_rise h1 (by omega)⟩
      have HMPP : Hid (RiseBy (·.s) (ms.take (k + 1)) → DataW.put (mapOf ((ms.take k).map fun p => (p.s, iVal p.n))) (kL ms[k].s) (iVal ms[k].n) = mapOf ((ms.take (k + 1)).map fun p => (p.s, iVal p.n))) := HMP
      clear HMP
      have HMN : Hid (∀ W, UTab W → Calls Tryz.prog 62 #[.string ms[k].s] W fun e w' => e = .returned (.bool (mnameB ms[k].s)) ∧ Below W.heap.size W w') := fun W hW => isMetricName_any ms[k].s W hsz hW
      generalize ms[k] = P at *
      go_upto_region 4 with fail
      have MBX : Hid (Blk (wr.alloc (.cells #[.string P.s, .int .i64 P.n] 65)) wr.heap.size #[.string P.s, .int .i64 P.n] 65) := Blk.new _ _ _
      have HB6 : Hid (Below wr.heap.size wr (wr.alloc (.cells #[.string P.s, .int .i64 P.n] 65))) := bnew _ _
      have HPR6 : Hid (0 < k → ∃ pn : ByteArray, prevB ms k = blt pn P.s ∧ (wr.alloc (.cells #[.string P.s, .int .i64 P.n] 65)).cell? ⟨pb, po + (k - 1) * 2, none⟩ = some (.string pn)) := fun h0 => by
        obtain ⟨pn, e1, e2⟩ := HPRE.out h0
        exact ⟨pn, e1, ((bnew _ _).cell hpl).trans e2⟩
      generalize wr.alloc (.cells #[.string P.s, .int .i64 P.n] 65) = W at *
      have HIW : Hid (IdxAt W (fun g => S g ∨ w.heap.size ≤ g) x { t with mets := ms.take k } M) := HIX.out.later HB6.out
      have HTW : Hid (Turn S w W) := HTN.out.trans' (Turn.of HB6.out)
      have B0W : Hid (Below w0.heap.size w0 W) := B0.out.trans (HB6.out.mono B0.out.size)
      generalize wr.heap.size = mb at *
      clear c0 c1 HPRE hpl HIX HTN B0 HB6 wr
      go_cut [38] (fun s wx => s = .bool (!(metAt ms k)) ∧ Below W.heap.size W wx)
      case first =>
        have d0 := Later.cells (show W.cell? ⟨mb, 0, none⟩ = some (.string P.s) from MBX.out.cell 0)
        have d1 := Later.cells (show W.cell? ⟨mb, 1, none⟩ = some (.int .i64 P.n) from MBX.out.cell 1)
        have hnel := Later.there W
        have HMN2 : Hid (∀ x : Later W, Calls Tryz.prog 62 #[.string P.s] x.w' fun e w' => e = .returned (.bool (mnameB P.s)) ∧ Below x.w'.heap.size x.w' w') := fun x => HMN.out _ (HU.out.later (B0W.out.trans (x.h.mono B0W.out.size)))
        have HLI : Hid (∀ W, Calls Tryz.prog 74 #[.int .i64 P.n] W fun e w' => e = .returned (.bool (btwB P.n 0 1000000)) ∧ w' = W) := fun W => isLimit_any P.n W
        clear HMN
        by_cases h0 : (0 : Int) < k
        · have h0' : 0 < k := by omega
          obtain ⟨pn, hp, cp⟩ := HPR6.out h0'
          have d3 := Later.cells cp
          by_cases hb : Op.bytesLess pn.toList P.s.toList = true
          · have HPT : Hid (prevB ms k = true) := by show _ = _; rw [hp]; exact hb
            clear cp hp
            by_cases f1 : mnameB P.s = false
            · have HV : Hid (metAt ms k = false) := by show _ = _; rw [HMA.out, f1]; simp
              rw [f1] at HMN2
              clear f1
              refine wp_region_later (by kernel_rfl) (by kernel_rfl) ?_
              repeat (go_big_quiet_step (first | (go_at_call 62; exact calls_later (HMN2.out _)) | (go_at_call 74; exact calls_later_same (HLI.out _))))
              refine wpQuiet_nil ?_
              rintro _ ⟨x, rfl⟩
              go_wp2_with fail
              go_meet
              exact ⟨by rw [HV.out]; rfl, x.h⟩
            have f1' : mnameB P.s = true := by simpa using f1
            rw [f1'] at HMN2 HMA
            clear f1 f1'
            by_cases f2 : btwB P.n 0 1000000 = false
            · have HV : Hid (metAt ms k = false) := by show _ = _; rw [HMA.out, f2]; simp
              rw [f2] at HLI
              clear f2
              refine wp_region_later (by kernel_rfl) (by kernel_rfl) ?_
              repeat (go_big_quiet_step (first | (go_at_call 62; exact calls_later (HMN2.out _)) | (go_at_call 74; exact calls_later_same (HLI.out _))))
              refine wpQuiet_nil ?_
              rintro _ ⟨x, rfl⟩
              go_wp2_with fail
              go_meet
              exact ⟨by rw [HV.out]; rfl, x.h⟩
            have f2' : btwB P.n 0 1000000 = true := by simpa using f2
            have HV : Hid (metAt ms k = true) := by show _ = _; rw [HMA.out, f2', HPT.out]; rfl
            rw [f2'] at HLI
            clear f2 f2'
            refine wp_region_later (by kernel_rfl) (by kernel_rfl) ?_
            repeat (go_big_quiet_step (first | (go_at_call 62; exact calls_later (HMN2.out _)) | (go_at_call 74; exact calls_later_same (HLI.out _))))
            refine wpQuiet_nil ?_
            rintro _ ⟨x, rfl⟩
            go_wp2_with fail
            go_meet
            exact ⟨by rw [HV.out]; rfl, x.h⟩
          · have hb' : Op.bytesLess pn.toList P.s.toList = false := by simpa using hb
            have HV : Hid (metAt ms k = false) := by show _ = _; rw [HMA.out, hp, blt, hb']; simp
            clear cp hp hb
            refine wp_region_later (by kernel_rfl) (by kernel_rfl) ?_
            repeat (go_big_quiet_step (first | (go_at_call 62; exact calls_later (HMN2.out _)) | (go_at_call 74; exact calls_later_same (HLI.out _))))
            refine wpQuiet_nil ?_
            rintro _ ⟨x, rfl⟩
            go_wp2_with fail
            go_meet
            exact ⟨by rw [HV.out]; rfl, x.h⟩
        · have hd : decide ((0 : Int) < k) = false := by simpa using h0
          have hd' : decide (0 < k) = false := by simp; omega
          have HPT : Hid (prevB ms k = true) := HPZ.out (by omega)
          by_cases f1 : mnameB P.s = false
          · have HV : Hid (metAt ms k = false) := by show _ = _; rw [HMA.out, f1]; simp
            rw [f1] at HMN2
            clear f1
            refine wp_region_later (by kernel_rfl) (by kernel_rfl) ?_
            repeat (go_big_quiet_step (first | (go_at_call 62; exact calls_later (HMN2.out _)) | (go_at_call 74; exact calls_later_same (HLI.out _))))
            refine wpQuiet_nil ?_
            rintro _ ⟨x, rfl⟩
            go_wp2_with fail
            go_meet
            exact ⟨by rw [HV.out]; rfl, x.h⟩
          have f1' : mnameB P.s = true := by simpa using f1
          rw [f1'] at HMN2 HMA
          clear f1 f1'
          by_cases f2 : btwB P.n 0 1000000 = false
          · have HV : Hid (metAt ms k = false) := by show _ = _; rw [HMA.out, f2]; simp
            rw [f2] at HLI
            clear f2
            refine wp_region_later (by kernel_rfl) (by kernel_rfl) ?_
            repeat (go_big_quiet_step (first | (go_at_call 62; exact calls_later (HMN2.out _)) | (go_at_call 74; exact calls_later_same (HLI.out _))))
            refine wpQuiet_nil ?_
            rintro _ ⟨x, rfl⟩
            go_wp2_with fail
            go_meet
            exact ⟨by rw [HV.out]; rfl, x.h⟩
          have f2' : btwB P.n 0 1000000 = true := by simpa using f2
          have HV : Hid (metAt ms k = true) := by show _ = _; rw [HMA.out, f2', HPT.out]; rfl
          rw [f2'] at HLI
          clear f2 f2'
          refine wp_region_later (by kernel_rfl) (by kernel_rfl) ?_
          repeat (go_big_quiet_step (first | (go_at_call 62; exact calls_later (HMN2.out _)) | (go_at_call 74; exact calls_later_same (HLI.out _))))
          refine wpQuiet_nil ?_
          rintro _ ⟨x, rfl⟩
          go_wp2_with fail
          go_meet
          exact ⟨by rw [HV.out]; rfl, x.h⟩
      obtain ⟨rfl, hb7⟩ := hcut
      rename World => w7
      have MB7 : Hid (Blk w7 mb #[.string P.s, .int .i64 P.n] 65) := MBX.out.later hb7
      have HI7 : Hid (IdxAt w7 (fun g => S g ∨ w.heap.size ≤ g) x { t with mets := ms.take k } M) := HIW.out.later hb7
      have HT7 : Hid (Turn S w w7) := HTW.out.trans' (Turn.of hb7)
      clear hb7 MBX HIW HTW B0W HPR6 HMN
      by_cases f4 : metAt ms k = false
      · have HF4 : Hid (metsB ms = false) := HMF.out f4
        rw [f4]
        clear f4
        go_wp2
        go_ret
        exact ⟨ret_bool HF4.out.symm, fun h => absurd h (by rw [HF4.out]; simp), HT7.out⟩
      · have f4' : metAt ms k = true := by simpa using f4
        obtain ⟨g1, g2⟩ := HTK.out f4'
        have hbn : btwB P.n 0 1000000 = true := by
          have := HMA.out
          rw [f4'] at this
          cases hb : btwB P.n 0 1000000 with
          | true => rfl
          | false => rw [hb] at this; simp at this
        obtain ⟨hbn0, hbn1⟩ := btw_in hbn
        have G1 : Hid (allTo (metAt ms) (k + 1) = true) := g1
        have hput := HMPP.out g2
        rw [f4']
        clear f4 f4' g1 HMF HMA HPZ HTK HMPP
        obtain ⟨lm, sm, cm, iv, Q, hs, D, hI⟩ := HI7.out
        have hkey : keyOf Tryz.prog 9 (.string P.s) = some (kL P.s) := key_mk (by unfold maxLen; omega)
        obtain ⟨w8, run8, own8, gr8⟩ := hI.lims.drew.update keyed Tryz.underlying93 (by simp only [List.length_take]; unfold maxLen; omega) (val := .int .i64 P.n) hkey (plainElem_int Tryz.underlying3 (WalkArith.wf_i64 (by omega)))
        have x0 : w7.cell? ⟨x, 1, none⟩ = some (.map (some lm)) := hI.blk.cell 1
        have x1 : w7.cell? ⟨mb, 0, none⟩ = some (.string P.s) := MB7.out.cell 0
        have x2 : w7.cell? ⟨mb, 1, none⟩ = some (.int .i64 P.n) := MB7.out.cell 1
        go_wp2_with fail
        go_region
        have ht8 : Turn (· = lm) w7 w8 := (Turn.grown (a := w7) ⟨gr8.os, gr8.tape, gr8.output, gr8.size, gr8.block⟩).mono fun i _ e => by simp only [Option.some.injEq] at e; exact e.symm
        have HN : Hid (IdxAt w8 (fun g => S g ∨ w.heap.size ≤ g) x { t with mets := ms.take (k + 1) } M) := hI.newLims ht8 own8 hput g2
        have HT8 : Hid (Turn S w w8) := HT7.out.trans (ht8.mono fun i _ e => by subst e; exact hI.sl)
        clear hI own8 gr8 ht8 hput g2 x0 x1 x2 run8 hbn
        go_wp2
        exact ⟨⟨k + 1, by omega, by go_num, G1.out, HN.out, HT8.out⟩, by simp [intOf]; omega⟩
    · have ek : k = ms.length := by omega
      have HEND : Hid (metsB ms = true) := by have := HOK.out; rw [ek] at this; exact this
      have HIE : Hid (IdxAt wr (fun g => S g ∨ w.heap.size ≤ g) x { t with mets := ms } M) := by have := HIX.out; rw [ek, List.take_length] at this; exact this
      clear ek
      go_wp2
      go_ret
      exact ⟨ret_bool HEND.out.symm, fun _ => HIE.out, HTN.out⟩
end Go.Proofs.YtnbkmmmlhlbfoaaGreatDoor
namespace Go.Proofs.YtnbkmmmlhlbfoaaGreatDoor
open Go.RowKit Go.Maps
theorem metV_size (ls : List LabD) (h : ∀ l ∈ ls, l.value.size ≤ 1000000) : (metV ls).size ≤ 1000000 := by
  induction ls with
  | nil => simp [metV]
  | cons l r ih =>
    rw [metV]
    split
    · exact h l (List.mem_cons_self ..)
    · exact ih fun q hq => h q (List.mem_cons_of_mem _ hq)
theorem metK_size (s : ByteArray) : (metK s).size ≤ maxLen := by
  have h : ∀ l ∈ (decV s).1, l.value.size ≤ 1000000 := fun l hl => by
    cases hd : (decV s).2 with
    | false => rw [(dec_not hd).1] at hl; simp at hl
    | true =>
      obtain ⟨i, hi, rfl⟩ := List.getElem_of_mem hl
      have := (can_small (dec_key hd).1 i hi).2
      omega
  have := metV_size _ h
  unfold metK maxLen; omega
def ledV (c : CfgD) (now : Int) (m : Nat) : Array Value := #[.int .i64 c.w, .int .i64 c.tl, .int .i64 c.ml, .int .i64 c.sh, .int .i64 c.ha, .int .i64 c.sg, .int .i64 now, .map (some m)]
set_option maxRecDepth 100000 in
set_option maxHeartbeats 1000000 in
theorem expired_any (l m : Nat) (c : CfgD) (now : Int) (w : World) (h : Blk w l (ledV c now m) 87) (h0 : 0 ≤ now) (h1 : now ≤ 1000000000000) (hw0 : 1 ≤ c.w) (hw1 : c.w ≤ 1000000000) :
    Calls Tryz.prog 96 #[.pointer (some ⟨l, 0, none⟩)] w fun e w' => e = .returned (.int .i64 (now - c.w)) ∧ Below w.heap.size w w' := by
  have x0 : w.cell? ⟨l, 6, none⟩ = some (.int .i64 now) := h.cell 6
  have x1 : w.cell? ⟨l, 0, none⟩ = some (.int .i64 c.w) := h.cell 0
  clear h
  go_enter Tryz.func96, Tryz.ntmps96
  go_wp2_with fail
  go_quiet (fail)
  go_wp2
  go_ret
  exact ⟨rfl, below_drewN (Below.refl _ _) _⟩
set_option maxRecDepth 100000 in
set_option maxHeartbeats 8000000 in
theorem loadSeries_any (l m x : Nat) (a : Option Addr) (cap : Nat) (xs : List PairD) (t : TenD) (c : CfgD) (now : Int) (S : Nat → Prop) (M : Nat) (w0 w : World) (hl : Blk w l (ledV c now m) 87) (hSl : ¬ S l) (h : IdxAt w S x { t with sers := [] } M) (h0 : Below w0.heap.size w0 w) (hU : UTab w0) (hp : PairsIn w0 a xs) (hS : ∀ g, S g → w0.heap.size ≤ g)
    (hb : ∀ i (h : i < xs.length), xs[i].s.size ≤ 1000000000) (hlen : xs.length ≤ 500000000) (hM : M ≤ 500000000) (h1 : 0 ≤ now) (h2 : now ≤ 1000000000000) (hw0 : 1 ≤ c.w) (hw1 : c.w ≤ 1000000000) :
    Calls Tryz.prog 78 #[.pointer (some ⟨l, 0, none⟩), .pointer (some ⟨x, 0, none⟩), .slice a xs.length cap] w fun e w' => e = .returned (.bool (sersB c.w now xs)) ∧ (sersB c.w now xs = true → IdxAt w' (fun g => S g ∨ w.heap.size ≤ g) x { t with sers := xs } (M + xs.length)) ∧ Turn S w w' := by
  have HLB : Hid (Blk w l (ledV c now m) 87) := hl
  have HSL : Hid (¬ S l) := hSl
  have HI : Hid (IdxAt w S x { t with sers := [] } M) := h
  have H0 : Hid (Below w0.heap.size w0 w) := h0
  have HU : Hid (UTab w0) := hU
  have HPI : Hid (PairsIn w0 a xs) := hp
  have HSS : Hid (∀ g, S g → w0.heap.size ≤ g) := hS
  have HBB : Hid (∀ i (h : i < xs.length), xs[i].s.size ≤ 1000000000) := hb
  clear h h0 hU hp hS hb hl hSl
  go_enter Tryz.func78, Tryz.ntmps78
  go_wp2
  go_loopw [7, 8, 9, 12] (fun _ _ _ j wr => ∃ k : Nat, k ≤ xs.length ∧ j = .int .i64 k ∧ allTo (serAt c.w now xs) k = true ∧ IdxAt wr (fun g => S g ∨ w.heap.size ≤ g) x { t with sers := xs.take k } (M + k) ∧ Turn S w wr) (fun _ _ _ j _ => xs.length - (intOf j).toNat)
  case atStart => exact ⟨0, Nat.zero_le _, rfl, rfl, HI.out.keep (fun g _ hs => ⟨rfl, Or.inl hs⟩), Turn.refl _ _⟩
  case round =>
    obtain ⟨k, hk, rfl, hok, hidx, htn⟩ := hrel
    have HOK : Hid (allTo (serAt c.w now xs) k = true) := hok
    have HIX : Hid (IdxAt wr (fun g => S g ∨ w.heap.size ≤ g) x { t with sers := xs.take k } (M + k)) := hidx
    have HTN : Hid (Turn S w wr) := htn
    have B0 : Hid (Below w0.heap.size w0 wr) := H0.out.trans (htn.below H0.out.size (fun k hk hs => by have := HSS.out k hs; omega))
    clear hok hidx htn
    by_cases hlt : k < xs.length
    · obtain ⟨pb, po, rfl, hpl, c0, c1⟩ := (HPI.out.later B0.out).at hlt
      have HMF : Hid (serAt c.w now xs k = false → sersB c.w now xs = false) := fun h => allTo_not h hlt
      have HMA : Hid (serAt c.w now xs k = (prevB xs k && keyOK xs[k].s && btwB xs[k].n 0 now && decide (now - xs[k].n < c.w))) := serAt_eq hlt
      have hsz := HBB.out k hlt
      have HPRE : Hid (0 < k → ∃ pn : ByteArray, prevB xs k = blt pn xs[k].s ∧ wr.cell? ⟨pb, po + (k - 1) * 2, none⟩ = some (.string pn)) := fun h0 => by
        refine ⟨_, prevB_at h0 hlt, ?_⟩
        obtain ⟨b', o', e, _, u0, _⟩ := (HPI.out.later B0.out).at (i := k - 1) (by omega)
        simp only [Option.some.injEq, Addr.mk.injEq, and_true] at e
        rw [e.1, e.2]; exact u0
      have HPZ : Hid (k = 0 → prevB xs k = true) := fun h0 => by subst h0; rfl
      have HTK : Hid (serAt c.w now xs k = true → allTo (serAt c.w now xs) (k + 1) = true ∧ insBy (·.s) xs[k] (xs.take k) = xs.take (k + 1) ∧ getBy (·.s) xs[k].s (xs.take k) = none) := fun h => by
        have h1 : allTo (serAt c.w now xs) (k + 1) = true := by rw [allTo_succ, HOK.out, h]; rfl
        exact ⟨h1, ins_take (key := fun p : PairD => p.s) hlt (sers_rise h1 (by omega))⟩
      have HLW : Hid (Blk wr l (ledV c now m) 87) := HTN.out.blk HLB.out HSL.out
      have HMT : Hid (∀ W, UTab W → Calls Tryz.prog 8 #[.string xs[k].s] W fun e w' => e = .returned (.string (metK xs[k].s)) ∧ Below W.heap.size W w') := fun W hW => implMet_any xs[k].s W hsz hW
      have hms : (metK xs[k].s).size ≤ maxLen := metK_size xs[k].s
      have HTL : Hid ((xs.take k).length ≤ 1000000000) := by show _ ≤ _; rw [List.length_take]; omega
      generalize xs[k] = P at *
      go_upto_region 4 with fail
      have MBX : Hid (Blk (wr.alloc (.cells #[.string P.s, .int .i64 P.n] 50)) wr.heap.size #[.string P.s, .int .i64 P.n] 50) := Blk.new _ _ _
      have HB6 : Hid (Below wr.heap.size wr (wr.alloc (.cells #[.string P.s, .int .i64 P.n] 50))) := bnew _ _
      have x0 : (wr.alloc (.cells #[.string P.s, .int .i64 P.n] 50)).cell? ⟨wr.heap.size, 0, none⟩ = some (.string P.s) := MBX.out.cell 0
      generalize wr.alloc (.cells #[.string P.s, .int .i64 P.n] 50) = W0 at *
      go_wp2_with fail
      refine (HMT.out _ (HU.out.later (B0.out.trans (HB6.out.mono B0.out.size)))).mono ?_
      rintro e W ⟨rfl, hbW⟩
      have HPR6 : Hid (0 < k → ∃ pn : ByteArray, prevB xs k = blt pn P.s ∧ W.cell? ⟨pb, po + (k - 1) * 2, none⟩ = some (.string pn)) := fun h0 => by
        obtain ⟨pn, e1, e2⟩ := HPRE.out h0
        exact ⟨pn, e1, ((bto HB6.out hbW).cell hpl).trans e2⟩
      have MBW : Hid (Blk W wr.heap.size #[.string P.s, .int .i64 P.n] 50) := MBX.out.later hbW
      have HIW : Hid (IdxAt W (fun g => S g ∨ w.heap.size ≤ g) x { t with sers := xs.take k } (M + k)) := HIX.out.later (bto HB6.out hbW)
      have HTW : Hid (Turn S w W) := HTN.out.trans' (Turn.of (bto HB6.out hbW))
      have HLX : Hid (Blk W l (ledV c now m) 87) := HLW.out.later (bto HB6.out hbW)
      generalize wr.heap.size = mb at *
      clear c0 c1 HPRE hpl HIX HTN B0 HB6 hbW x0 MBX HLW HMT wr W0
      go_upto_region 5 with fail
      go_cut [53] (fun s wx => s = .bool (!(serAt c.w now xs k)) ∧ Below W.heap.size W wx)
      case first =>
        have d0 := Later.cells (show W.cell? ⟨mb, 0, none⟩ = some (.string P.s) from MBW.out.cell 0)
        have d1 := Later.cells (show W.cell? ⟨mb, 1, none⟩ = some (.int .i64 P.n) from MBW.out.cell 1)
        have d2 := Later.cells (show W.cell? ⟨l, 6, none⟩ = some (.int .i64 now) from HLX.out.cell 6)
        have hnel := Later.there W
        have HLI : Hid (∀ W, Calls Tryz.prog 48 #[.int .i64 P.n, .int .i64 now] W fun e w' => e = .returned (.bool (btwB P.n 0 now)) ∧ w' = W) := fun W => within_any P.n now W
        have HEX : Hid (∀ x : Later W, Calls Tryz.prog 96 #[.pointer (some ⟨l, 0, none⟩)] x.w' fun e w' => e = .returned (.int .i64 (now - c.w)) ∧ Below x.w'.heap.size x.w' w') := fun x => expired_any l m c now x.w' (HLX.out.later x.h) h1 h2 hw0 hw1
        by_cases h0 : (0 : Int) < k
        · have h0' : 0 < k := by omega
          obtain ⟨pn, hp, cp⟩ := HPR6.out h0'
          have d3 := Later.cells cp
          by_cases hb : Op.bytesLess pn.toList P.s.toList = true
          · have HPT : Hid (prevB xs k = true) := by show _ = _; rw [hp]; exact hb
            clear cp hp
            by_cases f1 : (metK P.s).toList.isEmpty = true
            · have HV : Hid (serAt c.w now xs k = false) := by show _ = _; rw [HMA.out, keyOK, f1]; simp
              refine wp_region_later (by kernel_rfl) (by kernel_rfl) ?_
              repeat (go_big_quiet_step (first | (go_at_call 48; exact calls_later_same (HLI.out _)) | (go_at_call 96; exact calls_later (HEX.out _))))
              refine wpQuiet_nil ?_
              rintro _ ⟨x, rfl⟩
              go_wp2_with fail
              go_meet
              exact ⟨by rw [HV.out]; rfl, x.h⟩
            have f1' : (metK P.s).toList.isEmpty = false := by simpa using f1
            rw [keyOK, f1'] at HMA
            clear f1
            by_cases f2 : btwB P.n 0 now = false
            · have HV : Hid (serAt c.w now xs k = false) := by show _ = _; rw [HMA.out, f2]; simp
              rw [f2] at HLI
              clear f2
              refine wp_region_later (by kernel_rfl) (by kernel_rfl) ?_
              repeat (go_big_quiet_step (first | (go_at_call 48; exact calls_later_same (HLI.out _)) | (go_at_call 96; exact calls_later (HEX.out _))))
              refine wpQuiet_nil ?_
              rintro _ ⟨x, rfl⟩
              go_wp2_with fail
              go_meet
              exact ⟨by rw [HV.out]; rfl, x.h⟩
            have f2' : btwB P.n 0 now = true := by simpa using f2
            obtain ⟨r0, r1⟩ := btw_in f2'
            rw [f2'] at HLI HMA
            clear f2 f2'
            have HV : Hid (serAt c.w now xs k = decide (now - P.n < c.w)) := by show _ = _; rw [HMA.out, HPT.out]; simp
            by_cases f3 : P.n ≤ now - c.w
            · have hx : decide (now - P.n < c.w) = false := by simp; omega
              rw [hx] at HV
              clear hx
              refine wp_region_later (by kernel_rfl) (by kernel_rfl) ?_
              repeat (go_big_quiet_step (first | (go_at_call 48; exact calls_later_same (HLI.out _)) | (go_at_call 96; exact calls_later (HEX.out _))))
              refine wpQuiet_nil ?_
              rintro _ ⟨x, rfl⟩
              go_wp2_with fail
              go_meet
              exact ⟨by rw [HV.out]; rfl, x.h⟩
            have hx : decide (now - P.n < c.w) = true := by simp; omega
            rw [hx] at HV
            have hx2 : decide (P.n ≤ now - c.w) = false := by simpa using f3
            clear hx
            refine wp_region_later (by kernel_rfl) (by kernel_rfl) ?_
            repeat (go_big_quiet_step (first | (go_at_call 48; exact calls_later_same (HLI.out _)) | (go_at_call 96; exact calls_later (HEX.out _))))
            refine wpQuiet_nil ?_
            rintro _ ⟨x, rfl⟩
            go_wp2_with fail
            go_meet
            exact ⟨by rw [HV.out]; rfl, x.h⟩
          · have hb' : Op.bytesLess pn.toList P.s.toList = false := by simpa using hb
            have HV : Hid (serAt c.w now xs k = false) := by show _ = _; rw [HMA.out, hp, blt, hb']; simp
            clear cp hp hb
            refine wp_region_later (by kernel_rfl) (by kernel_rfl) ?_
            repeat (go_big_quiet_step (first | (go_at_call 48; exact calls_later_same (HLI.out _)) | (go_at_call 96; exact calls_later (HEX.out _))))
            refine wpQuiet_nil ?_
            rintro _ ⟨x, rfl⟩
            go_wp2_with fail
            go_meet
            exact ⟨by rw [HV.out]; rfl, x.h⟩
        · have hd : decide ((0 : Int) < k) = false := by simpa using h0
          have hd' : decide (0 < k) = false := by simp; omega
          have HPT : Hid (prevB xs k = true) := HPZ.out (by omega)
          by_cases f1 : (metK P.s).toList.isEmpty = true
          · have HV : Hid (serAt c.w now xs k = false) := by show _ = _; rw [HMA.out, keyOK, f1]; simp
            refine wp_region_later (by kernel_rfl) (by kernel_rfl) ?_
            repeat (go_big_quiet_step (first | (go_at_call 48; exact calls_later_same (HLI.out _)) | (go_at_call 96; exact calls_later (HEX.out _))))
            refine wpQuiet_nil ?_
            rintro _ ⟨x, rfl⟩
            go_wp2_with fail
            go_meet
            exact ⟨by rw [HV.out]; rfl, x.h⟩
          have f1' : (metK P.s).toList.isEmpty = false := by simpa using f1
          rw [keyOK, f1'] at HMA
          clear f1
          by_cases f2 : btwB P.n 0 now = false
          · have HV : Hid (serAt c.w now xs k = false) := by show _ = _; rw [HMA.out, f2]; simp
            rw [f2] at HLI
            clear f2
            refine wp_region_later (by kernel_rfl) (by kernel_rfl) ?_
            repeat (go_big_quiet_step (first | (go_at_call 48; exact calls_later_same (HLI.out _)) | (go_at_call 96; exact calls_later (HEX.out _))))
            refine wpQuiet_nil ?_
            rintro _ ⟨x, rfl⟩
            go_wp2_with fail
            go_meet
            exact ⟨by rw [HV.out]; rfl, x.h⟩
          have f2' : btwB P.n 0 now = true := by simpa using f2
          obtain ⟨r0, r1⟩ := btw_in f2'
          rw [f2'] at HLI HMA
          clear f2 f2'
          have HV : Hid (serAt c.w now xs k = decide (now - P.n < c.w)) := by show _ = _; rw [HMA.out, HPT.out]; simp
          by_cases f3 : P.n ≤ now - c.w
          · have hx : decide (now - P.n < c.w) = false := by simp; omega
            rw [hx] at HV
            clear hx
            refine wp_region_later (by kernel_rfl) (by kernel_rfl) ?_
            repeat (go_big_quiet_step (first | (go_at_call 48; exact calls_later_same (HLI.out _)) | (go_at_call 96; exact calls_later (HEX.out _))))
            refine wpQuiet_nil ?_
            rintro _ ⟨x, rfl⟩
            go_wp2_with fail
            go_meet
            exact ⟨by rw [HV.out]; rfl, x.h⟩
          have hx : decide (now - P.n < c.w) = true := by simp; omega
          rw [hx] at HV
          have hx2 : decide (P.n ≤ now - c.w) = false := by simpa using f3
          clear hx
          refine wp_region_later (by kernel_rfl) (by kernel_rfl) ?_
          repeat (go_big_quiet_step (first | (go_at_call 48; exact calls_later_same (HLI.out _)) | (go_at_call 96; exact calls_later (HEX.out _))))
          refine wpQuiet_nil ?_
          rintro _ ⟨x, rfl⟩
          go_wp2_with fail
          go_meet
          exact ⟨by rw [HV.out]; rfl, x.h⟩
      obtain ⟨rfl, hb7⟩ := hcut
      rename World => w7
      have MB7 : Hid (Blk w7 mb #[.string P.s, .int .i64 P.n] 50) := MBW.out.later hb7
      have HI7 : Hid (IdxAt w7 (fun g => S g ∨ w.heap.size ≤ g) x { t with sers := xs.take k } (M + k)) := HIW.out.later hb7
      have HT7 : Hid (Turn S w w7) := HTW.out.trans' (Turn.of hb7)
      clear hb7 MBW HIW HTW HPR6 HLX
      by_cases f4 : serAt c.w now xs k = false
      · have HF4 : Hid (sersB c.w now xs = false) := HMF.out f4
        rw [f4]
        clear f4
        go_wp2
        go_ret
        exact ⟨ret_bool HF4.out.symm, fun h => absurd h (by rw [HF4.out]; simp), HT7.out⟩
      · have f4' : serAt c.w now xs k = true := by simpa using f4
        obtain ⟨g1, g2, g3⟩ := HTK.out f4'
        have G1 : Hid (allTo (serAt c.w now xs) (k + 1) = true) := g1
        have G2 : Hid (insBy (·.s) P (xs.take k) = xs.take (k + 1)) := g2
        have HADD : Hid (Calls Tryz.prog 54 #[.pointer (some ⟨x, 0, none⟩), .string P.s, .string (metK P.s), .int .i64 P.n] w7 fun e w' => e = .returned (.tuple #[]) ∧ IdxAt w' (fun g => (S g ∨ w.heap.size ≤ g) ∨ w7.heap.size ≤ g) x { t with sers := insBy (·.s) ⟨P.s, P.n⟩ (xs.take k) } (M + k + 1) ∧ Turn (fun g => S g ∨ w.heap.size ≤ g) w7 w') :=
          add_any x { t with sers := xs.take k } P.s P.n _ (M + k) w7 HI7.out g3 (by unfold maxLen; omega) hms (by omega) HTL.out
        have x1 : w7.cell? ⟨mb, 0, none⟩ = some (.string P.s) := MB7.out.cell 0
        have x2 : w7.cell? ⟨mb, 1, none⟩ = some (.int .i64 P.n) := MB7.out.cell 1
        rw [f4']
        clear f4 f4' g1 g2 g3 HMF HMA HPZ HTK
        go_wp2_with fail
        refine HADD.out.mono ?_
        rintro e w8 ⟨rfl, hi8, ht8⟩
        have HN : Hid (IdxAt w8 (fun g => S g ∨ w.heap.size ≤ g) x { t with sers := xs.take (k + 1) } (M + (k + 1))) := by
          have := hi8.keep (w' := w8) (S' := fun g => S g ∨ w.heap.size ≤ g) (fun g _ hs => ⟨rfl, by rcases hs with hs | hs; exact hs; exact Or.inr (by have := HT7.out.size; omega)⟩)
          rw [show (⟨P.s, P.n⟩ : PairD) = P from rfl, G2.out] at this
          exact this
        have HT8 : Hid (Turn S w w8) := HT7.out.trans ht8
        clear hi8 ht8 HADD x1 x2 HI7 HT7
        go_wp2
        exact ⟨⟨k + 1, by omega, by go_num, G1.out, HN.out, HT8.out⟩, by simp [intOf]; omega⟩
    · have ek : k = xs.length := by omega
      have HEND : Hid (sersB c.w now xs = true) := by have := HOK.out; rw [ek] at this; exact this
      have HIE : Hid (IdxAt wr (fun g => S g ∨ w.heap.size ≤ g) x { t with sers := xs } (M + xs.length)) := by have := HIX.out; rw [ek, List.take_length] at this; exact this
      clear ek
      go_wp2
      go_ret
      exact ⟨ret_bool HEND.out.symm, fun _ => HIE.out, HTN.out⟩
end Go.Proofs.YtnbkmmmlhlbfoaaGreatDoor
