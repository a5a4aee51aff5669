import Derived.Test.YtojeemogabhaoaaGreatDoorProg
import Derived.Test.YtojeemogabhaoaaGreatDoorJ19ILim
import Derived.Deep.DeepCutAuto
import Derived.Test.YtojeemogabhaoaaGreatDoorJ01BlkN
import Derived.StillTail
namespace Go.Proofs.YtojeemogabhaoaaGreatDoor
open Go.RowKit Go.Maps
theorem metV_size (ls : List LabD) (h : ∀ l ∈ ls, l.value.size ≤ 1000000) : (metV ls).size ≤ 1000000 := by
  induction ls with
  | nil => simp [metV]
  | cons l r ih =>
    rw [metV]
    split
    · exact h l (List.mem_cons_self ..)
    · exact ih fun q hq => h q (List.mem_cons_of_mem _ hq)
theorem metK_size (s : ByteArray) : (metK s).size ≤ maxLen := by
  have h : ∀ l ∈ (decV s).1, l.value.size ≤ 1000000 := fun l hl => by
    cases hd : (decV s).2 with
    | false => rw [(dec_not hd).1] at hl; simp at hl
    | true =>
      obtain ⟨i, hi, rfl⟩ := List.getElem_of_mem hl
      have := (can_small (dec_key hd).1 i hi).2
      omega
  have := metV_size _ h
  unfold metK maxLen; omega
def ledV (c : CfgD) (now : Int) (m : Nat) : Array Value := #[.int .i64 c.w, .int .i64 c.tl, .int .i64 c.ml, .int .i64 c.sh, .int .i64 c.ha, .int .i64 c.sg, .int .i64 now, .map (some m)]
set_option maxRecDepth 100000 in
set_option maxHeartbeats 1000000 in
theorem expired_any (l m : Nat) (c : CfgD) (now : Int) (w : World) (h : Blk w l (ledV c now m) 99) (h0 : 0 ≤ now) (h1 : now ≤ 1000000000000) (hw0 : 1 ≤ c.w) (hw1 : c.w ≤ 1000000000) :
    Calls Tryz.prog 112 #[.pointer (some ⟨l, 0, none⟩)] w fun e w' => e = .returned (.int .i64 (now - c.w)) ∧ Below w.heap.size w w' := by
  have x0 : w.cell? ⟨l, 6, none⟩ = some (.int .i64 now) := h.cell 6
  have x1 : w.cell? ⟨l, 0, none⟩ = some (.int .i64 c.w) := h.cell 0
  clear h
  go_enter Tryz.func112, Tryz.ntmps112
  go_wp2_with fail
  go_quiet (fail)
  go_wp2
  go_ret
  exact ⟨rfl, below_drewN (Below.refl _ _) _⟩
set_option maxRecDepth 100000 in
set_option maxHeartbeats 8000000 in
theorem loadSeries_any (l m x : Nat) (a : Option Addr) (cap : Nat) (xs : List PairD) (t : TenD) (c : CfgD) (now : Int) (S : Nat → Prop) (M : Nat) (w0 w : World) (hl : Blk w l (ledV c now m) 99) (hSl : ¬ S l) (h : IdxAt w S x { t with sers := [] } M) (h0 : Below w0.heap.size w0 w) (hU : UTab w0) (hp : PairsIn w0 a xs) (hS : ∀ g, S g → w0.heap.size ≤ g)
    (hb : ∀ i (h : i < xs.length), xs[i].s.size ≤ 1000000000) (hlen : xs.length ≤ 500000000) (hM : M ≤ 500000000) (h1 : 0 ≤ now) (h2 : now ≤ 1000000000000) (hw0 : 1 ≤ c.w) (hw1 : c.w ≤ 1000000000) :
    Calls Tryz.prog 91 #[.pointer (some ⟨l, 0, none⟩), .pointer (some ⟨x, 0, none⟩), .slice a xs.length cap] w fun e w' => e = .returned (.bool (sersB c.w now xs)) ∧ (sersB c.w now xs = true → IdxAt w' (fun g => S g ∨ w.heap.size ≤ g) x { t with sers := xs } (M + xs.length)) ∧ Turn S w w' := by
  have HLB : Hid (Blk w l (ledV c now m) 99) := hl
  have HSL : Hid (¬ S l) := hSl
  have HI : Hid (IdxAt w S x { t with sers := [] } M) := h
  have H0 : Hid (Below w0.heap.size w0 w) := h0
  have HU : Hid (UTab w0) := hU
  have HPI : Hid (PairsIn w0 a xs) := hp
  have HSS : Hid (∀ g, S g → w0.heap.size ≤ g) := hS
  have HBB : Hid (∀ i (h : i < xs.length), xs[i].s.size ≤ 1000000000) := hb
  clear h h0 hU hp hS hb hl hSl
  go_enter Tryz.func91, Tryz.ntmps91
  go_wp2
  go_loopw [7, 8, 9, 12] (fun _ _ _ j wr => ∃ k : Nat, k ≤ xs.length ∧ j = .int .i64 k ∧ allTo (serAt c.w now xs) k = true ∧ IdxAt wr (fun g => S g ∨ w.heap.size ≤ g) x { t with sers := xs.take k } (M + k) ∧ Turn S w wr) (fun _ _ _ j _ => xs.length - (intOf j).toNat)
  case atStart => exact ⟨0, Nat.zero_le _, rfl, rfl, HI.out.keep (fun g _ hs => ⟨rfl, Or.inl hs⟩), Turn.refl _ _⟩
  case round =>
    obtain ⟨k, hk, rfl, hok, hidx, htn⟩ := hrel
    have HOK : Hid (allTo (serAt c.w now xs) k = true) := hok
    have HIX : Hid (IdxAt wr (fun g => S g ∨ w.heap.size ≤ g) x { t with sers := xs.take k } (M + k)) := hidx
    have HTN : Hid (Turn S w wr) := htn
    have B0 : Hid (Below w0.heap.size w0 wr) := H0.out.trans (htn.below H0.out.size (fun k hk hs => by have := HSS.out k hs; omega))
    clear hok hidx htn
    by_cases hlt : k < xs.length
    · obtain ⟨pb, po, rfl, hpl, c0, c1⟩ := (HPI.out.later B0.out).at hlt
      have HMF : Hid (serAt c.w now xs k = false → sersB c.w now xs = false) := fun h => allTo_not h hlt
      have HMA : Hid (serAt c.w now xs k = (prevB xs k && keyOK xs[k].s && btwB xs[k].n 0 now && decide (now - xs[k].n < c.w))) := serAt_eq hlt
      have hsz := HBB.out k hlt
      have HPRE : Hid (0 < k → ∃ pn : ByteArray, prevB xs k = blt pn xs[k].s ∧ wr.cell? ⟨pb, po + (k - 1) * 2, none⟩ = some (.string pn)) := fun h0 => by
        refine ⟨_, prevB_at h0 hlt, ?_⟩
        obtain ⟨b', o', e, _, u0, _⟩ := (HPI.out.later B0.out).at (i := k - 1) (by omega)
        simp only [Option.some.injEq, Addr.mk.injEq, and_true] at e
        rw [e.1, e.2]; exact u0
      have HPZ : Hid (k = 0 → prevB xs k = true) := fun h0 => by subst h0; rfl
      have HTK : Hid (serAt c.w now xs k = true → allTo (serAt c.w now xs) (k + 1) = true ∧ insBy (·.s) xs[k] (xs.take k) = xs.take (k + 1) ∧ getBy (·.s) xs[k].s (xs.take k) = none) := fun h => by
        have h1 : allTo (serAt c.w now xs) (k + 1) = true := by rw [allTo_succ, HOK.out, h]; rfl
        exact ⟨h1, ins_take (key := fun p : PairD => p.s) hlt (sers_rise h1 (by omega))⟩
      have HLW : Hid (Blk wr l (ledV c now m) 99) := HTN.out.blk HLB.out HSL.out
      have HMT : Hid (∀ W, UTab W → Calls Tryz.prog 111 #[.string xs[k].s] W fun e w' => e = .returned (.string (metK xs[k].s)) ∧ Below W.heap.size W w') := fun W hW => implMet_any xs[k].s W hsz hW
      have hms : (metK xs[k].s).size ≤ maxLen := metK_size xs[k].s
      have HTL : Hid ((xs.take k).length ≤ 1000000000) := by show _ ≤ _; rw [List.length_take]; omega
      generalize xs[k] = P at *
      go_upto_region 4 with fail
      have MBX : Hid (Blk (wr.alloc (.cells #[.string P.s, .int .i64 P.n] 61)) wr.heap.size #[.string P.s, .int .i64 P.n] 61) := Blk.new _ _ _
      have HB6 : Hid (Below wr.heap.size wr (wr.alloc (.cells #[.string P.s, .int .i64 P.n] 61))) := bnew _ _
      have x0 : (wr.alloc (.cells #[.string P.s, .int .i64 P.n] 61)).cell? ⟨wr.heap.size, 0, none⟩ = some (.string P.s) := MBX.out.cell 0
      generalize wr.alloc (.cells #[.string P.s, .int .i64 P.n] 61) = W0 at *
      go_wp2_with fail
      refine (HMT.out _ (HU.out.later (B0.out.trans (HB6.out.mono B0.out.size)))).mono ?_
      rintro e W ⟨rfl, hbW⟩
      have HPR6 : Hid (0 < k → ∃ pn : ByteArray, prevB xs k = blt pn P.s ∧ W.cell? ⟨pb, po + (k - 1) * 2, none⟩ = some (.string pn)) := fun h0 => by
        obtain ⟨pn, e1, e2⟩ := HPRE.out h0
        exact ⟨pn, e1, ((bto HB6.out hbW).cell hpl).trans e2⟩
      have MBW : Hid (Blk W wr.heap.size #[.string P.s, .int .i64 P.n] 61) := MBX.out.later hbW
      have HIW : Hid (IdxAt W (fun g => S g ∨ w.heap.size ≤ g) x { t with sers := xs.take k } (M + k)) := HIX.out.later (bto HB6.out hbW)
      have HTW : Hid (Turn S w W) := HTN.out.trans' (Turn.of (bto HB6.out hbW))
      have HLX : Hid (Blk W l (ledV c now m) 99) := HLW.out.later (bto HB6.out hbW)
      generalize wr.heap.size = mb at *
      clear c0 c1 HPRE hpl HIX HTN B0 HB6 hbW x0 MBX HLW HMT wr W0
      go_upto_region 5 with fail
      go_cut [53] (fun s wx => s = .bool (!(serAt c.w now xs k)) ∧ Below W.heap.size W wx)
      case first =>
        have d0 := Later.cells (show W.cell? ⟨mb, 0, none⟩ = some (.string P.s) from MBW.out.cell 0)
        have d1 := Later.cells (show W.cell? ⟨mb, 1, none⟩ = some (.int .i64 P.n) from MBW.out.cell 1)
        have d2 := Later.cells (show W.cell? ⟨l, 6, none⟩ = some (.int .i64 now) from HLX.out.cell 6)
        have hnel := Later.there W
        have HLI : Hid (∀ W, Calls Tryz.prog 60 #[.int .i64 P.n, .int .i64 now] W fun e w' => e = .returned (.bool (btwB P.n 0 now)) ∧ w' = W) := fun W => within_any P.n now W
        have HEX : Hid (∀ x : Later W, Calls Tryz.prog 112 #[.pointer (some ⟨l, 0, none⟩)] x.w' fun e w' => e = .returned (.int .i64 (now - c.w)) ∧ Below x.w'.heap.size x.w' w') := fun x => expired_any l m c now x.w' (HLX.out.later x.h) h1 h2 hw0 hw1
        by_cases h0 : (0 : Int) < k
        · have h0' : 0 < k := by omega
          obtain ⟨pn, hp, cp⟩ := HPR6.out h0'
          have d3 := Later.cells cp
          by_cases hb : Op.bytesLess pn.toList P.s.toList = true
          · have HPT : Hid (prevB xs k = true) := by show _ = _; rw [hp]; exact hb
            clear cp hp
            by_cases f1 : (metK P.s).toList.isEmpty = true
            · have HV : Hid (serAt c.w now xs k = false) := by show _ = _; rw [HMA.out, keyOK, f1]; simp
              refine wp_region_later (by kernel_rfl) (by kernel_rfl) ?_
              repeat (go_big_quiet_step (first | (go_at_call 60; exact calls_later_same (HLI.out _)) | (go_at_call 112; exact calls_later (HEX.out _))))
              refine wpQuiet_nil ?_
              rintro _ ⟨x, rfl⟩
              go_wp2_with fail
              go_meet
              exact ⟨by rw [HV.out]; rfl, x.h⟩
            have f1' : (metK P.s).toList.isEmpty = false := by simpa using f1
            rw [keyOK, f1'] at HMA
            clear f1
            by_cases f2 : btwB P.n 0 now = false
            · have HV : Hid (serAt c.w now xs k = false) := by show _ = _; rw [HMA.out, f2]; simp
              rw [f2] at HLI
              clear f2
              refine wp_region_later (by kernel_rfl) (by kernel_rfl) ?_
              repeat (go_big_quiet_step (first | (go_at_call 60; exact calls_later_same (HLI.out _)) | (go_at_call 112; exact calls_later (HEX.out _))))
              refine wpQuiet_nil ?_
              rintro _ ⟨x, rfl⟩
              go_wp2_with fail
              go_meet
              exact ⟨by rw [HV.out]; rfl, x.h⟩
            have f2' : btwB P.n 0 now = true := by simpa using f2
            obtain ⟨r0, r1⟩ := btw_in f2'
            rw [f2'] at HLI HMA
            clear f2 f2'
            have HV : Hid (serAt c.w now xs k = decide (now - P.n < c.w)) := by show _ = _; rw [HMA.out, HPT.out]; simp
            by_cases f3 : P.n ≤ now - c.w
            · have hx : decide (now - P.n < c.w) = false := by simp; omega
              rw [hx] at HV
              clear hx
              refine wp_region_later (by kernel_rfl) (by kernel_rfl) ?_
              repeat (go_big_quiet_step (first | (go_at_call 60; exact calls_later_same (HLI.out _)) | (go_at_call 112; exact calls_later (HEX.out _))))
              refine wpQuiet_nil ?_
              rintro _ ⟨x, rfl⟩
              go_wp2_with fail
              go_meet
              exact ⟨by rw [HV.out]; rfl, x.h⟩
            have hx : decide (now - P.n < c.w) = true := by simp; omega
            rw [hx] at HV
            have hx2 : decide (P.n ≤ now - c.w) = false := by simpa using f3
            clear hx
            refine wp_region_later (by kernel_rfl) (by kernel_rfl) ?_
            repeat (go_big_quiet_step (first | (go_at_call 60; exact calls_later_same (HLI.out _)) | (go_at_call 112; exact calls_later (HEX.out _))))
            refine wpQuiet_nil ?_
            rintro _ ⟨x, rfl⟩
            go_wp2_with fail
            go_meet
            exact ⟨by rw [HV.out]; rfl, x.h⟩
          · have hb' : Op.bytesLess pn.toList P.s.toList = false := by simpa using hb
            have HV : Hid (serAt c.w now xs k = false) := by show _ = _; rw [HMA.out, hp, blt, hb']; simp
            clear cp hp hb
            refine wp_region_later (by kernel_rfl) (by kernel_rfl) ?_
            repeat (go_big_quiet_step (first | (go_at_call 60; exact calls_later_same (HLI.out _)) | (go_at_call 112; exact calls_later (HEX.out _))))
            refine wpQuiet_nil ?_
            rintro _ ⟨x, rfl⟩
            go_wp2_with fail
            go_meet
            exact ⟨by rw [HV.out]; rfl, x.h⟩
        · have hd : decide ((0 : Int) < k) = false := by simpa using h0
          have hd' : decide (0 < k) = false := by simp; omega
          have HPT : Hid (prevB xs k = true) := HPZ.out (by omega)
          by_cases f1 : (metK P.s).toList.isEmpty = true
          · have HV : Hid (serAt c.w now xs k = false) := by show _ = _; rw [HMA.out, keyOK, f1]; simp
            refine wp_region_later (by kernel_rfl) (by kernel_rfl) ?_
            repeat (go_big_quiet_step (first | (go_at_call 60; exact calls_later_same (HLI.out _)) | (go_at_call 112; exact calls_later (HEX.out _))))
            refine wpQuiet_nil ?_
            rintro _ ⟨x, rfl⟩
            go_wp2_with fail
            go_meet
            exact ⟨by rw [HV.out]; rfl, x.h⟩
          have f1' : (metK P.s).toList.isEmpty = false := by simpa using f1
          rw [keyOK, f1'] at HMA
          clear f1
          by_cases f2 : btwB P.n 0 now = false
          · have HV : Hid (serAt c.w now xs k = false) := by show _ = _; rw [HMA.out, f2]; simp
            rw [f2] at HLI
            clear f2
            refine wp_region_later (by kernel_rfl) (by kernel_rfl) ?_
            repeat (go_big_quiet_step (first | (go_at_call 60; exact calls_later_same (HLI.out _)) | (go_at_call 112; exact calls_later (HEX.out _))))
            refine wpQuiet_nil ?_
            rintro _ ⟨x, rfl⟩
            go_wp2_with fail
            go_meet
            exact ⟨by rw [HV.out]; rfl, x.h⟩
          have f2' : btwB P.n 0 now = true := by simpa using f2
          obtain ⟨r0, r1⟩ := btw_in f2'
          rw [f2'] at HLI HMA
          clear f2 f2'
          have HV : Hid (serAt c.w now xs k = decide (now - P.n < c.w)) := by show _ = _; rw [HMA.out, HPT.out]; simp
          by_cases f3 : P.n ≤ now - c.w
          · have hx : decide (now - P.n < c.w) = false := by simp; omega
            rw [hx] at HV
            clear hx
            refine wp_region_later (by kernel_rfl) (by kernel_rfl) ?_
            repeat (go_big_quiet_step (first | (go_at_call 60; exact calls_later_same (HLI.out _)) | (go_at_call 112; exact calls_later (HEX.out _))))
            refine wpQuiet_nil ?_
            rintro _ ⟨x, rfl⟩
            go_wp2_with fail
            go_meet
            exact ⟨by rw [HV.out]; rfl, x.h⟩
          have hx : decide (now - P.n < c.w) = true := by simp; omega
          rw [hx] at HV
          have hx2 : decide (P.n ≤ now - c.w) = false := by simpa using f3
          clear hx
          refine wp_region_later (by kernel_rfl) (by kernel_rfl) ?_
          repeat (go_big_quiet_step (first | (go_at_call 60; exact calls_later_same (HLI.out _)) | (go_at_call 112; exact calls_later (HEX.out _))))
          refine wpQuiet_nil ?_
          rintro _ ⟨x, rfl⟩
          go_wp2_with fail
          go_meet
          exact ⟨by rw [HV.out]; rfl, x.h⟩
      obtain ⟨rfl, hb7⟩ := hcut
      rename World => w7
      have MB7 : Hid (Blk w7 mb #[.string P.s, .int .i64 P.n] 61) := MBW.out.later hb7
      have HI7 : Hid (IdxAt w7 (fun g => S g ∨ w.heap.size ≤ g) x { t with sers := xs.take k } (M + k)) := HIW.out.later hb7
      have HT7 : Hid (Turn S w w7) := HTW.out.trans' (Turn.of hb7)
      clear hb7 MBW HIW HTW HPR6 HLX
      by_cases f4 : serAt c.w now xs k = false
      · have HF4 : Hid (sersB c.w now xs = false) := HMF.out f4
        rw [f4]
        clear f4
        go_wp2
        go_ret
        exact ⟨ret_bool HF4.out.symm, fun h => absurd h (by rw [HF4.out]; simp), HT7.out⟩
      · have f4' : serAt c.w now xs k = true := by simpa using f4
        obtain ⟨g1, g2, g3⟩ := HTK.out f4'
        have G1 : Hid (allTo (serAt c.w now xs) (k + 1) = true) := g1
        have G2 : Hid (insBy (·.s) P (xs.take k) = xs.take (k + 1)) := g2
        have HADD : Hid (Calls Tryz.prog 113 #[.pointer (some ⟨x, 0, none⟩), .string P.s, .string (metK P.s), .int .i64 P.n] w7 fun e w' => e = .returned (.tuple #[]) ∧ IdxAt w' (fun g => (S g ∨ w.heap.size ≤ g) ∨ w7.heap.size ≤ g) x { t with sers := insBy (·.s) ⟨P.s, P.n⟩ (xs.take k) } (M + k + 1) ∧ Turn (fun g => S g ∨ w.heap.size ≤ g) w7 w') :=
          add_any x { t with sers := xs.take k } P.s P.n _ (M + k) w7 HI7.out g3 (by unfold maxLen; omega) hms (by omega) HTL.out
        have x1 : w7.cell? ⟨mb, 0, none⟩ = some (.string P.s) := MB7.out.cell 0
        have x2 : w7.cell? ⟨mb, 1, none⟩ = some (.int .i64 P.n) := MB7.out.cell 1
        rw [f4']
        clear f4 f4' g1 g2 g3 HMF HMA HPZ HTK
        go_wp2_with fail
        refine HADD.out.mono ?_
        rintro e w8 ⟨rfl, hi8, ht8⟩
        have HN : Hid (IdxAt w8 (fun g => S g ∨ w.heap.size ≤ g) x { t with sers := xs.take (k + 1) } (M + (k + 1))) := by
          have := hi8.keep (w' := w8) (S' := fun g => S g ∨ w.heap.size ≤ g) (fun g _ hs => ⟨rfl, by rcases hs with hs | hs; exact hs; exact Or.inr (by have := HT7.out.size; omega)⟩)
          rw [show (⟨P.s, P.n⟩ : PairD) = P from rfl, G2.out] at this
          exact this
        have HT8 : Hid (Turn S w w8) := HT7.out.trans ht8
        clear hi8 ht8 HADD x1 x2 HI7 HT7
        go_wp2
        exact ⟨⟨k + 1, by omega, by go_num, G1.out, HN.out, HT8.out⟩, by simp [intOf]; omega⟩
    · have ek : k = xs.length := by omega
      have HEND : Hid (sersB c.w now xs = true) := by have := HOK.out; rw [ek] at this; exact this
      have HIE : Hid (IdxAt wr (fun g => S g ∨ w.heap.size ≤ g) x { t with sers := xs } (M + xs.length)) := by have := HIX.out; rw [ek, List.take_length] at this; exact this
      clear ek
      go_wp2
      go_ret
      exact ⟨ret_bool HEND.out.symm, fun _ => HIE.out, HTN.out⟩
end Go.Proofs.YtojeemogabhaoaaGreatDoor
namespace Go.Proofs.YtojeemogabhaoaaGreatDoor
open Go.RowKit Go.Maps
structure LedS (w : World) (B : Nat) (T : Nat → Option Nat) (l m : Nat) (c : CfgD) (now : Int) (L : List (TenD × Nat)) (M : Nat) : Prop where
  blk : Blk w l (ledV c now m) 99
  ten : w.ownsMap Tryz.prog 9 ptrElem m L.length (mapOf (L.map fun p => (p.1.name, pVal p.2)))
  rise : RiseBy (fun p : TenD × Nat => p.1.name) L
  idx : ∀ p ∈ L, IdxAt w (fun g => B ≤ g ∧ T g = some p.2) p.2 p.1 M
  nd : (L.map (·.2)).Nodup
  tl : T l = none
  tm : T m = none
  lB : B ≤ l
  mB : B ≤ m
def LedAt (w : World) (B l m : Nat) (c : CfgD) (now : Int) (ts : List TenD) (M : Nat) : Prop := ∃ T L, LedS w B T l m c now L M ∧ L.map (·.1) = ts
theorem LedS.lm {w : World} {B : Nat} {T : Nat → Option Nat} {l m : Nat} {c : CfgD} {now : Int} {L : List (TenD × Nat)} {M : Nat} (h : LedS w B T l m c now L M) : m ≠ l := map_ne_cells h.ten h.blk
theorem LedS.keep {w w' : World} {B : Nat} {T : Nat → Option Nat} {l m : Nat} {c : CfgD} {now : Int} {L : List (TenD × Nat)} {M : Nat} (h : LedS w B T l m c now L M) (hk : ∀ g, g < w.heap.size → B ≤ g → w'.heap[g]? = w.heap[g]?) : LedS w' B T l m c now L M :=
  { h with
    blk := (hk l (lt_of_block h.blk) h.lB).trans h.blk
    ten := by
      have hlt := h.ten.lt
      obtain ⟨es, clock, hb, r⟩ := h.ten
      exact ⟨es, clock, (hk m hlt h.mB).trans hb, r⟩
    idx := fun p hp => (h.idx p hp).keep fun g hg hs => ⟨hk g hg hs.1, hs⟩ }
theorem LedAt.later {w w' : World} {B l m : Nat} {c : CfgD} {now : Int} {ts : List TenD} {M : Nat} (h : LedAt w B l m c now ts M) (hb : Below w.heap.size w w') : LedAt w' B l m c now ts M := by
  obtain ⟨T, L, h, e⟩ := h
  exact ⟨T, L, h.keep fun g hg _ => hb.block g hg, e⟩
theorem load_end {w w1 w2 w3 w5 : World} {B : Nat} {T : Nat → Option Nat} {l m x n : Nat} {c : CfgD} {now : Int} {L : List (TenD × Nat)} {M M' : Nat} {t : TenD} (h : LedS w B T l m c now L M) (hB : B ≤ w.heap.size) (hnew : getBy (fun p : TenD × Nat => p.1.name) t.name L = none)
    (b1 : Below w.heap.size w w1) (b2 : Below w1.heap.size w1 w2) (hx : w1.heap.size ≤ x) (t3 : Turn (· = m) w2 w3) (own3 : w3.ownsMap Tryz.prog 9 ptrElem m n (DataW.put (mapOf (L.map fun p => (p.1.name, pVal p.2))) (kL t.name) (pVal x)))
    (t5 : Turn (fun g => w1.heap.size ≤ g) w3 w5) (hi5 : IdxAt w5 (fun g => w1.heap.size ≤ g) x t M') (hM : M' ≤ M) :
    LedAt w5 B l m c now ((insBy (fun p : TenD × Nat => p.1.name) (t, x) L).map (·.1)) M := by
  have hl := lt_of_block h.blk
  have hm := h.ten.lt
  have h1 := b1.size
  have h2 := b2.size
  have h3 := t3.size
  have hmem : ∀ p, p ∈ insBy (fun p : TenD × Nat => p.1.name) (t, x) L → p = (t, x) ∨ p ∈ L := fun p hp => insBy_mem hp
  have hperm := insBy_new (key := fun p : TenD × Nat => p.1.name) (a := (t, x)) hnew
  have hblk : ∀ g, g < w.heap.size → g ≠ m → w5.heap[g]? = w.heap[g]? := fun g hg hne => by
    rw [t5.block g (by omega) (by omega), t3.block g (by omega) hne, b2.block g (by omega), b1.block g hg]
  have hput : DataW.put (mapOf (L.map fun p => (p.1.name, pVal p.2))) (kL t.name) (pVal x) = mapOf ((insBy (fun p : TenD × Nat => p.1.name) (t, x) L).map fun p => (p.1.name, pVal p.2)) :=
    put_by (key := fun p : TenD × Nat => p.1.name) (fun p => pVal p.2) (t, x) h.rise
  refine ⟨fun g => if g < w.heap.size then T g else some x, _, ?_, rfl⟩
  exact {
    blk := (hblk l hl h.lm.symm).trans h.blk
    ten := by
      have := tight (t5.map own3 (by omega))
      rw [hput, size_by] at this
      exact this
    rise := insBy_rise h.rise
    idx := fun p hp => by
      rcases hmem p hp with rfl | hp
      · refine (hi5.mono hM).keep fun g _ hs => ⟨rfl, by omega, ?_⟩
        show (if g < w.heap.size then T g else some x) = some x
        rw [if_neg (by omega)]
      · refine (h.idx p hp).keep fun g hg hs => ⟨hblk g hg (fun e => by rw [e, h.tm] at hs; cases hs.2), hs.1, ?_⟩
        show (if g < w.heap.size then T g else some x) = _
        rw [if_pos hg]; exact hs.2
    nd := by
      rw [(hperm.map _).nodup_iff, List.map_cons, List.nodup_cons]
      refine ⟨fun hq => ?_, h.nd⟩
      obtain ⟨p, hp, e⟩ := List.mem_map.1 hq
      have := (h.idx p hp).lt
      simp only at e
      omega
    tl := by show (if l < w.heap.size then T l else _) = none; rw [if_pos hl]; exact h.tl
    tm := by show (if m < w.heap.size then T m else _) = none; rw [if_pos hm]; exact h.tm
    lB := h.lB
    mB := h.mB }
theorem getBy_led {L : List (TenD × Nat)} {k : ByteArray} (h : getBy (·.name) k (L.map (·.1)) = none) : getBy (fun p : TenD × Nat => p.1.name) k L = none := by
  have := getBy_map (key := fun p : TenD × Nat => p.1.name) (key' := fun t : TenD => t.name) (fun p => p.1) (fun _ => rfl) k L
  rw [h] at this
  cases hg : getBy (fun p : TenD × Nat => p.1.name) k L with
  | none => rfl
  | some q => rw [hg] at this; cases this
set_option maxRecDepth 100000 in
set_option maxHeartbeats 4000000 in
theorem load_any (l m : Nat) (t : TenD) (a1 a2 : Option Addr) (c1 c2 : Nat) (c : CfgD) (now : Int) (ts : List TenD) (M : Nat) (w0 w : World) (h : LedAt w w0.heap.size l m c now ts M) (h0 : Below w0.heap.size w0 w) (hU : UTab w0) (p1 : PairsIn w0 a1 t.mets) (p2 : PairsIn w0 a2 t.sers)
    (hnew : getBy (·.name) t.name ts = none) (hn : t.name.size ≤ maxLen) (hb1 : ∀ i (h : i < t.mets.length), t.mets[i].s.size ≤ 1000000000) (hb2 : ∀ i (h : i < t.sers.length), t.sers[i].s.size ≤ 1000000000) (hl1 : t.mets.length ≤ 500000000) (hl2 : t.sers.length ≤ 500000000) (hLL : ts.length ≤ 1000000000) (hM : t.sers.length ≤ M)
    (hn0 : 0 ≤ now) (hn1 : now ≤ 1000000000000) (hw0 : 1 ≤ c.w) (hw1 : c.w ≤ 1000000000) :
    Calls Tryz.prog 61 #[.pointer (some ⟨l, 0, none⟩), .agg #[.string t.name, .int .i64 t.limit, .slice a1 t.mets.length c1, .slice a2 t.sers.length c2]] w fun e w' => e = .returned (.bool (tenB c.w now t)) ∧
      (tenB c.w now t = true → LedAt w' w0.heap.size l m c now (insBy (·.name) t ts) M) ∧ Turn (· = m) w w' := by
  obtain ⟨T, L, h, hL⟩ := h
  have HTB : Hid (tenB c.w now t = (tnameB t.name && btwB t.limit (-1) 1000000 && metsB t.mets && sersB c.w now t.sers && !idleB t)) := rfl
  have HNM : Hid (∀ W, Calls Tryz.prog 36 #[.string t.name] W fun e w' => e = .returned (.bool (tnameB t.name)) ∧ w' = W) := fun W => isTenantName_any t.name W hn
  by_cases e1 : tnameB t.name = false
  · rw [e1] at HNM HTB
    clear h
    go_enter Tryz.func61, Tryz.ntmps61
    go_wp2_with fail
    refine (HNM.out _).mono ?_
    rintro e w1 ⟨rfl, hw⟩
    replace hw := hw.symm
    subst hw
    go_wp2
    go_ret
    exact ⟨ret_bool (by rw [HTB.out]; simp), fun h => absurd h (by rw [HTB.out]; simp), Turn.of (bnew _ _)⟩
  have e1' : tnameB t.name = true := by simpa using e1
  rw [e1'] at HNM HTB
  clear e1 e1'
  have HLM : Hid (∀ W, Calls Tryz.prog 67 #[.int .i64 t.limit] W fun e w' => e = .returned (.bool (btwB t.limit (-1) 1000000)) ∧ w' = W) := fun W => isLimitOrNone_any t.limit W
  by_cases e2 : btwB t.limit (-1) 1000000 = false
  · rw [e2] at HLM HTB
    clear h
    go_enter Tryz.func61, Tryz.ntmps61
    go_wp2_with fail
    refine (HNM.out _).mono ?_
    rintro e w1 ⟨rfl, hw⟩
    replace hw := hw.symm
    subst hw
    go_wp2_with fail
    refine (HLM.out _).mono ?_
    rintro e w1 ⟨rfl, hw⟩
    replace hw := hw.symm
    subst hw
    go_wp2
    go_ret
    exact ⟨ret_bool (by rw [HTB.out]; simp), fun h => absurd h (by rw [HTB.out]; simp), Turn.of (bnew _ _)⟩
  have e2' : btwB t.limit (-1) 1000000 = true := by simpa using e2
  rw [e2'] at HLM HTB
  clear e2 e2'
  have HH : Hid (LedS w w0.heap.size T l m c now L M) := h
  have hml := h.ten.lt
  have hll := lt_of_block h.blk
  have hw0l := h0.size
  have HLE : Hid (L.map (·.1) = ts) := hL
  have hLn : L.length = ts.length := by rw [← hL, List.length_map]
  have HGN : Hid (getBy (fun p : TenD × Nat => p.1.name) t.name L = none) := getBy_led (by rw [hL]; exact hnew)
  have HK : Hid (keyOf Tryz.prog 9 (.string t.name) = some (kL t.name)) := key_mk hn
  have HNI : Hid (∀ W, Calls Tryz.prog 79 #[.int .i64 t.limit] W fun e w' => ∃ x, e = .returned (.pointer (some ⟨x, 0, none⟩)) ∧ W.heap.size ≤ x ∧ IdxAt w' (fun g => W.heap.size ≤ g) x ⟨t.name, t.limit, [], []⟩ 0 ∧ Below W.heap.size W w') := fun W => newIndex_any t.limit t.name W
  have HLL : Hid (∀ (S : Nat → Prop) (x : Nat) (W : World), IdxAt W S x ⟨t.name, t.limit, [], []⟩ 0 → Below w0.heap.size w0 W → (∀ g, S g → w0.heap.size ≤ g) → Calls Tryz.prog 90 #[.pointer (some ⟨x, 0, none⟩), .slice a1 t.mets.length c1] W fun e w' => e = .returned (.bool (metsB t.mets)) ∧ (metsB t.mets = true → IdxAt w' (fun g => S g ∨ W.heap.size ≤ g) x ⟨t.name, t.limit, t.mets, []⟩ 0) ∧ Turn S W w') :=
    fun S x W hi hb hs => loadLimits_any x a1 c1 t.mets ⟨t.name, t.limit, [], []⟩ S 0 w0 W hi hb hU p1 hs hb1 (by omega)
  have HSS : Hid (∀ (S : Nat → Prop) (x : Nat) (W : World), IdxAt W S x ⟨t.name, t.limit, t.mets, []⟩ 0 → Below w0.heap.size w0 W → (∀ g, S g → w0.heap.size ≤ g) → Blk W l (ledV c now m) 99 → ¬ S l → Calls Tryz.prog 91 #[.pointer (some ⟨l, 0, none⟩), .pointer (some ⟨x, 0, none⟩), .slice a2 t.sers.length c2] W fun e w' => e = .returned (.bool (sersB c.w now t.sers)) ∧ (sersB c.w now t.sers = true → IdxAt w' (fun g => S g ∨ W.heap.size ≤ g) x ⟨t.name, t.limit, t.mets, t.sers⟩ (0 + t.sers.length)) ∧ Turn S W w') :=
    fun S x W hi hb hs hbl hsl => loadSeries_any l m x a2 c2 t.sers ⟨t.name, t.limit, t.mets, []⟩ c now S 0 w0 W hbl hsl hi hb hU p2 hs hb2 hl2 (by omega) hn0 hn1 hw0 hw1
  have H0 : Hid (Below w0.heap.size w0 w) := h0
  clear h p1 p2 hnew hn hb1 hb2 hl1 hl2 hL h0 hU
  go_enter Tryz.func61, Tryz.ntmps61
  go_wp2_with fail
  refine (HNM.out _).mono ?_
  rintro e w1 ⟨rfl, hw⟩
  replace hw := hw.symm
  subst hw
  go_wp2_with fail
  refine (HLM.out _).mono ?_
  rintro e w1 ⟨rfl, hw⟩
  replace hw := hw.symm
  subst hw
  go_wp2_with fail
  have B1 : Hid (Below w.heap.size w (w.alloc (.cells #[.string t.name, .int .i64 t.limit, .slice a1 t.mets.length c1, .slice a2 t.sers.length c2] 55))) := bnew _ _
  have X1 : Hid (Blk (w.alloc (.cells #[.string t.name, .int .i64 t.limit, .slice a1 t.mets.length c1, .slice a2 t.sers.length c2] 55)) w.heap.size #[.string t.name, .int .i64 t.limit, .slice a1 t.mets.length c1, .slice a2 t.sers.length c2] 55) := Blk.new _ _ _
  have hz1 : w.heap.size < (w.alloc (.cells #[.string t.name, .int .i64 t.limit, .slice a1 t.mets.length c1, .slice a2 t.sers.length c2] 55)).heap.size := by simp
  generalize w.alloc (.cells #[.string t.name, .int .i64 t.limit, .slice a1 t.mets.length c1, .slice a2 t.sers.length c2] 55) = w1 at *
  refine (HNI.out w1).mono ?_
  rintro e w2 ⟨x, rfl, hx, hi2, hb2⟩
  have B2 : Hid (Below w1.heap.size w1 w2) := hb2
  have b12 := bto B1.out hb2
  have X2 : Hid (Blk w2 w.heap.size #[.string t.name, .int .i64 t.limit, .slice a1 t.mets.length c1, .slice a2 t.sers.length c2] 55) := X1.out.later hb2
  have L2 : Hid (Blk w2 l (ledV c now m) 99) := HH.out.blk.later b12
  have ten2 : w2.ownsMap Tryz.prog 9 ptrElem m L.length (mapOf (L.map fun p => (p.1.name, pVal p.2))) := (Turn.of (S := fun _ => False) b12).map HH.out.ten (fun e => e)
  obtain ⟨w3, run3, own3, gr3⟩ := ten2.drew.update keyed Tryz.underlying97 (by unfold maxLen; omega) HK.out (ptrElem_mk x)
  have t3 : Turn (· = m) w2 w3 := (Turn.grown (a := w2) ⟨gr3.os, gr3.tape, gr3.output, gr3.size, gr3.block⟩).mono fun i _ e => by simp only [Option.some.injEq] at e; exact e.symm
  have T3 : Hid (Turn (· = m) w2 w3) := t3
  have OWN3 : Hid (w3.ownsMap Tryz.prog 9 ptrElem m (L.length + 1) (DataW.put (mapOf (L.map fun p => (p.1.name, pVal p.2))) (kL t.name) (pVal x))) := own3
  have HI3 : Hid (IdxAt w3 (fun g => w1.heap.size ≤ g) x ⟨t.name, t.limit, [], []⟩ 0) := hi2.keep fun g hg hs => ⟨t3.block g hg (by omega), hs⟩
  have hmb : w0.heap.size ≤ m := HH.out.mB
  have hlb : w0.heap.size ≤ l := HH.out.lB
  have B3 : Hid (Below w0.heap.size w0 w3) := (H0.out.trans (b12.mono hw0l)).trans (t3.below (by have := b12.size; omega) (fun k hk => by omega))
  have X3 : Hid (Blk w3 w.heap.size #[.string t.name, .int .i64 t.limit, .slice a1 t.mets.length c1, .slice a2 t.sers.length c2] 55) := t3.blk X2.out (by omega)
  have L3 : Hid (Blk w3 l (ledV c now m) 99) := t3.blk L2.out HH.out.lm.symm
  have x0 : w2.cell? ⟨l, 7, none⟩ = some (.map (some m)) := L2.out.cell 7
  have x1 : w2.cell? ⟨w.heap.size, 0, none⟩ = some (.string t.name) := X2.out.cell 0
  have hz2 := hb2.size
  have hz3 := t3.size
  have TW3 : Hid (Turn (· = m) w w3) := (Turn.of b12).trans' t3
  clear hb2 b12 ten2 own3 gr3 t3 hi2 X1 X2 L2 HNI HNM HLM
  go_upto_region 4 with fail
  go_cut [25] (fun _ wx => wx = w3)
  case first =>
    go_region
    go_wp2_with fail
    go_meet
    exact rfl
  subst hcut
  clear run3 x0 x1
  have y0 : wc.cell? ⟨w.heap.size, 2, none⟩ = some (.slice a1 t.mets.length c1) := X3.out.cell 2
  go_wp2_with fail
  refine (HLL.out _ x wc HI3.out B3.out (fun g hg => by omega)).mono ?_
  rintro e w4 ⟨rfl, hi4, t4⟩
  have HI4 : Hid (metsB t.mets = true → IdxAt w4 (fun g => w1.heap.size ≤ g ∨ wc.heap.size ≤ g) x ⟨t.name, t.limit, t.mets, []⟩ 0) := hi4
  have T4 : Hid (Turn (fun g => w1.heap.size ≤ g) wc w4) := t4
  have TW4 : Hid (Turn (· = m) w w4) := TW3.out.trans (t4.mono fun i _ e => Or.inr (by omega))
  have X4 : Hid (Blk w4 w.heap.size #[.string t.name, .int .i64 t.limit, .slice a1 t.mets.length c1, .slice a2 t.sers.length c2] 55) := t4.blk X3.out (by omega)
  have L4 : Hid (Blk w4 l (ledV c now m) 99) := t4.blk L3.out (by omega)
  have B4 : Hid (Below w0.heap.size w0 w4) := B3.out.trans (t4.below (by omega) (fun k hk => by omega))
  clear hi4 t4 y0 HLL X3 L3 HI3 B3 TW3
  by_cases e3 : metsB t.mets = false
  · rw [e3] at HTB ⊢
    go_wp2
    go_ret
    exact ⟨ret_bool (by rw [HTB.out]; simp), fun h => absurd h (by rw [HTB.out]; simp), TW4.out⟩
  have e3' : metsB t.mets = true := by simpa using e3
  have HI4' : Hid (IdxAt w4 (fun g => w1.heap.size ≤ g) x ⟨t.name, t.limit, t.mets, []⟩ 0) := (HI4.out e3').keep fun g _ hs => ⟨rfl, by rcases hs with hs | hs <;> omega⟩
  rw [e3'] at HTB ⊢
  clear e3 e3' HI4
  have y1 : w4.cell? ⟨w.heap.size, 3, none⟩ = some (.slice a2 t.sers.length c2) := X4.out.cell 3
  go_wp2_with fail
  refine (HSS.out _ x w4 HI4'.out B4.out (fun g hg => by omega) L4.out (by omega)).mono ?_
  rintro e w5 ⟨rfl, hi5, t5⟩
  have TW5 : Hid (Turn (· = m) w w5) := TW4.out.trans (t5.mono fun i _ e => Or.inr (by omega))
  have hz4 := T4.out.size
  by_cases e4 : sersB c.w now t.sers = false
  · rw [e4] at HTB ⊢
    clear hi5 t5
    go_wp2
    go_ret
    exact ⟨ret_bool (by rw [HTB.out]; simp), fun h => absurd h (by rw [HTB.out]; simp), TW5.out⟩
  have e4' : sersB c.w now t.sers = true := by simpa using e4
  have HI5 : Hid (IdxAt w5 (fun g => w1.heap.size ≤ g) x t t.sers.length) := by
    have := (hi5 e4').keep (w' := w5) (S' := fun g => w1.heap.size ≤ g) fun g _ hs => ⟨rfl, by rcases hs with hs | hs <;> omega⟩
    rw [Nat.zero_add] at this
    exact this
  have T35 : Hid (Turn (fun g => w1.heap.size ≤ g) wc w5) := T4.out.trans' t5
  rw [e4'] at HTB ⊢
  have HEND : Hid (LedAt w5 w0.heap.size l m c now (insBy (·.name) t ts) M) := by
    have := load_end HH.out hw0l HGN.out B1.out B2.out hx T3.out OWN3.out T35.out HI5.out hM
    rw [insBy_map (key' := fun t : TenD => t.name) (fun p : TenD × Nat => p.1) (fun _ => rfl), HLE.out] at this
    exact this
  clear e4 e4' hi5 t5 T35 T4 HSS HI4' B4 L4 X4 TW4 y1 OWN3 T3 HH
  have HID : Hid (Calls Tryz.prog 69 #[.pointer (some ⟨x, 0, none⟩)] w5 fun e w' => e = .returned (.bool (idleB t)) ∧ w' = w5) := idle_any x t _ _ w5 HI5.out
  go_wp2_with fail
  refine HID.out.mono ?_
  rintro e w6 ⟨rfl, hw⟩
  replace hw := hw.symm
  subst hw
  clear HID HI5
  cases hid : idleB t with
  | true =>
    rw [hid] at HTB
    go_wp2
    go_ret
    exact ⟨ret_bool (by rw [HTB.out]; rfl), fun h => absurd h (by rw [HTB.out]; simp), TW5.out⟩
  | false =>
    rw [hid] at HTB
    go_wp2
    go_ret
    exact ⟨ret_bool (by rw [HTB.out]; rfl), fun _ => HEND.out, TW5.out⟩
end Go.Proofs.YtojeemogabhaoaaGreatDoor
namespace Go.Proofs.YtojeemogabhaoaaGreatDoor
open Go.RowKit
theorem still_of_quiet {P : Program} {o : Oper} {a : Act} {w : World} {next : Act → Prop} (h : o.quiet P a (fun w' => ∃ _ : Unit, w' = w) next) : o.still P a w next := by
  obtain ⟨v, hq, hn⟩ := h
  have h1 := hq w ⟨(), rfl⟩
  unfold Oper.quietAt at h1
  unfold Oper.still
  generalize (execOp a.eval o).run P w = r at h1
  unfold Oper.quietUpon at h1
  unfold Oper.stillUpon
  split at h1
  · obtain ⟨rfl, rfl⟩ := h1
    exact ⟨rfl, hn⟩
  · obtain ⟨rfl, rfl⟩ := h1
    exact ⟨rfl, hn⟩
  · obtain ⟨rfl, hc⟩ := h1
    exact ⟨rfl, v, hc.mono fun e w'' ⟨he, _, hw⟩ => ⟨he, hw⟩, hn⟩
  · exact h1.elim
theorem wpStill_of_quiet {P : Program} {ops : Array Oper} {w : World} {Q : Act → Prop} : ∀ (l : List Oper) (a : Act), wpQuiet P ops (fun w' => ∃ _ : Unit, w' = w) Q l a → wpStill P ops w Q l a
  | [], a, h => h
  | o :: rest, a, h => by
    unfold wpQuiet at h
    unfold wpStill
    split
    · rename_i hw
      rw [if_pos hw] at h
      exact still_of_quiet (Oper.quiet_mono (fun a' h' => wpStill_of_quiet rest a' h') h)
    · rename_i hw
      rw [if_neg hw] at h
      exact wpStill_of_quiet rest _ h
theorem wp_region_quiet_tail {P : Program} {id : Nat} {Q : Exit → Act → World → Prop} {a : Act} {w : World} {l : List Oper} (n : Nat) (hm : P.follows .mixedOrders = true) (hB : Region.lexTailB .any l.toArray n = true)
    (h : wpQuiet P l.toArray (fun w' => ∃ _ : Unit, w' = w.drew) (fun a' => wpList P l.toArray Q (l.drop n) a' w.drew) (l.take n) a) : (Code.region id l.toArray true).wp P Q a w :=
  wp_region_still_tail n hm hB (wpStill_of_quiet _ _ h)
end Go.Proofs.YtojeemogabhaoaaGreatDoor
