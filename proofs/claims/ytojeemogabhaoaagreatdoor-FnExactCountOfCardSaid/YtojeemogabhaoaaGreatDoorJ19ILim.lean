import Derived.Test.YtojeemogabhaoaaGreatDoorProg
import Derived.Test.YtojeemogabhaoaaGreatDoorJ08IValC
import Derived.Test.YtojeemogabhaoaaGreatDoorJ06IdxA
import Derived.Test.YtojeemogabhaoaaGreatDoorJ10AppE
import Derived.Test.YtojeemogabhaoaaGreatDoorJ18Met
import Derived.Deep.DeepCutAuto
namespace Go.Proofs.YtojeemogabhaoaaGreatDoor
open Go.RowKit
theorem okT_eq (c : UInt8) : okM [45] c = okT c := by
  have e : decide (0 ≤ Lib.indexByte [45] c) = (c == 45) := by
    by_cases h : c = 45
    · subst h; rfl
    · have h1 : ((45 : UInt8) == c) = false := by simpa using fun e => h e.symm
      have h2 : (c == 45) = false := by simpa using h
      simp [Lib.indexByte, h1, h2]
  rw [okM, okT, e]
theorem tname_plain (s : ByteArray) : plainB s 32 ⟨#[45]⟩ = tnameB s := by
  have e : okM [45] = okT := funext okT_eq
  rw [plainB, tnameB, e]
  congr 2
  rw [Bool.eq_iff_iff]; simp; omega
set_option maxRecDepth 100000 in
set_option maxHeartbeats 1000000 in
theorem isTenantName_any (s : ByteArray) (w : World) (hs : s.size ≤ maxLen) : Calls Tryz.prog 36 #[.string s] w fun e w' => e = .returned (.bool (tnameB s)) ∧ w' = w := by
  have H : Hid (∀ W, Calls Tryz.prog 63 #[.string s, .int .i64 32, .string ⟨#[45]⟩] W fun e w' => e = .returned (.bool (tnameB s)) ∧ w' = W) := fun W => tname_plain s ▸ isPlain_any s 32 ⟨#[45]⟩ W hs
  generalize tnameB s = R at *
  go_enter Tryz.func36, Tryz.ntmps36
  go_wp2_with fail
  refine (H.out _).mono ?_
  rintro e w' ⟨rfl, hw⟩
  replace hw := hw.symm
  subst hw
  go_wp2
  go_ret
  exact ⟨rfl, rfl⟩
theorem okT_iff (c : UInt8) : okT c = decide ((97 ≤ (c.toNat : Int) ∧ (c.toNat : Int) ≤ 122) ∨ (48 ≤ (c.toNat : Int) ∧ (c.toNat : Int) ≤ 57) ∨ (c.toNat : Int) = 45) := by
  have e45 : (c == 45) = decide (c.toNat = 45) := by rw [Bool.eq_iff_iff]; simp [← UInt8.toNat_inj]
  rw [Bool.eq_iff_iff]
  simp [okT, e45, UInt8.le_iff_toNat_le]
  omega
set_option maxRecDepth 100000 in
set_option maxHeartbeats 2000000 in
theorem l4TenantName_any (s : ByteArray) (w : World) (hs : s.size ≤ maxLen) :
    Calls Tryz.prog 27 #[.string s] w fun e w' => e = .returned (.bool (tnameB s)) ∧ w' = w := by
  unfold maxLen at hs
  by_cases h1 : 1 ≤ s.size ∧ s.size ≤ 32
  · have hB : btwB (s.size : Int) 1 32 = true := by unfold btwB; simp; omega
    have HN : Hid (tnameB s = s.data.toList.all okT) := by show _ = _; simp [tnameB, h1.1, h1.2]
    have hl := h1.1
    have hu := h1.2
    clear h1
    go_enter Tryz.func27, Tryz.ntmps27
    go_wp2_with (go_at_call 26; refine (between_any _ _ _ _).mono ?_; rintro e w' ⟨rfl, rfl⟩)
    go_loop [3, 4] (fun i _ => ∃ k : Nat, k ≤ s.size ∧ i = .int .i64 k ∧ (s.data.toList.take k).all okT = true) (fun i _ => s.size - (intOf i).toNat)
    case atStart => exact ⟨0, Nat.zero_le _, rfl, by simp⟩
    case round =>
      obtain ⟨k, hk, rfl, hok⟩ := hrel
      have HOK : Hid ((s.data.toList.take k).all okT = true) := hok
      clear hok hB
      by_cases hlt : k < s.size
      · have hsn := all_take_succ (f := okT) hlt
        rw [HOK.out, Bool.true_and, okT_iff] at hsn
        have HS : Hid ((s.data.toList.take (k + 1)).all okT = decide ((97 ≤ (s[k].toNat : Int) ∧ (s[k].toNat : Int) ≤ 122) ∨ (48 ≤ (s[k].toNat : Int) ∧ (s[k].toNat : Int) ≤ 57) ∨ (s[k].toNat : Int) = 45)) := hsn
        clear hsn
        go_wp2
        all_goals first
          | (go_ret
             refine ⟨ret_bool ?_, rfl⟩
             rw [HN.out]
             refine (all_not (k := k + 1) ?_).symm
             rw [HS.out, decide_eq_false_iff_not]
             simp at *
             omega)
          | (refine ⟨⟨k + 1, by omega, by go_num, ?_⟩, by simp [intOf]; omega⟩
             rw [HS.out, decide_eq_true_iff]
             simp at *
             omega)
      · go_wp2
        go_ret
        exact ⟨ret_bool (by rw [HN.out, ← HOK.out, List.take_of_length_le (by simp; omega)]), rfl⟩
  · have hB : btwB (s.size : Int) 1 32 = false := by unfold btwB; simp; omega
    have HN : Hid (tnameB s = false) := by show _ = _; simp [tnameB]; omega
    go_enter Tryz.func27, Tryz.ntmps27
    go_wp2_with (go_at_call 26; refine (between_any _ _ _ _).mono ?_; rintro e w' ⟨rfl, rfl⟩)
    go_ret
    exact ⟨ret_bool HN.out.symm, rfl⟩
set_option maxRecDepth 100000 in
set_option maxHeartbeats 1000000 in
theorem isMetricName_any (s : ByteArray) (w : World) (hs : s.size ≤ 1000000000) (hT : UTab w) : Calls Tryz.prog 64 #[.string s] w fun e w' => e = .returned (.bool (mnameB s)) ∧ Below w.heap.size w w' := by
  have H : Hid (Calls Tryz.prog 95 #[.string s] w fun e w' => e = .returned (.int .i64 (valV s : Nat)) ∧ Below w.heap.size w w') := implVal_any s w hs hT
  have HV : Hid (mnameB s = (!s.toList.isEmpty && decide (valV s = 0))) := rfl
  clear hT
  generalize valV s = v at *
  by_cases h0 : s.toList.isEmpty = true
  · go_enter Tryz.func64, Tryz.ntmps64
    go_wp2
    go_ret
    exact ⟨ret_bool (by rw [HV.out, h0]; rfl), Below.refl _ _⟩
  · have h1 : s.toList.isEmpty = false := by simpa using h0
    clear h0
    go_enter Tryz.func64, Tryz.ntmps64
    go_wp2_with fail
    refine H.out.mono ?_
    rintro e w1 ⟨rfl, hb⟩
    go_wp2
    go_ret
    exact ⟨ret_bool (by rw [HV.out, h1]; rw [Bool.eq_iff_iff]; simp), hb⟩
set_option maxRecDepth 100000 in
set_option maxHeartbeats 1000000 in
theorem l4MetricName_any (s : ByteArray) (w : World) (hs : s.size ≤ 1000000000) : Calls Tryz.prog 29 #[.string s] w fun e w' => e = .returned (.bool (mnameB s)) ∧ Below w.heap.size w w' := by
  have H : Hid (Calls Tryz.prog 55 #[.string s] w fun e w' => e = .returned (.int .i64 (valV s : Nat)) ∧ Below w.heap.size w w') := specVal_any s w hs
  have HV : Hid (mnameB s = (!s.toList.isEmpty && decide (valV s = 0))) := rfl
  generalize valV s = v at *
  by_cases h0 : s.toList.isEmpty = true
  · go_enter Tryz.func29, Tryz.ntmps29
    go_wp2
    go_ret
    exact ⟨ret_bool (by rw [HV.out, h0]; rfl), Below.refl _ _⟩
  · have h1 : s.toList.isEmpty = false := by simpa using h0
    clear h0
    go_enter Tryz.func29, Tryz.ntmps29
    go_wp2_with fail
    refine H.out.mono ?_
    rintro e w1 ⟨rfl, hb⟩
    go_wp2
    go_ret
    exact ⟨ret_bool (by rw [HV.out, h1]; rw [Bool.eq_iff_iff]; simp), hb⟩
theorem met_not {key : ByteArray} (h : (decV key).2 = false) : (metV (decV key).1).toList.isEmpty = true := by rw [(dec_not h).1]; simp [metV]
set_option maxRecDepth 100000 in
set_option maxHeartbeats 1000000 in
theorem l4Key_any (s : ByteArray) (w : World) (hs : s.size ≤ 1000000000) : Calls Tryz.prog 30 #[.string s] w fun e w' => e = .returned (.bool (keyOK s)) ∧ Below w.heap.size w w' := by
  have HI : Hid (Calls Tryz.prog 56 #[.string s] w fun e w' => ∃ a cap, e = .returned (.tuple #[.slice a (decV s).1.length cap, .bool (decV s).2]) ∧ LabsOwn w' w.heap.size a (decV s).1 ∧ Below w.heap.size w w') := specDec_any s w hs
  have HM : Hid (∀ W, Calls Tryz.prog 57 #[.string s] W fun e w' => e = .returned (.string (metV (decV s).1)) ∧ Below W.heap.size W w') := fun W => specMet_any s W hs
  have HK : Hid (keyOK s = !(metV (decV s).1).toList.isEmpty) := rfl
  cases hd : (decV s).2 with
  | false =>
    have hn := met_not hd
    rw [hd] at HI
    generalize metV (decV s).1 = mv at *
    generalize (decV s).1 = L at *
    clear hd
    go_enter Tryz.func30, Tryz.ntmps30
    go_wp2_with fail
    refine HI.out.mono ?_
    rintro e w1 ⟨a, cap, rfl, _, hb1⟩
    go_wp2
    go_ret
    exact ⟨ret_bool (by rw [HK.out, hn]; rfl), hb1⟩
  | true =>
    rw [hd] at HI
    generalize metV (decV s).1 = mv at *
    generalize (decV s).1 = L at *
    clear hd
    go_enter Tryz.func30, Tryz.ntmps30
    go_wp2_with fail
    refine HI.out.mono ?_
    rintro e w1 ⟨a, cap, rfl, _, hb1⟩
    have B1 : Hid (Below w.heap.size w w1) := hb1
    clear hb1
    go_wp2_with fail
    refine (HM.out _).mono ?_
    rintro e w2 ⟨rfl, hb2⟩
    go_wp2
    go_ret
    exact ⟨ret_bool (by rw [HK.out]), bto B1.out hb2⟩
set_option maxRecDepth 100000 in
set_option maxHeartbeats 1000000 in
theorem l4Idle_any (t : TenD) (a1 a2 : Option Addr) (c1 c2 : Nat) (w : World) : Calls Tryz.prog 28 #[.agg #[.string t.name, .int .i64 t.limit, .slice a1 t.mets.length c1, .slice a2 t.sers.length c2]] w fun e w' => e = .returned (.bool (idleB t)) ∧ Below w.heap.size w w' := by
  have E : Hid (idleB t = (t.limit == -1 && t.mets.length == 0 && t.sers.length == 0)) := rfl
  generalize t.mets.length = n1 at *
  generalize t.sers.length = n2 at *
  generalize t.limit = L at *
  by_cases h1 : L = -1
  · by_cases h2 : n1 = 0
    · go_enter Tryz.func28, Tryz.ntmps28
      go_wp2
      go_ret
      exact ⟨ret_bool (by rw [E.out, h1, h2]; rw [Bool.eq_iff_iff]; simp), bnew _ _⟩
    · go_enter Tryz.func28, Tryz.ntmps28
      go_wp2
      go_ret
      exact ⟨ret_bool (by rw [E.out, h1]; rw [Bool.eq_iff_iff]; simp [h2]), bnew _ _⟩
  · go_enter Tryz.func28, Tryz.ntmps28
    go_wp2
    go_ret
    exact ⟨ret_bool (by rw [E.out]; rw [Bool.eq_iff_iff]; simp [h1]), bnew _ _⟩
set_option maxHeartbeats 1000000 in
theorem isLimitOrNone_any (x : Int) (w : World) : Calls Tryz.prog 67 #[.int .i64 x] w fun e w' => e = .returned (.bool (btwB x (-1) 1000000)) ∧ w' = w := by
  by_cases h : x = -1
  · have E : Hid (btwB x (-1) 1000000 = true) := by show _ = _; subst h; rfl
    go_enter Tryz.func67, Tryz.ntmps67
    go_wp2_with (go_at_call 89; refine (isLimit_any _ _).mono ?_; rintro e w' ⟨rfl, rfl⟩)
    go_ret
    exact ⟨ret_bool E.out.symm, rfl⟩
  · have E : Hid (btwB x (-1) 1000000 = btwB x 0 1000000) := by
      show _ = _
      unfold btwB
      congr 1
      rw [Bool.eq_iff_iff]; simp; omega
    go_enter Tryz.func67, Tryz.ntmps67
    go_wp2_with (go_at_call 89; refine (isLimit_any _ _).mono ?_; rintro e w' ⟨rfl, rfl⟩)
    go_ret
    exact ⟨ret_bool (by rw [E.out]; have e : (x == -1) = false := by simpa using h
                        rw [e, Bool.false_or]), rfl⟩
end Go.Proofs.YtojeemogabhaoaaGreatDoor
namespace Go.Proofs.YtojeemogabhaoaaGreatDoor
open Go.RowKit Go.Maps
theorem mapOf_mets (ms : List PairD) (k : Nat) (hk : k < ms.length) (hr : RiseBy (·.s) (ms.take (k + 1))) :
    DataW.put (mapOf ((ms.take k).map fun p => (p.s, iVal p.n))) (kL ms[k].s) (iVal ms[k].n) = mapOf ((ms.take (k + 1)).map fun p => (p.s, iVal p.n)) := by
  obtain ⟨h1, _⟩ := ins_take hk hr
  have := put_by (key := fun p : PairD => p.s) (fun p => iVal p.n) ms[k] (rise_take k (l := ms.take (k + 1)) hr)
  rw [List.take_take, Nat.min_eq_left (by omega)] at this
  rw [this, h1]
set_option maxRecDepth 100000 in
set_option maxHeartbeats 4000000 in
theorem loadLimits_any (x : Nat) (a : Option Addr) (cap : Nat) (ms : List PairD) (t : TenD) (S : Nat → Prop) (M : Nat) (w0 w : World) (h : IdxAt w S x { t with mets := [] } M) (h0 : Below w0.heap.size w0 w) (hU : UTab w0) (hp : PairsIn w0 a ms) (hS : ∀ g, S g → w0.heap.size ≤ g) (hb : ∀ i (h : i < ms.length), ms[i].s.size ≤ 1000000000) (hl : ms.length ≤ 1000000000) :
    Calls Tryz.prog 90 #[.pointer (some ⟨x, 0, none⟩), .slice a ms.length cap] w fun e w' => e = .returned (.bool (metsB ms)) ∧ (metsB ms = true → IdxAt w' (fun g => S g ∨ w.heap.size ≤ g) x { t with mets := ms } M) ∧ Turn S w w' := by
  have HI : Hid (IdxAt w S x { t with mets := [] } M) := h
  have H0 : Hid (Below w0.heap.size w0 w) := h0
  have HU : Hid (UTab w0) := hU
  have HPI : Hid (PairsIn w0 a ms) := hp
  have HSS : Hid (∀ g, S g → w0.heap.size ≤ g) := hS
  have HBB : Hid (∀ i (h : i < ms.length), ms[i].s.size ≤ 1000000000) := hb
  clear h h0 hU hp hS hb
  go_enter Tryz.func90, Tryz.ntmps90
  go_wp2
  go_loopw [5, 6, 9] (fun _ _ j wr => ∃ k : Nat, k ≤ ms.length ∧ j = .int .i64 k ∧ allTo (metAt ms) k = true ∧ IdxAt wr (fun g => S g ∨ w.heap.size ≤ g) x { t with mets := ms.take k } M ∧ Turn S w wr) (fun _ _ j _ => ms.length - (intOf j).toNat)
  case atStart => exact ⟨0, Nat.zero_le _, rfl, rfl, HI.out.keep (fun g _ hs => ⟨rfl, Or.inl hs⟩), Turn.refl _ _⟩
  case round =>
    obtain ⟨k, hk, rfl, hok, hidx, htn⟩ := hrel
    have HOK : Hid (allTo (metAt ms) k = true) := hok
    have HIX : Hid (IdxAt wr (fun g => S g ∨ w.heap.size ≤ g) x { t with mets := ms.take k } M) := hidx
    have HTN : Hid (Turn S w wr) := htn
    have B0 : Hid (Below w0.heap.size w0 wr) := H0.out.trans (htn.below H0.out.size (fun k hk hs => by have := HSS.out k hs; omega))
    clear hok hidx htn
    by_cases hlt : k < ms.length
    · obtain ⟨pb, po, rfl, hpl, c0, c1⟩ := (HPI.out.later B0.out).at hlt
      have HMF : Hid (metAt ms k = false → metsB ms = false) := fun h => allTo_not h hlt
      have HMA : Hid (metAt ms k = (prevB ms k && mnameB ms[k].s && btwB ms[k].n 0 1000000)) := metAt_eq hlt
      have hsz := HBB.out k hlt
      have HPRE : Hid (0 < k → ∃ pn : ByteArray, prevB ms k = blt pn ms[k].s ∧ wr.cell? ⟨pb, po + (k - 1) * 2, none⟩ = some (.string pn)) := fun h0 => by
        refine ⟨_, prevB_at h0 hlt, ?_⟩
        obtain ⟨b', o', e, _, u0, _⟩ := (HPI.out.later B0.out).at (i := k - 1) (by omega)
        simp only [Option.some.injEq, Addr.mk.injEq, and_true] at e
        rw [e.1, e.2]; exact u0
      have HPZ : Hid (k = 0 → prevB ms k = true) := fun h0 => by subst h0; rfl
      have HMP := mapOf_mets ms k hlt
      have HTK : Hid (metAt ms k = true → allTo (metAt ms) (k + 1) = true ∧ RiseBy (·.s) (ms.take (k + 1))) := fun h => by
        have h1 : allTo (metAt ms) (k + 1) = true := by rw [allTo_succ, HOK.out, h]; rfl
        exact ⟨h1, mets_rise h1 (by omega)⟩
      have HMPP : Hid (RiseBy (·.s) (ms.take (k + 1)) → DataW.put (mapOf ((ms.take k).map fun p => (p.s, iVal p.n))) (kL ms[k].s) (iVal ms[k].n) = mapOf ((ms.take (k + 1)).map fun p => (p.s, iVal p.n))) := HMP
      clear HMP
      have HMN : Hid (∀ W, UTab W → Calls Tryz.prog 64 #[.string ms[k].s] W fun e w' => e = .returned (.bool (mnameB ms[k].s)) ∧ Below W.heap.size W w') := fun W hW => isMetricName_any ms[k].s W hsz hW
      generalize ms[k] = P at *
      go_upto_region 4 with fail
      have MBX : Hid (Blk (wr.alloc (.cells #[.string P.s, .int .i64 P.n] 59)) wr.heap.size #[.string P.s, .int .i64 P.n] 59) := Blk.new _ _ _
      have HB6 : Hid (Below wr.heap.size wr (wr.alloc (.cells #[.string P.s, .int .i64 P.n] 59))) := bnew _ _
      have HPR6 : Hid (0 < k → ∃ pn : ByteArray, prevB ms k = blt pn P.s ∧ (wr.alloc (.cells #[.string P.s, .int .i64 P.n] 59)).cell? ⟨pb, po + (k - 1) * 2, none⟩ = some (.string pn)) := fun h0 => by
        obtain ⟨pn, e1, e2⟩ := HPRE.out h0
        exact ⟨pn, e1, ((bnew _ _).cell hpl).trans e2⟩
      generalize wr.alloc (.cells #[.string P.s, .int .i64 P.n] 59) = W at *
      have HIW : Hid (IdxAt W (fun g => S g ∨ w.heap.size ≤ g) x { t with mets := ms.take k } M) := HIX.out.later HB6.out
      have HTW : Hid (Turn S w W) := HTN.out.trans' (Turn.of HB6.out)
      have B0W : Hid (Below w0.heap.size w0 W) := B0.out.trans (HB6.out.mono B0.out.size)
      generalize wr.heap.size = mb at *
      clear c0 c1 HPRE hpl HIX HTN B0 HB6 wr
      go_cut [38] (fun s wx => s = .bool (!(metAt ms k)) ∧ Below W.heap.size W wx)
      case first =>
        have d0 := Later.cells (show W.cell? ⟨mb, 0, none⟩ = some (.string P.s) from MBX.out.cell 0)
        have d1 := Later.cells (show W.cell? ⟨mb, 1, none⟩ = some (.int .i64 P.n) from MBX.out.cell 1)
        have hnel := Later.there W
        have HMN2 : Hid (∀ x : Later W, Calls Tryz.prog 64 #[.string P.s] x.w' fun e w' => e = .returned (.bool (mnameB P.s)) ∧ Below x.w'.heap.size x.w' w') := fun x => HMN.out _ (HU.out.later (B0W.out.trans (x.h.mono B0W.out.size)))
        have HLI : Hid (∀ W, Calls Tryz.prog 89 #[.int .i64 P.n] W fun e w' => e = .returned (.bool (btwB P.n 0 1000000)) ∧ w' = W) := fun W => isLimit_any P.n W
        clear HMN
        by_cases h0 : (0 : Int) < k
        · have h0' : 0 < k := by omega
          obtain ⟨pn, hp, cp⟩ := HPR6.out h0'
          have d3 := Later.cells cp
          by_cases hb : Op.bytesLess pn.toList P.s.toList = true
          · have HPT : Hid (prevB ms k = true) := by show _ = _; rw [hp]; exact hb
            clear cp hp
            by_cases f1 : mnameB P.s = false
            · have HV : Hid (metAt ms k = false) := by show _ = _; rw [HMA.out, f1]; simp
              rw [f1] at HMN2
              clear f1
              refine wp_region_later (by kernel_rfl) (by kernel_rfl) ?_
              repeat (go_big_quiet_step (first | (go_at_call 64; exact calls_later (HMN2.out _)) | (go_at_call 89; exact calls_later_same (HLI.out _))))
              refine wpQuiet_nil ?_
              rintro _ ⟨x, rfl⟩
              go_wp2_with fail
              go_meet
              exact ⟨by rw [HV.out]; rfl, x.h⟩
            have f1' : mnameB P.s = true := by simpa using f1
            rw [f1'] at HMN2 HMA
            clear f1 f1'
            by_cases f2 : btwB P.n 0 1000000 = false
            · have HV : Hid (metAt ms k = false) := by show _ = _; rw [HMA.out, f2]; simp
              rw [f2] at HLI
              clear f2
              refine wp_region_later (by kernel_rfl) (by kernel_rfl) ?_
              repeat (go_big_quiet_step (first | (go_at_call 64; exact calls_later (HMN2.out _)) | (go_at_call 89; exact calls_later_same (HLI.out _))))
              refine wpQuiet_nil ?_
              rintro _ ⟨x, rfl⟩
              go_wp2_with fail
              go_meet
              exact ⟨by rw [HV.out]; rfl, x.h⟩
            have f2' : btwB P.n 0 1000000 = true := by simpa using f2
            have HV : Hid (metAt ms k = true) := by show _ = _; rw [HMA.out, f2', HPT.out]; rfl
            rw [f2'] at HLI
            clear f2 f2'
            refine wp_region_later (by kernel_rfl) (by kernel_rfl) ?_
            repeat (go_big_quiet_step (first | (go_at_call 64; exact calls_later (HMN2.out _)) | (go_at_call 89; exact calls_later_same (HLI.out _))))
            refine wpQuiet_nil ?_
            rintro _ ⟨x, rfl⟩
            go_wp2_with fail
            go_meet
            exact ⟨by rw [HV.out]; rfl, x.h⟩
          · have hb' : Op.bytesLess pn.toList P.s.toList = false := by simpa using hb
            have HV : Hid (metAt ms k = false) := by show _ = _; rw [HMA.out, hp, blt, hb']; simp
            clear cp hp hb
            refine wp_region_later (by kernel_rfl) (by kernel_rfl) ?_
            repeat (go_big_quiet_step (first | (go_at_call 64; exact calls_later (HMN2.out _)) | (go_at_call 89; exact calls_later_same (HLI.out _))))
            refine wpQuiet_nil ?_
            rintro _ ⟨x, rfl⟩
            go_wp2_with fail
            go_meet
            exact ⟨by rw [HV.out]; rfl, x.h⟩
        · have hd : decide ((0 : Int) < k) = false := by simpa using h0
          have hd' : decide (0 < k) = false := by simp; omega
          have HPT : Hid (prevB ms k = true) := HPZ.out (by omega)
          by_cases f1 : mnameB P.s = false
          · have HV : Hid (metAt ms k = false) := by show _ = _; rw [HMA.out, f1]; simp
            rw [f1] at HMN2
            clear f1
            refine wp_region_later (by kernel_rfl) (by kernel_rfl) ?_
            repeat (go_big_quiet_step (first | (go_at_call 64; exact calls_later (HMN2.out _)) | (go_at_call 89; exact calls_later_same (HLI.out _))))
            refine wpQuiet_nil ?_
            rintro _ ⟨x, rfl⟩
            go_wp2_with fail
            go_meet
            exact ⟨by rw [HV.out]; rfl, x.h⟩
          have f1' : mnameB P.s = true := by simpa using f1
          rw [f1'] at HMN2 HMA
          clear f1 f1'
          by_cases f2 : btwB P.n 0 1000000 = false
          · have HV : Hid (metAt ms k = false) := by show _ = _; rw [HMA.out, f2]; simp
            rw [f2] at HLI
            clear f2
            refine wp_region_later (by kernel_rfl) (by kernel_rfl) ?_
            repeat (go_big_quiet_step (first | (go_at_call 64; exact calls_later (HMN2.out _)) | (go_at_call 89; exact calls_later_same (HLI.out _))))
            refine wpQuiet_nil ?_
            rintro _ ⟨x, rfl⟩
            go_wp2_with fail
            go_meet
            exact ⟨by rw [HV.out]; rfl, x.h⟩
          have f2' : btwB P.n 0 1000000 = true := by simpa using f2
          have HV : Hid (metAt ms k = true) := by show _ = _; rw [HMA.out, f2', HPT.out]; rfl
          rw [f2'] at HLI
          clear f2 f2'
          refine wp_region_later (by kernel_rfl) (by kernel_rfl) ?_
          repeat (go_big_quiet_step (first | (go_at_call 64; exact calls_later (HMN2.out _)) | (go_at_call 89; exact calls_later_same (HLI.out _))))
          refine wpQuiet_nil ?_
          rintro _ ⟨x, rfl⟩
          go_wp2_with fail
          go_meet
          exact ⟨by rw [HV.out]; rfl, x.h⟩
      obtain ⟨rfl, hb7⟩ := hcut
      rename World => w7
      have MB7 : Hid (Blk w7 mb #[.string P.s, .int .i64 P.n] 59) := MBX.out.later hb7
      have HI7 : Hid (IdxAt w7 (fun g => S g ∨ w.heap.size ≤ g) x { t with mets := ms.take k } M) := HIW.out.later hb7
      have HT7 : Hid (Turn S w w7) := HTW.out.trans' (Turn.of hb7)
      clear hb7 MBX HIW HTW B0W HPR6 HMN
      by_cases f4 : metAt ms k = false
      · have HF4 : Hid (metsB ms = false) := HMF.out f4
        rw [f4]
        clear f4
        go_wp2
        go_ret
        exact ⟨ret_bool HF4.out.symm, fun h => absurd h (by rw [HF4.out]; simp), HT7.out⟩
      · have f4' : metAt ms k = true := by simpa using f4
        obtain ⟨g1, g2⟩ := HTK.out f4'
        have hbn : btwB P.n 0 1000000 = true := by
          have := HMA.out
          rw [f4'] at this
          cases hb : btwB P.n 0 1000000 with
          | true => rfl
          | false => rw [hb] at this; simp at this
        obtain ⟨hbn0, hbn1⟩ := btw_in hbn
        have G1 : Hid (allTo (metAt ms) (k + 1) = true) := g1
        have hput := HMPP.out g2
        rw [f4']
        clear f4 f4' g1 HMF HMA HPZ HTK HMPP
        obtain ⟨lm, sm, cm, iv, Q, hs, D, hI⟩ := HI7.out
        have hkey : keyOf Tryz.prog 9 (.string P.s) = some (kL P.s) := key_mk (by unfold maxLen; omega)
        obtain ⟨w8, run8, own8, gr8⟩ := hI.lims.drew.update keyed Tryz.underlying102 (by simp only [List.length_take]; unfold maxLen; omega) (val := .int .i64 P.n) hkey (plainElem_int Tryz.underlying3 (WalkArith.wf_i64 (by omega)))
        have x0 : w7.cell? ⟨x, 1, none⟩ = some (.map (some lm)) := hI.blk.cell 1
        have x1 : w7.cell? ⟨mb, 0, none⟩ = some (.string P.s) := MB7.out.cell 0
        have x2 : w7.cell? ⟨mb, 1, none⟩ = some (.int .i64 P.n) := MB7.out.cell 1
        go_wp2_with fail
        go_region
        have ht8 : Turn (· = lm) w7 w8 := (Turn.grown (a := w7) ⟨gr8.os, gr8.tape, gr8.output, gr8.size, gr8.block⟩).mono fun i _ e => by simp only [Option.some.injEq] at e; exact e.symm
        have HN : Hid (IdxAt w8 (fun g => S g ∨ w.heap.size ≤ g) x { t with mets := ms.take (k + 1) } M) := hI.newLims ht8 own8 hput g2
        have HT8 : Hid (Turn S w w8) := HT7.out.trans (ht8.mono fun i _ e => by subst e; exact hI.sl)
        clear hI own8 gr8 ht8 hput g2 x0 x1 x2 run8 hbn
        go_wp2
        exact ⟨⟨k + 1, by omega, by go_num, G1.out, HN.out, HT8.out⟩, by simp [intOf]; omega⟩
    · have ek : k = ms.length := by omega
      have HEND : Hid (metsB ms = true) := by have := HOK.out; rw [ek] at this; exact this
      have HIE : Hid (IdxAt wr (fun g => S g ∨ w.heap.size ≤ g) x { t with mets := ms } M) := by have := HIX.out; rw [ek, List.take_length] at this; exact this
      clear ek
      go_wp2
      go_ret
      exact ⟨ret_bool HEND.out.symm, fun _ => HIE.out, HTN.out⟩
end Go.Proofs.YtojeemogabhaoaaGreatDoor
