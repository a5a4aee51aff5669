import Derived.Test.YtndaihhjhllfcadProg
import Derived.Test.YtndaihhjhllfcadNm
namespace Go.Proofs.Ytndaihhjhllfcad
open Go.RowKit

def okAt (fs : List FileD) (i : Nat) : Bool :=
  match fs[i]? with
  | none => true
  | some f => fileB f && (match i with
    | 0 => true
    | j + 1 => match fs[j]? with
      | none => true
      | some g => Op.bytesLess g.name.toList f.name.toList)
def okTo (fs : List FileD) (k : Nat) : Bool := (List.range k).all (okAt fs)
def filesB (fs : List FileD) : Bool := okTo fs fs.length

theorem okTo_succ (fs : List FileD) (k : Nat) : okTo fs (k + 1) = (okTo fs k && okAt fs k) := by simp [okTo, List.range_succ]
theorem okTo_not {fs : List FileD} {k n : Nat} (h : okAt fs k = false) (hk : k < n) : okTo fs n = false := by
  rw [Bool.eq_false_iff]
  intro h'
  simp only [okTo, List.all_eq_true, List.mem_range] at h'
  rw [h' k hk] at h; exact absurd h (by simp)

set_option maxHeartbeats 1000000 in
theorem filesValid_any (a : Option Addr) (cap : Nat) (fs : List FileD) (w : World) (hf : FilesIn w a fs) (hs : Short fs) (hlen : fs.length ≤ maxLen) :
    Calls Try.prog 34 #[.slice a fs.length cap] w fun e w' => e = .returned (.bool (decide (fs.length ≤ 1000) && filesB fs)) ∧ Below w.heap.size w w' := by
  unfold maxLen at hlen
  by_cases h0 : (1000 : Int) < fs.length
  · have E : Hid ((decide (fs.length ≤ 1000) && filesB fs) = false) := by
      show _ = _
      rw [decide_eq_false (by omega)]; rfl
    clear hf hs
    go_enter Try.func34, Try.ntmps34
    go_wp2
    go_ret
    exact ⟨ret_bool E.out.symm, Below.refl _ _⟩
  have E : Hid ((decide (fs.length ≤ 1000) && filesB fs) = okTo fs fs.length) := by
    show _ = _
    rw [decide_eq_true (by omega)]; rfl
  have HF : Hid (FilesIn w a fs) := hf
  have HS : Hid (Short fs) := hs
  clear hf hs
  go_enter Try.func34, Try.ntmps34
  go_wp2
  go_loopw [3, 9] (fun _ i wr => ∃ k : Nat, k ≤ fs.length ∧ i = .int .i64 k ∧ okTo fs k = true ∧ Below w.heap.size w wr) (fun _ i _ => fs.length - (intOf i).toNat)
  case atStart => exact ⟨0, Nat.zero_le _, rfl, rfl, Below.refl _ _⟩
  case round =>
    obtain ⟨k, hk, rfl, hok, hbel⟩ := hrel
    have HOK : Hid (okTo fs k = true) := hok
    clear hok
    by_cases hlt : k < fs.length
    · obtain ⟨b, o, rfl, hb, c0, c1, c2⟩ := (HF.out.later hbel).at hlt
      have hsh := HS.out k hlt
      have hV := fun x : Later wr => valid_any b (o + k * 3) fs[k] x.w' (x.cell c0) (x.cell c1) (x.cell c2) hsh.1
      have d0 := Later.cells c0
      have hne := Later.there wr
      clear c0 c1 c2 hsh
      by_cases hfb : fileB fs[k] = true
      · simp only [hfb] at hV
        by_cases hk0 : (0 : Int) < k
        · obtain ⟨b2, o2, e2, q1, c0', q2, q3⟩ := (HF.out.later hbel).at (i := k - 1) (by omega)
          simp only [Option.some.injEq, Addr.mk.injEq, and_true] at e2
          obtain ⟨rfl, rfl⟩ := e2
          have hat : okAt fs k = Op.bytesLess fs[k - 1].name.toList fs[k].name.toList := by
            obtain ⟨j, rfl⟩ : ∃ j, k = j + 1 := ⟨k - 1, by omega⟩
            simp [okAt, List.getElem?_eq_getElem hlt, List.getElem?_eq_getElem (show j < fs.length by omega), hfb]
          generalize fs[k - 1].name = gn at c0' hat
          generalize fs[k].name = fn at d0 hat
          have d0p := Later.cells c0'
          have hk1 : 0 < k := by omega
          clear q1 q2 q3 c0' hfb
          by_cases hl : Op.bytesLess gn.toList fn.toList = true
          · have HT : Hid (okTo fs (k + 1) = true) := by show okTo fs (k + 1) = true; rw [okTo_succ, HOK.out, hat, hl]; rfl
            clear hat
            go_wp2_with fail
            refine wp_region_later (by kernel_rfl) (by kernel_rfl) ?_
            repeat (go_big_quiet_step (first | (go_at_call 50; exact calls_later (hV _))))
            refine wpQuiet_nil ?_
            rintro _ ⟨x, rfl⟩
            go_wp2
            exact ⟨⟨k + 1, by omega, by go_num, HT.out, hbel.trans (x.h.mono hbel.size)⟩, by simp [intOf]; omega⟩
          · have hl' : Op.bytesLess gn.toList fn.toList = false := by simpa using hl
            have HT : Hid (okTo fs fs.length = false) := okTo_not (by rw [hat]; exact hl') hlt
            clear hat hl
            go_wp2_with fail
            refine wp_region_later (by kernel_rfl) (by kernel_rfl) ?_
            repeat (go_big_quiet_step (first | (go_at_call 50; exact calls_later (hV _))))
            refine wpQuiet_nil ?_
            rintro _ ⟨x, rfl⟩
            go_wp2
            go_ret
            exact ⟨ret_bool (by rw [E.out, HT.out]), hbel.trans (x.h.mono hbel.size)⟩
        · have hat : okAt fs k = true := by
            obtain rfl : k = 0 := by omega
            simp [okAt, List.getElem?_eq_getElem hlt, hfb]
          have HT : Hid (okTo fs (k + 1) = true) := by show okTo fs (k + 1) = true; rw [okTo_succ, HOK.out, hat]; rfl
          have hk1 : decide (0 < k) = false := by simp; omega
          clear hat hfb
          go_wp2_with fail
          refine wp_region_later (by kernel_rfl) (by kernel_rfl) ?_
          repeat (go_big_quiet_step (first | (go_at_call 50; exact calls_later (hV _))))
          refine wpQuiet_nil ?_
          rintro _ ⟨x, rfl⟩
          go_wp2
          exact ⟨⟨k + 1, by omega, by go_num, HT.out, hbel.trans (x.h.mono hbel.size)⟩, by simp [intOf]; omega⟩
      · have hfb' : fileB fs[k] = false := by simpa using hfb
        simp only [hfb'] at hV
        have hat : okAt fs k = false := by simp [okAt, List.getElem?_eq_getElem hlt, hfb']
        have HT : Hid (okTo fs fs.length = false) := okTo_not hat hlt
        clear hat hfb hfb'
        go_wp2_with fail
        refine wp_region_later (by kernel_rfl) (by kernel_rfl) ?_
        repeat (go_big_quiet_step (first | (go_at_call 50; exact calls_later (hV _))))
        refine wpQuiet_nil ?_
        rintro _ ⟨x, rfl⟩
        go_wp2
        go_ret
        exact ⟨ret_bool (by rw [E.out, HT.out]), hbel.trans (x.h.mono hbel.size)⟩
    · go_wp2
      go_ret
      have e : k = fs.length := by omega
      exact ⟨ret_bool (by rw [E.out, ← e]; exact HOK.out.symm), hbel⟩
end Go.Proofs.Ytndaihhjhllfcad
