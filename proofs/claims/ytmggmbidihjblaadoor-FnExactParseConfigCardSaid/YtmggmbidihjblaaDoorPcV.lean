import Derived.Test.YtmggmbidihjblaaDoorPcL
import Derived.Test.YtmggmbidihjblaaDoorS7Sp
import Derived.Test.YtmggmbidihjblaaDoorCfg
namespace Go.Proofs.YtmggmbidihjblaaDoor
open Go.RowKit

def cfgW : List UInt8 := [99, 111, 110, 102, 105, 103]
def pcN (fs : List (List UInt8)) (i : Nat) : Int := (valD (fs.getD (i + 1) []) : Int)
def pcC (fs : List (List UInt8)) : CfgD := ⟨pcN fs 0, pcN fs 1, pcN fs 2, pcN fs 3, pcN fs 4, pcN fs 5⟩
/-- What a config line says: its fields are seven numbers behind the word. -/
def pcF (fs : List (List UInt8)) : Option (CfgD × Int) :=
  if fs.length = 8 ∧ fs.getD 0 [] = cfgW ∧ (fs.drop 1).all numB = true then
    (if cfgB (pcC fs) = true ∧ pcN fs 6 ≤ 1000000000 then some (pcC fs, pcN fs 6) else none)
  else none
def pcV (l : List UInt8) : Option (CfgD × Int) := pcF (splA 32 l)
def pcR : Option (CfgD × Int) → Value
  | none => .tuple #[cfgV ⟨0, 0, 0, 0, 0, 0⟩, .int .i64 0, .bool false]
  | some (c, r) => .tuple #[cfgV c, .int .i64 r, .bool true]
theorem splA_len (a : UInt8) : ∀ (l : List UInt8) (f : List UInt8), f ∈ splA a l → f.length ≤ l.length
  | [], f, h => by rw [splA] at h; rw [List.mem_singleton.1 h]; exact Nat.le_refl _
  | c :: l, f, h => by
    rw [splA] at h
    by_cases hc : c = a
    · rw [if_pos hc] at h
      rcases List.mem_cons.1 h with h | h
      · rw [h]; simp
      · exact Nat.le_succ_of_le (splA_len a l f h)
    · rw [if_neg hc] at h
      have ih := splA_len a l
      cases hs : splA a l with
      | nil => rw [hs] at h; rw [List.mem_singleton.1 h]; simp
      | cons g gs =>
        rw [hs] at h ih
        rcases List.mem_cons.1 h with h | h
        · have := ih g (by simp)
          rw [h, List.length_cons, List.length_cons]
          omega
        · exact Nat.le_succ_of_le (ih f (List.mem_cons_of_mem _ h))

theorem pc_bad {fs : List (List UInt8)} {k : Nat} (hk : k + 1 < fs.length) (h : numB fs[k + 1] = false) : pcF fs = none := by
  rw [pcF, if_neg]
  rintro ⟨_, _, h3⟩
  rw [List.all_eq_true] at h3
  have := h3 fs[k + 1] (List.mem_drop_iff_getElem.2 ⟨k, by omega, by simp only [Nat.add_comm]⟩)
  rw [h] at this
  exact absurd this (by decide)
theorem drop_one {fs : List (List UInt8)} {k : Nat} (hk : k + 1 < fs.length) : (fs.drop 1).take (k + 1) = (fs.drop 1).take k ++ [fs[k + 1]] := by
  rw [List.take_add_one, List.getElem?_drop, List.getElem?_eq_getElem (by omega), Option.toList_some]
  simp only [Nat.add_comm]
theorem pc_seven {fs : List (List UInt8)} (h8 : fs.length = 8) : (fs.drop 1).map (fun f => (valD f : Int)) = [pcN fs 0, pcN fs 1, pcN fs 2, pcN fs 3, pcN fs 4, pcN fs 5, pcN fs 6] := by
  match fs, h8 with
  | [_, _, _, _, _, _, _, _], _ => rfl
theorem pc_fits {fs : List (List UInt8)} (ha : (fs.drop 1).all numB = true) (h8 : fs.length = 8) (i : Nat) (hi : i < 7) : 0 ≤ pcN fs i ∧ pcN fs i < 10000000000000 := by
  have hx : i + 1 < fs.length := by omega
  rw [List.all_eq_true] at ha
  have := numB_dig (ha fs[i + 1] (List.mem_drop_iff_getElem.2 ⟨i, by omega, by simp only [Nat.add_comm]⟩))
  have h2 := valD_13 this.1 this.2.2
  unfold pcN
  rw [List.getD_eq_getElem?_getD, List.getElem?_eq_getElem hx, Option.getD_some]
  omega

def pcG : Option (List Nat) → Option (CfgD × Int)
  | some [a, b, c, d, e, g, h] => if cfgB ⟨a, b, c, d, e, g⟩ = true ∧ (h : Int) ≤ 1000000000 then some (⟨a, b, c, d, e, g⟩, (h : Int)) else none
  | _ => none
theorem pcF_cons (u : List UInt8) (S : List (List UInt8)) : pcF (u :: S) = if u = cfgW then pcG (if S.length = 7 then numsS S else none) else none := by
  by_cases hu : u = cfgW
  · rw [if_pos hu]
    by_cases h7 : S.length = 7
    · rw [if_pos h7]
      unfold numsS
      by_cases ha : S.all numB = true
      · rw [if_pos ha]
        match S, h7 with
        | [a, b, c, d, e, g, h], _ =>
          rw [pcF, if_pos ⟨rfl, hu, ha⟩]
          rfl
      · rw [if_neg ha, pcF, if_neg (fun h => ha h.2.2)]
        rfl
    · rw [if_neg h7, pcF, if_neg (fun h => h7 (by have := h.1; rw [List.length_cons] at this; omega))]
      rfl
  · rw [if_neg hu, pcF, if_neg (fun h => hu h.2.1)]
theorem numsP_step (k : Nat) {r F r' : List UInt8} {m m' : Bool} (h : cutA 32 r = (F, r', m')) : numsP (k + 1) r m = if numB F = true then (numsP k r' m').map (valD F :: ·) else none := by
  rw [numsP, h]
/-- The fields cut off one by one say what the line says. -/
theorem pc_flags {l u r r1 r2 r3 r4 r5 r6 r7 F1 F2 F3 F4 F5 F6 F7 : List UInt8} {m m1 m2 m3 m4 m5 m6 m7 : Bool} (h0 : cutA 32 l = (u, r, m)) (h1 : cutA 32 r = (F1, r1, m1)) (h2 : cutA 32 r1 = (F2, r2, m2)) (h3 : cutA 32 r2 = (F3, r3, m3))
    (h4 : cutA 32 r3 = (F4, r4, m4)) (h5 : cutA 32 r4 = (F5, r5, m5)) (h6 : cutA 32 r5 = (F6, r6, m6)) (h7 : cutA 32 r6 = (F7, r7, m7)) :
    pcV l = if u = cfgW ∧ numB F1 = true ∧ numB F2 = true ∧ numB F3 = true ∧ numB F4 = true ∧ numB F5 = true ∧ numB F6 = true ∧ numB F7 = true ∧ m7 = false then
      (if cfgB ⟨valD F1, valD F2, valD F3, valD F4, valD F5, valD F6⟩ = true ∧ (valD F7 : Int) ≤ 1000000000 then some (⟨valD F1, valD F2, valD F3, valD F4, valD F5, valD F6⟩, (valD F7 : Int)) else none) else none := by
  have hP : numsP 7 r m = if numB F1 = true ∧ numB F2 = true ∧ numB F3 = true ∧ numB F4 = true ∧ numB F5 = true ∧ numB F6 = true ∧ numB F7 = true ∧ m7 = false then some [valD F1, valD F2, valD F3, valD F4, valD F5, valD F6, valD F7] else none := by
    rw [numsP_step 6 h1, numsP_step 5 h2, numsP_step 4 h3, numsP_step 3 h4, numsP_step 2 h5, numsP_step 1 h6, numsP_step 0 h7]
    cases numB F1 <;> cases numB F2 <;> cases numB F3 <;> cases numB F4 <;> cases numB F5 <;> cases numB F6 <;> cases numB F7 <;> cases m7 <;> rfl
  unfold pcV
  rcases cutA_cases 32 l with ⟨hc, hs⟩ | ⟨u', v, _, hc, hs⟩
  · rw [hc] at h0
    simp only [Prod.mk.injEq] at h0
    obtain ⟨rfl, rfl, rfl⟩ := h0
    have hF : numB F1 = false := by
      have h1' := h1
      rw [show cutA 32 ([] : List UInt8) = ([], [], false) from rfl] at h1'
      simp only [Prod.mk.injEq] at h1'
      rw [← h1'.1]
      exact numB_nil
    rw [hs, pcF, if_neg (fun h => absurd h.1 (by simp)), if_neg (fun h => by rw [hF] at h; exact absurd h.2.1 (by decide))]
  · rw [hc] at h0
    simp only [Prod.mk.injEq] at h0
    obtain ⟨rfl, rfl, rfl⟩ := h0
    rw [hs, pcF_cons, ← numsP_is 7 v, hP]
    by_cases hu : u' = cfgW
    · rw [if_pos hu]
      by_cases hn : numB F1 = true ∧ numB F2 = true ∧ numB F3 = true ∧ numB F4 = true ∧ numB F5 = true ∧ numB F6 = true ∧ numB F7 = true ∧ m7 = false
      · rw [if_pos hn, if_pos ⟨hu, hn⟩]
        rfl
      · rw [if_neg hn, if_neg (fun h => hn h.2)]
        rfl
    · rw [if_neg hu, if_neg (fun h => hu h.1)]
end Go.Proofs.YtmggmbidihjblaaDoor
