import Derived.Test.YtmggmbidihjblaaDoorProg
import Derived.Lib.IndexMore
namespace Go.Proofs.YtmggmbidihjblaaDoor

/-- The pieces between the bytes a. -/
def splA (a : UInt8) : List UInt8 → List (List UInt8)
  | [] => [[]]
  | c :: l => if c = a then [] :: splA a l else (match splA a l with | [] => [[c]] | f :: fs => (c :: f) :: fs)
theorem splA_none {a : UInt8} : ∀ {u : List UInt8}, a ∉ u → splA a u = [u]
  | [], _ => rfl
  | c :: u, h => by
    have hc : ¬ c = a := fun e => h (by rw [e]; simp)
    rw [splA, if_neg hc, splA_none (fun e => h (List.mem_cons_of_mem _ e))]
theorem splA_app {a : UInt8} {v : List UInt8} : ∀ {u : List UInt8}, a ∉ u → splA a (u ++ a :: v) = u :: splA a v
  | [], _ => by rw [List.nil_append, splA, if_pos rfl]
  | c :: u, h => by
    have hc : ¬ c = a := fun e => h (by rw [e]; simp)
    rw [List.cons_append, splA, if_neg hc, splA_app (fun e => h (List.mem_cons_of_mem _ e))]

/-- What stands ahead of the first byte a, what behind it, and whether there is one. -/
def cutA (a : UInt8) : List UInt8 → List UInt8 × List UInt8 × Bool
  | [] => ([], [], false)
  | c :: l => if c = a then ([], l, true) else (c :: (cutA a l).1, (cutA a l).2.1, (cutA a l).2.2)
theorem cutA_none {a : UInt8} : ∀ {u : List UInt8}, a ∉ u → cutA a u = (u, [], false)
  | [], _ => rfl
  | c :: u, h => by
    have hc : ¬ c = a := fun e => h (by rw [e]; simp)
    rw [cutA, if_neg hc, cutA_none (fun e => h (List.mem_cons_of_mem _ e))]
theorem cutA_app {a : UInt8} {v : List UInt8} : ∀ {u : List UInt8}, a ∉ u → cutA a (u ++ a :: v) = (u, v, true)
  | [], _ => by rw [List.nil_append, cutA, if_pos rfl]
  | c :: u, h => by
    have hc : ¬ c = a := fun e => h (by rw [e]; simp)
    rw [List.cons_append, cutA, if_neg hc, cutA_app (fun e => h (List.mem_cons_of_mem _ e))]
theorem at_first (a : UInt8) : ∀ l : List UInt8, a ∉ l ∨ ∃ u v, l = u ++ a :: v ∧ a ∉ u
  | [] => Or.inl (by simp)
  | c :: l => by
    by_cases hc : c = a
    · exact Or.inr ⟨[], l, by rw [hc]; rfl, by simp⟩
    · rcases at_first a l with h | ⟨u, v, rfl, h⟩
      · exact Or.inl (fun e => (List.mem_cons.1 e).elim (fun e => hc e.symm) h)
      · exact Or.inr ⟨c :: u, v, rfl, fun e => (List.mem_cons.1 e).elim (fun e => hc e.symm) h⟩
theorem cutA_cases (a : UInt8) (l : List UInt8) : (cutA a l = (l, [], false) ∧ splA a l = [l]) ∨ ∃ u v, l = u ++ a :: v ∧ cutA a l = (u, v, true) ∧ splA a l = u :: splA a v := by
  rcases at_first a l with h | ⟨u, v, rfl, h⟩
  · exact Or.inl ⟨cutA_none h, splA_none h⟩
  · exact Or.inr ⟨u, v, rfl, cutA_app h, splA_app h⟩
theorem idx_none {a : UInt8} : ∀ {u : List UInt8}, a ∉ u → Lib.index u [a] = -1
  | [], _ => rfl
  | c :: u, h => by
    have hc : (a == c) = false := by
      rw [beq_eq_false_iff_ne]
      intro e
      exact h (by rw [e]; simp)
    rw [Lib.index, idx_none (fun e => h (List.mem_cons_of_mem _ e))]
    simp [List.isPrefixOf, hc]
theorem idx_app {a : UInt8} {v : List UInt8} : ∀ {u : List UInt8}, a ∉ u → Lib.index (u ++ a :: v) [a] = (u.length : Int)
  | [], _ => by rw [List.nil_append, Lib.index]; simp [List.isPrefixOf]
  | c :: u, h => by
    have hc : (a == c) = false := by
      rw [beq_eq_false_iff_ne]
      intro e
      exact h (by rw [e]; simp)
    rw [List.cons_append, Lib.index, idx_app (fun e => h (List.mem_cons_of_mem _ e))]
    have h1 : ((u.length : Int) == -1) = false := by rw [beq_eq_false_iff_ne]; omega
    simp [List.isPrefixOf, hc, h1]
theorem cut_is (a : UInt8) (l : List UInt8) : Lib.cut l [a] = cutA a l := by
  rcases at_first a l with h | ⟨u, v, rfl, h⟩
  · rw [cutA_none h, Lib.cut, idx_none h, if_neg (by decide)]
  · rw [cutA_app h, Lib.cut, idx_app h, if_pos (by omega)]
    simp

/-- Numbers: 1 to 13 digits, the first not 0 unless it is the only one. -/
def digB (c : UInt8) : Bool := decide (48 ≤ c.toNat ∧ c.toNat ≤ 57)
def valD (l : List UInt8) : Nat := l.foldl (fun v c => v * 10 + (c.toNat - 48)) 0
def numB (l : List UInt8) : Bool := decide (1 ≤ l.length ∧ l.length ≤ 13) && l.all digB && (decide (l.length = 1) || decide (l.head? ≠ some 48))
theorem valD_snoc (l : List UInt8) (c : UInt8) : valD (l ++ [c]) = valD l * 10 + (c.toNat - 48) := by simp [valD]
theorem dig_of {c : UInt8} (h : digB c = true) : 48 ≤ c.toNat ∧ c.toNat ≤ 57 := of_decide_eq_true h
/-- A row of digits read from its end. -/
theorem rev_ind {P : List UInt8 → Prop} (h0 : P []) (h1 : ∀ l c, P l → P (l ++ [c])) (l : List UInt8) : P l := by
  have : ∀ n (l : List UInt8), l.length = n → P l := by
    intro n
    induction n with
    | zero => intro l hl; rw [List.length_eq_zero_iff.1 hl]; exact h0
    | succ n ih =>
      intro l hl
      have hne : l ≠ [] := fun e => by rw [e] at hl; cases hl
      rw [← List.dropLast_concat_getLast hne]
      exact h1 _ _ (ih _ (by rw [List.length_dropLast, hl]; rfl))
  exact this _ l rfl
theorem valD_lt (l : List UInt8) (h : l.all digB = true) : valD l < 10 ^ l.length := by
  revert h
  refine rev_ind (P := fun l => l.all digB = true → valD l < 10 ^ l.length) (fun _ => by simp [valD]) (fun l c ih h => ?_) l
  rw [List.all_append, Bool.and_eq_true] at h
  have h1 := ih h.1
  have h2 := dig_of (c := c) (by simpa using h.2)
  rw [valD_snoc, List.length_append, List.length_singleton, Nat.pow_succ]
  omega
theorem pow_le13 {n : Nat} (h : n ≤ 13) : 10 ^ n ≤ 10000000000000 := by
  have : (10 : Nat) ^ n ≤ 10 ^ 13 := Nat.pow_le_pow_right (by decide) h
  exact Nat.le_trans this (by decide)
theorem valD_13 {l : List UInt8} (h : l.all digB = true) (hl : l.length ≤ 13) : valD l < 10000000000000 := Nat.lt_of_lt_of_le (valD_lt l h) (pow_le13 hl)
theorem take_all {l : List UInt8} (k : Nat) (h : l.all digB = true) : (l.take k).all digB = true := by
  rw [List.all_eq_true] at h ⊢
  exact fun x hx => h x (List.mem_of_mem_take hx)

/-- A number's digits. -/
def decF : Nat → Nat → List UInt8
  | 0, n => [UInt8.ofNat (48 + n)]
  | f + 1, n => if n < 10 then [UInt8.ofNat (48 + n)] else decF f (n / 10) ++ [UInt8.ofNat (48 + n % 10)]
theorem decF_lo : ∀ (f : Nat) {n : Nat}, n < 10 → decF f n = [UInt8.ofNat (48 + n)]
  | 0, _, _ => rfl
  | f + 1, n, h => by rw [decF, if_pos h]
theorem decF_eq : ∀ (f g n : Nat), n ≤ f → n ≤ g → decF f n = decF g n
  | 0, g, n, hf, _ => by rw [decF_lo 0 (by omega), decF_lo g (by omega)]
  | f + 1, 0, n, _, hg => by rw [decF_lo (f + 1) (by omega), decF_lo 0 (by omega)]
  | f + 1, g + 1, n, hf, hg => by
    by_cases h : n < 10
    · rw [decF_lo _ h, decF_lo _ h]
    · rw [decF, decF, if_neg h, if_neg h, decF_eq f g (n / 10) (by omega) (by omega)]
def decD (n : Nat) : List UInt8 := decF n n
theorem decD_lo {n : Nat} (h : n < 10) : decD n = [UInt8.ofNat (48 + n)] := decF_lo n h
theorem decD_hi {n : Nat} (h : ¬ n < 10) : decD n = decD (n / 10) ++ [UInt8.ofNat (48 + n % 10)] := by
  unfold decD
  obtain ⟨m, rfl⟩ : ∃ m, n = m + 1 := ⟨n - 1, by omega⟩
  rw [decF, if_neg h, decF_eq m ((m + 1) / 10) _ (by omega) (Nat.le_refl _)]
theorem dig_back {c : UInt8} (h : digB c = true) : UInt8.ofNat (48 + (c.toNat - 48)) = c := by
  obtain ⟨h1, h2⟩ := dig_of h
  rw [show 48 + (c.toNat - 48) = c.toNat by omega]
  exact UInt8.ofNat_toNat
theorem decD_ne (n : Nat) : decD n ≠ [] := by
  by_cases h : n < 10
  · rw [decD_lo h]; simp
  · rw [decD_hi h]; simp
theorem head_app {l : List UInt8} (h : l ≠ []) (r : List UInt8) : (l ++ r).head? = l.head? := by
  cases l with
  | nil => exact absurd rfl h
  | cons c l => rfl
theorem decD_head : ∀ (n : Nat), n ≠ 0 → (decD n).head? ≠ some 48 := by
  intro n
  induction n using Nat.strongRecOn with
  | ind n ih =>
    intro hn
    by_cases h : n < 10
    · rw [decD_lo h]
      intro e
      have e1 : UInt8.ofNat (48 + n) = 48 := by simpa using e
      have e2 := congrArg UInt8.toNat e1
      rw [UInt8.toNat_ofNat'] at e2
      have e3 : (48 : UInt8).toNat = 48 := rfl
      rw [e3] at e2
      omega
    · rw [decD_hi h, head_app (decD_ne _)]
      exact ih (n / 10) (by omega) (by omega)
theorem valD_pos (l : List UInt8) (h : l.all digB = true) (hne : l ≠ []) (hh : l.head? ≠ some 48) : valD l ≠ 0 := by
  revert h hne hh
  refine rev_ind (P := fun l => l.all digB = true → l ≠ [] → l.head? ≠ some 48 → valD l ≠ 0) (fun _ h => absurd rfl h) (fun l c ih h _ hh => ?_) l
  rw [List.all_append, Bool.and_eq_true] at h
  have h2 := dig_of (c := c) (by simpa using h.2)
  rw [valD_snoc]
  by_cases hl : l = []
  · subst hl
    have h3 : c.toNat ≠ 48 := fun e => hh (by
      rw [List.nil_append, List.head?_cons]
      exact congrArg some (UInt8.toNat_inj.1 e))
    omega
  · have := ih h.1 hl (by rw [head_app hl] at hh; exact hh)
    omega
/-- The digits of what digits say are these again, but for noughts ahead. -/
theorem decD_val (l : List UInt8) (h : l.all digB = true) (hne : l ≠ []) (hh : l.length = 1 ∨ l.head? ≠ some 48) : decD (valD l) = l := by
  revert h hne hh
  refine rev_ind (P := fun l => l.all digB = true → l ≠ [] → (l.length = 1 ∨ l.head? ≠ some 48) → decD (valD l) = l) (fun _ h => absurd rfl h) (fun l c ih h _ hh => ?_) l
  rw [List.all_append, Bool.and_eq_true] at h
  have hc : digB c = true := by simpa using h.2
  have h2 := dig_of hc
  rw [valD_snoc]
  by_cases hl : l = []
  · subst hl
    rw [show valD [] * 10 + (c.toNat - 48) = c.toNat - 48 by simp [valD], decD_lo (by omega), dig_back hc]
    rfl
  · have hh' : l.head? ≠ some 48 := by
      rcases hh with hh | hh
      · exact absurd (List.length_eq_zero_iff.1 (by rw [List.length_append] at hh; simpa using hh)) hl
      · rw [head_app hl] at hh; exact hh
    have hv := valD_pos l h.1 hl hh'
    rw [decD_hi (by omega), show (valD l * 10 + (c.toNat - 48)) / 10 = valD l by omega, show (valD l * 10 + (c.toNat - 48)) % 10 = c.toNat - 48 by omega, ih h.1 hl (Or.inr hh'), dig_back hc]
theorem decD_iff {l : List UInt8} (h : l.all digB = true) (hl : 1 ≤ l.length ∧ l.length ≤ 13) : decide (decD (valD l) = l) = numB l := by
  have hne : l ≠ [] := fun e => by rw [e] at hl; simp at hl
  by_cases hh : l.length = 1 ∨ l.head? ≠ some 48
  · rw [decide_eq_true (decD_val l h hne hh)]
    unfold numB
    rw [decide_eq_true hl, h]
    rcases hh with hh | hh
    · rw [decide_eq_true hh]; rfl
    · rw [decide_eq_true hh, Bool.or_true]; rfl
  · have h1 : ¬ l.length = 1 := fun e => hh (Or.inl e)
    have h2 : ¬ l.head? ≠ some 48 := fun e => hh (Or.inr e)
    have hn : ¬ decD (valD l) = l := fun e => by
      by_cases hv : valD l = 0
      · rw [hv, decD_lo (by decide)] at e
        rw [← e] at h1
        exact h1 rfl
      · have := decD_head _ hv
        rw [e] at this
        exact h2 this
    rw [decide_eq_false hn]
    unfold numB
    rw [decide_eq_false h1, decide_eq_false h2, Bool.or_false, Bool.and_false]
theorem numB_nil : numB [] = false := by decide
theorem numB_dig {l : List UInt8} (h : numB l = true) : l.all digB = true ∧ 1 ≤ l.length ∧ l.length ≤ 13 := by
  unfold numB at h
  rw [Bool.and_eq_true, Bool.and_eq_true] at h
  exact ⟨h.1.2, (of_decide_eq_true h.1.1).1, (of_decide_eq_true h.1.1).2⟩

/-- So many numbers, field by field, and nothing behind them. -/
def numsP : Nat → List UInt8 → Bool → Option (List Nat)
  | 0, _, m => if m then none else some []
  | k + 1, r, _ => if numB (cutA 32 r).1 then (numsP k (cutA 32 r).2.1 (cutA 32 r).2.2).map (valD (cutA 32 r).1 :: ·) else none
def numsS (fs : List (List UInt8)) : Option (List Nat) := if fs.all numB then some (fs.map valD) else none
theorem numsP_nil : ∀ k : Nat, 0 < k → numsP k [] false = none
  | 0, h => absurd h (by decide)
  | k + 1, _ => rfl
theorem numsP_is : ∀ (k : Nat) (r : List UInt8), numsP k r true = if (splA 32 r).length = k then numsS (splA 32 r) else none
  | 0, r => by
    rw [if_neg]
    · rfl
    · intro e
      rcases cutA_cases 32 r with ⟨_, h⟩ | ⟨u, v, _, _, h⟩ <;> rw [h] at e <;> simp at e
  | k + 1, r => by
    rw [numsP]
    rcases cutA_cases 32 r with ⟨hc, h⟩ | ⟨u, v, _, hc, h⟩
    · rw [hc, h]
      by_cases hk : k = 0
      · subst hk
        unfold numsS
        cases hr : numB r <;> simp [numsP, hr]
      · rw [if_neg (show ¬ [r].length = k + 1 by simp; omega)]
        cases numB r
        · rfl
        · show Option.map _ (numsP k [] false) = none
          rw [numsP_nil k (by omega)]
          rfl
    · rw [hc, h]
      show (if numB u then Option.map (valD u :: ·) (numsP k v true) else none) = _
      rw [numsP_is k v]
      have hlen : (u :: splA 32 v).length = (splA 32 v).length + 1 := rfl
      by_cases hk : (splA 32 v).length = k
      · rw [if_pos hk, if_pos (show (u :: splA 32 v).length = k + 1 by rw [hlen, hk])]
        unfold numsS
        cases hu : numB u <;> cases ha : (splA 32 v).all numB <;> simp [hu, ha]
      · rw [if_neg hk, if_neg (show ¬ (u :: splA 32 v).length = k + 1 by rw [hlen]; omega)]
        cases numB u <;> rfl
end Go.Proofs.YtmggmbidihjblaaDoor
