import Derived.Test.YtnbkmmmlhlbfoaaGreatDoorJ11SplX
import Derived.Test.YtnbkmmmlhlbfoaaGreatDoorJ43IdlL
namespace Go.Proofs.YtnbkmmmlhlbfoaaGreatDoor
theorem keyOK_metric {key : ByteArray} (h : keyOK key = true) : mnameB (metK key) = true := by
  have hne : (metV (decV key).1).toList.isEmpty = false := by simpa [keyOK, metK] using h
  cases hd : (decV key).2 with
  | false =>
    rw [(dec_not hd).1] at hne
    simp [metV] at hne
  | true =>
    obtain ⟨hc, _⟩ := dec_key hd
    have h0 : (canonR (decV key).1).2.1 = 0 := by
      unfold canB at hc
      simp only [Bool.and_eq_true, decide_eq_true_eq] at hc
      exact hc.1
    obtain ⟨_, h2, _, _⟩ := canon_nil h0
    unfold mnameB metK
    rw [hne]
    rcases metV_from (decV key).1 with e | ⟨l, hl, e⟩
    · rw [e, empty_is] at hne; cases hne
    · have hv := h2 l hl
      unfold labV at hv
      split at hv
      · rw [e, hv]; rfl
      · cases hv
theorem insBy_self {α : Type} {key : α → ByteArray} {a : α} : ∀ l : List α, a ∈ insBy key a l
  | [] => by simp [insBy]
  | p :: r => by
    rw [insBy]
    split
    · exact List.mem_cons_of_mem _ (insBy_self r)
    · split <;> simp
theorem tenOf_ins {ts : List TenD} (hr : RiseBy (·.name) ts) {tenant key : ByteArray} {now : Int} : tenOf (insBy (·.name) (addT (tenOf ts tenant) key now) ts) tenant = addT (tenOf ts tenant) key now := by
  have hn : (addT (tenOf ts tenant) key now).name = tenant := tenOf_name
  have hm : addT (tenOf ts tenant) key now ∈ insBy (·.name) (addT (tenOf ts tenant) key now) ts := insBy_self _
  have hg := getBy_of_mem (key := fun t : TenD => t.name) (insBy_rise (a := addT (tenOf ts tenant) key now) hr) hm
  rw [hn] at hg
  have ht : ∀ L : List TenD, tenOf L tenant = (getBy (fun t : TenD => t.name) tenant L).getD ⟨tenant, -1, [], []⟩ := fun _ => rfl
  rw [ht (insBy _ _ _), hg]
  rfl
theorem countA_any {c : CfgD} {now : Int} {ts : List TenD} {tenant m : ByteArray} (h1 : stateB c now ts = true) (h2 : tnameB tenant = true) (h3 : (m.toList.isEmpty || mnameB m) = true) : countOfV c now ts tenant m = countV c (tenOf ts tenant) m := by
  unfold countOfV
  rw [h1, h2, h3, if_pos (by rfl)]
theorem admit_counts {c : CfgD} {now : Int} {ts : List TenD} {tenant key : ByteArray} (hb : (admitV c now ts tenant key).2.2 ≠ 5) :
    (admitV c now ts tenant key).1 = now ∧ 0 ≤ (countOfV c now ts tenant ByteArray.empty).1 ∧ 0 ≤ (countOfV c now ts tenant (metK key)).1 ∧
    (countOfV c now (admitV c now ts tenant key).2.1 tenant ByteArray.empty).2 = (countOfV c now ts tenant ByteArray.empty).2 ∧ (countOfV c now (admitV c now ts tenant key).2.1 tenant (metK key)).2 = (countOfV c now ts tenant (metK key)).2 ∧
    (((admitV c now ts tenant key).2.2 = 1 ∧ (countOfV c now (admitV c now ts tenant key).2.1 tenant ByteArray.empty).1 = (countOfV c now ts tenant ByteArray.empty).1 ∧ (countOfV c now (admitV c now ts tenant key).2.1 tenant (metK key)).1 = (countOfV c now ts tenant (metK key)).1) ∨
     ((admitV c now ts tenant key).2.2 = 2 ∧ (countOfV c now ts tenant ByteArray.empty).1 < (countOfV c now ts tenant ByteArray.empty).2 ∧ (countOfV c now ts tenant (metK key)).1 < (countOfV c now ts tenant (metK key)).2 ∧ (countOfV c now (admitV c now ts tenant key).2.1 tenant ByteArray.empty).1 = (countOfV c now ts tenant ByteArray.empty).1 + 1 ∧ (countOfV c now (admitV c now ts tenant key).2.1 tenant (metK key)).1 = (countOfV c now ts tenant (metK key)).1 + 1) ∨
     ((admitV c now ts tenant key).2.2 = 3 ∧ ((countOfV c now ts tenant ByteArray.empty).2 ≤ (countOfV c now ts tenant ByteArray.empty).1 ∨ ts.length = 10000) ∧ (admitV c now ts tenant key).2.1 = ts) ∨
     ((admitV c now ts tenant key).2.2 = 4 ∧ (countOfV c now ts tenant ByteArray.empty).1 < (countOfV c now ts tenant ByteArray.empty).2 ∧ (countOfV c now ts tenant (metK key)).2 ≤ (countOfV c now ts tenant (metK key)).1 ∧ (admitV c now ts tenant key).2.1 = ts)) := by
  by_cases hs : stateB c now ts = false
  · exact absurd (by unfold admitV; rw [if_pos hs]) hb
  have hst : stateB c now ts = true := by simpa using hs
  by_cases hn : (tnameB tenant && keyOK key) = false
  · exact absurd (by unfold admitV; rw [if_neg hs, if_pos hn]) hb
  have hnk : (tnameB tenant && keyOK key) = true := by simpa using hn
  obtain ⟨hn1, hk1⟩ := Bool.and_eq_true_iff.1 hnk
  have hmn := keyOK_metric hk1
  have hme : (metK key).toList.isEmpty = false := by simpa [keyOK] using hk1
  have he3 : ((metK key).toList.isEmpty || mnameB (metK key)) = true := by rw [hmn, Bool.or_true]
  have he2 : (ByteArray.empty.toList.isEmpty || mnameB ByteArray.empty) = true := by rw [empty_is, Bool.true_or]
  have hri : RiseBy (·.name) ts := by
    have := tens_of hst
    have hr := tens_rise (n := ts.length) this.2.2.2.2 (Nat.le_refl _)
    rwa [List.take_length] at hr
  have hc0 := countA_any (m := ByteArray.empty) hst hn1 he2
  have hc1 := countA_any (m := metK key) hst hn1 he3
  rw [hc0, hc1]
  have hz0 : countV c (tenOf ts tenant) ByteArray.empty = ((((tenOf ts tenant).sers.length : Nat) : Int), if (tenOf ts tenant).limit < 0 then c.tl else (tenOf ts tenant).limit) := by unfold countV; rw [if_pos empty_is]
  have hz1 : countV c (tenOf ts tenant) (metK key) = (((cntM metK (tenOf ts tenant).sers (metK key) : Nat) : Int), metLim (tenOf ts tenant).mets (metK key) c.ml) := by unfold countV; rw [if_neg (by rw [hme]; simp)]
  have hp0 : 0 ≤ (countV c (tenOf ts tenant) ByteArray.empty).1 := by rw [hz0]; simp only; omega
  have hp1 : 0 ≤ (countV c (tenOf ts tenant) (metK key)).1 := by rw [hz1]; simp only; omega
  have hser : RiseBy (·.s) (tenOf ts tenant).sers := (sers_all (tenOf_parts (tens_of hst).2.2.2.2).2.2).2
  have hy0 : countV c (addT (tenOf ts tenant) key now) ByteArray.empty = ((((insBy (·.s) (⟨key, now⟩ : PairD) (tenOf ts tenant).sers).length : Nat) : Int), if (tenOf ts tenant).limit < 0 then c.tl else (tenOf ts tenant).limit) := by unfold countV; rw [if_pos empty_is]; rfl
  have hy1 : countV c (addT (tenOf ts tenant) key now) (metK key) = (((cntM metK (insBy (·.s) (⟨key, now⟩ : PairD) (tenOf ts tenant).sers) (metK key) : Nat) : Int), metLim (tenOf ts tenant).mets (metK key) c.ml) := by unfold countV; rw [if_neg (by rw [hme]; simp)]; rfl
  have hlen := insBy_length (key := fun p : PairD => p.s) (a := ⟨key, now⟩) hser
  have hok : (admitV c now ts tenant key).2.2 = 1 ∨ (admitV c now ts tenant key).2.2 = 2 → stateB c now (admitV c now ts tenant key).2.1 = true := fun h => by
    rw [admL_eq hst] at h ⊢
    exact admL_ok hst h
  by_cases hg : (getBy (·.s) key (tenOf ts tenant).sers).isSome = true
  · have e : admitV c now ts tenant key = (now, insBy (·.name) (addT (tenOf ts tenant) key now) ts, 1) := by unfold admitV; rw [if_neg hs, if_neg hn, if_pos hg]
    have hst2 := hok (by rw [e]; exact Or.inl rfl)
    rw [e] at hst2 ⊢
    dsimp only at hst2 ⊢
    rw [countA_any (m := ByteArray.empty) hst2 hn1 he2, countA_any (m := metK key) hst2 hn1 he3, tenOf_ins hri]
    have hl1 : (insBy (·.s) (⟨key, now⟩ : PairD) (tenOf ts tenant).sers).length = (tenOf ts tenant).sers.length := by rw [hlen]; exact if_pos hg
    have hm1 : cntM metK (insBy (·.s) (⟨key, now⟩ : PairD) (tenOf ts tenant).sers) (metK key) = cntM metK (tenOf ts tenant).sers (metK key) := by
      apply cntM_names
      rw [insBy_over hser hg, List.map_map]
      apply List.map_congr_left
      intro p _
      simp only [Function.comp]
      split <;> rfl
    refine ⟨rfl, hp0, hp1, by rw [hy0, hz0], by rw [hy1, hz1], Or.inl ⟨rfl, ?_, ?_⟩⟩
    · rw [hy0, hz0, hl1]
    · rw [hy1, hz1, hm1]
  · by_cases h3 : (countV c (tenOf ts tenant) ByteArray.empty).2 ≤ (countV c (tenOf ts tenant) ByteArray.empty).1 ∨ (idleB (tenOf ts tenant) = true ∧ ts.length = 10000)
    · have e : admitV c now ts tenant key = (now, ts, 3) := by unfold admitV; rw [if_neg hs, if_neg hn, if_neg hg, if_pos h3]
      rw [e]
      dsimp only
      rw [hc0, hc1]
      refine ⟨rfl, hp0, hp1, rfl, rfl, Or.inr (Or.inr (Or.inl ⟨rfl, ?_, rfl⟩))⟩
      rcases h3 with h3 | h3
      · exact Or.inl h3
      · exact Or.inr h3.2
    · have h30 : (countV c (tenOf ts tenant) ByteArray.empty).1 < (countV c (tenOf ts tenant) ByteArray.empty).2 := by
        rcases Int.lt_or_le (countV c (tenOf ts tenant) ByteArray.empty).1 (countV c (tenOf ts tenant) ByteArray.empty).2 with h | h
        · exact h
        · exact absurd (Or.inl h) h3
      by_cases h4 : (countV c (tenOf ts tenant) (metK key)).2 ≤ (countV c (tenOf ts tenant) (metK key)).1
      · have e : admitV c now ts tenant key = (now, ts, 4) := by unfold admitV; rw [if_neg hs, if_neg hn, if_neg hg, if_neg h3, if_pos h4]
        rw [e]
        dsimp only
        rw [hc0, hc1]
        exact ⟨rfl, hp0, hp1, rfl, rfl, Or.inr (Or.inr (Or.inr ⟨rfl, h30, h4, rfl⟩))⟩
      · have e : admitV c now ts tenant key = (now, insBy (·.name) (addT (tenOf ts tenant) key now) ts, 2) := by unfold admitV; rw [if_neg hs, if_neg hn, if_neg hg, if_neg h3, if_neg h4]
        have hst2 := hok (by rw [e]; exact Or.inr rfl)
        rw [e] at hst2 ⊢
        dsimp only at hst2 ⊢
        rw [countA_any (m := ByteArray.empty) hst2 hn1 he2, countA_any (m := metK key) hst2 hn1 he3, tenOf_ins hri]
        have hgn : getBy (·.s) key (tenOf ts tenant).sers = none := by
          cases h : getBy (·.s) key (tenOf ts tenant).sers with
          | none => rfl
          | some x => rw [h] at hg; exact absurd rfl hg
        have hl1 : (insBy (·.s) (⟨key, now⟩ : PairD) (tenOf ts tenant).sers).length = (tenOf ts tenant).sers.length + 1 := by rw [hlen]; exact if_neg hg
        have hm1 : cntM metK (insBy (·.s) (⟨key, now⟩ : PairD) (tenOf ts tenant).sers) (metK key) = cntM metK (tenOf ts tenant).sers (metK key) + 1 := by
          rw [cntM_perm (insBy_new (key := fun p : PairD => p.s) (a := ⟨key, now⟩) hgn), cntM_cons, if_pos rfl]
        refine ⟨rfl, hp0, hp1, by rw [hy0, hz0], by rw [hy1, hz1], Or.inr (Or.inl ⟨rfl, h30, by omega, ?_, ?_⟩)⟩
        · rw [hy0, hz0, hl1]
          simp only
          omega
        · rw [hy1, hz1, hm1]
          simp only
          omega
end Go.Proofs.YtnbkmmmlhlbfoaaGreatDoor
