import Derived.Test.YtnbkmmmlhlbfoaaGreatDoorJ10RecB
import Derived.Test.YtnbkmmmlhlbfoaaGreatDoorProg
import Derived.Test.YtnbkmmmlhlbfoaaGreatDoorJ01DrawV
namespace Go.Proofs.YtnbkmmmlhlbfoaaGreatDoor
theorem allTo_mk {f : Nat → Bool} {n : Nat} (h : ∀ k, k < n → f k = true) : allTo f n = true := by
  induction n with
  | zero => rfl
  | succ n ih => rw [allTo_succ, ih fun k hk => h k (by omega), h n (by omega)]; rfl
theorem rise_prevB {l : List PairD} (hr : RiseBy (·.s) l) {k : Nat} (hk : k < l.length) : prevB l k = true := by
  cases k with
  | zero => rfl
  | succ k =>
    rw [prevB_at (by omega) hk]
    have := List.pairwise_iff_getElem.1 hr k (k + 1) (by omega) hk (by omega)
    simpa using this
theorem rise_prevT {l : List TenD} (hr : RiseBy (·.name) l) {k : Nat} (hk : k < l.length) : prevT l k = true := by
  cases k with
  | zero => rfl
  | succ k =>
    rw [prevT_at (by omega) hk]
    have := List.pairwise_iff_getElem.1 hr k (k + 1) (by omega) hk (by omega)
    simpa using this
theorem sersB_mk {win now : Int} {xs : List PairD} (hr : RiseBy (·.s) xs) (h : ∀ x ∈ xs, keyOK x.s = true ∧ btwB x.n 0 now = true ∧ now - x.n < win) : sersB win now xs = true := allTo_mk fun k hk => by
  obtain ⟨h1, h2, h3⟩ := h _ (List.getElem_mem hk)
  rw [serAt_eq hk, rise_prevB hr hk, h1, h2, decide_eq_true h3]; rfl
theorem tensB_mk {win now : Int} {ts : List TenD} (hr : RiseBy (·.name) ts) (h : ∀ t ∈ ts, tenB win now t = true) : tensB win now ts = true := allTo_mk fun k hk => by
  rw [tenAt_eq hk, rise_prevT hr hk, h _ (List.getElem_mem hk)]; rfl
theorem stateB_mk {c : CfgD} {now : Int} {ts : List TenD} (h1 : cfgB c = true) (h2 : btwB now 0 1000000000000 = true) (h3 : ts.length ≤ 10000) (h4 : tensB c.w now ts = true) : stateB c now ts = true := by
  unfold stateB
  rw [h1, h2, h4, decide_eq_true h3]; rfl
theorem sers_all {win now : Int} {xs : List PairD} (h : sersB win now xs = true) : (∀ x ∈ xs, keyOK x.s = true ∧ btwB x.n 0 now = true ∧ now - x.n < win) ∧ RiseBy (·.s) xs := by
  refine ⟨fun x hx => ?_, ?_⟩
  · obtain ⟨i, hi, rfl⟩ := List.getElem_of_mem hx
    have := allTo_at h hi
    rw [serAt_eq hi] at this
    simp only [Bool.and_eq_true, decide_eq_true_eq] at this
    exact ⟨this.1.1.2, this.1.2, this.2⟩
  · have := sers_rise (n := xs.length) h (Nat.le_refl _)
    rwa [List.take_length] at this
theorem tenB_all {win now : Int} {t : TenD} (h : tenB win now t = true) : tnameB t.name = true ∧ btwB t.limit (-1) 1000000 = true ∧ metsB t.mets = true ∧ sersB win now t.sers = true ∧ idleB t = false := by
  simp only [tenB, Bool.and_eq_true] at h
  obtain ⟨⟨⟨⟨h1, h5⟩, h2⟩, h3⟩, h4⟩ := h
  exact ⟨h1, h5, h2, h3, by simpa using h4⟩
theorem tenB_mk {win now : Int} {t : TenD} (h1 : tnameB t.name = true) (h2 : btwB t.limit (-1) 1000000 = true) (h3 : metsB t.mets = true) (h4 : sersB win now t.sers = true) (h5 : idleB t = false) : tenB win now t = true := by
  unfold tenB
  rw [h1, h2, h3, h4, h5]; rfl
theorem btw_mk {n a b : Int} (h1 : a ≤ n) (h2 : n ≤ b) : btwB n a b = true := by
  unfold btwB
  rw [decide_eq_true h1, decide_eq_true h2]; rfl
theorem win_one {c : CfgD} (h : cfgB c = true) : 1 ≤ c.w ∧ c.w ≤ 1000000000 := by
  simp only [cfgB, Bool.and_eq_true] at h
  exact btw_in h.1.1.1.1.1
theorem tenOf_parts {win now : Int} {ts : List TenD} (h : tensB win now ts = true) {name : ByteArray} : btwB (tenOf ts name).limit (-1) 1000000 = true ∧ metsB (tenOf ts name).mets = true ∧ sersB win now (tenOf ts name).sers = true := by
  rcases tenOf_in (ts := ts) (name := name) with ⟨h1, _⟩ | ⟨h1, _⟩
  · obtain ⟨_, h2, h3, h4, _⟩ := tenB_all (tens_at h _ h1)
    exact ⟨h2, h3, h4⟩
  · rw [h1]; exact ⟨rfl, rfl, rfl⟩
theorem ins_len {ts : List TenD} {t : TenD} (hr : RiseBy (·.name) ts) (hl : ts.length ≤ 10000) (h : ((getBy (·.name) t.name ts).isNone && decide (10000 ≤ ts.length)) = false) : (insBy (·.name) t ts).length ≤ 10000 := by
  have hi := insBy_length (a := t) hr
  cases hg : getBy (·.name) t.name ts with
  | some q => simp only [hg, Option.isSome_some, if_true] at hi; omega
  | none =>
    rw [hg] at h
    simp only [hg, Option.isSome_none, Bool.false_eq_true, if_false] at hi
    simp only [Option.isNone_none, Bool.true_and, decide_eq_false_iff_not] at h
    omega
theorem ins_tens {win now : Int} {ts : List TenD} {t : TenD} (h : tensB win now ts = true) (ht : tenB win now t = true) : tensB win now (insBy (·.name) t ts) = true :=
  tensB_mk (insBy_rise (tens_up h)) fun q hq => by
    rcases insBy_mem hq with rfl | hq
    · exact ht
    · exact tens_at h q hq
theorem addT_ok {c : CfgD} {now : Int} {ts : List TenD} (hst : stateB c now ts = true) {tenant key : ByteArray} (hn : (tnameB tenant && keyOK key) = true) : tenB c.w now (addT (tenOf ts tenant) key now) = true := by
  obtain ⟨hc, h0, h1, hl, ht⟩ := tens_of hst
  obtain ⟨p1, p2, p3⟩ := tenOf_parts ht (name := tenant)
  obtain ⟨q1, q2⟩ := sers_all p3
  rw [Bool.and_eq_true] at hn
  refine tenB_mk (by show tnameB (tenOf ts tenant).name = true; rw [tenOf_name]; exact hn.1) p1 p2 ?_ addT_idle
  refine sersB_mk (insBy_rise q2) fun x hx => ?_
  rcases insBy_mem (show x ∈ insBy (·.s) ⟨key, now⟩ (tenOf ts tenant).sers from hx) with rfl | hx
  · exact ⟨hn.2, btw_mk h0 (Int.le_refl _), by have := (win_one hc).1; show now - now < _; omega⟩
  · exact q1 x hx
theorem admL_ok {c : CfgD} {now : Int} {ts : List TenD} (hst : stateB c now ts = true) {tenant key : ByteArray} (hv : (admL c now ts tenant key).2 = 1 ∨ (admL c now ts tenant key).2 = 2) : stateB c now (admL c now ts tenant key).1 = true := by
  obtain ⟨hc, h0, h1, hl, ht⟩ := tens_of hst
  have hb : btwB now 0 1000000000000 = true := btw_mk h0 h1
  have hr := tens_up ht
  have hnm : (addT (tenOf ts tenant) key now).name = tenant := tenOf_name
  unfold admL at hv ⊢
  by_cases e1 : (tnameB tenant && keyOK key) = false
  · rw [if_pos e1] at hv; omega
  rw [if_neg e1] at hv ⊢
  have e1' : (tnameB tenant && keyOK key) = true := by simpa using e1
  by_cases e2 : (getBy (·.s) key (tenOf ts tenant).sers).isSome = true
  · rw [if_pos e2]
    refine stateB_mk hc hb (ins_len hr hl ?_) (ins_tens ht (addT_ok hst e1'))
    rw [hnm]
    rcases tenOf_in (ts := ts) (name := tenant) with ⟨_, hs⟩ | ⟨e, _⟩
    · cases hg : getBy (·.name) tenant ts with
      | none => rw [hg] at hs; cases hs
      | some q => rfl
    · rw [e] at e2; cases e2
  rw [if_neg e2] at hv ⊢
  by_cases e3 : (if (tenOf ts tenant).limit = -1 then c.tl else (tenOf ts tenant).limit) ≤ ((tenOf ts tenant).sers.length : Nat) ∨ ((getBy (·.name) tenant ts).isNone && decide (10000 ≤ ts.length)) = true
  · rw [if_pos e3] at hv; omega
  rw [if_neg e3] at hv ⊢
  by_cases e4 : metLim (tenOf ts tenant).mets (metK key) c.ml ≤ (cntM metK (tenOf ts tenant).sers (metK key) : Nat)
  · rw [if_pos e4] at hv; omega
  rw [if_neg e4]
  refine stateB_mk hc hb (ins_len hr hl ?_) (ins_tens ht (addT_ok hst e1'))
  rw [hnm]
  cases hd : ((getBy (·.name) tenant ts).isNone && decide (10000 ≤ ts.length)) with
  | false => rfl
  | true => exact absurd (Or.inr hd) e3
def stepV (c : CfgD) (now : Int) (ts : List TenD) (r : RecD) : Int × List TenD × Bool :=
  if r.kind = 1 then (now, (admL c now ts r.tenant r.text).1, decide ((admL c now ts r.tenant r.text).2 = 1) || decide ((admL c now ts r.tenant r.text).2 = 2))
  else if r.kind = 2 then tickL c.w now ts r.num
  else if r.kind = 3 then (now, (setL ts r.tenant r.text r.num).1, (setL ts r.tenant r.text r.num).2)
  else (now, ts, false)
end Go.Proofs.YtnbkmmmlhlbfoaaGreatDoor
namespace Go.Proofs.YtnbkmmmlhlbfoaaGreatDoor
theorem pairBulk_ins {p : PairD} (l : List PairD) : pairBulk (insBy (·.s) p l) ≤ pairBulk l + p.s.size ∧ (insBy (·.s) p l).length ≤ l.length + 1 := by
  induction l with
  | nil => simp [insBy, pairBulk]
  | cons q r ih =>
    rw [insBy]
    split
    · simp only [pairBulk, List.length_cons]; omega
    · split <;> (simp only [pairBulk, List.length_cons]; omega)
theorem pairBulk_filter (f : PairD → Bool) (l : List PairD) : pairBulk (l.filter f) ≤ pairBulk l ∧ (l.filter f).length ≤ l.length := by
  induction l with
  | nil => exact ⟨Nat.le_refl _, Nat.le_refl _⟩
  | cons q r ih =>
    rw [List.filter_cons]
    split <;> (simp only [pairBulk, List.length_cons]; omega)
theorem tensBulk_filter (f : TenD → Bool) (l : List TenD) : tensBulk (l.filter f) ≤ tensBulk l ∧ (l.filter f).length ≤ l.length := by
  induction l with
  | nil => exact ⟨Nat.le_refl _, Nat.le_refl _⟩
  | cons q r ih =>
    rw [List.filter_cons]
    split <;> (simp only [tensBulk, List.length_cons]; omega)
theorem tensBulk_ins {ts : List TenD} (hr : RiseBy (·.name) ts) {t : TenD} {k : Nat} (h : tenBulk t ≤ tenBulk (tenOf ts t.name) + k) : (insBy (·.name) t ts).length + tensBulk (insBy (·.name) t ts) ≤ ts.length + tensBulk ts + 1 + t.name.size + k := by
  have hz : tenBulk ⟨t.name, -1, [], []⟩ = t.name.size := by simp [tenBulk, pairBulk]
  have key : (∃ q ∈ ts, q.name = t.name ∧ tenBulk t ≤ tenBulk q + k) ∨ (tenBulk t ≤ t.name.size + k) := by
    rcases tenOf_in (ts := ts) (name := t.name) with ⟨hm, _⟩ | ⟨e, _⟩
    · exact Or.inl ⟨_, hm, tenOf_name, h⟩
    · rw [e, hz] at h
      exact Or.inr h
  clear h hz
  rcases key with ⟨q, hq, hn, hb⟩ | hb
  · have : (insBy (·.name) t ts).length + tensBulk (insBy (·.name) t ts) ≤ ts.length + tensBulk ts + k := by
      induction ts with
      | nil => cases hq
      | cons p r ih =>
        rw [insBy]
        rcases List.mem_cons.1 hq with rfl | hq
        · rw [if_neg (by rw [hn, blt_irrefl]; simp), if_pos ((same_iff _ _).2 hn)]
          simp only [List.length_cons, tensBulk]
          omega
        · have hbl := hr.head q hq
          simp only [hn] at hbl
          rw [if_pos hbl]
          have := ih hr.tail hq
          simp only [List.length_cons, tensBulk]
          omega
    omega
  · have : ∀ l : List TenD, (insBy (·.name) t l).length + tensBulk (insBy (·.name) t l) ≤ l.length + tensBulk l + 1 + tenBulk t := fun l => by
      induction l with
      | nil => simp [insBy, tensBulk]
      | cons p r ih =>
        rw [insBy]
        split
        · simp only [List.length_cons, tensBulk]; omega
        · split <;> (simp only [List.length_cons, tensBulk]; omega)
    have := this ts
    omega
theorem addT_bulk {ts : List TenD} {tenant key : ByteArray} {now : Int} : tenBulk (addT (tenOf ts tenant) key now) ≤ tenBulk (tenOf ts (addT (tenOf ts tenant) key now).name) + (1 + key.size) := by
  have e : (addT (tenOf ts tenant) key now).name = tenant := tenOf_name
  rw [e]
  have := pairBulk_ins (p := ⟨key, now⟩) (tenOf ts tenant).sers
  simp only [tenBulk, addT] at this ⊢
  omega
theorem limT_bulk {ts : List TenD} {tenant metric : ByteArray} {limit : Int} : tenBulk (limT (tenOf ts tenant) metric limit) ≤ tenBulk (tenOf ts (limT (tenOf ts tenant) metric limit).name) + (1 + metric.size) := by
  have e : (limT (tenOf ts tenant) metric limit).name = tenant := by rw [limT_name, tenOf_name]
  rw [e]
  have h1 := pairBulk_ins (p := ⟨metric, limit⟩) (tenOf ts tenant).mets
  have h2 := pairBulk_filter (fun p => !((fun q : PairD => q.s) p).toList == metric.toList) (tenOf ts tenant).mets
  have h3 : pairBulk (delBy (·.s) metric (tenOf ts tenant).mets) ≤ pairBulk (tenOf ts tenant).mets ∧ (delBy (·.s) metric (tenOf ts tenant).mets).length ≤ (tenOf ts tenant).mets.length := pairBulk_filter _ _
  simp only at h1
  unfold limT
  split
  · simp only [tenBulk]; omega
  · simp only [tenBulk]
    split <;> omega
theorem kept_bulk {win now : Int} (ts : List TenD) : (keptTs win now ts).length + tensBulk (keptTs win now ts) ≤ ts.length + tensBulk ts := by
  have h1 := tensBulk_filter (fun t => !idleB t) (ts.map (keptT win now))
  have h2 : tensBulk (ts.map (keptT win now)) ≤ tensBulk ts := by
    induction ts with
    | nil => exact Nat.le_refl _
    | cons t r ih =>
      have := pairBulk_filter (fun p => decide (now - p.n < win)) t.sers
      have ih' := ih (tensBulk_filter _ _)
      simp only [List.map_cons, tensBulk, tenBulk, keptT] at ih' ⊢
      omega
  unfold keptTs
  rw [List.length_map] at h1
  omega
theorem stepV_bulk {c : CfgD} {now : Int} {ts : List TenD} (h : stateB c now ts = true) (r : RecD) : (stepV c now ts r).2.1.length + tensBulk (stepV c now ts r).2.1 ≤ ts.length + tensBulk ts + 2 + r.tenant.size + r.text.size := by
  have hr := tens_up (tens_of h).2.2.2.2
  have hs : ts.length + tensBulk ts ≤ ts.length + tensBulk ts + 2 + r.tenant.size + r.text.size := by omega
  have ha : (insBy (·.name) (addT (tenOf ts r.tenant) r.text now) ts).length + tensBulk (insBy (·.name) (addT (tenOf ts r.tenant) r.text now) ts) ≤ ts.length + tensBulk ts + 2 + r.tenant.size + r.text.size := by
    have := tensBulk_ins hr (t := addT (tenOf ts r.tenant) r.text now) addT_bulk
    have e : (addT (tenOf ts r.tenant) r.text now).name = r.tenant := tenOf_name
    rw [e] at this
    omega
  have hl : (insBy (·.name) (limT (tenOf ts r.tenant) r.text r.num) ts).length + tensBulk (insBy (·.name) (limT (tenOf ts r.tenant) r.text r.num) ts) ≤ ts.length + tensBulk ts + 2 + r.tenant.size + r.text.size := by
    have := tensBulk_ins hr (t := limT (tenOf ts r.tenant) r.text r.num) limT_bulk
    have e : (limT (tenOf ts r.tenant) r.text r.num).name = r.tenant := by rw [limT_name, tenOf_name]
    rw [e] at this
    omega
  unfold stepV
  split
  · unfold admL
    split
    · exact hs
    · split
      · exact ha
      · generalize (if (tenOf ts r.tenant).limit = -1 then c.tl else (tenOf ts r.tenant).limit) = LM
        split
        · exact hs
        · split
          · exact hs
          · exact ha
  · split
    · unfold tickL
      split
      · exact hs
      · have := kept_bulk (win := c.w) (now := now + r.num) ts
        show (keptTs c.w (now + r.num) ts).length + tensBulk (keptTs c.w (now + r.num) ts) ≤ _
        omega
    · split
      · unfold setL
        split
        · exact hs
        · split
          · have := tensBulk_filter (fun p => !((fun q : TenD => q.name) p).toList == r.tenant.toList) ts
            show (delBy (·.name) r.tenant ts).length + tensBulk (delBy (·.name) r.tenant ts) ≤ _
            unfold delBy
            omega
          · split
            · exact hs
            · exact hl
      · exact hs
end Go.Proofs.YtnbkmmmlhlbfoaaGreatDoor
namespace Go.Proofs.YtnbkmmmlhlbfoaaGreatDoor
theorem tailB_le : ∀ {ls : List LabD}, SizL ls → (tailB ls).size ≤ ls.length * 2003
  | [], _ => by show (0 : Nat) ≤ _; omega
  | l :: r, h => by
    have h1 := h l (List.mem_cons_self ..)
    have h2 := tailB_le (ls := r) fun x hx => h x (List.mem_cons_of_mem _ hx)
    rw [tailB, ByteArray.size_append, ByteArray.size_append, s8B_size, s16B_size, List.length_cons]
    omega
theorem keyX_size (bs : List Nat) (σ : CSt) : (keyX bs σ).1.size ≤ 14050 := by
  obtain ⟨h1, h2, _, _⟩ := labelsX_is bs σ
  obtain ⟨h3, h4⟩ := sizD_form h1
  show (keyV (canonR (labelsX bs σ).1).1).size ≤ _
  unfold keyV
  split
  · have := tailB_le h3
    rw [keyB, ByteArray.size_append, numS_size]
    omega
  · show (0 : Nat) ≤ _
    omega
theorem tickV_bulk (c : CfgD) (now : Int) (ts : List TenD) (b : Int) : (tickV c now ts b).2.1.length + tensBulk (tickV c now ts b).2.1 ≤ ts.length + tensBulk ts := by
  unfold tickV
  split
  · exact Nat.zero_le _
  · split
    · exact Nat.le_refl _
    · exact kept_bulk ts
theorem tickV_now (c : CfgD) (now : Int) (ts : List TenD) (b : Int) (h0 : 0 ≤ now) (h1 : 0 ≤ b) : 0 ≤ (tickV c now ts b).1 ∧ (tickV c now ts b).1 ≤ now + b := by
  unfold tickV
  split
  · exact ⟨Int.le_refl _, by simp only; omega⟩
  · split
    · exact ⟨h0, by simp only; omega⟩
    · exact ⟨by simp only; omega, Int.le_refl _⟩
theorem setLimV_bulk (c : CfgD) (now : Int) (ts : List TenD) (t m : ByteArray) (n : Int) : (setLimV c now ts t m n).2.1.length + tensBulk (setLimV c now ts t m n).2.1 ≤ ts.length + tensBulk ts + 2 + t.size + m.size := by
  by_cases h : stateB c now ts = true
  · have := stepV_bulk h ⟨3, t, m, n⟩
    rw [setL_eq h]
    simpa [stepV] using this
  · unfold setLimV
    rw [if_pos (by simpa using h)]
    exact Nat.zero_le _
theorem setLimV_now (c : CfgD) (now : Int) (ts : List TenD) (t m : ByteArray) (n : Int) (h0 : 0 ≤ now) : 0 ≤ (setLimV c now ts t m n).1 ∧ (setLimV c now ts t m n).1 ≤ now := by
  by_cases h : stateB c now ts = true
  · rw [setL_eq h]
    exact ⟨h0, Int.le_refl _⟩
  · unfold setLimV
    rw [if_pos (by simpa using h)]
    exact ⟨Int.le_refl _, h0⟩
theorem admitV_bulk (c : CfgD) (now : Int) (ts : List TenD) (t k : ByteArray) : (admitV c now ts t k).2.1.length + tensBulk (admitV c now ts t k).2.1 ≤ ts.length + tensBulk ts + 2 + t.size + k.size := by
  by_cases h : stateB c now ts = true
  · have := stepV_bulk h ⟨1, t, k, 0⟩
    rw [admL_eq h]
    simpa [stepV] using this
  · unfold admitV
    rw [if_pos (by simpa using h)]
    exact Nat.zero_le _
theorem admitV_now (c : CfgD) (now : Int) (ts : List TenD) (t k : ByteArray) (h0 : 0 ≤ now) : 0 ≤ (admitV c now ts t k).1 ∧ (admitV c now ts t k).1 ≤ now := by
  by_cases h : stateB c now ts = true
  · rw [admL_eq h]
    exact ⟨h0, Int.le_refl _⟩
  · unfold admitV
    rw [if_pos (by simpa using h)]
    exact ⟨Int.le_refl _, h0⟩
theorem tenantX_size (bs : List Nat) (σ : CSt) : (tenantX bs σ).1.size ≤ 4 := getD_size (L := tenL) (m := 4) (by decide) _
theorem metricX_size (bs : List Nat) (σ : CSt) : (metricX bs σ).1.size ≤ 4 := getD_size (L := metL) (m := 4) (by decide) _
theorem chgX_bulk (c : CfgD) (bs : List Nat) (x : Int × List TenD × CSt) : (chgX c bs x).2.1.length + tensBulk (chgX c bs x).2.1 ≤ x.2.1.length + tensBulk x.2.1 + 14060 := by
  unfold chgX
  split
  · have := tickV_bulk c x.1 x.2.1 (1 + (pickX bs (pickX bs x.2.2 8).2 3).1)
    simp only
    omega
  · split
    · have h1 := tenantX_size bs (pickX bs x.2.2 8).2
      have h2 := metricX_size bs (tenantX bs (pickX bs x.2.2 8).2).2
      have := setLimV_bulk c x.1 x.2.1 (tenantX bs (pickX bs x.2.2 8).2).1 (metricX bs (tenantX bs (pickX bs x.2.2 8).2).2).1 ((pickX bs (metricX bs (tenantX bs (pickX bs x.2.2 8).2).2).2 8).1 - 1)
      simp only
      omega
    · have h1 := tenantX_size bs (pickX bs x.2.2 8).2
      have h2 := keyX_size bs (tenantX bs (pickX bs x.2.2 8).2).2
      have := admitV_bulk c x.1 x.2.1 (tenantX bs (pickX bs x.2.2 8).2).1 (keyX bs (tenantX bs (pickX bs x.2.2 8).2).2).1
      simp only
      omega
theorem chgX_now (c : CfgD) (bs : List Nat) (x : Int × List TenD × CSt) (h0 : 0 ≤ x.1) : 0 ≤ (chgX c bs x).1 ∧ (chgX c bs x).1 ≤ x.1 + 3 := by
  unfold chgX
  split
  · have h2 := pickX_lt bs (pickX bs x.2.2 8).2 (n := 3) (by omega)
    have := tickV_now c x.1 x.2.1 (1 + (pickX bs (pickX bs x.2.2 8).2 3).1) h0 (by omega)
    simp only
    omega
  · split
    · have := setLimV_now c x.1 x.2.1 (tenantX bs (pickX bs x.2.2 8).2).1 (metricX bs (tenantX bs (pickX bs x.2.2 8).2).2).1 ((pickX bs (metricX bs (tenantX bs (pickX bs x.2.2 8).2).2).2 8).1 - 1) h0
      simp only
      omega
    · have := admitV_now c x.1 x.2.1 (tenantX bs (pickX bs x.2.2 8).2).1 (keyX bs (tenantX bs (pickX bs x.2.2 8).2).2).1 h0
      simp only
      omega
theorem stK_is (c : CfgD) (bs : List Nat) (σ : CSt) (k : Nat) : (stK c bs σ k).2.1.length + tensBulk (stK c bs σ k).2.1 ≤ 14060 * k ∧ 0 ≤ (stK c bs σ k).1 ∧ (stK c bs σ k).1 ≤ 3 * k := by
  induction k with
  | zero => exact ⟨Nat.le_refl _, Int.le_refl _, Int.le_refl _⟩
  | succ k ih =>
    rw [stK]
    have h1 := chgX_bulk c bs (stK c bs σ k)
    have h2 := chgX_now c bs (stK c bs σ k) ih.2.1
    omega
theorem stateX_is (c : CfgD) (bs : List Nat) (σ : CSt) : (stateX c bs σ).2.1.length + tensBulk (stateX c bs σ).2.1 ≤ 281200 ∧ 0 ≤ (stateX c bs σ).1 ∧ (stateX c bs σ).1 ≤ 60 := by
  have h2 := pickX_lt bs σ (n := 16) (by omega)
  have h3 := stK_is c bs (pickX bs σ 16).2 (4 + (pickX bs σ 16).1)
  unfold stateX
  omega
end Go.Proofs.YtnbkmmmlhlbfoaaGreatDoor
namespace Go.Proofs.YtnbkmmmlhlbfoaaGreatDoor
open Go.RowKit
def pickY (bs : List Nat) (σ : CSt) (n : Nat) : Nat × CSt :=
  if n ≤ 256 then pickX bs σ n else (((byteX bs σ).1 * 256 + (byteX bs (byteX bs σ).2).1) % n, (byteX bs (byteX bs σ).2).2)
theorem pickY_lt (bs : List Nat) (σ : CSt) {n : Nat} (h : 1 ≤ n) : (pickY bs σ n).1 < n := by
  unfold pickY
  split
  · exact pickX_lt bs σ h
  · exact Nat.mod_lt _ h
theorem pickY_k (bs : List Nat) (σ : CSt) (n : Nat) : (pickY bs σ n).2.k ≤ σ.k + 2 := by
  unfold pickY
  split
  · have := pickX_k bs σ n; omega
  · have h1 := byteX_k bs σ
    have h2 := byteX_k bs (byteX bs σ).2
    simp only
    omega
set_option maxRecDepth 100000 in
set_option maxHeartbeats 1000000 in
theorem curPickY_any (B P : Nat) (bs : List Nat) (σ : CSt) (n : Nat) (w : World) (h : CurX w B P bs σ) (hN : σ.k ≤ 10000000) (hn : n ≤ 1000000000) :
    Calls Tryz.prog 14 #[.pointer (some ⟨B, 0, none⟩), .int .i64 (n : Nat)] w fun e w' => e = .returned (.int .i64 ((pickY bs σ n).1 : Nat)) ∧ CurX w' B P bs (pickY bs σ n).2 ∧ But B w w' := by
  by_cases h2 : n ≤ 256
  · have e : pickY bs σ n = pickX bs σ n := by unfold pickY; rw [if_pos h2]
    rw [e]
    exact curPickX_any B P bs σ n w h hN h2
  · have e : pickY bs σ n = (((byteX bs σ).1 * 256 + (byteX bs (byteX bs σ).2).1) % n, (byteX bs (byteX bs σ).2).2) := by unfold pickY; rw [if_neg h2]
    rw [e]
    have hk := byteX_k bs σ
    have HC : Hid (Calls Tryz.prog 42 #[.pointer (some ⟨B, 0, none⟩)] w fun e w' => e = .returned (.int .i64 ((byteX bs σ).1 : Nat)) ∧ (byteX bs σ).1 < 256 ∧ CurX w' B P bs (byteX bs σ).2 ∧ But B w w') := curByteX_any B P bs σ w h (by omega)
    clear h e
    generalize byteX bs σ = R at *
    obtain ⟨v, τ⟩ := R
    simp only at HC hk ⊢
    have HC2 : Hid (∀ W, CurX W B P bs τ → Calls Tryz.prog 42 #[.pointer (some ⟨B, 0, none⟩)] W fun e w' => e = .returned (.int .i64 ((byteX bs τ).1 : Nat)) ∧ (byteX bs τ).1 < 256 ∧ CurX w' B P bs (byteX bs τ).2 ∧ But B W w') := fun W h => curByteX_any B P bs τ W h (by omega)
    generalize byteX bs τ = R2 at *
    obtain ⟨v2, υ⟩ := R2
    simp only at HC2 ⊢
    have h1 : ¬ ((n : Int) ≤ 1) := by omega
    have h3 : ¬ ((n : Int) ≤ 256) := by omega
    have h4 : (n : Int) ≠ 0 := by omega
    have h5 : (n : Int) ≤ 1000000000 := by omega
    go_enter Tryz.func14, Tryz.ntmps14
    go_wp2_with fail
    refine HC.out.mono ?_
    rintro e w1 ⟨rfl, hv, hc1, hb1⟩
    have H1 : Hid (CurX w1 B P bs τ ∧ But B w w1) := ⟨hc1, hb1⟩
    clear hc1 hb1
    go_wp2_with fail
    refine (HC2.out _ H1.out.1).mono ?_
    rintro e w2 ⟨rfl, hv2, hc2, hb2⟩
    have H2 : Hid (CurX w2 B P bs υ ∧ But B w w2) := ⟨hc2, H1.out.2.trans hb2⟩
    clear hc2 hb2 H1
    have hv' : (v : Int) < 256 := by omega
    have hv2' : (v2 : Int) < 256 := by omega
    go_wp2
    refine bodyPost_ret (v := .int .i64 (((v * 256 + v2) % n : Nat) : Int)) (by simp [results, Tryz.results14, go_sem]) rfl ?_
    exact ⟨rfl, H2.out⟩
end Go.Proofs.YtnbkmmmlhlbfoaaGreatDoor
namespace Go.Proofs.YtnbkmmmlhlbfoaaGreatDoor
def nowL : List Int := [-1, 1000000000000, 1000000000001]
def nmsL : List ByteArray := [⟨#[]⟩, ⟨#[65]⟩, ⟨#[122, 122, 122]⟩, timesB ⟨#[113]⟩ 32, timesB ⟨#[113]⟩ 33]
def limL : List Int := [-2, 1000000, 1000001]
def mtsL : List ByteArray := [⟨#[]⟩, ⟨#[97]⟩, ⟨#[122, 122]⟩, ⟨#[255]⟩]
def dTen : TenD := ⟨⟨#[]⟩, 0, [], []⟩
def dPair : PairD := ⟨⟨#[]⟩, 0⟩
def spT (bs : List Nat) (now : Int) (t : TenD) (σ : CSt) (sw : Nat) : TenD × CSt :=
  if sw = 0 then (⟨nmsL.getD (pickX bs σ 5).1 ⟨#[]⟩, t.limit, t.mets, t.sers⟩, (pickX bs σ 5).2)
  else if sw = 1 then (⟨t.name, limL.getD (pickX bs σ 3).1 0, t.mets, t.sers⟩, (pickX bs σ 3).2)
  else if sw = 2 then (⟨t.name, t.limit, t.mets ++ [⟨mtsL.getD (pickX bs σ 4).1 ⟨#[]⟩, 2⟩], t.sers⟩, (pickX bs σ 4).2)
  else if sw = 5 then (⟨t.name, t.limit, t.mets, t.sers ++ t.sers⟩, σ)
  else if sw = 6 then (⟨t.name, -1, [], []⟩, σ)
  else if 0 < t.sers.length then
    if sw = 3 then (⟨t.name, t.limit, t.mets, t.sers.set (pickY bs σ t.sers.length).1 ⟨(t.sers.getD (pickY bs σ t.sers.length).1 dPair).s, now + 1⟩⟩, (pickY bs σ t.sers.length).2)
    else if sw = 4 then (⟨t.name, t.limit, t.mets, t.sers.set (pickY bs σ t.sers.length).1 ⟨⟨#[107]⟩, (t.sers.getD (pickY bs σ t.sers.length).1 dPair).n⟩⟩, (pickY bs σ t.sers.length).2)
    else (⟨t.name, t.limit, t.mets, t.sers.set 0 ⟨(t.sers.getD 0 dPair).s, now - 8 - (pickX bs σ 2).1⟩⟩, (pickX bs σ 2).2)
  else (t, σ)
theorem spT_0 (bs : List Nat) (now : Int) (t : TenD) (σ : CSt) : spT bs now t σ 0 = (⟨nmsL.getD (pickX bs σ 5).1 ⟨#[]⟩, t.limit, t.mets, t.sers⟩, (pickX bs σ 5).2) := rfl
theorem spT_1 (bs : List Nat) (now : Int) (t : TenD) (σ : CSt) : spT bs now t σ 1 = (⟨t.name, limL.getD (pickX bs σ 3).1 0, t.mets, t.sers⟩, (pickX bs σ 3).2) := rfl
theorem spT_2 (bs : List Nat) (now : Int) (t : TenD) (σ : CSt) : spT bs now t σ 2 = (⟨t.name, t.limit, t.mets ++ [⟨mtsL.getD (pickX bs σ 4).1 ⟨#[]⟩, 2⟩], t.sers⟩, (pickX bs σ 4).2) := rfl
theorem spT_3 (bs : List Nat) (now : Int) (t : TenD) (σ : CSt) : spT bs now t σ 3 = if 0 < t.sers.length then (⟨t.name, t.limit, t.mets, t.sers.set (pickY bs σ t.sers.length).1 ⟨(t.sers.getD (pickY bs σ t.sers.length).1 dPair).s, now + 1⟩⟩, (pickY bs σ t.sers.length).2) else (t, σ) := rfl
theorem spT_4 (bs : List Nat) (now : Int) (t : TenD) (σ : CSt) : spT bs now t σ 4 = if 0 < t.sers.length then (⟨t.name, t.limit, t.mets, t.sers.set (pickY bs σ t.sers.length).1 ⟨⟨#[107]⟩, (t.sers.getD (pickY bs σ t.sers.length).1 dPair).n⟩⟩, (pickY bs σ t.sers.length).2) else (t, σ) := rfl
theorem spT_5 (bs : List Nat) (now : Int) (t : TenD) (σ : CSt) : spT bs now t σ 5 = (⟨t.name, t.limit, t.mets, t.sers ++ t.sers⟩, σ) := rfl
theorem spT_6 (bs : List Nat) (now : Int) (t : TenD) (σ : CSt) : spT bs now t σ 6 = (⟨t.name, -1, [], []⟩, σ) := rfl
theorem spT_7 (bs : List Nat) (now : Int) (t : TenD) (σ : CSt) : spT bs now t σ 7 = if 0 < t.sers.length then (⟨t.name, t.limit, t.mets, t.sers.set 0 ⟨(t.sers.getD 0 dPair).s, now - 8 - (pickX bs σ 2).1⟩⟩, (pickX bs σ 2).2) else (t, σ) := rfl
def spTs (bs : List Nat) (now : Int) (ts : List TenD) (σ : CSt) : Int × List TenD × CSt :=
  (now, ts.set (pickY bs σ ts.length).1 (spT bs now (ts.getD (pickY bs σ ts.length).1 dTen) (pickX bs (pickY bs σ ts.length).2 8).2 (pickX bs (pickY bs σ ts.length).2 8).1).1,
    (spT bs now (ts.getD (pickY bs σ ts.length).1 dTen) (pickX bs (pickY bs σ ts.length).2 8).2 (pickX bs (pickY bs σ ts.length).2 8).1).2)
def spX (bs : List Nat) (now : Int) (ts : List TenD) (σ : CSt) : Int × List TenD × CSt :=
  if 0 < ts.length then
    if (pickX bs σ 6).1 = 5 then (nowL.getD (pickX bs (pickX bs σ 6).2 3).1 0, ts, (pickX bs (pickX bs σ 6).2 3).2)
    else spTs bs now ts (pickX bs σ 6).2
  else (nowL.getD (pickX bs σ 3).1 0, ts, (pickX bs σ 3).2)
theorem pairBulk_mem {ps : List PairD} {i : Nat} (h : i < ps.length) : (ps[i]).s.size ≤ pairBulk ps := by
  induction ps generalizing i with
  | nil => exact absurd h (by simp)
  | cons t r ih =>
    cases i with
    | zero => simp only [List.getElem_cons_zero, pairBulk]; omega
    | succ i =>
      have := ih (i := i) (by simpa using h)
      simp only [List.getElem_cons_succ, pairBulk]
      omega
theorem pairBulk_getD {ps : List PairD} {i : Nat} (h : i < ps.length) : (ps.getD i dPair).s.size ≤ pairBulk ps := by
  rw [List.getD_eq_getElem?_getD, List.getElem?_eq_getElem h]
  exact pairBulk_mem h
theorem pairBulk_set : ∀ (ps : List PairD) (i : Nat) (p : PairD), pairBulk (ps.set i p) ≤ pairBulk ps + p.s.size
  | [], _, _ => Nat.zero_le _
  | q :: r, 0, p => by simp only [List.set_cons_zero, pairBulk]; omega
  | q :: r, i + 1, p => by
    have := pairBulk_set r i p
    simp only [List.set_cons_succ, pairBulk]
    omega
theorem tensBulk_set : ∀ (ts : List TenD) (i : Nat) (t : TenD), tensBulk (ts.set i t) ≤ tensBulk ts + tenBulk t
  | [], _, _ => Nat.zero_le _
  | q :: r, 0, p => by simp only [List.set_cons_zero, tensBulk]; omega
  | q :: r, i + 1, p => by
    have := tensBulk_set r i p
    simp only [List.set_cons_succ, tensBulk]
    omega
theorem nms_size (j : Nat) : (nmsL.getD j ⟨#[]⟩).size ≤ 40 := getD_size (L := nmsL) (m := 40) (by
  unfold nmsL
  simp only [List.all_cons, List.all_nil, Bool.and_true, Bool.and_eq_true, decide_eq_true_eq, timesB_size]
  decide) j
theorem spT_is (bs : List Nat) (now : Int) (t : TenD) (σ : CSt) (sw : Nat) : tenBulk (spT bs now t σ sw).1 ≤ 2 * tenBulk t + 50 ∧ (spT bs now t σ sw).2.k ≤ σ.k + 2 := by
  unfold spT
  split
  · have h1 := pickX_k bs σ 5
    have h2 := nms_size (pickX bs σ 5).1
    simp only [tenBulk]
    omega
  · split
    · have h1 := pickX_k bs σ 3
      simp only [tenBulk]
      omega
    · split
      · have h1 := pickX_k bs σ 4
        have h2 : (mtsL.getD (pickX bs σ 4).1 ⟨#[]⟩).size ≤ 2 := getD_size (L := mtsL) (m := 2) (by decide) _
        simp only [tenBulk, pairBulk_append, List.length_append, pairBulk, List.length_singleton]
        omega
      · split
        · simp only [tenBulk, pairBulk_append, List.length_append]
          omega
        · split
          · simp only [tenBulk, pairBulk, List.length_nil]
            omega
          · split
            · rename_i h
              split
              · have h1 := pickY_k bs σ t.sers.length
                have h2 := pairBulk_getD (pickY_lt bs σ h)
                have h3 := pairBulk_set t.sers (pickY bs σ t.sers.length).1 ⟨(t.sers.getD (pickY bs σ t.sers.length).1 dPair).s, now + 1⟩
                simp only [tenBulk, List.length_set] at h3 ⊢
                omega
              · split
                · have h1 := pickY_k bs σ t.sers.length
                  have h3 := pairBulk_set t.sers (pickY bs σ t.sers.length).1 ⟨⟨#[107]⟩, (t.sers.getD (pickY bs σ t.sers.length).1 dPair).n⟩
                  have h4 : (⟨#[107]⟩ : ByteArray).size = 1 := rfl
                  simp only [tenBulk, List.length_set, h4] at h3 ⊢
                  omega
                · have h1 := pickX_k bs σ 2
                  have h2 := pairBulk_getD h
                  have h3 := pairBulk_set t.sers 0 ⟨(t.sers.getD 0 dPair).s, now - 8 - (pickX bs σ 2).1⟩
                  simp only [tenBulk, List.length_set] at h3 ⊢
                  omega
            · simp only
              omega
theorem tenBulk_mem {ts : List TenD} {i : Nat} (h : i < ts.length) : tenBulk ts[i] ≤ tensBulk ts := by
  induction ts generalizing i with
  | nil => exact absurd h (by simp)
  | cons t r ih =>
    cases i with
    | zero => simp only [List.getElem_cons_zero, tensBulk]; omega
    | succ i =>
      have := ih (i := i) (by simpa using h)
      simp only [List.getElem_cons_succ, tensBulk]
      omega
theorem tenBulk_getD {ts : List TenD} {i : Nat} (h : i < ts.length) : tenBulk (ts.getD i dTen) ≤ tensBulk ts := by
  rw [List.getD_eq_getElem?_getD, List.getElem?_eq_getElem h]
  exact tenBulk_mem h
theorem spX_is (bs : List Nat) (now : Int) (ts : List TenD) (σ : CSt) (hb : ts.length + tensBulk ts ≤ 281200) : (spX bs now ts σ).2.1.length + tensBulk (spX bs now ts σ).2.1 ≤ 1000000 ∧ (spX bs now ts σ).2.2.k ≤ σ.k + 10 := by
  unfold spX
  split
  · rename_i h
    have h0 := pickX_k bs σ 6
    split
    · have h1 := pickX_k bs (pickX bs σ 6).2 3
      simp only
      omega
    · unfold spTs
      have h1 := pickY_k bs (pickX bs σ 6).2 ts.length
      have h2 := pickX_k bs (pickY bs (pickX bs σ 6).2 ts.length).2 8
      have h3 := spT_is bs now (ts.getD (pickY bs (pickX bs σ 6).2 ts.length).1 dTen) (pickX bs (pickY bs (pickX bs σ 6).2 ts.length).2 8).2 (pickX bs (pickY bs (pickX bs σ 6).2 ts.length).2 8).1
      have h4 := tenBulk_getD (pickY_lt bs (pickX bs σ 6).2 h)
      have h5 := tensBulk_set ts (pickY bs (pickX bs σ 6).2 ts.length).1 (spT bs now (ts.getD (pickY bs (pickX bs σ 6).2 ts.length).1 dTen) (pickX bs (pickY bs (pickX bs σ 6).2 ts.length).2 8).2 (pickX bs (pickY bs (pickX bs σ 6).2 ts.length).2 8).1).1
      simp only [List.length_set]
      omega
  · have h1 := pickX_k bs σ 3
    simp only
    omega
end Go.Proofs.YtnbkmmmlhlbfoaaGreatDoor
