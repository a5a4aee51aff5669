import Derived.Test.YtojeemogabhaoaaGreatDoorJ29SCnt
namespace Go.Proofs.YtojeemogabhaoaaGreatDoor
def keptT (win now : Int) (t : TenD) : TenD := ⟨t.name, t.limit, t.mets, t.sers.filter fun p => decide (now - p.n < win)⟩
def keptTs (win now : Int) (ts : List TenD) : List TenD := (ts.map (keptT win now)).filter fun t => !idleB t
theorem tens_at {win now : Int} {ts : List TenD} (h : tensB win now ts = true) : ∀ t ∈ ts, tenB win now t = true := fun t ht => by
  obtain ⟨i, hi, rfl⟩ := List.getElem_of_mem ht
  have := allTo_at h hi
  rw [tenAt_eq hi, Bool.and_eq_true] at this
  exact this.2
theorem sers_at {win now : Int} {xs : List PairD} (h : sersB win now xs = true) : ∀ x ∈ xs, now - x.n < win ∧ 0 ≤ x.n ∧ x.n ≤ now := fun x hx => by
  obtain ⟨i, hi, rfl⟩ := List.getElem_of_mem hx
  have := allTo_at h hi
  rw [serAt_eq hi] at this
  simp only [Bool.and_eq_true, decide_eq_true_eq, btwB] at this
  exact ⟨this.2, this.1.2.1, this.1.2.2⟩
theorem ten_parts {win now : Int} {t : TenD} (h : tenB win now t = true) : tnameB t.name = true ∧ metsB t.mets = true ∧ sersB win now t.sers = true ∧ idleB t = false := by
  simp only [tenB, Bool.and_eq_true] at h
  obtain ⟨⟨⟨⟨h1, _⟩, h2⟩, h3⟩, h4⟩ := h
  exact ⟨h1, h2, h3, by simpa using h4⟩
theorem kept_same {win now : Int} {t : TenD} (h : ∀ x ∈ t.sers, now - x.n < win) : keptT win now t = t := by
  unfold keptT
  rw [List.filter_eq_self.2 fun x hx => decide_eq_true (h x hx)]
theorem keptTs_same {win now : Int} {ts : List TenD} (h : tensB win now ts = true) : keptTs win now ts = ts := by
  have h1 : ts.map (keptT win now) = ts := by
    have : ∀ t ∈ ts, keptT win now t = id t := fun t ht => kept_same fun x hx => (sers_at (ten_parts (tens_at h t ht)).2.2.1 x hx).1
    rw [List.map_congr_left this, List.map_id]
  unfold keptTs
  rw [h1]
  exact List.filter_eq_self.2 fun t ht => by rw [(ten_parts (tens_at h t ht)).2.2.2]; rfl
theorem keptTs_put {win now : Int} {ts : List TenD} (h : tensB win now ts = true) (hr : RiseBy (·.name) ts) {t : TenD} (ht : ∀ x ∈ t.sers, now - x.n < win) :
    keptTs win now (insBy (·.name) t ts) = if idleB t = true then delBy (·.name) t.name ts else insBy (·.name) t ts := by
  have hk : ∀ q ∈ insBy (·.name) t ts, keptT win now q = id q := fun q hq => by
    rcases insBy_mem hq with rfl | hq
    · exact kept_same ht
    · exact kept_same fun x hx => (sers_at (ten_parts (tens_at h q hq)).2.2.1 x hx).1
  have h1 : (insBy (·.name) t ts).map (keptT win now) = insBy (·.name) t ts := by rw [List.map_congr_left hk, List.map_id]
  have hni : ∀ q ∈ ts, idleB q = false := fun q hq => (ten_parts (tens_at h q hq)).2.2.2
  unfold keptTs
  rw [h1]
  by_cases hi : idleB t = true
  · rw [if_pos hi]
    clear h h1 hk ht
    induction ts with
    | nil => simp [insBy, hi, delBy]
    | cons p r ih =>
      have ihr := ih hr.tail (fun q hq => hni q (List.mem_cons_of_mem _ hq))
      have hp : idleB p = false := hni p (List.mem_cons_self ..)
      have hrest : (r.filter fun t => !idleB t) = r := List.filter_eq_self.2 fun q hq => by rw [hni q (List.mem_cons_of_mem _ hq)]; rfl
      rw [insBy]
      by_cases h2 : blt p.name t.name = true
      · rw [if_pos h2, List.filter_cons_of_pos (by rw [hp]; rfl), ihr]
        unfold delBy
        rw [List.filter_cons_of_pos (by rw [same_not (blt_ne h2)]; rfl)]
      · rw [if_neg h2]
        have hnone : ∀ q ∈ r, q.name ≠ t.name := fun q hq e => by
          have hb := hr.head q hq
          rw [e] at hb
          exact h2 hb
        have hdel : delBy (·.name) t.name r = r := List.filter_eq_self.2 fun q hq => by rw [same_not (hnone q hq)]; rfl
        by_cases h3 : p.name = t.name
        · rw [if_pos ((same_iff _ _).2 h3), List.filter_cons_of_neg (by simp [hi]), hrest]
          unfold delBy at hdel ⊢
          rw [List.filter_cons_of_neg (by simp [h3]), hdel]
        · rw [if_neg (by rw [same_not h3]; simp), List.filter_cons_of_neg (by simp [hi]), List.filter_cons_of_pos (by rw [hp]; rfl), hrest]
          unfold delBy at hdel ⊢
          rw [List.filter_cons_of_pos (by rw [same_not h3]; rfl), hdel]
  · rw [if_neg hi]
    refine List.filter_eq_self.2 fun q hq => ?_
    rcases insBy_mem hq with rfl | hq
    · simpa using hi
    · rw [hni q hq]; rfl
theorem insBy_length {α : Type} {key : α → ByteArray} {a : α} {l : List α} (hr : RiseBy key l) : (insBy key a l).length = if (getBy key (key a) l).isSome = true then l.length else l.length + 1 := by
  induction l with
  | nil => simp [insBy, getBy]
  | cons p r ih =>
    have ihr := ih hr.tail
    rw [insBy, getBy_cons]
    by_cases h2 : blt (key p) (key a) = true
    · rw [if_pos h2, if_neg (blt_ne h2), List.length_cons, ihr]
      split <;> simp
    · rw [if_neg h2]
      by_cases h3 : key p = key a
      · rw [if_pos ((same_iff _ _).2 h3), if_pos h3]; simp
      · have hnone : getBy key (key a) r = none := getBy_none_of fun q hq e => by
          have hb := hr.head q hq
          rw [e] at hb
          exact h2 hb
        rw [if_neg (by rw [same_not h3]; simp), if_neg h3, hnone]
        simp
def tickV (c : CfgD) (now : Int) (ts : List TenD) (by_ : Int) : Int × List TenD × Bool :=
  if stateB c now ts = false then (0, [], false) else if by_ < 1 ∨ 1000000000000 - now < by_ then (now, ts, false) else (now + by_, keptTs c.w (now + by_) ts, true)
def limT (t : TenD) (metric : ByteArray) (limit : Int) : TenD :=
  if metric.toList.isEmpty = true then ⟨t.name, limit, t.mets, t.sers⟩ else ⟨t.name, t.limit, if limit < 0 then delBy (·.s) metric t.mets else insBy (·.s) ⟨metric, limit⟩ t.mets, t.sers⟩
def setLimV (c : CfgD) (now : Int) (ts : List TenD) (tenant metric : ByteArray) (limit : Int) : Int × List TenD × Bool :=
  if stateB c now ts = false then (0, [], false)
  else if (tnameB tenant && (metric.toList.isEmpty || mnameB metric) && btwB limit (-1) 1000000) = false then (now, ts, false)
  else if 10000 < (keptTs c.w now (insBy (·.name) (limT (tenOf ts tenant) metric limit) ts)).length then (now, ts, false)
  else (now, keptTs c.w now (insBy (·.name) (limT (tenOf ts tenant) metric limit) ts), true)
end Go.Proofs.YtojeemogabhaoaaGreatDoor
namespace Go.Proofs.YtojeemogabhaoaaGreatDoor
def addT (t : TenD) (key : ByteArray) (now : Int) : TenD := ⟨t.name, t.limit, t.mets, insBy (·.s) ⟨key, now⟩ t.sers⟩
def admitV (c : CfgD) (now : Int) (ts : List TenD) (tenant key : ByteArray) : Int × List TenD × Nat :=
  if stateB c now ts = false then (0, [], 5)
  else if (tnameB tenant && keyOK key) = false then (now, ts, 5)
  else if (getBy (·.s) key (tenOf ts tenant).sers).isSome = true then (now, insBy (·.name) (addT (tenOf ts tenant) key now) ts, 1)
  else if (countV c (tenOf ts tenant) ByteArray.empty).2 ≤ (countV c (tenOf ts tenant) ByteArray.empty).1 ∨ (idleB (tenOf ts tenant) = true ∧ ts.length = 10000) then (now, ts, 3)
  else if (countV c (tenOf ts tenant) (metK key)).2 ≤ (countV c (tenOf ts tenant) (metK key)).1 then (now, ts, 4)
  else (now, insBy (·.name) (addT (tenOf ts tenant) key now) ts, 2)
theorem tenOf_in {ts : List TenD} {name : ByteArray} : (tenOf ts name ∈ ts ∧ (getBy (·.name) name ts).isSome = true) ∨ (tenOf ts name = ⟨name, -1, [], []⟩ ∧ getBy (·.name) name ts = none) := by
  unfold tenOf
  cases h : getBy (·.name) name ts with
  | none => exact Or.inr ⟨rfl, rfl⟩
  | some t => exact Or.inl ⟨(getBy_mem h).1, rfl⟩
theorem tenOf_name {ts : List TenD} {name : ByteArray} : (tenOf ts name).name = name := by
  unfold tenOf
  cases h : getBy (·.name) name ts with
  | none => rfl
  | some t => exact (getBy_mem h).2
theorem tenOf_idle {win now : Int} {ts : List TenD} (h : tensB win now ts = true) {name : ByteArray} : idleB (tenOf ts name) = !(getBy (·.name) name ts).isSome := by
  rcases tenOf_in (ts := ts) (name := name) with ⟨h1, h2⟩ | ⟨h1, h2⟩
  · rw [(ten_parts (tens_at h _ h1)).2.2.2, h2]; rfl
  · rw [h1, h2]; rfl
theorem tenOf_live {win now : Int} {ts : List TenD} (h : tensB win now ts = true) {name : ByteArray} : ∀ x ∈ (tenOf ts name).sers, now - x.n < win := by
  rcases tenOf_in (ts := ts) (name := name) with ⟨h1, _⟩ | ⟨h1, _⟩
  · exact fun x hx => (sers_at (ten_parts (tens_at h _ h1)).2.2.1 x hx).1
  · rw [h1]; exact fun x hx => by simp at hx
theorem insBy_ne_nil {α : Type} {key : α → ByteArray} {a : α} {l : List α} : (insBy key a l).length ≠ 0 := by
  cases l with
  | nil => simp [insBy]
  | cons p r =>
    rw [insBy]
    split
    · simp
    · split <;> simp
theorem addT_live {win now : Int} {t : TenD} {key : ByteArray} (hw : 1 ≤ win) (h : ∀ x ∈ t.sers, now - x.n < win) : ∀ x ∈ (addT t key now).sers, now - x.n < win := fun x hx => by
  rcases insBy_mem (show x ∈ insBy (·.s) ⟨key, now⟩ t.sers from hx) with rfl | hx
  · show now - now < win; omega
  · exact h x hx
theorem addT_idle {t : TenD} {key : ByteArray} {now : Int} : idleB (addT t key now) = false := by
  have : ((insBy (·.s) (⟨key, now⟩ : PairD) t.sers).length == 0) = false := by simpa using insBy_ne_nil
  simp [idleB, addT, this]
theorem keptTs_add {win now : Int} {ts : List TenD} (h : tensB win now ts = true) (hr : RiseBy (·.name) ts) (hw : 1 ≤ win) {tenant key : ByteArray} :
    keptTs win now (insBy (·.name) (addT (tenOf ts tenant) key now) ts) = insBy (·.name) (addT (tenOf ts tenant) key now) ts := by
  rw [keptTs_put h hr (addT_live hw (tenOf_live h)), addT_idle]
  rfl
theorem insBy_over {l : List PairD} (hr : RiseBy (·.s) l) {k : ByteArray} {n : Int} (h : (getBy (·.s) k l).isSome = true) : insBy (·.s) ⟨k, n⟩ l = l.map fun p => if p.s.toList == k.toList then ⟨p.s, n⟩ else p := by
  induction l with
  | nil => simp [getBy] at h
  | cons p r ih =>
    rw [getBy_cons] at h
    rw [insBy, List.map_cons]
    by_cases h1 : p.s = k
    · have hb : ¬ blt p.s k = true := fun hb => blt_ne hb h1
      have hrest : (r.map fun p => if p.s.toList == k.toList then (⟨p.s, n⟩ : PairD) else p) = r := by
        have : ∀ q ∈ r, (if q.s.toList == k.toList then (⟨q.s, n⟩ : PairD) else q) = id q := fun q hq => by
          rw [if_neg (by rw [same_not (fun e => blt_ne (hr.head q hq) (h1.trans e.symm))]; simp)]; rfl
        rw [List.map_congr_left this, List.map_id]
      rw [if_neg hb, if_pos ((same_iff _ _).2 h1), if_pos ((same_iff _ _).2 h1), hrest, h1]
    · rw [if_neg h1] at h
      have h2 : blt p.s k = true := by
        obtain ⟨q, hq⟩ := Option.isSome_iff_exists.1 h
        obtain ⟨hm, he⟩ := getBy_mem hq
        rw [← he]
        exact hr.head q hm
      rw [if_pos h2, if_neg (by rw [same_not h1]; simp), ih hr.tail h]
theorem insBy_cut {l : List PairD} {k : ByteArray} {n : Int} {j : Nat} (hj : j ≤ l.length) (h1 : ∀ i (h : i < l.length), i < j → blt l[i].s k = true) (h2 : ∀ h : j < l.length, blt l[j].s k = false) (h3 : getBy (·.s) k l = none) :
    insBy (·.s) ⟨k, n⟩ l = l.take j ++ ⟨k, n⟩ :: l.drop j := by
  induction l generalizing j with
  | nil => simp [insBy]
  | cons p r ih =>
    have hp : p.s ≠ k := getBy_none h3 p (List.mem_cons_self ..)
    rw [insBy]
    cases j with
    | zero =>
      have hb : blt p.s k = false := h2 (by simp)
      rw [if_neg (by rw [hb]; simp), if_neg (by rw [same_not hp]; simp)]
      rfl
    | succ j =>
      have hb : blt p.s k = true := h1 0 (by simp) (by omega)
      have h3' : getBy (·.s) k r = none := getBy_none_of fun q hq => getBy_none h3 q (List.mem_cons_of_mem _ hq)
      rw [if_pos hb, ih (j := j) (by simpa using hj) (fun i h hi => by have := h1 (i + 1) (by simpa using h) (by omega); simpa using this) (fun h => by have := h2 (by simpa using h); simpa using this) h3']
      rfl
end Go.Proofs.YtojeemogabhaoaaGreatDoor
namespace Go.Proofs.YtojeemogabhaoaaGreatDoor
def setL (ts : List TenD) (tenant metric : ByteArray) (limit : Int) : List TenD × Bool :=
  if (tnameB tenant && (metric.toList.isEmpty || mnameB metric) && btwB limit (-1) 1000000) = false then (ts, false)
  else if idleB (limT (tenOf ts tenant) metric limit) = true then (delBy (·.name) tenant ts, true)
  else if ((getBy (·.name) tenant ts).isNone && decide (10000 ≤ ts.length)) = true then (ts, false)
  else (insBy (·.name) (limT (tenOf ts tenant) metric limit) ts, true)
theorem limT_name (t : TenD) (metric : ByteArray) (limit : Int) : (limT t metric limit).name = t.name := by unfold limT; split <;> rfl
theorem limT_sers (t : TenD) (metric : ByteArray) (limit : Int) : (limT t metric limit).sers = t.sers := by unfold limT; split <;> rfl
theorem tens_of {c : CfgD} {now : Int} {ts : List TenD} (h : stateB c now ts = true) : cfgB c = true ∧ 0 ≤ now ∧ now ≤ 1000000000000 ∧ ts.length ≤ 10000 ∧ tensB c.w now ts = true := by
  simp only [stateB, Bool.and_eq_true, decide_eq_true_eq] at h
  obtain ⟨⟨⟨h1, h2⟩, h3⟩, h4⟩ := h
  have := btw_in h2
  exact ⟨h1, this.1, this.2, h3, h4⟩
theorem tens_up {win now : Int} {ts : List TenD} (h : tensB win now ts = true) : RiseBy (·.name) ts := by
  have := tens_rise (n := ts.length) h (Nat.le_refl _)
  rwa [List.take_length] at this
theorem setL_eq {c : CfgD} {now : Int} {ts : List TenD} (h : stateB c now ts = true) (tenant metric : ByteArray) (limit : Int) : setLimV c now ts tenant metric limit = (now, (setL ts tenant metric limit).1, (setL ts tenant metric limit).2) := by
  obtain ⟨_, _, _, hlen, ht⟩ := tens_of h
  have hr := tens_up ht
  unfold setLimV setL
  rw [if_neg (by rw [h]; simp)]
  by_cases h1 : (tnameB tenant && (metric.toList.isEmpty || mnameB metric) && btwB limit (-1) 1000000) = false
  · rw [if_pos h1, if_pos h1]
  · rw [if_neg h1, if_neg h1]
    have hnm : (limT (tenOf ts tenant) metric limit).name = tenant := by rw [limT_name, tenOf_name]
    have hlv : ∀ x ∈ (limT (tenOf ts tenant) metric limit).sers, now - x.n < c.w := by rw [limT_sers]; exact tenOf_live ht
    have hk := keptTs_put ht hr (t := limT (tenOf ts tenant) metric limit) hlv
    rw [hk, hnm]
    by_cases h2 : idleB (limT (tenOf ts tenant) metric limit) = true
    · have hd : (delBy (·.name) tenant ts).length ≤ ts.length := List.length_filter_le _ _
      rw [if_pos h2, if_pos h2, if_neg (by omega)]
    · have hil := insBy_length (a := limT (tenOf ts tenant) metric limit) hr
      simp only [hnm] at hil
      rw [if_neg h2, if_neg h2]
      cases hg : getBy (·.name) tenant ts with
      | some q =>
        rw [hg] at hil; simp only [Option.isSome_some, if_true] at hil
        rw [if_neg (by omega), if_neg (by simp)]
      | none =>
        rw [hg] at hil; simp only [Option.isSome_none, Bool.false_eq_true, if_false] at hil
        by_cases h3 : 10000 ≤ ts.length
        · rw [if_pos (by omega), if_pos (by simp [h3])]
        · rw [if_neg (by omega), if_neg (by simp [h3])]
theorem mem_ins {α : Type} {key : α → ByteArray} {a q : α} {l : List α} (hr : RiseBy key l) (h : q ∈ insBy key a l) : q = a ∨ (q ∈ l ∧ key q ≠ key a) := by
  induction l with
  | nil => exact Or.inl (by simpa [insBy] using h)
  | cons p r ih =>
    rw [insBy] at h
    by_cases h2 : blt (key p) (key a) = true
    · rw [if_pos h2] at h
      rcases List.mem_cons.1 h with h | h
      · exact Or.inr ⟨by rw [h]; exact List.mem_cons_self .., by rw [h]; exact blt_ne h2⟩
      · rcases ih hr.tail h with h | h
        · exact Or.inl h
        · exact Or.inr ⟨List.mem_cons_of_mem _ h.1, h.2⟩
    · rw [if_neg h2] at h
      have hnone : ∀ q ∈ r, key q ≠ key a := fun q hq e => by
        have hb := hr.head q hq
        rw [e] at hb
        exact h2 hb
      by_cases h3 : key p = key a
      · rw [if_pos ((same_iff _ _).2 h3)] at h
        rcases List.mem_cons.1 h with h | h
        · exact Or.inl h
        · exact Or.inr ⟨List.mem_cons_of_mem _ h, hnone q h⟩
      · rw [if_neg (by rw [same_not h3]; simp)] at h
        rcases List.mem_cons.1 h with h | h
        · exact Or.inl h
        · rcases List.mem_cons.1 h with h | h
          · exact Or.inr ⟨by rw [h]; exact List.mem_cons_self .., by rw [h]; exact h3⟩
          · exact Or.inr ⟨List.mem_cons_of_mem _ h, hnone q h⟩
theorem map_ins {α β : Type} {key : α → ByteArray} {a p : α} {l : List α} (f : α → β) (hr : RiseBy key l) (hp : p ∈ l) (hk : key p = key a) (hf : f p = f a) : (insBy key a l).map f = l.map f := by
  induction l with
  | nil => cases hp
  | cons q r ih =>
    rw [insBy]
    rcases List.mem_cons.1 hp with rfl | hp
    · rw [if_neg (by rw [hk, blt_irrefl]; simp), if_pos ((same_iff _ _).2 hk)]
      simp [hf]
    · have hb := hr.head p hp
      rw [hk] at hb
      rw [if_pos hb, List.map_cons, List.map_cons, ih hr.tail hp]
end Go.Proofs.YtojeemogabhaoaaGreatDoor
