import Derived.Test.YtnbkmmmlhlbfoaaGreatDoorJ09InsL
import Derived.Test.YtnbkmmmlhlbfoaaGreatDoorJ03INum
import Derived.Test.YtnbkmmmlhlbfoaaGreatDoorJ07DrwL
import Derived.Test.YtnbkmmmlhlbfoaaGreatDoorJ08DrwK
import Derived.Test.YtnbkmmmlhlbfoaaGreatDoorJ01DrawV
namespace Go.Proofs.YtnbkmmmlhlbfoaaGreatDoor
def allTo (f : Nat → Bool) : Nat → Bool
  | 0 => true
  | k + 1 => allTo f k && f k
theorem allTo_succ (f : Nat → Bool) (k : Nat) : allTo f (k + 1) = (allTo f k && f k) := rfl
theorem allTo_not {f : Nat → Bool} {k n : Nat} (h : f k = false) (hk : k < n) : allTo f n = false := by
  induction n with
  | zero => omega
  | succ n ih =>
    rw [allTo_succ]
    by_cases e : k = n
    · subst e; rw [h, Bool.and_false]
    · rw [ih (by omega), Bool.false_and]
theorem allTo_at {f : Nat → Bool} {k n : Nat} (h : allTo f n = true) (hk : k < n) : f k = true := by
  cases hf : f k with
  | true => rfl
  | false => rw [allTo_not hf hk] at h; cases h
def okT (c : UInt8) : Bool := (97 ≤ c && c ≤ 122) || (48 ≤ c && c ≤ 57) || c == 45
def tnameB (s : ByteArray) : Bool := decide (1 ≤ s.size) && decide (s.size ≤ 32) && s.data.toList.all okT
def mnameB (s : ByteArray) : Bool := !s.toList.isEmpty && decide (valV s = 0)
def metK (s : ByteArray) : ByteArray := metV (decV s).1
def keyOK (s : ByteArray) : Bool := !(metK s).toList.isEmpty
def idleB (t : TenD) : Bool := t.limit == -1 && t.mets.length == 0 && t.sers.length == 0
def prevB (ps : List PairD) (i : Nat) : Bool := match i with
  | 0 => true
  | j + 1 => match ps[j]?, ps[j + 1]? with
    | some p, some q => blt p.s q.s
    | _, _ => false
def metAt (ms : List PairD) (i : Nat) : Bool := match ms[i]? with
  | some m => prevB ms i && mnameB m.s && btwB m.n 0 1000000
  | none => false
def metsB (ms : List PairD) : Bool := allTo (metAt ms) ms.length
def serAt (win now : Int) (xs : List PairD) (i : Nat) : Bool := match xs[i]? with
  | some x => prevB xs i && keyOK x.s && btwB x.n 0 now && decide (now - x.n < win)
  | none => false
def sersB (win now : Int) (xs : List PairD) : Bool := allTo (serAt win now xs) xs.length
def prevT (ts : List TenD) (i : Nat) : Bool := match i with
  | 0 => true
  | j + 1 => match ts[j]?, ts[j + 1]? with
    | some p, some q => blt p.name q.name
    | _, _ => false
def tenB (win now : Int) (t : TenD) : Bool := tnameB t.name && btwB t.limit (-1) 1000000 && metsB t.mets && sersB win now t.sers && !idleB t
def tenAt (win now : Int) (ts : List TenD) (i : Nat) : Bool := match ts[i]? with
  | some t => prevT ts i && tenB win now t
  | none => false
def tensB (win now : Int) (ts : List TenD) : Bool := allTo (tenAt win now ts) ts.length
def stateB (c : CfgD) (now : Int) (ts : List TenD) : Bool := cfgB c && btwB now 0 1000000000000 && decide (ts.length ≤ 10000) && tensB c.w now ts
theorem prevB_at {ps : List PairD} {k : Nat} (hk : 0 < k) (hl : k < ps.length) : prevB ps k = blt (ps[k - 1]'(by omega)).s ps[k].s := by
  obtain ⟨j, rfl⟩ : ∃ j, k = j + 1 := ⟨k - 1, by omega⟩
  simp [prevB, List.getElem?_eq_getElem (show j < ps.length by omega), List.getElem?_eq_getElem hl]
theorem prevT_at {ps : List TenD} {k : Nat} (hk : 0 < k) (hl : k < ps.length) : prevT ps k = blt (ps[k - 1]'(by omega)).name ps[k].name := by
  obtain ⟨j, rfl⟩ : ∃ j, k = j + 1 := ⟨k - 1, by omega⟩
  simp [prevT, List.getElem?_eq_getElem (show j < ps.length by omega), List.getElem?_eq_getElem hl]
theorem metAt_eq {ms : List PairD} {k : Nat} (hl : k < ms.length) : metAt ms k = (prevB ms k && mnameB ms[k].s && btwB ms[k].n 0 1000000) := by simp [metAt, List.getElem?_eq_getElem hl]
theorem serAt_eq {win now : Int} {ms : List PairD} {k : Nat} (hl : k < ms.length) : serAt win now ms k = (prevB ms k && keyOK ms[k].s && btwB ms[k].n 0 now && decide (now - ms[k].n < win)) := by simp [serAt, List.getElem?_eq_getElem hl]
theorem tenAt_eq {win now : Int} {ts : List TenD} {k : Nat} (hl : k < ts.length) : tenAt win now ts k = (prevT ts k && tenB win now ts[k]) := by simp [tenAt, List.getElem?_eq_getElem hl]
theorem rise_steps {α : Type} {key : α → ByteArray} : ∀ (l : List α), (∀ k (h : k + 1 < l.length), blt (key (l[k]'(by omega))) (key l[k + 1]) = true) → RiseBy key l
  | [], _ => List.Pairwise.nil
  | [a], _ => List.pairwise_singleton ..
  | a :: b :: r, h => by
    have hr : RiseBy key (b :: r) := rise_steps (b :: r) fun k hk => h (k + 1) (by simp at hk ⊢; omega)
    have h0 : blt (key a) (key b) = true := h 0 (by simp)
    refine List.pairwise_cons.2 ⟨fun q hq => ?_, hr⟩
    rcases List.mem_cons.1 hq with rfl | hq
    · exact h0
    · exact blt_trans h0 (hr.head q hq)
theorem rise_take {α : Type} {key : α → ByteArray} {l : List α} (k : Nat) (h : RiseBy key l) : RiseBy key (l.take k) := List.Pairwise.sublist (List.take_sublist ..) h
theorem mets_rise {ms : List PairD} {n : Nat} (h : allTo (metAt ms) n = true) (hn : n ≤ ms.length) : RiseBy (·.s) (ms.take n) := by
  apply rise_steps
  intro k hk
  simp only [List.length_take] at hk
  have := allTo_at h (k := k + 1) (by omega)
  rw [metAt_eq (by omega), Bool.and_eq_true, Bool.and_eq_true] at this
  have h1 := this.1.1
  rw [prevB_at (by omega) (by omega)] at h1
  simpa using h1
theorem sers_rise {win now : Int} {ms : List PairD} {n : Nat} (h : allTo (serAt win now ms) n = true) (hn : n ≤ ms.length) : RiseBy (·.s) (ms.take n) := by
  apply rise_steps
  intro k hk
  simp only [List.length_take] at hk
  have := allTo_at h (k := k + 1) (by omega)
  rw [serAt_eq (by omega), Bool.and_eq_true, Bool.and_eq_true, Bool.and_eq_true] at this
  have h1 := this.1.1.1
  rw [prevB_at (by omega) (by omega)] at h1
  simpa using h1
theorem tens_rise {win now : Int} {ts : List TenD} {n : Nat} (h : allTo (tenAt win now ts) n = true) (hn : n ≤ ts.length) : RiseBy (·.name) (ts.take n) := by
  apply rise_steps
  intro k hk
  simp only [List.length_take] at hk
  have := allTo_at h (k := k + 1) (by omega)
  rw [tenAt_eq (by omega), Bool.and_eq_true] at this
  have h1 := this.1
  rw [prevT_at (by omega) (by omega)] at h1
  simpa using h1
theorem ins_take {α : Type} {key : α → ByteArray} {l : List α} {k : Nat} (hk : k < l.length) (h : RiseBy key (l.take (k + 1))) : insBy key l[k] (l.take k) = l.take (k + 1) ∧ getBy key (key l[k]) (l.take k) = none := by
  rw [List.take_succ_eq_append_getElem hk] at h ⊢
  have hb : ∀ p ∈ l.take k, blt (key p) (key l[k]) = true := fun p hp => (List.pairwise_append.1 h).2.2 p hp _ (List.mem_singleton.2 rfl)
  exact ⟨insBy_end hb, getBy_none_of fun p hp => blt_ne (hb p hp)⟩
end Go.Proofs.YtnbkmmmlhlbfoaaGreatDoor
namespace Go.Proofs.YtnbkmmmlhlbfoaaGreatDoor
def tenOf (ts : List TenD) (name : ByteArray) : TenD := (getBy (·.name) name ts).getD ⟨name, -1, [], []⟩
def metLim (ms : List PairD) (m : ByteArray) (d : Int) : Int := ms.foldl (fun d p => if p.s.toList == m.toList then p.n else d) d
theorem metLim_take (ms : List PairD) (m : ByteArray) (d : Int) (k : Nat) (h : k < ms.length) : metLim (ms.take (k + 1)) m d = if ms[k].s.toList == m.toList then ms[k].n else metLim (ms.take k) m d := by
  rw [List.take_succ_eq_append_getElem h, metLim, List.foldl_append]
  rfl
theorem metLim_none {ms : List PairD} {m : ByteArray} (h : ∀ p ∈ ms, p.s ≠ m) (d : Int) : metLim ms m d = d := by
  induction ms generalizing d with
  | nil => rfl
  | cons p r ih =>
    rw [metLim, List.foldl_cons, if_neg (by rw [same_not (h p (List.mem_cons_self ..))]; simp)]
    exact ih (fun q hq => h q (List.mem_cons_of_mem _ hq)) d
theorem metLim_by {ms : List PairD} (hr : RiseBy (·.s) ms) (m : ByteArray) (d : Int) : metLim ms m d = ((getBy (·.s) m ms).map (·.n)).getD d := by
  induction ms generalizing d with
  | nil => rfl
  | cons p r ih =>
    rw [metLim, List.foldl_cons, getBy_cons]
    by_cases e : p.s = m
    · rw [if_pos ((same_iff _ _).2 e), if_pos e]
      exact metLim_none (fun q hq e' => blt_ne (hr.head q hq) (e.trans e'.symm)) _
    · rw [if_neg (by rw [same_not e]; simp), if_neg e]
      exact ih hr.tail d
def countV (c : CfgD) (t : TenD) (m : ByteArray) : Int × Int :=
  if m.toList.isEmpty = true then ((t.sers.length : Nat), if t.limit < 0 then c.tl else t.limit) else ((cntM metK t.sers m : Nat), metLim t.mets m c.ml)
def countOfV (c : CfgD) (now : Int) (ts : List TenD) (tenant m : ByteArray) : Int × Int :=
  if (stateB c now ts && tnameB tenant && (m.toList.isEmpty || mnameB m)) = true then countV c (tenOf ts tenant) m else (-1, -1)
theorem cntM_take (l : List PairD) (m : ByteArray) (k : Nat) (h : k < l.length) : cntM metK (l.take (k + 1)) m = cntM metK (l.take k) m + if (metK l[k].s).toList == m.toList then 1 else 0 := by
  rw [List.take_succ_eq_append_getElem h, cntM, cntM, List.filter_append, List.length_append]
  congr 1
  cases hb : (metK l[k].s).toList == m.toList <;> simp [hb]
theorem getBy_drop {α : Type} {key : α → ByteArray} {l : List α} {k : ByteArray} : ∀ (n : Nat), (∀ j (_ : j < n) (h' : j < l.length), key l[j] ≠ k) → getBy key k l = getBy key k (l.drop n)
  | 0, _ => by simp
  | n + 1, h => by
    rw [getBy_drop n (fun j hj hj' => h j (by omega) hj')]
    by_cases hn : n < l.length
    · rw [List.drop_eq_getElem_cons hn, getBy_cons, if_neg (h n (by omega) hn)]
    · rw [List.drop_of_length_le (by omega), List.drop_of_length_le (by omega)]
end Go.Proofs.YtnbkmmmlhlbfoaaGreatDoor
namespace Go.Proofs.YtnbkmmmlhlbfoaaGreatDoor
def keptT (win now : Int) (t : TenD) : TenD := ⟨t.name, t.limit, t.mets, t.sers.filter fun p => decide (now - p.n < win)⟩
def keptTs (win now : Int) (ts : List TenD) : List TenD := (ts.map (keptT win now)).filter fun t => !idleB t
theorem tens_at {win now : Int} {ts : List TenD} (h : tensB win now ts = true) : ∀ t ∈ ts, tenB win now t = true := fun t ht => by
  obtain ⟨i, hi, rfl⟩ := List.getElem_of_mem ht
  have := allTo_at h hi
  rw [tenAt_eq hi, Bool.and_eq_true] at this
  exact this.2
theorem sers_at {win now : Int} {xs : List PairD} (h : sersB win now xs = true) : ∀ x ∈ xs, now - x.n < win ∧ 0 ≤ x.n ∧ x.n ≤ now := fun x hx => by
  obtain ⟨i, hi, rfl⟩ := List.getElem_of_mem hx
  have := allTo_at h hi
  rw [serAt_eq hi] at this
  simp only [Bool.and_eq_true, decide_eq_true_eq, btwB] at this
  exact ⟨this.2, this.1.2.1, this.1.2.2⟩
theorem ten_parts {win now : Int} {t : TenD} (h : tenB win now t = true) : tnameB t.name = true ∧ metsB t.mets = true ∧ sersB win now t.sers = true ∧ idleB t = false := by
  simp only [tenB, Bool.and_eq_true] at h
  obtain ⟨⟨⟨⟨h1, _⟩, h2⟩, h3⟩, h4⟩ := h
  exact ⟨h1, h2, h3, by simpa using h4⟩
theorem kept_same {win now : Int} {t : TenD} (h : ∀ x ∈ t.sers, now - x.n < win) : keptT win now t = t := by
  unfold keptT
  rw [List.filter_eq_self.2 fun x hx => decide_eq_true (h x hx)]
theorem keptTs_same {win now : Int} {ts : List TenD} (h : tensB win now ts = true) : keptTs win now ts = ts := by
  have h1 : ts.map (keptT win now) = ts := by
    have : ∀ t ∈ ts, keptT win now t = id t := fun t ht => kept_same fun x hx => (sers_at (ten_parts (tens_at h t ht)).2.2.1 x hx).1
    rw [List.map_congr_left this, List.map_id]
  unfold keptTs
  rw [h1]
  exact List.filter_eq_self.2 fun t ht => by rw [(ten_parts (tens_at h t ht)).2.2.2]; rfl
theorem keptTs_put {win now : Int} {ts : List TenD} (h : tensB win now ts = true) (hr : RiseBy (·.name) ts) {t : TenD} (ht : ∀ x ∈ t.sers, now - x.n < win) :
    keptTs win now (insBy (·.name) t ts) = if idleB t = true then delBy (·.name) t.name ts else insBy (·.name) t ts := by
  have hk : ∀ q ∈ insBy (·.name) t ts, keptT win now q = id q := fun q hq => by
    rcases insBy_mem hq with rfl | hq
    · exact kept_same ht
    · exact kept_same fun x hx => (sers_at (ten_parts (tens_at h q hq)).2.2.1 x hx).1
  have h1 : (insBy (·.name) t ts).map (keptT win now) = insBy (·.name) t ts := by rw [List.map_congr_left hk, List.map_id]
  have hni : ∀ q ∈ ts, idleB q = false := fun q hq => (ten_parts (tens_at h q hq)).2.2.2
  unfold keptTs
  rw [h1]
  by_cases hi : idleB t = true
  · rw [if_pos hi]
    clear h h1 hk ht
    induction ts with
    | nil => simp [insBy, hi, delBy]
    | cons p r ih =>
      have ihr := ih hr.tail (fun q hq => hni q (List.mem_cons_of_mem _ hq))
      have hp : idleB p = false := hni p (List.mem_cons_self ..)
      have hrest : (r.filter fun t => !idleB t) = r := List.filter_eq_self.2 fun q hq => by rw [hni q (List.mem_cons_of_mem _ hq)]; rfl
      rw [insBy]
      by_cases h2 : blt p.name t.name = true
      · rw [if_pos h2, List.filter_cons_of_pos (by rw [hp]; rfl), ihr]
        unfold delBy
        rw [List.filter_cons_of_pos (by rw [same_not (blt_ne h2)]; rfl)]
      · rw [if_neg h2]
        have hnone : ∀ q ∈ r, q.name ≠ t.name := fun q hq e => by
          have hb := hr.head q hq
          rw [e] at hb
          exact h2 hb
        have hdel : delBy (·.name) t.name r = r := List.filter_eq_self.2 fun q hq => by rw [same_not (hnone q hq)]; rfl
        by_cases h3 : p.name = t.name
        · rw [if_pos ((same_iff _ _).2 h3), List.filter_cons_of_neg (by simp [hi]), hrest]
          unfold delBy at hdel ⊢
          rw [List.filter_cons_of_neg (by simp [h3]), hdel]
        · rw [if_neg (by rw [same_not h3]; simp), List.filter_cons_of_neg (by simp [hi]), List.filter_cons_of_pos (by rw [hp]; rfl), hrest]
          unfold delBy at hdel ⊢
          rw [List.filter_cons_of_pos (by rw [same_not h3]; rfl), hdel]
  · rw [if_neg hi]
    refine List.filter_eq_self.2 fun q hq => ?_
    rcases insBy_mem hq with rfl | hq
    · simpa using hi
    · rw [hni q hq]; rfl
theorem insBy_length {α : Type} {key : α → ByteArray} {a : α} {l : List α} (hr : RiseBy key l) : (insBy key a l).length = if (getBy key (key a) l).isSome = true then l.length else l.length + 1 := by
  induction l with
  | nil => simp [insBy, getBy]
  | cons p r ih =>
    have ihr := ih hr.tail
    rw [insBy, getBy_cons]
    by_cases h2 : blt (key p) (key a) = true
    · rw [if_pos h2, if_neg (blt_ne h2), List.length_cons, ihr]
      split <;> simp
    · rw [if_neg h2]
      by_cases h3 : key p = key a
      · rw [if_pos ((same_iff _ _).2 h3), if_pos h3]; simp
      · have hnone : getBy key (key a) r = none := getBy_none_of fun q hq e => by
          have hb := hr.head q hq
          rw [e] at hb
          exact h2 hb
        rw [if_neg (by rw [same_not h3]; simp), if_neg h3, hnone]
        simp
def tickV (c : CfgD) (now : Int) (ts : List TenD) (by_ : Int) : Int × List TenD × Bool :=
  if stateB c now ts = false then (0, [], false) else if by_ < 1 ∨ 1000000000000 - now < by_ then (now, ts, false) else (now + by_, keptTs c.w (now + by_) ts, true)
def limT (t : TenD) (metric : ByteArray) (limit : Int) : TenD :=
  if metric.toList.isEmpty = true then ⟨t.name, limit, t.mets, t.sers⟩ else ⟨t.name, t.limit, if limit < 0 then delBy (·.s) metric t.mets else insBy (·.s) ⟨metric, limit⟩ t.mets, t.sers⟩
def setLimV (c : CfgD) (now : Int) (ts : List TenD) (tenant metric : ByteArray) (limit : Int) : Int × List TenD × Bool :=
  if stateB c now ts = false then (0, [], false)
  else if (tnameB tenant && (metric.toList.isEmpty || mnameB metric) && btwB limit (-1) 1000000) = false then (now, ts, false)
  else if 10000 < (keptTs c.w now (insBy (·.name) (limT (tenOf ts tenant) metric limit) ts)).length then (now, ts, false)
  else (now, keptTs c.w now (insBy (·.name) (limT (tenOf ts tenant) metric limit) ts), true)
end Go.Proofs.YtnbkmmmlhlbfoaaGreatDoor
namespace Go.Proofs.YtnbkmmmlhlbfoaaGreatDoor
def addT (t : TenD) (key : ByteArray) (now : Int) : TenD := ⟨t.name, t.limit, t.mets, insBy (·.s) ⟨key, now⟩ t.sers⟩
def admitV (c : CfgD) (now : Int) (ts : List TenD) (tenant key : ByteArray) : Int × List TenD × Nat :=
  if stateB c now ts = false then (0, [], 5)
  else if (tnameB tenant && keyOK key) = false then (now, ts, 5)
  else if (getBy (·.s) key (tenOf ts tenant).sers).isSome = true then (now, insBy (·.name) (addT (tenOf ts tenant) key now) ts, 1)
  else if (countV c (tenOf ts tenant) ByteArray.empty).2 ≤ (countV c (tenOf ts tenant) ByteArray.empty).1 ∨ (idleB (tenOf ts tenant) = true ∧ ts.length = 10000) then (now, ts, 3)
  else if (countV c (tenOf ts tenant) (metK key)).2 ≤ (countV c (tenOf ts tenant) (metK key)).1 then (now, ts, 4)
  else (now, insBy (·.name) (addT (tenOf ts tenant) key now) ts, 2)
theorem tenOf_in {ts : List TenD} {name : ByteArray} : (tenOf ts name ∈ ts ∧ (getBy (·.name) name ts).isSome = true) ∨ (tenOf ts name = ⟨name, -1, [], []⟩ ∧ getBy (·.name) name ts = none) := by
  unfold tenOf
  cases h : getBy (·.name) name ts with
  | none => exact Or.inr ⟨rfl, rfl⟩
  | some t => exact Or.inl ⟨(getBy_mem h).1, rfl⟩
theorem tenOf_name {ts : List TenD} {name : ByteArray} : (tenOf ts name).name = name := by
  unfold tenOf
  cases h : getBy (·.name) name ts with
  | none => rfl
  | some t => exact (getBy_mem h).2
theorem tenOf_idle {win now : Int} {ts : List TenD} (h : tensB win now ts = true) {name : ByteArray} : idleB (tenOf ts name) = !(getBy (·.name) name ts).isSome := by
  rcases tenOf_in (ts := ts) (name := name) with ⟨h1, h2⟩ | ⟨h1, h2⟩
  · rw [(ten_parts (tens_at h _ h1)).2.2.2, h2]; rfl
  · rw [h1, h2]; rfl
theorem tenOf_live {win now : Int} {ts : List TenD} (h : tensB win now ts = true) {name : ByteArray} : ∀ x ∈ (tenOf ts name).sers, now - x.n < win := by
  rcases tenOf_in (ts := ts) (name := name) with ⟨h1, _⟩ | ⟨h1, _⟩
  · exact fun x hx => (sers_at (ten_parts (tens_at h _ h1)).2.2.1 x hx).1
  · rw [h1]; exact fun x hx => by simp at hx
theorem insBy_ne_nil {α : Type} {key : α → ByteArray} {a : α} {l : List α} : (insBy key a l).length ≠ 0 := by
  cases l with
  | nil => simp [insBy]
  | cons p r =>
    rw [insBy]
    split
    · simp
    · split <;> simp
theorem addT_live {win now : Int} {t : TenD} {key : ByteArray} (hw : 1 ≤ win) (h : ∀ x ∈ t.sers, now - x.n < win) : ∀ x ∈ (addT t key now).sers, now - x.n < win := fun x hx => by
  rcases insBy_mem (show x ∈ insBy (·.s) ⟨key, now⟩ t.sers from hx) with rfl | hx
  · show now - now < win; omega
  · exact h x hx
theorem addT_idle {t : TenD} {key : ByteArray} {now : Int} : idleB (addT t key now) = false := by
  have : ((insBy (·.s) (⟨key, now⟩ : PairD) t.sers).length == 0) = false := by simpa using insBy_ne_nil
  simp [idleB, addT, this]
theorem keptTs_add {win now : Int} {ts : List TenD} (h : tensB win now ts = true) (hr : RiseBy (·.name) ts) (hw : 1 ≤ win) {tenant key : ByteArray} :
    keptTs win now (insBy (·.name) (addT (tenOf ts tenant) key now) ts) = insBy (·.name) (addT (tenOf ts tenant) key now) ts := by
  rw [keptTs_put h hr (addT_live hw (tenOf_live h)), addT_idle]
  rfl
theorem insBy_over {l : List PairD} (hr : RiseBy (·.s) l) {k : ByteArray} {n : Int} (h : (getBy (·.s) k l).isSome = true) : insBy (·.s) ⟨k, n⟩ l = l.map fun p => if p.s.toList == k.toList then ⟨p.s, n⟩ else p := by
  induction l with
  | nil => simp [getBy] at h
  | cons p r ih =>
    rw [getBy_cons] at h
    rw [insBy, List.map_cons]
    by_cases h1 : p.s = k
    · have hb : ¬ blt p.s k = true := fun hb => blt_ne hb h1
      have hrest : (r.map fun p => if p.s.toList == k.toList then (⟨p.s, n⟩ : PairD) else p) = r := by
        have : ∀ q ∈ r, (if q.s.toList == k.toList then (⟨q.s, n⟩ : PairD) else q) = id q := fun q hq => by
          rw [if_neg (by rw [same_not (fun e => blt_ne (hr.head q hq) (h1.trans e.symm))]; simp)]; rfl
        rw [List.map_congr_left this, List.map_id]
      rw [if_neg hb, if_pos ((same_iff _ _).2 h1), if_pos ((same_iff _ _).2 h1), hrest, h1]
    · rw [if_neg h1] at h
      have h2 : blt p.s k = true := by
        obtain ⟨q, hq⟩ := Option.isSome_iff_exists.1 h
        obtain ⟨hm, he⟩ := getBy_mem hq
        rw [← he]
        exact hr.head q hm
      rw [if_pos h2, if_neg (by rw [same_not h1]; simp), ih hr.tail h]
theorem insBy_cut {l : List PairD} {k : ByteArray} {n : Int} {j : Nat} (hj : j ≤ l.length) (h1 : ∀ i (h : i < l.length), i < j → blt l[i].s k = true) (h2 : ∀ h : j < l.length, blt l[j].s k = false) (h3 : getBy (·.s) k l = none) :
    insBy (·.s) ⟨k, n⟩ l = l.take j ++ ⟨k, n⟩ :: l.drop j := by
  induction l generalizing j with
  | nil => simp [insBy]
  | cons p r ih =>
    have hp : p.s ≠ k := getBy_none h3 p (List.mem_cons_self ..)
    rw [insBy]
    cases j with
    | zero =>
      have hb : blt p.s k = false := h2 (by simp)
      rw [if_neg (by rw [hb]; simp), if_neg (by rw [same_not hp]; simp)]
      rfl
    | succ j =>
      have hb : blt p.s k = true := h1 0 (by simp) (by omega)
      have h3' : getBy (·.s) k r = none := getBy_none_of fun q hq => getBy_none h3 q (List.mem_cons_of_mem _ hq)
      rw [if_pos hb, ih (j := j) (by simpa using hj) (fun i h hi => by have := h1 (i + 1) (by simpa using h) (by omega); simpa using this) (fun h => by have := h2 (by simpa using h); simpa using this) h3']
      rfl
end Go.Proofs.YtnbkmmmlhlbfoaaGreatDoor
namespace Go.Proofs.YtnbkmmmlhlbfoaaGreatDoor
def chgX (c : CfgD) (bs : List Nat) (x : Int × List TenD × CSt) : Int × List TenD × CSt :=
  if (pickX bs x.2.2 8).1 = 0 then
    ((tickV c x.1 x.2.1 (1 + (pickX bs (pickX bs x.2.2 8).2 3).1)).1, (tickV c x.1 x.2.1 (1 + (pickX bs (pickX bs x.2.2 8).2 3).1)).2.1, (pickX bs (pickX bs x.2.2 8).2 3).2)
  else if (pickX bs x.2.2 8).1 = 1 then
    ((setLimV c x.1 x.2.1 (tenantX bs (pickX bs x.2.2 8).2).1 (metricX bs (tenantX bs (pickX bs x.2.2 8).2).2).1 ((pickX bs (metricX bs (tenantX bs (pickX bs x.2.2 8).2).2).2 8).1 - 1)).1,
      (setLimV c x.1 x.2.1 (tenantX bs (pickX bs x.2.2 8).2).1 (metricX bs (tenantX bs (pickX bs x.2.2 8).2).2).1 ((pickX bs (metricX bs (tenantX bs (pickX bs x.2.2 8).2).2).2 8).1 - 1)).2.1,
      (pickX bs (metricX bs (tenantX bs (pickX bs x.2.2 8).2).2).2 8).2)
  else
    ((admitV c x.1 x.2.1 (tenantX bs (pickX bs x.2.2 8).2).1 (keyX bs (tenantX bs (pickX bs x.2.2 8).2).2).1).1,
      (admitV c x.1 x.2.1 (tenantX bs (pickX bs x.2.2 8).2).1 (keyX bs (tenantX bs (pickX bs x.2.2 8).2).2).1).2.1,
      (keyX bs (tenantX bs (pickX bs x.2.2 8).2).2).2)
def stK (c : CfgD) (bs : List Nat) (σ : CSt) : Nat → Int × List TenD × CSt
  | 0 => (0, [], σ)
  | k + 1 => chgX c bs (stK c bs σ k)
def stateX (c : CfgD) (bs : List Nat) (σ : CSt) : Int × List TenD × CSt := stK c bs (pickX bs σ 16).2 (4 + (pickX bs σ 16).1)
theorem chgX_k (c : CfgD) (bs : List Nat) (x : Int × List TenD × CSt) : (chgX c bs x).2.2.k ≤ x.2.2.k + 40 := by
  have h0 := pickX_k bs x.2.2 8
  unfold chgX
  split
  · have h1 := pickX_k bs (pickX bs x.2.2 8).2 3
    simp only
    omega
  · have h1 := pickX_k bs (pickX bs x.2.2 8).2 4
    split
    · have h2 := pickX_k bs (tenantX bs (pickX bs x.2.2 8).2).2 4
      have h3 := pickX_k bs (metricX bs (tenantX bs (pickX bs x.2.2 8).2).2).2 8
      simp only [metricX, tenantX] at h2 h3 ⊢
      omega
    · have h2 := (labelsX_is bs (tenantX bs (pickX bs x.2.2 8).2).2).2.2.2
      simp only [keyX, tenantX] at h2 ⊢
      omega
theorem stK_k (c : CfgD) (bs : List Nat) (σ : CSt) (k : Nat) : (stK c bs σ k).2.2.k ≤ σ.k + 40 * k := by
  induction k with
  | zero => exact Nat.le_refl _
  | succ k ih =>
    rw [stK]
    have := chgX_k c bs (stK c bs σ k)
    omega
theorem stateX_k (c : CfgD) (bs : List Nat) (σ : CSt) : (stateX c bs σ).2.2.k ≤ σ.k + 801 := by
  have h1 := pickX_k bs σ 16
  have h2 := pickX_lt bs σ (n := 16) (by omega)
  have h3 := stK_k c bs (pickX bs σ 16).2 (4 + (pickX bs σ 16).1)
  unfold stateX
  omega
end Go.Proofs.YtnbkmmmlhlbfoaaGreatDoor
namespace Go.Proofs.YtnbkmmmlhlbfoaaGreatDoor
def setL (ts : List TenD) (tenant metric : ByteArray) (limit : Int) : List TenD × Bool :=
  if (tnameB tenant && (metric.toList.isEmpty || mnameB metric) && btwB limit (-1) 1000000) = false then (ts, false)
  else if idleB (limT (tenOf ts tenant) metric limit) = true then (delBy (·.name) tenant ts, true)
  else if ((getBy (·.name) tenant ts).isNone && decide (10000 ≤ ts.length)) = true then (ts, false)
  else (insBy (·.name) (limT (tenOf ts tenant) metric limit) ts, true)
theorem limT_name (t : TenD) (metric : ByteArray) (limit : Int) : (limT t metric limit).name = t.name := by unfold limT; split <;> rfl
theorem limT_sers (t : TenD) (metric : ByteArray) (limit : Int) : (limT t metric limit).sers = t.sers := by unfold limT; split <;> rfl
theorem tens_of {c : CfgD} {now : Int} {ts : List TenD} (h : stateB c now ts = true) : cfgB c = true ∧ 0 ≤ now ∧ now ≤ 1000000000000 ∧ ts.length ≤ 10000 ∧ tensB c.w now ts = true := by
  simp only [stateB, Bool.and_eq_true, decide_eq_true_eq] at h
  obtain ⟨⟨⟨h1, h2⟩, h3⟩, h4⟩ := h
  have := btw_in h2
  exact ⟨h1, this.1, this.2, h3, h4⟩
theorem tens_up {win now : Int} {ts : List TenD} (h : tensB win now ts = true) : RiseBy (·.name) ts := by
  have := tens_rise (n := ts.length) h (Nat.le_refl _)
  rwa [List.take_length] at this
theorem setL_eq {c : CfgD} {now : Int} {ts : List TenD} (h : stateB c now ts = true) (tenant metric : ByteArray) (limit : Int) : setLimV c now ts tenant metric limit = (now, (setL ts tenant metric limit).1, (setL ts tenant metric limit).2) := by
  obtain ⟨_, _, _, hlen, ht⟩ := tens_of h
  have hr := tens_up ht
  unfold setLimV setL
  rw [if_neg (by rw [h]; simp)]
  by_cases h1 : (tnameB tenant && (metric.toList.isEmpty || mnameB metric) && btwB limit (-1) 1000000) = false
  · rw [if_pos h1, if_pos h1]
  · rw [if_neg h1, if_neg h1]
    have hnm : (limT (tenOf ts tenant) metric limit).name = tenant := by rw [limT_name, tenOf_name]
    have hlv : ∀ x ∈ (limT (tenOf ts tenant) metric limit).sers, now - x.n < c.w := by rw [limT_sers]; exact tenOf_live ht
    have hk := keptTs_put ht hr (t := limT (tenOf ts tenant) metric limit) hlv
    rw [hk, hnm]
    by_cases h2 : idleB (limT (tenOf ts tenant) metric limit) = true
    · have hd : (delBy (·.name) tenant ts).length ≤ ts.length := List.length_filter_le _ _
      rw [if_pos h2, if_pos h2, if_neg (by omega)]
    · have hil := insBy_length (a := limT (tenOf ts tenant) metric limit) hr
      simp only [hnm] at hil
      rw [if_neg h2, if_neg h2]
      cases hg : getBy (·.name) tenant ts with
      | some q =>
        rw [hg] at hil; simp only [Option.isSome_some, if_true] at hil
        rw [if_neg (by omega), if_neg (by simp)]
      | none =>
        rw [hg] at hil; simp only [Option.isSome_none, Bool.false_eq_true, if_false] at hil
        by_cases h3 : 10000 ≤ ts.length
        · rw [if_pos (by omega), if_pos (by simp [h3])]
        · rw [if_neg (by omega), if_neg (by simp [h3])]
theorem mem_ins {α : Type} {key : α → ByteArray} {a q : α} {l : List α} (hr : RiseBy key l) (h : q ∈ insBy key a l) : q = a ∨ (q ∈ l ∧ key q ≠ key a) := by
  induction l with
  | nil => exact Or.inl (by simpa [insBy] using h)
  | cons p r ih =>
    rw [insBy] at h
    by_cases h2 : blt (key p) (key a) = true
    · rw [if_pos h2] at h
      rcases List.mem_cons.1 h with h | h
      · exact Or.inr ⟨by rw [h]; exact List.mem_cons_self .., by rw [h]; exact blt_ne h2⟩
      · rcases ih hr.tail h with h | h
        · exact Or.inl h
        · exact Or.inr ⟨List.mem_cons_of_mem _ h.1, h.2⟩
    · rw [if_neg h2] at h
      have hnone : ∀ q ∈ r, key q ≠ key a := fun q hq e => by
        have hb := hr.head q hq
        rw [e] at hb
        exact h2 hb
      by_cases h3 : key p = key a
      · rw [if_pos ((same_iff _ _).2 h3)] at h
        rcases List.mem_cons.1 h with h | h
        · exact Or.inl h
        · exact Or.inr ⟨List.mem_cons_of_mem _ h, hnone q h⟩
      · rw [if_neg (by rw [same_not h3]; simp)] at h
        rcases List.mem_cons.1 h with h | h
        · exact Or.inl h
        · rcases List.mem_cons.1 h with h | h
          · exact Or.inr ⟨by rw [h]; exact List.mem_cons_self .., by rw [h]; exact h3⟩
          · exact Or.inr ⟨List.mem_cons_of_mem _ h, hnone q h⟩
theorem map_ins {α β : Type} {key : α → ByteArray} {a p : α} {l : List α} (f : α → β) (hr : RiseBy key l) (hp : p ∈ l) (hk : key p = key a) (hf : f p = f a) : (insBy key a l).map f = l.map f := by
  induction l with
  | nil => cases hp
  | cons q r ih =>
    rw [insBy]
    rcases List.mem_cons.1 hp with rfl | hp
    · rw [if_neg (by rw [hk, blt_irrefl]; simp), if_pos ((same_iff _ _).2 hk)]
      simp [hf]
    · have hb := hr.head p hp
      rw [hk] at hb
      rw [if_pos hb, List.map_cons, List.map_cons, ih hr.tail hp]
end Go.Proofs.YtnbkmmmlhlbfoaaGreatDoor
namespace Go.Proofs.YtnbkmmmlhlbfoaaGreatDoor
def admL (c : CfgD) (now : Int) (ts : List TenD) (tenant key : ByteArray) : List TenD × Nat :=
  if (tnameB tenant && keyOK key) = false then (ts, 5)
  else if (getBy (·.s) key (tenOf ts tenant).sers).isSome = true then (insBy (·.name) (addT (tenOf ts tenant) key now) ts, 1)
  else if (if (tenOf ts tenant).limit = -1 then c.tl else (tenOf ts tenant).limit) ≤ ((tenOf ts tenant).sers.length : Nat) ∨ ((getBy (·.name) tenant ts).isNone && decide (10000 ≤ ts.length)) = true then (ts, 3)
  else if metLim (tenOf ts tenant).mets (metK key) c.ml ≤ (cntM metK (tenOf ts tenant).sers (metK key) : Nat) then (ts, 4)
  else (insBy (·.name) (addT (tenOf ts tenant) key now) ts, 2)
theorem tenOf_lim {win now : Int} {ts : List TenD} (h : tensB win now ts = true) {name : ByteArray} : -1 ≤ (tenOf ts name).limit ∧ (tenOf ts name).limit ≤ 1000000 := by
  rcases tenOf_in (ts := ts) (name := name) with ⟨h1, _⟩ | ⟨h1, _⟩
  · have := tens_at h _ h1
    simp only [tenB, Bool.and_eq_true] at this
    exact btw_in this.1.1.1.2
  · rw [h1]; exact ⟨by simp, by simp⟩
theorem admL_eq {c : CfgD} {now : Int} {ts : List TenD} (h : stateB c now ts = true) (tenant key : ByteArray) : admitV c now ts tenant key = (now, (admL c now ts tenant key).1, (admL c now ts tenant key).2) := by
  obtain ⟨_, _, _, hlen, ht⟩ := tens_of h
  unfold admitV admL
  rw [if_neg (by rw [h]; simp)]
  by_cases h1 : (tnameB tenant && keyOK key) = false
  · rw [if_pos h1, if_pos h1]
  · rw [if_neg h1, if_neg h1]
    by_cases h2 : (getBy (·.s) key (tenOf ts tenant).sers).isSome = true
    · rw [if_pos h2, if_pos h2]
    · rw [if_neg h2, if_neg h2]
      have hk : (metK key).toList.isEmpty = false := by
        have : (tnameB tenant && keyOK key) = true := by simpa using h1
        simp only [Bool.and_eq_true, keyOK] at this
        simpa using this.2
      have hc1 : countV c (tenOf ts tenant) ByteArray.empty = ((((tenOf ts tenant).sers.length : Nat) : Int), if (tenOf ts tenant).limit = -1 then c.tl else (tenOf ts tenant).limit) := by
        unfold countV
        rw [if_pos (show ByteArray.empty.toList.isEmpty = true by rw [ByteArray.toList_eq]; rfl)]
        have := (tenOf_lim ht (name := tenant)).1
        by_cases hl : (tenOf ts tenant).limit = -1
        · rw [if_pos hl, if_pos (by omega)]
        · rw [if_neg hl, if_neg (by omega)]
      have hc2 : countV c (tenOf ts tenant) (metK key) = (((cntM metK (tenOf ts tenant).sers (metK key) : Nat) : Int), metLim (tenOf ts tenant).mets (metK key) c.ml) := by
        unfold countV
        rw [if_neg (by rw [hk]; simp)]
      have hid := tenOf_idle ht (name := tenant)
      rw [hc1, hc2]
      simp only
      have hiff : (idleB (tenOf ts tenant) = true ∧ ts.length = 10000) ↔ ((getBy (·.name) tenant ts).isNone && decide (10000 ≤ ts.length)) = true := by
        rw [hid, Bool.and_eq_true, decide_eq_true_eq]
        cases getBy (·.name) tenant ts with
        | none => simp; omega
        | some q => simp
      simp only [hiff]
      generalize (if (tenOf ts tenant).limit = -1 then c.tl else (tenOf ts tenant).limit) = LM
      split
      · rfl
      · split <;> rfl
theorem cntM_names {met : ByteArray → ByteArray} {l l' : List PairD} (h : l.map (·.s) = l'.map (·.s)) (m : ByteArray) : cntM met l m = cntM met l' m := by
  have : ∀ l : List PairD, cntM met l m = ((l.map (·.s)).filter fun s => (met s).toList == m.toList).length := fun l => by
    unfold cntM
    rw [List.filter_map, List.length_map]
    rfl
  rw [this, this, h]
end Go.Proofs.YtnbkmmmlhlbfoaaGreatDoor
namespace Go.Proofs.YtnbkmmmlhlbfoaaGreatDoor
def tickL (win now : Int) (ts : List TenD) (by_ : Int) : Int × List TenD × Bool := if by_ < 1 ∨ 1000000000000 - now < by_ then (now, ts, false) else (now + by_, keptTs win (now + by_) ts, true)
end Go.Proofs.YtnbkmmmlhlbfoaaGreatDoor
namespace Go.Proofs.YtnbkmmmlhlbfoaaGreatDoor
open Go.RowKit
structure RecD where
  kind : Int
  tenant : ByteArray
  text : ByteArray
  num : Int
end Go.Proofs.YtnbkmmmlhlbfoaaGreatDoor
