import Derived.Test.YtpajhkikcofhfaaGreatDoorJ04StaL
import Derived.Test.YtpajhkikcofhfaaGreatDoorProg
import Derived.Test.YtpajhkikcofhfaaGreatDoorJ01Own
import Derived.Test.YtpajhkikcofhfaaGreatDoorJ02LabB
import Derived.BigRegion
namespace Go.Proofs.YtpajhkikcofhfaaGreatDoor

def tenOf (ts : List TenD) (name : ByteArray) : TenD := (getBy (·.name) name ts).getD ⟨name, -1, [], []⟩
def metLim (ms : List PairD) (m : ByteArray) (d : Int) : Int := ms.foldl (fun d p => if p.s.toList == m.toList then p.n else d) d
theorem metLim_take (ms : List PairD) (m : ByteArray) (d : Int) (k : Nat) (h : k < ms.length) : metLim (ms.take (k + 1)) m d = if ms[k].s.toList == m.toList then ms[k].n else metLim (ms.take k) m d := by
  rw [List.take_succ_eq_append_getElem h, metLim, List.foldl_append]
  rfl
theorem metLim_none {ms : List PairD} {m : ByteArray} (h : ∀ p ∈ ms, p.s ≠ m) (d : Int) : metLim ms m d = d := by
  induction ms generalizing d with
  | nil => rfl
  | cons p r ih =>
    rw [metLim, List.foldl_cons, if_neg (by rw [same_not (h p (List.mem_cons_self ..))]; simp)]
    exact ih (fun q hq => h q (List.mem_cons_of_mem _ hq)) d
theorem metLim_by {ms : List PairD} (hr : RiseBy (·.s) ms) (m : ByteArray) (d : Int) : metLim ms m d = ((getBy (·.s) m ms).map (·.n)).getD d := by
  induction ms generalizing d with
  | nil => rfl
  | cons p r ih =>
    rw [metLim, List.foldl_cons, getBy_cons]
    by_cases e : p.s = m
    · rw [if_pos ((same_iff _ _).2 e), if_pos e]
      exact metLim_none (fun q hq e' => blt_ne (hr.head q hq) (e.trans e'.symm)) _
    · rw [if_neg (by rw [same_not e]; simp), if_neg e]
      exact ih hr.tail d
def countV (c : CfgD) (t : TenD) (m : ByteArray) : Int × Int :=
  if m.toList.isEmpty = true then ((t.sers.length : Nat), if t.limit < 0 then c.tl else t.limit) else ((cntM metK t.sers m : Nat), metLim t.mets m c.ml)
def countOfV (c : CfgD) (now : Int) (ts : List TenD) (tenant m : ByteArray) : Int × Int :=
  if (stateB c now ts && tnameB tenant && (m.toList.isEmpty || mnameB m)) = true then countV c (tenOf ts tenant) m else (-1, -1)
theorem cntM_take (l : List PairD) (m : ByteArray) (k : Nat) (h : k < l.length) : cntM metK (l.take (k + 1)) m = cntM metK (l.take k) m + if (metK l[k].s).toList == m.toList then 1 else 0 := by
  rw [List.take_succ_eq_append_getElem h, cntM, cntM, List.filter_append, List.length_append]
  congr 1
  cases hb : (metK l[k].s).toList == m.toList <;> simp [hb]
theorem getBy_drop {α : Type} {key : α → ByteArray} {l : List α} {k : ByteArray} : ∀ (n : Nat), (∀ j (_ : j < n) (h' : j < l.length), key l[j] ≠ k) → getBy key k l = getBy key k (l.drop n)
  | 0, _ => by simp
  | n + 1, h => by
    rw [getBy_drop n (fun j hj hj' => h j (by omega) hj')]
    by_cases hn : n < l.length
    · rw [List.drop_eq_getElem_cons hn, getBy_cons, if_neg (h n (by omega) hn)]
    · rw [List.drop_of_length_le (by omega), List.drop_of_length_le (by omega)]
end Go.Proofs.YtpajhkikcofhfaaGreatDoor

namespace Go.Proofs.YtpajhkikcofhfaaGreatDoor

/-- The tenant with the series that are active at now. -/
def keptT (win now : Int) (t : TenD) : TenD := ⟨t.name, t.limit, t.mets, t.sers.filter fun p => decide (now - p.n < win)⟩
/-- The tenants at now, idle ones left out. -/
def keptTs (win now : Int) (ts : List TenD) : List TenD := (ts.map (keptT win now)).filter fun t => !idleB t
theorem tens_at {win now : Int} {ts : List TenD} (h : tensB win now ts = true) : ∀ t ∈ ts, tenB win now t = true := fun t ht => by
  obtain ⟨i, hi, rfl⟩ := List.getElem_of_mem ht
  have := allTo_at h hi
  rw [tenAt_eq hi, Bool.and_eq_true] at this
  exact this.2
theorem sers_at {win now : Int} {xs : List PairD} (h : sersB win now xs = true) : ∀ x ∈ xs, now - x.n < win ∧ 0 ≤ x.n ∧ x.n ≤ now := fun x hx => by
  obtain ⟨i, hi, rfl⟩ := List.getElem_of_mem hx
  have := allTo_at h hi
  rw [serAt_eq hi] at this
  simp only [Bool.and_eq_true, decide_eq_true_eq, btwB] at this
  exact ⟨this.2, this.1.2.1, this.1.2.2⟩
theorem ten_parts {win now : Int} {t : TenD} (h : tenB win now t = true) : tnameB t.name = true ∧ metsB t.mets = true ∧ sersB win now t.sers = true ∧ idleB t = false := by
  simp only [tenB, Bool.and_eq_true] at h
  obtain ⟨⟨⟨⟨h1, _⟩, h2⟩, h3⟩, h4⟩ := h
  exact ⟨h1, h2, h3, by simpa using h4⟩
theorem kept_same {win now : Int} {t : TenD} (h : ∀ x ∈ t.sers, now - x.n < win) : keptT win now t = t := by
  unfold keptT
  rw [List.filter_eq_self.2 fun x hx => decide_eq_true (h x hx)]
theorem keptTs_same {win now : Int} {ts : List TenD} (h : tensB win now ts = true) : keptTs win now ts = ts := by
  have h1 : ts.map (keptT win now) = ts := by
    have : ∀ t ∈ ts, keptT win now t = id t := fun t ht => kept_same fun x hx => (sers_at (ten_parts (tens_at h t ht)).2.2.1 x hx).1
    rw [List.map_congr_left this, List.map_id]
  unfold keptTs
  rw [h1]
  exact List.filter_eq_self.2 fun t ht => by rw [(ten_parts (tens_at h t ht)).2.2.2]; rfl
/-- A state in which a tenant was put. -/
theorem keptTs_put {win now : Int} {ts : List TenD} (h : tensB win now ts = true) (hr : RiseBy (·.name) ts) {t : TenD} (ht : ∀ x ∈ t.sers, now - x.n < win) :
    keptTs win now (insBy (·.name) t ts) = if idleB t = true then delBy (·.name) t.name ts else insBy (·.name) t ts := by
  have hk : ∀ q ∈ insBy (·.name) t ts, keptT win now q = id q := fun q hq => by
    rcases insBy_mem hq with rfl | hq
    · exact kept_same ht
    · exact kept_same fun x hx => (sers_at (ten_parts (tens_at h q hq)).2.2.1 x hx).1
  have h1 : (insBy (·.name) t ts).map (keptT win now) = insBy (·.name) t ts := by rw [List.map_congr_left hk, List.map_id]
  have hni : ∀ q ∈ ts, idleB q = false := fun q hq => (ten_parts (tens_at h q hq)).2.2.2
  unfold keptTs
  rw [h1]
  by_cases hi : idleB t = true
  · rw [if_pos hi]
    clear h h1 hk ht
    induction ts with
    | nil => simp [insBy, hi, delBy]
    | cons p r ih =>
      have ihr := ih hr.tail (fun q hq => hni q (List.mem_cons_of_mem _ hq))
      have hp : idleB p = false := hni p (List.mem_cons_self ..)
      have hrest : (r.filter fun t => !idleB t) = r := List.filter_eq_self.2 fun q hq => by rw [hni q (List.mem_cons_of_mem _ hq)]; rfl
      rw [insBy]
      by_cases h2 : blt p.name t.name = true
      · rw [if_pos h2, List.filter_cons_of_pos (by rw [hp]; rfl), ihr]
        unfold delBy
        rw [List.filter_cons_of_pos (by rw [same_not (blt_ne h2)]; rfl)]
      · rw [if_neg h2]
        have hnone : ∀ q ∈ r, q.name ≠ t.name := fun q hq e => by
          have hb := hr.head q hq
          rw [e] at hb
          exact h2 hb
        have hdel : delBy (·.name) t.name r = r := List.filter_eq_self.2 fun q hq => by rw [same_not (hnone q hq)]; rfl
        by_cases h3 : p.name = t.name
        · rw [if_pos ((same_iff _ _).2 h3), List.filter_cons_of_neg (by simp [hi]), hrest]
          unfold delBy at hdel ⊢
          rw [List.filter_cons_of_neg (by simp [h3]), hdel]
        · rw [if_neg (by rw [same_not h3]; simp), List.filter_cons_of_neg (by simp [hi]), List.filter_cons_of_pos (by rw [hp]; rfl), hrest]
          unfold delBy at hdel ⊢
          rw [List.filter_cons_of_pos (by rw [same_not h3]; rfl), hdel]
  · rw [if_neg hi]
    refine List.filter_eq_self.2 fun q hq => ?_
    rcases insBy_mem hq with rfl | hq
    · simpa using hi
    · rw [hni q hq]; rfl
theorem insBy_length {α : Type} {key : α → ByteArray} {a : α} {l : List α} (hr : RiseBy key l) : (insBy key a l).length = if (getBy key (key a) l).isSome = true then l.length else l.length + 1 := by
  induction l with
  | nil => simp [insBy, getBy]
  | cons p r ih =>
    have ihr := ih hr.tail
    rw [insBy, getBy_cons]
    by_cases h2 : blt (key p) (key a) = true
    · rw [if_pos h2, if_neg (blt_ne h2), List.length_cons, ihr]
      split <;> simp
    · rw [if_neg h2]
      by_cases h3 : key p = key a
      · rw [if_pos ((same_iff _ _).2 h3), if_pos h3]; simp
      · have hnone : getBy key (key a) r = none := getBy_none_of fun q hq e => by
          have hb := hr.head q hq
          rw [e] at hb
          exact h2 hb
        rw [if_neg (by rw [same_not h3]; simp), if_neg h3, hnone]
        simp
/-- What Tick answers. -/
def tickV (c : CfgD) (now : Int) (ts : List TenD) (by_ : Int) : Int × List TenD × Bool :=
  if stateB c now ts = false then (0, [], false) else if by_ < 1 ∨ 1000000000000 - now < by_ then (now, ts, false) else (now + by_, keptTs c.w (now + by_) ts, true)
/-- A tenant with another limit. -/
def limT (t : TenD) (metric : ByteArray) (limit : Int) : TenD :=
  if metric.toList.isEmpty = true then ⟨t.name, limit, t.mets, t.sers⟩ else ⟨t.name, t.limit, if limit < 0 then delBy (·.s) metric t.mets else insBy (·.s) ⟨metric, limit⟩ t.mets, t.sers⟩
/-- What SetLimit answers. -/
def setLimV (c : CfgD) (now : Int) (ts : List TenD) (tenant metric : ByteArray) (limit : Int) : Int × List TenD × Bool :=
  if stateB c now ts = false then (0, [], false)
  else if (tnameB tenant && (metric.toList.isEmpty || mnameB metric) && btwB limit (-1) 1000000) = false then (now, ts, false)
  else if 10000 < (keptTs c.w now (insBy (·.name) (limT (tenOf ts tenant) metric limit) ts)).length then (now, ts, false)
  else (now, keptTs c.w now (insBy (·.name) (limT (tenOf ts tenant) metric limit) ts), true)
end Go.Proofs.YtpajhkikcofhfaaGreatDoor

namespace Go.Proofs.YtpajhkikcofhfaaGreatDoor

/-- A tenant with this series seen now. -/
def addT (t : TenD) (key : ByteArray) (now : Int) : TenD := ⟨t.name, t.limit, t.mets, insBy (·.s) ⟨key, now⟩ t.sers⟩
/-- What Admit answers. -/
def admitV (c : CfgD) (now : Int) (ts : List TenD) (tenant key : ByteArray) : Int × List TenD × Nat :=
  if stateB c now ts = false then (0, [], 5)
  else if (tnameB tenant && keyOK key) = false then (now, ts, 5)
  else if (getBy (·.s) key (tenOf ts tenant).sers).isSome = true then (now, insBy (·.name) (addT (tenOf ts tenant) key now) ts, 1)
  else if (countV c (tenOf ts tenant) ByteArray.empty).2 ≤ (countV c (tenOf ts tenant) ByteArray.empty).1 ∨ (idleB (tenOf ts tenant) = true ∧ ts.length = 10000) then (now, ts, 3)
  else if (countV c (tenOf ts tenant) (metK key)).2 ≤ (countV c (tenOf ts tenant) (metK key)).1 then (now, ts, 4)
  else (now, insBy (·.name) (addT (tenOf ts tenant) key now) ts, 2)
theorem tenOf_in {ts : List TenD} {name : ByteArray} : (tenOf ts name ∈ ts ∧ (getBy (·.name) name ts).isSome = true) ∨ (tenOf ts name = ⟨name, -1, [], []⟩ ∧ getBy (·.name) name ts = none) := by
  unfold tenOf
  cases h : getBy (·.name) name ts with
  | none => exact Or.inr ⟨rfl, rfl⟩
  | some t => exact Or.inl ⟨(getBy_mem h).1, rfl⟩
theorem tenOf_name {ts : List TenD} {name : ByteArray} : (tenOf ts name).name = name := by
  unfold tenOf
  cases h : getBy (·.name) name ts with
  | none => rfl
  | some t => exact (getBy_mem h).2
/-- In a state that is OK a tenant is idle only if it is not there. -/
theorem tenOf_idle {win now : Int} {ts : List TenD} (h : tensB win now ts = true) {name : ByteArray} : idleB (tenOf ts name) = !(getBy (·.name) name ts).isSome := by
  rcases tenOf_in (ts := ts) (name := name) with ⟨h1, h2⟩ | ⟨h1, h2⟩
  · rw [(ten_parts (tens_at h _ h1)).2.2.2, h2]; rfl
  · rw [h1, h2]; rfl
theorem tenOf_live {win now : Int} {ts : List TenD} (h : tensB win now ts = true) {name : ByteArray} : ∀ x ∈ (tenOf ts name).sers, now - x.n < win := by
  rcases tenOf_in (ts := ts) (name := name) with ⟨h1, _⟩ | ⟨h1, _⟩
  · exact fun x hx => (sers_at (ten_parts (tens_at h _ h1)).2.2.1 x hx).1
  · rw [h1]; exact fun x hx => by simp at hx
theorem insBy_ne_nil {α : Type} {key : α → ByteArray} {a : α} {l : List α} : (insBy key a l).length ≠ 0 := by
  cases l with
  | nil => simp [insBy]
  | cons p r =>
    rw [insBy]
    split
    · simp
    · split <;> simp
theorem addT_live {win now : Int} {t : TenD} {key : ByteArray} (hw : 1 ≤ win) (h : ∀ x ∈ t.sers, now - x.n < win) : ∀ x ∈ (addT t key now).sers, now - x.n < win := fun x hx => by
  rcases insBy_mem (show x ∈ insBy (·.s) ⟨key, now⟩ t.sers from hx) with rfl | hx
  · show now - now < win; omega
  · exact h x hx
theorem addT_idle {t : TenD} {key : ByteArray} {now : Int} : idleB (addT t key now) = false := by
  have : ((insBy (·.s) (⟨key, now⟩ : PairD) t.sers).length == 0) = false := by simpa using insBy_ne_nil
  simp [idleB, addT, this]
/-- A state in which a series was seen. -/
theorem keptTs_add {win now : Int} {ts : List TenD} (h : tensB win now ts = true) (hr : RiseBy (·.name) ts) (hw : 1 ≤ win) {tenant key : ByteArray} :
    keptTs win now (insBy (·.name) (addT (tenOf ts tenant) key now) ts) = insBy (·.name) (addT (tenOf ts tenant) key now) ts := by
  rw [keptTs_put h hr (addT_live hw (tenOf_live h)), addT_idle]
  rfl
/-- What is there is written over in its place. -/
theorem insBy_over {l : List PairD} (hr : RiseBy (·.s) l) {k : ByteArray} {n : Int} (h : (getBy (·.s) k l).isSome = true) : insBy (·.s) ⟨k, n⟩ l = l.map fun p => if p.s.toList == k.toList then ⟨p.s, n⟩ else p := by
  induction l with
  | nil => simp [getBy] at h
  | cons p r ih =>
    rw [getBy_cons] at h
    rw [insBy, List.map_cons]
    by_cases h1 : p.s = k
    · have hb : ¬ blt p.s k = true := fun hb => blt_ne hb h1
      have hrest : (r.map fun p => if p.s.toList == k.toList then (⟨p.s, n⟩ : PairD) else p) = r := by
        have : ∀ q ∈ r, (if q.s.toList == k.toList then (⟨q.s, n⟩ : PairD) else q) = id q := fun q hq => by
          rw [if_neg (by rw [same_not (fun e => blt_ne (hr.head q hq) (h1.trans e.symm))]; simp)]; rfl
        rw [List.map_congr_left this, List.map_id]
      rw [if_neg hb, if_pos ((same_iff _ _).2 h1), if_pos ((same_iff _ _).2 h1), hrest, h1]
    · rw [if_neg h1] at h
      have h2 : blt p.s k = true := by
        obtain ⟨q, hq⟩ := Option.isSome_iff_exists.1 h
        obtain ⟨hm, he⟩ := getBy_mem hq
        rw [← he]
        exact hr.head q hm
      rw [if_pos h2, if_neg (by rw [same_not h1]; simp), ih hr.tail h]
/-- What is not there is put in at its place. -/
theorem insBy_cut {l : List PairD} {k : ByteArray} {n : Int} {j : Nat} (hj : j ≤ l.length) (h1 : ∀ i (h : i < l.length), i < j → blt l[i].s k = true) (h2 : ∀ h : j < l.length, blt l[j].s k = false) (h3 : getBy (·.s) k l = none) :
    insBy (·.s) ⟨k, n⟩ l = l.take j ++ ⟨k, n⟩ :: l.drop j := by
  induction l generalizing j with
  | nil => simp [insBy]
  | cons p r ih =>
    have hp : p.s ≠ k := getBy_none h3 p (List.mem_cons_self ..)
    rw [insBy]
    cases j with
    | zero =>
      have hb : blt p.s k = false := h2 (by simp)
      rw [if_neg (by rw [hb]; simp), if_neg (by rw [same_not hp]; simp)]
      rfl
    | succ j =>
      have hb : blt p.s k = true := h1 0 (by simp) (by omega)
      have h3' : getBy (·.s) k r = none := getBy_none_of fun q hq => getBy_none h3 q (List.mem_cons_of_mem _ hq)
      rw [if_pos hb, ih (j := j) (by simpa using hj) (fun i h hi => by have := h1 (i + 1) (by simpa using h) (by omega); simpa using this) (fun h => by have := h2 (by simpa using h); simpa using this) h3']
      rfl
end Go.Proofs.YtpajhkikcofhfaaGreatDoor

namespace Go.Proofs.YtpajhkikcofhfaaGreatDoor
open Go.RowKit

theorem firstBad_nil : ∀ (ls : List LabD) (i : Nat), firstBad ls i = none ↔ ∀ l ∈ ls, labV l = 0
  | [], i => by simp [firstBad]
  | l :: r, i => by
    rw [firstBad]
    by_cases h : labV l = 0
    · rw [if_pos h, firstBad_nil r (i + 1)]
      simp [h]
    · rw [if_neg h]
      simp [h]
theorem firstBad_code : ∀ (ls : List LabD) (i c k : Nat), firstBad ls i = some (c, k) → c ≠ 0
  | [], i, c, k, h => by simp [firstBad] at h
  | l :: r, i, c, k, h => by
    rw [firstBad] at h
    by_cases hz : labV l = 0
    · rw [if_pos hz] at h; exact firstBad_code r _ c k h
    · rw [if_neg hz] at h
      simp only [Option.some.injEq, Prod.mk.injEq] at h
      omega
theorem firstTw_is : ∀ (r seen : List LabD) (i : Nat), NoTw (seen ++ r) → firstTw seen r i = none
  | [], _, _, _ => by simp [firstTw]
  | l :: r, seen, i, h => by
    rw [firstTw]
    have hn : ¬ seen.any (fun x => sameN x l) = true := by
      intro ha
      rw [List.any_eq_true] at ha
      obtain ⟨x, hx, e⟩ := ha
      unfold NoTw at h
      rw [List.pairwise_append] at h
      exact h.2.2 x hx l (by simp) ((sameN_iff _ _).1 e)
    rw [if_neg hn]
    exact firstTw_is r _ _ (by simpa using h)
theorem canon_fine {ls : List LabD} (h1 : ls.length ≤ 16) (h2 : ∀ l ∈ ls, labV l = 0) (h3 : NoTw ls) (h4 : metB ls = true) : canonR ls = (insAll [] ls, 0, 0) :=
  canon_ok (by omega) ((firstBad_nil ls 0).2 h2) (firstTw_is ls [] 0 (by simpa using h3)) h4
theorem canon_nil {ls : List LabD} (h : (canonR ls).2.1 = 0) : ls.length ≤ 16 ∧ (∀ l ∈ ls, labV l = 0) ∧ NoTw ls ∧ metB ls = true := by
  by_cases h16 : 16 < ls.length
  · rw [canon_many h16] at h; exact absurd h (by simp)
  · cases hb : firstBad ls 0 with
    | some p =>
      obtain ⟨c, i⟩ := p
      rw [canon_bad h16 hb] at h
      exact absurd h (firstBad_code ls 0 c i hb)
    | none =>
      cases ht : firstTw [] ls 0 with
      | some i => rw [canon_twice h16 hb ht] at h; exact absurd h (by simp)
      | none =>
        cases hm : metB ls with
        | false => rw [canon_met h16 hb ht hm] at h; exact absurd h (by simp)
        | true => exact ⟨by omega, (firstBad_nil ls 0).1 hb, noTw_of ls ht, rfl⟩
theorem noTw_perm {ls ls' : List LabD} (hp : ls'.Perm ls) (h : NoTw ls) : NoTw ls' := by
  unfold NoTw at *
  exact (hp.pairwise_iff (fun {x y} e => Ne.symm e)).2 h
/-- The order of the labels does not matter to their form. -/
theorem canon_perm {ls ls' : List LabD} (hp : ls'.Perm ls) (h : (canonR ls).2.1 = 0) : canonR ls' = canonR ls := by
  obtain ⟨h1, h2, h3, h4⟩ := canon_nil h
  have h3' := noTw_perm hp h3
  have h4' : metB ls' = true := by
    unfold metB at *
    rw [List.any_eq_true] at *
    obtain ⟨x, hx, e⟩ := h4
    exact ⟨x, hp.mem_iff.2 hx, e⟩
  rw [canon_fine h1 h2 h3 h4, canon_fine (by rw [hp.length_eq]; exact h1) (fun l hl => h2 l (hp.mem_iff.1 hl)) h3' h4']
  congr 1
  refine sorted_is h3 ?_ (insAll_sorted ls' [] List.Pairwise.nil)
  refine ((insAll_perm ls' []).trans (by rw [List.nil_append])).trans ?_
  exact hp.filter _
/-- A form is its own form. -/
theorem canon_idem {ls : List LabD} (h : (canonR ls).2.1 = 0) : canonR (canonR ls).1 = ((canonR ls).1, 0, 0) := by
  obtain ⟨h1, h2, h3, h4⟩ := canon_nil h
  rw [canon_fine h1 h2 h3 h4]
  simp only
  have hp : (insAll [] ls).Perm (keptL ls) := (insAll_perm ls []).trans (by rw [List.nil_append])
  have hm : ∀ l ∈ insAll [] ls, l ∈ ls ∧ isEmp l = false := fun l hl => by
    have := List.mem_filter.1 (hp.mem_iff.1 hl)
    exact ⟨this.1, by simpa using this.2⟩
  have h3' : NoTw (insAll [] ls) := noTw_perm hp (h3.sublist List.filter_sublist)
  have hk : keptL (insAll [] ls) = insAll [] ls := by
    unfold keptL
    rw [List.filter_eq_self]
    intro l hl
    rw [(hm l hl).2]; rfl
  have h4' : metB (insAll [] ls) = true := by
    unfold metB at *
    rw [List.any_eq_true] at *
    obtain ⟨x, hx, e⟩ := h4
    refine ⟨x, hp.mem_iff.2 (List.mem_filter.2 ⟨hx, ?_⟩), e⟩
    simp only [Bool.and_eq_true] at e
    exact e.1
  rw [canon_fine (by rw [hp.length_eq]; have := keptL_len ls; omega) (fun l hl => h2 l (hm l hl).1) h3' h4']
  congr 1
  exact (sorted_is h3' (by rw [hk]) (insAll_sorted ls [] List.Pairwise.nil)).symm
theorem form_can {ls : List LabD} (h : (canonR ls).2.1 = 0) : canB (canonR ls).1 = true := by
  unfold canB
  rw [canon_idem h]
  simp [sameLs_iff]
theorem form_key {ls : List LabD} (h : (canonR ls).2.1 = 0) : keyV (canonR ls).1 = keyB (canonR ls).1 ∧ decV (keyB (canonR ls).1) = ((canonR ls).1, true) := ⟨by unfold keyV; rw [if_pos (form_can h)], dec_full (form_can h)⟩
theorem key_inj {x y : List LabD} (hx : canB x = true) (hy : canB y = true) : keyB x = keyB y ↔ x = y := by
  constructor
  · intro e
    have h1 := dec_full hx
    rw [e, dec_full hy] at h1
    simp only [Prod.mk.injEq, and_true] at h1
    exact h1.symm
  · intro e; rw [e]
/-- Labels that have no form have the empty key. -/
theorem key_none {ls : List LabD} (h : (canonR ls).2.1 ≠ 0) : keyV ls = ByteArray.empty := by
  unfold keyV canB
  rw [if_neg]
  simp [h]
/-- The labels, turned. -/
theorem turn_perm (ls : List LabD) (k : Nat) : (ls.drop k ++ ls.take k).Perm ls := (List.perm_append_comm).trans (by rw [List.take_append_drop])
theorem turn_get (ls : List LabD) (k i : Nat) (hk : k < ls.length) (hi : i < ls.length) : (ls.drop k ++ ls.take k)[i]'(by simp; omega) = ls[(i + k) % ls.length]'(Nat.mod_lt _ (by omega)) := by
  by_cases h : i + k < ls.length
  · rw [List.getElem_append_left (by simp; omega)]
    simp only [List.getElem_drop]
    congr 1
    rw [Nat.mod_eq_of_lt h]
    omega
  · rw [List.getElem_append_right (by simp; omega)]
    simp only [List.length_drop, List.getElem_take]
    congr 1
    rw [Nat.mod_eq_sub_mod (by omega), Nat.mod_eq_of_lt (by omega)]
    omega
end Go.Proofs.YtpajhkikcofhfaaGreatDoor

namespace Go.Proofs.YtpajhkikcofhfaaGreatDoor

def acmeN : ByteArray := ⟨#[97, 99, 109, 101]⟩
def oneT (key : ByteArray) (l : Int) : TenD := ⟨acmeN, -1, [], [⟨key, l⟩]⟩
theorem empty_is : ByteArray.empty.toList.isEmpty = true := by simp
theorem acme_ok : tnameB acmeN = true := by decide
theorem state_none {c : CfgD} {now : Int} (hc : cfgB c = true) (h0 : 0 ≤ now) (h1 : now ≤ 1000000000000) : stateB c now [] = true := by
  simp [stateB, hc, tensB, allTo, btwB, h0, h1]
theorem state_one {c : CfgD} {now l : Int} {key : ByteArray} (hc : cfgB c = true) (hk : keyOK key = true) (h0 : 0 ≤ l) (h1 : l ≤ now) (h2 : now - l < c.w) (h3 : now ≤ 1000000000000) : stateB c now [oneT key l] = true := by
  have h4 : 0 ≤ now := by omega
  have h5 : tenB c.w now (oneT key l) = true := by
    simp [tenB, oneT, acme_ok, btwB, metsB, sersB, allTo, serAt, prevB, idleB, hk, h0, h1, h2]
  simp [stateB, hc, tensB, allTo, tenAt, prevT, btwB, h3, h4, h5]
theorem get_none {key : ByteArray} : getBy (fun t : TenD => t.name) key [] = none := rfl
theorem tenOf_nil {name : ByteArray} : tenOf [] name = ⟨name, -1, [], []⟩ := rfl
theorem tenOf_one {key : ByteArray} {l : Int} : tenOf [oneT key l] acmeN = oneT key l := by
  unfold tenOf
  rw [getBy_cons, if_pos (show (oneT key l).name = acmeN from rfl)]
  rfl
theorem admit_new {c : CfgD} {key : ByteArray} (hc : cfgB c = true) (ht : c.tl = 3) (hm : c.ml = 3) (hk : keyOK key = true) : admitV c 0 [] acmeN key = (0, [oneT key 0], 2) := by
  have hs := state_none (c := c) (now := 0) hc (by omega) (by omega)
  have hke : (metK key).toList.isEmpty = false := by simpa [keyOK] using hk
  unfold admitV
  rw [hs, if_neg (by simp), acme_ok, hk, if_neg (by simp), tenOf_nil, if_neg (by simp [getBy])]
  have h1 : countV c ⟨acmeN, -1, [], []⟩ ByteArray.empty = (0, 3) := by simp [countV, ht]
  have h2 : countV c ⟨acmeN, -1, [], []⟩ (metK key) = (0, 3) := by simp [countV, hm, hke, cntM, metLim]
  rw [h1, h2, if_neg (by simp), if_neg (by simp)]
  rfl
theorem admit_known {c : CfgD} {key : ByteArray} {now l : Int} (hc : cfgB c = true) (hk : keyOK key = true) (h0 : 0 ≤ l) (h1 : l ≤ now) (h2 : now - l < c.w) (h3 : now ≤ 1000000000000) : admitV c now [oneT key l] acmeN key = (now, [oneT key now], 1) := by
  have hs := state_one hc hk h0 h1 h2 h3
  have hg : getBy (fun p : PairD => p.s) key (oneT key l).sers = some ⟨key, l⟩ := by
    show getBy _ _ [_] = _
    rw [getBy_cons, if_pos rfl]
  have hi : ∀ (k : ByteArray) (x y : Int), insBy (fun p : PairD => p.s) ⟨k, x⟩ [⟨k, y⟩] = [⟨k, x⟩] := fun k x y => by
    rw [insBy, if_neg (fun h => blt_ne h rfl), if_pos ((same_iff _ _).2 rfl)]
  have hj : ∀ (x y : TenD), x.name = y.name → insBy (fun p : TenD => p.name) x [y] = [x] := fun x y e => by
    rw [insBy, if_neg (fun h => blt_ne h e.symm), if_pos ((same_iff _ _).2 e.symm)]
  unfold admitV
  rw [hs, if_neg (by simp), acme_ok, hk, if_neg (by simp), tenOf_one, hg, if_pos (by rfl), hj _ _ (by rfl)]
  unfold addT
  show (now, [(⟨acmeN, -1, [], insBy (fun p : PairD => p.s) ⟨key, now⟩ [⟨key, l⟩]⟩ : TenD)], 1) = _
  rw [hi]
  rfl
theorem tick_keep {c : CfgD} {key : ByteArray} {now l by_ : Int} (hc : cfgB c = true) (hk : keyOK key = true) (h0 : 0 ≤ l) (h1 : l ≤ now) (h2 : now - l < c.w) (h3 : now ≤ 1000000) (hb : 1 ≤ by_) (hb2 : by_ ≤ 1000000) (h4 : now + by_ - l < c.w) : tickV c now [oneT key l] by_ = (now + by_, [oneT key l], true) := by
  have hs := state_one hc hk h0 h1 h2 (by omega)
  unfold tickV
  rw [hs, if_neg (by simp), if_neg (by omega)]
  have : keptTs c.w (now + by_) [oneT key l] = [oneT key l] := by
    simp [keptTs, keptT, oneT, h4, idleB]
  rw [this]
theorem tick_gone {c : CfgD} {key : ByteArray} {now l by_ : Int} (hc : cfgB c = true) (hk : keyOK key = true) (h0 : 0 ≤ l) (h1 : l ≤ now) (h2 : now - l < c.w) (h3 : now ≤ 1000000) (hb : 1 ≤ by_) (hb2 : by_ ≤ 1000000) (h4 : c.w ≤ now + by_ - l) : tickV c now [oneT key l] by_ = (now + by_, [], true) := by
  have hs := state_one hc hk h0 h1 h2 (by omega)
  unfold tickV
  rw [hs, if_neg (by simp), if_neg (by omega)]
  have : keptTs c.w (now + by_) [oneT key l] = [] := by
    have h5 : ¬ (now + by_ - l < c.w) := by omega
    simp [keptTs, keptT, oneT, h5, idleB]
  rw [this]
theorem count_all {c : CfgD} {key : ByteArray} {now l : Int} (hc : cfgB c = true) (ht : c.tl = 3) (hk : keyOK key = true) (h0 : 0 ≤ l) (h1 : l ≤ now) (h2 : now - l < c.w) (h3 : now ≤ 1000000) : countOfV c now [oneT key l] acmeN ByteArray.empty = (1, 3) := by
  have hs := state_one hc hk h0 h1 h2 (by omega)
  unfold countOfV
  rw [hs, acme_ok, empty_is, if_pos (by rfl), tenOf_one]
  simp [countV, ht, oneT]
theorem count_none {c : CfgD} {now : Int} (hc : cfgB c = true) (ht : c.tl = 3) (h0 : 0 ≤ now) (h3 : now ≤ 1000000) : countOfV c now [] acmeN ByteArray.empty = (0, 3) := by
  have hs := state_none (c := c) (now := now) hc h0 (by omega)
  unfold countOfV
  rw [hs, acme_ok, empty_is, if_pos (by rfl), tenOf_nil]
  simp [countV, ht]
theorem count_met {c : CfgD} {key : ByteArray} {now l : Int} (hc : cfgB c = true) (hm : c.ml = 3) (hk : keyOK key = true) (hv : mnameB (metK key) = true) (h0 : 0 ≤ l) (h1 : l ≤ now) (h2 : now - l < c.w) (h3 : now ≤ 1000000) : countOfV c now [oneT key l] acmeN (metK key) = (1, 3) := by
  have hs := state_one hc hk h0 h1 h2 (by omega)
  have hke : (metK key).toList.isEmpty = false := by simpa [keyOK] using hk
  unfold countOfV
  rw [hs, acme_ok, hv, if_pos (by simp), tenOf_one]
  simp [countV, hm, hke, oneT, cntM, metLim]
/-- The metric of labels is empty or one of their values. -/
theorem metV_from : ∀ (ls : List LabD), metV ls = ByteArray.empty ∨ ∃ l ∈ ls, metV ls = l.value
  | [] => Or.inl rfl
  | p :: r => by
    rw [metV]
    by_cases hm : isMet p = true
    · rw [if_pos hm]; exact Or.inr ⟨p, List.mem_cons_self .., rfl⟩
    · rw [if_neg hm]
      rcases metV_from r with h | ⟨l, hl, he⟩
      · exact Or.inl h
      · exact Or.inr ⟨l, List.mem_cons_of_mem _ hl, he⟩
/-- The key of labels that are in order, and its metric. -/
theorem key_metric {ls : List LabD} (h : (canonR ls).2.1 = 0) : keyOK (keyB (canonR ls).1) = true ∧ mnameB (metK (keyB (canonR ls).1)) = true := by
  have hi := canon_idem h
  have h0 : (canonR (canonR ls).1).2.1 = 0 := by rw [hi]
  obtain ⟨_, h2, h3, h4⟩ := canon_nil h0
  have hd : metK (keyB (canonR ls).1) = metV (canonR ls).1 := by unfold metK; rw [(form_key h).2]
  have hne := metV_iff (canonR ls).1 h3
  rw [h4] at hne
  have hk : (metV (canonR ls).1).toList.isEmpty = false := by
    cases he : (metV (canonR ls).1).toList with
    | nil => rw [he] at hne; simp at hne
    | cons a b => rfl
  refine ⟨by unfold keyOK; rw [hd, hk]; rfl, ?_⟩
  unfold mnameB
  rw [hd, hk]
  rcases metV_from (canonR ls).1 with he | ⟨l, hl, he⟩
  · rw [he, empty_is] at hk; cases hk
  · have hv := h2 l hl
    unfold labV at hv
    split at hv
    · rw [he, hv]; rfl
    · cases hv
end Go.Proofs.YtpajhkikcofhfaaGreatDoor

namespace Go.Proofs.YtpajhkikcofhfaaGreatDoor

structure SgD where
  b : Nat
  t : Int
def hget (l : List SgD) (i : Nat) : SgD := l.getD i ⟨0, 0⟩
def swapL (l : List SgD) (i j : Nat) : List SgD := (l.set i (hget l j)).set j (hget l i)
theorem hget_eq {l : List SgD} {i : Nat} (h : i < l.length) : hget l i = l[i] := by simp [hget, List.getD, List.getElem?_eq_getElem h]
theorem swapL_length (l : List SgD) (i j : Nat) : (swapL l i j).length = l.length := by simp [swapL]
theorem hget_swap {l : List SgD} {i j : Nat} (hi : i < l.length) (hj : j < l.length) (k : Nat) : hget (swapL l i j) k = if k = j then hget l i else if k = i then hget l j else hget l k := by
  unfold swapL
  have e : ∀ (m : List SgD) (p : Nat) (x : SgD) (k : Nat), p < m.length → hget (m.set p x) k = if k = p then x else hget m k := fun m p x k hp => by
    by_cases h : k = p
    · subst h; simp [hget, List.getD, hp]
    · rw [if_neg h]; simp [hget, List.getD, Ne.symm h]
  rw [e _ _ _ _ (by simpa using hj), e _ _ _ _ hi]
theorem swapL_perm {l : List SgD} {i j : Nat} (hi : i < l.length) (hj : j < l.length) : (swapL l i j).Perm l := by
  unfold swapL
  rw [hget_eq hi, hget_eq hj]
  exact List.set_set_perm hi hj

/-- Each at least as late as the one above it. -/
def HeapOK (l : List SgD) : Prop := ∀ i, 0 < i → i < l.length → (hget l ((i - 1) / 2)).t ≤ (hget l i).t
/-- .. but perhaps the one at k, which is no later than what lies above it would ask of those below. -/
def HeapUp (l : List SgD) (k : Nat) : Prop := (∀ i, 0 < i → i < l.length → i ≠ k → (hget l ((i - 1) / 2)).t ≤ (hget l i).t) ∧ ∀ i, 0 < i → i < l.length → (i - 1) / 2 = k → 0 < k → (hget l ((k - 1) / 2)).t ≤ (hget l i).t
theorem HeapOK.push {l : List SgD} (h : HeapOK l) (x : SgD) : HeapUp (l ++ [x]) l.length := by
  have e : ∀ i, i < l.length → hget (l ++ [x]) i = hget l i := fun i hi => by simp [hget, List.getD, List.getElem?_append_left hi]
  refine ⟨fun i h0 hi hne => ?_, fun i h0 hi hp _ => ?_⟩
  · simp at hi
    rw [e i (by omega), e _ (by omega)]
    exact h i h0 (by omega)
  · simp at hi
    omega
theorem HeapUp.done {l : List SgD} {k : Nat} (h : HeapUp l k) (hk : k = 0 ∨ (hget l ((k - 1) / 2)).t ≤ (hget l k).t) : HeapOK l := by
  intro i h0 hi
  by_cases e : i = k
  · subst e
    rcases hk with hk | hk
    · omega
    · exact hk
  · exact h.1 i h0 hi e
theorem HeapUp.step {l : List SgD} {k : Nat} (h : HeapUp l k) (hk : k < l.length) (h0 : 0 < k) (hlt : (hget l k).t < (hget l ((k - 1) / 2)).t) : HeapUp (swapL l k ((k - 1) / 2)) ((k - 1) / 2) := by
  have hp : (k - 1) / 2 < l.length := by omega
  have hpk : (k - 1) / 2 ≠ k := by omega
  refine ⟨fun i hi0 hi hne => ?_, fun i hi0 hi hpi hp0 => ?_⟩
  · rw [swapL_length] at hi
    rw [hget_swap hk hp, hget_swap hk hp, if_neg hne]
    by_cases e1 : i = k
    · subst e1
      rw [if_pos rfl, if_pos rfl]; omega
    · rw [if_neg e1]
      by_cases e2 : (i - 1) / 2 = (k - 1) / 2
      · rw [if_pos e2]
        have := h.1 i hi0 hi e1
        rw [e2] at this; omega
      · rw [if_neg e2]
        by_cases e3 : (i - 1) / 2 = k
        · rw [if_pos e3]; exact h.2 i hi0 hi e3 h0
        · rw [if_neg e3]; exact h.1 i hi0 hi e1
  · rw [swapL_length] at hi
    rw [hget_swap hk hp, hget_swap hk hp, if_neg (by omega : ((k - 1) / 2 - 1) / 2 ≠ (k - 1) / 2), if_neg (by omega : ((k - 1) / 2 - 1) / 2 ≠ k), if_neg (by omega : i ≠ (k - 1) / 2)]
    have hg := h.1 ((k - 1) / 2) hp0 hp hpk
    by_cases e1 : i = k
    · rw [if_pos e1]; exact hg
    · rw [if_neg e1]
      have := h.1 i hi0 hi e1
      rw [hpi] at this; omega

/-- What sifting up from k makes of a list. -/
def siftUp (l : List SgD) : Nat → List SgD
  | 0 => l
  | k + 1 => if (hget l (k + 1)).t < (hget l (k / 2)).t then siftUp (swapL l (k + 1) (k / 2)) (k / 2) else l
theorem siftUp_step {l : List SgD} {k : Nat} (h0 : 0 < k) : siftUp l k = if (hget l k).t < (hget l ((k - 1) / 2)).t then siftUp (swapL l k ((k - 1) / 2)) ((k - 1) / 2) else l := by
  obtain ⟨j, rfl⟩ : ∃ j, k = j + 1 := ⟨k - 1, by omega⟩
  rw [siftUp, Nat.add_sub_cancel]
theorem siftUp_zero (l : List SgD) : siftUp l 0 = l := by rw [siftUp]
theorem siftUp_says : ∀ (k : Nat) (l : List SgD), k < l.length → HeapUp l k → HeapOK (siftUp l k) ∧ (siftUp l k).Perm l ∧ (siftUp l k).length = l.length
  | 0, l, _, h => by rw [siftUp_zero]; exact ⟨h.done (Or.inl rfl), List.Perm.refl _, rfl⟩
  | k + 1, l, hk, h => by
    rw [siftUp_step (by omega)]
    by_cases hlt : (hget l (k + 1)).t < (hget l ((k + 1 - 1) / 2)).t
    · rw [if_pos hlt]
      obtain ⟨a, b, c⟩ := siftUp_says ((k + 1 - 1) / 2) (swapL l (k + 1) ((k + 1 - 1) / 2)) (by rw [swapL_length]; omega) (h.step hk (by omega) hlt)
      exact ⟨a, b.trans (swapL_perm hk (by omega)), c.trans (swapL_length _ _ _)⟩
    · rw [if_neg hlt]
      exact ⟨h.done (Or.inr (by omega)), List.Perm.refl _, rfl⟩
def pushL (l : List SgD) (x : SgD) : List SgD := siftUp (l ++ [x]) l.length
theorem pushL_says {l : List SgD} (h : HeapOK l) (x : SgD) : HeapOK (pushL l x) ∧ (pushL l x).Perm (x :: l) ∧ (pushL l x).length = l.length + 1 := by
  obtain ⟨a, b, c⟩ := siftUp_says l.length (l ++ [x]) (by simp) (h.push x)
  exact ⟨a, b.trans (List.perm_append_singleton x l), by rw [pushL, c]; simp⟩
end Go.Proofs.YtpajhkikcofhfaaGreatDoor

namespace Go.Proofs.YtpajhkikcofhfaaGreatDoor
open Go.RowKit

/-- The cells of the sights hs, two each. -/
def SgAt (cur : Array Value) (hs : List SgD) : Prop := ∀ k, k < hs.length → cur[k * 2]? = some (.pointer (some ⟨(hget hs k).b, 0, none⟩)) ∧ cur[k * 2 + 1]? = some (.int .i64 (hget hs k).t)
/-- Block g is a row of cap sights, the first of them hs. -/
def HeapM (w : World) (g cap : Nat) (hs : List SgD) : Prop := ∃ cur, Blk w g cur 126 ∧ cur.size = cap * 2 ∧ hs.length ≤ cap ∧ cap ≤ maxLen ∧ SgAt cur hs
theorem HeapM.cells {w : World} {g cap k : Nat} {hs : List SgD} (h : HeapM w g cap hs) (hk : k < hs.length) :
    w.cell? ⟨g, k * 2, none⟩ = some (.pointer (some ⟨(hget hs k).b, 0, none⟩)) ∧ w.cell? ⟨g, k * 2 + 1, none⟩ = some (.int .i64 (hget hs k).t) ∧ w.frozen? ⟨g, k * 2, none⟩ = false ∧ w.frozen? ⟨g, k * 2 + 1, none⟩ = false := by
  obtain ⟨cur, hb, _, _, _, hc⟩ := h
  rw [hb.cell, hb.cell]
  exact ⟨(hc k hk).1, (hc k hk).2, hb.free _, hb.free _⟩
theorem HeapM.later {w w' : World} {g cap : Nat} {hs : List SgD} (h : HeapM w g cap hs) (hb : Below w.heap.size w w') : HeapM w' g cap hs := by
  obtain ⟨cur, h1, h2⟩ := h
  exact ⟨cur, h1.later hb, h2⟩
theorem HeapM.lt {w : World} {g cap : Nat} {hs : List SgD} (h : HeapM w g cap hs) : g < w.heap.size := by
  obtain ⟨cur, h1, h2⟩ := h
  exact lt_of_block h1
theorem But.drew {g : Nat} {a w : World} (h : But g a w) : But g a w.drew := ⟨h.os, h.tape, h.output, h.size, h.block⟩
/-- Two sights change places. -/
theorem HeapM.swap {w : World} {g cap i j : Nat} {hs : List SgD} (h : HeapM w g cap hs) (hi : i < hs.length) (hj : j < hs.length) :
    HeapM ((((w.setCell ⟨g, i * 2, none⟩ (.pointer (some ⟨(hget hs j).b, 0, none⟩))).setCell ⟨g, i * 2 + 1, none⟩ (.int .i64 (hget hs j).t)).setCell ⟨g, j * 2, none⟩ (.pointer (some ⟨(hget hs i).b, 0, none⟩))).setCell ⟨g, j * 2 + 1, none⟩ (.int .i64 (hget hs i).t)) g cap (swapL hs i j) := by
  obtain ⟨cur, h1, h2, h3, h4, h5⟩ := h
  refine ⟨_, (((h1.set _ _).set _ _).set _ _).set _ _, by simp [h2], by rw [swapL_length]; exact h3, h4, fun k hk => ?_⟩
  rw [swapL_length] at hk
  rw [hget_swap hi hj]
  by_cases e1 : k = j
  · subst e1
    rw [if_pos rfl]
    constructor <;> simp [Array.getElem?_setIfInBounds, h2] <;> omega
  · rw [if_neg e1]
    by_cases e2 : k = i
    · subst e2
      rw [if_pos rfl]
      constructor
      · rw [Array.getElem?_setIfInBounds_ne (by omega), Array.getElem?_setIfInBounds_ne (by omega), Array.getElem?_setIfInBounds_ne (by omega)]; simp [Array.getElem?_setIfInBounds, h2]; omega
      · rw [Array.getElem?_setIfInBounds_ne (by omega), Array.getElem?_setIfInBounds_ne (by omega)]; simp [Array.getElem?_setIfInBounds, h2]; omega
    · rw [if_neg e2]
      obtain ⟨c1, c2⟩ := h5 k hk
      constructor
      · rw [Array.getElem?_setIfInBounds_ne (by omega), Array.getElem?_setIfInBounds_ne (by omega), Array.getElem?_setIfInBounds_ne (by omega), Array.getElem?_setIfInBounds_ne (by omega)]; exact c1
      · rw [Array.getElem?_setIfInBounds_ne (by omega), Array.getElem?_setIfInBounds_ne (by omega), Array.getElem?_setIfInBounds_ne (by omega), Array.getElem?_setIfInBounds_ne (by omega)]; exact c2

set_option maxRecDepth 100000 in
set_option maxHeartbeats 4000000 in
theorem swap_any (x o g n cap i j : Nat) (hs : List SgD) (w : World) (hp : w.cell? ⟨x, o, none⟩ = some (.slice (some ⟨g, 0, none⟩) n cap)) (hn : n = hs.length) (hH : HeapM w g cap hs) (hi : i < n) (hj : j < n) :
    Calls Tryz.prog 79 #[.pointer (some ⟨x, o, none⟩), .int .i64 i, .int .i64 j] w fun e w' => e = .returned (.tuple #[]) ∧ HeapM w' g cap (swapL hs i j) ∧ But g w w' := by
  have HSW : Hid (HeapM ((((w.setCell ⟨g, i * 2, none⟩ (.pointer (some ⟨(hget hs j).b, 0, none⟩))).setCell ⟨g, i * 2 + 1, none⟩ (.int .i64 (hget hs j).t)).setCell ⟨g, j * 2, none⟩ (.pointer (some ⟨(hget hs i).b, 0, none⟩))).setCell ⟨g, j * 2 + 1, none⟩ (.int .i64 (hget hs i).t)) g cap (swapL hs i j)) := hH.swap (by omega) (by omega)
  obtain ⟨c0, c1, f0, f1⟩ := hH.cells (k := i) (by omega)
  obtain ⟨d0, d1, u0, u1⟩ := hH.cells (k := j) (by omega)
  have HE : ∀ (a b : Value), (∃ v, ((w.setCell ⟨g, i * 2, none⟩ a).setCell ⟨g, i * 2 + 1, none⟩ b).cell? ⟨g, j * 2, none⟩ = some v) ∧ (∃ v, ((w.setCell ⟨g, i * 2, none⟩ a).setCell ⟨g, i * 2 + 1, none⟩ b).cell? ⟨g, j * 2 + 1, none⟩ = some v) ∧
      ((w.setCell ⟨g, i * 2, none⟩ a).setCell ⟨g, i * 2 + 1, none⟩ b).frozen? ⟨g, j * 2, none⟩ = false ∧ ((w.setCell ⟨g, i * 2, none⟩ a).setCell ⟨g, i * 2 + 1, none⟩ b).frozen? ⟨g, j * 2 + 1, none⟩ = false := fun a b => by
    obtain ⟨cur, h1, h2, h3, _⟩ := hH
    have hB := (h1.set (i * 2) a).set (i * 2 + 1) b
    exact ⟨hB.there (by simp; omega), hB.there (by simp; omega), hB.free _, hB.free _⟩
  obtain ⟨⟨v0, e0⟩, ⟨v1, e1⟩, e2, e3⟩ := HE (.pointer (some ⟨(hget hs j).b, 0, none⟩)) (.int .i64 (hget hs j).t)
  clear hn hH HE
  generalize hget hs i = A at *
  generalize hget hs j = C at *
  generalize swapL hs i j = R at *
  clear hs
  go_enter Tryz.func79, Tryz.ntmps79
  go_wp2_with fail
  go_region
  go_wp2
  go_end0
  exact ⟨rfl, HSW.out, (((((But.refl g w).setCell _ _).setCell _ _).setCell _ _).setCell _ _).drew⟩
end Go.Proofs.YtpajhkikcofhfaaGreatDoor

