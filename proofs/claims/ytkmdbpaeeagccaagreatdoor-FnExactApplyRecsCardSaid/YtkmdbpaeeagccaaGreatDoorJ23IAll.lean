import Derived.Test.YtkmdbpaeeagccaaGreatDoorJ19IAdm
import Derived.Test.YtkmdbpaeeagccaaGreatDoorJ20IDrp
import Derived.Test.YtkmdbpaeeagccaaGreatDoorJ22RecB
import Derived.Test.YtkmdbpaeeagccaaGreatDoorProg
import Derived.Test.YtkmdbpaeeagccaaGreatDoorJ02LabB
import Derived.Test.YtkmdbpaeeagccaaGreatDoorJ05HpP
namespace Go.Proofs.YtkmdbpaeeagccaaGreatDoor
theorem allTo_mk {f : Nat → Bool} {n : Nat} (h : ∀ k,k < n → f k = true) : allTo f n = true:=by
  induction n with
  | zero=>rfl
  | succ n ih=>rw [allTo_succ,ih fun k hk=>h k (by omega),h n (by omega)]; rfl
theorem rise_prevB {l : List PairD} (hr : RiseBy (·.s) l) {k : Nat} (hk : k < l.length) : prevB l k = true:=by
  cases k with
  | zero=>rfl
  | succ k =>
    rw [prevB_at (by omega) hk]
    have:=List.pairwise_iff_getElem.1 hr k (k + 1) (by omega) hk (by omega)
    simpa using this
theorem rise_prevT {l : List TenD} (hr : RiseBy (·.name) l) {k : Nat} (hk : k < l.length) : prevT l k = true:=by
  cases k with
  | zero=>rfl
  | succ k =>
    rw [prevT_at (by omega) hk]
    have:=List.pairwise_iff_getElem.1 hr k (k + 1) (by omega) hk (by omega)
    simpa using this
theorem metsB_mk {ms : List PairD} (hr : RiseBy (·.s) ms) (h : ∀ m ∈ ms,mnameB m.s = true ∧ btwB m.n 0 1000000 = true) : metsB ms = true:=allTo_mk fun k hk=>by
  rw [metAt_eq hk,rise_prevB hr hk,(h _ (List.getElem_mem hk)).1,(h _ (List.getElem_mem hk)).2]; rfl
theorem sersB_mk {win now : Int} {xs : List PairD} (hr : RiseBy (·.s) xs) (h : ∀ x ∈ xs,keyOK x.s = true ∧ btwB x.n 0 now = true ∧ now - x.n < win) : sersB win now xs = true:=allTo_mk fun k hk=>by
  obtain ⟨h1,h2,h3⟩:=h _ (List.getElem_mem hk)
  rw [serAt_eq hk,rise_prevB hr hk,h1,h2,decide_eq_true h3]; rfl
theorem tensB_mk {win now : Int} {ts : List TenD} (hr : RiseBy (·.name) ts) (h : ∀ t ∈ ts,tenB win now t = true) : tensB win now ts = true:=allTo_mk fun k hk=>by
  rw [tenAt_eq hk,rise_prevT hr hk,h _ (List.getElem_mem hk)]; rfl
theorem stateB_mk {c : CfgD} {now : Int} {ts : List TenD} (h1 : cfgB c = true) (h2 : btwB now 0 1000000000000 = true) (h3 : ts.length ≤ 10000) (h4 : tensB c.w now ts = true) : stateB c now ts = true:=by
  unfold stateB
  rw [h1,h2,h4,decide_eq_true h3]; rfl
theorem mets_at {ms : List PairD} (h : metsB ms = true) : (∀ m ∈ ms,mnameB m.s = true ∧ btwB m.n 0 1000000 = true) ∧ RiseBy (·.s) ms:=by
  refine ⟨fun m hm=>?_,?_⟩
  · obtain ⟨i,hi,rfl⟩:=List.getElem_of_mem hm
    have:=allTo_at h hi
    rw [metAt_eq hi] at this
    simp only [Bool.and_eq_true] at this
    exact ⟨this.1.2,this.2⟩
  · have:=mets_rise (n:=ms.length) h (Nat.le_refl _)
    rwa [List.take_length] at this
theorem sers_all {win now : Int} {xs : List PairD} (h : sersB win now xs = true) : (∀ x ∈ xs,keyOK x.s = true ∧ btwB x.n 0 now = true ∧ now - x.n < win) ∧ RiseBy (·.s) xs:=by
  refine ⟨fun x hx=>?_,?_⟩
  · obtain ⟨i,hi,rfl⟩:=List.getElem_of_mem hx
    have:=allTo_at h hi
    rw [serAt_eq hi] at this
    simp only [Bool.and_eq_true,decide_eq_true_eq] at this
    exact ⟨this.1.1.2,this.1.2,this.2⟩
  · have:=sers_rise (n:=xs.length) h (Nat.le_refl _)
    rwa [List.take_length] at this
theorem tenB_all {win now : Int} {t : TenD} (h : tenB win now t = true) : tnameB t.name = true ∧ btwB t.limit (-1) 1000000 = true ∧ metsB t.mets = true ∧ sersB win now t.sers = true ∧ idleB t = false:=by
  simp only [tenB,Bool.and_eq_true] at h
  obtain ⟨⟨⟨⟨h1,h5⟩,h2⟩,h3⟩,h4⟩:=h
  exact ⟨h1,h5,h2,h3,by simpa using h4⟩
theorem tenB_mk {win now : Int} {t : TenD} (h1 : tnameB t.name = true) (h2 : btwB t.limit (-1) 1000000 = true) (h3 : metsB t.mets = true) (h4 : sersB win now t.sers = true) (h5 : idleB t = false) : tenB win now t = true:=by
  unfold tenB
  rw [h1,h2,h3,h4,h5]; rfl
theorem btw_mk {n a b : Int} (h1 : a ≤ n) (h2 : n ≤ b) : btwB n a b = true:=by
  unfold btwB
  rw [decide_eq_true h1,decide_eq_true h2]; rfl
theorem win_one {c : CfgD} (h : cfgB c = true) : 1 ≤ c.w ∧ c.w ≤ 1000000000:=by
  simp only [cfgB,Bool.and_eq_true] at h
  exact btw_in h.1.1.1.1.1
theorem tenOf_parts {win now : Int} {ts : List TenD} (h : tensB win now ts = true) {name : ByteArray} : btwB (tenOf ts name).limit (-1) 1000000 = true ∧ metsB (tenOf ts name).mets = true ∧ sersB win now (tenOf ts name).sers = true:=by
  rcases tenOf_in (ts:=ts) (name:=name) with ⟨h1,_⟩ | ⟨h1,_⟩
  · obtain ⟨_,h2,h3,h4,_⟩:=tenB_all (tens_at h _ h1)
    exact ⟨h2,h3,h4⟩
  · rw [h1]; exact ⟨rfl,rfl,rfl⟩
theorem ins_len {ts : List TenD} {t : TenD} (hr : RiseBy (·.name) ts) (hl : ts.length ≤ 10000) (h : ((getBy (·.name) t.name ts).isNone && decide (10000 ≤ ts.length)) = false) : (insBy (·.name) t ts).length ≤ 10000:=by
  have hi:=insBy_length (a:=t) hr
  cases hg : getBy (·.name) t.name ts with
  | some q=>simp only [hg,Option.isSome_some,if_true] at hi; omega
  | none =>
    rw [hg] at h
    simp only [hg,Option.isSome_none,Bool.false_eq_true,if_false] at hi
    simp only [Option.isNone_none,Bool.true_and,decide_eq_false_iff_not] at h
    omega
theorem ins_tens {win now : Int} {ts : List TenD} {t : TenD} (h : tensB win now ts = true) (ht : tenB win now t = true) : tensB win now (insBy (·.name) t ts) = true :=
  tensB_mk (insBy_rise (tens_up h)) fun q hq=>by
    rcases insBy_mem hq with rfl | hq
    · exact ht
    · exact tens_at h q hq
theorem addT_ok {c : CfgD} {now : Int} {ts : List TenD} (hst : stateB c now ts = true) {tenant key : ByteArray} (hn : (tnameB tenant && keyOK key) = true) : tenB c.w now (addT (tenOf ts tenant) key now) = true:=by
  obtain ⟨hc,h0,h1,hl,ht⟩:=tens_of hst
  obtain ⟨p1,p2,p3⟩:=tenOf_parts ht (name:=tenant)
  obtain ⟨q1,q2⟩:=sers_all p3
  rw [Bool.and_eq_true] at hn
  refine tenB_mk (by show tnameB (tenOf ts tenant).name = true; rw [tenOf_name]; exact hn.1) p1 p2 ?_ addT_idle
  refine sersB_mk (insBy_rise q2) fun x hx=>?_
  rcases insBy_mem (show x ∈ insBy (·.s) ⟨key,now⟩ (tenOf ts tenant).sers from hx) with rfl | hx
  · exact ⟨hn.2,btw_mk h0 (Int.le_refl _),by have:=(win_one hc).1; show now - now < _; omega⟩
  · exact q1 x hx
theorem admL_ok {c : CfgD} {now : Int} {ts : List TenD} (hst : stateB c now ts = true) {tenant key : ByteArray} (hv : (admL c now ts tenant key).2 = 1 ∨ (admL c now ts tenant key).2 = 2) : stateB c now (admL c now ts tenant key).1 = true:=by
  obtain ⟨hc,h0,h1,hl,ht⟩:=tens_of hst
  have hb : btwB now 0 1000000000000 = true:=btw_mk h0 h1
  have hr:=tens_up ht
  have hnm : (addT (tenOf ts tenant) key now).name = tenant:=tenOf_name
  unfold admL at hv ⊢
  by_cases e1 : (tnameB tenant && keyOK key) = false
  · rw [if_pos e1] at hv; omega
  rw [if_neg e1] at hv ⊢
  have e1' : (tnameB tenant && keyOK key) = true:=by simpa using e1
  by_cases e2 : (getBy (·.s) key (tenOf ts tenant).sers).isSome = true
  · rw [if_pos e2]
    refine stateB_mk hc hb (ins_len hr hl ?_) (ins_tens ht (addT_ok hst e1'))
    rw [hnm]
    rcases tenOf_in (ts:=ts) (name:=tenant) with ⟨_,hs⟩ | ⟨e,_⟩
    · cases hg : getBy (·.name) tenant ts with
      | none=>rw [hg] at hs; cases hs
      | some q=>rfl
    · rw [e] at e2; cases e2
  rw [if_neg e2] at hv ⊢
  by_cases e3 : (if (tenOf ts tenant).limit = -1 then c.tl else (tenOf ts tenant).limit) ≤ ((tenOf ts tenant).sers.length : Nat) ∨ ((getBy (·.name) tenant ts).isNone && decide (10000 ≤ ts.length)) = true
  · rw [if_pos e3] at hv; omega
  rw [if_neg e3] at hv ⊢
  by_cases e4 : metLim (tenOf ts tenant).mets (metK key) c.ml ≤ (cntM metK (tenOf ts tenant).sers (metK key) : Nat)
  · rw [if_pos e4] at hv; omega
  rw [if_neg e4]
  refine stateB_mk hc hb (ins_len hr hl ?_) (ins_tens ht (addT_ok hst e1'))
  rw [hnm]
  cases hd : ((getBy (·.name) tenant ts).isNone && decide (10000 ≤ ts.length)) with
  | false=>rfl
  | true=>exact absurd (Or.inr hd) e3
theorem setL_ok {c : CfgD} {now : Int} {ts : List TenD} (hst : stateB c now ts = true) {tenant metric : ByteArray} {limit : Int} : stateB c now (setL ts tenant metric limit).1 = true:=by
  obtain ⟨hc,h0,h1,hl,ht⟩:=tens_of hst
  have hb : btwB now 0 1000000000000 = true:=btw_mk h0 h1
  have hr:=tens_up ht
  obtain ⟨p1,p2,p3⟩:=tenOf_parts ht (name:=tenant)
  obtain ⟨q1,q2⟩:=mets_at p2
  unfold setL
  by_cases e1 : (tnameB tenant && (metric.toList.isEmpty || mnameB metric) && btwB limit (-1) 1000000) = false
  · rw [if_pos e1]; exact hst
  rw [if_neg e1]
  have e1' : (tnameB tenant && (metric.toList.isEmpty || mnameB metric) && btwB limit (-1) 1000000) = true:=(Bool.not_eq_false _).mp e1
  simp only [Bool.and_eq_true] at e1'
  by_cases e2 : idleB (limT (tenOf ts tenant) metric limit) = true
  · rw [if_pos e2]
    refine stateB_mk hc hb (Nat.le_trans (List.length_filter_le _ _) hl) (tensB_mk (delBy_rise hr) fun t ht'=>tens_at ht t (mem_delBy.1 ht').1)
  rw [if_neg e2]
  by_cases e3 : ((getBy (·.name) tenant ts).isNone && decide (10000 ≤ ts.length)) = true
  · rw [if_pos e3]; exact hst
  rw [if_neg e3]
  have hnm : (limT (tenOf ts tenant) metric limit).name = tenant:=by rw [limT_name,tenOf_name]
  refine stateB_mk hc hb (ins_len hr hl (by rw [hnm]; simpa using e3)) (ins_tens ht ?_)
  refine tenB_mk (by rw [hnm]; exact e1'.1.1) ?_ ?_ (by rw [limT_sers]; exact p3) (by simpa using e2)
  · unfold limT
    split
    · exact e1'.2
    · exact p1
  · unfold limT
    split
    · exact p2
    · rename_i hme
      have hmn : mnameB metric = true:=by
        have:=e1'.1.2
        rw [Bool.or_eq_true] at this
        rcases this with h | h
        · exact absurd h hme
        · exact h
      simp only
      split
      · exact metsB_mk (delBy_rise q2) fun m hm=>q1 m (mem_delBy.1 hm).1
      · rename_i hneg
        refine metsB_mk (insBy_rise q2) fun m hm=>?_
        rcases insBy_mem hm with rfl | hm
        · have:=btw_in e1'.2
          exact ⟨hmn,btw_mk (by show 0 ≤ limit; omega) this.2⟩
        · exact q1 m hm
theorem tickL_ok {c : CfgD} {now : Int} {ts : List TenD} (hst : stateB c now ts = true) {by_ : Int} : stateB c (tickL c.w now ts by_).1 (tickL c.w now ts by_).2.1 = true:=by
  obtain ⟨hc,h0,h1,hl,ht⟩:=tens_of hst
  have hr:=tens_up ht
  unfold tickL
  split
  · exact hst
  · rename_i hb
    have hle : (keptTs c.w (now + by_) ts).length ≤ ts.length:=by
      unfold keptTs
      have:=List.length_filter_le (fun t=>!idleB t) (ts.map (keptT c.w (now + by_)))
      rw [List.length_map] at this
      exact this
    refine stateB_mk hc (btw_mk (by omega) (by omega)) (Nat.le_trans hle hl) (tensB_mk ?_ fun t ht'=>?_)
    · exact List.Pairwise.filter _ (List.pairwise_map.2 hr)
    · obtain ⟨h2,h3⟩:=List.mem_filter.1 ht'
      obtain ⟨q,hq,rfl⟩:=List.mem_map.1 h2
      obtain ⟨r1,r2,r3,r4,_⟩:=tenB_all (tens_at ht q hq)
      obtain ⟨s1,s2⟩:=sers_all r4
      refine tenB_mk r1 r2 r3 (sersB_mk (List.Pairwise.filter _ s2) fun x hx=>?_) (by simpa using h3)
      obtain ⟨x1,x2⟩:=List.mem_filter.1 hx
      obtain ⟨y1,y2,_⟩:=s1 x x1
      have:=btw_in y2
      exact ⟨y1,btw_mk this.1 (by omega),by simpa using x2⟩
def stepV (c : CfgD) (now : Int) (ts : List TenD) (r : RecD) : Int × List TenD × Bool :=
  if r.kind = 1 then (now,(admL c now ts r.tenant r.text).1,decide ((admL c now ts r.tenant r.text).2 = 1) || decide ((admL c now ts r.tenant r.text).2 = 2))
  else if r.kind = 2 then tickL c.w now ts r.num
  else if r.kind = 3 then (now,(setL ts r.tenant r.text r.num).1,(setL ts r.tenant r.text r.num).2)
  else (now,ts,false)
def runV (c : CfgD) : Int → List TenD → List RecD → Int × List TenD × Bool
  | now,ts,[]=>(now,ts,true)
  | now,ts,r :: rs=>if (stepV c now ts r).2.2 = true then runV c (stepV c now ts r).1 (stepV c now ts r).2.1 rs else ((stepV c now ts r).1,(stepV c now ts r).2.1,false)
def applyV (c : CfgD) (now : Int) (ts : List TenD) (rs : List RecD) : Int × List TenD × Bool :=
  if stateB c now ts = false then (0,[],false) else if 500 < rs.length then (now,ts,false) else if (runV c now ts rs).2.2 = true then runV c now ts rs else (now,ts,false)
theorem stepV_ok {c : CfgD} {now : Int} {ts : List TenD} (h : stateB c now ts = true) {r : RecD} (hs : (stepV c now ts r).2.2 = true) : stateB c (stepV c now ts r).1 (stepV c now ts r).2.1 = true:=by
  unfold stepV at hs ⊢
  split
  · rename_i hk
    rw [if_pos hk] at hs
    simp only [Bool.or_eq_true,decide_eq_true_eq] at hs
    exact admL_ok h hs
  · rename_i hk
    rw [if_neg hk] at hs
    split
    · exact tickL_ok h
    · rename_i hk2
      rw [if_neg hk2] at hs
      split
      · exact setL_ok h
      · exact h
end Go.Proofs.YtkmdbpaeeagccaaGreatDoor
namespace Go.Proofs.YtkmdbpaeeagccaaGreatDoor
theorem pairBulk_ins {p : PairD} (l : List PairD) : pairBulk (insBy (·.s) p l) ≤ pairBulk l + p.s.size ∧ (insBy (·.s) p l).length ≤ l.length + 1:=by
  induction l with
  | nil=>simp [insBy,pairBulk]
  | cons q r ih =>
    rw [insBy]
    split
    · simp only [pairBulk,List.length_cons]; omega
    · split <;> (simp only [pairBulk,List.length_cons]; omega)
theorem pairBulk_filter (f : PairD → Bool) (l : List PairD) : pairBulk (l.filter f) ≤ pairBulk l ∧ (l.filter f).length ≤ l.length:=by
  induction l with
  | nil=>exact ⟨Nat.le_refl _,Nat.le_refl _⟩
  | cons q r ih =>
    rw [List.filter_cons]
    split <;> (simp only [pairBulk,List.length_cons]; omega)
theorem tensBulk_filter (f : TenD → Bool) (l : List TenD) : tensBulk (l.filter f) ≤ tensBulk l ∧ (l.filter f).length ≤ l.length:=by
  induction l with
  | nil=>exact ⟨Nat.le_refl _,Nat.le_refl _⟩
  | cons q r ih =>
    rw [List.filter_cons]
    split <;> (simp only [tensBulk,List.length_cons]; omega)
theorem tensBulk_ins {ts : List TenD} (hr : RiseBy (·.name) ts) {t : TenD} {k : Nat} (h : tenBulk t ≤ tenBulk (tenOf ts t.name) + k) : (insBy (·.name) t ts).length + tensBulk (insBy (·.name) t ts) ≤ ts.length + tensBulk ts + 1 + t.name.size + k:=by
  have hz : tenBulk ⟨t.name,-1,[],[]⟩ = t.name.size:=by simp [tenBulk,pairBulk]
  have key : (∃ q ∈ ts,q.name = t.name ∧ tenBulk t ≤ tenBulk q + k) ∨ (tenBulk t ≤ t.name.size + k):=by
    rcases tenOf_in (ts:=ts) (name:=t.name) with ⟨hm,_⟩ | ⟨e,_⟩
    · exact Or.inl ⟨_,hm,tenOf_name,h⟩
    · rw [e,hz] at h
      exact Or.inr h
  clear h hz
  rcases key with ⟨q,hq,hn,hb⟩ | hb
  · have : (insBy (·.name) t ts).length + tensBulk (insBy (·.name) t ts) ≤ ts.length + tensBulk ts + k:=by
      induction ts with
      | nil=>cases hq
      | cons p r ih =>
        rw [insBy]
        rcases List.mem_cons.1 hq with rfl | hq
        · rw [if_neg (by rw [hn,blt_irrefl]; simp),if_pos ((same_iff _ _).2 hn)]
          simp only [List.length_cons,tensBulk]
          omega
        · have hbl:=hr.head q hq
          simp only [hn] at hbl
          rw [if_pos hbl]
          have:=ih hr.tail hq
          simp only [List.length_cons,tensBulk]
          omega
    omega
  · have : ∀ l : List TenD,(insBy (·.name) t l).length + tensBulk (insBy (·.name) t l) ≤ l.length + tensBulk l + 1 + tenBulk t:=fun l=>by
      induction l with
      | nil=>simp [insBy,tensBulk]
      | cons p r ih =>
        rw [insBy]
        split
        · simp only [List.length_cons,tensBulk]; omega
        · split <;> (simp only [List.length_cons,tensBulk]; omega)
    have:=this ts
    omega
theorem addT_bulk {ts : List TenD} {tenant key : ByteArray} {now : Int} : tenBulk (addT (tenOf ts tenant) key now) ≤ tenBulk (tenOf ts (addT (tenOf ts tenant) key now).name) + (1 + key.size):=by
  have e : (addT (tenOf ts tenant) key now).name = tenant:=tenOf_name
  rw [e]
  have:=pairBulk_ins (p:=⟨key,now⟩) (tenOf ts tenant).sers
  simp only [tenBulk,addT] at this ⊢
  omega
theorem limT_bulk {ts : List TenD} {tenant metric : ByteArray} {limit : Int} : tenBulk (limT (tenOf ts tenant) metric limit) ≤ tenBulk (tenOf ts (limT (tenOf ts tenant) metric limit).name) + (1 + metric.size):=by
  have e : (limT (tenOf ts tenant) metric limit).name = tenant:=by rw [limT_name,tenOf_name]
  rw [e]
  have h1:=pairBulk_ins (p:=⟨metric,limit⟩) (tenOf ts tenant).mets
  have h2:=pairBulk_filter (fun p=>!((fun q : PairD=>q.s) p).toList == metric.toList) (tenOf ts tenant).mets
  have h3 : pairBulk (delBy (·.s) metric (tenOf ts tenant).mets) ≤ pairBulk (tenOf ts tenant).mets ∧ (delBy (·.s) metric (tenOf ts tenant).mets).length ≤ (tenOf ts tenant).mets.length:=pairBulk_filter _ _
  simp only at h1
  unfold limT
  split
  · simp only [tenBulk]; omega
  · simp only [tenBulk]
    split <;> omega
theorem kept_bulk {win now : Int} (ts : List TenD) : (keptTs win now ts).length + tensBulk (keptTs win now ts) ≤ ts.length + tensBulk ts:=by
  have h1:=tensBulk_filter (fun t=>!idleB t) (ts.map (keptT win now))
  have h2 : tensBulk (ts.map (keptT win now)) ≤ tensBulk ts:=by
    induction ts with
    | nil=>exact Nat.le_refl _
    | cons t r ih =>
      have:=pairBulk_filter (fun p=>decide (now - p.n < win)) t.sers
      have ih':=ih (tensBulk_filter _ _)
      simp only [List.map_cons,tensBulk,tenBulk,keptT] at ih' ⊢
      omega
  unfold keptTs
  rw [List.length_map] at h1
  omega
theorem stepV_bulk {c : CfgD} {now : Int} {ts : List TenD} (h : stateB c now ts = true) (r : RecD) : (stepV c now ts r).2.1.length + tensBulk (stepV c now ts r).2.1 ≤ ts.length + tensBulk ts + 2 + r.tenant.size + r.text.size:=by
  have hr:=tens_up (tens_of h).2.2.2.2
  have hs : ts.length + tensBulk ts ≤ ts.length + tensBulk ts + 2 + r.tenant.size + r.text.size:=by omega
  have ha : (insBy (·.name) (addT (tenOf ts r.tenant) r.text now) ts).length + tensBulk (insBy (·.name) (addT (tenOf ts r.tenant) r.text now) ts) ≤ ts.length + tensBulk ts + 2 + r.tenant.size + r.text.size:=by
    have:=tensBulk_ins hr (t:=addT (tenOf ts r.tenant) r.text now) addT_bulk
    have e : (addT (tenOf ts r.tenant) r.text now).name = r.tenant:=tenOf_name
    rw [e] at this
    omega
  have hl : (insBy (·.name) (limT (tenOf ts r.tenant) r.text r.num) ts).length + tensBulk (insBy (·.name) (limT (tenOf ts r.tenant) r.text r.num) ts) ≤ ts.length + tensBulk ts + 2 + r.tenant.size + r.text.size:=by
    have:=tensBulk_ins hr (t:=limT (tenOf ts r.tenant) r.text r.num) limT_bulk
    have e : (limT (tenOf ts r.tenant) r.text r.num).name = r.tenant:=by rw [limT_name,tenOf_name]
    rw [e] at this
    omega
  unfold stepV
  split
  · unfold admL
    split
    · exact hs
    · split
      · exact ha
      · generalize (if (tenOf ts r.tenant).limit = -1 then c.tl else (tenOf ts r.tenant).limit) = LM
        split
        · exact hs
        · split
          · exact hs
          · exact ha
  · split
    · unfold tickL
      split
      · exact hs
      · have:=kept_bulk (win:=c.w) (now:=now + r.num) ts
        show (keptTs c.w (now + r.num) ts).length + tensBulk (keptTs c.w (now + r.num) ts) ≤ _
        omega
    · split
      · unfold setL
        split
        · exact hs
        · split
          · have:=tensBulk_filter (fun p=>!((fun q : TenD=>q.name) p).toList == r.tenant.toList) ts
            show (delBy (·.name) r.tenant ts).length + tensBulk (delBy (·.name) r.tenant ts) ≤ _
            unfold delBy
            omega
          · split
            · exact hs
            · exact hl
      · exact hs
end Go.Proofs.YtkmdbpaeeagccaaGreatDoor
namespace Go.Proofs.YtkmdbpaeeagccaaGreatDoor
open Go.RowKit
def recV (r : RecD) : Value:=.agg #[.int .i64 r.kind,.string r.tenant,.string r.text,.int .i64 r.num]
def knownV (r : RecD) : Value:=if r.kind = 1 then .iface 133 (.agg #[.int .i64 1,.string r.tenant,.string r.text]) else if r.kind = 2 then .iface 135 (.agg #[.int .i64 2,.string ByteArray.empty,.int .i64 r.num]) else if r.kind = 3 then .iface 137 (.agg #[.int .i64 3,.string r.tenant,.string r.text,.int .i64 r.num]) else .nilIface
def kindB (r : RecD) : Bool:=decide (r.kind = 1 ∨ r.kind = 2 ∨ r.kind = 3)
set_option maxRecDepth 100000 in
set_option maxHeartbeats 1000000 in
theorem recordOf_any (r : RecD) (w : World) :
    Calls Tryz.prog 50 #[recV r] w fun e w'=>e = .returned (.tuple #[knownV r,.bool (kindB r)]) ∧ Below w.heap.size w w':=by
  obtain ⟨ki,te,tx,nu⟩:=r
  unfold recV
  by_cases h1 : ki = 1
  · subst h1
    go_enter Tryz.func50,Tryz.ntmps50
    go_wp2
    go_ret2
    exact ⟨rfl,bnew _ _⟩
  · by_cases h2 : ki = 2
    · subst h2
      go_enter Tryz.func50,Tryz.ntmps50
      go_wp2
      go_ret2
      exact ⟨rfl,bnew _ _⟩
    · by_cases h3 : ki = 3
      · subst h3
        go_enter Tryz.func50,Tryz.ntmps50
        go_wp2
        go_ret2
        exact ⟨rfl,bnew _ _⟩
      · have E : Hid (knownV ⟨ki,te,tx,nu⟩ = .nilIface ∧ kindB ⟨ki,te,tx,nu⟩ = false):=⟨by unfold knownV; simp [h1,h2,h3],by unfold kindB; simp [h1,h2,h3]⟩
        go_enter Tryz.func50,Tryz.ntmps50
        go_wp2
        go_ret2
        exact ⟨by rw [E.out.1,E.out.2]; rfl,bnew _ _⟩
end Go.Proofs.YtkmdbpaeeagccaaGreatDoor
namespace Go.Proofs.YtkmdbpaeeagccaaGreatDoor
open Go.RowKit Go.Maps
set_option maxRecDepth 100000 in
set_option maxHeartbeats 1000000 in
theorem isAdmitted_any (n : Nat) (w : World) : Calls Tryz.prog 76 #[.int .i64 n] w fun e w'=>e = .returned (.bool (decide (n = 1) || decide (n = 2))) ∧ w' = w:=by
  by_cases h1 : n = 1
  · subst h1
    go_enter Tryz.func76,Tryz.ntmps76
    go_wp2
    go_ret
    exact ⟨ret_bool (by simp),rfl⟩
  · have h1' : ¬ ((n : Int) = 1):=by omega
    by_cases h2 : n = 2
    · subst h2
      go_enter Tryz.func76,Tryz.ntmps76
      go_wp2
      go_ret
      exact ⟨ret_bool (by simp),rfl⟩
    · have h2' : ¬ ((n : Int) = 2):=by omega
      have HV : Hid ((decide (n = 1) || decide (n = 2)) = false):=by show _ = _; simp [h1,h2]
      go_enter Tryz.func76,Tryz.ntmps76
      go_wp2
      go_ret
      exact ⟨ret_bool (by rw [HV.out]; simp; omega),rfl⟩
theorem ta11 (x : Value) (w : World) : (Instr.typeAssert (.iface 133 x) 97 133 true).run Tryz.prog w = .ok (.tuple #[x,.bool true]) w:=by kernel_rfl
theorem ta21 (x : Value) (w : World) : (Instr.typeAssert (.iface 135 x) 97 133 true).run Tryz.prog w = .ok (.tuple #[.agg #[.int .i64 0,.string ⟨#[]⟩,.string ⟨#[]⟩],.bool false]) w:=by kernel_rfl
theorem ta22 (x : Value) (w : World) : (Instr.typeAssert (.iface 135 x) 97 135 true).run Tryz.prog w = .ok (.tuple #[x,.bool true]) w:=by kernel_rfl
theorem ta31 (x : Value) (w : World) : (Instr.typeAssert (.iface 137 x) 97 133 true).run Tryz.prog w = .ok (.tuple #[.agg #[.int .i64 0,.string ⟨#[]⟩,.string ⟨#[]⟩],.bool false]) w:=by kernel_rfl
theorem ta32 (x : Value) (w : World) : (Instr.typeAssert (.iface 137 x) 97 135 true).run Tryz.prog w = .ok (.tuple #[.agg #[.int .i64 0,.string ⟨#[]⟩,.int .i64 0],.bool false]) w:=by kernel_rfl
theorem ta33 (x : Value) (w : World) : (Instr.typeAssert (.iface 137 x) 97 137 true).run Tryz.prog w = .ok (.tuple #[x,.bool true]) w:=by kernel_rfl
set_option maxRecDepth 100000 in
set_option maxHeartbeats 4000000 in
theorem lapply_any (l m : Nat) (r : RecD) (c : CfgD) (now : Int) (ts : List TenD) (M : Nat) (w0 w : World) (h : LedAt w w0.heap.size l m c now ts M) (h0 : Below w0.heap.size w0 w) (hU : UTab w0) (hst : stateB c now ts = true) (hbk : ts.length + tensBulk ts ≤ 1100000) (hM1 : 1 ≤ M) (hM : M ≤ 1000000000) (hn : r.tenant.size ≤ 1048576) (hx : r.text.size ≤ 1048576) (hk : kindB r = true) :
    Calls Tryz.prog 51 #[.pointer (some ⟨l,0,none⟩),knownV r] w fun e w'=>e = .returned (.bool (stepV c now ts r).2.2) ∧ LedAt w' w0.heap.size l m c (stepV c now ts r).1 (stepV c now ts r).2.1 (M + 1) ∧ Turn (fun g=>w0.heap.size ≤ g) w w':=by
  obtain ⟨hc,q0,q1,hlen,ht⟩:=tens_of hst
  obtain ⟨v0,v1⟩:=win_one hc
  have hB:=h0.size
  have hb : ∀ i (hi : i < ts.length),tenBulk ts[i] ≤ 1100000:=fun i hi=>by have:=tenBulk_at ts i hi; omega
  have hsl : ∀ t ∈ ts,t.sers.length ≤ 1000000000 ∧ t.mets.length ≤ 1000000000 ∧ pairBulk t.sers ≤ 1100000:=fun t hm=>by
    obtain ⟨i,hi,rfl⟩:=List.getElem_of_mem hm
    have:=hb i hi
    unfold tenBulk at this
    omega
  have HSB : ∀ W,Below w.heap.size w W → Below w0.heap.size w0 W:=fun W hW=>h0.trans (hW.mono hB)
  have HLW : Hid (∀ W,Below w.heap.size w W → LedAt W w0.heap.size l m c now ts M):=fun W hW=>h.later hW
  have HTW : Hid (∀ W,Below w.heap.size w W → Turn (fun g=>w0.heap.size ≤ g) w W):=fun W hW=>Turn.of hW
  have HAD : Hid (∀ W,Below w.heap.size w W → Calls Tryz.prog 77 #[.pointer (some ⟨l,0,none⟩),.string r.tenant,.string r.text] W fun e w'=>e = .returned (.int .i64 ((admL c now ts r.tenant r.text).2 : Nat)) ∧ LedAt w' w0.heap.size l m c now (admL c now ts r.tenant r.text).1 (M + 1) ∧ Turn (fun g=>w0.heap.size ≤ g) W w'):=fun W hW=>ladmit_any l m r.tenant r.text c now w0.heap.size ts M W (h.later hW) (by have:=hW.size; omega) (hU.later (HSB W hW)) hn hx hM1 hM (fun t hm=>(hsl t hm).1) (fun t hm y hy=>(sers_at (ten_parts (tens_at ht t hm)).2.2.1 y hy).2.2) (by omega)
  have HTK : Hid (∀ W,Below w.heap.size w W → Calls Tryz.prog 78 #[.pointer (some ⟨l,0,none⟩),.int .i64 r.num] W fun e w'=>e = .returned (.bool (tickL c.w now ts r.num).2.2) ∧ LedAt w' w0.heap.size l m c (tickL c.w now ts r.num).1 (tickL c.w now ts r.num).2.1 M ∧ Turn (fun g=>w0.heap.size ≤ g) W w'):=fun W hW=>ltick_any l m r.num c now ts M w0 W (h.later hW) (HSB W hW) hU q0 q1 v0 v1 hM (fun t hm=>(hsl t hm).1) (fun t hm p hp=>by
    obtain ⟨j,hj,rfl⟩:=List.getElem_of_mem hp
    have h1:=pairBulk_take_succ t.sers j hj
    have h2:=pairBulk_take_le t.sers (j + 1)
    have:=(hsl t hm).2.2
    omega)
  have HSE : Hid (∀ W,Below w.heap.size w W → Calls Tryz.prog 79 #[.pointer (some ⟨l,0,none⟩),.string r.tenant,.string r.text,.int .i64 r.num] W fun e w'=>e = .returned (.bool (setL ts r.tenant r.text r.num).2) ∧ LedAt w' w0.heap.size l m c now (setL ts r.tenant r.text r.num).1 M ∧ Turn (fun g=>w0.heap.size ≤ g) W w'):=fun W hW=>lsetLimit_any l m r.tenant r.text r.num c now w0.heap.size ts M W (h.later hW) (by have:=hW.size; omega) (hU.later (HSB W hW)) hn hx (fun t hm=>(hsl t hm).2.1) (by omega)
  clear h h0 hU hst hbk hb hsl HSB ht hc
  have HS : Hid (stepV c now ts r = if r.kind = 1 then (now,(admL c now ts r.tenant r.text).1,decide ((admL c now ts r.tenant r.text).2 = 1) || decide ((admL c now ts r.tenant r.text).2 = 2)) else if r.kind = 2 then tickL c.w now ts r.num else if r.kind = 3 then (now,(setL ts r.tenant r.text r.num).1,(setL ts r.tenant r.text r.num).2) else (now,ts,false)):=rfl
  have HKV : Hid (knownV r = if r.kind = 1 then .iface 133 (.agg #[.int .i64 1,.string r.tenant,.string r.text]) else if r.kind = 2 then .iface 135 (.agg #[.int .i64 2,.string ByteArray.empty,.int .i64 r.num]) else if r.kind = 3 then .iface 137 (.agg #[.int .i64 3,.string r.tenant,.string r.text,.int .i64 r.num]) else .nilIface):=rfl
  generalize stepV c now ts r = SV at *
  generalize knownV r = KV at *
  have hk3 : r.kind = 1 ∨ r.kind = 2 ∨ r.kind = 3:=by simpa [kindB] using hk
  clear hk
  obtain ⟨ki,te,tx,nu⟩:=r
  simp only at *
  rcases hk3 with rfl | rfl | rfl
  · have HS1 : Hid (SV = (now,(admL c now ts te tx).1,decide ((admL c now ts te tx).2 = 1) || decide ((admL c now ts te tx).2 = 2))):=by show _ = _; rw [HS.out,if_pos rfl]
    have e1 : KV = .iface 133 (.agg #[.int .i64 1,.string te,.string tx]):=by rw [HKV.out,if_pos rfl]
    clear HS HKV HTK HSE
    subst e1
    generalize admL c now ts te tx = AV at *
    have t1:=ta11 (.agg #[.int .i64 1,.string te,.string tx])
    go_enter Tryz.func51,Tryz.ntmps51
    go_wp2_with fail
    refine (HAD.out _ (bnew _ _)).mono ?_
    rintro e w1 ⟨rfl,hl1,ht1⟩
    have HL1:=hid hl1
    have HT1 : Hid (Turn (fun g=>w0.heap.size ≤ g) w w1):=(HTW.out _ (bnew _ _)).trans' ht1
    clear hl1 ht1
    go_wp2_with fail
    refine (isAdmitted_any _ _).mono ?_
    rintro e wz ⟨rfl,hw⟩
    replace hw:=hw.symm
    subst hw
    go_wp2
    go_ret
    exact ⟨ret_bool (by rw [HS1.out]),by rw [HS1.out]; exact HL1.out,HT1.out⟩
  · have HS1 : Hid (SV = tickL c.w now ts nu):=by show _ = _; rw [HS.out,if_neg (by decide),if_pos rfl]
    have e1 : KV = .iface 135 (.agg #[.int .i64 2,.string ByteArray.empty,.int .i64 nu]):=by rw [HKV.out,if_neg (by decide),if_pos rfl]
    clear HS HKV HAD HSE
    subst e1
    generalize tickL c.w now ts nu = AV at *
    have t1:=ta21 (.agg #[.int .i64 2,.string ByteArray.empty,.int .i64 nu])
    have t2:=ta22 (.agg #[.int .i64 2,.string ByteArray.empty,.int .i64 nu])
    go_enter Tryz.func51,Tryz.ntmps51
    go_wp2_with fail
    refine (HTK.out _ (bnew _ _)).mono ?_
    rintro e w1 ⟨rfl,hl1,ht1⟩
    have HL1:=hid hl1
    have HT1 : Hid (Turn (fun g=>w0.heap.size ≤ g) w w1):=(HTW.out _ (bnew _ _)).trans' ht1
    clear hl1 ht1
    go_wp2
    go_ret
    exact ⟨ret_bool (by rw [HS1.out]),by rw [HS1.out]; exact HL1.out.mono (by omega),HT1.out⟩
  · have HS1 : Hid (SV = (now,(setL ts te tx nu).1,(setL ts te tx nu).2)):=by show _ = _; rw [HS.out,if_neg (by decide),if_neg (by decide),if_pos rfl]
    have e1 : KV = .iface 137 (.agg #[.int .i64 3,.string te,.string tx,.int .i64 nu]):=by rw [HKV.out,if_neg (by decide),if_neg (by decide),if_pos rfl]
    clear HS HKV HAD HTK
    subst e1
    generalize setL ts te tx nu = AV at *
    have t1:=ta31 (.agg #[.int .i64 3,.string te,.string tx,.int .i64 nu])
    have t2:=ta32 (.agg #[.int .i64 3,.string te,.string tx,.int .i64 nu])
    have t3:=ta33 (.agg #[.int .i64 3,.string te,.string tx,.int .i64 nu])
    go_enter Tryz.func51,Tryz.ntmps51
    go_wp2_with fail
    refine (HSE.out _ (bnew _ _)).mono ?_
    rintro e w1 ⟨rfl,hl1,ht1⟩
    have HL1:=hid hl1
    have HT1 : Hid (Turn (fun g=>w0.heap.size ≤ g) w w1):=(HTW.out _ (bnew _ _)).trans' ht1
    clear hl1 ht1
    go_wp2
    go_ret
    exact ⟨ret_bool (by rw [HS1.out]),by rw [HS1.out]; exact HL1.out.mono (by omega),HT1.out⟩
end Go.Proofs.YtkmdbpaeeagccaaGreatDoor
namespace Go.Proofs.YtkmdbpaeeagccaaGreatDoor
open Go.RowKit
theorem runV_bulk {c : CfgD} : ∀ {rs : List RecD} {now : Int} {ts : List TenD},stateB c now ts = true → (runV c now ts rs).2.1.length + tensBulk (runV c now ts rs).2.1 ≤ ts.length + tensBulk ts + 2 * rs.length + recBulk rs
  | [],now,ts,_=>by simp [runV,recBulk]
  | r :: rs,now,ts,h=>by
    have h1:=stepV_bulk h r
    rw [runV]
    simp only [List.length_cons,recBulk]
    split
    · rename_i hs
      have h2:=runV_bulk (rs:=rs) (stepV_ok h hs)
      omega
    · show (stepV c now ts r).2.1.length + tensBulk (stepV c now ts r).2.1 ≤ _
      omega
theorem runV_step {c : CfgD} {now : Int} {ts : List TenD} {rs : List RecD} {k : Nat} (hk : k < rs.length) (hs : (stepV c now ts rs[k]).2.2 = true) : runV c now ts (rs.drop k) = runV c (stepV c now ts rs[k]).1 (stepV c now ts rs[k]).2.1 (rs.drop (k + 1)):=by
  rw [List.drop_eq_getElem_cons hk,runV,if_pos hs]
theorem runV_stop {c : CfgD} {now : Int} {ts : List TenD} {rs : List RecD} {k : Nat} (hk : k < rs.length) (hs : (stepV c now ts rs[k]).2.2 = false) : runV c now ts (rs.drop k) = ((stepV c now ts rs[k]).1,(stepV c now ts rs[k]).2.1,false):=by
  rw [List.drop_eq_getElem_cons hk,runV,if_neg (by rw [hs]; decide)]
theorem recBulk_drop (rs : List RecD) {k : Nat} (hk : k < rs.length) : recBulk (rs.drop k) = rs[k].tenant.size + rs[k].text.size + recBulk (rs.drop (k + 1)):=by
  rw [List.drop_eq_getElem_cons hk,recBulk]
end Go.Proofs.YtkmdbpaeeagccaaGreatDoor
namespace Go.Proofs.YtkmdbpaeeagccaaGreatDoor
open Go.RowKit Go.Maps
theorem stepV_kind {c : CfgD} {now : Int} {ts : List TenD} {r : RecD} (h : kindB r = false) : stepV c now ts r = (now,ts,false):=by
  have h' : ¬ (r.kind = 1 ∨ r.kind = 2 ∨ r.kind = 3):=by unfold kindB at h; simpa using h
  unfold stepV
  rw [if_neg (fun e=>h' (Or.inl e)),if_neg (fun e=>h' (Or.inr (Or.inl e))),if_neg (fun e=>h' (Or.inr (Or.inr e)))]
set_option maxRecDepth 100000 in
set_option maxHeartbeats 4000000 in
theorem applyAll_any (l m : Nat) (a : Option Addr) (cap : Nat) (rs : List RecD) (c : CfgD) (now : Int) (ts : List TenD) (M : Nat) (w0 w : World) (h : LedAt w w0.heap.size l m c now ts M) (h0 : Below w0.heap.size w0 w) (hf : RecsIn w0 a rs) (hU : UTab w0) (hst : stateB c now ts = true) (hlen : rs.length ≤ 500) (hbk : ts.length + tensBulk ts + 2 * rs.length + recBulk rs ≤ 1100000) (hsz : ∀ r ∈ rs,r.tenant.size ≤ 1048576 ∧ r.text.size ≤ 1048576) (hM1 : 1 ≤ M) (hM : M ≤ 900000000) :
    Calls Tryz.prog 26 #[.pointer (some ⟨l,0,none⟩),.slice a rs.length cap] w fun e w'=>e = .returned (.bool (runV c now ts rs).2.2) ∧ ((runV c now ts rs).2.2 = true → LedAt w' w0.heap.size l m c (runV c now ts rs).1 (runV c now ts rs).2.1 (M + rs.length)) ∧ Below w0.heap.size w0 w':=by
  have HF:=hid hf
  have HU:=hid hU
  have HSZ:=hid hsz
  have HL0:=hid h
  have HB0:=hid h0
  have HST:=hid hst
  have HBK:=hid hbk
  clear hf hU hsz h h0 hst hbk
  go_enter Tryz.func26,Tryz.ntmps26
  go_wp2
  go_loopw [11] (fun i wr=>∃ (k : Nat) (nk : Int) (tk : List TenD),k ≤ rs.length ∧ i = .int .i64 k ∧ Hid (LedAt wr w0.heap.size l m c nk tk (M + k)) ∧ Hid (Below w0.heap.size w0 wr) ∧ Hid (stateB c nk tk = true) ∧ Hid (tk.length + tensBulk tk + 2 * (rs.length - k) + recBulk (rs.drop k) ≤ 1100000) ∧ Hid (runV c nk tk (rs.drop k) = runV c now ts rs)) (fun i _=>rs.length - (intOf i).toNat)
  case atStart=>exact ⟨0,now,ts,Nat.zero_le _,rfl,HL0.out,HB0.out,HST.out,hid (by simpa using HBK.out),rfl⟩
  case round =>
    obtain ⟨k,nk,tk,hk,rfl,HL,HB,HS,HK,HR⟩:=hrel
    clear HL0 HB0 HST HBK
    by_cases hlt : k < rs.length
    · obtain ⟨b,o,rfl,hbw,r0,r1,r2,r3⟩:=(HF.out.later HB.out).at hlt
      obtain ⟨hn,hx⟩:=HSZ.out _ (List.getElem_mem hlt)
      have hkb : tk.length + tensBulk tk + 2 * (rs.length - k) + recBulk (rs.drop k) ≤ 1100000:=HK.out
      have hdr:=recBulk_drop rs hlt
      have hstb:=stepV_bulk HS.out rs[k]
      have HRS : Hid ((stepV c nk tk rs[k]).2.2 = true → runV c nk tk (rs.drop k) = runV c (stepV c nk tk rs[k]).1 (stepV c nk tk rs[k]).2.1 (rs.drop (k + 1))):=fun h=>runV_step hlt h
      have HRF : Hid ((stepV c nk tk rs[k]).2.2 = false → (runV c now ts rs).2.2 = false):=fun h=>by rw [← HR.out,runV_stop hlt h]
      have HRE : Hid ((stepV c nk tk rs[k]).2.2 = true → runV c nk tk (rs.drop k) = runV c now ts rs):=fun _=>HR.out
      have HOK : Hid ((stepV c nk tk rs[k]).2.2 = true → stateB c (stepV c nk tk rs[k]).1 (stepV c nk tk rs[k]).2.1 = true):=fun h=>stepV_ok HS.out h
      have HBN : Hid ((stepV c nk tk rs[k]).2.1.length + tensBulk (stepV c nk tk rs[k]).2.1 + 2 * (rs.length - (k + 1)) + recBulk (rs.drop (k + 1)) ≤ 1100000):=by show _ ≤ _; omega
      have HKF : Hid (kindB rs[k] = false → (stepV c nk tk rs[k]).2.2 = false):=fun h=>by rw [stepV_kind h]
      have HRO : Hid (∀ W,Calls Tryz.prog 50 #[.agg #[.int .i64 rs[k].kind,.string rs[k].tenant,.string rs[k].text,.int .i64 rs[k].num]] W fun e w'=>e = .returned (.tuple #[knownV rs[k],.bool (kindB rs[k])]) ∧ Below W.heap.size W w'):=fun W=>recordOf_any rs[k] W
      have HAP : Hid (kindB rs[k] = true → ∀ W,Below wr.heap.size wr W → Calls Tryz.prog 51 #[.pointer (some ⟨l,0,none⟩),knownV rs[k]] W fun e w'=>e = .returned (.bool (stepV c nk tk rs[k]).2.2) ∧ LedAt w' w0.heap.size l m c (stepV c nk tk rs[k]).1 (stepV c nk tk rs[k]).2.1 (M + k + 1) ∧ Below w0.heap.size w0 w'):=fun hkd W hW=>(lapply_any l m rs[k] c nk tk (M + k) w0 W (HL.out.later hW) (HB.out.trans (hW.mono HB.out.size)) HU.out HS.out (by omega) (by omega) (by omega) hn hx hkd).mono fun e w' ⟨h1,h2,h3⟩=>⟨h1,h2,(HB.out.trans (hW.mono HB.out.size)).trans (h3.below (by have:=HB.out.size; have:=hW.size; omega) (fun i hi h=>by omega))⟩
      clear hkb hdr hstb HL HS HK HR hn hx
      generalize stepV c nk tk rs[k] = S at *
      obtain ⟨n1,t1,b1⟩:=S
      go_wp2_with fail
      refine (HRO.out _).mono ?_
      rintro e w1 ⟨rfl,hb1⟩
      have hb1' : Below wr.heap.size wr w1:=bto (bnew _ _) hb1
      have HBW1:=hid hb1'
      clear hb1 hb1' HRO r0 r1 r2 r3
      cases hkd : kindB rs[k] with
      | false =>
        have hf : b1 = false:=HKF.out hkd
        subst hf
        have hrf:=HRF.out rfl
        go_wp2
        go_ret
        exact ⟨ret_bool (by rw [hrf]),fun e=>(by rw [hrf] at e; cases e),HB.out.trans (HBW1.out.mono HB.out.size)⟩
      | true =>
        have HA:=hid (HAP.out hkd)
        go_wp2_with fail
        refine (HA.out _ HBW1.out).mono ?_
        rintro e w2 ⟨rfl,hl2,hb2⟩
        have HL2:=hid hl2
        have HB2:=hid hb2
        clear hl2 hb2
        cases b1 with
        | false =>
          have hrf:=HRF.out rfl
          go_wp2
          go_ret
          exact ⟨ret_bool (by rw [hrf]),fun e=>(by rw [hrf] at e; cases e),HB2.out⟩
        | true =>
          have HO2:=hid (HOK.out rfl)
          have HR3 : Hid (runV c n1 t1 (rs.drop (k + 1)) = runV c now ts rs):=(HRS.out rfl).symm.trans (HRE.out rfl)
          go_wp2
          exact ⟨⟨k + 1,n1,t1,by omega,by go_num,HL2.out,HB2.out,HO2.out,HBN.out,HR3.out⟩,by simp [intOf]; omega⟩
    · obtain rfl : k = rs.length:=by omega
      have HR2 : Hid (runV c now ts rs = (nk,tk,true)):=by show _ = _; rw [← HR.out,List.drop_length]; rfl
      clear HR
      go_wp2
      go_ret
      exact ⟨ret_bool (by rw [HR2.out]),fun _=>(by rw [HR2.out]; exact HL.out),HB.out⟩
end Go.Proofs.YtkmdbpaeeagccaaGreatDoor
