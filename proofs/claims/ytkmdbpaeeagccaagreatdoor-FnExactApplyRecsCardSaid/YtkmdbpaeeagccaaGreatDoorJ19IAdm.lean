import Derived.Test.YtkmdbpaeeagccaaGreatDoorJ18ISlm
import Derived.Test.YtkmdbpaeeagccaaGreatDoorProg
namespace Go.Proofs.YtkmdbpaeeagccaaGreatDoor
def admL (c : CfgD) (now : Int) (ts : List TenD) (tenant key : ByteArray) : List TenD × Nat :=
  if (tnameB tenant && keyOK key) = false then (ts,5)
  else if (getBy (·.s) key (tenOf ts tenant).sers).isSome = true then (insBy (·.name) (addT (tenOf ts tenant) key now) ts,1)
  else if (if (tenOf ts tenant).limit = -1 then c.tl else (tenOf ts tenant).limit) ≤ ((tenOf ts tenant).sers.length : Nat) ∨ ((getBy (·.name) tenant ts).isNone && decide (10000 ≤ ts.length)) = true then (ts,3)
  else if metLim (tenOf ts tenant).mets (metK key) c.ml ≤ (cntM metK (tenOf ts tenant).sers (metK key) : Nat) then (ts,4)
  else (insBy (·.name) (addT (tenOf ts tenant) key now) ts,2)
theorem tenOf_lim {win now : Int} {ts : List TenD} (h : tensB win now ts = true) {name : ByteArray} : -1 ≤ (tenOf ts name).limit ∧ (tenOf ts name).limit ≤ 1000000:=by
  rcases tenOf_in (ts:=ts) (name:=name) with ⟨h1,_⟩ | ⟨h1,_⟩
  · have:=tens_at h _ h1
    simp only [tenB,Bool.and_eq_true] at this
    exact btw_in this.1.1.1.2
  · rw [h1]; exact ⟨by simp,by simp⟩
theorem admL_eq {c : CfgD} {now : Int} {ts : List TenD} (h : stateB c now ts = true) (tenant key : ByteArray) : admitV c now ts tenant key = (now,(admL c now ts tenant key).1,(admL c now ts tenant key).2):=by
  obtain ⟨_,_,_,hlen,ht⟩:=tens_of h
  unfold admitV admL
  rw [if_neg (by rw [h]; simp)]
  by_cases h1 : (tnameB tenant && keyOK key) = false
  · rw [if_pos h1,if_pos h1]
  · rw [if_neg h1,if_neg h1]
    by_cases h2 : (getBy (·.s) key (tenOf ts tenant).sers).isSome = true
    · rw [if_pos h2,if_pos h2]
    · rw [if_neg h2,if_neg h2]
      have hk : (metK key).toList.isEmpty = false:=by
        have : (tnameB tenant && keyOK key) = true:=by simpa using h1
        simp only [Bool.and_eq_true,keyOK] at this
        simpa using this.2
      have hc1 : countV c (tenOf ts tenant) ByteArray.empty = ((((tenOf ts tenant).sers.length : Nat) : Int),if (tenOf ts tenant).limit = -1 then c.tl else (tenOf ts tenant).limit):=by
        unfold countV
        rw [if_pos (show ByteArray.empty.toList.isEmpty = true by rw [ByteArray.toList_eq]; rfl)]
        have:=(tenOf_lim ht (name:=tenant)).1
        by_cases hl : (tenOf ts tenant).limit = -1
        · rw [if_pos hl,if_pos (by omega)]
        · rw [if_neg hl,if_neg (by omega)]
      have hc2 : countV c (tenOf ts tenant) (metK key) = (((cntM metK (tenOf ts tenant).sers (metK key) : Nat) : Int),metLim (tenOf ts tenant).mets (metK key) c.ml):=by
        unfold countV
        rw [if_neg (by rw [hk]; simp)]
      have hid:=tenOf_idle ht (name:=tenant)
      rw [hc1,hc2]
      simp only
      have hiff : (idleB (tenOf ts tenant) = true ∧ ts.length = 10000) ↔ ((getBy (·.name) tenant ts).isNone && decide (10000 ≤ ts.length)) = true:=by
        rw [hid,Bool.and_eq_true,decide_eq_true_eq]
        cases getBy (·.name) tenant ts with
        | none=>simp; omega
        | some q=>simp
      simp only [hiff]
      generalize (if (tenOf ts tenant).limit = -1 then c.tl else (tenOf ts tenant).limit) = LM
      split
      · rfl
      · split <;> rfl
theorem cntM_names {met : ByteArray → ByteArray} {l l' : List PairD} (h : l.map (·.s) = l'.map (·.s)) (m : ByteArray) : cntM met l m = cntM met l' m:=by
  have : ∀ l : List PairD,cntM met l m = ((l.map (·.s)).filter fun s=>(met s).toList == m.toList).length:=fun l=>by
    unfold cntM
    rw [List.filter_map,List.length_map]
    rfl
  rw [this,this,h]
end Go.Proofs.YtkmdbpaeeagccaaGreatDoor
namespace Go.Proofs.YtkmdbpaeeagccaaGreatDoor
open Go.RowKit Go.Maps
theorem IdxS.seen {w w' : World} {S : Nat → Prop} {x : Nat} {t : TenD} {M lm sm cm : Nat} {iv : Value} {Q : List (PairD × Nat)} {hs : List SgD} {D : DataW Unit} {q : PairD × Nat} {now : Int} (h : IdxS w S x t M lm sm cm iv Q hs D) (hq : q ∈ Q) (hn : q.1.n ≤ now) (ht : Turn (· = q.2) w w')
    (hb : Blk w' q.2 #[.string q.1.s,.int .i64 now] 84) : IdxAt w' S x (addT t q.1.s now) M:=by
  have hrq : RiseBy (fun q : PairD × Nat=>q.1.s) Q:=by
    rw [← riseBy_map (key':=fun p : PairD=>p.s) (fun q : PairD × Nat=>q.1) (fun _=>rfl),h.q1]
    exact h.rs
  have hmap : ∀ {β : Type} (f : PairD × Nat → β),f q = f ((⟨q.1.s,now⟩ : PairD),q.2) → (insBy (fun q : PairD × Nat=>q.1.s) ((⟨q.1.s,now⟩ : PairD),q.2) Q).map f = Q.map f:=fun f hf =>
    map_ins (key:=fun q : PairD × Nat=>q.1.s) (a:=((⟨q.1.s,now⟩ : PairD),q.2)) f hrq hq rfl hf
  have hlen : (insBy (fun q : PairD × Nat=>q.1.s) ((⟨q.1.s,now⟩ : PairD),q.2) Q).length = Q.length:=by
    have:=congrArg List.length (hmap (fun q=>q.2) rfl)
    simpa using this
  have hmem : ∀ p,p ∈ insBy (fun q : PairD × Nat=>q.1.s) ((⟨q.1.s,now⟩ : PairD),q.2) Q → p = ((⟨q.1.s,now⟩ : PairD),q.2) ∨ (p ∈ Q ∧ p.2 ≠ q.2):=fun p hp=>by
    rcases mem_ins hrq hp with e | ⟨hp,hne⟩
    · exact Or.inl e
    · refine Or.inr ⟨hp,fun e=>?_⟩
      have:=nodup_inj h.nd hp hq e
      rw [this] at hne
      exact hne rfl
  have hq1 : (insBy (fun q : PairD × Nat=>q.1.s) ((⟨q.1.s,now⟩ : PairD),q.2) Q).map (·.1) = (addT t q.1.s now).sers:=by
    rw [insBy_map (key':=fun p : PairD=>p.s) (fun q : PairD × Nat=>q.1) (fun _=>rfl),h.q1]
    rfl
  refine ⟨lm,sm,cm,iv,insBy (fun q : PairD × Nat=>q.1.s) ((⟨q.1.s,now⟩ : PairD),q.2) Q,hs,D,?_⟩
  exact { h with
    blk:=ht.blk h.blk (h.dx q hq).symm
    lims:=ht.map h.lims (map_ne_cells h.lims (h.cells q hq))
    sers:=by
      rw [hlen,hmap (fun q=>(q.1.s,pVal q.2)) rfl]
      exact ht.map h.sers (map_ne_cells h.sers (h.cells q hq))
    cnts:=ht.map h.cnts (map_ne_cells h.cnts (h.cells q hq))
    cnt:=fun m=>by
      rw [h.cnt m]
      have : t.sers.map (·.s) = (addT t q.1.s now).sers.map (·.s):=by
        rw [← hq1,← h.q1,List.map_map,List.map_map]
        exact (hmap ((fun p : PairD=>p.s) ∘ fun q : PairD × Nat=>q.1) rfl).symm
      rw [cntM_names this m]
    q1:=hq1
    cells:=fun p hp=>by
      rcases hmem p hp with rfl | ⟨hp,hne⟩
      · exact hb
      · exact ht.blk (h.cells p hp) hne
    row:=ht.row h.row (fun g hg e=>(h.di g hg).2 q hq e.symm)
    perm:=by rw [hmap (fun q=>q.2) rfl]; exact h.perm
    early:=fun s hs' p hp e=>by
      rcases hmem p hp with rfl | ⟨hp,_⟩
      · exact Int.le_trans (h.early s hs' q hq e) hn
      · exact h.early s hs' p hp e
    rs:=insBy_rise h.rs
    sq:=fun p hp=>by
      rcases hmem p hp with rfl | ⟨hp,_⟩
      · exact h.sq q hq
      · exact h.sq p hp
    nd:=by rw [hmap (fun q=>q.2) rfl]; exact h.nd
    dx:=fun p hp=>by
      rcases hmem p hp with rfl | ⟨hp,_⟩
      · exact h.dx q hq
      · exact h.dx p hp
    di:=fun g hg=>⟨(h.di g hg).1,fun p hp=>by
      rcases hmem p hp with rfl | ⟨hp,_⟩
      · exact (h.di g hg).2 q hq
      · exact (h.di g hg).2 p hp⟩ }
theorem led_turn {w w1 : World} {B : Nat} {T : Nat → Option Nat} {l m : Nat} {c : CfgD} {now : Int} {L : List (TenD × Nat)} {M M' : Nat} {p : TenD × Nat} {t' : TenD} (h : LedS w B T l m c now L M) (hB : B ≤ w.heap.size) (hp : p ∈ L) (hn : t'.name = p.1.name)
    (t1 : Turn (fun g=>B ≤ g ∧ T g = some p.2) w w1) (hi : IdxAt w1 (fun g=>(B ≤ g ∧ T g = some p.2) ∨ w.heap.size ≤ g) p.2 t' M') (hM : M ≤ M') :
    LedAt w1 B l m c now ((insBy (fun p : TenD × Nat=>p.1.name) (t',p.2) L).map (·.1)) M':=by
  refine led_put (n:=L.length) h hB hp hn t1 hi hM (Turn.refl _ w1) ?_
  have hput : DataW.put (mapOf (L.map fun p=>(p.1.name,pVal p.2))) (kL t'.name) (pVal p.2) = mapOf ((insBy (fun p : TenD × Nat=>p.1.name) (t',p.2) L).map fun p=>(p.1.name,pVal p.2)) :=
    put_by (key:=fun p : TenD × Nat=>p.1.name) (fun p=>pVal p.2) (t',p.2) h.rise
  have hmap : (insBy (fun p : TenD × Nat=>p.1.name) (t',p.2) L).map (fun p=>(p.1.name,pVal p.2)) = L.map fun p=>(p.1.name,pVal p.2) :=
    map_ins (key:=fun p : TenD × Nat=>p.1.name) (a:=(t',p.2)) (fun p : TenD × Nat=>(p.1.name,pVal p.2)) h.rise hp hn.symm (by simp [hn])
  rw [hput,hmap]
  exact t1.map h.ten (fun e=>by rw [h.tm] at e; cases e.2)
theorem LedAt.mono {w : World} {B l m : Nat} {c : CfgD} {now : Int} {ts : List TenD} {M M' : Nat} (h : LedAt w B l m c now ts M) (hM : M ≤ M') : LedAt w B l m c now ts M':=by
  obtain ⟨T,L,h,e⟩:=h
  exact ⟨T,L,{ h with idx:=fun p hp=>(h.idx p hp).mono hM },e⟩
theorem zeroSerA (w : World) : (zeroValue 150).run Tryz.prog w = .ok (.pointer none) w:=by kernel_rfl
theorem look_serA {w : World} {sm : Nat} {Q : List (PairD × Nat)} (h : w.ownsMap Tryz.prog 9 ptrElem sm Q.length (mapOf (Q.map fun q=>(q.1.s,pVal q.2)))) {key : ByteArray} (hk : key.size ≤ maxLen) :
    (∃ q,getBy (fun q : PairD × Nat=>q.1.s) key Q = some q ∧ (Instr.lookup 142 (.map (some sm)) (.string key) true).run Tryz.prog w = .ok (.tuple #[.pointer (some ⟨q.2,0,none⟩),.bool true]) w) ∨
    (getBy (fun q : PairD × Nat=>q.1.s) key Q = none ∧ (Instr.lookup 142 (.map (some sm)) (.string key) true).run Tryz.prog w = .ok (.tuple #[.pointer none,.bool false]) w):=by
  obtain ⟨v,ps,hrun,hv⟩:=h.look_ok keyed Tryz.underlying142 (zeroSerA w) (zd:=.nil) (zp:=[]) rfl (key_mk hk)
  rw [has_by (key:=fun q : PairD × Nat=>q.1.s) (val:=fun q=>pVal q.2)] at hrun
  rw [atKey_by (key:=fun q : PairD × Nat=>q.1.s) (fun q=>pVal q.2)] at hv
  cases hg : getBy (fun q : PairD × Nat=>q.1.s) key Q with
  | some q =>
    rw [hg] at hrun hv
    have hve : v = .pointer (some ⟨q.2,0,none⟩):=ptrElem_inv hv
    subst hve
    exact Or.inl ⟨q,rfl,hrun⟩
  | none =>
    rw [hg] at hrun hv
    have hve : v = .pointer none:=ptrElem_nil hv
    subst hve
    exact Or.inr ⟨rfl,hrun⟩
end Go.Proofs.YtkmdbpaeeagccaaGreatDoor
namespace Go.Proofs.YtkmdbpaeeagccaaGreatDoor
open Go.RowKit Go.Maps
set_option maxRecDepth 100000 in
set_option maxHeartbeats 16000000 in
theorem ladmit_any (l m : Nat) (tenant key : ByteArray) (c : CfgD) (now : Int) (B : Nat) (ts : List TenD) (M : Nat) (w : World) (h : LedAt w B l m c now ts M) (hB : B ≤ w.heap.size) (hU : UTab w) (hn : tenant.size ≤ 1048576) (hk : key.size ≤ 1048576) (hM : 1 ≤ M) (hM2 : M ≤ 1000000000) (hsl : ∀ t ∈ ts,t.sers.length ≤ 1000000000) (hlv : ∀ t ∈ ts,∀ y ∈ t.sers,y.n ≤ now) (hlen : ts.length ≤ 1000000000) :
    Calls Tryz.prog 77 #[.pointer (some ⟨l,0,none⟩),.string tenant,.string key] w fun e w'=>e = .returned (.int .i64 ((admL c now ts tenant key).2 : Nat)) ∧ LedAt w' B l m c now (admL c now ts tenant key).1 (M + 1) ∧ Turn (fun g=>B ≤ g) w w':=by
  have HLA:=hid h
  obtain ⟨T,L,h,hL⟩:=h
  have HMT : Hid (Calls Tryz.prog 96 #[.string key] w fun e w'=>e = .returned (.string (metK key)) ∧ Below w.heap.size w w'):=implMet_any key w (by omega) hU
  have HT : Hid (∀ W,Calls Tryz.prog 70 #[.string tenant] W fun e w'=>e = .returned (.bool (tnameB tenant)) ∧ w' = W):=fun W=>isTenantName_any tenant W (by unfold maxLen; omega)
  have HS : Hid (admL c now ts tenant key = if (tnameB tenant && keyOK key) = false then (ts,5) else if (getBy (·.s) key (tenOf ts tenant).sers).isSome = true then (insBy (·.name) (addT (tenOf ts tenant) key now) ts,1) else if (if (tenOf ts tenant).limit = -1 then c.tl else (tenOf ts tenant).limit) ≤ ((tenOf ts tenant).sers.length : Nat) ∨ ((getBy (·.name) tenant ts).isNone && decide (10000 ≤ ts.length)) = true then (ts,3) else if metLim (tenOf ts tenant).mets (metK key) c.ml ≤ (cntM metK (tenOf ts tenant).sers (metK key) : Nat) then (ts,4) else (insBy (·.name) (addT (tenOf ts tenant) key now) ts,2)):=rfl
  have HKO : Hid (keyOK key = !(metK key).toList.isEmpty):=rfl
  have HADD : Hid (∀ (S : Nat → Prop) (x : Nat) (t : TenD) (M0 : Nat) (W : World),IdxAt W S x t M0 → getBy (·.s) key t.sers = none → M0 ≤ 1000000000 → t.sers.length ≤ 1000000000 → Calls Tryz.prog 98 #[.pointer (some ⟨x,0,none⟩),.string key,.string (metK key),.int .i64 now] W fun e w'=>e = .returned (.tuple #[]) ∧ IdxAt w' (fun g=>S g ∨ W.heap.size ≤ g) x (addT t key now) (M0 + 1) ∧ Turn S W w'):=fun S x t M0 W hi hnew hM0 hl=>add_any x t key now S M0 W hi hnew (by unfold maxLen; omega) (metK_size key) hM0 hl
  have HML : Hid (∀ (S : Nat → Prop) (x : Nat) (t : TenD) (M0 : Nat) (W : World),Blk W l (ledV c now m) 95 → IdxAt W S x t M0 → Calls Tryz.prog 102 #[.pointer (some ⟨l,0,none⟩),.pointer (some ⟨x,0,none⟩),.string (metK key)] W fun e w'=>e = .returned (.int .i64 (metLim t.mets (metK key) c.ml)) ∧ w' = W):=fun S x t M0 W hl hi=>metricLimitOf_any l m x c now t S M0 (metK key) W hl hi (metK_size key)
  have HLK : Hid (∀ (W : World) (cm M0 : Nat) (D : DataW Unit) (n : Nat),W.ownsMap Tryz.prog 9 (plainElem Tryz.prog 3) cm M0 D → D.atKey (kL (metK key)) (iVal 0) = iVal n → (Instr.lookup 141 (.map (some cm)) (.string (metK key)) false).run Tryz.prog W = .ok (.int .i64 n) W):=fun W cm M0 D n hm hc=>look_cnt hm hc (metK_size key)
  clear hU
  rw [HKO.out] at HS
  clear HKO
  generalize metK key = mk at *
  generalize hb1 : tnameB tenant = b1 at *
  clear hb1
  generalize hR : admL c now ts tenant key = R at *
  clear hR
  by_cases h1 : b1 = false
  · have HV : Hid (R = (ts,5)):=by show _ = _; rw [HS.out,if_pos (by rw [h1]; rfl)]
    clear HS h HADD HML HLK
    subst h1
    go_enter Tryz.func77,Tryz.ntmps77
    go_wp2_with fail
    refine HMT.out.mono ?_
    rintro e w1 ⟨rfl,hb1⟩
    have HB1:=hid hb1
    clear hb1
    go_wp2_with fail
    refine (HT.out _).mono ?_
    rintro e wz ⟨rfl,hw⟩
    replace hw:=hw.symm
    subst hw
    go_wp2
    go_ret
    exact ⟨ret_int (by rw [HV.out]; rfl),by rw [HV.out]; exact (HLA.out.later HB1.out).mono (by omega),Turn.of HB1.out⟩
  have h1' : b1 = true:=by simpa using h1
  subst h1'
  clear h1
  by_cases h2 : mk.toList.isEmpty = true
  · have HV : Hid (R = (ts,5)):=by show _ = _; rw [HS.out,if_pos (by rw [h2]; rfl)]
    clear HS h HADD HML HLK
    go_enter Tryz.func77,Tryz.ntmps77
    go_wp2_with fail
    refine HMT.out.mono ?_
    rintro e w1 ⟨rfl,hb1⟩
    have HB1:=hid hb1
    clear hb1
    go_wp2_with fail
    refine (HT.out _).mono ?_
    rintro e wz ⟨rfl,hw⟩
    replace hw:=hw.symm
    subst hw
    go_wp2
    go_ret
    exact ⟨ret_int (by rw [HV.out]; rfl),by rw [HV.out]; exact (HLA.out.later HB1.out).mono (by omega),Turn.of HB1.out⟩
  have h2' : mk.toList.isEmpty = false:=by simpa using h2
  have HS2 : Hid (R = if (getBy (·.s) key (tenOf ts tenant).sers).isSome = true then (insBy (·.name) (addT (tenOf ts tenant) key now) ts,1) else if (if (tenOf ts tenant).limit = -1 then c.tl else (tenOf ts tenant).limit) ≤ ((tenOf ts tenant).sers.length : Nat) ∨ ((getBy (·.name) tenant ts).isNone && decide (10000 ≤ ts.length)) = true then (ts,3) else if metLim (tenOf ts tenant).mets mk c.ml ≤ (cntM metK (tenOf ts tenant).sers mk : Nat) then (ts,4) else (insBy (·.name) (addT (tenOf ts tenant) key now) ts,2)):=by show _ = _; rw [HS.out,if_neg (by rw [h2']; simp)]
  have HK : Hid (keyOf Tryz.prog 9 (.string tenant) = some (kL tenant)):=key_mk (by unfold maxLen; omega)
  have hsub:=hL
  subst hsub
  have hln : (L.map (·.1)).length = L.length:=List.length_map _
  have hlL : L.length ≤ 1000000000:=by omega
  have HGB : Hid (getBy (·.name) tenant (L.map (·.1)) = (getBy (fun p : TenD × Nat=>p.1.name) tenant L).map (·.1)):=isNone_led
  have HTO : Hid (tenOf (L.map (·.1)) tenant = (((getBy (fun p : TenD × Nat=>p.1.name) tenant L).map (·.1)).getD ⟨tenant,-1,[],[]⟩)):=by
    show _ = _
    unfold tenOf
    rw [HGB.out]
  have HF : Hid (∀ W,LedS W B T l m c now L M → Calls Tryz.prog 99 #[.pointer (some ⟨l,0,none⟩),.string tenant] W fun e w'=>FindOut L tenant W e w'):=fun W hW=>find_any l m tenant c now B T L M W hW (by unfold maxLen; omega)
  unfold FindOut at HF
  have HH:=hid h
  have HMB : Hid (B ≤ m ∧ B ≤ l):=⟨h.mB,h.lB⟩
  clear h HS hL h2
  go_enter Tryz.func77,Tryz.ntmps77
  go_wp2_with fail
  refine HMT.out.mono ?_
  rintro e w1 ⟨rfl,hb1⟩
  have HB1:=hid hb1
  have H1 : Hid (LedS w1 B T l m c now L M):=HH.out.keep fun g hg _=>hb1.block g hg
  have hs1:=hb1.size
  clear hb1 HMT
  go_wp2_with fail
  refine (HT.out _).mono ?_
  rintro e wz ⟨rfl,hw⟩
  replace hw:=hw.symm
  subst hw
  clear HT
  go_wp2_with fail
  refine (HF.out _ H1.out).mono ?_
  intro e w3 hfo
  have HFO:=hid hfo
  clear hfo
  rcases HFO.out with ⟨p,hg,rfl,hw⟩ | ⟨hg,x,rfl,hx,hi,hb3⟩
  · replace hw:=hw.symm
    subst hw
    obtain ⟨hp,hpn⟩:=getBy_mem hg
    have HTE : Hid (tenOf (L.map (·.1)) tenant = p.1):=by show _ = _; rw [HTO.out,hg]; rfl
    have HGS : Hid (getBy (·.name) tenant (L.map (·.1)) = some p.1):=by show _ = _; rw [HGB.out,hg]; rfl
    rw [HTE.out,HGS.out] at HS2
    have hpl : p.1.sers.length ≤ 1000000000:=hsl p.1 (List.mem_map_of_mem hp)
    have HNW : Hid (∀ y ∈ p.1.sers,y.n ≤ now):=hlv p.1 (List.mem_map_of_mem hp)
    have HP : Hid (p ∈ L ∧ p.1.name = tenant):=⟨hp,hpn⟩
    have HIX : Hid (IdxAt w1 (fun g=>B ≤ g ∧ T g = some p.2) p.2 p.1 M):=H1.out.idx p hp
    have HLB : Hid (Blk w1 l (ledV c now m) 95):=H1.out.blk
    have HBW : Hid (Below w.heap.size w w1):=HB1.out
    have HL1:=H1
    clear HFO hg hp hpn HTO HGB HTE HGS HF
    generalize ht : p.1 = t at *
    obtain ⟨lm,sm,cm,iv,Q,hs,D,hi⟩:=HIX.out
    have HI:=hid hi
    have HQ1 : Hid (Q.map (·.1) = t.sers):=hi.q1
    have x2 : w1.cell? ⟨p.2,2,none⟩ = some (.map (some sm)):=hi.blk.cell 2
    have x6 : w1.cell? ⟨l,6,none⟩ = some (.int .i64 now):=HLB.out.cell 6
    have HLO : Hid (Calls Tryz.prog 100 #[.pointer (some ⟨l,0,none⟩),.pointer (some ⟨p.2,0,none⟩)] w1 fun e w'=>e = .returned (.int .i64 (if t.limit = -1 then c.tl else t.limit)) ∧ w' = w1):=limitOf_any l m p.2 c now t (fun g=>B ≤ g ∧ T g = some p.2) M w1 HLB.out HIX.out
    have l2:=hi.sers.len Tryz.underlying142 3
    rw [size_by] at l2
    have hqn : Q.length = t.sers.length:=by rw [← hi.q1,List.length_map]
    rw [hqn] at l2
    have HGQ : Hid (getBy (·.s) key t.sers = (getBy (fun q : PairD × Nat=>q.1.s) key Q).map (·.1)):=by
      show _ = _
      rw [← hi.q1]
      exact getBy_map (key:=fun q : PairD × Nat=>q.1.s) (key':=fun p : PairD=>p.s) (fun q=>q.1) (fun _=>rfl) key Q
    have HLS:=hid (look_serA hi.sers (key:=key) (by unfold maxLen; omega))
    have HMLY : Hid (∀ y : Later w1,Calls Tryz.prog 102 #[.pointer (some ⟨l,0,none⟩),.pointer (some ⟨p.2,0,none⟩),.string mk] y.w' fun e w'=>e = .returned (.int .i64 (metLim t.mets mk c.ml)) ∧ w' = y.w'):=fun y=>HML.out _ p.2 t M y.w' (HLB.out.later y.h) (HIX.out.later y.h)
    have c3 : w1.cell? ⟨p.2,3,none⟩ = some (.map (some cm)):=hi.blk.cell 3
    have d3:=Later.cells c3
    have HC : Hid (∀ y : Later w1,∃ cm,y.w'.cell? ⟨p.2,3,none⟩ = some (.map (some cm)) ∧ (Instr.lookup 141 (.map (some cm)) (.string mk) false).run Tryz.prog y.w' = .ok (.int .i64 (cntM metK t.sers mk)) y.w'):=fun y=>by
      obtain ⟨lm,sm,cm,iv,Q,hs,D,hi⟩:=HIX.out.later y.h
      exact ⟨cm,hi.blk.cell 3,HLK.out _ cm M D _ hi.cnts (hi.cnt mk)⟩
    have HCR : Hid (∀ y : Later w1,(Instr.lookup 141 (.map (some cm)) (.string mk) false).run Tryz.prog y.w' = .ok (.int .i64 (cntM metK t.sers mk)) y.w'):=fun y=>by
      obtain ⟨cm',h1,h2⟩:=HC.out y
      rw [d3 y] at h1
      cases h1
      exact h2
    have HNL : Hid (t.sers.length ≤ 1000000000):=hpl
    clear HML HLK HC hi c3 hpl hqn
    rcases HLS.out with ⟨q,hq,hrun⟩ | ⟨hq,hrun⟩
    · have HGK : Hid (getBy (·.s) key t.sers = some q.1):=by show _ = _; rw [HGQ.out,hq]; rfl
      have HV : Hid (R = (insBy (·.name) (addT t key now) (L.map (·.1)),1)):=by show _ = _; rw [HS2.out,if_pos (by rw [HGK.out]; rfl)]
      obtain ⟨hqm,hqk⟩:=getBy_mem hq
      have hqb:=HI.out.cells q hqm
      have HQB:=hid hqb
      have y1 : w1.cell? ⟨q.2,1,none⟩ = some (.int .i64 q.1.n):=hqb.cell 1
      have fy1:=hqb.free 1
      have ht1 : Turn (· = q.2) w1 (w1.setCell ⟨q.2,1,none⟩ (.int .i64 now)):=(Turn.refl (· = q.2) w1).setCell (Or.inl rfl) 1 _
      have hbq : Blk (w1.setCell ⟨q.2,1,none⟩ (.int .i64 now)) q.2 #[.string q.1.s,.int .i64 now] 84:=by have:=hqb.set 1 (.int .i64 now); simpa using this
      have hin : IdxAt (w1.setCell ⟨q.2,1,none⟩ (.int .i64 now)) (fun g=>B ≤ g ∧ T g = some p.2) p.2 (addT t key now) M:=by
        have:=HI.out.seen hqm (HNW.out q.1 (by rw [← HQ1.out]; exact List.mem_map_of_mem hqm)) ht1 hbq
        rw [hqk] at this
        exact this
      have hts : Turn (fun g=>B ≤ g ∧ T g = some p.2) w1 (w1.setCell ⟨q.2,1,none⟩ (.int .i64 now)):=ht1.mono fun i _ e=>by subst e; exact HI.out.sq q hqm
      have HL6 : Hid (LedAt (w1.setCell ⟨q.2,1,none⟩ (.int .i64 now)) B l m c now (insBy (·.name) (addT t key now) (L.map (·.1))) (M + 1)):=by
        refine hid ?_
        have:=led_turn (p:=p) (t':=addT t key now) (M':=M) HL1.out (by omega) HP.out.1 (by rw [ht]; rfl) hts (hin.keep fun g _ hs=>⟨rfl,Or.inl hs⟩) (Nat.le_refl _)
        rw [insBy_map (key':=fun t : TenD=>t.name) (fun p : TenD × Nat=>p.1) (fun _=>rfl)] at this
        exact this.mono (by omega)
      have HT6 : Hid (Turn (fun g=>B ≤ g) w (w1.setCell ⟨q.2,1,none⟩ (.int .i64 now))):=(Turn.of HBW.out).trans' (hts.mono fun i _ e=>e.1)
      clear hqb ht1 hbq hin hts hqm hqk hq HI HLS HQB l2
      go_wp2
      go_ret
      exact ⟨ret_int (by rw [HV.out]; rfl),by rw [HV.out]; exact HL6.out,HT6.out⟩
    · have HGK : Hid (getBy (·.s) key t.sers = none):=by show _ = _; rw [HGQ.out,hq]; rfl
      rw [HGK.out] at HS2
      have HADY : Hid (∀ W,Below w1.heap.size w1 W → Calls Tryz.prog 98 #[.pointer (some ⟨p.2,0,none⟩),.string key,.string mk,.int .i64 now] W fun e w'=>e = .returned (.tuple #[]) ∧ IdxAt w' (fun g=>(fun g=>B ≤ g ∧ T g = some p.2) g ∨ W.heap.size ≤ g) p.2 (addT t key now) (M + 1) ∧ Turn (fun g=>B ≤ g ∧ T g = some p.2) W w'):=fun W hW=>HADD.out _ p.2 t M W (HIX.out.later hW) HGK.out (by omega) HNL.out
      clear HADD
      have HS3 : Hid (R = if (if t.limit = -1 then c.tl else t.limit) ≤ (t.sers.length : Nat) ∨ ((some t).isNone && decide (10000 ≤ (L.map (·.1)).length)) = true then (L.map (·.1),3) else if metLim t.mets mk c.ml ≤ (cntM metK t.sers mk : Nat) then (L.map (·.1),4) else (insBy (·.name) (addT t key now) (L.map (·.1)),2)):=by show _ = _; rw [HS2.out,if_neg (by simp)]
      clear HS2 hq HLS HGQ
      generalize (if t.limit = -1 then c.tl else t.limit) = LM at *
      generalize hNS : t.sers.length = NS at *
      clear hNS
      by_cases hge : LM ≤ (NS : Int)
      · have HV : Hid (R = (L.map (·.1),3)):=by show _ = _; rw [HS3.out,if_pos (Or.inl hge)]
        clear HS3
        go_wp2_with fail
        refine HLO.out.mono ?_
        rintro e wz ⟨rfl,hw⟩
        replace hw:=hw.symm
        subst hw
        go_wp2
        go_ret
        exact ⟨ret_int (by rw [HV.out]; rfl),by rw [HV.out]; exact (show LedAt w1 B l m c now (L.map (·.1)) (M + 1) from LedAt.mono ⟨T,L,HL1.out,rfl⟩ (by omega)),Turn.of HBW.out⟩
      have HS4 : Hid (R = if metLim t.mets mk c.ml ≤ (cntM metK t.sers mk : Nat) then (L.map (·.1),4) else (insBy (·.name) (addT t key now) (L.map (·.1)),2)):=by show _ = _; rw [HS3.out,if_neg (by intro e; rcases e with e | e; exact hge e; simp at e)]
      clear HS3
      go_wp2_with fail
      refine HLO.out.mono ?_
      rintro e wz ⟨rfl,hw⟩
      replace hw:=hw.symm
      subst hw
      have hrun : ∀ y : Later w1,(Instr.lookup 141 (.map (some cm)) (.string mk) false).run Tryz.prog y.w' = .ok (.int .i64 (cntM metK t.sers mk)) y.w':=HCR.out
      have hnel:=Later.there w1
      clear HLO HCR l2 x2 HI
      generalize hNC : cntM metK t.sers mk = NC at *
      generalize hNL : metLim t.mets mk c.ml = NL at *
      clear hNC hNL
      by_cases hme2 : NL ≤ (NC : Int)
      · have HV : Hid (R = (L.map (·.1),4)):=by show _ = _; rw [HS4.out,if_pos hme2]
        clear HS4
        go_wp2_with fail
        refine wp_region_later (by kernel_rfl) (by kernel_rfl) ?_
        repeat (go_big_quiet_step (first | (go_at_call 102; exact calls_later_same (HMLY.out _)) | fail))
        refine wpQuiet_nil ?_
        rintro _ ⟨y,rfl⟩
        go_wp2
        go_ret
        exact ⟨ret_int (by rw [HV.out]; rfl),by rw [HV.out]; exact (show LedAt y.w' B l m c now (L.map (·.1)) (M + 1) from LedAt.mono ⟨T,L,(HL1.out.keep fun g hg _=>y.h.block g hg),rfl⟩ (by omega)),Turn.of (bto HBW.out y.h)⟩
      · have HV : Hid (R = (insBy (·.name) (addT t key now) (L.map (·.1)),2)):=by show _ = _; rw [HS4.out,if_neg hme2]
        clear HS4
        go_wp2_with fail
        refine wp_region_later (by kernel_rfl) (by kernel_rfl) ?_
        repeat (go_big_quiet_step (first | (go_at_call 102; exact calls_later_same (HMLY.out _)) | fail))
        refine wpQuiet_nil ?_
        rintro _ ⟨y,rfl⟩
        have HY : Hid (Below w1.heap.size w1 y.w'):=y.h
        clear hrun d3 hnel HMLY x6
        generalize y.w' = W2 at *
        clear y
        have x6 : W2.cell? ⟨l,6,none⟩ = some (.int .i64 now):=(HLB.out.later HY.out).cell 6
        have H2 : Hid (LedS W2 B T l m c now L M):=HL1.out.keep fun g hg _=>HY.out.block g hg
        have hs2:=HY.out.size
        go_wp2_with fail
        refine (HADY.out W2 HY.out).mono ?_
        rintro e w4 ⟨rfl,hi4,ht4⟩
        have HI4:=hid hi4
        have HT4:=hid ht4
        have hs4:=ht4.size
        have HTEN : Hid (w4.ownsMap Tryz.prog 9 ptrElem m L.length (mapOf (L.map fun p=>(p.1.name,pVal p.2)))):=ht4.map H2.out.ten (fun e=>by rw [H2.out.tm] at e; cases e.2)
        have x7 : w4.cell? ⟨l,7,none⟩ = some (.map (some m)):=(ht4.blk H2.out.blk (fun e=>by rw [H2.out.tl] at e; cases e.2)).cell 7
        have HTW : Hid (Turn (fun g=>B ≤ g) w w4):=((Turn.of HBW.out).trans' (Turn.of HY.out)).trans' (ht4.mono fun i _ e=>e.1)
        clear hi4 ht4 HADY
        obtain ⟨w6,run6,own6,tn6⟩:=HTEN.out.store keyed Tryz.underlying93 (by unfold maxLen; omega) HK.out (ptrElem_mk p.2)
        have ht6:=Turn.mapped tn6
        have HL6 : Hid (LedAt w6 B l m c now (insBy (·.name) (addT t key now) (L.map (·.1))) (M + 1)):=by
          refine hid ?_
          have hnm : (addT t key now).name = p.1.name:=by rw [ht]; rfl
          have own7:=own6
          rw [← HP.out.2] at own7
          have:=led_put (p:=p) (t':=addT t key now) (M':=M + 1) H2.out (by omega) HP.out.1 hnm HT4.out HI4.out (by omega) ht6 own7
          rw [insBy_map (key':=fun t : TenD=>t.name) (fun p : TenD × Nat=>p.1) (fun _=>rfl)] at this
          exact this
        have HT6 : Hid (Turn (fun g=>B ≤ g) w w6):=HTW.out.trans' (ht6.mono fun i _ e=>by have:=HMB.out; omega)
        clear own6 tn6 ht6
        go_wp2
        go_ret
        exact ⟨ret_int (by rw [HV.out]; rfl),by rw [HV.out]; exact HL6.out,HT6.out⟩
  · have HTE : Hid (tenOf (L.map (·.1)) tenant = ⟨tenant,-1,[],[]⟩):=by show _ = _; rw [HTO.out,hg]; rfl
    have HGS : Hid (getBy (·.name) tenant (L.map (·.1)) = none):=by show _ = _; rw [HGB.out,hg]; rfl
    rw [HTE.out,HGS.out] at HS2
    have HIX : Hid (IdxAt w3 (fun g=>w1.heap.size ≤ g) x ⟨tenant,-1,[],[]⟩ 0):=hi
    have HLB : Hid (Blk w3 l (ledV c now m) 95):=H1.out.blk.later hb3
    have HBW : Hid (Below w.heap.size w w3):=bto HB1.out hb3
    have HL1 : Hid (LedS w3 B T l m c now L M):=H1.out.keep fun g hg _=>hb3.block g hg
    have HG:=hid hg
    have B3:=hid hb3
    have hs3:=hb3.size
    have hpl : (⟨tenant,-1,[],[]⟩ : TenD).sers.length ≤ 1000000000:=by simp
    have HTN : Hid ((⟨tenant,-1,[],[]⟩ : TenD).name = tenant):=rfl
    have HTS : Hid ((⟨tenant,-1,[],[]⟩ : TenD).sers = []):=rfl
    clear HFO hg hi hb3 HTO HGB HTE HGS HF
    generalize (⟨tenant,-1,[],[]⟩ : TenD) = t at *
    obtain ⟨lm,sm,cm,iv,Q,hs,D,hi⟩:=HIX.out
    have HI:=hid hi
    have HQ1 : Hid (Q.map (·.1) = t.sers):=hi.q1
    have x2 : w3.cell? ⟨x,2,none⟩ = some (.map (some sm)):=hi.blk.cell 2
    have x6 : w3.cell? ⟨l,6,none⟩ = some (.int .i64 now):=HLB.out.cell 6
    have HLO : Hid (Calls Tryz.prog 100 #[.pointer (some ⟨l,0,none⟩),.pointer (some ⟨x,0,none⟩)] w3 fun e w'=>e = .returned (.int .i64 (if t.limit = -1 then c.tl else t.limit)) ∧ w' = w3):=limitOf_any l m x c now t (fun g=>w1.heap.size ≤ g) 0 w3 HLB.out HIX.out
    have l2:=hi.sers.len Tryz.underlying142 3
    rw [size_by] at l2
    have hqn : Q.length = t.sers.length:=by rw [← hi.q1,List.length_map]
    rw [hqn] at l2
    have HGQ : Hid (getBy (·.s) key t.sers = (getBy (fun q : PairD × Nat=>q.1.s) key Q).map (·.1)):=by
      show _ = _
      rw [← hi.q1]
      exact getBy_map (key:=fun q : PairD × Nat=>q.1.s) (key':=fun p : PairD=>p.s) (fun q=>q.1) (fun _=>rfl) key Q
    have HLS:=hid (look_serA hi.sers (key:=key) (by unfold maxLen; omega))
    have HMLY : Hid (∀ y : Later w3,Calls Tryz.prog 102 #[.pointer (some ⟨l,0,none⟩),.pointer (some ⟨x,0,none⟩),.string mk] y.w' fun e w'=>e = .returned (.int .i64 (metLim t.mets mk c.ml)) ∧ w' = y.w'):=fun y=>HML.out _ x t 0 y.w' (HLB.out.later y.h) (HIX.out.later y.h)
    have c3 : w3.cell? ⟨x,3,none⟩ = some (.map (some cm)):=hi.blk.cell 3
    have d3:=Later.cells c3
    have HC : Hid (∀ y : Later w3,∃ cm,y.w'.cell? ⟨x,3,none⟩ = some (.map (some cm)) ∧ (Instr.lookup 141 (.map (some cm)) (.string mk) false).run Tryz.prog y.w' = .ok (.int .i64 (cntM metK t.sers mk)) y.w'):=fun y=>by
      obtain ⟨lm,sm,cm,iv,Q,hs,D,hi⟩:=HIX.out.later y.h
      exact ⟨cm,hi.blk.cell 3,HLK.out _ cm 0 D _ hi.cnts (hi.cnt mk)⟩
    have HCR : Hid (∀ y : Later w3,(Instr.lookup 141 (.map (some cm)) (.string mk) false).run Tryz.prog y.w' = .ok (.int .i64 (cntM metK t.sers mk)) y.w'):=fun y=>by
      obtain ⟨cm',h1,h2⟩:=HC.out y
      rw [d3 y] at h1
      cases h1
      exact h2
    have HNL : Hid (t.sers.length ≤ 1000000000):=hpl
    clear HML HLK HC hi c3 hpl hqn
    have hq0 : Q = []:=by have:=HQ1.out; rw [HTS.out] at this; simpa using this
    rcases HLS.out with ⟨q,hq,hrun⟩ | ⟨hq,hrun⟩
    · rw [hq0] at hq
      cases hq
    · clear hq0
      have HGK : Hid (getBy (·.s) key t.sers = none):=by show _ = _; rw [HGQ.out,hq]; rfl
      rw [HGK.out] at HS2
      have HADY : Hid (∀ W,Below w3.heap.size w3 W → Calls Tryz.prog 98 #[.pointer (some ⟨x,0,none⟩),.string key,.string mk,.int .i64 now] W fun e w'=>e = .returned (.tuple #[]) ∧ IdxAt w' (fun g=>(fun g=>w1.heap.size ≤ g) g ∨ W.heap.size ≤ g) x (addT t key now) (0 + 1) ∧ Turn (fun g=>w1.heap.size ≤ g) W w'):=fun W hW=>HADD.out _ x t 0 W (HIX.out.later hW) HGK.out (by omega) HNL.out
      clear HADD
      have HS3 : Hid (R = if (if t.limit = -1 then c.tl else t.limit) ≤ (t.sers.length : Nat) ∨ (((none : Option TenD)).isNone && decide (10000 ≤ (L.map (·.1)).length)) = true then (L.map (·.1),3) else if metLim t.mets mk c.ml ≤ (cntM metK t.sers mk : Nat) then (L.map (·.1),4) else (insBy (·.name) (addT t key now) (L.map (·.1)),2)):=by show _ = _; rw [HS2.out,if_neg (by simp)]
      clear HS2 hq HLS HGQ
      generalize (if t.limit = -1 then c.tl else t.limit) = LM at *
      generalize hNS : t.sers.length = NS at *
      clear hNS
      by_cases hge : LM ≤ (NS : Int)
      · have HV : Hid (R = (L.map (·.1),3)):=by show _ = _; rw [HS3.out,if_pos (Or.inl hge)]
        clear HS3
        go_wp2_with fail
        refine HLO.out.mono ?_
        rintro e wz ⟨rfl,hw⟩
        replace hw:=hw.symm
        subst hw
        go_wp2
        go_ret
        exact ⟨ret_int (by rw [HV.out]; rfl),by rw [HV.out]; exact (show LedAt w3 B l m c now (L.map (·.1)) (M + 1) from LedAt.mono ⟨T,L,HL1.out,rfl⟩ (by omega)),Turn.of HBW.out⟩
      have HFU : Hid (Calls Tryz.prog 101 #[.pointer (some ⟨l,0,none⟩)] w3 fun e w'=>e = .returned (.bool (decide (10000 ≤ L.length))) ∧ w' = w3):=full_any l m c now B T L M w3 HL1.out
      by_cases hfl : 10000 ≤ L.length
      · have HV : Hid (R = (L.map (·.1),3)):=by show _ = _; rw [HS3.out,if_pos (Or.inr (by rw [hln]; simpa using hfl))]
        have hfd : decide (10000 ≤ L.length) = true:=by simpa using hfl
        rw [hfd] at HFU
        clear HS3 hfd hfl
        go_wp2_with fail
        refine HLO.out.mono ?_
        rintro e wz ⟨rfl,hw⟩
        replace hw:=hw.symm
        subst hw
        go_wp2_with fail
        refine HFU.out.mono ?_
        rintro e wz ⟨rfl,hw⟩
        replace hw:=hw.symm
        subst hw
        go_wp2
        go_ret
        exact ⟨ret_int (by rw [HV.out]; rfl),by rw [HV.out]; exact (show LedAt w3 B l m c now (L.map (·.1)) (M + 1) from LedAt.mono ⟨T,L,HL1.out,rfl⟩ (by omega)),Turn.of HBW.out⟩
      have hfd : decide (10000 ≤ L.length) = false:=by simpa using hfl
      rw [hfd] at HFU
      have HS4 : Hid (R = if metLim t.mets mk c.ml ≤ (cntM metK t.sers mk : Nat) then (L.map (·.1),4) else (insBy (·.name) (addT t key now) (L.map (·.1)),2)):=by show _ = _; rw [HS3.out,if_neg (by intro e; rcases e with e | e; exact hge e; rw [hln,hfd] at e; simp at e)]
      clear HS3 hfd
      go_wp2_with fail
      refine HLO.out.mono ?_
      rintro e wz ⟨rfl,hw⟩
      replace hw:=hw.symm
      subst hw
      go_wp2_with fail
      refine HFU.out.mono ?_
      rintro e wz ⟨rfl,hw⟩
      replace hw:=hw.symm
      subst hw
      have hrun : ∀ y : Later w3,(Instr.lookup 141 (.map (some cm)) (.string mk) false).run Tryz.prog y.w' = .ok (.int .i64 (cntM metK t.sers mk)) y.w':=HCR.out
      have hnel:=Later.there w3
      clear HLO HCR l2 x2 HI
      generalize hNC : cntM metK t.sers mk = NC at *
      generalize hNL : metLim t.mets mk c.ml = NL at *
      clear hNC hNL
      by_cases hme2 : NL ≤ (NC : Int)
      · have HV : Hid (R = (L.map (·.1),4)):=by show _ = _; rw [HS4.out,if_pos hme2]
        clear HS4
        go_wp2_with fail
        refine wp_region_later (by kernel_rfl) (by kernel_rfl) ?_
        repeat (go_big_quiet_step (first | (go_at_call 102; exact calls_later_same (HMLY.out _)) | fail))
        refine wpQuiet_nil ?_
        rintro _ ⟨y,rfl⟩
        go_wp2
        go_ret
        exact ⟨ret_int (by rw [HV.out]; rfl),by rw [HV.out]; exact (show LedAt y.w' B l m c now (L.map (·.1)) (M + 1) from LedAt.mono ⟨T,L,(HL1.out.keep fun g hg _=>y.h.block g hg),rfl⟩ (by omega)),Turn.of (bto HBW.out y.h)⟩
      · have HV : Hid (R = (insBy (·.name) (addT t key now) (L.map (·.1)),2)):=by show _ = _; rw [HS4.out,if_neg hme2]
        clear HS4
        go_wp2_with fail
        refine wp_region_later (by kernel_rfl) (by kernel_rfl) ?_
        repeat (go_big_quiet_step (first | (go_at_call 102; exact calls_later_same (HMLY.out _)) | fail))
        refine wpQuiet_nil ?_
        rintro _ ⟨y,rfl⟩
        have HY : Hid (Below w3.heap.size w3 y.w'):=y.h
        clear hrun d3 hnel HMLY x6
        generalize y.w' = W2 at *
        clear y
        have x6 : W2.cell? ⟨l,6,none⟩ = some (.int .i64 now):=(HLB.out.later HY.out).cell 6
        have H2 : Hid (LedS W2 B T l m c now L M):=HL1.out.keep fun g hg _=>HY.out.block g hg
        have hs2:=HY.out.size
        go_wp2_with fail
        refine (HADY.out W2 HY.out).mono ?_
        rintro e w4 ⟨rfl,hi4,ht4⟩
        have HI4:=hid hi4
        have HT4:=hid ht4
        have hs4:=ht4.size
        have BB : Hid (Below w1.heap.size w1 w4):=(bto B3.out HY.out).trans (ht4.below (by omega) fun i hi e=>by omega)
        have H4 : Hid (LedS w4 B T l m c now L M):=H1.out.keep fun g hg _=>BB.out.block g hg
        have HTEN:=hid H4.out.ten
        have x7 : w4.cell? ⟨l,7,none⟩ = some (.map (some m)):=H4.out.blk.cell 7
        have HTW : Hid (Turn (fun g=>B ≤ g) w w4):=(Turn.of HB1.out).trans' (Turn.of BB.out)
        clear hi4 ht4 HADY
        obtain ⟨w6,run6,own6,tn6⟩:=HTEN.out.store keyed Tryz.underlying93 (by unfold maxLen; omega) HK.out (ptrElem_mk x)
        have ht6:=Turn.mapped tn6
        have HL6 : Hid (LedAt w6 B l m c now (insBy (·.name) (addT t key now) (L.map (·.1))) (M + 1)):=by
          refine hid ?_
          have own7:=own6
          rw [← HTN.out] at own7
          have:=(load_end (x:=x) (t:=addT t key now) (M':=1) H1.out (by omega) (by show getBy (fun p : TenD × Nat=>p.1.name) t.name L = none; rw [HTN.out]; exact HG.out) (Below.refl _ _) BB.out hx ht6 own7 (Turn.refl _ w6) (HI4.out.keep fun g hg hs=>⟨ht6.block g hg (fun e=>by have:=H1.out.ten.lt; rcases hs with hs | hs <;> omega),by rcases hs with hs | hs <;> omega⟩) hM).mono (show M ≤ M + 1 by omega)
          rw [insBy_map (key':=fun t : TenD=>t.name) (fun p : TenD × Nat=>p.1) (fun _=>rfl)] at this
          exact this
        have HT6 : Hid (Turn (fun g=>B ≤ g) w w6):=HTW.out.trans' (ht6.mono fun i _ e=>by have:=HMB.out; omega)
        clear own6 tn6 ht6
        go_wp2
        go_ret
        exact ⟨ret_int (by rw [HV.out]; rfl),by rw [HV.out]; exact HL6.out,HT6.out⟩
end Go.Proofs.YtkmdbpaeeagccaaGreatDoor
