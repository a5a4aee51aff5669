import Derived.Test.YtkmdbpaeeagccaaGreatDoorProg
import Derived.Test.YtkmdbpaeeagccaaGreatDoorJ21IExp
import Derived.Maps.RangeWalk
import Derived.Test.YtkmdbpaeeagccaaGreatDoorJ01Own
namespace Go.Proofs.YtkmdbpaeeagccaaGreatDoor
open Go.RowKit Go.Maps
theorem ranges_turn {H : Type} {P : Program} {k : TypeId} {R : Value → Option (DataW H × List MemPlace)} {w w' : World} {b r n : Nat} {D : DataW H} {left : Lit → Bool} {cnt : Nat} {S : Nat → Prop} (h : w.ranges P k R b r n D left cnt) (ht : Turn S w w') (hb : ¬ S b) (hr : ¬ S r) : w'.ranges P k R b r n D left cnt:=by
  have h1:=h.owns.lt
  have h2:=h.lt
  obtain ⟨es,clock,since,seen,c0,e1,F,hs,hD,e2,rest⟩:=h
  exact ⟨es,clock,since,seen,c0,(ht.block b h1 hb).trans e1,F,hs,hD,(ht.block r h2 hr).trans e2,rest⟩
theorem str_key {key : Value} {kl : Lit} (h : keyOf Tryz.prog 9 key = some kl) : ∃ s,key = .string s ∧ kl = kL s ∧ s.size ≤ maxLen:=WideMaps.string_of_keyOf Tryz.underlying9 h
theorem LedS.trim {w : World} {B : Nat} {T : Nat → Option Nat} {l m : Nat} {c : CfgD} {now : Int} {L : List (TenD × Nat)} {M : Nat} (h : LedS w B T l m c now L M) : LedS w B (fun g=>if g < w.heap.size then T g else none) l m c now L M :=
  { h with
    idx:=fun p hp=>(h.idx p hp).keep fun g hg hs=>⟨rfl,hs.1,by show (if g < w.heap.size then T g else none) = _; rw [if_pos hg]; exact hs.2⟩
    tl:=by show (if l < w.heap.size then T l else none) = none; rw [if_pos (lt_of_block h.blk)]; exact h.tl
    tm:=by show (if m < w.heap.size then T m else none) = none; rw [if_pos h.ten.lt]; exact h.tm }
theorem LedS.aside {w w' : World} {B : Nat} {T : Nat → Option Nat} {l m r : Nat} {c : CfgD} {now : Int} {L : List (TenD × Nat)} {M : Nat} (h : LedS w B T l m c now L M) (ht : Turn (· = r) w w') (hr : T r = none) (hl : l ≠ r) (hm : m ≠ r) : LedS w' B T l m c now L M :=
  { h with
    blk:=ht.blk h.blk hl
    ten:=ht.map h.ten hm
    idx:=fun p hp=>(h.idx p hp).keep fun g hg hs=>⟨ht.block g hg (fun e=>by rw [e,hr] at hs; cases hs.2),hs⟩ }
theorem LedS.moved {w w' : World} {B : Nat} {T : Nat → Option Nat} {l m : Nat} {c : CfgD} {now now' : Int} {L : List (TenD × Nat)} {M : Nat} (h : LedS w B T l m c now L M) (ht : Turn (· = l) w w') (hb : Blk w' l (ledV c now' m) 95) : LedS w' B T l m c now' L M :=
  { h with
    blk:=hb
    ten:=ht.map h.ten h.lm
    idx:=fun p hp=>(h.idx p hp).keep fun g hg hs=>⟨ht.block g hg (fun e=>by rw [e,h.tl] at hs; cases hs.2),hs⟩ }
theorem LedS.turned {w w1 : World} {B : Nat} {T : Nat → Option Nat} {l m : Nat} {c : CfgD} {now : Int} {L : List (TenD × Nat)} {M : Nat} {p : TenD × Nat} {t' : TenD} (h : LedS w B T l m c now L M) (hB : B ≤ w.heap.size) (hp : p ∈ L) (hn : t'.name = p.1.name)
    (t1 : Turn (fun g=>B ≤ g ∧ T g = some p.2) w w1) (hi : IdxAt w1 (fun g=>(B ≤ g ∧ T g = some p.2) ∨ w.heap.size ≤ g) p.2 t' M) :
    LedS w1 B (fun g=>if g < w.heap.size then T g else some p.2) l m c now (insBy (fun p : TenD × Nat=>p.1.name) (t',p.2) L) M:=by
  have hl:=lt_of_block h.blk
  have hm:=h.ten.lt
  have hmap : (insBy (fun p : TenD × Nat=>p.1.name) (t',p.2) L).map (fun p=>(p.1.name,pVal p.2)) = L.map fun p=>(p.1.name,pVal p.2) :=
    map_ins (key:=fun p : TenD × Nat=>p.1.name) (a:=(t',p.2)) (fun p : TenD × Nat=>(p.1.name,pVal p.2)) h.rise hp hn.symm (by simp [hn])
  have hlen : (insBy (fun p : TenD × Nat=>p.1.name) (t',p.2) L).length = L.length:=by
    have:=congrArg List.length hmap
    simpa using this
  have hnd : ∀ q ∈ L,q.1.name ≠ t'.name → q.2 ≠ p.2:=fun q hq hne e=>by
    have:=nodup_inj h.nd hq hp e
    rw [this,hn] at hne
    exact hne rfl
  exact {
    blk:=t1.blk h.blk (fun e=>by rw [h.tl] at e; cases e.2)
    ten:=by rw [hmap,hlen]; exact t1.map h.ten (fun e=>by rw [h.tm] at e; cases e.2)
    rise:=insBy_rise h.rise
    idx:=fun q hq=>by
      rcases mem_ins h.rise hq with rfl | ⟨hq,hne⟩
      · refine hi.keep fun g hg hs=>⟨rfl,?_,?_⟩
        · rcases hs with hs | hs
          · exact hs.1
          · omega
        · show (if g < w.heap.size then T g else some p.2) = some p.2
          by_cases hg' : g < w.heap.size
          · rw [if_pos hg']
            rcases hs with hs | hs
            · exact hs.2
            · omega
          · rw [if_neg hg']
      · refine (h.idx q hq).keep fun g hg hs=>⟨t1.block g hg (fun e=>?_),hs.1,?_⟩
        · have:=hnd q hq hne
          rw [e.2] at hs
          exact this (Option.some.inj hs.2).symm
        · show (if g < w.heap.size then T g else some p.2) = _
          rw [if_pos hg]; exact hs.2
    nd:=by
      rw [map_ins (key:=fun p : TenD × Nat=>p.1.name) (a:=(t',p.2)) (·.2) h.rise hp hn.symm rfl]
      exact h.nd
    tl:=by show (if l < w.heap.size then T l else _) = none; rw [if_pos hl]; exact h.tl
    tm:=by show (if m < w.heap.size then T m else _) = none; rw [if_pos hm]; exact h.tm
    lB:=h.lB
    mB:=h.mB }
theorem LedS.left {w w1 w2 : World} {B : Nat} {T : Nat → Option Nat} {l m n : Nat} {c : CfgD} {now : Int} {L : List (TenD × Nat)} {M : Nat} {k : ByteArray} {S : Nat → Prop} (h : LedS w B T l m c now L M) (hS : ∀ g,S g → ∀ q ∈ L,q.1.name ≠ k → T g ≠ some q.2) (hS2 : ∀ g,g < w.heap.size → S g → T g ≠ none)
    (t1 : Turn S w w1) (t2 : Turn (· = m) w1 w2) (own2 : w2.ownsMap Tryz.prog 9 ptrElem m n (DataW.del (mapOf (L.map fun p=>(p.1.name,pVal p.2))) (kL k))) :
    LedS w2 B T l m c now (delBy (fun p : TenD × Nat=>p.1.name) k L) M:=by
  have hl:=lt_of_block h.blk
  have h1:=t1.size
  have hdel : DataW.del (mapOf (L.map fun p=>(p.1.name,pVal p.2))) (kL k) = mapOf ((delBy (fun p : TenD × Nat=>p.1.name) k L).map fun p=>(p.1.name,pVal p.2)) :=
    del_by (key:=fun p : TenD × Nat=>p.1.name) (fun p=>pVal p.2) k L
  have hkeep : ∀ g,g < w.heap.size → ¬ S g → g ≠ m → w2.heap[g]? = w.heap[g]?:=fun g hg h3 h4=>by
    rw [t2.block g (by omega) h4,t1.block g hg h3]
  exact {
    blk:=(hkeep l hl (fun e=>hS2 l hl e h.tl) h.lm.symm).trans h.blk
    ten:=by
      have:=tight own2
      rw [hdel,size_by] at this
      exact this
    rise:=delBy_rise h.rise
    idx:=fun q hq=>by
      obtain ⟨hq,hne⟩:=mem_delBy.1 hq
      exact (h.idx q hq).keep fun g hg hs=>⟨hkeep g hg (fun e=>hS g e q hq hne hs.2) (fun e=>by rw [e,h.tm] at hs; cases hs.2),hs⟩
    nd:=h.nd.sublist (List.Sublist.map _ List.filter_sublist)
    tl:=h.tl
    tm:=h.tm
    lB:=h.lB
    mB:=h.mB }
def TkR (c : CfgD) (now' : Int) (ts : List TenD) (M B l m r : Nat) (left : Lit → Bool) (wr : World) : Prop :=
  ∃ T L,LedS wr B T l m c now' L M ∧ L.map (·.1) = midTs c.w now' (fun s=>left (kL s)) ts ∧ T r = none
theorem tk_entry {c : CfgD} {now' : Int} {ts : List TenD} {M B l m n : Nat} {left : Lit → Bool} {wr : World} {T : Nat → Option Nat} {L : List (TenD × Nat)} {D : DataW Unit} {s : ByteArray} {v : Value} {y : DataW Unit × List MemPlace} (h : LedS wr B T l m c now' L M) (hL : L.map (·.1) = midTs c.w now' (fun s=>left (kL s)) ts) (hown : wr.ownsMap Tryz.prog 9 ptrElem m n D) (hl : left (kL s) = true) (hv : ptrElem v = some y) (hat : ∀ zd,D.atKey (kL s) zd = y.1) :
    ∃ p ∈ L,p.1.name = s ∧ p.1 ∈ ts ∧ v = .pointer (some ⟨p.2,0,none⟩):=by
  rw [own_one hown h.ten] at hat
  have ha : ∀ zd : DataW Unit,((getBy (fun p : TenD × Nat=>p.1.name) s L).map fun p=>pVal p.2).getD zd = y.1:=fun zd=>by
    rw [← atKey_by (key:=fun p : TenD × Nat=>p.1.name) (fun p=>pVal p.2)]
    exact hat zd
  cases hg : getBy (fun p : TenD × Nat=>p.1.name) s L with
  | none =>
    rw [hg] at ha
    have h1:=ha (iVal 0)
    have h2:=ha (iVal 1)
    simp only [Option.map_none,Option.getD_none] at h1 h2
    rw [← h1] at h2
    simp [iVal] at h2
  | some p =>
    rw [hg] at ha
    have h1:=ha .nil
    simp only [Option.map_some,Option.getD_some] at h1
    obtain ⟨hp,hpn⟩:=getBy_mem hg
    have hm : p.1 ∈ midTs c.w now' (fun s=>left (kL s)) ts:=by rw [← hL]; exact List.mem_map_of_mem hp
    obtain ⟨t,ht,e,en⟩:=midTs_mem hm
    have hts : left (kL t.name) = true:=by rw [← en,hpn]; exact hl
    rw [if_pos hts] at e
    refine ⟨p,hp,hpn,by rw [e]; exact ht,ptrElem_inv (ps:=y.2) (by rw [hv,h1])⟩
end Go.Proofs.YtkmdbpaeeagccaaGreatDoor
namespace Go.Proofs.YtkmdbpaeeagccaaGreatDoor
open Go.RowKit Go.Maps
theorem mid_next {win now : Int} {left : Lit → Bool} {ts : List TenD} (hr : RiseBy (·.name) ts) {t : TenD} (ht : t ∈ ts) (hl : left (kL t.name) = true) :
    midTs win now (fun s=>(fun z=>left z && !z.sameKey (kL t.name)) (kL s)) ts = if idleB (keptT win now t) = true then delBy (·.name) t.name (midTs win now (fun s=>left (kL s)) ts) else insBy (·.name) (keptT win now t) (midTs win now (fun s=>left (kL s)) ts) :=
  midTs_step (left:=fun s=>left (kL s)) hr ht hl fun n=>by show (left (kL n) && !(kL n).sameKey (kL t.name)) = _; rw [sameKey_kL]
set_option maxRecDepth 100000 in
set_option maxHeartbeats 8000000 in
theorem ltick_any (l m : Nat) (by_ : Int) (c : CfgD) (now : Int) (ts : List TenD) (M : Nat) (w0 w : World) (h : LedAt w w0.heap.size l m c now ts M) (h0 : Below w0.heap.size w0 w) (hU : UTab w0) (hn0 : 0 ≤ now) (hn1 : now ≤ 1000000000000) (hw0 : 1 ≤ c.w) (hw1 : c.w ≤ 1000000000) (hM : M ≤ 1000000000) (hsl : ∀ t ∈ ts,t.sers.length ≤ 1000000000) (hks : ∀ t ∈ ts,∀ p ∈ t.sers,p.s.size ≤ 1000000000) :
    Calls Tryz.prog 78 #[.pointer (some ⟨l,0,none⟩),.int .i64 by_] w fun e w'=>e = .returned (.bool (tickL c.w now ts by_).2.2) ∧ LedAt w' w0.heap.size l m c (tickL c.w now ts by_).1 (tickL c.w now ts by_).2.1 M ∧ Turn (fun g=>w0.heap.size ≤ g) w w':=by
  have HLA:=hid h
  obtain ⟨T,L,h,hL⟩:=h
  have HV0 : Hid (tickL c.w now ts by_ = if by_ < 1 ∨ 1000000000000 - now < by_ then (now,ts,false) else (now + by_,keptTs c.w (now + by_) ts,true)):=rfl
  have x6 : w.cell? ⟨l,6,none⟩ = some (.int .i64 now):=h.blk.cell 6
  generalize tickL c.w now ts by_ = R at *
  by_cases h1 : by_ < 1
  · have HV : Hid (R = (now,ts,false)):=by show _ = _; rw [HV0.out,if_pos (Or.inl h1)]
    clear h HV0
    go_enter Tryz.func78,Tryz.ntmps78
    go_wp2
    go_ret
    exact ⟨ret_bool (by rw [HV.out]),by rw [HV.out]; exact HLA.out,Turn.refl _ _⟩
  by_cases h2 : 1000000000000 - now < by_
  · have HV : Hid (R = (now,ts,false)):=by show _ = _; rw [HV0.out,if_pos (Or.inr h2)]
    clear h HV0
    go_enter Tryz.func78,Tryz.ntmps78
    go_wp2
    go_ret
    exact ⟨ret_bool (by rw [HV.out]),by rw [HV.out]; exact HLA.out,Turn.refl _ _⟩
  have HV : Hid (R = (now + by_,keptTs c.w (now + by_) ts,true)):=by show _ = _; rw [HV0.out,if_neg (fun e=>by rcases e with e | e; exact h1 e; exact h2 e)]
  clear HV0 HLA
  obtain ⟨now',hnd⟩ : ∃ now',now' = now + by_:=⟨_,rfl⟩
  rw [← hnd] at HV
  have hb1 : 1 ≤ by_:=by omega
  have hb2 : by_ ≤ 1000000000000:=by omega
  have hnn : now + by_ = now':=hnd.symm
  have hm0 : 0 ≤ now':=by omega
  have hm1 : now' ≤ 1000000000000:=by omega
  have hll:=lt_of_block h.blk
  have hml:=h.ten.lt
  have hB:=h0.size
  have hlB:=h.lB
  have hmB:=h.mB
  have hrise : RiseBy (·.name) ts:=by rw [← hL]; exact (riseBy_map (key':=fun t : TenD=>t.name) (fun p : TenD × Nat=>p.1) (fun _=>rfl)).2 h.rise
  have ht1 : Turn (· = l) w (w.setCell ⟨l,6,none⟩ (.int .i64 now')):=(Turn.refl (· = l) w).setCell (Or.inl rfl) 6 _
  have HB1 : Hid (Blk (w.setCell ⟨l,6,none⟩ (.int .i64 now')) l (ledV c now' m) 95):=hid (by have:=h.blk.set 6 (.int .i64 now'); simpa [ledV] using this)
  have hsz : (w.setCell ⟨l,6,none⟩ (.int .i64 now')).heap.size = w.heap.size:=by simp
  have H1 : Hid (LedS (w.setCell ⟨l,6,none⟩ (.int .i64 now')) w0.heap.size (fun g=>if g < (w.setCell ⟨l,6,none⟩ (.int .i64 now')).heap.size then T g else none) l m c now' L M):=(h.moved ht1 HB1.out).trim
  have HT1 : Hid (Turn (fun g=>w0.heap.size ≤ g) w (w.setCell ⟨l,6,none⟩ (.int .i64 now'))):=ht1.mono fun i _ e=>by rw [e]; exact hlB
  have y7 : (w.setCell ⟨l,6,none⟩ (.int .i64 now')).cell? ⟨l,7,none⟩ = some (.map (some m)):=HB1.out.cell 7
  have f6:=h.blk.free 6
  have HLL : Hid (L.map (·.1) = ts):=hL
  have HUT : Hid (∀ W,Turn (fun g=>w0.heap.size ≤ g) w W → Below w0.heap.size w0 W):=fun W hW=>h0.trans (hW.below hB fun k hk hs=>by omega)
  have HR:=hid hrise
  have HSL:=hid hsl
  have HKS:=hid hks
  have HUU:=hid hU
  have HEX : Hid (∀ W,Blk W l (ledV c now' m) 95 → Calls Tryz.prog 97 #[.pointer (some ⟨l,0,none⟩)] W fun e w'=>e = .returned (.int .i64 (now' - c.w)) ∧ Below W.heap.size W w'):=fun W hb=>expired_any l m c now' W hb hm0 hm1 hw0 hw1
  clear h hL hrise ht1 hsl hks hU h0 hnd
  go_enter Tryz.func78,Tryz.ntmps78
  go_wp2_with (first | (at_range; refine wpList_range_own _ rfl _ 93 rfl 9 109 keyed Tryz.underlying93 ptrElem m _ _ rfl H1.out.ten ?_; intro w2 hrg0 hg0 hs0) | go_in)
  try rw [hsz] at hrg0
  have HRG0:=hid hrg0
  have HT2 : Hid (Turn (fun g=>w0.heap.size ≤ g) w w2):=HT1.out.trans' ((Turn.grown hg0).mono fun i _ e=>by cases e)
  have K0 : Hid (TkR c now' ts M w0.heap.size l m w.heap.size (Maps.has (mapOf (L.map fun p=>(p.1.name,pVal p.2)))) w2):=by
    refine hid ⟨_,L,H1.out.keep fun g hg _=>hg0.block g hg (by simp),?_,?_⟩
    · rw [midTs_all fun t ht=>?_,HLL.out]
      rw [has_by (key:=fun p : TenD × Nat=>p.1.name) (val:=fun p=>pVal p.2)]
      rw [← HLL.out] at ht
      obtain ⟨p,hp,rfl⟩:=List.mem_map.1 ht
      rw [getBy_of_mem H1.out.rise hp]
      rfl
    · show (if w.heap.size < (w.setCell ⟨l,6,none⟩ (.int .i64 now')).heap.size then T w.heap.size else none) = none
      rw [if_neg (by omega)]
  clear hrg0 hg0 H1 HB1 y7 f6 x6 HT1 HLL
  generalize hnL : L.length = nL at *
  generalize mapOf (L.map fun p=>(p.1.name,pVal p.2)) = D0 at *
  have hrl : l ≠ w.heap.size:=by omega
  have hrm : m ≠ w.heap.size:=by omega
  clear hnL
  go_loopw [31] (fun _ wr=>∃ (left : Lit → Bool) (cnt : Nat) (D : DataW Unit),Hid (wr.ranges Tryz.prog 9 ptrElem m w.heap.size nL D left cnt) ∧ Hid (TkR c now' ts M w0.heap.size l m w.heap.size left wr) ∧ Hid (Turn (fun g=>w0.heap.size ≤ g) w wr)) (fun _ wr=>wr.rangeLeft m w.heap.size)
  case atStart=>exact ⟨_,_,_,HRG0.out,K0.out,HT2.out⟩
  case round =>
    obtain ⟨left,cnt,D,HRG,HK,HT⟩:=hrel
    clear HRG0 K0 HT2
    go_wp2_with (first
      | (at_next; refine wpList_next_ranges _ rfl _ rfl 9 keyed ptrElem Value.string (fun v : Value=>v) (fun key kl hk=>by obtain ⟨x,hx,_⟩:=str_key hk; exact ⟨x,hx⟩) (fun v y _=>⟨v,rfl⟩) m w.heap.size nL _ _ _ rfl HRG.out ?_ ?_)
      | go_in)
    · intro hc0 hl0
      have HEND : Hid (LedAt wr w0.heap.size l m c now' (keptTs c.w now' ts) M):=by
        obtain ⟨T',L',k1,k2,_⟩:=HK.out
        refine hid ⟨T',L',k1,?_⟩
        rw [k2,midTs_none fun n=>hl0 _]
      clear hc0 hl0
      go_wp2
      go_ret
      exact ⟨ret_bool (by rw [HV.out]),by rw [HV.out]; exact HEND.out,HT.out⟩
    · intro s v kl yd yp w3 cnt3 hkey hlk hv hat hrg3 hlt hg3 hs3 hen
      obtain ⟨s',es,rfl,hss⟩:=str_key hkey
      obtain rfl : s = s':=by simpa using es
      obtain ⟨T',L',k1,k2,k3⟩:=HK.out
      obtain ⟨p,hp,hpn,hpt,rfl⟩:=tk_entry (y:=(yd,yp)) k1 k2 HRG.out.owns hlk hv hat
      have t3 : Turn (· = w.heap.size) wr w3:=(Turn.grown hg3).mono fun i _ e=>by simp only [Option.some.injEq] at e; exact e.symm
      have k1' : LedS w3 w0.heap.size T' l m c now' L' M:=k1.aside t3 k3 hrl hrm
      have K1:=hid k1'
      have K2:=hid k2
      have K3:=hid k3
      have HP:=hid hp
      have HPN:=hid hpn
      have HPT:=hid hpt
      have RG3:=hid hrg3
      have HKEY:=hid hkey
      have HLK:=hid hlk
      have T3 : Hid (Turn (fun g=>w0.heap.size ≤ g) w w3):=HT.out.trans (t3.mono fun i _ e=>Or.inr (by omega))
      have HLB : Hid (Blk w3 l (ledV c now' m) 95):=k1'.blk
      have HCN : Hid (wr.rangeLeft m w.heap.size = cnt):=HRG.out.left_eq
      have HDM : Hid (D = mapOf (L'.map fun p=>(p.1.name,pVal p.2))):=own_one HRG.out.owns k1.ten
      have HMN : Hid (midTs c.w now' (fun s_1=>(fun z=>left z && !z.sameKey (kL s)) (kL s_1)) ts = if idleB (keptT c.w now' p.1) = true then delBy (·.name) s (midTs c.w now' (fun s=>left (kL s)) ts) else insBy (·.name) (keptT c.w now' p.1) (midTs c.w now' (fun s=>left (kL s)) ts)):=by
        have:=mid_next (win:=c.w) (now:=now') (left:=left) HR.out hpt (by rw [hpn]; exact hlk)
        rw [hpn] at this
        exact hid this
      have hw3:=T3.out.size
      have HRR : Hid (w.heap.size < w3.heap.size):=hrg3.lt
      clear k1 k2 k3 k1' t3 hp hpn hpt hrg3 hkey hlk hv hat hg3 hs3 HK HRG hss es
      go_wp2_with fail
      refine (HEX.out _ HLB.out).mono ?_
      rintro e w4 ⟨rfl,hb4⟩
      have K4 : Hid (LedS w4 w0.heap.size T' l m c now' L' M):=K1.out.keep fun g hg _=>hb4.block g hg
      have hs4:=hb4.size
      have T4 : Hid (Turn (fun g=>w0.heap.size ≤ g) w w4):=T3.out.trans' (Turn.of hb4)
      have RG4 : Hid (w4.ranges Tryz.prog 9 ptrElem m w.heap.size nL D (fun z=>left z && !z.sameKey (kL s)) cnt3):=ranges_turn RG3.out (Turn.of (S:=fun _=>False) hb4) (fun e=>e) (fun e=>e)
      have HXP : Hid (Calls Tryz.prog 103 #[.pointer (some ⟨p.2,0,none⟩),.int .i64 (now' - c.w)] w4 fun e w'=>e = .returned (.tuple #[]) ∧ IdxAt w' (fun g=>(fun g=>w0.heap.size ≤ g ∧ T' g = some p.2) g ∨ w4.heap.size ≤ g) p.2 (keptT c.w now' p.1) M ∧ Turn (fun g=>w0.heap.size ≤ g ∧ T' g = some p.2) w4 w'):=expire_any p.2 p.1 c.w now' (now' - c.w) (fun g=>w0.heap.size ≤ g ∧ T' g = some p.2) M w0 w4 (K4.out.idx p HP.out) (HUT.out w4 T4.out) HUU.out (fun g hg=>hg.1) rfl (HSL.out p.1 HPT.out) hM (HKS.out p.1 HPT.out)
      clear hb4 RG3 K1 HLB T3
      go_wp2_with fail
      refine HXP.out.mono ?_
      rintro e w5 ⟨rfl,hi5,ht5⟩
      have HI5:=hid hi5
      have HT5:=hid ht5
      have hs5:=ht5.size
      have HID : Hid (Calls Tryz.prog 75 #[.pointer (some ⟨p.2,0,none⟩)] w5 fun e w'=>e = .returned (.bool (idleB (keptT c.w now' p.1))) ∧ w' = w5):=idle_any p.2 _ _ M w5 hi5
      have RG5 : Hid (w5.ranges Tryz.prog 9 ptrElem m w.heap.size nL D (fun z=>left z && !z.sameKey (kL s)) cnt3):=ranges_turn RG4.out ht5 (fun e=>by rw [K4.out.tm] at e; cases e.2) (fun e=>by rw [K3.out] at e; cases e.2)
      have T5 : Hid (Turn (fun g=>w0.heap.size ≤ g) w w5):=T4.out.trans' (ht5.mono fun i _ e=>e.1)
      have x7 : w5.cell? ⟨l,7,none⟩ = some (.map (some m)):=(ht5.blk K4.out.blk (fun e=>by rw [K4.out.tl] at e; cases e.2)).cell 7
      clear hi5 ht5 HXP RG4
      cases hidl : idleB (keptT c.w now' p.1) with
      | true =>
        rw [hidl] at HID HMN
        rw [if_pos rfl] at HMN
        clear hidl
        go_wp2_with fail
        refine HID.out.mono ?_
        rintro e wz ⟨rfl,hw⟩
        replace hw:=hw.symm
        subst hw
        go_wp2_with (at_delete; refine wpList_delete_ranges _ rfl _ _ 93 9 rfl 109 keyed Tryz.underlying93 ptrElem m w.heap.size nL _ _ _ rfl RG5.out _ _ rfl HKEY.out ?_; intro w6 cnt6 hrg6 hle6 hturn6)
        rw [Maps.strike_twice] at hrg6
        have ht6:=Turn.mapped hturn6
        have HK6 : Hid (TkR c now' ts M w0.heap.size l m w.heap.size (fun z=>left z && !z.sameKey (kL s)) w6):=by
          have own6:=hrg6.owns
          rw [HDM.out] at own6
          refine hid ⟨T',_,LedS.left (k:=s) (S:=(fun g=>w0.heap.size ≤ g ∧ T' g = some p.2)) K4.out (fun g hs q hq hne e=>?_) (fun g _ hs e=>by rw [e] at hs; cases hs.2) HT5.out ht6 own6,?_,K3.out⟩
          · rw [hs.2] at e
            have:=nodup_inj K4.out.nd hq HP.out (Option.some.inj e).symm
            rw [this] at hne
            exact hne HPN.out
          · rw [delBy_map (key':=fun t : TenD=>t.name) (fun p : TenD × Nat=>p.1) (fun _=>rfl),K2.out]
            exact HMN.out.symm
        have HT6 : Hid (Turn (fun g=>w0.heap.size ≤ g) w w6):=T5.out.trans' (ht6.mono fun i _ e=>by omega)
        have RG6:=hid hrg6
        clear hrg6 hturn6 ht6
        go_wp2
        refine ⟨⟨_,_,_,_,_,_,_,_,_,_,_,_,_,_,_,_,_,_,⟨_,cnt6,_,RG6.out,HK6.out,HT6.out⟩,rfl⟩,by rw [RG6.out.left_eq,HCN.out]; omega⟩
      | false =>
        rw [hidl] at HID HMN
        rw [if_neg (by simp)] at HMN
        clear hidl
        have HK6 : Hid (TkR c now' ts M w0.heap.size l m w.heap.size (fun z=>left z && !z.sameKey (kL s)) w5):=by
          refine hid ⟨_,_,LedS.turned (p:=p) (t':=keptT c.w now' p.1) K4.out (by omega) HP.out rfl HT5.out HI5.out,?_,?_⟩
          · rw [insBy_map (key':=fun t : TenD=>t.name) (fun p : TenD × Nat=>p.1) (fun _=>rfl),K2.out]
            exact HMN.out.symm
          · show (if w.heap.size < w4.heap.size then T' w.heap.size else some p.2) = none
            rw [if_pos (by have:=RG5.out.lt; have:=HRR.out; omega)]
            exact K3.out
        go_wp2_with fail
        refine HID.out.mono ?_
        rintro e wz ⟨rfl,hw⟩
        replace hw:=hw.symm
        subst hw
        go_wp2
        exact ⟨⟨_,cnt3,_,RG5.out,HK6.out,T5.out⟩,by rw [RG5.out.left_eq,HCN.out]; exact hlt⟩
end Go.Proofs.YtkmdbpaeeagccaaGreatDoor
namespace Go.Proofs.YtkmdbpaeeagccaaGreatDoor
open Go.RowKit
structure RecD where
  kind : Int
  tenant : ByteArray
  text : ByteArray
  num : Int
def RecsAt (w : World) (b o : Nat) (ls : List RecD) : Prop :=
  ∀ i (h : i < ls.length),w.cell? ⟨b,o + i * 4,none⟩ = some (.int .i64 ls[i].kind) ∧ w.cell? ⟨b,o + i * 4 + 1,none⟩ = some (.string ls[i].tenant) ∧ w.cell? ⟨b,o + i * 4 + 2,none⟩ = some (.string ls[i].text) ∧ w.cell? ⟨b,o + i * 4 + 3,none⟩ = some (.int .i64 ls[i].num)
def RecsIn (w : World) (a : Option Addr) (ls : List RecD) : Prop:=ls = [] ∨ ∃ b o,a = some ⟨b,o,none⟩ ∧ b < w.heap.size ∧ RecsAt w b o ls
theorem RecsIn.later {w w' : World} {a : Option Addr} {ls : List RecD} (h : RecsIn w a ls) (hb : Below w.heap.size w w') : RecsIn w' a ls:=by
  rcases h with h | ⟨b,o,rfl,hlt,h⟩
  · exact Or.inl h
  · refine Or.inr ⟨b,o,rfl,Nat.lt_of_lt_of_le hlt hb.size,fun i hi=>?_⟩
    obtain ⟨h1,h2,h3,h4⟩:=h i hi
    exact ⟨by rw [← h1]; exact hb.cell hlt,by rw [← h2]; exact hb.cell hlt,by rw [← h3]; exact hb.cell hlt,by rw [← h4]; exact hb.cell hlt⟩
theorem RecsIn.at {w : World} {a : Option Addr} {ls : List RecD} (h : RecsIn w a ls) {i : Nat} (hi : i < ls.length) :
    ∃ b o,a = some ⟨b,o,none⟩ ∧ b < w.heap.size ∧ w.cell? ⟨b,o + i * 4,none⟩ = some (.int .i64 ls[i].kind) ∧ w.cell? ⟨b,o + i * 4 + 1,none⟩ = some (.string ls[i].tenant) ∧ w.cell? ⟨b,o + i * 4 + 2,none⟩ = some (.string ls[i].text) ∧ w.cell? ⟨b,o + i * 4 + 3,none⟩ = some (.int .i64 ls[i].num):=by
  rcases h with rfl | ⟨b,o,rfl,hlt,h⟩
  · exact absurd hi (by simp)
  · exact ⟨b,o,rfl,hlt,h i hi⟩
theorem RecsIn.but {g : Nat} {w w' : World} {a : Option Addr} {l : List RecD} (h : RecsIn w a l) (hb : But g w w') (hg : l = [] ∨ ∃ b o,a = some ⟨b,o,none⟩ ∧ b ≠ g) : RecsIn w' a l:=by
  rcases hg with hg | ⟨b,o,rfl,hne⟩
  · exact Or.inl hg
  · rcases h with h | ⟨b',o',e,hlt,h⟩
    · exact Or.inl h
    · simp only [Option.some.injEq,Addr.mk.injEq,and_true] at e
      obtain ⟨rfl,rfl⟩:=e
      have hk : ∀ j,w'.cell? ⟨b,j,none⟩ = w.cell? ⟨b,j,none⟩:=fun j=>World.cell?_of_block (hb.block b hlt hne)
      exact Or.inr ⟨b,o,rfl,Nat.lt_of_lt_of_le hlt hb.size,fun i hi=>by simp only [hk]; exact h i hi⟩
theorem RecsIn.take {w : World} {a : Option Addr} {ls : List RecD} (h : RecsIn w a ls) (n : Nat) : RecsIn w a (ls.take n):=by
  rcases h with h | ⟨b,o,e,hlt,h⟩
  · exact Or.inl (by rw [h]; simp)
  · refine Or.inr ⟨b,o,e,hlt,fun i hi=>?_⟩
    rw [List.getElem_take]
    exact h i (by simp at hi; omega)
def RecsOwn (w : World) (B : Nat) (a : Option Addr) (ls : List RecD) : Prop :=
  ls = [] ∨ ∃ g o cur t,a = some ⟨g,o,none⟩ ∧ B ≤ g ∧ w.heap[g]? = some (.cells cur t (0,0)) ∧ RecsAt w g o ls
theorem RecsOwn.recs {w : World} {B : Nat} {a : Option Addr} {ls : List RecD} (h : RecsOwn w B a ls) : RecsIn w a ls:=by
  rcases h with h | ⟨g,o,cur,t,rfl,_,hb,h⟩
  · exact Or.inl h
  · exact Or.inr ⟨g,o,rfl,lt_of_block hb,h⟩
theorem RecsOwn.later {w w' : World} {B : Nat} {a : Option Addr} {ls : List RecD} (h : RecsOwn w B a ls) (hb : Below w.heap.size w w') : RecsOwn w' B a ls:=by
  rcases h with h | ⟨g,o,cur,t,rfl,hB,hg,h⟩
  · exact Or.inl h
  · have hlt:=lt_of_block hg
    have hk : ∀ j,w'.cell? ⟨g,j,none⟩ = w.cell? ⟨g,j,none⟩:=fun j=>World.cell?_of_block (hb.block g hlt)
    exact Or.inr ⟨g,o,cur,t,rfl,hB,(hb.block g hlt).trans hg,fun i hi=>by simp only [hk]; exact h i hi⟩
theorem RecsOwn.mono {w : World} {B B' : Nat} {a : Option Addr} {ls : List RecD} (h : RecsOwn w B a ls) (hB : B' ≤ B) : RecsOwn w B' a ls:=by
  rcases h with h | ⟨g,o,cur,t,rfl,hB',hg,h⟩
  · exact Or.inl h
  · exact Or.inr ⟨g,o,cur,t,rfl,Nat.le_trans hB hB',hg,h⟩
def RowRec (cur : Array Value) (o j : Nat) (f : RecD) : Prop:=cur[o + j * 4]? = some (.int .i64 f.kind) ∧ cur[o + j * 4 + 1]? = some (.string f.tenant) ∧ cur[o + j * 4 + 2]? = some (.string f.text) ∧ cur[o + j * 4 + 3]? = some (.int .i64 f.num)
theorem RowRec.set {cur : Array Value} {o j : Nat} {f : RecD} (h : RowRec cur o j f) {p : Nat} (hp : p < o + j * 4 ∨ o + j * 4 + 3 < p) (v : Value) : RowRec (cur.setIfInBounds p v) o j f:=by
  obtain ⟨a1,a2,a3,a4⟩:=h
  refine ⟨?_,?_,?_,?_⟩
  · rw [Array.getElem?_setIfInBounds_ne (by omega)]; exact a1
  · rw [Array.getElem?_setIfInBounds_ne (by omega)]; exact a2
  · rw [Array.getElem?_setIfInBounds_ne (by omega)]; exact a3
  · rw [Array.getElem?_setIfInBounds_ne (by omega)]; exact a4
theorem RowRec.made (cur : Array Value) (o j : Nat) (f : RecD) (h : o + j * 4 + 3 < cur.size) :
    RowRec ((((cur.setIfInBounds (o + j * 4) (.int .i64 f.kind)).setIfInBounds (o + j * 4 + 1) (.string f.tenant)).setIfInBounds (o + j * 4 + 2) (.string f.text)).setIfInBounds (o + j * 4 + 3) (.int .i64 f.num)) o j f:=by
  refine ⟨?_,?_,?_,?_⟩ <;> simp [Array.getElem?_setIfInBounds] <;> omega
theorem recsAt_of_rows {w : World} {g o : Nat} {cur : Array Value} {t : TypeId} {fs : List RecD} (h : Blk w g cur t) (hr : ∀ j (hj : j < fs.length),RowRec cur o j fs[j]) : RecsAt w g o fs:=by
  intro j hj
  simp only [h.cell]
  exact hr j hj
theorem rows_of_recsAt {w : World} {g o : Nat} {cur : Array Value} {t : TypeId} {fs : List RecD} (h : Blk w g cur t) (hf : RecsAt w g o fs) : ∀ j (hj : j < fs.length),RowRec cur o j fs[j]:=by
  intro j hj
  have:=hf j hj
  simp only [h.cell] at this
  exact this
theorem recs_size {cur : Array Value} {o : Nat} {fs : List RecD} (hr : ∀ j (hj : j < fs.length),RowRec cur o j fs[j]) : fs.length = 0 ∨ o + fs.length * 4 ≤ cur.size:=by
  by_cases h : fs.length = 0
  · exact Or.inl h
  · right
    have:=(hr (fs.length - 1) (by omega)).2.2.2
    have:=(Array.getElem?_eq_some_iff.1 this).1
    omega
def recBulk : List RecD → Nat
  | []=>0
  | f :: r=>f.tenant.size + f.text.size + recBulk r
theorem recBulk_append (a b : List RecD) : recBulk (a ++ b) = recBulk a + recBulk b:=by
  induction a with
  | nil=>simp [recBulk]
  | cons f r ih=>simp [recBulk,ih]; omega
theorem recBulk_take_succ (fs : List RecD) (k : Nat) (h : k < fs.length) : recBulk (fs.take (k + 1)) = recBulk (fs.take k) + (fs[k].tenant.size + fs[k].text.size):=by
  rw [List.take_succ_eq_append_getElem h,recBulk_append]; simp [recBulk]
theorem recBulk_take_le (fs : List RecD) (k : Nat) : recBulk (fs.take k) ≤ recBulk fs:=by
  have:=recBulk_append (fs.take k) (fs.drop k)
  rw [List.take_append_drop] at this; omega
def szRc (left : Int) (f : RecD) : Int:=if (f.tenant.size + f.text.size : Int) ≤ left then left - f.tenant.size - f.text.size else -1
def szRecs (left : Int) (fs : List RecD) : Int:=if (fs.length + recBulk fs : Int) ≤ left then left - fs.length - recBulk fs else -1
def ShortR (fs : List RecD) : Prop:=∀ i (h : i < fs.length),fs[i].tenant.size ≤ maxLen ∧ fs[i].text.size ≤ maxLen
end Go.Proofs.YtkmdbpaeeagccaaGreatDoor
