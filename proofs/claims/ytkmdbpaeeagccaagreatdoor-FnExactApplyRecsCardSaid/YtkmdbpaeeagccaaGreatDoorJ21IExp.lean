import Derived.Test.YtkmdbpaeeagccaaGreatDoorProg
import Derived.Test.YtkmdbpaeeagccaaGreatDoorJ05HpP
import Derived.Test.YtkmdbpaeeagccaaGreatDoorJ20IDrp
import Derived.Test.YtkmdbpaeeagccaaGreatDoorJ16QTail
namespace Go.Proofs.YtkmdbpaeeagccaaGreatDoor
open Go.RowKit
theorem HeapM.take {w : World} {g cap n : Nat} {hs : List SgD} (h : HeapM w g cap hs) (hn : n ≤ hs.length) : HeapM w g cap (hs.take n):=by
  obtain ⟨cur,h1,h2,h3,h4,h5⟩:=h
  refine ⟨cur,h1,h2,by rw [List.length_take]; omega,h4,fun k hk=>?_⟩
  rw [List.length_take] at hk
  have e : hget (hs.take n) k = hget hs k:=by simp [hget,List.getD,List.getElem?_take_of_lt (show k < n by omega)]
  rw [e]
  exact h5 k (by omega)
theorem HeapM.but {w w' : World} {g cap b : Nat} {hs : List SgD} (h : HeapM w g cap hs) (hb : But b w w') (hne : g ≠ b) : HeapM w' g cap hs:=by
  obtain ⟨cur,h1,h2⟩:=h
  exact ⟨cur,h1.but hb hne,h2⟩
set_option maxRecDepth 100000 in
set_option maxHeartbeats 4000000 in
theorem firstChild_any (x o g n cap k : Nat) (hs : List SgD) (w : World) (hp : w.cell? ⟨x,o,none⟩ = some (.slice (some ⟨g,0,none⟩) n cap)) (hn : n = hs.length) (hH : HeapM w g cap hs) (hk : k ≤ 1000000000) :
    Calls Tryz.prog 146 #[.pointer (some ⟨x,o,none⟩),.int .i64 k] w fun e w'=>e = .returned (.int .i64 (childL hs k : Nat)) ∧ Below w.heap.size w w':=by
  have HC : Hid (childL hs k = if 2 * k + 2 < hs.length ∧ (hget hs (2 * k + 2)).t < (hget hs (2 * k + 1)).t then 2 * k + 2 else 2 * k + 1):=rfl
  obtain ⟨r,hrd⟩ : ∃ r,r = 2 * k + 2:=⟨_,rfl⟩
  obtain ⟨q,hqd⟩ : ∃ q,q = 2 * k + 1:=⟨_,rfl⟩
  rw [← hrd,← hqd] at HC
  have hr : 2 * (k : Int) + 2 = (r : Nat):=by omega
  have hq : 2 * (k : Int) + 1 = (q : Nat):=by omega
  have hr9 : r ≤ 2000000002:=by omega
  have hq9 : q ≤ 2000000001:=by omega
  have hqr : q < r:=by omega
  have d0:=Later.cells hp
  have hnel:=Later.there w
  clear hrd hqd
  by_cases h1 : r < n
  · obtain ⟨a0,a1,_,_⟩:=hH.cells (k:=r) (by omega)
    obtain ⟨b0,b1,_,_⟩:=hH.cells (k:=q) (by omega)
    have d1:=Later.cells a0
    have d2:=Later.cells a1
    have d3:=Later.cells b0
    have d4:=Later.cells b1
    have HN : Hid (n = hs.length):=hn
    clear a0 a1 b0 b1 hp hH hn
    generalize childL hs k = CH at *
    generalize hget hs r = A at *
    generalize hget hs q = C at *
    have hqn : q < n:=by omega
    go_enter Tryz.func146,Tryz.ntmps146
    go_wp2_with fail
    refine wp_region_later (by kernel_rfl) (by kernel_rfl) ?_
    repeat (go_big_quiet_step (fail))
    refine wpQuiet_enter (by rfl) (fun W=>exec_invoke _ _ _ _ _ _ rfl rfl rfl (invokeBefore _ _ W)) (by rintro _ ⟨x,rfl⟩; exact calls_later (before_any _ _ _ _ _)) ?_
    simp only [Act.put,List.setIfInBounds_toArray,List.set_cons_succ,List.set_cons_zero]
    repeat (go_big_quiet_step (fail))
    refine wpQuiet_nil ?_
    rintro _ ⟨y,rfl⟩
    have HY : Hid (Below w.heap.size w y.w'):=y.h
    clear d0 d1 d2 d3 d4 hnel
    generalize y.w' = W2 at *
    clear y
    by_cases hAC : A.t < C.t
    · have hd : decide (A.t < C.t) = true:=by simpa using hAC
      rw [hd]
      have HV : Hid (CH = r):=by show _ = _; rw [HC.out,if_pos ⟨by rw [← HN.out]; exact h1,hAC⟩]
      go_wp2
      go_ret
      exact ⟨ret_int (by rw [HV.out]),HY.out⟩
    · have hd : decide (A.t < C.t) = false:=by simpa using hAC
      rw [hd]
      have HV : Hid (CH = q):=by show _ = _; rw [HC.out,if_neg (fun h=>hAC h.2)]
      go_wp2
      go_ret
      exact ⟨ret_int (by rw [HV.out]),HY.out⟩
  · have HV : Hid (childL hs k = q):=by show _ = _; rw [HC.out,if_neg (fun h=>h1 (by rw [hn]; exact h.1))]
    clear hp hH hn HC
    generalize childL hs k = CH at *
    have hrn : ¬ ((r : Int) < n):=by omega
    go_enter Tryz.func146,Tryz.ntmps146
    go_wp2_with fail
    refine wp_region_later (by kernel_rfl) (by kernel_rfl) ?_
    repeat (go_big_quiet_step (fail))
    refine wpQuiet_nil ?_
    rintro _ ⟨y,rfl⟩
    have HY : Hid (Below w.heap.size w y.w'):=y.h
    clear d0 hnel
    generalize y.w' = W2 at *
    clear y
    go_wp2
    go_ret
    exact ⟨ret_int (by rw [HV.out]),HY.out⟩
set_option maxRecDepth 100000 in
set_option maxHeartbeats 8000000 in
theorem pop_any (x o g cap : Nat) (hs : List SgD) (w : World) (cx : Array Value) (tx : TypeId) (hX : Blk w x cx tx) (ho : cx[o]? = some (.slice (some ⟨g,0,none⟩) hs.length cap)) (hM : HeapM w g cap hs) (hne : g ≠ x) (h0 : 0 < hs.length) (hn : hs.length ≤ 1000000000) :
    Calls Tryz.prog 124 #[.pointer (some ⟨x,o,none⟩)] w fun e w'=>e = .returned (.agg #[.pointer (some ⟨(hget hs 0).b,0,none⟩),.int .i64 (hget hs 0).t]) ∧ Blk w' x (cx.setIfInBounds o (.slice (some ⟨g,0,none⟩) (hs.length - 1) cap)) tx ∧ HeapM w' g cap (popL hs) ∧ Turn (fun k=>k = x ∨ k = g) w w':=by
  obtain ⟨la,hlad⟩ : ∃ la,la = hs.length - 1:=⟨_,rfl⟩
  have hla : (hs.length : Int) - 1 = (la : Nat):=by omega
  have hl1 : la < hs.length:=by omega
  have hln : hs.length = la + 1:=by omega
  have hcl : hs.length ≤ cap:=by obtain ⟨cur,_,_,h3,_⟩:=hM; exact h3
  have hlc : la ≤ cap:=by omega
  have hgl:=hM.lt
  have hxl:=lt_of_block hX
  have HPOP : Hid (popL hs = siftDn ((swapL hs 0 la).take la) 0):=by show _ = _; rw [hlad]; rfl
  have HTOP : Hid (hget (swapL hs 0 la) la = hget hs 0):=by show _ = _; rw [hget_swap h0 hl1,if_pos rfl]
  have HSW0 : Hid (∀ W,Below w.heap.size w W → Calls Tryz.prog 145 #[.pointer (some ⟨x,o,none⟩),.int .i64 0,.int .i64 la] W fun e w'=>e = .returned (.tuple #[]) ∧ HeapM w' g cap (swapL hs 0 la) ∧ But g W w'):=fun W hW=>by
    have:=swap_any x o g hs.length cap 0 la hs W (by rw [(hX.later hW).cell]; exact ho) rfl (hM.later hW) h0 hl1
    simpa using this
  have c0 : w.cell? ⟨x,o,none⟩ = some (.slice (some ⟨g,0,none⟩) hs.length cap):=by rw [hX.cell]; exact ho
  have hoc : o < cx.size:=(Array.getElem?_eq_some_iff.1 ho).1
  obtain ⟨cx1,hcd⟩ : ∃ c,c = cx.setIfInBounds o (.slice (some ⟨g,0,none⟩) la cap):=⟨_,rfl⟩
  have hcx : cx1[o]? = some (.slice (some ⟨g,0,none⟩) la cap):=by rw [hcd]; simp [hoc]
  have HX:=hid hX
  have HO : Hid (cx[o]? = some (.slice (some ⟨g,0,none⟩) hs.length cap)):=ho
  rw [← hlad,← hcd]
  have HCD : Hid (cx1 = cx.setIfInBounds o (.slice (some ⟨g,0,none⟩) la cap)):=hcd
  have HFC : Hid (∀ (k : Nat) (l : List SgD) (W : World),Blk W x cx1 tx → HeapM W g cap l → l.length = la → k ≤ 1000000000 → Calls Tryz.prog 146 #[.pointer (some ⟨x,o,none⟩),.int .i64 k] W fun e w'=>e = .returned (.int .i64 (childL l k : Nat)) ∧ Below W.heap.size W w'):=fun k l W hb hm hl hk=>firstChild_any x o g la cap k l W (by rw [hb.cell]; exact hcx) hl.symm hm hk
  have HSW : Hid (∀ (i j : Nat) (l : List SgD) (W : World),Blk W x cx1 tx → HeapM W g cap l → l.length = la → i < la → j < la → Calls Tryz.prog 145 #[.pointer (some ⟨x,o,none⟩),.int .i64 i,.int .i64 j] W fun e w'=>e = .returned (.tuple #[]) ∧ HeapM w' g cap (swapL l i j) ∧ But g W w'):=fun i j l W hb hm hl hi hj=>swap_any x o g la cap i j l W (by rw [hb.cell]; exact hcx) hl.symm hm hi hj
  generalize hpl : popL hs = PL at *
  generalize htp : hget hs 0 = TP at *
  clear hX ho hM hcd hlad hpl htp
  have B0 : Hid (Below w.heap.size w (w.alloc (.cells #[.pointer none,.int .i64 0] 189))):=bnew _ _
  have P0 : Hid (Blk (w.alloc (.cells #[.pointer none,.int .i64 0] 189)) w.heap.size #[.pointer none,.int .i64 0] 189):=Blk.new _ _ _
  have e0 : (w.alloc (.cells #[.pointer none,.int .i64 0] 189)).cell? ⟨x,o,none⟩ = some (.slice (some ⟨g,0,none⟩) hs.length cap):=(B0.out.cell hxl).trans c0
  go_enter Tryz.func124,Tryz.ntmps124
  go_wp2_with fail
  refine (HSW0.out _ B0.out).mono ?_
  rintro e w1 ⟨rfl,hM1,hb1⟩
  have HM1:=hid hM1
  have hs1:=hb1.size
  have hsa : (w.alloc (.cells #[.pointer none,.int .i64 0] 189)).heap.size = w.heap.size + 1:=by simp
  have X1 : Hid (Blk w1 x cx tx):=(HX.out.later B0.out).but hb1 hne.symm
  have P1 : Hid (Blk w1 w.heap.size #[.pointer none,.int .i64 0] 189):=P0.out.but hb1 (by omega)
  have T1 : Hid (Turn (fun k=>k = x ∨ k = g) w w1):=(Turn.of B0.out).trans' ((Turn.but hb1).mono fun i _ e=>Or.inr e)
  have hs1' : w.heap.size + 1 ≤ w1.heap.size:=by omega
  obtain ⟨a0,a1,_,_⟩:=hM1.cells (k:=la) (by rw [swapL_length]; exact hl1)
  rw [HTOP.out] at a0 a1
  have x0 : w1.cell? ⟨x,o,none⟩ = some (.slice (some ⟨g,0,none⟩) hs.length cap):=by rw [X1.out.cell]; exact HO.out
  have fx0:=X1.out.free o
  clear hM1 hb1 HSW0 B0 P0 e0 c0 HX hsa hs1
  have hw1 : w1.heap.size < (w1.alloc (.cells #[.pointer (some ⟨TP.b,0,none⟩),.int .i64 TP.t] 189)).heap.size:=by simp
  have xa : (w1.alloc (.cells #[.pointer (some ⟨TP.b,0,none⟩),.int .i64 TP.t] 189)).cell? ⟨x,o,none⟩ = some (.slice (some ⟨g,0,none⟩) hs.length cap):=((X1.out.alloc _).cell o).trans HO.out
  have fa:=(X1.out.alloc (.cells #[.pointer (some ⟨TP.b,0,none⟩),.int .i64 TP.t] 189)).free o
  have XS : Hid (Blk ((w1.alloc (.cells #[.pointer (some ⟨TP.b,0,none⟩),.int .i64 TP.t] 189)).setCell ⟨x,o,none⟩ (.slice (some ⟨g,0,none⟩) la cap)) x cx1 tx):=hid (by rw [HCD.out]; exact (X1.out.alloc _).set o _)
  have TXO : Turn (· = x) (w1.alloc (.cells #[.pointer (some ⟨TP.b,0,none⟩),.int .i64 TP.t] 189)) ((w1.alloc (.cells #[.pointer (some ⟨TP.b,0,none⟩),.int .i64 TP.t] 189)).setCell ⟨x,o,none⟩ (.slice (some ⟨g,0,none⟩) la cap)):=(Turn.refl (· = x) _).setCell (Or.inl rfl) o _
  have MS : Hid (HeapM ((w1.alloc (.cells #[.pointer (some ⟨TP.b,0,none⟩),.int .i64 TP.t] 189)).setCell ⟨x,o,none⟩ (.slice (some ⟨g,0,none⟩) la cap)) g cap ((swapL hs 0 la).take la)):=by
    refine hid ?_
    have h1 : HeapM ((w1.alloc (.cells #[.pointer (some ⟨TP.b,0,none⟩),.int .i64 TP.t] 189)).setCell ⟨x,o,none⟩ (.slice (some ⟨g,0,none⟩) la cap)) g cap (swapL hs 0 la):=by
      obtain ⟨cur,m1,m2⟩:=HM1.out.later (bnew w1 (.cells #[.pointer (some ⟨TP.b,0,none⟩),.int .i64 TP.t] 189))
      exact ⟨cur,TXO.blk m1 hne,m2⟩
    exact h1.take (by rw [swapL_length]; omega)
  have PS : Hid (Blk ((w1.alloc (.cells #[.pointer (some ⟨TP.b,0,none⟩),.int .i64 TP.t] 189)).setCell ⟨x,o,none⟩ (.slice (some ⟨g,0,none⟩) la cap)) w.heap.size #[.pointer none,.int .i64 0] 189):=TXO.blk (P1.out.alloc _) (by omega)
  have QS : Hid (Blk ((w1.alloc (.cells #[.pointer (some ⟨TP.b,0,none⟩),.int .i64 TP.t] 189)).setCell ⟨x,o,none⟩ (.slice (some ⟨g,0,none⟩) la cap)) w1.heap.size #[.pointer (some ⟨TP.b,0,none⟩),.int .i64 TP.t] 189):=TXO.blk (Blk.new _ _ _) (by omega)
  have TS : Hid (Turn (fun k=>k = x ∨ k = g) w ((w1.alloc (.cells #[.pointer (some ⟨TP.b,0,none⟩),.int .i64 TP.t] 189)).setCell ⟨x,o,none⟩ (.slice (some ⟨g,0,none⟩) la cap))):=((T1.out.trans' (Turn.of (bnew _ _))).trans' (TXO.mono fun i _ e=>Or.inl e))
  have HLT : Hid (((swapL hs 0 la).take la).length = la):=by show _ = _; rw [List.length_take,swapL_length]; omega
  clear TXO HM1 X1 P1 T1 HO HTOP
  generalize (swapL hs 0 la).take la = l0 at *
  go_wp2
  clear xa fa a0 a1 x0 fx0 hw1
  generalize ((w1.alloc (.cells #[.pointer (some ⟨TP.b,0,none⟩),.int .i64 TP.t] 189)).setCell ⟨x,o,none⟩ (.slice (some ⟨g,0,none⟩) la cap)) = w2 at *
  go_loopw [5] (fun a wr=>∃ (k : Nat) (l : List SgD),a = .int .i64 k ∧ k ≤ la ∧ l.length = la ∧ Hid (Blk wr x cx1 tx) ∧ Hid (HeapM wr g cap l) ∧ Hid (PL = siftDn l k) ∧ Hid (Blk wr w.heap.size #[.pointer none,.int .i64 0] 189) ∧ Hid (Blk wr w1.heap.size #[.pointer (some ⟨TP.b,0,none⟩),.int .i64 TP.t] 189) ∧ Hid (Turn (fun k=>k = x ∨ k = g) w wr)) (fun a _=>la - (intOf a).toNat)
  case atStart=>exact ⟨0,l0,rfl,Nat.zero_le _,HLT.out,XS.out,MS.out,HPOP.out,PS.out,QS.out,TS.out⟩
  case round =>
    obtain ⟨k,l,rfl,hk,hl,HX2,HM2,HV2,HP2,HQ2,HT2⟩:=hrel
    have HL:=hid hl
    have h2:=childL_two l k
    have HGO : Hid (childL l k < l.length → (hget l (childL l k)).t < (hget l k).t → siftDn l k = siftDn (swapL l k (childL l k)) (childL l k)):=fun a b=>siftDn_go ⟨a,b⟩
    have HEN : Hid (¬ (childL l k < l.length ∧ (hget l (childL l k)).t < (hget l k).t) → siftDn l k = l):=siftDn_end
    have HFC1:=hid (HFC.out k l wr HX2.out HM2.out hl (by omega))
    clear hl
    generalize hch : childL l k = ch at *
    clear hch
    go_wp2_with fail
    refine HFC1.out.mono ?_
    rintro e w3 ⟨rfl,hb3⟩
    have B3:=hid hb3
    have X3 : Hid (Blk w3 x cx1 tx):=HX2.out.later hb3
    have M3 : Hid (HeapM w3 g cap l):=HM2.out.later hb3
    have P3 : Hid (Blk w3 w.heap.size #[.pointer none,.int .i64 0] 189):=HP2.out.later hb3
    have Q3 : Hid (Blk w3 w1.heap.size #[.pointer (some ⟨TP.b,0,none⟩),.int .i64 TP.t] 189):=HQ2.out.later hb3
    have T3 : Hid (Turn (fun k=>k = x ∨ k = g) w w3):=HT2.out.trans' (Turn.of hb3)
    clear hb3 HFC1 HX2 HM2 HP2 HQ2 HT2 B3
    have k1 : w3.cell? ⟨x,o,none⟩ = some (.slice (some ⟨g,0,none⟩) la cap):=by rw [X3.out.cell]; exact hcx
    have d0:=Later.cells k1
    have hnel:=Later.there w3
    by_cases hge : la ≤ ch
    · have HV9 : Hid (PL = l):=by show _ = _; rw [HV2.out]; exact HEN.out (fun h=>by have:=HL.out; omega)
      have hgi : ¬ ((ch : Int) < la):=by omega
      clear HGO HEN HSW
      go_wp2_with fail
      refine wp_region_later (by kernel_rfl) (by kernel_rfl) ?_
      repeat (go_big_quiet_step (fail))
      refine wpQuiet_nil ?_
      rintro _ ⟨y,rfl⟩
      have X9 : Hid (Blk y.w' x cx1 tx):=X3.out.later y.h
      have M9 : Hid (HeapM y.w' g cap l):=M3.out.later y.h
      have P9 : Hid (Blk y.w' w.heap.size #[.pointer none,.int .i64 0] 189):=P3.out.later y.h
      have Q9 : Hid (Blk y.w' w1.heap.size #[.pointer (some ⟨TP.b,0,none⟩),.int .i64 TP.t] 189):=Q3.out.later y.h
      have T9 : Hid (Turn (fun k=>k = x ∨ k = g) w y.w'):=T3.out.trans' (Turn.of y.h)
      clear d0 hnel k1 X3 M3 P3 Q3 T3
      generalize y.w' = W2 at *
      clear y
      have z0 : W2.cell? ⟨w.heap.size,0,none⟩ = some (.pointer none):=P9.out.cell 0
      have z1 : W2.cell? ⟨w.heap.size,1,none⟩ = some (.int .i64 0):=P9.out.cell 1
      have fz0:=P9.out.free 0
      have fz1:=P9.out.free 1
      have q0 : W2.cell? ⟨w1.heap.size,0,none⟩ = some (.pointer (some ⟨TP.b,0,none⟩)):=Q9.out.cell 0
      have q1 : W2.cell? ⟨w1.heap.size,1,none⟩ = some (.int .i64 TP.t):=Q9.out.cell 1
      have hwl : w.heap.size < W2.heap.size:=lt_of_block P9.out
      go_wp2
      have HTE9 : Turn (· = w.heap.size) W2 ((W2.setCell ⟨w.heap.size,0,none⟩ (.pointer (some ⟨TP.b,0,none⟩))).setCell ⟨w.heap.size,1,none⟩ (.int .i64 TP.t)):=((Turn.refl (· = w.heap.size) W2).setCell (Or.inl rfl) 0 _).setCell (Or.inl rfl) 1 _
      refine bodyPost_ret (v:=.agg #[.pointer (some ⟨TP.b,0,none⟩),.int .i64 TP.t]) (by simp [results,Tryz.results124,go_sem,z0,z1]) rfl ⟨rfl,HTE9.blk X9.out (by omega),?_,T9.out.trans (HTE9.mono fun i _ e=>Or.inr (by omega))⟩
      rw [HV9.out]
      exact (show ∀ {a b : World} {l : List SgD},HeapM a g cap l → Turn (· = w.heap.size) a b → HeapM b g cap l from fun h ht=>by obtain ⟨cur,h1,h2⟩:=h; exact ⟨cur,ht.blk h1 (by omega),h2⟩) M9.out HTE9
    · have hcl2 : ch < la:=by omega
      have hkl : k < la:=by omega
      obtain ⟨a0,a1,_,_⟩:=M3.out.cells (k:=ch) (by rw [HL.out]; exact hcl2)
      obtain ⟨b0,b1,_,_⟩:=M3.out.cells (k:=k) (by rw [HL.out]; exact hkl)
      have d1:=Later.cells a0
      have d2:=Later.cells a1
      have d3:=Later.cells b0
      have d4:=Later.cells b1
      have HSW1:=hid (fun W h1 h2=>HSW.out k ch l W h1 h2 HL.out hkl hcl2)
      clear a0 a1 b0 b1 k1
      generalize hget l ch = A at *
      generalize hget l k = C at *
      go_wp2_with fail
      refine wp_region_later (by kernel_rfl) (by kernel_rfl) ?_
      repeat (go_big_quiet_step (fail))
      refine wpQuiet_enter (by rfl) (fun W=>exec_invoke _ _ _ _ _ _ rfl rfl rfl (invokeBefore _ _ W)) (by rintro _ ⟨x,rfl⟩; exact calls_later (before_any _ _ _ _ _)) ?_
      simp only [Act.put,List.setIfInBounds_toArray,List.set_cons_succ,List.set_cons_zero]
      repeat (go_big_quiet_step (fail))
      refine wpQuiet_nil ?_
      rintro _ ⟨y,rfl⟩
      have X9 : Hid (Blk y.w' x cx1 tx):=X3.out.later y.h
      have M9 : Hid (HeapM y.w' g cap l):=M3.out.later y.h
      have P9 : Hid (Blk y.w' w.heap.size #[.pointer none,.int .i64 0] 189):=P3.out.later y.h
      have Q9 : Hid (Blk y.w' w1.heap.size #[.pointer (some ⟨TP.b,0,none⟩),.int .i64 TP.t] 189):=Q3.out.later y.h
      have T9 : Hid (Turn (fun k=>k = x ∨ k = g) w y.w'):=T3.out.trans' (Turn.of y.h)
      clear d0 d1 d2 d3 d4 hnel X3 M3 P3 Q3 T3
      generalize y.w' = W2 at *
      clear y
      by_cases hAC : A.t < C.t
      · have hd : decide (A.t < C.t) = true:=by simpa using hAC
        rw [hd]
        have HV9 : Hid (PL = siftDn (swapL l k ch) ch):=by show _ = _; rw [HV2.out]; exact HGO.out (by rw [HL.out]; exact hcl2) hAC
        have hkc : k < ch:=by omega
        clear HGO HEN HV2 hAC hd h2
        go_wp2_with fail
        refine (HSW1.out _ X9.out M9.out).mono ?_
        rintro e w4 ⟨rfl,hM4,hb4⟩
        have M4:=hid hM4
        have X4 : Hid (Blk w4 x cx1 tx):=X9.out.but hb4 hne.symm
        have P4 : Hid (Blk w4 w.heap.size #[.pointer none,.int .i64 0] 189):=P9.out.but hb4 (by omega)
        have Q4 : Hid (Blk w4 w1.heap.size #[.pointer (some ⟨TP.b,0,none⟩),.int .i64 TP.t] 189):=Q9.out.but hb4 (by omega)
        have T4 : Hid (Turn (fun k=>k = x ∨ k = g) w w4):=T9.out.trans' ((Turn.but hb4).mono fun i _ e=>Or.inr e)
        clear hM4 hb4 HSW1
        go_wp2
        exact ⟨⟨ch,swapL l k ch,rfl,by omega,by rw [swapL_length]; exact HL.out,X4.out,M4.out,HV9.out,P4.out,Q4.out,T4.out⟩,by simp [intOf]; omega⟩
      · have hd : decide (A.t < C.t) = false:=by simpa using hAC
        rw [hd]
        have HV9 : Hid (PL = l):=by show _ = _; rw [HV2.out]; exact HEN.out (fun h=>hAC h.2)
        clear HGO HEN HV2 hAC hd h2 HSW1
        have z0 : W2.cell? ⟨w.heap.size,0,none⟩ = some (.pointer none):=P9.out.cell 0
        have z1 : W2.cell? ⟨w.heap.size,1,none⟩ = some (.int .i64 0):=P9.out.cell 1
        have fz0:=P9.out.free 0
        have fz1:=P9.out.free 1
        have q0 : W2.cell? ⟨w1.heap.size,0,none⟩ = some (.pointer (some ⟨TP.b,0,none⟩)):=Q9.out.cell 0
        have q1 : W2.cell? ⟨w1.heap.size,1,none⟩ = some (.int .i64 TP.t):=Q9.out.cell 1
        have hwl : w.heap.size < W2.heap.size:=lt_of_block P9.out
        go_wp2
        have HTE9 : Turn (· = w.heap.size) W2 ((W2.setCell ⟨w.heap.size,0,none⟩ (.pointer (some ⟨TP.b,0,none⟩))).setCell ⟨w.heap.size,1,none⟩ (.int .i64 TP.t)):=((Turn.refl (· = w.heap.size) W2).setCell (Or.inl rfl) 0 _).setCell (Or.inl rfl) 1 _
        refine bodyPost_ret (v:=.agg #[.pointer (some ⟨TP.b,0,none⟩),.int .i64 TP.t]) (by simp [results,Tryz.results124,go_sem,z0,z1]) rfl ⟨rfl,HTE9.blk X9.out (by omega),?_,T9.out.trans (HTE9.mono fun i _ e=>Or.inr (by omega))⟩
        rw [HV9.out]
        exact (show ∀ {a b : World} {l : List SgD},HeapM a g cap l → Turn (· = w.heap.size) a b → HeapM b g cap l from fun h ht=>by obtain ⟨cur,h1,h2⟩:=h; exact ⟨cur,ht.blk h1 (by omega),h2⟩) M9.out HTE9
end Go.Proofs.YtkmdbpaeeagccaaGreatDoor
namespace Go.Proofs.YtkmdbpaeeagccaaGreatDoor
open Go.RowKit Go.Maps
theorem field_ser (p q : Value) (w : World) : (Instr.field 189 (.agg #[p,q]) 0).run Tryz.prog w = .ok p w:=by kernel_rfl
def ExR (S : Nat → Prop) (x : Nat) (t : TenD) (M : Nat) (u : Int) (wr : World) (n : Nat) : Prop :=
  ∃ xs lm sm cm iv Q hs D,IdxS wr S x ⟨t.name,t.limit,t.mets,xs⟩ M lm sm cm iv Q hs D ∧ xs.filter (fun p=>decide (u < p.n)) = t.sers.filter (fun p=>decide (u < p.n)) ∧ (∀ p ∈ xs,p ∈ t.sers) ∧ xs.length ≤ t.sers.length ∧ hs.countP (fun s=>decide (s.t ≤ u)) = n
theorem least_spec {R : Nat → Prop} (h : ∃ n,R n) : R (Classical.epsilon fun m=>R m ∧ ∀ k,R k → m ≤ k) ∧ ∀ k,R k → (Classical.epsilon fun m=>R m ∧ ∀ k,R k → m ≤ k) ≤ k:=Classical.epsilon_spec (least_is h)
theorem least_lt {R R' : Nat → Prop} {n : Nat} (h : R' n) (hn : n < Classical.epsilon fun m=>R m ∧ ∀ k,R k → m ≤ k) : (Classical.epsilon fun m=>R' m ∧ ∀ k,R' k → m ≤ k) < Classical.epsilon fun m=>R m ∧ ∀ k,R k → m ≤ k :=
  Nat.lt_of_le_of_lt ((least_spec ⟨n,h⟩).2 n h) hn
theorem ex_end {w : World} {S : Nat → Prop} {x : Nat} {t : TenD} {M lm sm cm : Nat} {iv : Value} {Q : List (PairD × Nat)} {hs : List SgD} {D : DataW Unit} {xs : List PairD} {u win now : Int} (h : IdxS w S x ⟨t.name,t.limit,t.mets,xs⟩ M lm sm cm iv Q hs D) (hu : u = now - win) (hf : xs.filter (fun p=>decide (u < p.n)) = t.sers.filter (fun p=>decide (u < p.n))) (hno : ¬ (0 < hs.length ∧ (hget hs 0).t ≤ u)) :
    IdxAt w S x (keptT win now t) M:=by
  have ha : ∀ p ∈ xs,u < p.n:=fun p hp=>by
    have hpq : p ∈ Q.map (·.1):=by rw [h.q1]; exact hp
    obtain ⟨q,hq,rfl⟩:=List.mem_map.1 hpq
    have hb : q.2 ∈ hs.map (·.b):=h.perm.mem_iff.2 (List.mem_map_of_mem hq)
    obtain ⟨s,hs',e⟩:=List.mem_map.1 hb
    have h1:=h.early s hs' q hq e.symm
    have h2:=top_le h.heap hs'
    have h3 : 0 < hs.length:=List.length_pos_of_mem hs'
    have h4 : ¬ (hget hs 0).t ≤ u:=fun h'=>hno ⟨h3,h'⟩
    omega
  rw [keptT_all hu hf ha]
  exact ⟨lm,sm,cm,iv,Q,hs,D,h⟩
theorem ex_drop {w w1 w4 : World} {S : Nat → Prop} {x : Nat} {t : TenD} {M lm sm cm n : Nat} {iv iv' : Value} {Q : List (PairD × Nat)} {hs : List SgD} {D : DataW Unit} {xs : List PairD} {u : Int} {q : PairD × Nat} {c : Nat} (h : IdxS w S x ⟨t.name,t.limit,t.mets,xs⟩ M lm sm cm iv Q hs D) (hf : xs.filter (fun p=>decide (u < p.n)) = t.sers.filter (fun p=>decide (u < p.n))) (hsub : ∀ p ∈ xs,p ∈ t.sers) (hl : xs.length ≤ t.sers.length)
    (h0 : 0 < hs.length) (ht : (hget hs 0).t ≤ u) (hq : q ∈ Q) (hb : q.2 = (hget hs 0).b) (hL : q.1.n ≤ u) (hp : Popped w w1 x t.limit lm sm cm iv iv' hs) (t4 : Turn (fun k=>k = sm ∨ k = cm) w1 w4) (own2 : w4.ownsMap Tryz.prog 9 ptrElem sm n (DataW.del (mapOf (Q.map fun q=>(q.1.s,pVal q.2))) (kL q.1.s)))
    (own4 : w4.ownsMap Tryz.prog 9 (plainElem Tryz.prog 3) cm M (D.put (kL (metK q.1.s)) (iVal c))) (hc : cntM metK xs (metK q.1.s) = c + 1) :
    (∃ k,ExR S x t M u w4 k ∧ k < hs.countP (fun s=>decide (s.t ≤ u))) ∧ Turn S w w4:=by
  obtain ⟨h1,h2⟩:=h.dropped (c:=c) h0 hq hb hp t4 own2 own4 hc
  refine ⟨⟨_,⟨_,lm,sm,cm,iv',_,_,_,h1,?_,fun p hp'=>hsub p (mem_delBy.1 hp').1,?_,rfl⟩,?_⟩,h2⟩
  · rw [← hf]
    unfold delBy
    rw [List.filter_filter]
    apply List.filter_congr
    intro p hp'
    by_cases e : p.s = q.1.s
    · have hqx : q.1 ∈ xs:=by have:=List.mem_map_of_mem (f:=(·.1)) hq; rw [h.q1] at this; exact this
      have e1:=getBy_of_mem h.rs hp'
      have e2:=getBy_of_mem h.rs hqx
      have : p = q.1:=by
        have e3 : some p = some q.1:=by rw [← e1,← e2]; show getBy (fun p : PairD=>p.s) p.s xs = getBy (fun p : PairD=>p.s) q.1.s xs; rw [e]
        exact Option.some.inj e3
      rw [this,decide_eq_false (by omega)]
      simp
    · rw [same_not e]; simp
  · have : (delBy (·.s) q.1.s xs).length ≤ xs.length:=List.length_filter_le _ _
    exact Nat.le_trans this hl
  · have:=late_pop h.heap h0 ht
    omega
theorem ex_again {w w1 w4 : World} {S : Nat → Prop} {x : Nat} {t : TenD} {M lm sm cm : Nat} {iv iv' : Value} {Q : List (PairD × Nat)} {hs : List SgD} {D : DataW Unit} {xs : List PairD} {u : Int} {q : PairD × Nat} {g cap B : Nat} (h : IdxS w S x ⟨t.name,t.limit,t.mets,xs⟩ M lm sm cm iv Q hs D) (hf : xs.filter (fun p=>decide (u < p.n)) = t.sers.filter (fun p=>decide (u < p.n))) (hsub : ∀ p ∈ xs,p ∈ t.sers) (hl : xs.length ≤ t.sers.length)
    (h0 : 0 < hs.length) (ht : (hget hs 0).t ≤ u) (hq : q ∈ Q) (hb : q.2 = (hget hs 0).b) (hL : u < q.1.n) (hp : Popped w w1 x t.limit lm sm cm iv iv' hs)
    (hb4 : Blk w4 x #[.int .i64 t.limit,.map (some lm),.map (some sm),.map (some cm),.slice (some ⟨g,0,none⟩) ((popL hs).length + 1) cap] 147)
    (hr4 : w4.ownsRow 0 189 2 (.slice (some ⟨g,0,none⟩) ((popL hs).length + 1) cap) ((popL hs).length + 1) (flatS (pushL (popL hs) ⟨q.2,q.1.n⟩))) (hloc : iv'.ownBlock = some g ∨ w1.heap.size ≤ g) (t4 : Turn (fun k=>k = x ∨ iv'.ownBlock = some k) w1 w4) (hB : B ≤ w.heap.size) (hS : ∀ g,B ≤ g → w.heap.size ≤ g → S g) :
    (∃ k,ExR S x t M u w4 k ∧ k < hs.countP (fun s=>decide (s.t ≤ u))) ∧ Turn S w w4:=by
  obtain ⟨h1,h2⟩:=h.again h0 hq hb hp hb4 hr4 hloc t4 hB hS
  refine ⟨⟨_,⟨xs,lm,sm,cm,_,_,_,_,h1,hf,hsub,hl,rfl⟩,?_⟩,h2⟩
  have h3:=late_pop h.heap h0 ht
  rw [late_push (popL_says h.heap h0).1 (by exact hL)]
  omega
set_option maxRecDepth 100000 in
set_option maxHeartbeats 8000000 in
theorem expire_any (x : Nat) (t : TenD) (win now u : Int) (S : Nat → Prop) (M : Nat) (w0 w : World) (h : IdxAt w S x t M) (h0 : Below w0.heap.size w0 w) (hU : UTab w0) (hS : ∀ g,S g → w0.heap.size ≤ g) (hu : u = now - win) (hl : t.sers.length ≤ 1000000000) (hM : M ≤ 1000000000) (hk : ∀ p ∈ t.sers,p.s.size ≤ 1000000000) :
    Calls Tryz.prog 103 #[.pointer (some ⟨x,0,none⟩),.int .i64 u] w fun e w'=>e = .returned (.tuple #[]) ∧ IdxAt w' (fun g=>S g ∨ w.heap.size ≤ g) x (keptT win now t) M ∧ Turn S w w':=by
  have HST : Hid (ExR (fun g=>S g ∨ w.heap.size ≤ g) x t M u w ((Classical.epsilon fun m=>ExR (fun g=>S g ∨ w.heap.size ≤ g) x t M u w m ∧ ∀ k,ExR (fun g=>S g ∨ w.heap.size ≤ g) x t M u w k → m ≤ k))):=by
    refine (least_spec ?_).1
    obtain ⟨lm,sm,cm,iv,Q,hs,D,h⟩:=h
    exact ⟨_,t.sers,lm,sm,cm,iv,Q,hs,D,h.keep fun g _ hs=>⟨rfl,Or.inl hs⟩,rfl,fun p hp=>hp,Nat.le_refl _,rfl⟩
  have HUT : Hid (∀ W,Turn S w W → UTab W):=fun W hW=>hU.later (h0.trans (hW.below h0.size fun k hk hs=>by have:=hS k hs; omega))
  have hw0:=h0.size
  have HSS : Hid (∀ g,S g → w0.heap.size ≤ g):=hS
  have HKS : Hid (∀ p ∈ t.sers,p.s.size ≤ 1000000000):=hk
  have HEU : Hid (u = now - win):=hu
  have HLX : Hid (t.sers.length ≤ 1000000000):=hl
  clear h h0 hU hS hk hu hl
  go_enter Tryz.func103,Tryz.ntmps103
  go_wp2
  go_loopw [4] (fun _ wr=>Hid (∃ n,ExR (fun g=>S g ∨ w.heap.size ≤ g) x t M u wr n) ∧ Hid (Turn S w wr)) (fun _ wr=>Classical.epsilon fun m=>ExR (fun g=>S g ∨ w.heap.size ≤ g) x t M u wr m ∧ ∀ k,ExR (fun g=>S g ∨ w.heap.size ≤ g) x t M u wr k → m ≤ k)
  case atStart=>exact ⟨⟨_,HST.out⟩,Turn.refl _ _⟩
  case round =>
    obtain ⟨HN,HT⟩:=hrel
    obtain ⟨hsp,_⟩:=least_spec HN.out
    have HLT : Hid (∀ W k,ExR (fun g=>S g ∨ w.heap.size ≤ g) x t M u W k → k < (Classical.epsilon fun m=>ExR (fun g=>S g ∨ w.heap.size ≤ g) x t M u wr m ∧ ∀ k,ExR (fun g=>S g ∨ w.heap.size ≤ g) x t M u wr k → m ≤ k) → (Classical.epsilon fun m=>ExR (fun g=>S g ∨ w.heap.size ≤ g) x t M u W m ∧ ∀ k,ExR (fun g=>S g ∨ w.heap.size ≤ g) x t M u W k → m ≤ k) < (Classical.epsilon fun m=>ExR (fun g=>S g ∨ w.heap.size ≤ g) x t M u wr m ∧ ∀ k,ExR (fun g=>S g ∨ w.heap.size ≤ g) x t M u wr k → m ≤ k)):=fun W k h1 h2=>least_lt h1 h2
    obtain ⟨xs,lm,sm,cm,iv,Q,hs,D,hi,hf,hsub,hlen,hcnt⟩:=hsp
    have HI:=hid hi
    have HF:=hid hf
    have HSB:=hid hsub
    have HLE:=hid hlen
    have HCN:=hid hcnt
    have hwr:=HT.out.size
    clear HST hf hsub hlen hcnt HN
    by_cases h0 : 0 < hs.length
    · obtain ⟨g,cap,hiv⟩ : ∃ g cap,iv = .slice (some ⟨g,0,none⟩) hs.length cap:=by
        rcases hi.row.2 with ⟨_,e⟩ | ⟨g,cap,cur,e,_⟩
        · exact absurd e (by omega)
        · exact ⟨g,cap,e⟩
      subst hiv
      obtain ⟨hMM,_⟩:=heapM_of_row hi.row rfl
      have hgx : g ≠ x:=(hi.di g rfl).1
      have HMM:=hid hMM
      have x4 : wr.cell? ⟨x,4,none⟩ = some (.slice (some ⟨g,0,none⟩) hs.length cap):=hi.blk.cell 4
      have c1 : wr.cell? ⟨g,1,none⟩ = some (.int .i64 (hget hs 0).t):=by have:=(hMM.cells (k:=0) h0).2.1; simpa using this
      have h0i : (0 : Int) < hs.length:=by omega
      by_cases ht : (hget hs 0).t ≤ u
      · have hhl : hs.length = xs.length:=by
          have h1:=hi.perm.length_eq
          have h2:=congrArg List.length hi.q1
          simp only [List.length_map] at h1 h2
          omega
        have hh9 : hs.length ≤ 1000000000:=by have:=HLE.out; have:=HLX.out; omega
        obtain ⟨q,hq,hqb⟩:=hi.top h0
        have HQ:=hid hq
        have HQB:=hid hqb
        have HPO : Hid (Calls Tryz.prog 124 #[.pointer (some ⟨x,4,none⟩)] wr fun e w'=>e = .returned (.agg #[.pointer (some ⟨(hget hs 0).b,0,none⟩),.int .i64 (hget hs 0).t]) ∧ Blk w' x (#[.int .i64 t.limit,.map (some lm),.map (some sm),.map (some cm),.slice (some ⟨g,0,none⟩) hs.length cap].setIfInBounds 4 (.slice (some ⟨g,0,none⟩) (hs.length - 1) cap)) 147 ∧ HeapM w' g cap (popL hs) ∧ Turn (fun k=>k = x ∨ k = g) wr w'):=pop_any x 4 g cap hs wr _ _ hi.blk rfl hMM hgx h0 hh9
        have HTL:=hid ht
        clear hhl hMM
        rw [← hqb] at HPO
        clear hqb
        generalize hTT : (hget hs 0).t = TT at *
        have HTT : Hid ((hget hs 0).t = TT):=hTT
        clear hTT
        go_wp2_with fail
        refine HPO.out.mono ?_
        rintro e w1 ⟨rfl,hb1,hm1,ht1⟩
        have hp3:=(popL_says hi.heap h0).2.2
        have PP : Hid (Popped wr w1 x t.limit lm sm cm (.slice (some ⟨g,0,none⟩) hs.length cap) (.slice (some ⟨g,0,none⟩) (hs.length - 1) cap) hs):=hid {
          blk:=by simpa using hb1
          row:=by have:=row_of_heapM (B:=0) hm1 (Nat.zero_le _); rw [hp3] at this; exact this
          same:=rfl
          turn:=ht1.mono fun k _ e=>by rcases e with e | e; exact Or.inl e; exact Or.inr (by rw [e]; rfl) }
        have hqc:=hi.cells q hq
        have hqg : q.2 ≠ g:=(hi.di g rfl).2 q hq
        have hqx:=hi.dx q hq
        have Q1 : Hid (Blk w1 q.2 #[.string q.1.s,.int .i64 q.1.n] 84):=ht1.blk hqc (fun e=>by rcases e with e | e; exact hqx e; exact hqg e)
        have hfd:=field_ser (.pointer (some ⟨q.2,0,none⟩)) (.int .i64 TT)
        have v0 : w1.cell? ⟨q.2,0,none⟩ = some (.string q.1.s):=Q1.out.cell 0
        have v1 : w1.cell? ⟨q.2,1,none⟩ = some (.int .i64 q.1.n):=Q1.out.cell 1
        have TS1 : Hid (Turn S w w1):=HT.out.trans (ht1.mono fun k _ e=>by
          rcases e with rfl | rfl
          · exact hi.sx
          · exact hi.si _ rfl)
        have hqs : q.1 ∈ xs:=by have:=List.mem_map_of_mem (f:=(·.1)) hq; rw [hi.q1] at this; exact this
        have hks:=HKS.out q.1 (HSB.out q.1 hqs)
        have hs1:=ht1.size
        clear hb1 hm1 hqc x4 c1 HPO hgx hp3
        by_cases hL : q.1.n ≤ u
        · obtain ⟨c,hc⟩ : ∃ c,cntM metK xs (metK q.1.s) = c + 1:=⟨cntM metK (delBy (·.s) q.1.s xs) (metK q.1.s),by have:=cntM_del (met:=metK) hi.rs hqs (metK q.1.s); rw [if_pos rfl] at this; exact this⟩
          have hc9 : c ≤ 1000000000:=by have:=cntM_le metK xs (metK q.1.s); have:=HLE.out; have:=HLX.out; omega
          have HDR : Hid (Calls Tryz.prog 125 #[.pointer (some ⟨x,0,none⟩),.string q.1.s] w1 fun e w'=>e = .returned (.tuple #[]) ∧ w'.ownsMap Tryz.prog 9 ptrElem sm Q.length (DataW.del (mapOf (Q.map fun q=>(q.1.s,pVal q.2))) (kL q.1.s)) ∧ w'.ownsMap Tryz.prog 9 (plainElem Tryz.prog 3) cm M (D.put (kL (metK q.1.s)) (iVal c)) ∧ Turn (fun k=>k = sm ∨ k = cm) w1 w') :=
            drop_any x lm sm cm t.limit _ q.1.s Q D M c w1 PP.out.blk (ht1.map hi.sers (fun e=>by rcases e with e | e; exact map_ne_cells hi.sers hi.blk e; exact map_ne_row hi.sers hi.row (by rw [e]; rfl))) (ht1.map hi.cnts (fun e=>by rcases e with e | e; exact map_ne_cells hi.cnts hi.blk e; exact map_ne_row hi.cnts hi.row (by rw [e]; rfl))) (by rw [hi.cnt,hc]) hi.d3 hks hM hc9 (fun W hW=>HUT.out W (TS1.out.trans (hW.mono fun k _ e=>by rw [e]; exact hi.ss)))
          have HCC:=hid hc
          clear hc hi ht1
          go_wp2_with fail
          refine HDR.out.mono ?_
          rintro e w4 ⟨rfl,own2,own4,ht4⟩
          have HE:=hid (ex_drop HI.out HF.out HSB.out HLE.out h0 (by rw [HTT.out]; exact HTL.out) HQ.out HQB.out hL PP.out ht4 own2 own4 HCC.out)
          clear own2 own4 ht4 HDR
          go_wp2
          obtain ⟨⟨k,hk1,hk2⟩,hk3⟩:=HE.out
          exact ⟨⟨⟨k,hk1⟩,HT.out.trans hk3⟩,HLT.out _ k hk1 (by rw [HCN.out] at hk2; exact hk2)⟩
        · have hL' : u < q.1.n:=by omega
          have hpl : (popL hs).length = hs.length - 1:=(popL_says hi.heap h0).2.2
          have HPU : Hid (∀ W,Below w1.heap.size w1 W → Calls Tryz.prog 123 #[.pointer (some ⟨x,4,none⟩),.agg #[.pointer (some ⟨q.2,0,none⟩),.int .i64 q.1.n]] W fun e w'=>e = .returned (.tuple #[]) ∧ ∃ g' cap',Blk w' x (#[.int .i64 t.limit,.map (some lm),.map (some sm),.map (some cm),.slice (some ⟨g,0,none⟩) (hs.length - 1) cap].setIfInBounds 4 (.slice (some ⟨g',0,none⟩) ((popL hs).length + 1) cap')) 147 ∧
              w'.ownsRow 0 189 2 (.slice (some ⟨g',0,none⟩) ((popL hs).length + 1) cap') ((popL hs).length + 1) (flatS (pushL (popL hs) ⟨q.2,q.1.n⟩)) ∧ ((Value.slice (some ⟨g,0,none⟩) (hs.length - 1) cap).ownBlock = some g' ∨ W.heap.size ≤ g') ∧ Turn (fun k=>k = x ∨ (Value.slice (some ⟨g,0,none⟩) (hs.length - 1) cap).ownBlock = some k) W w'):=fun W hW=>by
            have hgx:=(hi.di g rfl).1
            exact push_any x 4 0 (.slice (some ⟨g,0,none⟩) (hs.length - 1) cap) (popL hs) ⟨q.2,q.1.n⟩ W _ _ (PP.out.blk.later hW) rfl (by rw [hpl]; exact (Turn.of (S:=fun _=>False) hW).row PP.out.row (fun _ _ e=>e)) (fun e=>hgx (by simpa [Value.ownBlock] using e)) (Nat.zero_le _) (by omega)
          clear hi ht1 v0
          go_upto_region 4 with fail
          refine wp_region_quiet_tail 9 (by kernel_rfl) (by kernel_rfl) ?_
          simp only [List.take_succ_cons,List.take_zero,List.drop_succ_cons,List.drop_zero]
          have hnel : Nonempty Unit:=⟨()⟩
          repeat (go_big_quiet_step (fail))
          refine wpQuiet_nil ?_
          go_wp2_with (first | (go_at_call 123; refine (HPU.out _ ((Below.refl _ _).drew)).mono ?_; rintro e w4 ⟨rfl,g',cap',hb4,hr4,hloc,ht4⟩))
          have HE:=hid (ex_again (B:=w.heap.size) HI.out HF.out HSB.out HLE.out h0 (by rw [HTT.out]; exact HTL.out) HQ.out HQB.out hL' PP.out (by simpa using hb4) hr4 hloc ((Turn.of (S:=fun k=>k = x ∨ (Value.slice (some ⟨g,0,none⟩) (hs.length - 1) cap).ownBlock = some k) ((Below.refl w1.heap.size w1).drew)).trans' ht4) hwr (fun g hg _=>Or.inr hg))
          clear hb4 hr4 hloc ht4 HPU
          obtain ⟨⟨k,hk1,hk2⟩,hk3⟩:=HE.out
          exact ⟨⟨⟨k,hk1⟩,HT.out.trans hk3⟩,HLT.out _ k hk1 (by rw [HCN.out] at hk2; exact hk2)⟩
      · have HEND : Hid (IdxAt wr (fun g=>S g ∨ w.heap.size ≤ g) x (keptT win now t) M):=ex_end hi HEU.out HF.out (fun h=>ht h.2)
        clear hi
        generalize (hget hs 0).t = TT at *
        go_wp2
        go_end0
        exact ⟨rfl,HEND.out,HT.out⟩
    · have HEND : Hid (IdxAt wr (fun g=>S g ∨ w.heap.size ≤ g) x (keptT win now t) M):=ex_end hi HEU.out HF.out (fun h=>h0 h.1)
      have hz : hs.length = 0:=by omega
      have x4 : ∃ v,wr.cell? ⟨x,4,none⟩ = some v ∧ (v = .slice none 0 0 ∨ ∃ g cap,v = .slice (some ⟨g,0,none⟩) 0 cap):=by
        refine ⟨iv,hi.blk.cell 4,?_⟩
        rcases hi.row.2 with ⟨e,_⟩ | ⟨g,cap,cur,e,_⟩
        · exact Or.inl e
        · rw [hz] at e; exact Or.inr ⟨g,cap,e⟩
      clear hi hz
      obtain ⟨v,x4,hv⟩:=x4
      rcases hv with rfl | ⟨g,cap,rfl⟩
      · go_wp2
        go_end0
        exact ⟨rfl,HEND.out,HT.out⟩
      · go_wp2
        go_end0
        exact ⟨rfl,HEND.out,HT.out⟩
end Go.Proofs.YtkmdbpaeeagccaaGreatDoor
