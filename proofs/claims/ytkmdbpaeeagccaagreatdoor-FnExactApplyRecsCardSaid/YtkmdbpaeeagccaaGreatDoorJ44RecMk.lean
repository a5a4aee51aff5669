import Derived.Test.YtkmdbpaeeagccaaGreatDoorProg
import Derived.Test.YtkmdbpaeeagccaaGreatDoorJ43MkS
import Derived.Test.YtkmdbpaeeagccaaGreatDoorJ33SlmV
import Derived.Test.YtkmdbpaeeagccaaGreatDoorJ02LabB
import Derived.Test.YtkmdbpaeeagccaaGreatDoorJ24TenF
import Derived.Test.YtkmdbpaeeagccaaGreatDoorJ01Own
import Derived.Test.YtkmdbpaeeagccaaGreatDoorJ22RecB
import Derived.Deep.OwnRows
namespace Go.Proofs.YtkmdbpaeeagccaaGreatDoor
open Go.RowKit
theorem blk_allocB {w w' : World} {cs : Array Value} {t : TypeId} (h : Below (w.alloc (.cells cs t)).heap.size (w.alloc (.cells cs t)) w') : Blk w' w.heap.size cs t:=(Blk.new w cs t).later h
theorem blk_drewB {w w' : World} {cs : Array Value} {t : TypeId} (h : Below (w.alloc (.cells cs t)).drew.heap.size (w.alloc (.cells cs t)).drew w') : Blk w' w.heap.size cs t:=(Blk.new w cs t).later ⟨h.os,h.tape,h.output,h.size,h.block⟩
theorem set2 {w1 w5 : World} {X : Nat} {v0 v1 : Value} (h : Below w1.heap.size w1 w5) (hX : w1.heap.size ≤ X) : Below w1.heap.size w1 ((w5.setCell ⟨X,0,none⟩ v0).setCell ⟨X,1,none⟩ v1):=(h.setCell hX _).setCell hX _
def TensX (w : World) (B X : Nat) (a : Option Addr) (ts : List TenD) : Prop :=
  ts = [] ∨ ∃ g o cur t T,a = some ⟨g,o,none⟩ ∧ B ≤ g ∧ w.heap[g]? = some (.cells cur t (0,0)) ∧ T g = 0 ∧ 2 * ts.length < T X ∧ ∀ i (h : i < ts.length),TenOwn w B T i g (o + i * 4) ts[i]
theorem TensX.tens {w : World} {B X : Nat} {a : Option Addr} {ts : List TenD} (h : TensX w B X a ts) : TensIn w a ts:=by
  rcases h with h | ⟨g,o,cur,t,T,rfl,_,hb,_,_,h⟩
  · exact Or.inl h
  · exact Or.inr ⟨g,o,rfl,lt_of_block hb,fun i hi=>(h i hi).at⟩
theorem TensX.turned {S : Nat → Prop} {w w' : World} {B X : Nat} {a : Option Addr} {ts : List TenD} (h : TensX w B X a ts) (ht : Turn S w w') (hS : ∀ g,B ≤ g → g < w.heap.size → g ≠ X → ¬ S g) : TensX w' B X a ts:=by
  rcases h with h | ⟨g,o,cur,t,T,rfl,hB,hg,hT,hX,h⟩
  · exact Or.inl h
  · have hk:=ht.block g (lt_of_block hg) (hS g hB (lt_of_block hg) (fun e=>by subst e; omega))
    refine Or.inr ⟨g,o,cur,t,T,rfl,hB,hk.trans hg,hT,hX,fun i hi=>(h i hi).keep (fun j _=>World.cell?_of_block hk) fun g' hg' hB' hT'=>⟨ht.block g' hg' (hS g' hB' hg' (fun e=>by subst e; omega)),rfl⟩⟩
theorem TensX.later {w w' : World} {B X : Nat} {a : Option Addr} {ts : List TenD} (h : TensX w B X a ts) (hb : Below w.heap.size w w') : TensX w' B X a ts:=h.turned (Turn.of (S:=fun _=>False) hb) fun _ _ _ _ e=>e
theorem TensOwn.toX {w : World} {B X : Nat} {a : Option Addr} {ts : List TenD} (h : TensOwn w B a ts) (hX : X < B ∨ w.heap.size ≤ X) : TensX w B X a ts:=by
  rcases h with h | ⟨g,o,cur,t,T,rfl,hB,hg,hT,h⟩
  · exact Or.inl h
  · have hlt:=lt_of_block hg
    refine Or.inr ⟨g,o,cur,t,fun x=>if x = X then 2 * ts.length + 1 else T x,rfl,hB,hg,?_,?_,fun i hi=>(h i hi).keep (fun j _=>rfl) fun g' hg' hB' _=>⟨rfl,?_⟩⟩
    · show (if g = X then _ else T g) = 0
      rw [if_neg (by omega)]; exact hT
    · show _ < (if X = X then _ else T X)
      rw [if_pos rfl]; omega
    · show (if g' = X then _ else T g') = T g'
      rw [if_neg (by omega)]
theorem markTensX (a : Option Addr) (cap : Nat) (ts : List TenD) (k B X : Nat) (w : World) (hk : 0 < k) (hk2 : k + tensLen ts ≤ 100000000) (h0 : TensX w B X a ts) :
    Calls Tryz.prog 31 #[.slice a ts.length cap,.int .i64 (k : Int)] w fun e w'=>e = .returned (.int .i64 ((k + tensLen ts : Nat) : Int)) ∧ Turn (fun g=>B ≤ g ∧ g ≠ X) w w' ∧ TensIn w' a (markTens k ts):=by
  rcases h0 with rfl | ⟨g,o,cur,t,T,rfl,hB,hg,hT,hX,h⟩
  · refine (markTenantS_nil a cap k w).mono ?_
    rintro e w' ⟨rfl,rfl⟩
    exact ⟨ret_int (by simp [tensLen]),Turn.refl _ _,Or.inl (by simp [markTens])⟩
  · refine (markTenantS_any g o cap ts k B T cur t w hk hk2 hB hg hT h).mono ?_
    rintro e w' ⟨rfl,ht,c,hc,hm⟩
    exact ⟨rfl,ht.mono fun x _ hx=>⟨hx.1,fun e=>by subst e; have:=hx.2; omega⟩,Or.inr ⟨g,o,rfl,lt_of_block hc,fun i hi=>(hm i hi).at⟩⟩
set_option maxRecDepth 100000 in
set_option maxHeartbeats 1000000 in
theorem markStateX (now : Int) (a : Option Addr) (cap : Nat) (ts : List TenD) (k B X : Nat) (w : World) (hk : 0 < k) (hk2 : k + tensLen ts ≤ 100000000) (h0 : TensX w B X a ts) :
    Calls Tryz.prog 13 #[.agg #[.int .i64 now,.slice a ts.length cap],.int .i64 (k : Int)] w fun e w'=>e = .returned (.int .i64 ((k + tensLen ts : Nat) : Int)) ∧ Turn (fun g=>B ≤ g ∧ g ≠ X) w w' ∧ TensIn w' a (markTens k ts):=by
  have HM : Hid (∀ W,Below w.heap.size w W → Calls Tryz.prog 31 #[.slice a ts.length cap,.int .i64 (k : Int)] W fun e w'=>e = .returned (.int .i64 ((k + tensLen ts : Nat) : Int)) ∧ Turn (fun g=>B ≤ g ∧ g ≠ X) W w' ∧ TensIn w' a (markTens k ts)):=fun W hW=>markTensX a cap ts k B X W hk hk2 (h0.later hW)
  clear h0
  go_enter Tryz.func13,Tryz.ntmps13
  go_wp2_with fail
  refine (HM.out _ (bnew _ _)).mono ?_
  rintro e w1 ⟨rfl,ht,ho⟩
  have HT : Hid (Turn (fun g=>B ≤ g ∧ g ≠ X) w w1 ∧ TensIn w1 a (markTens k ts)):=⟨(Turn.of (bnew _ _)).trans' ht,ho⟩
  clear ht ho
  go_wp2
  go_ret
  exact ⟨rfl,HT.out.1,HT.out.2⟩
def StX (wv : World) (X : Nat) (v : Int) (vl : List TenD) (n : Nat) (wx : World) : Prop :=
  ∃ b d B,Blk wx X #[.int .i64 v,.slice b n d] 32 ∧ TensX wx B X b vl ∧ wv.heap.size ≤ B ∧ wv.heap.size ≤ X ∧ Below wv.heap.size wv wx
theorem stX_new {wv w4 : World} {v : Int} {vl : List TenD} {b : Option Addr} {d n B : Nat} (ho : TensOwn w4 B b vl) (hB : wv.heap.size ≤ B) (k : Below wv.heap.size wv w4) : StX wv w4.heap.size v vl n (w4.alloc (.cells #[.int .i64 v,.slice b n d] 32)) :=
  ⟨b,d,B,Blk.new _ _ _,(ho.toX (Or.inr (Nat.le_refl _))).later (bnew _ _),hB,k.size,bto k (bnew _ _)⟩
theorem stX_old {wv w4 : World} {v : Int} {vl : List TenD} {b : Option Addr} {d n B X : Nat} (ho : TensOwn w4 B b vl) (hX : X < B) (hx : wv.heap.size ≤ X) (hz : Blk w4 X #[.int .i64 0,.slice none 0 0] 32) (k : Below wv.heap.size wv w4) :
    StX wv X v vl n ((w4.setCell ⟨X,0,none⟩ (.int .i64 v)).setCell ⟨X,1,none⟩ (.slice b n d)):=by
  have ht : Turn (· = X) w4 ((w4.setCell ⟨X,0,none⟩ (.int .i64 v)).setCell ⟨X,1,none⟩ (.slice b n d)):=((Turn.refl (· = X) w4).setCell (Or.inl rfl) 0 _).setCell (Or.inl rfl) 1 _
  refine ⟨b,d,B,?_,(ho.toX (Or.inl hX)).turned ht (fun g _ _ h e=>h e),by omega,hx,set2 k hx⟩
  have:=(hz.set 0 (.int .i64 v)).set 1 (.slice b n d)
  simpa using this
theorem tensLen_small {ts : List TenD} (h : ts.length + tensBulk ts ≤ 1100000) : tensLen ts ≤ 4400000:=by
  have : tensLen ts ≤ 2 * tensBulk ts + 2 * ts.length:=by
    clear h
    induction ts with
    | nil=>exact Nat.zero_le _
    | cons t r ih=>simp only [List.length_cons,tensLen,tenLen,tensBulk,tenBulk]; omega
  omega
end Go.Proofs.YtkmdbpaeeagccaaGreatDoor
namespace Go.Proofs.YtkmdbpaeeagccaaGreatDoor
open Go.RowKit
set_option maxRecDepth 100000 in
set_option maxHeartbeats 1000000 in
theorem szTenant_any (f : TenD) (a1 a2 : Option Addr) (c1 c2 : Nat) (left : Int) (w : World) (h0 : 0 ≤ left) (h1 : left ≤ 1048576) (hs : ShortTen f) (p1 : PairsIn w a1 f.mets) (p2 : PairsIn w a2 f.sers) :
    Calls Tryz.prog 34 #[.agg #[.string f.name,.int .i64 f.limit,.slice a1 f.mets.length c1,.slice a2 f.sers.length c2],.int .i64 left] w fun e w'=>e = .returned (.int .i64 (szTen left f)) ∧ Below w.heap.size w w':=by
  obtain ⟨hn,hsm,hlm,hss,hls⟩:=hs
  unfold maxLen at hn
  by_cases k1 : left - f.name.size < 0
  · have E : Hid (szTen left f = -1):=by show _ = _; unfold szTen tenBulk; rw [if_neg]; omega
    clear p1 p2 hsm hlm hss hls
    go_enter Tryz.func34,Tryz.ntmps34
    go_wp2
    go_ret
    exact ⟨ret_int E.out.symm,bnew _ _⟩
  have HM : Hid (∀ W,Below w.heap.size w W → Calls Tryz.prog 63 #[.slice a1 f.mets.length c1,.int .i64 (left - f.name.size)] W fun e w'=>e = .returned (.int .i64 (szPairs (left - f.name.size) f.mets)) ∧ Below W.heap.size W w') :=
    fun W hW=>szMetricLimitS_any a1 c1 f.mets _ W (by omega) (by omega) (p1.later hW) hsm hlm
  by_cases k2 : (f.mets.length + pairBulk f.mets : Int) ≤ left - f.name.size
  · have e2 : szPairs (left - f.name.size) f.mets = left - f.name.size - f.mets.length - pairBulk f.mets:=by unfold szPairs; rw [if_pos k2]
    rw [e2] at HM
    have k2' : ¬ (left - f.name.size - f.mets.length - pairBulk f.mets < 0):=by omega
    have HS : Hid (∀ W,Below w.heap.size w W → Calls Tryz.prog 64 #[.slice a2 f.sers.length c2,.int .i64 (left - f.name.size - f.mets.length - pairBulk f.mets)] W fun e w'=>e = .returned (.int .i64 (szPairs (left - f.name.size - f.mets.length - pairBulk f.mets) f.sers)) ∧ Below W.heap.size W w') :=
      fun W hW=>szSeriesS_any a2 c2 f.sers _ W (by omega) (by omega) (p2.later hW) hss hls
    by_cases k3 : (f.sers.length + pairBulk f.sers : Int) ≤ left - f.name.size - f.mets.length - pairBulk f.mets
    · have e3 : szPairs (left - f.name.size - f.mets.length - pairBulk f.mets) f.sers = left - f.name.size - f.mets.length - pairBulk f.mets - f.sers.length - pairBulk f.sers:=by unfold szPairs; rw [if_pos k3]
      rw [e3] at HS
      have k3' : ¬ (left - f.name.size - f.mets.length - pairBulk f.mets - f.sers.length - pairBulk f.sers < 0):=by omega
      have E : Hid (szTen left f = left - f.name.size - f.mets.length - pairBulk f.mets - f.sers.length - pairBulk f.sers):=by show _ = _; unfold szTen tenBulk; rw [if_pos] <;> omega
      clear p1 p2 hsm hlm hss hls e2 e3 k2 k3
      go_enter Tryz.func34,Tryz.ntmps34
      go_wp2_with fail
      refine (HM.out _ (bnew _ _)).mono ?_
      rintro e w1 ⟨rfl,hb1⟩
      have B1 : Hid (Below w.heap.size w w1):=bto (bnew _ _) hb1
      obtain ⟨hc,hf⟩:=bcell hb1
      clear hb1
      go_wp2_with fail
      refine (HS.out _ B1.out).mono ?_
      rintro e w2 ⟨rfl,hb2⟩
      have B2 : Hid (Below w.heap.size w w2):=bto B1.out hb2
      clear hb2 hc hf
      go_wp2
      go_ret
      exact ⟨ret_int E.out.symm,B2.out⟩
    · have e3 : szPairs (left - f.name.size - f.mets.length - pairBulk f.mets) f.sers = -1:=by unfold szPairs; rw [if_neg k3]
      rw [e3] at HS
      have E : Hid (szTen left f = -1):=by show _ = _; unfold szTen tenBulk; rw [if_neg]; omega
      clear p1 p2 hsm hlm hss hls e2 e3 k2 k3
      go_enter Tryz.func34,Tryz.ntmps34
      go_wp2_with fail
      refine (HM.out _ (bnew _ _)).mono ?_
      rintro e w1 ⟨rfl,hb1⟩
      have B1 : Hid (Below w.heap.size w w1):=bto (bnew _ _) hb1
      obtain ⟨hc,hf⟩:=bcell hb1
      clear hb1
      go_wp2_with fail
      refine (HS.out _ B1.out).mono ?_
      rintro e w2 ⟨rfl,hb2⟩
      have B2 : Hid (Below w.heap.size w w2):=bto B1.out hb2
      clear hb2 hc hf
      go_wp2
      go_ret
      exact ⟨ret_int E.out.symm,B2.out⟩
  · have e2 : szPairs (left - f.name.size) f.mets = -1:=by unfold szPairs; rw [if_neg k2]
    rw [e2] at HM
    have E : Hid (szTen left f = -1):=by show _ = _; unfold szTen tenBulk; rw [if_neg]; omega
    clear p1 p2 hsm hlm hss hls e2 k2
    go_enter Tryz.func34,Tryz.ntmps34
    go_wp2_with fail
    refine (HM.out _ (bnew _ _)).mono ?_
    rintro e w1 ⟨rfl,hb1⟩
    have B1 : Hid (Below w.heap.size w w1):=bto (bnew _ _) hb1
    clear hb1
    go_wp2
    go_ret
    exact ⟨ret_int E.out.symm,B1.out⟩
set_option maxRecDepth 100000 in
set_option maxHeartbeats 1000000 in
theorem szTenantS_any (a : Option Addr) (cap : Nat) (fs : List TenD) (left : Int) (w : World) (h0 : 0 ≤ left) (h1 : left ≤ 1048576) (hf : TensIn w a fs) (hs : ShortT fs) (hlen : fs.length ≤ maxLen) :
    Calls Tryz.prog 16 #[.slice a fs.length cap,.int .i64 left] w fun e w'=>e = .returned (.int .i64 (szTens left fs)) ∧ Below w.heap.size w w':=by
  unfold maxLen at hlen
  by_cases c1 : left - fs.length < 0
  · have e : szTens left fs = -1:=by unfold szTens; rw [if_neg]; omega
    rw [e]
    clear hf hs
    go_enter Tryz.func16,Tryz.ntmps16
    go_wp2
    go_ret
    exact ⟨rfl,Below.refl _ _⟩
  · have hne : ¬ (left - fs.length < 0):=c1
    have HF : Hid (TensIn w a fs):=hf
    have HS : Hid (ShortT fs):=hs
    clear hf hs
    go_enter Tryz.func16,Tryz.ntmps16
    go_wp2
    go_loopw [1,5] (fun l i wr=>∃ k : Nat,k ≤ fs.length ∧ i = .int .i64 k ∧ (tensBulk (fs.take k) : Int) ≤ left - fs.length ∧ l = .int .i64 (left - fs.length - tensBulk (fs.take k)) ∧ Below w.heap.size w wr) (fun _ i _=>fs.length - (intOf i).toNat)
    case atStart=>exact ⟨0,Nat.zero_le _,rfl,by simp [tensBulk]; omega,by simp [tensBulk],Below.refl _ _⟩
    case round =>
      obtain ⟨k,hk,rfl,hle,rfl,hbel⟩:=hrel
      by_cases hlt : k < fs.length
      · obtain ⟨b,o,a1,q1,a2,q2,rfl,hb,c0,c1,c2,c3,p1,p2⟩:=(HF.out.later hbel).at hlt
        have hss:=HS.out k hlt
        have hts:=tensBulk_take_succ fs k hlt
        have htl:=tensBulk_take_le fs (k + 1)
        have HC : Hid (∀ L : Int,0 ≤ L → L ≤ 1048576 → Calls Tryz.prog 34 #[.agg #[.string fs[k].name,.int .i64 fs[k].limit,.slice a1 fs[k].mets.length q1,.slice a2 fs[k].sers.length q2],.int .i64 L] wr fun e w'=>e = .returned (.int .i64 (szTen L fs[k])) ∧ Below wr.heap.size wr w') :=
          fun L g0 g1=>szTenant_any fs[k] a1 a2 q1 q2 L wr g0 g1 hss p1 p2
        clear p1 p2 hss
        by_cases c3 : (tenBulk fs[k] : Int) ≤ left - fs.length - tensBulk (fs.take k)
        · have E : Hid (szTen (left - fs.length - tensBulk (fs.take k)) fs[k] = left - fs.length - tensBulk (fs.take (k + 1))):=by
            show _ = _
            unfold szTen; rw [if_pos (by omega),hts]; omega
          have hle2 : (tensBulk (fs.take (k + 1)) : Int) ≤ left - fs.length:=by omega
          clear hts
          go_wp2_with fail
          refine (HC.out _ (by omega) (by omega)).mono ?_
          rintro e w' ⟨rfl,hb2⟩
          rw [E.out]
          clear HC
          go_wp2
          exact ⟨⟨k + 1,by omega,by go_num,hle2,rfl,hbel.trans (hb2.mono hbel.size)⟩,by simp [intOf]; omega⟩
        · have E : Hid (szTen (left - fs.length - tensBulk (fs.take k)) fs[k] = -1):=by
            show _ = _
            unfold szTen; rw [if_neg (by omega)]
          have E2 : Hid (szTens left fs = -1):=by show szTens left fs = -1; unfold szTens; rw [if_neg (by omega)]
          clear hts
          go_wp2_with fail
          refine (HC.out _ (by omega) (by omega)).mono ?_
          rintro e w' ⟨rfl,hb2⟩
          rw [E.out]
          clear HC
          go_wp2
          go_ret
          exact ⟨ret_int E2.out.symm,hbel.trans (hb2.mono hbel.size)⟩
      · go_wp2
        go_ret
        have e : fs.take k = fs:=List.take_of_length_le (by omega)
        rw [e] at hle ⊢
        exact ⟨ret_int (by unfold szTens; rw [if_pos (by omega)]),hbel⟩
set_option maxHeartbeats 1000000 in
theorem szState_any (a : Option Addr) (cap : Nat) (fs : List TenD) (now : Int) (left : Int) (w : World) (h0 : 0 ≤ left) (h1 : left ≤ 1048576) (hf : TensIn w a fs) (hs : ShortT fs) (hlen : fs.length ≤ maxLen) :
    Calls Tryz.prog 4 #[.agg #[.int .i64 now,.slice a fs.length cap],.int .i64 left] w fun e w'=>e = .returned (.int .i64 (szTens left fs)) ∧ Below w.heap.size w w':=by
  have HC : Hid (∀ W,Below w.heap.size w W → Calls Tryz.prog 16 #[.slice a fs.length cap,.int .i64 left] W fun e w'=>e = .returned (.int .i64 (szTens left fs)) ∧ Below W.heap.size W w') :=
    fun W hW=>szTenantS_any a cap fs left W h0 h1 (hf.later hW) hs hlen
  clear hf hs
  by_cases c : (fs.length + tensBulk fs : Int) ≤ left
  · have e : szTens left fs = left - fs.length - tensBulk fs:=by unfold szTens; rw [if_pos c]
    rw [e] at HC ⊢
    have hn : ¬ (left - fs.length - tensBulk fs < 0):=by omega
    generalize left - fs.length - tensBulk fs = L at *
    clear e
    go_enter Tryz.func4,Tryz.ntmps4
    go_wp2_with fail
    refine (HC.out _ (bnew _ _)).mono ?_
    rintro e w1 ⟨rfl,hb1⟩
    have B1 : Hid (Below w.heap.size w w1):=bto (bnew _ _) hb1
    clear hb1
    go_wp2
    go_ret
    exact ⟨rfl,B1.out⟩
  · have e : szTens left fs = -1:=by unfold szTens; rw [if_neg c]
    rw [e] at HC ⊢
    clear e
    go_enter Tryz.func4,Tryz.ntmps4
    go_wp2_with fail
    refine (HC.out _ (bnew _ _)).mono ?_
    rintro e w1 ⟨rfl,hb1⟩
    have B1 : Hid (Below w.heap.size w w1):=bto (bnew _ _) hb1
    clear hb1
    go_wp2
    go_ret
    exact ⟨rfl,B1.out⟩
end Go.Proofs.YtkmdbpaeeagccaaGreatDoor
namespace Go.Proofs.YtkmdbpaeeagccaaGreatDoor
open Go.RowKit
set_option maxRecDepth 100000 in
set_option maxHeartbeats 1000000 in
theorem toConfig_any (c0 c1 c2 c3 c4 c5 : Int) (w : World) :
    Calls Tryz.prog 7 #[.agg #[.int .i64 c0,.int .i64 c1,.int .i64 c2,.int .i64 c3,.int .i64 c4,.int .i64 c5]] w fun e w'=>e = .returned (.agg #[.int .i64 c0,.int .i64 c1,.int .i64 c2,.int .i64 c3,.int .i64 c4,.int .i64 c5]) ∧ Below w.heap.size w w':=by
  go_enter Tryz.func7,Tryz.ntmps7
  go_wp2
  exact bodyPost_ret (v:=.agg #[.int .i64 c0,.int .i64 c1,.int .i64 c2,.int .i64 c3,.int .i64 c4,.int .i64 c5]) (by simp [results,Tryz.results7,go_sem]) rfl ⟨rfl,(((Below.refl _ _).alloc (Nat.le_refl _) _).alloc (by simp) _).alloc (by simp; omega) _⟩
end Go.Proofs.YtkmdbpaeeagccaaGreatDoor
namespace Go.Proofs.YtkmdbpaeeagccaaGreatDoor
open Go.RowKit
theorem info_rec : (Tryz.prog.info? 51).map (fun i=>(i.zero,i.size,i.bytes)) = some (some (.agg #[.int .i64 0,.string ByteArray.empty,.string ByteArray.empty,.int .i64 0]),4,48):=by kernel_rfl
theorem make_recs (n : Nat) (hn : n ≤ 1048576) (w : World) :
    (Instr.makeSlice 38 (.int .i64 (n : Int)) (.int .i64 (n : Int))).run Tryz.prog w = .ok (.slice (some ⟨w.heap.size,0,none⟩) n n) (w.alloc (.cells (madeCells #[.int .i64 0,.string ByteArray.empty,.string ByteArray.empty,.int .i64 0] (n * 4)) 51)):=by
  obtain ⟨i,hi,hzz⟩:=Option.map_eq_some_iff.1 info_rec
  simp only [Prod.mk.injEq] at hzz
  obtain ⟨hz,hs,hb⟩:=hzz
  have hr:=run_make (P:=Tryz.prog) w 38 51 i _ Tryz.underlying38 hi hz .i64 .i64 n n (by omega) (Int.le_refl _) (by rw [hb]; omega) (by omega)
  simp only [Int.toNat_natCast,hs] at hr
  exact hr
def FillR (w : World) (g n : Nat) (fs : List RecD) (k : Nat) : Prop:=∃ cur : Array Value,w.heap[g]? = some (.cells cur 51 (0,0)) ∧ cur.size = n * 4 ∧
  ∀ i (h : i < fs.length),i < k → cur[i * 4]? = some (.int .i64 fs[i].kind) ∧ cur[i * 4 + 1]? = some (.string fs[i].tenant) ∧ cur[i * 4 + 2]? = some (.string fs[i].text) ∧ cur[i * 4 + 3]? = some (.int .i64 fs[i].num)
theorem FillR.later {w w' : World} {g n k : Nat} {fs : List RecD} {B : Nat} (h : FillR w g n fs k) (hb : Below B w w') (hg : g < B) : FillR w' g n fs k:=by
  obtain ⟨cur,h1,h2⟩:=h
  exact ⟨cur,by rw [hb.block g hg]; exact h1,h2⟩
theorem FillR.cells {w : World} {g n k : Nat} {fs : List RecD} (h : FillR w g n fs k) {j : Nat} (hj : j < n * 4) : (∃ v,w.cell? ⟨g,j,none⟩ = some v) ∧ w.frozen? ⟨g,j,none⟩ = false:=by
  obtain ⟨cur,h1,h2,_⟩:=h
  refine ⟨⟨cur[j],?_⟩,frozen_of_row w g j cur _ h1⟩
  rw [cell_of_row w g j cur _ _ h1]
  exact Array.getElem?_eq_getElem (by omega)
theorem FillR.step {w : World} {g n k : Nat} {fs : List RecD} (h : FillR w g n fs k) (hk : k < fs.length) (hn : fs.length ≤ n) :
    FillR ((((w.setCell ⟨g,k * 4,none⟩ (.int .i64 fs[k].kind)).setCell ⟨g,k * 4 + 1,none⟩ (.string fs[k].tenant)).setCell ⟨g,k * 4 + 2,none⟩ (.string fs[k].text)).setCell ⟨g,k * 4 + 3,none⟩ (.int .i64 fs[k].num)) g n fs (k + 1):=by
  obtain ⟨cur,h1,h2,h3⟩:=h
  refine ⟨_,heap_setCell_same _ _ _ _ _ _ (heap_setCell_same _ _ _ _ _ _ (heap_setCell_same _ _ _ _ _ _ (heap_setCell_same _ _ _ _ _ _ h1))),by simp [h2],fun i hi hlt=>?_⟩
  by_cases e : i = k
  · subst e
    refine ⟨?_,?_,?_,?_⟩ <;> simp [Array.getElem?_setIfInBounds] <;> omega
  · obtain ⟨a1,a2,a3,a4⟩:=h3 i hi (by omega)
    refine ⟨?_,?_,?_,?_⟩
    · rw [Array.getElem?_setIfInBounds_ne (by omega),Array.getElem?_setIfInBounds_ne (by omega),Array.getElem?_setIfInBounds_ne (by omega),Array.getElem?_setIfInBounds_ne (by omega)]; exact a1
    · rw [Array.getElem?_setIfInBounds_ne (by omega),Array.getElem?_setIfInBounds_ne (by omega),Array.getElem?_setIfInBounds_ne (by omega),Array.getElem?_setIfInBounds_ne (by omega)]; exact a2
    · rw [Array.getElem?_setIfInBounds_ne (by omega),Array.getElem?_setIfInBounds_ne (by omega),Array.getElem?_setIfInBounds_ne (by omega),Array.getElem?_setIfInBounds_ne (by omega)]; exact a3
    · rw [Array.getElem?_setIfInBounds_ne (by omega),Array.getElem?_setIfInBounds_ne (by omega),Array.getElem?_setIfInBounds_ne (by omega),Array.getElem?_setIfInBounds_ne (by omega)]; exact a4
theorem FillR.done {w : World} {g B : Nat} {fs : List RecD} (h : FillR w g fs.length fs fs.length) (hB : B ≤ g) : RecsOwn w B (some ⟨g,0,none⟩) fs:=by
  obtain ⟨cur,h1,h2,h3⟩:=h
  refine Or.inr ⟨g,0,cur,_,rfl,hB,h1,fun i hi=>?_⟩
  obtain ⟨a1,a2,a3,a4⟩:=h3 i hi hi
  simp only [cell_of_row w g _ cur _ _ h1,Nat.zero_add]
  exact ⟨a1,a2,a3,a4⟩
end Go.Proofs.YtkmdbpaeeagccaaGreatDoor
namespace Go.Proofs.YtkmdbpaeeagccaaGreatDoor
open Go.RowKit
set_option maxHeartbeats 400000 in
theorem szRec_any (f : RecD) (left : Int) (w : World) (h0 : 0 ≤ left) (h1 : left ≤ 1048576) (hn : f.tenant.size ≤ maxLen) (hd : f.text.size ≤ maxLen) :
    Calls Tryz.prog 17 #[.agg #[.int .i64 f.kind,.string f.tenant,.string f.text,.int .i64 f.num],.int .i64 left] w fun e w'=>e = .returned (.int .i64 (szRc left f)) ∧ Below w.heap.size w w':=by
  unfold maxLen at hn hd
  obtain ⟨ki,nm,da,nu⟩:=f
  simp only at hn hd ⊢
  by_cases c1 : left - nm.size < 0
  · have e : szRc left ⟨ki,nm,da,nu⟩ = -1:=by unfold szRc; rw [if_neg]; simp only; omega
    rw [e]
    go_enter Tryz.func17,Tryz.ntmps17
    go_wp2
    go_ret
    exact ⟨rfl,(Below.refl _ _).alloc (Nat.le_refl _) _⟩
  · by_cases c2 : left - nm.size - da.size < 0
    · have e : szRc left ⟨ki,nm,da,nu⟩ = -1:=by unfold szRc; rw [if_neg]; simp only; omega
      rw [e]
      go_enter Tryz.func17,Tryz.ntmps17
      go_wp2
      go_ret
      exact ⟨rfl,(Below.refl _ _).alloc (Nat.le_refl _) _⟩
    · have e : szRc left ⟨ki,nm,da,nu⟩ = left - nm.size - da.size:=by unfold szRc; rw [if_pos]; simp only; omega
      rw [e]
      go_enter Tryz.func17,Tryz.ntmps17
      go_wp2
      go_ret
      exact ⟨rfl,(Below.refl _ _).alloc (Nat.le_refl _) _⟩
set_option maxHeartbeats 1000000 in
theorem szRecS_any (a : Option Addr) (cap : Nat) (fs : List RecD) (left : Int) (w : World) (h0 : 0 ≤ left) (h1 : left ≤ 1048576) (hf : RecsIn w a fs) (hs : ShortR fs) (hlen : fs.length ≤ maxLen) :
    Calls Tryz.prog 5 #[.slice a fs.length cap,.int .i64 left] w fun e w'=>e = .returned (.int .i64 (szRecs left fs)) ∧ Below w.heap.size w w':=by
  unfold maxLen at hlen
  by_cases c1 : left - fs.length < 0
  · have e : szRecs left fs = -1:=by unfold szRecs; rw [if_neg]; omega
    rw [e]
    clear hf hs
    go_enter Tryz.func5,Tryz.ntmps5
    go_wp2
    go_ret
    exact ⟨rfl,Below.refl _ _⟩
  · have hne : ¬ (left - fs.length < 0):=c1
    have HF : Hid (RecsIn w a fs):=hf
    have HS : Hid (ShortR fs):=hs
    clear hf hs
    go_enter Tryz.func5,Tryz.ntmps5
    go_wp2
    go_loopw [1,5] (fun l i wr=>∃ k : Nat,k ≤ fs.length ∧ i = .int .i64 k ∧ (recBulk (fs.take k) : Int) ≤ left - fs.length ∧ l = .int .i64 (left - fs.length - recBulk (fs.take k)) ∧ Below w.heap.size w wr) (fun _ i _=>fs.length - (intOf i).toNat)
    case atStart=>exact ⟨0,Nat.zero_le _,rfl,by simp [recBulk]; omega,by simp [recBulk],Below.refl _ _⟩
    case round =>
      obtain ⟨k,hk,rfl,hle,rfl,hbel⟩:=hrel
      by_cases hlt : k < fs.length
      · obtain ⟨b,o,rfl,hb,c0,c1,cc2,cc3⟩:=(HF.out.later hbel).at hlt
        have hss:=HS.out k hlt
        have hts:=recBulk_take_succ fs k hlt
        have htl:=recBulk_take_le fs (k + 1)
        by_cases c3 : ((fs[k].tenant.size + fs[k].text.size : Nat) : Int) ≤ left - fs.length - recBulk (fs.take k)
        · have e : szRc (left - fs.length - recBulk (fs.take k)) fs[k] = left - fs.length - recBulk (fs.take (k + 1)):=by
            unfold szRc; rw [if_pos (by omega),hts]; omega
          have E : Hid (szRc (left - fs.length - recBulk (fs.take k)) fs[k] = left - fs.length - recBulk (fs.take (k + 1))):=e
          have hle2 : (recBulk (fs.take (k + 1)) : Int) ≤ left - fs.length:=by omega
          clear e hts
          go_wp2_with fail
          refine (szRec_any fs[k] _ _ (by omega) (by omega) hss.1 hss.2).mono ?_
          rintro e w' ⟨rfl,hb2⟩
          rw [E.out]
          go_wp2
          exact ⟨⟨k + 1,by omega,by go_num,hle2,rfl,hbel.trans (hb2.mono hbel.size)⟩,by simp [intOf]; omega⟩
        · have e : szRc (left - fs.length - recBulk (fs.take k)) fs[k] = -1:=by
            unfold szRc; rw [if_neg (by omega)]
          have E : Hid (szRc (left - fs.length - recBulk (fs.take k)) fs[k] = -1):=e
          have E2 : Hid (szRecs left fs = -1):=by show szRecs left fs = -1; unfold szRecs; rw [if_neg (by omega)]
          clear e hts
          go_wp2_with fail
          refine (szRec_any fs[k] _ _ (by omega) (by omega) hss.1 hss.2).mono ?_
          rintro e w' ⟨rfl,hb2⟩
          rw [E.out]
          go_wp2
          go_ret
          exact ⟨ret_int E2.out.symm,hbel.trans (hb2.mono hbel.size)⟩
      · go_wp2
        go_ret
        have e : fs.take k = fs:=List.take_of_length_le (by omega)
        rw [e] at hle ⊢
        exact ⟨ret_int (by unfold szRecs; rw [if_pos (by omega)]),hbel⟩
set_option maxHeartbeats 400000 in
theorem toRec_any (ki : Int) (nm da : ByteArray) (nu : Int) (w : World) :
    Calls Tryz.prog 24 #[.agg #[.int .i64 ki,.string nm,.string da,.int .i64 nu]] w fun e w'=>e = .returned (.agg #[.int .i64 ki,.string nm,.string da,.int .i64 nu]) ∧ Below w.heap.size w w':=by
  go_enter Tryz.func24,Tryz.ntmps24
  go_wp2
  exact bodyPost_ret (v:=.agg #[.int .i64 ki,.string nm,.string da,.int .i64 nu]) (by simp [results,Tryz.results24,go_sem]) rfl ⟨rfl,(((Below.refl _ _).alloc (Nat.le_refl _) _).alloc (by simp) _).alloc (by simp; omega) _⟩
set_option maxHeartbeats 1000000 in
theorem toRecS_any (a : Option Addr) (cap : Nat) (fs : List RecD) (w : World) (hf : RecsIn w a fs) (hlen : fs.length ≤ 1048576) :
    Calls Tryz.prog 9 #[.slice a fs.length cap] w fun e w'=>e = .returned (.slice (some ⟨w.heap.size,0,none⟩) fs.length fs.length) ∧ RecsOwn w' w.heap.size (some ⟨w.heap.size,0,none⟩) fs ∧ Below w.heap.size w w' ∧ w.heap.size < w'.heap.size:=by
  have HF : Hid (RecsIn w a fs):=hf
  clear hf
  have hmk:=make_recs fs.length hlen
  go_enter Tryz.func9,Tryz.ntmps9
  go_wp2
  go_loopw [4] (fun i wr=>∃ k : Nat,k ≤ fs.length ∧ i = .int .i64 k ∧ FillR wr w.heap.size fs.length fs k ∧ Below w.heap.size w wr ∧ w.heap.size < wr.heap.size) (fun i _=>fs.length - (intOf i).toNat)
  case atStart=>exact ⟨0,Nat.zero_le _,rfl,⟨_,heap_alloc_new _ _,size_madeCells _ _,fun i _ h=>absurd h (by omega)⟩,(Below.refl _ _).alloc (Nat.le_refl _) _,by simp⟩
  case round =>
    obtain ⟨k,hk,rfl,hfill,hbel,hsz⟩:=hrel
    have HFill : Hid (FillR wr w.heap.size fs.length fs k):=hfill
    clear hfill hmk
    by_cases hlt : k < fs.length
    · obtain ⟨b,o,rfl,hb,c0,c1,cc2,cc3⟩:=(HF.out.later hbel).at hlt
      go_wp2_with fail
      refine (toRec_any _ _ _ _ _).mono ?_
      rintro e w' ⟨rfl,hb2⟩
      have hF2:=HFill.out.later hb2 hsz
      obtain ⟨⟨v0,d0⟩,f0⟩:=hF2.cells (j:=k * 4) (by omega)
      obtain ⟨⟨v1,d1⟩,f1⟩:=hF2.cells (j:=k * 4 + 1) (by omega)
      obtain ⟨⟨v2,d2⟩,f2⟩:=hF2.cells (j:=k * 4 + 2) (by omega)
      obtain ⟨⟨v3,d3⟩,f3⟩:=hF2.cells (j:=k * 4 + 3) (by omega)
      have HF2 : Hid (FillR w' w.heap.size fs.length fs k):=hF2
      clear hF2
      go_wp2
      exact ⟨⟨k + 1,by omega,by go_num,HF2.out.step hlt (Nat.le_refl _),((((hbel.trans (hb2.mono hbel.size)).setCell (Nat.le_refl _) _).setCell (Nat.le_refl _) _).setCell (Nat.le_refl _) _).setCell (Nat.le_refl _) _,by have:=hb2.size; simp; omega⟩,by simp [intOf]; omega⟩
    · go_wp2
      go_ret
      have e : k = fs.length:=by omega
      exact ⟨rfl,by have:=HFill.out; rw [e] at this; exact this.done (Nat.le_refl _),hbel,hsz⟩
end Go.Proofs.YtkmdbpaeeagccaaGreatDoor
namespace Go.Proofs.YtkmdbpaeeagccaaGreatDoor
open Go.RowKit
set_option maxHeartbeats 400000 in
theorem eqRec_same (ki : Int) (nm da : ByteArray) (nu : Int) (w : World) :
    Calls Tryz.prog 30 #[.agg #[.int .i64 ki,.string nm,.string da,.int .i64 nu],.agg #[.int .i64 ki,.string nm,.string da,.int .i64 nu]] w fun e w'=>e = .returned (.bool true) ∧ Below w.heap.size w w':=by
  go_enter Tryz.func30,Tryz.ntmps30
  go_wp2
  go_ret
  exact ⟨rfl,((Below.refl _ _).alloc (Nat.le_refl _) _).alloc (by simp) _⟩
set_option maxHeartbeats 1000000 in
theorem eqRecS_same (a a' : Option Addr) (cap cap' : Nat) (fs : List RecD) (w : World) (hf : RecsIn w a fs) (hf' : RecsIn w a' fs) (hlen : fs.length ≤ maxLen) :
    Calls Tryz.prog 12 #[.slice a fs.length cap,.slice a' fs.length cap'] w fun e w'=>e = .returned (.bool true) ∧ Below w.heap.size w w':=by
  unfold maxLen at hlen
  have HF : Hid (RecsIn w a fs):=hf
  have HF' : Hid (RecsIn w a' fs):=hf'
  clear hf hf'
  go_enter Tryz.func12,Tryz.ntmps12
  go_wp2
  go_loopw [5] (fun i wr=>∃ k : Nat,k ≤ fs.length ∧ i = .int .i64 k ∧ Below w.heap.size w wr) (fun i _=>fs.length - (intOf i).toNat)
  case atStart=>exact ⟨0,Nat.zero_le _,rfl,Below.refl _ _⟩
  case round =>
    obtain ⟨k,hk,rfl,hbel⟩:=hrel
    by_cases hlt : k < fs.length
    · obtain ⟨b,o,rfl,hb,c0,c1,c2,c3⟩:=(HF.out.later hbel).at hlt
      obtain ⟨b',o',rfl,hb',c0',c1',c2',c3'⟩:=(HF'.out.later hbel).at hlt
      have d0:=Later.cells c0
      have d1:=Later.cells c1
      have d2:=Later.cells c2
      have d3:=Later.cells c3
      have d0':=Later.cells c0'
      have d1':=Later.cells c1'
      have d2':=Later.cells c2'
      have d3':=Later.cells c3'
      clear c0 c1 c2 c3 c0' c1' c2' c3'
      have hne:=Later.there wr
      go_wp2_with fail
      refine wp_region_later (by kernel_rfl) (by kernel_rfl) ?_
      repeat (go_big_quiet_step (refine calls_later (eqRec_same _ _ _ _ _)))
      refine wpQuiet_nil ?_
      rintro _ ⟨x,rfl⟩
      go_wp2
      exact ⟨⟨k + 1,by omega,by go_num,hbel.trans (x.h.mono hbel.size)⟩,by simp [intOf]; omega⟩
    · go_wp2
      go_ret
      exact ⟨rfl,hbel⟩
end Go.Proofs.YtkmdbpaeeagccaaGreatDoor
namespace Go.Proofs.YtkmdbpaeeagccaaGreatDoor
open Go.RowKit
def markRc (k : Nat) (i : Nat) : RecD:=⟨((k + 4 * i : Nat) : Int),mt (k + 4 * i + 1),mt (k + 4 * i + 2),((k + 4 * i + 3 : Nat) : Int)⟩
def markRecs (k n : Nat) : List RecD:=(List.range n).map (markRc k)
theorem markRecs_length (k n : Nat) : (markRecs k n).length = n:=by simp [markRecs]
theorem markRecs_get (k n i : Nat) (h : i < (markRecs k n).length) : (markRecs k n)[i] = markRc k i:=by simp [markRecs]
set_option maxRecDepth 100000 in
set_option maxHeartbeats 2000000 in
theorem markRecS_any (a : Option Addr) (cap : Nat) (fs : List RecD) (k B : Nat) (w : World) (hk : 0 < k) (hk2 : k + 4 * fs.length ≤ 100000000) (hf : RecsOwn w B a fs) :
    Calls Tryz.prog 14 #[.slice a fs.length cap,.int .i64 (k : Int)] w fun e w'=>e = .returned (.int .i64 ((k + 4 * fs.length : Nat) : Int)) ∧ Marked w w' B a fs.length ∧ RecsOwn w' B a (markRecs k fs.length):=by
  have hf3 : fs = [] ∨ (0 < fs.length ∧ ∃ g o cur t,a = some ⟨g,o,none⟩ ∧ B ≤ g ∧ w.heap[g]? = some (.cells cur t (0,0)) ∧ RecsAt w g o fs):=by
    by_cases h0 : fs = []
    · exact Or.inl h0
    · rcases hf with h | h
      · exact Or.inl h
      · exact Or.inr ⟨List.length_pos_iff.2 h0,h⟩
  clear hf
  rcases hf3 with rfl | ⟨hpos,g,o,cur,t,rfl,hB,hg,hfs⟩
  · go_enter Tryz.func14,Tryz.ntmps14
    go_wp2
    go_loopw [1,5] (fun l i wr=>l = .int .i64 (k : Int) ∧ i = .int .i64 0 ∧ wr = w) (fun _ i _=>0)
    case atStart=>exact ⟨rfl,rfl,rfl⟩
    case round =>
      obtain ⟨rfl,rfl,rfl⟩:=hrel
      go_wp2
      go_ret
      exact ⟨rfl,Or.inl ⟨rfl,Below.refl _ _⟩,Or.inl rfl⟩
  have hrow : ∀ j (hj : j < fs.length),RowRec cur o j fs[j]:=rows_of_recsAt hg hfs
  have hsz2:=recs_size hrow
  have HG : Hid (Blk w g cur t):=hg
  clear hrow hg hfs
  generalize fs.length = n at *
  go_enter Tryz.func14,Tryz.ntmps14
  go_wp2
  go_loopw [1,5] (fun l i wr=>∃ (j : Nat) (c : Array Value),j ≤ n ∧ i = .int .i64 j ∧ l = .int .i64 ((k + 4 * j : Nat) : Int) ∧ Blk wr g c t ∧ c.size = cur.size ∧ (∀ m,m < j → RowRec c o m (markRc k m)) ∧ But g w wr) (fun _ i _=>n - (intOf i).toNat)
  case atStart=>exact ⟨0,cur,Nat.zero_le _,rfl,rfl,HG.out,rfl,fun m h=>absurd h (by omega),But.refl _ _⟩
  case round =>
    obtain ⟨j,c,hj,rfl,rfl,hblk,hcs,hrows,hbut⟩:=hrel
    have HBLK : Hid (Blk wr g c t):=hblk
    have HROWS : Hid (∀ m,m < j → RowRec c o m (markRc k m)):=hrows
    have HCS : Hid (c.size = cur.size):=hcs
    clear hblk hrows
    by_cases hlt : j < n
    · have hbd : o + j * 4 + 3 < c.size:=by rcases hsz2 with h | h <;> omega
      clear hcs hsz2
      obtain ⟨v0,d0⟩:=HBLK.out.there (j:=o + j * 4) (by omega)
      have f0:=HBLK.out.free (o + j * 4)
      go_wp2_with fail
      refine (markText_int _ (k + 4 * j + 1) (by omega) _ (by omega) (by omega)).mono ?_
      rintro e w1 ⟨rfl,hb1⟩
      have hB1:=(HBLK.out.set (o + j * 4) (.int .i64 ((k + 4 * j : Nat) : Int))).later hb1
      have HBU1 : Hid (But g w w1):=(hbut.setCell _ _).trans (But.of hb1)
      obtain ⟨v1,d1⟩:=hB1.there (j:=o + j * 4 + 1) (by simp; omega)
      have f1:=hB1.free (o + j * 4 + 1)
      have HB1 : Hid (Blk w1 g (c.setIfInBounds (o + j * 4) (.int .i64 ((k + 4 * j : Nat) : Int))) t):=hB1
      clear hB1 hb1 hbut d0 f0
      go_wp2_with fail
      refine (markText_int _ (k + 4 * j + 2) (by omega) _ (by omega) (by omega)).mono ?_
      rintro e w2 ⟨rfl,hb2⟩
      have hB2:=(HB1.out.set (o + j * 4 + 1) (.string (mt (k + 4 * j + 1)))).later hb2
      have HBU2 : Hid (But g w w2):=(HBU1.out.setCell _ _).trans (But.of hb2)
      obtain ⟨v2,d2⟩:=hB2.there (j:=o + j * 4 + 2) (by simp; omega)
      have f2:=hB2.free (o + j * 4 + 2)
      obtain ⟨v3,d3⟩:=hB2.there (j:=o + j * 4 + 3) (by simp; omega)
      have f3:=hB2.free (o + j * 4 + 3)
      have HB2 : Hid (Blk w2 g ((c.setIfInBounds (o + j * 4) (.int .i64 ((k + 4 * j : Nat) : Int))).setIfInBounds (o + j * 4 + 1) (.string (mt (k + 4 * j + 1)))) t):=hB2
      clear hB2 d1 f1 hb2
      go_wp2
      refine ⟨⟨j + 1,_,by omega,by go_num,by go_num,(HB2.out.set (o + j * 4 + 2) (.string (mt (k + 4 * j + 2)))).set (o + j * 4 + 3) (.int .i64 ((k + 4 * j + 3 : Nat) : Int)),by simp [HCS.out],?_,(HBU2.out.setCell _ _).setCell _ _⟩,by simp [intOf]; omega⟩
      intro m hm
      by_cases e : m = j
      · subst e
        exact RowRec.made c o m (markRc k m) hbd
      · exact ((((HROWS.out m (by omega)).set (by omega) _).set (by omega) _).set (by omega) _).set (by omega) _
    · go_wp2
      go_ret
      have e : j = n:=by omega
      subst e
      refine ⟨ret_int (by omega),Or.inr ⟨hpos,g,o,rfl,hB,hbut⟩,Or.inr ⟨g,o,c,t,rfl,hB,HBLK.out,recsAt_of_rows HBLK.out ?_⟩⟩
      intro m hm
      rw [markRecs_get]
      exact HROWS.out m (by rw [markRecs_length] at hm; exact hm)
end Go.Proofs.YtkmdbpaeeagccaaGreatDoor
