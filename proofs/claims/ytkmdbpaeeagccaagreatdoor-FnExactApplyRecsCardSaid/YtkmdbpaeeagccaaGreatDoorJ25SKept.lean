import Derived.Test.YtkmdbpaeeagccaaGreatDoorProg
import Derived.Test.YtkmdbpaeeagccaaGreatDoorJ24TenF
import Derived.Test.YtkmdbpaeeagccaaGreatDoorJ17TkL
import Derived.Test.YtkmdbpaeeagccaaGreatDoorJ05HpP
import Derived.Test.YtkmdbpaeeagccaaGreatDoorJ09SName
import Derived.Deep.AppendLies
import Derived.Deep.RegionHeld3
import Derived.Deep.DeepCutAuto
namespace Go.Proofs.YtkmdbpaeeagccaaGreatDoor
open Go.RowKit
theorem info_tenant : (Tryz.prog.info? 78).map (fun i=>(i.zero,i.size,i.bytes)) = some (some (.agg #[.string ByteArray.empty,.int .i64 0,.slice none 0 0,.slice none 0 0]),4,72):=by kernel_rfl
theorem make_tenants (n : Nat) (hn : n ≤ 1048576) (w : World) :
    (Instr.makeSlice 30 (.int .i64 (n : Int)) (.int .i64 (n : Int))).run Tryz.prog w = .ok (.slice (some ⟨w.heap.size,0,none⟩) n n) (w.alloc (.cells (madeCells #[.string ByteArray.empty,.int .i64 0,.slice none 0 0,.slice none 0 0] (n * 4)) 78)):=by
  obtain ⟨i,hi,hzz⟩:=Option.map_eq_some_iff.1 info_tenant
  simp only [Prod.mk.injEq] at hzz
  obtain ⟨hz,hs,hb⟩:=hzz
  have hr:=run_make (P:=Tryz.prog) w 30 78 i _ Tryz.underlying30 hi hz .i64 .i64 n n (by omega) (Int.le_refl _) (by rw [hb]; omega) (by omega)
  simp only [Int.toNat_natCast,hs] at hr
  exact hr
def FillT (w : World) (g n : Nat) (ts : List TenD) (k : Nat) : Prop:=∃ (cur : Array Value) (T : Nat → Nat),Blk w g cur 78 ∧ cur.size = n * 4 ∧ T g = 0 ∧ ∀ i (h : i < ts.length),i < k → TenOwn w g T i g (0 + i * 4) ts[i]
theorem FillT.later {w w' : World} {g n k : Nat} {ts : List TenD} (h : FillT w g n ts k) (hb : Below w.heap.size w w') : FillT w' g n ts k:=by
  obtain ⟨cur,T,h1,h2,h3,h4⟩:=h
  exact ⟨cur,T,h1.later hb,h2,h3,fun i hi hk=>(h4 i hi hk).keep (fun j _=>World.cell?_of_block (hb.block g (lt_of_block h1))) fun g' hg' _ _=>⟨hb.block g' hg',rfl⟩⟩
theorem FillT.cells {w : World} {g n k : Nat} {fs : List TenD} (h : FillT w g n fs k) {j : Nat} (hj : j < n * 4) : (∃ v,w.cell? ⟨g,j,none⟩ = some v) ∧ w.frozen? ⟨g,j,none⟩ = false:=by
  obtain ⟨cur,T,h1,h2,_⟩:=h
  exact ⟨h1.there (by omega),h1.free j⟩
theorem FillT.lt {w : World} {g n k : Nat} {fs : List TenD} (h : FillT w g n fs k) : g < w.heap.size:=by
  obtain ⟨cur,T,h1,_⟩:=h
  exact lt_of_block h1
theorem FillT.step {w w1 : World} {g n k g1 g2 : Nat} {ts : List TenD} (h : FillT w g n ts k) (hk : k < ts.length) (hn : ts.length ≤ n) (hb : Below w.heap.size w w1) (hg1 : w.heap.size ≤ g1) (hg2 : g1 < g2)
    (o1 : PairsOwn w1 w.heap.size (some ⟨g1,0,none⟩) ts[k].mets) (o2 : PairsOwn w1 w.heap.size (some ⟨g2,0,none⟩) ts[k].sers) (q1 q2 : Nat) :
    FillT ((((w1.setCell ⟨g,k * 4,none⟩ (.string ts[k].name)).setCell ⟨g,k * 4 + 1,none⟩ (.int .i64 ts[k].limit)).setCell ⟨g,k * 4 + 2,none⟩ (.slice (some ⟨g1,0,none⟩) ts[k].mets.length q1)).setCell ⟨g,k * 4 + 3,none⟩ (.slice (some ⟨g2,0,none⟩) ts[k].sers.length q2)) g n ts (k + 1):=by
  obtain ⟨cur,T,h1,h2,h3,h4⟩:=h
  have hlt:=lt_of_block h1
  have hB:=(((((h1.later hb).set (k * 4) (.string ts[k].name)).set (k * 4 + 1) (.int .i64 ts[k].limit)).set (k * 4 + 2) (.slice (some ⟨g1,0,none⟩) ts[k].mets.length q1)).set (k * 4 + 3) (.slice (some ⟨g2,0,none⟩) ts[k].sers.length q2))
  have hbut : But g w1 ((((w1.setCell ⟨g,k * 4,none⟩ (.string ts[k].name)).setCell ⟨g,k * 4 + 1,none⟩ (.int .i64 ts[k].limit)).setCell ⟨g,k * 4 + 2,none⟩ (.slice (some ⟨g1,0,none⟩) ts[k].mets.length q1)).setCell ⟨g,k * 4 + 3,none⟩ (.slice (some ⟨g2,0,none⟩) ts[k].sers.length q2)) :=
    ((((But.refl _ _).setCell _ _).setCell _ _).setCell _ _).setCell _ _
  generalize ((((w1.setCell ⟨g,k * 4,none⟩ (.string ts[k].name)).setCell ⟨g,k * 4 + 1,none⟩ (.int .i64 ts[k].limit)).setCell ⟨g,k * 4 + 2,none⟩ (.slice (some ⟨g1,0,none⟩) ts[k].mets.length q1)).setCell ⟨g,k * 4 + 3,none⟩ (.slice (some ⟨g2,0,none⟩) ts[k].sers.length q2)) = w2 at *
  refine ⟨_,fun x=>if x = g1 then 2 * k + 1 else if x = g2 then 2 * k + 2 else T x,hB,by simp [h2],?_,fun i hi hlt'=>?_⟩
  · show (if g = g1 then _ else if g = g2 then _ else T g) = 0
    rw [if_neg (by omega),if_neg (by omega)]; exact h3
  · by_cases e : i = k
    · subst e
      refine ⟨some ⟨g1,0,none⟩,q1,some ⟨g2,0,none⟩,q2,?_,?_,?_,?_,?_,?_⟩
      · rw [hB.cell]; simp [Array.getElem?_setIfInBounds]; omega
      · rw [hB.cell]; simp [Array.getElem?_setIfInBounds]; omega
      · rw [hB.cell]; simp [Array.getElem?_setIfInBounds]; omega
      · rw [hB.cell]; simp [Array.getElem?_setIfInBounds]; omega
      · refine ((o1.but hbut (by omega)).mono (by omega)).tag fun g' o' e'=>?_
        simp only [Option.some.injEq,Addr.mk.injEq,and_true] at e'
        show (if g' = g1 then _ else _) = _
        rw [if_pos e'.1.symm]
      · refine ((o2.but hbut (by omega)).mono (by omega)).tag fun g' o' e'=>?_
        simp only [Option.some.injEq,Addr.mk.injEq,and_true] at e'
        show (if g' = g1 then _ else if g' = g2 then _ else _) = _
        rw [if_neg (by omega),if_pos e'.1.symm]
    · refine (h4 i hi (by omega)).keep (fun j hj=>?_) fun g' hg' _ hT=>?_
      · rw [hB.cell,← (hb.cell (p:=⟨g,0 + i * 4 + j,none⟩) hlt),(h1.later hb).cell]
        rw [Array.getElem?_setIfInBounds_ne (by omega),Array.getElem?_setIfInBounds_ne (by omega),Array.getElem?_setIfInBounds_ne (by omega),Array.getElem?_setIfInBounds_ne (by omega)]
      · have hne : g' ≠ g:=fun e=>by rw [e,h3] at hT; omega
        refine ⟨(hbut.block g' (Nat.lt_of_lt_of_le hg' hb.size) hne).trans (hb.block g' hg'),?_⟩
        show (if g' = g1 then _ else if g' = g2 then _ else T g') = T g'
        rw [if_neg (by omega),if_neg (by omega)]
theorem FillT.done {w : World} {g B : Nat} {fs : List TenD} (h : FillT w g fs.length fs fs.length) (hB : B ≤ g) : TensOwn w B (some ⟨g,0,none⟩) fs:=by
  obtain ⟨cur,T,h1,h2,h3,h4⟩:=h
  refine Or.inr ⟨g,0,cur,_,T,rfl,hB,h1,h3,fun i hi=>?_⟩
  obtain ⟨a1,c1,a2,c2,k0,k1,k2,k3,k4,k5⟩:=h4 i hi hi
  have m : ∀ {n a ps},PairsTag w g T n a ps → PairsTag w B T n a ps:=fun {n a ps} h=>by
    rcases h with h | ⟨g',o',cur',t',e,hB',r⟩
    · exact Or.inl h
    · exact Or.inr ⟨g',o',cur',t',e,by omega,r⟩
  exact ⟨a1,c1,a2,c2,k0,k1,k2,k3,m k4,m k5⟩
def SmallT (fs : List TenD) : Prop:=∀ i (h : i < fs.length),fs[i].mets.length ≤ 1048576 ∧ fs[i].sers.length ≤ 1048576
set_option maxRecDepth 100000 in
set_option maxHeartbeats 1000000 in
theorem toTenantS_any (a : Option Addr) (cap : Nat) (fs : List TenD) (w : World) (hf : TensIn w a fs) (hlen : fs.length ≤ 1048576) (hsm : SmallT fs) :
    Calls Tryz.prog 23 #[.slice a fs.length cap] w fun e w'=>e = .returned (.slice (some ⟨w.heap.size,0,none⟩) fs.length fs.length) ∧ TensOwn w' w.heap.size (some ⟨w.heap.size,0,none⟩) fs ∧ Below w.heap.size w w' ∧ w.heap.size < w'.heap.size:=by
  have HF : Hid (TensIn w a fs):=hf
  have HSM : Hid (SmallT fs):=hsm
  clear hf hsm
  have hmk:=make_tenants fs.length hlen
  go_enter Tryz.func23,Tryz.ntmps23
  go_wp2
  go_loopw [4] (fun i wr=>∃ k : Nat,k ≤ fs.length ∧ i = .int .i64 k ∧ FillT wr w.heap.size fs.length fs k ∧ Below w.heap.size w wr ∧ w.heap.size < wr.heap.size) (fun i _=>fs.length - (intOf i).toNat)
  case atStart=>exact ⟨0,Nat.zero_le _,rfl,⟨_,fun _=>0,Blk.new _ _ _,size_madeCells _ _,rfl,fun i _ h=>absurd h (by omega)⟩,(Below.refl _ _).alloc (Nat.le_refl _) _,by simp⟩
  case round =>
    obtain ⟨k,hk,rfl,hfill,hbel,hsz⟩:=hrel
    have HFill : Hid (FillT wr w.heap.size fs.length fs k):=hfill
    clear hfill hmk
    by_cases hlt : k < fs.length
    · obtain ⟨b,o,a1,q1,a2,q2,rfl,hb,c0,c1,c2,c3,p1,p2⟩:=(HF.out.later hbel).at hlt
      have HC : Hid (Calls Tryz.prog 46 #[.agg #[.string fs[k].name,.int .i64 fs[k].limit,.slice a1 fs[k].mets.length q1,.slice a2 fs[k].sers.length q2]] wr fun e w'=>∃ g1 g2,e = .returned (.agg #[.string fs[k].name,.int .i64 fs[k].limit,.slice (some ⟨g1,0,none⟩) fs[k].mets.length fs[k].mets.length,.slice (some ⟨g2,0,none⟩) fs[k].sers.length fs[k].sers.length]) ∧
          wr.heap.size ≤ g1 ∧ g1 < g2 ∧ PairsOwn w' wr.heap.size (some ⟨g1,0,none⟩) fs[k].mets ∧ PairsOwn w' wr.heap.size (some ⟨g2,0,none⟩) fs[k].sers ∧ Below wr.heap.size wr w'):=toTenant_any fs[k] a1 a2 q1 q2 wr p1 p2 (HSM.out k hlt).1 (HSM.out k hlt).2
      clear p1 p2
      go_wp2_with fail
      refine HC.out.mono ?_
      rintro e w' ⟨g1,g2,rfl,hg1,hg2,o1,o2,hb2⟩
      have hF2:=HFill.out.later hb2
      obtain ⟨⟨v0,d0⟩,f0⟩:=hF2.cells (j:=k * 4) (by omega)
      obtain ⟨⟨v1,d1⟩,f1⟩:=hF2.cells (j:=k * 4 + 1) (by omega)
      obtain ⟨⟨v2,d2⟩,f2⟩:=hF2.cells (j:=k * 4 + 2) (by omega)
      obtain ⟨⟨v3,d3⟩,f3⟩:=hF2.cells (j:=k * 4 + 3) (by omega)
      have HST : Hid (FillT ((((w'.setCell ⟨w.heap.size,k * 4,none⟩ (.string fs[k].name)).setCell ⟨w.heap.size,k * 4 + 1,none⟩ (.int .i64 fs[k].limit)).setCell ⟨w.heap.size,k * 4 + 2,none⟩ (.slice (some ⟨g1,0,none⟩) fs[k].mets.length fs[k].mets.length)).setCell ⟨w.heap.size,k * 4 + 3,none⟩ (.slice (some ⟨g2,0,none⟩) fs[k].sers.length fs[k].sers.length)) w.heap.size fs.length fs (k + 1)) :=
        HFill.out.step hlt (Nat.le_refl _) hb2 hg1 hg2 o1 o2 _ _
      clear hF2 HC HFill o1 o2 c0 c1 c2 c3
      go_wp2
      exact ⟨⟨k + 1,by omega,by go_num,HST.out,((((hbel.trans (hb2.mono hbel.size)).setCell (Nat.le_refl _) _).setCell (Nat.le_refl _) _).setCell (Nat.le_refl _) _).setCell (Nat.le_refl _) _,by have:=hb2.size; simp; omega⟩,by simp [intOf]; omega⟩
    · go_wp2
      go_ret
      have e : k = fs.length:=by omega
      exact ⟨rfl,by have:=HFill.out; rw [e] at this; exact this.done (Nat.le_refl _),hbel,hsz⟩
theorem TensOwn.but {g B : Nat} {w w' : World} {a : Option Addr} {ts : List TenD} (h : TensOwn w B a ts) (hb : But g w w') (hg : g < B) : TensOwn w' B a ts:=by
  rcases h with h | ⟨g',o,cur,t,T,rfl,hB,hg',hT,h⟩
  · exact Or.inl h
  · have hk:=hb.block g' (lt_of_block hg') (by omega)
    exact Or.inr ⟨g',o,cur,t,T,rfl,hB,hk.trans hg',hT,fun i hi=>(h i hi).keep (fun j _=>World.cell?_of_block hk) fun q hq hBq _=>⟨hb.block q hq (by omega),rfl⟩⟩
theorem TensOwn.mono {B B' : Nat} {w : World} {a : Option Addr} {ts : List TenD} (h : TensOwn w B a ts) (hB' : B' ≤ B) : TensOwn w B' a ts:=by
  rcases h with h | ⟨g',o,cur,t,T,rfl,hB,hg',hT,h⟩
  · exact Or.inl h
  · have m : ∀ {n a ps},PairsTag w B T n a ps → PairsTag w B' T n a ps:=fun {n a ps} h=>by
      rcases h with h | ⟨g',o',cur',t',e,hB',r⟩
      · exact Or.inl h
      · exact Or.inr ⟨g',o',cur',t',e,by omega,r⟩
    refine Or.inr ⟨g',o,cur,t,T,rfl,by omega,hg',hT,fun i hi=>?_⟩
    obtain ⟨a1,c1,a2,c2,k0,k1,k2,k3,k4,k5⟩:=h i hi
    exact ⟨a1,c1,a2,c2,k0,k1,k2,k3,m k4,m k5⟩
set_option maxRecDepth 100000 in
set_option maxHeartbeats 1000000 in
theorem toState_any (now : Int) (a : Option Addr) (cap : Nat) (fs : List TenD) (w : World) (hf : TensIn w a fs) (hlen : fs.length ≤ 1048576) (hsm : SmallT fs) :
    Calls Tryz.prog 8 #[.agg #[.int .i64 now,.slice a fs.length cap]] w fun e w'=>∃ g,e = .returned (.agg #[.int .i64 now,.slice (some ⟨g,0,none⟩) fs.length fs.length]) ∧ w.heap.size ≤ g ∧ g < w'.heap.size ∧ TensOwn w' w.heap.size (some ⟨g,0,none⟩) fs ∧ Below w.heap.size w w':=by
  have HC : Hid (∀ W,Below w.heap.size w W → Calls Tryz.prog 23 #[.slice a fs.length cap] W fun e w'=>e = .returned (.slice (some ⟨W.heap.size,0,none⟩) fs.length fs.length) ∧ TensOwn w' W.heap.size (some ⟨W.heap.size,0,none⟩) fs ∧ Below W.heap.size W w' ∧ W.heap.size < w'.heap.size) :=
    fun W hW=>toTenantS_any a cap fs W (hf.later hW) hlen hsm
  clear hf hsm
  go_enter Tryz.func8,Tryz.ntmps8
  go_wp2_with fail
  refine (HC.out _ (bto (bto (bnew _ _) (bnew _ _)) (bnew _ _))).mono ?_
  rintro e w1 ⟨rfl,o1,hb1,z1⟩
  have B1 : Hid (Below w.heap.size w w1):=bto (bto (bto (bnew _ _) (bnew _ _)) (bnew _ _)) hb1
  have R1 : Hid (Blk w1 (w.heap.size + 1) #[.int .i64 0,.slice none 0 0] 32):=by have:=((Blk.new (w.alloc (.cells #[.int .i64 now,.slice a fs.length cap] 26)) #[.int .i64 0,.slice none 0 0] 32).alloc (.cells #[.int .i64 now,.slice none 0 0] 32)).later hb1; exact hid (by simpa using this)
  have X1 : Hid (Blk w1 (w.heap.size + 1 + 1) #[.int .i64 now,.slice none 0 0] 32):=by have:=(Blk.new ((w.alloc (.cells #[.int .i64 now,.slice a fs.length cap] 26)).alloc (.cells #[.int .i64 0,.slice none 0 0] 32)) #[.int .i64 now,.slice none 0 0] 32).later hb1; exact hid (by simpa using this)
  have O1 : Hid (TensOwn w1 (w.heap.size + 1 + 1 + 1) (some ⟨w.heap.size + 1 + 1 + 1,0,none⟩) fs):=hid (by simpa using o1)
  have z1' : w.heap.size + 1 + 1 + 1 < w1.heap.size:=by simpa using z1
  have r0 : w1.cell? ⟨w.heap.size + 1 + 1,0,none⟩ = some (.int .i64 now):=X1.out.cell 0
  have r1 : w1.cell? ⟨w.heap.size + 1 + 1,1,none⟩ = some (.slice none 0 0):=X1.out.cell 1
  have r2:=X1.out.free 1
  have s0 : w1.cell? ⟨w.heap.size + 1,0,none⟩ = some (.int .i64 0):=R1.out.cell 0
  have s1 : w1.cell? ⟨w.heap.size + 1,1,none⟩ = some (.slice none 0 0):=R1.out.cell 1
  have u0:=R1.out.free 0
  have u1:=R1.out.free 1
  clear o1 z1 hb1 HC
  go_wp2
  refine bodyPost_ret (v:=.agg #[.int .i64 now,.slice (some ⟨w.heap.size + 1 + 1 + 1,0,none⟩) fs.length fs.length]) (by simp [results,Tryz.results8,go_sem,s0,s1]) rfl ⟨_,rfl,by omega,by simpa using z1',?_,?_⟩
  · exact (((O1.out.but ((But.refl _ _).setCell _ _) (by omega)).but ((But.refl _ _).setCell _ _) (by omega)).but ((But.refl _ _).setCell _ _) (by omega)).mono (by omega)
  · exact ((B1.out.setCell (by simp; omega) _).setCell (by simp) _).setCell (by simp) _
end Go.Proofs.YtkmdbpaeeagccaaGreatDoor
namespace Go.Proofs.YtkmdbpaeeagccaaGreatDoor
open Go.RowKit
theorem info_mlK : (Tryz.prog.info? 82).map (fun i=>(i.zero,i.size,i.bytes)) = some (some (.agg #[.string ⟨#[]⟩,.int .i64 0]),2,24):=by kernel_rfl
theorem info_srK : (Tryz.prog.info? 84).map (fun i=>(i.zero,i.size,i.bytes)) = some (some (.agg #[.string ⟨#[]⟩,.int .i64 0]),2,24):=by kernel_rfl
theorem keep_take (p : PairD → Bool) (ks : List PairD) (j : Nat) (h : j < ks.length) : (ks.take (j + 1)).filter p = (ks.take j).filter p ++ if p ks[j] = true then [ks[j]] else []:=by
  rw [List.take_succ_eq_append_getElem h,List.filter_append]
  congr 1
  by_cases e : p ks[j] = true
  · rw [if_pos e,List.filter_cons_of_pos e]; rfl
  · rw [if_neg e,List.filter_cons_of_neg e]; rfl
theorem keep_le (p : PairD → Bool) (ks : List PairD) (j : Nat) : ((ks.take j).filter p).length ≤ ks.length:=by
  have h1:=List.length_filter_le p (ks.take j)
  rw [List.length_take] at h1
  omega
def KptAt (w1 : World) (t : TenD) (X : Nat) (wx : World) : Prop :=
  ∃ g1 d1,Blk wx X #[.string t.name,.int .i64 t.limit,.slice (some ⟨g1,0,none⟩) t.mets.length d1,.slice none 0 0] 78 ∧ wx.ownsRow w1.heap.size 82 2 (.slice (some ⟨g1,0,none⟩) t.mets.length d1) t.mets.length (flatK t.mets) ∧ w1.heap.size ≤ X ∧ g1 ≠ X ∧ Below w1.heap.size w1 wx
theorem new_two (W : World) (cs cs' : Array Value) {t t' : TypeId} : ((W.alloc (.cells cs t)).alloc (.cells cs' t')).drew.heap[W.heap.size + 1]? = some (.cells cs' t' (0,0)):=by
  have h : Blk ((W.alloc (.cells cs t)).alloc (.cells cs' t')) (W.alloc (.cells cs t)).heap.size cs' t':=Blk.new _ _ _
  have e : (W.alloc (.cells cs t)).heap.size = W.heap.size + 1:=by simp
  rw [e] at h
  exact h
theorem new_one (W : World) (cs : Array Value) {t : TypeId} (o : Obj) : ((W.alloc (.cells cs t)).alloc o).drew.heap[W.heap.size]? = some (.cells cs t (0,0)):=((Blk.new W cs t).alloc o)
theorem set4 {w1 w5 : World} {X : Nat} {v0 v1 v2 v3 : Value} (h : Below w1.heap.size w1 w5) (hX : w1.heap.size ≤ X) : Below w1.heap.size w1 ((((w5.setCell ⟨X,0,none⟩ v0).setCell ⟨X,1,none⟩ v1).setCell ⟨X,2,none⟩ v2).setCell ⟨X,3,none⟩ v3):=(((h.setCell hX _).setCell hX _).setCell hX _).setCell hX _
theorem kpt_box {w1 w5 : World} {t : TenD} {X g5 cap5 n : Nat} (hb : Blk w5 X #[.string ⟨#[]⟩,.int .i64 0,.slice none 0 0,.slice none 0 0] 78) (hX : w1.heap.size ≤ X) (k5 : Below w1.heap.size w1 w5) (ho : w5.ownsRow w1.heap.size 82 2 (.slice (some ⟨g5,0,none⟩) (0 + t.mets.length) cap5) (0 + t.mets.length) ([] ++ flatK t.mets)) (hg : g5 ≠ X) (hn : n = t.mets.length) :
    KptAt w1 t X ((((w5.setCell ⟨X,0,none⟩ (.string t.name)).setCell ⟨X,1,none⟩ (.int .i64 t.limit)).setCell ⟨X,2,none⟩ (.slice (some ⟨g5,0,none⟩) n cap5)).setCell ⟨X,3,none⟩ (.slice none 0 0)):=by
  subst hn
  rw [Nat.zero_add,List.nil_append] at ho
  have ht : Turn (· = X) w5 ((((w5.setCell ⟨X,0,none⟩ (.string t.name)).setCell ⟨X,1,none⟩ (.int .i64 t.limit)).setCell ⟨X,2,none⟩ (.slice (some ⟨g5,0,none⟩) t.mets.length cap5)).setCell ⟨X,3,none⟩ (.slice none 0 0)):=((((Turn.refl (· = X) w5).setCell (Or.inl rfl) 0 _).setCell (Or.inl rfl) 1 _).setCell (Or.inl rfl) 2 _).setCell (Or.inl rfl) 3 _
  refine ⟨g5,cap5,?_,ht.row ho (fun q hq e=>by simp [Value.ownBlock] at hq; omega),hX,hg,set4 k5 hX⟩
  have:=(((hb.set 0 (.string t.name)).set 1 (.int .i64 t.limit)).set 2 (.slice (some ⟨g5,0,none⟩) t.mets.length cap5)).set 3 (.slice none 0 0)
  simpa using this
theorem rk_a (W : World) : (W.alloc (.cells #[] 82)).drew.ownsRow W.heap.size 82 2 (.slice (some ⟨W.heap.size,0,none⟩) 0 0) 0 []:=(World.ownsRow_made W #[] 0 (Nat.le_refl _) (by simp [maxLen]) (by simp)).drew
theorem rk_b (W : World) (o : Obj) : ((W.alloc (.cells #[] 82)).alloc o).drew.ownsRow W.heap.size 82 2 (.slice (some ⟨W.heap.size,0,none⟩) 0 0) 0 []:=((World.ownsRow_made W #[] 0 (Nat.le_refl _) (by simp [maxLen]) (by simp)).alloc o).drew
theorem rk_c (W : World) (o : Obj) : ((W.alloc o).alloc (.cells #[] 82)).drew.ownsRow W.heap.size 82 2 (.slice (some ⟨W.heap.size + 1,0,none⟩) 0 0) 0 []:=by
  have:=(World.ownsRow_made (e:=82) (size:=2) (base:=W.heap.size) (W.alloc o) #[] 0 (by simp) (by simp [maxLen]) (by simp)).drew
  simpa using this
set_option maxRecDepth 100000 in
set_option maxHeartbeats 8000000 in
theorem l4KeptR_any (t : TenD) (a1 a2 : Option Addr) (c1 c2 : Nat) (now win : Int) (w : World) (p1 : PairsIn w a1 t.mets) (p2 : PairsIn w a2 t.sers) (hl1 : t.mets.length ≤ 2000000) (hl2 : t.sers.length ≤ 2000000) (hn0 : 0 ≤ now) (hn1 : now ≤ 2000000000000) (hx : ∀ i (h : i < t.sers.length),0 ≤ t.sers[i].n ∧ t.sers[i].n ≤ 2000000000000) :
    Calls Tryz.prog 42 #[.agg #[.string t.name,.int .i64 t.limit,.slice a1 t.mets.length c1,.slice a2 t.sers.length c2],.int .i64 now,.int .i64 win] w fun e w'=>TelOutR w t.name (keptT win now t) e w':=by
  have P1:=hid p1
  have P2:=hid p2
  have HX0:=hid hx
  obtain ⟨ti,hti,hz0,hz1,hz2⟩:=info_parts info_mlK
  have HI : Hid (Tryz.prog.info? 82 = some ti):=hti
  obtain ⟨tj,htj,hy0,hy1,hy2⟩:=info_parts info_srK
  have HJ : Hid (Tryz.prog.info? 84 = some tj):=htj
  clear p1 p2 hx hti htj
  go_enter Tryz.func42,Tryz.ntmps42
  have B1 : Hid (Below w.heap.size w ((w.alloc (.cells #[.string t.name,.int .i64 t.limit,.slice a1 t.mets.length c1,.slice a2 t.sers.length c2] 78)).alloc (.cells #[.string ⟨#[]⟩,.int .i64 0,.slice none 0 0,.slice none 0 0] 78))):=bto (bnew _ _) (bnew _ _)
  have T1 : Hid (Blk ((w.alloc (.cells #[.string t.name,.int .i64 t.limit,.slice a1 t.mets.length c1,.slice a2 t.sers.length c2] 78)).alloc (.cells #[.string ⟨#[]⟩,.int .i64 0,.slice none 0 0,.slice none 0 0] 78)) w.heap.size #[.string t.name,.int .i64 t.limit,.slice a1 t.mets.length c1,.slice a2 t.sers.length c2] 78):=(Blk.new _ _ _).alloc _
  have R1 : Hid (Blk ((w.alloc (.cells #[.string t.name,.int .i64 t.limit,.slice a1 t.mets.length c1,.slice a2 t.sers.length c2] 78)).alloc (.cells #[.string ⟨#[]⟩,.int .i64 0,.slice none 0 0,.slice none 0 0] 78)) (w.heap.size + 1) #[.string ⟨#[]⟩,.int .i64 0,.slice none 0 0,.slice none 0 0] 78):=hid (by have:=Blk.new (w.alloc (.cells #[.string t.name,.int .i64 t.limit,.slice a1 t.mets.length c1,.slice a2 t.sers.length c2] 78)) #[.string ⟨#[]⟩,.int .i64 0,.slice none 0 0,.slice none 0 0] 78; simpa using this)
  go_upto_region 1 with fail
  generalize (w.alloc (.cells #[.string t.name,.int .i64 t.limit,.slice a1 t.mets.length c1,.slice a2 t.sers.length c2] 78)).alloc (.cells #[.string ⟨#[]⟩,.int .i64 0,.slice none 0 0,.slice none 0 0] 78) = w1 at *
  have HFL : Hid ((flatK t.mets).length = t.mets.length * 2):=flatK_length _
  have HSRC : Hid (∀ W,Below w1.heap.size w1 W → SrcAt W a1 t.mets.length (flatK t.mets)):=fun W hW=>by
    rcases P1.out.later (bto B1.out hW) with h0 | ⟨b,o,rfl,hlt,h⟩
    · exact Or.inl (by rw [h0]; rfl)
    · exact Or.inr ⟨_,rfl,pairs_news h⟩
  have HK : Hid (∀ w',Below w1.heap.size w1 w' → w'.cell? ⟨w.heap.size,0,none⟩ = some (.string t.name) ∧ w'.cell? ⟨w.heap.size,1,none⟩ = some (.int .i64 t.limit) ∧ w'.cell? ⟨w.heap.size,2,none⟩ = some (.slice a1 t.mets.length c1)):=fun w' h=>by
    have q:=T1.out.later h
    exact ⟨q.cell 0,q.cell 1,q.cell 2⟩
  obtain ⟨x0,x1,x2⟩:=HK.out w1 (Below.refl _ _)
  have hw1 : w.heap.size + 1 < w1.heap.size:=lt_of_block R1.out
  go_cut [7] (fun p wx=>∃ X,p = .pointer (some ⟨X,0,none⟩) ∧ KptAt w1 t X wx)
  case first =>
    go_region_held3 (fun w'=>w'.cell? ⟨w.heap.size,0,none⟩ = some (.string t.name) ∧ w'.cell? ⟨w.heap.size,1,none⟩ = some (.int .i64 t.limit) ∧ w'.cell? ⟨w.heap.size,2,none⟩ = some (.slice a1 t.mets.length c1))
      (first | go_keep | exact HK.out _ k5 | exact HK.out _ (set4 k5 (Nat.le_refl _)) | exact HK.out _ (set4 k5 (Nat.le_succ _)) | exact HK.out _ (bel_a w1 _) | exact HK.out _ (bel_b w1 _ _))
      (first
        | (refine step_append_any _ (by rfl) _ _ _ (by rfl) w1.heap.size 82 ti _ 2 24 Tryz.underlying75 HI.out hz0 hz1 hz2 rfl (by omega) w1.heap.size 0 0 [] (by rfl) (by exact rk_a w1) a1 t.mets.length c1 (flatK t.mets) (by rfl) HFL.out (by exact HSRC.out _ (bel_a w1 _)) (flatK_cell _) (by simp [maxLen]; omega) (by omega) (by exact (bel_a w1 _).size) ?_; intro g5 cap5 w5 hown5 hB5 hk5 hg5 hat5 hlt5; have k5 : Below w1.heap.size w1 w5:=(bel_a w1 _).trans hB5; have c5:=HK.out _ k5)
        | (refine step_append_any _ (by rfl) _ _ _ (by rfl) w1.heap.size 82 ti _ 2 24 Tryz.underlying75 HI.out hz0 hz1 hz2 rfl (by omega) w1.heap.size 0 0 [] (by rfl) (by exact rk_b w1 _) a1 t.mets.length c1 (flatK t.mets) (by rfl) HFL.out (by exact HSRC.out _ (bel_b w1 _ _)) (flatK_cell _) (by simp [maxLen]; omega) (by omega) (by exact (bel_b w1 _ _).size) ?_; intro g5 cap5 w5 hown5 hB5 hk5 hg5 hat5 hlt5; have k5 : Below w1.heap.size w1 w5:=(bel_b w1 _ _).trans hB5; have c5:=HK.out _ k5; have BX5 : Hid (Blk w5 (w1.heap.size + 1) #[.string ⟨#[]⟩,.int .i64 0,.slice none 0 0,.slice none 0 0] 78):=(hk5 (w1.heap.size + 1) (by show _ < (World.alloc _ _).heap.size; simp) (by omega)).trans (new_two w1 _ _); have s0:=BX5.out.cell 0; have s1:=BX5.out.cell 1; have s2:=BX5.out.cell 2; have s3:=BX5.out.cell 3; have f0:=BX5.out.free 0; have f1:=BX5.out.free 1; have f2:=BX5.out.free 2; have f3:=BX5.out.free 3)
        | (refine step_append_any _ (by rfl) _ _ _ (by rfl) w1.heap.size 82 ti _ 2 24 Tryz.underlying75 HI.out hz0 hz1 hz2 rfl (by omega) (w1.heap.size + 1) 0 0 [] (by rfl) (by exact rk_c w1 _) a1 t.mets.length c1 (flatK t.mets) (by rfl) HFL.out (by exact HSRC.out _ (bel_b w1 _ _)) (flatK_cell _) (by simp [maxLen]; omega) (by omega) (by exact (bel_b w1 _ _).size) ?_; intro g5 cap5 w5 hown5 hB5 hk5 hg5 hat5 hlt5; have k5 : Below w1.heap.size w1 w5:=(bel_b w1 _ _).trans hB5; have c5:=HK.out _ k5; have BX5 : Hid (Blk w5 w1.heap.size #[.string ⟨#[]⟩,.int .i64 0,.slice none 0 0,.slice none 0 0] 78):=(hk5 w1.heap.size (by show _ < (World.alloc _ _).heap.size; simp; omega) (by omega)).trans (new_one w1 _ _); have s0:=BX5.out.cell 0; have s1:=BX5.out.cell 1; have s2:=BX5.out.cell 2; have s3:=BX5.out.cell 3; have f0:=BX5.out.free 0; have f1:=BX5.out.free 1; have f2:=BX5.out.free 2; have f3:=BX5.out.free 3))
    all_goals (go_wp2_with fail; go_meet)
    · rw [Nat.zero_add,List.nil_append] at hown5
      exact ⟨_,rfl,g5,cap5,Blk.new _ _ _,row_later hown5 (bnew _ _),k5.size,by omega,bto k5 (bnew _ _)⟩
    all_goals (
      have hsA : g5 = w1.heap.size ∨ g5 = w1.heap.size + 1 ∨ g5 = w1.heap.size + 2:=by
        have e : ∀ o o' : Obj,((w1.alloc o).alloc o').drew.heap.size = w1.heap.size + 1 + 1:=fun o o'=>by show (World.alloc _ _).heap.size = _; simp
        rw [e] at hat5
        omega)
    · exact ⟨_,rfl,kpt_box BX5.out (Nat.le_succ _) k5 hown5 (by have e : ∀ o o' : Obj,((w1.alloc o).alloc o').drew.heap.size = w1.heap.size + 1 + 1:=(fun o o'=>by show (World.alloc _ _).heap.size = _; simp); rw [e] at hat5; omega) rfl⟩
    · exact ⟨_,rfl,kpt_box BX5.out (Nat.le_refl _) k5 hown5 (by have e : ∀ o o' : Obj,((w1.alloc o).alloc o').drew.heap.size = w1.heap.size + 1 + 1:=(fun o o'=>by show (World.alloc _ _).heap.size = _; simp); rw [e] at hat5; omega) rfl⟩
  obtain ⟨X,rfl,g1,d1,hX,hO,hXw,hgX,hb2⟩:=hcut
  rename World=>w2
  have HXB:=hid hX
  have HO1:=hid hO
  have B2 : Hid (Below w1.heap.size w1 w2):=hb2
  have y3 : w2.cell? ⟨w.heap.size,3,none⟩ = some (.slice a2 t.sers.length c2):=(T1.out.later hb2).cell 3
  have hX2 : X < w2.heap.size:=lt_of_block hX
  have HR2 : Hid (Blk w2 (w.heap.size + 1) #[.string ⟨#[]⟩,.int .i64 0,.slice none 0 0,.slice none 0 0] 78):=R1.out.later hb2
  have HG1 : Hid (∀ q,(Value.slice (some ⟨g1,0,none⟩) t.mets.length d1).ownBlock = some q → q < w2.heap.size ∧ q ≠ X):=fun q hq=>⟨(hO.lt q hq).2,by simp [Value.ownBlock] at hq; omega⟩
  clear hX hO hb2 HK HSRC HFL x0 x1 x2 P1 HI
  go_wp2
  clear y3
  go_loopw [9,22] (fun _ i wr=>∃ (k : Nat) (v : Value),k ≤ t.sers.length ∧ i = .int .i64 k ∧ Hid (Blk wr X #[.string t.name,.int .i64 t.limit,.slice (some ⟨g1,0,none⟩) t.mets.length d1,v] 78) ∧ Hid (wr.ownsRow w2.heap.size 84 2 v ((t.sers.take k).filter fun p=>decide (now - p.n < win)).length (flatK ((t.sers.take k).filter fun p=>decide (now - p.n < win)))) ∧ Hid (Turn (· = X) w2 wr)) (fun _ i _=>t.sers.length - (intOf i).toNat)
  case atStart=>exact ⟨0,.slice none 0 0,Nat.zero_le _,rfl,HXB.out,World.ownsRow_nil _ _ _ _,Turn.refl _ _⟩
  case round =>
    obtain ⟨k,v,hk,rfl,HB,HRW,HTU⟩:=hrel
    have hs2 : w2.heap.size ≤ wr.heap.size:=HTU.out.size
    have HBW : Hid (Below w.heap.size w wr):=(bto B1.out B2.out).trans (HTU.out.below (by omega) fun i hi e=>by omega)
    by_cases hlt : k < t.sers.length
    · obtain ⟨pb,po,rfl,hpl,z0,z1⟩:=(P2.out.later HBW.out).at hlt
      have HYS : Hid ((t.sers.take (k + 1)).filter (fun p=>decide (now - p.n < win)) = (t.sers.take k).filter (fun p=>decide (now - p.n < win)) ++ if decide (now - t.sers[k].n < win) = true then [t.sers[k]] else []):=keep_take _ _ _ hlt
      have hyl : ((t.sers.take k).filter fun p=>decide (now - p.n < win)).length ≤ 2000000:=by
        have:=keep_le (fun p=>decide (now - p.n < win)) t.sers k
        omega
      obtain ⟨hb0,hb1⟩:=HX0.out k hlt
      generalize (t.sers.take k).filter (fun p=>decide (now - p.n < win)) = ys at *
      generalize t.sers[k] = P at *
      have hwrp : IntKind.i64.wrap (now - P.n) = now - P.n:=by
        simp only [IntKind.wrap,IntKind.bits,IntKind.signed]
        simp
        omega
      by_cases hc : now - P.n < win
      · have HY : Hid ((t.sers.take (k + 1)).filter (fun p=>decide (now - p.n < win)) = ys ++ [P]):=by show _ = _; rw [HYS.out,if_pos (by simpa using hc)]
        go_upto_region 6 with fail
        have HB5 : Hid (Below wr.heap.size wr (wr.alloc (.cells #[.string P.s,.int .i64 P.n] 84))):=bnew _ _
        have u0 : (wr.alloc (.cells #[.string P.s,.int .i64 P.n] 84)).cell? ⟨wr.heap.size,0,none⟩ = some (.string P.s):=(Blk.new _ _ _).cell 0
        have u1 : (wr.alloc (.cells #[.string P.s,.int .i64 P.n] 84)).cell? ⟨wr.heap.size,1,none⟩ = some (.int .i64 P.n):=(Blk.new _ _ _).cell 1
        have hs5 : wr.heap.size < (wr.alloc (.cells #[.string P.s,.int .i64 P.n] 84)).heap.size:=by simp
        clear z0 z1
        generalize wr.alloc (.cells #[.string P.s,.int .i64 P.n] 84) = w5 at *
        have BX5 : Hid (Blk w5 X #[.string t.name,.int .i64 t.limit,.slice (some ⟨g1,0,none⟩) t.mets.length d1,v] 78):=HB.out.later HB5.out
        have x3 : w5.cell? ⟨X,3,none⟩ = some v:=BX5.out.cell 3
        have R5 : Hid (w5.ownsRow w2.heap.size 84 2 v ys.length (flatK ys)):=row_later HRW.out HB5.out
        have T5 : Hid (Turn (· = X) w2 w5):=HTU.out.trans (Turn.of HB5.out)
        go_wp2_with (at_builtin; refine wpList_append_lies _ rfl _ _ _ rfl w2.heap.size 84 tj _ 2 24 Tryz.underlying76 HJ.out hy0 hy1 hy2 rfl (by omega) v ys.length (flatK ys) rfl (by exact row_later R5.out (bnew _ _)) ⟨w5.heap.size,0,none⟩ 1 1 [.string P.s,.int .i64 P.n] rfl rfl (by exact World.news_of_block (cs:=#[.string P.s,.int .i64 P.n]) (heap_alloc_new _ _)) (by simp [Value.oneCell']) (by omega) (by simp [maxLen]; omega) (by omega) (by simp; omega) (w5.heap.size + 1) (by simp) ?_; intro gg cap6 w6 hown6 hgrow6 hat6 hlt6; have hag : v.ownBlock ≠ some X:=(fun e=>by have:=(R5.out.lt X e).1; omega); have BX6 : Hid (Blk w6 X #[.string t.name,.int .i64 t.limit,.slice (some ⟨g1,0,none⟩) t.mets.length d1,v] 78):=(Turn.grown hgrow6).blk (BX5.out.alloc _) hag; have s6:=BX6.out.cell 3; have f6:=BX6.out.free 3; have HO6:=hid hown6; have HGR6:=hid hgrow6; have HAT6:=hid hat6; clear hown6 hgrow6 hat6 hlt6 hag)
        have hgg : w2.heap.size ≤ gg:=by
          rcases HAT6.out with h | h
          · exact (R5.out.lt gg h).1
          · have:=T5.out.size; omega
        have hset : Turn (· = X) w6 (w6.setCell ⟨X,3,none⟩ (.slice (some ⟨gg,0,none⟩) (ys.length + 1) cap6)):=(Turn.refl (· = X) w6).setCell (Or.inl rfl) 3 _
        refine ⟨⟨k + 1,.slice (some ⟨gg,0,none⟩) (ys.length + 1) cap6,by omega,by go_num,?_,?_,?_⟩,by simp [intOf]; omega⟩
        · refine hid ?_
          have:=BX6.out.set 3 (.slice (some ⟨gg,0,none⟩) (ys.length + 1) cap6)
          simpa using this
        · rw [HY.out,flatK_append,List.length_append]
          exact hset.row HO6.out (fun q hq e=>by simp [Value.ownBlock] at hq; omega)
        · exact ((T5.out.trans (Turn.of (bnew _ _))).trans ((Turn.grown HGR6.out).mono fun i _ e=>Or.inr (R5.out.lt i e).1)).trans' hset
      · have HY : Hid ((t.sers.take (k + 1)).filter (fun p=>decide (now - p.n < win)) = ys):=by show _ = _; rw [HYS.out,if_neg (by simpa using hc),List.append_nil]
        have BX5 : Hid (Blk (wr.alloc (.cells #[.string P.s,.int .i64 P.n] 84)) X #[.string t.name,.int .i64 t.limit,.slice (some ⟨g1,0,none⟩) t.mets.length d1,v] 78):=HB.out.alloc _
        have R5 : Hid ((wr.alloc (.cells #[.string P.s,.int .i64 P.n] 84)).ownsRow w2.heap.size 84 2 v ys.length (flatK ys)):=row_later HRW.out (bnew _ _)
        have T5 : Hid (Turn (· = X) w2 (wr.alloc (.cells #[.string P.s,.int .i64 P.n] 84))):=HTU.out.trans (Turn.of (bnew _ _))
        go_wp2
        refine ⟨⟨k + 1,v,by omega,by go_num,BX5.out,?_,T5.out⟩,by simp [intOf]; omega⟩
        rw [HY.out]
        exact R5
    · have ek : t.sers.take k = t.sers:=List.take_of_length_le (by omega)
      rw [ek] at HRW
      have HRF : Hid (wr.ownsRow w2.heap.size 84 2 v (keptT win now t).sers.length (flatK (keptT win now t).sers)):=HRW.out
      obtain ⟨sa,sc,hv⟩ : ∃ a c,v = .slice a (keptT win now t).sers.length c:=by
        rcases HRF.out.2 with ⟨e1,e2⟩ | ⟨g,cap,_,e1,_⟩
        · exact ⟨none,0,by rw [e1,e2]⟩
        · exact ⟨_,_,e1⟩
      rw [hv] at HB HRF
      clear HRW hv ek
      have HK2 : Hid (keptT win now t = ⟨t.name,t.limit,t.mets,(keptT win now t).sers⟩):=rfl
      generalize hKS : (keptT win now t).sers = KS at *
      have YW : Hid (Blk wr (w.heap.size + 1) #[.string ⟨#[]⟩,.int .i64 0,.slice none 0 0,.slice none 0 0] 78):=HTU.out.blk HR2.out (by omega)
      have a0 : wr.cell? ⟨X,0,none⟩ = some (.string t.name):=HB.out.cell 0
      have a1' : wr.cell? ⟨X,1,none⟩ = some (.int .i64 t.limit):=HB.out.cell 1
      have a2' : wr.cell? ⟨X,2,none⟩ = some (.slice (some ⟨g1,0,none⟩) t.mets.length d1):=HB.out.cell 2
      have a3 : wr.cell? ⟨X,3,none⟩ = some (.slice sa KS.length sc):=HB.out.cell 3
      have b0 : wr.cell? ⟨w.heap.size + 1,0,none⟩ = some (.string ⟨#[]⟩):=YW.out.cell 0
      have b1 : wr.cell? ⟨w.heap.size + 1,1,none⟩ = some (.int .i64 0):=YW.out.cell 1
      have b2 : wr.cell? ⟨w.heap.size + 1,2,none⟩ = some (.slice none 0 0):=YW.out.cell 2
      have b3 : wr.cell? ⟨w.heap.size + 1,3,none⟩ = some (.slice none 0 0):=YW.out.cell 3
      have e0:=YW.out.free 0
      have e1:=YW.out.free 1
      have e2:=YW.out.free 2
      have e3:=YW.out.free 3
      have hwl : w.heap.size + 1 < wr.heap.size:=lt_of_block YW.out
      have HOM : Hid (wr.ownsRow w1.heap.size 82 2 (.slice (some ⟨g1,0,none⟩) t.mets.length d1) t.mets.length (flatK t.mets)):=HTU.out.row HO1.out (fun q hq e=>(HG1.out q hq).2 e)
      go_wp2
      have HTE : Turn (· = w.heap.size + 1) wr ((((wr.setCell ⟨w.heap.size + 1,0,none⟩ (.string t.name)).setCell ⟨w.heap.size + 1,1,none⟩ (.int .i64 t.limit)).setCell ⟨w.heap.size + 1,2,none⟩ (.slice (some ⟨g1,0,none⟩) t.mets.length d1)).setCell ⟨w.heap.size + 1,3,none⟩ (.slice sa KS.length sc)):=((((Turn.refl (· = w.heap.size + 1) wr).setCell (Or.inl rfl) 0 _).setCell (Or.inl rfl) 1 _).setCell (Or.inl rfl) 2 _).setCell (Or.inl rfl) 3 _
      refine bodyPost_ret (v:=.agg #[.string t.name,.int .i64 t.limit,.slice (some ⟨g1,0,none⟩) t.mets.length d1,.slice sa KS.length sc]) (by simp [results,Tryz.results42,go_sem,b0,b1,b2,b3]) rfl ⟨w2.heap.size,some ⟨g1,0,none⟩,d1,sa,sc,by rw [hKS]; rfl,by omega,?_,fun g o e=>(HG1.out g (by cases e; rfl)).1,?_,?_,?_⟩
      · exact (pairs_of_row (HTE.row HOM.out (fun q hq e=>by have:=(HOM.out.lt q hq).1; omega))).mono (by omega)
      · rw [hKS]
        exact HTE.row HRF.out (fun q hq e=>by have:=(HRF.out.lt q hq).1; omega)
      · have:=HTE.size; omega
      · exact ((Turn.of (S:=fun i=>w.heap.size ≤ i) HBW.out).trans' (HTE.mono fun i _ e=>by omega)).below (Nat.le_refl _) fun i hi h=>by omega
theorem l4Kept_any (t : TenD) (a1 a2 : Option Addr) (c1 c2 : Nat) (now win : Int) (w : World) (p1 : PairsIn w a1 t.mets) (p2 : PairsIn w a2 t.sers) (hl1 : t.mets.length ≤ 2000000) (hl2 : t.sers.length ≤ 2000000) (hn0 : 0 ≤ now) (hn1 : now ≤ 2000000000000) (hx : ∀ i (h : i < t.sers.length),0 ≤ t.sers[i].n ∧ t.sers[i].n ≤ 2000000000000) :
    Calls Tryz.prog 42 #[.agg #[.string t.name,.int .i64 t.limit,.slice a1 t.mets.length c1,.slice a2 t.sers.length c2],.int .i64 now,.int .i64 win] w fun e w'=>TelOut w t.name (keptT win now t) e w' :=
  (l4KeptR_any t a1 a2 c1 c2 now win w p1 p2 hl1 hl2 hn0 hn1 hx).mono fun _ _ h=>h.tel
end Go.Proofs.YtkmdbpaeeagccaaGreatDoor
