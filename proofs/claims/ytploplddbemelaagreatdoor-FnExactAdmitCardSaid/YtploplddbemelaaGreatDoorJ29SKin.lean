import Derived.Test.YtploplddbemelaaGreatDoorJ18SlmL
import Derived.Test.YtploplddbemelaaGreatDoorJ02LabB
import Derived.Test.YtploplddbemelaaGreatDoorJ23FitO
import Derived.Test.YtploplddbemelaaGreatDoorJ26LTell
import Derived.Test.YtploplddbemelaaGreatDoorJ28SWth
import Derived.Test.YtploplddbemelaaGreatDoorProg
import Derived.Test.YtploplddbemelaaGreatDoorJ20IAdm
import Derived.Test.YtploplddbemelaaGreatDoorJ05HpP
import Derived.Test.YtploplddbemelaaGreatDoorJ21SSta
import Derived.Test.YtploplddbemelaaGreatDoorJ27WthL
namespace Go.Proofs.YtploplddbemelaaGreatDoor
open Go.RowKit

/-- Only blocks outside of those from B on have turned. -/
theorem TensOwn.turned {S : Nat → Prop} {w w' : World} {B : Nat} {a : Option Addr} {ts : List TenD} (h : TensOwn w B a ts) (ht : Turn S w w') (hS : ∀ g, B ≤ g → g < w.heap.size → ¬ S g) : TensOwn w' B a ts := by
  rcases h with h | ⟨g, o, cur, t, T, rfl, hB, hg, hT, h⟩
  · exact Or.inl h
  · have hk := ht.block g (lt_of_block hg) (hS g hB (lt_of_block hg))
    exact Or.inr ⟨g, o, cur, t, T, rfl, hB, hk.trans hg, hT, fun i hi => (h i hi).keep (fun j _ => World.cell?_of_block hk) fun g' hg' hB' _ => ⟨ht.block g' hg' (hS g' hB' hg'), rfl⟩⟩
/-- A state and whether it was done. -/
def StOut (V : Int × List TenD × Bool) (w : World) (e : Ending) (w' : World) : Prop :=
  ∃ a cap, e = .returned (.tuple #[.agg #[.int .i64 V.1, .slice a V.2.1.length cap], .bool V.2.2]) ∧ TensOwn w' w.heap.size a V.2.1 ∧ Below w.heap.size w w'
/-- What every tenant of a state that is read is at most. -/
def FitS (x : TenD) : Prop := x.name.size ≤ 1048576 ∧ (∀ p ∈ x.mets, p.s.size ≤ 1048576) ∧ (∀ p ∈ x.sers, p.s.size ≤ 1048576) ∧ x.mets.length ≤ 1048577 ∧ x.sers.length ≤ 1048577
theorem fitS_of {ts : List TenD} (h : ts.length + tensBulk ts ≤ 1048576) : ∀ x ∈ ts, x.name.size ≤ 1048576 ∧ (∀ p ∈ x.mets, p.s.size ≤ 1048576) ∧ (∀ p ∈ x.sers, p.s.size ≤ 1048576) ∧ x.mets.length ≤ 1048576 ∧ x.sers.length ≤ 1048576 := by
  intro x hx
  obtain ⟨i, hi, rfl⟩ := List.getElem_of_mem hx
  have hb := tenBulk_at ts i hi
  unfold tenBulk at hb
  refine ⟨by omega, fun p hp => ?_, fun p hp => ?_, by omega, by omega⟩
  · obtain ⟨j, hj, rfl⟩ := List.getElem_of_mem hp
    have := pair_bulk_at _ j hj
    omega
  · obtain ⟨j, hj, rfl⟩ := List.getElem_of_mem hp
    have := pair_bulk_at _ j hj
    omega
theorem fitL_of {ts : List TenD} (h : ∀ x ∈ ts, FitS x) : FitL ts := fun x hx => by
  obtain ⟨h1, h2, h3, h4, h5⟩ := h x hx
  exact ⟨by unfold maxLen; omega, fun i hi => by have := h2 _ (List.getElem_mem hi); unfold maxLen; omega, fun i hi => by have := h3 _ (List.getElem_mem hi); unfold maxLen; omega, by omega, by omega⟩
theorem tenOf_fit {ts : List TenD} (h : ∀ x ∈ ts, x.name.size ≤ 1048576 ∧ (∀ p ∈ x.mets, p.s.size ≤ 1048576) ∧ (∀ p ∈ x.sers, p.s.size ≤ 1048576) ∧ x.mets.length ≤ 1048576 ∧ x.sers.length ≤ 1048576) {tenant : ByteArray} (hn : tenant.size ≤ 1048576) :
    (tenOf ts tenant).name.size ≤ 1048576 ∧ (∀ p ∈ (tenOf ts tenant).mets, p.s.size ≤ 1048576) ∧ (∀ p ∈ (tenOf ts tenant).sers, p.s.size ≤ 1048576) ∧ (tenOf ts tenant).mets.length ≤ 1048576 ∧ (tenOf ts tenant).sers.length ≤ 1048576 := by
  rcases tenOf_in (ts := ts) (name := tenant) with ⟨hm, _⟩ | ⟨e, _⟩
  · exact h _ hm
  · rw [e]
    exact ⟨hn, fun p hp => (by cases hp), fun p hp => (by cases hp), Nat.zero_le _, Nat.zero_le _⟩
theorem insBy_len_le {α : Type} {key : α → ByteArray} {a : α} (l : List α) : (insBy key a l).length ≤ l.length + 1 := by
  induction l with
  | nil => simp [insBy]
  | cons p r ih =>
    rw [insBy]
    split
    · simp only [List.length_cons]; omega
    · split <;> simp
theorem limT_fit {t : TenD} {metric : ByteArray} {limit : Int} (h : t.name.size ≤ 1048576 ∧ (∀ p ∈ t.mets, p.s.size ≤ 1048576) ∧ (∀ p ∈ t.sers, p.s.size ≤ 1048576) ∧ t.mets.length ≤ 1048576 ∧ t.sers.length ≤ 1048576) (hm : metric.size ≤ 1048576) : FitS (limT t metric limit) := by
  obtain ⟨h1, h2, h3, h4, h5⟩ := h
  unfold limT
  split
  · exact ⟨h1, h2, h3, Nat.le_succ_of_le h4, Nat.le_succ_of_le h5⟩
  · refine ⟨h1, fun p hp => ?_, h3, ?_, Nat.le_succ_of_le h5⟩
    · simp only at hp
      split at hp
      · exact h2 p (mem_delBy.1 hp).1
      · rcases insBy_mem hp with rfl | hp
        · exact hm
        · exact h2 p hp
    · simp only
      split
      · have : (delBy (·.s) metric t.mets).length ≤ t.mets.length := List.length_filter_le _ _
        omega
      · have := insBy_len_le (key := fun p : PairD => p.s) (a := ⟨metric, limit⟩) t.mets
        omega
theorem setL_fit {ts : List TenD} (h : ∀ x ∈ ts, x.name.size ≤ 1048576 ∧ (∀ p ∈ x.mets, p.s.size ≤ 1048576) ∧ (∀ p ∈ x.sers, p.s.size ≤ 1048576) ∧ x.mets.length ≤ 1048576 ∧ x.sers.length ≤ 1048576) {tenant metric : ByteArray} {limit : Int} (hn : tenant.size ≤ 1048576) (hm : metric.size ≤ 1048576) :
    (∀ x ∈ (setL ts tenant metric limit).1, FitS x) ∧ (setL ts tenant metric limit).1.length ≤ ts.length + 1 := by
  have h0 : ∀ x ∈ ts, FitS x := fun x hx => by
    obtain ⟨h1, h2, h3, h4, h5⟩ := h x hx
    exact ⟨h1, h2, h3, by omega, by omega⟩
  unfold setL
  split
  · exact ⟨h0, by simp⟩
  · split
    · refine ⟨fun x hx => h0 x (mem_delBy.1 hx).1, ?_⟩
      have : (delBy (·.name) tenant ts).length ≤ ts.length := List.length_filter_le _ _
      show (delBy (·.name) tenant ts).length ≤ _
      omega
    · split
      · exact ⟨h0, by simp⟩
      · refine ⟨fun x hx => ?_, insBy_len_le _⟩
        rcases insBy_mem hx with rfl | hx
        · exact limT_fit (tenOf_fit h hn) hm
        · exact h0 x hx
end Go.Proofs.YtploplddbemelaaGreatDoor

namespace Go.Proofs.YtploplddbemelaaGreatDoor
open Go.RowKit Go.Maps

/-- A state and a verdict. -/
def AdOut (V : Int × List TenD × Nat) (w : World) (e : Ending) (w' : World) : Prop :=
  ∃ a cap, e = .returned (.tuple #[.agg #[.int .i64 V.1, .slice a V.2.1.length cap], .int .i64 (V.2.2 : Nat)]) ∧ TensOwn w' w.heap.size a V.2.1 ∧ Below w.heap.size w w'
theorem addT_fit {t : TenD} {key : ByteArray} {now : Int} (h : t.name.size ≤ 1048576 ∧ (∀ p ∈ t.mets, p.s.size ≤ 1048576) ∧ (∀ p ∈ t.sers, p.s.size ≤ 1048576) ∧ t.mets.length ≤ 1048576 ∧ t.sers.length ≤ 1048576) (hk : key.size ≤ 1048576) : FitS (addT t key now) := by
  obtain ⟨h1, h2, h3, h4, h5⟩ := h
  refine ⟨h1, h2, fun p hp => ?_, Nat.le_succ_of_le h4, ?_⟩
  · rcases insBy_mem (show p ∈ insBy (·.s) ⟨key, now⟩ t.sers from hp) with rfl | hp
    · exact hk
    · exact h3 p hp
  · have := insBy_len_le (key := fun p : PairD => p.s) (a := ⟨key, now⟩) t.sers
    show (insBy (·.s) (⟨key, now⟩ : PairD) t.sers).length ≤ _
    omega
theorem admL_fit {ts : List TenD} (h : ∀ x ∈ ts, x.name.size ≤ 1048576 ∧ (∀ p ∈ x.mets, p.s.size ≤ 1048576) ∧ (∀ p ∈ x.sers, p.s.size ≤ 1048576) ∧ x.mets.length ≤ 1048576 ∧ x.sers.length ≤ 1048576) {c : CfgD} {now : Int} {tenant key : ByteArray} (hn : tenant.size ≤ 1048576) (hk : key.size ≤ 1048576) :
    (∀ x ∈ (admL c now ts tenant key).1, FitS x) ∧ (admL c now ts tenant key).1.length ≤ ts.length + 1 := by
  have h0 : ∀ x ∈ ts, FitS x := fun x hx => by
    obtain ⟨h1, h2, h3, h4, h5⟩ := h x hx
    exact ⟨h1, h2, h3, by omega, by omega⟩
  have hi : (∀ x ∈ insBy (·.name) (addT (tenOf ts tenant) key now) ts, FitS x) ∧ (insBy (·.name) (addT (tenOf ts tenant) key now) ts).length ≤ ts.length + 1 := by
    refine ⟨fun x hx => ?_, insBy_len_le _⟩
    rcases insBy_mem hx with rfl | hx
    · exact addT_fit (tenOf_fit h hn) hk
    · exact h0 x hx
  have hs : (∀ x ∈ ts, FitS x) ∧ ts.length ≤ ts.length + 1 := ⟨h0, Nat.le_succ _⟩
  unfold admL
  split
  · exact hs
  · split
    · exact hi
    · generalize (if (tenOf ts tenant).limit = -1 then c.tl else (tenOf ts tenant).limit) = LM
      split
      · exact hs
      · split
        · exact hs
        · exact hi
set_option maxRecDepth 100000 in
set_option maxHeartbeats 4000000 in
theorem implAdmit_any (c : CfgD) (now : Int) (a : Option Addr) (cap : Nat) (ts : List TenD) (tenant key : ByteArray) (w : World) (hf : TensIn w a ts) (hbk : ts.length + tensBulk ts ≤ 1048576) (hU : UTab w) (hn : tenant.size ≤ 1048576) (hk : key.size ≤ 1048576) :
    Calls Tryz.prog 13 #[cfgV c, .agg #[.int .i64 now, .slice a ts.length cap], .string tenant, .string key] w fun e w' => AdOut (admitV c now ts tenant key) w e w' := by
  obtain ⟨f1, f2, f3, f4⟩ := fit_of hbk
  have hfs := fitS_of hbk
  obtain ⟨hfl, hsl⟩ := admL_fit hfs (c := c) (now := now) hn hk
  have HO : Hid (∀ W, Below w.heap.size w W → Calls Tryz.prog 43 #[cfgV c, .agg #[.int .i64 now, .slice a ts.length cap]] W fun e w' => OpenOut c now ts 1048576 W e w') := fun W hW => open_any c now a cap ts 1048576 W (hf.later hW) f1 (by omega) (hU.later hW)
  have HSL : Hid (∀ l m B W, stateB c now ts = true → Below w.heap.size w W → B ≤ W.heap.size → LedAt W B l m c now ts 1048576 → Calls Tryz.prog 44 #[.pointer (some ⟨l, 0, none⟩), .string tenant, .string key] W fun e w' => e = .returned (.int .i64 ((admL c now ts tenant key).2 : Nat)) ∧ LedAt w' B l m c now (admL c now ts tenant key).1 (1048576 + 1) ∧ Turn (fun g => B ≤ g) W w') := fun l m B W hs hW hB h => ladmit_any l m tenant key c now B ts 1048576 W h hB (hU.later hW) hn hk (by omega) (by omega) (fun t ht => by have := (hfs t ht).2.2.2.2; omega) (fun t ht y hy => (sers_at (ten_parts (tens_at (tens_of hs).2.2.2.2 t ht)).2.2.1 y hy).2.2) (by omega)
  have HTL : Hid (∀ l m B W, LedAt W B l m c now (admL c now ts tenant key).1 (1048576 + 1) → Calls Tryz.prog 45 #[.pointer (some ⟨l, 0, none⟩)] W fun e w' => ∃ a cap, e = .returned (.agg #[.int .i64 now, .slice a (admL c now ts tenant key).1.length cap]) ∧ TensOwn w' W.heap.size a (admL c now ts tenant key).1 ∧ Below W.heap.size W w') := fun l m B W h => ltell_any l m c now B _ (1048576 + 1) W h (fitL_of hfl) (by omega)
  have HV0 : Hid (stateB c now ts = false → admitV c now ts tenant key = (0, [], 5)) := fun h => by unfold admitV; rw [if_pos h]
  have HV1 : Hid (stateB c now ts = true → admitV c now ts tenant key = (now, (admL c now ts tenant key).1, (admL c now ts tenant key).2)) := fun h => admL_eq h tenant key
  clear hf f1 f2 f3 f4 hfs hfl hU
  unfold OpenOut at HO
  unfold AdOut
  generalize admitV c now ts tenant key = V at *
  generalize admL c now ts tenant key = R at *
  unfold cfgV at *
  go_enter Tryz.func13, Tryz.ntmps13
  have B1 : Hid (Below w.heap.size w (((w.alloc (.cells #[.int .i64 c.w, .int .i64 c.tl, .int .i64 c.ml, .int .i64 c.sh, .int .i64 c.ha, .int .i64 c.sg] 24)).alloc (.cells #[.int .i64 now, .slice a ts.length cap] 41)).alloc (.cells #[.int .i64 0, .slice none 0 0] 41))) := bto (bto (bnew _ _) (bnew _ _)) (bnew _ _)
  have R1 : Hid (Blk (((w.alloc (.cells #[.int .i64 c.w, .int .i64 c.tl, .int .i64 c.ml, .int .i64 c.sh, .int .i64 c.ha, .int .i64 c.sg] 24)).alloc (.cells #[.int .i64 now, .slice a ts.length cap] 41)).alloc (.cells #[.int .i64 0, .slice none 0 0] 41)) (w.heap.size + 1 + 1) #[.int .i64 0, .slice none 0 0] 41) := hid (by have := Blk.new ((w.alloc (.cells #[.int .i64 c.w, .int .i64 c.tl, .int .i64 c.ml, .int .i64 c.sh, .int .i64 c.ha, .int .i64 c.sg] 24)).alloc (.cells #[.int .i64 now, .slice a ts.length cap] 41)) #[.int .i64 0, .slice none 0 0] 41; simpa using this)
  go_wp2_with fail
  refine (HO.out _ B1.out).mono ?_
  intro e w1 hx
  have HX := hid hx
  clear hx
  rcases HX.out with ⟨hs, rfl, hb⟩ | ⟨hs, l, m, rfl, hlo, hled, hb⟩
  · have HB : Hid (Below w.heap.size w w1) := bto B1.out hb
    have RB : Hid (Blk w1 (w.heap.size + 1 + 1) #[.int .i64 0, .slice none 0 0] 41) := R1.out.later hb
    have HV : Hid (V = (0, [], 5)) := HV0.out hs
    have y0 : w1.cell? ⟨w.heap.size + 1 + 1, 0, none⟩ = some (.int .i64 0) := RB.out.cell 0
    have y1 : w1.cell? ⟨w.heap.size + 1 + 1, 1, none⟩ = some (.slice none 0 0) := RB.out.cell 1
    have f0 := RB.out.free 0
    have f1 := RB.out.free 1
    have hwl : w.heap.size + 1 + 1 < w1.heap.size := lt_of_block RB.out
    clear HX hb hs
    go_wp2
    refine bodyPost_ret (v := .tuple #[.agg #[.int .i64 0, .slice none 0 0], .int .i64 5]) (by simp [results, Tryz.results13, go_sem, y0, y1]) rfl ?_
    rw [HV.out]
    refine ⟨none, 0, rfl, Or.inl rfl, ?_⟩
    first
      | exact (HB.out.setCell (by show w.heap.size ≤ w.heap.size + 1 + 1; omega) _).setCell (by show w.heap.size ≤ w.heap.size + 1 + 1; omega) _
      | exact HB.out
  · have HB : Hid (Below w.heap.size w w1) := bto B1.out hb
    have RB : Hid (Blk w1 (w.heap.size + 1 + 1) #[.int .i64 0, .slice none 0 0] 41) := R1.out.later hb
    have HV : Hid (V = (now, R.1, R.2)) := HV1.out hs
    have HSB := hid hs
    have HL := hid hled
    have hs1 := hb.size
    have hs0 : w.heap.size + 1 + 1 < (((w.alloc (.cells #[.int .i64 c.w, .int .i64 c.tl, .int .i64 c.ml, .int .i64 c.sh, .int .i64 c.ha, .int .i64 c.sg] 24)).alloc (.cells #[.int .i64 now, .slice a ts.length cap] 41)).alloc (.cells #[.int .i64 0, .slice none 0 0] 41)).heap.size := lt_of_block R1.out
    generalize (((w.alloc (.cells #[.int .i64 c.w, .int .i64 c.tl, .int .i64 c.ml, .int .i64 c.sh, .int .i64 c.ha, .int .i64 c.sg] 24)).alloc (.cells #[.int .i64 now, .slice a ts.length cap] 41)).alloc (.cells #[.int .i64 0, .slice none 0 0] 41)) = w0 at *
    clear HX hb hs hled HO HV0 HV1
    go_wp2_with fail
    refine (HSL.out l m _ _ HSB.out HB.out hs1 HL.out).mono ?_
    rintro e w2 ⟨rfl, hl2, ht2⟩
    have HL2 := hid hl2
    have R2 : Hid (Blk w2 (w.heap.size + 1 + 1) #[.int .i64 0, .slice none 0 0] 41) := ht2.blk RB.out (by omega)
    have B2 : Hid (Below w.heap.size w w2) := HB.out.trans (ht2.below (by omega) fun i hi e => by omega)
    clear hl2 ht2 HSL
    go_wp2_with fail
    refine (HTL.out l m _ _ HL2.out).mono ?_
    rintro e w3 ⟨ra, rc, rfl, ho3, hb3⟩
    have HO3 : Hid (TensOwn w3 w2.heap.size ra R.1) := ho3
    have R3 : Hid (Blk w3 (w.heap.size + 1 + 1) #[.int .i64 0, .slice none 0 0] 41) := R2.out.later hb3
    have B3 : Hid (Below w.heap.size w w3) := bto B2.out hb3
    have y0 : w3.cell? ⟨w.heap.size + 1 + 1, 0, none⟩ = some (.int .i64 0) := R3.out.cell 0
    have y1 : w3.cell? ⟨w.heap.size + 1 + 1, 1, none⟩ = some (.slice none 0 0) := R3.out.cell 1
    have f0 := R3.out.free 0
    have f1 := R3.out.free 1
    have hwl : w.heap.size + 1 + 1 < w3.heap.size := lt_of_block R3.out
    have hw2 : w.heap.size + 1 + 1 < w2.heap.size := lt_of_block R2.out
    clear ho3 hb3
    go_wp2
    have HTE : Turn (· = w.heap.size + 1 + 1) w3 ((w3.setCell ⟨w.heap.size + 1 + 1, 0, none⟩ (.int .i64 now)).setCell ⟨w.heap.size + 1 + 1, 1, none⟩ (.slice ra R.1.length rc)) := ((Turn.refl (· = w.heap.size + 1 + 1) w3).setCell (Or.inl rfl) 0 _).setCell (Or.inl rfl) 1 _
    refine bodyPost_ret (v := .tuple #[.agg #[.int .i64 now, .slice ra R.1.length rc], .int .i64 (R.2 : Nat)]) (by simp [results, Tryz.results13, go_sem, y0, y1]) rfl ?_
    rw [HV.out]
    have ho : TensOwn ((w3.setCell ⟨w.heap.size + 1 + 1, 0, none⟩ (.int .i64 now)).setCell ⟨w.heap.size + 1 + 1, 1, none⟩ (.slice ra R.1.length rc)) w.heap.size ra R.1 := (TensOwn.turned HO3.out HTE (fun g h1 h2 e => by omega)).mono (by omega)
    have hbe : Below w.heap.size w ((w3.setCell ⟨w.heap.size + 1 + 1, 0, none⟩ (.int .i64 now)).setCell ⟨w.heap.size + 1 + 1, 1, none⟩ (.slice ra R.1.length rc)) := ((Turn.of (S := fun i => w.heap.size ≤ i) B3.out).trans' (HTE.mono fun i _ e => by omega)).below (Nat.le_refl _) fun i hi h => by omega
    first
      | exact ⟨ra, ⟨rc, rfl⟩, ho, hbe⟩
      | exact ⟨ra, rc, rfl, ho, hbe⟩
end Go.Proofs.YtploplddbemelaaGreatDoor

namespace Go.Proofs.YtploplddbemelaaGreatDoor
open Go.RowKit

def TenV (w : World) (e : Ending) (t : TenD) : Prop := ∃ a1 c1 a2 c2, e = .returned (.agg #[.string t.name, .int .i64 t.limit, .slice a1 t.mets.length c1, .slice a2 t.sers.length c2]) ∧ PairsIn w a1 t.mets ∧ PairsIn w a2 t.sers
set_option maxRecDepth 100000 in
set_option maxHeartbeats 2000000 in
theorem l4Tenant_any (now : Int) (a : Option Addr) (cap : Nat) (ts : List TenD) (name : ByteArray) (w : World) (hf : TensIn w a ts) (hlen : ts.length ≤ 1000000000) :
    Calls Tryz.prog 55 #[.agg #[.int .i64 now, .slice a ts.length cap], .string name] w fun e w' => TenV w' e (tenOf ts name) ∧ Below w.heap.size w w' := by
  have HF : Hid (TensIn w a ts) := hf
  have HTO : Hid (tenOf ts name = (getBy (·.name) name ts).getD ⟨name, -1, [], []⟩) := rfl
  clear hf
  go_enter Tryz.func55, Tryz.ntmps55
  go_wp2
  have R1 : Hid (Blk ((w.alloc (.cells #[.int .i64 now, .slice a ts.length cap] 41)).alloc (.cells #[.string ⟨#[]⟩, .int .i64 0, .slice none 0 0, .slice none 0 0] 98)) (w.heap.size + 1) #[.string ⟨#[]⟩, .int .i64 0, .slice none 0 0, .slice none 0 0] 98) := hid (by have := Blk.new (w.alloc (.cells #[.int .i64 now, .slice a ts.length cap] 41)) #[.string ⟨#[]⟩, .int .i64 0, .slice none 0 0, .slice none 0 0] 98; simpa using this)
  have B1 : Hid (Below w.heap.size w ((w.alloc (.cells #[.int .i64 now, .slice a ts.length cap] 41)).alloc (.cells #[.string ⟨#[]⟩, .int .i64 0, .slice none 0 0, .slice none 0 0] 98))) := bto (bnew _ _) (bnew _ _)
  generalize hW : (w.alloc (.cells #[.int .i64 now, .slice a ts.length cap] 41)).alloc (.cells #[.string ⟨#[]⟩, .int .i64 0, .slice none 0 0, .slice none 0 0] 98) = W at *
  clear hW
  go_loopw [6, 10] (fun _ i wr => ∃ k : Nat, k ≤ ts.length ∧ i = .int .i64 k ∧ Hid (∀ j (h : j < k) (h' : j < ts.length), ts[j].name ≠ name) ∧ Below W.heap.size W wr) (fun _ i _ => ts.length - (intOf i).toNat)
  case atStart => exact ⟨0, Nat.zero_le _, rfl, (fun j h => absurd h (by omega)), Below.refl _ _⟩
  case round =>
    obtain ⟨k, hk, rfl, HN, hbel⟩ := hrel
    have HB : Hid (Below W.heap.size W wr) := hbel
    have R2 : Hid (Blk wr (w.heap.size + 1) #[.string ⟨#[]⟩, .int .i64 0, .slice none 0 0, .slice none 0 0] 98) := R1.out.later hbel
    have hrl := lt_of_block R2.out
    have s0 : wr.cell? ⟨w.heap.size + 1, 0, none⟩ = some (.string ⟨#[]⟩) := R2.out.cell 0
    have s1 : wr.cell? ⟨w.heap.size + 1, 1, none⟩ = some (.int .i64 0) := R2.out.cell 1
    have s2 : wr.cell? ⟨w.heap.size + 1, 2, none⟩ = some (.slice none 0 0) := R2.out.cell 2
    have s3 : wr.cell? ⟨w.heap.size + 1, 3, none⟩ = some (.slice none 0 0) := R2.out.cell 3
    have u0 := R2.out.free 0
    have u1 := R2.out.free 1
    have u2 := R2.out.free 2
    have u3 := R2.out.free 3
    clear hbel R1
    by_cases hlt : k < ts.length
    · obtain ⟨b, o, a1, q1, a2, q2, rfl, hb, z0, z1, z2, z3, p1, p2⟩ := HF.out.at hlt
      have Bw : Hid (Below w.heap.size w wr) := bto B1.out HB.out
      have t0 := (Bw.out.cell hb).trans z0
      have t1 := (Bw.out.cell hb).trans z1
      have t2 := (Bw.out.cell hb).trans z2
      have t3 := (Bw.out.cell hb).trans z3
      clear z0 z1 z2 z3
      have HG : Hid (getBy (·.name) name ts = if ts[k].name = name then some ts[k] else getBy (·.name) name (ts.drop (k + 1))) := by
        show _ = _
        rw [getBy_drop k HN.out, List.drop_eq_getElem_cons hlt, getBy_cons]
      have HSUC : Hid (ts[k].name ≠ name → ∀ j (h : j < k + 1) (h' : j < ts.length), ts[j].name ≠ name) := fun hne j hj hj' => by
        by_cases e : j = k
        · subst e; exact hne
        · exact HN.out j (by omega) hj'
      have P1 : Hid (PairsIn w a1 ts[k].mets) := p1
      have P2 : Hid (PairsIn w a2 ts[k].sers) := p2
      clear p1 p2
      generalize ts[k] = T at *
      by_cases he : T.name = name
      · have hb1 : (T.name.toList == name.toList) = true := (same_iff _ _).2 he
        have HT : Hid (tenOf ts name = T) := by show _ = _; rw [HTO.out, HG.out, if_pos he]; rfl
        clear he
        go_wp2
        have HFB : Below w.heap.size w (((((wr.setCell ⟨w.heap.size + 1, 0, none⟩ (.string T.name)).setCell ⟨w.heap.size + 1, 1, none⟩ (.int .i64 T.limit)).setCell ⟨w.heap.size + 1, 2, none⟩ (.slice a1 T.mets.length q1)).setCell ⟨w.heap.size + 1, 3, none⟩ (.slice a2 T.sers.length q2)).alloc (.cells #[.string T.name, .int .i64 T.limit, .slice a1 T.mets.length q1, .slice a2 T.sers.length q2] 98)) := bto (((((Bw.out.setCell (by simp) _).setCell (by simp) _).setCell (by simp) _).setCell (by simp) _)) (bnew _ _)
        refine bodyPost_ret (v := .agg #[.string T.name, .int .i64 T.limit, .slice a1 T.mets.length q1, .slice a2 T.sers.length q2]) (by simp [results, Tryz.results55, go_sem, s0, s1, s2, s3, hrl]) rfl ⟨?_, HFB⟩
        rw [HT.out]
        exact ⟨a1, q1, a2, q2, rfl, P1.out.later HFB, P2.out.later HFB⟩
      · have hb1 : (T.name.toList == name.toList) = false := same_not he
        have HN2 : Hid (∀ j (h : j < k + 1) (h' : j < ts.length), ts[j].name ≠ name) := HSUC.out he
        clear he
        go_wp2
        exact ⟨⟨k + 1, by omega, by go_num, HN2, bto HB.out (bnew _ _)⟩, by simp [intOf]; omega⟩
    · have HT : Hid (tenOf ts name = ⟨name, -1, [], []⟩) := by
        show _ = _
        rw [HTO.out, getBy_drop k HN.out, List.drop_of_length_le (by omega)]
        rfl
      have Bw : Hid (Below w.heap.size w wr) := bto B1.out HB.out
      go_wp2
      refine bodyPost_ret (v := .agg #[.string name, .int .i64 (-1), .slice none 0 0, .slice none 0 0]) (by simp [results, Tryz.results55, go_sem, s0, s1, s2, s3]) rfl ⟨?_, (((((Bw.out.setCell (by simp) _).setCell (by simp) _).setCell (by simp) _).setCell (by simp) _))⟩
      rw [HT.out]
      exact ⟨none, 0, none, 0, rfl, Or.inl rfl, Or.inl rfl⟩

set_option maxRecDepth 100000 in
set_option maxHeartbeats 4000000 in
theorem l4Count_any (c : CfgD) (t : TenD) (a1 a2 : Option Addr) (c1 c2 : Nat) (m : ByteArray) (w : World) (p1 : PairsIn w a1 t.mets) (p2 : PairsIn w a2 t.sers) (hb : BigP t.sers) (l1 : t.mets.length ≤ 1000000000) (l2 : t.sers.length ≤ 1000000000) :
    Calls Tryz.prog 63 #[cfgV c, .agg #[.string t.name, .int .i64 t.limit, .slice a1 t.mets.length c1, .slice a2 t.sers.length c2], .string m] w fun e w' => e = .returned (.tuple #[.int .i64 (countV c t m).1, .int .i64 (countV c t m).2]) ∧ Below w.heap.size w w' := by
  unfold cfgV
  by_cases hm : m.toList.isEmpty = true
  · have HV : Hid (countV c t m = (((t.sers.length : Nat) : Int), if t.limit < 0 then c.tl else t.limit)) := by show _ = _; unfold countV; rw [if_pos hm]
    clear p1 p2 hb
    by_cases hl : t.limit < 0
    · go_enter Tryz.func63, Tryz.ntmps63
      go_wp2
      go_ret2
      exact ⟨ret_two (by rw [HV.out]) (by rw [HV.out]; exact (if_pos hl).symm), bto (bnew _ _) (bnew _ _)⟩
    · have HL : Hid (¬ t.limit < 0) := hl
      go_enter Tryz.func63, Tryz.ntmps63
      go_wp2
      go_ret2
      exact ⟨ret_two (by rw [HV.out]) (by rw [HV.out]; have h0 := HL.out; exact (if_neg (by omega)).symm), bto (bnew _ _) (bnew _ _)⟩
  have hm' : m.toList.isEmpty = false := by simpa using hm
  have HV : Hid (countV c t m = (((cntM metK t.sers m : Nat) : Int), metLim t.mets m c.ml)) := by show _ = _; unfold countV; rw [if_neg hm]
  have P1 : Hid (PairsIn w a1 t.mets) := p1
  have P2 : Hid (PairsIn w a2 t.sers) := p2
  have HBP : Hid (BigP t.sers) := hb
  clear p1 p2 hb hm
  go_enter Tryz.func63, Tryz.ntmps63
  go_wp2
  have T1 : Hid (Blk ((w.alloc (.cells #[.int .i64 c.w, .int .i64 c.tl, .int .i64 c.ml, .int .i64 c.sh, .int .i64 c.ha, .int .i64 c.sg] 24)).alloc (.cells #[.string t.name, .int .i64 t.limit, .slice a1 t.mets.length c1, .slice a2 t.sers.length c2] 98)) (w.heap.size + 1) #[.string t.name, .int .i64 t.limit, .slice a1 t.mets.length c1, .slice a2 t.sers.length c2] 98) := hid (by have := Blk.new (w.alloc (.cells #[.int .i64 c.w, .int .i64 c.tl, .int .i64 c.ml, .int .i64 c.sh, .int .i64 c.ha, .int .i64 c.sg] 24)) #[.string t.name, .int .i64 t.limit, .slice a1 t.mets.length c1, .slice a2 t.sers.length c2] 98; simpa using this)
  have B1 : Hid (Below w.heap.size w ((w.alloc (.cells #[.int .i64 c.w, .int .i64 c.tl, .int .i64 c.ml, .int .i64 c.sh, .int .i64 c.ha, .int .i64 c.sg] 24)).alloc (.cells #[.string t.name, .int .i64 t.limit, .slice a1 t.mets.length c1, .slice a2 t.sers.length c2] 98))) := bto (bnew _ _) (bnew _ _)
  generalize (w.alloc (.cells #[.int .i64 c.w, .int .i64 c.tl, .int .i64 c.ml, .int .i64 c.sh, .int .i64 c.ha, .int .i64 c.sg] 24)).alloc (.cells #[.string t.name, .int .i64 t.limit, .slice a1 t.mets.length c1, .slice a2 t.sers.length c2] 98) = W at *
  go_loopw [9, 11, 32] (fun l _ i wr => ∃ k : Nat, k ≤ t.mets.length ∧ i = .int .i64 k ∧ l = .int .i64 (metLim (t.mets.take k) m c.ml) ∧ Below W.heap.size W wr) (fun _ _ i _ => t.mets.length - (intOf i).toNat)
  case atStart => exact ⟨0, Nat.zero_le _, rfl, rfl, Below.refl _ _⟩
  case round =>
    obtain ⟨k, hk, rfl, rfl, hbel⟩ := hrel
    have HB : Hid (Below W.heap.size W wr) := hbel
    clear hbel
    by_cases hlt : k < t.mets.length
    · obtain ⟨pb, po, rfl, hpl, z0, z1⟩ := (P1.out.later (bto B1.out HB.out)).at hlt
      have HT : Hid (metLim (t.mets.take (k + 1)) m c.ml = if t.mets[k].s.toList == m.toList then t.mets[k].n else metLim (t.mets.take k) m c.ml) := metLim_take _ _ _ _ hlt
      generalize t.mets[k] = P at *
      generalize metLim (t.mets.take k) m c.ml = L0 at *
      by_cases he : (P.s.toList == m.toList) = true
      · have HL : Hid (metLim (t.mets.take (k + 1)) m c.ml = P.n) := by show _ = _; rw [HT.out, if_pos he]
        clear HT
        go_wp2
        exact ⟨⟨k + 1, by omega, by go_num, by rw [HL.out], bto HB.out (bnew _ _)⟩, by simp [intOf]; omega⟩
      · have he' : (P.s.toList == m.toList) = false := by simpa using he
        have HL : Hid (metLim (t.mets.take (k + 1)) m c.ml = L0) := by show _ = _; rw [HT.out, if_neg he]
        clear HT he
        go_wp2
        exact ⟨⟨k + 1, by omega, by go_num, by rw [HL.out], bto HB.out (bnew _ _)⟩, by simp [intOf]; omega⟩
    · have ek : t.mets.take k = t.mets := List.take_of_length_le (by omega)
      rw [ek]
      clear ek
      generalize metLim t.mets m c.ml = ML at *
      have T2 : Hid (Blk wr (w.heap.size + 1) #[.string t.name, .int .i64 t.limit, .slice a1 t.mets.length c1, .slice a2 t.sers.length c2] 98) := T1.out.later HB.out
      have B2 : Hid (Below w.heap.size w wr) := bto B1.out HB.out
      have y3 : wr.cell? ⟨w.heap.size + 1, 3, none⟩ = some (.slice a2 t.sers.length c2) := T2.out.cell 3
      clear T1 B1 HB
      generalize hwo : wr = wo at *
      clear hwo
      go_wp2
      clear y3 T2
      go_loopw [12, 14, 46] (fun n _ i wr => ∃ k : Nat, k ≤ t.sers.length ∧ i = .int .i64 k ∧ n = .int .i64 (cntM metK (t.sers.take k) m : Nat) ∧ Below wo.heap.size wo wr) (fun _ _ i _ => t.sers.length - (intOf i).toNat)
      case atStart => exact ⟨0, Nat.zero_le _, rfl, rfl, Below.refl _ _⟩
      case round =>
        obtain ⟨j, hj, rfl, rfl, hbel⟩ := hrel
        have HB : Hid (Below wo.heap.size wo wr) := hbel
        clear hbel
        by_cases hlt2 : j < t.sers.length
        · obtain ⟨pb, po, rfl, hpl, z0, z1⟩ := (P2.out.later (bto B2.out HB.out)).at hlt2
          have HT : Hid (cntM metK (t.sers.take (j + 1)) m = cntM metK (t.sers.take j) m + if (metK t.sers[j].s).toList == m.toList then 1 else 0) := cntM_take _ _ _ hlt2
          have HM : Hid (∀ W, Calls Tryz.prog 65 #[.string t.sers[j].s] W fun e w' => e = .returned (.string (metK t.sers[j].s)) ∧ Below W.heap.size W w') := fun W => specMet_any t.sers[j].s W (HBP.out j hlt2)
          have hcl : cntM metK (t.sers.take j) m ≤ 1000000000 := by have := cntM_le metK (t.sers.take j) m; rw [List.length_take] at this; omega
          generalize t.sers[j] = P at *
          generalize metK P.s = mk at *
          generalize cntM metK (t.sers.take j) m = N0 at *
          go_wp2_with fail
          refine (HM.out _).mono ?_
          rintro e w5 ⟨rfl, hb5⟩
          have HB5 : Hid (Below wo.heap.size wo w5) := bto HB.out (bto (bnew _ _) hb5)
          clear hb5 HM
          by_cases he : (mk.toList == m.toList) = true
          · have HL : Hid (cntM metK (t.sers.take (j + 1)) m = N0 + 1) := by show _ = _; rw [HT.out, if_pos he]
            clear HT
            go_wp2
            exact ⟨⟨j + 1, by omega, by go_num, by rw [HL.out]; go_num, HB5.out⟩, by simp [intOf]; omega⟩
          · have he' : (mk.toList == m.toList) = false := by simpa using he
            have HL : Hid (cntM metK (t.sers.take (j + 1)) m = N0) := by show _ = _; rw [HT.out, if_neg he]; rfl
            clear HT he
            go_wp2
            exact ⟨⟨j + 1, by omega, by go_num, by rw [HL.out], HB5.out⟩, by simp [intOf]; omega⟩
        · have ej : t.sers.take j = t.sers := List.take_of_length_le (by omega)
          rw [ej]
          clear ej
          go_wp2
          go_ret2
          exact ⟨ret_two (by rw [HV.out]) (by rw [HV.out]), bto B2.out HB.out⟩
end Go.Proofs.YtploplddbemelaaGreatDoor

namespace Go.Proofs.YtploplddbemelaaGreatDoor
open Go.RowKit

theorem names_ne {c : CfgD} {now : Int} {ts : List TenD} (h : stateB c now ts = true) : ∀ p ∈ ts, p.name ≠ ⟨#[]⟩ := fun p hp e => by
  have h1 := (ten_parts (tens_at (tens_of h).2.2.2.2 p hp)).1
  rw [e] at h1
  simp only [tnameB, Bool.and_eq_true, decide_eq_true_eq] at h1
  have h2 : (⟨#[]⟩ : ByteArray).size = 0 := rfl
  omega
theorem fitW_of {c : CfgD} {now : Int} {ts : List TenD} (h : stateB c now ts = true) (hb : ts.length + tensBulk ts ≤ 1048576) : ∀ x ∈ ts, FitW x := fun x hx => by
  obtain ⟨_, h0, h1, _, ht⟩ := tens_of h
  obtain ⟨_, _, _, h4, h5⟩ := fitS_of hb x hx
  refine ⟨by omega, by omega, fun i hi => ?_⟩
  have := sers_at (ten_parts (tens_at ht x hx)).2.2.1 _ (List.getElem_mem hi)
  omega
theorem same_all {c : CfgD} {now : Int} {ts : List TenD} (h : stateB c now ts = true) : keptTs c.w now (wAll ⟨⟨#[]⟩, 0, [], []⟩ true ts) = ts := by
  rw [wAll_placed (t := ⟨⟨#[]⟩, 0, [], []⟩) (names_ne h)]
  exact keptTs_same (tens_of h).2.2.2.2

set_option maxRecDepth 100000 in
set_option maxHeartbeats 2000000 in
theorem l4Same_any (c : CfgD) (now : Int) (a : Option Addr) (cap : Nat) (ts : List TenD) (w : World) (hf : TensIn w a ts) (hst : stateB c now ts = true) (hb : ts.length + tensBulk ts ≤ 1048576) :
    Calls Tryz.prog 60 #[cfgV c, .agg #[.int .i64 now, .slice a ts.length cap]] w fun e w' => ∃ a' cap', e = .returned (.agg #[.int .i64 now, .slice a' ts.length cap']) ∧ TensOwn w' w.heap.size a' ts ∧ Below w.heap.size w w' := by
  obtain ⟨_, hn0, hn1, _, _⟩ := tens_of hst
  have HW : Hid (∀ W, Below w.heap.size w W → Calls Tryz.prog 62 #[cfgV c, .agg #[.int .i64 now, .slice a ts.length cap], .int .i64 now, .agg #[.string ⟨#[]⟩, .int .i64 0, .slice none 0 0, .slice none 0 0]] W fun e w' => ∃ a' cap', e = .returned (.agg #[.int .i64 now, .slice a' ts.length cap']) ∧ TensOwn w' W.heap.size a' ts ∧ Below W.heap.size W w') := fun W hW => by
    have := l4With_any c now now a cap ts ⟨⟨#[]⟩, 0, [], []⟩ none none 0 0 W (hf.later hW) (Or.inl rfl) (Or.inl rfl) (by omega) (fun x hx => by
      rcases hx with rfl | hx
      · exact ⟨Nat.zero_le _, Nat.zero_le _, fun i h => absurd h (by simp)⟩
      · exact fitW_of hst hb x hx) hn0 (by omega)
    have e : (⟨⟨#[]⟩, 0, [], []⟩ : TenD).name.toList.isEmpty = true := by kernel_rfl
    rw [e, same_all hst] at this
    exact this
  clear hf hst hb
  unfold cfgV at *
  go_enter Tryz.func60, Tryz.ntmps60
  have B1 : Hid (Below w.heap.size w (((w.alloc (.cells #[.int .i64 c.w, .int .i64 c.tl, .int .i64 c.ml, .int .i64 c.sh, .int .i64 c.ha, .int .i64 c.sg] 24)).alloc (.cells #[.int .i64 now, .slice a ts.length cap] 41)).alloc (.cells #[.int .i64 0, .slice none 0 0] 41))) := bto (bto (bnew _ _) (bnew _ _)) (bnew _ _)
  have R1 : Hid (Blk (((w.alloc (.cells #[.int .i64 c.w, .int .i64 c.tl, .int .i64 c.ml, .int .i64 c.sh, .int .i64 c.ha, .int .i64 c.sg] 24)).alloc (.cells #[.int .i64 now, .slice a ts.length cap] 41)).alloc (.cells #[.int .i64 0, .slice none 0 0] 41)) (w.heap.size + 1 + 1) #[.int .i64 0, .slice none 0 0] 41) := hid (by have := Blk.new ((w.alloc (.cells #[.int .i64 c.w, .int .i64 c.tl, .int .i64 c.ml, .int .i64 c.sh, .int .i64 c.ha, .int .i64 c.sg] 24)).alloc (.cells #[.int .i64 now, .slice a ts.length cap] 41)) #[.int .i64 0, .slice none 0 0] 41; simpa using this)
  go_wp2_with fail
  refine (HW.out _ B1.out).mono ?_
  rintro e w3 ⟨ra, rc, rfl, ho3, hb3⟩
  have HO3 : Hid (TensOwn w3 (w.heap.size + 1 + 1 + 1) ra ts) := hid (by simpa using ho3)
  have R3 : Hid (Blk w3 (w.heap.size + 1 + 1) #[.int .i64 0, .slice none 0 0] 41) := R1.out.later hb3
  have B3 : Hid (Below w.heap.size w w3) := bto B1.out hb3
  have y0 : w3.cell? ⟨w.heap.size + 1 + 1, 0, none⟩ = some (.int .i64 0) := R3.out.cell 0
  have y1 : w3.cell? ⟨w.heap.size + 1 + 1, 1, none⟩ = some (.slice none 0 0) := R3.out.cell 1
  have f0 := R3.out.free 0
  have f1 := R3.out.free 1
  have hwl : w.heap.size + 1 + 1 < w3.heap.size := lt_of_block R3.out
  clear ho3 hb3
  go_wp2
  have HTE : Turn (· = w.heap.size + 1 + 1) w3 ((w3.setCell ⟨w.heap.size + 1 + 1, 0, none⟩ (.int .i64 now)).setCell ⟨w.heap.size + 1 + 1, 1, none⟩ (.slice ra ts.length rc)) := ((Turn.refl (· = w.heap.size + 1 + 1) w3).setCell (Or.inl rfl) 0 _).setCell (Or.inl rfl) 1 _
  have ho : TensOwn ((w3.setCell ⟨w.heap.size + 1 + 1, 0, none⟩ (.int .i64 now)).setCell ⟨w.heap.size + 1 + 1, 1, none⟩ (.slice ra ts.length rc)) w.heap.size ra ts := (TensOwn.turned HO3.out HTE (fun g h1 h2 e => by omega)).mono (by omega)
  have hbe : Below w.heap.size w ((w3.setCell ⟨w.heap.size + 1 + 1, 0, none⟩ (.int .i64 now)).setCell ⟨w.heap.size + 1 + 1, 1, none⟩ (.slice ra ts.length rc)) := ((Turn.of (S := fun i => w.heap.size ≤ i) B3.out).trans' (HTE.mono fun i _ e => by omega)).below (Nat.le_refl _) fun i hi h => by omega
  refine bodyPost_ret (v := .agg #[.int .i64 now, .slice ra ts.length rc]) (by simp [results, Tryz.results60, go_sem, y0, y1]) rfl ?_
  first
    | exact ⟨ra, ⟨rc, rfl⟩, ho, hbe⟩
    | exact ⟨ra, rc, rfl, ho, hbe⟩
end Go.Proofs.YtploplddbemelaaGreatDoor

namespace Go.Proofs.YtploplddbemelaaGreatDoor
open Go.RowKit

/-- A tenant's box at X, its lists outside of the box. -/
def KX (w2 : World) (X : Nat) (K : TenD) (wx : World) : Prop :=
  ∃ q1 e1 q2 e2, Blk wx X #[.string K.name, .int .i64 K.limit, .slice q1 K.mets.length e1, .slice q2 K.sers.length e2] 98 ∧ (∀ W, Turn (· = X) wx W → PairsIn W q1 K.mets ∧ PairsIn W q2 K.sers) ∧ w2.heap.size ≤ X ∧ Below w2.heap.size w2 wx
theorem own_turn {w W : World} {B X : Nat} {q : Option Addr} {ps : List PairD} (h : PairsOwn w B q ps) (ht : Turn (· = X) w W) (hX : X < B ∨ w.heap.size ≤ X) : PairsIn W q ps := by
  rcases h with h | ⟨g, o, cur, t, rfl, hB, hg, h⟩
  · exact Or.inl h
  · have hlt := lt_of_block hg
    have hk := ht.block g hlt (by omega)
    have hc : ∀ j, W.cell? ⟨g, j, none⟩ = w.cell? ⟨g, j, none⟩ := fun j => World.cell?_of_block hk
    exact Or.inr ⟨g, o, rfl, by have := ht.size; omega, fun i hi => by simp only [hc]; exact h i hi⟩
/-- The box made behind the call. -/
theorem kx_new {w2 w4 : World} {K : TenD} {B M : Nat} {q1 q2 : Option Addr} {e1 e2 : Nat} (h1 : PairsOwn w4 B q1 K.mets) (h2 : PairsOwn w4 M q2 K.sers) (hb : Below w2.heap.size w2 w4) :
    KX w2 w4.heap.size K (w4.alloc (.cells #[.string K.name, .int .i64 K.limit, .slice q1 K.mets.length e1, .slice q2 K.sers.length e2] 98)) := by
  refine ⟨q1, e1, q2, e2, Blk.new _ _ _, fun W ht => ?_, hb.size, bto hb (bnew _ _)⟩
  have t2 : Turn (· = w4.heap.size) w4 W := (Turn.of (bnew _ _)).trans' ht
  exact ⟨own_turn h1 t2 (Or.inr (Nat.le_refl _)), own_turn h2 t2 (Or.inr (Nat.le_refl _))⟩
/-- The box made ahead of the call. -/
theorem kx_old {w2 w4 : World} {K : TenD} {B M X : Nat} {q1 q2 : Option Addr} {e1 e2 : Nat} (h1 : PairsOwn w4 B q1 K.mets) (h2 : PairsOwn w4 M q2 K.sers) (hX : X < B) (hM : B ≤ M) (hx : w2.heap.size ≤ X) (hbx : Blk w4 X #[.string ⟨#[]⟩, .int .i64 0, .slice none 0 0, .slice none 0 0] 98) (hb : Below w2.heap.size w2 w4) :
    KX w2 X K ((((w4.setCell ⟨X, 0, none⟩ (.string K.name)).setCell ⟨X, 1, none⟩ (.int .i64 K.limit)).setCell ⟨X, 2, none⟩ (.slice q1 K.mets.length e1)).setCell ⟨X, 3, none⟩ (.slice q2 K.sers.length e2)) := by
  have ht : Turn (· = X) w4 ((((w4.setCell ⟨X, 0, none⟩ (.string K.name)).setCell ⟨X, 1, none⟩ (.int .i64 K.limit)).setCell ⟨X, 2, none⟩ (.slice q1 K.mets.length e1)).setCell ⟨X, 3, none⟩ (.slice q2 K.sers.length e2)) := ((((Turn.refl (· = X) w4).setCell (Or.inl rfl) 0 _).setCell (Or.inl rfl) 1 _).setCell (Or.inl rfl) 2 _).setCell (Or.inl rfl) 3 _
  refine ⟨q1, e1, q2, e2, ?_, fun W h => ⟨own_turn h1 (ht.trans' h) (Or.inl hX), own_turn h2 (ht.trans' h) (Or.inl (by omega))⟩, hx, set4 hb hx⟩
  have := (((hbx.set 0 (.string K.name)).set 1 (.int .i64 K.limit)).set 2 (.slice q1 K.mets.length e1)).set 3 (.slice q2 K.sers.length e2)
  simpa using this
end Go.Proofs.YtploplddbemelaaGreatDoor

