import Derived.Test.YtgpgacncmoiefaaIFrames
namespace Go.Proofs.Ytgpgacncmoiefaa
open Go.RowKit

attribute [local go_sem] Oper.semAt_some

theorem ownsRow_drew {W : World} {n : Nat} {e : TypeId} {z k : Nat} {v : Value} {xs : List Value} (h : W.ownsRow n e z v k xs) : W.drew.ownsRow n e z v k xs := h
theorem hid_of {p : Prop} (h : p) : Hid p := h
/-- Where the last of them ends. -/
def endP (xs : List (ByteArray × Nat)) : Nat := (xs.getLast?.map (·.2)).getD 0
theorem endP_snoc (xs : List (ByteArray × Nat)) (x : ByteArray × Nat) : endP (xs ++ [x]) = x.2 := by simp [endP]
def strP (xs : List (ByteArray × Nat)) : List ByteArray := xs.map (·.1)
theorem scanP_1 (d : ByteArray) : ∀ n p, strP (scanP d n p) = (scanR d n p).1
  | 0, _ => rfl
  | n + 1, p => by
    rw [scanP, scanR]
    split
    · simp only [strP, List.map_cons]
      congr 1
      exact scanP_1 d n _
    · rfl
theorem scanP_2 (d : ByteArray) : ∀ n p, ((scanP d n p).getLast?.map (·.2)).getD p = (scanR d n p).2
  | 0, _ => rfl
  | n + 1, p => by
    rw [scanP, scanR]
    split
    · rw [← scanP_2 d n]
      simp only [List.getLast?_cons]
      cases h : (scanP d n _).getLast? <;> simp
    · rfl
theorem scanP_len (d : ByteArray) : ∀ n p, p ≤ d.size → 9 * (scanP d n p).length ≤ d.size - p
  | 0, _, _ => by simp [scanP]
  | n + 1, p, hp => by
    rw [scanP]
    split
    · rename_i hF
      obtain ⟨h1, h2, h3⟩ := frame_len hF
      rw [extract_all d p hp] at h3
      have := scanP_len d n (p + 8 + ((d.extract p d.size).extract 8 (8 + headN (d.extract p d.size))).size) (by omega)
      simp only [List.length_cons]
      omega
    · simp

theorem KeepTab.below {D : Nat} {A B : World} (h : Below A.heap.size A B) : KeepTab D A B := fun b _ ho _ => (h.block b (Array.getElem?_eq_some_iff.1 ho).1).trans ho
theorem KeepTab.put {D : Nat} {w : World} (hDw : D < w.heap.size) (W : World) (l : Nat) (o o' : Obj) (hl : w.heap.size ≤ l) (h : W.heap[l]? = some o) (hc : o.isCells = false) (_ : o.isWalk = false) : KeepTab D W (W.putObj l o') := by
  intro b x hx hb
  have hne : b ≠ l := by
    rcases hb with rfl | ⟨cur, rfl⟩
    · omega
    · rintro rfl
      rw [hx] at h
      cases h
      cases hc
  exact ((grownBy_putObj' W l o').block b (Array.getElem?_eq_some_iff.1 hx).1 (by simpa using hne)).trans hx

theorem ownsRow_base {W : World} {n m : Nat} {e : TypeId} {z k : Nat} {v : Value} {xs : List Value} (h : W.ownsRow n e z v k xs) (hm : m ≤ n) : W.ownsRow m e z v k xs := by
  refine ⟨h.1, ?_⟩
  rcases h.2 with h' | ⟨g, cap, cur, h1, h2, h3⟩
  · exact Or.inl h'
  · exact Or.inr ⟨g, cap, cur, h1, Nat.le_trans hm h2, h3⟩
theorem KeepTab.grown {D n : Nat} {e : TypeId} {W W' : World} {v : Value} {k : Nat} {xs : List Value} (hrow : W.ownsRow n e 1 v k xs) (hg : W.grownBy W' v.ownBlock) (hD : D < n) (he : e ≠ 98) : KeepTab D W W' := by
  intro b o ho hb
  refine (hg.block b (Array.getElem?_eq_some_iff.1 ho).1 fun e' => ?_).trans ho
  rcases hrow.2 with ⟨rfl, _⟩ | ⟨g, cap, cur, rfl, h1, h2, _⟩
  · simp [Value.ownBlock] at e'
  · obtain rfl : b = g := by simpa [Value.ownBlock] using e'
    rcases hb with rfl | ⟨cur', rfl⟩
    · omega
    · rw [h2] at ho
      simp at ho
      exact he ho.2
theorem KeepTab.setBox {D B : Nat} {t : TypeId} {W : World} {v : Value} (hv : Boxed W B t v) (hD : D ≠ B) (ht : t ≠ 98) (v' : Value) : KeepTab D W (W.setCell ⟨B, 0, none⟩ v') := by
  intro b o ho hb
  refine (Below.heap_setCell _ _ _ b (fun e' => ?_)).trans ho
  have e2 : b = B := e'
  subst e2
  rcases hb with rfl | ⟨cur', rfl⟩
  · exact hD rfl
  · rw [show W.heap[b]? = _ from hv] at ho
    simp at ho
    exact ht ho.2
theorem boxOther {W : World} {B C : Nat} {t : TypeId} {v : Value} (h : Boxed W B t v) (hne : B ≠ C) (v' : Value) : Boxed (W.setCell ⟨C, 0, none⟩ v') B t v := (Below.heap_setCell _ _ _ B (fun e => hne e)).trans h
theorem boxed_from {β : Type} (N B : Nat) (t : TypeId) (f : β → Value) : OwnFrom N (fun s W => Boxed W B t (f s)) := fun s A C row hs hg hr => hs.kept hg (fun e => by
  obtain ⟨_, o, ho, hc⟩ := hr B e.symm
  rw [show A.heap[B]? = _ from hs] at ho
  cases ho
  cases hc)

theorem frames_inF (F : Fence) (n : Nat) (HF : Hid (F = Fence.wide)) (d : ByteArray) (w : World) :
    CallsIn F n Try.prog 39 #[.string d] w fun e w' => e = .returned (.func (.func 68) #[] #[.pointer (some ⟨w.heap.size, 0, none⟩)]) ∧ w' = w.alloc (.cells #[.string d] 9) := by
  have e := HF.out
  subst e
  exact frames_in n d w
theorem frames_stopsF (F : Fence) (n : Nat) (HF : Hid (F = Fence.wide)) (D : Nat) (hn : 1 ≤ n) (d : ByteArray) (hd : d.size ≤ 1000000000) (w : World) (hD : Blk w D #[.string d] 9) :
    SeqStopsK F n Try.prog 68 #[.pointer (some ⟨D, 0, none⟩)] encP (KeepTab D) (fun ys => ys = scanP d (d.size + 1) 0) (fun _ => True) (scanP d (d.size + 1) 0).length w := by
  have e := HF.out
  subst e
  exact frames_stops n D hn d hd w hD

set_option maxRecDepth 100000 in
set_option maxHeartbeats 2000000 in
theorem implScan_in (F : Fence) (n : Nat) (HF : Hid (F = Fence.wide)) (h11 : F.fn 14) (h22 : F.fn 39) (h25 : F.fn 68) (hro : F.round = none) (hn : 3 ≤ n) (d : ByteArray) (w : World) (hs : d.size ≤ 1000000000) :
    CallsIn F n Try.prog 14 #[.string d] w fun e w' => ∃ a cap, e = .returned (.tuple #[.slice a (scanV d).1.length cap, .int .i64 ((scanV d).2 : Nat)]) ∧ StrsOwn w' w.heap.size a (scanV d).1 ∧ Below w.heap.size w w' := by
  obtain ⟨i0, hi, hz0, hz1, hz2⟩ := info_str
  have HI : Hid (Try.prog.info? 9 = some i0) := hi
  clear hi
  have hlen := scanP_len d (d.size + 1) 0 (Nat.zero_le _)
  have h1 : 1 ≤ n := by omega
  refine callsIn_of_wp_marks Try.func14 rfl h11 ?_ hro
  simp only [Try.ntmps14, List.size_toArray, List.length_cons, List.length_nil, Nat.reduceAdd, Nat.reduceSub, Array.replicate_succ, Array.replicate_zero, List.push_toArray, List.append_toArray, List.nil_append, List.cons_append]
  gi_wp2_with (gi_at_call 39; refine (frames_inF F (n - 1) HF d _).mono ?_; rintro e w' ⟨rfl, rfl⟩)
  have bO : Boxed (((w.alloc (.cells #[.slice none 0 0] 25)).alloc (.cells #[.int .i64 0] 3)).alloc (.cells #[.string d] 9)) w.heap.size 25 (.slice none 0 0) := ((Boxed.new w _ _).alloc _).alloc _
  have bS : Boxed (((w.alloc (.cells #[.slice none 0 0] 25)).alloc (.cells #[.int .i64 0] 3)).alloc (.cells #[.string d] 9)) (w.heap.size + 1) 3 (.int .i64 0) := by
    have h := (Boxed.new (w.alloc (.cells #[.slice none 0 0] 25)) 3 (.int .i64 0)).alloc (.cells #[.string d] 9)
    rwa [World.size_alloc] at h
  have bD : Blk (((w.alloc (.cells #[.slice none 0 0] 25)).alloc (.cells #[.int .i64 0] 3)).alloc (.cells #[.string d] 9)) (w.heap.size + 1 + 1) #[.string d] 9 := by
    have h := Boxed.new ((w.alloc (.cells #[.slice none 0 0] 25)).alloc (.cells #[.int .i64 0] 3)) 9 (.string d)
    rwa [World.size_alloc, World.size_alloc] at h
  have hB0 : Below w.heap.size w (((w.alloc (.cells #[.slice none 0 0] 25)).alloc (.cells #[.int .i64 0] 3)).alloc (.cells #[.string d] 9)) := (((Below.refl _ w).alloc (Nat.le_refl _) _).alloc (by simp) _).alloc (by simp; omega) _
  have hsz : (((w.alloc (.cells #[.slice none 0 0] 25)).alloc (.cells #[.int .i64 0] 3)).alloc (.cells #[.string d] 9)).heap.size = w.heap.size + 3 := by simp
  generalize (((w.alloc (.cells #[.slice none 0 0] 25)).alloc (.cells #[.int .i64 0] 3)).alloc (.cells #[.string d] 9)) = W0 at *
  refine wpIn_rangeFunc_ownF hro h1 (gf := 68) (lb := #[.pointer (some ⟨w.heap.size + 1 + 1, 0, none⟩)]) rfl h25 (enters_of Try.func68 (by kernel_rfl) rfl)
    (frames_stopsF F (n - 1) HF (w.heap.size + 1 + 1) (by omega) d hs W0 bD) KeepTab.trans (KeepTab.put (by omega)) (Below.refl _ _) (fun _ => rfl)
    (fun pre W => (∃ v, Boxed W w.heap.size 25 v ∧ W.ownsRow (w.heap.size + 3) 9 1 v pre.length ((strP pre).map Value.string) ∧ True) ∧ Boxed W (w.heap.size + 1) 3 (.int .i64 (endP pre : Nat)) ∧ Below w.heap.size w W ∧ w.heap.size + 3 ≤ W.heap.size)
    (fun _ _ _ => False)
    (OwnFrom.and (Own.from (holdsRow_own (w.heap.size + 3) w.heap.size 25 9 1 (fun pre => pre.length) (fun pre => (strP pre).map Value.string) (fun _ _ => True)) _) (OwnFrom.and (boxed_from _ _ _ _) (OwnFrom.and (ownFrom_below (Nat.le_refl _) (by omega)) (fun _ _ _ _ hs hg _ => Nat.le_trans hs hg.size))))
    (fun _ _ _ _ _ hs _ _ => hs)
    ⟨⟨_, bO, World.ownsRow_nil _ _ _ _, trivial⟩, bS, hB0, Nat.le_of_eq hsz.symm⟩
    (fun x => { tmps := #[.string d, undef, .slice none 0 0, .int .i64 0, .pointer (some ⟨w.heap.size, 0, none⟩), .pointer (some ⟨w.heap.size + 1, 0, none⟩), .string x.1, .int .i64 (x.2 : Nat), .string d, .func (.func 68) #[] #[.pointer (some ⟨w.heap.size + 1 + 1, 0, none⟩)], .string x.1, .int .i64 (x.2 : Nat), undef, undef, undef, undef, undef, undef, undef], defers := [] }) ?assign ?body ?done ?stop
  case assign =>
    intro l x W K hK
    simp only [encP]
    gi_wp2
    exact hK
  case body =>
    rintro l pre x W ⟨⟨v, hv, hrow, _⟩, hv2, hB, hWs⟩ hlt
    have hc := hv.cell
    have hM : pre.length < 1000000000 := by omega
    clear hlt hlen bO bS bD hB0 hsz HF h25 h22 h11
    have HV2 : Hid (Boxed W (w.heap.size + 1) 3 (.int .i64 (endP pre : Nat))) := hv2
    clear hv2
    gi_wp2_with (gi_at_builtin; refine wpListIn_append_own _ rfl _ _ 25 rfl (w.heap.size + 3) 9 i0 (.string ByteArray.empty) 1 16 Try.underlying25 HI.out hz0 hz1 hz2 rfl (by decide) _ _ _ rfl (hrow.alloc _) ⟨W.heap.size, 0, none⟩ 1 1 [.string x.1] rfl rfl (cell_one_new _ _ _) (by simp [Value.oneCell']) (by unfold maxLen; omega) (by omega) (by simp; omega) ?_; intro v' w1 hown' hgrow _; obtain ⟨g', cap', rfl⟩ := ownsRow_succ hown'; refine Hid.out ?_)
    have HAP := hv.appended (by decide) (ownsRow_base hrow (Nat.le_add_right w.heap.size 3)) hB.size (Nat.le_refl _) (ownsRow_base hown' (Nat.le_add_right w.heap.size 3)) hgrow
    have hW1 : Boxed w1 (w.heap.size + 1) 3 (.int .i64 (endP pre : Nat)) := (HV2.out.alloc _).kept hgrow (HV2.out.not_row (by decide) hrow)
    obtain ⟨hp1, hp2, hp3, hp4, hp5⟩ := HAP
    have hq2 := boxOther hW1 (by omega : w.heap.size + 1 ≠ w.heap.size) (.slice (some ⟨g', 0, none⟩) (pre.length + 1) cap')
    have hc1 := hp1.cell
    have hf1 := hp1.frozen
    have hc2 := hq2.cell
    have hf2 := hq2.frozen
    have HALL : Hid (KeepsOthers W (w1.setCell ⟨w.heap.size, 0, none⟩ (.slice (some ⟨g', 0, none⟩) (pre.length + 1) cap')) ∧ Below w.heap.size W (w1.setCell ⟨w.heap.size, 0, none⟩ (.slice (some ⟨g', 0, none⟩) (pre.length + 1) cap'))) := ⟨hp4, hp5⟩
    clear hp4 hp5
    refine hid_of ?_
    gi_wp2
    have hr1 := hown'.kept (grownBy_setCell' w1 w.heap.size (.slice (some ⟨g', 0, none⟩) (pre.length + 1) cap')) (.inr (hp1.not_row (by decide) hown').symm)
    have hr2 := hr1.kept (grownBy_setCell' _ (w.heap.size + 1) (.int .i64 (x.2 : Nat))) (.inr (Boxed.not_row hq2 (by decide) hr1).symm)
    have hk1 : KeepTab (w.heap.size + 1 + 1) W (W.alloc (.cells #[.string x.1] 9)) := KeepTab.below (bnew W _)
    have hk2 := hk1.trans (KeepTab.grown (hrow.alloc _) hgrow (by omega) (by decide))
    have hk3 := hk2.trans (KeepTab.setBox hp1 (by omega) (by decide) (.slice (some ⟨g', 0, none⟩) (pre.length + 1) cap'))
    have hk4 := hk3.trans (KeepTab.setBox hq2 (by omega) (by decide) (.int .i64 (x.2 : Nat)))
    have hb2 := HALL.out.2.setCell (p := ⟨w.heap.size + 1, 0, none⟩) (Nat.le_succ _) (.int .i64 (x.2 : Nat))
    refine ⟨HALL.out.1.trans (KeepsOthers.setCell _ _ _), hk4, ⟨_, boxOther hp2 (by omega) _, ?_, trivial⟩, ?_, hB.trans hb2, ?_⟩
    · have e1 : (strP (pre ++ [x])).map Value.string = (strP pre).map Value.string ++ [Value.string x.1] := by simp [strP]
      have e2 : (pre ++ [x]).length = pre.length + 1 := by simp
      rw [e1, e2]
      exact hr2
    · rw [endP_snoc]
      exact Boxed.set _ hq2
    · exact Nat.le_trans hWs hb2.size
  case done =>
    rintro D ys W hD rfl ⟨⟨v, hv, hrow, _⟩, hv2, hB, _⟩ hK
    have e1 : strP (scanP d (d.size + 1) 0) = (scanV d).1 := scanP_1 d _ 0
    have e2 : endP (scanP d (d.size + 1) 0) = (scanV d).2 := scanP_2 d _ 0
    have e3 : (scanP d (d.size + 1) 0).length = (scanV d).1.length := by rw [← e1]; simp [strP]
    rw [e1, e3] at hrow
    rw [e2] at hv2
    clear hlen e1 e2 e3 bO bS bD hB0 HF h25 h22 h11
    obtain ⟨L, HL⟩ : ∃ L, Hid ((scanV d).1 = L) := ⟨_, rfl⟩
    obtain ⟨z, HZ⟩ : ∃ z, Hid ((scanV d).2 = z) := ⟨_, rfl⟩
    rw [HL.out] at hrow
    rw [HZ.out] at hv2
    obtain ⟨a, cap, rfl⟩ : ∃ a cap, v = .slice a L.length cap := by
      rcases hrow.2 with ⟨rfl, h0⟩ | ⟨g, cap, cur, rfl, _⟩
      · exact ⟨none, 0, by rw [h0]⟩
      · exact ⟨_, _, rfl⟩
    have HO : Hid (W.ownsRow w.heap.size 9 1 (.slice a L.length cap) L.length (L.map Value.string)) := ownsRow_base hrow (Nat.le_add_right _ _)
    have hc := hv.cell
    have hc2 := hv2.cell
    clear hrow hv hv2
    gi_wp2
    gi_region
    all_goals gi_wp2
    all_goals refine ⟨by simp, .inl ⟨_, _, rfl, run_takeDeferred (show W.drew.heap[D]? = _ from hK), ?_⟩⟩
    all_goals refine ⟨.tuple #[.slice a L.length cap, .int .i64 (z : Nat)], by simp [results, Try.results14, go_sem], a, cap, by rw [HL.out, HZ.out], ?_, ?_⟩
    all_goals first
      | rw [HL.out]; exact strs_of_row (ownsRow_putObj (ownsRow_drew HO.out) _ (show W.drew.heap[D]? = _ from hK) rfl)
      | exact (hB.drew).trans (belowK_b (w := w) (Nat.le_refl _) W.drew D _ _ (by omega) (show W.drew.heap[D]? = _ from hK) rfl rfl)
  case stop =>
    rintro D c pre W _ _ h _
    exact h.elim

theorem implScan_any (d : ByteArray) (w : World) (hs : d.size ≤ 1000000000) :
    Calls Try.prog 14 #[.string d] w fun e w' => ∃ a cap, e = .returned (.tuple #[.slice a (scanV d).1.length cap, .int .i64 ((scanV d).2 : Nat)]) ∧ StrsOwn w' w.heap.size a (scanV d).1 ∧ Below w.heap.size w w' :=
  (callsIn_wide (n := 5)).1 (implScan_in Fence.wide 5 rfl trivial trivial trivial rfl (by omega) d w hs)
end Go.Proofs.Ytgpgacncmoiefaa
