import Derived.Test.YtgnppdghjlnlhaaGreatDoorJ04Clone
import Derived.Test.YtgnppdghjlnlhaaGreatDoorJ26AppE
import Derived.Deep.AppendLies
import Derived.Test.YtgnppdghjlnlhaaGreatDoorProg
import Derived.Maps.AppendAt
import Derived.Lib.LazyBuf
import Derived.Test.YtgnppdghjlnlhaaGreatDoorJ05Cells
import Derived.Deep.RegionLaw
import Derived.Deep.DeepCutAuto
namespace Go.Proofs.YtgnppdghjlnlhaaGreatDoor
open Go.RowKit
theorem row_fromA {w : World} {B : Nat} {e : TypeId} {size : Nat} {v : Value} {n : Nat} {xs : List Value} (h : w.ownsRow B e size v n xs) : ∀ g, v.ownBlock = some g → B ≤ g := by
  intro g hg
  rcases h.2 with ⟨rfl, _⟩ | ⟨g', cap, cur, rfl, hB, _⟩
  · simp [Value.ownBlock] at hg
  · simp [Value.ownBlock] at hg
    subst hg
    exact hB
def SrcAt (w : World) (ad : Option Addr) (m : Nat) (news : List Value) : Prop := m = 0 ∨ ∃ A, ad = some A ∧ ∀ j u, news[j]? = some u → w.cell? (A.add j) = some u
theorem addr_add (b o j : Nat) : (⟨b, o, none⟩ : Addr).add j = ⟨b, o + j, none⟩ := by unfold Addr.add; split <;> simp_all
theorem bel_a (W : World) (x : Obj) : Below W.heap.size W (W.alloc x).drew := (bnew _ _).drew
theorem bel_b (W : World) (x y : Obj) : Below W.heap.size W ((W.alloc x).alloc y).drew := (bto (bnew _ _) (bnew _ _)).drew
theorem step_append_any {P : Program} (w : World) {ops : Array Oper} {o : Oper} {a : Act} {K : Act → World → Prop} {Q : Exit → Act → World → Prop} {E : Prop} (hgd : o.guard = none) (s x : Operand) (t : TypeId)
    (ho : o.op = .call { callee := .builtin .append, args := #[s, x], argTypes := #[t, t] })
    (base : Nat) (e : TypeId) (i : TypeInfo) (z : Value) (size bytes : Nat) (ht : P.underlying t = some (.slice e)) (hi : P.info? e = some i) (hz : i.zero = some z)
    (hsize : i.size = size) (hby : i.bytes = bytes) (hzs : z.cells.size = size) (hsz : 0 < size)
    (g0 n c0 : Nat) (xs : List Value) (hs : a.eval s = .slice (some ⟨g0, 0, none⟩) n c0) (hown : w.ownsRow base e size (.slice (some ⟨g0, 0, none⟩) n c0) n xs)
    (ad : Option Addr) (m c : Nat) (news : List Value) (hx : a.eval x = .slice ad m c) (hl : news.length = m * size) (hsrc : SrcAt w ad m news) (h1 : ∀ u ∈ news, u.oneCell' = true)
    (h63 : n + m ≤ maxLen) (hbytes : (n + m) * bytes ≤ 140737488355328) (hbase : base ≤ w.heap.size)
    (h : ∀ g cap w', w'.ownsRow base e size (.slice (some ⟨g, 0, none⟩) (n + m) cap) (n + m) (xs ++ news) → Below base w w' → (∀ k, k < w.heap.size → k ≠ g0 → w'.heap[k]? = w.heap[k]?) → base ≤ g → (g = g0 ∨ g = w.heap.size) → g < w'.heap.size → K (a.put o.dst (.slice (some ⟨g, 0, none⟩) (n + m) cap)) w') :
    if Region.wanted o (yielded ops a.tmps) = true then Oper.wp P o a w K Q else E := by
  have hg0 : base ≤ g0 := row_fromA hown g0 rfl
  rcases Nat.eq_zero_or_pos m with rfl | hm
  · have hw : Region.wanted o (yielded ops a.tmps) = true := by simp [Region.wanted, hgd]
    rw [if_pos hw]
    have hnil : news = [] := List.length_eq_zero_iff.1 (by omega)
    subst hnil
    have hrun := run_append_empty (P := P) (w := w) base t o.type e i size ht hi _ n xs hown ad c
    have hK := h g0 c0 w (by rw [List.append_nil]; exact hown) (Below.refl _ _) (fun _ _ _ => rfl) hg0 (Or.inl rfl) (by
      rcases hown.2 with ⟨he, _⟩ | ⟨g', cap', cur, he, _, hb, _⟩
      · simp at he
      · simp only [Value.slice.injEq, Option.some.injEq, Addr.mk.injEq, and_true] at he
        rw [he.1]; exact lt_of_block hb)
    unfold Oper.wp execOp
    simp only [ho, resolve, invoke, builtin, Sem.run_bind, Sem.run_pure, Result.andThen_ok, List.map_toArray, List.map_cons, List.map_nil, hs, hx, hrun]
    exact hK
  · rcases hsrc with h0 | ⟨A, rfl, hnews⟩
    · omega
    refine step_append_lies w hgd s x t ho base e i z size bytes ht hi hz hsize hby hzs hsz _ n xs hs hown A m c news hx hl hnews h1 hm h63 hbytes hbase w.heap.size rfl fun g cap w' h2 h3 h4 h5 => ?_
    have hg : g = g0 ∨ g = w.heap.size := by
      rcases h4 with h4 | h4
      · left; simpa [Value.ownBlock] using h4.symm
      · exact Or.inr h4
    refine h g cap w' h2 ((Below.refl base w).grown h3 hbase (fun q hq => row_fromA hown q hq)) (fun k hk hne => h3.block k hk (by simp [Value.ownBlock]; omega)) ?_ hg h5
    rcases hg with rfl | rfl
    · exact hg0
    · exact hbase
end Go.Proofs.YtgnppdghjlnlhaaGreatDoor
namespace Go.Proofs.YtgnppdghjlnlhaaGreatDoor
open Go.RowKit
theorem info_mlC : (Tryz.prog.info? 99).map (fun i => (i.zero, i.size, i.bytes)) = some (some (.agg #[.string ⟨#[]⟩, .int .i64 0]), 2, 24) := by kernel_rfl
theorem info_srC : (Tryz.prog.info? 101).map (fun i => (i.zero, i.size, i.bytes)) = some (some (.agg #[.string ⟨#[]⟩, .int .i64 0]), 2, 24) := by kernel_rfl
set_option maxRecDepth 100000 in
set_option maxHeartbeats 1000000 in
theorem cloneM_any (a : Option Addr) (cap : Nat) (ps : List PairD) (w : World) (hf : PairsIn w a ps) (hlen : ps.length ≤ 2000000) :
    Calls Tryz.prog 85 #[.slice a ps.length cap] w fun e w' => ∃ v, e = .returned v ∧ w'.ownsRow w.heap.size 99 2 v ps.length (flatK ps) ∧ Below w.heap.size w w' := by
  have heq := fun w' => Lib.run_eql_slice_nil (P := Tryz.prog) w' 91 99 a ps.length cap 0 0 Tryz.underlying91
  cases a with
  | none =>
    have h0 : ps = [] := by
      rcases hf with h | ⟨b, o, e, _⟩
      · exact h
      · exact absurd e (by simp)
    subst h0
    have heq2 := fun w' => Lib.run_eql_slice_nil (P := Tryz.prog) w' 91 99 none 0 cap 0 0 Tryz.underlying91
    clear heq
    go_enter Tryz.func85, Tryz.ntmps85
    go_wp2
    go_ret
    exact ⟨_, rfl, ⟨rfl, Or.inl ⟨rfl, rfl⟩⟩, Below.refl _ _⟩
  | some ad =>
    obtain ⟨i, hi, hz0, hz1, hz2⟩ := info_parts info_mlC
    have hown : (w.alloc (.cells #[] 99)).ownsRow w.heap.size 99 2 (.slice (some ⟨w.heap.size, 0, none⟩) 0 0) 0 [] := World.ownsRow_made w #[] 0 (Nat.le_refl _) (by simp [maxLen]) (by simp)
    have HO := hid hown
    have hnews : ∀ j u, (flatK ps)[j]? = some u → (w.alloc (.cells #[] 99)).cell? (ad.add j) = some u := by
      rcases hf.later (bnew w (.cells #[] 99)) with rfl | ⟨b, o, e, _, h⟩
      · intro j u h; simp [flatK] at h
      · simp only [Option.some.injEq] at e
        subst e
        exact pairs_news h
    have HN : Hid (∀ j u, (flatK ps)[j]? = some u → (w.alloc (.cells #[] 99)).cell? (ad.add j) = some u) := hnews
    have HI : Hid (Tryz.prog.info? 99 = some i) := hi
    clear hf hown hnews hi
    go_enter Tryz.func85, Tryz.ntmps85
    go_wp2_with (at_builtin; refine wpList_append_own_at _ rfl _ _ _ rfl w.heap.size 99 i _ 2 24 Tryz.underlying91 HI.out hz0 hz1 hz2 rfl (by omega) (.slice (some ⟨w.heap.size, 0, none⟩) 0 0) 0 [] rfl HO.out ad ps.length cap (flatK ps) rfl (flatK_length ps) HN.out (flatK_cell ps) (by simp [maxLen]; omega) (by omega) (by simp) ?_; intro v1 w1 hown1 hgrow _ _)
    go_ret
    simp only [Nat.zero_add, List.nil_append] at hown1
    refine ⟨v1, rfl, hown1, (bnew _ _).grown hgrow (by simp) (fun k hk => ?_)⟩
    simp [Value.ownBlock] at hk
    omega
set_option maxRecDepth 100000 in
set_option maxHeartbeats 1000000 in
theorem cloneX_any (a : Option Addr) (cap : Nat) (ps : List PairD) (w : World) (hf : PairsIn w a ps) (hlen : ps.length ≤ 2000000) :
    Calls Tryz.prog 86 #[.slice a ps.length cap] w fun e w' => ∃ v, e = .returned v ∧ w'.ownsRow w.heap.size 101 2 v ps.length (flatK ps) ∧ Below w.heap.size w w' := by
  have heq := fun w' => Lib.run_eql_slice_nil (P := Tryz.prog) w' 92 101 a ps.length cap 0 0 Tryz.underlying92
  cases a with
  | none =>
    have h0 : ps = [] := by
      rcases hf with h | ⟨b, o, e, _⟩
      · exact h
      · exact absurd e (by simp)
    subst h0
    have heq2 := fun w' => Lib.run_eql_slice_nil (P := Tryz.prog) w' 92 101 none 0 cap 0 0 Tryz.underlying92
    clear heq
    go_enter Tryz.func86, Tryz.ntmps86
    go_wp2
    go_ret
    exact ⟨_, rfl, ⟨rfl, Or.inl ⟨rfl, rfl⟩⟩, Below.refl _ _⟩
  | some ad =>
    obtain ⟨i, hi, hz0, hz1, hz2⟩ := info_parts info_srC
    have hown : (w.alloc (.cells #[] 101)).ownsRow w.heap.size 101 2 (.slice (some ⟨w.heap.size, 0, none⟩) 0 0) 0 [] := World.ownsRow_made w #[] 0 (Nat.le_refl _) (by simp [maxLen]) (by simp)
    have HO := hid hown
    have hnews : ∀ j u, (flatK ps)[j]? = some u → (w.alloc (.cells #[] 101)).cell? (ad.add j) = some u := by
      rcases hf.later (bnew w (.cells #[] 101)) with rfl | ⟨b, o, e, _, h⟩
      · intro j u h; simp [flatK] at h
      · simp only [Option.some.injEq] at e
        subst e
        exact pairs_news h
    have HN : Hid (∀ j u, (flatK ps)[j]? = some u → (w.alloc (.cells #[] 101)).cell? (ad.add j) = some u) := hnews
    have HI : Hid (Tryz.prog.info? 101 = some i) := hi
    clear hf hown hnews hi
    go_enter Tryz.func86, Tryz.ntmps86
    go_wp2_with (at_builtin; refine wpList_append_own_at _ rfl _ _ _ rfl w.heap.size 101 i _ 2 24 Tryz.underlying92 HI.out hz0 hz1 hz2 rfl (by omega) (.slice (some ⟨w.heap.size, 0, none⟩) 0 0) 0 [] rfl HO.out ad ps.length cap (flatK ps) rfl (flatK_length ps) HN.out (flatK_cell ps) (by simp [maxLen]; omega) (by omega) (by simp) ?_; intro v1 w1 hown1 hgrow _ _)
    go_ret
    simp only [Nat.zero_add, List.nil_append] at hown1
    refine ⟨v1, rfl, hown1, (bnew _ _).grown hgrow (by simp) (fun k hk => ?_)⟩
    simp [Value.ownBlock] at hk
    omega
end Go.Proofs.YtgnppdghjlnlhaaGreatDoor
namespace Go.Proofs.YtgnppdghjlnlhaaGreatDoor
open Go.RowKit
theorem info_tnC : (Tryz.prog.info? 94).map (fun i => (i.zero, i.size, i.bytes)) = some (some (.agg #[.string ⟨#[]⟩, .int .i64 0, .slice none 0 0, .slice none 0 0]), 4, 72) := by kernel_rfl
theorem flatV_length (ys : List TV) : (flatV ys).length = ys.length * 4 := by
  induction ys with
  | nil => rfl
  | cons x r ih => simp only [flatV, List.flatMap_cons, List.length_append, List.length_cons, List.length_nil] at ih ⊢; omega
theorem flatV_cell (ys : List TV) : ∀ u ∈ flatV ys, u.oneCell' = true := by
  intro u hu
  simp only [flatV, List.mem_flatMap] at hu
  obtain ⟨x, _, hu⟩ := hu
  simp only [List.mem_cons, List.mem_nil_iff, or_false] at hu
  rcases hu with rfl | rfl | rfl | rfl <;> rfl
theorem tens_rows {w : World} {b : Nat} : ∀ (ts : List TenD) (o : Nat), (∀ i (h : i < ts.length), TenAt w b (o + i * 4) ts[i]) → ∃ ys : List TV, ys.map (·.t) = ts ∧ OldY w ys ∧ ∀ j u, (flatV ys)[j]? = some u → w.cell? ⟨b, o + j, none⟩ = some u
  | [], _, _ => ⟨[], rfl, fun y hy => (by cases hy), fun j u h => (by simp [flatV] at h)⟩
  | t :: r, o, h => by
    obtain ⟨ys, h1, h2, h3⟩ := tens_rows r (o + 4) (fun i hi => by
      have := h (i + 1) (by simpa using hi)
      rw [show o + (i + 1) * 4 = o + 4 + i * 4 by omega] at this
      simpa using this)
    obtain ⟨a1, c1, a2, c2, k0, k1, k2, k3, p1, p2⟩ := h 0 (by simp)
    simp only [Nat.zero_mul, Nat.add_zero, List.getElem_cons_zero] at k0 k1 k2 k3 p1 p2
    refine ⟨⟨t, a1, c1, a2, c2⟩ :: ys, by rw [List.map_cons, h1], fun y hy => ?_, fun j u hu => ?_⟩
    · rcases List.mem_cons.1 hy with rfl | hy
      · exact ⟨p1, p2⟩
      · exact h2 y hy
    · have e : flatV (⟨t, a1, c1, a2, c2⟩ :: ys) = [.string t.name, .int .i64 t.limit, .slice a1 t.mets.length c1, .slice a2 t.sers.length c2] ++ flatV ys := by simp [flatV]
      rw [e] at hu
      match j, hu with
      | 0, hu => simp at hu; rw [← hu]; exact k0
      | 1, hu => simp at hu; rw [← hu]; exact k1
      | 2, hu => simp at hu; rw [← hu]; exact k2
      | 3, hu => simp at hu; rw [← hu]; exact k3
      | j + 4, hu =>
        have hu' : (flatV ys)[j]? = some u := by simpa using hu
        have := h3 j u hu'
        rw [show o + (j + 4) = o + 4 + j by omega]
        exact this
set_option maxRecDepth 100000 in
set_option maxHeartbeats 1000000 in
theorem cloneT_any (a : Option Addr) (cap : Nat) (ts : List TenD) (wo w : World) (hf : TensIn wo a ts) (hbo : Below wo.heap.size wo w) (hlen : ts.length ≤ 2000000) :
    Calls Tryz.prog 84 #[.slice a ts.length cap] w fun e w' => ∃ v ys, e = .returned v ∧ w'.ownsRow w.heap.size 94 4 v ts.length (flatV ys) ∧ ys.map (·.t) = ts ∧ OldY wo ys ∧ Below w.heap.size w w' := by
  have heq := fun w' => Lib.run_eql_slice_nil (P := Tryz.prog) w' 39 94 a ts.length cap 0 0 Tryz.underlying39
  cases a with
  | none =>
    have h0 : ts = [] := by
      rcases hf with h | ⟨b, o, e, _⟩
      · exact h
      · exact absurd e (by simp)
    subst h0
    have heq2 := fun w' => Lib.run_eql_slice_nil (P := Tryz.prog) w' 39 94 none 0 cap 0 0 Tryz.underlying39
    clear heq
    go_enter Tryz.func84, Tryz.ntmps84
    go_wp2
    go_ret
    exact ⟨_, [], rfl, ⟨rfl, Or.inl ⟨rfl, rfl⟩⟩, rfl, fun y hy => (by cases hy), Below.refl _ _⟩
  | some ad =>
    obtain ⟨i, hi, hz0, hz1, hz2⟩ := info_parts info_tnC
    obtain ⟨ys, hys, hold, hnews0⟩ : ∃ ys : List TV, ys.map (·.t) = ts ∧ OldY wo ys ∧ ∀ j u, (flatV ys)[j]? = some u → (w.alloc (.cells #[] 94)).cell? (ad.add j) = some u := by
      rcases hf with rfl | ⟨b, o, e, hb, h⟩
      · exact ⟨[], rfl, fun y hy => (by cases hy), fun j u h => by simp [flatV] at h⟩
      · simp only [Option.some.injEq] at e
        subst e
        obtain ⟨ys, k1, k2, k3⟩ := tens_rows ts o h
        refine ⟨ys, k1, k2, fun j u hu => ?_⟩
        rw [addr_add]
        exact ((bnew w _).cell (Nat.lt_of_lt_of_le hb hbo.size)).trans ((hbo.cell hb).trans (k3 j u hu))
    have hyl : ys.length = ts.length := by rw [← hys, List.length_map]
    have hown : (w.alloc (.cells #[] 94)).ownsRow w.heap.size 94 4 (.slice (some ⟨w.heap.size, 0, none⟩) 0 0) 0 [] := World.ownsRow_made w #[] 0 (Nat.le_refl _) (by simp [maxLen]) (by simp)
    have HO := hid hown
    have HN := hid hnews0
    have HI : Hid (Tryz.prog.info? 94 = some i) := hi
    have HLV : Hid ((flatV ys).length = ts.length * 4) := by show _ = _; rw [flatV_length, hyl]
    have HYS := hid hys
    have HOL := hid hold
    clear hf hown hnews0 hi hys hold hyl
    go_enter Tryz.func84, Tryz.ntmps84
    go_wp2_with (at_builtin; refine wpList_append_own_at _ rfl _ _ _ rfl w.heap.size 94 i _ 4 72 Tryz.underlying39 HI.out hz0 hz1 hz2 rfl (by omega) (.slice (some ⟨w.heap.size, 0, none⟩) 0 0) 0 [] rfl HO.out ad ts.length cap (flatV ys) rfl HLV.out HN.out (flatV_cell ys) (by simp [maxLen]; omega) (by omega) (by simp) ?_; intro v1 w1 hown1 hgrow _ _)
    go_ret
    simp only [Nat.zero_add, List.nil_append] at hown1
    refine ⟨v1, ys, rfl, hown1, HYS.out, HOL.out, (bnew _ _).grown hgrow (by simp) (fun k hk => ?_)⟩
    simp [Value.ownBlock] at hk
    omega
end Go.Proofs.YtgnppdghjlnlhaaGreatDoor
namespace Go.Proofs.YtgnppdghjlnlhaaGreatDoor
open Go.RowKit
theorem step_enterC {P : Program} {w : World} {ops : Array Oper} {o : Oper} {a : Act} {K : Act → World → Prop} {Q : Exit → Act → World → Prop} {E : Prop} {f : FuncId} {args : Array Value} (hgd : o.guard = none) (hx : (execOp a.eval o).run P w = .ok (.enter f args) w)
    (h : Calls P f args w (fun e w' => ∃ v, e = .returned v ∧ K (a.put o.dst v) w')) : if Region.wanted o (yielded ops a.tmps) = true then Oper.wp P o a w K Q else E := by
  have hw : Region.wanted o (yielded ops a.tmps) = true := by simp [Region.wanted, hgd]
  rw [if_pos hw]
  unfold Oper.wp
  rw [hx]
  refine h.mono ?_
  rintro e w' ⟨v, rfl, hK⟩
  exact hK
structure CpR (w wr : World) (B g n cap : Nat) (T : Nat → Nat) (ys : List TV) (k : Nat) (m : Bool) : Prop where
  row : wr.ownsRow B 94 4 (.slice (some ⟨g, 0, none⟩) n cap) n (flatV ys)
  len : ys.length = n
  tg : T g = 0
  own : ∀ i (h : i < ys.length), i < k → PairsTag wr B T (2 * i + 1) ys[i].a1 ys[i].t.mets ∧ PairsTag wr B T (2 * i + 2) ys[i].a2 ys[i].t.sers
  half : m = true → ∀ h : k < ys.length, PairsTag wr B T (2 * k + 1) ys[k].a1 ys[k].t.mets
  old : ∀ i (h : i < ys.length), k ≤ i → PairsIn w ys[i].a2 ys[i].t.sers ∧ (m = false ∨ k < i → PairsIn w ys[i].a1 ys[i].t.mets)
theorem flatV_set1 (l : List TV) (i : Nat) (hi : i < l.length) (a : Option Addr) (c : Nat) : flatV (l.set i ⟨l[i].t, a, c, l[i].a2, l[i].c2⟩) = (flatV l).set (i * 4 + 2) (.slice a l[i].t.mets.length c) := by
  induction l generalizing i with
  | nil => simp at hi
  | cons p r ih =>
    cases i with
    | zero => rfl
    | succ i =>
      have hi' : i < r.length := by simpa using hi
      have := ih i hi'
      simp only [flatV, List.set_cons_succ, List.flatMap_cons, List.getElem_cons_succ] at this ⊢
      rw [this, show (i + 1) * 4 + 2 = (i * 4 + 2) + 4 by omega]
      rfl
theorem flatV_set2 (l : List TV) (i : Nat) (hi : i < l.length) (a : Option Addr) (c : Nat) : flatV (l.set i ⟨l[i].t, l[i].a1, l[i].c1, a, c⟩) = (flatV l).set (i * 4 + 3) (.slice a l[i].t.sers.length c) := by
  induction l generalizing i with
  | nil => simp at hi
  | cons p r ih =>
    cases i with
    | zero => rfl
    | succ i =>
      have hi' : i < r.length := by simpa using hi
      have := ih i hi'
      simp only [flatV, List.set_cons_succ, List.flatMap_cons, List.getElem_cons_succ] at this ⊢
      rw [this, show (i + 1) * 4 + 3 = (i * 4 + 3) + 4 by omega]
      rfl
theorem row_set4 {w : World} {M g n cap : Nat} {xs : List Value} {j : Nat} {v : Value} (h : w.ownsRow M 94 4 (.slice (some ⟨g, 0, none⟩) n cap) n xs) : (w.setCell ⟨g, j, none⟩ v).ownsRow M 94 4 (.slice (some ⟨g, 0, none⟩) n cap) n (xs.set j v) := by
  refine ⟨by rw [List.length_set]; exact h.1, ?_⟩
  rcases h.2 with ⟨e, _⟩ | ⟨g', cap', cur, e, hB, hb, h1, h2, h3, h4⟩
  · cases e
  · simp only [Value.slice.injEq, Option.some.injEq, Addr.mk.injEq, and_true] at e
    obtain ⟨rfl, _, rfl⟩ := e
    have hb' : Blk w g cur 94 := hb
    refine Or.inr ⟨g, cap, cur.setIfInBounds j v, rfl, hB, hb'.set j v, h1, h2, by simp [h3], ?_⟩
    rw [Array.toList_setIfInBounds, List.take_set, h4]
theorem pairs_tag {w : World} {B b n : Nat} {T : Nat → Nat} {a : Option Addr} {ps : List PairD} (h : PairsOwn w B a ps) (hb : b ≤ B) (hT : ∀ g, B ≤ g → g < w.heap.size → T g = n) : PairsTag w b T n a ps := by
  rcases h with h | ⟨g, o, cur, t, e, hB, hg, h⟩
  · exact Or.inl h
  · exact Or.inr ⟨g, o, cur, t, e, by omega, hT g hB (lt_of_block hg), hg, h⟩
theorem CpR.limits {w wr w5 : World} {B g n cap k : Nat} {T : Nat → Nat} {ys : List TV} {a : Option Addr} {c : Nat} (h : CpR w wr B g n cap T ys k false) (hk : k < ys.length) (hb : Below wr.heap.size wr w5) (hB : B ≤ wr.heap.size) (ho : w5.ownsRow wr.heap.size 99 2 (.slice a ys[k].t.mets.length c) ys[k].t.mets.length (flatK ys[k].t.mets)) :
    CpR w (w5.setCell ⟨g, k * 4 + 2, none⟩ (.slice a ys[k].t.mets.length c)) B g n cap (fun g => if g < wr.heap.size then T g else 2 * k + 1) (ys.set k ⟨ys[k].t, a, c, ys[k].a2, ys[k].c2⟩) k true := by
  have hgl : g < wr.heap.size := (h.row.lt g rfl).2
  have ht : Turn (· = g) w5 (w5.setCell ⟨g, k * 4 + 2, none⟩ (.slice a ys[k].t.mets.length c)) := (Turn.refl (· = g) w5).setCell (Or.inl rfl) _ _
  have hkeep : ∀ q, q < wr.heap.size → q ≠ g → (w5.setCell ⟨g, k * 4 + 2, none⟩ (.slice a ys[k].t.mets.length c)).heap[q]? = wr.heap[q]? := fun q hq hne => by
    rw [ht.block q (by have := hb.size; omega) hne, hb.block q hq]
  have htag : ∀ {q : Option Addr} {ps : List PairD} {m : Nat}, 0 < m → PairsTag wr B T m q ps → PairsTag (w5.setCell ⟨g, k * 4 + 2, none⟩ (.slice a ys[k].t.mets.length c)) B (fun g => if g < wr.heap.size then T g else 2 * k + 1) m q ps := fun hm hp => hp.keep fun q hq _ hT => ⟨hkeep q hq (fun e => by rw [e, h.tg] at hT; omega), by simp only [if_pos hq]; exact hT⟩
  exact {
    row := by rw [flatV_set1 ys k hk]; exact row_set4 (row_later h.row hb)
    len := by rw [List.length_set]; exact h.len
    tg := by simp only [if_pos hgl]; exact h.tg
    own := fun i hi hik => by
      have hi' : i < ys.length := by simpa using hi
      rw [List.getElem_set_ne (by omega)]
      obtain ⟨p1, p2⟩ := h.own i hi' hik
      exact ⟨htag (by omega) p1, htag (by omega) p2⟩
    half := fun _ hi => by
      rw [List.getElem_set_self]
      have := pairs_of_row (l := ys[k].t.mets) ho
      have hp := pairs_tag (b := B) (n := 2 * k + 1) (T := fun g => if g < wr.heap.size then T g else 2 * k + 1) this hB (fun q hq _ => by simp only [if_neg (show ¬ q < wr.heap.size by omega)])
      refine hp.keep fun q hq _ hT => ⟨ht.block q hq (fun e => ?_), hT⟩
      subst e
      simp only [if_pos hgl, h.tg] at hT
      omega
    old := fun i hi hik => by
      have hi' : i < ys.length := by simpa using hi
      obtain ⟨o1, o2⟩ := h.old i hi' hik
      by_cases e : i = k
      · subst e
        rw [List.getElem_set_self]
        exact ⟨o1, fun h => by rcases h with h | h; cases h; omega⟩
      · rw [List.getElem_set_ne (by omega)]
        exact ⟨o1, fun _ => o2 (Or.inl rfl)⟩ }
theorem CpR.series {w wr w5 : World} {B g n cap k : Nat} {T : Nat → Nat} {ys : List TV} {a : Option Addr} {c : Nat} (h : CpR w wr B g n cap T ys k true) (hk : k < ys.length) (hb : Below wr.heap.size wr w5) (hB : B ≤ wr.heap.size) (ho : w5.ownsRow wr.heap.size 101 2 (.slice a ys[k].t.sers.length c) ys[k].t.sers.length (flatK ys[k].t.sers)) :
    CpR w (w5.setCell ⟨g, k * 4 + 3, none⟩ (.slice a ys[k].t.sers.length c)) B g n cap (fun g => if g < wr.heap.size then T g else 2 * k + 2) (ys.set k ⟨ys[k].t, ys[k].a1, ys[k].c1, a, c⟩) (k + 1) false := by
  have hgl : g < wr.heap.size := (h.row.lt g rfl).2
  have ht : Turn (· = g) w5 (w5.setCell ⟨g, k * 4 + 3, none⟩ (.slice a ys[k].t.sers.length c)) := (Turn.refl (· = g) w5).setCell (Or.inl rfl) _ _
  have hkeep : ∀ q, q < wr.heap.size → q ≠ g → (w5.setCell ⟨g, k * 4 + 3, none⟩ (.slice a ys[k].t.sers.length c)).heap[q]? = wr.heap[q]? := fun q hq hne => by
    rw [ht.block q (by have := hb.size; omega) hne, hb.block q hq]
  have htag : ∀ {q : Option Addr} {ps : List PairD} {m : Nat}, 0 < m → PairsTag wr B T m q ps → PairsTag (w5.setCell ⟨g, k * 4 + 3, none⟩ (.slice a ys[k].t.sers.length c)) B (fun g => if g < wr.heap.size then T g else 2 * k + 2) m q ps := fun hm hp => hp.keep fun q hq _ hT => ⟨hkeep q hq (fun e => by rw [e, h.tg] at hT; omega), by simp only [if_pos hq]; exact hT⟩
  exact {
    row := by rw [flatV_set2 ys k hk]; exact row_set4 (row_later h.row hb)
    len := by rw [List.length_set]; exact h.len
    tg := by simp only [if_pos hgl]; exact h.tg
    own := fun i hi hik => by
      have hi' : i < ys.length := by simpa using hi
      by_cases e : i = k
      · subst e
        rw [List.getElem_set_self]
        refine ⟨htag (by omega) (h.half rfl hk), ?_⟩
        have := pairs_of_row (l := ys[i].t.sers) ho
        have hp := pairs_tag (b := B) (n := 2 * i + 2) (T := fun g => if g < wr.heap.size then T g else 2 * i + 2) this hB (fun q hq _ => by simp only [if_neg (show ¬ q < wr.heap.size by omega)])
        refine hp.keep fun q hq _ hT => ⟨ht.block q hq (fun e => ?_), hT⟩
        subst e
        simp only [if_pos hgl, h.tg] at hT
        omega
      · rw [List.getElem_set_ne (by omega)]
        obtain ⟨p1, p2⟩ := h.own i hi' (by omega)
        exact ⟨htag (by omega) p1, htag (by omega) p2⟩
    half := fun h => by cases h
    old := fun i hi hik => by
      have hi' : i < ys.length := by simpa using hi
      obtain ⟨o1, o2⟩ := h.old i hi' (by omega)
      rw [List.getElem_set_ne (by omega)]
      exact ⟨o1, fun _ => o2 (Or.inr (by omega))⟩ }
theorem CpR.keep {w wr w' : World} {S : Nat → Prop} {B g n cap k : Nat} {T : Nat → Nat} {ys : List TV} {m : Bool} (h : CpR w wr B g n cap T ys k m) (ht : Turn S wr w') (hS : ∀ q, S q → q < B) : CpR w w' B g n cap T ys k m := by
  have hk : ∀ q, q < wr.heap.size → B ≤ q → w'.heap[q]? = wr.heap[q]? := fun q hq hb => ht.block q hq (fun e => by have := hS q e; omega)
  exact { h with
    row := ht.row h.row (fun q hq e => by have := (h.row.lt q hq).1; have := hS q e; omega)
    own := fun i hi hik => ⟨(h.own i hi hik).1.keep fun q hq hb hT => ⟨hk q hq hb, hT⟩, (h.own i hi hik).2.keep fun q hq hb hT => ⟨hk q hq hb, hT⟩⟩
    half := fun hm hi => (h.half hm hi).keep fun q hq hb hT => ⟨hk q hq hb, hT⟩ }
theorem CpR.done {w wr : World} {B g n cap : Nat} {T : Nat → Nat} {ys : List TV} {ts : List TenD} (h : CpR w wr B g n cap T ys n false) (hts : ys.map (·.t) = ts) : TensOwn wr B (some ⟨g, 0, none⟩) ts :=
  RowV.own (e := 94) (n := n) (cap := cap) ⟨T, ys, h.row, hts, fun q hq => by simp only [Value.ownBlock, Option.some.injEq] at hq; rw [← hq]; exact h.tg, fun i hi => h.own i hi (by rw [h.len] at hi; exact hi)⟩ (by rw [← hts, List.length_map]; exact h.len)
end Go.Proofs.YtgnppdghjlnlhaaGreatDoor
