import Derived.Test.YtgnppdghjlnlhaaGreatDoorProg
import Derived.Test.YtgnppdghjlnlhaaGreatDoorJ30WLog
import Derived.Test.YtgnppdghjlnlhaaGreatDoorJ20SNum
import Derived.Test.YtgnppdghjlnlhaaGreatDoorJ31Jn
import Derived.Test.YtgnppdghjlnlhaaGreatDoorJ27CpyS
import Derived.Deep.AppendLies
import Derived.Test.YtgnppdghjlnlhaaGreatDoorJ42SNdC
import Derived.Test.YtgnppdghjlnlhaaGreatDoorJ21MarkT
import Derived.Test.YtgnppdghjlnlhaaGreatDoorJ01Btw
namespace Go.Proofs.YtgnppdghjlnlhaaGreatDoor
open Go.RowKit
theorem info_opW : (Tryz.prog.info? 61).map (fun i => (i.zero, i.size, i.bytes)) = some (some (.agg #[.int .i64 0, .string ⟨#[]⟩, .string ⟨#[]⟩, .string ⟨#[]⟩, .int .i64 0]), 5, 64) := by kernel_rfl
def OpsR (w : World) (B : Nat) (v : Value) (n : Nat) (l : List OpD) : Prop := w.ownsRow B 61 5 v n (flatO l)
theorem OpsR.later {w w' : World} {B n : Nat} {v : Value} {l : List OpD} (h : OpsR w B v n l) (hb : Below w.heap.size w w') : OpsR w' B v n l := row_later h hb
theorem OpsR.new (w : World) : OpsR (w.alloc (.cells #[] 61)) w.heap.size (.slice (some ⟨w.heap.size, 0, none⟩) 0 0) 0 [] := World.ownsRow_made w #[] 0 (Nat.le_refl _) (by simp [maxLen]) (by simp)
theorem flatO_snoc (l : List OpD) (o : OpD) : flatO (l ++ [o]) = flatO l ++ [.int .i64 o.kind, .string o.name, .string o.to, .string o.data, .int .i64 o.size] := by simp [flatO]
theorem wpList_op {os : Array Oper} {rest : List Oper} {o : Oper} {a : Act} {Q : Exit → Act → World → Prop} {w : World} (hgd : o.guard = none) (s x : Operand)
    (ho : o.op = .call { callee := .builtin .append, args := #[s, x], argTypes := #[58, 58] })
    (B n : Nat) (v : Value) (l : List OpD) (k z : Int) (nm tq da : ByteArray) (hs : a.eval s = v) (hr : Hid (OpsR w B v n l)) (hx : a.eval x = .slice (some ⟨w.heap.size, 0, none⟩) 1 1) (hn : n ≤ 2000000) (hB : B ≤ w.heap.size)
    (h : ∀ g cap w', Hid (OpsR w' B (.slice (some ⟨g, 0, none⟩) (n + 1) cap) (n + 1) (l ++ [⟨k, nm, tq, da, z⟩])) → Below B w w' → wpList Tryz.prog os Q rest (a.put o.dst (.slice (some ⟨g, 0, none⟩) (n + 1) cap)) w') :
    wpList Tryz.prog os Q (o :: rest) a (w.alloc (.cells #[.int .i64 k, .string nm, .string tq, .string da, .int .i64 z] 61)) := by
  obtain ⟨i, hi, h0, h1, h2⟩ := info_parts info_opW
  refine wpList_append_lies _ hgd s x _ ho B 61 i _ 5 64 Tryz.underlying58 hi h0 h1 h2 rfl (by omega) v n (flatO l) hs (World.ownsRow.alloc hr.out _) ⟨w.heap.size, 0, none⟩ 1 1 [.int .i64 k, .string nm, .string tq, .string da, .int .i64 z] hx rfl (by
    have := World.news_of_block (cs := #[.int .i64 k, .string nm, .string tq, .string da, .int .i64 z]) (t := 61) (fr := (0, 0)) (heap_alloc_new w (.cells #[.int .i64 k, .string nm, .string tq, .string da, .int .i64 z] 61))
    simpa using this) (by simp [Value.oneCell']) (by omega) (by simp [maxLen]; omega) (by omega) (by simp; omega) (w.heap.size + 1) (by simp) ?_
  intro g cap w' hown hgrow _ _
  refine h g cap w' ?_ ?_
  · show World.ownsRow _ _ _ _ _ _ _
    rw [flatO_snoc]
    exact hown
  · exact ((bnew _ _).mono hB).trans ((Turn.grown hgrow).below (by simp; omega) (fun q hq e => by have := (hr.out.lt q e).1; omega))
theorem FilesIn.store {w W : World} {a : Option Addr} {fs : List FileD} {P : Nat} {cs : Array Value} {t : TypeId} (h : FilesIn w a fs) (hz : Blk w P cs t) (hn : ∀ (j : Nat) (s : ByteArray), cs[j]? ≠ some (Value.string s)) (ht : Turn (· = P) w W) : FilesIn W a fs := by
  rcases h with h | ⟨b, o, e, hb, h⟩
  · exact Or.inl h
  · by_cases h0 : fs = []
    · exact Or.inl h0
    · have hl : 0 < fs.length := by rcases fs with _ | ⟨f, r⟩; exact absurd rfl h0; simp
      have hne : b ≠ P := fun e2 => by
        subst e2
        have h1 := (h 0 hl).1
        rw [hz.cell] at h1
        exact hn _ _ h1
      have hk := ht.block b hb hne
      have hc : ∀ j, W.cell? ⟨b, j, none⟩ = w.cell? ⟨b, j, none⟩ := fun j => World.cell?_of_block hk
      exact Or.inr ⟨b, o, e, Nat.lt_of_lt_of_le hb ht.size, fun i hi => by simp only [hc]; exact h i hi⟩
end Go.Proofs.YtgnppdghjlnlhaaGreatDoor
namespace Go.Proofs.YtgnppdghjlnlhaaGreatDoor
open Go.RowKit
theorem row_formW {W : World} {B : Nat} {v : Value} {n : Nat} {l : List OpD} (h : OpsR W B v n l) : ∃ a c, v = .slice a n c := by
  rcases h.2 with ⟨rfl, rfl⟩ | ⟨g, cap, cur, rfl, _⟩
  · exact ⟨none, 0, rfl⟩
  · exact ⟨_, _, rfl⟩
theorem opsR_cells {w : World} {B n ac : Nat} {al : Option Addr} {l : List OpD} (h : OpsR w B (.slice al n ac) n l) (hn : 0 < n) : ∃ g, al = some ⟨g, 0, none⟩ ∧ g < w.heap.size ∧ ∀ j u, (flatO l)[j]? = some u → w.cell? ⟨g, j, none⟩ = some u := by
  rcases h.2 with ⟨_, h0⟩ | ⟨g, cap, cur, e, hB, hb, h1, h2, h3, h4⟩
  · omega
  · simp only [Value.slice.injEq] at e
    refine ⟨g, e.1, lt_of_block hb, fun j u hu => ?_⟩
    have hj : j < n * 5 := by
      have h5 := h.1
      have := (List.getElem?_eq_some_iff.1 hu).1
      omega
    rw [Blk.cell (show Blk w g cur _ from hb) j, ← Array.getElem?_toList, ← hu, ← h4, List.getElem?_take_of_lt hj]
theorem no_str6 {v : Value} {i1 i2 i3 i4 : Int} {b : Bool} (hv : ∀ s, v ≠ .string s) : ∀ (j : Nat) (s : ByteArray), (#[v, Value.int .i64 i1, Value.int .i64 i2, Value.int .i64 i3, Value.int .i64 i4, Value.bool b] : Array Value)[j]? ≠ some (Value.string s) := by
  intro j s
  match j with
  | 0 => simpa using hv s
  | 1 => simp
  | 2 => simp
  | 3 => simp
  | 4 => simp
  | 5 => simp
  | j + 6 => simp
theorem no_str14 {v v' : Value} {i1 i2 i3 i4 i5 i6 i7 i8 i9 : Int} {b b1 b2 : Bool} (hv : ∀ s, v ≠ .string s) (hv' : ∀ s, v' ≠ .string s) : ∀ (j : Nat) (s : ByteArray), (#[v, Value.int .i64 i1, Value.int .i64 i2, Value.int .i64 i3, Value.int .i64 i4, Value.bool b, Value.int .i64 i5, Value.int .i64 i6, Value.int .i64 i7, Value.int .i64 i8, v', Value.int .i64 i9, Value.bool b1, Value.bool b2] : Array Value)[j]? ≠ some (Value.string s) := by
  intro j s
  match j with
  | 0 => simpa using hv s
  | 10 => simpa using hv' s
  | 1 | 2 | 3 | 4 | 5 | 6 | 7 | 8 | 9 | 11 | 12 | 13 => simp
  | j + 14 => simp
theorem at_box6 {C : World → Prop} {w : World} {O : Nat} {v0 v1 v2 v3 v4 v5 u0 u1 u2 u3 u4 u5 : Value} {t : TypeId} (h : Blk w O #[v0, v1, v2, v3, v4, v5] t) (k : ∀ W, Blk W O #[u0, u1, u2, u3, u4, u5] t → Turn (· = O) w W → C W) :
    C ((((((w.setCell ⟨O, 0, none⟩ u0).setCell ⟨O, 1, none⟩ u1).setCell ⟨O, 2, none⟩ u2).setCell ⟨O, 3, none⟩ u3).setCell ⟨O, 4, none⟩ u4).setCell ⟨O, 5, none⟩ u5) :=
  k _ (by have := (((((h.set 0 u0).set 1 u1).set 2 u2).set 3 u3).set 4 u4).set 5 u5; simpa using this) (((((((Turn.refl (· = O) w).setCell (Or.inl rfl) 0 u0).setCell (Or.inl rfl) 1 u1).setCell (Or.inl rfl) 2 u2).setCell (Or.inl rfl) 3 u3).setCell (Or.inl rfl) 4 u4).setCell (Or.inl rfl) 5 u5)
theorem Blk.six {w : World} {b : Nat} {v0 v1 v2 v3 v4 v5 : Value} {t : TypeId} (h : Blk w b #[v0, v1, v2, v3, v4, v5] t) : w.cell? ⟨b, 0, none⟩ = some v0 ∧ w.cell? ⟨b, 1, none⟩ = some v1 ∧ w.cell? ⟨b, 2, none⟩ = some v2 ∧ w.cell? ⟨b, 3, none⟩ = some v3 ∧ w.cell? ⟨b, 4, none⟩ = some v4 ∧ w.cell? ⟨b, 5, none⟩ = some v5 := by
  refine ⟨?_, ?_, ?_, ?_, ?_, ?_⟩ <;> (rw [Blk.cell h]; rfl)
theorem sp_endR {c : CfgD} {N M : NodeD} {code : Int} {w w9 W : World} {a' b' : Option Addr} {ca' cb' : Nat} {cs : Array Value} {ty : TypeId} (E : ckV c N = (M, code)) (hf : FilesIn w9 a' M.d.fs) (ht : TensA w9 (fun x => w.heap.size + 1 + 1 < x) b' M.ts) (hR : Blk w9 (w.heap.size + 1 + 1) cs ty) (hn : ∀ (j : Nat) (s : ByteArray), cs[j]? ≠ some (Value.string s)) (hB : Below w.heap.size w w9) (hT : Turn (· = w.heap.size + 1 + 1) w9 W) :
    SpOut c N w (.returned (.tuple #[.agg #[.slice a' M.d.fs.length ca', .int .i64 M.d.c, .int .i64 M.d.k, .int .i64 M.d.cr, .int .i64 M.d.fl, .bool M.d.dn, .int .i64 M.l.first, .int .i64 M.l.last, .int .i64 M.l.size, .int .i64 M.now, .slice b' M.ts.length cb', .int .i64 M.lsn, .bool M.deg, .bool M.up], .int .i64 code])) W := by
  unfold SpOut
  rw [E]
  exact ⟨a', ca', b', cb', rfl, hf.store hR hn hT, (ht.turned hT (fun x hx _ e => by omega)).tens, hB.trans (hT.below hB.size (fun k hk e => by omega))⟩
end Go.Proofs.YtgnppdghjlnlhaaGreatDoor
namespace Go.Proofs.YtgnppdghjlnlhaaGreatDoor
open Go.RowKit
def StepTo (D : DiskD) (op : OpD) (D' : DiskD) (code : Nat) : Prop :=
  ∀ a cap W, FilesIn W a D.fs → Calls Tryz.prog 20 #[.agg #[.slice a D.fs.length cap, .int .i64 D.c, .int .i64 D.k, .int .i64 D.cr, .int .i64 D.fl, .bool D.dn], .agg #[.int .i64 op.kind, .string op.name, .string op.to, .string op.data, .int .i64 op.size]] W fun e w' =>
    ∃ a' cap', e = .returned (.tuple #[.agg #[.slice a' D'.fs.length cap', .int .i64 D'.c, .int .i64 D'.k, .int .i64 D'.cr, .int .i64 D'.fl, .bool D'.dn], .int .i64 code]) ∧ FilesIn w' a' D'.fs ∧ Below W.heap.size W w'
theorem stepTo {D : DiskD} {op : OpD} (h : Fit D.fs) (hn : op.name.size ≤ maxLen) (ht : op.to.size ≤ maxLen) (hd : op.data.size ≤ 200000000) : StepTo D op (stepD D op).1 (stepD D op).2 := fun a cap W hf =>
  specStep_any W a cap D.fs D.c D.k D.cr D.fl D.dn op ⟨hf, h.short, h.len, h.sum, hn, ht, hd⟩
end Go.Proofs.YtgnppdghjlnlhaaGreatDoor
namespace Go.Proofs.YtgnppdghjlnlhaaGreatDoor
open Go.RowKit
set_option maxRecDepth 100000 in
set_option maxHeartbeats 1000000 in
theorem specSeg_any (n : Int) (w : World) :
    Calls Tryz.prog 19 #[.int .i64 n] w fun e w' => e = .returned (.string (segS n)) ∧ Below w.heap.size w w' := by
  by_cases h : 1 ≤ n ∧ n ≤ 999999
  · have hB : btwB n 1 999999 = true := by unfold btwB; simp; omega
    have E : Hid (segS n = segN n.toNat) := if_pos h
    obtain ⟨N, rfl⟩ := Int.eq_ofNat_of_zero_le (show 0 ≤ n by omega)
    have hN : N ≤ 999999 := by omega
    have hcv := conv_one
    clear h
    go_enter Tryz.func19, Tryz.ntmps19
    go_wp2_with (go_at_call 45; refine (between_any _ _ _ _).mono ?_; rintro e w' ⟨rfl, hw⟩; replace hw := hw.symm; subst hw)
    go_loopw [0, 3, 4] (fun m s i wr => ∃ (j M : Nat) (st : ByteArray), j ≤ 6 ∧ i = .int .i64 j ∧ m = .int .i64 M ∧ s = .string st ∧ Hid (M = N / 10 ^ j) ∧ M ≤ 999999 ∧ st.size = j ∧ Hid (st.data.toList = segD N j) ∧ Below w.heap.size w wr) (fun _ _ i _ => 6 - (intOf i).toNat)
    case atStart => exact ⟨0, N, ByteArray.empty, by omega, rfl, rfl, rfl, by show _ = _; simp, hN, rfl, rfl, Below.refl _ _⟩
    case round =>
      obtain ⟨j, M, st, hj, rfl, rfl, rfl, hM, hM2, hsz, hst, hbel⟩ := hrel
      by_cases hlt : j < 6
      · go_wp2
        refine ⟨⟨j + 1, M / 10, _, by omega, by go_num, by go_num, rfl, ?_, by omega, ?_, ?_, bto hbel (bnew _ _)⟩, by simp [intOf]; omega⟩
        · show _ = _
          rw [hM.out, Nat.div_div_eq_div_mul, Nat.pow_succ]
        · rw [str_one_size, hsz]
        · show _ = _
          rw [str_one, hst.out, segD, hM.out]
      · go_wp2
        go_ret
        have e : j = 6 := by omega
        subst e
        refine ⟨congrArg (fun x => Ending.returned (.string x)) ?_, hbel⟩
        rw [E.out, segN]
        refine mk_toList _ _ ?_
        rw [Int.toNat_natCast, ← hst.out]
        simp
  · have hB : btwB n 1 999999 = false := by unfold btwB; simp; omega
    have E : Hid (segS n = ByteArray.empty) := if_neg h
    go_enter Tryz.func19, Tryz.ntmps19
    go_wp2_with (go_at_call 45; refine (between_any _ _ _ _).mono ?_; rintro e w' ⟨rfl, hw⟩; replace hw := hw.symm; subst hw)
    go_ret
    exact ⟨congrArg (fun x => Ending.returned (.string x)) E.out.symm, Below.refl _ _⟩
end Go.Proofs.YtgnppdghjlnlhaaGreatDoor
