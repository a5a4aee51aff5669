import Derived.Test.YtojeemogabhaoaaGreatDoorJ03LabB
import Derived.Test.YtojeemogabhaoaaGreatDoorJ05Cfg
import Derived.Test.YtojeemogabhaoaaGreatDoorProg
import Derived.Test.YtojeemogabhaoaaGreatDoorJ02Ord
import Derived.Maps.OwnOps
import Derived.StringKeys
namespace Go.Proofs.YtojeemogabhaoaaGreatDoor
def allTo (f : Nat → Bool) : Nat → Bool
  | 0 => true
  | k + 1 => allTo f k && f k
theorem allTo_succ (f : Nat → Bool) (k : Nat) : allTo f (k + 1) = (allTo f k && f k) := rfl
theorem allTo_not {f : Nat → Bool} {k n : Nat} (h : f k = false) (hk : k < n) : allTo f n = false := by
  induction n with
  | zero => omega
  | succ n ih =>
    rw [allTo_succ]
    by_cases e : k = n
    · subst e; rw [h, Bool.and_false]
    · rw [ih (by omega), Bool.false_and]
theorem allTo_at {f : Nat → Bool} {k n : Nat} (h : allTo f n = true) (hk : k < n) : f k = true := by
  cases hf : f k with
  | true => rfl
  | false => rw [allTo_not hf hk] at h; cases h
def okT (c : UInt8) : Bool := (97 ≤ c && c ≤ 122) || (48 ≤ c && c ≤ 57) || c == 45
def tnameB (s : ByteArray) : Bool := decide (1 ≤ s.size) && decide (s.size ≤ 32) && s.data.toList.all okT
def mnameB (s : ByteArray) : Bool := !s.toList.isEmpty && decide (valV s = 0)
def metK (s : ByteArray) : ByteArray := metV (decV s).1
def keyOK (s : ByteArray) : Bool := !(metK s).toList.isEmpty
def idleB (t : TenD) : Bool := t.limit == -1 && t.mets.length == 0 && t.sers.length == 0
def prevB (ps : List PairD) (i : Nat) : Bool := match i with
  | 0 => true
  | j + 1 => match ps[j]?, ps[j + 1]? with
    | some p, some q => blt p.s q.s
    | _, _ => false
def metAt (ms : List PairD) (i : Nat) : Bool := match ms[i]? with
  | some m => prevB ms i && mnameB m.s && btwB m.n 0 1000000
  | none => false
def metsB (ms : List PairD) : Bool := allTo (metAt ms) ms.length
def serAt (win now : Int) (xs : List PairD) (i : Nat) : Bool := match xs[i]? with
  | some x => prevB xs i && keyOK x.s && btwB x.n 0 now && decide (now - x.n < win)
  | none => false
def sersB (win now : Int) (xs : List PairD) : Bool := allTo (serAt win now xs) xs.length
def prevT (ts : List TenD) (i : Nat) : Bool := match i with
  | 0 => true
  | j + 1 => match ts[j]?, ts[j + 1]? with
    | some p, some q => blt p.name q.name
    | _, _ => false
def tenB (win now : Int) (t : TenD) : Bool := tnameB t.name && btwB t.limit (-1) 1000000 && metsB t.mets && sersB win now t.sers && !idleB t
def tenAt (win now : Int) (ts : List TenD) (i : Nat) : Bool := match ts[i]? with
  | some t => prevT ts i && tenB win now t
  | none => false
def tensB (win now : Int) (ts : List TenD) : Bool := allTo (tenAt win now ts) ts.length
def stateB (c : CfgD) (now : Int) (ts : List TenD) : Bool := cfgB c && btwB now 0 1000000000000 && decide (ts.length ≤ 10000) && tensB c.w now ts
theorem prevB_at {ps : List PairD} {k : Nat} (hk : 0 < k) (hl : k < ps.length) : prevB ps k = blt (ps[k - 1]'(by omega)).s ps[k].s := by
  obtain ⟨j, rfl⟩ : ∃ j, k = j + 1 := ⟨k - 1, by omega⟩
  simp [prevB, List.getElem?_eq_getElem (show j < ps.length by omega), List.getElem?_eq_getElem hl]
theorem prevT_at {ps : List TenD} {k : Nat} (hk : 0 < k) (hl : k < ps.length) : prevT ps k = blt (ps[k - 1]'(by omega)).name ps[k].name := by
  obtain ⟨j, rfl⟩ : ∃ j, k = j + 1 := ⟨k - 1, by omega⟩
  simp [prevT, List.getElem?_eq_getElem (show j < ps.length by omega), List.getElem?_eq_getElem hl]
theorem metAt_eq {ms : List PairD} {k : Nat} (hl : k < ms.length) : metAt ms k = (prevB ms k && mnameB ms[k].s && btwB ms[k].n 0 1000000) := by simp [metAt, List.getElem?_eq_getElem hl]
theorem serAt_eq {win now : Int} {ms : List PairD} {k : Nat} (hl : k < ms.length) : serAt win now ms k = (prevB ms k && keyOK ms[k].s && btwB ms[k].n 0 now && decide (now - ms[k].n < win)) := by simp [serAt, List.getElem?_eq_getElem hl]
theorem tenAt_eq {win now : Int} {ts : List TenD} {k : Nat} (hl : k < ts.length) : tenAt win now ts k = (prevT ts k && tenB win now ts[k]) := by simp [tenAt, List.getElem?_eq_getElem hl]
theorem rise_steps {α : Type} {key : α → ByteArray} : ∀ (l : List α), (∀ k (h : k + 1 < l.length), blt (key (l[k]'(by omega))) (key l[k + 1]) = true) → RiseBy key l
  | [], _ => List.Pairwise.nil
  | [a], _ => List.pairwise_singleton ..
  | a :: b :: r, h => by
    have hr : RiseBy key (b :: r) := rise_steps (b :: r) fun k hk => h (k + 1) (by simp at hk ⊢; omega)
    have h0 : blt (key a) (key b) = true := h 0 (by simp)
    refine List.pairwise_cons.2 ⟨fun q hq => ?_, hr⟩
    rcases List.mem_cons.1 hq with rfl | hq
    · exact h0
    · exact blt_trans h0 (hr.head q hq)
theorem rise_take {α : Type} {key : α → ByteArray} {l : List α} (k : Nat) (h : RiseBy key l) : RiseBy key (l.take k) := List.Pairwise.sublist (List.take_sublist ..) h
theorem mets_rise {ms : List PairD} {n : Nat} (h : allTo (metAt ms) n = true) (hn : n ≤ ms.length) : RiseBy (·.s) (ms.take n) := by
  apply rise_steps
  intro k hk
  simp only [List.length_take] at hk
  have := allTo_at h (k := k + 1) (by omega)
  rw [metAt_eq (by omega), Bool.and_eq_true, Bool.and_eq_true] at this
  have h1 := this.1.1
  rw [prevB_at (by omega) (by omega)] at h1
  simpa using h1
theorem sers_rise {win now : Int} {ms : List PairD} {n : Nat} (h : allTo (serAt win now ms) n = true) (hn : n ≤ ms.length) : RiseBy (·.s) (ms.take n) := by
  apply rise_steps
  intro k hk
  simp only [List.length_take] at hk
  have := allTo_at h (k := k + 1) (by omega)
  rw [serAt_eq (by omega), Bool.and_eq_true, Bool.and_eq_true, Bool.and_eq_true] at this
  have h1 := this.1.1.1
  rw [prevB_at (by omega) (by omega)] at h1
  simpa using h1
theorem tens_rise {win now : Int} {ts : List TenD} {n : Nat} (h : allTo (tenAt win now ts) n = true) (hn : n ≤ ts.length) : RiseBy (·.name) (ts.take n) := by
  apply rise_steps
  intro k hk
  simp only [List.length_take] at hk
  have := allTo_at h (k := k + 1) (by omega)
  rw [tenAt_eq (by omega), Bool.and_eq_true] at this
  have h1 := this.1
  rw [prevT_at (by omega) (by omega)] at h1
  simpa using h1
theorem ins_take {α : Type} {key : α → ByteArray} {l : List α} {k : Nat} (hk : k < l.length) (h : RiseBy key (l.take (k + 1))) : insBy key l[k] (l.take k) = l.take (k + 1) ∧ getBy key (key l[k]) (l.take k) = none := by
  rw [List.take_succ_eq_append_getElem hk] at h ⊢
  have hb : ∀ p ∈ l.take k, blt (key p) (key l[k]) = true := fun p hp => (List.pairwise_append.1 h).2.2 p hp _ (List.mem_singleton.2 rfl)
  exact ⟨insBy_end hb, getBy_none_of fun p hp => blt_ne (hb p hp)⟩
end Go.Proofs.YtojeemogabhaoaaGreatDoor
namespace Go.Proofs.YtojeemogabhaoaaGreatDoor
open Go.RowKit Go.Maps Go.ChangeMaps
def iVal (n : Int) : DataW Unit := .lit (.int .i64 n)
def pVal (g : Nat) : DataW Unit := .lit (.int .i64 (g : Int))
def ptrElem : Value → Option (DataW Unit × List MemPlace)
  | .pointer (some ⟨g, 0, none⟩) => some (pVal g, [])
  | .pointer none => some (.nil, [])
  | _ => none
theorem ptrElem_mk (g : Nat) : ptrElem (.pointer (some ⟨g, 0, none⟩)) = some (pVal g, []) := rfl
theorem keyed : Keyed Tryz.prog 9 := string_keyed Tryz.underlying9
theorem key_mk {s : ByteArray} (h : s.size ≤ maxLen) : keyOf Tryz.prog 9 (.string s) = some (kL s) := WideMaps.keyOf_string_mk Tryz.underlying9 h
theorem tight {H : Type} {P : Program} {w : World} {k : TypeId} {R : Value → Option (DataW H × List MemPlace)} {b n : Nat} {D : DataW H} (h : w.ownsMap P k R b n D) : w.ownsMap P k R b (Maps.size D) D := by
  obtain ⟨es, clock, hb, F, hs, rfl⟩ := h
  refine ⟨es, clock, hb, F, ?_, rfl⟩
  rw [size_eq, length_sorted, List.length_map, Array.length_toList]
  exact Nat.le_refl _
structure IdxS (w : World) (S : Nat → Prop) (x : Nat) (t : TenD) (M lm sm cm : Nat) (iv : Value) (Q : List (PairD × Nat)) (hs : List SgD) (D : DataW Unit) : Prop where
  blk : Blk w x #[.int .i64 t.limit, .map (some lm), .map (some sm), .map (some cm), iv] 108
  lims : w.ownsMap Tryz.prog 9 (plainElem Tryz.prog 3) lm t.mets.length (mapOf (t.mets.map fun p => (p.s, iVal p.n)))
  sers : w.ownsMap Tryz.prog 9 ptrElem sm Q.length (mapOf (Q.map fun q => (q.1.s, pVal q.2)))
  cnts : w.ownsMap Tryz.prog 9 (plainElem Tryz.prog 3) cm M D
  cnt : ∀ m : ByteArray, D.atKey (kL m) (iVal 0) = iVal (cntM metK t.sers m)
  q1 : Q.map (·.1) = t.sers
  cells : ∀ q ∈ Q, Blk w q.2 #[.string q.1.s, .int .i64 q.1.n] 61
  row : w.ownsRow 0 170 2 iv hs.length (flatS hs)
  heap : HeapOK hs
  perm : (hs.map (·.b)).Perm (Q.map (·.2))
  early : ∀ h ∈ hs, ∀ q ∈ Q, q.2 = h.b → h.t ≤ q.1.n
  rm : RiseBy (·.s) t.mets
  rs : RiseBy (·.s) t.sers
  sx : S x
  sl : S lm
  ss : S sm
  sc : S cm
  sq : ∀ q ∈ Q, S q.2
  si : ∀ g, iv.ownBlock = some g → S g
  d1 : lm ≠ sm
  d2 : lm ≠ cm
  d3 : sm ≠ cm
  nd : (Q.map (·.2)).Nodup
  dx : ∀ q ∈ Q, q.2 ≠ x
  di : ∀ g, iv.ownBlock = some g → g ≠ x ∧ ∀ q ∈ Q, q.2 ≠ g
def IdxAt (w : World) (S : Nat → Prop) (x : Nat) (t : TenD) (M : Nat) : Prop := ∃ lm sm cm iv Q hs D, IdxS w S x t M lm sm cm iv Q hs D
theorem row_lt {w : World} {B : Nat} {e : TypeId} {size : Nat} {v : Value} {n : Nat} {xs : List Value} (h : w.ownsRow B e size v n xs) : ∀ g, v.ownBlock = some g → g < w.heap.size := by
  intro g hg
  rcases h.2 with ⟨rfl, _⟩ | ⟨g', cap, cur, rfl, _, hb, _⟩
  · cases hg
  · simp only [Value.ownBlock, Option.some.injEq] at hg
    subst hg; exact lt_of_block hb
theorem IdxS.keep {w w' : World} {S S' : Nat → Prop} {x : Nat} {t : TenD} {M lm sm cm : Nat} {iv : Value} {Q : List (PairD × Nat)} {hs : List SgD} {D : DataW Unit} (h : IdxS w S x t M lm sm cm iv Q hs D)
    (hk : ∀ g, g < w.heap.size → S g → w'.heap[g]? = w.heap[g]? ∧ S' g) : IdxS w' S' x t M lm sm cm iv Q hs D := by
  have hm : ∀ {R : Value → Option (DataW Unit × List MemPlace)} {b n : Nat} {E : DataW Unit}, w.ownsMap Tryz.prog 9 R b n E → S b → w'.ownsMap Tryz.prog 9 R b n E := fun {R b n E} h hs => by
    have hlt := h.lt
    obtain ⟨es, clock, hb, r⟩ := h
    exact ⟨es, clock, (hk b hlt hs).1.trans hb, r⟩
  have hb : ∀ {g : Nat} {cur : Array Value} {tt : TypeId}, Blk w g cur tt → S g → Blk w' g cur tt := fun {g cur tt} h hs => (hk g (lt_of_block h) hs).1.trans h
  exact { h with
    blk := hb h.blk h.sx
    lims := hm h.lims h.sl
    sers := hm h.sers h.ss
    cnts := hm h.cnts h.sc
    cells := fun q hq => hb (h.cells q hq) (h.sq q hq)
    row := by
      refine ⟨h.row.1, ?_⟩
      rcases h.row.2 with h0 | ⟨g, cap, cur, e, hB, hblk, r⟩
      · exact Or.inl h0
      · have : iv.ownBlock = some g := by rw [e]; rfl
        exact Or.inr ⟨g, cap, cur, e, hB, hb hblk (h.si g this), r⟩
    sx := (hk x (lt_of_block h.blk) h.sx).2
    sl := (hk lm h.lims.lt h.sl).2
    ss := (hk sm h.sers.lt h.ss).2
    sc := (hk cm h.cnts.lt h.sc).2
    sq := fun q hq => (hk q.2 (lt_of_block (h.cells q hq)) (h.sq q hq)).2
    si := fun g hg => (hk g (row_lt h.row g hg) (h.si g hg)).2 }
theorem IdxAt.keep {w w' : World} {S S' : Nat → Prop} {x : Nat} {t : TenD} {M : Nat} (h : IdxAt w S x t M) (hk : ∀ g, g < w.heap.size → S g → w'.heap[g]? = w.heap[g]? ∧ S' g) : IdxAt w' S' x t M := by
  obtain ⟨lm, sm, cm, iv, Q, hs, D, h⟩ := h
  exact ⟨lm, sm, cm, iv, Q, hs, D, h.keep hk⟩
theorem IdxAt.later {w w' : World} {S : Nat → Prop} {x : Nat} {t : TenD} {M : Nat} (h : IdxAt w S x t M) (hb : Below w.heap.size w w') : IdxAt w' S x t M := h.keep fun g hg hs => ⟨hb.block g hg, hs⟩
theorem IdxAt.lt {w : World} {S : Nat → Prop} {x : Nat} {t : TenD} {M : Nat} (h : IdxAt w S x t M) : x < w.heap.size := by
  obtain ⟨lm, sm, cm, iv, Q, hs, D, h⟩ := h
  exact lt_of_block h.blk
theorem IdxAt.mono {w : World} {S : Nat → Prop} {x : Nat} {t : TenD} {M M' : Nat} (h : IdxAt w S x t M) (hM : M ≤ M') : IdxAt w S x t M' := by
  obtain ⟨lm, sm, cm, iv, Q, hs, D, h⟩ := h
  exact ⟨lm, sm, cm, iv, Q, hs, D, { h with cnts := h.cnts.mono hM }⟩
theorem map_two (w : World) (o : Obj) : ((w.alloc (.map #[] 0)).alloc o).heap[w.heap.size]? = (w.alloc (.map #[] 0)).heap[w.heap.size]? := (bnew _ _).block _ (by simp)
set_option maxRecDepth 100000 in
set_option maxHeartbeats 1000000 in
theorem newIndex_any (limit : Int) (nm : ByteArray) (w : World) :
    Calls Tryz.prog 79 #[.int .i64 limit] w fun e w' => ∃ x, e = .returned (.pointer (some ⟨x, 0, none⟩)) ∧ w.heap.size ≤ x ∧ IdxAt w' (fun g => w.heap.size ≤ g) x ⟨nm, limit, [], []⟩ 0 ∧ Below w.heap.size w w' := by
  have hmm := @run_makeMap Tryz.prog
  go_enter Tryz.func79, Tryz.ntmps79
  go_wp2
  go_ret
  refine ⟨w.heap.size + 1 + 1 + 1, rfl, by omega, ⟨w.heap.size, w.heap.size + 1, w.heap.size + 1 + 1, .slice none 0 0, [], [], .map [], ?_⟩, bto (bto (bto (bnew _ _) (bnew _ _)) (bnew _ _)) (bnew _ _)⟩
  have m1 : ∀ R : Value → Option (DataW Unit × List MemPlace), (w.alloc (.map #[] 0)).ownsMap Tryz.prog 9 R w.heap.size 0 (.map []) := fun R => World.ownsMap_made w _ _ R
  have m2 : ∀ R : Value → Option (DataW Unit × List MemPlace), ((w.alloc (.map #[] 0)).alloc (.map #[] 0)).ownsMap Tryz.prog 9 R (w.heap.size + 1) 0 (.map []) := fun R => by have := World.ownsMap_made (w.alloc (.map #[] 0)) Tryz.prog 9 R; simpa using this
  have m3 : ∀ R : Value → Option (DataW Unit × List MemPlace), (((w.alloc (.map #[] 0)).alloc (.map #[] 0)).alloc (.map #[] 0)).ownsMap Tryz.prog 9 R (w.heap.size + 1 + 1) 0 (.map []) := fun R => by have := World.ownsMap_made ((w.alloc (.map #[] 0)).alloc (.map #[] 0)) Tryz.prog 9 R; simpa using this
  exact {
    blk := by have := Blk.new (((w.alloc (.map #[] 0)).alloc (.map #[] 0)).alloc (.map #[] 0)) #[.int .i64 limit, .map (some w.heap.size), .map (some (w.heap.size + 1)), .map (some (w.heap.size + 1 + 1)), .slice none 0 0] 108; simpa using this
    lims := (((m1 _).alloc _).alloc _).alloc _
    sers := ((m2 _).alloc _).alloc _
    cnts := (m3 _).alloc _
    cnt := fun m => rfl
    q1 := rfl
    cells := fun q hq => by cases hq
    row := World.ownsRow_nil _ _ _ _
    heap := fun i _ h => by simp at h
    perm := List.Perm.refl _
    early := fun h hh => by cases hh
    rm := List.Pairwise.nil
    rs := List.Pairwise.nil
    sx := by show w.heap.size ≤ _; omega
    sl := Nat.le_refl _
    ss := by show w.heap.size ≤ _; omega
    sc := by show w.heap.size ≤ _; omega
    sq := fun q hq => by cases hq
    si := fun g hg => by cases hg
    d1 := by omega
    d2 := by omega
    d3 := by omega
    nd := List.nodup_nil
    dx := fun q hq => by cases hq
    di := fun g hg => by cases hg }
set_option maxRecDepth 100000 in
set_option maxHeartbeats 1000000 in
theorem idle_any (x : Nat) (t : TenD) (S : Nat → Prop) (M : Nat) (w : World) (h : IdxAt w S x t M) :
    Calls Tryz.prog 69 #[.pointer (some ⟨x, 0, none⟩)] w fun e w' => e = .returned (.bool (idleB t)) ∧ w' = w := by
  obtain ⟨lm, sm, cm, iv, Q, hs, D, h⟩ := h
  have c0 : w.cell? ⟨x, 0, none⟩ = some (.int .i64 t.limit) := h.blk.cell 0
  have c1 : w.cell? ⟨x, 1, none⟩ = some (.map (some lm)) := h.blk.cell 1
  have c2 : w.cell? ⟨x, 2, none⟩ = some (.map (some sm)) := h.blk.cell 2
  have l1 := h.lims.len Tryz.underlying102 3
  have l2 := h.sers.len Tryz.underlying103 3
  rw [size_by] at l1 l2
  have hq : Q.length = t.sers.length := by rw [← h.q1, List.length_map]
  rw [hq] at l2
  clear h hq
  have E : Hid (idleB t = (t.limit == -1 && t.mets.length == 0 && t.sers.length == 0)) := rfl
  generalize t.mets.length = n1 at *
  generalize t.sers.length = n2 at *
  generalize t.limit = L at *
  by_cases h1 : L = -1
  · by_cases h2 : n1 = 0
    · go_enter Tryz.func69, Tryz.ntmps69
      go_wp2
      go_ret
      exact ⟨ret_bool (by rw [E.out, h1, h2]; rw [Bool.eq_iff_iff]; simp), rfl⟩
    · go_enter Tryz.func69, Tryz.ntmps69
      go_wp2
      go_ret
      exact ⟨ret_bool (by rw [E.out, h1]; rw [Bool.eq_iff_iff]; simp [h2]), rfl⟩
  · go_enter Tryz.func69, Tryz.ntmps69
    go_wp2
    go_ret
    exact ⟨ret_bool (by rw [E.out]; rw [Bool.eq_iff_iff]; simp [h1]), rfl⟩
end Go.Proofs.YtojeemogabhaoaaGreatDoor
namespace Go.Proofs.YtojeemogabhaoaaGreatDoor
open Go.RowKit Go.Maps
theorem zeroInt (w : World) : (zeroValue 3).run Tryz.prog w = .ok (.int .i64 0) w := by kernel_rfl
theorem Blk.turn {S : Nat → Prop} {a b : World} {g : Nat} {cur : Array Value} {t : TypeId} (h : Blk a g cur t) (ht : Turn S a b) (hn : ¬ S g) : Blk b g cur t := ht.blk h hn
theorem map_ne_cells {H : Type} {P : Program} {w : World} {k : TypeId} {R : Value → Option (DataW H × List MemPlace)} {b n g : Nat} {D : DataW H} {cur : Array Value} {t : TypeId} (h : w.ownsMap P k R b n D) (hb : Blk w g cur t) : b ≠ g := by
  intro e
  subst e
  obtain ⟨es, clock, hm, _⟩ := h
  rw [Blk, hm] at hb
  simp at hb
theorem map_ne_row {H : Type} {P : Program} {w : World} {k : TypeId} {R : Value → Option (DataW H × List MemPlace)} {b n : Nat} {D : DataW H} {B : Nat} {e : TypeId} {size : Nat} {v : Value} {m : Nat} {xs : List Value} (h : w.ownsMap P k R b n D) (hr : w.ownsRow B e size v m xs) : v.ownBlock ≠ some b := by
  intro hg
  rcases hr.2 with ⟨rfl, _⟩ | ⟨g', cap, cur, rfl, _, hb, _⟩
  · cases hg
  · simp only [Value.ownBlock, Option.some.injEq] at hg
    subst hg
    exact map_ne_cells h hb rfl
theorem IdxS.newLims {w w' : World} {S : Nat → Prop} {x : Nat} {t : TenD} {M lm sm cm n : Nat} {iv : Value} {Q : List (PairD × Nat)} {hs : List SgD} {D E : DataW Unit} {ms : List PairD} (h : IdxS w S x t M lm sm cm iv Q hs D) (ht : Turn (· = lm) w w')
    (hown : w'.ownsMap Tryz.prog 9 (plainElem Tryz.prog 3) lm n E) (hE : E = mapOf (ms.map fun p => (p.s, iVal p.n))) (hr : RiseBy (·.s) ms) : IdxAt w' S x { t with mets := ms } M := by
  subst hE
  refine ⟨lm, sm, cm, iv, Q, hs, D, ?_⟩
  exact { h with
    blk := ht.blk h.blk (map_ne_cells h.lims h.blk).symm
    lims := by have := tight hown; rw [size_by] at this; exact this
    sers := ht.map h.sers h.d1.symm
    cnts := ht.map h.cnts h.d2.symm
    cells := fun q hq => ht.blk (h.cells q hq) (map_ne_cells h.lims (h.cells q hq)).symm
    row := ht.row h.row (fun g hg e => by subst e; exact map_ne_row h.lims h.row hg)
    rm := hr }
theorem add_end {w w2 w3 w4 : World} {S : Nat → Prop} {x : Nat} {t : TenD} {M lm sm cm : Nat} {iv : Value} {Q : List (PairD × Nat)} {hs : List SgD} {D : DataW Unit} {key : ByteArray} {last c : Int} {g cap : Nat} (h : IdxS w S x t M lm sm cm iv Q hs D) (hnew : getBy (·.s) key t.sers = none)
    (t13 : Turn (fun k => k = sm ∨ k = cm) w w3) (own2 : w2.ownsMap Tryz.prog 9 ptrElem sm (Q.length + 1) (DataW.put (mapOf (Q.map fun q => (q.1.s, pVal q.2))) (kL key) (pVal w.heap.size))) (t3 : Turn (· = cm) w2 w3)
    (own4 : w3.ownsMap Tryz.prog 9 (plainElem Tryz.prog 3) cm (M + 1) (D.put (kL (metK key)) (.lit (.int .i64 (c + 1))))) (b3 : Blk w3 w.heap.size #[.string key, .int .i64 last] 61) (hc : c = (cntM metK t.sers (metK key) : Nat))
    (hb4 : Blk w4 x (#[.int .i64 t.limit, .map (some lm), .map (some sm), .map (some cm), iv].setIfInBounds 4 (.slice (some ⟨g, 0, none⟩) (hs.length + 1) cap)) 108)
    (hr4 : w4.ownsRow 0 170 2 (.slice (some ⟨g, 0, none⟩) (hs.length + 1) cap) (hs.length + 1) (flatS (pushL hs ⟨w.heap.size, last⟩))) (hloc : iv.ownBlock = some g ∨ w3.heap.size ≤ g) (t4 : Turn (fun k => k = x ∨ iv.ownBlock = some k) w3 w4) :
    IdxAt w4 (fun g => S g ∨ w.heap.size ≤ g) x { t with sers := insBy (·.s) ⟨key, last⟩ t.sers } (M + 1) ∧ Turn S w w4 := by
  have hxl := lt_of_block h.blk
  have hbl := lt_of_block b3
  have nx1 : sm ≠ x := map_ne_cells h.sers h.blk
  have nx2 : cm ≠ x := map_ne_cells h.cnts h.blk
  have nx0 : lm ≠ x := map_ne_cells h.lims h.blk
  have ni0 := map_ne_row h.lims h.row
  have ni1 := map_ne_row h.sers h.row
  have ni2 := map_ne_row h.cnts h.row
  have qlt : ∀ q ∈ Q, q.2 < w.heap.size := fun q hq => lt_of_block (h.cells q hq)
  have hgetQ : getBy (fun q : PairD × Nat => q.1.s) key Q = none := by
    have := getBy_map (key := fun q : PairD × Nat => q.1.s) (key' := fun p : PairD => p.s) (fun q => q.1) (fun _ => rfl) key Q
    rw [h.q1, hnew] at this
    cases hg : getBy (fun q : PairD × Nat => q.1.s) key Q with
    | none => rfl
    | some q => rw [hg] at this; cases this
  have hpq := insBy_new (key := fun q : PairD × Nat => q.1.s) (a := ((⟨key, last⟩ : PairD), w.heap.size)) hgetQ
  have hps := insBy_new (key := fun p : PairD => p.s) (a := (⟨key, last⟩ : PairD)) hnew
  have hlen : (insBy (fun q : PairD × Nat => q.1.s) ((⟨key, last⟩ : PairD), w.heap.size) Q).length = Q.length + 1 := by rw [hpq.length_eq]; rfl
  have hrq : RiseBy (fun q : PairD × Nat => q.1.s) Q := by
    rw [← riseBy_map (key' := fun p : PairD => p.s) (fun q : PairD × Nat => q.1) (fun _ => rfl), h.q1]
    exact h.rs
  obtain ⟨ph, pp, pl⟩ := pushL_says h.heap ⟨w.heap.size, last⟩
  have hput : DataW.put (mapOf (Q.map fun q => (q.1.s, pVal q.2))) (kL key) (pVal w.heap.size) = mapOf ((insBy (fun q : PairD × Nat => q.1.s) ((⟨key, last⟩ : PairD), w.heap.size) Q).map fun q => (q.1.s, pVal q.2)) :=
    put_by (key := fun q : PairD × Nat => q.1.s) (fun q => pVal q.2) ((⟨key, last⟩ : PairD), w.heap.size) hrq
  have hmemQ : ∀ q, q ∈ insBy (fun q : PairD × Nat => q.1.s) ((⟨key, last⟩ : PairD), w.heap.size) Q → q = ((⟨key, last⟩ : PairD), w.heap.size) ∨ q ∈ Q := fun q hq => insBy_mem hq
  have hbmem : ∀ s ∈ hs, ∃ q ∈ Q, q.2 = s.b := fun s hs' => by
    have := (h.perm.mem_iff (a := s.b)).1 (List.mem_map.2 ⟨s, hs', rfl⟩)
    obtain ⟨q, hq, e⟩ := List.mem_map.1 this
    exact ⟨q, hq, e⟩
  refine ⟨⟨lm, sm, cm, .slice (some ⟨g, 0, none⟩) (hs.length + 1) cap, insBy (fun q : PairD × Nat => q.1.s) ((⟨key, last⟩ : PairD), w.heap.size) Q, pushL hs ⟨w.heap.size, last⟩, D.put (kL (metK key)) (.lit (.int .i64 (c + 1))), ?_⟩, ?_⟩
  · exact {
      blk := hb4
      lims := t4.map (t13.map h.lims (fun e => by rcases e with e | e; exact h.d1 e; exact h.d2 e)) (fun e => by rcases e with e | e; exact nx0 e; exact ni0 e)
      sers := by
        rw [← hput, hlen]
        exact t4.map (t3.map own2 h.d3) (fun e => by rcases e with e | e; exact nx1 e; exact ni1 e)
      cnts := t4.map own4 (fun e => by rcases e with e | e; exact nx2 e; exact ni2 e)
      cnt := fun m => by
        rw [cntM_perm hps m, cntM_cons]
        by_cases e : metK key = m
        · rw [if_pos e, ← e, atKey_put_same (k := kL (metK key)) h.cnts.isMap trivial, hc]; rfl
        · rw [if_neg e, atKey_put_other (fun e' => e (kL_inj e').symm), h.cnt m]; rfl
      q1 := by
        rw [insBy_map (key' := fun p : PairD => p.s) (fun q : PairD × Nat => q.1) (fun _ => rfl), h.q1]
      cells := fun q hq => by
        rcases hmemQ q hq with rfl | hq
        · exact t4.blk b3 (fun e => by rcases e with e | e; simp only at e; omega; have := row_lt h.row _ e; simp only at this; omega)
        · exact t4.blk (t13.blk (h.cells q hq) (fun e => by rcases e with e | e; exact map_ne_cells h.sers (h.cells q hq) e.symm; exact map_ne_cells h.cnts (h.cells q hq) e.symm)) (fun e => by rcases e with e | e; exact h.dx q hq e; exact (h.di _ e).2 q hq rfl)
      row := by rw [pl]; exact hr4
      heap := ph
      perm := by
        refine (pp.map _).trans ?_
        refine List.Perm.trans ?_ (hpq.map _).symm
        exact List.Perm.cons _ h.perm
      early := fun s hs' q hq e => by
        rcases List.mem_cons.1 ((pp.mem_iff).1 hs') with rfl | hs'
        · rcases hmemQ q hq with rfl | hq
          · exact Int.le_refl _
          · have := qlt q hq; simp only at e; omega
        · rcases hmemQ q hq with rfl | hq
          · obtain ⟨q', hq', e'⟩ := hbmem s hs'
            have := qlt q' hq'; simp only at e; omega
          · exact h.early s hs' q hq e
      rm := h.rm
      rs := insBy_rise h.rs
      sx := Or.inl h.sx
      sl := Or.inl h.sl
      ss := Or.inl h.ss
      sc := Or.inl h.sc
      sq := fun q hq => by
        rcases hmemQ q hq with rfl | hq
        · exact Or.inr (Nat.le_refl _)
        · exact Or.inl (h.sq q hq)
      si := fun g' hg' => by
        simp only [Value.ownBlock, Option.some.injEq] at hg'
        subst hg'
        rcases hloc with e | e
        · exact Or.inl (h.si g e)
        · exact Or.inr (by have := t13.size; omega)
      d1 := h.d1
      d2 := h.d2
      d3 := h.d3
      nd := by
        rw [(hpq.map _).nodup_iff, List.map_cons, List.nodup_cons]
        refine ⟨fun hm => ?_, h.nd⟩
        obtain ⟨q, hq, e⟩ := List.mem_map.1 hm
        have := qlt q hq; simp only at e; omega
      dx := fun q hq => by
        rcases hmemQ q hq with rfl | hq
        · simp only; omega
        · exact h.dx q hq
      di := fun g' hg' => by
        simp only [Value.ownBlock, Option.some.injEq] at hg'
        subst hg'
        rcases hloc with e | e
        · refine ⟨(h.di g e).1, fun q hq => ?_⟩
          rcases hmemQ q hq with rfl | hq
          · have := row_lt h.row g e; simp only; omega
          · exact (h.di g e).2 q hq
        · refine ⟨by omega, fun q hq => ?_⟩
          rcases hmemQ q hq with rfl | hq
          · simp only; omega
          · have := qlt q hq; omega }
  · refine (t13.mono fun k _ e => by rcases e with rfl | rfl; exact h.ss; exact h.sc).trans (t4.mono fun k _ e => ?_)
    rcases e with rfl | e
    · exact Or.inl h.sx
    · exact Or.inl (h.si _ e)
set_option maxRecDepth 100000 in
set_option maxHeartbeats 4000000 in
theorem add_any (x : Nat) (t : TenD) (key : ByteArray) (last : Int) (S : Nat → Prop) (M : Nat) (w : World) (h : IdxAt w S x t M) (hnew : getBy (·.s) key t.sers = none) (hk : key.size ≤ maxLen) (hm : (metK key).size ≤ maxLen) (hM : M ≤ 1000000000) (hl : t.sers.length ≤ 1000000000) :
    Calls Tryz.prog 113 #[.pointer (some ⟨x, 0, none⟩), .string key, .string (metK key), .int .i64 last] w fun e w' => e = .returned (.tuple #[]) ∧ IdxAt w' (fun g => S g ∨ w.heap.size ≤ g) x { t with sers := insBy (·.s) ⟨key, last⟩ t.sers } (M + 1) ∧ Turn S w w' := by
  obtain ⟨lm, sm, cm, iv, Q, hs, D, h⟩ := h
  have HK : Hid (keyOf Tryz.prog 9 (.string key) = some (kL key)) := key_mk hk
  have HM : Hid (keyOf Tryz.prog 9 (.string (metK key)) = some (kL (metK key))) := key_mk hm
  have hQ : Q.length = t.sers.length := by rw [← h.q1, List.length_map]
  have hH : hs.length = Q.length := by have := h.perm.length_eq; simpa using this
  have HI : Hid (IdxS w S x t M lm sm cm iv Q hs D) := h
  have hxl := lt_of_block h.blk
  obtain ⟨w1, hw1⟩ : ∃ W, W = w.alloc (.cells #[.string key, .int .i64 last] 61) := ⟨_, rfl⟩
  have t1 : Turn (fun _ => False) w w1 := by rw [hw1]; exact Turn.of (bnew _ _)
  have b1 : Blk w1 w.heap.size #[.string key, .int .i64 last] 61 := by rw [hw1]; exact Blk.new _ _ _
  obtain ⟨w2, run2, own2, gr2⟩ := (t1.map h.sers (fun e => e)).update keyed Tryz.underlying103 (by unfold maxLen; omega) HK.out (ptrElem_mk w.heap.size)
  have t2 : Turn (· = sm) w1 w2 := (Turn.grown gr2).mono fun i _ e => by simp only [Option.some.injEq] at e; exact e.symm
  have t12 : Turn (· = sm) w w2 := (t1.mono fun _ _ e => e.elim).trans' t2
  have own3 := t12.map h.cnts (Ne.symm h.d3)
  obtain ⟨c, runL, hat, hwc⟩ := own3.lookup_int keyed Tryz.underlying102 Tryz.underlying3 (zeroInt _) HM.out
  have hc : c = (cntM metK t.sers (metK key) : Nat) := by
    have := h.cnt (metK key)
    unfold iVal at this
    rw [hat] at this
    simpa using this
  have hc0 := cntM_le metK t.sers (metK key)
  have hcl : 0 ≤ c := by omega
  have hcu : c ≤ 1000000000 := by omega
  obtain ⟨w3, run3, own4, gr3⟩ := own3.update keyed Tryz.underlying102 (by unfold maxLen; omega) (val := .int .i64 (c + 1)) HM.out (plainElem_int Tryz.underlying3 (WalkArith.wf_i64 (by omega)))
  have t3 : Turn (· = cm) w2 w3 := (Turn.grown gr3).mono fun i _ e => by simp only [Option.some.injEq] at e; exact e.symm
  have t13 : Turn (fun k => k = sm ∨ k = cm) w w3 := (t12.mono fun _ _ e => Or.inl e).trans' (t3.mono fun _ _ e => Or.inr e)
  have nx1 : sm ≠ x := map_ne_cells h.sers h.blk
  have nx2 : cm ≠ x := map_ne_cells h.cnts h.blk
  have blk1 : Blk w1 x _ _ := t1.blk h.blk (fun e => e)
  have blk2 : Blk w2 x _ _ := t12.blk h.blk nx1.symm
  have blk3 : Blk w3 x _ _ := t13.blk h.blk (fun e => by rcases e with e | e; exact nx1 e.symm; exact nx2 e.symm)
  have row3 := t13.row h.row (fun g hg e => by rcases e with rfl | rfl; exact map_ne_row h.sers h.row hg; exact map_ne_row h.cnts h.row hg)
  have c1 : w1.cell? ⟨x, 2, none⟩ = some (.map (some sm)) := blk1.cell 2
  have c2 : w2.cell? ⟨x, 3, none⟩ = some (.map (some cm)) := blk2.cell 3
  have HP : Hid (Calls Tryz.prog 126 #[.pointer (some ⟨x, 4, none⟩), .agg #[.pointer (some ⟨w.heap.size, 0, none⟩), .int .i64 last]] w3 fun e w' => e = .returned (.tuple #[]) ∧ ∃ g cap, Blk w' x (#[.int .i64 t.limit, .map (some lm), .map (some sm), .map (some cm), iv].setIfInBounds 4 (.slice (some ⟨g, 0, none⟩) (hs.length + 1) cap)) 108 ∧
      w'.ownsRow 0 170 2 (.slice (some ⟨g, 0, none⟩) (hs.length + 1) cap) (hs.length + 1) (flatS (pushL hs ⟨w.heap.size, last⟩)) ∧ (iv.ownBlock = some g ∨ w3.heap.size ≤ g) ∧ Turn (fun k => k = x ∨ iv.ownBlock = some k) w3 w') :=
    push_any x 4 0 iv hs ⟨w.heap.size, last⟩ w3 _ _ blk3 rfl row3 (fun e => (h.di x e).1 rfl) (Nat.zero_le _) (by omega)
  have T13 : Hid (Turn (fun k => k = sm ∨ k = cm) w w3) := t13
  have OWN2 : Hid (w2.ownsMap Tryz.prog 9 ptrElem sm (Q.length + 1) (DataW.put (mapOf (Q.map fun q => (q.1.s, pVal q.2))) (kL key) (pVal w.heap.size))) := own2
  have OWN4 : Hid (w3.ownsMap Tryz.prog 9 (plainElem Tryz.prog 3) cm (M + 1) (D.put (kL (metK key)) (.lit (.int .i64 (c + 1))))) := own4
  have T3 : Hid (Turn (· = cm) w2 w3) := t3
  have B3 : Hid (Blk w3 w.heap.size #[.string key, .int .i64 last] 61) := ((t2.mono (S' := fun k => k = sm ∨ k = cm) fun _ _ e => Or.inl e).trans' (t3.mono fun _ _ e => Or.inr e)).blk b1 (fun e => by have := h.sers.lt; have := h.cnts.lt; rcases e with e | e <;> omega)
  have HCD : Hid (c = (cntM metK t.sers (metK key) : Nat)) := hc
  rw [hw1] at run2 c1
  clear h hk hm hw1 t1 b1 own2 gr2 t2 t12 own3 hat hwc hc hc0 own4 gr3 t3 t13 blk1 blk2 blk3 row3
  go_enter Tryz.func113, Tryz.ntmps113
  go_wp2_with fail
  refine HP.out.mono ?_
  rintro e w4 ⟨rfl, g, cap, hb4, hr4, hloc, ht4⟩
  have HF := add_end HI.out hnew T13.out OWN2.out T3.out OWN4.out B3.out HCD.out hb4 hr4 hloc ht4
  clear HP HI T13 OWN2 T3 OWN4 B3 hb4 hr4 hloc ht4
  have HFF : Hid _ := hid HF
  clear HF
  go_wp2
  go_end0
  exact ⟨rfl, HFF.out⟩
end Go.Proofs.YtojeemogabhaoaaGreatDoor
