import Derived.Test.YtflfopienjjlbaaGreatDoorProg
import Derived.Test.YtflfopienjjlbaaGreatDoorJ31SLgP
import Derived.Deep.MidRow
import Derived.Test.YtflfopienjjlbaaGreatDoorJ10SFrame
import Derived.Test.YtflfopienjjlbaaGreatDoorJ18Mark2
import Derived.Test.YtflfopienjjlbaaGreatDoorJ07Crash
namespace Go.Proofs.YtflfopienjjlbaaGreatDoor
open Go.RowKit

/-- What the law keeps in memory: the disk's box, the log's, the files, the payloads. -/
structure FlAt (w wr : World) (P Q : Nat) (K : DiskD) (L : LogD) (a : Option Addr) (cap : Nat) (pv : Value) (ps : List ByteArray) : Prop where
  pd : w.heap.size ≤ P
  qd : w.heap.size ≤ Q
  ne : P ≠ Q
  dk : Blk wr P #[.slice a K.fs.length cap, .int .i64 K.c, .int .i64 K.k, .int .i64 K.cr, .int .i64 K.fl, .bool K.dn] 28
  lg : Blk wr Q #[.int .i64 L.first, .int .i64 L.last, .int .i64 L.size] 30
  fi : FilesIn wr a K.fs
  row : wr.ownsRow w.heap.size 9 1 pv ps.length (ps.map Value.string)
  be : Below w.heap.size w wr
  ap : ∀ q, pv.ownBlock = some q → Apart a K.fs q
theorem FlAt.later {w wr wy : World} {P Q : Nat} {K : DiskD} {L : LogD} {a : Option Addr} {cap : Nat} {pv : Value} {ps : List ByteArray} (h : FlAt w wr P Q K L a cap pv ps) (hb : Below wr.heap.size wr wy) : FlAt w wy P Q K L a cap pv ps :=
  ⟨h.pd, h.qd, h.ne, h.dk.later hb, h.lg.later hb, h.fi.later hb, row_later h.row hb, bto h.be hb, h.ap⟩
theorem row_butO {w w' : World} {B g : Nat} {e : TypeId} {size : Nat} {v : Value} {n : Nat} {xs : List Value} (h : w.ownsRow B e size v n xs) (hb : But g w w') (hne : v.ownBlock ≠ some g) : w'.ownsRow B e size v n xs := by
  obtain ⟨h0, h1⟩ := h
  refine ⟨h0, ?_⟩
  rcases h1 with h1 | ⟨k, cap, cur, e1, hB, hg, h2⟩
  · exact Or.inl h1
  · refine Or.inr ⟨k, cap, cur, e1, hB, (hb.block k (lt_of_block hg) (fun e => hne ?_)).trans hg, h2⟩
    rw [e1, e]; rfl
theorem fill_row {wr : World} {P Q B : Nat} {v : Value} {n : Nat} {xs : List Value} {z0 z1 z2 z3 z4 z5 y0 y1 y2 v0 v1 v2 v3 v4 v5 x0 x1 x2 : Value} (h : wr.ownsRow B 9 1 v n xs) (hP : Blk wr P #[z0, z1, z2, z3, z4, z5] 28) (hQ : Blk wr Q #[y0, y1, y2] 30) : (fillPQ P Q wr v0 v1 v2 v3 v4 v5 x0 x1 x2).ownsRow B 9 1 v n xs := by
  have h1 := row_butO h (but_fill (P := P) v0 v1 v2 v3 v4 v5) (row_neO h hP (by decide))
  exact row_butO h1 ((((But.refl Q _).setCell _ _).setCell _ _).setCell _ _) (row_neO h hQ (by decide))
/-- The disk and the log at hand become others. -/
theorem FlAt.take {w wr : World} {P Q : Nat} {K K' : DiskD} {L L' : LogD} {a a' : Option Addr} {cap cap' : Nat} {pv : Value} {ps : List ByteArray} (h : FlAt w wr P Q K L a cap pv ps) (hf : FilesIn wr a' K'.fs) (hap : ∀ q, pv.ownBlock = some q → Apart a' K'.fs q) :
    FlAt w (fillPQ P Q wr (.slice a' K'.fs.length cap') (.int .i64 K'.c) (.int .i64 K'.k) (.int .i64 K'.cr) (.int .i64 K'.fl) (.bool K'.dn) (.int .i64 L'.first) (.int .i64 L'.last) (.int .i64 L'.size)) P Q K' L' a' cap' pv ps := by
  obtain ⟨h1, h2⟩ := fillPQ_blks (v0 := .slice a' K'.fs.length cap') (v1 := .int .i64 K'.c) (v2 := .int .i64 K'.k) (v3 := .int .i64 K'.cr) (v4 := .int .i64 K'.fl) (v5 := .bool K'.dn) (x0 := .int .i64 L'.first) (x1 := .int .i64 L'.last) (x2 := .int .i64 L'.size) h.ne h.dk h.lg
  exact ⟨h.pd, h.qd, h.ne, h1, h2, fillPQ_files hf (apart_disk hf h.dk) (apart_log hf h.lg), fill_row h.row h.dk h.lg, fillPQ_below h.be h.pd h.qd, hap⟩
/-- The disk at hand becomes another. -/
theorem FlAt.six {w wr : World} {P Q : Nat} {K K' : DiskD} {L : LogD} {a a' : Option Addr} {cap cap' : Nat} {pv : Value} {ps : List ByteArray} (h : FlAt w wr P Q K L a cap pv ps) (hf : FilesIn wr a' K'.fs) (hap : ∀ q, pv.ownBlock = some q → Apart a' K'.fs q) :
    FlAt w ((((((wr.setCell ⟨P, 0, none⟩ (.slice a' K'.fs.length cap')).setCell ⟨P, 1, none⟩ (.int .i64 K'.c)).setCell ⟨P, 2, none⟩ (.int .i64 K'.k)).setCell ⟨P, 3, none⟩ (.int .i64 K'.cr)).setCell ⟨P, 4, none⟩ (.int .i64 K'.fl)).setCell ⟨P, 5, none⟩ (.bool K'.dn)) P Q K' L a' cap' pv ps := by
  refine ⟨h.pd, h.qd, h.ne, blk_fill h.dk, blk_six h.lg (Ne.symm h.ne), hf.apart (apart_disk hf h.dk) (but_fill _ _ _ _ _ _), row_butO h.row (but_fill _ _ _ _ _ _) (row_neO h.row h.dk (by decide)), ?_, hap⟩
  exact (((((h.be.setCell h.pd _).setCell h.pd _).setCell h.pd _).setCell h.pd _).setCell h.pd _).setCell h.pd _
theorem FlAt.new {w w1 : World} {K : DiskD} {L : LogD} {a : Option Addr} {cap : Nat} {pv : Value} {ps : List ByteArray} (hf : FilesIn w1 a K.fs) (hr : w1.ownsRow w.heap.size 9 1 pv ps.length (ps.map Value.string)) (hb : Below w.heap.size w w1) (hap : ∀ q, pv.ownBlock = some q → Apart a K.fs q) :
    FlAt w ((w1.alloc (.cells #[.slice a K.fs.length cap, .int .i64 K.c, .int .i64 K.k, .int .i64 K.cr, .int .i64 K.fl, .bool K.dn] 28)).alloc (.cells #[.int .i64 L.first, .int .i64 L.last, .int .i64 L.size] 30)) w1.heap.size (w1.heap.size + 1) K L a cap pv ps := by
  have hs := hb.size
  have h2 := blk_new (w1.alloc (.cells #[.slice a K.fs.length cap, .int .i64 K.c, .int .i64 K.k, .int .i64 K.cr, .int .i64 K.fl, .bool K.dn] 28)) #[.int .i64 L.first, .int .i64 L.last, .int .i64 L.size] 30
  refine ⟨hs, by omega, by omega, (blk_new w1 _ _).later (bnew _ _), by simpa using h2, (hf.later (bnew _ _)).later (bnew _ _), row_later (row_later hr (bnew _ _)) (bnew _ _), bto (bto hb (bnew _ _)) (bnew _ _), hap⟩
theorem FilesIn.grownA {w w' : World} {a : Option Addr} {fs : List FileD} {row : Option Nat} (h : FilesIn w a fs) (hg : w.grownBy w' row) (ha : ∀ q, row = some q → Apart a fs q) : FilesIn w' a fs := by
  rcases h with h | ⟨b, o, e, hlt, h⟩
  · exact Or.inl h
  · by_cases hn : fs = []
    · exact Or.inl hn
    · have hne : row ≠ some b := fun er => by
        rcases ha b er with h0 | ⟨b', o', e', hb'⟩
        · exact hn h0
        · rw [e] at e'
          simp only [Option.some.injEq, Addr.mk.injEq] at e'
          exact hb' e'.1.symm
      have hbk := hg.block b hlt (fun e => hne e.symm)
      refine Or.inr ⟨b, o, e, Nat.lt_of_lt_of_le hlt hg.size, fun i hi => ?_⟩
      obtain ⟨c0, c1, c2⟩ := h i hi
      exact ⟨(World.cell?_of_block hbk).trans c0, (World.cell?_of_block hbk).trans c1, (World.cell?_of_block hbk).trans c2⟩
/-- One more payload. -/
theorem FlAt.app {w wr w5 : World} {P Q : Nat} {K : DiskD} {L : LogD} {a : Option Addr} {cap : Nat} {pv : Value} {ps : List ByteArray} {p : ByteArray} {g5 cap5 : Nat} (h : FlAt w wr P Q K L a cap pv ps) (ho : w5.ownsRow w.heap.size 9 1 (.slice (some ⟨g5, 0, none⟩) (ps.length + 1) cap5) (ps.length + 1) (ps.map Value.string ++ [.string p]))
    (hg : wr.grownBy w5 pv.ownBlock) (hat : pv.ownBlock = some g5 ∨ g5 = wr.heap.size) : FlAt w w5 P Q K L a cap (.slice (some ⟨g5, 0, none⟩) (ps ++ [p]).length cap5) (ps ++ [p]) := by
  have e1 : (ps ++ [p]).length = ps.length + 1 := by simp
  have e2 : (ps ++ [p]).map Value.string = ps.map Value.string ++ [.string p] := by simp
  refine ⟨h.pd, h.qd, h.ne, blk_grownO h.dk hg (row_neO h.row h.dk (by decide)), blk_grownO h.lg hg (row_neO h.row h.lg (by decide)), h.fi.grownA hg h.ap, by rw [e1, e2]; exact ho, h.be.grown hg h.be.size (fun q hq => ?_), fun q hq => ?_⟩
  · rcases h.row.2 with ⟨he, _⟩ | ⟨k, c, cur, he, hB, _⟩
    · rw [he] at hq; simp [Value.ownBlock] at hq
    · rw [he] at hq; simp [Value.ownBlock] at hq; omega
  · simp only [Value.ownBlock, Option.some.injEq] at hq
    subst hq
    rcases hat with hat | hat
    · exact h.ap _ hat
    · rcases h.fi with h0 | ⟨b, o, e, hlt, _⟩
      · exact Or.inl h0
      · exact Or.inr ⟨b, o, e, by omega⟩
/-- Files that are newer than the row. -/
theorem ap_new {wr w' : World} {B : Nat} {a : Option Addr} {fs : List FileD} {pv : Value} {n : Nat} {xs : List Value} (hr : wr.ownsRow B 9 1 pv n xs) (ho : Owned w' wr.heap.size a fs) : ∀ q, pv.ownBlock = some q → Apart a fs q := by
  intro q hq
  rcases hr.2 with ⟨he, _⟩ | ⟨k, c, cur, he, hB, hk, _⟩
  · rw [he] at hq; simp [Value.ownBlock] at hq
  · rw [he] at hq
    simp only [Value.ownBlock, Option.some.injEq] at hq
    subst hq
    have hlt := lt_of_block hk
    rcases ho with h0 | ⟨g, o, cur, t, e, hg, _⟩
    · exact Or.inl h0
    · exact Or.inr ⟨g, o, e, by omega⟩
theorem Blk.thereAll {w : World} {b : Nat} {cur : Array Value} {t : TypeId} (h : Blk w b cur t) {n : Nat} (hn : n = cur.size) : w.there b 0 n := fun j hj => by
  obtain ⟨v, hv⟩ := h.there (j := j) (by omega)
  rw [Nat.zero_add, hv]
  exact ⟨rfl, h.free j⟩
theorem FlAt.thereP {w wr : World} {P Q : Nat} {K : DiskD} {L : LogD} {a : Option Addr} {cap : Nat} {pv : Value} {ps : List ByteArray} (h : FlAt w wr P Q K L a cap pv ps) : wr.there P 0 6 := h.dk.thereAll rfl
theorem FlAt.thereQ {w wr : World} {P Q : Nat} {K : DiskD} {L : LogD} {a : Option Addr} {cap : Nat} {pv : Value} {ps : List ByteArray} (h : FlAt w wr P Q K L a cap pv ps) (v0 v1 v2 v3 v4 v5 : Value) : (wr.setCells P 0 [v0, v1, v2, v3, v4, v5]).there Q 0 3 := by
  have := blk_six (v0 := v0) (v1 := v1) (v2 := v2) (v3 := v3) (v4 := v4) (v5 := v5) h.lg (Ne.symm h.ne)
  exact Blk.thereAll (cur := #[.int .i64 L.first, .int .i64 L.last, .int .i64 L.size]) (t := 30) this rfl
theorem FlAt.takeS {w wr : World} {P Q : Nat} {K K' : DiskD} {L L' : LogD} {a a' : Option Addr} {cap cap' : Nat} {pv : Value} {ps : List ByteArray} (h : FlAt w wr P Q K L a cap pv ps) (hf : FilesIn wr a' K'.fs) (hap : ∀ q, pv.ownBlock = some q → Apart a' K'.fs q) :
    FlAt w ((wr.setCells P 0 [.slice a' K'.fs.length cap', .int .i64 K'.c, .int .i64 K'.k, .int .i64 K'.cr, .int .i64 K'.fl, .bool K'.dn]).setCells Q 0 [.int .i64 L'.first, .int .i64 L'.last, .int .i64 L'.size]) P Q K' L' a' cap' pv ps := h.take hf hap
theorem FlAt.sixS {w wr : World} {P Q : Nat} {K K' : DiskD} {L : LogD} {a a' : Option Addr} {cap cap' : Nat} {pv : Value} {ps : List ByteArray} (h : FlAt w wr P Q K L a cap pv ps) (hf : FilesIn wr a' K'.fs) (hap : ∀ q, pv.ownBlock = some q → Apart a' K'.fs q) :
    FlAt w (wr.setCells P 0 [.slice a' K'.fs.length cap', .int .i64 K'.c, .int .i64 K'.k, .int .i64 K'.cr, .int .i64 K'.fl, .bool K'.dn]) P Q K' L a' cap' pv ps := h.six hf hap
theorem ap_old {wr w' : World} {B B' : Nat} {a : Option Addr} {fs : List FileD} {pv : Value} {n : Nat} {xs : List Value} (hr : wr.ownsRow B 9 1 pv n xs) (hs : wr.heap.size ≤ B') (ho : Owned w' B' a fs) : ∀ q, pv.ownBlock = some q → Apart a fs q := by
  refine ap_new (w' := w') hr ?_
  rcases ho with h0 | ⟨g, o, cur, t, e, hg, h⟩
  · exact Or.inl h0
  · exact Or.inr ⟨g, o, cur, t, e, by omega, h⟩
/-- A call of a function of the program's own, at a step of a region that draws its order. -/
theorem step_enterF {P : Program} {w : World} {ops : Array Oper} {o : Oper} {a : Act} {K : Act → World → Prop} {Q : Exit → Act → World → Prop} {E : Prop} {f : FuncId} {args : Array Value} (hgd : o.guard = none) (hx : (execOp a.eval o).run P w = .ok (.enter f args) w)
    (h : Calls P f args w (fun e w' => ∃ v, e = .returned v ∧ K (a.put o.dst v) w')) : if Region.wanted o (yielded ops a.tmps) = true then Oper.wp P o a w K Q else E := by
  have hw : Region.wanted o (yielded ops a.tmps) = true := by simp [Region.wanted, hgd]
  rw [if_pos hw]
  unfold Oper.wp
  rw [hx]
  refine h.mono ?_
  rintro e w' ⟨v, rfl, hK⟩
  exact hK
end Go.Proofs.YtflfopienjjlbaaGreatDoor

namespace Go.Proofs.YtflfopienjjlbaaGreatDoor
open Go.RowKit

/-- Frames one behind another. -/
def joinF : List ByteArray → ByteArray
  | [] => ByteArray.empty
  | p :: r => frameS p ++ joinF r
def PayOK (p : ByteArray) : Prop := 1 ≤ p.size ∧ p.size ≤ 60000
def Pays (l : List ByteArray) : Prop := ∀ p ∈ l, PayOK p
theorem joinF_snoc (p : ByteArray) : ∀ l, joinF (l ++ [p]) = joinF l ++ frameS p
  | [] => by simp [joinF]
  | q :: l => by simp only [List.cons_append, joinF, joinF_snoc p l, ByteArray.append_assoc]
theorem num4_len (v : Int) : (numS 4 v).data.toList.length = 4 := by rw [bytes_size, numS_size]
theorem frame_list {p : ByteArray} (h : PayOK p) (r : ByteArray) : (frameS p ++ r).data.toList = (numS 4 (p.size : Nat)).data.toList ++ ((numS 4 (crcV p : Nat)).data.toList ++ (p.data.toList ++ r.data.toList)) := by
  rw [frameS, if_pos (show 1 ≤ p.size ∧ p.size ≤ 60000 from h), bytes_append, bytes_append, bytes_append]
  simp only [List.append_assoc]
theorem frame_head {p : ByteArray} (h : PayOK p) (r : ByteArray) : headN (frameS p ++ r) = p.size := by
  have hs : p.size < 256 ^ 4 := by have := h.2; omega
  unfold headN sectL
  rw [frame_list h, List.drop_zero, List.take_left' (num4_len _), be_numS 4 _ hs]
theorem frame_crc {p : ByteArray} (h : PayOK p) (r : ByteArray) : beL (sectL (frameS p ++ r) 4 4) = crcV p := by
  have hs : crcV p < 256 ^ 4 := by have := crcV_lt p; omega
  unfold sectL
  rw [frame_list h, List.drop_left' (num4_len _), List.take_left' (num4_len _), be_numS 4 _ hs]
theorem frame_pay {p : ByteArray} (h : PayOK p) (r : ByteArray) : (frameS p ++ r).extract 8 (8 + p.size) = p := by
  apply bytes_ext
  rw [bytes_part, sectL, frame_list h, show (8 : Nat) = 4 + 4 from rfl, ← List.drop_drop, List.drop_left' (num4_len _), List.drop_left' (num4_len _), List.take_left' (bytes_size p)]
theorem frame_at {p : ByteArray} (h : PayOK p) (r : ByteArray) : FrameAt (frameS p ++ r) := by
  have hz : (frameS p ++ r).size = 8 + p.size + r.size := by rw [ByteArray.size_append, frameS_size h]
  refine ⟨by omega, ?_, ?_, ?_, ?_⟩
  · rw [frame_head h]; exact h.1
  · rw [frame_head h]; exact h.2
  · rw [frame_head h]; omega
  · rw [frame_head h, frame_pay h, frame_crc h]
theorem tailF_of (a b : ByteArray) : (a ++ b).extract a.size (a ++ b).size = b := by
  have := bytes_part (a ++ b) a.size b.size
  apply bytes_ext
  rw [show (a ++ b).size = a.size + b.size from ByteArray.size_append, this, sectL, bytes_append, List.drop_left' (bytes_size a), List.take_of_length_le (by rw [bytes_size]; exact Nat.le_refl _)]
theorem headF_of (a b : ByteArray) : (a ++ b).extract 0 a.size = a := by
  have := bytes_part (a ++ b) 0 a.size
  rw [Nat.zero_add] at this
  apply bytes_ext
  rw [this, sectL, bytes_append, List.drop_zero, List.take_left' (bytes_size a)]
theorem joinF_cons_app (p : ByteArray) (l : List ByteArray) (t : ByteArray) : joinF (p :: l) ++ t = frameS p ++ (joinF l ++ t) := by rw [joinF, ByteArray.append_assoc]
theorem scanR_join (t : ByteArray) (ht : ¬ FrameAt t) : ∀ (l : List ByteArray) (pre : ByteArray) (n : Nat), Pays l → l.length < n → scanR (pre ++ (joinF l ++ t)) n pre.size = (l, pre.size + (joinF l).size)
  | _, _, 0, _, hn => absurd hn (Nat.not_lt_zero _)
  | [], pre, n + 1, _, _ => by
    have e : joinF [] ++ t = t := by simp [joinF]
    rw [scanR, tailF_of, e, if_neg ht]
    simp [joinF]
  | p :: l, pre, n + 1, hp, hn => by
    have h1 : PayOK p := hp p (by simp)
    have ih := scanR_join t ht l (pre ++ frameS p) n (fun q hq => hp q (by simp [hq])) (by simpa using hn)
    rw [ByteArray.append_assoc, ← joinF_cons_app, ByteArray.size_append, frameS_size h1] at ih
    rw [scanR, tailF_of, joinF_cons_app, if_pos (frame_at h1 _)]
    simp only [frame_head h1, frame_pay h1]
    rw [← joinF_cons_app, show pre.size + 8 + p.size = pre.size + (8 + p.size) by omega, ih]
    simp only [joinF, ByteArray.size_append, frameS_size h1, Prod.mk.injEq, true_and]
    omega
theorem joinF_len : ∀ {l : List ByteArray}, Pays l → 9 * l.length ≤ (joinF l).size
  | [], _ => by simp [joinF]
  | p :: l, hp => by
    have h1 : PayOK p := hp p (by simp)
    have ih := joinF_len (l := l) (fun q hq => hp q (by simp [hq]))
    have := h1.1
    simp only [joinF, ByteArray.size_append, frameS_size h1, List.length_cons]
    omega
/-- Frames and a beginning that is none scan to the frames' payloads. -/
theorem scanV_join {t : ByteArray} (ht : ¬ FrameAt t) {l : List ByteArray} (hl : Pays l) : scanV (joinF l ++ t) = (l, (joinF l).size) := by
  have h9 := joinF_len hl
  have hz : (joinF l ++ t).size = (joinF l).size + t.size := ByteArray.size_append
  have h := scanR_join t ht l ByteArray.empty ((joinF l ++ t).size + 1) hl (by omega)
  have e : ByteArray.empty ++ (joinF l ++ t) = joinF l ++ t := ByteArray.empty_append
  rw [e] at h
  unfold scanV
  simpa using h
/-- What is no whole frame is no frame. -/
theorem torn_no {m : ByteArray} (hm : PayOK m) {k : Nat} (hk : k < 8 + m.size) : ¬ FrameAt ((frameS m).extract 0 k) := by
  intro h
  have hz : ((frameS m).extract 0 k).size = k := by rw [ByteArray.size_extract, frameS_size hm]; omega
  obtain ⟨h8, _, _, h3, _⟩ := h
  rw [hz] at h8 h3
  have hl : ((frameS m).extract 0 k).data.toList = (frameS m).data.toList.take k := by
    have := bytes_part (frameS m) 0 k
    rw [Nat.zero_add] at this
    rw [this, sectL, List.drop_zero]
  have hh : headN ((frameS m).extract 0 k) = m.size := by
    have h0 := frame_head hm ByteArray.empty
    rw [ByteArray.append_empty] at h0
    rw [← h0]
    unfold headN sectL
    rw [hl, List.drop_zero, List.drop_zero, List.take_take, Nat.min_eq_left (by omega)]
  rw [hh] at h3
  omega
theorem none_no : ¬ FrameAt ByteArray.empty := fun h => by have := h.1; simp at this
end Go.Proofs.YtflfopienjjlbaaGreatDoor

namespace Go.Proofs.YtflfopienjjlbaaGreatDoor
open Go.RowKit

/-- The files' names are those of the segments from 1 on. -/
def Nmd (fs : List FileD) : Prop := ∀ i (h : i < fs.length), fs[i].name = segS ((i : Int) + 1)
theorem seg_lt {m n : Nat} (h : m < n) (hn : n < 1000000) (h1 : 1 ≤ m) : Op.bytesLess (segS (m : Int)).toList (segS (n : Int)).toList = true := by
  rw [segS_is _ (by omega) (by omega), segS_is _ (by omega) (by omega), Int.toNat_natCast, Int.toNat_natCast]
  by_cases hb : Op.bytesLess (segN m).toList (segN n).toList = true
  · exact hb
  · have hne : (segN m).toList ≠ (segN n).toList := fun e => by
      have e2 := congrArg segOf (toList_inj e)
      rw [segOf_segN (by omega), segOf_segN hn] at e2
      omega
    have := segN_less hn (by omega) (less_total _ _ (by simpa using hb) hne)
    omega
theorem Nmd.asc {fs : List FileD} (h : Nmd fs) (hl : fs.length ≤ 1000) : Asc fs := by
  intro i j hi hj
  rw [h i (by omega), h j hj]
  exact seg_lt (m := i + 1) (n := j + 1) (by omega) (by omega) (by omega)
theorem Nmd.pos_new {fs : List FileD} (h : Nmd fs) (hl : fs.length ≤ 1000) : posOf (segS ((fs.length : Int) + 1)) fs = fs.length := by
  refine (posOf_is _ (h.asc hl)).uniq ⟨Nat.le_refl _, fun j hj _ => ?_, fun j hj hge => absurd hj (by omega)⟩
  rw [h j hj]
  exact seg_lt (m := j + 1) (n := fs.length + 1) (by omega) (by omega) (by omega)
theorem Nmd.pos_last {pre : List FileD} {f : FileD} (h : Nmd (pre ++ [f])) (hl : pre.length < 1000) : posOf (segS ((pre.length : Int) + 1)) (pre ++ [f]) = pre.length :=
  pos_seg (h.asc (by simp; omega)) (by simp) (h pre.length (by simp))
theorem Nmd.name_last {pre : List FileD} {f : FileD} (h : Nmd (pre ++ [f])) : f.name = segS ((pre.length : Int) + 1) := by
  have := h pre.length (by simp)
  simpa using this
theorem fl_create {fs : List FileD} {c : Int} (h : Nmd fs) (hl : fs.length < 1000) : doR fs c (opCreate ((fs.length : Int) + 1)) = (0, fs ++ [⟨segS ((fs.length : Int) + 1), ByteArray.empty, 0⟩]) := by
  have hp : posOf (opCreate ((fs.length : Int) + 1)).name fs = fs.length := h.pos_new (by omega)
  have hb : hasB fs (opCreate ((fs.length : Int) + 1)).name fs.length = false := by unfold hasB; rw [List.getElem?_eq_none (Nat.le_refl _)]
  unfold doR
  simp only [hp, hb]
  rw [if_pos (show (opCreate ((fs.length : Int) + 1)).kind = 1 from rfl), if_neg (by decide), if_neg (by omega)]
  simp [insL, opCreate]
theorem has_last {pre : List FileD} {f : FileD} (h : Nmd (pre ++ [f])) : hasB (pre ++ [f]) (segS ((pre.length : Int) + 1)) pre.length = true := by
  unfold hasB
  rw [List.getElem?_append_right (Nat.le_refl _), Nat.sub_self]
  simp only [List.getElem?_cons_zero]
  rw [h.name_last]
  simp
theorem fl_append {pre : List FileD} {f : FileD} {c : Int} {t : ByteArray} (h : Nmd (pre ++ [f])) (hl : pre.length < 1000) (hc : (sumLen (pre ++ [f]) : Int) + t.size ≤ c) :
    doR (pre ++ [f]) c (opAppend ((pre.length : Int) + 1) t) = (0, pre ++ [⟨f.name, f.data ++ t, f.synced⟩]) := by
  have hp : posOf (opAppend ((pre.length : Int) + 1) t).name (pre ++ [f]) = pre.length := h.pos_last hl
  have hb : hasB (pre ++ [f]) (opAppend ((pre.length : Int) + 1) t).name pre.length = true := has_last h
  have hg : (pre ++ [f])[pre.length]? = some f := by simp
  unfold doR
  simp only [hp, hb, hg]
  rw [if_neg (show ¬ (opAppend ((pre.length : Int) + 1) t).kind = 1 from (by decide : ¬ ((2 : Int) = 1))), if_neg (by decide), if_pos (show (opAppend ((pre.length : Int) + 1) t).kind = 2 from rfl), if_neg (by show ¬ c < (sumLen (pre ++ [f]) : Int) + (t.size : Int); omega)]
  simp [opAppend]
theorem fl_sync {pre : List FileD} {f : FileD} {c : Int} (h : Nmd (pre ++ [f])) (hl : pre.length < 1000) :
    doR (pre ++ [f]) c (opSync ((pre.length : Int) + 1)) = (0, pre ++ [⟨f.name, f.data, f.data.size⟩]) := by
  have hp : posOf (opSync ((pre.length : Int) + 1)).name (pre ++ [f]) = pre.length := h.pos_last hl
  have hb : hasB (pre ++ [f]) (opSync ((pre.length : Int) + 1)).name pre.length = true := has_last h
  have hg : (pre ++ [f])[pre.length]? = some f := by simp
  unfold doR
  simp only [hp, hb, hg]
  rw [if_neg (show ¬ (opSync ((pre.length : Int) + 1)).kind = 1 from (by decide : ¬ ((3 : Int) = 1))), if_neg (by decide), if_neg (show ¬ (opSync ((pre.length : Int) + 1)).kind = 2 from (by decide : ¬ ((3 : Int) = 2))), if_pos (show (opSync ((pre.length : Int) + 1)).kind = 3 from rfl)]
  simp
theorem fl_trunc {pre : List FileD} {f : FileD} {c : Int} {z : Nat} (h : Nmd (pre ++ [f])) (hl : pre.length < 1000) (hz : z ≤ f.data.size) :
    doR (pre ++ [f]) c (opTrunc ((pre.length : Int) + 1) (z : Nat)) = (0, pre ++ [⟨f.name, f.data.extract 0 z, (z : Nat)⟩]) := by
  have hp : posOf (opTrunc ((pre.length : Int) + 1) (z : Nat)).name (pre ++ [f]) = pre.length := h.pos_last hl
  have hb : hasB (pre ++ [f]) (opTrunc ((pre.length : Int) + 1) (z : Nat)).name pre.length = true := has_last h
  have hg : (pre ++ [f])[pre.length]? = some f := by simp
  have hw : btwB (z : Nat) 0 f.data.size = true := by simp [btwB]; omega
  unfold doR
  simp only [hp, hb, hg]
  rw [if_neg (show ¬ (opTrunc ((pre.length : Int) + 1) (z : Nat)).kind = 1 from (by decide : ¬ ((4 : Int) = 1))), if_neg (by decide), if_neg (show ¬ (opTrunc ((pre.length : Int) + 1) (z : Nat)).kind = 2 from (by decide : ¬ ((4 : Int) = 2))), if_neg (show ¬ (opTrunc ((pre.length : Int) + 1) (z : Nat)).kind = 3 from (by decide : ¬ ((4 : Int) = 3))), if_pos (show (opTrunc ((pre.length : Int) + 1) (z : Nat)).kind = 4 from rfl), if_pos (show btwB (opTrunc ((pre.length : Int) + 1) (z : Nat)).size 0 f.data.size = true from hw)]
  simp [opTrunc]
theorem step_go {K : DiskD} {op : OpD} (hv : diskB K.fs K.c K.k K.cr K.fl = true) (ho : opB op = true) (h1 : K.cr = 0) (h2 : K.fl = 0) (h3 : K.dn = false) (hk : K.k < 1000000000000000) : stepD K op = (⟨(doR K.fs K.c op).2, K.c, K.k + 1, 0, 0, false⟩, (doR K.fs K.c op).1) := by
  have hc : chargeR K.k K.cr K.fl K.dn = (0, K.k + 1, false) := by
    unfold chargeR
    rw [if_neg (by rw [h3]; decide), if_neg (by omega), if_neg (fun h => h.1 h1), if_neg (fun h => h.1 h2)]
  rw [stepD_ok hv ho]
  unfold stepR
  rw [hc, if_pos rfl, h1, h2]

/-- Segments that are done, from the number i + 1 on. -/
def segFrom : Nat → List (List ByteArray) → List FileD
  | _, [] => []
  | i, g :: r => ⟨segS ((i : Int) + 1), joinF g, ((joinF g).size : Nat)⟩ :: segFrom (i + 1) r
theorem segFrom_length : ∀ gs i, (segFrom i gs).length = gs.length
  | [], _ => rfl
  | g :: r, i => by simp [segFrom, segFrom_length r]
theorem segFrom_snoc (g : List ByteArray) : ∀ gs i, segFrom i (gs ++ [g]) = segFrom i gs ++ [⟨segS (((i + gs.length : Nat) : Int) + 1), joinF g, ((joinF g).size : Nat)⟩]
  | [], i => by simp [segFrom]
  | x :: r, i => by
    simp only [List.cons_append, segFrom, segFrom_snoc g r, List.length_cons]
    rw [show i + 1 + r.length = i + (r.length + 1) by omega]
theorem segFrom_get : ∀ (gs : List (List ByteArray)) (i j : Nat) (h : j < gs.length), (segFrom i gs)[j]'(by rw [segFrom_length]; exact h) = ⟨segS (((i + j : Nat) : Int) + 1), joinF gs[j], ((joinF gs[j]).size : Nat)⟩
  | [], _, _, h => absurd h (by simp)
  | x :: r, i, 0, _ => by simp [segFrom]
  | x :: r, i, j + 1, h => by
    have := segFrom_get r (i + 1) j (by simpa using h)
    simp only [segFrom, List.getElem_cons_succ, this]
    rw [show i + 1 + j = i + (j + 1) by omega]
theorem joinF_append : ∀ (a b : List ByteArray), joinF (a ++ b) = joinF a ++ joinF b
  | [], b => by simp [joinF]
  | p :: a, b => by simp only [List.cons_append, joinF, joinF_append a b, ByteArray.append_assoc]
theorem segFrom_sum : ∀ (gs : List (List ByteArray)) (i : Nat), sumLen (segFrom i gs) = (joinF gs.flatten).size
  | [], _ => by simp [segFrom, sumLen, joinF]
  | g :: r, i => by
    simp only [segFrom, sumLen, List.flatten_cons, joinF_append, ByteArray.size_append, segFrom_sum r]
/-- A disk with a log on it: segments that are done, the last one with what follows its frames. -/
def logFs (gs : List (List ByteArray)) (g : List ByteArray) (t : ByteArray) (s : Int) : List FileD := segFrom 0 gs ++ [⟨segS ((gs.length : Int) + 1), joinF g ++ t, s⟩]
def logK (gs : List (List ByteArray)) (g : List ByteArray) (t : ByteArray) (s k : Int) : DiskD := ⟨logFs gs g t s, 1000000, k, 0, 0, false⟩
theorem logFs_length (gs : List (List ByteArray)) (g : List ByteArray) (t : ByteArray) (s : Int) : (logFs gs g t s).length = gs.length + 1 := by simp [logFs, segFrom_length]
theorem logFs_lt {gs : List (List ByteArray)} {g : List ByteArray} {t : ByteArray} {s : Int} {i : Nat} (hi : i < gs.length) (h : i < (logFs gs g t s).length) : (logFs gs g t s)[i]'h = ⟨segS (((0 + i : Nat) : Int) + 1), joinF gs[i], ((joinF gs[i]).size : Nat)⟩ := by
  have hq : i < (segFrom 0 gs ++ [(⟨segS ((gs.length : Int) + 1), joinF g ++ t, s⟩ : FileD)]).length := h
  show (segFrom 0 gs ++ [(⟨segS ((gs.length : Int) + 1), joinF g ++ t, s⟩ : FileD)])[i]'hq = _
  rw [List.getElem_append_left (by rw [segFrom_length]; exact hi), segFrom_get gs 0 i hi]
theorem logFs_end {gs : List (List ByteArray)} {g : List ByteArray} {t : ByteArray} {s : Int} (h : gs.length < (logFs gs g t s).length) : (logFs gs g t s)[gs.length]'h = ⟨segS ((gs.length : Int) + 1), joinF g ++ t, s⟩ := by
  have hq : gs.length < (segFrom 0 gs ++ [(⟨segS ((gs.length : Int) + 1), joinF g ++ t, s⟩ : FileD)]).length := h
  show (segFrom 0 gs ++ [(⟨segS ((gs.length : Int) + 1), joinF g ++ t, s⟩ : FileD)])[gs.length]'hq = _
  rw [List.getElem_append_right (by rw [segFrom_length]; exact Nat.le_refl _)]
  simp [segFrom_length]
theorem logFs_nmd (gs : List (List ByteArray)) (g : List ByteArray) (t : ByteArray) (s : Int) : Nmd (logFs gs g t s) := by
  intro i h
  have h1 := h
  rw [logFs_length] at h1
  rcases Nat.lt_or_ge i gs.length with hi | hi
  · rw [logFs_lt hi h]
    simp
  · obtain rfl : i = gs.length := by omega
    rw [logFs_end h]
theorem logFs_sum (gs : List (List ByteArray)) (g : List ByteArray) (t : ByteArray) (s : Int) : sumLen (logFs gs g t s) = (joinF (gs.flatten ++ g)).size + t.size := by
  rw [logFs, sumLen_append, segFrom_sum, joinF_append, ByteArray.size_append]
  simp only [sumLen, ByteArray.size_append]
  omega
theorem logFs_file {gs : List (List ByteArray)} {g : List ByteArray} {t : ByteArray} {s : Int} (hl : gs.length ≤ 20) (h0 : 0 ≤ s) (h1 : s ≤ (joinF g ++ t).size) : ∀ f ∈ logFs gs g t s, fileB f = true := by
  intro f hf
  unfold logFs at hf
  rcases List.mem_append.1 hf with hf | hf
  · obtain ⟨j, hj, rfl⟩ := List.getElem_of_mem hf
    rw [segFrom_length] at hj
    rw [segFrom_get gs 0 j hj]
    exact fileB_mk (nameB_seg _ (by omega) (by omega)) (by omega) (Int.le_refl _)
  · simp only [List.mem_cons, List.not_mem_nil, or_false] at hf
    subst hf
    exact fileB_mk (nameB_seg _ (by omega) (by omega)) h0 h1
/-- What is known of such a disk. -/
structure LogIn (gs : List (List ByteArray)) (g : List ByteArray) (t : ByteArray) (s k : Int) : Prop where
  len : gs.length ≤ 20
  s0 : 0 ≤ s
  s1 : s ≤ (joinF g ++ t).size
  sum : (joinF (gs.flatten ++ g)).size + t.size ≤ 1000
  k0 : 0 ≤ k
  k1 : k ≤ 1000
theorem LogIn.valid {gs : List (List ByteArray)} {g : List ByteArray} {t : ByteArray} {s k : Int} (h : LogIn gs g t s k) : diskB (logK gs g t s k).fs (logK gs g t s k).c (logK gs g t s k).k (logK gs g t s k).cr (logK gs g t s k).fl = true := by
  have hl : (logFs gs g t s).length ≤ 1000 := by rw [logFs_length]; have := h.len; omega
  have := h.sum
  have := h.k0
  have := h.k1
  show diskB (logFs gs g t s) 1000000 k 0 0 = true
  exact diskB_mk hl (filesB_of (logFs_file h.len h.s0 h.s1) ((logFs_nmd gs g t s).asc hl)) ⟨by decide, by decide⟩ (by show (sumLen (logFs gs g t s) : Int) ≤ 1000000; rw [logFs_sum]; omega) ⟨by omega, by omega⟩ ⟨by decide, by decide⟩ ⟨by decide, by decide⟩
theorem LogIn.fit {gs : List (List ByteArray)} {g : List ByteArray} {t : ByteArray} {s k : Int} (h : LogIn gs g t s k) : Fit (logK gs g t s k).fs := by
  have hs := h.sum
  have hM : (1000000000 : Nat) ≤ maxLen := by unfold maxLen; omega
  have hsum : sumLen (logFs gs g t s) ≤ 1000 := by rw [logFs_sum]; exact hs
  refine ⟨fun i hi => ?_, ?_, ?_⟩
  · have h1 := logFs_nmd gs g t s i hi
    have h2 := sumLen_mem (fs := logFs gs g t s) i hi
    have h3 := segS_size ((i : Int) + 1)
    refine ⟨?_, ?_⟩
    · show (logFs gs g t s)[i].name.size ≤ maxLen
      rw [h1]; omega
    · show (logFs gs g t s)[i].data.size ≤ maxLen
      omega
  · show (logFs gs g t s).length ≤ _
    rw [logFs_length]; have := h.len; omega
  · show sumLen (logFs gs g t s) ≤ _
    omega
theorem seg_app (gs : List (List ByteArray)) : ((segFrom 0 gs).length : Int) + 1 = (gs.length : Int) + 1 := by rw [segFrom_length]
theorem LogIn.append {gs : List (List ByteArray)} {g : List ByteArray} {t : ByteArray} {s k : Int} (h : LogIn gs g t s k) {u : ByteArray} (hu : u.size ≤ 1000) : stepD (logK gs g t s k) (opAppend ((gs.length : Int) + 1) u) = (logK gs g (t ++ u) s (k + 1), 0) := by
  have := h.len
  have := h.k1
  rw [step_go (op := opAppend ((gs.length : Int) + 1) u) h.valid (opB_mk (by decide) (by omega) (by omega)) rfl rfl rfl (by show k < _; omega)]
  have hd := fl_append (pre := segFrom 0 gs) (f := ⟨segS ((gs.length : Int) + 1), joinF g ++ t, s⟩) (c := 1000000) (t := u) (logFs_nmd gs g t s) (by rw [segFrom_length]; omega) (by show (sumLen (logFs gs g t s) : Int) + _ ≤ _; rw [logFs_sum]; have := h.sum; omega)
  rw [seg_app] at hd
  show (DiskD.mk (doR (segFrom 0 gs ++ [_]) 1000000 _).2 _ _ _ _ _, (doR (segFrom 0 gs ++ [_]) 1000000 _).1) = _
  rw [hd]
  simp only [logK, logFs, ByteArray.append_assoc]
theorem LogIn.sync {gs : List (List ByteArray)} {g : List ByteArray} {t : ByteArray} {s k : Int} (h : LogIn gs g t s k) : stepD (logK gs g t s k) (opSync ((gs.length : Int) + 1)) = (logK gs g t ((joinF g ++ t).size : Nat) (k + 1), 0) := by
  have := h.len
  have := h.k1
  rw [step_go (op := opSync ((gs.length : Int) + 1)) h.valid (opB_mk (by decide) (by omega) (by omega)) rfl rfl rfl (by show k < _; omega)]
  have hd := fl_sync (pre := segFrom 0 gs) (f := ⟨segS ((gs.length : Int) + 1), joinF g ++ t, s⟩) (c := 1000000) (logFs_nmd gs g t s) (by rw [segFrom_length]; omega)
  rw [seg_app] at hd
  show (DiskD.mk (doR (segFrom 0 gs ++ [_]) 1000000 _).2 _ _ _ _ _, (doR (segFrom 0 gs ++ [_]) 1000000 _).1) = _
  rw [hd]
  rfl
theorem LogIn.trunc {gs : List (List ByteArray)} {g : List ByteArray} {t : ByteArray} {s k : Int} (h : LogIn gs g t s k) : stepD (logK gs g t s k) (opTrunc ((gs.length : Int) + 1) ((joinF g).size : Nat)) = (logK gs g ByteArray.empty ((joinF g).size : Nat) (k + 1), 0) := by
  have := h.len
  have := h.k1
  rw [step_go (op := opTrunc ((gs.length : Int) + 1) ((joinF g).size : Nat)) h.valid (opB_mk (by decide) (by omega) (by omega)) rfl rfl rfl (by show k < _; omega)]
  have hd := fl_trunc (pre := segFrom 0 gs) (f := ⟨segS ((gs.length : Int) + 1), joinF g ++ t, s⟩) (c := 1000000) (z := (joinF g).size) (logFs_nmd gs g t s) (by rw [segFrom_length]; omega) (by show (joinF g).size ≤ (joinF g ++ t).size; rw [ByteArray.size_append]; omega)
  rw [seg_app] at hd
  show (DiskD.mk (doR (segFrom 0 gs ++ [_]) 1000000 _).2 _ _ _ _ _, (doR (segFrom 0 gs ++ [_]) 1000000 _).1) = _
  rw [hd]
  simp only [logK, logFs, headF_of, ByteArray.append_empty]
theorem LogIn.create {gs : List (List ByteArray)} {g : List ByteArray} {k : Int} (h : LogIn gs g ByteArray.empty ((joinF g).size : Nat) k) : stepD (logK gs g ByteArray.empty ((joinF g).size : Nat) k) (opCreate ((gs.length : Int) + 1 + 1)) = (logK (gs ++ [g]) [] ByteArray.empty 0 (k + 1), 0) := by
  have := h.len
  have := h.k1
  rw [step_go (op := opCreate ((gs.length : Int) + 1 + 1)) h.valid (opB_mk (by decide) (by omega) (by omega)) rfl rfl rfl (by show k < _; omega)]
  have hd := fl_create (fs := logFs gs g ByteArray.empty ((joinF g).size : Nat)) (c := 1000000) (logFs_nmd _ _ _ _) (by rw [logFs_length]; omega)
  rw [logFs_length] at hd
  show (DiskD.mk (doR (logFs gs g ByteArray.empty ((joinF g).size : Nat)) 1000000 _).2 _ _ _ _ _, (doR (logFs gs g ByteArray.empty ((joinF g).size : Nat)) 1000000 _).1) = _
  rw [show ((gs.length : Int) + 1 + 1) = (((gs.length + 1 : Nat) : Int) + 1) by omega, hd]
  simp [logK, logFs, segFrom_snoc, joinF]
end Go.Proofs.YtflfopienjjlbaaGreatDoor

