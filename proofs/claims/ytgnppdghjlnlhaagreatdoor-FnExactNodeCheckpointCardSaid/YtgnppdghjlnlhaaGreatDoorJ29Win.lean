import Derived.Test.YtgnppdghjlnlhaaGreatDoorProg
import Derived.Test.YtgnppdghjlnlhaaGreatDoorJ26AppE
import Derived.Test.YtgnppdghjlnlhaaGreatDoorJ28CpyW
import Derived.Test.YtgnppdghjlnlhaaGreatDoorJ04Clone
import Derived.Test.YtgnppdghjlnlhaaGreatDoorJ21MarkT
import Derived.Test.YtgnppdghjlnlhaaGreatDoorJ20SNum
import Derived.Test.YtgnppdghjlnlhaaGreatDoorJ01Btw
namespace Go.Proofs.YtgnppdghjlnlhaaGreatDoor
open Go.RowKit
set_option maxRecDepth 100000 in
set_option maxHeartbeats 1000000 in
theorem changeable_any (a b : Option Addr) (ca cb : Nat) (N : NodeD) (w : World) :
    Calls Tryz.prog 27 #[.agg #[.slice a N.d.fs.length ca, .int .i64 N.d.c, .int .i64 N.d.k, .int .i64 N.d.cr, .int .i64 N.d.fl, .bool N.d.dn, .int .i64 N.l.first, .int .i64 N.l.last, .int .i64 N.l.size, .int .i64 N.now, .slice b N.ts.length cb, .int .i64 N.lsn, .bool N.deg, .bool N.up]] w fun e w' => e = .returned (.bool (N.up && !N.deg)) ∧ Below w.heap.size w w' := by
  obtain ⟨d, l, now, ts, lsn, deg, up⟩ := N
  cases up <;> cases deg
  all_goals (
    go_enter Tryz.func27, Tryz.ntmps27
    go_wp2
    go_ret
    exact ⟨rfl, bnew _ _⟩)
set_option maxRecDepth 100000 in
set_option maxHeartbeats 2000000 in
theorem failed_any (a b a' : Option Addr) (ca cb ca' : Nat) (N : NodeD) (K : DiskD) (L : LogD) (w : World) :
    Calls Tryz.prog 31 #[.agg #[.slice a N.d.fs.length ca, .int .i64 N.d.c, .int .i64 N.d.k, .int .i64 N.d.cr, .int .i64 N.d.fl, .bool N.d.dn, .int .i64 N.l.first, .int .i64 N.l.last, .int .i64 N.l.size, .int .i64 N.now, .slice b N.ts.length cb, .int .i64 N.lsn, .bool N.deg, .bool N.up], .agg #[.slice a' K.fs.length ca', .int .i64 K.c, .int .i64 K.k, .int .i64 K.cr, .int .i64 K.fl, .bool K.dn], .agg #[.int .i64 L.first, .int .i64 L.last, .int .i64 L.size]] w fun e w' => e = .returned (.agg #[.slice a' K.fs.length ca', .int .i64 K.c, .int .i64 K.k, .int .i64 K.cr, .int .i64 K.fl, .bool K.dn, .int .i64 L.first, .int .i64 L.last, .int .i64 L.size, .int .i64 N.now, .slice b N.ts.length cb, .int .i64 N.lsn, .bool true, .bool (!K.dn)]) ∧ Below w.heap.size w w' := by
  go_enter Tryz.func31, Tryz.ntmps31
  go_wp2
  refine bodyPost_ret (v := .agg #[.slice a' K.fs.length ca', .int .i64 K.c, .int .i64 K.k, .int .i64 K.cr, .int .i64 K.fl, .bool K.dn, .int .i64 L.first, .int .i64 L.last, .int .i64 L.size, .int .i64 N.now, .slice b N.ts.length cb, .int .i64 N.lsn, .bool true, .bool (!K.dn)]) (by simp [results, Tryz.results31, go_sem]) rfl ⟨rfl, ?_⟩
  exact bto (bto (bto (bnew _ _) (bnew _ _)) (bnew _ _)) (bnew _ _)
set_option maxRecDepth 100000 in
set_option maxHeartbeats 4000000 in
theorem copyNode_any (a b : Option Addr) (ca cb : Nat) (N : NodeD) (w : World) (hf : FilesIn w a N.d.fs) (hl : N.d.fs.length ≤ 1048576) (ht : TensIn w b N.ts) (hlt : N.ts.length ≤ 2000000) (hfit : ∀ t ∈ N.ts, t.mets.length ≤ 2000000 ∧ t.sers.length ≤ 2000000) :
    Calls Tryz.prog 26 #[.agg #[.slice a N.d.fs.length ca, .int .i64 N.d.c, .int .i64 N.d.k, .int .i64 N.d.cr, .int .i64 N.d.fl, .bool N.d.dn, .int .i64 N.l.first, .int .i64 N.l.last, .int .i64 N.l.size, .int .i64 N.now, .slice b N.ts.length cb, .int .i64 N.lsn, .bool N.deg, .bool N.up]] w fun e w' => ∃ a' ca' b' cb', e = .returned (.agg #[.slice a' N.d.fs.length ca', .int .i64 N.d.c, .int .i64 N.d.k, .int .i64 N.d.cr, .int .i64 N.d.fl, .bool N.d.dn, .int .i64 N.l.first, .int .i64 N.l.last, .int .i64 N.l.size, .int .i64 N.now, .slice b' N.ts.length cb', .int .i64 N.lsn, .bool N.deg, .bool N.up]) ∧ NodeA w' (fun x => w.heap.size ≤ x ∧ x < w'.heap.size) a' b' N ∧ Below w.heap.size w w' := by
  have HC := hid (fun W (hW : Below w.heap.size w W) => clone_any a ca N.d.fs W (hf.later hW) hl)
  have HS := hid (fun W (hW : Below w.heap.size w W) => copyState_any N.now b cb N.ts W (ht.later hW) hlt hfit)
  clear hf ht hfit
  go_enter Tryz.func26, Tryz.ntmps26
  go_wp2_with fail
  refine (HC.out _ (bto (bnew _ _) (bnew _ _))).mono ?_
  rintro e w1 ⟨v, rfl, ho1, hb1⟩
  obtain ⟨a', ca', rfl, hw1⟩ := owned_of_row ho1
  have P1 := hid (((Blk.new w _ _).alloc _).later hb1)
  have R1 := hid ((Blk.new (w.alloc _) _ _).later hb1)
  simp only [World.size_alloc] at R1 hw1
  have W1 := hid (hw1.toA (Nat.le_refl _))
  have B1 := hid (bto (bto (bnew _ _) (bnew _ _)) hb1)
  have hz1 := hb1.size
  simp only [World.size_alloc] at hz1
  obtain ⟨o0, o1, o2, o3, o4, o5, o6, o7, o8, o9, o10, o11, o12, o13⟩ := P1.out.n14
  obtain ⟨f0, f1, f2, f3, f4, f5, f6, f7, f8, f9, f10, f11, f12, f13⟩ := P1.out.frees
  clear hb1 ho1 hw1 HC
  go_wp2_with fail
  refine at_put1 (C := fun W => Calls Tryz.prog _ _ W _) P1.out ?_
  intro w2 P2 T2
  have R2 := hid (T2.blk R1.out (by omega))
  have W2 := hid (W1.out.turned T2 (fun x hx _ e => by omega))
  have hz2 := T2.size
  have B2 := hid (B1.out.trans (T2.below (by have := B1.out.size; omega) (fun k hk e => by omega)))
  clear o0 o1 o2 o3 o4 o5 o6 o7 o8 o9 o10 o11 o12 o13 f0 f1 f2 f3 f4 f5 f6 f7 f8 f9 f10 f11 f12 f13 P1 R1 W1 B1 T2
  refine (HS.out _ B2.out).mono ?_
  rintro e w3 ⟨b', cb', rfl, ho3, hb3⟩
  have W3 := hid (W2.out.later hb3)
  have X3 := hid (ho3.toA (Nat.le_refl _))
  have B3 := hid (bto B2.out hb3)
  have hz3 := hb3.size
  obtain ⟨o0, o1, o2, o3, o4, o5, o6, o7, o8, o9, o10, o11, o12, o13⟩ := (P2.later hb3).n14
  obtain ⟨f0, f1, f2, f3, f4, f5, f6, f7, f8, f9, f10, f11, f12, f13⟩ := (P2.later hb3).frees
  obtain ⟨r0, r1, r2, r3, r4, r5, r6, r7, r8, r9, r10, r11, r12, r13⟩ := (R2.out.later hb3).n14
  obtain ⟨g0, g1, g2, g3, g4, g5, g6, g7, g8, g9, g10, g11, g12, g13⟩ := (R2.out.later hb3).frees
  clear hb3 ho3 P2 R2 W2 B2 HS
  go_wp2
  refine bodyPost_ret (v := .agg #[.slice a' N.d.fs.length ca', .int .i64 N.d.c, .int .i64 N.d.k, .int .i64 N.d.cr, .int .i64 N.d.fl, .bool N.d.dn, .int .i64 N.l.first, .int .i64 N.l.last, .int .i64 N.l.size, .int .i64 N.now, .slice b' N.ts.length cb', .int .i64 N.lsn, .bool N.deg, .bool N.up]) (by simp [results, Tryz.results26, go_sem, r0, r1, r2, r3, r4, r5, r6, r7, r8, r9, r10, r11, r12, r13]) rfl ?_
  refine Turn.end2 (S := fun x => x = w.heap.size ∨ x = w.heap.size + 1) (C := fun W => ∃ a1 c1 b1 d1, Ending.returned (.agg #[.slice a' N.d.fs.length ca', .int .i64 N.d.c, .int .i64 N.d.k, .int .i64 N.d.cr, .int .i64 N.d.fl, .bool N.d.dn, .int .i64 N.l.first, .int .i64 N.l.last, .int .i64 N.l.size, .int .i64 N.now, .slice b' N.ts.length cb', .int .i64 N.lsn, .bool N.deg, .bool N.up]) = Ending.returned (.agg #[.slice a1 N.d.fs.length c1, .int .i64 N.d.c, .int .i64 N.d.k, .int .i64 N.d.cr, .int .i64 N.d.fl, .bool N.d.dn, .int .i64 N.l.first, .int .i64 N.l.last, .int .i64 N.l.size, .int .i64 N.now, .slice b1 N.ts.length d1, .int .i64 N.lsn, .bool N.deg, .bool N.up]) ∧ NodeA W (fun x => w.heap.size ≤ x ∧ x < W.heap.size) a1 b1 N ∧ Below w.heap.size w W) w3 (by
    repeat (with_reducible first | exact Turn.refl _ _ | refine Turn.setCell ?_ (Or.inl (by first | exact Or.inl rfl | exact Or.inr rfl)) _ _)) ?_
  intro w6 T6
  have hz6 := T6.size
  exact ⟨_, _, _, _, rfl, ⟨_, _, W3.out.turned T6 (fun x hx _ e => by omega), X3.out.turned T6 (fun x hx _ e => by omega), fun x hx => by omega, fun x hx => by omega, fun x hx e => by omega⟩, B3.out.trans (T6.below (by have := B3.out.size; omega) (fun k hk e => by omega))⟩
end Go.Proofs.YtgnppdghjlnlhaaGreatDoor
namespace Go.Proofs.YtgnppdghjlnlhaaGreatDoor
open Go.RowKit
def s8B (s : ByteArray) : ByteArray := numS 1 (s.size : Nat) ++ s
def s16B (s : ByteArray) : ByteArray := numS 2 (s.size : Nat) ++ s
theorem s8B_size (s : ByteArray) : (s8B s).size = 1 + s.size := by rw [s8B, ByteArray.size_append, numS_size]
theorem s16B_size (s : ByteArray) : (s16B s).size = 2 + s.size := by rw [s16B, ByteArray.size_append, numS_size]
end Go.Proofs.YtgnppdghjlnlhaaGreatDoor
namespace Go.Proofs.YtgnppdghjlnlhaaGreatDoor
open Go.RowKit
def I64p (v : Int) : Prop := -9223372036854775808 ≤ v ∧ v ≤ 9223372036854775807
def RngP (ps : List PairD) : Prop := ∀ i (h : i < ps.length), I64p ps[i].n
def RngT (ts : List TenD) : Prop := ∀ i (h : i < ts.length), I64p ts[i].limit ∧ RngP ts[i].mets ∧ RngP ts[i].sers
def encP (p : PairD) : ByteArray := s16B p.s ++ numS 8 p.n
def encPs : List PairD → ByteArray
  | [] => ByteArray.empty
  | p :: q => encP p ++ encPs q
def allP (ps : List PairD) : Prop := ∀ i (h : i < ps.length), ps[i].s.size ≤ 65535
def tenOKb (t : TenD) : Prop := t.name.size ≤ 255 ∧ allP t.mets ∧ allP t.sers
def tenHead (t : TenD) : ByteArray := s8B t.name ++ numS 8 t.limit ++ numS 4 (t.mets.length : Nat)
def encT (t : TenD) : ByteArray := tenHead t ++ encPs t.mets ++ numS 4 (t.sers.length : Nat) ++ encPs t.sers
def encTs : List TenD → ByteArray
  | [] => ByteArray.empty
  | t :: q => encT t ++ encTs q
def ckB : ByteArray := ⟨#[67, 75, 80, 84]⟩
def staHead (lsn now : Int) (n : Nat) : ByteArray := ckB ++ numS 8 lsn ++ numS 8 now ++ numS 4 (n : Nat)
def staOK (lsn : Int) (ts : List TenD) : Prop := 0 ≤ lsn ∧ lsn ≤ 1000000000000000 ∧ ∀ i (h : i < ts.length), tenOKb ts[i]
def staX (lsn now : Int) (ts : List TenD) : ByteArray := staHead lsn now ts.length ++ encTs ts
def staBD (lsn : Int) (ts : List TenD) : Decidable (staOK lsn ts) := by unfold staOK tenOKb allP; infer_instance
def staB (lsn now : Int) (ts : List TenD) : ByteArray := haveI := staBD lsn ts; if staOK lsn ts then staX lsn now ts ++ numS 4 (crcV (staX lsn now ts) : Nat) else ByteArray.empty
theorem staB_ok {lsn now : Int} {ts : List TenD} (h : staOK lsn ts) : staB lsn now ts = staX lsn now ts ++ numS 4 (crcV (staX lsn now ts) : Nat) := by unfold staB; rw [if_pos h]
theorem staB_no {lsn now : Int} {ts : List TenD} (h : ¬ staOK lsn ts) : staB lsn now ts = ByteArray.empty := by unfold staB; rw [if_neg h]
theorem encPs_append : ∀ (a b : List PairD), encPs (a ++ b) = encPs a ++ encPs b
  | [], b => by simp [encPs]
  | r :: q, b => by
    show encP r ++ encPs (q ++ b) = encP r ++ encPs q ++ encPs b
    rw [encPs_append q b, ByteArray.append_assoc]
theorem encPs_take (rs : List PairD) (k : Nat) (h : k < rs.length) : encPs (rs.take (k + 1)) = encPs (rs.take k) ++ encP rs[k] := by
  rw [List.take_succ_eq_append_getElem h, encPs_append]
  simp [encPs]
theorem encTs_append : ∀ (a b : List TenD), encTs (a ++ b) = encTs a ++ encTs b
  | [], b => by simp [encTs]
  | r :: q, b => by
    show encT r ++ encTs (q ++ b) = encT r ++ encTs q ++ encTs b
    rw [encTs_append q b, ByteArray.append_assoc]
theorem encTs_take (rs : List TenD) (k : Nat) (h : k < rs.length) : encTs (rs.take (k + 1)) = encTs (rs.take k) ++ encT rs[k] := by
  rw [List.take_succ_eq_append_getElem h, encTs_append]
  simp [encTs]
theorem encP_size (p : PairD) : (encP p).size = 10 + p.s.size := by
  unfold encP
  rw [ByteArray.size_append, s16B_size, numS_size]; omega
theorem encPs_size : ∀ (ps : List PairD), (encPs ps).size = 10 * ps.length + pairBulk ps
  | [] => rfl
  | p :: q => by
    show (encP p ++ encPs q).size = _
    rw [ByteArray.size_append, encP_size, encPs_size q]
    show _ = 10 * (q.length + 1) + (p.s.size + pairBulk q)
    omega
theorem tenHead_size (t : TenD) : (tenHead t).size = 13 + t.name.size := by
  unfold tenHead
  rw [ByteArray.size_append, ByteArray.size_append, s8B_size, numS_size, numS_size]; omega
theorem encT_size (t : TenD) : (encT t).size = 17 + t.name.size + 10 * t.mets.length + pairBulk t.mets + 10 * t.sers.length + pairBulk t.sers := by
  unfold encT
  rw [ByteArray.size_append, ByteArray.size_append, ByteArray.size_append, tenHead_size, encPs_size, encPs_size, numS_size]; omega
theorem staHead_size (lsn now : Int) (n : Nat) : (staHead lsn now n).size = 24 := by
  unfold staHead
  rw [ByteArray.size_append, ByteArray.size_append, ByteArray.size_append, numS_size, numS_size, numS_size]; rfl
theorem staB_at {ts : List TenD} {k : Nat} (hk : k < ts.length) (h : ¬ tenOKb ts[k]) (lsn now : Int) : staB lsn now ts = ByteArray.empty := staB_no fun hb => h (hb.2.2 k hk)
end Go.Proofs.YtgnppdghjlnlhaaGreatDoor
namespace Go.Proofs.YtgnppdghjlnlhaaGreatDoor
open Go.RowKit
theorem within_anyW (x hi : Int) (w : World) : Calls Tryz.prog 57 #[.int .i64 x, .int .i64 hi] w fun e w' => e = .returned (.bool (btwB x 0 hi)) ∧ w' = w := by
  by_cases h1 : 0 ≤ x
  · by_cases h2 : x ≤ hi
    · have e : btwB x 0 hi = true := by simp [btwB, h1, h2]
      rw [e]
      go_enter Tryz.func57, Tryz.ntmps57
      go_wp2
      go_ret
      exact ⟨rfl, rfl⟩
    · have e : btwB x 0 hi = false := by simp [btwB, h2]
      rw [e]
      go_enter Tryz.func57, Tryz.ntmps57
      go_wp2
      go_ret
      exact ⟨rfl, rfl⟩
  · have e : btwB x 0 hi = false := by simp [btwB, h1]
    rw [e]
    go_enter Tryz.func57, Tryz.ntmps57
    go_wp2
    go_ret
    exact ⟨rfl, rfl⟩
end Go.Proofs.YtgnppdghjlnlhaaGreatDoor
