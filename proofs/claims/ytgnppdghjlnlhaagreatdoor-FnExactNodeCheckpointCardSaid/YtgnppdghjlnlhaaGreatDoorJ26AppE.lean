import Derived.Test.YtgnppdghjlnlhaaGreatDoorProg
import Derived.Test.YtgnppdghjlnlhaaGreatDoorJ20SNum
import Derived.Test.YtgnppdghjlnlhaaGreatDoorJ23PrT
import Derived.Test.YtgnppdghjlnlhaaGreatDoorJ24PrE
import Derived.Test.YtgnppdghjlnlhaaGreatDoorJ25LogTo
import Derived.Test.YtgnppdghjlnlhaaGreatDoorJ01Btw
import Derived.Laws.OwnMore
import Derived.Tactics
namespace Go.Proofs.YtgnppdghjlnlhaaGreatDoor
open Go.RowKit
def szN (N : NodeD) : Int := if szFs 1048576 N.d.fs < 0 then -1 else szTens (szFs 1048576 N.d.fs) N.ts
theorem szFs_le (fs : List FileD) : szFs 1048576 fs ≤ 1048576 := by unfold szFs; split <;> omega
set_option maxRecDepth 100000 in
set_option maxHeartbeats 2000000 in
theorem szNode_any (a b : Option Addr) (ca cb : Nat) (N : NodeD) (w : World) (hf : FilesIn w a N.d.fs) (hs : Short N.d.fs) (hl : N.d.fs.length ≤ maxLen) (ht : TensIn w b N.ts) (hst : ShortT N.ts) (hlt : N.ts.length ≤ maxLen) :
    Calls Tryz.prog 4 #[.agg #[.slice a N.d.fs.length ca, .int .i64 N.d.c, .int .i64 N.d.k, .int .i64 N.d.cr, .int .i64 N.d.fl, .bool N.d.dn, .int .i64 N.l.first, .int .i64 N.l.last, .int .i64 N.l.size, .int .i64 N.now, .slice b N.ts.length cb, .int .i64 N.lsn, .bool N.deg, .bool N.up], .int .i64 1048576] w fun e w' => e = .returned (.int .i64 (szN N)) ∧ Below w.heap.size w w' := by
  have HD := hid (fun W (hW : Below w.heap.size w W) => szDisk_any a ca N.d.fs N.d.c N.d.k N.d.cr N.d.fl N.d.dn 1048576 W (by omega) (by omega) (hf.later hW) hs hl)
  have hle := szFs_le N.d.fs
  have EQ := hid (show szN N = if szFs 1048576 N.d.fs < 0 then -1 else szTens (szFs 1048576 N.d.fs) N.ts from rfl)
  by_cases c1 : szFs 1048576 N.d.fs < 0
  · rw [if_pos c1] at EQ
    generalize szFs 1048576 N.d.fs = left at *
    clear hf ht hs hst
    go_enter Tryz.func4, Tryz.ntmps4
    go_wp2_with fail
    refine (HD.out _ (bnew _ _)).mono ?_
    rintro e w1 ⟨rfl, hb1⟩
    have B1 := hid (bto (bnew _ _) hb1)
    clear hb1
    go_wp2
    go_ret
    exact ⟨ret_int EQ.out.symm, B1.out⟩
  · have HS := hid (fun W (hW : Below w.heap.size w W) => szState_any b cb N.ts N.now (szFs 1048576 N.d.fs) W (by omega) hle (ht.later hW) hst hlt)
    rw [if_neg c1] at EQ
    have hz : szTens (szFs 1048576 N.d.fs) N.ts < 0 → szTens (szFs 1048576 N.d.fs) N.ts = -1 := fun h => by unfold szTens at h ⊢; split at h <;> omega
    generalize hq : szTens (szFs 1048576 N.d.fs) N.ts = r at *
    generalize szFs 1048576 N.d.fs = left at *
    clear hf ht hs hst hq
    go_enter Tryz.func4, Tryz.ntmps4
    go_wp2_with fail
    refine (HD.out _ (bnew _ _)).mono ?_
    rintro e w1 ⟨rfl, hb1⟩
    have B1 := hid (bto (bnew _ _) hb1)
    obtain ⟨_, _, _, _, _, _, _, _, _, c9, c10, _, _, _⟩ := (Blk.later (Blk.new w _ _) hb1).n14
    clear hb1 HD
    go_wp2_with fail
    refine (HS.out _ B1.out).mono ?_
    rintro e w2 ⟨rfl, hb2⟩
    have B2 := hid (bto B1.out hb2)
    clear hb2 c9 c10
    by_cases c2 : r < 0
    · have HZ := hid (hz c2)
      clear hz
      go_wp2
      go_ret
      exact ⟨ret_int (by rw [EQ.out, HZ.out]), B2.out⟩
    · clear hz
      go_wp2
      go_ret
      exact ⟨ret_int EQ.out.symm, B2.out⟩
set_option maxRecDepth 100000 in
set_option maxHeartbeats 2000000 in
theorem eqNode_same (a a' b b' : Option Addr) (ca ca' cb cb' : Nat) (N : NodeD) (w : World) (hf : FilesIn w a N.d.fs) (hf' : FilesIn w a' N.d.fs) (hl : N.d.fs.length ≤ maxLen) (ht : TensIn w b N.ts) (ht' : TensIn w b' N.ts) (hlt : N.ts.length ≤ maxLen) (hL : LenT N.ts) :
    Calls Tryz.prog 9 #[.agg #[.slice a N.d.fs.length ca, .int .i64 N.d.c, .int .i64 N.d.k, .int .i64 N.d.cr, .int .i64 N.d.fl, .bool N.d.dn, .int .i64 N.l.first, .int .i64 N.l.last, .int .i64 N.l.size, .int .i64 N.now, .slice b N.ts.length cb, .int .i64 N.lsn, .bool N.deg, .bool N.up], .agg #[.slice a' N.d.fs.length ca', .int .i64 N.d.c, .int .i64 N.d.k, .int .i64 N.d.cr, .int .i64 N.d.fl, .bool N.d.dn, .int .i64 N.l.first, .int .i64 N.l.last, .int .i64 N.l.size, .int .i64 N.now, .slice b' N.ts.length cb', .int .i64 N.lsn, .bool N.deg, .bool N.up]] w fun e w' => e = .returned (.bool true) ∧ Below w.heap.size w w' := by
  have HD := hid (fun W (hW : Below w.heap.size w W) => eqDisk_same a a' ca ca' N.d.fs N.d.c N.d.k N.d.cr N.d.fl N.d.dn W (hf.later hW) (hf'.later hW) hl)
  have HL := hid (fun W => eqLog_same N.l.first N.l.last N.l.size W)
  have HS := hid (fun W (hW : Below w.heap.size w W) => eqState_same N.now b b' cb cb' N.ts W (ht.later hW) (ht'.later hW) hlt hL)
  clear hf hf' ht ht' hL
  go_enter Tryz.func9, Tryz.ntmps9
  go_wp2_with fail
  refine (HD.out _ (bto (bnew _ _) (bnew _ _))).mono ?_
  rintro e w1 ⟨rfl, hb1⟩
  have B1 := hid (bto (bto (bnew _ _) (bnew _ _)) hb1)
  have P1 := hid (((Blk.new w _ _).alloc _).later hb1)
  have Q1 := hid ((Blk.new (w.alloc _) _ _).later hb1)
  obtain ⟨_, _, _, _, _, _, c6, c7, c8, _, _, _, _, _⟩ := P1.out.n14
  obtain ⟨_, _, _, _, _, _, d6, d7, d8, _, _, _, _, _⟩ := Q1.out.n14
  simp only [World.size_alloc] at d6 d7 d8
  clear hb1 HD
  go_wp2_with fail
  refine (HL.out _).mono ?_
  rintro e w2 ⟨rfl, hb2⟩
  have B2 := hid (bto B1.out hb2)
  have P2 := hid (P1.out.later hb2)
  have Q2 := hid (Q1.out.later hb2)
  obtain ⟨_, _, _, _, _, _, _, _, _, c9, c10, _, _, _⟩ := P2.out.n14
  obtain ⟨_, _, _, _, _, _, _, _, _, d9, d10, _, _, _⟩ := Q2.out.n14
  simp only [World.size_alloc] at d9 d10
  clear hb2 HL c6 c7 c8 d6 d7 d8 P1 Q1
  go_wp2_with fail
  refine (HS.out _ B2.out).mono ?_
  rintro e w3 ⟨rfl, hb3⟩
  have B3 := hid (bto B2.out hb3)
  obtain ⟨_, _, _, _, _, _, _, _, _, _, _, c11, c12, c13⟩ := (P2.out.later hb3).n14
  obtain ⟨_, _, _, _, _, _, _, _, _, _, _, d11, d12, d13⟩ := (Q2.out.later hb3).n14
  simp only [World.size_alloc] at d11 d12 d13
  clear hb3 HS c9 c10 d9 d10 P2 Q2
  go_wp2
  go_ret
  exact ⟨rfl, B3.out⟩
theorem at_put1 {C : World → Prop} {w : World} {O : Nat} {v0 v1 v2 v3 v4 v5 v6 v7 v8 v9 va vb vc vd u0 : Value} {t : TypeId} (h : Blk w O #[v0, v1, v2, v3, v4, v5, v6, v7, v8, v9, va, vb, vc, vd] t)
    (k : ∀ w2, Blk w2 O #[u0, v1, v2, v3, v4, v5, v6, v7, v8, v9, va, vb, vc, vd] t → Turn (· = O) w w2 → C w2) : C (w.setCell ⟨O, 0, none⟩ u0) :=
  k _ (by have := h.set 0 u0; simpa using this) ((Turn.refl (· = O) w).setCell (Or.inl rfl) 0 u0)
theorem Turn.end2 {C : World → Prop} {S : Nat → Prop} (w : World) {w' : World} (h : Turn S w w') (k : ∀ W, Turn S w W → C W) : C w' := k w' h
structure NodeA (w : World) (A : Nat → Prop) (a b : Option Addr) (N : NodeD) : Prop where
  parts : ∃ F T, FilesA w F a N.d.fs ∧ TensA w T b N.ts ∧ (∀ x, F x → A x) ∧ (∀ x, T x → A x) ∧ ∀ x, F x → ¬ T x
theorem NodeA.files {w : World} {A : Nat → Prop} {a b : Option Addr} {N : NodeD} (h : NodeA w A a b N) : FilesIn w a N.d.fs := by
  obtain ⟨F, T, h1, h2, _⟩ := h.parts
  exact h1.files
theorem NodeA.tens {w : World} {A : Nat → Prop} {a b : Option Addr} {N : NodeD} (h : NodeA w A a b N) : TensIn w b N.ts := by
  obtain ⟨F, T, h1, h2, _⟩ := h.parts
  exact h2.tens
theorem NodeA.turned {S A : Nat → Prop} {w w' : World} {a b : Option Addr} {N : NodeD} (h : NodeA w A a b N) (ht : Turn S w w') (hS : ∀ g, A g → g < w.heap.size → ¬ S g) : NodeA w' A a b N := by
  obtain ⟨F, T, h1, h2, h3, h4, h5⟩ := h.parts
  exact ⟨F, T, h1.turned ht (fun g hg => hS g (h3 g hg)), h2.turned ht (fun g hg => hS g (h4 g hg)), h3, h4, h5⟩
theorem NodeA.later {A : Nat → Prop} {w w' : World} {a b : Option Addr} {N : NodeD} (h : NodeA w A a b N) (hb : Below w.heap.size w w') : NodeA w' A a b N := h.turned (Turn.of (S := fun _ => False) hb) fun _ _ _ e => e
theorem NodeA.mono {A A' : Nat → Prop} {w : World} {a b : Option Addr} {N : NodeD} (h : NodeA w A a b N) (hA : ∀ x, A x → A' x) : NodeA w A' a b N := by
  obtain ⟨F, T, h1, h2, h3, h4, h5⟩ := h.parts
  exact ⟨F, T, h1, h2, fun x hx => hA x (h3 x hx), fun x hx => hA x (h4 x hx), h5⟩
set_option maxRecDepth 100000 in
set_option maxHeartbeats 2000000 in
theorem markNode_any (a b : Option Addr) (ca cb : Nat) (N : NodeD) (A : Nat → Prop) (w : World) (h : NodeA w A a b N) (hA : ∀ x, A x → x < w.heap.size) (hk2 : 1 + 3 * N.d.fs.length + tensLen N.ts ≤ 100000000) :
    Calls Tryz.prog 10 #[.agg #[.slice a N.d.fs.length ca, .int .i64 N.d.c, .int .i64 N.d.k, .int .i64 N.d.cr, .int .i64 N.d.fl, .bool N.d.dn, .int .i64 N.l.first, .int .i64 N.l.last, .int .i64 N.l.size, .int .i64 N.now, .slice b N.ts.length cb, .int .i64 N.lsn, .bool N.deg, .bool N.up], .int .i64 1] w fun e w' => e = .returned (.int .i64 ((1 + 3 * N.d.fs.length + tensLen N.ts : Nat) : Int)) ∧ Turn A w w' ∧ FilesIn w' a (markL 1 N.d.fs.length) ∧ TensIn w' b (markTens (1 + 3 * N.d.fs.length) N.ts) := by
  obtain ⟨F, T, h1, h2, h3, h4, h5⟩ := h.parts
  have HD := hid (fun W (hW : Below w.heap.size w W) => markDiskA a ca N.d.fs N.d.c N.d.k N.d.cr N.d.fl N.d.dn 1 F W (by omega) (by omega) (h1.later hW))
  have HS := hid (fun W (hW : TensA W T b N.ts) => markStateA N.now b cb N.ts (1 + 3 * N.d.fs.length) T W (by omega) hk2 hW)
  have H2 := hid h2
  have H3 := hid h3
  have H4 := hid h4
  have H5 := hid h5
  have HA := hid hA
  clear h h1 h2 h3 h4 h5 hA
  go_enter Tryz.func10, Tryz.ntmps10
  go_wp2_with fail
  refine (HD.out _ (bnew _ _)).mono ?_
  rintro e w1 ⟨rfl, ht1, hf1⟩
  have hF : ¬ F w.heap.size := fun h => by have := HA.out _ (H3.out _ h); omega
  have T1 := hid ((Turn.of (bnew _ _)).trans' ht1)
  have F1 := hid hf1
  have N1 := hid ((H2.out.later (bnew _ _)).turned ht1 (fun g hg _ h => H5.out g h hg))
  obtain ⟨_, _, _, _, _, _, _, _, _, c9, c10, _, _, _⟩ := (ht1.blk (Blk.new w _ _) hF).n14
  clear ht1 hf1 HD
  go_wp2_with fail
  refine (HS.out _ N1.out).mono ?_
  rintro e w2 ⟨rfl, ht2, hn2⟩
  have F2 := hid (F1.out.turned ht2 (fun g hg _ h => H5.out g hg h))
  have T2 := hid ((T1.out.mono (fun x _ hx => H3.out x hx)).trans' (ht2.mono (fun x _ hx => H4.out x hx)))
  have N2 := hid hn2
  clear c9 c10 ht2 hn2 HS
  go_wp2
  go_ret
  exact ⟨rfl, T2.out, F2.out.files, N2.out⟩
set_option maxRecDepth 100000 in
set_option maxHeartbeats 2000000 in
theorem heldNode_any (a b : Option Addr) (ca cb n : Nat) (c k cr fl : Int) (dn : Bool) (L : LogD) (now lsn : Int) (deg up : Bool) (ts : List TenD) (w : World) (hf : FilesIn w a (markL 1 n)) (ht : TensIn w b (markTens (1 + 3 * n) ts)) (hk2 : 1 + 3 * n + tensLen ts ≤ 100000000) :
    Calls Tryz.prog 11 #[.agg #[.slice a n ca, .int .i64 c, .int .i64 k, .int .i64 cr, .int .i64 fl, .bool dn, .int .i64 L.first, .int .i64 L.last, .int .i64 L.size, .int .i64 now, .slice b ts.length cb, .int .i64 lsn, .bool deg, .bool up], .int .i64 1] w fun e w' => e = .returned (.int .i64 ((1 + 3 * n + tensLen ts : Nat) : Int)) ∧ Below w.heap.size w w' := by
  have HD := hid (fun W (hW : Below w.heap.size w W) => heldDisk_any a ca c k cr fl dn 1 n W (by omega) (by omega) (hf.later hW))
  have HS := hid (fun W (hW : Below w.heap.size w W) => heldState_any now b cb ts (1 + 3 * n) W (by omega) hk2 (ht.later hW))
  clear hf ht
  go_enter Tryz.func11, Tryz.ntmps11
  go_wp2_with fail
  refine (HD.out _ (bnew _ _)).mono ?_
  rintro e w1 ⟨rfl, hb1⟩
  have B1 := hid (bto (bnew _ _) hb1)
  obtain ⟨_, _, _, _, _, _, _, _, _, c9, c10, _, _, _⟩ := (Blk.later (Blk.new w _ _) hb1).n14
  clear hb1 HD
  go_wp2_with fail
  refine (HS.out _ B1.out).mono ?_
  rintro e w2 ⟨rfl, hb2⟩
  have B2 := hid (bto B1.out hb2)
  clear hb2 HS c9 c10
  go_wp2
  go_ret
  exact ⟨rfl, B2.out⟩
set_option maxRecDepth 100000 in
set_option maxHeartbeats 4000000 in
theorem toNode_any (a b : Option Addr) (ca cb : Nat) (N : NodeD) (w : World) (hf : FilesIn w a N.d.fs) (hl : N.d.fs.length ≤ 1048576) (ht : TensIn w b N.ts) (hlt : N.ts.length ≤ 1048576) (hsm : SmallT N.ts) :
    Calls Tryz.prog 7 #[.agg #[.slice a N.d.fs.length ca, .int .i64 N.d.c, .int .i64 N.d.k, .int .i64 N.d.cr, .int .i64 N.d.fl, .bool N.d.dn, .int .i64 N.l.first, .int .i64 N.l.last, .int .i64 N.l.size, .int .i64 N.now, .slice b N.ts.length cb, .int .i64 N.lsn, .bool N.deg, .bool N.up]] w fun e w' => ∃ g h, e = .returned (.agg #[.slice (some ⟨g, 0, none⟩) N.d.fs.length N.d.fs.length, .int .i64 N.d.c, .int .i64 N.d.k, .int .i64 N.d.cr, .int .i64 N.d.fl, .bool N.d.dn, .int .i64 N.l.first, .int .i64 N.l.last, .int .i64 N.l.size, .int .i64 N.now, .slice (some ⟨h, 0, none⟩) N.ts.length N.ts.length, .int .i64 N.lsn, .bool N.deg, .bool N.up]) ∧ NodeA w' (fun x => w.heap.size ≤ x ∧ x < w'.heap.size) (some ⟨g, 0, none⟩) (some ⟨h, 0, none⟩) N ∧ Below w.heap.size w w' := by
  have HD := hid (fun W (hW : Below w.heap.size w W) => toDisk_any a ca N.d.fs N.d.c N.d.k N.d.cr N.d.fl N.d.dn W (hf.later hW) hl)
  have HL := hid (fun W => toLog_any N.l.first N.l.last N.l.size W)
  have HS := hid (fun W (hW : Below w.heap.size w W) => toState_any N.now b cb N.ts W (ht.later hW) hlt hsm)
  clear hf ht hsm
  go_enter Tryz.func7, Tryz.ntmps7
  go_wp2_with fail
  refine (HD.out _ (bto (bto (bnew _ _) (bnew _ _)) (bnew _ _))).mono ?_
  rintro e w1 ⟨g, rfl, hg1, hx1, hf1, hb1⟩
  have A1 := hid ((((Blk.new w _ _).alloc _).alloc _).later hb1)
  have R1 := hid (((Blk.new (w.alloc _) _ _).alloc _).later hb1)
  have O1 := hid ((Blk.new ((w.alloc _).alloc _) _ _).later hb1)
  simp only [World.size_alloc] at R1 O1 hg1
  have W1 := hid (show FilesA w1 (fun x => x = g) (some ⟨g, 0, none⟩) N.d.fs by
    obtain ⟨cur, t, hx⟩ := hx1
    rcases hf1 with h | ⟨b', o', e, _, h⟩
    · exact Or.inl h
    · simp only [Option.some.injEq, Addr.mk.injEq] at e
      obtain ⟨rfl, rfl, _⟩ := e
      exact Or.inr ⟨g, 0, cur, t, rfl, rfl, hx, h⟩)
  have hgl : g < w1.heap.size := by obtain ⟨cur, t, hx⟩ := hx1; exact lt_of_block hx
  have B1 := hid (bto (bto (bto (bnew _ _) (bnew _ _)) (bnew _ _)) hb1)
  have hz1 := hb1.size
  simp only [World.size_alloc] at hz1
  obtain ⟨o0, o1, o2, o3, o4, o5, o6, o7, o8, o9, o10, o11, o12, o13⟩ := O1.out.n14
  obtain ⟨f0, f1, f2, f3, f4, f5, f6, f7, f8, f9, f10, f11, f12, f13⟩ := O1.out.frees
  obtain ⟨_, _, _, _, _, _, a6, a7, a8, _, _, _, _, _⟩ := A1.out.n14
  clear hb1 hf1 hx1 HD
  go_wp2_with fail
  refine at_put6 (C := fun W => Calls Tryz.prog _ _ W _) O1.out ?_
  intro w2 O2 T2
  have A2 := hid (T2.blk A1.out (by omega))
  have R2 := hid (T2.blk R1.out (by omega))
  have W2 := hid (W1.out.turned T2 (fun x hx _ e => by omega))
  have hz2 := T2.size
  have B2 := hid (B1.out.trans (T2.below (by have := B1.out.size; omega) (fun k hk e => by omega)))
  clear o0 o1 o2 o3 o4 o5 o6 o7 o8 o9 o10 o11 o12 o13 f0 f1 f2 f3 f4 f5 f6 f7 f8 f9 f10 f11 f12 f13 a6 a7 a8 O1 A1 R1 W1 B1 T2
  refine (HL.out _).mono ?_
  rintro e w3 ⟨rfl, hb3⟩
  have A3 := hid (A2.out.later hb3)
  have R3 := hid (R2.out.later hb3)
  have O3 := hid (O2.later hb3)
  have W3 := hid (W2.out.later hb3)
  have B3 := hid (bto B2.out hb3)
  have hz3 := hb3.size
  obtain ⟨o0, o1, o2, o3, o4, o5, o6, o7, o8, o9, o10, o11, o12, o13⟩ := O3.out.n14
  obtain ⟨f0, f1, f2, f3, f4, f5, f6, f7, f8, f9, f10, f11, f12, f13⟩ := O3.out.frees
  obtain ⟨_, _, _, _, _, _, _, _, _, a9, a10, _, _, _⟩ := A3.out.n14
  clear hb3 A2 R2 O2 W2 B2 HL
  go_wp2_with fail
  refine at_put3 (C := fun W => Calls Tryz.prog _ _ W _) O3.out ?_
  intro w4 O4 T4
  have A4 := hid (T4.blk A3.out (by omega))
  have R4 := hid (T4.blk R3.out (by omega))
  have W4 := hid (W3.out.turned T4 (fun x hx _ e => by omega))
  have hz4 := T4.size
  have B4 := hid (B3.out.trans (T4.below (by have := B3.out.size; omega) (fun k hk e => by omega)))
  clear o0 o1 o2 o3 o4 o5 o6 o7 o8 o9 o10 o11 o12 o13 f0 f1 f2 f3 f4 f5 f6 f7 f8 f9 f10 f11 f12 f13 a9 a10 O3 A3 R3 W3 B3 T4
  refine (HS.out _ B4.out).mono ?_
  rintro e w5 ⟨h, rfl, hh1, hh2, ho5, hb5⟩
  have W5 := hid (W4.out.later hb5)
  have X5 := hid (ho5.toA (Nat.le_refl _))
  have B5 := hid (bto B4.out hb5)
  have hz5 := hb5.size
  obtain ⟨o0, o1, o2, o3, o4, o5, o6, o7, o8, o9, o10, o11, o12, o13⟩ := (O4.later hb5).n14
  obtain ⟨f0, f1, f2, f3, f4, f5, f6, f7, f8, f9, f10, f11, f12, f13⟩ := (O4.later hb5).frees
  obtain ⟨_, _, _, _, _, _, _, _, _, _, _, a11, a12, a13⟩ := (A4.out.later hb5).n14
  obtain ⟨r0, r1, r2, r3, r4, r5, r6, r7, r8, r9, r10, r11, r12, r13⟩ := (R4.out.later hb5).n14
  obtain ⟨g0, g1, g2, g3, g4, g5, g6, g7, g8, g9, g10, g11, g12, g13⟩ := (R4.out.later hb5).frees
  clear hb5 ho5 A4 R4 O4 W4 B4 HS
  go_wp2
  refine bodyPost_ret (v := .agg #[.slice (some ⟨g, 0, none⟩) N.d.fs.length N.d.fs.length, .int .i64 N.d.c, .int .i64 N.d.k, .int .i64 N.d.cr, .int .i64 N.d.fl, .bool N.d.dn, .int .i64 N.l.first, .int .i64 N.l.last, .int .i64 N.l.size, .int .i64 N.now, .slice (some ⟨h, 0, none⟩) N.ts.length N.ts.length, .int .i64 N.lsn, .bool N.deg, .bool N.up]) (by simp [results, Tryz.results7, go_sem, r0, r1, r2, r3, r4, r5, r6, r7, r8, r9, r10, r11, r12, r13]) rfl ?_
  refine Turn.end2 (S := fun x => x = w.heap.size + 1 + 1 ∨ x = w.heap.size + 1) (C := fun W => ∃ g' h', Ending.returned (.agg #[.slice (some ⟨g, 0, none⟩) N.d.fs.length N.d.fs.length, .int .i64 N.d.c, .int .i64 N.d.k, .int .i64 N.d.cr, .int .i64 N.d.fl, .bool N.d.dn, .int .i64 N.l.first, .int .i64 N.l.last, .int .i64 N.l.size, .int .i64 N.now, .slice (some ⟨h, 0, none⟩) N.ts.length N.ts.length, .int .i64 N.lsn, .bool N.deg, .bool N.up]) = Ending.returned (.agg #[.slice (some ⟨g', 0, none⟩) N.d.fs.length N.d.fs.length, .int .i64 N.d.c, .int .i64 N.d.k, .int .i64 N.d.cr, .int .i64 N.d.fl, .bool N.d.dn, .int .i64 N.l.first, .int .i64 N.l.last, .int .i64 N.l.size, .int .i64 N.now, .slice (some ⟨h', 0, none⟩) N.ts.length N.ts.length, .int .i64 N.lsn, .bool N.deg, .bool N.up]) ∧ NodeA W (fun x => w.heap.size ≤ x ∧ x < W.heap.size) (some ⟨g', 0, none⟩) (some ⟨h', 0, none⟩) N ∧ Below w.heap.size w W) w5 (by
    repeat (with_reducible first | exact Turn.refl _ _ | refine Turn.setCell ?_ (Or.inl (by first | exact Or.inl rfl | exact Or.inr rfl)) _ _)) ?_
  intro w6 T6
  have hz6 := T6.size
  exact ⟨g, h, rfl, ⟨_, _, W5.out.turned T6 (fun x hx _ e => by omega), X5.out.turned T6 (fun x hx _ e => by omega), fun x hx => by omega, fun x hx => by omega, fun x hx e => by omega⟩, B5.out.trans (T6.below (by have := B5.out.size; omega) (fun k hk e => by omega))⟩
end Go.Proofs.YtgnppdghjlnlhaaGreatDoor
namespace Go.Proofs.YtgnppdghjlnlhaaGreatDoor
open Go.RowKit
structure TV where
  t : TenD
  a1 : Option Addr
  c1 : Nat
  a2 : Option Addr
  c2 : Nat
def flatV (ys : List TV) : List Value := ys.flatMap fun y => [.string y.t.name, .int .i64 y.t.limit, .slice y.a1 y.t.mets.length y.c1, .slice y.a2 y.t.sers.length y.c2]
theorem flatV_append (a b : List TV) : flatV (a ++ b) = flatV a ++ flatV b := by simp [flatV]
def PartsV (w : World) (b : Nat) (T : Nat → Nat) (ys : List TV) : Prop :=
  ∀ i (h : i < ys.length), PairsTag w b T (2 * i + 1) ys[i].a1 ys[i].t.mets ∧ PairsTag w b T (2 * i + 2) ys[i].a2 ys[i].t.sers
def RowV (w : World) (b : Nat) (e : TypeId) (v : Value) (n : Nat) (ts : List TenD) : Prop :=
  ∃ T ys, w.ownsRow b e 4 v n (flatV ys) ∧ ys.map (·.t) = ts ∧ (∀ g, v.ownBlock = some g → T g = 0) ∧ PartsV w b T ys
theorem RowV.nil (w : World) (b : Nat) (e : TypeId) : RowV w b e (.slice none 0 0) 0 [] :=
  ⟨fun _ => 0, [], World.ownsRow_nil _ _ _ _, rfl, fun _ _ => rfl, fun i h => absurd h (by simp)⟩
theorem RowV.row {w : World} {b : Nat} {e : TypeId} {v : Value} {n : Nat} {ts : List TenD} (h : RowV w b e v n ts) : ∃ a c, v = .slice a n c := by
  obtain ⟨_, _, h, _⟩ := h
  rcases h.2 with ⟨rfl, rfl⟩ | ⟨g, cap, cur, rfl, _⟩
  · exact ⟨none, 0, rfl⟩
  · exact ⟨_, _, rfl⟩
theorem RowV.lt {w : World} {b : Nat} {e : TypeId} {v : Value} {n : Nat} {ts : List TenD} (h : RowV w b e v n ts) : ∀ g, v.ownBlock = some g → b ≤ g ∧ g < w.heap.size := by
  obtain ⟨_, _, h, _⟩ := h
  exact fun g hg => h.lt g hg
theorem RowV.turn {w w' : World} {S : Nat → Prop} {b : Nat} {e : TypeId} {v : Value} {n : Nat} {ts : List TenD} (h : RowV w b e v n ts) (ht : Turn S w w') (hS : ∀ g, S g → g < b) : RowV w' b e v n ts := by
  obtain ⟨T, ys, h1, h2, h3, h4⟩ := h
  refine ⟨T, ys, ht.row h1 (fun g hg e => by have := (h1.lt g hg).1; have := hS g e; omega), h2, h3, fun i hi => ?_⟩
  have hk : ∀ g, g < w.heap.size → b ≤ g → w'.heap[g]? = w.heap[g]? := fun g hg hb => ht.block g hg (fun e => by have := hS g e; omega)
  exact ⟨(h4 i hi).1.keep fun g hg hb hT => ⟨hk g hg hb, hT⟩, (h4 i hi).2.keep fun g hg hb hT => ⟨hk g hg hb, hT⟩⟩
theorem RowV.snoc {wr w4 w6 : World} {b M gg cap k : Nat} {e : TypeId} {v : Value} {T : Nat → Nat} {ys : List TV} {ts : List TenD} {t : TenD} {a1 a2 : Option Addr} {c1 c2 : Nat}
    (hrow : w6.ownsRow b e 4 (.slice (some ⟨gg, 0, none⟩) (k + 1) cap) (k + 1) (flatV ys ++ [.string t.name, .int .i64 t.limit, .slice a1 t.mets.length c1, .slice a2 t.sers.length c2]))
    (hys : ys.map (·.t) = ts) (hyk : ys.length = k) (hv : ∀ g, v.ownBlock = some g → T g = 0) (hp : PartsV wr b T ys) (hb : b ≤ wr.heap.size) (hM : wr.heap.size ≤ M)
    (hk0 : ∀ g, g < wr.heap.size → b ≤ g → v.ownBlock ≠ some g → w6.heap[g]? = wr.heap[g]?) (hk4 : ∀ g, wr.heap.size ≤ g → g < w4.heap.size → w6.heap[g]? = w4.heap[g]?)
    (h1 : PairsOwn w4 wr.heap.size a1 t.mets) (h1M : ∀ g o, a1 = some ⟨g, o, none⟩ → g < M) (h2 : PairsOwn w4 M a2 t.sers)
    (hgg : (v.ownBlock = some gg ∧ gg < wr.heap.size) ∨ w4.heap.size ≤ gg) (h4r : wr.heap.size ≤ w4.heap.size) (hM4 : M ≤ w4.heap.size) : RowV w6 b e (.slice (some ⟨gg, 0, none⟩) (k + 1) cap) (k + 1) (ts ++ [t]) := by
  have own6 : ∀ {B n : Nat} {T' : Nat → Nat} {a : Option Addr} {ps : List PairD}, wr.heap.size ≤ B → PairsOwn w4 B a ps → (∀ g o, a = some ⟨g, o, none⟩ → B ≤ g → g < w4.heap.size → T' g = n) → PairsTag w6 b T' n a ps := by
    intro B n T' a ps hB h hT
    rcases h with h | ⟨g, o, cur, ty, rfl, hBg, hblk, hat⟩
    · exact Or.inl h
    · have hlt := lt_of_block hblk
      have hke := hk4 g (by omega) hlt
      have hc : ∀ j, w6.cell? ⟨g, j, none⟩ = w4.cell? ⟨g, j, none⟩ := fun j => World.cell?_of_block hke
      exact Or.inr ⟨g, o, cur, ty, rfl, by omega, hT g o rfl hBg hlt, hke.trans hblk, fun i hi => by simp only [hc]; exact hat i hi⟩
  refine ⟨fun g => if g < wr.heap.size then T g else if g < M then 2 * k + 1 else if g < w4.heap.size then 2 * k + 2 else 0, ys ++ [⟨t, a1, c1, a2, c2⟩], ?_, ?_, ?_, ?_⟩
  · rw [flatV_append]; exact hrow
  · rw [List.map_append, hys]; rfl
  · intro g hg
    simp only [Value.ownBlock, Option.some.injEq] at hg
    subst hg
    rcases hgg with ⟨h, hl⟩ | h
    · simp only [if_pos hl]; exact hv _ h
    · simp only [if_neg (show ¬ gg < wr.heap.size by omega), if_neg (show ¬ gg < M by omega), if_neg (show ¬ gg < w4.heap.size by omega)]
  · intro i hi
    by_cases hik : i < ys.length
    · rw [List.getElem_append_left hik]
      obtain ⟨p1, p2⟩ := hp i hik
      refine ⟨p1.keep fun g hg hbg hT => ⟨hk0 g hg hbg (fun e => by have := hv g e; omega), by simp only [if_pos hg]; exact hT⟩, p2.keep fun g hg hbg hT => ⟨hk0 g hg hbg (fun e => by have := hv g e; omega), by simp only [if_pos hg]; exact hT⟩⟩
    · have e : i = k := by simp at hi; omega
      subst e
      rw [List.getElem_append_right (by omega)]
      simp only [hyk, Nat.sub_self, List.getElem_cons_zero]
      refine ⟨own6 (Nat.le_refl _) h1 fun g o ha hg _ => ?_, own6 hM h2 fun g o ha hg hl => ?_⟩
      · simp only [if_neg (show ¬ g < wr.heap.size by omega), if_pos (h1M g o ha)]
      · simp only [if_neg (show ¬ g < wr.heap.size by omega), if_neg (show ¬ g < M by omega), if_pos hl]
theorem RowV.own {w : World} {b : Nat} {e : TypeId} {a : Option Addr} {n cap : Nat} {ts : List TenD} (h : RowV w b e (.slice a n cap) n ts) (hn : ts.length = n) : TensOwn w b a ts := by
  obtain ⟨T, ys, h1, h2, h3, h4⟩ := h
  have hyl : ys.length = n := by rw [← hn, ← h2, List.length_map]
  rcases h1.2 with ⟨_, hl⟩ | ⟨g, cap', cur, he, hB, hg, _, _, hsz, htk⟩
  · exact Or.inl (List.length_eq_zero_iff.1 (by omega))
  · simp only [Value.slice.injEq] at he
    have hT : T g = 0 := h3 g (by rw [he.1]; rfl)
    have hf : ∀ (l : List TV) i (hi : i < l.length), (flatV l)[i * 4]? = some (.string l[i].t.name) ∧ (flatV l)[i * 4 + 1]? = some (.int .i64 l[i].t.limit) ∧ (flatV l)[i * 4 + 2]? = some (.slice l[i].a1 l[i].t.mets.length l[i].c1) ∧ (flatV l)[i * 4 + 3]? = some (.slice l[i].a2 l[i].t.sers.length l[i].c2) := by
      intro l
      unfold flatV
      induction l with
      | nil => intro i hi; exact absurd hi (by simp)
      | cons x r ih =>
        intro i hi
        cases i with
        | zero => simp
        | succ i =>
          have := ih i (by simpa using hi)
          simp only [List.flatMap_cons, List.cons_append, List.nil_append, List.getElem_cons_succ]
          refine ⟨?_, ?_, ?_, ?_⟩
          · rw [show (i + 1) * 4 = i * 4 + 1 + 1 + 1 + 1 by omega, List.getElem?_cons_succ, List.getElem?_cons_succ, List.getElem?_cons_succ, List.getElem?_cons_succ]; exact this.1
          · rw [show (i + 1) * 4 + 1 = i * 4 + 1 + 1 + 1 + 1 + 1 by omega, List.getElem?_cons_succ, List.getElem?_cons_succ, List.getElem?_cons_succ, List.getElem?_cons_succ]; exact this.2.1
          · rw [show (i + 1) * 4 + 2 = i * 4 + 2 + 1 + 1 + 1 + 1 by omega, List.getElem?_cons_succ, List.getElem?_cons_succ, List.getElem?_cons_succ, List.getElem?_cons_succ]; exact this.2.2.1
          · rw [show (i + 1) * 4 + 3 = i * 4 + 3 + 1 + 1 + 1 + 1 by omega, List.getElem?_cons_succ, List.getElem?_cons_succ, List.getElem?_cons_succ, List.getElem?_cons_succ]; exact this.2.2.2
    have hc : ∀ j, j < n * 4 → w.cell? ⟨g, j, none⟩ = (flatV ys)[j]? := fun j hj => by
      rw [Blk.cell (show Blk w g cur e from hg) j, ← Array.getElem?_toList, ← htk, List.getElem?_take_of_lt hj]
    refine Or.inr ⟨g, 0, cur, e, T, he.1, hB, hg, hT, fun i hi => ?_⟩
    have hiy : i < ys.length := by omega
    have et : ts[i] = ys[i].t := by simp only [← h2, List.getElem_map]
    obtain ⟨f0, f1, f2, f3⟩ := hf ys i hiy
    rw [et]
    refine ⟨ys[i].a1, ys[i].c1, ys[i].a2, ys[i].c2, ?_, ?_, ?_, ?_, (h4 i hiy).1, (h4 i hiy).2⟩
    · rw [Nat.zero_add, hc _ (by omega)]; exact f0
    · rw [Nat.zero_add, hc _ (by omega)]; exact f1
    · rw [Nat.zero_add, hc _ (by omega)]; exact f2
    · rw [Nat.zero_add, hc _ (by omega)]; exact f3
end Go.Proofs.YtgnppdghjlnlhaaGreatDoor
namespace Go.Proofs.YtgnppdghjlnlhaaGreatDoor
open Go.RowKit
def OldY (w : World) (ys : List TV) : Prop := ∀ y ∈ ys, PairsIn w y.a1 y.t.mets ∧ PairsIn w y.a2 y.t.sers
theorem OldY.snoc {w : World} {ys : List TV} (h : OldY w ys) {y : TV} (h1 : PairsIn w y.a1 y.t.mets) (h2 : PairsIn w y.a2 y.t.sers) : OldY w (ys ++ [y]) := fun z hz => by
  rcases List.mem_append.1 hz with hz | hz
  · exact h z hz
  · rw [List.mem_singleton.1 hz]; exact ⟨h1, h2⟩
theorem flatV_get : ∀ (l : List TV) (i : Nat) (hi : i < l.length), (flatV l)[i * 4]? = some (.string l[i].t.name) ∧ (flatV l)[i * 4 + 1]? = some (.int .i64 l[i].t.limit) ∧ (flatV l)[i * 4 + 2]? = some (.slice l[i].a1 l[i].t.mets.length l[i].c1) ∧ (flatV l)[i * 4 + 3]? = some (.slice l[i].a2 l[i].t.sers.length l[i].c2) := by
  intro l
  unfold flatV
  induction l with
  | nil => intro i hi; exact absurd hi (by simp)
  | cons x r ih =>
    intro i hi
    cases i with
    | zero => simp
    | succ i =>
      have := ih i (by simpa using hi)
      simp only [List.flatMap_cons, List.cons_append, List.nil_append, List.getElem_cons_succ]
      refine ⟨?_, ?_, ?_, ?_⟩
      · rw [show (i + 1) * 4 = i * 4 + 1 + 1 + 1 + 1 by omega, List.getElem?_cons_succ, List.getElem?_cons_succ, List.getElem?_cons_succ, List.getElem?_cons_succ]; exact this.1
      · rw [show (i + 1) * 4 + 1 = i * 4 + 1 + 1 + 1 + 1 + 1 by omega, List.getElem?_cons_succ, List.getElem?_cons_succ, List.getElem?_cons_succ, List.getElem?_cons_succ]; exact this.2.1
      · rw [show (i + 1) * 4 + 2 = i * 4 + 2 + 1 + 1 + 1 + 1 by omega, List.getElem?_cons_succ, List.getElem?_cons_succ, List.getElem?_cons_succ, List.getElem?_cons_succ]; exact this.2.2.1
      · rw [show (i + 1) * 4 + 3 = i * 4 + 3 + 1 + 1 + 1 + 1 by omega, List.getElem?_cons_succ, List.getElem?_cons_succ, List.getElem?_cons_succ, List.getElem?_cons_succ]; exact this.2.2.2
theorem row_old {w w8 : World} {B : Nat} {e : TypeId} {a : Option Addr} {cap : Nat} {ys : List TV} (h : w8.ownsRow B e 4 (.slice a ys.length cap) ys.length (flatV ys)) (ho : OldY w ys) :
    ∀ i (hi : i < ys.length), ∃ b, a = some ⟨b, 0, none⟩ ∧ b < w8.heap.size ∧ w8.cell? ⟨b, i * 4, none⟩ = some (.string ys[i].t.name) ∧ w8.cell? ⟨b, i * 4 + 1, none⟩ = some (.int .i64 ys[i].t.limit) ∧ w8.cell? ⟨b, i * 4 + 2, none⟩ = some (.slice ys[i].a1 ys[i].t.mets.length ys[i].c1) ∧ w8.cell? ⟨b, i * 4 + 3, none⟩ = some (.slice ys[i].a2 ys[i].t.sers.length ys[i].c2) ∧ PairsIn w ys[i].a1 ys[i].t.mets ∧ PairsIn w ys[i].a2 ys[i].t.sers := by
  intro i hi
  rcases h.2 with ⟨_, hl⟩ | ⟨g, cap', cur, he, hB, hg, _, _, hsz, htk⟩
  · omega
  · simp only [Value.slice.injEq] at he
    obtain ⟨f0, f1, f2, f3⟩ := flatV_get ys i hi
    have hc : ∀ j, j < ys.length * 4 → w8.cell? ⟨g, j, none⟩ = (flatV ys)[j]? := fun j hj => by
      rw [Blk.cell (show Blk w8 g cur e from hg) j, ← Array.getElem?_toList, ← htk, List.getElem?_take_of_lt hj]
    obtain ⟨o1, o2⟩ := ho ys[i] (List.getElem_mem hi)
    refine ⟨g, he.1, lt_of_block hg, ?_, ?_, ?_, ?_, o1, o2⟩
    · rw [hc _ (by omega)]; exact f0
    · rw [hc _ (by omega)]; exact f1
    · rw [hc _ (by omega)]; exact f2
    · rw [hc _ (by omega)]; exact f3
end Go.Proofs.YtgnppdghjlnlhaaGreatDoor
namespace Go.Proofs.YtgnppdghjlnlhaaGreatDoor
open Go.RowKit
def TelOut (w : World) (nm : ByteArray) (t : TenD) (e : Ending) (w' : World) : Prop :=
  ∃ M a1 c1 a2 c2, e = .returned (.agg #[.string nm, .int .i64 t.limit, .slice a1 t.mets.length c1, .slice a2 t.sers.length c2]) ∧ w.heap.size ≤ M ∧ PairsOwn w' w.heap.size a1 t.mets ∧ (∀ g o, a1 = some ⟨g, o, none⟩ → g < M) ∧ PairsOwn w' M a2 t.sers ∧ M ≤ w'.heap.size ∧ Below w.heap.size w w'
def flatK (ps : List PairD) : List Value := ps.flatMap fun x => [.string x.s, .int .i64 x.n]
def TelOutR (w : World) (nm : ByteArray) (t : TenD) (e : Ending) (w' : World) : Prop :=
  ∃ M a1 c1 a2 c2, e = .returned (.agg #[.string nm, .int .i64 t.limit, .slice a1 t.mets.length c1, .slice a2 t.sers.length c2]) ∧ w.heap.size ≤ M ∧ PairsOwn w' w.heap.size a1 t.mets ∧ (∀ g o, a1 = some ⟨g, o, none⟩ → g < M) ∧ w'.ownsRow M 101 2 (.slice a2 t.sers.length c2) t.sers.length (flatK t.sers) ∧ M ≤ w'.heap.size ∧ Below w.heap.size w w'
theorem TelOutR.tel {w : World} {nm : ByteArray} {t : TenD} {e : Ending} {w' : World} (h : TelOutR w nm t e w') : TelOut w nm t e w' := by
  obtain ⟨M, a1, c1, a2, c2, h1, h2, h3, h4, h5, h6⟩ := h
  exact ⟨M, a1, c1, a2, c2, h1, h2, h3, h4, pairs_of_row h5, h6⟩
theorem flatK_append (a b : List PairD) : flatK (a ++ b) = flatK a ++ flatK b := by simp [flatK]
theorem flatK_length (ps : List PairD) : (flatK ps).length = ps.length * 2 := by
  induction ps with
  | nil => rfl
  | cons x r ih => simp only [flatK, List.flatMap_cons, List.length_append, List.length_cons, List.length_nil] at ih ⊢; omega
theorem flatK_cell (ps : List PairD) : ∀ u ∈ flatK ps, u.oneCell' = true := by
  intro u hu
  simp only [flatK, List.mem_flatMap] at hu
  obtain ⟨x, _, hu⟩ := hu
  simp only [List.mem_cons, List.mem_nil_iff, or_false] at hu
  rcases hu with rfl | rfl <;> rfl
theorem flatK_get : ∀ (ps : List PairD) (j : Nat) (u : Value), (flatK ps)[j]? = some u → ∃ i, ∃ h : i < ps.length, (j = i * 2 ∧ u = .string ps[i].s) ∨ (j = i * 2 + 1 ∧ u = .int .i64 ps[i].n)
  | [], j, u, h => by simp [flatK] at h
  | x :: r, 0, u, h => ⟨0, by simp, Or.inl ⟨rfl, by simpa [flatK] using h.symm⟩⟩
  | x :: r, 1, u, h => ⟨0, by simp, Or.inr ⟨rfl, by simpa [flatK] using h.symm⟩⟩
  | x :: r, j + 2, u, h => by
    have h' : (flatK r)[j]? = some u := by simpa [flatK] using h
    obtain ⟨i, hi, q⟩ := flatK_get r j u h'
    refine ⟨i + 1, by simpa using hi, ?_⟩
    rcases q with ⟨e, q⟩ | ⟨e, q⟩
    · exact Or.inl ⟨by omega, by simpa using q⟩
    · exact Or.inr ⟨by omega, by simpa using q⟩
theorem pairs_news {w : World} {b o : Nat} {ps : List PairD} (h : ∀ i (hi : i < ps.length), w.cell? ⟨b, o + i * 2, none⟩ = some (.string ps[i].s) ∧ w.cell? ⟨b, o + i * 2 + 1, none⟩ = some (.int .i64 ps[i].n)) :
    ∀ j u, (flatK ps)[j]? = some u → w.cell? ((⟨b, o, none⟩ : Addr).add j) = some u := by
  intro j u hu
  have hadd : (⟨b, o, none⟩ : Addr).add j = ⟨b, o + j, none⟩ := by unfold Addr.add; split <;> simp_all
  rw [hadd]
  obtain ⟨i, hi, q⟩ := flatK_get ps j u hu
  rcases q with ⟨rfl, rfl⟩ | ⟨rfl, rfl⟩
  · exact (h i hi).1
  · exact (h i hi).2
end Go.Proofs.YtgnppdghjlnlhaaGreatDoor
namespace Go.Proofs.YtgnppdghjlnlhaaGreatDoor
open Go.RowKit
theorem run_append_empty {P : Program} {w : World} (base : Nat) (t ty e : TypeId) (i : TypeInfo) (size : Nat) (ht : P.underlying t = some (.slice e)) (hi : P.info? e = some i)
    (v : Value) (n : Nat) (xs : List Value) (hown : w.ownsRow base e size v n xs) (a2 : Option Addr) (c2 : Nat) :
    (Builtin.append_ #[t, t] ty #[v, .slice a2 0 c2]).run P w = .ok v w := by
  have hl : ∀ ad : Addr, (loadCells ad 0).run P w = .ok #[] w := fun ad => by
    simp [loadCells, loadCellsFrom]
  rcases hown.2 with ⟨rfl, rfl⟩ | ⟨g, cap, cur, rfl, _, _, hnc, _⟩
  · cases a2 <;> simp [Builtin.append_, run_underlying ht, sizeOf, typeInfo, hi, Builtin.lenOf, Builtin.firstCells, hl]
  · cases a2 <;> simp [Builtin.append_, run_underlying ht, sizeOf, typeInfo, hi, Builtin.lenOf, Builtin.firstCells, hnc, storeCells, hl]
theorem wpList_append_empty {P : Program} {w : World} {ops : Array Oper} {rest : List Oper} {o : Oper} {a : Act} {Q : Exit → Act → World → Prop} (hgd : o.guard = none) (s x : Operand) (t : TypeId)
    (ho : o.op = .call { callee := .builtin .append, args := #[s, x], argTypes := #[t, t] })
    (base : Nat) (e : TypeId) (i : TypeInfo) (size : Nat) (ht : P.underlying t = some (.slice e)) (hi : P.info? e = some i)
    (v : Value) (n : Nat) (xs : List Value) (hs : a.eval s = v) (hown : w.ownsRow base e size v n xs) (a2 : Option Addr) (c2 : Nat) (hx : a.eval x = .slice a2 0 c2)
    (h : wpList P ops Q rest (a.put o.dst v) w) : wpList P ops Q (o :: rest) a w := by
  refine wpList_plain hgd fun K hK => ?_
  have hrun := run_append_empty (P := P) (w := w) base t o.type e i size ht hi v n xs hown a2 c2
  unfold Oper.wp
  simp [execOp, ho, resolve, invoke, builtin, hs, hx, hrun, Result.andThen]
  exact hK _ _ h
end Go.Proofs.YtgnppdghjlnlhaaGreatDoor
