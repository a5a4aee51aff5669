import Derived.Test.YtflfopienjjlbaaGreatDoorProg
import Derived.Test.YtflfopienjjlbaaGreatDoorJ29StrB
import Derived.Test.YtflfopienjjlbaaGreatDoorJ17SWith2
import Derived.Test.YtflfopienjjlbaaGreatDoorJ26SLgP
import Derived.Deep.RegionHeld3
import Derived.Deep.DeepCutAuto
namespace Go.Proofs.YtflfopienjjlbaaGreatDoor
open Go.RowKit

/-- Texts that lie ahead of P. -/
def FrontS (a : Option Addr) (l : List ByteArray) (P : Nat) : Prop := l = [] ∨ ∃ b o, a = some ⟨b, o, none⟩ ∧ b < P
theorem frontS_of {w : World} {a : Option Addr} {l : List ByteArray} (h : StrsIn w a l) : FrontS a l w.heap.size := by
  rcases h with h | ⟨b, o, e, hlt, _⟩
  · exact Or.inl h
  · exact Or.inr ⟨b, o, e, hlt⟩
theorem StrsIn.but' {w w' : World} {g P : Nat} {a : Option Addr} {l : List ByteArray} (h : StrsIn w a l) (hb : But g w w') (hf : FrontS a l P) (hg : P ≤ g) : StrsIn w' a l := by
  refine h.but hb ?_
  rcases hf with hn | ⟨b, o, e, hlt⟩
  · exact Or.inl hn
  · exact Or.inr ⟨b, o, e, by omega⟩
theorem StrsOwn.but {w w' : World} {B g : Nat} {a : Option Addr} {l : List ByteArray} (h : StrsOwn w B a l) (hb : But g w w') (hg : g < B) : StrsOwn w' B a l := by
  rcases h with h | ⟨b, o, cur, t, e, hB, hc, hk⟩
  · exact Or.inl h
  · have he := hb.block b (lt_of_block hc) (by omega)
    exact Or.inr ⟨b, o, cur, t, e, hB, he.trans hc, fun i hi => (World.cell?_of_block he).trans (hk i hi)⟩
/-- The argument's box and what the specification answered. -/
structure OB (w W : World) (a : Option Addr) (cap : Nat) (K K0 : DiskD) (L0 : LogD) (P PL : Nat) (aw : Option Addr) (cw : Nat) (sw : Option Addr) (ys : List ByteArray) : Prop where
  be : Below w.heap.size w W
  bA : Blk W w.heap.size #[.slice a K.fs.length cap, .int .i64 K.c, .int .i64 K.k, .int .i64 K.cr, .int .i64 K.fl, .bool K.dn] 24
  bW : Blk W P #[.slice aw K0.fs.length cw, .int .i64 K0.c, .int .i64 K0.k, .int .i64 K0.cr, .int .i64 K0.fl, .bool K0.dn] 28
  bV : Blk W PL #[.int .i64 L0.first, .int .i64 L0.last, .int .i64 L0.size] 30
  fI : FilesIn W aw K0.fs
  sI : StrsIn W sw ys
theorem OB.later {w W W' : World} {a : Option Addr} {cap : Nat} {K K0 : DiskD} {L0 : LogD} {P PL : Nat} {aw : Option Addr} {cw : Nat} {sw : Option Addr} {ys : List ByteArray} (h : OB w W a cap K K0 L0 P PL aw cw sw ys) (hb : Below W.heap.size W W') : OB w W' a cap K K0 L0 P PL aw cw sw ys :=
  ⟨bto h.be hb, h.bA.later hb, h.bW.later hb, h.bV.later hb, h.fI.later hb, h.sI.later hb⟩
theorem OB.but {w W W' : World} {a : Option Addr} {cap : Nat} {K K0 : DiskD} {L0 : LogD} {P PL N g : Nat} {aw : Option Addr} {cw : Nat} {sw : Option Addr} {ys : List ByteArray} (h : OB w W a cap K K0 L0 P PL aw cw sw ys) (hb : But g W W') (hg : N ≤ g) (hn : w.heap.size < N) (hP : P < N) (hPL : PL < N) (hf : Front aw K0.fs N) (hs : FrontS sw ys N) : OB w W' a cap K K0 L0 P PL aw cw sw ys :=
  ⟨h.be.trans (hb.below (by omega) h.be.size), h.bA.but hb (by omega), h.bW.but hb (by omega), h.bV.but hb (by omega), h.fI.but' hb hf hg, h.sI.but' hb hs hg⟩
theorem OB.marked {w W W' : World} {a b : Option Addr} {cap n B : Nat} {K K0 : DiskD} {L0 : LogD} {P PL N : Nat} {aw : Option Addr} {cw : Nat} {sw : Option Addr} {ys : List ByteArray} (h : OB w W a cap K K0 L0 P PL aw cw sw ys) (hm : Marked W W' B b n) (hg : N ≤ B) (hn : w.heap.size < N) (hP : P < N) (hPL : PL < N) (hf : Front aw K0.fs N) (hs : FrontS sw ys N) : OB w W' a cap K K0 L0 P PL aw cw sw ys := by
  rcases hm with ⟨_, h'⟩ | ⟨_, g, o, e, hB, h'⟩
  · exact h.later h'
  · exact h.but h' (Nat.le_trans hg hB) hn hP hPL hf hs
/-- What the program answered. -/
structure OG (W : World) (N : Nat) (K0 : DiskD) (L0 : LogD) (G GL : Nat) (ag : Option Addr) (cg : Nat) (sg : Option Addr) (ys : List ByteArray) : Prop where
  bG : Blk W G #[.slice ag K0.fs.length cg, .int .i64 K0.c, .int .i64 K0.k, .int .i64 K0.cr, .int .i64 K0.fl, .bool K0.dn] 28
  bL : Blk W GL #[.int .i64 L0.first, .int .i64 L0.last, .int .i64 L0.size] 30
  own : Owned W N ag K0.fs
  str : StrsOwn W N sg ys
theorem OG.later {W W' : World} {N : Nat} {K0 : DiskD} {L0 : LogD} {G GL : Nat} {ag : Option Addr} {cg : Nat} {sg : Option Addr} {ys : List ByteArray} (h : OG W N K0 L0 G GL ag cg sg ys) (hb : Below W.heap.size W W') : OG W' N K0 L0 G GL ag cg sg ys :=
  ⟨h.bG.later hb, h.bL.later hb, h.own.later hb, h.str.later hb⟩
theorem OG.but {W W' : World} {N g : Nat} {K0 : DiskD} {L0 : LogD} {G GL : Nat} {ag : Option Addr} {cg : Nat} {sg : Option Addr} {ys : List ByteArray} (h : OG W N K0 L0 G GL ag cg sg ys) (hb : But g W W') (hg : g < N) (hG : N ≤ G) (hL : N ≤ GL) : OG W' N K0 L0 G GL ag cg sg ys :=
  ⟨h.bG.but hb (by omega), h.bL.but hb (by omega), h.own.but hb hg, h.str.but hb hg⟩
/-- The copied argument. -/
structure OX (W : World) (g2 Q : Nat) (K : DiskD) : Prop where
  bX : Blk W Q #[.slice (some ⟨g2, 0, none⟩) K.fs.length K.fs.length, .int .i64 K.c, .int .i64 K.k, .int .i64 K.cr, .int .i64 K.fl, .bool K.dn] 28
  own : Owned W g2 (some ⟨g2, 0, none⟩) K.fs
theorem OX.later {W W' : World} {g2 Q : Nat} {K : DiskD} (h : OX W g2 Q K) (hb : Below W.heap.size W W') : OX W' g2 Q K := ⟨h.bX.later hb, h.own.later hb⟩

set_option maxRecDepth 100000 in
set_option maxHeartbeats 8000000 in
theorem lawOpen_core (a : Option Addr) (cap : Nat) (K : DiskD) (w : World) (K0 : DiskD) (L0 : LogD) (ys : List ByteArray) (code : Int) (HF : Hid (FilesIn w a K.fs)) (hs : Short K.fs) (hlen : K.fs.length ≤ maxLen)
    (hneg : ¬ szFs 1048576 K.fs < 0) (hl20 : K.fs.length ≤ 1048576) (hFl2 : K0.fs.length ≤ 1048580) (hyl : ys.length ≤ 50000000)
    (HSP : Hid (∀ a' cap' W, FilesIn W a' K.fs → Calls Tryz.prog 6 #[.agg #[.slice a' K.fs.length cap', .int .i64 K.c, .int .i64 K.k, .int .i64 K.cr, .int .i64 K.fl, .bool K.dn]] W fun e w' => ∃ aw cw sw sc, e = .returned (.tuple #[.agg #[.slice aw K0.fs.length cw, .int .i64 K0.c, .int .i64 K0.k, .int .i64 K0.cr, .int .i64 K0.fl, .bool K0.dn], .agg #[.int .i64 L0.first, .int .i64 L0.last, .int .i64 L0.size], .slice sw ys.length sc, .int .i64 code]) ∧ FilesIn w' aw K0.fs ∧ StrsIn w' sw ys ∧ Below W.heap.size W w'))
    (HIM : Hid (∀ a' cap' W, Below w.heap.size w W → FilesIn W a' K.fs → Calls Tryz.prog 8 #[.agg #[.slice a' K.fs.length cap', .int .i64 K.c, .int .i64 K.k, .int .i64 K.cr, .int .i64 K.fl, .bool K.dn]] W fun e w' => ∃ ag cg sg sc, e = .returned (.tuple #[.agg #[.slice ag K0.fs.length cg, .int .i64 K0.c, .int .i64 K0.k, .int .i64 K0.cr, .int .i64 K0.fl, .bool K0.dn], .agg #[.int .i64 L0.first, .int .i64 L0.last, .int .i64 L0.size], .slice sg ys.length sc, .int .i64 code]) ∧ Owned w' W.heap.size ag K0.fs ∧ StrsOwn w' W.heap.size sg ys ∧ Apart2 ag K0.fs sg ys ∧ Below W.heap.size W w')) :
    Calls Tryz.prog 3 #[.agg #[.slice a K.fs.length cap, .int .i64 K.c, .int .i64 K.k, .int .i64 K.cr, .int .i64 K.fl, .bool K.dn]] w fun e w' => e = .returned (.bool true) ∧ Below w.heap.size w w' := by
  have HL : Hid (K.fs.length ≤ maxLen) := hlen
  go_enter Tryz.func3, Tryz.ntmps3
  go_wp2_with fail
  refine (szDisk_any a cap K.fs K.c K.k K.cr K.fl K.dn 1048576 _ (by omega) (by omega) (HF.out.later (bnew _ _)) hs hlen).mono ?_
  rintro e w1 ⟨rfl, hb1⟩
  have A1 : Hid (Blk w1 w.heap.size #[.slice a K.fs.length cap, .int .i64 K.c, .int .i64 K.k, .int .i64 K.cr, .int .i64 K.fl, .bool K.dn] 24) := blk_of_alloc hb1
  have B1 : Hid (Below w.heap.size w w1) := bto (bnew _ _) hb1
  have hN1 : w.heap.size < w1.heap.size := lt_of_block A1.out
  obtain ⟨x0, x1, x2, x3, x4, x5⟩ := A1.out.six
  clear hb1 hs hlen
  go_upto_region 5 with fail
  go_cut [4, 5, 6, 7] (fun s4 s5 s6 s7 wx => ∃ (P PL : Nat) (aw : Option Addr) (cw : Nat) (sw : Option Addr) (sc : Nat), s4 = .pointer (some ⟨P, 0, none⟩) ∧ s5 = .pointer (some ⟨PL, 0, none⟩) ∧ s6 = .slice sw ys.length sc ∧ s7 = .int .i64 code ∧ OB w wx a cap K K0 L0 P PL aw cw sw ys)
  case first =>
    go_wp2_with fail
    refine (toDisk_any a cap K.fs K.c K.k K.cr K.fl K.dn _ (HF.out.later B1.out) hl20).mono ?_
    rintro e w2 ⟨g1, rfl, _, _, hf2, hb2⟩
    have H2 : Hid (FilesIn w2 (some ⟨g1, 0, none⟩) K.fs ∧ Below w1.heap.size w1 w2) := ⟨hf2, hb2⟩
    clear hf2 hb2 x0 x1 x2 x3 x4 x5
    go_wp2_with fail
    refine (HSP.out _ _ _ H2.out.1).mono ?_
    rintro e w3 ⟨aw, cw, sw, sc, rfl, hfw, hsw, hb3⟩
    have H3 : Hid (FilesIn w3 aw K0.fs ∧ StrsIn w3 sw ys ∧ Below w1.heap.size w1 w3) := ⟨hfw, hsw, bto H2.out.2 hb3⟩
    clear hfw hsw hb3
    go_wp2_with fail
    go_meet
    have HE := endS1 (X := w3) (v0 := .slice aw K0.fs.length cw) (v1 := .int .i64 K0.c) (v2 := .int .i64 K0.k) (v3 := .int .i64 K0.cr) (v4 := .int .i64 K0.fl) (v5 := .bool K0.dn) (x0 := .int .i64 L0.first) (x1 := .int .i64 L0.last) (x2 := .int .i64 L0.size)
    refine ⟨w3.heap.size, w3.heap.size + 1, aw, cw, sw, sc, rfl, by simp, rfl, rfl, ?_⟩
    exact ⟨bto (bto B1.out H3.out.2.2) (bto (bnew _ _) (bnew _ _)), (A1.out.later H3.out.2.2).later (bto (bnew _ _) (bnew _ _)), HE.bP, HE.bQ, H3.out.1.later (bto (bnew _ _) (bnew _ _)), H3.out.2.1.later (bto (bnew _ _) (bnew _ _))⟩
  obtain ⟨P, PL, aw, cw, sw, sc, rfl, rfl, rfl, rfl, OB4r⟩ := hcut
  rename World => w4
  have OB4 := hid OB4r
  have FR : Hid (Front aw K0.fs w4.heap.size) := front_of OB4r.fI
  have FS : Hid (FrontS sw ys w4.heap.size) := frontS_of OB4r.sI
  have hP4 : P < w4.heap.size := lt_of_block OB4r.bW
  have hPL4 : PL < w4.heap.size := lt_of_block OB4r.bV
  have hN4 : w.heap.size < w4.heap.size := lt_of_block OB4r.bA
  obtain ⟨e0, e1, e2, e3, e4, e5⟩ := OB4r.bA.six
  clear OB4r A1 B1 x0 x1 x2 x3 x4 x5
  go_upto_region 6 with fail
  go_cut [8] (fun s8 wx => ∃ (g2 Q : Nat), s8 = .pointer (some ⟨Q, 0, none⟩) ∧ w4.heap.size ≤ g2 ∧ g2 < Q ∧ OX wx g2 Q K ∧ Below w4.heap.size w4 wx)
  case first =>
    go_wp2_with fail
    refine (toDisk_any a cap K.fs K.c K.k K.cr K.fl K.dn _ (HF.out.later OB4.out.be) hl20).mono ?_
    rintro e w5 ⟨g2, rfl, hg2, hx2, hf5, hb5⟩
    have H5 : Hid (w4.heap.size ≤ g2 ∧ g2 < w5.heap.size ∧ Owned w5 g2 (some ⟨g2, 0, none⟩) K.fs ∧ Below w4.heap.size w4 w5) := ⟨hg2, (by obtain ⟨_, _, h⟩ := hx2; exact lt_of_block h), owned_of hf5 hx2 (Nat.le_refl _), hb5⟩
    clear hg2 hx2 hf5 hb5 e0 e1 e2 e3 e4 e5
    go_wp2_with fail
    go_meet
    exact ⟨g2, w5.heap.size, rfl, H5.out.1, H5.out.2.1, ⟨blk_new _ _ _, H5.out.2.2.1.later (bnew _ _)⟩, bto H5.out.2.2.2 (bnew _ _)⟩
  obtain ⟨g2, Q, rfl, hg2, hQ, X6r, B6r⟩ := hcut
  rename World => w6
  have X6 := hid X6r
  have OB6 := hid (OB4.out.later B6r)
  have hQ6 : Q < w6.heap.size := lt_of_block X6r.bX
  obtain ⟨e0', e1', e2', e3', e4', e5'⟩ := X6r.bX.six
  clear X6r B6r OB4 e0 e1 e2 e3 e4 e5
  go_upto_region 7 with fail
  go_cut [9, 10, 11, 12] (fun s9 s10 s11 s12 wx => ∃ (G GL1 : Nat) (ag : Option Addr) (cg : Nat) (sg : Option Addr) (sc : Nat), s9 = .pointer (some ⟨G, 0, none⟩) ∧ s10 = .pointer (some ⟨GL1, 0, none⟩) ∧ s11 = .slice sg ys.length sc ∧ s12 = .int .i64 code ∧ w6.heap.size ≤ G ∧ w6.heap.size ≤ GL1 ∧ OG wx w6.heap.size K0 L0 G GL1 ag cg sg ys ∧ Front ag K0.fs G ∧ FrontS sg ys G ∧ Apart2 ag K0.fs sg ys ∧ Below w6.heap.size w6 wx)
  case first =>
    go_wp2_with fail
    refine (HIM.out _ _ _ OB6.out.be X6.out.own.files).mono ?_
    rintro e w3 ⟨ag, cg, sg, sc, rfl, hog, hsg, hap, hb3⟩
    have H3 : Hid (Owned w3 w6.heap.size ag K0.fs ∧ StrsOwn w3 w6.heap.size sg ys ∧ Apart2 ag K0.fs sg ys ∧ Below w6.heap.size w6 w3) := ⟨hog, hsg, hap, hb3⟩
    have hsz := hb3.size
    clear hog hsg hap hb3 e0' e1' e2' e3' e4' e5'
    go_wp2_with fail
    go_meet
    have HE := endS1 (X := w3) (v0 := .slice ag K0.fs.length cg) (v1 := .int .i64 K0.c) (v2 := .int .i64 K0.k) (v3 := .int .i64 K0.cr) (v4 := .int .i64 K0.fl) (v5 := .bool K0.dn) (x0 := .int .i64 L0.first) (x1 := .int .i64 L0.last) (x2 := .int .i64 L0.size)
    refine ⟨w3.heap.size, w3.heap.size + 1, ag, cg, sg, sc, rfl, by simp, rfl, rfl, hsz, by omega, ⟨HE.bP, HE.bQ, H3.out.1.later (bto (bnew _ _) (bnew _ _)), H3.out.2.1.later (bto (bnew _ _) (bnew _ _))⟩, front_of H3.out.1.files, frontS_of H3.out.2.1.strs, H3.out.2.2.1, bto H3.out.2.2.2 (bto (bnew _ _) (bnew _ _))⟩
  obtain ⟨G, GL1, ag, cg, sg, scg, rfl, rfl, rfl, rfl, hG, hGL, G7r, FG, FSG, AP2, hb7⟩ := hcut
  rename World => w7
  have G7 := hid G7r
  have FGH := hid FG
  have FSGH := hid FSG
  have APH := hid AP2
  have OB7 := hid (OB6.out.later hb7)
  have X7 := hid (X6.out.later hb7)
  clear G7r FG FSG AP2 hb7 OB6 X6 e0' e1' e2' e3' e4' e5'
  obtain ⟨y0, y1, y2, y3, y4, y5⟩ := OB7.out.bW.six
  obtain ⟨z0, z1, z2, z3, z4, z5⟩ := G7.out.bG.six
  go_wp2_with fail
  refine (eqDisk_same _ _ _ _ K0.fs K0.c K0.k K0.cr K0.fl K0.dn _ G7.out.own.files OB7.out.fI (by simp [maxLen]; omega)).mono ?_
  rintro e w7a ⟨rfl, hb7a⟩
  have OB7a := hid (OB7.out.later hb7a)
  have G7a := hid (G7.out.later hb7a)
  have X7a := hid (X7.out.later hb7a)
  clear hb7a OB7 G7 X7 y0 y1 y2 y3 y4 y5 z0 z1 z2 z3 z4 z5
  obtain ⟨y0, y1, y2⟩ := OB7a.out.bV.three
  obtain ⟨z0, z1, z2⟩ := G7a.out.bL.three
  go_wp2_with fail
  refine (eqLog_same L0.first L0.last L0.size _).mono ?_
  rintro e w7b ⟨rfl, hb7b⟩
  have OB7b := hid (OB7a.out.later hb7b)
  have G7b := hid (G7a.out.later hb7b)
  have X7b := hid (X7a.out.later hb7b)
  clear hb7b OB7a G7a X7a y0 y1 y2 z0 z1 z2
  go_wp2_with fail
  refine (eqStringS_same _ _ _ _ ys _ G7b.out.str.strs OB7b.out.sI (by simp [maxLen]; omega)).mono ?_
  rintro e w7c ⟨rfl, hb7c⟩
  have OB7c := hid (OB7b.out.later hb7c)
  have G7c := hid (G7b.out.later hb7c)
  have X7c := hid (X7b.out.later hb7c)
  clear hb7c OB7b G7b X7b 
  have HK : Hid (∀ w', Below w7c.heap.size w7c w' → w'.cell? ⟨w.heap.size, 0, none⟩ = some (.slice a K.fs.length cap) ∧ w'.cell? ⟨w.heap.size, 1, none⟩ = some (.int .i64 K.c) ∧ w'.cell? ⟨w.heap.size, 2, none⟩ = some (.int .i64 K.k) ∧ w'.cell? ⟨w.heap.size, 3, none⟩ = some (.int .i64 K.cr) ∧ w'.cell? ⟨w.heap.size, 4, none⟩ = some (.int .i64 K.fl) ∧ w'.cell? ⟨w.heap.size, 5, none⟩ = some (.bool K.dn) ∧ w'.cell? ⟨Q, 0, none⟩ = some (.slice (some ⟨g2, 0, none⟩) K.fs.length K.fs.length) ∧ w'.cell? ⟨Q, 1, none⟩ = some (.int .i64 K.c) ∧ w'.cell? ⟨Q, 2, none⟩ = some (.int .i64 K.k) ∧ w'.cell? ⟨Q, 3, none⟩ = some (.int .i64 K.cr) ∧ w'.cell? ⟨Q, 4, none⟩ = some (.int .i64 K.fl) ∧ w'.cell? ⟨Q, 5, none⟩ = some (.bool K.dn)) := fun w' h => by
    obtain ⟨a0, a1, a2, a3, a4, a5⟩ := (OB7c.out.later h).bA.six
    obtain ⟨b0, b1, b2, b3, b4, b5⟩ := (X7c.out.later h).bX.six
    exact ⟨a0, a1, a2, a3, a4, a5, b0, b1, b2, b3, b4, b5⟩
  obtain ⟨x0, x1, x2, x3, x4, x5⟩ := OB7c.out.bA.six
  obtain ⟨z0, z1, z2, z3, z4, z5⟩ := X7c.out.bX.six
  go_wp2_with fail
  go_region_held3 (fun w' => w'.cell? ⟨w.heap.size, 0, none⟩ = some (.slice a K.fs.length cap) ∧ w'.cell? ⟨w.heap.size, 1, none⟩ = some (.int .i64 K.c) ∧ w'.cell? ⟨w.heap.size, 2, none⟩ = some (.int .i64 K.k) ∧ w'.cell? ⟨w.heap.size, 3, none⟩ = some (.int .i64 K.cr) ∧ w'.cell? ⟨w.heap.size, 4, none⟩ = some (.int .i64 K.fl) ∧ w'.cell? ⟨w.heap.size, 5, none⟩ = some (.bool K.dn) ∧ w'.cell? ⟨Q, 0, none⟩ = some (.slice (some ⟨g2, 0, none⟩) K.fs.length K.fs.length) ∧ w'.cell? ⟨Q, 1, none⟩ = some (.int .i64 K.c) ∧ w'.cell? ⟨Q, 2, none⟩ = some (.int .i64 K.k) ∧ w'.cell? ⟨Q, 3, none⟩ = some (.int .i64 K.cr) ∧ w'.cell? ⟨Q, 4, none⟩ = some (.int .i64 K.fl) ∧ w'.cell? ⟨Q, 5, none⟩ = some (.bool K.dn))
    (exact HK.out _ (by repeat (first | with_reducible exact Below.refl _ _ | exact (Below.refl _ _).drew | with_reducible refine bto ?_ (bnew _ _) | with_reducible refine Below.drew ?_ | refine bto ?_ (by assumption))))
    (first
    | (go_at_call 7; refine (toDisk_any a cap K.fs K.c K.k K.cr K.fl K.dn _ (HF.out.later (bto OB7c.out.be (Below.refl _ _).drew)) hl20).mono ?_; rintro e w9 ⟨g3, rfl, _, _, hf9, hb9⟩)
    | (go_at_call 9; refine (eqDisk_same _ _ _ _ K.fs K.c K.k K.cr K.fl K.dn _ ((X7c.out.own.files.later (Below.refl _ _).drew).later hb9) hf9 HL.out).mono ?_; rintro e w10 ⟨rfl, hb10⟩))
  have hb10' : Below w7c.heap.size w7c w10 := bto (bto (Below.refl _ _).drew hb9) hb10
  have OB10 := hid (OB7c.out.later hb10')
  have X10 := hid (X7c.out.later hb10')
  have G10 := hid (G7c.out.later hb10')
  clear OB7c X7c G7c x0 x1 x2 x3 x4 x5 z0 z1 z2 z3 z4 z5 HK hf9 hb9 hb10 hb10'
  obtain ⟨z0, z1, z2, z3, z4, z5⟩ := X10.out.bX.six
  go_wp2_with fail
  refine (markDisk_any (some ⟨g2, 0, none⟩) K.fs.length K.fs K.c K.k K.cr K.fl K.dn 1 g2 _ (by omega) (by omega) X10.out.own).mono ?_
  rintro e w13 ⟨rfl, hm13, _⟩
  have hbut : But g2 w10 w13 := by
    rcases hm13 with ⟨_, h⟩ | ⟨_, g, o, e, _, h⟩
    · exact But.of h
    · simp only [Option.some.injEq, Addr.mk.injEq, and_true] at e
      rw [e.1]; exact h
  have OB13 := hid (OB10.out.but hbut hg2 hN4 hP4 hPL4 FR.out FS.out)
  have G13 := hid (G10.out.but hbut (show g2 < w6.heap.size by omega) hG hGL)
  clear z0 z1 z2 z3 z4 z5 hm13 hbut OB10 X10 G10
  have hkk : ¬ (((1 + 3 * K.fs.length : Nat) : Int) < 0) := by omega
  obtain ⟨y0, y1, y2, y3, y4, y5⟩ := OB13.out.bW.six
  obtain ⟨z0, z1, z2, z3, z4, z5⟩ := G13.out.bG.six
  go_wp2_with fail
  refine (eqDisk_same _ _ _ _ K0.fs K0.c K0.k K0.cr K0.fl K0.dn _ G13.out.own.files OB13.out.fI (by simp [maxLen]; omega)).mono ?_
  rintro e w13a ⟨rfl, hb13a⟩
  have OB13a := hid (OB13.out.later hb13a)
  have G13a := hid (G13.out.later hb13a)
  clear hb13a OB13 G13  y0 y1 y2 y3 y4 y5 z0 z1 z2 z3 z4 z5
  obtain ⟨y0, y1, y2⟩ := OB13a.out.bV.three
  obtain ⟨z0, z1, z2⟩ := G13a.out.bL.three
  go_wp2_with fail
  refine (eqLog_same L0.first L0.last L0.size _).mono ?_
  rintro e w13b ⟨rfl, hb13b⟩
  have OB13b := hid (OB13a.out.later hb13b)
  have G13b := hid (G13a.out.later hb13b)
  clear hb13b OB13a G13a  y0 y1 y2 z0 z1 z2
  go_wp2_with fail
  refine (eqStringS_same _ _ _ _ ys _ G13b.out.str.strs OB13b.out.sI (by simp [maxLen]; omega)).mono ?_
  rintro e w13c ⟨rfl, hb13c⟩
  have OB13c := hid (OB13b.out.later hb13c)
  have G13c := hid (G13b.out.later hb13c)
  clear hb13c OB13b G13b  
  clear hkk
  obtain ⟨z0, z1, z2, z3, z4, z5⟩ := G13c.out.bG.six
  go_wp2_with fail
  refine (markDisk_any ag cg K0.fs K0.c K0.k K0.cr K0.fl K0.dn 1 w6.heap.size _ (by omega) (by omega) G13c.out.own).mono ?_
  rintro e w16 ⟨rfl, hm16, ho16⟩
  have hn6 : w4.heap.size ≤ w6.heap.size := by omega
  have OB16 := hid (OB13c.out.marked hm16 hn6 hN4 hP4 hPL4 FR.out FS.out)
  have M16 : Hid (FilesIn w16 ag (markL 1 K0.fs.length)) := ho16.files
  have H16 : Hid (Blk w16 G #[.slice ag K0.fs.length cg, .int .i64 K0.c, .int .i64 K0.k, .int .i64 K0.cr, .int .i64 K0.fl, .bool K0.dn] 28 ∧ StrsOwn w16 w6.heap.size sg ys) := by
    rcases hm16 with ⟨_, h⟩ | ⟨hp, g, o, e, hB, h⟩
    · exact ⟨G13c.out.bG.later h, G13c.out.str.later h⟩
    · refine ⟨G13c.out.bG.but h ?_, ?_⟩
      · rcases FGH.out with hn | ⟨b, o', e', hlt⟩
        · rw [hn] at hp; simp at hp
        · rw [e] at e'
          simp only [Option.some.injEq, Addr.mk.injEq, and_true] at e'
          omega
      · rcases G13c.out.str with hn | ⟨b, ob, cur, t, eb, hBb, hc, hk⟩
        · exact Or.inl hn
        · by_cases hy : ys = []
          · exact Or.inl hy
          have hne : b ≠ g := by
            rcases APH.out with hn | hn | ⟨b1, o1, b2, o2, e1, e2, hne⟩
            · rw [hn] at hp; simp at hp
            · exact absurd hn hy
            · rw [e] at e1
              rw [eb] at e2
              simp only [Option.some.injEq, Addr.mk.injEq, and_true] at e1 e2
              omega
          have he := h.block b (lt_of_block hc) hne
          exact Or.inr ⟨b, ob, cur, t, eb, hBb, he.trans hc, fun i hi => (World.cell?_of_block he).trans (hk i hi)⟩
  clear hm16 ho16 OB13c G13c z0 z1 z2 z3 z4 z5
  go_wp2_with fail
  refine (markStringS_any sg scg ys (1 + 3 * K0.fs.length) w6.heap.size _ (by omega) (by omega) H16.out.2).mono ?_
  rintro e w17 ⟨rfl, hm17, ho17⟩
  have OB17 := hid (OB16.out.marked hm17 hn6 hN4 hP4 hPL4 FR.out FS.out)
  have M17 : Hid (StrsIn w17 sg (markT (1 + 3 * K0.fs.length) ys.length)) := ho17.strs
  have H17 : Hid (Blk w17 G #[.slice ag K0.fs.length cg, .int .i64 K0.c, .int .i64 K0.k, .int .i64 K0.cr, .int .i64 K0.fl, .bool K0.dn] 28 ∧ FilesIn w17 ag (markL 1 K0.fs.length)) := by
    rcases hm17 with ⟨_, h⟩ | ⟨hp, g, o, e, hB, h⟩
    · exact ⟨H16.out.1.later h, M16.out.later h⟩
    · refine ⟨H16.out.1.but h ?_, ?_⟩
      · rcases FSGH.out with hn | ⟨b, o', e', hlt⟩
        · rw [hn] at hp; simp at hp
        · rw [e] at e'
          simp only [Option.some.injEq, Addr.mk.injEq, and_true] at e'
          omega
      · rcases APH.out with hn | hn | ⟨b1, o1, b2, o2, e1, e2, hne⟩
        · exact Or.inl (by rw [hn]; rfl)
        · rw [hn] at hp; simp at hp
        · refine M16.out.butA h (fun b o' e' => ?_)
          rw [e1] at e'
          rw [e] at e2
          simp only [Option.some.injEq, Addr.mk.injEq, and_true] at e' e2
          omega
  clear hm17 ho17 OB16 H16 M16
  obtain ⟨z0, z1, z2, z3, z4, z5⟩ := H17.out.1.six
  go_wp2_with fail
  refine (heldDisk_any ag cg K0.c K0.k K0.cr K0.fl K0.dn 1 K0.fs.length _ (by omega) (by omega) H17.out.2).mono ?_
  rintro e w18 ⟨rfl, hb18⟩
  have OB18 := hid (OB17.out.later hb18)
  have M18 := hid (M17.out.later hb18)
  clear hb18 OB17 M17 H17 z0 z1 z2 z3 z4 z5
  have hkk : ¬ (((1 + 3 * K0.fs.length : Nat) : Int) < 0) := by omega
  go_wp2_with fail
  refine (heldStringS_any sg scg (1 + 3 * K0.fs.length) ys.length _ (by omega) (by omega) M18.out).mono ?_
  rintro e w19 ⟨rfl, hb19⟩
  have OB19 := hid (OB18.out.later hb19)
  clear hb19 OB18 M18
  have hkk2 : ¬ (((1 + 3 * K0.fs.length + ys.length : Nat) : Int) < 0) := by omega
  obtain ⟨x0, x1, x2, x3, x4, x5⟩ := OB19.out.bA.six
  go_upto_region 28 with fail
  go_cut [16, 17, 18, 19] (fun s9 s10 s11 s12 wx => ∃ (R RL : Nat) (ah : Option Addr) (ch : Nat) (sh : Option Addr) (sc : Nat), s9 = .pointer (some ⟨R, 0, none⟩) ∧ s10 = .pointer (some ⟨RL, 0, none⟩) ∧ s11 = .slice sh ys.length sc ∧ s12 = .int .i64 code ∧ OG wx 0 K0 L0 R RL ah ch sh ys ∧ Below w19.heap.size w19 wx)
  case first =>
    go_wp2_with fail
    refine (toDisk_any a cap K.fs K.c K.k K.cr K.fl K.dn _ (HF.out.later OB19.out.be) hl20).mono ?_
    rintro e w2 ⟨g1, rfl, _, _, hf2, hb2⟩
    have H2 : Hid (FilesIn w2 (some ⟨g1, 0, none⟩) K.fs ∧ Below w19.heap.size w19 w2) := ⟨hf2, hb2⟩
    clear hf2 hb2 x0 x1 x2 x3 x4 x5
    go_wp2_with fail
    refine (HIM.out _ _ _ (bto OB19.out.be H2.out.2) H2.out.1).mono ?_
    rintro e w3 ⟨ag, cg, sg, sc, rfl, hog, hsg, hap, hb3⟩
    have H3 : Hid (Owned w3 0 ag K0.fs ∧ StrsOwn w3 w2.heap.size sg ys ∧ Below w19.heap.size w19 w3) := ⟨hog.mono (Nat.zero_le _), hsg, bto H2.out.2 hb3⟩
    clear hog hsg hap hb3
    go_wp2_with fail
    go_meet
    have HE := endS1 (X := w3) (v0 := .slice ag K0.fs.length cg) (v1 := .int .i64 K0.c) (v2 := .int .i64 K0.k) (v3 := .int .i64 K0.cr) (v4 := .int .i64 K0.fl) (v5 := .bool K0.dn) (x0 := .int .i64 L0.first) (x1 := .int .i64 L0.last) (x2 := .int .i64 L0.size)
    have hso : StrsOwn w3 0 sg ys := by
      rcases H3.out.2.1 with hn | ⟨b, ob, cur, t, eb, hBb, hc, hk⟩
      · exact Or.inl hn
      · exact Or.inr ⟨b, ob, cur, t, eb, Nat.zero_le _, hc, hk⟩
    refine ⟨w3.heap.size, w3.heap.size + 1, ag, cg, sg, sc, rfl, by simp, rfl, rfl, ⟨HE.bP, HE.bQ, H3.out.1.later (bto (bnew _ _) (bnew _ _)), hso.later (bto (bnew _ _) (bnew _ _))⟩, bto H3.out.2.2 (bto (bnew _ _) (bnew _ _))⟩
  obtain ⟨R, RL, ah, ch, sh, sch, rfl, rfl, rfl, rfl, G20r, hb20⟩ := hcut
  rename World => w20
  have G20 := hid G20r
  have OB20 := hid (OB19.out.later hb20)
  clear G20r hb20 OB19 x0 x1 x2 x3 x4 x5 hkk hkk2
  obtain ⟨y0, y1, y2, y3, y4, y5⟩ := OB20.out.bW.six
  obtain ⟨z0, z1, z2, z3, z4, z5⟩ := G20.out.bG.six
  go_wp2_with fail
  refine (eqDisk_same _ _ _ _ K0.fs K0.c K0.k K0.cr K0.fl K0.dn _ G20.out.own.files OB20.out.fI (by simp [maxLen]; omega)).mono ?_
  rintro e w20a ⟨rfl, hb20a⟩
  have OB20a := hid (OB20.out.later hb20a)
  have G20a := hid (G20.out.later hb20a)
  clear hb20a OB20 G20  y0 y1 y2 y3 y4 y5 z0 z1 z2 z3 z4 z5
  obtain ⟨y0, y1, y2⟩ := OB20a.out.bV.three
  obtain ⟨z0, z1, z2⟩ := G20a.out.bL.three
  go_wp2_with fail
  refine (eqLog_same L0.first L0.last L0.size _).mono ?_
  rintro e w20b ⟨rfl, hb20b⟩
  have OB20b := hid (OB20a.out.later hb20b)
  have G20b := hid (G20a.out.later hb20b)
  clear hb20b OB20a G20a  y0 y1 y2 z0 z1 z2
  go_wp2_with fail
  refine (eqStringS_same _ _ _ _ ys _ G20b.out.str.strs OB20b.out.sI (by simp [maxLen]; omega)).mono ?_
  rintro e w20c ⟨rfl, hb20c⟩
  have OB20c := hid (OB20b.out.later hb20c)
  have G20c := hid (G20b.out.later hb20c)
  clear hb20c OB20b G20b  
  go_wp2
  go_ret
  exact ⟨rfl, OB20c.out.be⟩
end Go.Proofs.YtflfopienjjlbaaGreatDoor

