import Derived.Test.YtboofidegpnkaaaGreatDoorProg
import Derived.Test.YtboofidegpnkaaaGreatDoorJ27LawBoxA
import Derived.Deep.RegionHeld3
import Derived.Deep.DeepCutAuto
namespace Go.Proofs.YtboofidegpnkaaaGreatDoor
open Go.RowKit
set_option linter.unusedVariables false
set_option maxRecDepth 100000 in
set_option maxHeartbeats 8000000 in
theorem reg7 {a : Option Addr} {cap : Nat} {K : DiskD} {L : LogD} {p : ByteArray} {most : Int} {w : World} {K0 : DiskD} {L0 : LogD} {code : Int} {w1 : World} {aw : Option Addr} {cw : Nat}
    (hl20 : K.fs.length ≤ 1048576)
    (HSP : Hid (∀ a' cap' W, FilesIn W a' K.fs → Calls Tryz.prog 5 #[.agg #[.slice a' K.fs.length cap', .int .i64 K.c, .int .i64 K.k, .int .i64 K.cr, .int .i64 K.fl, .bool K.dn], .agg #[.int .i64 L.first, .int .i64 L.last, .int .i64 L.size], .string p, .int .i64 most] W fun e w' => ∃ aw cw, e = .returned (.tuple #[.agg #[.slice aw K0.fs.length cw, .int .i64 K0.c, .int .i64 K0.k, .int .i64 K0.cr, .int .i64 K0.fl, .bool K0.dn], .agg #[.int .i64 L0.first, .int .i64 L0.last, .int .i64 L0.size], .int .i64 code]) ∧ FilesIn w' aw K0.fs ∧ Below W.heap.size W w'))
    (HFK : Hid (∀ (w' : World), Below w1.heap.size w1 w' → FilesIn w' a K.fs))
    (HKA : Hid (KA w.heap.size K L a cap w1))
    (hN1 : w.heap.size + 1 < w1.heap.size)
    {J1 K1 : Act → World → Prop} {Q1 : Exit → Act → World → Prop}
    (hK1 : ∀ (a' : Act) (w' : World), Met J1 a' w' → K1 a' w')
    (hJ1 : ∀ (a' : Act) (w' : World),
    (∃ u10 u11 u12 u23 u24 u25 u26 u27 u28 u29 u30 u31 u32 u33 u34 u35 u36 u37 u38 u39 u40 u41 u42 u43 u44 u45 u46 u47
        u48 u49 u50 u51 u52 u53 u54 u55 u56 u57 u58 u59 u60 u61 u62 u63 u64 u65 u66 u67 u68 u69 u70 u71 u72 u73 u74 u75
        u76 u77 u78 u79 u80 u81 u82 u83 u84 u85 u86 u87 u88 u89 u90 u91 u92 u93 u94 u95 u96 u97 u98 u99 u100 u101 u102
        u103 u104 u105 u106 u107 u108 u109 u110 u111 u112 u113 u114 u115 u116 u117 u118 u119 u120 u121 u122 u123 u124
        u125 u126 u127 u128 u129 u130 u131 u132,
        (∃ P PL aw cw,
            u10 = Value.pointer (some { block := P, off := 0 }) ∧
              u11 = Value.pointer (some { block := PL, off := 0 }) ∧
                u12 = Value.int IntKind.i64 code ∧
                  Blk w' P
                      #[Value.slice aw K0.fs.length cw, Value.int IntKind.i64 K0.c, Value.int IntKind.i64 K0.k,
                        Value.int IntKind.i64 K0.cr, Value.int IntKind.i64 K0.fl, Value.bool K0.dn]
                      30 ∧
                    Blk w' PL
                        #[Value.int IntKind.i64 L0.first, Value.int IntKind.i64 L0.last, Value.int IntKind.i64 L0.size]
                        31 ∧
                      FilesIn w' aw K0.fs ∧ Below w1.heap.size w1 w') ∧
          a' =
            {
              tmps :=
                #[Value.agg
                    #[Value.slice a K.fs.length cap, Value.int IntKind.i64 K.c, Value.int IntKind.i64 K.k,
                      Value.int IntKind.i64 K.cr, Value.int IntKind.i64 K.fl, Value.bool K.dn],
                  Value.agg
                    #[Value.int IntKind.i64 L.first, Value.int IntKind.i64 L.last, Value.int IntKind.i64 L.size],
                  Value.string p, Value.int IntKind.i64 most, Value.pointer (some { block := w.heap.size, off := 0 }),
                  Value.pointer (some { block := w.heap.size + 1, off := 0 }), undef, undef, Value.bool false,
                  Value.int IntKind.i64 (szFs 1048576 K.fs), u10, u11, u12, undef, undef, undef, undef, undef, undef,
                  undef, undef, undef, undef, u23, u24, u25, u26, u27, u28, u29, u30, u31, u32, u33, u34, u35, u36, u37,
                  u38, u39, u40, u41, u42, u43, u44, u45, u46, u47, u48, u49, u50, u51, u52, u53, u54, u55, u56, u57,
                  u58, u59, u60, u61, u62, u63, u64, u65, u66, u67, u68, u69, u70, u71, u72, u73, u74, u75, u76, u77,
                  u78, u79, u80, u81, u82, u83, u84, u85, u86, u87, u88, u89, u90, u91, u92, u93, u94, u95, u96, u97,
                  u98, u99, u100, u101, u102, u103, u104, u105, u106, u107, u108, u109, u110, u111, u112, u113, u114,
                  u115, u116, u117, u118, u119, u120, u121, u122, u123, u124, u125, u126, u127, u128, u129, u130, u131,
                  u132],
              defers := [] }) →
      J1 a' w') :
    Code.wp Tryz.prog
    (Code.region 7
      #[{ dst := some 32, op := Op.load 24 (Operand.tmp 4), type := 24, pos := "exact.go:1678", after := #[],
          guard := none },
        { dst := some 33,
          op := Op.call { callee := Callee.value (Operand.func 6), args := #[Operand.tmp 32], argTypes := #[24] },
          type := 30, pos := "exact.go:1678", after := #[{ on := 0, ground := Ground.data }], guard := none },
        { dst := some 34, op := Op.load 26 (Operand.tmp 5), type := 26, pos := "exact.go:1678", after := #[],
          guard := none },
        { dst := some 35,
          op := Op.call { callee := Callee.value (Operand.func 7), args := #[Operand.tmp 34], argTypes := #[26] },
          type := 31, pos := "exact.go:1678",
          after := #[{ on := 2, ground := Ground.data }, { on := 1, ground := Ground.chain }], guard := none },
        { dst := some 36, op := Op.move (Operand.tmp 2), type := 9, pos := "exact.go:1678", after := #[],
          guard := none },
        { dst := some 37, op := Op.move (Operand.tmp 3), type := 3, pos := "exact.go:1678", after := #[],
          guard := none },
        { dst := some 38,
          op :=
            Op.call
              { callee := Callee.value (Operand.func 5),
                args := #[Operand.tmp 33, Operand.tmp 35, Operand.tmp 36, Operand.tmp 37],
                argTypes := #[30, 31, 9, 3] },
          type := 32, pos := "exact.go:1678",
          after :=
            #[{ on := 1, ground := Ground.data }, { on := 3, ground := Ground.data },
              { on := 4, ground := Ground.data }, { on := 5, ground := Ground.data },
              { on := 3, ground := Ground.chain }],
          guard := none },
        { dst := some 31, op := Op.move (Operand.tmp 38), type := 32, pos := "exact.go:1678",
          after := #[{ on := 6, ground := Ground.data }], guard := none },
        { dst := some 39, op := Op.extract (Operand.tmp 31) 0, type := 30, pos := "exact.go:1678",
          after := #[{ on := 7, ground := Ground.data }], guard := none },
        { dst := some 40, op := Op.extract (Operand.tmp 31) 1, type := 31, pos := "exact.go:1678",
          after := #[{ on := 7, ground := Ground.data }, { on := 13, ground := Ground.gcOnly Departure.lateStores }],
          guard := none },
        { dst := some 41, op := Op.extract (Operand.tmp 31) 2, type := 3, pos := "exact.go:1678",
          after := #[{ on := 7, ground := Ground.data }, { on := 14, ground := Ground.gcOnly Departure.lateStores }],
          guard := none },
        { dst := some 10, op := Op.alloc 30, type := 0, pos := "exact.go:1678", after := #[], guard := none },
        { dst := some 11, op := Op.alloc 31, type := 0, pos := "exact.go:1678", after := #[], guard := none },
        { dst := none, op := Op.store 30 (Operand.tmp 10) (Operand.tmp 39), type := 0, pos := "exact.go:1678",
          after :=
            #[{ on := 11, ground := Ground.data }, { on := 8, ground := Ground.data },
              { on := 6, ground := Ground.chain }, { on := 0, ground := Ground.phase },
              { on := 1, ground := Ground.phase }, { on := 2, ground := Ground.phase },
              { on := 3, ground := Ground.phase }, { on := 4, ground := Ground.phase },
              { on := 5, ground := Ground.phase }, { on := 6, ground := Ground.phase },
              { on := 7, ground := Ground.phase }, { on := 8, ground := Ground.phase },
              { on := 9, ground := Ground.textOnly Departure.lateStores },
              { on := 10, ground := Ground.textOnly Departure.lateStores }, { on := 11, ground := Ground.phase },
              { on := 12, ground := Ground.phase }],
          guard := none },
        { dst := none, op := Op.store 31 (Operand.tmp 11) (Operand.tmp 40), type := 0, pos := "exact.go:1678",
          after :=
            #[{ on := 12, ground := Ground.data }, { on := 9, ground := Ground.data },
              { on := 13, ground := Ground.chain }, { on := 0, ground := Ground.phase },
              { on := 1, ground := Ground.phase }, { on := 2, ground := Ground.phase },
              { on := 3, ground := Ground.phase }, { on := 4, ground := Ground.phase },
              { on := 5, ground := Ground.phase }, { on := 6, ground := Ground.phase },
              { on := 7, ground := Ground.phase }, { on := 8, ground := Ground.phase },
              { on := 9, ground := Ground.phase }, { on := 10, ground := Ground.textOnly Departure.lateStores },
              { on := 11, ground := Ground.phase }, { on := 12, ground := Ground.phase },
              { on := 13, ground := Ground.phase }],
          guard := none },
        { dst := some 12, op := Op.assign (Operand.tmp 41), type := 3, pos := "exact.go:1678",
          after :=
            #[{ on := 10, ground := Ground.data }, { on := 14, ground := Ground.chain },
              { on := 0, ground := Ground.phase }, { on := 1, ground := Ground.phase },
              { on := 2, ground := Ground.phase }, { on := 3, ground := Ground.phase },
              { on := 4, ground := Ground.phase }, { on := 5, ground := Ground.phase },
              { on := 6, ground := Ground.phase }, { on := 7, ground := Ground.phase },
              { on := 8, ground := Ground.phase }, { on := 9, ground := Ground.phase },
              { on := 10, ground := Ground.phase }, { on := 11, ground := Ground.phase },
              { on := 12, ground := Ground.phase }, { on := 13, ground := Ground.phase },
              { on := 14, ground := Ground.phase }],
          guard := none }]
      true)
    (Exit.then K1 Q1)
    {
      tmps :=
        #[Value.agg
            #[Value.slice a K.fs.length cap, Value.int IntKind.i64 K.c, Value.int IntKind.i64 K.k,
              Value.int IntKind.i64 K.cr, Value.int IntKind.i64 K.fl, Value.bool K.dn],
          Value.agg #[Value.int IntKind.i64 L.first, Value.int IntKind.i64 L.last, Value.int IntKind.i64 L.size],
          Value.string p, Value.int IntKind.i64 most, Value.pointer (some { block := w.heap.size, off := 0 }),
          Value.pointer (some { block := w.heap.size + 1, off := 0 }), undef, undef, Value.bool false,
          Value.int IntKind.i64 (szFs 1048576 K.fs), undef, undef, undef, undef, undef, undef, undef, undef, undef,
          undef, undef, undef, undef, Value.string p, Value.int IntKind.i64 ↑p.size, Value.bool false,
          Value.agg
            #[Value.slice a K.fs.length cap, Value.int IntKind.i64 K.c, Value.int IntKind.i64 K.k,
              Value.int IntKind.i64 K.cr, Value.int IntKind.i64 K.fl, Value.bool K.dn],
          Value.int IntKind.i64 1048576, Value.int IntKind.i64 (szFs 1048576 K.fs),
          Value.int IntKind.i64 (szFs 1048576 K.fs), Value.bool (decide (szFs 1048576 K.fs < 0)), undef, undef, undef,
          undef, undef, undef, undef, undef, undef, undef, undef, undef, undef, undef, undef, undef, undef, undef,
          undef, undef, undef, undef, undef, undef, undef, undef, undef, undef, undef, undef, undef, undef, undef,
          undef, undef, undef, undef, undef, undef, undef, undef, undef, undef, undef, undef, undef, undef, undef,
          undef, undef, undef, undef, undef, undef, undef, undef, undef, undef, undef, undef, undef, undef, undef,
          undef, undef, undef, undef, undef, undef, undef, undef, undef, undef, undef, undef, undef, undef, undef,
          undef, undef, undef, undef, undef, undef, undef, undef, undef, undef, undef, undef, undef, undef, undef,
          undef, undef, undef, undef, undef, undef, undef, undef, undef],
      defers := [] }
    w1    := by
  go_region_held3 (fun w' => w'.cell? ⟨w.heap.size, 0, none⟩ = some (.slice a K.fs.length cap) ∧ w'.cell? ⟨w.heap.size, 1, none⟩ = some (.int .i64 K.c) ∧ w'.cell? ⟨w.heap.size, 2, none⟩ = some (.int .i64 K.k) ∧ w'.cell? ⟨w.heap.size, 3, none⟩ = some (.int .i64 K.cr) ∧ w'.cell? ⟨w.heap.size, 4, none⟩ = some (.int .i64 K.fl) ∧ w'.cell? ⟨w.heap.size, 5, none⟩ = some (.bool K.dn) ∧ w'.cell? ⟨w.heap.size + 1, 0, none⟩ = some (.int .i64 L.first) ∧ w'.cell? ⟨w.heap.size + 1, 1, none⟩ = some (.int .i64 L.last) ∧ w'.cell? ⟨w.heap.size + 1, 2, none⟩ = some (.int .i64 L.size))
    (exact KA.cells (by repeat (first | with_reducible exact HK4.out | with_reducible exact HK3.out | with_reducible exact HK2.out | with_reducible exact HKA.out | with_reducible refine KA.set ?_ (by omega) | with_reducible refine KA.alloc ?_ | with_reducible refine KA.drew ?_)))
    (first
    | (go_at_call 6; refine (toDisk_any a cap K.fs K.c K.k K.cr K.fl K.dn _ (HFK.out _ (by repeat (first | with_reducible exact Below.refl _ _ | with_reducible refine Below.drew ?_ | with_reducible refine bto ?_ (bnew _ _)))) hl20).mono ?_; rintro e v2 ⟨g4, rfl, _, _, hf2, hb2⟩; have hw2 : Below w1.heap.size w1 v2 := bto (by repeat (first | with_reducible exact Below.refl _ _ | with_reducible refine Below.drew ?_ | with_reducible refine bto ?_ (bnew _ _))) hb2; have hs2 : w1.heap.size ≤ v2.heap.size := hw2.size; have HK2 : Hid (KA w.heap.size K L a cap v2) := HKA.out.later hw2; (first | (with_reducible have hz := zD2 (b_undrew hb2)) | (with_reducible have hz := zD3 (b_undrew hb2)) | (with_reducible have hz := zD1 (b_undrew hb2)) | (with_reducible have hz := zD2 hb2) | (with_reducible have hz := zD3 hb2) | (with_reducible have hz := zD1 hb2) | (with_reducible have hz := (ZD.later hz (bnew _ _)).later hb2) | (with_reducible have hz := ZD.later hz hb2) | skip); (first | (with_reducible have hq := zL2 (b_undrew hb2)) | (with_reducible have hq := zL3 (b_undrew hb2)) | (with_reducible have hq := zL1 (b_undrew hb2)) | (with_reducible have hq := zL2 hb2) | (with_reducible have hq := zL3 hb2) | (with_reducible have hq := zL1 hb2) | (with_reducible have hq := (ZL.later hq (bnew _ _)).later hb2) | (with_reducible have hq := ZL.later hq hb2) | skip); have HF2 : Hid (FilesIn v2 (some ⟨g4, 0, none⟩) K.fs) := hf2; have HB2 : Hid (Below w1.heap.size w1 v2) := hw2; clear hf2 hb2 hw2)
    | (go_at_call 7; refine (toLog_any L.first L.last L.size _).mono ?_; rintro e v3 ⟨rfl, hb3⟩; have hw23 : Below v2.heap.size v2 v3 := bto (by repeat (first | with_reducible exact Below.refl _ _ | with_reducible refine Below.drew ?_ | with_reducible refine bto ?_ (bnew _ _))) hb3; have hs3 : v2.heap.size ≤ v3.heap.size := hw23.size; have HK3 : Hid (KA w.heap.size K L a cap v3) := HK2.out.later hw23; (first | (with_reducible have hz := zD2 (b_undrew hb3)) | (with_reducible have hz := zD3 (b_undrew hb3)) | (with_reducible have hz := zD1 (b_undrew hb3)) | (with_reducible have hz := zD2 hb3) | (with_reducible have hz := zD3 hb3) | (with_reducible have hz := zD1 hb3) | (with_reducible have hz := (ZD.later hz (bnew _ _)).later hb3) | (with_reducible have hz := ZD.later hz hb3) | skip); (first | (with_reducible have hq := zL2 (b_undrew hb3)) | (with_reducible have hq := zL3 (b_undrew hb3)) | (with_reducible have hq := zL1 (b_undrew hb3)) | (with_reducible have hq := zL2 hb3) | (with_reducible have hq := zL3 hb3) | (with_reducible have hq := zL1 hb3) | (with_reducible have hq := (ZL.later hq (bnew _ _)).later hb3) | (with_reducible have hq := ZL.later hq hb3) | skip); have HF3 : Hid (FilesIn v3 (some ⟨g4, 0, none⟩) K.fs) := HF2.out.later hw23; have HB3 : Hid (Below w1.heap.size w1 v3) := bto HB2.out hw23; clear hb3 hw23)
    | (go_at_call 5; refine (HSP.out _ _ _ (HF3.out.later (by repeat (first | with_reducible exact Below.refl _ _ | with_reducible refine Below.drew ?_ | with_reducible refine bto ?_ (bnew _ _))))).mono ?_; rintro e v4 ⟨aw, cw, rfl, how, hb4⟩; have hw34 : Below v3.heap.size v3 v4 := bto (by repeat (first | with_reducible exact Below.refl _ _ | with_reducible refine Below.drew ?_ | with_reducible refine bto ?_ (bnew _ _))) hb4; have hs4 : v3.heap.size ≤ v4.heap.size := hw34.size; have HK4 : Hid (KA w.heap.size K L a cap v4) := HK3.out.later hw34; (first | (with_reducible have hz := zD2 (b_undrew hb4)) | (with_reducible have hz := zD3 (b_undrew hb4)) | (with_reducible have hz := zD1 (b_undrew hb4)) | (with_reducible have hz := zD2 hb4) | (with_reducible have hz := zD3 hb4) | (with_reducible have hz := zD1 hb4) | (with_reducible have hz := (ZD.later hz (bnew _ _)).later hb4) | (with_reducible have hz := ZD.later hz hb4) | skip); (first | (with_reducible have hq := zL2 (b_undrew hb4)) | (with_reducible have hq := zL3 (b_undrew hb4)) | (with_reducible have hq := zL1 (b_undrew hb4)) | (with_reducible have hq := zL2 hb4) | (with_reducible have hq := zL3 hb4) | (with_reducible have hq := zL1 hb4) | (with_reducible have hq := (ZL.later hq (bnew _ _)).later hb4) | (with_reducible have hq := ZL.later hq hb4) | skip); have HF4 : Hid (FilesIn v4 aw K0.fs) := how; have HB4 : Hid (Below w1.heap.size w1 v4) := bto HB3.out hw34; clear hb4 hw34 how; (first | (have nz0 := ze_ne hz hq; clear nz0; (first | (with_reducible have zz := zzz1 hz hq; clear zz) | (with_reducible have zz := zzz2 hz hq; clear zz) | (have nz1 := ze_ne hz hq; have nz2 := Ne.symm nz1)); obtain ⟨q0, q1, q2, q3, q4, q5⟩ := Blk.six hz; have f0 := Blk.free hz 0; have f1 := Blk.free hz 1; have f2 := Blk.free hz 2; have f3 := Blk.free hz 3; have f4 := Blk.free hz 4; have f5 := Blk.free hz 5; obtain ⟨p0, p1, p2⟩ := Blk.three hq; have e0 := Blk.free hq 0; have e1 := Blk.free hq 1; have e2 := Blk.free hq 2) | (have hlt := lt_of_block hz; have nz1 := Nat.ne_of_lt hlt; have nz2 := Nat.ne_of_gt hlt; clear hlt; obtain ⟨q0, q1, q2, q3, q4, q5⟩ := ZD.sixA hz; obtain ⟨f0, f1, f2, f3, f4, f5⟩ := ZD.freeA hz) | (have hlt := lt_of_block hq; have nz1 := Nat.ne_of_lt hlt; have nz2 := Nat.ne_of_gt hlt; clear hlt; obtain ⟨p0, p1, p2⟩ := ZL.threeA hq; obtain ⟨e0, e1, e2⟩ := ZL.freeA hq) | skip)))
  all_goals (go_wp2_with fail; go_meet)
  all_goals (
    refine ⟨_, _, aw, cw, rfl, rfl, rfl, ?_⟩
    with_reducible refine endA ?_ HF4.out HB4.out (by omega) (by omega) (by omega)
    (first | with_reducible exact endS5 hz hq | with_reducible exact endS6 hz | with_reducible exact endS7 hz | with_reducible exact endS4 hz | with_reducible exact endS8 hq | with_reducible exact endS3 hq | with_reducible exact endS1 | with_reducible exact endS2))
end Go.Proofs.YtboofidegpnkaaaGreatDoor
