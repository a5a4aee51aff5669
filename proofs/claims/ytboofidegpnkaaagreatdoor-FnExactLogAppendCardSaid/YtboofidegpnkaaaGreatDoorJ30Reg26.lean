import Derived.Test.YtboofidegpnkaaaGreatDoorProg
import Derived.Test.YtboofidegpnkaaaGreatDoorJ27LawBoxA
import Derived.Deep.RegionHeld3
import Derived.Deep.DeepCutAuto
namespace Go.Proofs.YtboofidegpnkaaaGreatDoor
open Go.RowKit
set_option linter.unusedVariables false
set_option maxRecDepth 100000 in
set_option maxHeartbeats 8000000 in
theorem reg26 {a : Option Addr} {cap : Nat} {K : DiskD} {L : LogD} {p : ByteArray} {most : Int} {w : World} {K0 : DiskD} {L0 : LogD} {code : Int} {w17 : World} {P : Nat} {PL : Nat} {g2 : Nat} {Q : Nat} {G : Nat} {GL1 : Nat} {g3 : Nat} {aw : Option Addr} {ag : Option Addr} {cw : Nat} {cg : Nat} {u23 : Value} {u24 : Value} {u25 : Value} {u26 : Value} {u27 : Value} {u28 : Value} {u29 : Value} {u30 : Value} {u31 : Value} {u32 : Value} {u33 : Value} {u34 : Value} {u35 : Value} {u36 : Value} {u37 : Value} {u38 : Value} {u39 : Value} {u40 : Value} {u41 : Value} {u42 : Value} {u43 : Value} {u44 : Value} {u45 : Value} {u46 : Value} {u47 : Value} {u48 : Value} {u49 : Value} {u50 : Value} {u51 : Value} {u52 : Value} {u53 : Value} {u107 : Value} {u108 : Value} {u109 : Value} {u110 : Value} {u111 : Value} {u112 : Value} {u113 : Value} {u114 : Value} {u115 : Value} {u116 : Value} {u117 : Value} {u118 : Value} {u119 : Value} {u120 : Value} {u121 : Value} {u122 : Value} {u123 : Value} {u124 : Value} {u125 : Value} {u126 : Value} {u127 : Value} {u128 : Value} {u129 : Value} {u130 : Value} {u131 : Value} {u132 : Value}
    (hl20 : K.fs.length ≤ 1048576)
    (HIM : Hid (∀ a' cap' W, Below w.heap.size w W → FilesIn W a' K.fs → Calls Tryz.prog 8 #[.agg #[.slice a' K.fs.length cap', .int .i64 K.c, .int .i64 K.k, .int .i64 K.cr, .int .i64 K.fl, .bool K.dn], .agg #[.int .i64 L.first, .int .i64 L.last, .int .i64 L.size], .string p, .int .i64 most] W fun e w' => ∃ ag cg, e = .returned (.tuple #[.agg #[.slice ag K0.fs.length cg, .int .i64 K0.c, .int .i64 K0.k, .int .i64 K0.cr, .int .i64 K0.fl, .bool K0.dn], .agg #[.int .i64 L0.first, .int .i64 L0.last, .int .i64 L0.size], .int .i64 code]) ∧ Owned w' W.heap.size ag K0.fs ∧ Below W.heap.size W w'))
    (B17 : Hid (Below w.heap.size w w17))
    (HFK : Hid (∀ (w' : World), Below w17.heap.size w17 w' → FilesIn w' a K.fs))
    (HKA : Hid (KA w.heap.size K L a cap w17))
    (hN17 : w.heap.size + 1 < w17.heap.size)
    {J1 K1 : Act → World → Prop} {Q1 : Exit → Act → World → Prop}
    (hK1 : ∀ (a' : Act) (w' : World), Met J1 a' w' → K1 a' w')
    (hJ1 : ∀ (a' : Act) (w' : World),
    (∃ u20 u21 u22 u23 u24 u25 u26 u27 u28 u29 u30 u31 u32 u33 u34 u35 u36 u37 u38 u39 u40 u41 u42 u43 u44 u45 u46 u47
        u48 u49 u50 u51 u52 u53 u54 u55 u56 u57 u58 u59 u60 u61 u62 u63 u64 u65 u66 u67 u68 u69 u70 u71 u72 u73 u74 u75
        u76 u77 u78 u79 u80 u81 u82 u83 u84 u85 u86 u87 u88 u89 u90 u91 u92 u93 u94 u95 u96 u97 u98 u99 u100 u101 u102
        u103 u104 u105 u106 u107 u108 u109 u110 u111 u112 u113 u114 u115 u116 u117 u118 u119 u120 u121 u122 u123 u124
        u125 u126 u127 u128 u129 u130 u131 u132,
        (∃ R RL ah ch,
            u20 = Value.pointer (some { block := R, off := 0 }) ∧
              u21 = Value.pointer (some { block := RL, off := 0 }) ∧
                u22 = Value.int IntKind.i64 code ∧
                  Blk w' R
                      #[Value.slice ah K0.fs.length ch, Value.int IntKind.i64 K0.c, Value.int IntKind.i64 K0.k,
                        Value.int IntKind.i64 K0.cr, Value.int IntKind.i64 K0.fl, Value.bool K0.dn]
                      30 ∧
                    Blk w' RL
                        #[Value.int IntKind.i64 L0.first, Value.int IntKind.i64 L0.last, Value.int IntKind.i64 L0.size]
                        31 ∧
                      FilesIn w' ah K0.fs ∧ Below w17.heap.size w17 w') ∧
          a' =
            {
              tmps :=
                #[Value.agg
                    #[Value.slice a K.fs.length cap, Value.int IntKind.i64 K.c, Value.int IntKind.i64 K.k,
                      Value.int IntKind.i64 K.cr, Value.int IntKind.i64 K.fl, Value.bool K.dn],
                  Value.agg
                    #[Value.int IntKind.i64 L.first, Value.int IntKind.i64 L.last, Value.int IntKind.i64 L.size],
                  Value.string p, Value.int IntKind.i64 most, Value.pointer (some { block := w.heap.size, off := 0 }),
                  Value.pointer (some { block := w.heap.size + 1, off := 0 }), undef, undef, Value.bool false,
                  Value.int IntKind.i64 (szFs 1048576 K.fs), Value.pointer (some { block := P, off := 0 }),
                  Value.pointer (some { block := PL, off := 0 }), Value.int IntKind.i64 code,
                  Value.pointer (some { block := Q, off := 0 }), Value.pointer (some { block := G, off := 0 }),
                  Value.pointer (some { block := GL1, off := 0 }), Value.int IntKind.i64 code,
                  Value.int IntKind.i64 (1 + 3 * ↑K.fs.length), Value.int IntKind.i64 (1 + 3 * ↑K0.fs.length),
                  Value.int IntKind.i64 (1 + 3 * ↑K0.fs.length), u20, u21, u22, u23, u24, u25, u26, u27, u28, u29, u30,
                  u31, u32, u33, u34, u35, u36, u37, u38, u39, u40, u41, u42, u43, u44, u45, u46, u47, u48, u49, u50,
                  u51, u52, u53, u54, u55, u56, u57, u58, u59, u60, u61, u62, u63, u64, u65, u66, u67, u68, u69, u70,
                  u71, u72, u73, u74, u75, u76, u77, u78, u79, u80, u81, u82, u83, u84, u85, u86, u87, u88, u89, u90,
                  u91, u92, u93, u94, u95, u96, u97, u98, u99, u100, u101, u102, u103, u104, u105, u106, u107, u108,
                  u109, u110, u111, u112, u113, u114, u115, u116, u117, u118, u119, u120, u121, u122, u123, u124, u125,
                  u126, u127, u128, u129, u130, u131, u132],
              defers := [] }) →
      J1 a' w') :
    Code.wp Tryz.prog
    (Code.region 26
      #[{ dst := some 108, op := Op.load 24 (Operand.tmp 4), type := 24, pos := "exact.go:1702", after := #[],
          guard := none },
        { dst := some 109,
          op := Op.call { callee := Callee.value (Operand.func 6), args := #[Operand.tmp 108], argTypes := #[24] },
          type := 30, pos := "exact.go:1702", after := #[{ on := 0, ground := Ground.data }], guard := none },
        { dst := some 110, op := Op.load 26 (Operand.tmp 5), type := 26, pos := "exact.go:1702", after := #[],
          guard := none },
        { dst := some 111,
          op := Op.call { callee := Callee.value (Operand.func 7), args := #[Operand.tmp 110], argTypes := #[26] },
          type := 31, pos := "exact.go:1702",
          after := #[{ on := 2, ground := Ground.data }, { on := 1, ground := Ground.chain }], guard := none },
        { dst := some 112, op := Op.move (Operand.tmp 2), type := 9, pos := "exact.go:1702", after := #[],
          guard := none },
        { dst := some 113, op := Op.move (Operand.tmp 3), type := 3, pos := "exact.go:1702", after := #[],
          guard := none },
        { dst := some 114,
          op :=
            Op.call
              { callee := Callee.value (Operand.func 8),
                args := #[Operand.tmp 109, Operand.tmp 111, Operand.tmp 112, Operand.tmp 113],
                argTypes := #[30, 31, 9, 3] },
          type := 32, pos := "exact.go:1702",
          after :=
            #[{ on := 1, ground := Ground.data }, { on := 3, ground := Ground.data },
              { on := 4, ground := Ground.data }, { on := 5, ground := Ground.data },
              { on := 3, ground := Ground.chain }],
          guard := none },
        { dst := some 107, op := Op.move (Operand.tmp 114), type := 32, pos := "exact.go:1702",
          after := #[{ on := 6, ground := Ground.data }], guard := none },
        { dst := some 115, op := Op.extract (Operand.tmp 107) 0, type := 30, pos := "exact.go:1702",
          after := #[{ on := 7, ground := Ground.data }], guard := none },
        { dst := some 116, op := Op.extract (Operand.tmp 107) 1, type := 31, pos := "exact.go:1702",
          after := #[{ on := 7, ground := Ground.data }, { on := 13, ground := Ground.gcOnly Departure.lateStores }],
          guard := none },
        { dst := some 117, op := Op.extract (Operand.tmp 107) 2, type := 3, pos := "exact.go:1702",
          after := #[{ on := 7, ground := Ground.data }, { on := 14, ground := Ground.gcOnly Departure.lateStores }],
          guard := none },
        { dst := some 20, op := Op.alloc 30, type := 0, pos := "exact.go:1702", after := #[], guard := none },
        { dst := some 21, op := Op.alloc 31, type := 0, pos := "exact.go:1702", after := #[], guard := none },
        { dst := none, op := Op.store 30 (Operand.tmp 20) (Operand.tmp 115), type := 0, pos := "exact.go:1702",
          after :=
            #[{ on := 11, ground := Ground.data }, { on := 8, ground := Ground.data },
              { on := 6, ground := Ground.chain }, { on := 0, ground := Ground.phase },
              { on := 1, ground := Ground.phase }, { on := 2, ground := Ground.phase },
              { on := 3, ground := Ground.phase }, { on := 4, ground := Ground.phase },
              { on := 5, ground := Ground.phase }, { on := 6, ground := Ground.phase },
              { on := 7, ground := Ground.phase }, { on := 8, ground := Ground.phase },
              { on := 9, ground := Ground.textOnly Departure.lateStores },
              { on := 10, ground := Ground.textOnly Departure.lateStores }, { on := 11, ground := Ground.phase },
              { on := 12, ground := Ground.phase }],
          guard := none },
        { dst := none, op := Op.store 31 (Operand.tmp 21) (Operand.tmp 116), type := 0, pos := "exact.go:1702",
          after :=
            #[{ on := 12, ground := Ground.data }, { on := 9, ground := Ground.data },
              { on := 13, ground := Ground.chain }, { on := 0, ground := Ground.phase },
              { on := 1, ground := Ground.phase }, { on := 2, ground := Ground.phase },
              { on := 3, ground := Ground.phase }, { on := 4, ground := Ground.phase },
              { on := 5, ground := Ground.phase }, { on := 6, ground := Ground.phase },
              { on := 7, ground := Ground.phase }, { on := 8, ground := Ground.phase },
              { on := 9, ground := Ground.phase }, { on := 10, ground := Ground.textOnly Departure.lateStores },
              { on := 11, ground := Ground.phase }, { on := 12, ground := Ground.phase },
              { on := 13, ground := Ground.phase }],
          guard := none },
        { dst := some 22, op := Op.assign (Operand.tmp 117), type := 3, pos := "exact.go:1702",
          after :=
            #[{ on := 10, ground := Ground.data }, { on := 14, ground := Ground.chain },
              { on := 0, ground := Ground.phase }, { on := 1, ground := Ground.phase },
              { on := 2, ground := Ground.phase }, { on := 3, ground := Ground.phase },
              { on := 4, ground := Ground.phase }, { on := 5, ground := Ground.phase },
              { on := 6, ground := Ground.phase }, { on := 7, ground := Ground.phase },
              { on := 8, ground := Ground.phase }, { on := 9, ground := Ground.phase },
              { on := 10, ground := Ground.phase }, { on := 11, ground := Ground.phase },
              { on := 12, ground := Ground.phase }, { on := 13, ground := Ground.phase },
              { on := 14, ground := Ground.phase }],
          guard := none }]
      true)
    (Exit.then K1 Q1)
    {
      tmps :=
        #[Value.agg
            #[Value.slice a K.fs.length cap, Value.int IntKind.i64 K.c, Value.int IntKind.i64 K.k,
              Value.int IntKind.i64 K.cr, Value.int IntKind.i64 K.fl, Value.bool K.dn],
          Value.agg #[Value.int IntKind.i64 L.first, Value.int IntKind.i64 L.last, Value.int IntKind.i64 L.size],
          Value.string p, Value.int IntKind.i64 most, Value.pointer (some { block := w.heap.size, off := 0 }),
          Value.pointer (some { block := w.heap.size + 1, off := 0 }), undef, undef, Value.bool false,
          Value.int IntKind.i64 (szFs 1048576 K.fs), Value.pointer (some { block := P, off := 0 }),
          Value.pointer (some { block := PL, off := 0 }), Value.int IntKind.i64 code,
          Value.pointer (some { block := Q, off := 0 }), Value.pointer (some { block := G, off := 0 }),
          Value.pointer (some { block := GL1, off := 0 }), Value.int IntKind.i64 code,
          Value.int IntKind.i64 (1 + 3 * ↑K.fs.length), Value.int IntKind.i64 (1 + 3 * ↑K0.fs.length),
          Value.int IntKind.i64 (1 + 3 * ↑K0.fs.length), undef, undef, undef, u23, u24, u25, u26, u27, u28, u29, u30,
          u31, u32, u33, u34, u35, u36, u37, u38, u39, u40, u41, u42, u43, u44, u45, u46, u47, u48, u49, u50, u51, u52,
          u53,
          Value.agg
            #[Value.slice ag K0.fs.length cg, Value.int IntKind.i64 K0.c, Value.int IntKind.i64 K0.k,
              Value.int IntKind.i64 K0.cr, Value.int IntKind.i64 K0.fl, Value.bool K0.dn],
          Value.agg
            #[Value.slice aw K0.fs.length cw, Value.int IntKind.i64 K0.c, Value.int IntKind.i64 K0.k,
              Value.int IntKind.i64 K0.cr, Value.int IntKind.i64 K0.fl, Value.bool K0.dn],
          Value.bool true, Value.bool false, Value.bool false,
          Value.agg #[Value.int IntKind.i64 L0.first, Value.int IntKind.i64 L0.last, Value.int IntKind.i64 L0.size],
          Value.agg #[Value.int IntKind.i64 L0.first, Value.int IntKind.i64 L0.last, Value.int IntKind.i64 L0.size],
          Value.bool true, Value.bool false, Value.bool false, Value.bool false, Value.int IntKind.i64 code,
          Value.int IntKind.i64 code, Value.bool false, Value.bool false,
          Value.agg
            #[Value.slice (some { block := g2, off := 0 }) K.fs.length K.fs.length, Value.int IntKind.i64 K.c,
              Value.int IntKind.i64 K.k, Value.int IntKind.i64 K.cr, Value.int IntKind.i64 K.fl, Value.bool K.dn],
          Value.agg
            #[Value.slice a K.fs.length cap, Value.int IntKind.i64 K.c, Value.int IntKind.i64 K.k,
              Value.int IntKind.i64 K.cr, Value.int IntKind.i64 K.fl, Value.bool K.dn],
          Value.agg
            #[Value.slice (some { block := g3, off := 0 }) K.fs.length K.fs.length, Value.int IntKind.i64 K.c,
              Value.int IntKind.i64 K.k, Value.int IntKind.i64 K.cr, Value.int IntKind.i64 K.fl, Value.bool K.dn],
          Value.bool true, Value.bool false,
          Value.agg
            #[Value.slice (some { block := g2, off := 0 }) K.fs.length K.fs.length, Value.int IntKind.i64 K.c,
              Value.int IntKind.i64 K.k, Value.int IntKind.i64 K.cr, Value.int IntKind.i64 K.fl, Value.bool K.dn],
          Value.int IntKind.i64 1, Value.int IntKind.i64 (1 + 3 * ↑K.fs.length),
          Value.int IntKind.i64 (1 + 3 * ↑K.fs.length), Value.bool (decide (1 + 3 * ↑K.fs.length < 0)),
          Value.bool (decide (1 + 3 * ↑K.fs.length < 0)),
          Value.agg
            #[Value.slice ag K0.fs.length cg, Value.int IntKind.i64 K0.c, Value.int IntKind.i64 K0.k,
              Value.int IntKind.i64 K0.cr, Value.int IntKind.i64 K0.fl, Value.bool K0.dn],
          Value.agg
            #[Value.slice aw K0.fs.length cw, Value.int IntKind.i64 K0.c, Value.int IntKind.i64 K0.k,
              Value.int IntKind.i64 K0.cr, Value.int IntKind.i64 K0.fl, Value.bool K0.dn],
          Value.bool true, Value.bool false, Value.bool (decide (1 + 3 * ↑K.fs.length < 0)),
          Value.bool (decide (1 + 3 * ↑K.fs.length < 0)),
          Value.agg #[Value.int IntKind.i64 L0.first, Value.int IntKind.i64 L0.last, Value.int IntKind.i64 L0.size],
          Value.agg #[Value.int IntKind.i64 L0.first, Value.int IntKind.i64 L0.last, Value.int IntKind.i64 L0.size],
          Value.bool true, Value.bool false, Value.bool (decide (1 + 3 * ↑K.fs.length < 0)),
          Value.bool (decide (1 + 3 * ↑K.fs.length < 0)), Value.int IntKind.i64 code, Value.int IntKind.i64 code,
          Value.bool false, Value.bool (decide (1 + 3 * ↑K.fs.length < 0)),
          Value.agg
            #[Value.slice ag K0.fs.length cg, Value.int IntKind.i64 K0.c, Value.int IntKind.i64 K0.k,
              Value.int IntKind.i64 K0.cr, Value.int IntKind.i64 K0.fl, Value.bool K0.dn],
          Value.int IntKind.i64 1, Value.int IntKind.i64 (1 + 3 * ↑K0.fs.length),
          Value.agg
            #[Value.slice ag K0.fs.length cg, Value.int IntKind.i64 K0.c, Value.int IntKind.i64 K0.k,
              Value.int IntKind.i64 K0.cr, Value.int IntKind.i64 K0.fl, Value.bool K0.dn],
          Value.int IntKind.i64 1, Value.int IntKind.i64 (1 + 3 * ↑K0.fs.length),
          Value.int IntKind.i64 (1 + 3 * ↑K0.fs.length), Value.bool (decide (1 + 3 * ↑K0.fs.length < 0)),
          Value.int IntKind.i64 (1 + 3 * ↑K0.fs.length), Value.int IntKind.i64 (1 + 3 * ↑K0.fs.length),
          Value.bool false, u107, u108, u109, u110, u111, u112, u113, u114, u115, u116, u117, u118, u119, u120, u121,
          u122, u123, u124, u125, u126, u127, u128, u129, u130, u131, u132],
      defers := [] }
    w17    := by
  go_region_held3 (fun w' => w'.cell? ⟨w.heap.size, 0, none⟩ = some (.slice a K.fs.length cap) ∧ w'.cell? ⟨w.heap.size, 1, none⟩ = some (.int .i64 K.c) ∧ w'.cell? ⟨w.heap.size, 2, none⟩ = some (.int .i64 K.k) ∧ w'.cell? ⟨w.heap.size, 3, none⟩ = some (.int .i64 K.cr) ∧ w'.cell? ⟨w.heap.size, 4, none⟩ = some (.int .i64 K.fl) ∧ w'.cell? ⟨w.heap.size, 5, none⟩ = some (.bool K.dn) ∧ w'.cell? ⟨w.heap.size + 1, 0, none⟩ = some (.int .i64 L.first) ∧ w'.cell? ⟨w.heap.size + 1, 1, none⟩ = some (.int .i64 L.last) ∧ w'.cell? ⟨w.heap.size + 1, 2, none⟩ = some (.int .i64 L.size))
    (exact KA.cells (by repeat (first | with_reducible exact HK4.out | with_reducible exact HK3.out | with_reducible exact HK2.out | with_reducible exact HKA.out | with_reducible refine KA.set ?_ (by omega) | with_reducible refine KA.alloc ?_ | with_reducible refine KA.drew ?_)))
    (first
    | (go_at_call 6; refine (toDisk_any a cap K.fs K.c K.k K.cr K.fl K.dn _ (HFK.out _ (by repeat (first | with_reducible exact Below.refl _ _ | with_reducible refine Below.drew ?_ | with_reducible refine bto ?_ (bnew _ _)))) hl20).mono ?_; rintro e v2 ⟨g4, rfl, _, _, hf2, hb2⟩; have hw2 : Below w17.heap.size w17 v2 := bto (by repeat (first | with_reducible exact Below.refl _ _ | with_reducible refine Below.drew ?_ | with_reducible refine bto ?_ (bnew _ _))) hb2; have hs2 : w17.heap.size ≤ v2.heap.size := hw2.size; have HK2 : Hid (KA w.heap.size K L a cap v2) := HKA.out.later hw2; (first | (with_reducible have hz := zD2 (b_undrew hb2)) | (with_reducible have hz := zD3 (b_undrew hb2)) | (with_reducible have hz := zD1 (b_undrew hb2)) | (with_reducible have hz := zD2 hb2) | (with_reducible have hz := zD3 hb2) | (with_reducible have hz := zD1 hb2) | (with_reducible have hz := (ZD.later hz (bnew _ _)).later hb2) | (with_reducible have hz := ZD.later hz hb2) | skip); (first | (with_reducible have hq := zL2 (b_undrew hb2)) | (with_reducible have hq := zL3 (b_undrew hb2)) | (with_reducible have hq := zL1 (b_undrew hb2)) | (with_reducible have hq := zL2 hb2) | (with_reducible have hq := zL3 hb2) | (with_reducible have hq := zL1 hb2) | (with_reducible have hq := (ZL.later hq (bnew _ _)).later hb2) | (with_reducible have hq := ZL.later hq hb2) | skip); have HF2 : Hid (FilesIn v2 (some ⟨g4, 0, none⟩) K.fs) := hf2; have HB2 : Hid (Below w17.heap.size w17 v2) := hw2; clear hf2 hb2 hw2)
    | (go_at_call 7; refine (toLog_any L.first L.last L.size _).mono ?_; rintro e v3 ⟨rfl, hb3⟩; have hw23 : Below v2.heap.size v2 v3 := bto (by repeat (first | with_reducible exact Below.refl _ _ | with_reducible refine Below.drew ?_ | with_reducible refine bto ?_ (bnew _ _))) hb3; have hs3 : v2.heap.size ≤ v3.heap.size := hw23.size; have HK3 : Hid (KA w.heap.size K L a cap v3) := HK2.out.later hw23; (first | (with_reducible have hz := zD2 (b_undrew hb3)) | (with_reducible have hz := zD3 (b_undrew hb3)) | (with_reducible have hz := zD1 (b_undrew hb3)) | (with_reducible have hz := zD2 hb3) | (with_reducible have hz := zD3 hb3) | (with_reducible have hz := zD1 hb3) | (with_reducible have hz := (ZD.later hz (bnew _ _)).later hb3) | (with_reducible have hz := ZD.later hz hb3) | skip); (first | (with_reducible have hq := zL2 (b_undrew hb3)) | (with_reducible have hq := zL3 (b_undrew hb3)) | (with_reducible have hq := zL1 (b_undrew hb3)) | (with_reducible have hq := zL2 hb3) | (with_reducible have hq := zL3 hb3) | (with_reducible have hq := zL1 hb3) | (with_reducible have hq := (ZL.later hq (bnew _ _)).later hb3) | (with_reducible have hq := ZL.later hq hb3) | skip); have HF3 : Hid (FilesIn v3 (some ⟨g4, 0, none⟩) K.fs) := HF2.out.later hw23; have HB3 : Hid (Below w17.heap.size w17 v3) := bto HB2.out hw23; clear hb3 hw23)
    | (go_at_call 8; refine (HIM.out _ _ _ (bto B17.out (bto HB3.out (by repeat (first | with_reducible exact Below.refl _ _ | with_reducible refine Below.drew ?_ | with_reducible refine bto ?_ (bnew _ _))))) (HF3.out.later (by repeat (first | with_reducible exact Below.refl _ _ | with_reducible refine Below.drew ?_ | with_reducible refine bto ?_ (bnew _ _))))).mono ?_; rintro e v4 ⟨ah, ch, rfl, hoh, hb4⟩; have hw34 : Below v3.heap.size v3 v4 := bto (by repeat (first | with_reducible exact Below.refl _ _ | with_reducible refine Below.drew ?_ | with_reducible refine bto ?_ (bnew _ _))) hb4; have hs4 : v3.heap.size ≤ v4.heap.size := hw34.size; have HK4 : Hid (KA w.heap.size K L a cap v4) := HK3.out.later hw34; (first | (with_reducible have hz := zD2 (b_undrew hb4)) | (with_reducible have hz := zD3 (b_undrew hb4)) | (with_reducible have hz := zD1 (b_undrew hb4)) | (with_reducible have hz := zD2 hb4) | (with_reducible have hz := zD3 hb4) | (with_reducible have hz := zD1 hb4) | (with_reducible have hz := (ZD.later hz (bnew _ _)).later hb4) | (with_reducible have hz := ZD.later hz hb4) | skip); (first | (with_reducible have hq := zL2 (b_undrew hb4)) | (with_reducible have hq := zL3 (b_undrew hb4)) | (with_reducible have hq := zL1 (b_undrew hb4)) | (with_reducible have hq := zL2 hb4) | (with_reducible have hq := zL3 hb4) | (with_reducible have hq := zL1 hb4) | (with_reducible have hq := (ZL.later hq (bnew _ _)).later hb4) | (with_reducible have hq := ZL.later hq hb4) | skip); have HF4 : Hid (FilesIn v4 ah K0.fs) := hoh.files; have HB4 : Hid (Below w17.heap.size w17 v4) := bto HB3.out hw34; clear hb4 hw34 hoh; (first | (have nz0 := ze_ne hz hq; clear nz0; (first | (with_reducible have zz := zzz1 hz hq; clear zz) | (with_reducible have zz := zzz2 hz hq; clear zz) | (have nz1 := ze_ne hz hq; have nz2 := Ne.symm nz1)); obtain ⟨q0, q1, q2, q3, q4, q5⟩ := Blk.six hz; have f0 := Blk.free hz 0; have f1 := Blk.free hz 1; have f2 := Blk.free hz 2; have f3 := Blk.free hz 3; have f4 := Blk.free hz 4; have f5 := Blk.free hz 5; obtain ⟨p0, p1, p2⟩ := Blk.three hq; have e0 := Blk.free hq 0; have e1 := Blk.free hq 1; have e2 := Blk.free hq 2) | (have hlt := lt_of_block hz; have nz1 := Nat.ne_of_lt hlt; have nz2 := Nat.ne_of_gt hlt; clear hlt; obtain ⟨q0, q1, q2, q3, q4, q5⟩ := ZD.sixA hz; obtain ⟨f0, f1, f2, f3, f4, f5⟩ := ZD.freeA hz) | (have hlt := lt_of_block hq; have nz1 := Nat.ne_of_lt hlt; have nz2 := Nat.ne_of_gt hlt; clear hlt; obtain ⟨p0, p1, p2⟩ := ZL.threeA hq; obtain ⟨e0, e1, e2⟩ := ZL.freeA hq) | skip)))
  all_goals (go_wp2_with fail; go_meet)
  all_goals (
    refine ⟨_, _, ah, ch, rfl, rfl, rfl, ?_⟩
    with_reducible refine endA ?_ HF4.out HB4.out (by omega) (by omega) (by omega)
    (first | with_reducible exact endS5 hz hq | with_reducible exact endS6 hz | with_reducible exact endS7 hz | with_reducible exact endS4 hz | with_reducible exact endS8 hq | with_reducible exact endS3 hq | with_reducible exact endS1 | with_reducible exact endS2))
end Go.Proofs.YtboofidegpnkaaaGreatDoor
