import Derived.Test.YtboofidegpnkaaaGreatDoorProg
import Derived.Test.YtboofidegpnkaaaGreatDoorJ27LawBoxA
import Derived.Deep.RegionHeld3
import Derived.Deep.DeepCutAuto
namespace Go.Proofs.YtboofidegpnkaaaGreatDoor
open Go.RowKit
set_option linter.unusedVariables false
set_option maxRecDepth 100000 in
set_option maxHeartbeats 8000000 in
theorem reg9 {a : Option Addr} {cap : Nat} {K : DiskD} {L : LogD} {p : ByteArray} {most : Int} {w : World} {K0 : DiskD} {L0 : LogD} {code : Int} {w4 : World} {w6 : World} {P : Nat} {PL : Nat} {g2 : Nat} {Q : Nat} {ag : Option Addr} {cg : Nat} {u23 : Value} {u24 : Value} {u25 : Value} {u26 : Value} {u27 : Value} {u28 : Value} {u29 : Value} {u30 : Value} {u31 : Value} {u32 : Value} {u33 : Value} {u34 : Value} {u35 : Value} {u36 : Value} {u37 : Value} {u38 : Value} {u39 : Value} {u40 : Value} {u41 : Value} {u42 : Value} {u43 : Value} {u44 : Value} {u45 : Value} {u46 : Value} {u47 : Value} {u48 : Value} {u49 : Value} {u50 : Value} {u51 : Value} {u52 : Value} {u53 : Value} {u54 : Value} {u55 : Value} {u56 : Value} {u57 : Value} {u58 : Value} {u59 : Value} {u60 : Value} {u61 : Value} {u62 : Value} {u63 : Value} {u64 : Value} {u65 : Value} {u66 : Value} {u67 : Value} {u68 : Value} {u69 : Value} {u70 : Value} {u71 : Value} {u72 : Value} {u73 : Value} {u74 : Value} {u75 : Value} {u76 : Value} {u77 : Value} {u78 : Value} {u79 : Value} {u80 : Value} {u81 : Value} {u82 : Value} {u83 : Value} {u84 : Value} {u85 : Value} {u86 : Value} {u87 : Value} {u88 : Value} {u89 : Value} {u90 : Value} {u91 : Value} {u92 : Value} {u93 : Value} {u94 : Value} {u95 : Value} {u96 : Value} {u97 : Value} {u98 : Value} {u99 : Value} {u100 : Value} {u101 : Value} {u102 : Value} {u103 : Value} {u104 : Value} {u105 : Value} {u106 : Value} {u107 : Value} {u108 : Value} {u109 : Value} {u110 : Value} {u111 : Value} {u112 : Value} {u113 : Value} {u114 : Value} {u115 : Value} {u116 : Value} {u117 : Value} {u118 : Value} {u119 : Value} {u120 : Value} {u121 : Value} {u122 : Value} {u123 : Value} {u124 : Value} {u125 : Value} {u126 : Value} {u127 : Value} {u128 : Value} {u129 : Value} {u130 : Value} {u131 : Value} {u132 : Value}
    (HIM : Hid (∀ a' cap' W, Below w.heap.size w W → FilesIn W a' K.fs → Calls Tryz.prog 8 #[.agg #[.slice a' K.fs.length cap', .int .i64 K.c, .int .i64 K.k, .int .i64 K.cr, .int .i64 K.fl, .bool K.dn], .agg #[.int .i64 L.first, .int .i64 L.last, .int .i64 L.size], .string p, .int .i64 most] W fun e w' => ∃ ag cg, e = .returned (.tuple #[.agg #[.slice ag K0.fs.length cg, .int .i64 K0.c, .int .i64 K0.k, .int .i64 K0.cr, .int .i64 K0.fl, .bool K0.dn], .agg #[.int .i64 L0.first, .int .i64 L0.last, .int .i64 L0.size], .int .i64 code]) ∧ Owned w' W.heap.size ag K0.fs ∧ Below W.heap.size W w'))
    (B6 : Hid (Below w.heap.size w w6))
    (X6 : Hid (Owned w6 g2 (some ⟨g2, 0, none⟩) K.fs))
    (HKB : Hid (KB Q (w.heap.size + 1) #[.slice (some ⟨g2, 0, none⟩) K.fs.length K.fs.length, .int .i64 K.c, .int .i64 K.k, .int .i64 K.cr, .int .i64 K.fl, .bool K.dn] #[.int .i64 L.first, .int .i64 L.last, .int .i64 L.size] 30 26 w6))
    (hQ6 : Q < w6.heap.size)
    (hN4 : w.heap.size + 1 < w4.heap.size)
    (hg2 : w4.heap.size ≤ g2)
    (hQ : g2 < Q)
    {J1 K1 : Act → World → Prop} {Q1 : Exit → Act → World → Prop}
    (hK1 : ∀ (a' : Act) (w' : World), Met J1 a' w' → K1 a' w')
    (hJ1 : ∀ (a' : Act) (w' : World),
    (∃ u14 u15 u16 u23 u24 u25 u26 u27 u28 u29 u30 u31 u32 u33 u34 u35 u36 u37 u38 u39 u40 u41 u42 u43 u44 u45 u46 u47
        u48 u49 u50 u51 u52 u53 u54 u55 u56 u57 u58 u59 u60 u61 u62 u63 u64 u65 u66 u67 u68 u69 u70 u71 u72 u73 u74 u75
        u76 u77 u78 u79 u80 u81 u82 u83 u84 u85 u86 u87 u88 u89 u90 u91 u92 u93 u94 u95 u96 u97 u98 u99 u100 u101 u102
        u103 u104 u105 u106 u107 u108 u109 u110 u111 u112 u113 u114 u115 u116 u117 u118 u119 u120 u121 u122 u123 u124
        u125 u126 u127 u128 u129 u130 u131 u132,
        (∃ G GL1 ag cg,
            u14 = Value.pointer (some { block := G, off := 0 }) ∧
              u15 = Value.pointer (some { block := GL1, off := 0 }) ∧
                u16 = Value.int IntKind.i64 code ∧
                  w6.heap.size ≤ G ∧
                    w6.heap.size ≤ GL1 ∧
                      Blk w' G
                          #[Value.slice ag K0.fs.length cg, Value.int IntKind.i64 K0.c, Value.int IntKind.i64 K0.k,
                            Value.int IntKind.i64 K0.cr, Value.int IntKind.i64 K0.fl, Value.bool K0.dn]
                          30 ∧
                        Blk w' GL1
                            #[Value.int IntKind.i64 L0.first, Value.int IntKind.i64 L0.last,
                              Value.int IntKind.i64 L0.size]
                            31 ∧
                          Owned w' w6.heap.size ag K0.fs ∧ Apart ag K0.fs G ∧ Below w6.heap.size w6 w') ∧
          a' =
            {
              tmps :=
                #[Value.agg
                    #[Value.slice a K.fs.length cap, Value.int IntKind.i64 K.c, Value.int IntKind.i64 K.k,
                      Value.int IntKind.i64 K.cr, Value.int IntKind.i64 K.fl, Value.bool K.dn],
                  Value.agg
                    #[Value.int IntKind.i64 L.first, Value.int IntKind.i64 L.last, Value.int IntKind.i64 L.size],
                  Value.string p, Value.int IntKind.i64 most, Value.pointer (some { block := w.heap.size, off := 0 }),
                  Value.pointer (some { block := w.heap.size + 1, off := 0 }), undef, undef, Value.bool false,
                  Value.int IntKind.i64 (szFs 1048576 K.fs), Value.pointer (some { block := P, off := 0 }),
                  Value.pointer (some { block := PL, off := 0 }), Value.int IntKind.i64 code,
                  Value.pointer (some { block := Q, off := 0 }), u14, u15, u16, undef, undef, undef, undef, undef,
                  undef, u23, u24, u25, u26, u27, u28, u29, u30, u31, u32, u33, u34, u35, u36, u37, u38, u39, u40, u41,
                  u42, u43, u44, u45, u46, u47, u48, u49, u50, u51, u52, u53, u54, u55, u56, u57, u58, u59, u60, u61,
                  u62, u63, u64, u65, u66, u67, u68, u69, u70, u71, u72, u73, u74, u75, u76, u77, u78, u79, u80, u81,
                  u82, u83, u84, u85, u86, u87, u88, u89, u90, u91, u92, u93, u94, u95, u96, u97, u98, u99, u100, u101,
                  u102, u103, u104, u105, u106, u107, u108, u109, u110, u111, u112, u113, u114, u115, u116, u117, u118,
                  u119, u120, u121, u122, u123, u124, u125, u126, u127, u128, u129, u130, u131, u132],
              defers := [] }) →
      J1 a' w') :
    Code.wp Tryz.prog
    (Code.region 9
      #[{ dst := some 45, op := Op.load 30 (Operand.tmp 13), type := 30, pos := "exact.go:1680", after := #[],
          guard := none },
        { dst := some 46, op := Op.load 26 (Operand.tmp 5), type := 26, pos := "exact.go:1680", after := #[],
          guard := none },
        { dst := some 47,
          op := Op.call { callee := Callee.value (Operand.func 7), args := #[Operand.tmp 46], argTypes := #[26] },
          type := 31, pos := "exact.go:1680", after := #[{ on := 1, ground := Ground.data }], guard := none },
        { dst := some 48, op := Op.move (Operand.tmp 2), type := 9, pos := "exact.go:1680", after := #[],
          guard := none },
        { dst := some 49, op := Op.move (Operand.tmp 3), type := 3, pos := "exact.go:1680", after := #[],
          guard := none },
        { dst := some 50,
          op :=
            Op.call
              { callee := Callee.value (Operand.func 8),
                args := #[Operand.tmp 45, Operand.tmp 47, Operand.tmp 48, Operand.tmp 49],
                argTypes := #[30, 31, 9, 3] },
          type := 32, pos := "exact.go:1680",
          after :=
            #[{ on := 0, ground := Ground.data }, { on := 2, ground := Ground.data },
              { on := 3, ground := Ground.data }, { on := 4, ground := Ground.data },
              { on := 2, ground := Ground.chain }],
          guard := none },
        { dst := some 44, op := Op.move (Operand.tmp 50), type := 32, pos := "exact.go:1680",
          after := #[{ on := 5, ground := Ground.data }], guard := none },
        { dst := some 51, op := Op.extract (Operand.tmp 44) 0, type := 30, pos := "exact.go:1680",
          after := #[{ on := 6, ground := Ground.data }], guard := none },
        { dst := some 52, op := Op.extract (Operand.tmp 44) 1, type := 31, pos := "exact.go:1680",
          after := #[{ on := 6, ground := Ground.data }, { on := 12, ground := Ground.gcOnly Departure.lateStores }],
          guard := none },
        { dst := some 53, op := Op.extract (Operand.tmp 44) 2, type := 3, pos := "exact.go:1680",
          after := #[{ on := 6, ground := Ground.data }, { on := 13, ground := Ground.gcOnly Departure.lateStores }],
          guard := none },
        { dst := some 14, op := Op.alloc 30, type := 0, pos := "exact.go:1680", after := #[], guard := none },
        { dst := some 15, op := Op.alloc 31, type := 0, pos := "exact.go:1680", after := #[], guard := none },
        { dst := none, op := Op.store 30 (Operand.tmp 14) (Operand.tmp 51), type := 0, pos := "exact.go:1680",
          after :=
            #[{ on := 10, ground := Ground.data }, { on := 7, ground := Ground.data },
              { on := 5, ground := Ground.chain }, { on := 0, ground := Ground.phase },
              { on := 1, ground := Ground.phase }, { on := 2, ground := Ground.phase },
              { on := 3, ground := Ground.phase }, { on := 4, ground := Ground.phase },
              { on := 5, ground := Ground.phase }, { on := 6, ground := Ground.phase },
              { on := 7, ground := Ground.phase }, { on := 8, ground := Ground.textOnly Departure.lateStores },
              { on := 9, ground := Ground.textOnly Departure.lateStores }, { on := 10, ground := Ground.phase },
              { on := 11, ground := Ground.phase }],
          guard := none },
        { dst := none, op := Op.store 31 (Operand.tmp 15) (Operand.tmp 52), type := 0, pos := "exact.go:1680",
          after :=
            #[{ on := 11, ground := Ground.data }, { on := 8, ground := Ground.data },
              { on := 12, ground := Ground.chain }, { on := 0, ground := Ground.phase },
              { on := 1, ground := Ground.phase }, { on := 2, ground := Ground.phase },
              { on := 3, ground := Ground.phase }, { on := 4, ground := Ground.phase },
              { on := 5, ground := Ground.phase }, { on := 6, ground := Ground.phase },
              { on := 7, ground := Ground.phase }, { on := 8, ground := Ground.phase },
              { on := 9, ground := Ground.textOnly Departure.lateStores }, { on := 10, ground := Ground.phase },
              { on := 11, ground := Ground.phase }, { on := 12, ground := Ground.phase }],
          guard := none },
        { dst := some 16, op := Op.assign (Operand.tmp 53), type := 3, pos := "exact.go:1680",
          after :=
            #[{ on := 9, ground := Ground.data }, { on := 13, ground := Ground.chain },
              { on := 0, ground := Ground.phase }, { on := 1, ground := Ground.phase },
              { on := 2, ground := Ground.phase }, { on := 3, ground := Ground.phase },
              { on := 4, ground := Ground.phase }, { on := 5, ground := Ground.phase },
              { on := 6, ground := Ground.phase }, { on := 7, ground := Ground.phase },
              { on := 8, ground := Ground.phase }, { on := 9, ground := Ground.phase },
              { on := 10, ground := Ground.phase }, { on := 11, ground := Ground.phase },
              { on := 12, ground := Ground.phase }, { on := 13, ground := Ground.phase }],
          guard := none }]
      true)
    (Exit.then K1 Q1)
    {
      tmps :=
        #[Value.agg
            #[Value.slice a K.fs.length cap, Value.int IntKind.i64 K.c, Value.int IntKind.i64 K.k,
              Value.int IntKind.i64 K.cr, Value.int IntKind.i64 K.fl, Value.bool K.dn],
          Value.agg #[Value.int IntKind.i64 L.first, Value.int IntKind.i64 L.last, Value.int IntKind.i64 L.size],
          Value.string p, Value.int IntKind.i64 most, Value.pointer (some { block := w.heap.size, off := 0 }),
          Value.pointer (some { block := w.heap.size + 1, off := 0 }), undef, undef, Value.bool false,
          Value.int IntKind.i64 (szFs 1048576 K.fs), Value.pointer (some { block := P, off := 0 }),
          Value.pointer (some { block := PL, off := 0 }), Value.int IntKind.i64 code,
          Value.pointer (some { block := Q, off := 0 }), undef, undef, undef, undef, undef, undef, undef, undef, undef,
          u23, u24, u25, u26, u27, u28, u29, u30, u31, u32, u33, u34, u35, u36, u37, u38, u39, u40, u41, u42, u43, u44,
          u45, u46, u47, u48, u49, u50, u51, u52, u53, u54, u55, u56, u57, u58, u59, u60, u61, u62, u63, u64, u65, u66,
          u67, u68, u69, u70, u71, u72, u73, u74, u75, u76, u77, u78, u79, u80, u81, u82, u83, u84, u85, u86, u87, u88,
          u89, u90, u91, u92, u93, u94, u95, u96, u97, u98, u99, u100, u101, u102, u103, u104, u105, u106, u107, u108,
          u109, u110, u111, u112, u113, u114, u115, u116, u117, u118, u119, u120, u121, u122, u123, u124, u125, u126,
          u127, u128, u129, u130, u131, u132],
      defers := [] }
    w6    := by
  go_region_held3 (fun w' => w'.cell? ⟨Q, 0, none⟩ = some (.slice (some ⟨g2, 0, none⟩) K.fs.length K.fs.length) ∧ w'.cell? ⟨Q, 1, none⟩ = some (.int .i64 K.c) ∧ w'.cell? ⟨Q, 2, none⟩ = some (.int .i64 K.k) ∧ w'.cell? ⟨Q, 3, none⟩ = some (.int .i64 K.cr) ∧ w'.cell? ⟨Q, 4, none⟩ = some (.int .i64 K.fl) ∧ w'.cell? ⟨Q, 5, none⟩ = some (.bool K.dn) ∧ w'.cell? ⟨w.heap.size + 1, 0, none⟩ = some (.int .i64 L.first) ∧ w'.cell? ⟨w.heap.size + 1, 1, none⟩ = some (.int .i64 L.last) ∧ w'.cell? ⟨w.heap.size + 1, 2, none⟩ = some (.int .i64 L.size))
    (exact KB.cells (t := 30) (s := 26) (by repeat (first | with_reducible exact HK4.out | with_reducible exact HK3.out | with_reducible exact HKB.out | with_reducible refine KB.set ?_ (by omega) (by omega) | with_reducible refine KB.alloc ?_ | with_reducible refine KB.drew ?_)))
    (first
    | (go_at_call 7; refine (toLog_any L.first L.last L.size _).mono ?_; rintro e v3 ⟨rfl, hb3⟩; have hw3 : Below w6.heap.size w6 v3 := bto (by repeat (first | with_reducible exact Below.refl _ _ | with_reducible refine Below.drew ?_ | with_reducible refine bto ?_ (bnew _ _))) hb3; have hs3 : w6.heap.size ≤ v3.heap.size := hw3.size; have HK3 : Hid (KB Q (w.heap.size + 1) #[.slice (some ⟨g2, 0, none⟩) K.fs.length K.fs.length, .int .i64 K.c, .int .i64 K.k, .int .i64 K.cr, .int .i64 K.fl, .bool K.dn] #[.int .i64 L.first, .int .i64 L.last, .int .i64 L.size] 30 26 v3) := HKB.out.later hw3; (first | (with_reducible have hz := zD2 (b_undrew hb3)) | (with_reducible have hz := zD3 (b_undrew hb3)) | (with_reducible have hz := zD1 (b_undrew hb3)) | (with_reducible have hz := zD2 hb3) | (with_reducible have hz := zD3 hb3) | (with_reducible have hz := zD1 hb3) | (with_reducible have hz := (ZD.later hz (bnew _ _)).later hb3) | (with_reducible have hz := ZD.later hz hb3) | skip); (first | (with_reducible have hq := zL2 (b_undrew hb3)) | (with_reducible have hq := zL3 (b_undrew hb3)) | (with_reducible have hq := zL1 (b_undrew hb3)) | (with_reducible have hq := zL2 hb3) | (with_reducible have hq := zL3 hb3) | (with_reducible have hq := zL1 hb3) | (with_reducible have hq := (ZL.later hq (bnew _ _)).later hb3) | (with_reducible have hq := ZL.later hq hb3) | skip); have HF3 : Hid (FilesIn v3 (some ⟨g2, 0, none⟩) K.fs) := X6.out.files.later hw3; have HB3 : Hid (Below w6.heap.size w6 v3) := hw3; clear hb3 hw3)
    | (go_at_call 8; refine (HIM.out _ _ _ (bto B6.out (bto HB3.out (by repeat (first | with_reducible exact Below.refl _ _ | with_reducible refine Below.drew ?_ | with_reducible refine bto ?_ (bnew _ _))))) (HF3.out.later (by repeat (first | with_reducible exact Below.refl _ _ | with_reducible refine Below.drew ?_ | with_reducible refine bto ?_ (bnew _ _))))).mono ?_; rintro e v4 ⟨ag, cg, rfl, hog, hb4⟩; have hw34 : Below v3.heap.size v3 v4 := bto (by repeat (first | with_reducible exact Below.refl _ _ | with_reducible refine Below.drew ?_ | with_reducible refine bto ?_ (bnew _ _))) hb4; have hs4 : v3.heap.size ≤ v4.heap.size := hw34.size; have HK4 : Hid (KB Q (w.heap.size + 1) #[.slice (some ⟨g2, 0, none⟩) K.fs.length K.fs.length, .int .i64 K.c, .int .i64 K.k, .int .i64 K.cr, .int .i64 K.fl, .bool K.dn] #[.int .i64 L.first, .int .i64 L.last, .int .i64 L.size] 30 26 v4) := HK3.out.later hw34; (first | (with_reducible have hz := zD2 (b_undrew hb4)) | (with_reducible have hz := zD3 (b_undrew hb4)) | (with_reducible have hz := zD1 (b_undrew hb4)) | (with_reducible have hz := zD2 hb4) | (with_reducible have hz := zD3 hb4) | (with_reducible have hz := zD1 hb4) | (with_reducible have hz := (ZD.later hz (bnew _ _)).later hb4) | (with_reducible have hz := ZD.later hz hb4) | skip); (first | (with_reducible have hq := zL2 (b_undrew hb4)) | (with_reducible have hq := zL3 (b_undrew hb4)) | (with_reducible have hq := zL1 (b_undrew hb4)) | (with_reducible have hq := zL2 hb4) | (with_reducible have hq := zL3 hb4) | (with_reducible have hq := zL1 hb4) | (with_reducible have hq := (ZL.later hq (bnew _ _)).later hb4) | (with_reducible have hq := ZL.later hq hb4) | skip); have HO4 : Hid (Owned v4 v3.heap.size ag K0.fs) := hog.mono (low (by repeat (first | with_reducible exact Below.refl _ _ | with_reducible refine Below.drew ?_ | with_reducible refine bto ?_ (bnew _ _)))); have HB4 : Hid (Below w6.heap.size w6 v4) := bto HB3.out hw34; clear hb4 hw34 hog; (first | (have nz0 := ze_ne hz hq; clear nz0; (first | (with_reducible have zz := zzz1 hz hq; clear zz) | (with_reducible have zz := zzz2 hz hq; clear zz) | (have nz1 := ze_ne hz hq; have nz2 := Ne.symm nz1)); obtain ⟨q0, q1, q2, q3, q4, q5⟩ := Blk.six hz; have f0 := Blk.free hz 0; have f1 := Blk.free hz 1; have f2 := Blk.free hz 2; have f3 := Blk.free hz 3; have f4 := Blk.free hz 4; have f5 := Blk.free hz 5; obtain ⟨p0, p1, p2⟩ := Blk.three hq; have e0 := Blk.free hq 0; have e1 := Blk.free hq 1; have e2 := Blk.free hq 2) | (have hlt := lt_of_block hz; have nz1 := Nat.ne_of_lt hlt; have nz2 := Nat.ne_of_gt hlt; clear hlt; obtain ⟨q0, q1, q2, q3, q4, q5⟩ := ZD.sixA hz; obtain ⟨f0, f1, f2, f3, f4, f5⟩ := ZD.freeA hz) | (have hlt := lt_of_block hq; have nz1 := Nat.ne_of_lt hlt; have nz2 := Nat.ne_of_gt hlt; clear hlt; obtain ⟨p0, p1, p2⟩ := ZL.threeA hq; obtain ⟨e0, e1, e2⟩ := ZL.freeA hq) | skip)))
  all_goals (go_wp2_with fail; go_meet)
  all_goals (
    refine ⟨_, _, ag, cg, rfl, rfl, rfl, ?_⟩
    with_reducible refine endO ?_ HO4.out HB4.out (by omega) (by omega) (by omega) (by omega)
    (first | with_reducible exact endS5 hz hq | with_reducible exact endS6 hz | with_reducible exact endS7 hz | with_reducible exact endS4 hz | with_reducible exact endS8 hq | with_reducible exact endS3 hq | with_reducible exact endS1 | with_reducible exact endS2))
end Go.Proofs.YtboofidegpnkaaaGreatDoor
