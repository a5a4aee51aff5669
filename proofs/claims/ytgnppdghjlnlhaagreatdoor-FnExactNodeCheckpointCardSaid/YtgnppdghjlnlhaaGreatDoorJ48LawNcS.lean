import Derived.Test.YtgnppdghjlnlhaaGreatDoorProg
import Derived.Test.YtgnppdghjlnlhaaGreatDoorJ46LawNx
import Derived.Test.YtgnppdghjlnlhaaGreatDoorJ47CfgT
import Derived.Test.YtgnppdghjlnlhaaGreatDoorJ27CpyS
import Derived.Deep.RegionHeld3
import Derived.Deep.DeepCutAuto
namespace Go.Proofs.YtgnppdghjlnlhaaGreatDoor
open Go.RowKit
theorem szN_of {N : NodeD} (h : ¬ szN N < 0) : N.d.fs.length + bulk N.d.fs + (N.ts.length + tensBulk N.ts) ≤ 1048576 := by
  unfold szN at h
  split at h
  · omega
  · rename_i h1
    unfold szFs at h h1
    split at h1
    · rename_i h2
      rw [if_pos h2] at h
      unfold szTens at h
      split at h <;> omega
    · omega
theorem tensLen_le2 (ts : List TenD) : tensLen ts ≤ 2 * tensBulk ts + 2 * ts.length := by
  induction ts with
  | nil => exact Nat.zero_le _
  | cons t r ih => simp only [List.length_cons, tensLen, tenLen, tensBulk, tenBulk]; omega
theorem staB_size {lsn now : Int} {ts : List TenD} (h : (encTs ts).size ≤ 100000000) : (staB lsn now ts).size ≤ 200000000 := by
  by_cases hk : staOK lsn ts
  · rw [staB_ok hk]
    simp only [staX, staHead, ByteArray.size_append, numS_size]
    have : ckB.size ≤ 10 := by decide
    omega
  · rw [staB_no hk]
    simp
theorem specCk_any (c : CfgD) (a b : Option Addr) (ca cb : Nat) (N : NodeD) (w : World) (h : SpIn w a b N) (hF : Fit N.d.fs) (hsz : (staB N.lsn N.now N.ts).size ≤ 200000000) :
    Calls Tryz.prog 5 #[cfgV c, .agg #[.slice a N.d.fs.length ca, .int .i64 N.d.c, .int .i64 N.d.k, .int .i64 N.d.cr, .int .i64 N.d.fl, .bool N.d.dn, .int .i64 N.l.first, .int .i64 N.l.last, .int .i64 N.l.size, .int .i64 N.now, .slice b N.ts.length cb, .int .i64 N.lsn, .bool N.deg, .bool N.up]] w fun e w' => SpOut c N w e w' := by
  by_cases hl : cfgB c = true ∧ upB N = true ∧ logB N.l = true ∧ ¬ N.l.last = 999999 ∧ ¬ staB N.lsn N.now N.ts = ⟨#[]⟩
  · obtain ⟨h0, h1, h2, h3, h4⟩ := hl
    exact specCk_run c a b ca cb N w h hF h0 h1 h2 h3 h4 hsz
  · exact specCk_low c a b ca cb N w h hl
set_option linter.unusedVariables false in
set_option maxRecDepth 100000 in
set_option maxHeartbeats 16000000 in
theorem lawNcR2 {N M : NodeD} {w w1 w4 w5 w6 w7 w8 w9 : World} {code left : Int} {NK MK X0 X XG L1 H1 : Nat} {n0 n1 n2 n3 n4 n5 n6 n7 n8 n9 n10 n11 n12 n13 m1 m2 m3 m4 m5 m6 m7 m8 m9 m11 m12 m13 q0 q1 q2 q3 q4 q5 y0 y10 k0 k10 z0 z10 u16 u17 u18 u19 u20 u21 u22 u23 u24 u25 u26 u27 u28 u29 u30 u31 u32 u33 u34 u35 u36 u37 u38 u39 u40 u41 u42 u43 u44 u45 u46 u47 u48 u49 u50 u52 u53 u54 u55 u56 u57 u58 u59 u60 u61 u62 u63 u64 u65 u66 u67 u68 u69 u70 u71 u72 u73 u74 u75 u76 u77 u78 u79 u80 u81 u82 u83 u84 u85 u86 u87 u88 u89 u90 u91 u92 u93 u94 u95 : Value} {K_b1 K_b : Act → World → Prop}
    (HPW : Hid (PowTab w))
    (sn1 : ∀ (W : World) (p : Addr), Sem.run Tryz.prog (store p n1) W = stored Tryz.prog W p n1 Mode.plain)
    (sn2 : ∀ (W : World) (p : Addr), Sem.run Tryz.prog (store p n2) W = stored Tryz.prog W p n2 Mode.plain)
    (sn3 : ∀ (W : World) (p : Addr), Sem.run Tryz.prog (store p n3) W = stored Tryz.prog W p n3 Mode.plain)
    (sn4 : ∀ (W : World) (p : Addr), Sem.run Tryz.prog (store p n4) W = stored Tryz.prog W p n4 Mode.plain)
    (sn5 : ∀ (W : World) (p : Addr), Sem.run Tryz.prog (store p n5) W = stored Tryz.prog W p n5 Mode.plain)
    (sn6 : ∀ (W : World) (p : Addr), Sem.run Tryz.prog (store p n6) W = stored Tryz.prog W p n6 Mode.plain)
    (sn7 : ∀ (W : World) (p : Addr), Sem.run Tryz.prog (store p n7) W = stored Tryz.prog W p n7 Mode.plain)
    (sn8 : ∀ (W : World) (p : Addr), Sem.run Tryz.prog (store p n8) W = stored Tryz.prog W p n8 Mode.plain)
    (sn9 : ∀ (W : World) (p : Addr), Sem.run Tryz.prog (store p n9) W = stored Tryz.prog W p n9 Mode.plain)
    (sn11 : ∀ (W : World) (p : Addr), Sem.run Tryz.prog (store p n11) W = stored Tryz.prog W p n11 Mode.plain)
    (sn12 : ∀ (W : World) (p : Addr), Sem.run Tryz.prog (store p n12) W = stored Tryz.prog W p n12 Mode.plain)
    (sn13 : ∀ (W : World) (p : Addr), Sem.run Tryz.prog (store p n13) W = stored Tryz.prog W p n13 Mode.plain)
    (HMK : Hid
        (∀ (W : World) (A : Nat → Prop) (k0 k10 : Value),
          NVal W A k0 k10 N →
            (∀ (x : Nat), A x → x < W.heap.size) →
              Calls Tryz.prog 10
                #[Value.agg #[k0, n1, n2, n3, n4, n5, n6, n7, n8, n9, k10, n11, n12, n13], Value.int IntKind.i64 1] W
                fun e w' => e = Ending.returned (Value.int IntKind.i64 (NK : Int)) ∧ Turn A W w'))
    (HTN : Hid
        (∀ (W : World),
          Below w.heap.size w W →
            Calls Tryz.prog 7 #[Value.agg #[n0, n1, n2, n3, n4, n5, n6, n7, n8, n9, n10, n11, n12, n13]] W fun e w' =>
              ∃ k0 k10,
                e = Ending.returned (Value.agg #[k0, n1, n2, n3, n4, n5, n6, n7, n8, n9, k10, n11, n12, n13]) ∧
                  NVal w' (fun x => W.heap.size ≤ x ∧ x < w'.heap.size) k0 k10 N ∧ Below W.heap.size W w'))
    (sm1 : ∀ (W : World) (p : Addr), Sem.run Tryz.prog (store p m1) W = stored Tryz.prog W p m1 Mode.plain)
    (sm2 : ∀ (W : World) (p : Addr), Sem.run Tryz.prog (store p m2) W = stored Tryz.prog W p m2 Mode.plain)
    (sm3 : ∀ (W : World) (p : Addr), Sem.run Tryz.prog (store p m3) W = stored Tryz.prog W p m3 Mode.plain)
    (sm4 : ∀ (W : World) (p : Addr), Sem.run Tryz.prog (store p m4) W = stored Tryz.prog W p m4 Mode.plain)
    (sm5 : ∀ (W : World) (p : Addr), Sem.run Tryz.prog (store p m5) W = stored Tryz.prog W p m5 Mode.plain)
    (sm6 : ∀ (W : World) (p : Addr), Sem.run Tryz.prog (store p m6) W = stored Tryz.prog W p m6 Mode.plain)
    (sm7 : ∀ (W : World) (p : Addr), Sem.run Tryz.prog (store p m7) W = stored Tryz.prog W p m7 Mode.plain)
    (sm8 : ∀ (W : World) (p : Addr), Sem.run Tryz.prog (store p m8) W = stored Tryz.prog W p m8 Mode.plain)
    (sm9 : ∀ (W : World) (p : Addr), Sem.run Tryz.prog (store p m9) W = stored Tryz.prog W p m9 Mode.plain)
    (sm11 : ∀ (W : World) (p : Addr), Sem.run Tryz.prog (store p m11) W = stored Tryz.prog W p m11 Mode.plain)
    (sm12 : ∀ (W : World) (p : Addr), Sem.run Tryz.prog (store p m12) W = stored Tryz.prog W p m12 Mode.plain)
    (sm13 : ∀ (W : World) (p : Addr), Sem.run Tryz.prog (store p m13) W = stored Tryz.prog W p m13 Mode.plain)
    (HEV : Hid
        (∀ (W : World) (k0 k10 k0' k10' : Value),
          FVal W k0 k10 M →
            FVal W k0' k10' M →
              Calls Tryz.prog 9
                #[Value.agg #[k0, m1, m2, m3, m4, m5, m6, m7, m8, m9, k10, m11, m12, m13],
                  Value.agg #[k0', m1, m2, m3, m4, m5, m6, m7, m8, m9, k10', m11, m12, m13]]
                W fun e w' => e = Ending.returned (Value.bool true) ∧ Below W.heap.size W w'))
    (HMV : Hid
        (∀ (W : World) (A : Nat → Prop) (k0 k10 : Value),
          NVal W A k0 k10 M →
            (∀ (x : Nat), A x → x < W.heap.size) →
              Calls Tryz.prog 10
                #[Value.agg #[k0, m1, m2, m3, m4, m5, m6, m7, m8, m9, k10, m11, m12, m13], Value.int IntKind.i64 1] W
                fun e w' => e = Ending.returned (Value.int IntKind.i64 (MK : Int)) ∧ Turn A W w' ∧ HVal w' k0 k10 M))
    (HHV : Hid
        (∀ (W : World) (k0 k10 : Value),
          HVal W k0 k10 M →
            Calls Tryz.prog 11
              #[Value.agg #[k0, m1, m2, m3, m4, m5, m6, m7, m8, m9, k10, m11, m12, m13], Value.int IntKind.i64 1] W
              fun e w' => e = Ending.returned (Value.int IntKind.i64 (MK : Int)) ∧ Below W.heap.size W w'))
    (HTC : Hid
        (∀ (W : World),
          Calls Tryz.prog 6 #[Value.agg #[q0, q1, q2, q3, q4, q5]] W fun e w' =>
            e = Ending.returned (Value.agg #[q0, q1, q2, q3, q4, q5]) ∧ Below W.heap.size W w'))
    (HIM : Hid
        (∀ (W : World) (k0 k10 : Value),
          FVal W k0 k10 N →
            PowTab W →
              Calls Tryz.prog 8
                #[Value.agg #[q0, q1, q2, q3, q4, q5],
                  Value.agg #[k0, n1, n2, n3, n4, n5, n6, n7, n8, n9, k10, n11, n12, n13]]
                W fun e w' =>
                ∃ j0 j10,
                  e =
                      Ending.returned
                        (Value.tuple
                          #[Value.agg #[j0, m1, m2, m3, m4, m5, m6, m7, m8, m9, j10, m11, m12, m13],
                            Value.int IntKind.i64 code]) ∧
                    NVal w' (fun x => W.heap.size ≤ x ∧ x < w'.heap.size) j0 j10 M ∧ Below W.heap.size W w'))
    (hNK0 : 0 ≤ (NK : Int))
    (hMK0 : 0 ≤ (MK : Int))
    (h0 : 0 ≤ left)
    (hX0 : w1.heap.size ≤ X0)
    (XB0 : Hid (Blk w4 X0 #[y0, m1, m2, m3, m4, m5, m6, m7, m8, m9, y10, m11, m12, m13] 43))
    (FI0 : Hid (FVal w4 y0 y10 M))
    (B4w : Hid (Below w.heap.size w w4))
    (A4 : Hid (Blk w4 w.heap.size #[q0, q1, q2, q3, q4, q5] 23))
    (S4 : Hid (Blk w4 (w.heap.size + 1) #[n0, n1, n2, n3, n4, n5, n6, n7, n8, n9, n10, n11, n12, n13] 33))
    (hX04 : X0 < w4.heap.size)
    (h1w : w.heap.size + 1 < w1.heap.size)
    (h14 : w1.heap.size ≤ w4.heap.size)
    (O5 : Hid (NVal w5 (fun x => w4.heap.size ≤ x ∧ x < w5.heap.size) k0 k10 N))
    (sk0 : ∀ (W : World) (p : Addr), Sem.run Tryz.prog (store p k0) W = stored Tryz.prog W p k0 Mode.plain)
    (sk10 : ∀ (W : World) (p : Addr), Sem.run Tryz.prog (store p k10) W = stored Tryz.prog W p k10 Mode.plain)
    (B45 : Hid (Below w4.heap.size w4 w5))
    (B56 : Hid (Below w5.heap.size w5 w6))
    (A6 : Hid (Blk w6 w.heap.size #[q0, q1, q2, q3, q4, q5] 23))
    (B6w : Hid (Below w.heap.size w w6))
    (B46 : Hid (Below w4.heap.size w4 w6))
    (h45 : w4.heap.size ≤ X)
    (h56 : X < w6.heap.size)
    (X6 : Hid (Blk w6 X #[k0, n1, n2, n3, n4, n5, n6, n7, n8, n9, k10, n11, n12, n13] 43))
    (HX : Hid (X = w5.heap.size))
    (HK6 : Hid
        (∀ (w' : World),
          Below w6.heap.size w6 w' →
            w'.cell? { block := w.heap.size, off := 0 } = some q0 ∧
              w'.cell? { block := w.heap.size, off := 1 } = some q1 ∧
                w'.cell? { block := w.heap.size, off := 2 } = some q2 ∧
                  w'.cell? { block := w.heap.size, off := 3 } = some q3 ∧
                    w'.cell? { block := w.heap.size, off := 4 } = some q4 ∧
                      w'.cell? { block := w.heap.size, off := 5 } = some q5 ∧
                        w'.cell? { block := X, off := 0 } = some k0 ∧
                          w'.cell? { block := X, off := 1 } = some n1 ∧
                            w'.cell? { block := X, off := 2 } = some n2 ∧
                              w'.cell? { block := X, off := 3 } = some n3 ∧
                                w'.cell? { block := X, off := 4 } = some n4 ∧
                                  w'.cell? { block := X, off := 5 } = some n5 ∧
                                    w'.cell? { block := X, off := 6 } = some n6 ∧
                                      w'.cell? { block := X, off := 7 } = some n7 ∧
                                        w'.cell? { block := X, off := 8 } = some n8 ∧
                                          w'.cell? { block := X, off := 9 } = some n9 ∧
                                            w'.cell? { block := X, off := 10 } = some k10 ∧
                                              w'.cell? { block := X, off := 11 } = some n11 ∧
                                                w'.cell? { block := X, off := 12 } = some n12 ∧
                                                  w'.cell? { block := X, off := 13 } = some n13))
    (hL1 : w6.heap.size ≤ L1)
    (hH1 : H1 ≤ w7.heap.size)
    (hXL : XG < L1 ∨ H1 ≤ XG)
    (hX1 : w6.heap.size ≤ XG)
    (h78 : w7.heap.size ≤ w8.heap.size)
    (a_b1 : ∀ (a : Act) (wq : World),
        Code.wp Tryz.prog
            ((Code.region 12
                  #[{ dst := some 11, op := Op.assign (Operand.const (Value.int IntKind.i64 1)), type := 3,
                      pos := "exact.go:2280", after := #[], guard := none }]
                  false).seq
              ((Code.region 13
                    #[{ dst := some 52, op := Op.load 43 (Operand.tmp 8), type := 43, pos := "exact.go:2281", after := #[],
                        guard := none },
                      { dst := some 53, op := Op.move (Operand.tmp 11), type := 3, pos := "exact.go:2281", after := #[],
                        guard := none },
                      { dst := some 54,
                        op :=
                          Op.call
                            { callee := Callee.value (Operand.func 10), args := #[Operand.tmp 52, Operand.tmp 53],
                              argTypes := #[43, 3] },
                        type := 3, pos := "exact.go:2281",
                        after := #[{ on := 0, ground := Ground.data }, { on := 1, ground := Ground.data }], guard := none },
                      { dst := some 11, op := Op.assign (Operand.tmp 54), type := 3, pos := "exact.go:2281",
                        after :=
                          #[{ on := 2, ground := Ground.data }, { on := 2, ground := Ground.chain },
                            { on := 0, ground := Ground.phase }, { on := 1, ground := Ground.phase },
                            { on := 2, ground := Ground.phase }],
                        guard := none }]
                    false).seq
                (((Code.region 14
                          #[{ dst := some 55, op := Op.move (Operand.tmp 11), type := 3, pos := "exact.go:2282",
                              after := #[], guard := none },
                            { dst := some 56,
                              op := Op.binOp BinOp.lss 3 (Operand.tmp 55) (Operand.const (Value.int IntKind.i64 0)) 3,
                              type := 4, pos := "exact.go:2282", after := #[{ on := 0, ground := Ground.data }],
                              guard := none },
                            { dst := some 57, op := Op.move (Operand.tmp 56), type := 4, pos := "exact.go:2282",
                              after := #[{ on := 1, ground := Ground.data }], guard := none },
                            { dst := some 58, op := Op.load 43 (Operand.tmp 9), type := 43, pos := "exact.go:2282",
                              after := #[{ on := 2, ground := Ground.guard }], guard := some (2, false) },
                            { dst := some 59, op := Op.load 43 (Operand.tmp 6), type := 43, pos := "exact.go:2282",
                              after := #[{ on := 2, ground := Ground.guard }], guard := some (2, false) },
                            { dst := some 60,
                              op :=
                                Op.call
                                  { callee := Callee.value (Operand.func 9), args := #[Operand.tmp 58, Operand.tmp 59],
                                    argTypes := #[43, 43] },
                              type := 4, pos := "exact.go:2282",
                              after :=
                                #[{ on := 3, ground := Ground.data }, { on := 4, ground := Ground.data },
                                  { on := 2, ground := Ground.chain }, { on := 2, ground := Ground.guard }],
                              guard := some (2, false) },
                            { dst := some 61, op := Op.unOp UnOp.not 4 (Operand.tmp 60), type := 4, pos := "exact.go:2282",
                              after := #[{ on := 5, ground := Ground.data }, { on := 2, ground := Ground.guard }],
                              guard := some (2, false) },
                            { dst := some 62,
                              op := Op.pick (Operand.tmp 57) (Operand.const (Value.bool true)) (Operand.tmp 61), type := 4,
                              pos := "exact.go:2282",
                              after := #[{ on := 2, ground := Ground.data }, { on := 6, ground := Ground.data }],
                              guard := none },
                            { dst := some 63, op := Op.move (Operand.tmp 62), type := 4, pos := "exact.go:2282",
                              after := #[{ on := 7, ground := Ground.data }, { on := 5, ground := Ground.chain }],
                              guard := none },
                            { dst := some 64, op := Op.move (Operand.tmp 10), type := 3, pos := "exact.go:2282",
                              after := #[{ on := 8, ground := Ground.guard }], guard := some (8, false) },
                            { dst := some 65, op := Op.move (Operand.tmp 7), type := 3, pos := "exact.go:2282",
                              after := #[{ on := 8, ground := Ground.guard }], guard := some (8, false) },
                            { dst := some 66, op := Op.binOp BinOp.neq 3 (Operand.tmp 64) (Operand.tmp 65) 3, type := 4,
                              pos := "exact.go:2282",
                              after :=
                                #[{ on := 9, ground := Ground.data }, { on := 10, ground := Ground.data },
                                  { on := 8, ground := Ground.guard }],
                              guard := some (8, false) },
                            { dst := some 67,
                              op := Op.pick (Operand.tmp 63) (Operand.const (Value.bool true)) (Operand.tmp 66), type := 4,
                              pos := "exact.go:2282",
                              after := #[{ on := 8, ground := Ground.data }, { on := 11, ground := Ground.data }],
                              guard := none }]
                          false).seq
                      (Code.cond (Operand.tmp 67)
                        ((Code.region 15
                              #[{ dst := some 4, op := Op.assign (Operand.const (Value.bool false)), type := 4,
                                  pos := "exact.go:2283", after := #[], guard := none }]
                              false).seq
                          Code.ret)
                        Code.skip)).seq
                  ((Code.region 16
                        #[{ dst := some 12, op := Op.assign (Operand.const (Value.int IntKind.i64 1)), type := 3,
                            pos := "exact.go:2285", after := #[], guard := none }]
                        false).seq
                    ((Code.region 17
                          #[{ dst := some 68, op := Op.load 43 (Operand.tmp 9), type := 43, pos := "exact.go:2286",
                              after := #[], guard := none },
                            { dst := some 69, op := Op.move (Operand.tmp 12), type := 3, pos := "exact.go:2286",
                              after := #[], guard := none },
                            { dst := some 70,
                              op :=
                                Op.call
                                  { callee := Callee.value (Operand.func 10), args := #[Operand.tmp 68, Operand.tmp 69],
                                    argTypes := #[43, 3] },
                              type := 3, pos := "exact.go:2286",
                              after := #[{ on := 0, ground := Ground.data }, { on := 1, ground := Ground.data }],
                              guard := none },
                            { dst := some 12, op := Op.assign (Operand.tmp 70), type := 3, pos := "exact.go:2286",
                              after :=
                                #[{ on := 2, ground := Ground.data }, { on := 2, ground := Ground.chain },
                                  { on := 0, ground := Ground.phase }, { on := 1, ground := Ground.phase },
                                  { on := 2, ground := Ground.phase }],
                              guard := none }]
                          false).seq
                      ((Code.region 18
                            #[{ dst := some 13, op := Op.assign (Operand.const (Value.int IntKind.i64 1)), type := 3,
                                pos := "exact.go:2287", after := #[], guard := none }]
                            false).seq
                        ((Code.region 19
                              #[{ dst := some 71, op := Op.load 43 (Operand.tmp 9), type := 43, pos := "exact.go:2288",
                                  after := #[], guard := none },
                                { dst := some 72, op := Op.move (Operand.tmp 13), type := 3, pos := "exact.go:2288",
                                  after := #[], guard := none },
                                { dst := some 73,
                                  op :=
                                    Op.call
                                      { callee := Callee.value (Operand.func 11), args := #[Operand.tmp 71, Operand.tmp 72],
                                        argTypes := #[43, 3] },
                                  type := 3, pos := "exact.go:2288",
                                  after := #[{ on := 0, ground := Ground.data }, { on := 1, ground := Ground.data }],
                                  guard := none },
                                { dst := some 13, op := Op.assign (Operand.tmp 73), type := 3, pos := "exact.go:2288",
                                  after :=
                                    #[{ on := 2, ground := Ground.data }, { on := 2, ground := Ground.chain },
                                      { on := 0, ground := Ground.phase }, { on := 1, ground := Ground.phase },
                                      { on := 2, ground := Ground.phase }],
                                  guard := none }]
                              false).seq
                          (((Code.region 20
                                    #[{ dst := some 74, op := Op.move (Operand.tmp 13), type := 3, pos := "exact.go:2289",
                                        after := #[], guard := none },
                                      { dst := some 75,
                                        op :=
                                          Op.binOp BinOp.lss 3 (Operand.tmp 74) (Operand.const (Value.int IntKind.i64 0)) 3,
                                        type := 4, pos := "exact.go:2289", after := #[{ on := 0, ground := Ground.data }],
                                        guard := none }]
                                    false).seq
                                (Code.cond (Operand.tmp 75)
                                  ((Code.region 21
                                        #[{ dst := some 4, op := Op.assign (Operand.const (Value.bool false)), type := 4,
                                            pos := "exact.go:2290", after := #[], guard := none }]
                                        false).seq
                                    Code.ret)
                                  Code.skip)).seq
                            (((Code.region 22
                                      #[{ dst := some 76, op := Op.move (Operand.tmp 13), type := 3, pos := "exact.go:2292",
                                          after := #[], guard := none },
                                        { dst := some 77, op := Op.move (Operand.tmp 12), type := 3, pos := "exact.go:2292",
                                          after := #[], guard := none },
                                        { dst := some 78, op := Op.binOp BinOp.neq 3 (Operand.tmp 76) (Operand.tmp 77) 3,
                                          type := 4, pos := "exact.go:2292",
                                          after :=
                                            #[{ on := 0, ground := Ground.data }, { on := 1, ground := Ground.data }],
                                          guard := none }]
                                      false).seq
                                  (Code.cond (Operand.tmp 78)
                                    ((Code.region 23
                                          #[{ dst := some 4, op := Op.assign (Operand.const (Value.bool false)), type := 4,
                                              pos := "exact.go:2293", after := #[], guard := none }]
                                          false).seq
                                      Code.ret)
                                    Code.skip)).seq
                              ((Code.region 24
                                    #[{ dst := some 80, op := Op.load 23 (Operand.tmp 2), type := 23,
                                        pos := "exact.go:2295", after := #[], guard := none },
                                      { dst := some 81,
                                        op :=
                                          Op.call
                                            { callee := Callee.value (Operand.func 6), args := #[Operand.tmp 80],
                                              argTypes := #[23] },
                                        type := 46, pos := "exact.go:2295", after := #[{ on := 0, ground := Ground.data }],
                                        guard := none },
                                      { dst := some 82, op := Op.load 33 (Operand.tmp 3), type := 33,
                                        pos := "exact.go:2295", after := #[], guard := none },
                                      { dst := some 83,
                                        op :=
                                          Op.call
                                            { callee := Callee.value (Operand.func 7), args := #[Operand.tmp 82],
                                              argTypes := #[33] },
                                        type := 43, pos := "exact.go:2295",
                                        after := #[{ on := 2, ground := Ground.data }, { on := 1, ground := Ground.chain }],
                                        guard := none },
                                      { dst := some 84,
                                        op :=
                                          Op.call
                                            { callee := Callee.value (Operand.func 8),
                                              args := #[Operand.tmp 81, Operand.tmp 83], argTypes := #[46, 43] },
                                        type := 44, pos := "exact.go:2295",
                                        after :=
                                          #[{ on := 1, ground := Ground.data }, { on := 3, ground := Ground.data },
                                            { on := 3, ground := Ground.chain }],
                                        guard := none },
                                      { dst := some 79, op := Op.move (Operand.tmp 84), type := 44, pos := "exact.go:2295",
                                        after := #[{ on := 4, ground := Ground.data }], guard := none },
                                      { dst := some 85, op := Op.extract (Operand.tmp 79) 0, type := 43,
                                        pos := "exact.go:2295", after := #[{ on := 5, ground := Ground.data }],
                                        guard := none },
                                      { dst := some 86, op := Op.extract (Operand.tmp 79) 1, type := 3,
                                        pos := "exact.go:2295",
                                        after :=
                                          #[{ on := 5, ground := Ground.data },
                                            { on := 9, ground := Ground.gcOnly Departure.lateStores }],
                                        guard := none },
                                      { dst := some 14, op := Op.alloc 43, type := 0, pos := "exact.go:2295", after := #[],
                                        guard := none },
                                      { dst := none, op := Op.store 43 (Operand.tmp 14) (Operand.tmp 85), type := 0,
                                        pos := "exact.go:2295",
                                        after :=
                                          #[{ on := 8, ground := Ground.data }, { on := 6, ground := Ground.data },
                                            { on := 4, ground := Ground.chain }, { on := 0, ground := Ground.phase },
                                            { on := 1, ground := Ground.phase }, { on := 2, ground := Ground.phase },
                                            { on := 3, ground := Ground.phase }, { on := 4, ground := Ground.phase },
                                            { on := 5, ground := Ground.phase }, { on := 6, ground := Ground.phase },
                                            { on := 7, ground := Ground.textOnly Departure.lateStores },
                                            { on := 8, ground := Ground.phase }],
                                        guard := none },
                                      { dst := some 15, op := Op.assign (Operand.tmp 86), type := 3, pos := "exact.go:2295",
                                        after :=
                                          #[{ on := 7, ground := Ground.data }, { on := 9, ground := Ground.chain },
                                            { on := 0, ground := Ground.phase }, { on := 1, ground := Ground.phase },
                                            { on := 2, ground := Ground.phase }, { on := 3, ground := Ground.phase },
                                            { on := 4, ground := Ground.phase }, { on := 5, ground := Ground.phase },
                                            { on := 6, ground := Ground.phase }, { on := 7, ground := Ground.phase },
                                            { on := 8, ground := Ground.phase }, { on := 9, ground := Ground.phase }],
                                        guard := none }]
                                    true).seq
                                (((Code.region 25
                                          #[{ dst := some 87, op := Op.load 43 (Operand.tmp 14), type := 43,
                                              pos := "exact.go:2296", after := #[], guard := none },
                                            { dst := some 88, op := Op.load 43 (Operand.tmp 6), type := 43,
                                              pos := "exact.go:2296", after := #[], guard := none },
                                            { dst := some 89,
                                              op :=
                                                Op.call
                                                  { callee := Callee.value (Operand.func 9),
                                                    args := #[Operand.tmp 87, Operand.tmp 88], argTypes := #[43, 43] },
                                              type := 4, pos := "exact.go:2296",
                                              after :=
                                                #[{ on := 0, ground := Ground.data }, { on := 1, ground := Ground.data }],
                                              guard := none },
                                            { dst := some 90, op := Op.unOp UnOp.not 4 (Operand.tmp 89), type := 4,
                                              pos := "exact.go:2296", after := #[{ on := 2, ground := Ground.data }],
                                              guard := none },
                                            { dst := some 91, op := Op.move (Operand.tmp 90), type := 4,
                                              pos := "exact.go:2296",
                                              after :=
                                                #[{ on := 3, ground := Ground.data }, { on := 2, ground := Ground.chain }],
                                              guard := none },
                                            { dst := some 92, op := Op.move (Operand.tmp 15), type := 3,
                                              pos := "exact.go:2296", after := #[{ on := 4, ground := Ground.guard }],
                                              guard := some (4, false) },
                                            { dst := some 93, op := Op.move (Operand.tmp 7), type := 3,
                                              pos := "exact.go:2296", after := #[{ on := 4, ground := Ground.guard }],
                                              guard := some (4, false) },
                                            { dst := some 94,
                                              op := Op.binOp BinOp.neq 3 (Operand.tmp 92) (Operand.tmp 93) 3, type := 4,
                                              pos := "exact.go:2296",
                                              after :=
                                                #[{ on := 5, ground := Ground.data }, { on := 6, ground := Ground.data },
                                                  { on := 4, ground := Ground.guard }],
                                              guard := some (4, false) },
                                            { dst := some 95,
                                              op :=
                                                Op.pick (Operand.tmp 91) (Operand.const (Value.bool true)) (Operand.tmp 94),
                                              type := 4, pos := "exact.go:2296",
                                              after :=
                                                #[{ on := 4, ground := Ground.data }, { on := 7, ground := Ground.data }],
                                              guard := none }]
                                          false).seq
                                      (Code.cond (Operand.tmp 95)
                                        ((Code.region 26
                                              #[{ dst := some 4, op := Op.assign (Operand.const (Value.bool false)),
                                                  type := 4, pos := "exact.go:2297", after := #[], guard := none }]
                                              false).seq
                                          Code.ret)
                                        Code.skip)).seq
                                  ((Code.region 27
                                        #[{ dst := some 4, op := Op.assign (Operand.const (Value.bool true)), type := 4,
                                            pos := "exact.go:2299", after := #[], guard := none }]
                                        false).seq
                                    Code.ret))))))))))))
            (bodyPost Tryz.prog Tryz.f3 fun e w' => e = Ending.returned (Value.bool true) ∧ Below w.heap.size w w') a wq →
          K_b1 a wq)
    (a_b : ∀ (a : Act) (wq : World),
        Code.wp Tryz.prog
            (Code.cond (Operand.tmp 51)
              ((Code.region 11
                    #[{ dst := some 4, op := Op.assign (Operand.const (Value.bool false)), type := 4,
                        pos := "exact.go:2278", after := #[], guard := none }]
                    false).seq
                Code.ret)
              Code.skip)
            (Exit.then K_b1 (bodyPost Tryz.prog Tryz.f3 fun e w' => e = Ending.returned (Value.bool true) ∧ Below w.heap.size w w')) a wq →
          K_b a wq)
    (B69 : Hid (Below w6.heap.size w6 w9))
    (B49 : Hid (Below w4.heap.size w4 w9))
    (NA9 : Hid (NVal w9 (fun x => L1 ≤ x ∧ x < H1) z0 z10 M))
    (XB19 : Hid (Blk w9 XG #[z0, m1, m2, m3, m4, m5, m6, m7, m8, m9, z10, m11, m12, m13] 43))
    (h89 : w8.heap.size ≤ w9.heap.size)
    (h69 : w6.heap.size ≤ w9.heap.size)
    (h49 : w4.heap.size ≤ w9.heap.size) :
    K_b
        {
          tmps :=
            #[Value.agg #[q0, q1, q2, q3, q4, q5], Value.agg #[n0, n1, n2, n3, n4, n5, n6, n7, n8, n9, n10, n11, n12, n13],
              Value.pointer (some { block := w.heap.size, off := 0 }),
              Value.pointer (some { block := w.heap.size + 1, off := 0 }), Value.bool false, Value.int IntKind.i64 left,
              Value.pointer (some { block := X0, off := 0 }), Value.int IntKind.i64 code,
              Value.pointer (some { block := X, off := 0 }), Value.pointer (some { block := XG, off := 0 }),
              Value.int IntKind.i64 code, undef, undef, undef, undef, undef, u16, u17, u18, u19, u20, u21, u22, u23, u24,
              u25, u26, u27, u28, u29, u30, u31, u32, u33, u34, u35, u36, u37, u38, u39, u40, u41, u42, u43, u44, u45, u46,
              u47, u48, u49, u50, Value.bool false, u52, u53, u54, u55, u56, u57, u58, u59, u60, u61, u62, u63, u64, u65,
              u66, u67, u68, u69, u70, u71, u72, u73, u74, u75, u76, u77, u78, u79, u80, u81, u82, u83, u84, u85, u86, u87,
              u88, u89, u90, u91, u92, u93, u94, u95],
          defers := [] }
        w9 := by
  obtain ⟨o0, o1, o2, o3, o4, o5, o6, o7, o8, o9, o10, o11, o12, o13⟩ := (X6.out.later B69.out).n14
  have H5 := hid (fun x (hx : w4.heap.size ≤ x ∧ x < w5.heap.size) => show x < w9.heap.size by have := HX.out; omega)
  go_wp2_with fail
  refine (HMK.out _ _ _ _ (O5.out.later (bto B56.out B69.out)) H5.out).mono ?_
  rintro e wm ⟨rfl, htm⟩
  have hXX := HX.out
  have BM := hid (B49.out.trans (htm.below h49 fun i hi e => by omega))
  have NM := hid (NA9.out.turned htm (fun x hx _ e => by omega))
  have XM := hid (htm.blk XB19.out (by omega))
  have h9m := htm.size
  clear htm hXX o0 o1 o2 o3 o4 o5 o6 o7 o8 o9 o10 o11 o12 o13 B69 B49 NA9 XB19 O5 X6 HMK H5 B56 A6 HK6
  obtain ⟨o0, o1, o2, o3, o4, o5, o6, o7, o8, o9, o10, o11, o12, o13⟩ := XM.out.n14
  obtain ⟨e0, e1, e2, e3, e4, e5, e6, e7, e8, e9, e10, e11, e12, e13⟩ := (XB0.out.later BM.out).n14
  go_wp2_with fail
  refine (HEV.out _ _ _ _ _ NM.out.fv (FI0.out.later BM.out)).mono ?_
  rintro e wn ⟨rfl, hbn⟩
  have BN := hid (bto BM.out hbn)
  have NN := hid (NM.out.later hbn)
  have XN := hid (XM.out.later hbn)
  have hmn := hbn.size
  clear hbn o0 o1 o2 o3 o4 o5 o6 o7 o8 o9 o10 o11 o12 o13 e0 e1 e2 e3 e4 e5 e6 e7 e8 e9 e10 e11 e12 e13 BM NM XM
  obtain ⟨o0, o1, o2, o3, o4, o5, o6, o7, o8, o9, o10, o11, o12, o13⟩ := XN.out.n14
  have H6 := hid (fun x (hx : L1 ≤ x ∧ x < H1) => show x < wn.heap.size by omega)
  go_wp2_with fail
  refine (HMV.out _ _ _ _ NN.out H6.out).mono ?_
  rintro e wo ⟨rfl, hto, hfo⟩
  have BO := hid (BN.out.trans (hto.below BN.out.size fun i hi e => by omega))
  have XO := hid (hto.blk XN.out (by omega))
  have FO := hid hfo
  clear hto hfo o0 o1 o2 o3 o4 o5 o6 o7 o8 o9 o10 o11 o12 o13 BN NN XN HMV H6
  obtain ⟨o0, o1, o2, o3, o4, o5, o6, o7, o8, o9, o10, o11, o12, o13⟩ := XO.out.n14
  go_wp2_with fail
  refine (HHV.out _ _ _ FO.out).mono ?_
  rintro e wz ⟨rfl, hbz⟩
  have BZ := hid (bto BO.out hbz)
  have Bzw := hid (bto B4w.out BZ.out)
  have AZ := hid (A4.out.later BZ.out)
  have SZ := hid (S4.out.later BZ.out)
  clear hbz o0 o1 o2 o3 o4 o5 o6 o7 o8 o9 o10 o11 o12 o13 BO XO FO HHV
  have HKZ := hid (fun w' (h : Below wz.heap.size wz w') => show w'.cell? ⟨w.heap.size, 0, none⟩ = some (q0) ∧ w'.cell? ⟨w.heap.size, 1, none⟩ = some (q1) ∧ w'.cell? ⟨w.heap.size, 2, none⟩ = some (q2) ∧ w'.cell? ⟨w.heap.size, 3, none⟩ = some (q3) ∧ w'.cell? ⟨w.heap.size, 4, none⟩ = some (q4) ∧ w'.cell? ⟨w.heap.size, 5, none⟩ = some (q5) ∧ w'.cell? ⟨w.heap.size + 1, 0, none⟩ = some (n0) ∧ w'.cell? ⟨w.heap.size + 1, 1, none⟩ = some (n1) ∧ w'.cell? ⟨w.heap.size + 1, 2, none⟩ = some (n2) ∧ w'.cell? ⟨w.heap.size + 1, 3, none⟩ = some (n3) ∧ w'.cell? ⟨w.heap.size + 1, 4, none⟩ = some (n4) ∧ w'.cell? ⟨w.heap.size + 1, 5, none⟩ = some (n5) ∧ w'.cell? ⟨w.heap.size + 1, 6, none⟩ = some (n6) ∧ w'.cell? ⟨w.heap.size + 1, 7, none⟩ = some (n7) ∧ w'.cell? ⟨w.heap.size + 1, 8, none⟩ = some (n8) ∧ w'.cell? ⟨w.heap.size + 1, 9, none⟩ = some (n9) ∧ w'.cell? ⟨w.heap.size + 1, 10, none⟩ = some (n10) ∧ w'.cell? ⟨w.heap.size + 1, 11, none⟩ = some (n11) ∧ w'.cell? ⟨w.heap.size + 1, 12, none⟩ = some (n12) ∧ w'.cell? ⟨w.heap.size + 1, 13, none⟩ = some (n13) from by
    have q := AZ.out.later h
    obtain ⟨o0, o1, o2, o3, o4, o5, o6, o7, o8, o9, o10, o11, o12, o13⟩ := (SZ.out.later h).n14
    exact ⟨q.cell 0, q.cell 1, q.cell 2, q.cell 3, q.cell 4, q.cell 5, o0, o1, o2, o3, o4, o5, o6, o7, o8, o9, o10, o11, o12, o13⟩)
  obtain ⟨x0, x1, x2, x3, x4, x5, o0, o1, o2, o3, o4, o5, o6, o7, o8, o9, o10, o11, o12, o13⟩ := HKZ.out wz (Below.refl _ _)
  clear hNK0 hX04 h1w h14 h45 h56 hL1 hH1 hXL hX1 h78 h89 h69 h49 h9m hmn hX0 HX B45 B46 B6w A4 S4
  go_upto_region 24 with fail
  go_cut [14, 15] (fun p ok wx => ∃ X, p = .pointer (some ⟨X, 0, none⟩) ∧ ok = .int .i64 code ∧ ∃ j0 j10 L H, Blk wx X #[j0, m1, m2, m3, m4, m5, m6, m7, m8, m9, j10, m11, m12, m13] 43 ∧ NVal wx (fun x => L ≤ x ∧ x < H) j0 j10 M ∧ wz.heap.size ≤ L ∧ H ≤ wx.heap.size ∧ (X < L ∨ H ≤ X) ∧ wz.heap.size ≤ X ∧ Below wz.heap.size wz wx)
  case first =>
    go_region_held3 (fun w' => w'.cell? ⟨w.heap.size, 0, none⟩ = some (q0) ∧ w'.cell? ⟨w.heap.size, 1, none⟩ = some (q1) ∧ w'.cell? ⟨w.heap.size, 2, none⟩ = some (q2) ∧ w'.cell? ⟨w.heap.size, 3, none⟩ = some (q3) ∧ w'.cell? ⟨w.heap.size, 4, none⟩ = some (q4) ∧ w'.cell? ⟨w.heap.size, 5, none⟩ = some (q5) ∧ w'.cell? ⟨w.heap.size + 1, 0, none⟩ = some (n0) ∧ w'.cell? ⟨w.heap.size + 1, 1, none⟩ = some (n1) ∧ w'.cell? ⟨w.heap.size + 1, 2, none⟩ = some (n2) ∧ w'.cell? ⟨w.heap.size + 1, 3, none⟩ = some (n3) ∧ w'.cell? ⟨w.heap.size + 1, 4, none⟩ = some (n4) ∧ w'.cell? ⟨w.heap.size + 1, 5, none⟩ = some (n5) ∧ w'.cell? ⟨w.heap.size + 1, 6, none⟩ = some (n6) ∧ w'.cell? ⟨w.heap.size + 1, 7, none⟩ = some (n7) ∧ w'.cell? ⟨w.heap.size + 1, 8, none⟩ = some (n8) ∧ w'.cell? ⟨w.heap.size + 1, 9, none⟩ = some (n9) ∧ w'.cell? ⟨w.heap.size + 1, 10, none⟩ = some (n10) ∧ w'.cell? ⟨w.heap.size + 1, 11, none⟩ = some (n11) ∧ w'.cell? ⟨w.heap.size + 1, 12, none⟩ = some (n12) ∧ w'.cell? ⟨w.heap.size + 1, 13, none⟩ = some (n13))
      (first | (go_keep; done) | with_reducible exact HKZ.out _ kf | with_reducible exact HKZ.out _ ks | with_reducible exact HKZ.out _ kcc | with_reducible exact HKZ.out _ (set14 kf hxf) | with_reducible exact HKZ.out _ (set14 kf kz) | with_reducible exact HKZ.out _ (bto kcc (bnew _ _)) | with_reducible exact HKZ.out _ (bto ks (bnew _ _)) | with_reducible exact HKZ.out _ (bto kf (bnew _ _)) | with_reducible exact HKZ.out _ ((bnew _ _).drew))
      (first
        | ((fail_if_success (have q := kcc)); refine step_enterC (f := 6) (args := #[.agg #[q0, q1, q2, q3, q4, q5]]) (by rfl) (by go_simp) ?_; refine (HTC.out _).mono ?_; rintro e wc ⟨rfl, hbc⟩; refine ⟨_, rfl, ?_⟩; have kcc : Below wz.heap.size wz wc := (by with_reducible exact bto (Below.refl _ _).drew hbc); have cc1 := HKZ.out _ kcc)
        | ((fail_if_success (have q := kcc)); refine step_enterC (f := 6) (args := #[.agg #[q0, q1, q2, q3, q4, q5]]) (by rfl) (by go_simp) ?_; refine (HTC.out _).mono ?_; rintro e wc ⟨rfl, hbc⟩; refine ⟨_, rfl, ?_⟩; have kcc : Below wz.heap.size wz wc := (by with_reducible exact bto ((bnew _ _).drew) hbc); have cc1 := HKZ.out _ kcc; have hzc : Blk wc wz.heap.size #[.slice none 0 0, .int .i64 0, .int .i64 0, .int .i64 0, .int .i64 0, .bool false, .int .i64 0, .int .i64 0, .int .i64 0, .int .i64 0, .slice none 0 0, .int .i64 0, .bool false, .bool false] 43 := blk_drewB hbc; have hxc : wz.heap.size ≤ wz.heap.size := Nat.le_refl _)
        | (have q := kcc; clear q; (fail_if_success (have q := ks)); refine step_enterC (f := 7) (args := #[.agg #[n0, n1, n2, n3, n4, n5, n6, n7, n8, n9, n10, n11, n12, n13]]) (by rfl) (by go_simp) ?_; refine (HTN.out _ (by with_reducible exact bto Bzw.out kcc)).mono ?_; rintro e ws ⟨g, h, rfl, ho, hbs⟩; refine ⟨_, rfl, ?_⟩; have ks : Below wz.heap.size wz ws := (by with_reducible exact bto kcc hbs); have cs1 := HKZ.out _ ks; have os1 := ho.fv; try (have hzs := hzc.later hbs; have hxs := hxc))
        | (have q := kcc; clear q; (fail_if_success (have q := ks)); refine step_enterC (f := 7) (args := #[.agg #[n0, n1, n2, n3, n4, n5, n6, n7, n8, n9, n10, n11, n12, n13]]) (by rfl) (by go_simp) ?_; refine (HTN.out _ (by with_reducible exact bto (bto Bzw.out kcc) (bnew _ _))).mono ?_; rintro e ws ⟨g, h, rfl, ho, hbs⟩; refine ⟨_, rfl, ?_⟩; have ks : Below wz.heap.size wz ws := (by with_reducible exact bto (bto kcc (bnew _ _)) hbs); have cs1 := HKZ.out _ ks; have os1 := ho.fv; have hzs := blk_allocB hbs; have hxs := kcc.size)
        | (have q := ks; clear q; have q := hzs; clear q; refine step_enterC (f := 8) (args := #[.agg #[q0, q1, q2, q3, q4, q5], .agg #[g, n1, n2, n3, n4, n5, n6, n7, n8, n9, h, n11, n12, n13]]) (by rfl) (by go_simp) ?_; refine (HIM.out _ g h (by with_reducible exact os1) (HPW.out.later (by with_reducible exact bto Bzw.out ks))).mono ?_; rintro e wf ⟨j0, j10, rfl, hoA, hbf⟩; refine ⟨_, rfl, ?_⟩; have kf : Below wz.heap.size wz wf := (by with_reducible exact bto ks hbf); have cf1 := HKZ.out _ kf; have sj0 := hoA.fv.s0; have sj10 := hoA.fv.s10; have hzf := hzs.later hbf; have hxf := hxs; have hxl := lt_of_block hzs; have kz := ks.size; obtain ⟨s0, s1, s2, s3, s4, s5, s6, s7, s8, s9, s10, s11, s12, s13⟩ := hzf.n14; obtain ⟨f0, f1, f2, f3, f4, f5, f6, f7, f8, f9, f10, f11, f12, f13⟩ := hzf.frees)
        | (have q := ks; clear q; (fail_if_success (have q := hzs)); refine step_enterC (f := 8) (args := #[.agg #[q0, q1, q2, q3, q4, q5], .agg #[g, n1, n2, n3, n4, n5, n6, n7, n8, n9, h, n11, n12, n13]]) (by rfl) (by go_simp) ?_; refine (HIM.out _ g h (by with_reducible exact os1) (HPW.out.later (by with_reducible exact bto Bzw.out ks))).mono ?_; rintro e wf ⟨j0, j10, rfl, hoA, hbf⟩; refine ⟨_, rfl, ?_⟩; have kf : Below wz.heap.size wz wf := (by with_reducible exact bto ks hbf); have cf1 := HKZ.out _ kf; have sj0 := hoA.fv.s0; have sj10 := hoA.fv.s10; have kz := ks.size)
        | (have q := ks; clear q; refine step_enterC (f := 8) (args := #[.agg #[q0, q1, q2, q3, q4, q5], .agg #[g, n1, n2, n3, n4, n5, n6, n7, n8, n9, h, n11, n12, n13]]) (by rfl) (by go_simp) ?_; refine (HIM.out _ g h (by with_reducible exact os1.later (bnew _ _)) (HPW.out.later (by with_reducible exact bto (bto Bzw.out ks) (bnew _ _)))).mono ?_; rintro e wf ⟨j0, j10, rfl, hoA, hbf⟩; refine ⟨_, rfl, ?_⟩; have kf : Below wz.heap.size wz wf := (by with_reducible exact bto (bto ks (bnew _ _)) hbf); have cf1 := HKZ.out _ kf; have sj0 := hoA.fv.s0; have sj10 := hoA.fv.s10; have hzn := blk_allocB hbf; have kz := ks.size; obtain ⟨s0, s1, s2, s3, s4, s5, s6, s7, s8, s9, s10, s11, s12, s13⟩ := hzn.n14; obtain ⟨f0, f1, f2, f3, f4, f5, f6, f7, f8, f9, f10, f11, f12, f13⟩ := hzn.frees))
    all_goals (go_wp2_with fail; go_meet)
    all_goals first
        | with_reducible exact ⟨_, rfl, rfl, nX_new hoA kz kf⟩
        | exact ⟨_, rfl, rfl, nX_old hoA hxl kz hxf hzf kf⟩
        | exact ⟨_, rfl, rfl, nX_old hoA (by simp) (by simp; omega) kz hzn kf⟩
        | exact ⟨_, rfl, rfl, nX_new hoA (by simp; omega) kf⟩
  obtain ⟨XH, rfl, rfl, v0, v10, L2, H2, hbx2, hna2, _, _, _, _, hb2⟩ := hcut
  rename World => wy
  have BY := hid (bto BZ.out hb2)
  have Byw := hid (bto Bzw.out hb2)
  have NY := hid hna2
  clear x0 x1 x2 x3 x4 x5 o0 o1 o2 o3 o4 o5 o6 o7 o8 o9 o10 o11 o12 o13 hb2
  obtain ⟨o0, o1, o2, o3, o4, o5, o6, o7, o8, o9, o10, o11, o12, o13⟩ := hbx2.n14
  obtain ⟨e0, e1, e2, e3, e4, e5, e6, e7, e8, e9, e10, e11, e12, e13⟩ := (XB0.out.later BY.out).n14
  go_wp2_with fail
  refine (HEV.out _ _ _ _ _ NY.out.fv (FI0.out.later BY.out)).mono ?_
  rintro e wt ⟨rfl, hbt⟩
  have BT := hid (bto Byw.out hbt)
  clear hbt o0 o1 o2 o3 o4 o5 o6 o7 o8 o9 o10 o11 o12 o13 e0 e1 e2 e3 e4 e5 e6 e7 e8 e9 e10 e11 e12 e13
  go_wp2
  go_ret
  exact ⟨rfl, BT.out⟩
set_option linter.unusedVariables false in
set_option maxRecDepth 100000 in
set_option maxHeartbeats 16000000 in
theorem lawNcR1 {N M : NodeD} {w w1 w4 w5 w6 w7 : World} {code left : Int} {NK MK X0 X XG L1 H1 : Nat} {n0 n1 n2 n3 n4 n5 n6 n7 n8 n9 n10 n11 n12 n13 m1 m2 m3 m4 m5 m6 m7 m8 m9 m11 m12 m13 q0 q1 q2 q3 q4 q5 y0 y10 k0 k10 u16 u17 u18 u19 u20 u21 u22 u23 u24 u25 u26 u27 u28 u29 u30 u31 u32 u33 u34 u35 u36 u37 u38 u39 u40 u41 u42 u43 u44 u45 u46 u47 u48 u49 u50 u51 u52 u53 u54 u55 u56 u57 u58 u59 u60 u61 u62 u63 u64 u65 u66 u67 u68 u69 u70 u71 u72 u73 u74 u75 u76 u77 u78 u79 u80 u81 u82 u83 u84 u85 u86 u87 u88 u89 u90 u91 u92 u93 u94 u95 z0 z10 : Value} {K_b : Act → World → Prop}
    (HPW : Hid (PowTab w))
    (sn1 : ∀ (W : World) (p : Addr), Sem.run Tryz.prog (store p n1) W = stored Tryz.prog W p n1 Mode.plain)
    (sn2 : ∀ (W : World) (p : Addr), Sem.run Tryz.prog (store p n2) W = stored Tryz.prog W p n2 Mode.plain)
    (sn3 : ∀ (W : World) (p : Addr), Sem.run Tryz.prog (store p n3) W = stored Tryz.prog W p n3 Mode.plain)
    (sn4 : ∀ (W : World) (p : Addr), Sem.run Tryz.prog (store p n4) W = stored Tryz.prog W p n4 Mode.plain)
    (sn5 : ∀ (W : World) (p : Addr), Sem.run Tryz.prog (store p n5) W = stored Tryz.prog W p n5 Mode.plain)
    (sn6 : ∀ (W : World) (p : Addr), Sem.run Tryz.prog (store p n6) W = stored Tryz.prog W p n6 Mode.plain)
    (sn7 : ∀ (W : World) (p : Addr), Sem.run Tryz.prog (store p n7) W = stored Tryz.prog W p n7 Mode.plain)
    (sn8 : ∀ (W : World) (p : Addr), Sem.run Tryz.prog (store p n8) W = stored Tryz.prog W p n8 Mode.plain)
    (sn9 : ∀ (W : World) (p : Addr), Sem.run Tryz.prog (store p n9) W = stored Tryz.prog W p n9 Mode.plain)
    (sn11 : ∀ (W : World) (p : Addr), Sem.run Tryz.prog (store p n11) W = stored Tryz.prog W p n11 Mode.plain)
    (sn12 : ∀ (W : World) (p : Addr), Sem.run Tryz.prog (store p n12) W = stored Tryz.prog W p n12 Mode.plain)
    (sn13 : ∀ (W : World) (p : Addr), Sem.run Tryz.prog (store p n13) W = stored Tryz.prog W p n13 Mode.plain)
    (HEQ : Hid
        (∀ (W : World) (k0 k10 k0' k10' : Value),
          FVal W k0 k10 N →
            FVal W k0' k10' N →
              Calls Tryz.prog 9
                #[Value.agg #[k0, n1, n2, n3, n4, n5, n6, n7, n8, n9, k10, n11, n12, n13],
                  Value.agg #[k0', n1, n2, n3, n4, n5, n6, n7, n8, n9, k10', n11, n12, n13]]
                W fun e w' => e = Ending.returned (Value.bool true) ∧ Below W.heap.size W w'))
    (HMK : Hid
        (∀ (W : World) (A : Nat → Prop) (k0 k10 : Value),
          NVal W A k0 k10 N →
            (∀ (x : Nat), A x → x < W.heap.size) →
              Calls Tryz.prog 10
                #[Value.agg #[k0, n1, n2, n3, n4, n5, n6, n7, n8, n9, k10, n11, n12, n13], Value.int IntKind.i64 1] W
                fun e w' => e = Ending.returned (Value.int IntKind.i64 (NK : Int)) ∧ Turn A W w'))
    (HTN : Hid
        (∀ (W : World),
          Below w.heap.size w W →
            Calls Tryz.prog 7 #[Value.agg #[n0, n1, n2, n3, n4, n5, n6, n7, n8, n9, n10, n11, n12, n13]] W fun e w' =>
              ∃ k0 k10,
                e = Ending.returned (Value.agg #[k0, n1, n2, n3, n4, n5, n6, n7, n8, n9, k10, n11, n12, n13]) ∧
                  NVal w' (fun x => W.heap.size ≤ x ∧ x < w'.heap.size) k0 k10 N ∧ Below W.heap.size W w'))
    (sm1 : ∀ (W : World) (p : Addr), Sem.run Tryz.prog (store p m1) W = stored Tryz.prog W p m1 Mode.plain)
    (sm2 : ∀ (W : World) (p : Addr), Sem.run Tryz.prog (store p m2) W = stored Tryz.prog W p m2 Mode.plain)
    (sm3 : ∀ (W : World) (p : Addr), Sem.run Tryz.prog (store p m3) W = stored Tryz.prog W p m3 Mode.plain)
    (sm4 : ∀ (W : World) (p : Addr), Sem.run Tryz.prog (store p m4) W = stored Tryz.prog W p m4 Mode.plain)
    (sm5 : ∀ (W : World) (p : Addr), Sem.run Tryz.prog (store p m5) W = stored Tryz.prog W p m5 Mode.plain)
    (sm6 : ∀ (W : World) (p : Addr), Sem.run Tryz.prog (store p m6) W = stored Tryz.prog W p m6 Mode.plain)
    (sm7 : ∀ (W : World) (p : Addr), Sem.run Tryz.prog (store p m7) W = stored Tryz.prog W p m7 Mode.plain)
    (sm8 : ∀ (W : World) (p : Addr), Sem.run Tryz.prog (store p m8) W = stored Tryz.prog W p m8 Mode.plain)
    (sm9 : ∀ (W : World) (p : Addr), Sem.run Tryz.prog (store p m9) W = stored Tryz.prog W p m9 Mode.plain)
    (sm11 : ∀ (W : World) (p : Addr), Sem.run Tryz.prog (store p m11) W = stored Tryz.prog W p m11 Mode.plain)
    (sm12 : ∀ (W : World) (p : Addr), Sem.run Tryz.prog (store p m12) W = stored Tryz.prog W p m12 Mode.plain)
    (sm13 : ∀ (W : World) (p : Addr), Sem.run Tryz.prog (store p m13) W = stored Tryz.prog W p m13 Mode.plain)
    (HEV : Hid
        (∀ (W : World) (k0 k10 k0' k10' : Value),
          FVal W k0 k10 M →
            FVal W k0' k10' M →
              Calls Tryz.prog 9
                #[Value.agg #[k0, m1, m2, m3, m4, m5, m6, m7, m8, m9, k10, m11, m12, m13],
                  Value.agg #[k0', m1, m2, m3, m4, m5, m6, m7, m8, m9, k10', m11, m12, m13]]
                W fun e w' => e = Ending.returned (Value.bool true) ∧ Below W.heap.size W w'))
    (HMV : Hid
        (∀ (W : World) (A : Nat → Prop) (k0 k10 : Value),
          NVal W A k0 k10 M →
            (∀ (x : Nat), A x → x < W.heap.size) →
              Calls Tryz.prog 10
                #[Value.agg #[k0, m1, m2, m3, m4, m5, m6, m7, m8, m9, k10, m11, m12, m13], Value.int IntKind.i64 1] W
                fun e w' => e = Ending.returned (Value.int IntKind.i64 (MK : Int)) ∧ Turn A W w' ∧ HVal w' k0 k10 M))
    (HHV : Hid
        (∀ (W : World) (k0 k10 : Value),
          HVal W k0 k10 M →
            Calls Tryz.prog 11
              #[Value.agg #[k0, m1, m2, m3, m4, m5, m6, m7, m8, m9, k10, m11, m12, m13], Value.int IntKind.i64 1] W
              fun e w' => e = Ending.returned (Value.int IntKind.i64 (MK : Int)) ∧ Below W.heap.size W w'))
    (HTC : Hid
        (∀ (W : World),
          Calls Tryz.prog 6 #[Value.agg #[q0, q1, q2, q3, q4, q5]] W fun e w' =>
            e = Ending.returned (Value.agg #[q0, q1, q2, q3, q4, q5]) ∧ Below W.heap.size W w'))
    (HIM : Hid
        (∀ (W : World) (k0 k10 : Value),
          FVal W k0 k10 N →
            PowTab W →
              Calls Tryz.prog 8
                #[Value.agg #[q0, q1, q2, q3, q4, q5],
                  Value.agg #[k0, n1, n2, n3, n4, n5, n6, n7, n8, n9, k10, n11, n12, n13]]
                W fun e w' =>
                ∃ j0 j10,
                  e =
                      Ending.returned
                        (Value.tuple
                          #[Value.agg #[j0, m1, m2, m3, m4, m5, m6, m7, m8, m9, j10, m11, m12, m13],
                            Value.int IntKind.i64 code]) ∧
                    NVal w' (fun x => W.heap.size ≤ x ∧ x < w'.heap.size) j0 j10 M ∧ Below W.heap.size W w'))
    (hNK0 : 0 ≤ (NK : Int))
    (hMK0 : 0 ≤ (MK : Int))
    (h0 : 0 ≤ left)
    (hX0 : w1.heap.size ≤ X0)
    (XB0 : Hid (Blk w4 X0 #[y0, m1, m2, m3, m4, m5, m6, m7, m8, m9, y10, m11, m12, m13] 43))
    (FI0 : Hid (FVal w4 y0 y10 M))
    (B4w : Hid (Below w.heap.size w w4))
    (A4 : Hid (Blk w4 w.heap.size #[q0, q1, q2, q3, q4, q5] 23))
    (S4 : Hid (Blk w4 (w.heap.size + 1) #[n0, n1, n2, n3, n4, n5, n6, n7, n8, n9, n10, n11, n12, n13] 33))
    (hX04 : X0 < w4.heap.size)
    (h1w : w.heap.size + 1 < w1.heap.size)
    (h14 : w1.heap.size ≤ w4.heap.size)
    (O5 : Hid (NVal w5 (fun x => w4.heap.size ≤ x ∧ x < w5.heap.size) k0 k10 N))
    (sk0 : ∀ (W : World) (p : Addr), Sem.run Tryz.prog (store p k0) W = stored Tryz.prog W p k0 Mode.plain)
    (sk10 : ∀ (W : World) (p : Addr), Sem.run Tryz.prog (store p k10) W = stored Tryz.prog W p k10 Mode.plain)
    (B45 : Hid (Below w4.heap.size w4 w5))
    (a_b : ∀ (a : Act) (wq : World),
        Code.wp Tryz.prog
            (((Code.region 8
                      #[{ dst := some 38, op := Op.load 43 (Operand.tmp 9), type := 43, pos := "exact.go:2274",
                          after := #[], guard := none },
                        { dst := some 39, op := Op.load 43 (Operand.tmp 6), type := 43, pos := "exact.go:2274",
                          after := #[], guard := none },
                        { dst := some 40,
                          op :=
                            Op.call
                              { callee := Callee.value (Operand.func 9), args := #[Operand.tmp 38, Operand.tmp 39],
                                argTypes := #[43, 43] },
                          type := 4, pos := "exact.go:2274",
                          after := #[{ on := 0, ground := Ground.data }, { on := 1, ground := Ground.data }],
                          guard := none },
                        { dst := some 41, op := Op.unOp UnOp.not 4 (Operand.tmp 40), type := 4, pos := "exact.go:2274",
                          after := #[{ on := 2, ground := Ground.data }], guard := none },
                        { dst := some 42, op := Op.move (Operand.tmp 41), type := 4, pos := "exact.go:2274",
                          after := #[{ on := 3, ground := Ground.data }, { on := 2, ground := Ground.chain }],
                          guard := none },
                        { dst := some 43, op := Op.move (Operand.tmp 10), type := 3, pos := "exact.go:2274",
                          after := #[{ on := 4, ground := Ground.guard }], guard := some (4, false) },
                        { dst := some 44, op := Op.move (Operand.tmp 7), type := 3, pos := "exact.go:2274",
                          after := #[{ on := 4, ground := Ground.guard }], guard := some (4, false) },
                        { dst := some 45, op := Op.binOp BinOp.neq 3 (Operand.tmp 43) (Operand.tmp 44) 3, type := 4,
                          pos := "exact.go:2274",
                          after :=
                            #[{ on := 5, ground := Ground.data }, { on := 6, ground := Ground.data },
                              { on := 4, ground := Ground.guard }],
                          guard := some (4, false) },
                        { dst := some 46, op := Op.pick (Operand.tmp 42) (Operand.const (Value.bool true)) (Operand.tmp 45),
                          type := 4, pos := "exact.go:2274",
                          after := #[{ on := 4, ground := Ground.data }, { on := 7, ground := Ground.data }],
                          guard := none }]
                      false).seq
                  (Code.cond (Operand.tmp 46)
                    ((Code.region 9
                          #[{ dst := some 4, op := Op.assign (Operand.const (Value.bool false)), type := 4,
                              pos := "exact.go:2275", after := #[], guard := none }]
                          false).seq
                      Code.ret)
                    Code.skip)).seq
              (((Code.region 10
                        #[{ dst := some 47, op := Op.load 43 (Operand.tmp 8), type := 43, pos := "exact.go:2277",
                            after := #[], guard := none },
                          { dst := some 48, op := Op.load 33 (Operand.tmp 3), type := 33, pos := "exact.go:2277",
                            after := #[], guard := none },
                          { dst := some 49,
                            op :=
                              Op.call
                                { callee := Callee.value (Operand.func 7), args := #[Operand.tmp 48], argTypes := #[33] },
                            type := 43, pos := "exact.go:2277", after := #[{ on := 1, ground := Ground.data }],
                            guard := none },
                          { dst := some 50,
                            op :=
                              Op.call
                                { callee := Callee.value (Operand.func 9), args := #[Operand.tmp 47, Operand.tmp 49],
                                  argTypes := #[43, 43] },
                            type := 4, pos := "exact.go:2277",
                            after :=
                              #[{ on := 0, ground := Ground.data }, { on := 2, ground := Ground.data },
                                { on := 2, ground := Ground.chain }],
                            guard := none },
                          { dst := some 51, op := Op.unOp UnOp.not 4 (Operand.tmp 50), type := 4, pos := "exact.go:2277",
                            after := #[{ on := 3, ground := Ground.data }], guard := none }]
                        true).seq
                    (Code.cond (Operand.tmp 51)
                      ((Code.region 11
                            #[{ dst := some 4, op := Op.assign (Operand.const (Value.bool false)), type := 4,
                                pos := "exact.go:2278", after := #[], guard := none }]
                            false).seq
                        Code.ret)
                      Code.skip)).seq
                ((Code.region 12
                      #[{ dst := some 11, op := Op.assign (Operand.const (Value.int IntKind.i64 1)), type := 3,
                          pos := "exact.go:2280", after := #[], guard := none }]
                      false).seq
                  ((Code.region 13
                        #[{ dst := some 52, op := Op.load 43 (Operand.tmp 8), type := 43, pos := "exact.go:2281",
                            after := #[], guard := none },
                          { dst := some 53, op := Op.move (Operand.tmp 11), type := 3, pos := "exact.go:2281", after := #[],
                            guard := none },
                          { dst := some 54,
                            op :=
                              Op.call
                                { callee := Callee.value (Operand.func 10), args := #[Operand.tmp 52, Operand.tmp 53],
                                  argTypes := #[43, 3] },
                            type := 3, pos := "exact.go:2281",
                            after := #[{ on := 0, ground := Ground.data }, { on := 1, ground := Ground.data }],
                            guard := none },
                          { dst := some 11, op := Op.assign (Operand.tmp 54), type := 3, pos := "exact.go:2281",
                            after :=
                              #[{ on := 2, ground := Ground.data }, { on := 2, ground := Ground.chain },
                                { on := 0, ground := Ground.phase }, { on := 1, ground := Ground.phase },
                                { on := 2, ground := Ground.phase }],
                            guard := none }]
                        false).seq
                    (((Code.region 14
                              #[{ dst := some 55, op := Op.move (Operand.tmp 11), type := 3, pos := "exact.go:2282",
                                  after := #[], guard := none },
                                { dst := some 56,
                                  op := Op.binOp BinOp.lss 3 (Operand.tmp 55) (Operand.const (Value.int IntKind.i64 0)) 3,
                                  type := 4, pos := "exact.go:2282", after := #[{ on := 0, ground := Ground.data }],
                                  guard := none },
                                { dst := some 57, op := Op.move (Operand.tmp 56), type := 4, pos := "exact.go:2282",
                                  after := #[{ on := 1, ground := Ground.data }], guard := none },
                                { dst := some 58, op := Op.load 43 (Operand.tmp 9), type := 43, pos := "exact.go:2282",
                                  after := #[{ on := 2, ground := Ground.guard }], guard := some (2, false) },
                                { dst := some 59, op := Op.load 43 (Operand.tmp 6), type := 43, pos := "exact.go:2282",
                                  after := #[{ on := 2, ground := Ground.guard }], guard := some (2, false) },
                                { dst := some 60,
                                  op :=
                                    Op.call
                                      { callee := Callee.value (Operand.func 9), args := #[Operand.tmp 58, Operand.tmp 59],
                                        argTypes := #[43, 43] },
                                  type := 4, pos := "exact.go:2282",
                                  after :=
                                    #[{ on := 3, ground := Ground.data }, { on := 4, ground := Ground.data },
                                      { on := 2, ground := Ground.chain }, { on := 2, ground := Ground.guard }],
                                  guard := some (2, false) },
                                { dst := some 61, op := Op.unOp UnOp.not 4 (Operand.tmp 60), type := 4,
                                  pos := "exact.go:2282",
                                  after := #[{ on := 5, ground := Ground.data }, { on := 2, ground := Ground.guard }],
                                  guard := some (2, false) },
                                { dst := some 62,
                                  op := Op.pick (Operand.tmp 57) (Operand.const (Value.bool true)) (Operand.tmp 61),
                                  type := 4, pos := "exact.go:2282",
                                  after := #[{ on := 2, ground := Ground.data }, { on := 6, ground := Ground.data }],
                                  guard := none },
                                { dst := some 63, op := Op.move (Operand.tmp 62), type := 4, pos := "exact.go:2282",
                                  after := #[{ on := 7, ground := Ground.data }, { on := 5, ground := Ground.chain }],
                                  guard := none },
                                { dst := some 64, op := Op.move (Operand.tmp 10), type := 3, pos := "exact.go:2282",
                                  after := #[{ on := 8, ground := Ground.guard }], guard := some (8, false) },
                                { dst := some 65, op := Op.move (Operand.tmp 7), type := 3, pos := "exact.go:2282",
                                  after := #[{ on := 8, ground := Ground.guard }], guard := some (8, false) },
                                { dst := some 66, op := Op.binOp BinOp.neq 3 (Operand.tmp 64) (Operand.tmp 65) 3, type := 4,
                                  pos := "exact.go:2282",
                                  after :=
                                    #[{ on := 9, ground := Ground.data }, { on := 10, ground := Ground.data },
                                      { on := 8, ground := Ground.guard }],
                                  guard := some (8, false) },
                                { dst := some 67,
                                  op := Op.pick (Operand.tmp 63) (Operand.const (Value.bool true)) (Operand.tmp 66),
                                  type := 4, pos := "exact.go:2282",
                                  after := #[{ on := 8, ground := Ground.data }, { on := 11, ground := Ground.data }],
                                  guard := none }]
                              false).seq
                          (Code.cond (Operand.tmp 67)
                            ((Code.region 15
                                  #[{ dst := some 4, op := Op.assign (Operand.const (Value.bool false)), type := 4,
                                      pos := "exact.go:2283", after := #[], guard := none }]
                                  false).seq
                              Code.ret)
                            Code.skip)).seq
                      ((Code.region 16
                            #[{ dst := some 12, op := Op.assign (Operand.const (Value.int IntKind.i64 1)), type := 3,
                                pos := "exact.go:2285", after := #[], guard := none }]
                            false).seq
                        ((Code.region 17
                              #[{ dst := some 68, op := Op.load 43 (Operand.tmp 9), type := 43, pos := "exact.go:2286",
                                  after := #[], guard := none },
                                { dst := some 69, op := Op.move (Operand.tmp 12), type := 3, pos := "exact.go:2286",
                                  after := #[], guard := none },
                                { dst := some 70,
                                  op :=
                                    Op.call
                                      { callee := Callee.value (Operand.func 10), args := #[Operand.tmp 68, Operand.tmp 69],
                                        argTypes := #[43, 3] },
                                  type := 3, pos := "exact.go:2286",
                                  after := #[{ on := 0, ground := Ground.data }, { on := 1, ground := Ground.data }],
                                  guard := none },
                                { dst := some 12, op := Op.assign (Operand.tmp 70), type := 3, pos := "exact.go:2286",
                                  after :=
                                    #[{ on := 2, ground := Ground.data }, { on := 2, ground := Ground.chain },
                                      { on := 0, ground := Ground.phase }, { on := 1, ground := Ground.phase },
                                      { on := 2, ground := Ground.phase }],
                                  guard := none }]
                              false).seq
                          ((Code.region 18
                                #[{ dst := some 13, op := Op.assign (Operand.const (Value.int IntKind.i64 1)), type := 3,
                                    pos := "exact.go:2287", after := #[], guard := none }]
                                false).seq
                            ((Code.region 19
                                  #[{ dst := some 71, op := Op.load 43 (Operand.tmp 9), type := 43, pos := "exact.go:2288",
                                      after := #[], guard := none },
                                    { dst := some 72, op := Op.move (Operand.tmp 13), type := 3, pos := "exact.go:2288",
                                      after := #[], guard := none },
                                    { dst := some 73,
                                      op :=
                                        Op.call
                                          { callee := Callee.value (Operand.func 11),
                                            args := #[Operand.tmp 71, Operand.tmp 72], argTypes := #[43, 3] },
                                      type := 3, pos := "exact.go:2288",
                                      after := #[{ on := 0, ground := Ground.data }, { on := 1, ground := Ground.data }],
                                      guard := none },
                                    { dst := some 13, op := Op.assign (Operand.tmp 73), type := 3, pos := "exact.go:2288",
                                      after :=
                                        #[{ on := 2, ground := Ground.data }, { on := 2, ground := Ground.chain },
                                          { on := 0, ground := Ground.phase }, { on := 1, ground := Ground.phase },
                                          { on := 2, ground := Ground.phase }],
                                      guard := none }]
                                  false).seq
                              (((Code.region 20
                                        #[{ dst := some 74, op := Op.move (Operand.tmp 13), type := 3,
                                            pos := "exact.go:2289", after := #[], guard := none },
                                          { dst := some 75,
                                            op :=
                                              Op.binOp BinOp.lss 3 (Operand.tmp 74)
                                                (Operand.const (Value.int IntKind.i64 0)) 3,
                                            type := 4, pos := "exact.go:2289",
                                            after := #[{ on := 0, ground := Ground.data }], guard := none }]
                                        false).seq
                                    (Code.cond (Operand.tmp 75)
                                      ((Code.region 21
                                            #[{ dst := some 4, op := Op.assign (Operand.const (Value.bool false)),
                                                type := 4, pos := "exact.go:2290", after := #[], guard := none }]
                                            false).seq
                                        Code.ret)
                                      Code.skip)).seq
                                (((Code.region 22
                                          #[{ dst := some 76, op := Op.move (Operand.tmp 13), type := 3,
                                              pos := "exact.go:2292", after := #[], guard := none },
                                            { dst := some 77, op := Op.move (Operand.tmp 12), type := 3,
                                              pos := "exact.go:2292", after := #[], guard := none },
                                            { dst := some 78,
                                              op := Op.binOp BinOp.neq 3 (Operand.tmp 76) (Operand.tmp 77) 3, type := 4,
                                              pos := "exact.go:2292",
                                              after :=
                                                #[{ on := 0, ground := Ground.data }, { on := 1, ground := Ground.data }],
                                              guard := none }]
                                          false).seq
                                      (Code.cond (Operand.tmp 78)
                                        ((Code.region 23
                                              #[{ dst := some 4, op := Op.assign (Operand.const (Value.bool false)),
                                                  type := 4, pos := "exact.go:2293", after := #[], guard := none }]
                                              false).seq
                                          Code.ret)
                                        Code.skip)).seq
                                  ((Code.region 24
                                        #[{ dst := some 80, op := Op.load 23 (Operand.tmp 2), type := 23,
                                            pos := "exact.go:2295", after := #[], guard := none },
                                          { dst := some 81,
                                            op :=
                                              Op.call
                                                { callee := Callee.value (Operand.func 6), args := #[Operand.tmp 80],
                                                  argTypes := #[23] },
                                            type := 46, pos := "exact.go:2295",
                                            after := #[{ on := 0, ground := Ground.data }], guard := none },
                                          { dst := some 82, op := Op.load 33 (Operand.tmp 3), type := 33,
                                            pos := "exact.go:2295", after := #[], guard := none },
                                          { dst := some 83,
                                            op :=
                                              Op.call
                                                { callee := Callee.value (Operand.func 7), args := #[Operand.tmp 82],
                                                  argTypes := #[33] },
                                            type := 43, pos := "exact.go:2295",
                                            after :=
                                              #[{ on := 2, ground := Ground.data }, { on := 1, ground := Ground.chain }],
                                            guard := none },
                                          { dst := some 84,
                                            op :=
                                              Op.call
                                                { callee := Callee.value (Operand.func 8),
                                                  args := #[Operand.tmp 81, Operand.tmp 83], argTypes := #[46, 43] },
                                            type := 44, pos := "exact.go:2295",
                                            after :=
                                              #[{ on := 1, ground := Ground.data }, { on := 3, ground := Ground.data },
                                                { on := 3, ground := Ground.chain }],
                                            guard := none },
                                          { dst := some 79, op := Op.move (Operand.tmp 84), type := 44,
                                            pos := "exact.go:2295", after := #[{ on := 4, ground := Ground.data }],
                                            guard := none },
                                          { dst := some 85, op := Op.extract (Operand.tmp 79) 0, type := 43,
                                            pos := "exact.go:2295", after := #[{ on := 5, ground := Ground.data }],
                                            guard := none },
                                          { dst := some 86, op := Op.extract (Operand.tmp 79) 1, type := 3,
                                            pos := "exact.go:2295",
                                            after :=
                                              #[{ on := 5, ground := Ground.data },
                                                { on := 9, ground := Ground.gcOnly Departure.lateStores }],
                                            guard := none },
                                          { dst := some 14, op := Op.alloc 43, type := 0, pos := "exact.go:2295",
                                            after := #[], guard := none },
                                          { dst := none, op := Op.store 43 (Operand.tmp 14) (Operand.tmp 85), type := 0,
                                            pos := "exact.go:2295",
                                            after :=
                                              #[{ on := 8, ground := Ground.data }, { on := 6, ground := Ground.data },
                                                { on := 4, ground := Ground.chain }, { on := 0, ground := Ground.phase },
                                                { on := 1, ground := Ground.phase }, { on := 2, ground := Ground.phase },
                                                { on := 3, ground := Ground.phase }, { on := 4, ground := Ground.phase },
                                                { on := 5, ground := Ground.phase }, { on := 6, ground := Ground.phase },
                                                { on := 7, ground := Ground.textOnly Departure.lateStores },
                                                { on := 8, ground := Ground.phase }],
                                            guard := none },
                                          { dst := some 15, op := Op.assign (Operand.tmp 86), type := 3,
                                            pos := "exact.go:2295",
                                            after :=
                                              #[{ on := 7, ground := Ground.data }, { on := 9, ground := Ground.chain },
                                                { on := 0, ground := Ground.phase }, { on := 1, ground := Ground.phase },
                                                { on := 2, ground := Ground.phase }, { on := 3, ground := Ground.phase },
                                                { on := 4, ground := Ground.phase }, { on := 5, ground := Ground.phase },
                                                { on := 6, ground := Ground.phase }, { on := 7, ground := Ground.phase },
                                                { on := 8, ground := Ground.phase }, { on := 9, ground := Ground.phase }],
                                            guard := none }]
                                        true).seq
                                    (((Code.region 25
                                              #[{ dst := some 87, op := Op.load 43 (Operand.tmp 14), type := 43,
                                                  pos := "exact.go:2296", after := #[], guard := none },
                                                { dst := some 88, op := Op.load 43 (Operand.tmp 6), type := 43,
                                                  pos := "exact.go:2296", after := #[], guard := none },
                                                { dst := some 89,
                                                  op :=
                                                    Op.call
                                                      { callee := Callee.value (Operand.func 9),
                                                        args := #[Operand.tmp 87, Operand.tmp 88], argTypes := #[43, 43] },
                                                  type := 4, pos := "exact.go:2296",
                                                  after :=
                                                    #[{ on := 0, ground := Ground.data },
                                                      { on := 1, ground := Ground.data }],
                                                  guard := none },
                                                { dst := some 90, op := Op.unOp UnOp.not 4 (Operand.tmp 89), type := 4,
                                                  pos := "exact.go:2296", after := #[{ on := 2, ground := Ground.data }],
                                                  guard := none },
                                                { dst := some 91, op := Op.move (Operand.tmp 90), type := 4,
                                                  pos := "exact.go:2296",
                                                  after :=
                                                    #[{ on := 3, ground := Ground.data },
                                                      { on := 2, ground := Ground.chain }],
                                                  guard := none },
                                                { dst := some 92, op := Op.move (Operand.tmp 15), type := 3,
                                                  pos := "exact.go:2296", after := #[{ on := 4, ground := Ground.guard }],
                                                  guard := some (4, false) },
                                                { dst := some 93, op := Op.move (Operand.tmp 7), type := 3,
                                                  pos := "exact.go:2296", after := #[{ on := 4, ground := Ground.guard }],
                                                  guard := some (4, false) },
                                                { dst := some 94,
                                                  op := Op.binOp BinOp.neq 3 (Operand.tmp 92) (Operand.tmp 93) 3, type := 4,
                                                  pos := "exact.go:2296",
                                                  after :=
                                                    #[{ on := 5, ground := Ground.data },
                                                      { on := 6, ground := Ground.data },
                                                      { on := 4, ground := Ground.guard }],
                                                  guard := some (4, false) },
                                                { dst := some 95,
                                                  op :=
                                                    Op.pick (Operand.tmp 91) (Operand.const (Value.bool true))
                                                      (Operand.tmp 94),
                                                  type := 4, pos := "exact.go:2296",
                                                  after :=
                                                    #[{ on := 4, ground := Ground.data },
                                                      { on := 7, ground := Ground.data }],
                                                  guard := none }]
                                              false).seq
                                          (Code.cond (Operand.tmp 95)
                                            ((Code.region 26
                                                  #[{ dst := some 4, op := Op.assign (Operand.const (Value.bool false)),
                                                      type := 4, pos := "exact.go:2297", after := #[], guard := none }]
                                                  false).seq
                                              Code.ret)
                                            Code.skip)).seq
                                      ((Code.region 27
                                            #[{ dst := some 4, op := Op.assign (Operand.const (Value.bool true)), type := 4,
                                                pos := "exact.go:2299", after := #[], guard := none }]
                                            false).seq
                                        Code.ret))))))))))))))
            (bodyPost Tryz.prog Tryz.f3 fun e w' => e = Ending.returned (Value.bool true) ∧ Below w.heap.size w w') a wq →
          K_b a wq)
    (B56 : Hid (Below w5.heap.size w5 w6))
    (A6 : Hid (Blk w6 w.heap.size #[q0, q1, q2, q3, q4, q5] 23))
    (B6w : Hid (Below w.heap.size w w6))
    (B46 : Hid (Below w4.heap.size w4 w6))
    (FX : Hid (FVal w6 k0 k10 N))
    (h45 : w4.heap.size ≤ X)
    (h56 : X < w6.heap.size)
    (X6 : Hid (Blk w6 X #[k0, n1, n2, n3, n4, n5, n6, n7, n8, n9, k10, n11, n12, n13] 43))
    (HX : Hid (X = w5.heap.size))
    (HK6 : Hid
        (∀ (w' : World),
          Below w6.heap.size w6 w' →
            w'.cell? { block := w.heap.size, off := 0 } = some q0 ∧
              w'.cell? { block := w.heap.size, off := 1 } = some q1 ∧
                w'.cell? { block := w.heap.size, off := 2 } = some q2 ∧
                  w'.cell? { block := w.heap.size, off := 3 } = some q3 ∧
                    w'.cell? { block := w.heap.size, off := 4 } = some q4 ∧
                      w'.cell? { block := w.heap.size, off := 5 } = some q5 ∧
                        w'.cell? { block := X, off := 0 } = some k0 ∧
                          w'.cell? { block := X, off := 1 } = some n1 ∧
                            w'.cell? { block := X, off := 2 } = some n2 ∧
                              w'.cell? { block := X, off := 3 } = some n3 ∧
                                w'.cell? { block := X, off := 4 } = some n4 ∧
                                  w'.cell? { block := X, off := 5 } = some n5 ∧
                                    w'.cell? { block := X, off := 6 } = some n6 ∧
                                      w'.cell? { block := X, off := 7 } = some n7 ∧
                                        w'.cell? { block := X, off := 8 } = some n8 ∧
                                          w'.cell? { block := X, off := 9 } = some n9 ∧
                                            w'.cell? { block := X, off := 10 } = some k10 ∧
                                              w'.cell? { block := X, off := 11 } = some n11 ∧
                                                w'.cell? { block := X, off := 12 } = some n12 ∧
                                                  w'.cell? { block := X, off := 13 } = some n13))
    (hL1 : w6.heap.size ≤ L1)
    (hH1 : H1 ≤ w7.heap.size)
    (hXL : XG < L1 ∨ H1 ≤ XG)
    (hX1 : w6.heap.size ≤ XG)
    (XB1 : Hid (Blk w7 XG #[z0, m1, m2, m3, m4, m5, m6, m7, m8, m9, z10, m11, m12, m13] 43))
    (NA7 : Hid (NVal w7 (fun x => L1 ≤ x ∧ x < H1) z0 z10 M))
    (B67 : Hid (Below w6.heap.size w6 w7))
    (B47 : Hid (Below w4.heap.size w4 w7)) :
    K_b
        {
          tmps :=
            #[Value.agg #[q0, q1, q2, q3, q4, q5], Value.agg #[n0, n1, n2, n3, n4, n5, n6, n7, n8, n9, n10, n11, n12, n13],
              Value.pointer (some { block := w.heap.size, off := 0 }),
              Value.pointer (some { block := w.heap.size + 1, off := 0 }), Value.bool false, Value.int IntKind.i64 left,
              Value.pointer (some { block := X0, off := 0 }), Value.int IntKind.i64 code,
              Value.pointer (some { block := X, off := 0 }), Value.pointer (some { block := XG, off := 0 }),
              Value.int IntKind.i64 code, undef, undef, undef, undef, undef, u16, u17, u18, u19, u20, u21, u22, u23, u24,
              u25, u26, u27, u28, u29, u30, u31, u32, u33, u34, u35, u36, u37, u38, u39, u40, u41, u42, u43, u44, u45, u46,
              u47, u48, u49, u50, u51, u52, u53, u54, u55, u56, u57, u58, u59, u60, u61, u62, u63, u64, u65, u66, u67, u68,
              u69, u70, u71, u72, u73, u74, u75, u76, u77, u78, u79, u80, u81, u82, u83, u84, u85, u86, u87, u88, u89, u90,
              u91, u92, u93, u94, u95],
          defers := [] }
        w7 := by
  obtain ⟨o0, o1, o2, o3, o4, o5, o6, o7, o8, o9, o10, o11, o12, o13⟩ := XB1.out.n14
  obtain ⟨e0, e1, e2, e3, e4, e5, e6, e7, e8, e9, e10, e11, e12, e13⟩ := (XB0.out.later B47.out).n14
  go_wp2_with fail
  refine (HEV.out _ _ _ _ _ NA7.out.fv (FI0.out.later B47.out)).mono ?_
  rintro e w8 ⟨rfl, hb8⟩
  have B68 := hid (bto B67.out hb8)
  have B48 := hid (bto B47.out hb8)
  have NA8 := hid (NA7.out.later hb8)
  have XB18 := hid (XB1.out.later hb8)
  have h78 := hb8.size
  clear hb8 o0 o1 o2 o3 o4 o5 o6 o7 o8 o9 o10 o11 o12 o13 e0 e1 e2 e3 e4 e5 e6 e7 e8 e9 e10 e11 e12 e13 NA7 B67 B47 XB1
  have HK8 := hid (fun w' (h : Below w8.heap.size w8 w') => show w'.cell? ⟨w.heap.size + 1, 0, none⟩ = some (n0) ∧ w'.cell? ⟨w.heap.size + 1, 1, none⟩ = some (n1) ∧ w'.cell? ⟨w.heap.size + 1, 2, none⟩ = some (n2) ∧ w'.cell? ⟨w.heap.size + 1, 3, none⟩ = some (n3) ∧ w'.cell? ⟨w.heap.size + 1, 4, none⟩ = some (n4) ∧ w'.cell? ⟨w.heap.size + 1, 5, none⟩ = some (n5) ∧ w'.cell? ⟨w.heap.size + 1, 6, none⟩ = some (n6) ∧ w'.cell? ⟨w.heap.size + 1, 7, none⟩ = some (n7) ∧ w'.cell? ⟨w.heap.size + 1, 8, none⟩ = some (n8) ∧ w'.cell? ⟨w.heap.size + 1, 9, none⟩ = some (n9) ∧ w'.cell? ⟨w.heap.size + 1, 10, none⟩ = some (n10) ∧ w'.cell? ⟨w.heap.size + 1, 11, none⟩ = some (n11) ∧ w'.cell? ⟨w.heap.size + 1, 12, none⟩ = some (n12) ∧ w'.cell? ⟨w.heap.size + 1, 13, none⟩ = some (n13) ∧ w'.cell? ⟨X, 0, none⟩ = some (k0) ∧ w'.cell? ⟨X, 1, none⟩ = some (n1) ∧ w'.cell? ⟨X, 2, none⟩ = some (n2) ∧ w'.cell? ⟨X, 3, none⟩ = some (n3) ∧ w'.cell? ⟨X, 4, none⟩ = some (n4) ∧ w'.cell? ⟨X, 5, none⟩ = some (n5) ∧ w'.cell? ⟨X, 6, none⟩ = some (n6) ∧ w'.cell? ⟨X, 7, none⟩ = some (n7) ∧ w'.cell? ⟨X, 8, none⟩ = some (n8) ∧ w'.cell? ⟨X, 9, none⟩ = some (n9) ∧ w'.cell? ⟨X, 10, none⟩ = some (k10) ∧ w'.cell? ⟨X, 11, none⟩ = some (n11) ∧ w'.cell? ⟨X, 12, none⟩ = some (n12) ∧ w'.cell? ⟨X, 13, none⟩ = some (n13) from by
    obtain ⟨e0, e1, e2, e3, e4, e5, e6, e7, e8, e9, e10, e11, e12, e13⟩ := (S4.out.later (bto B48.out h)).n14
    obtain ⟨o0, o1, o2, o3, o4, o5, o6, o7, o8, o9, o10, o11, o12, o13⟩ := (X6.out.later (bto B68.out h)).n14
    exact ⟨e0, e1, e2, e3, e4, e5, e6, e7, e8, e9, e10, e11, e12, e13, o0, o1, o2, o3, o4, o5, o6, o7, o8, o9, o10, o11, o12, o13⟩)
  obtain ⟨e0, e1, e2, e3, e4, e5, e6, e7, e8, e9, e10, e11, e12, e13, o0, o1, o2, o3, o4, o5, o6, o7, o8, o9, o10, o11, o12, o13⟩ := HK8.out w8 (Below.refl _ _)
  go_upto_region 10 with fail
  go_cut [51] (fun s wx => s = .bool false ∧ Below w8.heap.size w8 wx)
  case first =>
    go_region_held3 (fun w' => w'.cell? ⟨w.heap.size + 1, 0, none⟩ = some (n0) ∧ w'.cell? ⟨w.heap.size + 1, 1, none⟩ = some (n1) ∧ w'.cell? ⟨w.heap.size + 1, 2, none⟩ = some (n2) ∧ w'.cell? ⟨w.heap.size + 1, 3, none⟩ = some (n3) ∧ w'.cell? ⟨w.heap.size + 1, 4, none⟩ = some (n4) ∧ w'.cell? ⟨w.heap.size + 1, 5, none⟩ = some (n5) ∧ w'.cell? ⟨w.heap.size + 1, 6, none⟩ = some (n6) ∧ w'.cell? ⟨w.heap.size + 1, 7, none⟩ = some (n7) ∧ w'.cell? ⟨w.heap.size + 1, 8, none⟩ = some (n8) ∧ w'.cell? ⟨w.heap.size + 1, 9, none⟩ = some (n9) ∧ w'.cell? ⟨w.heap.size + 1, 10, none⟩ = some (n10) ∧ w'.cell? ⟨w.heap.size + 1, 11, none⟩ = some (n11) ∧ w'.cell? ⟨w.heap.size + 1, 12, none⟩ = some (n12) ∧ w'.cell? ⟨w.heap.size + 1, 13, none⟩ = some (n13) ∧ w'.cell? ⟨X, 0, none⟩ = some (k0) ∧ w'.cell? ⟨X, 1, none⟩ = some (n1) ∧ w'.cell? ⟨X, 2, none⟩ = some (n2) ∧ w'.cell? ⟨X, 3, none⟩ = some (n3) ∧ w'.cell? ⟨X, 4, none⟩ = some (n4) ∧ w'.cell? ⟨X, 5, none⟩ = some (n5) ∧ w'.cell? ⟨X, 6, none⟩ = some (n6) ∧ w'.cell? ⟨X, 7, none⟩ = some (n7) ∧ w'.cell? ⟨X, 8, none⟩ = some (n8) ∧ w'.cell? ⟨X, 9, none⟩ = some (n9) ∧ w'.cell? ⟨X, 10, none⟩ = some (k10) ∧ w'.cell? ⟨X, 11, none⟩ = some (n11) ∧ w'.cell? ⟨X, 12, none⟩ = some (n12) ∧ w'.cell? ⟨X, 13, none⟩ = some (n13))
      (first | go_keep | with_reducible exact HK8.out _ k4 | with_reducible exact HK8.out _ k3)
      (first
        | ((fail_if_success (have q := k3)); refine step_enterC (f := 7) (args := #[.agg #[n0, n1, n2, n3, n4, n5, n6, n7, n8, n9, n10, n11, n12, n13]]) (by rfl) (by go_simp) ?_; refine (HTN.out _ ((bto B6w.out B68.out).drew)).mono ?_; rintro e wp ⟨g, h, rfl, ho, hbp⟩; refine ⟨_, rfl, ?_⟩; have k3 : Below w8.heap.size w8 wp := (by exact bto (Below.refl _ _).drew hbp); have hk3 := HK8.out _ k3)
        | (have q := k3; clear q; refine step_enterC (f := 9) (args := #[.agg #[k0, n1, n2, n3, n4, n5, n6, n7, n8, n9, k10, n11, n12, n13], .agg #[g, n1, n2, n3, n4, n5, n6, n7, n8, n9, h, n11, n12, n13]]) (by rfl) (by go_simp) ?_; refine (HEQ.out _ _ _ _ _ (FX.out.later (bto B68.out k3)) ho.fv).mono ?_; rintro e wq ⟨rfl, hbq⟩; refine ⟨_, rfl, ?_⟩; have k4 : Below w8.heap.size w8 wq := (by exact bto k3 hbq)))
    all_goals (go_wp2_with fail; go_meet)
    all_goals exact ⟨rfl, k4⟩
  obtain ⟨rfl, hb9⟩ := hcut
  rename World => w9
  have B69 := hid (bto B68.out hb9)
  have B49 := hid (bto B48.out hb9)
  have NA9 := hid (NA8.out.later hb9)
  have XB19 := hid (XB18.out.later hb9)
  have h89 := hb9.size
  have h69 := B69.out.size
  have h49 := B49.out.size
  clear hb9 B68 B48 NA8 XB18 HK8 HEQ o0 o1 o2 o3 o4 o5 o6 o7 o8 o9 o10 o11 o12 o13 e0 e1 e2 e3 e4 e5 e6 e7 e8 e9 e10 e11 e12 e13 FX
  exact lawNcR2 HPW sn1 sn2 sn3 sn4 sn5 sn6 sn7 sn8 sn9 sn11 sn12 sn13 HMK HTN sm1 sm2 sm3 sm4 sm5 sm6 sm7 sm8 sm9 sm11 sm12 sm13 HEV HMV HHV HTC HIM hNK0 hMK0 h0 hX0 XB0 FI0 B4w A4 S4 hX04 h1w h14 O5 sk0 sk10 B45 B56 A6 B6w B46 h45 h56 X6 HX HK6 hL1 hH1 hXL hX1 h78 (by with_reducible assumption) (by with_reducible assumption) B69 B49 NA9 XB19 h89 h69 h49
set_option maxRecDepth 100000 in
set_option maxHeartbeats 16000000 in
theorem lawNodeCk (c : CfgD) (a b : Option Addr) (ca cb : Nat) (N : NodeD) (w : World) (hpw : PowTab w) (hf : FilesIn w a N.d.fs) (hs : Short N.d.fs) (hl : N.d.fs.length ≤ maxLen) (ht : TensIn w b N.ts) (hst : ShortT N.ts) (hr : RngT N.ts) (hls : I64p N.lsn) (hnw : I64p N.now) (hlt : N.ts.length ≤ maxLen) :
    Calls Tryz.prog 3 #[cfgV c, .agg #[.slice a N.d.fs.length ca, .int .i64 N.d.c, .int .i64 N.d.k, .int .i64 N.d.cr, .int .i64 N.d.fl, .bool N.d.dn, .int .i64 N.l.first, .int .i64 N.l.last, .int .i64 N.l.size, .int .i64 N.now, .slice b N.ts.length cb, .int .i64 N.lsn, .bool N.deg, .bool N.up]] w fun e w' => e = .returned (.bool true) ∧ Below w.heap.size w w' := by
  have HSZ := hid (fun W (hW : Below w.heap.size w W) => szNode_any a b ca cb N W (hf.later hW) hs hl (ht.later hW) hst hlt)
  by_cases h0 : szN N < 0
  · generalize szN N = left at *
    clear hf hs hl ht hst hr hls hnw hlt hpw
    unfold cfgV
    go_enter Tryz.func3, Tryz.ntmps3
    go_wp2_with fail
    refine (HSZ.out _ (bto (bnew _ _) (bnew _ _))).mono ?_
    rintro e w1 ⟨rfl, hb1⟩
    have B1 := hid (bto (bto (bnew _ _) (bnew _ _)) hb1)
    clear hb1
    go_wp2
    go_ret
    exact ⟨rfl, B1.out⟩
  have hz := szN_of h0
  have hfl : N.d.fs.length ≤ 1048576 := by omega
  have hbk : N.ts.length + tensBulk N.ts ≤ 1048576 := by omega
  obtain ⟨e1, e2, e3, e4⟩ := est_fit hbk
  have hsum : sumLen N.d.fs ≤ 1000000000 := by have := sumLen_le_bulk N.d.fs; omega
  have hFit : Fit N.d.fs := ⟨hs, hfl, hsum⟩
  have hsta : (staB N.lsn N.now N.ts).size ≤ 200000000 := staB_size e4
  obtain ⟨hMF, hMT⟩ := ckV_fit (c := c) hFit hsta
  have htl := tensLen_le2 N.ts
  have HTC : Hid (∀ W, Calls Tryz.prog 6 #[cfgV c] W fun e w' => e = .returned (cfgV c) ∧ Below W.heap.size W w') := fun W => toConfig_any _ _ _ _ _ _ W
  have HTN := hid (fun W (hW : Below w.heap.size w W) => (toNode_any a b ca cb N W (hf.later hW) hfl (ht.later hW) (by omega) e2).mono (R' := fun e w' => ∃ k0 k10, e = .returned (.agg #[k0, .int .i64 N.d.c, .int .i64 N.d.k, .int .i64 N.d.cr, .int .i64 N.d.fl, .bool N.d.dn, .int .i64 N.l.first, .int .i64 N.l.last, .int .i64 N.l.size, .int .i64 N.now, k10, .int .i64 N.lsn, .bool N.deg, .bool N.up]) ∧ NVal w' (fun x => W.heap.size ≤ x ∧ x < w'.heap.size) k0 k10 N ∧ Below W.heap.size W w') (fun e w' ⟨g, h, he, hA, hb⟩ => ⟨_, _, he, ⟨_, _, _, _, rfl, rfl, hA⟩, hb⟩))
  have HSP : Hid (∀ W k0 k10, FVal W k0 k10 N → Calls Tryz.prog 5 #[cfgV c, .agg #[k0, .int .i64 N.d.c, .int .i64 N.d.k, .int .i64 N.d.cr, .int .i64 N.d.fl, .bool N.d.dn, .int .i64 N.l.first, .int .i64 N.l.last, .int .i64 N.l.size, .int .i64 N.now, k10, .int .i64 N.lsn, .bool N.deg, .bool N.up]] W fun e w' => ∃ j0 j10, e = .returned (.tuple #[.agg #[j0, .int .i64 (ckV c N).1.d.c, .int .i64 (ckV c N).1.d.k, .int .i64 (ckV c N).1.d.cr, .int .i64 (ckV c N).1.d.fl, .bool (ckV c N).1.d.dn, .int .i64 (ckV c N).1.l.first, .int .i64 (ckV c N).1.l.last, .int .i64 (ckV c N).1.l.size, .int .i64 (ckV c N).1.now, j10, .int .i64 (ckV c N).1.lsn, .bool (ckV c N).1.deg, .bool (ckV c N).1.up], .int .i64 (ckV c N).2]) ∧ FVal w' j0 j10 (ckV c N).1 ∧ Below W.heap.size W w') := fun W k0 k10 hF => by
    obtain ⟨a1, c1, b1, d1, rfl, rfl, h1, h2⟩ := hF
    refine (specCk_any c a1 b1 c1 d1 N W ⟨h1, hfl, h2, hbk, hr, hls, hnw⟩ hFit hsta).mono fun e w' h => ?_
    obtain ⟨a', ca', b', cb', he, q1, q2, q3⟩ := h
    exact ⟨_, _, he, ⟨_, _, _, _, rfl, rfl, q1, q2⟩, q3⟩
  have HIM : Hid (∀ W k0 k10, FVal W k0 k10 N → PowTab W → Calls Tryz.prog 8 #[cfgV c, .agg #[k0, .int .i64 N.d.c, .int .i64 N.d.k, .int .i64 N.d.cr, .int .i64 N.d.fl, .bool N.d.dn, .int .i64 N.l.first, .int .i64 N.l.last, .int .i64 N.l.size, .int .i64 N.now, k10, .int .i64 N.lsn, .bool N.deg, .bool N.up]] W fun e w' => ∃ j0 j10, e = .returned (.tuple #[.agg #[j0, .int .i64 (ckV c N).1.d.c, .int .i64 (ckV c N).1.d.k, .int .i64 (ckV c N).1.d.cr, .int .i64 (ckV c N).1.d.fl, .bool (ckV c N).1.d.dn, .int .i64 (ckV c N).1.l.first, .int .i64 (ckV c N).1.l.last, .int .i64 (ckV c N).1.l.size, .int .i64 (ckV c N).1.now, j10, .int .i64 (ckV c N).1.lsn, .bool (ckV c N).1.deg, .bool (ckV c N).1.up], .int .i64 (ckV c N).2]) ∧ NVal w' (fun x => W.heap.size ≤ x ∧ x < w'.heap.size) j0 j10 (ckV c N).1 ∧ Below W.heap.size W w') := fun W k0 k10 hF hP => by
    obtain ⟨a1, c1, b1, d1, rfl, rfl, h1, h2⟩ := hF
    refine (implCk_any c a1 b1 c1 d1 N W ⟨h1, hs, hfl, hsum, h2, hbk, hr, hls, hnw⟩ hP).mono fun e w' h => ?_
    obtain ⟨a', ca', b', cb', he, q1, q3⟩ := h
    exact ⟨_, _, he, ⟨_, _, _, _, rfl, rfl, q1⟩, q3⟩
  have HEQ : Hid (∀ W k0 k10 k0' k10', FVal W k0 k10 N → FVal W k0' k10' N → Calls Tryz.prog 9 #[.agg #[k0, .int .i64 N.d.c, .int .i64 N.d.k, .int .i64 N.d.cr, .int .i64 N.d.fl, .bool N.d.dn, .int .i64 N.l.first, .int .i64 N.l.last, .int .i64 N.l.size, .int .i64 N.now, k10, .int .i64 N.lsn, .bool N.deg, .bool N.up], .agg #[k0', .int .i64 N.d.c, .int .i64 N.d.k, .int .i64 N.d.cr, .int .i64 N.d.fl, .bool N.d.dn, .int .i64 N.l.first, .int .i64 N.l.last, .int .i64 N.l.size, .int .i64 N.now, k10', .int .i64 N.lsn, .bool N.deg, .bool N.up]] W fun e w' => e = .returned (.bool true) ∧ Below W.heap.size W w') := fun W k0 k10 k0' k10' h h' => by
    obtain ⟨a1, c1, b1, d1, rfl, rfl, h1, h2⟩ := h
    obtain ⟨a2, c2, b2, d2, rfl, rfl, h3, h4⟩ := h'
    exact eqNode_same a1 a2 b1 b2 c1 c2 d1 d2 N W h1 h3 hl h2 h4 hlt e3
  have HMK : Hid (∀ W A k0 k10, NVal W A k0 k10 N → (∀ x, A x → x < W.heap.size) → Calls Tryz.prog 10 #[.agg #[k0, .int .i64 N.d.c, .int .i64 N.d.k, .int .i64 N.d.cr, .int .i64 N.d.fl, .bool N.d.dn, .int .i64 N.l.first, .int .i64 N.l.last, .int .i64 N.l.size, .int .i64 N.now, k10, .int .i64 N.lsn, .bool N.deg, .bool N.up], .int .i64 1] W fun e w' => e = .returned (.int .i64 ((1 + 3 * N.d.fs.length + tensLen N.ts : Nat) : Int)) ∧ Turn A W w') := fun W A k0 k10 h hA => by
    obtain ⟨a1, c1, b1, d1, rfl, rfl, h1⟩ := h
    exact (markNode_any a1 b1 c1 d1 N A W h1 hA (by omega)).mono fun e w' h => ⟨h.1, h.2.1⟩
  have hMl : (ckV c N).1.d.fs.length ≤ maxLen := by have := hMF.len; unfold maxLen; omega
  have hMt : (ckV c N).1.ts.length ≤ maxLen ∧ LenT (ckV c N).1.ts ∧ tensLen (ckV c N).1.ts ≤ 5000000 := by
    rcases hMT with e | e
    · rw [e]; exact ⟨hlt, e3, by omega⟩
    · rw [e]; exact ⟨Nat.zero_le _, fun i h => absurd h (by simp), Nat.zero_le _⟩
  have hMk : 1 + 3 * (ckV c N).1.d.fs.length + tensLen (ckV c N).1.ts ≤ 100000000 := by have := hMF.len; omega
  clear hMF hMT
  generalize ckV c N = R at *
  obtain ⟨M, code⟩ := R
  have HEV : Hid (∀ W k0 k10 k0' k10', FVal W k0 k10 M → FVal W k0' k10' M → Calls Tryz.prog 9 #[.agg #[k0, .int .i64 M.d.c, .int .i64 M.d.k, .int .i64 M.d.cr, .int .i64 M.d.fl, .bool M.d.dn, .int .i64 M.l.first, .int .i64 M.l.last, .int .i64 M.l.size, .int .i64 M.now, k10, .int .i64 M.lsn, .bool M.deg, .bool M.up], .agg #[k0', .int .i64 M.d.c, .int .i64 M.d.k, .int .i64 M.d.cr, .int .i64 M.d.fl, .bool M.d.dn, .int .i64 M.l.first, .int .i64 M.l.last, .int .i64 M.l.size, .int .i64 M.now, k10', .int .i64 M.lsn, .bool M.deg, .bool M.up]] W fun e w' => e = .returned (.bool true) ∧ Below W.heap.size W w') := fun W k0 k10 k0' k10' h h' => by
    obtain ⟨a1, c1, b1, d1, rfl, rfl, h1, h2⟩ := h
    obtain ⟨a2, c2, b2, d2, rfl, rfl, h3, h4⟩ := h'
    exact eqNode_same a1 a2 b1 b2 c1 c2 d1 d2 M W h1 h3 hMl h2 h4 hMt.1 hMt.2.1
  have HMV : Hid (∀ W A k0 k10, NVal W A k0 k10 M → (∀ x, A x → x < W.heap.size) → Calls Tryz.prog 10 #[.agg #[k0, .int .i64 M.d.c, .int .i64 M.d.k, .int .i64 M.d.cr, .int .i64 M.d.fl, .bool M.d.dn, .int .i64 M.l.first, .int .i64 M.l.last, .int .i64 M.l.size, .int .i64 M.now, k10, .int .i64 M.lsn, .bool M.deg, .bool M.up], .int .i64 1] W fun e w' => e = .returned (.int .i64 ((1 + 3 * M.d.fs.length + tensLen M.ts : Nat) : Int)) ∧ Turn A W w' ∧ HVal w' k0 k10 M) := fun W A k0 k10 h hA => by
    obtain ⟨a1, c1, b1, d1, rfl, rfl, h1⟩ := h
    exact (markNode_any a1 b1 c1 d1 M A W h1 hA hMk).mono fun e w' h => ⟨h.1, h.2.1, _, _, _, _, rfl, rfl, h.2.2.1, h.2.2.2⟩
  have HHV : Hid (∀ W k0 k10, HVal W k0 k10 M → Calls Tryz.prog 11 #[.agg #[k0, .int .i64 M.d.c, .int .i64 M.d.k, .int .i64 M.d.cr, .int .i64 M.d.fl, .bool M.d.dn, .int .i64 M.l.first, .int .i64 M.l.last, .int .i64 M.l.size, .int .i64 M.now, k10, .int .i64 M.lsn, .bool M.deg, .bool M.up], .int .i64 1] W fun e w' => e = .returned (.int .i64 ((1 + 3 * M.d.fs.length + tensLen M.ts : Nat) : Int)) ∧ Below W.heap.size W w') := fun W k0 k10 h => by
    obtain ⟨a1, c1, b1, d1, rfl, rfl, h1, h2⟩ := h
    exact heldNode_any a1 b1 c1 d1 M.d.fs.length M.d.c M.d.k M.d.cr M.d.fl M.d.dn M.l M.now M.lsn M.deg M.up M.ts W h1 h2 hMk
  have HPW := hid hpw
  have HDP := hid hMk
  generalize hNK : 1 + 3 * N.d.fs.length + tensLen N.ts = NK at *
  generalize hMK : 1 + 3 * M.d.fs.length + tensLen M.ts = MK at *
  have hNK0 : ¬ ((NK : Int) < 0) := by omega
  have hMK0 : ¬ ((MK : Int) < 0) := by omega
  generalize szN N = left at *
  clear hf hs hl ht hst hr hls hnw hlt hpw hz hfl hbk e1 e2 e3 e4 hsum hFit hsta htl hMl hMt hMk hNK hMK HDP
  unfold cfgV at *
  dsimp only at HSP HIM
  have sn1 : ∀ W p, (store p (.int .i64 N.d.c : Value)).run Tryz.prog W = stored Tryz.prog W p (.int .i64 N.d.c) .plain := fun W p => run_store _ _ _ _ _ rfl
  have sn2 : ∀ W p, (store p (.int .i64 N.d.k : Value)).run Tryz.prog W = stored Tryz.prog W p (.int .i64 N.d.k) .plain := fun W p => run_store _ _ _ _ _ rfl
  have sn3 : ∀ W p, (store p (.int .i64 N.d.cr : Value)).run Tryz.prog W = stored Tryz.prog W p (.int .i64 N.d.cr) .plain := fun W p => run_store _ _ _ _ _ rfl
  have sn4 : ∀ W p, (store p (.int .i64 N.d.fl : Value)).run Tryz.prog W = stored Tryz.prog W p (.int .i64 N.d.fl) .plain := fun W p => run_store _ _ _ _ _ rfl
  have sn5 : ∀ W p, (store p (.bool N.d.dn : Value)).run Tryz.prog W = stored Tryz.prog W p (.bool N.d.dn) .plain := fun W p => run_store _ _ _ _ _ rfl
  have sn6 : ∀ W p, (store p (.int .i64 N.l.first : Value)).run Tryz.prog W = stored Tryz.prog W p (.int .i64 N.l.first) .plain := fun W p => run_store _ _ _ _ _ rfl
  have sn7 : ∀ W p, (store p (.int .i64 N.l.last : Value)).run Tryz.prog W = stored Tryz.prog W p (.int .i64 N.l.last) .plain := fun W p => run_store _ _ _ _ _ rfl
  have sn8 : ∀ W p, (store p (.int .i64 N.l.size : Value)).run Tryz.prog W = stored Tryz.prog W p (.int .i64 N.l.size) .plain := fun W p => run_store _ _ _ _ _ rfl
  have sn9 : ∀ W p, (store p (.int .i64 N.now : Value)).run Tryz.prog W = stored Tryz.prog W p (.int .i64 N.now) .plain := fun W p => run_store _ _ _ _ _ rfl
  have sn11 : ∀ W p, (store p (.int .i64 N.lsn : Value)).run Tryz.prog W = stored Tryz.prog W p (.int .i64 N.lsn) .plain := fun W p => run_store _ _ _ _ _ rfl
  have sn12 : ∀ W p, (store p (.bool N.deg : Value)).run Tryz.prog W = stored Tryz.prog W p (.bool N.deg) .plain := fun W p => run_store _ _ _ _ _ rfl
  have sn13 : ∀ W p, (store p (.bool N.up : Value)).run Tryz.prog W = stored Tryz.prog W p (.bool N.up) .plain := fun W p => run_store _ _ _ _ _ rfl
  have sm1 : ∀ W p, (store p (.int .i64 M.d.c : Value)).run Tryz.prog W = stored Tryz.prog W p (.int .i64 M.d.c) .plain := fun W p => run_store _ _ _ _ _ rfl
  have sm2 : ∀ W p, (store p (.int .i64 M.d.k : Value)).run Tryz.prog W = stored Tryz.prog W p (.int .i64 M.d.k) .plain := fun W p => run_store _ _ _ _ _ rfl
  have sm3 : ∀ W p, (store p (.int .i64 M.d.cr : Value)).run Tryz.prog W = stored Tryz.prog W p (.int .i64 M.d.cr) .plain := fun W p => run_store _ _ _ _ _ rfl
  have sm4 : ∀ W p, (store p (.int .i64 M.d.fl : Value)).run Tryz.prog W = stored Tryz.prog W p (.int .i64 M.d.fl) .plain := fun W p => run_store _ _ _ _ _ rfl
  have sm5 : ∀ W p, (store p (.bool M.d.dn : Value)).run Tryz.prog W = stored Tryz.prog W p (.bool M.d.dn) .plain := fun W p => run_store _ _ _ _ _ rfl
  have sm6 : ∀ W p, (store p (.int .i64 M.l.first : Value)).run Tryz.prog W = stored Tryz.prog W p (.int .i64 M.l.first) .plain := fun W p => run_store _ _ _ _ _ rfl
  have sm7 : ∀ W p, (store p (.int .i64 M.l.last : Value)).run Tryz.prog W = stored Tryz.prog W p (.int .i64 M.l.last) .plain := fun W p => run_store _ _ _ _ _ rfl
  have sm8 : ∀ W p, (store p (.int .i64 M.l.size : Value)).run Tryz.prog W = stored Tryz.prog W p (.int .i64 M.l.size) .plain := fun W p => run_store _ _ _ _ _ rfl
  have sm9 : ∀ W p, (store p (.int .i64 M.now : Value)).run Tryz.prog W = stored Tryz.prog W p (.int .i64 M.now) .plain := fun W p => run_store _ _ _ _ _ rfl
  have sm11 : ∀ W p, (store p (.int .i64 M.lsn : Value)).run Tryz.prog W = stored Tryz.prog W p (.int .i64 M.lsn) .plain := fun W p => run_store _ _ _ _ _ rfl
  have sm12 : ∀ W p, (store p (.bool M.deg : Value)).run Tryz.prog W = stored Tryz.prog W p (.bool M.deg) .plain := fun W p => run_store _ _ _ _ _ rfl
  have sm13 : ∀ W p, (store p (.bool M.up : Value)).run Tryz.prog W = stored Tryz.prog W p (.bool M.up) .plain := fun W p => run_store _ _ _ _ _ rfl
  generalize (.slice a N.d.fs.length ca : Value) = n0 at *
  generalize (.int .i64 N.d.c : Value) = n1 at *
  generalize (.int .i64 N.d.k : Value) = n2 at *
  generalize (.int .i64 N.d.cr : Value) = n3 at *
  generalize (.int .i64 N.d.fl : Value) = n4 at *
  generalize (.bool N.d.dn : Value) = n5 at *
  generalize (.int .i64 N.l.first : Value) = n6 at *
  generalize (.int .i64 N.l.last : Value) = n7 at *
  generalize (.int .i64 N.l.size : Value) = n8 at *
  generalize (.int .i64 N.now : Value) = n9 at *
  generalize (.slice b N.ts.length cb : Value) = n10 at *
  generalize (.int .i64 N.lsn : Value) = n11 at *
  generalize (.bool N.deg : Value) = n12 at *
  generalize (.bool N.up : Value) = n13 at *
  generalize (.int .i64 M.d.c : Value) = m1 at *
  generalize (.int .i64 M.d.k : Value) = m2 at *
  generalize (.int .i64 M.d.cr : Value) = m3 at *
  generalize (.int .i64 M.d.fl : Value) = m4 at *
  generalize (.bool M.d.dn : Value) = m5 at *
  generalize (.int .i64 M.l.first : Value) = m6 at *
  generalize (.int .i64 M.l.last : Value) = m7 at *
  generalize (.int .i64 M.l.size : Value) = m8 at *
  generalize (.int .i64 M.now : Value) = m9 at *
  generalize (.int .i64 M.lsn : Value) = m11 at *
  generalize (.bool M.deg : Value) = m12 at *
  generalize (.bool M.up : Value) = m13 at *
  generalize (.int .i64 c.w : Value) = q0 at *
  generalize (.int .i64 c.tl : Value) = q1 at *
  generalize (.int .i64 c.ml : Value) = q2 at *
  generalize (.int .i64 c.sh : Value) = q3 at *
  generalize (.int .i64 c.ha : Value) = q4 at *
  generalize (.int .i64 c.sg : Value) = q5 at *
  go_enter Tryz.func3, Tryz.ntmps3
  go_wp2_with fail
  refine (HSZ.out _ (bto (bnew _ _) (bnew _ _))).mono ?_
  rintro e w1 ⟨rfl, hb1⟩
  have B1w := hid (bto (bto (bnew _ _) (bnew _ _)) hb1)
  have A1 := hid (((Blk.new w _ _).alloc _).later hb1)
  have S1 := hid ((Blk.new (w.alloc _) _ _).later hb1)
  simp only [World.size_alloc] at S1
  have HK1 := hid (fun w' (h : Below w1.heap.size w1 w') => show w'.cell? ⟨w.heap.size, 0, none⟩ = some (q0) ∧ w'.cell? ⟨w.heap.size, 1, none⟩ = some (q1) ∧ w'.cell? ⟨w.heap.size, 2, none⟩ = some (q2) ∧ w'.cell? ⟨w.heap.size, 3, none⟩ = some (q3) ∧ w'.cell? ⟨w.heap.size, 4, none⟩ = some (q4) ∧ w'.cell? ⟨w.heap.size, 5, none⟩ = some (q5) ∧ w'.cell? ⟨w.heap.size + 1, 0, none⟩ = some (n0) ∧ w'.cell? ⟨w.heap.size + 1, 1, none⟩ = some (n1) ∧ w'.cell? ⟨w.heap.size + 1, 2, none⟩ = some (n2) ∧ w'.cell? ⟨w.heap.size + 1, 3, none⟩ = some (n3) ∧ w'.cell? ⟨w.heap.size + 1, 4, none⟩ = some (n4) ∧ w'.cell? ⟨w.heap.size + 1, 5, none⟩ = some (n5) ∧ w'.cell? ⟨w.heap.size + 1, 6, none⟩ = some (n6) ∧ w'.cell? ⟨w.heap.size + 1, 7, none⟩ = some (n7) ∧ w'.cell? ⟨w.heap.size + 1, 8, none⟩ = some (n8) ∧ w'.cell? ⟨w.heap.size + 1, 9, none⟩ = some (n9) ∧ w'.cell? ⟨w.heap.size + 1, 10, none⟩ = some (n10) ∧ w'.cell? ⟨w.heap.size + 1, 11, none⟩ = some (n11) ∧ w'.cell? ⟨w.heap.size + 1, 12, none⟩ = some (n12) ∧ w'.cell? ⟨w.heap.size + 1, 13, none⟩ = some (n13) from by
    have q := A1.out.later h
    obtain ⟨o0, o1, o2, o3, o4, o5, o6, o7, o8, o9, o10, o11, o12, o13⟩ := (S1.out.later h).n14
    exact ⟨q.cell 0, q.cell 1, q.cell 2, q.cell 3, q.cell 4, q.cell 5, o0, o1, o2, o3, o4, o5, o6, o7, o8, o9, o10, o11, o12, o13⟩)
  obtain ⟨x0, x1, x2, x3, x4, x5, o0, o1, o2, o3, o4, o5, o6, o7, o8, o9, o10, o11, o12, o13⟩ := HK1.out w1 (Below.refl _ _)
  clear hb1 HSZ
  go_upto_region 5 with fail
  go_cut [6, 7] (fun p ok wx => ∃ X, p = .pointer (some ⟨X, 0, none⟩) ∧ ok = .int .i64 code ∧ ∃ j0 j10, Blk wx X #[j0, m1, m2, m3, m4, m5, m6, m7, m8, m9, j10, m11, m12, m13] 43 ∧ FVal wx j0 j10 M ∧ w1.heap.size ≤ X ∧ Below w1.heap.size w1 wx)
  case first =>
    go_region_held3 (fun w' => w'.cell? ⟨w.heap.size, 0, none⟩ = some (q0) ∧ w'.cell? ⟨w.heap.size, 1, none⟩ = some (q1) ∧ w'.cell? ⟨w.heap.size, 2, none⟩ = some (q2) ∧ w'.cell? ⟨w.heap.size, 3, none⟩ = some (q3) ∧ w'.cell? ⟨w.heap.size, 4, none⟩ = some (q4) ∧ w'.cell? ⟨w.heap.size, 5, none⟩ = some (q5) ∧ w'.cell? ⟨w.heap.size + 1, 0, none⟩ = some (n0) ∧ w'.cell? ⟨w.heap.size + 1, 1, none⟩ = some (n1) ∧ w'.cell? ⟨w.heap.size + 1, 2, none⟩ = some (n2) ∧ w'.cell? ⟨w.heap.size + 1, 3, none⟩ = some (n3) ∧ w'.cell? ⟨w.heap.size + 1, 4, none⟩ = some (n4) ∧ w'.cell? ⟨w.heap.size + 1, 5, none⟩ = some (n5) ∧ w'.cell? ⟨w.heap.size + 1, 6, none⟩ = some (n6) ∧ w'.cell? ⟨w.heap.size + 1, 7, none⟩ = some (n7) ∧ w'.cell? ⟨w.heap.size + 1, 8, none⟩ = some (n8) ∧ w'.cell? ⟨w.heap.size + 1, 9, none⟩ = some (n9) ∧ w'.cell? ⟨w.heap.size + 1, 10, none⟩ = some (n10) ∧ w'.cell? ⟨w.heap.size + 1, 11, none⟩ = some (n11) ∧ w'.cell? ⟨w.heap.size + 1, 12, none⟩ = some (n12) ∧ w'.cell? ⟨w.heap.size + 1, 13, none⟩ = some (n13))
      (first | (go_keep; done) | with_reducible exact HK1.out _ kf | with_reducible exact HK1.out _ ks | with_reducible exact HK1.out _ kcc | with_reducible exact HK1.out _ (set14 kf hxf) | with_reducible exact HK1.out _ (set14 kf kz) | with_reducible exact HK1.out _ (bto kcc (bnew _ _)) | with_reducible exact HK1.out _ (bto ks (bnew _ _)) | with_reducible exact HK1.out _ (bto kf (bnew _ _)) | with_reducible exact HK1.out _ ((bnew _ _).drew))
      (first
        | ((fail_if_success (have q := kcc)); refine step_enterC (f := 6) (args := #[.agg #[q0, q1, q2, q3, q4, q5]]) (by rfl) (by go_simp) ?_; refine (HTC.out _).mono ?_; rintro e wc ⟨rfl, hbc⟩; refine ⟨_, rfl, ?_⟩; have kcc : Below w1.heap.size w1 wc := (by with_reducible exact bto (Below.refl _ _).drew hbc); have cc1 := HK1.out _ kcc)
        | ((fail_if_success (have q := kcc)); refine step_enterC (f := 6) (args := #[.agg #[q0, q1, q2, q3, q4, q5]]) (by rfl) (by go_simp) ?_; refine (HTC.out _).mono ?_; rintro e wc ⟨rfl, hbc⟩; refine ⟨_, rfl, ?_⟩; have kcc : Below w1.heap.size w1 wc := (by with_reducible exact bto ((bnew _ _).drew) hbc); have cc1 := HK1.out _ kcc; have hzc : Blk wc w1.heap.size #[.slice none 0 0, .int .i64 0, .int .i64 0, .int .i64 0, .int .i64 0, .bool false, .int .i64 0, .int .i64 0, .int .i64 0, .int .i64 0, .slice none 0 0, .int .i64 0, .bool false, .bool false] 43 := blk_drewB hbc; have hxc : w1.heap.size ≤ w1.heap.size := Nat.le_refl _)
        | (have q := kcc; clear q; (fail_if_success (have q := ks)); refine step_enterC (f := 7) (args := #[.agg #[n0, n1, n2, n3, n4, n5, n6, n7, n8, n9, n10, n11, n12, n13]]) (by rfl) (by go_simp) ?_; refine (HTN.out _ (by with_reducible exact bto B1w.out kcc)).mono ?_; rintro e ws ⟨g, h, rfl, ho, hbs⟩; refine ⟨_, rfl, ?_⟩; have ks : Below w1.heap.size w1 ws := (by with_reducible exact bto kcc hbs); have cs1 := HK1.out _ ks; have os1 := ho.fv; try (have hzs := hzc.later hbs; have hxs := hxc))
        | (have q := kcc; clear q; (fail_if_success (have q := ks)); refine step_enterC (f := 7) (args := #[.agg #[n0, n1, n2, n3, n4, n5, n6, n7, n8, n9, n10, n11, n12, n13]]) (by rfl) (by go_simp) ?_; refine (HTN.out _ (by with_reducible exact bto (bto B1w.out kcc) (bnew _ _))).mono ?_; rintro e ws ⟨g, h, rfl, ho, hbs⟩; refine ⟨_, rfl, ?_⟩; have ks : Below w1.heap.size w1 ws := (by with_reducible exact bto (bto kcc (bnew _ _)) hbs); have cs1 := HK1.out _ ks; have os1 := ho.fv; have hzs := blk_allocB hbs; have hxs := kcc.size)
        | (have q := ks; clear q; have q := hzs; clear q; refine step_enterC (f := 5) (args := #[.agg #[q0, q1, q2, q3, q4, q5], .agg #[g, n1, n2, n3, n4, n5, n6, n7, n8, n9, h, n11, n12, n13]]) (by rfl) (by go_simp) ?_; refine (HSP.out _ g h (by with_reducible exact os1)).mono ?_; rintro e wf ⟨j0, j10, rfl, hoF, hbf⟩; refine ⟨_, rfl, ?_⟩; have kf : Below w1.heap.size w1 wf := (by with_reducible exact bto ks hbf); have cf1 := HK1.out _ kf; have sj0 := hoF.s0; have sj10 := hoF.s10; have hzf := hzs.later hbf; have hxf := hxs; have hxl := lt_of_block hzs; have kz := ks.size; obtain ⟨s0, s1, s2, s3, s4, s5, s6, s7, s8, s9, s10, s11, s12, s13⟩ := hzf.n14; obtain ⟨f0, f1, f2, f3, f4, f5, f6, f7, f8, f9, f10, f11, f12, f13⟩ := hzf.frees)
        | (have q := ks; clear q; (fail_if_success (have q := hzs)); refine step_enterC (f := 5) (args := #[.agg #[q0, q1, q2, q3, q4, q5], .agg #[g, n1, n2, n3, n4, n5, n6, n7, n8, n9, h, n11, n12, n13]]) (by rfl) (by go_simp) ?_; refine (HSP.out _ g h (by with_reducible exact os1)).mono ?_; rintro e wf ⟨j0, j10, rfl, hoF, hbf⟩; refine ⟨_, rfl, ?_⟩; have kf : Below w1.heap.size w1 wf := (by with_reducible exact bto ks hbf); have cf1 := HK1.out _ kf; have sj0 := hoF.s0; have sj10 := hoF.s10; have kz := ks.size)
        | (have q := ks; clear q; refine step_enterC (f := 5) (args := #[.agg #[q0, q1, q2, q3, q4, q5], .agg #[g, n1, n2, n3, n4, n5, n6, n7, n8, n9, h, n11, n12, n13]]) (by rfl) (by go_simp) ?_; refine (HSP.out _ g h (by with_reducible exact os1.later (bnew _ _))).mono ?_; rintro e wf ⟨j0, j10, rfl, hoF, hbf⟩; refine ⟨_, rfl, ?_⟩; have kf : Below w1.heap.size w1 wf := (by with_reducible exact bto (bto ks (bnew _ _)) hbf); have cf1 := HK1.out _ kf; have sj0 := hoF.s0; have sj10 := hoF.s10; have hzn := blk_allocB hbf; have kz := ks.size; obtain ⟨s0, s1, s2, s3, s4, s5, s6, s7, s8, s9, s10, s11, s12, s13⟩ := hzn.n14; obtain ⟨f0, f1, f2, f3, f4, f5, f6, f7, f8, f9, f10, f11, f12, f13⟩ := hzn.frees))
    all_goals (go_wp2_with fail; go_meet)
    all_goals first
        | with_reducible exact ⟨_, rfl, rfl, spX_new hoF kf⟩
        | exact ⟨_, rfl, rfl, spX_old hoF hxf hzf kf⟩
        | exact ⟨_, rfl, rfl, spX_old hoF kz hzn kf⟩
  obtain ⟨X0, rfl, rfl, y0, y10, hbx0, hfx0, hX0, hb4⟩ := hcut
  rename World => w4
  have XB0 := hid hbx0
  have FI0 := hid hfx0
  have B4w := hid (bto B1w.out hb4)
  have A4 := hid (A1.out.later hb4)
  have S4 := hid (S1.out.later hb4)
  have hX04 : X0 < w4.heap.size := lt_of_block hbx0
  have h1w : w.heap.size + 1 < w1.heap.size := lt_of_block S1.out
  have h14 := hb4.size
  clear hbx0 hfx0 hb4 HK1 x0 x1 x2 x3 x4 x5 o0 o1 o2 o3 o4 o5 o6 o7 o8 o9 o10 o11 o12 o13 A1 S1 HSP B1w
  obtain ⟨o0, o1, o2, o3, o4, o5, o6, o7, o8, o9, o10, o11, o12, o13⟩ := S4.out.n14
  go_wp2_with fail
  refine (HTN.out _ B4w.out).mono ?_
  rintro e w5 ⟨k0, k10, rfl, ho5, hb5⟩
  have O5 := hid ho5
  have sk0 := ho5.fv.s0
  have sk10 := ho5.fv.s10
  have B45 := hid hb5
  have h45 := hb5.size
  clear ho5 hb5 o0 o1 o2 o3 o4 o5 o6 o7 o8 o9 o10 o11 o12 o13
  go_upto_region 7 with fail
  refine at_one (C := fun W => Code.wp Tryz.prog _ _ _ W) ?_
  intro w6 hb6 X6 hzz
  clear hzz
  have X6 := hid X6
  have B56 := hid hb6
  have h56 := lt_of_block X6.out
  have A6 := hid ((A4.out.later B45.out).later hb6)
  have B6w := hid (bto (bto B4w.out B45.out) hb6)
  have B46 := hid (bto B45.out hb6)
  have FX := hid (O5.out.fv.later hb6)
  clear hb6
  have HXS : Hid (∃ X, X = w5.heap.size) := ⟨_, rfl⟩
  obtain ⟨X, hX⟩ := HXS.out
  rw [← hX] at X6 h56 h45 ⊢
  have HX := hid hX
  clear hX HXS
  have HK6 := hid (fun w' (h : Below w6.heap.size w6 w') => show w'.cell? ⟨w.heap.size, 0, none⟩ = some (q0) ∧ w'.cell? ⟨w.heap.size, 1, none⟩ = some (q1) ∧ w'.cell? ⟨w.heap.size, 2, none⟩ = some (q2) ∧ w'.cell? ⟨w.heap.size, 3, none⟩ = some (q3) ∧ w'.cell? ⟨w.heap.size, 4, none⟩ = some (q4) ∧ w'.cell? ⟨w.heap.size, 5, none⟩ = some (q5) ∧ w'.cell? ⟨X, 0, none⟩ = some (k0) ∧ w'.cell? ⟨X, 1, none⟩ = some (n1) ∧ w'.cell? ⟨X, 2, none⟩ = some (n2) ∧ w'.cell? ⟨X, 3, none⟩ = some (n3) ∧ w'.cell? ⟨X, 4, none⟩ = some (n4) ∧ w'.cell? ⟨X, 5, none⟩ = some (n5) ∧ w'.cell? ⟨X, 6, none⟩ = some (n6) ∧ w'.cell? ⟨X, 7, none⟩ = some (n7) ∧ w'.cell? ⟨X, 8, none⟩ = some (n8) ∧ w'.cell? ⟨X, 9, none⟩ = some (n9) ∧ w'.cell? ⟨X, 10, none⟩ = some (k10) ∧ w'.cell? ⟨X, 11, none⟩ = some (n11) ∧ w'.cell? ⟨X, 12, none⟩ = some (n12) ∧ w'.cell? ⟨X, 13, none⟩ = some (n13) from by
    have q := A6.out.later h
    obtain ⟨o0, o1, o2, o3, o4, o5, o6, o7, o8, o9, o10, o11, o12, o13⟩ := (X6.out.later h).n14
    exact ⟨q.cell 0, q.cell 1, q.cell 2, q.cell 3, q.cell 4, q.cell 5, o0, o1, o2, o3, o4, o5, o6, o7, o8, o9, o10, o11, o12, o13⟩)
  obtain ⟨x0, x1, x2, x3, x4, x5, o0, o1, o2, o3, o4, o5, o6, o7, o8, o9, o10, o11, o12, o13⟩ := HK6.out w6 (Below.refl _ _)
  go_upto_region 7 with fail
  go_cut [9, 10] (fun p ok wx => ∃ X, p = .pointer (some ⟨X, 0, none⟩) ∧ ok = .int .i64 code ∧ ∃ j0 j10 L H, Blk wx X #[j0, m1, m2, m3, m4, m5, m6, m7, m8, m9, j10, m11, m12, m13] 43 ∧ NVal wx (fun x => L ≤ x ∧ x < H) j0 j10 M ∧ w6.heap.size ≤ L ∧ H ≤ wx.heap.size ∧ (X < L ∨ H ≤ X) ∧ w6.heap.size ≤ X ∧ Below w6.heap.size w6 wx)
  case first =>
    go_region_held3 (fun w' => w'.cell? ⟨w.heap.size, 0, none⟩ = some (q0) ∧ w'.cell? ⟨w.heap.size, 1, none⟩ = some (q1) ∧ w'.cell? ⟨w.heap.size, 2, none⟩ = some (q2) ∧ w'.cell? ⟨w.heap.size, 3, none⟩ = some (q3) ∧ w'.cell? ⟨w.heap.size, 4, none⟩ = some (q4) ∧ w'.cell? ⟨w.heap.size, 5, none⟩ = some (q5) ∧ w'.cell? ⟨X, 0, none⟩ = some (k0) ∧ w'.cell? ⟨X, 1, none⟩ = some (n1) ∧ w'.cell? ⟨X, 2, none⟩ = some (n2) ∧ w'.cell? ⟨X, 3, none⟩ = some (n3) ∧ w'.cell? ⟨X, 4, none⟩ = some (n4) ∧ w'.cell? ⟨X, 5, none⟩ = some (n5) ∧ w'.cell? ⟨X, 6, none⟩ = some (n6) ∧ w'.cell? ⟨X, 7, none⟩ = some (n7) ∧ w'.cell? ⟨X, 8, none⟩ = some (n8) ∧ w'.cell? ⟨X, 9, none⟩ = some (n9) ∧ w'.cell? ⟨X, 10, none⟩ = some (k10) ∧ w'.cell? ⟨X, 11, none⟩ = some (n11) ∧ w'.cell? ⟨X, 12, none⟩ = some (n12) ∧ w'.cell? ⟨X, 13, none⟩ = some (n13))
      (first | (go_keep; done) | with_reducible exact HK6.out _ kf | with_reducible exact HK6.out _ ks | with_reducible exact HK6.out _ kcc | with_reducible exact HK6.out _ (set14 kf hxf) | with_reducible exact HK6.out _ (set14 kf kz) | with_reducible exact HK6.out _ (bto kcc (bnew _ _)) | with_reducible exact HK6.out _ (bto ks (bnew _ _)) | with_reducible exact HK6.out _ (bto kf (bnew _ _)) | with_reducible exact HK6.out _ ((bnew _ _).drew))
      (first
        | ((fail_if_success (have q := kcc)); refine step_enterC (f := 6) (args := #[.agg #[q0, q1, q2, q3, q4, q5]]) (by rfl) (by go_simp) ?_; refine (HTC.out _).mono ?_; rintro e wc ⟨rfl, hbc⟩; refine ⟨_, rfl, ?_⟩; have kcc : Below w6.heap.size w6 wc := (by with_reducible exact bto (Below.refl _ _).drew hbc); have cc1 := HK6.out _ kcc)
        | ((fail_if_success (have q := kcc)); refine step_enterC (f := 6) (args := #[.agg #[q0, q1, q2, q3, q4, q5]]) (by rfl) (by go_simp) ?_; refine (HTC.out _).mono ?_; rintro e wc ⟨rfl, hbc⟩; refine ⟨_, rfl, ?_⟩; have kcc : Below w6.heap.size w6 wc := (by with_reducible exact bto ((bnew _ _).drew) hbc); have cc1 := HK6.out _ kcc; have hzc : Blk wc w6.heap.size #[.slice none 0 0, .int .i64 0, .int .i64 0, .int .i64 0, .int .i64 0, .bool false, .int .i64 0, .int .i64 0, .int .i64 0, .int .i64 0, .slice none 0 0, .int .i64 0, .bool false, .bool false] 43 := blk_drewB hbc; have hxc : w6.heap.size ≤ w6.heap.size := Nat.le_refl _)
        | (have q := kcc; clear q; have q := hzc; clear q; refine step_enterC (f := 8) (args := #[.agg #[q0, q1, q2, q3, q4, q5], .agg #[k0, n1, n2, n3, n4, n5, n6, n7, n8, n9, k10, n11, n12, n13]]) (by rfl) (by go_simp) ?_; refine (HIM.out _ k0 k10 (by with_reducible exact FX.out.later kcc) (HPW.out.later (by with_reducible exact bto B6w.out kcc))).mono ?_; rintro e wf ⟨j0, j10, rfl, hoA, hbf⟩; refine ⟨_, rfl, ?_⟩; have kf : Below w6.heap.size w6 wf := (by with_reducible exact bto kcc hbf); have cf1 := HK6.out _ kf; have sj0 := hoA.fv.s0; have sj10 := hoA.fv.s10; have hzf := hzc.later hbf; have hxf := hxc; have hxl := lt_of_block hzc; have kz := kcc.size; obtain ⟨s0, s1, s2, s3, s4, s5, s6, s7, s8, s9, s10, s11, s12, s13⟩ := hzf.n14; obtain ⟨f0, f1, f2, f3, f4, f5, f6, f7, f8, f9, f10, f11, f12, f13⟩ := hzf.frees)
        | (have q := kcc; clear q; (fail_if_success (have q := hzc)); refine step_enterC (f := 8) (args := #[.agg #[q0, q1, q2, q3, q4, q5], .agg #[k0, n1, n2, n3, n4, n5, n6, n7, n8, n9, k10, n11, n12, n13]]) (by rfl) (by go_simp) ?_; refine (HIM.out _ k0 k10 (by with_reducible exact FX.out.later kcc) (HPW.out.later (by with_reducible exact bto B6w.out kcc))).mono ?_; rintro e wf ⟨j0, j10, rfl, hoA, hbf⟩; refine ⟨_, rfl, ?_⟩; have kf : Below w6.heap.size w6 wf := (by with_reducible exact bto kcc hbf); have cf1 := HK6.out _ kf; have sj0 := hoA.fv.s0; have sj10 := hoA.fv.s10; have kz := kcc.size)
        | (have q := kcc; clear q; refine step_enterC (f := 8) (args := #[.agg #[q0, q1, q2, q3, q4, q5], .agg #[k0, n1, n2, n3, n4, n5, n6, n7, n8, n9, k10, n11, n12, n13]]) (by rfl) (by go_simp) ?_; refine (HIM.out _ k0 k10 (by with_reducible exact FX.out.later (bto kcc (bnew _ _))) (HPW.out.later (by with_reducible exact bto (bto B6w.out kcc) (bnew _ _)))).mono ?_; rintro e wf ⟨j0, j10, rfl, hoA, hbf⟩; refine ⟨_, rfl, ?_⟩; have kf : Below w6.heap.size w6 wf := (by with_reducible exact bto (bto kcc (bnew _ _)) hbf); have cf1 := HK6.out _ kf; have sj0 := hoA.fv.s0; have sj10 := hoA.fv.s10; have hzn := blk_allocB hbf; have kz := kcc.size; obtain ⟨s0, s1, s2, s3, s4, s5, s6, s7, s8, s9, s10, s11, s12, s13⟩ := hzn.n14; obtain ⟨f0, f1, f2, f3, f4, f5, f6, f7, f8, f9, f10, f11, f12, f13⟩ := hzn.frees))
    all_goals (go_wp2_with fail; go_meet)
    all_goals first
        | with_reducible exact ⟨_, rfl, rfl, nX_new hoA kz kf⟩
        | exact ⟨_, rfl, rfl, nX_old hoA hxl kz hxf hzf kf⟩
        | exact ⟨_, rfl, rfl, nX_old hoA (by simp) (by simp; omega) kz hzn kf⟩
        | exact ⟨_, rfl, rfl, nX_new hoA (by simp; omega) kf⟩
  obtain ⟨XG, rfl, rfl, z0, z10, L1, H1, hbx1, hna1, hL1, hH1, hXL, hX1, hb7⟩ := hcut
  rename World => w7
  have XB1 := hid hbx1
  have NA7 := hid hna1
  have B67 := hid hb7
  have B47 := hid (bto B46.out hb7)
  clear hbx1 hna1 hb7 x0 x1 x2 x3 x4 x5 o0 o1 o2 o3 o4 o5 o6 o7 o8 o9 o10 o11 o12 o13
  exact lawNcR1 HPW sn1 sn2 sn3 sn4 sn5 sn6 sn7 sn8 sn9 sn11 sn12 sn13 HEQ HMK HTN sm1 sm2 sm3 sm4 sm5 sm6 sm7 sm8 sm9 sm11 sm12 sm13 HEV HMV HHV HTC HIM hNK0 hMK0 h0 hX0 XB0 FI0 B4w A4 S4 hX04 h1w h14 O5 sk0 sk10 B45 (by with_reducible assumption) B56 A6 B6w B46 FX h45 h56 X6 HX HK6 hL1 hH1 hXL hX1 XB1 NA7 B67 B47
end Go.Proofs.YtgnppdghjlnlhaaGreatDoor
