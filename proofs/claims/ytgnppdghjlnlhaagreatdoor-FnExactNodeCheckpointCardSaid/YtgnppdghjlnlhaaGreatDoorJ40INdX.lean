import Derived.Test.YtgnppdghjlnlhaaGreatDoorJ38INdR
import Derived.Test.YtgnppdghjlnlhaaGreatDoorJ39INdF
namespace Go.Proofs.YtgnppdghjlnlhaaGreatDoor
open Go.RowKit
theorem implCk_any (c : CfgD) (a b : Option Addr) (ca cb : Nat) (N : NodeD) (w : World) (h : CkIn w a b N) (hp : PowTab w) :
    Calls Tryz.prog 8 #[cfgV c, .agg #[.slice a N.d.fs.length ca, .int .i64 N.d.c, .int .i64 N.d.k, .int .i64 N.d.cr, .int .i64 N.d.fl, .bool N.d.dn, .int .i64 N.l.first, .int .i64 N.l.last, .int .i64 N.l.size, .int .i64 N.now, .slice b N.ts.length cb, .int .i64 N.lsn, .bool N.deg, .bool N.up]] w fun e w' => CkOut c N w e w' := by
  by_cases hl : cfgB c = true ∧ upB N = true ∧ logB N.l = true ∧ ¬ N.l.last = 999999 ∧ ¬ staB N.lsn N.now N.ts = ⟨#[]⟩ ∧ diskB N.d.fs N.d.c N.d.k N.d.cr N.d.fl = true
  · obtain ⟨h0, h1, h2, h3, h4, h5⟩ := hl
    by_cases hx : (runD N.d (ckOps N.d N.l (staB N.lsn N.now N.ts))).2 = 0
    · exact implCk_ok c a b ca cb N w h hp h0 h1 h2 h3 h4 h5 hx
    · exact implCk_bad c a b ca cb N w h hp h0 h1 h2 h3 h4 h5 hx
  · exact implCk_low c a b ca cb N w h hl
end Go.Proofs.YtgnppdghjlnlhaaGreatDoor
