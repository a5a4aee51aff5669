import Derived.Test.YtkmdbpaeeagccaaGreatDoorJ39SAdmK
import Derived.Test.YtkmdbpaeeagccaaGreatDoorJ40SAdmN
namespace Go.Proofs.YtkmdbpaeeagccaaGreatDoor
open Go.RowKit
theorem specAdmit_any (c : CfgD) (now : Int) (a : Option Addr) (cap : Nat) (ts : List TenD) (tenant key : ByteArray) (w : World) (hf : TensIn w a ts) (hbk : ts.length + tensBulk ts ≤ 1100000) (hn : tenant.size ≤ 1100000) (hk : key.size ≤ 1100000) :
    Calls Tryz.prog 20 #[cfgV c,.agg #[.int .i64 now,.slice a ts.length cap],.string tenant,.string key] w fun e w'=>AdOut (admitV c now ts tenant key) w e w':=by
  cases h0 : stateB c now ts with
  | false=>exact specAdmit_no c now a cap ts tenant key w hf hbk hn hk h0
  | true =>
    cases hb : (tnameB tenant && keyOK key) with
    | false=>exact specAdmit_bad c now a cap ts tenant key w hf hbk hn hk h0 hb
    | true =>
      cases hg : getBy (·.s) key (tenOf ts tenant).sers with
      | some q=>exact specAdmit_known c now a cap ts tenant key w hf hbk hn hk h0 hb (by rw [hg]; rfl)
      | none=>exact specAdmit_new c now a cap ts tenant key w hf hbk hn hk h0 hb hg
end Go.Proofs.YtkmdbpaeeagccaaGreatDoor
