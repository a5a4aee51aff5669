import Derived.Test.YtflfopienjjlbaaGreatDoorProg
import Derived.Test.YtflfopienjjlbaaGreatDoorJ25SStep4
namespace Go.Proofs.YtflfopienjjlbaaGreatDoor
open Go.RowKit

theorem specStep_any (w : World) (a : Option Addr) (cap : Nat) (fs : List FileD) (c k cr fl : Int) (dn : Bool) (op : OpD) (h : Given w a fs op) : Specs w a cap fs c k cr fl dn op := by
  cases hq : diskB fs c k cr fl with
  | false => exact sbad_disk w a cap fs c k cr fl dn op h hq
  | true =>
    by_cases ho : opB op = true
    · by_cases hk : op.kind = 5
      · cases hdn : dn with
        | true => exact sdown5 w a cap fs c k cr fl true op h hq hk ho rfl
        | false =>
          by_cases hm : k = 1000000000000000
          · exact smax5 w a cap fs c k cr fl false op h hq hk ho rfl hm
          by_cases hc : cr = 0
          · by_cases hf : fl = 0
            · exact sdo005 w a cap fs c k cr fl false op h hq hk ho rfl hm hc hf
            by_cases hf2 : k + 1 = fl
            · exact sfl05 w a cap fs c k cr fl false op h hq hk ho rfl hm hc hf hf2
            · exact sdo105 w a cap fs c k cr fl false op h hq hk ho rfl hm hc hf hf2
          by_cases hc2 : k + 1 = cr
          · exact scr5 w a cap fs c k cr fl false op h hq hk ho rfl hm hc hc2
          by_cases hf : fl = 0
          · exact sdo0ne5 w a cap fs c k cr fl false op h hq hk ho rfl hm hc hc2 hf
          by_cases hf2 : k + 1 = fl
          · exact sflne5 w a cap fs c k cr fl false op h hq hk ho rfl hm hc hc2 hf hf2
          · exact sdo1ne5 w a cap fs c k cr fl false op h hq hk ho rfl hm hc hc2 hf hf2
      · cases hdn : dn with
        | true => exact sdown w a cap fs c k cr fl true op h hq hk ho rfl
        | false =>
          by_cases hm : k = 1000000000000000
          · exact smax w a cap fs c k cr fl false op h hq hk ho rfl hm
          by_cases hc : cr = 0
          · by_cases hf : fl = 0
            · exact sdo00 w a cap fs c k cr fl false op h hq hk ho rfl hm hc hf
            by_cases hf2 : k + 1 = fl
            · exact sfl0 w a cap fs c k cr fl false op h hq hk ho rfl hm hc hf hf2
            · exact sdo10 w a cap fs c k cr fl false op h hq hk ho rfl hm hc hf hf2
          by_cases hc2 : k + 1 = cr
          · exact scr w a cap fs c k cr fl false op h hq hk ho rfl hm hc hc2
          by_cases hf : fl = 0
          · exact sdo0ne w a cap fs c k cr fl false op h hq hk ho rfl hm hc hc2 hf
          by_cases hf2 : k + 1 = fl
          · exact sflne w a cap fs c k cr fl false op h hq hk ho rfl hm hc hc2 hf hf2
          · exact sdo1ne w a cap fs c k cr fl false op h hq hk ho rfl hm hc hc2 hf hf2
    · cases hb : btwB op.kind 1 6 with
      | false => exact sbad_kind w a cap fs c k cr fl dn op h hq hb
      | true =>
        cases hn : nameB op.name with
        | false => exact sbad_name w a cap fs c k cr fl dn op h hq hb hn
        | true =>
          have hx : op.kind = 5 ∧ nameB op.to = false := by
            unfold opB at ho
            rw [hb, hn] at ho
            simp at ho
            exact ho
          exact sbad_to w a cap fs c k cr fl dn op h hq hx.1 hn hx.2
end Go.Proofs.YtflfopienjjlbaaGreatDoor

