import Derived.Test.YtcneojllbkacoaaGreatDoorJ06Code
import Derived.Test.YtcneojllbkacoaaGreatDoorJ05Cells
set_option maxRecDepth 100000
set_option maxHeartbeats 1000000
namespace Go.Proofs.YtcneojllbkacoaaGreatDoor
open Go.RowKit
def wB (k cr fl:Int) (dn:Bool):Nat×Int×Bool:=
 if dn=true then (1,k,true) else if k=1000000000000000 then (2,k,false) else if cr≠0∧k+1=cr then (1,k+1,true) else if fl≠0∧k+1=fl then (2,k+1,false) else (0,k+1,false)
theorem tQ (D:Nat) (t:TypeId) (v4 v5:Value) (k cr fl:Int) (dn:Bool) (w:World) (hb:lA w D #[.int .i64 k,.int .i64 cr,.int .i64 fl,.bool dn,v4,v5] t) (hk0:0≤k) (hk1:k≤1000000000000000):
 Calls Tryz.prog 166 #[.pointer (some ⟨D,0,none⟩)] w fun e w'=>e=.returned (xF (wB k cr fl dn).1)∧bE D w w'∧lA w' D #[.int .i64 (wB k cr fl dn).2.1,.int .i64 cr,.int .i64 fl,.bool (wB k cr fl dn).2.2,v4,v5] t:=by
 have c0:=hb.cell 0;have c3:=hb.cell 3;simp only [List.getElem?_toArray,List.getElem?_cons_zero,List.getElem?_cons_succ] at c0 c3;have f0:=hb.free 0;have hv:(dn=true∧wB k cr fl dn=(1,k,true)∨(dn=false∧k=1000000000000000)∧wB k cr fl dn=(2,k,false))∨dn=false∧¬k=1000000000000000:=by
  cases dn<;>by_cases h:k=1000000000000000<;>simp [wB,h]
 rcases hv with (⟨rfl,E⟩ | ⟨⟨rfl,rfl⟩,E⟩) | ⟨rfl,hm⟩
 iterate 2
  ·have E:=iA E
   have HB:=iA hb
   clear hb
   go_enter Tryz.func166,Tryz.ntmps166
   go_wp2
   go_ret
   rw [E.out]
   exact ⟨rfl,bE.refl _ _,HB.out⟩
 have hb1:=hb.set 0 (.int .i64 (k+1));have HB1:Hid (lA (w.setCell ⟨D,0,none⟩ (.int .i64 (k+1))) D #[.int .i64 (k+1),.int .i64 cr,.int .i64 fl,.bool false,v4,v5] t):=by show lA _ _ _ _;simpa using hb1
 clear hb hb1;have d0:=HB1.out.cell 0;have d1:=HB1.out.cell 1;have d2:=HB1.out.cell 2;have d3:=HB1.out.cell 3;simp only [List.getElem?_toArray,List.getElem?_cons_zero,List.getElem?_cons_succ] at d0 d1 d2 d3;have e3:=HB1.out.free 3;have HBut:=iA ((bE.refl D w).setCell 0 (.int .i64 (k+1)));have hw1:IntKind.i64.wrap (k+1)=k+1:=by rw [IntKind.wrap_i64];omega
 have hv:(¬cr=0∧k+1=cr)∧wB k cr fl false=(1,k+1,true)∨(cr=0∨¬cr=0∧¬k+1=cr)∧((¬fl=0∧k+1=fl)∧wB k cr fl false=(2,k+1,false)∨(fl=0∨¬fl=0∧¬k+1=fl)∧wB k cr fl false=(0,k+1,false)):=by
  by_cases h1:cr=0<;>by_cases h2:k+1=cr<;>by_cases h3:fl=0<;>by_cases h4:k+1=fl<;>simp_all [wB]
 rcases hv with ⟨⟨h1,rfl⟩,E⟩ | ⟨rfl | ⟨h1,h2⟩,⟨⟨h3,rfl⟩,E⟩ | ⟨rfl | ⟨h3,h4⟩,E⟩⟩
 all_goals
  have E:=iA E;try have g1:=decide_eq_false h1
  try have g2:=beq_false_of_ne h2
  try have g3:=decide_eq_false h3
  try have g4:=beq_false_of_ne h4
  go_enter Tryz.func166,Tryz.ntmps166;go_wp2_with fail;go_quiet (fail)
  go_wp2_with fail;try (go_quiet (fail);go_wp2)
  go_ret;rw [E.out];first
   | exact ⟨rfl,HBut.out.trans (bE.of (below_drewN (below_drewN (Below.refl _ _) _) _)),HB1.out.later (below_drewN (below_drewN (Below.refl _ _) _) _)⟩
   | exact ⟨rfl,HBut.out.trans (bE.of (below_drewN (Below.refl _ _) _)),HB1.out.later (below_drewN (Below.refl _ _) _)⟩
   | exact ⟨rfl,(HBut.out.trans (bE.of (below_drewN (Below.refl _ _) _))).setCell _ _,by simpa using (HB1.out.later (below_drewN (Below.refl _ _) nq)).set 3 (.bool true)⟩
end Go.Proofs.YtcneojllbkacoaaGreatDoor
