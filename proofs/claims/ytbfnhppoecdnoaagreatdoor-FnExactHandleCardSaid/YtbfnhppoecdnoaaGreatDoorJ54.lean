import Derived.Test.YtbfnhppoecdnoaaGreatDoorJ53
set_option linter.unusedVariables false
namespace Go.Proofs.YtbfnhppoecdnoaaGreatDoor
open Go.RowKit
section
open Go.ChangeShapes Go.WideShapes Go.ChangeAt
open Go.ChangeMaps (open_string shut_string)
theorem provedHandle:Rows.FnExactHandleCardSaid:=
 Claim7.holds_tied_plain_at .later [] [.data,.data,.data,.data,.wider,.pinned] true _ true ze (fun _ h=>by cases h) (by as_aux_lemma=>kernel_rfl) (fun _ h=>by cases h) fnExactHandle_row_tie rfl ⟨rfl,rfl⟩ (by as_aux_lemma=>kernel_rfl) rfl
  (fun f d e b=>by
   obtain rfl : f = 3 := Lc ((show Tryz.prog.funcNamed "loop.example/s02176/laws.FnExactHandle" = some 3 by as_aux_lemma => kernel_rfl).symm.trans e) |>.symm
   obtain rfl:d=Tryz.f3:=(Lc (Tryz.func3.symm.trans b)).symm;exact⟨by as_aux_lemma=>kernel_rfl,fun j t c=>by
    rw[Tryz.params3]at c;have g:t∈[23,33,9]:=by simpa using Array.mem_of_getElem? c
    have a:([23,33,9].all fun u=>!Tryz.prog.wantsStandIn u)=true:=by as_aux_lemma=>kernel_rfl
    exact(show Tryz.prog.wantsStandIn t=false by simpa using Ke.1 a t g)⟩)
  (by as_aux_lemma=>kernel_rfl)
#print axioms provedHandle
end
end Go.Proofs.YtbfnhppoecdnoaaGreatDoor
