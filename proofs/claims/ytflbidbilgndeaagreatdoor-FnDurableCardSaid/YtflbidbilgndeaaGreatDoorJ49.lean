import Derived.Test.YtflbidbilgndeaaGreatDoorJ48
set_option linter.unusedVariables false
namespace Go.Proofs.YtflbidbilgndeaaGreatDoor
open Go.RowKit
section
open Go.ChangeShapes Go.WideShapes Go.ChangeAt
theorem provedFnDurable:Rows.FnDurableCardSaid:=
 Claim7.holds_tied_plain_at .later [] [.data,.data,.data,.data,.sentinel,.sentinel,.wider,.pinned] true _ true UT (λ_ h=>by cases h) (by as_aux_lemma=>kernel_rfl) (λ_ h=>by cases h) fnDurable_row_tie rfl ⟨rfl,rfl⟩ (by as_aux_lemma=>kernel_rfl) rfl
  (λf d e b=>by
   obtain rfl : f = 3 := Lc ((show Tryz.prog.funcNamed "loop.example/s02176/laws.FnDurable" = some 3 by as_aux_lemma => kernel_rfl).symm.trans e) |>.symm
   obtain rfl:d=Tryz.f3:=(Lc (Tryz.func3.symm.trans b)).symm;exact⟨by as_aux_lemma=>kernel_rfl,λj t c=>by
    rw[Tryz.params3]at c;have g:t∈[22]:=by simpa using Array.mem_of_getElem? c
    have a:([22].all λu=>!Tryz.prog.wantsStandIn u)=true:=by as_aux_lemma=>kernel_rfl
    exact(show Tryz.prog.wantsStandIn t=false by simpa using Ke.1 a t g)⟩)
  (by as_aux_lemma=>kernel_rfl)
#print axioms provedFnDurable
end
end Go.Proofs.YtflbidbilgndeaaGreatDoor
