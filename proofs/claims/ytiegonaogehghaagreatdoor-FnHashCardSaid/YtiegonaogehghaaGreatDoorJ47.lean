import Derived.Test.YtiegonaogehghaaGreatDoorTie
import Derived.Test.YtiegonaogehghaaGreatDoorCards
import Derived.Test.YtiegonaogehghaaGreatDoorJ46
import Derived.Test.YtiegonaogehghaaGreatDoorJ04
import Derived.Test.YtiegonaogehghaaGreatDoorJ19
import Derived.OpenVars
set_option maxRecDepth 100000
set_option linter.unusedVariables false
namespace Go.Proofs.YtiegonaogehghaaGreatDoor
open Go.RowKit
section
open Go.ChangeShapes Go.WideShapes Go.ChangeAt
theorem own:ownKnob Tryz.prog.godebug=none:=by kernel_rfl
theorem laidOut:laidOutB Tryz.prog=true:=by kernel_rfl
theorem aKf:(Rows.laid_unicode_utf8_acceptRanges:DataW Unit)=Lib.acceptData:=by kernel_rfl
theorem aKr:Rows.laid_unicode_utf8_first=Lib.firstData:=by kernel_rfl
theorem ak{W:World}(h:laidMetH Tryz.prog Rows.fnHashRow.laid W):bH W/\cJ W/\iR W:=by
 rw [MakeChecks.laidMetH_plain _ _ _ (by kernel_rfl)] at h;have a : laidMet Tryz.prog (("internal/strconv.uint64pow10", Lib.tabData .u64 Lib.pow10Tab) :: _) W := laidMet.tail (laidMet.tail h)
 have c : Lib.VarReads Tryz.prog W "unicode/utf8.acceptRanges" Lib.acceptData := aKf ▸ Lib.laidMet.reads (laidMet.tail a) (Kc ..)
 have b : laidMet Tryz.prog (("loop.example/s02176/impl.shapes", qa) :: _) W := aNq ▸ laidMet.tail (laidMet.tail (laidMet.tail (laidMet.tail a)))
 have d : Lib.VarReads Tryz.prog W "unicode/utf8.first" Lib.firstData := aKr ▸ Lib.laidMet.reads (laidMet.tail b) (Kc ..)
 exact⟨utf8Tabs_of_reads (ρ:=Tryz.lays197_ren) { Tryz.lays197 with} ⟨by kernel_rfl,by kernel_rfl,by kernel_rfl,by kernel_rfl,by kernel_rfl,by kernel_rfl,by kernel_rfl⟩ d c,Lib.tabIs_of_head (g:=5) (t:=404) (by kernel_rfl) (by kernel_rfl) Tryz.underlying404 Tryz.underlying193 (by kernel_rfl) (by kernel_rfl) a,je (Lib.laidMet.reads b (Kc ..))⟩
theorem YT(o:Os)(g:o.Started)(H:Type)(b:TypeId×Value->H):
 ReturnsInHanded {} Tryz.checked o 3 .any (λw args=>(Rows.fnHashSpec.pre b Tryz.prog Tryz.f3 Rows.fnHashRow.domain false w args/\laidMetH Tryz.prog Rows.fnHashRow.laid w)/\sizedMet b Tryz.prog Tryz.f3 (OpenSpec.ofChange Rows.fnHashSpec) false w args)
  (Rows.fnHashSpec.post b Tryz.prog Tryz.f3 false true false false):=by
 refine returnsInHanded_of_change_and (C:=Tryz.checked) (X:=λw _=>laidMetH Tryz.prog Rows.fnHashRow.laid w) (λ_ _ _ S h=>h.of_heap S) own g (by kernel_rfl) Tryz.func3
  (ChangeSpec.witness_shaped (enc:=b) (C:=Tryz.checked) (os:=o) (X:=λw _=>laidMetH Tryz.prog Rows.fnHashRow.laid w) false (World.laidAll Tryz.prog o Rows.fnHashRow.laid) #[.slice none 0 0] 8 (World.laidAll_os _ _ _)
   (World.shaped_of_ZipB (by kernel_rfl) (by kernel_rfl)) (by kernel_rfl) (by kernel_rfl) (by kernel_rfl)
   (by rw[MakeChecks.laidMetH_plain _ _ _ (by kernel_rfl)];exact laidMet_laidAll _ (by kernel_rfl) (by kernel_rfl))) ?_
 intro W base args M gs r d I J _ u _;have i:∀(j:Nat) t v,Tryz.f3.params[j]?=some t->args[j]?=some v->Value.okWide Tryz.prog W .any base t v:=d;have y:=I;obtain⟨p,q,l,G,rfl,R,V⟩:=I;have F:DataW.TrodAll b Tryz.prog W 0 (λ_=>true) true Tryz.f3.params.toList args.toList M p:=l;rw[Tryz.params3]at F i;obtain⟨B,vs0,d0,N,Z,q0,z,rfl,rfl,E,r0⟩:=trodAll_cons F;obtain⟨rfl,rfl,rfl⟩:=trodAll_nil r0;obtain rfl:args=#[B]:=by cases args;simp_all
 obtain⟨_,_,_,_,dv,_,rfl,_⟩:=trodVars_one G;have K:=E;have A:∀x∈Z,x.block<W.1.size:=by obtain⟨m,T⟩:=K;exact DataW.trod_lt m _ _ _ T
 obtain⟨a,n,L,rfl,U,O⟩:∃(a:jC)(n s:Nat),B=.slice a n s/\n<=maxLen/\tX W W.1.size W.1.size a n:=by
  have Y:=i 0 22 B rfl rfl;obtain⟨x,n,c,rfl⟩:=okWide_slice Tryz.underlying22 Y;obtain⟨D,Q⟩:=E;exact aIg Q
 clear l d;refine(yh a n L W O U (ak u).1 (ak u).2.1 (ak u).2.2).mono λe W' ⟨P,k⟩=>?_;subst P;exact⟨_,rfl,_,_,_,[],_,_,y,trodAll_mk1 (shut_bool Tryz.underlying4 _),(trodAll_cons_mk (Below.trod laidOut (by kernel_rfl) (Wd (by kernel_rfl)) K k A) trodAll_mk0),Below.trodVars laidOut k (by kernel_rfl) G,k.frame _,λh=>by cases h⟩
theorem pd:Rows.FnHashSaid:=
 OpenClaim.holds_of_wide 3 Tryz.f3 rfl rfl rfl rfl rfl rfl rfl ⟨rfl,rfl,rfl,rfl,rfl⟩ rfl rfl rfl rfl rfl (by kernel_rfl) Tryz.func3 XJ
  (Wd (by kernel_rfl)) (by unfold Func.isWrapper;first|(rw[Ma (by decide+kernel)];kernel_rfl)|(rw[Ja (by decide+kernel)];exact⟨rfl,rfl⟩))
  (λc a H b _=>YT c a H b)
end
