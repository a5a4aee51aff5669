import Derived.Test.YtflbidbilgndeaaGreatDoorTie
import Derived.Test.YtflbidbilgndeaaGreatDoorCards
import Derived.Test.YtflbidbilgndeaaGreatDoorJ46
import Derived.Test.YtflbidbilgndeaaGreatDoorJ47
import Derived.Test.YtflbidbilgndeaaGreatDoorJ17
import Derived.OpenVars
set_option maxRecDepth 100000
set_option linter.unusedVariables false
namespace Go.Proofs.YtflbidbilgndeaaGreatDoor
open Go.RowKit
section
open Go.ChangeShapes Go.WideShapes Go.ChangeAt
theorem own:ownKnob Tryz.prog.godebug=none:=by kernel_rfl
theorem laidOut:laidOutB Tryz.prog=true:=by kernel_rfl
theorem aMe:(Rows.laid_unicode_utf8_acceptRanges:DataW Unit)=Lib.acceptData:=by kernel_rfl
theorem aMu:Rows.laid_unicode_utf8_first=Lib.firstData:=by kernel_rfl
theorem wu : "*" ++ "errors.errorString" = "*errors.errorString" := by decide
theorem aOa(u : TypeId)(h : Tryz.prog.typeName? 3 u = some "*errors.errorString") : u = 409 :=
 typeName_ptr_named (nm := "errors.errorString") (by rw [wu]; kernel_rfl) (by kernel_rfl) (by decide) u (by rw [wu]; exact h)
theorem OI{W:World}(h:laidMetH Tryz.prog Rows.fnDurableRow.laid W):uG W/\sI W/\fS W/\UA W:=by
 rw [MakeChecks.laidMetH_plain _ _ _ (by kernel_rfl)] at h;have b : laidMet Tryz.prog (("internal/strconv.uint64pow10", Lib.tabData .u64 Lib.pow10Tab) :: _) W := laidMet.tail (laidMet.tail h)
 have e : Lib.VarReads Tryz.prog W "unicode/utf8.acceptRanges" Lib.acceptData := aMe ▸ Lib.laidMet.reads (laidMet.tail b) (Kc ..)
 have c : laidMet Tryz.prog (("strconv.ErrSyntax", Rows.laid_strconv_ErrSyntax) :: _) W := laidMet.tail (laidMet.tail (laidMet.tail b))
 have d : laidMet Tryz.prog (("loop.example/s02176/impl.shapes", sy) :: _) W := aPy ▸ laidMet.tail c
 have f : Lib.VarReads Tryz.prog W "unicode/utf8.first" Lib.firstData := aMu ▸ Lib.laidMet.reads (laidMet.tail d) (Kc ..)
 obtain⟨a,s,i,_,_,_⟩:=laid_sentinel (g:=3) (ti:=70) (tp:=409) (te:=411) (ts:=9) c (by kernel_rfl) (by kernel_rfl) Tryz.underlying70 aOa Tryz.underlying409 Tryz.underlying411 rfl rfl Tryz.underlying9 (by kernel_rfl) (by kernel_rfl);exact⟨utf8Tabs_of_reads (ρ:=Tryz.lays197_ren) { Tryz.lays197 with} ⟨by kernel_rfl,by kernel_rfl,by kernel_rfl,by kernel_rfl,by kernel_rfl,by kernel_rfl,by kernel_rfl⟩ f e,Lib.tabIs_of_head (g:=5) (t:=404) (by kernel_rfl) (by kernel_rfl) Tryz.underlying404 Tryz.underlying331 (by kernel_rfl) (by kernel_rfl) b,mf (Lib.laidMet.reads d (Kc ..)),_,_,i⟩
theorem NL(o:Os)(g:o.Started)(H:Type)(b:TypeId×Value->H):
 ReturnsInHanded {} Tryz.checked o 3 .any (λw args=>(Rows.fnDurableSpec.pre b Tryz.prog Tryz.f3 Rows.fnDurableRow.domain false w args/\laidMetH Tryz.prog Rows.fnDurableRow.laid w)/\sizedMet b Tryz.prog Tryz.f3 (OpenSpec.ofChange Rows.fnDurableSpec) false w args)
  (Rows.fnDurableSpec.post b Tryz.prog Tryz.f3 false true false false):=by
 refine returnsInHanded_of_change_and (C:=Tryz.checked) (X:=λw _=>laidMetH Tryz.prog Rows.fnDurableRow.laid w) (λ_ _ _ S h=>h.of_heap S) own g (by kernel_rfl) Tryz.func3
  (ChangeSpec.witness_shaped (enc:=b) (C:=Tryz.checked) (os:=o) (X:=λw _=>laidMetH Tryz.prog Rows.fnDurableRow.laid w) false (World.laidAll Tryz.prog o Rows.fnDurableRow.laid) #[.slice none 0 0] 8 (World.laidAll_os _ _ _)
   (World.shaped_of_ZipB (by kernel_rfl) (by kernel_rfl)) (by kernel_rfl) (by kernel_rfl) (by kernel_rfl)
   (by rw[MakeChecks.laidMetH_plain _ _ _ (by kernel_rfl)];exact laidMet_laidAll _ (by kernel_rfl) (by kernel_rfl))) ?_
 intro W base args M gs r d I J _ s _;have i:∀(j:Nat) t v,Tryz.f3.params[j]?=some t->args[j]?=some v->Value.okWide Tryz.prog W .any base t v:=d;have y:=I;obtain⟨p,q,l,G,rfl,R,V⟩:=I;have F:DataW.TrodAll b Tryz.prog W 0 (λ_=>true) true Tryz.f3.params.toList args.toList M p:=l;rw[Tryz.params3]at F i;obtain⟨B,vs0,d0,N,Z,q0,z,rfl,rfl,E,r0⟩:=trodAll_cons F;obtain⟨rfl,rfl,rfl⟩:=trodAll_nil r0;obtain rfl:args=#[B]:=by cases args;simp_all
 obtain⟨_,_,_,_,dv,_,rfl,_⟩:=trodVars_one G;have K:=E;have A:∀x∈Z,x.block<W.1.size:=by obtain⟨m,T⟩:=K;exact DataW.trod_lt m _ _ _ T
 obtain⟨a,n,L,rfl,U,O⟩:∃(a:mC)(n u:Nat),B=.slice a n u/\n<=maxLen/\UC W W.1.size W.1.size a n:=by
  have Y:=i 0 22 B rfl rfl;obtain⟨x,n,c,rfl⟩:=okWide_slice Tryz.underlying22 Y;obtain⟨D,Q⟩:=E;exact aKh Q
 clear l d;refine(bd a n L W O U (OI s).1 (OI s).2.1 (OI s).2.2.1 (OI s).2.2.2).mono λe W' ⟨P,k⟩=>?_;subst P;exact⟨_,rfl,_,_,_,[],_,_,y,trodAll_mk1 (shut_bool Tryz.underlying4 _),(trodAll_cons_mk (Below.trod laidOut (by kernel_rfl) (Wd (by kernel_rfl)) K k A) trodAll_mk0),Below.trodVars laidOut k (by kernel_rfl) G,k.frame _,λh=>by cases h⟩
theorem UT:Rows.FnDurableSaid:=
 OpenClaim.holds_of_wide 3 Tryz.f3 rfl rfl rfl rfl rfl rfl rfl ⟨rfl,rfl,rfl,rfl,rfl⟩ rfl rfl rfl rfl rfl (by kernel_rfl) Tryz.func3 NC
  (Wd (by kernel_rfl)) (by unfold Func.isWrapper;first|(rw[Ma (by decide+kernel)];kernel_rfl)|(rw[Ja (by decide+kernel)];exact⟨rfl,rfl⟩))
  (λc a H b _=>NL c a H b)
end
