import Derived.Test.YtejebmgbenmimaaGreatDoorTie
import Derived.Test.YtejebmgbenmimaaGreatDoorCards
import Derived.Test.YtejebmgbenmimaaGreatDoorJ49
import Derived.Test.YtejebmgbenmimaaGreatDoorJ50
import Derived.Test.YtejebmgbenmimaaGreatDoorJ18
import Derived.OpenVars
set_option maxRecDepth 100000
set_option linter.unusedVariables false
namespace Go.Proofs.YtejebmgbenmimaaGreatDoor
open Go.RowKit
section
open Go.ChangeShapes Go.WideShapes Go.ChangeAt
theorem own:ownKnob Tryz.prog.godebug=none:=by kernel_rfl
theorem laidOut:laidOutB Tryz.prog=true:=by kernel_rfl
theorem aIb:(Rows.laid_unicode_utf8_acceptRanges:DataW Unit)=Lib.acceptData:=by kernel_rfl
theorem aIp:Rows.laid_unicode_utf8_first=Lib.firstData:=by kernel_rfl
theorem qn : "*" ++ "errors.errorString" = "*errors.errorString" := by decide
theorem aKb(u : TypeId)(h : Tryz.prog.typeName? 3 u = some "*errors.errorString") : u = 408 :=
 typeName_ptr_named (nm := "errors.errorString") (by rw [qn]; kernel_rfl) (by kernel_rfl) (by decide) u (by rw [qn]; exact h)
theorem LY{W:World}(h:laidMetH Tryz.prog Rows.fnCheckpointRow.laid W):iH W/\kI W/\eR W/\VS W:=by
 rw [MakeChecks.laidMetH_plain _ _ _ (by kernel_rfl)] at h;have b : laidMet Tryz.prog (("internal/strconv.uint64pow10", Lib.tabData .u64 Lib.pow10Tab) :: _) W := laidMet.tail (laidMet.tail h)
 have e : Lib.VarReads Tryz.prog W "unicode/utf8.acceptRanges" Lib.acceptData := aIb ▸ Lib.laidMet.reads (laidMet.tail b) (Kc ..)
 have c : laidMet Tryz.prog (("strconv.ErrSyntax", Rows.laid_strconv_ErrSyntax) :: _) W := laidMet.tail (laidMet.tail (laidMet.tail b))
 have d : laidMet Tryz.prog (("loop.example/s02176/impl.shapes", nf) :: _) W := aLu ▸ laidMet.tail c
 have f : Lib.VarReads Tryz.prog W "unicode/utf8.first" Lib.firstData := aIp ▸ Lib.laidMet.reads (laidMet.tail d) (Kc ..)
 obtain⟨a,s,i,_,_,_⟩:=laid_sentinel (g:=4) (ti:=76) (tp:=408) (te:=410) (ts:=9) c (by kernel_rfl) (by kernel_rfl) Tryz.underlying76 aKb Tryz.underlying408 Tryz.underlying410 rfl rfl Tryz.underlying9 (by kernel_rfl) (by kernel_rfl);exact⟨utf8Tabs_of_reads (ρ:=Tryz.lays197_ren) { Tryz.lays197 with} ⟨by kernel_rfl,by kernel_rfl,by kernel_rfl,by kernel_rfl,by kernel_rfl,by kernel_rfl,by kernel_rfl⟩ f e,Lib.tabIs_of_head (g:=3) (t:=398) (by kernel_rfl) (by kernel_rfl) Tryz.underlying398 Tryz.underlying339 (by kernel_rfl) (by kernel_rfl) b,gh (Lib.laidMet.reads d (Kc ..)),_,_,i⟩
theorem CK(o:Os)(g:o.Started)(H:Type)(b:TypeId×Value->H):
 ReturnsInHanded {} Tryz.checked o 3 .any (λw args=>(Rows.fnCheckpointSpec.pre b Tryz.prog Tryz.f3 Rows.fnCheckpointRow.domain false w args/\laidMetH Tryz.prog Rows.fnCheckpointRow.laid w)/\sizedMet b Tryz.prog Tryz.f3 (OpenSpec.ofChange Rows.fnCheckpointSpec) false w args)
  (Rows.fnCheckpointSpec.post b Tryz.prog Tryz.f3 false true false false):=by
 refine returnsInHanded_of_change_and (C:=Tryz.checked) (X:=λw _=>laidMetH Tryz.prog Rows.fnCheckpointRow.laid w) (λ_ _ _ S h=>h.of_heap S) own g (by kernel_rfl) Tryz.func3
  (ChangeSpec.witness_shaped (enc:=b) (C:=Tryz.checked) (os:=o) (X:=λw _=>laidMetH Tryz.prog Rows.fnCheckpointRow.laid w) false (World.laidAll Tryz.prog o Rows.fnCheckpointRow.laid) #[.slice none 0 0] 8 (World.laidAll_os _ _ _)
   (World.shaped_of_ZipB (by kernel_rfl) (by kernel_rfl)) (by kernel_rfl) (by kernel_rfl) (by kernel_rfl)
   (by rw[MakeChecks.laidMetH_plain _ _ _ (by kernel_rfl)];exact laidMet_laidAll _ (by kernel_rfl) (by kernel_rfl))) ?_
 intro W base args M gs r d I J _ s _;have i:∀(j:Nat) t v,Tryz.f3.params[j]?=some t->args[j]?=some v->Value.okWide Tryz.prog W .any base t v:=d;have y:=I;obtain⟨p,q,l,G,rfl,R,V⟩:=I;have F:DataW.TrodAll b Tryz.prog W 0 (λ_=>true) true Tryz.f3.params.toList args.toList M p:=l;rw[Tryz.params3]at F i;obtain⟨B,vs0,d0,N,Z,q0,z,rfl,rfl,E,r0⟩:=trodAll_cons F;obtain⟨rfl,rfl,rfl⟩:=trodAll_nil r0;obtain rfl:args=#[B]:=by cases args;simp_all
 obtain⟨_,_,_,_,dv,_,rfl,_⟩:=trodVars_one G;have K:=E;have A:∀x∈Z,x.block<W.1.size:=by obtain⟨m,T⟩:=K;exact DataW.trod_lt m _ _ _ T
 obtain⟨a,n,L,rfl,U,O⟩:∃(a:nC)(n u:Nat),B=.slice a n u/\n<=maxLen/\aY W W.1.size W.1.size a n:=by
  have Y:=i 0 22 B rfl rfl;obtain⟨x,n,c,rfl⟩:=okWide_slice Tryz.underlying22 Y;obtain⟨D,Q⟩:=E;exact aGb Q
 clear l d;refine(LB a n L W O U (LY s).1 (LY s).2.1 (LY s).2.2.1 (LY s).2.2.2).mono λe W' ⟨P,k⟩=>?_;subst P;exact⟨_,rfl,_,_,_,[],_,_,y,trodAll_mk1 (shut_bool Tryz.underlying4 _),(trodAll_cons_mk (Below.trod laidOut (by kernel_rfl) (Wd (by kernel_rfl)) K k A) trodAll_mk0),Below.trodVars laidOut k (by kernel_rfl) G,k.frame _,λh=>by cases h⟩
theorem IA:Rows.FnCheckpointSaid:=
 OpenClaim.holds_of_wide 3 Tryz.f3 rfl rfl rfl rfl rfl rfl rfl ⟨rfl,rfl,rfl,rfl,rfl⟩ rfl rfl rfl rfl rfl (by kernel_rfl) Tryz.func3 BR
  (Wd (by kernel_rfl)) (by unfold Func.isWrapper;first|(rw[Ma (by decide+kernel)];kernel_rfl)|(rw[Ja (by decide+kernel)];exact⟨rfl,rfl⟩))
  (λc a H b _=>CK c a H b)
end
