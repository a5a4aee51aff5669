import Derived.Test.YtbfnhppoecdnoaaGreatDoorTie
import Derived.Test.YtbfnhppoecdnoaaGreatDoorCards
import Derived.Test.YtbfnhppoecdnoaaGreatDoorJ52
import Derived.Test.YtbfnhppoecdnoaaGreatDoorJ05
import Derived.Test.YtbfnhppoecdnoaaGreatDoorJ22
import Derived.ShutString
import Derived.OpenVars
set_option maxRecDepth 100000
set_option linter.unusedVariables false
namespace Go.Proofs.YtbfnhppoecdnoaaGreatDoor
open Go.RowKit
section
open Go.ChangeShapes Go.WideShapes Go.ChangeAt
open Go.ChangeMaps (open_string shut_string)
theorem own:ownKnob Tryz.prog.godebug=none:=by kernel_rfl
theorem laidOut:laidOutB Tryz.prog=true:=by kernel_rfl
theorem aRf:(Rows.laid_unicode_utf8_acceptRanges:DataW Unit)=Lib.acceptData:=by kernel_rfl
theorem aRl:Rows.laid_unicode_utf8_first=Lib.firstData:=by kernel_rfl
theorem je{W:World}(h:laidMetH Tryz.prog Rows.fnExactHandleRow.laid W):vH W/\oL W/\wO W:=by
 rw [MakeChecks.laidMetH_plain _ _ _ (by kernel_rfl)] at h;have a : laidMet Tryz.prog (("internal/strconv.uint64pow10", Lib.tabData .u64 Lib.pow10Tab) :: _) W := laidMet.tail (laidMet.tail h)
 have b : Lib.VarReads Tryz.prog W "unicode/utf8.acceptRanges" Lib.acceptData := aRf ▸ Lib.laidMet.reads (laidMet.tail a) (Kc ..)
 have d : Lib.VarReads Tryz.prog W "loop.example/s02176/impl.shapes" zu := aUk ▸ Lib.laidMet.reads (laidMet.tail a) (Sb _ (Kc ..))
 have c : Lib.VarReads Tryz.prog W "unicode/utf8.first" Lib.firstData := aRl ▸ Lib.laidMet.reads (laidMet.tail a) (Sb _ (Sb _ (Kc ..)))
 exact⟨utf8Tabs_of_reads (ρ:=Tryz.lays197_ren) { Tryz.lays197 with} ⟨by kernel_rfl,by kernel_rfl,by kernel_rfl,by kernel_rfl,by kernel_rfl,by kernel_rfl,by kernel_rfl⟩ c b,Lib.tabIs_of_head (g:=5) (t:=408) (by kernel_rfl) (by kernel_rfl) Tryz.underlying408 Tryz.underlying279 (by kernel_rfl) (by kernel_rfl) a,ru d⟩
theorem fk(r:Os)(l:r.Started)(H:Type)(g:TypeId×Value->H):
 ReturnsInHanded {} Tryz.checked r 3 .any (λw args=>(Rows.fnExactHandleSpec.pre g Tryz.prog Tryz.f3 Rows.fnExactHandleRow.domain false w args/\laidMetH Tryz.prog Rows.fnExactHandleRow.laid w)/\sizedMet g Tryz.prog Tryz.f3 (OpenSpec.ofChange Rows.fnExactHandleSpec) false w args)
  (Rows.fnExactHandleSpec.post g Tryz.prog Tryz.f3 false true false false):=by
 refine returnsInHanded_of_change_and (C:=Tryz.checked) (X:=λw _=>laidMetH Tryz.prog Rows.fnExactHandleRow.laid w) (λ_ _ _ hh h=>h.of_heap hh) own l (by kernel_rfl) Tryz.func3
  (ChangeSpec.witness_shaped (enc:=g) (C:=Tryz.checked) (os:=r) (X:=λw _=>laidMetH Tryz.prog Rows.fnExactHandleRow.laid w) false (World.laidAll Tryz.prog r Rows.fnExactHandleRow.laid) #[.agg #[.int .i64 0,.int .i64 0,.int .i64 0,.int .i64 0,.int .i64 0,.int .i64 0],.agg #[.slice none 0 0,.int .i64 0,.int .i64 0,.int .i64 0,.int .i64 0,.bool false,.int .i64 0,.int .i64 0,.int .i64 0,.int .i64 0,.slice none 0 0,.int .i64 0,.bool false,.bool false],.string ByteArray.empty] 8 (World.laidAll_os _ _ _)
   (World.shaped_of_ZipB (by kernel_rfl) (by kernel_rfl)) (by kernel_rfl) (by kernel_rfl) (by kernel_rfl)
   (by rw[MakeChecks.laidMetH_plain _ _ _ (by kernel_rfl)];exact laidMet_laidAll _ (by kernel_rfl) (by kernel_rfl))) ?_
 intro W base args Y gs u k L M _ y _;have d:∀(j:Nat) t v,Tryz.f3.params[j]?=some t->args[j]?=some v->Value.okWide Tryz.prog W .any base t v:=k;have z:=L;obtain⟨p,q,n,K,rfl,hfz,hnd⟩:=L;have J:DataW.TrodAll g Tryz.prog W 0 (λ_=>true) true Tryz.f3.params.toList args.toList Y p:=n;rw[Tryz.params3]at J d;obtain⟨R,vs0,d0,Z,p0,q0,A,rfl,rfl,F,r0⟩:=trodAll_cons J;obtain⟨S,vs1,d1,a0,p1,q1,rfl,rfl,rfl,G,r1⟩:=trodAll_cons r0;obtain⟨T,vs2,d2,b0,p2,q2,rfl,rfl,rfl,I,r2⟩:=trodAll_cons r1;obtain⟨rfl,rfl,rfl⟩:=trodAll_nil r2;obtain rfl:args=#[R,S,T]:=by cases args;simp_all
 obtain⟨_,_,_,_,dv,_,rfl,_⟩:=trodVars_one K;have O:=F;have P:=G;have Q:=I;have E:∀x∈p2,x.block<W.1.size:=by obtain⟨m,o⟩:=Q;exact DataW.trod_lt m _ _ _ o
 have D:∀x∈p1,x.block<W.1.size:=by obtain⟨m,o⟩:=P;exact DataW.trod_lt m _ _ _ o
 have B:∀x∈p0,x.block<W.1.size:=by obtain⟨m,o⟩:=O;exact DataW.trod_lt m _ _ _ o
 obtain⟨c,rfl⟩:=qq (d 0 23 R rfl rfl) F;obtain⟨a,b,U,V,N,rfl,n1,n2,n3,n4,n5,n6,n7,n8,n9⟩:=aGq (d 1 33 S rfl rfl) G;obtain⟨s,rfl,_,_,_⟩:=open_string Tryz.underlying9 (d 2 9 T rfl rfl) I;clear n k;refine(aRx c a b U V N s W (je y).2.1 (je y).1 (je y).2.2 n1 n2 n3 n4 n5 n9 n6 n7 n8).mono λe W' ⟨he,i⟩=>?_;subst he;exact⟨_,rfl,_,_,_,[],_,_,z,trodAll_mk1 (shut_bool Tryz.underlying4 _),(trodAll_cons_mk (Below.trod laidOut (by kernel_rfl) (Wd (by kernel_rfl)) O i B) (trodAll_cons_mk (Below.trod laidOut (by kernel_rfl) (Wd (by kernel_rfl)) P i D) (trodAll_cons_mk (Below.trod laidOut (by kernel_rfl) (Wd (by kernel_rfl)) Q i E) trodAll_mk0))),Below.trodVars laidOut i (by kernel_rfl) K,i.frame _,λh=>by cases h⟩
theorem ze:Rows.FnExactHandleSaid:=
 OpenClaim.holds_of_wide 3 Tryz.f3 rfl rfl rfl rfl rfl rfl rfl ⟨rfl,rfl,rfl,rfl,rfl⟩ rfl rfl rfl rfl rfl (by kernel_rfl) Tryz.func3 da
  (Wd (by kernel_rfl)) (by unfold Func.isWrapper;first|(rw[Ma (by decide+kernel)];kernel_rfl)|(rw[Ja (by decide+kernel)];exact⟨rfl,rfl⟩))
  (λc a H b _=>fk c a H b)
end
