import Derived.Test.YtjpeimianeiegaaGreatDoorTie
import Derived.Test.YtjpeimianeiegaaGreatDoorCards
import Derived.Test.YtjpeimianeiegaaGreatDoorJ52
import Derived.Test.YtjpeimianeiegaaGreatDoorJ05
import Derived.PinnedBridge
import Derived.Lay
import Derived.Stop.LaidErr
set_option maxRecDepth 100000
set_option linter.unusedVariables false
namespace Go.Proofs.YtjpeimianeiegaaGreatDoor
open Go.RowKit
section
open Go.ChangeShapes Go.WideShapes Go.ChangeAt
open Go.ChangeMaps (open_string shut_string)
theorem own:ownKnob Tryz.prog.godebug=none:=by kernel_rfl
theorem laidOut:laidOutB Tryz.prog=true:=by kernel_rfl
theorem aNl:(Rows.laid_unicode_utf8_acceptRanges:DataW Unit)=Lib.acceptData:=by kernel_rfl
theorem aNt:Rows.laid_unicode_utf8_first=Lib.firstData:=by kernel_rfl
theorem yh : "*" ++ "errors.errorString" = "*errors.errorString" := by decide
theorem aIh (u : TypeId) (h : Tryz.prog.typeName? 3 u = some "*errors.errorString") : u = 356 :=
 typeName_ptr_named (nm := "errors.errorString") (by rw [yh]; kernel_rfl) (by kernel_rfl) (by decide) u (by rw [yh]; exact h)
theorem cz {W:World} (h:laidMetH Tryz.prog Rows.fnExactNodeOpenRow.laid W):dF W/\xI W/\oH W:=by
 rw [MakeChecks.laidMetH_plain _ _ _ (by kernel_rfl)] at h;have b : laidMet Tryz.prog (("internal/strconv.uint64pow10", Lib.tabData .u64 Lib.pow10Tab) :: _) W := laidMet.tail (laidMet.tail h)
 have f : Lib.VarReads Tryz.prog W "unicode/utf8.acceptRanges" Lib.acceptData := aNl ▸ Lib.laidMet.reads (laidMet.tail b) (Lb ..)
 have d : laidMet Tryz.prog (("strconv.ErrRange", Rows.laid_strconv_ErrRange) :: _) W := laidMet.tail (laidMet.tail b)
 have e : laidMet Tryz.prog (("strconv.ErrSyntax", Rows.laid_strconv_ErrSyntax) :: _) W := laidMet.tail d
 have i : Lib.VarReads Tryz.prog W "unicode/utf8.first" Lib.firstData := aNt ▸ Lib.laidMet.reads (laidMet.tail e) (Lb ..)
 refine⟨utf8Tabs_of_reads (ρ:=Tryz.lays197_ren) { Tryz.lays197 with} ⟨by kernel_rfl,by kernel_rfl,by kernel_rfl,by kernel_rfl,by kernel_rfl,by kernel_rfl,by kernel_rfl⟩ i f,Lib.tabIs_of_head (g:=2) (t:=348) (by kernel_rfl) (by kernel_rfl) Tryz.underlying348 Tryz.underlying281 (by kernel_rfl) (by kernel_rfl) b,?_⟩;obtain⟨a,s,j,_,_,_⟩:=laid_sentinel (g:=1) (ti:=79) (tp:=356) (te:=358) (ts:=9) d (by kernel_rfl) (by kernel_rfl) Tryz.underlying79 aIh Tryz.underlying356 Tryz.underlying358 rfl rfl Tryz.underlying9 (by kernel_rfl) (by kernel_rfl);obtain⟨k,l,c,_,_,_⟩:=laid_sentinel (g:=0) (ti:=79) (tp:=356) (te:=358) (ts:=9) e (by kernel_rfl) (by kernel_rfl) Tryz.underlying79 aIh Tryz.underlying356 Tryz.underlying358 rfl rfl Tryz.underlying9 (by kernel_rfl) (by kernel_rfl);exact⟨⟨_,_,c⟩,⟨_,_,j⟩⟩
theorem QE (n:Os) (i:n.Started) (H:Type) (b:TypeId×Value->H):
 ReturnsInHanded {} Tryz.checked n 3 .any (fun w args=>(Rows.fnExactNodeOpenSpec.pre b Tryz.prog Tryz.f3 Rows.fnExactNodeOpenRow.domain false w args/\laidMetH Tryz.prog Rows.fnExactNodeOpenRow.laid w)/\sizedMet b Tryz.prog Tryz.f3 (OpenSpec.ofChange Rows.fnExactNodeOpenSpec) false w args)
  (Rows.fnExactNodeOpenSpec.post b Tryz.prog Tryz.f3 false true false false):=by
 refine returnsInHanded_of_change_and (C:=Tryz.checked) (X:=fun w _=>laidMetH Tryz.prog Rows.fnExactNodeOpenRow.laid w) (fun _ _ _ hh h=>h.of_heap hh) own i (by kernel_rfl) Tryz.func3
  (ChangeSpec.witness_shaped (enc:=b) (C:=Tryz.checked) (os:=n) (X:=fun w _=>laidMetH Tryz.prog Rows.fnExactNodeOpenRow.laid w) false (World.laidAll Tryz.prog n Rows.fnExactNodeOpenRow.laid) #[.agg #[.int .i64 0,.int .i64 0,.int .i64 0,.int .i64 0,.int .i64 0,.int .i64 0],.agg #[.slice none 0 0,.int .i64 0,.int .i64 0,.int .i64 0,.int .i64 0,.bool false]] 8 (World.laidAll_os _ _ _)
   (World.shaped_of_ZipB (by kernel_rfl) (by kernel_rfl)) (by kernel_rfl) (by kernel_rfl) (by kernel_rfl)
   (by rw[MakeChecks.laidMetH_plain _ _ _ (by kernel_rfl)];exact laidMet_laidAll _ (by kernel_rfl) (by kernel_rfl))) ?_
 intro W base args R gs o g G I _ s _;have d:∀(j:Nat) t v,Tryz.f3.params[j]?=some t->args[j]?=some v->Value.okWide Tryz.prog W .any base t v:=g;have u:=G;obtain⟨p,q,l,hV,rfl,hfz,hnd⟩:=G;have F:DataW.TrodAll b Tryz.prog W 0 (fun _=>true) true Tryz.f3.params.toList args.toList R p:=l;rw[Tryz.params3]at F d;obtain⟨L,vs0,d0,S,p0,q0,y,rfl,rfl,D,r0⟩:=trodAll_cons F;obtain⟨M,vs1,d1,T,p1,q1,rfl,rfl,rfl,E,r1⟩:=trodAll_cons r0;obtain⟨rfl,rfl,rfl⟩:=trodAll_nil r1;obtain rfl:args=#[L,M]:=by cases args;simp_all
 obtain⟨rfl,rfl⟩:=trodVars_none hV;have J:=D;have K:=E;have B:∀x∈p1,x.block<W.heap.size:=by obtain⟨m,z⟩:=K;exact DataW.trod_lt m _ _ _ z
 have A:∀x∈p0,x.block<W.heap.size:=by obtain⟨m,z⟩:=J;exact DataW.trod_lt m _ _ _ z
 obtain⟨c,rfl⟩:=lr (d 0 23 L rfl rfl) D;obtain⟨a,r,V,O,P,N,U,Q,rfl,Y,hS,Z,_,_,_,_⟩:=aCm (d 1 26 M rfl rfl) E;clear l g;refine(aOc c a r ⟨V,O,P,N,U,Q⟩ W (cz s).2.2 (cz s).1 (cz s).2.1 Y hS Z).mono fun e W' ⟨he,k⟩=>?_;subst he;exact⟨_,rfl,_,_,_,[],_,[],u,trodAll_mk1 (shut_bool Tryz.underlying4 _),(trodAll_cons_mk (Below.trod laidOut (by kernel_rfl) (Qe (by kernel_rfl)) J k A) (trodAll_cons_mk (Below.trod laidOut (by kernel_rfl) (Qe (by kernel_rfl)) K k B) trodAll_mk0)),rfl,k.frame _,fun h=>by cases h⟩
theorem ao:Rows.FnExactNodeOpenSaid:=
 OpenClaim.holds_of_wide 3 Tryz.f3 rfl rfl rfl rfl rfl rfl rfl ⟨rfl,rfl,rfl,rfl,rfl⟩ rfl rfl rfl rfl rfl (by kernel_rfl) Tryz.func3 NR
  (Qe (by kernel_rfl)) (by unfold Func.isWrapper;first|(rw[Ga (by decide+kernel)];kernel_rfl)|(rw[Ca (by decide+kernel)];exact⟨rfl,rfl⟩))
  (fun c a H b _=>QE c a H b)
theorem provedNodeOpen:Rows.FnExactNodeOpenCardSaid:=
 Claim7.holds_tied_plain_at .later [] [.data,.data,.data,.data,.sentinel,.sentinel,.pinned] true _ true ao (fun _ h=>by cases h) (by kernel_rfl) (fun _ h=>by cases h) fnExactNodeOpen_row_tie rfl ⟨rfl,rfl⟩ (by kernel_rfl) rfl
  (fun f d e b=>by
   obtain rfl : f = 3 := Qc ((show Tryz.prog.funcNamed "loop.example/s02176/laws.FnExactNodeOpen" = some 3 by kernel_rfl).symm.trans e) |>.symm
   obtain rfl:d=Tryz.f3:=(Qc (Tryz.func3.symm.trans b)).symm;exact⟨by kernel_rfl,fun j t c=>by
    rw[Tryz.params3]at c;have g:t∈[23,26]:=by simpa using Array.mem_of_getElem? c
    have a:([23,26].all fun u=>!Tryz.prog.wantsStandIn u)=true:=by kernel_rfl
    exact(show Tryz.prog.wantsStandIn t=false by simpa using Vd.1 a t g)⟩)
  (by kernel_rfl)
#print axioms provedNodeOpen
end
end Go.Proofs.YtjpeimianeiegaaGreatDoor
