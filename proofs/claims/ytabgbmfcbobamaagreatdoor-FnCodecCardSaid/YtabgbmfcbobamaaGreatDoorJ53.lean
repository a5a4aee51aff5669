import Derived.Test.YtabgbmfcbobamaaGreatDoorTie
import Derived.Test.YtabgbmfcbobamaaGreatDoorCards
import Derived.Test.YtabgbmfcbobamaaGreatDoorJ52
import Derived.Test.YtabgbmfcbobamaaGreatDoorJ54
import Derived.OpenVars
set_option maxRecDepth 100000
set_option linter.unusedVariables false
namespace Go.Proofs.YtabgbmfcbobamaaGreatDoor
open Go.RowKit
section
open Go.ChangeShapes Go.WideShapes Go.ChangeAt
theorem own:ownKnob Tryz.prog.godebug=none:=by kernel_rfl
theorem laidOut:laidOutB Tryz.prog=true:=by kernel_rfl
theorem aDn:(Rows.laid_unicode_utf8_acceptRanges:DataW Unit)=Lib.acceptData:=by kernel_rfl
theorem aEb:Rows.laid_unicode_utf8_first=Lib.firstData:=by kernel_rfl
theorem kr {W:World} (h:laidMetH Tryz.prog Rows.fnCodecRow.laid W):xI W/\tN W:=by
 rw [MakeChecks.laidMetH_plain _ _ _ (by kernel_rfl)] at h;have a : Lib.VarReads Tryz.prog W "unicode/utf8.acceptRanges" Lib.acceptData := aDn ▸ Lib.laidMet.reads h (Pb ..)
 have c : Lib.VarReads Tryz.prog W "loop.example/s02176/impl.shapes" gm := aGn ▸ Lib.laidMet.reads h (Cb _ (Pb ..))
 have b : Lib.VarReads Tryz.prog W "unicode/utf8.first" Lib.firstData := aEb ▸ Lib.laidMet.reads h (Cb _ (Cb _ (Pb ..)))
 exact⟨utf8Tabs_of_reads (ρ:=Tryz.lays197_ren) { Tryz.lays197 with} ⟨by kernel_rfl,by kernel_rfl,by kernel_rfl,by kernel_rfl,by kernel_rfl,by kernel_rfl,by kernel_rfl⟩ b a,bm c⟩
theorem NJ (z:Os) (k:z.Started) (H:Type) (d:TypeId×Value->H):
 ReturnsInHanded {} Tryz.checked z 3 .any (fun w args=>(Rows.fnCodecSpec.pre d Tryz.prog Tryz.f3 Rows.fnCodecRow.domain false w args/\laidMetH Tryz.prog Rows.fnCodecRow.laid w)/\sizedMet d Tryz.prog Tryz.f3 (OpenSpec.ofChange Rows.fnCodecSpec) false w args)
  (Rows.fnCodecSpec.post d Tryz.prog Tryz.f3 false true false false):=by
 refine returnsInHanded_of_change_and (C:=Tryz.checked) (X:=fun w _=>laidMetH Tryz.prog Rows.fnCodecRow.laid w) (fun _ _ _ hh h=>h.of_heap hh) own k (by kernel_rfl) Tryz.func3
  (ChangeSpec.witness_shaped (enc:=d) (C:=Tryz.checked) (os:=z) (X:=fun w _=>laidMetH Tryz.prog Rows.fnCodecRow.laid w) false (World.laidAll Tryz.prog z Rows.fnCodecRow.laid) #[.slice none 0 0,.slice none 0 0] 8 (World.laidAll_os _ _ _)
   (World.shaped_of_ZipB (by kernel_rfl) (by kernel_rfl)) (by kernel_rfl) (by kernel_rfl) (by kernel_rfl)
   (by rw[MakeChecks.laidMetH_plain _ _ _ (by kernel_rfl)];exact laidMet_laidAll _ (by kernel_rfl) (by kernel_rfl))) ?_
 intro W r args Z gs A i R S _ P _;have g:∀(j:Nat) t v,Tryz.f3.params[j]?=some t->args[j]?=some v->Value.okWide Tryz.prog W .any r t v:=i;have D:=R;obtain⟨p,q,u,Q,rfl,hfz,hnd⟩:=R;have O:DataW.TrodAll d Tryz.prog W 0 (fun _=>true) true Tryz.f3.params.toList args.toList Z p:=u;rw[Tryz.params3]at O g;obtain⟨K,vs0,d0,a0,p0,q0,E,rfl,rfl,M,r0⟩:=trodAll_cons O;obtain⟨L,vs1,d1,b0,p1,q1,rfl,rfl,rfl,N,r1⟩:=trodAll_cons r0;obtain⟨rfl,rfl,rfl⟩:=trodAll_nil r1;obtain rfl:args=#[K,L]:=by cases args;simp_all
 obtain⟨_,_,_,_,dv,_,rfl,_⟩:=trodVars_one Q;have T:=M;have U:=N;have I:∀x∈p0,x.block<W.heap.size:=by obtain⟨m,y⟩:=T;exact DataW.trod_lt m _ _ _ y
 have J:∀x∈p1,x.block<W.heap.size:=by obtain⟨m,y⟩:=U;exact DataW.trod_lt m _ _ _ y
 obtain⟨a,n,Y,rfl,hn,hU⟩:∃(a:Option Addr) (n o:Nat),K=.slice a n o/\n<=maxLen/\gO W W.heap.size W.heap.size a n:=by
  have G:=g 0 22 K rfl rfl;obtain⟨x,n,c,rfl⟩:=okWide_slice Tryz.underlying22 G;obtain⟨s,F⟩:=M;exact ju F
 obtain⟨b,m,V,rfl,y,B⟩:∃(a:Option Addr) (n o:Nat),L=.slice a n o/\n<=maxLen/\gO W W.heap.size W.heap.size a n:=by
  have G:=g 1 22 L rfl rfl;obtain⟨x,n,c,rfl⟩:=okWide_slice Tryz.underlying22 G;obtain⟨s,F⟩:=N;exact ju F
 clear u i;refine(fk a b n Y m V W hU B hn y (kr P).1 (kr P).2).mono fun e W' ⟨he,l⟩=>?_;subst he;exact⟨_,rfl,_,_,_,[],_,_,D,trodAll_mk1 (shut_bool Tryz.underlying4 _),(trodAll_cons_mk (Below.trod laidOut (by kernel_rfl) (Fe (by kernel_rfl)) T l I) (trodAll_cons_mk (Below.trod laidOut (by kernel_rfl) (Fe (by kernel_rfl)) U l J) trodAll_mk0)),Below.trodVars laidOut l (by kernel_rfl) Q,l.frame _,fun h=>by cases h⟩
theorem ZZ:Rows.FnCodecSaid:=
 OpenClaim.holds_of_wide 3 Tryz.f3 rfl rfl rfl rfl rfl rfl rfl ⟨rfl,rfl,rfl,rfl,rfl⟩ rfl rfl rfl rfl rfl (by kernel_rfl) Tryz.func3 MX
  (Fe (by kernel_rfl)) (by unfold Func.isWrapper;first|(rw[Qa (by decide+kernel)];kernel_rfl)|(rw[Oa (by decide+kernel)];exact⟨rfl,rfl⟩))
  (fun c a H b _=>NJ c a H b)
theorem provedFnCodec:Rows.FnCodecCardSaid:=
 Claim7.holds_tied_plain_at .later [] [.data,.wider,.pinned] true _ false ZZ (fun _ h=>by cases h) (by kernel_rfl) (fun _ h=>by cases h) fnCodec_row_tie rfl ⟨rfl,rfl⟩ (by kernel_rfl) rfl
  (fun f d e b=>by
   obtain rfl : f = 3 := Jd ((show Tryz.prog.funcNamed "loop.example/s02176/laws.FnCodec" = some 3 by kernel_rfl).symm.trans e) |>.symm
   obtain rfl:d=Tryz.f3:=(Jd (Tryz.func3.symm.trans b)).symm;exact⟨by kernel_rfl,fun j t c=>by
    rw[Tryz.params3]at c;have g:t∈[22,22]:=by simpa using Ng c
    have a:([22,22].all fun u=>!Tryz.prog.wantsStandIn u)=true:=by kernel_rfl
    exact(show Tryz.prog.wantsStandIn t=false by simpa using Wd.1 a t g)⟩)
  (by kernel_rfl)
#print axioms provedFnCodec
end
end Go.Proofs.YtabgbmfcbobamaaGreatDoor
