import Derived.Test.YtjpeimianeiegaaGreatDoorJ15
set_option maxRecDepth 100000
set_option maxHeartbeats 1000000
namespace Go.Proofs.YtjpeimianeiegaaGreatDoor
open Go.RowKit Tryz
def cC (k a b:Int) (c:Bool):Nat×Int×Bool:=
 if c=true then(1,k,true) else if k=1000000000000000 then(2,k,false) else if a≠0/\k+1=a then(1,k+1,true) else if b≠0/\k+1=b then(2,k+1,false) else(0,k+1,false)
theorem cV (D:Nat) (t:TypeId) (n o:Value) (k a b:Int) (f:Bool) (w:World) (g:lA w D #[.int .i64 k,.int .i64 a,.int .i64 b,.bool f,n,o] t) (B:0<=k) (C:k<=1000000000000000):
 Calls prog 127 #[.pointer (some ⟨D,0,none⟩)] w fun e r=>e=.returned (iG (cC k a b f).1)/\eD D w r/\lA r D #[.int .i64 (cC k a b f).2.1,.int .i64 a,.int .i64 b,.bool (cC k a b f).2.2,n,o] t:=by
 have u:=g.cell 0;have v:=g.cell 3;simp only[Xb,Kb,Fa]at u v;have H:=g.free 0;have m:(f=true/\cC k a b f=(1,k,true)\/(f=false/\k=1000000000000000)/\cC k a b f=(2,k,false))\/f=false/\¬k=1000000000000000:=by
  cases f<;>by_cases h:k=1000000000000000<;>simp[cC,h]
 rcases m with(⟨rfl,E⟩|⟨⟨rfl,rfl⟩,E⟩)|⟨rfl,M⟩
 iterate 2
  ·have E:=bA E
   have s:=bA g
   clear g
   go_enter func127,ntmps127
   go_wp2
   go_ret
   rw[E.out]
   exact⟨rfl,eD.refl _ _,s.out⟩
 have i:=g.set 0 (.int .i64 (k+1));have c:Hid (lA (w.setCell ⟨D,0,none⟩ (.int .i64 (k+1))) D #[.int .i64 (k+1),.int .i64 a,.int .i64 b,.bool false,n,o] t):=by show lA _ _ _ _;simpa using i
 clear g i;have x:=c.out.cell 0;have y:=c.out.cell 1;have z:=c.out.cell 2;have A:=c.out.cell 3;simp only[Xb,Kb,Fa]at x y z A;have G:=c.out.free 3;have d:=bA ((eD.refl D w).setCell 0 (.int .i64 (k+1)));have F:IntKind.i64.wrap (k+1)=k+1:=by rw[IntKind.wrap_i64];omega
 have m:(¬a=0/\k+1=a)/\cC k a b false=(1,k+1,true)\/(a=0\/¬a=0/\¬k+1=a)/\((¬b=0/\k+1=b)/\cC k a b false=(2,k+1,false)\/(b=0\/¬b=0/\¬k+1=b)/\cC k a b false=(0,k+1,false)):=by
  by_cases j:a=0<;>by_cases p:k+1=a<;>by_cases l:b=0<;>by_cases q:k+1=b<;>simp_all[cC]
 rcases m with⟨⟨j,rfl⟩,E⟩|⟨rfl|⟨j,p⟩,⟨⟨l,rfl⟩,E⟩|⟨rfl|⟨l,q⟩,E⟩⟩
 all_goals
  have E:=bA E;try have I:=Mb j
  try have J:=beq_false_of_ne p
  try have K:=Mb l
  try have L:=beq_false_of_ne q
  go_enter func127,ntmps127;go_wp2_with fail;go_quiet (fail)
  go_wp2_with fail;try (go_quiet (fail);go_wp2)
  go_ret;rw[E.out];first
   |exact⟨rfl,d.out.trans (eD.of (below_drewN (below_drewN (Below.refl _ _) _) _)),c.out.later (below_drewN (below_drewN (Below.refl _ _) _) _)⟩
   |exact⟨rfl,d.out.trans (eD.of (below_drewN (Below.refl _ _) _)),c.out.later (below_drewN (Below.refl _ _) _)⟩
   |exact⟨rfl,(d.out.trans (eD.of (below_drewN (Below.refl _ _) _))).setCell _ _,by simpa using (c.out.later (below_drewN (Below.refl _ _) nq)).set 3 (.bool true)⟩
