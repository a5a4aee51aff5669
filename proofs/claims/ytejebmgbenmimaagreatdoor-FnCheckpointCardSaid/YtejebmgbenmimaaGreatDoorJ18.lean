import Derived.Test.YtejebmgbenmimaaGreatDoorRows
import Derived.Test.YtejebmgbenmimaaGreatDoorJ14
import Derived.PinnedBridge
import Derived.Lay
import Derived.SevenTiedAt
import Derived.Stop.LaidErr
namespace Go.Proofs.YtejebmgbenmimaaGreatDoor
open Go.RowKit
section
variable {H:Type} {enc:TypeId×Value→H} {P:Program} {w:World} {base:Nat} {sp:Nat→Bool} {held:Bool}
theorem KU{c:Nat}{t:TypeId}{a:Array Field}{cs:List Value}{j:List Bool}{p:List MemPlace}(A:P.underlying t=some (.struct a))
(x:∀(i:Nat)(f:Field),a[i]?=some f->P.underlying f.type=some .bool/\f.offset=i/\P.cellsOf f.type=1)(v:P.cellsOf t=a.size)
(h:DataW.trod enc P w base sp held c t cs=some (.agg (j.map λz=>.lit (.bool z)),p)):cs=j.map λz=>Value.bool z:=by
 obtain⟨g,n,rfl,C,G,D,d⟩:=DataW.trod_struct A h;have e:g.map (·.1)=j.map λz=>(DataW.lit (.bool z):DataW H):=by
  have:=Kd Prod.fst C;simpa using this.symm
 have F:j.length=a.size:=by
  have:=Kd List.length e;simp at this;omega
 apply List.ext_getElem?;intro i;by_cases r:i<a.size
 .obtain ⟨B,y,u⟩:=x i a[i] (by simp[r]);have o:=d i a[i] (by simp[r]);obtain⟨b,q⟩:∃b,g[i]?=some b:=⟨g[i]'(by omega),Va (by omega)⟩
  rw[q,y,u]at o;obtain⟨z,l,E⟩:=DataW.trod_bool B o;have s:cs[i]?=some (.bool z):=by
   have:=Kd (·[0]?) l;simpa[Ye,List.getElem?_drop]using this
  have k:(g.map (·.1))[i]?=some (DataW.lit (.bool z):DataW H):=by simp[q,E]
  rw[e]at k;simp only[Se,Wb,DataW.lit.injEq,Lit.bool.injEq]at k;obtain⟨I,m,rfl⟩:=k;simp[s,m]
 rw[Fd (by omega),Fd (by simp;omega)]
end
def nf:DataW Unit:=.agg ((List.range 7).map fun(i:Nat)=>.agg ([xh (i:Int) 0,xh (i:Int) 1,xh (i:Int) 2,xh (i:Int) 3,xh (i:Int) 4].map λz=>.lit (.bool z)))
theorem aLu:(Rows.laid_loop_example_s02176_impl_shapes:DataW Unit)=nf:=by kernel_rfl
theorem aDe : Tryz.prog.globalNamed "loop.example/s02176/impl.shapes" = some 0 := by kernel_rfl
theorem aGr:(Tryz.prog.globals[0]?).map (·.type)=some 186:=by kernel_rfl
theorem gi:Tryz.prog.cellsOf 185=5:=by kernel_rfl
theorem gY:Tryz.prog.cellsOf 4=1:=by kernel_rfl
theorem gh{W : World}(h : Lib.VarReads Tryz.prog W "loop.example/s02176/impl.shapes" nf) : eR W := by
 obtain⟨g,t,cs,r,p,u,o,c,y⟩:=h;obtain rfl:=Lc (aDe.symm.trans u);obtain rfl:=Lc (aGr.symm.trans o);have key:∀i j,i<7->j<5->W.cell? ⟨0,i*5+j,none⟩=some (.bool (xh (i:Int) j)):=λi j v a=>by
  obtain⟨k,d,q,b,s⟩:=Lib.array_elem Tryz.underlying186 y i v;simp only[Se,List.getElem?_range v,Option.map_some,Qa]at b;subst b;rw[gi]at s;have l:=KU Tryz.underlying185 (λj f a=>by
   match j,a with
   |0,a=>simp at a;subst a;exact⟨Tryz.underlying4,rfl,gY⟩
   |1,a=>simp at a;subst a;exact⟨Tryz.underlying4,rfl,gY⟩
   |2,a=>simp at a;subst a;exact⟨Tryz.underlying4,rfl,gY⟩
   |3,a=>simp at a;subst a;exact⟨Tryz.underlying4,rfl,gY⟩
   |4,a=>simp at a;subst a;exact⟨Tryz.underlying4,rfl,gY⟩
   |j+5,a=>simp at a) (by rw[gi];rfl) s
  have e:=Kd (·[j]?) l;simp only[Ye,List.getElem?_drop]at e;rw[World.var?_cell u c (i*5+j),<-Yd];rw[Ma a]at e;rw[e];match j,a with
  |0,_=>rfl
  |1,_=>rfl
  |2,_=>rfl
  |3,_=>rfl
  |4,_=>rfl
 refine⟨?_,key⟩;have x:=key 0 0 (by omega) (by omega);rcases Gc 0 W.1.size with n|m;exact n;simp[World.cell?,Mc m]at x
