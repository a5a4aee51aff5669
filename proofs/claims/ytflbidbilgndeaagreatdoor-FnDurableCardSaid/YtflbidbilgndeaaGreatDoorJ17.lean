import Derived.Test.YtflbidbilgndeaaGreatDoorRows
import Derived.Test.YtflbidbilgndeaaGreatDoorJ14
import Derived.PinnedBridge
import Derived.Lay
import Derived.SevenTiedAt
import Derived.Stop.LaidErr
namespace Go.Proofs.YtflbidbilgndeaaGreatDoor
open Go.RowKit
section
variable {H:Type} {enc:TypeId×Value→H} {P:Program} {w:World} {base:Nat} {sp:Nat→Bool} {held:Bool}
theorem MZ{c:Nat}{t:TypeId}{a:Array Field}{cs:List Value}{j:List Bool}{p:List MemPlace}(A:P.underlying t=some (.struct a))
(x:∀(i:Nat)(f:Field),a[i]?=some f->P.underlying f.type=some .bool/\f.offset=i/\P.cellsOf f.type=1)(v:P.cellsOf t=a.size)
(h:DataW.trod enc P w base sp held c t cs=some (.agg (j.map λz=>.lit (.bool z)),p)):cs=j.map λz=>Value.bool z:=by
 obtain⟨g,n,rfl,C,G,D,d⟩:=DataW.trod_struct A h;have e:g.map (·.1)=j.map λz=>(DataW.lit (.bool z):DataW H):=by
  have:=Kd Prod.fst C;simpa using this.symm
 have F:j.length=a.size:=by
  have:=Kd List.length e;simp at this;omega
 apply List.ext_getElem?;intro i;by_cases r:i<a.size
 .obtain ⟨B,y,u⟩:=x i a[i] (by simp[r]);have o:=d i a[i] (by simp[r]);obtain⟨b,q⟩:∃b,g[i]?=some b:=⟨g[i]'(by omega),Va (by omega)⟩
  rw[q,y,u]at o;obtain⟨z,l,E⟩:=DataW.trod_bool B o;have s:cs[i]?=some (.bool z):=by
   have:=Kd (·[0]?) l;simpa[Ye,List.getElem?_drop]using this
  have k:(g.map (·.1))[i]?=some (DataW.lit (.bool z):DataW H):=by simp[q,E]
  rw[e]at k;simp only[Se,Wb,DataW.lit.injEq,Lit.bool.injEq]at k;obtain⟨I,m,rfl⟩:=k;simp[s,m]
 rw[Fd (by omega),Fd (by simp;omega)]
end
def sy:DataW Unit:=.agg ((List.range 7).map fun(i:Nat)=>.agg ([shB (i:Int) 0,shB (i:Int) 1,shB (i:Int) 2,shB (i:Int) 3,shB (i:Int) 4].map λz=>.lit (.bool z)))
theorem aPy:(Rows.laid_loop_example_s02176_impl_shapes:DataW Unit)=sy:=by kernel_rfl
theorem aHf : Tryz.prog.globalNamed "loop.example/s02176/impl.shapes" = some 0 := by kernel_rfl
theorem aKy:(Tryz.prog.globals[0]?).map (·.type)=some 177:=by kernel_rfl
theorem mg:Tryz.prog.cellsOf 176=5:=by kernel_rfl
theorem mZ:Tryz.prog.cellsOf 4=1:=by kernel_rfl
theorem mf{W : World}(h : Lib.VarReads Tryz.prog W "loop.example/s02176/impl.shapes" sy) : fS W := by
 obtain⟨g,t,cs,r,p,u,o,c,y⟩:=h;obtain rfl:=Lc (aHf.symm.trans u);obtain rfl:=Lc (aKy.symm.trans o);have key:∀i j,i<7->j<5->W.cell? ⟨0,i*5+j,none⟩=some (.bool (shB (i:Int) j)):=λi j v a=>by
  obtain⟨k,d,q,b,s⟩:=Lib.array_elem Tryz.underlying177 y i v;simp only[Se,List.getElem?_range v,Option.map_some,Qa]at b;subst b;rw[mg]at s;have l:=MZ Tryz.underlying176 (λj f a=>by
   match j,a with
   |0,a=>simp at a;subst a;exact⟨Tryz.underlying4,rfl,mZ⟩
   |1,a=>simp at a;subst a;exact⟨Tryz.underlying4,rfl,mZ⟩
   |2,a=>simp at a;subst a;exact⟨Tryz.underlying4,rfl,mZ⟩
   |3,a=>simp at a;subst a;exact⟨Tryz.underlying4,rfl,mZ⟩
   |4,a=>simp at a;subst a;exact⟨Tryz.underlying4,rfl,mZ⟩
   |j+5,a=>simp at a) (by rw[mg];rfl) s
  have e:=Kd (·[j]?) l;simp only[Ye,List.getElem?_drop]at e;rw[World.var?_cell u c (i*5+j),<-Yd];rw[Ma a]at e;rw[e];match j,a with
  |0,_=>rfl
  |1,_=>rfl
  |2,_=>rfl
  |3,_=>rfl
  |4,_=>rfl
 refine⟨?_,key⟩;have x:=key 0 0 (by omega) (by omega);rcases Gc 0 W.1.size with n|m;exact n;simp[World.cell?,Mc m]at x
