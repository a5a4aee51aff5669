import Derived.Test.YtabgbmfcbobamaaGreatDoorRows
import Derived.Test.YtabgbmfcbobamaaGreatDoorJ14
import Derived.PinnedBridge
import Derived.Lay
import Derived.SevenTiedAt
import Derived.Stop.LaidErr
set_option maxRecDepth 100000
set_option maxHeartbeats 8000000
namespace Go.Proofs.YtabgbmfcbobamaaGreatDoor
open Go.RowKit
section
variable {H:Type} {enc:TypeId×Value→H} {P:Program} {w:World} {base:Nat} {sp:Nat→Bool} {held:Bool}
theorem GU {c:Nat} {t:TypeId} {a:Array Field} {cs:List Value} {j:List Bool} {p:List MemPlace} (A:P.underlying t=some (.struct a))
 (x:∀(i:Nat) (f:Field),a[i]?=some f->P.underlying f.type=some .bool/\f.offset=i/\P.cellsOf f.type=1) (v:P.cellsOf t=a.size)
 (h:DataW.trod enc P w base sp held c t cs=some (.agg (j.map fun z=>.lit (.bool z)),p)):cs=j.map fun z=>Value.bool z:=by
 obtain⟨g,n,rfl,C,G,D,d⟩:=DataW.trod_struct A h;have e:g.map (·.1)=j.map fun z=>(DataW.lit (.bool z):DataW H):=by
  have:=Fd Prod.fst C;simpa using this.symm
 have F:j.length=a.size:=by
  have:=Fd List.length e;simp at this;omega
 apply List.ext_getElem?;intro i;by_cases r:i<a.size
 ·obtain⟨B,y,u⟩:=x i a[i] (by simp[r]);have o:=d i a[i] (by simp[r]);obtain⟨b,q⟩:∃b,g[i]?=some b:=⟨g[i]'(by omega),Va (by omega)⟩
  rw[q,y,u]at o;obtain⟨z,l,E⟩:=DataW.trod_bool B o;have s:cs[i]?=some (.bool z):=by
   have:=Fd (·[0]?) l;simpa[List.getElem?_take,List.getElem?_drop]using this
  have k:(g.map (·.1))[i]?=some (DataW.lit (.bool z):DataW H):=by simp[q,E]
  rw[e]at k;simp only[Ig,Ub,DataW.lit.injEq,Lit.bool.injEq]at k;obtain⟨I,m,rfl⟩:=k;simp[s,m]
 ·rw[Ae (by omega),Ae (by simp;omega)]
end
def gm:DataW Unit:=.agg ((List.range 7).map fun(i:Nat)=>.agg ([qz (i:Int) 0,qz (i:Int) 1,qz (i:Int) 2,qz (i:Int) 3,qz (i:Int) 4].map fun z=>.lit (.bool z)))
theorem aGn:(Rows.laid_loop_example_s02176_impl_shapes:DataW Unit)=gm:=by kernel_rfl
theorem xm : Tryz.prog.globalNamed "loop.example/s02176/impl.shapes" = some 0 := by kernel_rfl
theorem aBy:(Tryz.prog.globals[0]?).map (·.type)=some 90:=by kernel_rfl
theorem bn:Tryz.prog.cellsOf 89=5:=by kernel_rfl
theorem kV:Tryz.prog.cellsOf 4=1:=by kernel_rfl
theorem bm {W : World} (h : Lib.VarReads Tryz.prog W "loop.example/s02176/impl.shapes" gm) : tN W := by
 obtain⟨g,t,cs,s,p,v,r,c,z⟩:=h;obtain rfl:=Jd (xm.symm.trans v);obtain rfl:=Jd (aBy.symm.trans r);have k:∀i j,i<7->j<5->W.cell? ⟨0,i*5+j,none⟩=some (.bool (qz (i:Int) j)):=fun i j x a=>by
  obtain⟨l,d,q,b,u⟩:=Lib.array_elem Tryz.underlying90 z i x;simp only[Ig,List.getElem?_range x,Option.map_some,Pa]at b;subst b;rw[bn]at u;have m:=GU Tryz.underlying89 (fun j f a=>by
   match j,a with
   |0,a=>simp at a;subst a;exact⟨Tryz.underlying4,rfl,kV⟩
   |1,a=>simp at a;subst a;exact⟨Tryz.underlying4,rfl,kV⟩
   |2,a=>simp at a;subst a;exact⟨Tryz.underlying4,rfl,kV⟩
   |3,a=>simp at a;subst a;exact⟨Tryz.underlying4,rfl,kV⟩
   |4,a=>simp at a;subst a;exact⟨Tryz.underlying4,rfl,kV⟩
   |j+5,a=>simp at a) (by rw[bn];rfl) u
  have e:=Fd (·[j]?) m;simp only[List.getElem?_take,List.getElem?_drop]at e;rw[World.var?_cell v c (i*5+j),<-Zd];rw[Qa a]at e;rw[e];match j,a with
  |0,_=>rfl
  |1,_=>rfl
  |2,_=>rfl
  |3,_=>rfl
  |4,_=>rfl
 refine⟨?_,k⟩;have y:=k 0 0 (by omega) (by omega);rcases Rc 0 W.heap.size with o|n
 ·exact o
 ·simp[World.cell?,Qd n]at y
theorem se {a b:Bool} (c:a=true) (d:b=true):(a&&b)=true:=by rw[c,d];rfl
theorem MX:joinedFacts Tryz.pinned.checked.prog 3 Tryz.f3 Rows.fnCodecSpec Rows.fnCodecRow=true:=by
 unfold joinedFacts;repeat' (with_reducible refine se ?_ ?_)
 all_goals(as_aux_lemma=>kernel_rfl)
