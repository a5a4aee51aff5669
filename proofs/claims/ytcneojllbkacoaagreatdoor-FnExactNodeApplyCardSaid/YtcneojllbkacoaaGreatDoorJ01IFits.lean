import Derived.BigQuiet
import Derived.WalkLawsBesides
import Derived.WalkSpells
import Derived.Test.YtcneojllbkacoaaGreatDoorProg
import Derived.Deep.AppendLies
import Derived.Lib.LazyBuf
import Derived.Lib.ItoaNum
set_option maxRecDepth 100000
set_option maxHeartbeats 1000000
namespace Go.Proofs.YtcneojllbkacoaaGreatDoor
open Go.RowKit
theorem iA {p:Prop} (h:p):Hid p:=h
structure eA where
 name:ByteArray
 data:ByteArray
 synced:Int
def mQ (w:World) (b o:Nat) (fs:List eA):Prop:=
 ∀i (h:i<fs.length),w.cell? ⟨b,o+i * 3,none⟩=some (.string fs[i].name)∧
  w.cell? ⟨b,o+i * 3+1,none⟩=some (.string fs[i].data)∧w.cell? ⟨b,o+i * 3+2,none⟩=some (.int .i64 fs[i].synced)
theorem aBz {B:Nat}{W w1:World} (hb:Below B W w1):(∀b o,b<B→w1.cell? ⟨b,o,none⟩=W.cell? ⟨b,o,none⟩)∧(∀b o,b<B→w1.frozen? ⟨b,o,none⟩=W.frozen? ⟨b,o,none⟩):=
 ⟨fun b o h=>hb.cell (p:=⟨b,o,none⟩) h,fun b o h=>hb.frozen (p:=⟨b,o,none⟩) h⟩
theorem jB {k:IntKind}{a b:Int} (h:a=b):Ending.returned (.int k a)=.returned (.int k b):=by rw [h]
theorem jA {a b:Bool} (h:a=b):Ending.returned (.bool a)=.returned (.bool b):=by rw [h]
structure pA (w:World) where
 w':World
 h:Below w.heap.size w w'
theorem pA.there (w:World):Nonempty (pA w):=⟨⟨w,Below.refl _ _⟩⟩
theorem pA.cell {w:World} (x:pA w){b o:Nat}{v:Value} (h:w.cell? ⟨b,o,none⟩=some v):x.w'.cell? ⟨b,o,none⟩=some v:=by
 have hb:b<w.heap.size:=by
  rcases Nat.lt_or_ge b w.heap.size with hlt | hge
  ·exact hlt
  ·simp [World.cell?,Array.getElem?_eq_none hge] at h
 rw [←h];exact x.h.cell hb
theorem pA.cells {w:World}{b o:Nat}{v:Value} (h:w.cell? ⟨b,o,none⟩=some v):∀x:pA w,x.w'.cell? ⟨b,o,none⟩=some v:=fun x=>x.cell h
theorem fA {P:Program}{id:Nat}{Q:Exit→Act→World→Prop}{a:Act}{w:World}{l:List Oper} (hm:P.follows .mixedOrders=true) (hB:Region.lexB .any l.toArray=true)
 (h:wpQuiet P l.toArray (fun w'=>∃x:pA w,w'=x.w') (fun a'=>∀w',(∃x:pA w,w'=x.w')→Q .normal a' w') l a):(Code.region id l.toArray true).wp P Q a w:=
 wp_region_quiet (C:=fun w'=>∃x:pA w,w'=x.w') hm hB ⟨⟨w.drew,(Below.refl _ _).drew⟩,rfl⟩ (by simpa using h)
theorem oA {P:Program}{f:FuncId}{args:Array Value}{w:World}{x:pA w}{v:Value}
 (h:Calls P f args x.w' fun e w''=>e=.returned v∧Below x.w'.heap.size x.w' w''):Calls P f args x.w' fun e w''=>e=.returned v∧∃y:pA w,w''=y.w':=
 h.mono fun _ w'' ⟨he,hb⟩=>⟨he,⟨w'',x.h.trans (hb.mono x.h.size)⟩,rfl⟩
theorem uA {P:Program}{f:FuncId}{args:Array Value}{w:World}{x:pA w}{v:Value}
 (h:Calls P f args x.w' fun e w''=>e=.returned v∧w''=x.w'):Calls P f args x.w' fun e w''=>e=.returned v∧∃y:pA w,w''=y.w':=
 h.mono fun _ _ ⟨he,hb⟩=>⟨he,x,hb⟩
def szF (left:Int) (f:eA):Int:=if (f.name.size+f.data.size:Int)≤left then left - f.name.size - f.data.size else -1
def kA (w:World) (a:Option Addr) (fs:List eA):Prop:=fs=[]∨∃b o,a=some ⟨b,o,none⟩∧b<w.heap.size∧mQ w b o fs
theorem kA.later {w w':World}{a:Option Addr}{fs:List eA} (h:kA w a fs) (hb:Below w.heap.size w w'):kA w' a fs:=by
 rcases h with h | ⟨b,o,rfl,hlt,h⟩
 ·exact Or.inl h
 ·refine Or.inr ⟨b,o,rfl,Nat.lt_of_lt_of_le hlt hb.size,fun i hi=>?_⟩;obtain ⟨h1,h2,h3⟩:=h i hi;exact ⟨by rw [←h1];exact hb.cell hlt,by rw [←h2];exact hb.cell hlt,by rw [←h3];exact hb.cell hlt⟩
theorem kA.at {w:World}{a:Option Addr}{fs:List eA} (h:kA w a fs){i:Nat} (hi:i<fs.length):
 ∃b o,a=some ⟨b,o,none⟩∧b<w.heap.size∧w.cell? ⟨b,o+i * 3,none⟩=some (.string fs[i].name)∧
  w.cell? ⟨b,o+i * 3+1,none⟩=some (.string fs[i].data)∧w.cell? ⟨b,o+i * 3+2,none⟩=some (.int .i64 fs[i].synced):=by
 rcases h with rfl | ⟨b,o,rfl,hlt,h⟩
 ·exact absurd hi (by simp)
 ·exact ⟨b,o,rfl,hlt,h i hi⟩
theorem kA.setCell {w:World}{g o:Nat}{fs:List eA} (h:kA w (some ⟨g,o,none⟩) fs){p:Addr} (hp:p.block≠g) (v:Value):kA (w.setCell p v) (some ⟨g,o,none⟩) fs:=by
 rcases h with h | ⟨b,o',e,hlt,h⟩
 ·exact Or.inl h
 ·simp only [Option.some.injEq,Addr.mk.injEq,and_true] at e;obtain ⟨rfl,rfl⟩:=e;have hk:∀j,(w.setCell p v).cell? ⟨g,j,none⟩=w.cell? ⟨g,j,none⟩:=fun j=>World.cell?_of_block (Below.heap_setCell w p v g (Ne.symm hp));refine Or.inr ⟨g,o,rfl,by simpa [World.setCell] using hlt,fun i hi=>?_⟩;simp only [hk];exact h i hi
def bulk:List eA→Nat
 | []=>0
 | f :: r=>f.name.size+f.data.size+bulk r
theorem vZ (a b:List eA):bulk (a++b)=bulk a+bulk b:=by
 induction a with
 | nil=>simp [bulk]
 | cons f r ih=>simp [bulk,ih];omega
theorem DS (fs:List eA) (k:Nat) (h:k<fs.length):bulk (fs.take (k+1))=bulk (fs.take k)+(fs[k].name.size+fs[k].data.size):=by
 rw [List.take_succ_eq_append_getElem h,vZ];simp [bulk]
theorem NO (fs:List eA) (k:Nat):bulk (fs.take k)≤bulk fs:=by
 have:=vZ (fs.take k) (fs.drop k);rw [List.take_append_drop] at this;omega
def aB:List eA→Nat
 | []=>0
 | f :: r=>f.data.size+aB r
theorem uL (a b:List eA):aB (a++b)=aB a+aB b:=by
 induction a with
 | nil=>simp [aB]
 | cons f r ih=>simp [aB,ih];omega
theorem nF (fs:List eA) (k:Nat) (h:k<fs.length):aB (fs.take (k+1))=aB (fs.take k)+fs[k].data.size:=by
 rw [List.take_succ_eq_append_getElem h,uL];simp [aB]
theorem xE (fs:List eA) (k:Nat):aB (fs.take k)≤aB fs:=by
 have:=uL (fs.take k) (fs.drop k);rw [List.take_append_drop] at this;omega
theorem GW (fs:List eA):aB fs≤bulk fs:=by
 induction fs with
 | nil=>exact Nat.le_refl _
 | cons f r ih=>simp [aB,bulk];omega
def cM (left:Int) (fs:List eA):Int:=if (fs.length+bulk fs:Int)≤left then left - fs.length - bulk fs else -1
def qI (fs:List eA):Prop:=∀i (h:i<fs.length),fs[i].name.size≤maxLen∧fs[i].data.size≤maxLen
def wT (w:World) (b:Nat) (v0 v1 v2 v3 v4 v5:Value):Prop:=
 w.cell? ⟨b,0,none⟩=some v0∧w.cell? ⟨b,1,none⟩=some v1∧w.cell? ⟨b,2,none⟩=some v2∧w.cell? ⟨b,3,none⟩=some v3∧w.cell? ⟨b,4,none⟩=some v4∧w.cell? ⟨b,5,none⟩=some v5
theorem wT.new (w:World) (v0 v1 v2 v3 v4 v5:Value) (t:TypeId):wT (w.alloc (.cells #[v0,v1,v2,v3,v4,v5] t)) w.heap.size v0 v1 v2 v3 v4 v5:=by
 simp [wT,go_sem]
theorem wT.lt {w:World}{b:Nat}{v0 v1 v2 v3 v4 v5:Value} (h:wT w b v0 v1 v2 v3 v4 v5):b<w.heap.size:=by
 rcases Nat.lt_or_ge b w.heap.size with hlt | hge
 ·exact hlt
 ·have:=h.1;simp [World.cell?,Array.getElem?_eq_none hge] at this
theorem wT.later {w w':World}{b:Nat}{v0 v1 v2 v3 v4 v5:Value} (h:wT w b v0 v1 v2 v3 v4 v5) (hb:Below w.heap.size w w'):wT w' b v0 v1 v2 v3 v4 v5:=by
 have hl:=h.lt;obtain ⟨h0,h1,h2,h3,h4,h5⟩:=h;exact ⟨(hb.cell hl).trans h0,(hb.cell hl).trans h1,(hb.cell hl).trans h2,(hb.cell hl).trans h3,(hb.cell hl).trans h4,(hb.cell hl).trans h5⟩
theorem rA {a b c:World} (h:Below a.heap.size a b) (k:Below b.heap.size b c):Below a.heap.size a c:=h.trans (k.mono h.size)
theorem bA (w:World) (o:Obj):Below w.heap.size w (w.alloc o):=(Below.refl _ _).alloc (Nat.le_refl _) _
def mA (x lo hi:Int):Bool:=decide (lo≤x) &&decide (x≤hi)
theorem sC (x lo hi:Int) (w:World):Calls Tryz.prog 22 #[.int .i64 x,.int .i64 lo,.int .i64 hi] w fun e w'=>e=.returned (.bool (mA x lo hi))∧w'=w:=by
 by_cases h1:lo≤x
 ·by_cases h2:x≤hi
  ·have e:mA x lo hi=true:=by simp [mA,h1,h2]
   rw [e];go_enter Tryz.func22,Tryz.ntmps22;go_wp2;go_ret;exact ⟨rfl,rfl⟩
  ·have e:mA x lo hi=false:=by simp [mA,h2]
   rw [e];go_enter Tryz.func22,Tryz.ntmps22;go_wp2;go_ret;exact ⟨rfl,rfl⟩
 ·have e:mA x lo hi=false:=by simp [mA,h1]
  rw [e];go_enter Tryz.func22,Tryz.ntmps22;go_wp2;go_ret;exact ⟨rfl,rfl⟩
theorem iQ (s:ByteArray) (k:Nat) (h:k<s.size):s.data.toList.take (k+1)=s.data.toList.take k++[s[k]]:=by
 rw [List.take_succ_eq_append_getElem (by simpa using h)];rfl
theorem gC {x lo hi:Int}{b:Bool} (h:mA x lo hi=b) (w:World):Calls Tryz.prog 22 #[.int .i64 x,.int .i64 lo,.int .i64 hi] w fun e w'=>e=.returned (.bool b)∧w'=w:=h ▸ sC x lo hi w
theorem rD (x hi:Int) (w:World):Calls Tryz.prog 34 #[.int .i64 x,.int .i64 hi] w fun e w'=>e=.returned (.bool (mA x 0 hi))∧w'=w:=by
 by_cases h1:0≤x
 ·by_cases h2:x≤hi
  ·have e:mA x 0 hi=true:=by simp [mA,h1,h2]
   rw [e];go_enter Tryz.func34,Tryz.ntmps34;go_wp2;go_ret;exact ⟨rfl,rfl⟩
  ·have e:mA x 0 hi=false:=by simp [mA,h2]
   rw [e];go_enter Tryz.func34,Tryz.ntmps34;go_wp2;go_ret;exact ⟨rfl,rfl⟩
 ·have e:mA x 0 hi=false:=by simp [mA,h1]
  rw [e];go_enter Tryz.func34,Tryz.ntmps34;go_wp2;go_ret;exact ⟨rfl,rfl⟩
def dS (x y:ByteArray):Int:=if Op.bytesLess x.toList y.toList=true then -1 else if (x.toList==y.toList)=true then 0 else 1
theorem aZ (s:ByteArray) (w:World):Calls Tryz.prog 241 #[.string s] w fun e w'=>e=.returned (.bool false)∧w'=w:=by
 go_enter Tryz.func241,Tryz.ntmps241;go_wp2;go_ret;exact ⟨rfl,rfl⟩
theorem zZ (x y:ByteArray) (w:World):Calls Tryz.prog 209 #[.string x,.string y] w fun e w'=>e=.returned (.int .i64 (dS x y))∧w'=w:=by
 by_cases h1:Op.bytesLess x.toList y.toList=true
 ·have E:Hid (dS x y = -1):=by show _=_;simp [dS,h1]
  go_enter Tryz.func209,Tryz.ntmps209;go_wp2_with (first | (go_at_call 241;refine (aZ _ _).mono ?_;rintro e w' ⟨rfl,rfl⟩));go_ret;exact ⟨jB E.out.symm,rfl⟩
 have h1':Op.bytesLess x.toList y.toList=false:=by simpa using h1
 by_cases h2:(x.toList==y.toList)=true
 ·have E:Hid (dS x y=0):=by show _=_;simp [dS,h1',h2]
  clear h1;go_enter Tryz.func209,Tryz.ntmps209;go_wp2_with (first | (go_at_call 241;refine (aZ _ _).mono ?_;rintro e w' ⟨rfl,rfl⟩));go_ret;exact ⟨jB E.out.symm,rfl⟩
 have h2':(x.toList==y.toList)=false:=by simpa using h2
 have E:Hid (dS x y=1):=by show _=_;simp only [dS,h1',h2'];rfl
 clear h1 h2;go_enter Tryz.func209,Tryz.ntmps209;go_wp2_with (first | (go_at_call 241;refine (aZ _ _).mono ?_;rintro e w' ⟨rfl,rfl⟩));go_ret;exact ⟨jB E.out.symm,rfl⟩
theorem aV (nm da:ByteArray) (sy:Int) (t:ByteArray) (w:World):Calls Tryz.prog 208 #[.agg #[.string nm,.string da,.int .i64 sy],.string t] w fun e w'=>e=.returned (.int .i64 (dS nm t))∧Below w.heap.size w w':=by
 go_enter Tryz.func208,Tryz.ntmps208;go_wp2_with (first | (go_at_call 209;refine (zZ _ _ _).mono ?_;rintro e w' ⟨rfl,rfl⟩));go_ret;exact ⟨rfl,bA _ _⟩
end Go.Proofs.YtcneojllbkacoaaGreatDoor
namespace Go.Proofs.YtcneojllbkacoaaGreatDoor
theorem gE:∀x:List UInt8,Op.bytesLess x x=false
 | []=>rfl
 | a :: x=>by simp [Op.bytesLess,gE x]
theorem eG:∀x y z:List UInt8,Op.bytesLess x y=true→Op.bytesLess y z=true→Op.bytesLess x z=true
 | _,_,[],_,h=>by simp [Op.bytesLess] at h
 | _,[],_ :: _,h,_=>by simp [Op.bytesLess] at h
 | [],_ :: _,_ :: _,_,_=>by simp [Op.bytesLess]
 | a :: x,b :: y,c :: z,h1,h2=>by
   simp only [Op.bytesLess,Bool.or_eq_true,Bool.and_eq_true,decide_eq_true_eq,beq_iff_eq] at h1 h2 ⊢;rcases h1 with h1 | ⟨rfl,h1⟩
   ·rcases h2 with h2 | ⟨rfl,_⟩
    ·exact Or.inl (UInt8.lt_trans h1 h2)
    ·exact Or.inl h1
   ·rcases h2 with h2 | ⟨rfl,h2⟩
    ·exact Or.inl h2
    ·exact Or.inr ⟨rfl,eG x y z h1 h2⟩
theorem cI:∀x y:List UInt8,Op.bytesLess x y=false→x≠y→Op.bytesLess y x=true
 | [],[],_,h=>absurd rfl h
 | [],_ :: _,h,_=>by simp [Op.bytesLess] at h
 | _ :: _,[],_,_=>by simp [Op.bytesLess]
 | a :: x,b :: y,h,hne=>by
   simp only [Op.bytesLess,Bool.or_eq_false_iff,Bool.and_eq_false_iff,decide_eq_false_iff_not,Bool.or_eq_true,Bool.and_eq_true,decide_eq_true_eq,beq_iff_eq] at h ⊢;obtain ⟨h1,h2⟩:=h;by_cases e:a=b
   ·subst e;rcases h2 with h2 | h2
    ·simp at h2
    ·exact Or.inr ⟨rfl,cI x y h2 (fun e=>hne (by rw [e]))⟩
   ·left;rcases UInt8.lt_or_lt_of_ne e with h | h
    ·exact absurd h h1
    ·exact h
theorem zK {x y:List UInt8} (h:Op.bytesLess x y=true):Op.bytesLess y x=false:=by
 rw [Bool.eq_false_iff];intro h';have:=eG x y x h h';rw [gE] at this;exact absurd this (by simp)
theorem toList_inj {x y:ByteArray} (h:x.toList=y.toList):x=y:=by
 have h':x.data.toList=y.data.toList:=by rw [←ByteArray.toList_eq x,←ByteArray.toList_eq y];exact h
 cases x;cases y
 simp only [ByteArray.mk.injEq];exact Array.toList_inj.1 h'
end Go.Proofs.YtcneojllbkacoaaGreatDoor
namespace Go.Proofs.YtcneojllbkacoaaGreatDoor
open Go.RowKit
structure bE (g:Nat) (w w':World):Prop where
 os:w'.os=w.os
 tape:w'.tape=w.tape
 output:w'.output=w.output
 size:w.heap.size≤w'.heap.size
 block:∀k,k<w.heap.size→k≠g→w'.heap[k]?=w.heap[k]?
theorem bE.refl (g:Nat) (w:World):bE g w w:=⟨rfl,rfl,rfl,Nat.le_refl _,fun _ _ _=>rfl⟩
theorem bE.trans {g:Nat}{a b c:World} (h:bE g a b) (k:bE g b c):bE g a c:=
 ⟨k.os.trans h.os,k.tape.trans h.tape,k.output.trans h.output,Nat.le_trans h.size k.size,fun i hi hg=>(k.block i (Nat.lt_of_lt_of_le hi h.size) hg).trans (h.block i hi hg)⟩
theorem bE.of {g:Nat}{w w':World} (h:Below w.heap.size w w'):bE g w w':=⟨h.os,h.tape,h.output,h.size,fun k hk _=>h.block k hk⟩
theorem bE.setCell {g:Nat}{a w:World} (h:bE g a w) (o:Nat) (v:Value):bE g a (w.setCell ⟨g,o,none⟩ v):=
 h.trans ⟨rfl,rfl,rfl,by simp [World.setCell],fun k _ hk=>Below.heap_setCell _ _ _ _ hk⟩
theorem bE.below {g B:Nat}{w w':World} (h:bE g w w') (hB:B≤g) (hs:B≤w.heap.size):Below B w w':=
 ⟨h.os,h.tape,h.output,h.size,fun k hk=>h.block k (by omega) (by omega)⟩
theorem kA.but {g b o:Nat}{w w':World}{fs:List eA} (h:kA w (some ⟨b,o,none⟩) fs) (hb:bE g w w') (hg:b≠g):kA w' (some ⟨b,o,none⟩) fs:=by
 rcases h with h | ⟨b',o',e,hlt,h⟩
 ·exact Or.inl h
 ·simp only [Option.some.injEq,Addr.mk.injEq,and_true] at e;obtain ⟨rfl,rfl⟩:=e;have hk:∀j,w'.cell? ⟨b,j,none⟩=w.cell? ⟨b,j,none⟩:=fun j=>World.cell?_of_block (hb.block b hlt hg);exact Or.inr ⟨b,o,rfl,Nat.lt_of_lt_of_le hlt hb.size,fun i hi=>by simp only [hk];exact h i hi⟩
def yE (w:World) (B:Nat) (a:Option Addr) (fs:List eA):Prop:=
 fs=[]∨∃g o cur t,a=some ⟨g,o,none⟩∧B≤g∧w.heap[g]?=some (.cells cur t (0,0))∧mQ w g o fs
theorem aA {w:World}{g:Nat}{x:Obj} (h:w.heap[g]?=some x):g<w.heap.size:=by
 rcases Nat.lt_or_ge g w.heap.size with hlt | hge
 ·exact hlt
 ·rw [Array.getElem?_eq_none hge] at h;exact absurd h (by simp)
theorem yE.files {w:World}{B:Nat}{a:Option Addr}{fs:List eA} (h:yE w B a fs):kA w a fs:=by
 rcases h with h | ⟨g,o,cur,t,rfl,_,hb,h⟩
 ·exact Or.inl h
 ·exact Or.inr ⟨g,o,rfl,aA hb,h⟩
theorem yE.later {w w':World}{B:Nat}{a:Option Addr}{fs:List eA} (h:yE w B a fs) (hb:Below w.heap.size w w'):yE w' B a fs:=by
 rcases h with h | ⟨g,o,cur,t,rfl,hB,hg,h⟩
 ·exact Or.inl h
 ·have hlt:=aA hg;have hk:∀j,w'.cell? ⟨g,j,none⟩=w.cell? ⟨g,j,none⟩:=fun j=>World.cell?_of_block (hb.block g hlt);exact Or.inr ⟨g,o,cur,t,rfl,hB,(hb.block g hlt).trans hg,fun i hi=>by simp only [hk];exact h i hi⟩
theorem yE.mono {w:World}{B B':Nat}{a:Option Addr}{fs:List eA} (h:yE w B a fs) (hB:B'≤B):yE w B' a fs:=by
 rcases h with h | ⟨g,o,cur,t,rfl,hB',hg,h⟩
 ·exact Or.inl h
 ·exact Or.inr ⟨g,o,cur,t,rfl,Nat.le_trans hB hB',hg,h⟩
def tI:Nat→Nat→List UInt8→List UInt8
 | 0,_,acc=>acc
 | fuel+1,k,acc=>if k=0 then acc else tI fuel (k / 10) ((48+UInt8.ofNat (k % 10)):: acc)
def mt (k:Nat):ByteArray:=⟨(109 :: tI k k []).toArray⟩
theorem AF:∀(f f' k:Nat) (acc:List UInt8),k≤f→k≤f'→tI f k acc=tI f' k acc
 | 0,0,_,_,_,_=>rfl
 | 0,f'+1,k,acc,h,_=>by have:k=0:=by omega
                        subst this;simp [tI]
 | f+1,0,k,acc,_,h=>by have:k=0:=by omega
                       subst this;simp [tI]
 | f+1,f'+1,k,acc,h,h'=>by
   rw [tI,tI];split
   ·rfl
   ·exact AF f f' (k / 10) _ (by omega) (by omega)
def VH (k:Nat) (i:Nat):eA:=⟨mt (k+3 * i),mt (k+3 * i+1),((k+3 * i+2:Nat):Int)⟩
def uM (k n:Nat):List eA:=(List.range n).map (VH k)
theorem iX (k n:Nat):(uM k n).length=n:=by simp [uM]
theorem LQ (k n i:Nat) (h:i<(uM k n).length):(uM k n)[i]=VH k i:=by simp [uM]
def qU (w w':World) (B:Nat) (a:Option Addr) (n:Nat):Prop:=
 (n=0∧Below w.heap.size w w')∨0<n∧∃g o,a=some ⟨g,o,none⟩∧B≤g∧bE g w w'
def lA (w:World) (g:Nat) (cur:Array Value) (t:TypeId):Prop:=w.heap[g]?=some (.cells cur t (0,0))
theorem lA.set {w:World}{g:Nat}{cur:Array Value}{t:TypeId} (h:lA w g cur t) (j:Nat) (v:Value):lA (w.setCell ⟨g,j,none⟩ v) g (cur.setIfInBounds j v) t:=heap_setCell_same w g j cur t v h
theorem lA.later {w w':World}{g:Nat}{cur:Array Value}{t:TypeId} (h:lA w g cur t) (hb:Below w.heap.size w w'):lA w' g cur t:=(hb.block g (aA h)).trans h
theorem lA.cell {w:World}{g:Nat}{cur:Array Value}{t:TypeId} (h:lA w g cur t) (j:Nat):w.cell? ⟨g,j,none⟩=cur[j]?:=cell_of_row w g j cur t _ h
theorem lA.free {w:World}{g:Nat}{cur:Array Value}{t:TypeId} (h:lA w g cur t) (j:Nat):w.frozen? ⟨g,j,none⟩=false:=frozen_of_row w g j cur t h
theorem lA.c2 {w:World}{g:Nat}{v0 v1:Value}{t:TypeId} (h:lA w g #[v0,v1] t):w.cell? ⟨g,0,none⟩=some v0∧w.cell? ⟨g,1,none⟩=some v1:=⟨h.cell 0,h.cell 1⟩
theorem lA.c3 {w:World}{g:Nat}{v0 v1 v2:Value}{t:TypeId} (h:lA w g #[v0,v1,v2] t):w.cell? ⟨g,0,none⟩=some v0∧w.cell? ⟨g,1,none⟩=some v1∧w.cell? ⟨g,2,none⟩=some v2:=⟨h.cell 0,h.cell 1,h.cell 2⟩
theorem lA.c4 {w:World}{g:Nat}{v0 v1 v2 v3:Value}{t:TypeId} (h:lA w g #[v0,v1,v2,v3] t):w.cell? ⟨g,0,none⟩=some v0∧w.cell? ⟨g,1,none⟩=some v1∧w.cell? ⟨g,2,none⟩=some v2∧w.cell? ⟨g,3,none⟩=some v3:=⟨h.cell 0,h.cell 1,h.cell 2,h.cell 3⟩
theorem lA.c5 {w:World}{g:Nat}{v0 v1 v2 v3 v4:Value}{t:TypeId} (h:lA w g #[v0,v1,v2,v3,v4] t):w.cell? ⟨g,0,none⟩=some v0∧w.cell? ⟨g,1,none⟩=some v1∧w.cell? ⟨g,2,none⟩=some v2∧w.cell? ⟨g,3,none⟩=some v3∧w.cell? ⟨g,4,none⟩=some v4:=⟨h.cell 0,h.cell 1,h.cell 2,h.cell 3,h.cell 4⟩
theorem lA.c6 {w:World}{g:Nat}{v0 v1 v2 v3 v4 v5:Value}{t:TypeId} (h:lA w g #[v0,v1,v2,v3,v4,v5] t):w.cell? ⟨g,0,none⟩=some v0∧w.cell? ⟨g,1,none⟩=some v1∧w.cell? ⟨g,2,none⟩=some v2∧w.cell? ⟨g,3,none⟩=some v3∧w.cell? ⟨g,4,none⟩=some v4∧w.cell? ⟨g,5,none⟩=some v5:=⟨h.cell 0,h.cell 1,h.cell 2,h.cell 3,h.cell 4,h.cell 5⟩
theorem lA.there {w:World}{g:Nat}{cur:Array Value}{t:TypeId} (h:lA w g cur t){j:Nat} (hj:j<cur.size):∃v,w.cell? ⟨g,j,none⟩=some v:=⟨cur[j],by rw [h.cell];exact Array.getElem?_eq_getElem hj⟩
def kE (cur:Array Value) (o j:Nat) (f:eA):Prop:=cur[o+j * 3]?=some (.string f.name)∧cur[o+j * 3+1]?=some (.string f.data)∧cur[o+j * 3+2]?=some (.int .i64 f.synced)
theorem kE.set {cur:Array Value}{o j:Nat}{f:eA} (h:kE cur o j f){p:Nat} (hp:p<o+j * 3∨o+j * 3+2<p) (v:Value):kE (cur.setIfInBounds p v) o j f:=by
 obtain ⟨a1,a2,a3⟩:=h;refine ⟨?_,?_,?_⟩
 ·rw [Array.getElem?_setIfInBounds_ne (by omega)];exact a1
 ·rw [Array.getElem?_setIfInBounds_ne (by omega)];exact a2
 ·rw [Array.getElem?_setIfInBounds_ne (by omega)];exact a3
theorem kE.made (cur:Array Value) (o j:Nat) (f:eA) (h:o+j * 3+2<cur.size):
 kE (((cur.setIfInBounds (o+j * 3) (.string f.name)).setIfInBounds (o+j * 3+1) (.string f.data)).setIfInBounds (o+j * 3+2) (.int .i64 f.synced)) o j f:=by
 refine ⟨?_,?_,?_⟩<;>simp [Array.getElem?_setIfInBounds]<;>omega
theorem kM {w:World}{g o:Nat}{cur:Array Value}{t:TypeId}{fs:List eA} (h:lA w g cur t) (hr:∀j (hj:j<fs.length),kE cur o j fs[j]):mQ w g o fs:=by
 intro j hj;simp only [h.cell];exact hr j hj
theorem CP {w:World}{g o:Nat}{cur:Array Value}{t:TypeId}{fs:List eA} (h:lA w g cur t) (hf:mQ w g o fs):∀j (hj:j<fs.length),kE cur o j fs[j]:=by
 intro j hj;have:=hf j hj;simp only [h.cell] at this;exact this
theorem aHb {cur:Array Value}{o:Nat}{fs:List eA} (hr:∀j (hj:j<fs.length),kE cur o j fs[j]):fs=[]∨o+fs.length * 3≤cur.size:=by
 by_cases h:fs.length=0
 ·exact Or.inl (List.length_eq_zero_iff.1 h)
 ·right;have:=(hr (fs.length - 1) (by omega)).2.2;have:=(Array.getElem?_eq_some_iff.1 this).1;omega
def flat (fs:List eA):List Value:=fs.flatMap fun f=>[.string f.name,.string f.data,.int .i64 f.synced]
theorem tE (a b:List eA):flat (a++b)=flat a++flat b:=by simp [flat]
theorem yN (f:eA):flat [f]=[.string f.name,.string f.data,.int .i64 f.synced]:=rfl
theorem cD (fs:List eA):(flat fs).length=fs.length * 3:=by
 induction fs with
 | nil=>rfl
 | cons f r ih=>simp [flat] at *;omega
theorem uW:∀(fs:List eA) (j:Nat) (h:j<fs.length),(flat fs)[j * 3]?=some (.string fs[j].name)∧(flat fs)[j * 3+1]?=some (.string fs[j].data)∧(flat fs)[j * 3+2]?=some (.int .i64 fs[j].synced)
 | [],_,h=>absurd h (by simp)
 | f :: r,0,_=>by simp [flat]
 | f :: r,j+1,h=>by
   have ih:=uW r j (by simpa using h);have e:flat (f :: r)=[.string f.name,.string f.data,.int .i64 f.synced]++flat r:=rfl;rw [e];have e1:(j+1) * 3=3+j * 3:=by omega
   have e2:(j+1) * 3+1=3+(j * 3+1):=by omega
   have e3:(j+1) * 3+2=3+(j * 3+2):=by omega
   have hq:∀p,([.string f.name,.string f.data,.int .i64 f.synced]++flat r)[3+p]?=(flat r)[p]?:=fun p=>by
    rw [List.getElem?_append_right (by simp)];simp
   rw [e3,e2,e1,hq,hq,hq];exact ih
theorem aE (fs:List eA):∀u∈flat fs,u.oneCell'=true:=by
 intro u hu;simp only [flat,List.mem_flatMap,List.mem_cons,List.not_mem_nil,or_false] at hu;obtain ⟨f,_,rfl | rfl | rfl⟩:=hu<;>rfl
theorem kF {w:World}{B:Nat}{e:TypeId}{v:Value}{fs:List eA} (h:w.ownsRow B e 3 v fs.length (flat fs)):∃a cap,v=.slice a fs.length cap∧yE w B a fs:=by
 rcases h.2 with ⟨rfl,h0⟩ | ⟨g,cap,cur,rfl,hB,hg,_,_,_,ht⟩
 ·have:fs=[]:=List.length_eq_zero_iff.1 h0;subst this;exact ⟨none,0,rfl,Or.inl rfl⟩
 ·refine ⟨_,cap,rfl,Or.inr ⟨g,0,cur,e,rfl,hB,hg,kM hg fun j hj=>?_⟩⟩;have key:∀p v,(flat fs)[p]?=some v→cur[p]?=some v:=fun p v hp=>by
   rw [←ht] at hp;have hlt:=(List.getElem?_eq_some_iff.1 hp).1;rw [List.length_take] at hlt;rw [List.getElem?_take_of_lt (by omega)] at hp;simpa using hp
  obtain ⟨a1,a2,a3⟩:=uW fs j hj;refine ⟨?_,?_,?_⟩
  ·rw [Nat.zero_add];exact key _ _ a1
  ·rw [Nat.zero_add];exact key _ _ a2
  ·rw [Nat.zero_add];exact key _ _ a3
theorem yA {w w':World}{B:Nat}{e:TypeId}{size:Nat}{v:Value}{n:Nat}{xs:List Value} (h:w.ownsRow B e size v n xs) (hb:Below w.heap.size w w'):w'.ownsRow B e size v n xs:=by
 obtain ⟨h1,h2⟩:=h;refine ⟨h1,?_⟩;rcases h2 with h2 | ⟨g,cap,cur,hv,hB,hg,r⟩
 ·exact Or.inl h2
 ·exact Or.inr ⟨g,cap,cur,hv,hB,(hb.block g (aA hg)).trans hg,r⟩
theorem uJ {w:World}{b o:Nat}{fs:List eA} (h:mQ w b o fs):∀j u,(flat fs)[j]?=some u→w.cell? ((⟨b,o,none⟩:Addr).add j)=some u:=by
 intro j u hu;have hlt:=(List.getElem?_eq_some_iff.1 hu).1;rw [cD] at hlt;have hj:j / 3<fs.length:=by omega
 obtain ⟨a1,a2,a3⟩:=uW fs (j / 3) hj;obtain ⟨c1,c2,c3⟩:=h (j / 3) hj;have hadd:(⟨b,o,none⟩:Addr).add j=⟨b,o+j,none⟩:=by unfold Addr.add;split<;>simp_all
 rw [hadd];have hm:j % 3=0∨j % 3=1∨j % 3=2:=by omega
 rcases hm with hm | hm | hm
 ·have e:j=j / 3 * 3:=by omega
  rw [e] at hu;rw [a1] at hu;rw [show o+j=o+j / 3 * 3 by omega,c1];exact hu
 ·have e:j=j / 3 * 3+1:=by omega
  rw [e] at hu;rw [a2] at hu;rw [show o+j=o+j / 3 * 3+1 by omega,c2];exact hu
 ·have e:j=j / 3 * 3+2:=by omega
  rw [e] at hu;rw [a3] at hu;rw [show o+j=o+j / 3 * 3+2 by omega,c3];exact hu
theorem cH:∃i,Tryz.prog.info? 116=some i∧i.zero=some (.agg #[.string ByteArray.empty,.string ByteArray.empty,.int .i64 0])∧i.size=3∧i.bytes=40:=by
 have h:(Tryz.prog.info? 116).map (fun i=>(i.zero,i.size,i.bytes))=some (some (.agg #[.string ByteArray.empty,.string ByteArray.empty,.int .i64 0]),3,40):=by kernel_rfl
 obtain ⟨i,hi,hzz⟩:=Option.map_eq_some_iff.1 h;simp only [Prod.mk.injEq] at hzz;exact ⟨i,hi,hzz⟩
theorem KE (a:Option Addr) (cap:Nat) (fs:List eA) (w:World) (hf:kA w a fs) (hlen:fs.length≤1048576):
 Calls Tryz.prog 66 #[.slice a fs.length cap] w fun e w'=>∃v,e=.returned v∧w'.ownsRow w.heap.size 116 3 v fs.length (flat fs)∧Below w.heap.size w w':=by
 have heq:=fun w'=>Lib.run_eql_slice_nil (P:=Tryz.prog) w' 37 116 a fs.length cap 0 0 Tryz.underlying37;cases a with
 | none=>
   have h0:fs=[]:=by
    rcases hf with h | ⟨b,o,e,_⟩
    ·exact h
    ·exact absurd e (by simp)
   subst h0;have heq2:=fun w'=>Lib.run_eql_slice_nil (P:=Tryz.prog) w' 37 116 none 0 cap 0 0 Tryz.underlying37;clear heq;go_enter Tryz.func66,Tryz.ntmps66;go_wp2;go_ret;exact ⟨_,rfl,⟨rfl,Or.inl ⟨rfl,rfl⟩⟩,Below.refl _ _⟩
 | some ad=>
   obtain ⟨i,hi,hz0,hz1,hz2⟩:=cH;have hown:(w.alloc (.cells #[] 116)).ownsRow w.heap.size 116 3 (.slice (some ⟨w.heap.size,0,none⟩) 0 0) 0 []:=
    ⟨rfl,Or.inr ⟨w.heap.size,0,#[],rfl,Nat.le_refl _,heap_alloc_new _ _,Nat.le_refl _,Nat.zero_le _,rfl,rfl⟩⟩
   have HO:Hid ((w.alloc (.cells #[] 116)).ownsRow w.heap.size 116 3 (.slice (some ⟨w.heap.size,0,none⟩) 0 0) 0 []):=hown;have hnews:∀j u,(flat fs)[j]?=some u→(w.alloc (.cells #[] 116)).cell? (ad.add j)=some u:=by
    rcases hf.later (bA w (.cells #[] 116)) with rfl | ⟨b,o,e,_,h⟩
    ·intro j u h;simp [flat] at h
    ·simp only [Option.some.injEq] at e;subst e;exact uJ h
   have HN:Hid _:=hnews;have HI:Hid _:=hi;clear hf hown hnews hi;go_enter Tryz.func66,Tryz.ntmps66;go_wp2_with (at_builtin;refine wpList_append_own_at _ rfl _ _ _ rfl w.heap.size 116 i _ 3 40 Tryz.underlying37 HI.out hz0 hz1 hz2 rfl (by omega) (.slice (some ⟨w.heap.size,0,none⟩) 0 0) 0 [] rfl HO.out ad fs.length cap (flat fs) rfl (cD fs) HN.out (aE fs) (by simp [maxLen];omega) (by omega) (by simp) ?_;intro v1 w1 hown1 hgrow _ _);go_ret;simp only [Nat.zero_add,List.nil_append] at hown1;refine ⟨v1,rfl,hown1,(bA _ _).grown hgrow (by simp) (fun k hk=>?_)⟩;simp [Value.ownBlock] at hk;omega
theorem lA.new (w:World) (cs:Array Value) (t:TypeId):lA (w.alloc (.cells cs t)) w.heap.size cs t:=heap_alloc_new _ _
theorem lA.alloc {w:World}{g:Nat}{cur:Array Value}{t:TypeId} (h:lA w g cur t) (o:Obj):lA (w.alloc o) g cur t:=h.later (bA _ _)
theorem lA.but {w w':World}{g g':Nat}{cur:Array Value}{t:TypeId} (h:lA w g cur t) (hb:bE g' w w') (hne:g≠g'):lA w' g cur t:=(hb.block g (aA h) hne).trans h
structure dA (S:Nat→Prop) (w w':World):Prop where
 os:w'.os=w.os
 tape:w'.tape=w.tape
 output:w'.output=w.output
 size:w.heap.size≤w'.heap.size
 block:∀k,k<w.heap.size→¬S k→w'.heap[k]?=w.heap[k]?
theorem dA.refl (S:Nat→Prop) (w:World):dA S w w:=⟨rfl,rfl,rfl,Nat.le_refl _,fun _ _ _=>rfl⟩
theorem dA.trans {S:Nat→Prop}{a b c:World} (h:dA S a b) (k:dA (fun i=>S i∨a.heap.size≤i) b c):dA S a c:=
 ⟨k.os.trans h.os,k.tape.trans h.tape,k.output.trans h.output,Nat.le_trans h.size k.size,fun i hi hn=>(k.block i (Nat.lt_of_lt_of_le hi h.size) (fun h'=>by rcases h' with h' | h';exact hn h';omega)).trans (h.block i hi hn)⟩
theorem dA.trans' {S:Nat→Prop}{a b c:World} (h:dA S a b) (k:dA S b c):dA S a c:=
 ⟨k.os.trans h.os,k.tape.trans h.tape,k.output.trans h.output,Nat.le_trans h.size k.size,fun i hi hn=>(k.block i (Nat.lt_of_lt_of_le hi h.size) hn).trans (h.block i hi hn)⟩
theorem dA.mono {S S':Nat→Prop}{a b:World} (h:dA S a b) (hs:∀i,i<a.heap.size→S i→S' i):dA S' a b:=
 ⟨h.os,h.tape,h.output,h.size,fun i hi hn=>h.block i hi (fun h'=>hn (hs i hi h'))⟩
theorem dA.of {S:Nat→Prop}{a b:World} (h:Below a.heap.size a b):dA S a b:=⟨h.os,h.tape,h.output,h.size,fun k hk _=>h.block k hk⟩
theorem dA.but {g:Nat}{a b:World} (h:bE g a b):dA (·=g) a b:=⟨h.os,h.tape,h.output,h.size,fun k hk hn=>h.block k hk hn⟩
theorem dA.grown {r:Option Nat}{a b:World} (h:a.grownBy b r):dA (fun k=>r=some k) a b:=⟨h.os,h.tape,h.output,h.size,fun k hk hn=>h.block k hk (fun e=>hn e.symm)⟩
theorem dA.below {S:Nat→Prop}{B:Nat}{a b:World} (h:dA S a b) (hB:B≤a.heap.size) (hs:∀k,k<B→¬S k):Below B a b:=
 ⟨h.os,h.tape,h.output,h.size,fun k hk=>h.block k (by omega) (hs k hk)⟩
theorem dA.drew {S:Nat→Prop}{a b:World} (h:dA S a b):dA S a b.drew:=⟨h.os,h.tape,h.output,h.size,h.block⟩
theorem dA.setCell {S:Nat→Prop}{a b:World} (h:dA S a b){g:Nat} (hg:S g∨a.heap.size≤g) (o:Nat) (v:Value):dA S a (b.setCell ⟨g,o,none⟩ v):=
 h.trans ((dA.but ((bE.refl g b).setCell o v)).mono fun i _ e=>by subst e;exact hg)
theorem dA.blk {S:Nat→Prop}{a b:World} (h:dA S a b){g:Nat}{cur:Array Value}{t:TypeId} (hb:lA a g cur t) (hg:¬S g):lA b g cur t:=(h.block g (aA hb) hg).trans hb
theorem dA.row {S:Nat→Prop}{a b:World} (h:dA S a b){B:Nat}{e:TypeId}{size:Nat}{v:Value}{n:Nat}{xs:List Value} (hr:a.ownsRow B e size v n xs) (hg:∀g,v.ownBlock=some g→¬S g):b.ownsRow B e size v n xs:=by
 refine ⟨hr.1,?_⟩;rcases hr.2 with h0 | ⟨g,cap,cur,rfl,hB,hb,r⟩
 ·exact Or.inl h0
 ·exact Or.inr ⟨g,cap,cur,rfl,hB,(h.block g (aA hb) (hg g rfl)).trans hb,r⟩
theorem dA.map {H:Type}{S:Nat→Prop}{a b:World} (h:dA S a b){P:Program}{k:TypeId}{R:Value→Option (DataW H×List MemPlace)}{m n:Nat}{D:DataW H} (hm:a.ownsMap P k R m n D) (hg:¬S m):b.ownsMap P k R m n D:=by
 have hlt:=hm.lt;obtain ⟨es,clock,hb,r⟩:=hm;exact ⟨es,clock,(h.block m hlt hg).trans hb,r⟩
def tU (l:List UInt8):Nat:=l.foldl (fun v c=>v * 256+c.toNat) 0
theorem DP (l:List UInt8) (c:UInt8):tU (l++[c])=tU l * 256+c.toNat:=by simp [tU]
theorem DO (l:List UInt8):tU l<256 ^ l.length:=by
 have hg:∀(n:Nat) (l:List UInt8),l.length=n→tU l<256 ^ n:=fun n=>by
  induction n with
  | zero=>intro l h;rw [List.length_eq_zero_iff.1 h];decide
  | succ n ih=>
    intro l h;have hne:l≠[]:=by intro e;rw [e] at h;simp at h
    rw [←List.dropLast_concat_getLast hne,DP];have h1:=ih l.dropLast (by simp [h]);have h2:=(l.getLast hne).toNat_lt;rw [Nat.pow_succ];omega
 exact hg _ l rfl
def vR (s:ByteArray) (p n:Nat):List UInt8:=(s.data.toList.drop p).take n
theorem jR {s:ByteArray}{p n:Nat} (h:p+n≤s.size):(vR s p n).length=n:=by
 have:s.data.toList.length=s.size:=by simp
 simp only [vR,List.length_take,List.length_drop];omega
theorem aAt {s:ByteArray}{p k:Nat} (h:p+k<s.size):vR s p (k+1)=vR s p k++[s[p+k]]:=by
 have hl:s.data.toList.length=s.size:=by simp
 unfold vR;rw [List.take_succ_eq_append_getElem (by rw [List.length_drop,hl];omega),List.getElem_drop];rfl
def sV (n:Nat):Nat→List UInt8
 | 0=>[]
 | i+1=>(48+UInt8.ofNat (n / 10 ^ i % 10)):: sV n i
def JF (n:Nat):ByteArray:=⟨(119 :: 97 :: 108 :: 45 :: sV n 6).toArray⟩
def gL (n:Int):ByteArray:=if 1≤n∧n≤999999 then JF n.toNat else ByteArray.empty
theorem wS (n:Nat):∀i,(sV n i).length=i
 | 0=>rfl
 | i+1=>by simp [sV,wS n i]
theorem eQ (n:Int):(gL n).size≤10:=by
 unfold gL;split
 ·show (119 :: 97 :: 108 :: 45 :: sV n.toNat 6).toArray.size≤10;simp [wS]
 ·simp
theorem aEi (k:Nat):UInt8.ofNat (48+k)=48+UInt8.ofNat k:=by rw [UInt8.ofNat_add];rfl
theorem US (n:Nat) (h:n<1000000):Lib.itoa ((1000000+n:Nat):Int)=49 :: sV n 6:=by
 have h7:Lib.nDigits (1000000+n)=7:=Lib.nDigits_unique 6 _ (by omega) (by omega);rw [Lib.itoa,if_neg (by omega),Int.toNat_natCast,Lib.decDigits_eq,h7];simp only [List.range_succ,List.range_zero,List.map_cons,List.map_nil,List.nil_append,List.cons_append,sV,Lib.dg,aEi];congr 1
 ·rw [show (1000000+n) / 10 ^ (7 - 1 - 0) % 10=1 by omega];rfl
 ·simp only [List.cons.injEq,and_true];refine ⟨?_,?_,?_,?_,?_,?_⟩<;>congr 2<;>omega
theorem TK (x:Int) (w:World):Calls Tryz.prog 120 #[.int .i64 x] w fun e w'=>e=.returned (.bool (mA x 1 60000))∧w'=w:=by
 by_cases h1:1≤x
 ·by_cases h2:x≤60000
  ·have e:mA x 1 60000=true:=by simp [mA,h1,h2]
   rw [e];go_enter Tryz.func120,Tryz.ntmps120;go_wp2;go_ret;exact ⟨rfl,rfl⟩
  ·have e:mA x 1 60000=false:=by simp [mA,h2]
   rw [e];go_enter Tryz.func120,Tryz.ntmps120;go_wp2;go_ret;exact ⟨rfl,rfl⟩
 ·have e:mA x 1 60000=false:=by simp [mA,h1]
  rw [e];go_enter Tryz.func120,Tryz.ntmps120;go_wp2;go_ret;exact ⟨rfl,rfl⟩
end Go.Proofs.YtcneojllbkacoaaGreatDoor
