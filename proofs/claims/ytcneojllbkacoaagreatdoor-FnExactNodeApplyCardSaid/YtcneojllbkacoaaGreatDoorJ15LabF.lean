import Derived.Maps.Ext
import Derived.Sort.KeysCollected
import Derived.Test.YtcneojllbkacoaaGreatDoorJ10ISum
import Derived.Test.YtcneojllbkacoaaGreatDoorJ11LabI
set_option maxRecDepth 100000
set_option maxHeartbeats 2000000
namespace Go.Proofs.YtcneojllbkacoaaGreatDoor
open Go.Maps
def kL (s:ByteArray):Lit:=.string s.data.toList
theorem jT (s:ByteArray):kL s=.string s.toList:=by rw [kL,ByteArray.toList_eq]
theorem aJa {x y:ByteArray} (h:kL x=kL y):x=y:=by
 rw [jT,jT] at h;exact toList_inj (by simpa using h)
theorem uZ:∀x y:List UInt8,bytesBefore x y=Op.bytesLess x y
 | [],[]=>rfl
 | [],_ :: _=>rfl
 | _ :: _,[]=>rfl
 | a :: x,b :: y=>by rw [bytesBefore,Op.bytesLess,uZ x y]
def nG (x y:ByteArray):Bool:=Op.bytesLess x.toList y.toList
theorem rK (x:ByteArray):nG x x=false:=gE _
theorem uY {x y z:ByteArray} (h1:nG x y=true) (h2:nG y z=true):nG x z=true:=eG _ _ _ h1 h2
theorem eT {x y:ByteArray} (h:nG x y=true):nG y x=false:=zK h
theorem rP {x y:ByteArray} (h:nG x y=false) (hne:x≠y):nG y x=true:=cI _ _ h (fun e=>hne (toList_inj e))
theorem cG {x y:ByteArray} (h:nG x y=true):x≠y:=fun e=>by rw [e,rK] at h;cases h
theorem JW (x y:ByteArray):(kL x).before (kL y)=nG x y:=by
 rw [jT,jT,nG];exact uZ _ _
theorem qV (x y:ByteArray):(kL x).sameKey (kL y)=(x.toList==y.toList):=by rw [jT,jT];rfl
theorem rC (x y:ByteArray):(x.toList==y.toList)=true ↔ x=y:=by
 rw [beq_iff_eq];exact ⟨toList_inj,fun e=>by rw [e]⟩
theorem iC {x y:ByteArray} (h:x≠y):(x.toList==y.toList)=false:=by
 rw [Bool.eq_false_iff];exact fun e=>h ((rC x y).1 e)
section
variable {V:Type}
def cP (L:List (ByteArray×V)):Prop:=L.Pairwise (fun p q=>nG p.1 q.1=true)
def lk (L:List (ByteArray×V)) (k:ByteArray):Option V:=(L.find? (fun p=>p.1.toList==k.toList)).map (·.2)
def tM (k:ByteArray) (d:V):List (ByteArray×V)→List (ByteArray×V)
 | []=>[(k,d)]
 | p :: r=>if nG p.1 k=true then p :: tM k d r else if p.1.toList==k.toList then (k,d):: r else (k,d):: p :: r
def lW (k:ByteArray) (L:List (ByteArray×V)):List (ByteArray×V):=L.filter (fun p=>!(p.1.toList==k.toList))
theorem aOr (k:ByteArray):lk ([]:List (ByteArray×V)) k=none:=rfl
theorem cJ (p:ByteArray×V) (r:List (ByteArray×V)) (k:ByteArray):lk (p :: r) k=if p.1=k then some p.2 else lk r k:=by
 unfold lk;by_cases h:p.1=k
 ·rw [List.find?_cons_of_pos (p:=fun p:ByteArray×V=>p.1.toList==k.toList) (by exact (rC _ _).2 h),if_pos h];rfl
 ·rw [List.find?_cons_of_neg (p:=fun p:ByteArray×V=>p.1.toList==k.toList) (by simpa using iC h),if_neg h]
theorem ZX {L:List (ByteArray×V)}{k:ByteArray}{d:V} (h:lk L k=some d):(k,d) ∈L:=by
 induction L with
 | nil=>cases h
 | cons p r ih=>
   rw [cJ] at h;by_cases e:p.1=k
   ·rw [if_pos e] at h;obtain ⟨a,b⟩:=p;simp only [Option.some.injEq] at h e;rw [←h,←e];exact List.mem_cons_self ..
   ·rw [if_neg e] at h;exact List.mem_cons_of_mem _ (ih h)
theorem aMl {L:List (ByteArray×V)}{k:ByteArray} (h:lk L k=none):∀p∈L,p.1≠k:=by
 induction L with
 | nil=>intro p hp;cases hp
 | cons p r ih=>
   rw [cJ] at h;by_cases e:p.1=k
   ·rw [if_pos e] at h;cases h
   ·rw [if_neg e] at h;intro q hq;rcases List.mem_cons.1 hq with rfl | hq
    ·exact e
    ·exact ih h q hq
theorem ZY {L:List (ByteArray×V)}{k:ByteArray} (h:∀p∈L,p.1≠k):lk L k=none:=by
 cases hl:lk L k with
 | none=>rfl
 | some d=>exact absurd rfl (h _ (ZX hl))
theorem cP.head {p:ByteArray×V}{r:List (ByteArray×V)} (h:cP (p :: r)):∀q∈r,nG p.1 q.1=true:=(List.pairwise_cons.1 h).1
theorem cP.tail {p:ByteArray×V}{r:List (ByteArray×V)} (h:cP (p :: r)):cP r:=(List.pairwise_cons.1 h).2
theorem LL {L:List (ByteArray×V)} (hr:cP L){k:ByteArray}{d:V} (h:(k,d) ∈L):lk L k=some d:=by
 induction L with
 | nil=>cases h
 | cons p r ih=>
   rw [cJ];rcases List.mem_cons.1 h with e | h
   ·rw [←e,if_pos rfl]
   ·have:=hr.head _ h;rw [if_neg (cG this)];exact ih hr.tail h
theorem aFa {k:ByteArray}{d:V}{L:List (ByteArray×V)}{q:ByteArray×V} (h:q∈tM k d L):q=(k,d)∨q∈L:=by
 induction L with
 | nil=>exact Or.inl (by simpa [tM] using h)
 | cons p r ih=>
   unfold tM at h;split at h
   ·rcases List.mem_cons.1 h with rfl | h
    ·exact Or.inr (List.mem_cons_self ..)
    ·rcases ih h with h | h
     ·exact Or.inl h
     ·exact Or.inr (List.mem_cons_of_mem _ h)
   ·split at h
    ·rcases List.mem_cons.1 h with h | h
     ·exact Or.inl h
     ·exact Or.inr (List.mem_cons_of_mem _ h)
    ·rcases List.mem_cons.1 h with h | h
     ·exact Or.inl h
     ·exact Or.inr h
theorem FB {k:ByteArray}{d:V}{L:List (ByteArray×V)} (h:cP L):cP (tM k d L):=by
 induction L with
 | nil=>exact List.pairwise_singleton ..
 | cons p r ih=>
   unfold tM;split
   ·rename_i hlt;refine List.pairwise_cons.2 ⟨fun q hq=>?_,ih h.tail⟩;rcases aFa hq with rfl | hq
    ·exact hlt
    ·exact h.head q hq
   ·rename_i hlt;split
    ·rename_i he;rw [rC] at he;refine List.pairwise_cons.2 ⟨fun q hq=>?_,h.tail⟩;show nG k q.1=true;rw [←he];exact h.head q hq
    ·rename_i he;have hkp:nG k p.1=true:=rP (by simpa using hlt) (fun e=>he ((rC _ _).2 e));refine List.pairwise_cons.2 ⟨fun q hq=>?_,h⟩;rcases List.mem_cons.1 hq with rfl | hq
     ·exact hkp
     ·exact uY hkp (h.head q hq)
theorem UZ {k:ByteArray}{d:V}{L:List (ByteArray×V)} (hr:cP L) (k':ByteArray):lk (tM k d L) k'=if k=k' then some d else lk L k':=by
 induction L with
 | nil=>
   unfold tM;rw [cJ]
 | cons p r ih=>
   unfold tM;split
   ·rename_i hlt;rw [cJ,cJ,ih hr.tail];by_cases e:p.1=k'
    ·rw [if_pos e,if_pos e,if_neg (fun e'=>cG hlt (e.trans e'.symm))]
    ·rw [if_neg e,if_neg e]
   ·split
    ·rename_i he;rw [rC] at he;rw [cJ,cJ];by_cases e:k=k'
     ·rw [if_pos e,if_pos e]
     ·rw [if_neg e,if_neg e,if_neg (by rw [he];exact e)]
    ·rw [cJ]
theorem xU {k:ByteArray}{L:List (ByteArray×V)} (h:cP L):cP (lW k L):=List.Pairwise.filter _ h
theorem UY {k:ByteArray}{L:List (ByteArray×V)} (k':ByteArray):lk (lW k L) k'=if k=k' then none else lk L k':=by
 induction L with
 | nil=>rw [show lW k ([]:List (ByteArray×V))=[] from rfl,aOr];simp
 | cons p r ih=>
   unfold lW at ih ⊢;by_cases e:p.1=k
   ·rw [List.filter_cons_of_neg (by simp [(rC p.1 k).2 e]),ih,cJ];by_cases e':k=k'
    ·rw [if_pos e',if_pos e']
    ·rw [if_neg e',if_neg e',if_neg (by rw [e];exact e')]
   ·rw [List.filter_cons_of_pos (by simp [iC e]),cJ,cJ,ih];by_cases e':k=k'
    ·rw [if_pos e',if_pos e',if_neg (by rw [←e'];exact e)]
    ·rw [if_neg e',if_neg e']
theorem cP.eq_of_lk {L₁ L₂:List (ByteArray×V)} (h1:cP L₁) (h2:cP L₂) (h:∀k,lk L₁ k=lk L₂ k):L₁=L₂:=by
 refine List.Perm.eq_of_pairwise (le:=fun (p q:ByteArray×V)=>nG p.1 q.1=true) (fun p q hp hq h3 h4=>by rw [eT h3] at h4;cases h4) h1 h2 ?_;have nd:∀{L:List (ByteArray×V)},cP L→L.Nodup:=fun hr=>hr.imp (fun {a b} hab e=>by rw [e,rK] at hab;cases hab);refine (List.perm_ext_iff_of_nodup (nd h1) (nd h2)).2 fun p=>?_;constructor
 ·intro hp;exact ZX (k:=p.1) (d:=p.2) (by rw [←h];exact LL h1 hp)
 ·intro hp;exact ZX (k:=p.1) (d:=p.2) (by rw [h];exact LL h2 hp)
end
def kC (L:List (ByteArray×DataW Unit)):DataW Unit:=.map (L.map fun p=>(kL p.1,p.2))
theorem EW (L:List (ByteArray×DataW Unit)) (k:ByteArray):(L.map fun p=>(kL p.1,p.2)).find? (fun p=>p.1.sameKey (kL k))=(L.find? (fun p=>p.1.toList==k.toList)).map (fun p=>(kL p.1,p.2)):=by
 rw [List.find?_map];congr 1;apply congrFun;congr 1;funext p;exact qV p.1 k
theorem RW (L:List (ByteArray×DataW Unit)) (k:ByteArray) (z:DataW Unit):(kC L).atKey (kL k) z=(lk L k).getD z:=by
 simp only [kC,DataW.atKey];rw [EW,lk];cases L.find? (fun p=>p.1.toList==k.toList)<;>rfl
theorem aEu (L:List (ByteArray×DataW Unit)) (k:ByteArray):has (kC L) (kL k)=(lk L k).isSome:=by
 have h:∀(l:List (Lit×DataW Unit)) f,l.any f=(l.find? f).isSome:=fun l f=>by rw [Bool.eq_iff_iff,List.find?_isSome,List.any_eq_true]
 rw [kC,has_eq,h,EW,lk];cases L.find? (fun p=>p.1.toList==k.toList)<;>rfl
theorem aAu (L:List (ByteArray×DataW Unit)):Maps.size (kC L)=L.length:=by rw [kC,size_eq,List.length_map]
theorem aGf (k:ByteArray) (q:ByteArray×DataW Unit):ChangeMaps.notKey (kL k) (kL q.1,q.2)=!(q.1.toList==k.toList):=by
 show (!(kL q.1).sameKey (kL k))=_;rw [qV]
theorem oW (k:ByteArray) (L:List (ByteArray×DataW Unit)):(L.map fun p=>(kL p.1,p.2)).filter (ChangeMaps.notKey (kL k))=(lW k L).map fun p=>(kL p.1,p.2):=by
 rw [List.filter_map,lW];congr 1;apply List.filter_congr;intro q _;exact aGf k q
theorem aEh (k:ByteArray) (L:List (ByteArray×DataW Unit)):(kC L).del (kL k)=kC (lW k L):=by
 rw [kC,DataW.del_eq,ChangeMaps.delKey,oW,kC]
theorem OU (k:ByteArray) (d:DataW Unit){L:List (ByteArray×DataW Unit)} (hr:cP L) (hn:lk L k=none):DataW.insert (kL k,d) (L.map fun p=>(kL p.1,p.2))=(tM k d L).map fun p=>(kL p.1,p.2):=by
 induction L with
 | nil=>rfl
 | cons p r ih=>
   have hne:=aMl hn;rw [List.map_cons,DataW.insert,tM];by_cases h:nG p.1 k=true
   ·rw [if_neg (by rw [JW,eT h];simp),if_pos h,List.map_cons,ih hr.tail (ZY fun q hq=>hne q (List.mem_cons_of_mem _ hq))]
   ·have hne':=hne p (List.mem_cons_self ..);have hkp:nG k p.1=true:=rP (by simpa using h) hne';rw [if_pos (by rw [JW];exact hkp),if_neg h,if_neg (by rw [iC hne'];simp)];rfl
theorem UL (k:ByteArray) (d:DataW Unit){L:List (ByteArray×DataW Unit)} (hr:cP L):tM k d (lW k L)=tM k d L:=by
 refine cP.eq_of_lk (FB (xU hr)) (FB hr) fun k'=>?_;rw [UZ (xU hr),UZ hr,UY];by_cases e:k=k'
 ·rw [if_pos e,if_pos e]
 ·rw [if_neg e,if_neg e,if_neg e]
theorem aGr (k:ByteArray) (d:DataW Unit){L:List (ByteArray×DataW Unit)} (hr:cP L):(kC L).put (kL k) d=kC (tM k d L):=by
 rw [kC,DataW.put_eq,ChangeMaps.putKey,oW,OU k d (xU hr) (by rw [UY,if_pos rfl]),UL k d hr,kC]
theorem jP (L:List (ByteArray×DataW Unit)):strKeys (kC L)=L.map (fun p=>p.1.data.toList):=by
 show ((L.map fun p=>(kL p.1,p.2)).map fun p=>strOf p.1)=_;rw [List.map_map];rfl
section
variable {α β:Type}
def tA (key:α→ByteArray) (a:α):List α→List α
 | []=>[a]
 | p :: r=>if nG (key p) (key a)=true then p :: tA key a r else if (key p).toList==(key a).toList then a :: r else a :: p :: r
def aD (key:α→ByteArray) (k:ByteArray) (l:List α):List α:=l.filter (fun p=>!((key p).toList==k.toList))
def cB (key:α→ByteArray) (k:ByteArray) (l:List α):Option α:=l.find? (fun p=>(key p).toList==k.toList)
def oB (key:α→ByteArray) (l:List α):Prop:=l.Pairwise (fun p q=>nG (key p) (key q)=true)
theorem oH {key:α→ByteArray}{key':β→ByteArray} (g:α→β) (hg:∀a,key' (g a)=key a) (a:α) (l:List α):(tA key a l).map g=tA key' (g a) (l.map g):=by
 induction l with
 | nil=>rfl
 | cons p r ih=>
   rw [List.map_cons,tA,tA,hg,hg];split
   ·rw [List.map_cons,ih]
   ·split<;>simp
theorem uP {key:α→ByteArray}{key':β→ByteArray} (g:α→β) (hg:∀a,key' (g a)=key a) (k:ByteArray) (l:List α):(aD key k l).map g=aD key' k (l.map g):=by
 unfold aD;rw [List.filter_map];congr 1;apply List.filter_congr;intro p _;simp only [Function.comp,hg]
theorem wK {key:α→ByteArray}{key':β→ByteArray} (g:α→β) (hg:∀a,key' (g a)=key a) (k:ByteArray) (l:List α):cB key' k (l.map g)=(cB key k l).map g:=by
 unfold cB;rw [List.find?_map];congr 2;funext p;simp only [Function.comp,hg]
theorem fO {key:α→ByteArray}{key':β→ByteArray} (g:α→β) (hg:∀a,key' (g a)=key a){l:List α}:oB key' (l.map g) ↔ oB key l:=by
 unfold oB;rw [List.pairwise_map];simp only [hg]
theorem aIy (k:ByteArray) (d:β) (l:List (ByteArray×β)):tA (·.1) (k,d) l=tM k d l:=by
 induction l with
 | nil=>rfl
 | cons p r ih=>rw [tA,tM,ih]
theorem aIn (k:ByteArray) (l:List (ByteArray×β)):aD (·.1) k l=lW k l:=rfl
theorem TN (k:ByteArray) (l:List (ByteArray×β)):(cB (·.1) k l).map (·.2)=lk l k:=rfl
theorem aGu {l:List (ByteArray×β)}:oB (·.1) l ↔ cP l:=Iff.rfl
theorem gN {key:α→ByteArray}{k:ByteArray}{l:List α}{a:α} (h:cB key k l=some a):a∈l∧key a=k:=
 ⟨List.mem_of_find?_eq_some h,(rC _ _).1 (List.find?_some (p:=fun p=>(key p).toList==k.toList) h)⟩
theorem aR {key:α→ByteArray}{k:ByteArray}{l:List α} (h:cB key k l=none):∀a∈l,key a≠k:=fun a ha e=>by
 have:=List.find?_eq_none.1 h a ha;exact this ((rC _ _).2 e)
theorem xI {key:α→ByteArray}{k:ByteArray}{l:List α} (h:∀a∈l,key a≠k):cB key k l=none:=
 List.find?_eq_none.2 fun a ha e=>h a ha ((rC _ _).1 e)
theorem oB.head {key:α→ByteArray}{p:α}{r:List α} (h:oB key (p :: r)):∀q∈r,nG (key p) (key q)=true:=(List.pairwise_cons.1 h).1
theorem oB.tail {key:α→ByteArray}{p:α}{r:List α} (h:oB key (p :: r)):oB key r:=(List.pairwise_cons.1 h).2
theorem zN {key:α→ByteArray} (p:α) (r:List α) (k:ByteArray):cB key k (p :: r)=if key p=k then some p else cB key k r:=by
 unfold cB;by_cases h:key p=k
 ·rw [List.find?_cons_of_pos (p:=fun p:α=>(key p).toList==k.toList) (by exact (rC _ _).2 h),if_pos h]
 ·rw [List.find?_cons_of_neg (p:=fun p:α=>(key p).toList==k.toList) (by simpa using iC h),if_neg h]
theorem gI {key:α→ByteArray}{l:List α} (hr:oB key l){a:α} (h:a∈l):cB key (key a) l=some a:=by
 induction l with
 | nil=>cases h
 | cons p r ih=>
   rw [zN];rcases List.mem_cons.1 h with rfl | h
   ·rw [if_pos rfl]
   ·rw [if_neg (cG (hr.head _ h))];exact ih hr.tail h
theorem pH {key:α→ByteArray}{a q:α}{l:List α} (h:q∈tA key a l):q=a∨q∈l:=by
 induction l with
 | nil=>exact Or.inl (by simpa [tA] using h)
 | cons p r ih=>
   unfold tA at h;split at h
   ·rcases List.mem_cons.1 h with rfl | h
    ·exact Or.inr (List.mem_cons_self ..)
    ·rcases ih h with h | h
     ·exact Or.inl h
     ·exact Or.inr (List.mem_cons_of_mem _ h)
   ·split at h
    ·rcases List.mem_cons.1 h with h | h
     ·exact Or.inl h
     ·exact Or.inr (List.mem_cons_of_mem _ h)
    ·rcases List.mem_cons.1 h with h | h
     ·exact Or.inl h
     ·exact Or.inr h
theorem dH {key:α→ByteArray}{a:α}{l:List α} (h:oB key l):oB key (tA key a l):=by
 induction l with
 | nil=>exact List.pairwise_singleton ..
 | cons p r ih=>
   unfold tA;split
   ·rename_i hlt;refine List.pairwise_cons.2 ⟨fun q hq=>?_,ih h.tail⟩;rcases pH hq with rfl | hq
    ·exact hlt
    ·exact h.head q hq
   ·rename_i hlt;split
    ·rename_i he;rw [rC] at he;refine List.pairwise_cons.2 ⟨fun q hq=>?_,h.tail⟩;rw [←he];exact h.head q hq
    ·rename_i he;have hkp:nG (key a) (key p)=true:=rP (by simpa using hlt) (fun e=>he ((rC _ _).2 e));refine List.pairwise_cons.2 ⟨fun q hq=>?_,h⟩;rcases List.mem_cons.1 hq with rfl | hq
     ·exact hkp
     ·exact uY hkp (h.head q hq)
theorem aEz {key:α→ByteArray}{a:α}{l:List α} (h:∀p∈l,nG (key p) (key a)=true):tA key a l=l++[a]:=by
 induction l with
 | nil=>rfl
 | cons p r ih=>
   unfold tA;rw [if_pos (h p (List.mem_cons_self ..)),ih (fun q hq=>h q (List.mem_cons_of_mem _ hq))];rfl
theorem zY {key:α→ByteArray}{a:α}{l:List α} (h:cB key (key a) l=none):(tA key a l).Perm (a :: l):=by
 induction l with
 | nil=>exact List.Perm.refl _
 | cons p r ih=>
   have hne:=aR h;unfold tA;split
   ·have:=ih (xI fun q hq=>hne q (List.mem_cons_of_mem _ hq));exact (List.Perm.cons p this).trans (List.Perm.swap a p r)
   ·rw [if_neg (by rw [iC (hne p (List.mem_cons_self ..))];simp)]
theorem tK {key:α→ByteArray}{k:ByteArray}{l:List α} (h:oB key l):oB key (aD key k l):=List.Pairwise.filter _ h
theorem jN {key:α→ByteArray}{k:ByteArray}{l:List α}{a:α}:a∈aD key k l ↔ a∈l∧key a≠k:=by
 unfold aD;rw [List.mem_filter];constructor
 ·rintro ⟨h1,h2⟩;exact ⟨h1,fun e=>by rw [(rC _ _).2 e] at h2;cases h2⟩
 ·rintro ⟨h1,h2⟩;exact ⟨h1,by rw [iC h2];rfl⟩
end
theorem OL {α:Type} (key:α→ByteArray) (val:α→DataW Unit) (l:List α) (k:ByteArray):has (kC (l.map fun a=>(key a,val a))) (kL k)=(cB key k l).isSome:=by
 rw [aEu,←TN,wK (key:=key) (fun a=>(key a,val a)) (fun _=>rfl)];cases cB key k l<;>rfl
theorem sN {α:Type} (key:α→ByteArray) (val:α→DataW Unit) (l:List α) (k:ByteArray) (z:DataW Unit):(kC (l.map fun a=>(key a,val a))).atKey (kL k) z=((cB key k l).map val).getD z:=by
 rw [RW,←TN,wK (key:=key) (fun a=>(key a,val a)) (fun _=>rfl)];cases cB key k l<;>rfl
theorem aMy {α:Type}{key:α→ByteArray} (val:α→DataW Unit){l:List α} (h:oB key l):cP (l.map fun a=>(key a,val a)):=by
 rw [←aGu,fO (key:=key) (fun a=>(key a,val a)) (fun _=>rfl)];exact h
theorem fZ {α:Type}{key:α→ByteArray} (val:α→DataW Unit) (a:α){l:List α} (h:oB key l):(kC (l.map fun a=>(key a,val a))).put (kL (key a)) (val a)=kC ((tA key a l).map fun a=>(key a,val a)):=by
 rw [aGr _ _ (aMy val h),oH (key':=(·.1)) (fun a=>(key a,val a)) (fun _=>rfl),aIy]
theorem OA {α:Type}{key:α→ByteArray} (val:α→DataW Unit) (k:ByteArray) (l:List α):(kC (l.map fun a=>(key a,val a))).del (kL k)=kC ((aD key k l).map fun a=>(key a,val a)):=by
 rw [aEh,uP (key':=(·.1)) (fun a=>(key a,val a)) (fun _=>rfl),aIn]
theorem oI {α:Type} (key:α→ByteArray) (val:α→DataW Unit) (l:List α):Maps.size (kC (l.map fun a=>(key a,val a)))=l.length:=by
 rw [aAu,List.length_map]
def mF (met:ByteArray→ByteArray) (l:List gA) (m:ByteArray):Nat:=(l.filter fun p=>(met p.s).toList==m.toList).length
theorem KG {met:ByteArray→ByteArray}{l l':List gA} (h:l.Perm l') (m:ByteArray):mF met l m=mF met l' m:=(h.filter _).length_eq
theorem KF (met:ByteArray→ByteArray) (p:gA) (l:List gA) (m:ByteArray):mF met (p :: l) m=mF met l m+if met p.s=m then 1 else 0:=by
 unfold mF;by_cases h:met p.s=m
 ·rw [List.filter_cons_of_pos (by exact (rC _ _).2 h),if_pos h];rfl
 ·rw [List.filter_cons_of_neg (by rw [iC h];simp),if_neg h];rfl
theorem NT (met:ByteArray→ByteArray) (l:List gA) (m:ByteArray):mF met l m≤l.length:=List.length_filter_le _ _
end Go.Proofs.YtcneojllbkacoaaGreatDoor
namespace Go.Proofs.YtcneojllbkacoaaGreatDoor
def xG (f:Nat→Bool):Nat→Bool
 | 0=>true
 | k+1=>xG f k&&f k
theorem xH (f:Nat→Bool) (k:Nat):xG f (k+1)=(xG f k&&f k):=rfl
theorem qK {f:Nat→Bool}{k n:Nat} (h:f k=false) (hk:k<n):xG f n=false:=by
 induction n with
 | zero=>omega
 | succ n ih=>
   rw [xH];by_cases e:k=n
   ·subst e;rw [h,Bool.and_false]
   ·rw [ih (by omega),Bool.false_and]
theorem vL {f:Nat→Bool}{k n:Nat} (h:xG f n=true) (hk:k<n):f k=true:=by
 cases hf:f k with
 | true=>rfl
 | false=>rw [qK hf hk] at h;cases h
def okT (c:UInt8):Bool:=(97≤c&&c≤122) ||(48≤c&&c≤57) ||c==45
def dC (s:ByteArray):Bool:=decide (1≤s.size) &&decide (s.size≤32) &&s.data.toList.all okT
def oD (s:ByteArray):Bool:=!s.toList.isEmpty&&decide (rJ s=0)
def bC (s:ByteArray):ByteArray:=uH (zD s).1
def yF (s:ByteArray):Bool:=!(bC s).toList.isEmpty
def dD (t:cA):Bool:=t.limit==-1&&t.mets.length==0&&t.sers.length==0
def eI (ps:List gA) (i:Nat):Bool:=match i with
 | 0=>true
 | j+1=>match ps[j]?,ps[j+1]? with
   | some p,some q=>nG p.s q.s
   | _,_=>false
def qG (ms:List gA) (i:Nat):Bool:=match ms[i]? with
 | some m=>eI ms i&&oD m.s&&mA m.n 0 1000000
 | none=>false
def oJ (ms:List gA):Bool:=xG (qG ms) ms.length
def sF (win now:Int) (xs:List gA) (i:Nat):Bool:=match xs[i]? with
 | some x=>eI xs i&&yF x.s&&mA x.n 0 now&&decide (now - x.n<win)
 | none=>false
def zI (win now:Int) (xs:List gA):Bool:=xG (sF win now xs) xs.length
def pJ (ts:List cA) (i:Nat):Bool:=match i with
 | 0=>true
 | j+1=>match ts[j]?,ts[j+1]? with
   | some p,some q=>nG p.name q.name
   | _,_=>false
def qM (win now:Int) (t:cA):Bool:=dC t.name&&mA t.limit (-1) 1000000&&oJ t.mets&&zI win now t.sers&&!dD t
def gK (win now:Int) (ts:List cA) (i:Nat):Bool:=match ts[i]? with
 | some t=>pJ ts i&&qM win now t
 | none=>false
def iK (win now:Int) (ts:List cA):Bool:=xG (gK win now ts) ts.length
def vB (c:eC) (now:Int) (ts:List cA):Bool:=jH c&&mA now 0 1000000000000&&decide (ts.length≤10000) &&iK c.w now ts
theorem eO {ps:List gA}{k:Nat} (hk:0<k) (hl:k<ps.length):eI ps k=nG (ps[k - 1]'(by omega)).s ps[k].s:=by
 obtain ⟨j,rfl⟩:∃j,k=j+1:=⟨k - 1,by omega⟩
 simp [eI,List.getElem?_eq_getElem (show j<ps.length by omega),List.getElem?_eq_getElem hl]
theorem cQ {ps:List cA}{k:Nat} (hk:0<k) (hl:k<ps.length):pJ ps k=nG (ps[k - 1]'(by omega)).name ps[k].name:=by
 obtain ⟨j,rfl⟩:∃j,k=j+1:=⟨k - 1,by omega⟩
 simp [pJ,List.getElem?_eq_getElem (show j<ps.length by omega),List.getElem?_eq_getElem hl]
theorem pS {ms:List gA}{k:Nat} (hl:k<ms.length):qG ms k=(eI ms k&&oD ms[k].s&&mA ms[k].n 0 1000000):=by simp [qG,List.getElem?_eq_getElem hl]
theorem fQ {win now:Int}{ms:List gA}{k:Nat} (hl:k<ms.length):sF win now ms k=(eI ms k&&yF ms[k].s&&mA ms[k].n 0 now&&decide (now - ms[k].n<win)):=by simp [sF,List.getElem?_eq_getElem hl]
theorem jQ {win now:Int}{ts:List cA}{k:Nat} (hl:k<ts.length):gK win now ts k=(pJ ts k&&qM win now ts[k]):=by simp [gK,List.getElem?_eq_getElem hl]
theorem gO {α:Type}{key:α→ByteArray}:∀(l:List α),(∀k (h:k+1<l.length),nG (key (l[k]'(by omega))) (key l[k+1])=true)→oB key l
 | [],_=>List.Pairwise.nil
 | [a],_=>List.pairwise_singleton ..
 | a :: b :: r,h=>by
   have hr:oB key (b :: r):=gO (b :: r) fun k hk=>h (k+1) (by simp at hk ⊢;omega);have h0:nG (key a) (key b)=true:=h 0 (by simp);refine List.pairwise_cons.2 ⟨fun q hq=>?_,hr⟩;rcases List.mem_cons.1 hq with rfl | hq
   ·exact h0
   ·exact uY h0 (hr.head q hq)
theorem aGv {α:Type}{key:α→ByteArray}{l:List α} (k:Nat) (h:oB key l):oB key (l.take k):=List.Pairwise.sublist (List.take_sublist ..) h
theorem dZ {ms:List gA}{n:Nat} (h:xG (qG ms) n=true) (hn:n≤ms.length):oB (·.s) (ms.take n):=by
 apply gO;intro k hk;simp only [List.length_take] at hk;have:=vL h (k:=k+1) (by omega);rw [pS (by omega),Bool.and_eq_true,Bool.and_eq_true] at this;have h1:=this.1.1;rw [eO (by omega) (by omega)] at h1;simpa using h1
theorem mZ {win now:Int}{ms:List gA}{n:Nat} (h:xG (sF win now ms) n=true) (hn:n≤ms.length):oB (·.s) (ms.take n):=by
 apply gO;intro k hk;simp only [List.length_take] at hk;have:=vL h (k:=k+1) (by omega);rw [fQ (by omega),Bool.and_eq_true,Bool.and_eq_true,Bool.and_eq_true] at this;have h1:=this.1.1.1;rw [eO (by omega) (by omega)] at h1;simpa using h1
theorem aHj {win now:Int}{ts:List cA}{n:Nat} (h:xG (gK win now ts) n=true) (hn:n≤ts.length):oB (·.name) (ts.take n):=by
 apply gO;intro k hk;simp only [List.length_take] at hk;have:=vL h (k:=k+1) (by omega);rw [jQ (by omega),Bool.and_eq_true] at this;have h1:=this.1;rw [cQ (by omega) (by omega)] at h1;simpa using h1
theorem FD {α:Type}{key:α→ByteArray}{l:List α}{k:Nat} (hk:k<l.length) (h:oB key (l.take (k+1))):tA key l[k] (l.take k)=l.take (k+1)∧cB key (key l[k]) (l.take k)=none:=by
 rw [List.take_succ_eq_append_getElem hk] at h ⊢;have hb:∀p∈l.take k,nG (key p) (key l[k])=true:=fun p hp=>(List.pairwise_append.1 h).2.2 p hp _ (List.mem_singleton.2 rfl);exact ⟨aEz hb,xI fun p hp=>cG (hb p hp)⟩
end Go.Proofs.YtcneojllbkacoaaGreatDoor
namespace Go.Proofs.YtcneojllbkacoaaGreatDoor
open Go.RowKit
theorem AW (s:ByteArray) (w:World) (hs:s.size≤1000000000) (hT:wF w):
 Calls Tryz.prog 219 #[.string s] w fun e w'=>e=.returned (.int .i64 (rJ s:Nat))∧Below w.heap.size w w':=by
 have HT:Hid (wF w):=hT;clear hT;have hrg:=run_range_string w 9 s Tryz.underlying9;have HI0:Hid (sI (w.iter s 0) w.heap.size s 0∧Below w.heap.size w (w.iter s 0)):=⟨World.iter_heap _ _ _,bA _ _⟩
 generalize w.iter s 0=w0 at *;go_enter Tryz.func219,Tryz.ntmps219;go_wp2;clear hrg;go_loopw [3,4,5,6] (fun cnt con _ _ wr=>∃(p:Nat) (acc:List Nat) (bc:Bool),p≤s.size∧acc.length≤p∧Hid (rT s p acc∧bc=acc.any nP)∧cnt=.int .i64 (acc.length:Nat)∧con=.bool bc∧Hid (sI wr w.heap.size s p∧Below w.heap.size w wr)) (fun _ _ _ _ wr=>s.size - wr.iterPos w.heap.size)
 case atStart=>
  exact ⟨0,[],false,Nat.zero_le _,Nat.le_refl _,⟨rT.start s,rfl⟩,rfl,rfl,HI0.out⟩
 case round=>
  obtain ⟨p,acc,bc,hp,hac,HR,rfl,rfl,HW⟩:=hrel;have HM:Hid (wr.iterPos w.heap.size=p):=by show _=_;unfold World.iterPos;rw [HW.out.1]
  clear HI0;by_cases hlt:p<s.size
  ·have hnx:∀ty,(Instr.next (.pointer (some ⟨w.heap.size,0,none⟩)) true ty).run Tryz.prog wr=_:=fun ty=>aJv wr w.heap.size s p ty HW.out.1 hlt;have hpos:=vQ s p;have hrun:=gS s p;have HWA:Hid _:=fun W h=>XR s p W hlt h;have HFIT:Hid _:=AE s p hlt;have HST:Hid _:=fun hd=>HR.out.1.step hlt hd;have HBAD:Hid _:=fun hd=>HR.out.1.bad hlt hd;have HAN:Hid (∀r,(acc++[r]).any nP=(bc||nP r)):=fun r=>by rw [List.any_append,←HR.out.2];simp
   have HW1:Hid (sI (bJ wr w.heap.size s (p+(Utf8.decode s p).2)) w.heap.size s (p+(Utf8.decode s p).2)∧Below w.heap.size w (bJ wr w.heap.size s (p+(Utf8.decode s p).2))):=⟨HW.out.1.set _,IY HW.out.2 (Nat.le_refl _) _ _⟩
   obtain ⟨R,hR⟩:∃R,(Utf8.decode s p).1=R:=⟨_,rfl⟩
   obtain ⟨N,hN⟩:∃N,(Utf8.decode s p).2=N:=⟨_,rfl⟩
   have HD:Hid (Utf8.decode s p=(R,N)):=by show _=_;rw [←hR,←hN]
   rw [hR] at hrun hnx;rw [hN] at hrun hnx hpos;have HWA2:Hid (∀W,wF W→Calls Tryz.prog 245 #[.string s,.int .i64 (p:Nat)] W fun e w'=>e=.returned (.int .i64 (N:Nat))∧Below W.heap.size W w'):=by show ∀_,_;rw [←hN];exact HWA.out
   have HST2:Hid ((R,N)≠(65533,1)→rT s (p+N) (acc++[R])∧p+N≤s.size):=fun h=>by
    have hd:Utf8.decode s p≠(65533,1):=by rw [HD.out];exact h
    have h1:=HST.out hd;have h2:=HFIT.out hd;rw [hR,hN] at h1;rw [hN] at h2;exact ⟨h1,h2⟩
   have HW2:Hid (sI (bJ wr w.heap.size s (p+N)) w.heap.size s (p+N)∧Below w.heap.size w (bJ wr w.heap.size s (p+N))):=by show _∧_;rw [←hN];exact HW1.out
   clear HWA HST HFIT HW1 hR hN HW;obtain ⟨hr1,hr2⟩:=hrun;generalize bJ wr w.heap.size s (p+N)=W1 at *;have HGO:Hid (∀W,(R,N)≠(65533,1)→Below W1.heap.size W1 W→∃(p':Nat) (acc':List Nat) (bc':Bool),p'≤s.size∧acc'.length≤p'∧Hid (rT s p' acc'∧bc'=acc'.any nP)∧Value.int .i64 ((acc.length:Int)+1)=.int .i64 (acc'.length:Nat)∧Value.bool (bc||nP R)=.bool bc'∧Hid (sI W w.heap.size s p'∧Below w.heap.size w W)):=fun W hne hb=>
    ⟨p+N,acc++[R],bc||nP R,(HST2.out hne).2,(HST2.out hne).1.1,⟨(HST2.out hne).1,(HAN.out R).symm⟩,by simp,rfl,HW2.out.1.later hb,rA HW2.out.2 hb⟩
   have HME:Hid (∀W,(R,N)≠(65533,1)→Below W1.heap.size W1 W→s.size - W.iterPos w.heap.size<s.size - wr.iterPos w.heap.size):=fun W hne hb=>by
    have h1:W.iterPos w.heap.size=p+N:=by unfold World.iterPos;rw [HW2.out.1.later hb]
    rw [h1,HM.out];omega
   by_cases hf:R=65533
   ·have hfb:((R:Int)==65533)=true:=by simp;omega
    by_cases h1:N=1
    ·have hnb:((N:Int)==1)=true:=by simp;omega
     have HV:Hid _:=HBAD.out (by rw [HD.out,hf,h1]);clear HGO HME;go_wp2_with fail;refine (HWA2.out _ (HT.out.later HW2.out.2)).mono ?_;rintro e w2 ⟨rfl,hb2⟩;have HB2:Hid _:=rA HW2.out.2 hb2;clear hb2;go_wp2;go_ret;exact ⟨jB (by rw [HV.out];rfl),HB2.out⟩
    ·have hnb:((N:Int)==1)=false:=by simp;omega
     have hne:(R,N)≠(65533,1):=by simp;omega
     have HNE:Hid ((R,N)≠(65533,1)):=hne;clear hne hf h1;cases bc with
     | true=>
       go_wp2_with fail;refine (HWA2.out _ (HT.out.later HW2.out.2)).mono ?_;rintro e w2 ⟨rfl,hb2⟩;have HB2:Hid _:=hb2;clear hb2;go_wp2;have hg:=HGO.out _ HNE.out HB2.out;rw [Bool.true_or] at hg;exact ⟨hg,HME.out _ HNE.out HB2.out⟩
     | false=>
       go_wp2_with fail;refine (HWA2.out _ (HT.out.later HW2.out.2)).mono ?_;rintro e w2 ⟨rfl,hb2⟩;have HB2:Hid _:=hb2;clear hb2;go_wp2_with fail;refine (eU R _ hr1).mono ?_;rintro e w3 ⟨rfl,hw⟩;replace hw:=hw.symm;subst hw;go_wp2;have hg:=HGO.out _ HNE.out HB2.out;rw [Bool.false_or] at hg;exact ⟨hg,HME.out _ HNE.out HB2.out⟩
   ·have hfb:((R:Int)==65533)=false:=by simp;omega
    have HNE:Hid ((R,N)≠(65533,1)):=by show _≠_;simp;omega
    cases bc with
    | true=>
      go_wp2;have hg:=HGO.out _ HNE.out (Below.refl _ _);rw [Bool.true_or] at hg;exact ⟨hg,HME.out _ HNE.out (Below.refl _ _)⟩
    | false=>
      go_wp2_with fail;refine (eU R _ hr1).mono ?_;rintro e w3 ⟨rfl,hw⟩;replace hw:=hw.symm;subst hw;go_wp2;have hg:=HGO.out _ HNE.out (Below.refl _ _);rw [Bool.false_or] at hg;exact ⟨hg,HME.out _ HNE.out (Below.refl _ _)⟩
  ·have hnx:∀ty,(Instr.next (.pointer (some ⟨w.heap.size,0,none⟩)) true ty).run Tryz.prog wr=_:=fun ty=>aJw wr w.heap.size s p ty HW.out.1 hlt;have HV:Hid _:=HR.out.1.done (by omega);have HC:Hid _:=HR.out.2;have HB:Hid _:=HW.out.2;clear HR HW HM;by_cases h128:128<acc.length
   ·have HE2:Hid (rJ s=43):=by show _=_;rw [HV.out,SY,if_pos h128]
    go_wp2;go_ret;exact ⟨jB (by rw [HE2.out];rfl),HB.out⟩
   ·cases bc with
    | true=>
      have HE2:Hid (rJ s=44):=by show _=_;rw [HV.out,SY,if_neg h128,←HC.out];rfl
      go_wp2;go_ret;exact ⟨jB (by rw [HE2.out];rfl),HB.out⟩
    | false=>
      have HE2:Hid (rJ s=0):=by show _=_;rw [HV.out,SY,if_neg h128,←HC.out];rfl
      go_wp2;go_ret;exact ⟨jB (by rw [HE2.out];rfl),HB.out⟩
def CR (acc:List Nat):List Int:=acc.map fun (r:Nat)=>(r:Int)
theorem GN (acc:List Nat):(CR acc).length=acc.length:=by simp [CR]
theorem aHc (acc:List Nat) (r:Nat):CR (acc++[r])=CR acc++[(r:Int)]:=by simp [CR]
theorem aMa (r:Nat) (h:¬r<32):mA (r:Int) 127 159=nP r:=by
 unfold mA nP;rw [Bool.eq_iff_iff];simp;omega
theorem aDk (l:List Nat) (k:Nat) (h:k<l.length):l.any nP=((l.take k).any nP||(nP l[k] ||(l.drop (k+1)).any nP)):=by
 have e:=List.take_append_drop k l;rw [List.drop_eq_getElem_cons h] at e;rw [←List.any_cons,←List.any_append,e]
theorem BS (s:ByteArray) (w:World) (hs:s.size≤1000000000):
 Calls Tryz.prog 137 #[.string s] w fun e w'=>e=.returned (.int .i64 (rJ s:Nat))∧Below w.heap.size w w':=by
 obtain ⟨ti,hti,hz0,hz1,hz2⟩:=aIv;have HI:Hid _:=hti;clear hti;go_enter Tryz.func137,Tryz.ntmps137;go_wp2;go_loopw [3,4,5,6] (fun out at_ _ _ wr=>∃(p:Nat) (acc:List Nat) (av:Option Addr) (cv:Nat),p≤s.size∧acc.length≤p∧Hid (rT s p acc∧∀i (h:i<acc.length),acc[i]≤1114111)∧at_=.int .i64 p∧out=.slice av acc.length cv∧Hid (wr.ownsRow w.heap.size 3 1 (.slice av acc.length cv) acc.length ((CR acc).map (Value.int .i64)))∧Below w.heap.size w wr) (fun _ at_ _ _ _=>s.size - (intOf at_).toNat)
 case atStart=>
  exact ⟨0,[],_,_,Nat.zero_le _,Nat.zero_le _,⟨rT.start s,fun i h=>absurd h (by simp)⟩,rfl,rfl,World.ownsRow_made w #[] 0 (Nat.le_refl _) (by simp [maxLen]) (by simp),bA _ _⟩
 case round=>
  obtain ⟨p,acc,av,cv,hp,hac,HR,rfl,rfl,hrow,hbel⟩:=hrel;have hsz:=hbel.size;by_cases hlt:p<s.size
  ·have hz:(s.extract p s.size).size=s.size - p:=by simp
   have hfi:=fun W=>QF (s.extract p s.size) W (by omega) (by unfold maxLen;omega);rw [aOo] at hfi;by_cases hd:Utf8.decode s p=(65533,1)
   ·rw [if_pos hd] at hfi;have HFI:Hid (∀W,Calls Tryz.prog 181 #[.string (s.extract p s.size)] W fun e w'=>e=.returned (.tuple #[.int .i64 0,.int .i64 0])∧w'=W):=hfi;have HE:Hid _:=HR.out.1.bad hlt hd;clear hfi hd hz;go_wp2_with fail;refine (HFI.out _).mono ?_;rintro e w1 ⟨rfl,hw⟩;replace hw:=hw.symm;subst hw;go_wp2;go_ret;exact ⟨jB (by rw [HE.out];rfl),hbel⟩
   ·rw [if_neg hd] at hfi;have hpos:=vQ s p;have hfit:=AE s p hlt hd;have hrun:=gS s p;have HST:Hid (rT s (p+(Utf8.decode s p).2) (acc++[(Utf8.decode s p).1])):=HR.out.1.step hlt hd;generalize (Utf8.decode s p).1=R at *;generalize (Utf8.decode s p).2=N at *;have HFI:Hid _:=hfi;have hn0:((N:Int)==0)=false:=by simp;omega
    obtain ⟨hr1,hr2⟩:=hrun;clear hfi hd hz;go_wp2_with fail;refine (HFI.out _).mono ?_;rintro e w1 ⟨rfl,hw⟩;replace hw:=hw.symm;subst hw;go_wp2_with (at_builtin;refine wpList_append_lies _ rfl _ _ _ rfl w.heap.size 3 ti _ 1 8 Tryz.underlying259 HI.out hz0 hz1 hz2 rfl (by omega) (.slice av acc.length cv) acc.length ((CR acc).map (Value.int .i64)) rfl (by exact yA hrow.out (bA _ _)) ⟨wr.heap.size,0,none⟩ 1 1 [.int .i64 (R:Int)] rfl rfl (by exact World.news_of_block (heap_alloc_new _ _)) (by simp [Value.oneCell']) (by omega) (by simp [maxLen];omega) (by omega) (by simp;omega) (wr.heap.size+1) (by simp) ?_;intro g5 cap5 w5 hown5 hgrow5 hat5 hlt5);have hB5:Below w.heap.size w w5:=(rA hbel (bA _ _)).grown hgrow5 (by simp;omega) (fun q hq=>by
     rcases hrow.out.2 with ⟨he,_⟩ | ⟨g,cap,cur,he,hB,_⟩
     ·rw [he] at hq;simp [Value.ownBlock] at hq
     ·rw [he] at hq;simp [Value.ownBlock] at hq;omega)
    have hxs:(CR acc).map (Value.int .i64)++[Value.int .i64 (R:Int)]=(CR (acc++[R])).map (Value.int .i64):=by simp [aHc]
    have hle:(acc++[R]).length=acc.length+1:=by simp
    rw [hxs,←hle] at hown5;refine ⟨⟨p+N,acc++[R],some ⟨g5,0,none⟩,cap5,by omega,by rw [hle];omega,⟨HST.out,fun i hi=>?_⟩,by go_num,by rw [hle],hown5,hB5⟩,by simp [intOf];omega⟩;by_cases e:i<acc.length
    ·rw [List.getElem_append_left e];exact HR.out.2 i e
    ·rw [List.getElem_append_right (by omega)];simp;exact hr1
  ·have HE:Hid _:=HR.out.1.done (by omega);by_cases h128:128<acc.length
   ·have HE2:Hid (rJ s=43):=by show _=_;rw [HE.out,SY,if_pos h128]
    go_wp2;go_ret;exact ⟨jB (by rw [HE2.out];rfl),hbel⟩
   ·have HE2:Hid (rJ s=if acc.any nP=true then 44 else 0):=by show _=_;rw [HE.out,SY,if_neg h128]
    have HN:Hid (MY wr av (CR acc)):=VR (by rw [GN];exact hrow.out);have HA:Hid _:=HR.out.2;clear hrow HR HE;go_wp2;go_loop [8,35] (fun _ i=>∃k:Nat,k≤acc.length∧i=.int .i64 k∧Hid ((acc.take k).any nP=false)) (fun _ i=>acc.length - (intOf i).toNat)
    case atStart=>exact ⟨0,Nat.zero_le _,rfl,by show _=_;simp⟩
    case round=>
     obtain ⟨k,hk,rfl,HK⟩:=hrel;by_cases hlk:k<acc.length
     ·obtain ⟨b,o,rfl,hb,c0⟩:=HN.out.at (i:=k) (by rw [GN];exact hlk)
      have hr:=HA.out k hlk;have e0:(CR acc)[k]'(by rw [GN];exact hlk)=((acc[k]:Nat):Int):=by simp [CR]
      rw [e0] at c0;have HYES:Hid (nP acc[k]=true→rJ s=44):=fun h=>by rw [HE2.out,aDk acc k hlk,h];simp
      have HNO:Hid (nP acc[k]=false→(acc.take (k+1)).any nP=false):=fun h=>by rw [List.take_succ_eq_append_getElem hlk,List.any_append,HK.out];simp [h]
      have HB:=aMa acc[k];clear e0;generalize acc[k]=R at *;by_cases h32:R<32
      ·have E:Hid (nP R=true):=by show _=_;simp [nP,h32]
       clear HB;go_wp2;go_ret;exact ⟨jB (by rw [HYES.out E.out];rfl),hbel⟩
      ·have HBT:Hid _:=HB h32;clear HB;by_cases hc:nP R=true
       ·have HB2:Hid _:=HBT.out.trans hc;have HC:Hid _:=hc;clear hc;go_wp2_with fail;refine (sC _ _ _ _).mono ?_;rintro e w1 ⟨rfl,hw⟩;rw [HB2.out];replace hw:=hw.symm;subst hw;go_wp2;go_ret;exact ⟨jB (by rw [HYES.out HC.out];rfl),hbel⟩
       ·have HC:Hid (nP R=false):=by show _=_;simpa using hc
        have HB2:Hid _:=HBT.out.trans HC.out;clear hc;go_wp2_with fail;refine (sC _ _ _ _).mono ?_;rintro e w1 ⟨rfl,hw⟩;rw [HB2.out];replace hw:=hw.symm;subst hw;go_wp2;exact ⟨⟨k+1,by omega,by go_num,HNO.out HC.out⟩,by simp [intOf];omega⟩
     ·have HV:Hid (rJ s=0):=by
       show _=_;have:=HK.out;rw [List.take_of_length_le (by omega)] at this;rw [HE2.out,this];rfl
      go_wp2;go_ret;exact ⟨jB (by rw [HV.out];rfl),hbel⟩
def sB (ls:List zA):List Value:=ls.flatMap fun x=>[.string x.name,.string x.value]
theorem vD (a b:List zA):sB (a++b)=sB a++sB b:=by simp [sB]
theorem yM (ls:List zA):(sB ls).length=ls.length * 2:=by
 induction ls with
 | nil=>rfl
 | cons f r ih=>simp [sB] at *;omega
theorem zW:∃i,Tryz.prog.info? 202=some i∧i.zero=some (.agg #[.string ByteArray.empty,.string ByteArray.empty])∧i.size=2∧i.bytes=32:=by
 obtain ⟨i,hi,hz⟩:=Option.map_eq_some_iff.1 ZJ;simp only [Prod.mk.injEq] at hz;exact ⟨i,hi,hz.1,hz.2.1,hz.2.2⟩
theorem aGd (W:World) (x:Obj) (cs:Array Value) (t:TypeId):∀j u,cs.toList[j]?=some u→((W.alloc x).alloc (.cells cs t)).cell? ((⟨W.heap.size+1,0,none⟩:Addr).add j)=some u:=
 World.news_of_block (fr:=(0,0)) (by have h:=heap_alloc_new (W.alloc x) (.cells cs t);simpa using h)
theorem UR (l:zA):sO l=l.value.toList.isEmpty:=by
 have e:ByteArray.empty.toList=[]:=by rw [ByteArray.toList_eq];rfl
 unfold sO;rw [e];cases l.value.toList<;>rfl
theorem yQ (ls:List zA):∀u∈sB ls,u.oneCell'=true:=by
 intro u hu;simp only [sB,List.mem_flatMap,List.mem_cons,List.not_mem_nil,or_false] at hu;obtain ⟨f,_,rfl | rfl⟩:=hu<;>rfl
theorem aIu {w:World}{g:Nat}{ys:List zA} (h:∀j u,(sB ys)[j]?=some u→w.cell? ⟨g,j,none⟩=some u) (p:Nat):∀j u,(sB (ys.drop p))[j]?=some u→w.cell? ⟨g,p * 2+j,none⟩=some u:=by
 intro j u hu;refine h _ _ ?_;by_cases hp:p≤ys.length
 ·have e:sB ys=sB (ys.take p)++sB (ys.drop p):=by rw [←vD,List.take_append_drop]
  have hl:(sB (ys.take p)).length=p * 2:=by rw [yM,List.length_take];omega
  rw [e,List.getElem?_append_right (by omega),hl,Nat.add_sub_cancel_left];exact hu
 ·rw [List.drop_of_length_le (by omega)] at hu;simp [sB] at hu
theorem ZC {ys:List zA}{p:Nat}:∀(j:Nat) (u:Value),(sB (ys.take p))[j]?=some u→(sB ys)[j]?=some u:=by
 intro j u hu;have e:sB ys=sB (ys.take p)++sB (ys.drop p):=by rw [←vD,List.take_append_drop]
 have hj:j<(sB (ys.take p)).length:=(List.getElem?_eq_some_iff.1 hu).1;rw [e,List.getElem?_append_left hj];exact hu
theorem eL {w:World}{B:Nat}{e:TypeId}{g cv:Nat}{ys:List zA} (h:w.ownsRow B e 2 (.slice (some ⟨g,0,none⟩) ys.length cv) ys.length (sB ys)):ys.length≤cv∧g<w.heap.size∧B≤g∧∀j u,(sB ys)[j]?=some u→w.cell? ⟨g,j,none⟩=some u:=by
 rcases h.2 with ⟨he,_⟩ | ⟨g',cap',cur,he,hB,hb,hc,_,_,ht⟩
 ·simp at he
 ·simp only [Value.slice.injEq,Option.some.injEq,Addr.mk.injEq,and_true] at he;obtain ⟨rfl,_,rfl⟩:=he;refine ⟨hc,aA hb,hB,fun j u hu=>?_⟩;rw [cell_of_row w g j cur _ _ hb,←Array.getElem?_toList];rw [←ht] at hu;have hj:=(List.getElem?_eq_some_iff.1 hu).1;rw [List.length_take] at hj;rw [List.getElem?_take_of_lt (by omega)] at hu;exact hu
theorem GQ {w:World}{g:Nat}{ys:List zA} (h:∀j u,(sB ys)[j]?=some u→w.cell? ⟨g,j,none⟩=some u) (p:Nat):bS w (some ⟨g,0,none⟩) p (sB (ys.take p)):=
 Or.inr ⟨_,rfl,fun j u hu=>by rw [DL,Nat.zero_add];exact h _ _ (ZC j u hu)⟩
theorem aKu {w:World}{g cv:Nat}{ys:List zA} (h:∀j u,(sB ys)[j]?=some u→w.cell? ⟨g,j,none⟩=some u) (p:Nat) (hc:ys.length≤cv):bS w (if cv=p then some ⟨g,0,none⟩ else some ⟨g,p * 2,none⟩) (ys.length - p) (sB (ys.drop p)):=by
 by_cases e:cv=p
 ·exact Or.inl (by omega)
 ·rw [if_neg e];exact Or.inr ⟨_,rfl,fun j u hu=>by rw [DL];exact aIu h p j u hu⟩
theorem aNh {w:World}{g:Nat}{x y:Value}{t:TypeId} (h:w.heap[g]?=some (.cells #[x,y] t (0,0))):bS w (some ⟨g,0,none⟩) 1 [x,y]:=
 Or.inr ⟨_,rfl,World.news_of_block (cs:=#[x,y]) h⟩
theorem qO {W w:World}{g:Nat}{ys:List zA} (h:∀j u,(sB ys)[j]?=some u→W.cell? ⟨g,j,none⟩=some u) (hg:g<W.heap.size) (hb:Below W.heap.size W w):∀j u,(sB ys)[j]?=some u→w.cell? ⟨g,j,none⟩=some u:=
 fun j u hu=>(hb.cell hg).trans (h j u hu)
theorem aCy (W:World) (x y:Obj):((W.alloc x).alloc y).drew.heap[W.heap.size+1]?=some y:=by
 have h:=heap_alloc_new (W.alloc x) y;have e:(W.alloc x).heap.size=W.heap.size+1:=by simp
 rw [e] at h;exact h
theorem aCz (W:World) (x y:Obj):((W.alloc x).alloc y).drew.heap[W.heap.size]?=some x:=by
 have h:=heap_alloc_new W x;have h2:=(bA (W.alloc x) y).block W.heap.size (by simp);exact h2.trans h
theorem aPb (W:World) (t:TypeId):(W.alloc (.cells #[] t)).drew.ownsRow W.heap.size t 2 (.slice (some ⟨W.heap.size,0,none⟩) 0 0) 0 []:=
 ⟨rfl,Or.inr ⟨W.heap.size,0,#[],rfl,Nat.le_refl _,heap_alloc_new _ _,Nat.le_refl _,Nat.zero_le _,rfl,rfl⟩⟩
theorem aPc (W:World) (t:TypeId) (x:Obj):((W.alloc (.cells #[] t)).alloc x).drew.ownsRow W.heap.size t 2 (.slice (some ⟨W.heap.size,0,none⟩) 0 0) 0 []:=
 ⟨rfl,Or.inr ⟨W.heap.size,0,#[],rfl,Nat.le_refl _,aCz _ _ _,Nat.le_refl _,Nat.zero_le _,rfl,rfl⟩⟩
theorem aPd (W:World) (t:TypeId) (x:Obj):((W.alloc x).alloc (.cells #[] t)).drew.ownsRow W.heap.size t 2 (.slice (some ⟨W.heap.size+1,0,none⟩) 0 0) 0 []:=
 ⟨rfl,Or.inr ⟨W.heap.size+1,0,#[],rfl,by omega,aCy _ _ _,Nat.le_refl _,Nat.zero_le _,rfl,rfl⟩⟩
end Go.Proofs.YtcneojllbkacoaaGreatDoor
