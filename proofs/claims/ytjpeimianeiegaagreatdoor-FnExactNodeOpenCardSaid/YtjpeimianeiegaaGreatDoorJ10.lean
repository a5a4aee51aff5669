import Derived.Test.YtjpeimianeiegaaGreatDoorJ08
namespace Go.Proofs.YtjpeimianeiegaaGreatDoor
open Go.RowKit Tryz
abbrev rW (c:Nat):Prop:=(65<=c/\c<=90)\/(97<=c/\c<=122)\/c=95
abbrev OC (c:Nat):Prop:=48<=c/\c<=57
abbrev nZ (s:ByteArray) (i:Nat):Prop:=rW (pB s i)\/(OC (pB s i)/\0<i)
abbrev ZZ (s:ByteArray):Prop:=1<=s.size/\s.size<=64/\∀i,i<s.size->nZ s i
def QF (s:ByteArray):Bool:=decide (ZZ s)
def lX (l:eB):Nat:=if QF l.name=true then bP l.value else 41
def nC:List eB->Nat->Option (Nat×Nat)
 |[],_=>none
 |l::r,i=>if lX l=0 then nC r (i+1) else some (lX l,i)
def nR (x l:eB):Bool:=x.name.toList==l.name.toList
def nE:List eB->List eB->Nat->Option Nat
 |_,[],_=>none
 |a,l::r,i=>if a.any (fun x=>nR x l)=true then some i else nE (a++[l]) r (i+1)
def QL:ByteArray:=⟨#[95,95,110,97,109,101,95,95]⟩
def cN (l:eB):Bool:=l.name.toList==QL.toList
def dS (l:eB):Bool:=l.value.toList==ByteArray.empty.toList
def wK (x y:eB):Bool:=Op.bytesLess x.name.toList y.name.toList
def iJ:List eB->ByteArray
 |[]=>ByteArray.empty
 |l::r=>if cN l=true then l.value else iJ r
def tO (a:List eB):List eB:=a.filter (fun l=>!dS l)
def oV (a:List eB):Bool:=a.any (fun l=>!dS l&&cN l)
def qW (l:eB):List eB->Nat
 |[]=>0
 |x::r=>if wK x l=true then qW l r+1 else 0
def vO (l:eB) (a:List eB):List eB:=a.take (qW l a)++l::a.drop (qW l a)
def zF (a:List eB):List eB->List eB
 |[]=>a
 |l::r=>zF (if dS l=true then a else vO l a) r
def qB (a:List eB):List eB×Nat×Nat:=
 if 16<a.length then([],40,0) else match nC a 0 with
 |some (c,i)=>([],c,i)
 |none=>match nE [] a 0 with
  |some i=>([],45,i)
  |none=>if oV a=true then(zF [] a,0,0) else([],46,0)
theorem xp (l:eB):∀a,qW l a<=a.length
 |[]=>Da _
 |x::r=>by
  have:=xp l r;rw[qW];split
  ·simp;omega
  ·simp
theorem aCq (l:eB) (a:List eB) (k:Nat) (b:k<a.length):qW l (a.drop k)=if wK a[k] l=true then qW l (a.drop (k+1))+1 else 0:=by
 rw[Ra b,qW]
theorem ZU (l:eB) (a:List eB):(vO l a).length=a.length+1:=by
 have:=xp l a;simp[vO];omega
theorem aBb (l:eB) (a:List eB):(vO l a).Perm (l::a):=by
 unfold vO;refine List.perm_middle.trans ?_;rw[Xa]
theorem cS:∀(c b:List eB),(zF b c).Perm (b++tO c)
 |[],b=>by simp[zF,tO]
 |l::r,b=>by
  rw[zF,tO,Ce];by_cases h:dS l=true
  ·rw[Ga h,Ca (by simp[h])];exact cS r b
  ·rw[Ca h,Ga (by simpa using h)];refine(cS r _).trans ?_;refine((aBb l b).append_right _).trans ?_;exact(List.perm_middle (l₁:=b) (a:=l) (l₂:=tO r)).symm
theorem VN (a:List eB):(tO a).length<=a.length:=Tb _ _
theorem PF (a:List eB):(zF [] a).length=(tO a).length:=by
 have:=(cS a []).length_eq;simpa using this
def Le (x y:eB):Prop:=wK y x=false
theorem WL (l:eB):∀(a:List eB),∀x∈a.take (qW l a),wK x l=true
 |[],x,h=>by simp at h
 |y::r,x,h=>by
  rw[qW]at h;split at h
  ·rename_i b;rw[Nd,Cb]at h;rcases h with rfl|h
   ·exact b
   ·exact WL l r x h
  ·simp at h
theorem WM (l:eB):∀(a:List eB),a.Pairwise Le->∀x∈a.drop (qW l a),wK x l=false
 |[],_,x,h=>by simp at h
 |y::r,hp,x,h=>by
  rw[qW]at h;rw[Wb]at hp;split at h
  ·rw[Od]at h;exact WM l r hp.2 x h
  ·rename_i g;rw[Vc,Cb]at h;have c:wK y l=false:=by simpa using g
   rcases h with rfl|h
   ·exact c
   ·have b:=hp.1 x h;unfold Le at b;cases hx:wK x l
    ·rfl
    ·exfalso;by_cases e:y.name.toList=l.name.toList
     ·unfold wK at b hx;rw[e]at b;rw[b]at hx;exact absurd hx (by simp)
     ·have d:wK l y=true:=wJ _ _ c e;have f:wK x y=true:=dH _ _ _ hx d;rw[f]at b;exact absurd b (by simp)
theorem QD {x y z:eB} (b:Le x y) (a:Le y z):Le x z:=by
 unfold Le at *;cases hx:wK z x
 ·rfl
 ·exfalso;by_cases e:y.name.toList=x.name.toList
  ·unfold wK at a hx;rw[e]at a;rw[a]at hx;exact absurd hx (by simp)
  ·have c:wK x y=true:=wJ _ _ b e;have d:wK z y=true:=dH _ _ _ hx c;rw[d]at a;exact absurd a (by simp)
theorem jl (l:eB) (c:List eB) (h:c.Pairwise Le):(vO l c).Pairwise Le:=by
 unfold vO;have hh:=WL l c;have f:=WM l c h;rw[Je];refine⟨h.sublist (List.take_sublist _ _),?_,?_⟩
 ·rw[Wb];exact⟨fun x i=>f x i,h.sublist (List.drop_sublist _ _)⟩
 ·intro a g b d;have e:Le a l:=qL (hh a g);rw[Cb]at d;rcases d with rfl|d
  ·exact e
  ·exact QD e (f b d)
theorem iZ:∀(b a:List eB),a.Pairwise Le->(zF a b).Pairwise Le
 |[],a,h=>h
 |l::r,a,h=>by
  rw[zF];refine iZ r _ ?_;split
  ·exact h
  ·exact jl l a h
def LN (a:List eB):Prop:=a.Pairwise (fun x y=>x.name≠y.name)
theorem aDk (x l:eB):nR x l=true ↔ x.name=l.name:=by
 unfold nR;rw[Jf];exact⟨fun h=>toList_inj h,fun h=>by rw[h]⟩
theorem CP:∀(r c:List eB) (i:Nat),LN c->nE c r i=none->LN (c++r)
 |[],c,_,h,_=>by simpa using h
 |l::r,c,i,h,hn=>by
  rw[nE]at hn;split at hn
  ·exact absurd hn (by simp)
  ·rename_i g;have:LN (c++[l]):=by
    unfold LN;rw[Je];refine⟨h,Te _ _,fun a f b d=>?_⟩;rw[Uf]at d;subst d;intro e;apply g;rw[Dg];exact⟨a,f,(aDk _ _).2 e⟩
   have:=CP r _ _ this hn;simpa using this
theorem aLh (a:List eB) (h:nE [] a 0=none):LN a:=by
 have:=CP a [] 0 (by exact Kd) h;simpa using this
theorem aLg {c:List eB} (h:LN c) {x y:eB} (b:x∈c) (a:y∈c) (e:x.name=y.name):x=y:=by
 induction c with
 |nil=>exact absurd b (by simp)
 |cons l r d=>
  unfold LN at h;rw[Wb]at h;rw[Cb]at b a;rcases b with rfl|b
  ·rcases a with rfl|a
   ·rfl
   ·exact absurd e (h.1 y a)
  ·rcases a with rfl|a
   ·exact absurd e.symm (h.1 x b)
   ·exact d h.2 b a
theorem aDn {c d:List eB} (h:LN c) (k:d.Perm (tO c)) (q:d.Pairwise Le):d=zF [] c:=by
 have f:=(cS c []).trans (by rw[Jb]);refine Qf (le:=Le) ?_ q (iZ c [] Kd) (k.trans f.symm);intro a b o p g m;have i:a∈c:=(Ed.1 (k.mem_iff.1 o)).1;have j:b∈c:=(Ed.1 (f.mem_iff.1 p)).1;refine aLg h i j ?_;by_cases e:a.name=b.name
 ·exact e
 ·have n:wK b a=true:=wJ _ _ m (fun l=>e (toList_inj l));unfold Le at g;rw[n]at g;exact absurd g (by simp)
theorem ld:∀(c:List eB),LN c->((iJ c).toList==ByteArray.empty.toList)=!oV c
 |[],_=>by simp[iJ,oV]
 |l::r,h=>by
  unfold LN at h;rw[Wb]at h;rw[iJ,oV,List.any_cons];by_cases a:cN l=true
  ·rw[Ga a,a,Bool.and_true];have g:(r.any fun l=>!dS l&&cN l)=false:=by
    rw[List.any_eq_false];intro x i d;rw[Na]at d;have e:l.name=QL:=toList_inj (by simpa[cN]using a);have f:x.name=QL:=toList_inj (by simpa[cN]using d.2);exact h.1 x i (by rw[e,f])
   rw[g,Bool.or_false,Bool.not_not];rfl
  ·rw[Ca a];have b:cN l=false:=by simpa using a
   rw[b,Zf,Rf];exact ld r h.2
theorem NO {a:List eB} (h:16<a.length):qB a=([],40,0):=by unfold qB;rw[Ga h]
theorem GS {a:List eB} (h:¬16<a.length) {c i:Nat} (b:nC a 0=some (c,i)):qB a=([],c,i):=by unfold qB;rw[Ca h,b]
theorem JM {a:List eB} (h:¬16<a.length) (b:nC a 0=none) {i:Nat} (c:nE [] a 0=some i):qB a=([],45,i):=by unfold qB;rw[Ca h,b,c]
theorem UK {a:List eB} (h:¬16<a.length) (b:nC a 0=none) (d:nE [] a 0=none) (c:oV a=false):qB a=([],46,0):=by
 unfold qB;rw[Ca h,b,d];simp[c]
theorem fe {a:List eB} (h:¬16<a.length) (b:nC a 0=none) (d:nE [] a 0=none) (c:oV a=true):qB a=(zF [] a,0,0):=by
 unfold qB;rw[Ca h,b,d];simp[c]
theorem gZ (a:List eB) (k:Nat) (b:k<a.length):nC (a.drop k) k=if lX a[k]=0 then nC (a.drop (k+1)) (k+1) else some (lX a[k],k):=by
 rw[Ra b,nC]
theorem CQ (a:List eB) (k:Nat) (b:k<a.length):nE (a.take k) (a.drop k) k=if (a.take k).any (fun x=>nR x a[k])=true then some k else nE (a.take (k+1)) (a.drop (k+1)) (k+1):=by
 rw[Ra b,nE,La b]
theorem VZ (a:List eB) (k:Nat) (b:k<a.length):iJ (a.drop k)=if cN a[k]=true then a[k].value else iJ (a.drop (k+1)):=by
 rw[Ra b,iJ]
theorem jj (a b:List eB) (k:Nat) (c:k<b.length):zF a (b.drop k)=zF (if dS b[k]=true then a else vO b[k] a) (b.drop (k+1)):=by
 rw[Ra c,zF]
theorem aBz (a:List eB) (k:Nat) (b:k<a.length):oV (a.take (k+1))=(oV (a.take k) ||(!dS a[k] &&cN a[k])):=by
 rw[La b,oV,Tf];simp[oV]
theorem rn (a:List eB) (k:Nat) (b:k<a.length):tO (a.take (k+1))=tO (a.take k)++if dS a[k]=true then [] else [a[k]]:=by
 rw[La b,tO,Ud,tO];congr 1;by_cases h:dS a[k]=true<;>simp[h]
def iL (w:World) (B:Nat) (v:Value) (s:ByteArray):Prop:=
 ∃g a b c,v=.slice (some ⟨g,0,none⟩) s.size a/\B<=g/\w.heap[g]?=some (.cells b 5 c)/\(c.2=0\/a<=c.1)/\s.size<=a/\a<=maxLen/\b.size=a/\b.toList.take s.size=Lib.strCells s
theorem iL.later {w d:World} {B:Nat} {v:Value} {s:ByteArray} (h:iL w B v s) (k:Below w.heap.size w d):iL d B v s:=by
 obtain⟨g,a,b,e,f,i,c,j⟩:=h;exact⟨g,a,b,e,f,i,(k.block g (aA c)).trans c,j⟩
theorem iL.mono {w:World} {B B':Nat} {v:Value} {s:ByteArray} (h:iL w B v s) (i:B'<=B):iL w B' v s:=by
 obtain⟨g,a,b,c,d,e,f⟩:=h;exact⟨g,a,b,c,d,Ma i e,f⟩
theorem iL.lt {w:World} {B:Nat} {v:Value} {s:ByteArray} (h:iL w B v s):∃g,v.ownBlock=some g/\B<=g/\g<w.heap.size:=by
 obtain⟨g,a,b,e,rfl,c,d,f⟩:=h;exact⟨g,rfl,c,aA d⟩
theorem kW (a b:ByteArray):Lib.strCells (a++b)=Lib.strCells a++Lib.strCells b:=by simp[Lib.strCells]
theorem ve (P : Program) (g o : Nat) (t : TypeId) (fz : Nat × Nat) (vs : List Value) : ∀ (i : Nat) (cur : Array Value) (w : World), w.heap[g]? = some (.cells cur t fz) → (fz.2 = 0 ∨ cur.size ≤ fz.1) → o + i + vs.length ≤ cur.size → (∀ v ∈ vs, v.oneCell' = true) →
    (storeCells ⟨g, o, none⟩ vs i).run P w = .ok () (w.setRow g (cur.toList.take (o + i) ++ vs ++ cur.toList.drop (o + i + vs.length)).toArray) := by
  induction vs with
  | nil =>
    intro i cur w hg _ _ _
    rw [storeCells, List.append_nil, List.length_nil, Nat.add_zero, List.take_append_drop, Array.toArray_toList, setRow_self w g cur t fz hg]
    rfl
  | cons v q ih =>
    intro i cur w hg hz hl h1
    rw [List.length_cons] at hl
    have ha : (⟨g, o, none⟩ : Addr).add i = ⟨g, o + i, none⟩ := by unfold Addr.add; split <;> simp_all
    have hc : w.cell? ⟨g, o + i, none⟩ = some (cur[o + i]'(by omega)) := by rw [cell_of_row w g _ cur t fz hg]; exact Array.getElem?_eq_getElem (by omega)
    have hnf : w.frozen? ⟨g, o + i, none⟩ = false := by
      unfold World.frozen?
      rw [hg]
      rcases hz with hz | hz
      · rw [Bool.and_eq_false_iff]; exact Or.inr (decide_eq_false (by show ¬ o + i < fz.2; omega))
      · rw [Bool.and_eq_false_iff]; exact Or.inl (decide_eq_false (by show ¬ fz.1 ≤ o + i; omega))
    have hs : (store ((⟨g, o, none⟩ : Addr).add i) v).run P w = .ok () (w.setRow g (cur.setIfInBounds (o + i) v)) := by
      rw [ha, run_store P w _ v _ (h1 v (List.mem_cons_self ..)), hc]
      simp [hnf, setCell_eq_setRow w g (o + i) cur t fz v hg]
    have h := ih (i + 1) (cur.setIfInBounds (o + i) v) (w.setRow g (cur.setIfInBounds (o + i) v)) (setRow_heap w g cur _ t _ hg) (by simpa using hz) (by simp; omega) (fun x hx => h1 x (List.mem_cons_of_mem _ hx))
    rw [storeCells, Sem.run_bind, hs, Result.andThen_ok, h, setRow_setRow]
    congr 3
    have e := list_seg_step cur.toList (o + i) v q (by simp; omega)
    simpa [Array.toList_setIfInBounds, Nat.add_assoc] using e
theorem fT (w:World) (B:Nat) (v:Value) (s x:ByteArray) (I:TypeId) (m:iL w B v s) (J:B<=w.heap.size) (S:s.size+x.size<=140737488355328):
 ∃r G,(Builtin.append_ #[160,9] I #[v,.string x]).run prog w=.ok r G/\iL G B r (s++x)/\w.grownBy G v.ownBlock/\(r.ownBlock=v.ownBlock\/r.ownBlock=some w.heap.size):=by
 obtain⟨R,o,E,p,F⟩:=ZL;obtain⟨g,a,b,H,rfl,y,d,i,M,z,A,l⟩:=m;have c:(s++x).size=s.size+x.size:=Ia;by_cases h:s.size+x.size<=a
 ·have L:=Lib.run_firstCells_string (P:=prog) w 1 x;have n:=ve prog g s.size 5 H (Lib.strCells x) 0 b w d (by rw[A];exact i) (by rw[Lib.strCells_length];omega) (Lib.strCells_oneCell x);simp only[Ug,Lib.strCells_length]at n;refine⟨.slice (some ⟨g,0,none⟩) (s.size+x.size) a,w.setRow g (b.toList.take s.size++Lib.strCells x++b.toList.drop (s.size+x.size)).toArray,?_,?_,⟨rfl,rfl,rfl,by simp,fun k _ C=>setRow_other w g k _ (fun e=>C (by simp[Value.ownBlock,e]))⟩,Ba rfl⟩
  ·simp[Builtin.append_,run_underlying underlying160,run_underlying underlying9,sizeOf,typeInfo,o,p,Builtin.lenOf,h,L,Addr.add_lit,n]
  ·refine⟨g,a,_,H,by rw[c],y,setRow_heap w g b _ _ _ d,i,by omega,z,?_,?_⟩
   ·simp only[Yd,Qa,Ta,Lc,Og,Lib.strCells_length];omega
   ·rw[l,c,kW];have D:(Lib.strCells s++Lib.strCells x).length=s.size+x.size:=by rw[Qa,Lib.strCells_length,Lib.strCells_length]
    rw[<-D];exact Xg
 ·have f:∀j u,(Lib.strCells s)[j]?=some u->w.cell? ((⟨g,0,none⟩:Addr).add j)=some u:=fun j u q=>by
   have K:(⟨g,0,none⟩:Addr).add j=⟨g,j,none⟩:=by unfold Addr.add;split<;>simp_all
   rw[K,cell_of_row w g j b _ _ d];rw[<-l,List.getElem?_take]at q;split at q
   ·simpa using q
   ·cases q
  have Q:=Lib.run_append_grow_string (P:=prog) w 160 9 I 5 R (.int .u8 0) underlying160 underlying9 o E ⟨g,0,none⟩ s.size a (Lib.strCells s) (by rw[p,Lib.strCells_length,Nat.mul_one]) f x (by omega) (by omega) (by rw[F];exact growslice_fits (by omega) (by omega));have N:=grownCap_ge w (s.size+x.size) a 5;have t:=grownCap_le_maxLen w (s.size+x.size) a 5 (by unfold maxLen;omega);refine⟨_,_,Q,⟨w.heap.size,_,_,(0,0),by rw[c],J,heap_alloc_new w.drew _,Ba rfl,by omega,t,?_,?_⟩,⟨rfl,rfl,rfl,by simp,fun k C _=>heap_alloc_old w.drew _ C⟩,Ea rfl⟩
  ·have O:(Value.int IntKind.u8 0).cells.size=1:=rfl;simp only[Array.size_append,Yd,size_zeroCells,O,Lib.strCells_length];omega
  ·rw[c,kW];have D:(Lib.strCells s++Lib.strCells x).length=s.size+x.size:=by rw[Qa,Lib.strCells_length,Lib.strCells_length]
   simp only[Array.toList_append,Df];rw[<-Df,<-D];exact Xg
theorem bc (w:World) (B:Nat) (v:Value) (s x:ByteArray) (d:TypeId) (a:iL w B v s) (h:B<=w.heap.size) (i:s.size+x.size<=140737488355328):
 ∃c b,(Builtin.append_ #[160,9] d #[v,.string x]).run prog w=.ok c b/\iL b B c (s++x)/\w.grownBy b v.ownBlock:=by
 obtain⟨c,b,e,f,g,_⟩:=fT w B v s x d a h i;exact⟨c,b,e,f,g⟩
theorem TU (w:World) {d:Array Oper} {o:Oper} {a:Act} {K:Act->World->Prop} {Q:Exit->Act->World->Prop} {E:Prop} (i:o.guard=none) (sl x:Operand)
 (A:o.op=.call { callee:=.builtin .append,args:=#[sl,x],argTypes:=#[160,9] })
 (B:Nat) (v:Value) (s t:ByteArray) (D:a.eval sl=v) (b:iL w B v s) (F:a.eval x=.string t) (n:B<=w.heap.size) (G:s.size+t.size<=140737488355328)
 (h:∀f c,iL c B f (s++t)->Below B w c->(∀k,k<w.heap.size->v.ownBlock≠some k->c.heap[k]?=w.heap[k]?)->K (a.put o.dst f) c):
 if Region.wanted o (yielded d a.tmps)=true then Oper.wp prog o a w K Q else E:=by
 have hw:Region.wanted o (yielded d a.tmps)=true:=by simp[Region.wanted,i]
 rw[Ga hw];obtain⟨f,c,C,r,m⟩:=bc w B v s t o.type b n G;have j:=b.lt;have u:=h f c r ((Below.refl B w).grown m n (fun q p=>by obtain⟨g,e,y,_⟩:=j;rw[e]at p;cases p;exact y)) (fun k z l=>m.block k z (fun e=>l e.symm));unfold Oper.wp execOp;simp only[A,resolve,invoke,builtin,Sem.run_bind,Sem.run_pure,Result.andThen_ok,Cg,Sb,Tg,D,F,C];exact u
theorem pR (w:World) {f:Array Oper} {o:Oper} {a:Act} {K:Act->World->Prop} {Q:Exit->Act->World->Prop} {E:Prop} (j:o.guard=none) (sl x:Operand)
 (C:o.op=.call { callee:=.builtin .append,args:=#[sl,x],argTypes:=#[160,9] })
 (B:Nat) (v:Value) (s t:ByteArray) (F:a.eval sl=v) (b:iL w B v s) (G:a.eval x=.string t) (n:B<=w.heap.size) (H:s.size+t.size<=140737488355328)
 (h:∀d c,iL c B d (s++t)->Below B w c->(∀k,k<w.heap.size->v.ownBlock≠some k->c.heap[k]?=w.heap[k]?)->(d.ownBlock=v.ownBlock\/d.ownBlock=some w.heap.size)->w.heap.size<=c.heap.size->K (a.put o.dst d) c):
 if Region.wanted o (yielded f a.tmps)=true then Oper.wp prog o a w K Q else E:=by
 have hw:Region.wanted o (yielded f a.tmps)=true:=by simp[Region.wanted,j]
 rw[Ga hw];obtain⟨d,c,D,r,i,u⟩:=fT w B v s t o.type b n H;have l:=b.lt;have y:=h d c r ((Below.refl B w).grown i n (fun q p=>by obtain⟨g,e,z,_⟩:=l;rw[e]at p;cases p;exact z)) (fun k A m=>i.block k A (fun e=>m e.symm)) u i.size;unfold Oper.wp execOp;simp only[C,resolve,invoke,builtin,Sem.run_bind,Sem.run_pure,Result.andThen_ok,Cg,Sb,Tg,F,G,D];exact y
theorem MG (w:World) {i:Array Oper} {c:List Oper} {o:Oper} {a:Act} {Q:Exit->Act->World->Prop} (l:o.guard=none) (sl x:Operand)
 (D:o.op=.call { callee:=.builtin .append,args:=#[sl,x],argTypes:=#[160,9] })
 (B:Nat) (v:Value) (s t:ByteArray) (F:a.eval sl=v) (b:iL w B v s) (G:a.eval x=.string t) (p:B<=w.heap.size) (H:s.size+t.size<=140737488355328)
 (h:∀f d,iL d B f (s++t)->Below B w d->(∀k,k<w.heap.size->v.ownBlock≠some k->d.heap[k]?=w.heap[k]?)->(f.ownBlock=v.ownBlock\/f.ownBlock=some w.heap.size)->w.heap.size<=d.heap.size->wpList prog i Q c (a.put o.dst f) d):
 wpList prog i Q (o::c) a w:=by
 refine wpList_plain l fun K z=>?_;obtain⟨f,d,E,u,j,y⟩:=fT w B v s t o.type b p H;have m:=b.lt;have hh:=h f d u ((Below.refl B w).grown j p (fun q r=>by obtain⟨g,e,A,_⟩:=m;rw[e]at r;cases r;exact A)) (fun k C n=>j.block k C (fun e=>n e.symm)) y j.size;unfold Oper.wp execOp;simp only[D,resolve,invoke,builtin,Sem.run_bind,Sem.run_pure,Result.andThen_ok,Cg,Sb,Tg,F,G,E];exact z _ _ hh
theorem YP (w:World) (s:ByteArray) (f:s.size<=140737488355328):∃v d,(convert 9 160 (.string s)).run prog w=.ok v d/\iL d w.heap.size v s/\Below w.heap.size w d:=by
 refine⟨_,_,run_bytes_of_string w _ _ 5 s underlying9 underlying160 underlying5,?_,(Below.refl _ w).drew.alloc (by simp) _⟩;have c:=grownCap_ge w s.size 0 5;have b:=grownCap_le_maxLen w s.size 0 5 (by unfold maxLen;omega);have a:(bytesRow s (grownCap w s.size 0 5)).size=grownCap w s.size 0 5:=by
  unfold bytesRow;rw[Array.size_append,Array.size_map,Array.size_replicate];show s.size+_=_;omega
 refine⟨w.heap.size,_,_,_,rfl,Da _,heap_alloc_new w.drew _,Ea (by rw[a];exact Da _),c,b,a,?_⟩;have e:=Lib.strCells_length s;unfold bytesRow;rw[Array.toList_append,Array.toList_map];conv=>lhs;arg 1;rw[<-e]
 exact Xg
theorem fy (s:ByteArray) (a:s.size<=140737488355328):∃(V:World->Value) (N:World->World),(∀w,(convert 9 160 (.string s)).run prog w=.ok (V w) (N w))/\∀w,iL (N w) w.heap.size (V w) s/\Below w.heap.size w (N w):=
 ⟨fun w=>Classical.choose (YP w s a),fun w=>Classical.choose (Ge (YP w s a)),fun w=>(Ge (Ge (YP w s a))).1,fun w=>(Ge (Ge (YP w s a))).2⟩
theorem aEk {w:World} {B:Nat} {v:Value} {s:ByteArray} (h:iL w B v s):(convert 160 9 v).run prog w=.ok (.string s) w:=by
 obtain⟨g,b,a,k,rfl,l,e,m,n,o,p,f⟩:=h;have:=run_convert_bytes_back w 160 9 5 ⟨g,0,none⟩ b s.data.toList underlying160 underlying5 underlying9 (fun j d=>by
  have i:(⟨g,0,none⟩:Addr).add j=⟨g,j,none⟩:=by unfold Addr.add;split<;>simp_all
  rw[i,cell_of_row w g j a _ _ e,<-Sd];have c:j<s.size:=by simpa using d
  have:(a.toList.take s.size)[j]?=(Lib.strCells s)[j]?:=by rw[f]
  rw[Eb c]at this;rw[this,Lib.strCells,Jd,Ka d];rfl)
 simpa using this
