import Derived.Test.YtabgbmfcbobamaaGreatDoorJ14
set_option maxRecDepth 100000
set_option maxHeartbeats 4000000
namespace Go.Proofs.YtabgbmfcbobamaaGreatDoor
open Go.RowKit Tryz
def sP (x:mA):List Value:=[.string x.name,.string x.value]
theorem NI (l:mA) (w:World) (m:l.name.size<=1000000000) (f:l.value.size<=1000000000) (c:xI w):
 Calls prog 186 #[.agg #[.string l.name,.string l.value]] w fun e o=>e=.returned (.int .i64 (fU l:Nat))/\Below w.heap.size w o:=by
 have j:Hid (xI w):=c;have b:Hid _:=fun W=>TU l.name W (by unfold maxLen;omega);have k:Hid _:=fun W h=>FP l.value W f h;clear c m f;by_cases h:LC l.name=true
 ·have E:Hid (fU l=dN l.value):=by show _=_;rw[fU,Qa h]
  rw[E.out];have a:Hid _:=h;clear h E;generalize l.name=n at *;generalize l.value=g at *;generalize dN g=V at *;go_enter func186,ntmps186;go_wp2_with fail;refine(b.out _).mono ?_;rintro e p ⟨rfl,hw⟩;rw[a.out];replace hw:=hw.symm;subst hw;go_wp2_with fail;refine(k.out _ (j.out.later (cA _ _))).mono ?_;rintro e q ⟨rfl,d⟩;have i:Hid _:=nA (cA _ _) d;clear d;go_wp2;go_ret;exact⟨rfl,i.out⟩
 ·have a:Hid (LC l.name=false):=by show _=_;simpa using h
  have E:Hid (fU l=41):=by show _=_;rw[fU,Oa h]
  rw[E.out];clear h E;generalize l.name=n at *;generalize l.value=g at *;go_enter func186,ntmps186;go_wp2_with fail;refine(b.out _).mono ?_;rintro e p ⟨rfl,hw⟩;rw[a.out];replace hw:=hw.symm;subst hw;go_wp2;go_ret;exact⟨rfl,cA _ _⟩
theorem nk (t:ByteArray) (B:Nat) (w:World) (c:B<w.heap.size) (a:w.cell? ⟨B,0,none⟩=some (.string t)):
 PredBelow prog 192 #[.pointer (some ⟨B,0,none⟩)] (fun x=>.agg (sP x).toArray) (fun x:mA=>x.name.toList==t.toList) w:=fun W x b=>by
 have e:=(b.cell (p:=⟨B,0,none⟩) c).trans a;have d:=Ib c b.size;show Calls prog 192 #[.agg #[.string x.name,.string x.value],.pointer (some ⟨B,0,none⟩)] W _;go_enter func192,ntmps192;go_wp2;go_ret;exact⟨rfl,b.alloc b.size _⟩
theorem YB (b o n c:Nat) (f:List mA) (t:ByteArray) (w:World) (u:b<w.heap.size) (l:fO w b o f) (s:n<=f.length) (m:f.length<=2000000):
 Calls prog 187 #[.slice (some ⟨b,o,none⟩) n c,.string t] w fun e p=>e=.returned (.bool ((f.take n).any fun x=>x.name.toList==t.toList))/\Below w.heap.size w p:=by
 have q:∀args w,(callFunc 192 args).run prog w=.ok (.enter 192 args) w:=enters_of func192 (by kernel_rfl) rfl;haveI:=aAl
 have a:=AnyQ.slices_ContainsFunc contL 2 isAgg156 sizeOf156 sP (fun _=>rfl) (fun x:mA=>x.name.toList==t.toList) 192 #[.pointer (some ⟨w.heap.size,0,none⟩)] q b o n c f (w.alloc (.cells #[.string t] 9))
  (nk t w.heap.size _ (by simp) (by simp)) s (by omega) (by simp;omega) (fun j k i v d=>by
   refine Lib.cell?_alloc_some _ ?_;have h:=l j k;have e:f[j]! = f[j]:=getElem!_pos f j k;rw[e]at d;match i,d with
   |0,d=>simp[sP]at d;rw[<-d];exact h.1
   |1,d=>simp[sP]at d;rw[<-d];exact h.2
   |i+2,d=>simp[sP]at d)
 change Calls prog 90 _ _ _ at a;clear l;generalize ((f.take n).any fun x=>x.name.toList==t.toList)=r at a |-
 go_enter func187,ntmps187;go_wp2_with(go_at_call 90;refine a.mono ?_;rintro e p ⟨rfl,g⟩);go_ret;exact⟨rfl,((Below.refl _ w).alloc (Ka _) _).trans (g.mono (by simp))⟩
theorem LI:LH.toList=[95,95,110,97,109,101,95,95]:=by rw[LH,ByteArray.toList_eq]
theorem BL (a:Option Addr) (l:Nat) (c:List mA) (w:World) (p:sC w a c) (q:c.length<=2000000):
 Calls prog 169 #[.slice a c.length l] w fun e u=>e=.returned (.string (gI c))/\Below w.heap.size w u:=by
 have s:Hid (sC w a c):=p;clear p;go_enter func169,ntmps169;go_wp2;go_loopw [4,7] (fun _ i wr=>∃k:Nat,k<=c.length/\i=.int .i64 k/\Hid (gI c=gI (c.drop k))/\Below w.heap.size w wr) (fun _ i _=>c.length-(intOf i).toNat)
 case atStart=>exact⟨0,La _,rfl,rfl,Below.refl _ _⟩
 case round=>
  obtain⟨k,z,rfl,j,d⟩:=hrel;by_cases g:k<c.length
  ·obtain⟨b,o,rfl,y,v,x⟩:=(s.out.later d).at g;have h:=QC c k g;have n:Hid (eM c[k]=(c[k].name.toList==[95,95,110,97,109,101,95,95])):=by show _=_;rw[eM,LI]
   generalize c[k].name=r at *;by_cases f:eM c[k]=true
   ·have m:(r.toList==[95,95,110,97,109,101,95,95])=true:=by rw[<-n.out];exact f
    have E:Hid (gI c=c[k].value):=by show _=_;rw[j.out,h,Qa f]
    clear h f;generalize c[k].value=t at *;go_wp2;go_ret;exact⟨by rw[E.out];rfl,nA d (cA _ _)⟩
   ·have m:(r.toList==[95,95,110,97,109,101,95,95])=false:=by rw[<-n.out];simpa using f
    have E:Hid (gI c=gI (c.drop (k+1))):=by show _=_;rw[j.out,h,Oa f]
    clear h f;generalize c[k].value=t at *;go_wp2;exact⟨⟨k+1,by omega,by go_num,E.out,nA d (cA _ _)⟩,by simp[intOf];omega⟩
  ·have E:Hid (gI c=ByteArray.empty):=by
    show _=_;rw[j.out,Ac (by omega)];rfl
   go_wp2;go_ret;exact⟨by rw[E.out];rfl,d⟩
def rb (a:List mA):Prop:=∀i (h:i<a.length),a[i].name.size<=1000000000/\a[i].value.size<=1000000000
def kF (a:List mA):Nat×Nat:=
 if 16<a.length then(40,0) else match kC a 0 with
 |some (c,i)=>(c,i)
 |none=>match uD [] a 0 with
  |some i=>(45,i)
  |none=>if ((gI a).toList==ByteArray.empty.toList)=true then(46,0) else(0,0)
theorem ke {a b c d:Nat} (e:a=c) (f:b=d):Ending.returned (.tuple #[.int .i64 (a:Nat),.int .i64 (b:Nat)])=.returned (.tuple #[.int .i64 (c:Nat),.int .i64 (d:Nat)]):=by rw[e,f]
theorem KG {a:List mA} (h:16<a.length):kF a=(40,0):=by unfold kF;rw[Qa h]
theorem OZ {a:List mA} (h:¬16<a.length) {c i:Nat} (b:kC a 0=some (c,i)):kF a=(c,i):=by unfold kF;rw[Oa h,b]
theorem FF {a:List mA} (h:¬16<a.length) (b:kC a 0=none) {i:Nat} (c:uD [] a 0=some i):kF a=(45,i):=by unfold kF;rw[Oa h,b,c]
theorem PA {a:List mA} (h:¬16<a.length) (b:kC a 0=none) (c:uD [] a 0=none):kF a=if ((gI a).toList==ByteArray.empty.toList)=true then(46,0) else(0,0):=by unfold kF;rw[Oa h,b,c]
theorem XU (a:Option Addr) (g:Nat) (c:List mA) (w:World) (hf:sC w a c) (Z:rb c) (t:c.length<=2000000) (hcap:c.length<=g) (hT:xI w):
 Calls prog 182 #[.slice a c.length g] w fun e n=>e=.returned (.tuple #[.int .i64 ((kF c).1:Nat),.int .i64 ((kF c).2:Nat)])/\Below w.heap.size w n:=by
 have L:Hid (sC w a c):=hf;have HB:Hid (rb c):=Z;have Y:Hid (xI w):=hT;clear hf Z hT;by_cases J:16<c.length
 ·rw[KG J];go_enter func182,ntmps182;go_wp2;go_ret2;exact⟨rfl,Below.refl _ _⟩
 have v:Hid (¬16<c.length):=J;go_enter func182,ntmps182;go_wp2;go_loopw [4,5,6,14] (fun _ _ _ i wr=>∃k:Nat,k<=c.length/\i=.int .i64 k/\Hid (kC c 0=kC (c.drop k) k)/\Below w.heap.size w wr) (fun _ _ _ i _=>c.length-(intOf i).toNat)
 case atStart=>exact⟨0,La _,rfl,rfl,Below.refl _ _⟩
 case round=>
  obtain⟨k,hk,rfl,s,d⟩:=hrel;by_cases j:k<c.length
  ·obtain⟨b,o,rfl,N,c0,c1⟩:=(L.out.later d).at j;obtain⟨A,B⟩:=HB.out k j;have y:Hid _:=fun W h=>NI c[k] W A B h;have q:=eY c k j;by_cases I:fU c[k]=0
   ·have E:Hid (kC c 0=kC (c.drop (k+1)) (k+1)):=by show _=_;rw[s.out,q,Qa I]
    have H:Hid (∀W,xI W->Calls prog 186 #[.agg #[.string c[k].name,.string c[k].value]] W fun e n=>e=.returned (.int .i64 0)/\Below W.heap.size W n):=by
     show ∀_,_;have:=y.out;rw[I]at this;exact this
    clear q y I A B;generalize c[k].name=r at *;generalize c[k].value=C at *;go_wp2_with fail;refine(H.out _ ((Y.out.later d).later (cA _ _))).mono ?_;rintro e T ⟨rfl,f⟩;have l:Hid _:=nA (nA d (cA _ _)) f;clear f;go_wp2;exact⟨⟨k+1,by omega,by go_num,E.out,l.out⟩,by simp[intOf];omega⟩
   ·have E:Hid _:=OZ v.out (by rw[s.out,q,Oa I]);have h0b:((fU c[k]:Int) != 0)=true:=by simp;omega
    clear q I A B;generalize fU c[k]=V at *;generalize c[k].name=r at *;generalize c[k].value=C at *;go_wp2_with fail;refine(y.out _ ((Y.out.later d).later (cA _ _))).mono ?_;rintro e T ⟨rfl,f⟩;have l:Hid _:=nA (nA d (cA _ _)) f;clear f;go_wp2;go_ret2;exact⟨ke (by rw[E.out]) (by rw[E.out]),l.out⟩
  ·have X:Hid (kC c 0=none):=by
    show _=_;rw[s.out,Ac (by omega)];rfl
   clear s;go_wp2;clear j hk;go_loopw [7,8,28] (fun _ _ i wr=>∃k:Nat,k<=c.length/\i=.int .i64 k/\Hid (uD [] c 0=uD (c.take k) (c.drop k) k)/\Below w.heap.size w wr) (fun _ _ i _=>c.length-(intOf i).toNat)
   case atStart=>exact⟨0,La _,rfl,rfl,d⟩
   case round=>
    clear d;obtain⟨k,hk,rfl,s,d⟩:=hrel;by_cases j:k<c.length
    ·obtain⟨b,o,rfl,N,c0,c1⟩:=(L.out.later d).at j;have q:=AV c k j;have K:fO wr b o c:=by
      rcases L.out.later d with h|⟨b',o',e,_,h⟩
      ·rw[h]at j;exact absurd j (by simp)
      ·simp only[Pa,Addr.mk.injEq,Yb]at e;obtain⟨rfl,rfl⟩:=e;exact h
     have p:Hid (∀W,Below wr.heap.size wr W->Calls prog 187 #[.slice (some ⟨b,o,none⟩) k g,.string c[k].name] W fun e n=>e=.returned (.bool ((c.take k).any fun x=>nQ x c[k]))/\Below W.heap.size W n):=fun W R=>by
      have h2:fO W b o c:=fun i hi=>by
       have:=K i hi;exact⟨(R.cell N).trans this.1,(R.cell N).trans this.2⟩
      exact YB b o k g c c[k].name W (Ib N R.size) h2 (by omega) t
     have hk0:(0:Int)<=(k:Int):=by omega
     have hkc:(k:Int)<=(g:Int):=by omega
     clear K;by_cases D:((c.take k).any fun x=>nQ x c[k])=true
     ·have E:Hid _:=FF v.out X.out (by rw[s.out,q,Qa D]);have m:Hid (∀W,Below wr.heap.size wr W->Calls prog 187 #[.slice (some ⟨b,o,none⟩) k g,.string c[k].name] W fun e n=>e=.returned (.bool true)/\Below W.heap.size W n):=by
       show ∀_,_;have:=p.out;rw[D]at this;exact this
      clear q p D;generalize c[k].name=r at *;generalize c[k].value=C at *;have Q:∀x:fB (wr.alloc (.cells #[.string r,.string C] 156)),x.w'.cell? ⟨wr.heap.size,0,none⟩=some (.string r):=fB.cells (by simp);have z:=fB.there (wr.alloc (.cells #[.string r,.string C] 156));go_wp2_with fail;refine eB (by kernel_rfl) (by kernel_rfl) ?_;repeat (go_big_quiet_step (first|(go_at_call 187;exact pB (m.out _ (nA (cA _ _) (fB.h _))))))
      refine wpQuiet_nil ?_;rintro _ ⟨x,rfl⟩;have P:Hid _:=nA (nA d (cA _ _)) x.h;clear Q z;generalize x.w'=W at *;clear x;go_wp2;go_ret2;exact⟨ke (by rw[E.out]) (by rw[E.out]),P.out⟩
     ·have E:Hid (uD [] c 0=uD (c.take (k+1)) (c.drop (k+1)) (k+1)):=by show _=_;rw[s.out,q,Oa D]
      have m:Hid (∀W,Below wr.heap.size wr W->Calls prog 187 #[.slice (some ⟨b,o,none⟩) k g,.string c[k].name] W fun e n=>e=.returned (.bool false)/\Below W.heap.size W n):=by
       show ∀_,_;have h1:((c.take k).any fun x=>nQ x c[k])=false:=by simpa using D
       have:=p.out;rw[h1]at this;exact this
      clear q p D;generalize c[k].name=r at *;generalize c[k].value=C at *;have Q:∀x:fB (wr.alloc (.cells #[.string r,.string C] 156)),x.w'.cell? ⟨wr.heap.size,0,none⟩=some (.string r):=fB.cells (by simp);have z:=fB.there (wr.alloc (.cells #[.string r,.string C] 156));go_wp2_with fail;refine eB (by kernel_rfl) (by kernel_rfl) ?_;repeat (go_big_quiet_step (first|(go_at_call 187;exact pB (m.out _ (nA (cA _ _) (fB.h _))))))
      refine wpQuiet_nil ?_;rintro _ ⟨x,rfl⟩;have P:Hid _:=nA (nA d (cA _ _)) x.h;clear Q z;generalize x.w'=W at *;clear x;go_wp2;exact⟨⟨k+1,by omega,by go_num,E.out,P.out⟩,by simp[intOf];omega⟩
    ·have O:Hid (uD [] c 0=none):=by
      show _=_;rw[s.out,Ac (by omega)];rfl
     have U:Hid (Calls prog 169 #[.slice a c.length g] wr fun e n=>e=.returned (.string (gI c))/\Below wr.heap.size wr n):=BL a g c wr (L.out.later d) t;have E:=PA v.out X.out O.out;have G:Hid (ByteArray.empty.toList=[]):=by show _=_;rw[ByteArray.toList_eq];rfl
     generalize gI c=M at *;by_cases u:(M.toList==ByteArray.empty.toList)=true
     ·have F:Hid (kF c=(46,0)):=by show _=_;rw[E,Qa u]
      have S:M.toList.isEmpty=true:=by rw[G.out]at u;simpa using u
      clear u E;go_wp2_with fail;refine U.out.mono ?_;rintro e T ⟨rfl,f⟩;have l:Hid _:=nA d f;clear f;go_wp2;go_ret2;exact⟨ke (by rw[F.out]) (by rw[F.out]),l.out⟩
     ·have F:Hid (kF c=(0,0)):=by show _=_;rw[E,Oa u]
      have S:M.toList.isEmpty=false:=by rw[G.out]at u;simpa using u
      clear u E;go_wp2_with fail;refine U.out.mono ?_;rintro e T ⟨rfl,f⟩;have l:Hid _:=nA d f;clear f;go_wp2;go_ret2;exact⟨ke (by rw[F.out]) (by rw[F.out]),l.out⟩
section
open Go.Sort
def cfL (x y:mA):Int:=MY x.name y.name
theorem ltL (x y:mA):ltOf cfL x y=sJ x y:=by
 unfold ltOf cfL MY sJ;split
 ·rename_i h;rw[h];rfl
 ·rename_i h;have a:Op.bytesLess x.name.toList y.name.toList=false:=by simpa using h
  rw[a];split<;>rfl
theorem aHj:SWO (ltOf cfL) where
 irrefl x:=by rw[ltL];exact tE _
 trans x y z h1 h2:=by rw[ltL]at *;exact oI _ _ _ h1 h2
 ntrans x y z h1 h2:=by rw[ltL]at *;exact LB (x:=z) (y:=y) (z:=x) h2 h1
theorem gp (x y:mA) (W:World):Calls prog 184 #[.agg #[.string x.name,.string x.value],.agg #[.string y.name,.string y.value]] W fun e c=>e=.returned (.int .i64 (cfL x y))/\∃q b,c=grow (W.drewN q) b:=by
 have a:=fun d=>WY x.name y.name d;unfold cfL;generalize MY x.name y.name=r at a |-
 go_enter func184,ntmps184;go_wp2_with(go_at_call 185;refine(a _).mono ?_;rintro e c ⟨rfl,rfl⟩);go_ret;exact⟨rfl,0,_,by rw[alloc_eq_grow,alloc_eq_grow,grow_grow];rfl⟩
section
variable [Inhabited mA]
theorem WX (blk a size:Nat) (w:World):CmpLays prog 184 #[] sP 2 cfL blk a size w:=
 fun _ _ _ _ x y=>gp x y _
theorem gr {w:World} {g n:Nat} {a:Array Value} {t:TypeId} (h:eA w g a t) (d:Array mA) (e:Array Obj):∃b,eA (sortWorldK sP 2 w g 0 n d e) g b t:=by
 have c:=aA h;refine⟨putCells id 0 (Go.Sort.flatK sP 2 d) a,?_⟩;unfold eA sortWorldK putRowK putRow mapBlock;rw[heap_grow_old _ _ (by simpa[ahead]using c)];show(Array.modify w.heap g _)[g]?=_;rw[Array.getElem?_modify,Qa rfl];unfold eA at h;rw[h];rfl
theorem gq {w:World} {g n B:Nat} (b:B<=g) (c:g<w.heap.size) (d:Array mA) (a:Array Obj):Below B w (sortWorldK sP 2 w g 0 n d a):=by
 refine⟨rfl,rfl,rfl,?_,fun k e=>?_⟩
 ·simp[sortWorldK,putRowK,putRow,mapBlock]
 ·unfold sortWorldK putRowK putRow mapBlock;rw[heap_grow_old _ _ (by simp;omega)];show(Array.modify w.heap g _)[k]?=_;rw[Array.getElem?_modify,Oa (by omega)]
theorem YC {w:World} {g:Nat} {c:Array Value} {t:TypeId} {b:List mA} (h:eA w g c t) (k:fO w g 0 b):HoldsK sP 2 w g 0 b.toArray:=by
 intro j d;rw[size_flatK]at d;have a:j / 2<b.length:=by simp at d;omega
 refine⟨?_,h.free _⟩;rw[get_flatK _ _ _ _ d];have e:b.toArray[j / 2]! = b[j / 2]:=by simp[getElem!_pos,a]
 rw[e];have i:=k (j / 2) a;rcases Nat.mod_two_eq_zero_or_one j with f|f
 ·rw[f];have:=i.1;rw[show 0+j / 2*2=0+j by omega]at this;rw[this];rfl
 ·rw[f];have:=i.2;rw[show 0+j / 2*2+1=0+j by omega]at this;rw[this];rfl
theorem aAo {w:World} {g B:Nat} {b:Array Value} {t:TypeId} {d:Array mA} (h:eA w g b t) (l:B<=g) (k:HoldsK sP 2 w g 0 d):gC w B (some ⟨g,0,none⟩) d.toList:=by
 refine Ja ⟨g,0,b,t,rfl,l,h,fun i m=>?_⟩;have a:i<d.size:=by simpa using m
 have f:=(k.cell (c:=0) a (by omega)).1;have j:=(k.cell (c:=1) a (by omega)).1;have e:d[i]! = d[i]:=getElem!_pos d i a;rw[e]at f j;rw[Sg];exact⟨f,j⟩
theorem br {d:Array mA} (h:SortedIn (ltOf cfL) 0 d.size d):d.toList.Pairwise Le:=by
 rw[Oe];intro i j e c b;have a:j<d.size:=by simpa using c
 have:=h i j (La _) b a;rw[ltL,getElem!_pos d i (by omega),getElem!_pos d j a]at this;rw[Sg,Sg];exact this
theorem VF (g h:Nat) (a:List mA) (w:World) (B:Nat) (s:B<=g) {l:Array Value} {t:TypeId} (k:eA w g l t) (u:fO w g 0 a) (y:a.length<=2000000):
 Calls prog 183 #[.slice (some ⟨g,0,none⟩) a.length h,.func (.func 184) #[] #[]] w fun e q=>
  e=.returned (.tuple #[])/\∃f,f.Perm a/\f.Pairwise Le/\gC q B (some ⟨g,0,none⟩) f/\Below B w q:=by
 have D:∀args w,(callFunc 184 args).run prog w=.ok (.enter 184 args) w:=enters_of func184 (by kernel_rfl) rfl;have o:=aA k;have c:=AnyQ.slices_SortFunc sortL 2 isAgg156 sizeOf156 sP (fun _=>rfl) (fun x v z=>by simp[sP]at z;rcases z with rfl|rfl<;>rfl) cfL aHj 184 #[] g 0 h a.toArray w D (WX g 0 _ w) (YC k u) o (by simp;omega);change Calls prog 183 _ _ _ at c;refine c.mono ?_;rintro e q ⟨rfl,b,n,p,F,G,rfl⟩;obtain⟨d,_,i⟩:=F;obtain⟨r,m⟩:=gr (n:=n) k b p;have E:HoldsK sP 2 (sortWorldK sP 2 w g 0 n b p) g 0 b:=
  holdsK_grow sP 2 _ _ _ _ _ (by simpa[putRowK,putRow,mapBlock,ahead]using o) (holdsK_putRowK sP 2 _ _ _ a.toArray b (holdsK_ahead sP 2 _ _ _ _ _ (YC k u)) d)
 have j:b.size=a.length:=by simpa using d
 refine⟨rfl,b.toList,?_,br (by rw[j];simpa using G),aAo m s E,gq s o b p⟩;have A:b.extract 0 a.toArray.size=b:=by rw[<-d];simp
 have C:a.toArray.extract 0 a.toArray.size=a.toArray:=by simp
 rw[A,C]at i;exact i
end
end
structure tQ where
 b:Nat
 t:Int
def zE (l:List tQ) (i:Nat):tQ:=l.getD i ⟨0,0⟩
def iM (l:List tQ) (i j:Nat):List tQ:=(l.set i (zE l j)).set j (zE l i)
theorem jl {l:List tQ} {i:Nat} (h:i<l.length):zE l i=l[i]:=by simp[zE,List.getD,Va h]
theorem nG (l:List tQ) (i j:Nat):(iM l i j).length=l.length:=by simp[iM]
theorem mS {l:List tQ} {i j:Nat} (a:i<l.length) (b:j<l.length) (k:Nat):zE (iM l i j) k=if k=j then zE l i else if k=i then zE l j else zE l k:=by
 unfold iM;have e:∀(m:List tQ) (p:Nat) (x:tQ) (k:Nat),p<m.length->zE (m.set p x) k=if k=p then x else zE m k:=fun m p x k c=>by
  by_cases h:k=p
  ·subst h;simp[zE,List.getD,c]
  ·rw[Oa h];simp[zE,List.getD,Ne.symm h]
 rw[e _ _ _ _ (by simpa using b),e _ _ _ _ a]
theorem gz {l:List tQ} {i j:Nat} (a:i<l.length) (b:j<l.length):(iM l i j).Perm l:=by
 unfold iM;rw[jl a,jl b];exact List.set_set_perm a b
def sY (l:List tQ):Prop:=∀i,0<i->i<l.length->(zE l ((i-1) / 2)).t<=(zE l i).t
def tY (l:List tQ) (k:Nat):Prop:=(∀i,0<i->i<l.length->i≠k->(zE l ((i-1) / 2)).t<=(zE l i).t)/\∀i,0<i->i<l.length->(i-1) / 2=k->0<k->(zE l ((k-1) / 2)).t<=(zE l i).t
theorem sY.push {l:List tQ} (h:sY l) (x:tQ):tY (l++[x]) l.length:=by
 have e:∀i,i<l.length->zE (l++[x]) i=zE l i:=fun i a=>by simp[zE,List.getD,Td a]
 refine⟨fun i b a c=>?_,fun i b a d _=>?_⟩
 ·simp at a;rw[e i (by omega),e _ (by omega)];exact h i b (by omega)
 ·simp at a;omega
theorem tY.done {l:List tQ} {k:Nat} (h:tY l k) (a:k=0\/(zE l ((k-1) / 2)).t<=(zE l k).t):sY l:=by
 intro i b c;by_cases e:i=k
 ·subst e;rcases a with a|a
  ·omega
  ·exact a
 ·exact h.1 i b c e
theorem tY.step {l:List tQ} {k:Nat} (h:tY l k) (e:k<l.length) (p:0<k) (r:(zE l k).t<(zE l ((k-1) / 2)).t):tY (iM l k ((k-1) / 2)) ((k-1) / 2):=by
 have d:(k-1) / 2<l.length:=by omega
 have o:(k-1) / 2≠k:=by omega
 refine⟨fun i a c j=>?_,fun i a c n m=>?_⟩
 ·rw[nG]at c;rw[mS e d,mS e d,Oa j];by_cases b:i=k
  ·subst b;rw[Qa rfl,Qa rfl];omega
  ·rw[Oa b];by_cases f:(i-1) / 2=(k-1) / 2
   ·rw[Qa f];have:=h.1 i a c b;rw[f]at this;omega
   ·rw[Oa f];by_cases g:(i-1) / 2=k
    ·rw[Qa g];exact h.2 i a c g p
    ·rw[Oa g];exact h.1 i a c b
 ·rw[nG]at c;rw[mS e d,mS e d,Oa (by omega:((k-1) / 2-1) / 2≠(k-1) / 2),Oa (by omega:((k-1) / 2-1) / 2≠k),Oa (by omega:i≠(k-1) / 2)];have q:=h.1 ((k-1) / 2) m d o;by_cases b:i=k
  ·rw[Qa b];exact q
  ·rw[Oa b];have:=h.1 i a c b;rw[n]at this;omega
def nO (l:List tQ):Nat->List tQ
 |0=>l
 |k+1=>if (zE l (k+1)).t<(zE l (k / 2)).t then nO (iM l (k+1) (k / 2)) (k / 2) else l
theorem GC {l:List tQ} {k:Nat} (a:0<k):nO l k=if (zE l k).t<(zE l ((k-1) / 2)).t then nO (iM l k ((k-1) / 2)) ((k-1) / 2) else l:=by
 obtain⟨j,rfl⟩:∃j,k=j+1:=⟨k-1,by omega⟩
 rw[nO,Nat.add_sub_cancel]
theorem GF (l:List tQ):nO l 0=l:=by rw[nO]
theorem GA:∀(k:Nat) (l:List tQ),k<l.length->tY l k->sY (nO l k)/\(nO l k).Perm l/\(nO l k).length=l.length
 |0,l,_,h=>by rw[GF];exact⟨h.done (Ca rfl),Xg _,rfl⟩
 |k+1,l,e,h=>by
  rw[GC (by omega)];by_cases d:(zE l (k+1)).t<(zE l ((k+1-1) / 2)).t
  ·rw[Qa d];obtain⟨a,b,c⟩:=GA ((k+1-1) / 2) (iM l (k+1) ((k+1-1) / 2)) (by rw[nG];omega) (h.step e (by omega) d);exact⟨a,b.trans (gz e (by omega)),c.trans (nG _ _ _)⟩
  ·rw[Oa d];exact⟨h.done (Ja (by omega)),Xg _,rfl⟩
def gW (l:List tQ) (x:tQ):List tQ:=nO (l++[x]) l.length
theorem gb {l:List tQ} (h:sY l) (x:tQ):sY (gW l x)/\(gW l x).Perm (x::l)/\(gW l x).length=l.length+1:=by
 obtain⟨a,b,c⟩:=GA l.length (l++[x]) (by simp) (h.push x);exact⟨a,b.trans (List.perm_append_singleton x l),by rw[gW,c];simp⟩
def aGu (a:Array Value) (c:List tQ):Prop:=∀k,k<c.length->a[k*2]?=some (.pointer (some ⟨(zE c k).b,0,none⟩))/\a[k*2+1]?=some (.int .i64 (zE c k).t)
def uK (w:World) (g a:Nat) (c:List tQ):Prop:=∃b,eA w g b 248/\b.size=a*2/\c.length<=a/\a<=maxLen/\aGu b c
theorem uK.cells {w:World} {g d k:Nat} {c:List tQ} (h:uK w g d c) (f:k<c.length):
 w.cell? ⟨g,k*2,none⟩=some (.pointer (some ⟨(zE c k).b,0,none⟩))/\w.cell? ⟨g,k*2+1,none⟩=some (.int .i64 (zE c k).t)/\w.frozen? ⟨g,k*2,none⟩=false/\w.frozen? ⟨g,k*2+1,none⟩=false:=by
 obtain⟨i,a,_,_,_,e⟩:=h;rw[a.cell,a.cell];exact⟨(e k f).1,(e k f).2,a.free _,a.free _⟩
theorem uK.later {w d:World} {g a:Nat} {c:List tQ} (h:uK w g a c) (i:Below w.heap.size w d):uK d g a c:=by
 obtain⟨b,e,f⟩:=h;exact⟨b,e.later i,f⟩
theorem dB.drew {g:Nat} {a w:World} (h:dB g a w):dB g a w.drew:=⟨h.os,h.tape,h.output,h.size,h.block⟩
theorem uK.swap {w:World} {g c i j:Nat} {a:List tQ} (h:uK w g c a) (u:i<a.length) (v:j<a.length):
 uK ((((w.setCell ⟨g,i*2,none⟩ (.pointer (some ⟨(zE a j).b,0,none⟩))).setCell ⟨g,i*2+1,none⟩ (.int .i64 (zE a j).t)).setCell ⟨g,j*2,none⟩ (.pointer (some ⟨(zE a i).b,0,none⟩))).setCell ⟨g,j*2+1,none⟩ (.int .i64 (zE a i).t)) g c (iM a i j):=by
 obtain⟨o,p,d,q,r,s⟩:=h;refine⟨_,(((p.set _ _).set _ _).set _ _).set _ _,by simp[d],by rw[nG];exact q,r,fun k l=>?_⟩;rw[nG]at l;rw[mS u v];by_cases e:k=j
 ·subst e;rw[Qa rfl];constructor<;>simp[Bb,d]<;>omega
 ·rw[Oa e];by_cases f:k=i
  ·subst f;rw[Qa rfl];constructor
   ·rw[Ea (by omega),Ea (by omega),Ea (by omega)];simp[Bb,d];omega
   ·rw[Ea (by omega),Ea (by omega)];simp[Bb,d];omega
  ·rw[Oa f];obtain⟨m,n⟩:=s k l;constructor
   ·rw[Ea (by omega),Ea (by omega),Ea (by omega),Ea (by omega)];exact m
   ·rw[Ea (by omega),Ea (by omega),Ea (by omega),Ea (by omega)];exact n
theorem xu (x o g n h i j:Nat) (f:List tQ) (w:World) (N:w.cell? ⟨x,o,none⟩=some (.slice (some ⟨g,0,none⟩) n h)) (y:n=f.length) (l:uK w g h f) (L:i<n) (M:j<n):
 Calls prog 176 #[.pointer (some ⟨x,o,none⟩),.int .i64 i,.int .i64 j] w fun e r=>e=.returned (.tuple #[])/\uK r g h (iM f i j)/\dB g w r:=by
 have p:Hid (uK ((((w.setCell ⟨g,i*2,none⟩ (.pointer (some ⟨(zE f j).b,0,none⟩))).setCell ⟨g,i*2+1,none⟩ (.int .i64 (zE f j).t)).setCell ⟨g,j*2,none⟩ (.pointer (some ⟨(zE f i).b,0,none⟩))).setCell ⟨g,j*2+1,none⟩ (.int .i64 (zE f i).t)) g h (iM f i j)):=l.swap (by omega) (by omega);obtain⟨z,B,c,d⟩:=l.cells (k:=i) (by omega);obtain⟨D,E,O,P⟩:=l.cells (k:=j) (by omega);have q:∀(a b:Value),(∃v,((w.setCell ⟨g,i*2,none⟩ a).setCell ⟨g,i*2+1,none⟩ b).cell? ⟨g,j*2,none⟩=some v)/\(∃v,((w.setCell ⟨g,i*2,none⟩ a).setCell ⟨g,i*2+1,none⟩ b).cell? ⟨g,j*2+1,none⟩=some v)/\
  ((w.setCell ⟨g,i*2,none⟩ a).setCell ⟨g,i*2+1,none⟩ b).frozen? ⟨g,j*2,none⟩=false/\((w.setCell ⟨g,i*2,none⟩ a).setCell ⟨g,i*2+1,none⟩ b).frozen? ⟨g,j*2+1,none⟩=false:=fun a b=>by
  obtain⟨s,u,J,K,_⟩:=l;have m:=(u.set (i*2) a).set (i*2+1) b;exact⟨m.there (by simp;omega),m.there (by simp;omega),m.free _,m.free _⟩
 obtain⟨⟨Q,F⟩,⟨S,G⟩,H,I⟩:=q (.pointer (some ⟨(zE f j).b,0,none⟩)) (.int .i64 (zE f j).t);clear y l q;generalize zE f i=A at *;generalize zE f j=C at *;generalize iM f i j=R at *;clear f;go_enter func176,ntmps176;go_wp2_with fail;go_region
 go_wp2;go_end0;exact⟨rfl,p.out,(((((dB.refl g w).setCell _ _).setCell _ _).setCell _ _).setCell _ _).drew⟩
def vG (t:dA) (s:List dA×Bool) (p:dA):List dA×Bool:=
 (s.1++(if s.2=true then [] else if wH p.name t.name=true then [] else [t])++(if (p.name.toList==t.name.toList)=true then [] else [p]),if s.2=true then true else !wH p.name t.name)
def gT (t:dA) (b:Bool) (a:List dA):List dA×Bool:=a.foldl (vG t) ([],b)
def CP (t:dA) (b:Bool) (a:List dA):List dA:=(gT t b a).1++if (gT t b a).2=true then [] else [t]
theorem ij (t:dA) (b:Bool) (a:List dA) (k:Nat) (h:k<a.length):gT t b (a.take (k+1))=vG t (gT t b (a.take k)) a[k]:=by
 rw[Ma h,gT,Kf];rfl
theorem qu (t:dA) (c:List dA):∀(a:List dA) (b:Bool),c.foldl (vG t) (a,b)=(a++(c.foldl (vG t) ([],b)).1,(c.foldl (vG t) ([],b)).2):=by
 induction c with
 |nil=>intro a b;simp
 |cons p r d=>
  intro a b;simp only[Yd];rw[d (vG t (a,b) p).1 (vG t (a,b) p).2,d (vG t ([],b) p).1 (vG t ([],b) p).2];simp[vG]
theorem EJ (t p:dA) (r:List dA) (b:Bool):CP t b (p::r)=(vG t ([],b) p).1++CP t (vG t ([],b) p).2 r:=by
 unfold CP gT;rw[Yd,qu t r (vG t ([],b) p).1 (vG t ([],b) p).2];simp
theorem sR {t:dA} {a:List dA} (h:∀p∈a,p.name≠t.name):CP t true a=a:=by
 induction a with
 |nil=>rfl
 |cons p r d=>
  rw[EJ];have b:=dD (h p (Pb ..));simp only[vG,b,Ee,Nb];simp[d fun q c=>h q (Cb _ c)]
theorem yn {t:dA} {f:List dA} (j:jC (·.name) f):CP t false f=bB (·.name) t f:=by
 induction f with
 |nil=>rfl
 |cons p r l=>
  have h:=l j.tail;rw[EJ,bB];by_cases c:wH p.name t.name=true
  ·have d:=dD (yK c);simp only[vG,c,d,Ee];simp[h]
  ·have b:wH p.name t.name=false:=by simpa using c
   have a:∀q∈r,q.name≠t.name:=fun q k e=>by
    have i:=j.head q k;rw[e]at i;exact c i
   by_cases d:p.name=t.name
   ·have g:=(wC _ _).2 d;simp only[vG,b,g,Ee];simp[sR a]
   ·have g:=dD d;simp only[vG,b,g];simp[sR a]
theorem vb (b a:Int) (c:List dA) (k:Nat) (h:k<c.length):uC b a (c.take (k+1))=uC b a (c.take k)++if iE (fG b a c[k])=true then [] else [fG b a c[k]]:=by
 rw[Ma h,uC,Vd,Cf];congr 1;by_cases e:iE (fG b a c[k])=true
 ·rw[Qa e];simp[e]
 ·rw[Oa e];simp[e]
theorem aEl (b a:Int) (c:List dA) (k:Nat):(uC b a (c.take k)).length<=c.length:=by
 unfold uC;have d:=Gc (fun t=>!iE t) ((c.take k).map (fG b a));rw[Rb,Hb]at d;omega
theorem yo {t:dA} {b:Bool} {c:List dA} {q:dA} (h:q∈CP t b c):q=t\/q∈c:=by
 induction c generalizing b with
 |nil=>
  unfold CP gT at h;simp only[List.foldl_nil,Nb]at h;cases b with
  |true=>cases h
  |false=>exact Ca (by simpa using h)
 |cons p r e=>
  rw[EJ,Oc]at h;rcases h with h|h
  ·unfold vG at h;simp only[Nb,Oc]at h;rcases h with h|h
   ·by_cases d:b=true
    ·rw[Qa d]at h;cases h
    ·rw[Oa d]at h;by_cases a:wH p.name t.name=true
     ·rw[Qa a]at h;cases h
     ·rw[Oa a]at h;exact Ca (by simpa using h)
   ·by_cases a:(p.name.toList==t.name.toList)=true
    ·rw[Qa a]at h;cases h
    ·rw[Oa a]at h;exact Ja (by simp at h;simp[h])
  ·rcases e h with h|h
   ·exact Ca h
   ·exact Ja (Cb _ h)
def kI (t:dA) (a:ByteArray) (b:Int):dA:=⟨t.name,t.l9,t.m9,bB (·.s) ⟨a,b⟩ t.s9⟩
def iF (c:vB) (b:Int) (d:List dA) (a e:ByteArray):Int×List dA×Nat:=
 if gB c b d=false then(0,[],5)
 else if (yB a&&eI e)=false then(b,d,5)
 else if (xC (·.s) e (tA d a).s9).isSome=true then(b,bB (·.name) (kI (tA d a) e b) d,1)
 else if (qD c (tA d a) ByteArray.empty).2<=(qD c (tA d a) ByteArray.empty).1\/(iE (tA d a)=true/\d.length=10000) then(b,d,3)
 else if (qD c (tA d a) (vD e)).2<=(qD c (tA d a) (vD e)).1 then(b,d,4)
 else(b,bB (·.name) (kI (tA d a) e b) d,2)
theorem uI {ts:List dA} {name:ByteArray}:(tA ts name∈ts/\(xC (·.name) name ts).isSome=true)\/(tA ts name=⟨name,-1,[],[]⟩/\xC (·.name) name ts=none):=by
 unfold tA;cases h:xC (·.name) name ts with
 |none=>exact Ja ⟨rfl,rfl⟩
 |some t=>exact Ca ⟨(xW h).1,rfl⟩
theorem zD {a:List dA} {name:ByteArray}:(tA a name).name=name:=by
 unfold tA;cases h:xC (·.name) name a with
 |none=>rfl
 |some t=>exact(xW h).2
theorem ib {e d:Int} {a:List dA} (h:yL e d a=true) {name:ByteArray}:iE (tA a name)=!(xC (·.name) name a).isSome:=by
 rcases uI (ts:=a) (name:=name) with⟨b,c⟩|⟨b,c⟩
 ·rw[(gJ (nH h _ b)).2.2.2,c];rfl
 ·rw[b,c];rfl
theorem zZ {b a:Int} {c:List dA} (h:yL b a c=true) {name:ByteArray}:∀x∈(tA c name).s9,a-x.n<b:=by
 rcases uI (ts:=c) (name:=name) with⟨d,_⟩|⟨d,_⟩
 ·exact fun x e=>(IZ (gJ (nH h _ d)).2.2.1 x e).1
 ·rw[d];exact fun x e=>by simp at e
theorem TY {α:Type} {b:α->ByteArray} {a:α} {l:List α}:(bB b a l).length≠0:=by
 cases l with
 |nil=>simp[bB]
 |cons p r=>
  rw[bB];split
  ·simp
  ·split<;>simp
theorem lh {b a:Int} {t:dA} {c:ByteArray} (hw:1<=b) (h:∀x∈t.s9,a-x.n<b):∀x∈(kI t c a).s9,a-x.n<b:=fun x d=>by
 rcases xH (show x∈bB (·.s) ⟨c,a⟩ t.s9 from d) with rfl|d
 ·show a-a<b;omega
 ·exact h x d
theorem OJ {t:dA} {a:ByteArray} {b:Int}:iE (kI t a b)=false:=by
 have:((bB (·.s) (⟨a,b⟩:lA) t.s9).length==0)=false:=by simpa using TY
 simp[iE,kI,this]
theorem ey {c b:Int} {d:List dA} (h:yL c b d=true) (f:jC (·.name) d) (hw:1<=c) {a e:ByteArray}:
 uC c b (bB (·.name) (kI (tA d a) e b) d)=bB (·.name) (kI (tA d a) e b) d:=by
 rw[KQ h f (lh hw (zZ h)),OJ];rfl
theorem PN {l:List lA} {k:ByteArray} {n:Int} {j:Nat} (f:j<=l.length) (c:∀i (h:i<l.length),i<j->wH l[i].s k=true) (d:∀h:j<l.length,wH l[j].s k=false) (e:xC (·.s) k l=none):
 bB (·.s) ⟨k,n⟩ l=l.take j++⟨k,n⟩:: l.drop j:=by
 induction l generalizing j with
 |nil=>simp[bB]
 |cons p r o=>
  have g:p.s≠k:=tT e p (Pb ..);rw[bB];cases j with
  |zero=>
   have b:wH p.s k=false:=d (by simp);rw[Oa (by rw[b];simp),Oa (by rw[dD g];simp)];rfl
  |succ j=>
   have b:wH p.s k=true:=c 0 (by simp) (by omega);have a:xC (·.s) k r=none:=rJ fun q m=>tT e q (Cb _ m);rw[Qa b,o (j:=j) (by simpa using f) (fun i h t=>by have:=c (i+1) (by simpa using h) (by omega);simpa using this) (fun h=>by have:=d (by simpa using h);simpa using this) a];rfl
def uZ (d:List dA) (a b:ByteArray) (c:Int):List dA×Bool:=
 if (yB a&&(b.toList.isEmpty||cE b) &&xA c (-1) 1000000)=false then(d,false)
 else if iE (qH (tA d a) b c)=true then(dI (·.name) a d,true)
 else if ((xC (·.name) a d).isNone&&decide (10000<=d.length))=true then(d,false)
 else(bB (·.name) (qH (tA d a) b c) d,true)
theorem gP (t:dA) (a:ByteArray) (b:Int):(qH t a b).name=t.name:=by unfold qH;split<;>rfl
theorem PY (t:dA) (a:ByteArray) (b:Int):(qH t a b).s9=t.s9:=by unfold qH;split<;>rfl
theorem oF {c:vB} {a:Int} {b:List dA} (h:gB c a b=true):jE c=true/\0<=a/\a<=1000000000000/\b.length<=10000/\yL c.w a b=true:=by
 simp only[gB,Sa,Eb]at h;obtain⟨⟨⟨d,e⟩,f⟩,g⟩:=h;have:=dK e;exact⟨d,this.1,this.2,f,g⟩
theorem eP {c a:Int} {b:List dA} (h:yL c a b=true):jC (·.name) b:=by
 have:=qr (n:=b.length) h (Ka _);rwa [Wb]at this
theorem aBw {c:vB} {i:Int} {f:List dA} (h:gB c i f=true) (b d:ByteArray) (e:Int):cP c i f b d e=(i,(uZ f b d e).1,(uZ f b d e).2):=by
 obtain⟨_,_,_,r,o⟩:=oF h;have s:=eP o;unfold cP uZ;rw[Oa (by rw[h];simp)];by_cases k:(yB b&&(d.toList.isEmpty||cE d) &&xA e (-1) 1000000)=false
 ·rw[Qa k,Qa k]
 ·rw[Oa k,Oa k];have j:(qH (tA f b) d e).name=b:=by rw[gP,zD]
  have m:∀x∈(qH (tA f b) d e).s9,i-x.n<c.w:=by rw[PY];exact zZ o
  have u:=KQ o s (t:=qH (tA f b) d e) m;rw[u,j];by_cases l:iE (qH (tA f b) d e)=true
  ·have v:(dI (·.name) b f).length<=f.length:=Gc _ _;rw[Qa l,Qa l,Oa (by omega)]
  ·have g:=BF (a:=qH (tA f b) d e) s;simp only[j]at g;rw[Oa l,Oa l];cases hg:xC (·.name) b f with
   |some q=>
    rw[hg]at g;simp only[Option.isSome_some,Ee]at g;rw[Oa (by omega),Oa (by simp)]
   |none=>
    rw[hg]at g;simp only[Option.isSome_none,Pc,Se]at g;by_cases p:10000<=f.length
    ·rw[Qa (by omega),Qa (by simp[p])]
    ·rw[Oa (by omega),Oa (by simp[p])]
def eF (D:pE) (a:jM):pE×Nat:=
 (⟨(vQ D.fs D.c D.k D.cr D.fl D.dn a).2.1,(vQ D.fs D.c D.k D.cr D.fl D.dn a).2.2.1,(vQ D.fs D.c D.k D.cr D.fl D.dn a).2.2.2.1,(vQ D.fs D.c D.k D.cr D.fl D.dn a).2.2.2.2.1,(vQ D.fs D.c D.k D.cr D.fl D.dn a).2.2.2.2.2.1,(vQ D.fs D.c D.k D.cr D.fl D.dn a).2.2.2.2.2.2⟩,(vQ D.fs D.c D.k D.cr D.fl D.dn a).1)
structure CU (fs:List kA):Prop where
 r9:eV fs
 len:fs.length≤1048576
 sum:xB fs≤1000000000
theorem cR:CU []:=⟨fun i h=>absurd h (by simp),by simp,by simp[xB]⟩
theorem xZ (a:List kA) (i:Nat) (f:kA) (h:i<a.length):xB (a.set i f)+a[i].data.size=xB a+f.data.size:=by
 induction a generalizing i with
 |nil=>exact absurd h (by simp)
 |cons g r b=>
  cases i with
  |zero=>simp[xB];omega
  |succ i=>
   have:=b i (by simpa using h);simp only[Nd,Ic,xB];omega
theorem gy {a:List kA} (i:Nat) (b:i<a.length):a[i].data.size<=xB a:=by
 have c:=cN a i b;have d:=vL a (i+1);omega
theorem iP {a:List kA} (h:eV a) {f:kA} (b:f∈a):f.name.size<=maxLen/\f.data.size<=maxLen:=by
 obtain⟨i,c,rfl⟩:=Ob b;exact h i c
theorem BZ {a:List kA} (h:∀f∈a,f.name.size<=maxLen/\f.data.size<=maxLen):eV a:=fun _ b=>h _ (Xa b)
theorem EF {b:List kA} (h:eV b) {i:Nat} {f:kA} (c:f.name.size<=maxLen/\f.data.size<=maxLen):eV (b.set i f):=BZ fun _ a=>by
 rcases Me a with a|rfl
 ·exact iP h a
 ·exact c
theorem VQ (a:List kA) (i:Nat):xB (a.eraseIdx i)<=xB a:=by
 induction a generalizing i with
 |nil=>simp
 |cons g r b=>
  cases i with
  |zero=>simp[xB]
  |succ i=>have:=b i;simp only[List.eraseIdx_cons_succ,xB];omega
theorem II (a:List kA) (i:Nat) (h:i<a.length):xB (a.eraseIdx i)+a[i].data.size=xB a:=by
 induction a generalizing i with
 |nil=>exact absurd h (by simp)
 |cons g r b=>
  cases i with
  |zero=>simp[xB];omega
  |succ i=>
   have:=b i (by simpa using h);simp only[List.eraseIdx_cons_succ,Ic,xB];omega
theorem NW (p:kA->Bool) (a:List kA):xB (a.filter p)<=xB a:=by
 induction a with
 |nil=>simp
 |cons g r b=>
  rw[Sd];split
  ·simp only[xB];omega
  ·simp only[xB];omega
theorem VR (a:List kA) (f:kA):xB (kE a f)=xB a+f.data.size:=by
 induction a with
 |nil=>simp[kE,xB]
 |cons g r b=>
  unfold kE;split
  ·simp only[xB];omega
  ·simp only[xB,b];omega
theorem ol {fs:List kA} {f g:kA} (h:g∈kE fs f):g=f\/g∈fs:=by
 induction fs with
 |nil=>simp[kE]at h;exact Ca h
 |cons x r a=>
  unfold kE at h;split at h
  ·simpa using h
  ·rcases Ab.1 h with rfl|h
   ·simp
   ·rcases a h with h|h
    ·exact Ca h
    ·exact Ja (Cb _ h)
theorem gx (a:List kA) (i:Nat) (f:kA):xB (GX a i f)=xB a+f.data.size:=by
 have h:=pN (a.take i) (a.drop i);rw[Ya]at h;rw[GX,pN];simp only[xB];omega
theorem aEa {a:List kA} {c:Int} {b:jM} (h:CU a) (u:a.length<=1000) (v:c<=1000000000) (q:b.name.size<=maxLen) (s:b.tq.size<=maxLen):CU (eZ a c b).2:=by
 have w:(1000000000:Nat)<=maxLen:=by unfold maxLen;omega
 unfold eZ;simp only;split
 ·split
  ·exact h
  ·split
   ·exact h
   ·refine⟨BZ fun f i=>?_,?_,?_⟩
    ·simp only[GX,Oc,Ab]at i;rcases i with i|rfl|i
     ·exact iP h.r9 (Ed i)
     ·exact⟨q,by simp[maxLen]⟩
     ·exact iP h.r9 (Qe i)
    ·show(GX a _ _).length<=_;rw[GX];simp only[Za,Hb,Jb,Ad];omega
    ·show xB (GX a _ _)<=_;rw[gx];have:=h.sum;simpa using this
 ·split
  ·exact h
  ·rename_i f i;obtain⟨j,rfl⟩:=Fc.1 i;have e:=iP h.r9 (Xa j);have p:=gy _ j;have y:=h.sum;split
   ·exact h
   ·split
    ·split
     ·exact h
     ·rename_i x;have d:=xZ a (mC b.name a) ⟨a[mC b.name a].name,a[mC b.name a].data++b.data,a[mC b.name a].y9⟩ j;simp only[Ga]at d;refine⟨EF h.r9 ⟨e.1,?_⟩,?_,?_⟩
      ·show(a[mC b.name a].data++b.data).size<=maxLen;rw[Ga];omega
      ·show(a.set _ _).length<=_;rw[Xb];omega
      ·show xB (a.set _ _)<=_;omega
    ·split
     ·have d:=xZ a (mC b.name a) ⟨a[mC b.name a].name,a[mC b.name a].data,a[mC b.name a].data.size⟩ j;refine⟨EF h.r9 e,?_,?_⟩
      ·show(a.set _ _).length<=_;rw[Xb];omega
      ·show xB (a.set _ _)<=_;simp only at d;omega
     ·split
      ·split
       ·have d:=xZ a (mC b.name a) ⟨a[mC b.name a].name,a[mC b.name a].data.extract 0 b.size.toNat,b.size⟩ j;have z:(a[mC b.name a].data.extract 0 b.size.toNat).size<=a[mC b.name a].data.size:=by rw[Hd];omega
        refine⟨EF h.r9 ⟨e.1,?_⟩,?_,?_⟩
        ·show(a[mC b.name a].data.extract 0 b.size.toNat).size<=maxLen;omega
        ·show(a.set _ _).length<=_;rw[Xb];omega
        ·show xB (a.set _ _)<=_;simp only at d;omega
       ·exact h
      ·split
       ·have n:(a.eraseIdx (mC b.name a)).length<=a.length:=by rw[Od];split<;>omega
        have o:=II a (mC b.name a) j;refine⟨BZ fun g k=>?_,?_,?_⟩
        ·rcases ol (fs:=bC (a.eraseIdx (mC b.name a)) b.tq) (f:=⟨b.tq,a[mC b.name a].data,a[mC b.name a].y9⟩) k with rfl|k
         ·exact⟨s,e.2⟩
         ·exact iP h.r9 (Cg (Ge.1 k).1)
        ·show(oG _ _).length<=_;have m:∀(l:List kA) (f:kA),(kE l f).length=l.length+1:=fun l f=>by
          induction l with
          |nil=>rfl
          |cons g r t=>unfold kE;split<;>simp[t]
         have:(bC (a.eraseIdx (mC b.name a)) b.tq).length<=(a.eraseIdx (mC b.name a)).length:=Gc _ _;rw[oG,m];simp only;omega
        ·show xB (oG _ _)<=_;have:=NW (fun f=>!(f.name.toList==b.tq.toList)) (a.eraseIdx (mC b.name a));rw[oG,VR];simp only[bC];omega
       ·refine⟨BZ fun g k=>iP h.r9 (Cg k),?_,?_⟩
        ·show(a.eraseIdx _).length<=_;rw[Od];split<;>omega
        ·show xB (a.eraseIdx _)<=_;have:=VQ a (mC b.name a);omega
theorem qV {D:pE} {op:jM} (h:CU D.fs) (e:op.name.size<=maxLen) (f:op.tq.size<=maxLen):CU (eF D op).1.fs:=by
 show CU (vQ D.fs D.c D.k D.cr D.fl D.dn op).2.1;unfold vQ;split
 ·rename_i a;simp only[Sa]at a;obtain⟨_,b,_,d,_⟩:=bY a.1;unfold MJ;split
  ·exact aEa h b d e f
  ·exact h
 ·exact cR
def yP (L:mP):Bool:=xA L.last 1 999999&&xA L.first 1 L.last&&xA L.size 0 1000000000
def bO (n:Int):jM:=⟨1,wQ n,⟨#[]⟩,⟨#[]⟩,0⟩
def qI (n:Int) (f:ByteArray):jM:=⟨2,wQ n,⟨#[]⟩,f,0⟩
def sZ (n:Int):jM:=⟨3,wQ n,⟨#[]⟩,⟨#[]⟩,0⟩
def wJ (D:pE) (L:mP) (f:ByteArray):pE×mP×Nat:=
 if (eF D (qI L.last f)).2≠0 then((eF D (qI L.last f)).1,L,(eF D (qI L.last f)).2)
 else if (eF (eF D (qI L.last f)).1 (sZ L.last)).2≠0 then((eF (eF D (qI L.last f)).1 (sZ L.last)).1,L,(eF (eF D (qI L.last f)).1 (sZ L.last)).2)
 else((eF (eF D (qI L.last f)).1 (sZ L.last)).1,⟨L.first,L.last,L.size+f.size⟩,0)
def bI (D:pE) (L:mP) (p:ByteArray) (a:Int):pE×mP×Nat:=
 if (yP L&&xA a 1 1000000000)=false then(D,L,21)
 else if oM p=ByteArray.empty then(D,L,22)
 else if L.size≠0/\a<L.size+(oM p).size then
  if L.last=999999 then(D,L,23)
  else if (eF D (bO (L.last+1))).2≠0 then((eF D (bO (L.last+1))).1,L,(eF D (bO (L.last+1))).2)
  else wJ (eF D (bO (L.last+1))).1 ⟨L.first,L.last+1,0⟩ (oM p)
 else wJ D L (oM p)
theorem dj {D b:pE} {L:mP} {p F:ByteArray} {a:Int} {x:Nat} (g:oM p=F) (c:¬(yP L&&xA a 1 1000000000)=false) (d:¬oM p=ByteArray.empty) (e:L.size≠0/\a<L.size+F.size) (f:¬L.last=999999) (h:eF D (bO (L.last+1))=(b,x)):
 bI D L p a=if x≠0 then(b,L,x) else wJ b ⟨L.first,L.last+1,0⟩ F:=by
 subst g;unfold bI;rw[Oa c,Oa d,Qa e,Oa f,h]
theorem RY {D a:pE} {L:mP} {f:ByteArray} {x:Nat} (b:eF D (qI L.last f)=(a,x)) (c:¬x=0):wJ D L f=(a,L,x):=by
 unfold wJ;rw[b,Qa c]
theorem RZ {D c a:pE} {L:mP} {f:ByteArray} {x y:Nat} (d:eF D (qI L.last f)=(c,x)) (e:x=0) (b:eF c (sZ L.last)=(a,y)):wJ D L f=if y≠0 then(a,L,y) else(a,⟨L.first,L.last,L.size+f.size⟩,0):=by
 unfold wJ;rw[d,Oa (by simp[e])];simp only;rw[b]
def EI:ByteArray:=⟨#[99,107,112,116,46,116,109,112]⟩
def ckN:ByteArray:=⟨#[99,107,112,116]⟩
def mO:pE->List jM->pE×Nat
 |K,[]=>(K,0)
 |K,a::r=>if (eF K a).2=0 then mO (eF K a).1 r else eF K a
def aCy (n:Int):jM:=⟨6,wQ n,⟨#[]⟩,⟨#[]⟩,0⟩
def aCz:jM:=⟨6,EI,⟨#[]⟩,⟨#[]⟩,0⟩
def XY (a:Int) (b:ByteArray):List jM:=
 [⟨1,EI,⟨#[]⟩,⟨#[]⟩,0⟩,⟨2,EI,⟨#[]⟩,b,0⟩,⟨3,EI,⟨#[]⟩,⟨#[]⟩,0⟩,⟨5,EI,ckN,⟨#[]⟩,0⟩,⟨1,wQ (a+1),⟨#[]⟩,⟨#[]⟩,0⟩]
def zX (first:Int) (k:Nat):List jM:=(List.range k).map fun(i:Nat)=>aCy (first+(i:Int))
def kZ (a:List kA):List jM:=if 0<=zC EI a 0 then [aCz] else []
def EW (K:pE) (L:mP) (a:ByteArray):List jM:=kZ K.fs++(XY L.last a++zX L.first (L.last+1-L.first).toNat)
def aCv (N:yC) (K:pE):yC:=⟨K,N.l,N.now,N.ts,N.lsn,true,!K.dn⟩
def SI (c:vB) (N:yC):yC×Int:=
 if jE c=false then(lJ,61)
 else if yk N=false then(N,60)
 else if yP N.l=false then(N,21)
 else if N.l.last=999999 then(N,23)
 else if xE N.lsn N.now N.ts=⟨#[]⟩ then(N,62)
 else if (mO N.d (EW N.d N.l (xE N.lsn N.now N.ts))).2=0 then(⟨(mO N.d (EW N.d N.l (xE N.lsn N.now N.ts))).1,⟨N.l.last+1,N.l.last+1,0⟩,N.now,N.ts,N.lsn,N.deg,N.up⟩,0)
 else(aCv N (mO N.d (EW N.d N.l (xE N.lsn N.now N.ts))).1,((mO N.d (EW N.d N.l (xE N.lsn N.now N.ts))).2:Int))
theorem FY (a b:List jM):∀K:pE,mO K (a++b)=if (mO K a).2=0 then mO (mO K a).1 b else mO K a:=by
 induction a with
 |nil=>intro K;simp[mO]
 |cons x r c=>
  intro K;simp only[Xc,mO];split
  ·exact c _
  ·rfl
theorem qc {K:pE} {a:List jM} (b:jM) (h:(mO K a).2=0):mO K (a++[b])=eF (mO K a).1 b:=by
 rw[FY,Qa h];simp only[mO];split
 ·rename_i c;rw[<-c]
 ·rfl
theorem qd {K:pE} {a d:List jM} (b:jM) (h:(mO K a).2=0) (c:(eF (mO K a).1 b).2≠0):mO K (a++b::d)=eF (mO K a).1 b:=by
 rw[FY,Qa h];simp only[mO];rw[Oa c]
theorem ec (f:Int) (k:Nat):zX f (k+1)=zX f k++[aCy (f+k)]:=by simp[zX,List.range_succ]
def aCq (a:jM):Prop:=a.name.size<=maxLen/\a.tq.size<=maxLen/\a.data.size<=200000000
theorem OP {K:pE} {L:mP} {text:ByteArray} (h:text.size<=200000000):∀f∈EW K L text,aCq f:=by
 intro f a;have e:∀n,(wQ n).size<=maxLen:=fun n=>by have:=aN n;unfold maxLen;omega
 have d:EI.size<=maxLen:=by unfold maxLen;decide
 have g:ckN.size<=maxLen:=by unfold maxLen;decide
 have b:(⟨#[]⟩:ByteArray).size<=maxLen:=La _;have c:(⟨#[]⟩:ByteArray).size<=200000000:=La _;simp only[EW,kZ,XY,zX,Oc,Ie,Ab,Kd,Hf]at a;rcases a with a|(a|a|a|a|a)|⟨i,_,a⟩
 ·split at a
  ·simp only[Ab,Kd,Hf]at a;subst a;exact⟨d,b,c⟩
  ·cases a
 ·subst a;exact⟨d,b,c⟩
 ·subst a;exact⟨d,b,h⟩
 ·subst a;exact⟨d,b,c⟩
 ·subst a;exact⟨d,g,c⟩
 ·subst a;exact⟨e _,b,c⟩
 ·subst a;exact⟨e _,b,c⟩
theorem TF:∀(d:List jM) (K:pE),CU K.fs->(∀a∈d,aCq a)->CU (mO K d).1.fs
 |[],K,h,_=>h
 |a::r,K,h,c=>by
  obtain⟨e,f,_⟩:=c a (by simp);have b:=qV h e f;simp only[mO];split
  ·exact TF r _ b (fun o g=>c o (Cb _ g))
  ·exact b
