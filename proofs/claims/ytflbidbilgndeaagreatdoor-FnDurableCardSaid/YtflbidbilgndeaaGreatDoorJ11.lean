import Derived.Test.YtflbidbilgndeaaGreatDoorJ08
import Derived.Test.YtflbidbilgndeaaGreatDoorJ09
set_option maxRecDepth 100000
set_option maxHeartbeats 4000000
set_option linter.defProp false
namespace Go.Proofs.YtflbidbilgndeaaGreatDoor
open Go.RowKit Tryz
def ak(s:jB)(w:World)(o:s.size<=maxLen):
 rL 325 #[.string s] w (.bool (RO s)):=by
 unfold maxLen at o;by_cases d:1<=s.size/\s.size<=64
 .have q:¬((s.size:Int)<1):=by omega
  go_enter func325,ntmps325;go_wp2;apply wp_scope_straight;go_wp2;apply wp_label;go_wp2;go_loop [3,4,20,35] (λi _ _ _=>∃j:Nat,j<=s.size/\i=zA j/\cB (∀k,k<j->CZ s k)) (λi _ _ _=>s.size-(intOf i).toNat)
  case atStart=>exact⟨0,Oa _,rfl,λk m=>absurd m (by omega)⟩
  case round=>
   obtain⟨j,x,rfl,b⟩:=hrel;by_cases a:j<s.size
   .have n:s[j].toNat<256:=s[j].toNat_lt;have c:cB (s[j].toNat=aD s j):=fW s j a;have l:((j:Int)==(s.size:Int))=false:=by simp;omega
    by_cases u:s[j].toNat=95
    .have g:((s[j].toNat:Int)==95)=true:=by simp;omega
     go_wp2;all_goals
      refine⟨⟨j+1,by omega,by go_num,?_⟩,by simp[intOf];omega⟩;show ∀k,_;intro k m;by_cases e:k=j
      .subst e;unfold CZ jZ;rw[<-c.o];omega
      exact b.o k (by omega)
    have g:((s[j].toNat:Int)==95)=false:=by simp;omega
    go_wp2;all_goals first
     |(go_ret
       refine⟨oB (pW ?_).symm,rfl⟩;intro h;have:=h.2.2 j a;unfold CZ jZ PQ at this;rw[<-c.o]at this;omega)
     |(refine⟨⟨j+1,by omega,by go_num,?_⟩,by simp[intOf];omega⟩
       show ∀k,_;intro k m
       by_cases e:k=j
       .subst e
        unfold CZ jZ PQ;rw[<-c.o];omega
       exact b.o k (by omega))
   have l:((j:Int)==(s.size:Int))=true:=by simp;omega
   go_wp2;go_ret;exact⟨oB (XL ⟨by omega,by omega,λi v=>b.o i (by omega)⟩).symm,rfl⟩
 have E:cB (RO s=false):=pW (λh=>d ⟨h.1,h.2.1⟩);by_cases r:(s.size:Int)<1
 .clear d;go_enter func325,ntmps325;go_wp2;apply wp_scope_straight;go_wp2;rw[Exit.noGoto_ret];show bodyPost prog f325 _ Exit.ret _ _;go_ret;exact⟨oB E.o.symm,rfl⟩
 have t:(64:Int)<s.size:=by omega
 clear d;go_enter func325,ntmps325;go_wp2;apply wp_scope_straight;go_wp2;rw[Exit.noGoto_ret];show bodyPost prog f325 _ Exit.ret _ _;go_ret;exact⟨oB E.o.symm,rfl⟩
def UP(l:dC)(w:World)(m:l.N.size<=1000000000)(f:l.V.size<=1000000000)(c:uG w):
 dF 300 #[.agg #[.string l.N,.string l.V]] w (zA (yR l:Nat)):=by
 have j:cB (uG w):=c;have b:cB _:=λW=>ak l.N W (by unfold maxLen;omega);have k:cB _:=λW h=>LS l.V W f h;clear c m f;by_cases h:RO l.N=true
 .have E:cB (yR l=qP l.V):=by show _=_;rw[yR,Ma h]
  rw[E.o];have a:cB _:=h;clear h E;generalize l.N=n at *;generalize l.V=g at *;generalize qP g=V at *;go_enter func300,ntmps300;go_wp2_with fail;apply lC (b.o _);intro p e;rw[a.o];replace e:=e.symm;subst e;go_wp2_with fail;apply lC (k.o _ (j.o.z zB));intro q d;have i:cB _:=vB zB d;clear d;go_wp2;go_ret;exact⟨rfl,i.o⟩
 have a:cB (RO l.N=false):=by show _=_;simpa using h
 have E:cB (yR l=41):=by show _=_;rw[yR,Ja h]
 rw[E.o];clear h E;generalize l.N=n at *;generalize l.V=g at *;go_enter func300,ntmps300;go_wp2_with fail;apply lC (b.o _);intro p e;rw[a.o];replace e:=e.symm;subst e;go_wp2;go_ret;exact⟨rfl,zB⟩
def aAg(t:jB)(B:Nat)(w:World)(c:B<w.1.size)(a:w.cell? (dB B 0)=some (.string t)):
 PredBelow prog 326 #[.pointer (yB B)] (λx=>.agg (jR x).toArray) (λx:dC=>x.N.toList==t.toList) w:=λW x b=>by
 have e:=(b.cell (p:=(dB B 0)) c).trans a;have d:=Bb c b.size;show Calls prog 326 #[.agg #[.string x.N,.string x.V],.pointer (yB B)] W _;go_enter func326,ntmps326;go_wp2;go_ret;exact⟨rfl,b.alloc b.size _⟩
def ig(b o n c:Nat)(f:List dC)(t:jB)(w:World)(u:b<w.1.size)(l:vP w b o f)(s:n<=f.length)(m:f.length<=2000000):
 dF 301 #[.slice (some (dB b o)) n c,.string t] w (.bool ((f.take n).any λx=>x.N.toList==t.toList)):=by
 have q:∀args w,(callFunc 326 args).run prog w=.ok (.enter 326 args) w:=enters_of func326 (by kernel_rfl) rfl;haveI:=aJn
 have a:=AnyQ.slices_ContainsFunc contL 2 isAgg181 sizeOf181 jR (λ_=>rfl) (λx:dC=>x.N.toList==t.toList) 326 #[.pointer (yB w.1.size)] q b o n c f (w.alloc (.cells #[.string t] 9))
  (aAg t w.1.size _ (by simp) (by simp)) s (by omega) (by simp;omega) (λj k i v d=>by
   refine Lib.cell?_alloc_some _ ?_;have h:=l j k;have e:f[j]! = f[j]:=getElem!_pos f j k;rw[e]at d;match i,d with
   |0,d=>simp[jR]at d;rw[<-d];exact h.1
   |1,d=>simp[jR]at d;rw[<-d];exact h.2
   |i+2,d=>simp[jR]at d)
 change Calls prog 216 _ _ _ at a;clear l;generalize ((f.take n).any λx=>x.N.toList==t.toList)=r at a |-
 go_enter func301,ntmps301;go_wp2_with(go_at_call 216;apply lC a;intro p g);go_ret;exact⟨rfl,((Below.refl _ w).alloc (Ia _) _).trans (g.mono (by simp))⟩
def RU:RT.toList=[95,95,110,97,109,101,95,95]:=by rw[RT,ByteArray.toList_eq]
def GZ(a:mC)(l:Nat)(c:List dC)(w:World)(p:sD w a c)(q:c.length<=2000000):
 dF 262 #[.slice a c.length l] w (.string (oL c)):=by
 have s:cB (sD w a c):=p;clear p;go_enter func262,ntmps262;go_wp2;go_loopw [4,7] (λ_ i wr=>∃k:Nat,k<=c.length/\i=zA k/\cB (oL c=oL (c.drop k))/\uB w wr) (λ_ i _=>c.length-(intOf i).toNat)
 case atStart=>exact⟨0,Oa _,rfl,rfl,iD⟩
 case round=>
  obtain⟨k,z,rfl,j,d⟩:=hrel;by_cases g:k<c.length
  .obtain ⟨b,o,rfl,y,v,x⟩:=(s.o.z d).at g;have h:=XJ c k g;have n:cB (sP c[k]=(c[k].N.toList==[95,95,110,97,109,101,95,95])):=by show _=_;rw[sP,RU]
   generalize c[k].N=r at *;by_cases f:sP c[k]=true
   .have m:(r.toList==[95,95,110,97,109,101,95,95])=true:=by rw[<-n.o];exact f
    have E:cB (oL c=c[k].V):=by show _=_;rw[j.o,h,Ma f]
    clear h f;generalize c[k].V=t at *;go_wp2;go_ret;exact⟨by rw[E.o];rfl,vB d zB⟩
   have m:(r.toList==[95,95,110,97,109,101,95,95])=false:=by rw[<-n.o];simpa using f
   have E:cB (oL c=oL (c.drop (k+1))):=by show _=_;rw[j.o,h,Ja f]
   clear h f;generalize c[k].V=t at *;go_wp2;exact⟨⟨k+1,by omega,by go_num,E.o,vB d zB⟩,by simp[intOf];omega⟩
  have E:cB (oL c=ByteArray.empty):=by
   show _=_;rw[j.o,Yb (by omega)];rfl
  go_wp2;go_ret;exact⟨by rw[E.o];rfl,d⟩
def hI(a:List dC):Nat×Nat:=
 if 16<a.length then(40,0) else match jD a 0 with
 |some (c,i)=>(c,i)
 |none=>match pF [] a 0 with
  |some i=>(45,i)
  |none=>if ((oL a).toList==ByteArray.empty.toList)=true then(46,0) else(0,0)
def vz{a b c d:Nat}(e:a=c)(f:b=d):Ending.returned (.tuple #[zA (a:Nat),zA (b:Nat)])=.returned (.tuple #[zA (c:Nat),zA (d:Nat)]):=by rw[e,f]
def QD{a:List dC}(h:16<a.length):hI a=(40,0):=by unfold hI;rw[Ma h]
def WE{a:List dC}(h:¬16<a.length){c i:Nat}(b:jD a 0=some (c,i)):hI a=(c,i):=by unfold hI;rw[Ja h,b]
def LI{a:List dC}(h:¬16<a.length)(b:jD a 0=none){i:Nat}(c:pF [] a 0=some i):hI a=(45,i):=by unfold hI;rw[Ja h,b,c]
def WG{a:List dC}(h:¬16<a.length)(b:jD a 0=none)(c:pF [] a 0=none):hI a=if ((oL a).toList==ByteArray.empty.toList)=true then(46,0) else(0,0):=by unfold hI;rw[Ja h,b,c]
def gu(a:mC)(g:Nat)(c:List dC)(w:World)(h:sD w a c)(Z:sU c)(t:c.length<=2000000)(n:c.length<=g)(n:uG w):
 dF 267 #[.slice a c.length g] w (.tuple #[zA ((hI c).1:Nat),zA ((hI c).2:Nat)]):=by
 have L:cB (sD w a c):=h;have G:cB (sU c):=Z;have Y:cB (uG w):=n;clear h Z n;by_cases J:16<c.length
 .rw[QD J];go_enter func267,ntmps267;go_wp2;go_ret2;exact⟨rfl,iD⟩
 have v:cB (¬16<c.length):=J;go_enter func267,ntmps267;go_wp2;go_loopw [4,5,6,14] (λ_ _ _ i wr=>∃k:Nat,k<=c.length/\i=zA k/\cB (jD c 0=jD (c.drop k) k)/\uB w wr) (λ_ _ _ i _=>c.length-(intOf i).toNat)
 case atStart=>exact⟨0,Oa _,rfl,rfl,iD⟩
 case round=>
  obtain⟨k,n,rfl,s,d⟩:=hrel;by_cases j:k<c.length
  .obtain ⟨b,o,rfl,N,c0,c1⟩:=(L.o.z d).at j;obtain⟨A,B⟩:=G.o k j;have y:cB _:=λW h=>UP c[k] W A B h;have q:=CS c k j;by_cases I:yR c[k]=0
   .have E:cB (jD c 0=jD (c.drop (k+1)) (k+1)):=by show _=_;rw[s.o,q,Ma I]
    have H:cB (∀W,uG W->dF 300 #[.agg #[.string c[k].N,.string c[k].V]] W (zA 0)):=by
     show ∀_,_;have:=y.o;rw[I]at this;exact this
    clear q y I A B;generalize c[k].N=r at *;generalize c[k].V=C at *;go_wp2_with fail;apply lC (H.o _ ((Y.o.z d).z zB));intro T f;have l:cB _:=vB (vB d zB) f;clear f;go_wp2;exact⟨⟨k+1,by omega,by go_num,E.o,l.o⟩,by simp[intOf];omega⟩
   have E:cB _:=WE v.o (by rw[s.o,q,Ja I]);have G:((yR c[k]:Int) != 0)=true:=by simp;omega
   clear q I A B;generalize yR c[k]=V at *;generalize c[k].N=r at *;generalize c[k].V=C at *;go_wp2_with fail;apply lC (y.o _ ((Y.o.z d).z zB));intro T f;have l:cB _:=vB (vB d zB) f;clear f;go_wp2;go_ret2;exact⟨vz (by rw[E.o]) (by rw[E.o]),l.o⟩
  have X:cB (jD c 0=none):=by
   show _=_;rw[s.o,Yb (by omega)];rfl
  clear s;go_wp2;clear j n;go_loopw [7,8,28] (λ_ _ i wr=>∃k:Nat,k<=c.length/\i=zA k/\cB (pF [] c 0=pF (c.take k) (c.drop k) k)/\uB w wr) (λ_ _ i _=>c.length-(intOf i).toNat)
  case atStart=>exact⟨0,Oa _,rfl,rfl,d⟩
  case round=>
   clear d;obtain⟨k,n,rfl,s,d⟩:=hrel;by_cases j:k<c.length
   .obtain ⟨b,o,rfl,N,c0,c1⟩:=(L.o.z d).at j;have q:=GJ c k j;have K:vP wr b o c:=by
     rcases L.o.z d with h|⟨b',n,e,_,h⟩;rw[h]at j;exact absurd j (by simp);simp only[Qa,Addr.mk.injEq,Cc]at e;obtain⟨rfl,rfl⟩:=e;exact h
    have p:cB (∀W,uB wr W->dF 301 #[.slice (some (dB b o)) k g,.string c[k].N] W (.bool ((c.take k).any λx=>iS x c[k]))):=λW R=>by
     have h:vP W b o c:=λi n=>by
      have:=K i n;exact⟨(R.cell N).trans this.1,(R.cell N).trans this.2⟩
     exact ig b o k g c c[k].N W (Bb N R.size) h (by omega) t
    have h:(0:Int)<=(k:Int):=by omega
    have h:(k:Int)<=(g:Int):=by omega
    clear K;by_cases D:((c.take k).any λx=>iS x c[k])=true
    .have E:cB _:=LI v.o X.o (by rw[s.o,q,Ma D]);have m:cB (∀W,uB wr W->dF 301 #[.slice (some (dB b o)) k g,.string c[k].N] W (.bool true)):=by
      show ∀_,_;have:=p.o;rw[D]at this;exact this
     clear q p D;generalize c[k].N=r at *;generalize c[k].V=C at *;have Q:∀x:kC (wr.alloc (.cells #[.string r,.string C] 181)),x.w'.cell? (dB wr.1.size 0)=some (.string r):=kC.cells (by simp);have z:=kC.there (wr.alloc (.cells #[.string r,.string C] 181));go_wp2_with fail;refine wB (by kernel_rfl) (by kernel_rfl) ?_;repeat (go_big_quiet_step (first|(go_at_call 301;exact oC (m.o _ (vB zB (kC.h _))))))
     refine wpQuiet_nil ?_;rintro _ ⟨x,rfl⟩;have P:cB _:=vB (vB d zB) x.h;clear Q z;generalize x.w'=W at *;clear x;go_wp2;go_ret2;exact⟨vz (by rw[E.o]) (by rw[E.o]),P.o⟩
    .have E:cB (pF [] c 0=pF (c.take (k+1)) (c.drop (k+1)) (k+1)):=by show _=_;rw[s.o,q,Ja D]
     have m:cB (∀W,uB wr W->dF 301 #[.slice (some (dB b o)) k g,.string c[k].N] W (.bool false)):=by
      show ∀_,_;have h:((c.take k).any λx=>iS x c[k])=false:=by simpa using D
      have:=p.o;rw[h]at this;exact this
     clear q p D;generalize c[k].N=r at *;generalize c[k].V=C at *;have Q:∀x:kC (wr.alloc (.cells #[.string r,.string C] 181)),x.w'.cell? (dB wr.1.size 0)=some (.string r):=kC.cells (by simp);have z:=kC.there (wr.alloc (.cells #[.string r,.string C] 181));go_wp2_with fail;refine wB (by kernel_rfl) (by kernel_rfl) ?_;repeat (go_big_quiet_step (first|(go_at_call 301;exact oC (m.o _ (vB zB (kC.h _))))))
     refine wpQuiet_nil ?_;rintro _ ⟨x,rfl⟩;have P:cB _:=vB (vB d zB) x.h;clear Q z;generalize x.w'=W at *;clear x;go_wp2;exact⟨⟨k+1,by omega,by go_num,E.o,P.o⟩,by simp[intOf];omega⟩
   .have O:cB (pF [] c 0=none):=by
     show _=_;rw[s.o,Yb (by omega)];rfl
    have U:cB (dF 262 #[.slice a c.length g] wr (.string (oL c))):=GZ a g c wr (L.o.z d) t;have E:=WG v.o X.o O.o;have G:cB (ByteArray.empty.toList=[]):=by show _=_;rw[ByteArray.toList_eq];rfl
    generalize oL c=M at *;by_cases u:(M.toList==ByteArray.empty.toList)=true
    .have F:cB (hI c=(46,0)):=by show _=_;rw[E,Ma u]
     have S:M.toList.isEmpty=true:=by rw[G.o]at u;simpa using u
     clear u E;go_wp2_with fail;apply lC U.o;intro T f;have l:cB _:=vB d f;clear f;go_wp2;go_ret2;exact⟨vz (by rw[F.o]) (by rw[F.o]),l.o⟩
    have F:cB (hI c=(0,0)):=by show _=_;rw[E,Ja u]
    have S:M.toList.isEmpty=false:=by rw[G.o]at u;simpa using u
    clear u E;go_wp2_with fail;apply lC U.o;intro T f;have l:cB _:=vB d f;clear f;go_wp2;go_ret2;exact⟨vz (by rw[F.o]) (by rw[F.o]),l.o⟩
section
open Go.Sort
def cfL(x y:dC):Int:=qZ x.N y.N
def ltL(x y:dC):ltOf cfL x y=tP x y:=by
 unfold ltOf cfL qZ tP;split
 .rename_i h;rw[h];rfl
 rename_i h;have a:Op.bytesLess x.N.toList y.N.toList=false:=by simpa using h
 rw[a];split<;>rfl
def aQs:SWO (ltOf cfL) where
 irrefl x:=by rw[ltL];exact yE _
 trans x y z h1 h2:=by rw[ltL]at *;exact rJ _ _ _ h1 h2
 ntrans x y z h1 h2:=by rw[ltL]at *;exact RN (x:=z) (y:=y) (z:=x) h2 h1
def tb(x y:dC)(W:World):Calls prog 269 #[.agg #[.string x.N,.string x.V],.agg #[.string y.N,.string y.V]] W λe c=>e=.returned (zA (cfL x y))/\∃q b,c=grow (W.drewN q) b:=by
 have a:=λd=>KW x.N y.N d;unfold cfL;generalize qZ x.N y.N=r at a |-
 go_enter func269,ntmps269;go_wp2_with(go_at_call 184;apply lC (a _);rintro c rfl);go_ret;exact⟨rfl,0,_,by rw[alloc_eq_grow,alloc_eq_grow,grow_grow];rfl⟩
section
variable [Inhabited dC]
theorem fu(c b a:Nat)(w:World):CmpLays prog 269 #[] jR 2 cfL c b a w:=
 λ_ _ _ _ x y=>tb x y _
theorem td{w:World}{g n:Nat}{a:Array Value}{t:TypeId}(h:nB w g a t)(d:Array dC)(e:Array Obj):∃b,nB (sortWorldK jR 2 w g 0 n d e) g b t:=by
 have c:=aB h;refine⟨putCells id 0 (flatK jR 2 d) a,?_⟩;unfold nB sortWorldK putRowK putRow mapBlock;rw[heap_grow_old _ _ (by simpa[ahead]using c)];show(Array.modify w.heap g _)[g]?=_;rw[Array.getElem?_modify,Ma rfl];unfold nB at h;rw[h];rfl
theorem tc{w:World}{g n B:Nat}(b:B<=g)(c:g<w.1.size)(d:Array dC)(a:Array Obj):Below B w (sortWorldK jR 2 w g 0 n d a):=by
 refine⟨rfl,rfl,rfl,?_,λk e=>?_⟩;simp[sortWorldK,putRowK,putRow,mapBlock];unfold sortWorldK putRowK putRow mapBlock;rw[heap_grow_old _ _ (by simp;omega)];show(Array.modify w.heap g _)[k]?=_;rw[Array.getElem?_modify,Ja (by omega)]
theorem ik{w:World}{g:Nat}{c:Array Value}{t:TypeId}{b:List dC}(h:nB w g c t)(k:vP w g 0 b):HoldsK jR 2 w g 0 b.toArray:=by
 intro j d;rw[size_flatK]at d;have a:j / 2<b.length:=by simp at d;omega
 refine⟨?_,h.free _⟩;rw[get_flatK _ _ _ _ d];have e:b.toArray[j / 2]! = b[j / 2]:=by simp[getElem!_pos,a]
 rw[e];have i:=k (j / 2) a;rcases Nat.mod_two_eq_zero_or_one j with f|f;rw[f];have:=i.1;rw[show 0+j / 2*2=0+j by omega]at this;rw[this];rfl;rw[f];have:=i.2;rw[show 0+j / 2*2+1=0+j by omega]at this;rw[this];rfl
theorem aJr{w:World}{g B:Nat}{b:Array Value}{t:TypeId}{d:Array dC}(h:nB w g b t)(l:B<=g)(k:HoldsK jR 2 w g 0 d):oE w B (yB g) d.toList:=by
 refine La ⟨g,0,b,t,rfl,l,h,λi m=>?_⟩;have a:i<d.size:=by simpa using m
 have f:=(k.cell (c:=0) a (by omega)).1;have j:=(k.cell (c:=1) a (by omega)).1;have e:d[i]! = d[i]:=getElem!_pos d i a;rw[e]at f j;rw[Mg];exact⟨f,j⟩
theorem mm{d:Array dC}(h:SortedIn (ltOf cfL) 0 d.size d):d.toList.Pairwise Le:=by
 rw[Qe];intro i j e c b;have a:j<d.size:=by simpa using c
 have:=h i j (Oa _) b a;rw[ltL,getElem!_pos d i (by omega),getElem!_pos d j a]at this;rw[Mg,Mg];exact this
theorem dc(g h:Nat)(a:List dC)(w:World)(B:Nat)(s:B<=g){l:Array Value}{t:TypeId}(k:nB w g l t)(u:vP w g 0 a)(y:a.length<=2000000):
 Calls prog 268 #[.slice (yB g) a.length h,.func (.func 269) #[] #[]] w λe q=>
  e=.returned (.tuple #[])/\∃f,f.Perm a/\f.Pairwise Le/\oE q B (yB g) f/\Below B w q:=by
 have D:∀args w,(callFunc 269 args).run prog w=.ok (.enter 269 args) w:=enters_of func269 (by kernel_rfl) rfl;have o:=aB k;have c:=AnyQ.slices_SortFunc sortL 2 isAgg181 sizeOf181 jR (λ_=>rfl) (λx v z=>by simp[jR]at z;rcases z with rfl|rfl<;>rfl) cfL aQs 269 #[] g 0 h a.toArray w D (fu g 0 _ w) (ik k u) o (by simp;omega);change Calls prog 268 _ _ _ at c;apply lC c;rintro q ⟨b,n,p,F,G,rfl⟩;obtain⟨d,_,i⟩:=F;obtain⟨r,m⟩:=td (n:=n) k b p;have E:HoldsK jR 2 (sortWorldK jR 2 w g 0 n b p) g 0 b:=
  holdsK_grow jR 2 _ _ _ _ _ (by simpa[putRowK,putRow,mapBlock,ahead]using o) (holdsK_putRowK jR 2 _ _ _ a.toArray b (holdsK_ahead jR 2 _ _ _ _ _ (ik k u)) d)
 have j:b.size=a.length:=by simpa using d
 refine⟨rfl,b.toList,?_,mm (by rw[j];simpa using G),aJr m s E,tc s o b p⟩;have A:b.extract 0 a.toArray.size=b:=by rw[<-d];simp
 have C:a.toArray.extract 0 a.toArray.size=a.toArray:=by simp
 rw[A,C]at i;exact i
end
end
def LH(b:List dC):((hI b).1=0->xB b=(iG [] b,0,0)/\rV b/\pS b=true/\(hI b).2=0/\¬16<b.length)/\((hI b).1≠0->xB b=([],(hI b).1,(hI b).2)):=by
 by_cases a:16<b.length
 .rw[QD a,DW a];exact⟨λh=>absurd h (by simp),λ_=>rfl⟩
 cases hb:jD b 0 with
 |some e=>
  obtain⟨c,i⟩:=e;rw[WE a hb,BM a hb];refine⟨λh=>?_,λ_=>rfl⟩;exfalso;have:∀(l:List dC)(j:Nat),jD l j=some (c,i)->c≠0:=by
   intro l;induction l with
   |nil=>intro j h;simp[jD]at h
   |cons x r g=>
    intro j h;rw[jD]at h;split at h;exact g _ h
    rename_i f;simp only[Qa,Dc]at h;rw[<-h.1];exact f
  exact this b 0 hb h
 |none=>
  cases ht:pF [] b 0 with
  |some i=>
   rw[LI a hb ht,nZ a hb ht];exact⟨λh=>absurd h (by simp),λ_=>rfl⟩
  |none=>
   have d:=vp b ht;rw[WG a hb ht,jw b d];cases hm:pS b with
   |true=>
    rw[OZ a hb ht hm];exact⟨λ_=>⟨rfl,d,rfl,rfl,a⟩,λh=>absurd rfl h⟩
   |false=>
    rw[JS a hb ht hm];exact⟨λh=>absurd h (by simp),λ_=>rfl⟩
def XC{b:List dC}(h:pS b=true):0<(zL b).length:=by
 unfold pS at h;rw[Zd]at h;obtain⟨x,c,a⟩:=h;rw[Sa]at a;exact List.length_pos_of_mem (De.2 ⟨c,a.1⟩)
def CW(a:mC)(m:Nat)(c:List dC)(w:World)(h:sD w a c)(G:sU c)(X:c.length<=2000000)(V:c.length<=m)(I:uG w):
 Calls prog 221 #[.slice a c.length m] w λe D=>∃a' n,e=.returned (.tuple #[.slice a' (xB c).1.length n,zA ((xB c).2.1:Nat),zA ((xB c).2.2:Nat)])/\(xB c).1.length<=n/\oE D w.1.size a' (xB c).1/\uB w D:=by
 have y:cB (dF 267 #[.slice a c.length m] w (.tuple #[zA ((hI c).1:Nat),zA ((hI c).2:Nat)])):=gu a m c w h G X V I;have HF:cB (sD w a c):=h;obtain⟨L,M⟩:=LH c;clear h G I;by_cases S:(hI c).1=0
 .obtain ⟨r,Z,H,h2,h16⟩:=L S;have F:cB (dF 267 #[.slice a c.length m] w (.tuple #[zA 0,zA 0])):=by
   show Calls _ _ _ _ _;have:=y.o;rw[S,h2]at this;exact this
  have j:cB (xB c=(iG [] c,0,0)/\rV c/\0<(zL c).length):=⟨r,Z,XC H⟩
  obtain⟨ti,h,J,O,U⟩:=GQ;have HI:cB _:=h;clear L M S r Z H h2 y h;go_enter func221,ntmps221;go_wp2_with fail;apply lC F.o;intro w1 p;have K:cB _:=p;clear p F;go_wp2;go_loopw [7,9,21] (λh _ i wr=>∃(k:Nat)(d:List dC)(P:mC)(u:Nat),k<=c.length/\d.length<=k/\cB (d=zL (c.take k))/\i=zA k/\h=.slice P d.length u/\cB (wr.ownsRow w.1.size 181 2 (.slice P d.length u) d.length (vC d))/\uB w wr) (λ_ _ i _=>c.length-(intOf i).toNat)
  case atStart=>exact⟨0,[],none,0,Oa _,Oa _,rfl,rfl,rfl,⟨rfl,Ca ⟨rfl,rfl⟩⟩,K.o⟩
  case round=>
   obtain⟨k,d,P,u,h,h,W,rfl,rfl,f,l⟩:=hrel;by_cases Y:k<c.length
   .obtain ⟨b,o,rfl,hb,c0,c1⟩:=(HF.o.z l).at Y;have G:=qp c k Y;have I:=jh c[k];have h:=l.size;by_cases s:wT c[k]=true
    .have E:cB (d=zL (c.take (k+1))):=by show _=_;rw[G,Ma s,Cd];exact W.o
     have Y:c[k].V.toList.isEmpty=true:=by rw[<-I];exact s
     clear G s I;generalize c[k].N=nm at *;generalize c[k].V=h at *;go_wp2;exact⟨⟨k+1,d,P,u,by omega,by omega,E.o,by go_num,rfl,hC f.o zB,vB l zB⟩,by simp[intOf];omega⟩
    have E:cB (d++[c[k]]=zL (c.take (k+1))):=by show _=_;rw[G,Ja s,W.o]
    have Y:c[k].V.toList.isEmpty=false:=by rw[<-I];simpa using s
    have Y:cB (vC [c[k]]=[.string c[k].N,.string c[k].V]):=rfl;clear G s I;generalize c[k]=G at *;generalize G.N=nm at *;generalize G.V=h at *;have HW:cB (∀x,uB wr ((wr.alloc (.cells #[.string nm,.string h] 181)).alloc x)):=λx=>vB zB zB;go_wp2_with(at_builtin;refine wpList_append_lies _ rfl _ _ _ rfl w.1.size 181 ti _ 2 32 underlying108 HI.o J O U rfl (by omega) (.slice P d.length u) d.length (vC d) rfl (by exact hC f.o (HW.o _)) (dB (wr.1.size+1) 0) 1 1 [.string nm,.string h] rfl rfl (by exact XN _ _ #[.string nm,.string h] _) (by simp[Value.oneCell']) (by omega) (by simp[maxLen];omega) (by omega) (by simp;omega) (wr.1.size+1+1) (by simp) ?_;intro U R I t A I I);have I:=(vB l (HW.o _)).grown A (by simp;omega) (λq J=>zH f.o q J);have O:(d++[G]).length=d.length+1:=by simp
    have J:vC d++[.string nm,.string h]=vC (d++[G]):=by rw[cG,Y.o]
    rw[J,<-O]at t;exact⟨⟨k+1,d++[G],yB U,R,by omega,by rw[O];omega,E.o,by go_num,by rw[O],t,I⟩,by simp[intOf];omega⟩
   have Q:cB (d=zL c):=by show _=_;rw[W.o,Ra (by omega)]
   have J:0<d.length:=by rw[Q.o];exact j.o.2.2
   have G:=gK f.o;obtain⟨g,z,I,N,W,T,O⟩:∃g z,P=yB g/\w.1.size<=g/\nB wr g z 181/\vP wr g 0 d/\d.length<=u:=by
    obtain⟨_,hl⟩|⟨g,n,z,s,N,hg,U,_⟩:=f.o.2;omega;simp only[Value.slice.injEq]at s;obtain h|⟨Y,Y,Y,t',Y,_,_,hl⟩:=G;rw[h]at J;exact absurd J (by simp);rw[s.1]at Y;simp only[Qa,Addr.mk.injEq,Cc]at Y;obtain⟨rfl,rfl⟩:=Y;exact⟨g,z,s.1,N,hg,hl,by rw[s.2.2];exact U⟩
   have h:cB (Calls prog 268 #[.slice (yB g) d.length u,.func (.func 269) #[] #[]] wr λe D=>
    e=.returned (.tuple #[])/\∃B,B.Perm d/\B.Pairwise Le/\oE D w.1.size (yB g) B/\Below w.1.size wr D):=haveI:=aJn;dc g u d wr w.1.size N W T (by omega)
   subst I;clear f G T W;go_wp2_with fail;apply lC h.o;rintro w2 ⟨B,h,hs,W,U⟩;have G:=YM j.o.2.1 (by rw[<-Q.o];exact h) hs;have Y:cB (d.length=(iG [] c).length):=by show _=_;rw[<-G,h.length_eq]
   have I:cB (oE w2 w.1.size (yB g) (iG [] c)):=by rw[<-G];exact W
   have J:cB _:=l.trans U;clear h hs W U G;go_wp2;refine bodyPost_ret (v:=.tuple #[.slice (yB g) d.length u,zA 0,zA 0]) (by simp[results,results221,go_sem]) rfl ⟨yB g,u,?_,?_,?_,J.o⟩
   .rw[j.o.1,Y.o];rfl
   .rw[j.o.1,<-Y.o];exact O
   rw[j.o.1];exact I.o
 .have r:=M S;have j:cB _:=r;have h:(((hI c).1:Int) != 0)=true:=by simp;omega
  clear L M S r;generalize (hI c).1=C at *;generalize (hI c).2=I at *;go_enter func221,ntmps221;go_wp2_with fail;apply lC y.o;intro w1 p;have K:cB _:=p;clear p y;go_wp2;refine bodyPost_ret (v:=.tuple #[.slice none 0 0,zA C,zA I]) (by simp[results,results221,go_sem]) rfl ⟨none,0,?_,?_,?_,K.o⟩
  .rw[j.o];rfl
  .rw[j.o];exact Ia _
  rw[j.o];exact Ca rfl
def pV.tail{f:iB}{r:List iB}(h:pV (f::r)):pV r:=λi j a b=>by
 have:=h (i+1) (j+1) (by omega) (by simp;omega);simpa using this
def pV.head{f:iB}{r:List iB}(h:pV (f::r))(j:Nat)(a:j<r.length):Op.bytesLess f.N.toList r[j].N.toList=true:=by
 have:=h 0 (j+1) (by omega) (by simp;omega);simpa using this
theorem xI:∀{c:List iB}(t:jB),pV c->qY c t (gC t c)
 |[],t,_=>⟨Ia _,λj h=>absurd h (by simp),λj h=>absurd h (by simp)⟩
 |f::r,t,g=>by
  have e:=xI t g.tail;unfold gC;by_cases b:Op.bytesLess f.N.toList t.toList=true
  .rw[Ma b];refine⟨by simp;exact e.1,λj a k=>?_,λj a i=>?_⟩
   .cases j with
    |zero=>exact b
    |succ j=>simpa using e.2.1 j (by simpa using a) (by omega)
   cases j with
   |zero=>omega
   |succ j=>simpa using e.2.2 j (by simpa using a) (by omega)
  rw[Ja b];refine⟨Oa _,λj _ h=>absurd h (by omega),λj a _=>?_⟩;cases j with
  |zero=>simpa using b
  |succ j=>
   have d:j<r.length:=by simpa using a
   show Op.bytesLess r[j].N.toList t.toList=false;rw[Yc];intro h;exact b (rJ _ _ _ (g.head j d) h)
def kO(a:mC)(d:Nat)(b:List iB)(t:jB)(w:World)(j:tB w a b)(c:pV b)(f:b.length<=1048576):
 dF 122 #[.slice a b.length d,.string t] w (.tuple #[zA (gC t b),.bool (dJ b t (gC t b))]):=by
 refine(GH a d b t w j c f).mono ?_;rintro e g ⟨i,k,rfl,h⟩;obtain rfl:=k.uniq (xI t c);exact⟨rfl,h⟩
theorem BR{a:List iB}{t:jB}{i:Nat}(h:dJ a t i=true):∃b:i<a.length,a[i].N=t:=by grind [dJ,toList_inj]
def yC(a:List iB)(t:jB):List iB:=a.filter λf=>!(f.N.toList==t.toList)
def jG:List iB->iB->List iB
 |[],f=>[f]
 |g::r,f=>if Op.bytesLess f.N.toList g.N.toList=true then f::g::r else g::jG r f
def JG{a:List iB}{t:jB}(h:∀j(b:j<a.length),a[j].N≠t):yC a t=a:=by
 unfold yC;rw[Jc];intro f c;obtain⟨j,b,rfl⟩:=Ib c;simp only[Bool.not_eq_true',Ug,ne_eq];exact λe=>h j b (toList_inj e)
theorem aR:∀{a:List iB}{i:Nat}(_:pV a)(g:i<a.length),yC a a[i].N=a.eraseIdx i
 |f::r,0,c,_=>by
  have e:yC (f::r) f.N=yC r f.N:=by simp[yC]
  show yC (f::r) f.N=r;rw[e];exact JG λj h e=>by
   have:=c.head j h;rw[e,yE]at this;exact absurd this (by simp)
 |f::r,i+1,c,g=>by
  have b:i<r.length:=by simpa using g
  have k:=aR c.tail b;have d:(f.N.toList==(r[i]).N.toList)=false:=by
   rw[Ug];intro e;have:=c.head i b;rw[e,yE]at this;exact absurd this (by simp)
  show yC (f::r) r[i].N=f::r.eraseIdx i;rw[<-k];simp[yC,d]
def pV.erase{a:List iB}(h:pV a)(i:Nat):pV (a.eraseIdx i):=by grind [pV]
def JW{a:List iB}{t:jB}(f:pV a)(g:dJ a t (gC t a)=false):∀j(b:j<a.length),a[j].N≠t:=by
 intro j b e;have i:=xI t f;rcases Nat.lt_trichotomy j (gC t a) with h|h|h;have:=i.2.1 j b h;rw[e,yE]at this;exact absurd this (by simp)
 .have:dJ a t j=true:=by simp[dJ,Va b,e]
  rw[<-h,this]at g;exact absurd g (by simp)
 have c:=i.2.2 (gC t a) (by omega) (Ia _);have d:=f (gC t a) j h b;rw[e]at d;rw[d]at c;exact absurd c (by simp)
theorem KD:∀{a:List iB}(f:iB),pV a->(∀j(k:j<a.length),a[j].N≠f.N)->jG a f=kN a (gC f.N a) f
 |[],f,_,_=>rfl
 |g::r,f,i,h=>by
  have l:=KD f i.tail (λj k=>by have:=h (j+1) (by simp;omega);simpa using this);unfold jG gC;by_cases b:Op.bytesLess g.N.toList f.N.toList=true
  .rw[Ja (by rw[eO b];simp),Ma b,l];simp[kN]
  have d:g.N.toList≠f.N.toList:=λe=>h 0 (by simp) (toList_inj e);have c:=lK _ _ (by simpa using b) d;rw[Ma c,Ja b];rfl
theorem aAp{a:List iB}{i:Nat}(b:i<a.length)(f:iB):kN (a.eraseIdx i) i f=a.set i f:=by
 rw[kN,List.eraseIdx_eq_take_drop_succ,List.set_eq_take_append_cons_drop,Ma b];have c:(a.take i).length=i:=by rw[Hb];omega
 rw[List.take_append_of_le_length (by omega),Ra (by omega),List.drop_append_of_le_length (by omega),Ie (by omega),Mb]
theorem aBv{b:List iB}{i:Nat}(c:pV b)(d:i<b.length):gC b[i].N (b.eraseIdx i)=i:=by
 refine(xI _ (c.erase i)).uniq ⟨by rw[Ad,Ma d];omega,λj e a=>?_,λj e f=>?_⟩;rw[List.getElem_eraseIdx,dif_pos a];exact c j i a d;rw[List.getElem_eraseIdx,dif_neg (by omega)];rw[Ad,Ma d]at e;exact eO (c i (j+1) (by omega) (by omega))
def dH(a:List iB)(f:iB):List iB:=jG (yC a f.N) f
def cX{a:List iB}{f:iB}(b:pV a)(d:dJ a f.N (gC f.N a)=false):dH a f=kN a (gC f.N a) f:=by
 have c:=JW b d;unfold dH;rw[JG c];exact KD f b c
theorem JF{a:List iB}{f:iB}{i:Nat}(b:pV a)(d:i<a.length)(c:a[i].N=f.N):dH a f=a.set i f:=by grind [pV,dH,aR,yE,KD,aBv,aAp]
def ie{W w d:World}{B:Nat}{e:TypeId}{a:Nat}{v:Value}{n:Nat}{l:List Value}(h:w.ownsRow B e a v n l)(j:Below B W w)(c:B<=w.1.size)(b:w.grownBy d v.ownBlock):Below B W d:=
 j.trans ((lE.grown (S:=λk=>v.ownBlock=some k) b (λ_ h=>h)).below (λg b=>by
  obtain⟨rfl,_⟩|⟨m,f,i,rfl,o,_⟩:=h.2;simp[Value.ownBlock]at b;simp[Value.ownBlock]at b;omega) c)
def eg(l:List iB)(f:iB)(t:jB):yC (l++[f]) t=yC l t++(if (f.N.toList==t.toList)=true then [] else [f]):=by grind [yC]
def rU(l:List iB)(t:jB):(yC l t).length<=l.length:=Pc _ _
def CY(a:mC)(B:Nat)(c:List iB)(t:jB)(w:World)(H:tB w a c)(I:c.length<=1048576):
 Calls prog 170 #[.slice a c.length B,.string t] w λe K=>∃v,e=.returned v/\K.ownsRow w.1.size 104 3 v (yC c t).length (flat (yC c t))/\uB w K:=by
 have L:cB (tB w a c):=H;clear H;obtain⟨Q,s,C,D,E⟩:=xL;have M:cB _:=s;clear s;go_enter func170,ntmps170;go_wp2;go_loopw [5,7,11] (λo _ i wr=>∃(j:Nat)(m:mC)(n p:Nat),j<=c.length/\i=zA j/\o=.slice m n p/\n=(yC (c.take j) t).length/\wr.ownsRow w.1.size 104 3 (.slice m n p) n (flat (yC (c.take j) t))/\uB w wr) (λ_ _ i _=>c.length-(intOf i).toNat)
 case atStart=>exact⟨0,_,0,0,Oa _,rfl,rfl,rfl,⟨rfl,La ⟨w.1.size,0,#[],rfl,Ia _,heap_alloc_new _ _,Ia _,Oa _,rfl,rfl⟩⟩,zB⟩
 case round=>
  obtain⟨j,m,n,p,W,rfl,rfl,r,k,d⟩:=hrel;have u:cB (wr.ownsRow w.1.size 104 3 (.slice m n p) n (flat (yC (c.take j) t))):=k;have y:cB _:=r;have P:n<=1048576:=by have:=rU (c.take j) t;rw[Hb]at this;omega
  clear k r;by_cases q:j<c.length
  .obtain ⟨b,o,rfl,V,R,S,T⟩:=(L.o.z d).at q;have z:cB (yC (c.take (j+1)) t=yC (c.take j) t++(if (c[j].N.toList==t.toList)=true then [] else [c[j]])):=by
    show _=_;rw[Pa q,eg]
   by_cases x:(c[j].N.toList==t.toList)=true
   .have f:cB (yC (c.take (j+1)) t=yC (c.take j) t):=by show _=_;rw[z.o,Ma x];simp
    go_wp2;exact⟨⟨j+1,m,n,p,by omega,by go_num,rfl,by rw[f.o];exact y.o,by rw[f.o];exact hC u.o zB,vB d zB⟩,by simp[intOf];omega⟩
   have O:(c[j].N.toList==t.toList)=false:=by simpa using x
   have f:cB (yC (c.take (j+1)) t=yC (c.take j) t++[c[j]]):=by show _=_;rw[z.o,Ja x]
   have A:cB (uB wr ((wr.alloc (.cells #[.string c[j].N,.string c[j].data,zA c[j].Y] 104)).alloc (.cells #[.string c[j].N,.string c[j].data,zA c[j].Y] 104))):=vB zB zB;clear x z;go_wp2_with(at_builtin;refine wpList_append_lies _ rfl _ _ _ rfl w.1.size 104 Q _ 3 40 underlying33 M.o C D E rfl (by omega) (.slice m n p) n (flat (yC (c.take j) t)) rfl (by exact hC u.o A.o) (dB (wr.1.size+1) 0) 1 1 [.string c[j].N,.string c[j].data,zA c[j].Y] rfl rfl (by exact XN _ _ #[.string c[j].N,.string c[j].data,zA c[j].Y] _) (by simp[Value.oneCell']) (by omega) (by simp[maxLen];omega) (by omega) (by have:=d.size;simp;omega) (wr.1.size+1+1) (by simp) ?_;intro U F X l g G J);refine⟨⟨j+1,_,n+1,_,by omega,by go_num,rfl,by rw[f.o,Kb,<-y.o];rfl,?_,?_⟩,by simp[intOf];omega⟩
   .rw[f.o,flat_append,zZ];exact l
   exact ie (hC u.o A.o) (vB d A.o) (by have:=d.size;simp;omega) g
  .go_wp2;go_ret;have N:j=c.length:=by omega
   have h:=u.o;have r:=y.o;rw[N,Rb]at h r;subst r;exact⟨_,rfl,h,d⟩
def gV:∀{l:List iB}{f:iB}(r:List iB),(l.any λg=>Op.bytesLess f.N.toList g.N.toList)=true->jG (l++r) f=jG l f++r
 |[],_,_,h=>by simp at h
 |g::l,f,r,h=>by
  show jG (g::(l++r)) f=_;unfold jG;by_cases a:Op.bytesLess f.N.toList g.N.toList=true
  .rw[Ma a,Ma a];rfl
  rw[Ja a,Ja a,gV r (by simpa[a]using h)];rfl
def aS:∀{l:List iB}{f:iB}(r:List iB),(l.any λg=>Op.bytesLess f.N.toList g.N.toList)=false->jG (l++r) f=l++jG r f
 |[],_,_,_=>rfl
 |g::l,f,r,h=>by
  simp only[List.any_cons,Bool.or_eq_false_iff]at h;show jG (g::(l++r)) f=_;rw[jG,Ja (by rw[h.1];simp),aS r h.2];rfl
def nH(a:List iB)(f:iB)(j:Nat):Bool:=(a.take j).any λg=>Op.bytesLess f.N.toList g.N.toList
def gM(a:List iB)(f:iB)(j:Nat):List iB:=if nH a f j=true then jG (a.take j) f else a.take j
def zM{a:List iB}{f:iB}{j:Nat}(h:j<a.length):nH a f (j+1)=(nH a f j||Op.bytesLess f.N.toList a[j].N.toList):=by
 unfold nH;rw[Pa h,Tf];simp only[List.any_cons,List.any_nil,Bool.or_false]
def kz{a:List iB}{f:iB}{j:Nat}(h:j<a.length)(b:nH a f j=true):gM a f (j+1)=gM a f j++[a[j]]:=by
 unfold gM;rw[Ma b,Ma (by rw[zM h,b];rfl),Pa h];exact gV _ b
def aGo{a:List iB}{f:iB}{j:Nat}(h:j<a.length)(c:nH a f j=false)(b:Op.bytesLess f.N.toList a[j].N.toList=true):gM a f (j+1)=gM a f j++[f]++[a[j]]:=by
 have d:nH a f (j+1)=true:=by rw[zM h,b];simp
 have e:gM a f (j+1)=jG (a.take (j+1)) f:=Ma d;have g:gM a f j=a.take j:=Ja (by rw[c];simp);rw[e,g,Pa h,aS _ c];simp[jG,b]
def aGn{a:List iB}{f:iB}{j:Nat}(h:j<a.length)(b:nH a f j=false)(g:Op.bytesLess f.N.toList a[j].N.toList=false):gM a f (j+1)=gM a f j++[a[j]]:=by
 have c:nH a f (j+1)=false:=by rw[zM h,b,g];rfl
 have d:gM a f (j+1)=a.take (j+1):=Ja (by rw[c];simp);have e:gM a f j=a.take j:=Ja (by rw[b];simp);rw[d,e,Pa h]
def aGm{a:List iB}{f:iB}(b:nH a f a.length=false):jG a f=gM a f a.length++[f]:=by
 unfold gM;rw[Ja (by rw[b];simp)];unfold nH at b;rw[Rb]at b |-
 have:=aS (f:=f) [] b;rw[Cd]at this;rw[this];rfl
def aGl{a:List iB}{f:iB}(b:nH a f a.length=true):jG a f=gM a f a.length:=by
 unfold gM;rw[Ma b,Rb]
def kx(b:List iB)(f:iB)(j:Nat):(gM b f j).length<=j+1:=by
 have a:∀(l:List iB),(jG l f).length=l.length+1:=λl=>by
  induction l with
  |nil=>rfl
  |cons g r c=>unfold jG;split<;>simp[c]
 unfold gM;split;rw[a,Hb];omega;rw[Hb];omega
def xF:List jB->jB
 |[]=>ByteArray.empty
 |x::r=>x++xF r
def lG:∀(a b:List jB),xF (a++b)=xF a++xF b
 |[],b=>by simp[xF]
 |x::r,b=>by
  show x++xF (r++b)=x++xF r++xF b;rw[lG r b,Wa]
def aDv(a:List jB):(xF a).data.toList=(a.map (·.data.toList)).flatten:=by
 induction a with
 |nil=>rfl
 |cons x r b=>simp[xF,b]
def jk(a:List jB):Lib.join (a.map (·.data.toList)) ByteArray.empty.data.toList=(xF a).data.toList:=by
 have e:ByteArray.empty.data.toList=[]:=rfl;rw[aDv,e];cases a with
 |nil=>rfl
 |cons x r=>
  rw[Fc,Lib.join_cons,Lib.joinTail];simp;rfl
def aIf(a:List jB):(⟨(Lib.join (a.map (·.data.toList)) ByteArray.empty.data.toList).toArray⟩:jB)=xF a:=by
 rw[jk]
def fG:List jB->Nat
 |[]=>0
 |x::r=>x.size+fG r
def JT:∀(a:List jB),(xF a).size=fG a
 |[]=>rfl
 |x::r=>by rw[xF,Ka,JT r,fG]
def rH:∀(a b:List jB),fG (a++b)=fG a+fG b
 |[],b=>by simp[fG]
 |x::r,b=>by show x.size+fG (r++b)=x.size+fG r+fG b;rw[rH r b];omega
def EE(n:Nat)(w:World):dF 26 #[zA (n:Nat)] w (.string (pB 1 (n:Nat))):=by
 have d:cB (∀W,dF 79 #[zA (n:Nat),zA 1] W (.string (pB 1 (n:Nat)))):=λW=>jI 1 (n:Nat) W (by omega);generalize pB 1 (n:Nat)=N at *;go_enter func26,ntmps26;go_wp2_with fail;apply lC (d.o _);intro f a;have c:cB _:=a;clear a;go_wp2;go_ret;exact⟨rfl,c.o⟩
def uI(g n b:Nat)(a:List jB)(w:World)(p:n=a.length)(i:∀(j:Nat) x,a[j]?=some x->w.cell? (dB g (0+j))=some (.string x))(o:g<w.1.size)(d:a.length<=b)(q:a.length<=1000000000)(k:fG a<=140737488355328):
 dF 160 #[.slice (yB g) n b] w (.string (xF a)):=by
 subst p;have m:cB (dF 225 #[.slice (yB g) a.length b,.string ByteArray.empty] w (.string (xF a))):=by
  have h:=strings_Join g 0 b a ByteArray.empty w i o (by omega) d (by rw[jk,<-Lib.size_eq,JT];exact k);rw[aIf]at h;exact h
 clear i k;generalize xF a=C at *;generalize a.length=n at *;go_enter func160,ntmps160;go_wp2_with fail;apply lC m.o;intro r c;have l:cB _:=c;clear c;go_wp2;go_ret;exact⟨rfl,l.o⟩
def YT{W:World}{x y:jB}{t:TypeId}:∀(j:Nat) z,[x,y][j]?=some z->(W.alloc (.cells #[.string x,.string y] t)).cell? (dB W.1.size (0+j))=some (.string z):=by
 intro j z h;rw[cell_of_row _ W.1.size _ _ _ _ (heap_alloc_new _ _),Ya];match j,h with
 |0,h=>simp at h;simp[h]
 |1,h=>simp at h;simp[h]
 |j+2,h=>simp at h
def sT(s:jB)(w:World)(j:s.size<=1000000000):dF 218 #[.string s] w (.string (aN s)):=by
 have i:cB _:=λW=>EE s.size W;have k:=gB 1 (s.size:Nat);unfold aN;generalize pB 1 (s.size:Nat)=N at *;have g:cB (∀W:World,dF 160 #[.slice (yB W.1.size) 2 2] (W.alloc (.cells #[.string N,.string s] 9)) (.string (N++s))):=λW=>by
  have h:=uI W.1.size 2 2 [N,s] (W.alloc (.cells #[.string N,.string s] 9)) rfl YT (by simp) (by simp) (by simp) (by simp[fG];omega);have e:xF [N,s]=N++s:=by simp[xF]
  rw[e]at h;exact h
 go_enter func218,ntmps218;go_wp2_with fail;apply lC (i.o _);intro l a;have f:cB _:=a;clear a;go_wp2_with fail;apply lC (g.o _);intro m b;have c:cB _:=vB (vB f.o zB) b;clear b;go_wp2;go_ret;exact⟨rfl,c.o⟩
def vL(s:jB)(w:World)(j:s.size<=1000000000):dF 168 #[.string s] w (.string (aG s)):=by
 have i:cB (∀W,dF 79 #[zA (s.size:Nat),zA 2] W (.string (pB 2 (s.size:Nat)))):=λW=>jI 2 (s.size:Nat) W (by omega);have k:=gB 2 (s.size:Nat);unfold aG;generalize pB 2 (s.size:Nat)=N at *;have g:cB (∀W:World,dF 160 #[.slice (yB W.1.size) 2 2] (W.alloc (.cells #[.string N,.string s] 9)) (.string (N++s))):=λW=>by
  have h:=uI W.1.size 2 2 [N,s] (W.alloc (.cells #[.string N,.string s] 9)) rfl YT (by simp) (by simp) (by simp) (by simp[fG];omega);have e:xF [N,s]=N++s:=by simp[xF]
  rw[e]at h;exact h
 go_enter func168,ntmps168;go_wp2_with fail;apply lC (i.o _);intro l a;have f:cB _:=a;clear a;go_wp2_with fail;apply lC (g.o _);intro m b;have d:cB _:=vB (vB f.o zB) b;clear b;go_wp2;go_ret;exact⟨rfl,d.o⟩
def yX:(prog.info? 104).map (λi=>(i.zero,i.size,i.bytes))=some (some (.agg #[.string ByteArray.empty,.string ByteArray.empty,zA 0]),3,40):=by kernel_rfl
structure WI(w wr:World)(C:Nat)(a1:mC)(es:List iB)(f:iB)(av:mC)(n cv:Nat)(xs:List Value):Prop where
 row:wr.ownsRow (w.1.size+1) 104 3 (.slice av n cv) n xs
 ap:∀b o,a1=some (dB b o)→some b≠(Value.slice av n cv).ownBlock∧b<C
 sz:C≤wr.1.size
 fi:tB wr a1 es
 fb:nB wr w.1.size #[.string f.N,.string f.data,zA f.Y] 104
 bel:uB w wr
section
variable {w wr w':World} {C n cv g cap:Nat} {a1 av:mC} {es:List iB} {f:iB} {xs ys:List Value}
theorem WI.z(h:WI w wr C a1 es f av n cv xs)(a:uB wr w'):WI w w' C a1 es f av n cv xs:=⟨hC h.row a,h.ap,Ua h.sz a.size,h.fi.z a,h.fb.z a,vB h.bel a⟩
theorem WI.app(h:WI w wr C a1 es f av n cv xs)(O:cB (w'.ownsRow (w.1.size+1) 104 3 (.slice (yB g) (n+1) cap) (n+1) ys))(T:cB (eB (λi=>w.1.size+1<=i/\(Value.slice av n cv).ownBlock=some i) wr w'))(c:cB ((Value.slice av n cv).ownBlock=some g\/wr.1.size<=g)):WI w w' C a1 es f (yB g) (n+1) cap ys:=by
 have r:=aB h.fb;refine⟨O.o,λb o e=>⟨λk=>?_,(h.ap b o e).2⟩,Ua h.sz T.o.size,?_,T.o.blk h.fb (by omega),h.bel.trans (T.o.below (by omega) λi m e=>by omega)⟩
 .have:=(h.ap b o e).2;have:=h.sz;simp only[Value.ownBlock,Qa]at k;subst k;obtain l|l:=c.o
  .exact (h.ap b o e).1 l.symm
  omega
 obtain d|⟨b,o,rfl,a,d⟩:=h.fi;exact Ca d;have p:=T.o.block b a λe=>(h.ap b o rfl).1 e.2.symm;have q:∀j,w'.cell? (dB b j)=wr.cell? (dB b j):=λj=>World.cell?_of_block p;exact La ⟨b,o,rfl,Bb a T.o.size,λi m=>by simp only[q];exact d i m⟩
end
def qt(a:mC)(cap:Nat)(k:List iB)(f:iB)(w:World)(W:tB w a k)(K:k.length<=1048576):
 Calls prog 169 #[.slice a k.length cap,.agg #[.string f.N,.string f.data,zA f.Y]] w λe w'=>∃v,e=.returned v/\w'.ownsRow w.1.size 104 3 v (dH k f).length (flat (dH k f))/\uB w w':=by
 have h:=bB W;clear W;go_enter func169,ntmps169;go_wp2_with fail;refine(CY a cap k f.N _ ((h.o.z zB).z zB) K).mono ?_;rintro e S ⟨v1,rfl,c,u⟩;obtain⟨a1,T,rfl,q⟩:=mH c;have h:=rU k f.N;have H:cB (dH k f=jG (yC k f.N) f):=rfl;generalize yC k f.N=es at *;have G:cB (WI w S S.1.size a1 es f (yB (w.1.size+1)) 0 0 []):=by
  have h:=nB.z (w:=(w.alloc (.cells #[.string f.N,.string f.data,zA f.Y] 104)).alloc (.cells #[] 104)) (g:=(w.alloc (.cells #[.string f.N,.string f.data,zA f.Y] 104)).1.size) (heap_alloc_new _ _) u;refine⟨⟨rfl,La ⟨w.1.size+1,0,#[],rfl,Ia _,by show nB _ _ _ _;simpa using h,Ia _,Oa _,rfl,rfl⟩⟩,λb o e=>?_,Ia _,q.files,(nB.z (nB.z (g:=w.1.size) (heap_alloc_new w (.cells #[.string f.N,.string f.data,zA f.Y] 104)) iD) zB).z u,vB (vB zB zB) u⟩;have C:=(zH c) b (by rw[e];rfl);have I:=(jP c) b (by rw[e];rfl);simp at C;exact⟨by simp[Value.ownBlock];omega,I⟩
 clear c q u;go_wp2;go_loopw [5,6,8,15] (λo p _ i wr=>∃(j:Nat)(av:mC)(n cv:Nat),j<=es.length/\i=zA j/\o=.slice av n cv/\p=.bool (nH es f j)/\n=(gM es f j).length/\cB (WI w wr S.1.size a1 es f av n cv (flat (gM es f j)))) (λ_ _ _ i _=>es.length-(intOf i).toNat)
 case atStart=>exact⟨0,_,0,0,Oa _,rfl,rfl,rfl,rfl,G.o⟩
 case round=>
  obtain⟨j,av,n,cv,C,rfl,rfl,rfl,X,m⟩:=hrel;have M:=bB X;have C:n<=1048577:=by have:=kx es f j;omega
  have R:=aB m.o.fb;have C:tC wr w.1.size 0 (.string f.N):=m.o.fb.cell 0;have C:tC wr w.1.size 1 (.string f.data):=m.o.fb.cell 1;have C:tC wr w.1.size 2 (zA f.Y):=m.o.fb.cell 2;clear X G;by_cases d:j<es.length
  .obtain ⟨b,o,rfl,hb,c0,c1,c2⟩:=m.o.fi.at d;have t:=bB (m.o.z (wF wr (.cells #[.string es[j].N,.string es[j].data,zA es[j].Y] 104)));have P:cB (nB (wr.alloc (.cells #[.string es[j].N,.string es[j].data,zA es[j].Y] 104)) wr.1.size #[.string es[j].N,.string es[j].data,zA es[j].Y] 104):=heap_alloc_new _ _;have J:w.1.size+1<=(wr.alloc (.cells #[.string es[j].N,.string es[j].data,zA es[j].Y] 104)).1.size:=by simp;omega
   have A:(nH es f j=false/\Op.bytesLess f.N.toList es[j].N.toList=true/\Op.bytesLess es[j].N.toList f.N.toList=false/\(es[j].N.toList==f.N.toList)=false)\/nH es f (j+1)=nH es f j/\gM es f (j+1)=gM es f j++[es[j]]/\(nH es f j=true\/nH es f j=false/\Op.bytesLess f.N.toList es[j].N.toList=false/\(Op.bytesLess es[j].N.toList f.N.toList=true\/(es[j].N.toList==f.N.toList)=true)):=by
    cases l:nH es f j
    .cases r:Op.bytesLess f.N.toList es[j].N.toList
     .refine La ⟨by rw[zM d,l,r];rfl,aGn d l r,La ⟨rfl,rfl,?_⟩⟩;by_cases e:es[j].N.toList=f.N.toList
      .right;simpa using e
      left;exact lK _ _ r (Ne.symm e)
     exact Ca ⟨rfl,rfl,eO r,by rw[Ug];intro e;rw[e,yE]at r;exact absurd r (by simp)⟩
    exact La ⟨by rw[zM d,l];rfl,kz d l,Ca rfl⟩
   obtain⟨l,r,C,C⟩|⟨L,Y,A⟩:=A
   .have F:=bB (aGo d l r);have N:cB (nH es f (j+1)=true):=by show _=_;rw[zM d,r];simp
    go_wp2_with(first
     |(at_builtin;refine kI rfl _ _ rfl underlying33 yX rfl (by omega) (by omega) rfl t.o.row rfl (by simp) (cs:=#[.string f.N,.string f.data,.int .i64 f.Y]) rfl (by simp[Value.oneCell']) (by omega) (by exact J) ?_;intro V y D I B E;have z:=bB (t.o.app I B E);have x:=B.o.blk P.o (λe=>absurd (jP m.o.row _ e.2) (by omega));have C:tC D wr.1.size 0 (.string es[j].N):=x.cell 0;have C:tC D wr.1.size 1 (.string es[j].data):=x.cell 1;have C:tC D wr.1.size 2 (.int .i64 es[j].Y):=x.cell 2;have Q:w.1.size+1<=D.1.size:=aB z.o.fb;clear x)
     |(at_builtin;refine kI rfl _ _ rfl underlying33 yX rfl (by omega) (by omega) rfl z.o.row rfl rfl (cs:=#[.string es[j].N,.string es[j].data,.int .i64 es[j].Y]) rfl (by simp[Value.oneCell']) (by omega) (by exact Q) ?_;intro C U C C G Z))
    refine⟨⟨j+1,_,n+1+1,_,by omega,by go_num,rfl,by rw[N.o],by rw[F.o,Kb,Kb,<-M.o];rfl,?_⟩,by simp[intOf];omega⟩;rw[F.o,flat_append,flat_append,zZ,zZ];exact bB (z.o.app C G Z)
   have F:=bB Y;have N:=bB L;clear Y L;obtain l|⟨l,r,C|C⟩:=A
   all_goals
    rw[l]at N;go_wp2_with(at_builtin;refine kI rfl _ _ rfl underlying33 yX rfl (by omega) (by omega) rfl t.o.row rfl (by simp) (cs:=#[.string es[j].N,.string es[j].data,zA es[j].Y]) rfl (by simp[Value.oneCell']) (by omega) (by exact J) ?_;intro V y D I B E);refine⟨⟨j+1,_,n+1,_,by omega,by go_num,rfl,by rw[N.o],by rw[F.o,Kb,<-M.o];rfl,?_⟩,by simp[intOf];omega⟩;rw[F.o,flat_append,zZ];exact bB (t.o.app I B E)
  have s:cB (j=es.length):=by show _=_;omega
  cases l:nH es f j
  .have O:cB (dH k f=gM es f j++[f]):=by show _=_;rw[H.o,s.o];exact aGm (by rw[<-s.o];exact l)
   go_wp2_with(at_builtin;refine kI rfl _ _ rfl underlying33 yX rfl (by omega) (by omega) rfl m.o.row rfl rfl (cs:=#[.string f.N,.string f.data,zA f.Y]) rfl (by simp[Value.oneCell']) (by omega) (by exact R) ?_;intro V y D I B E);go_ret;rw[O.o,Kb,<-M.o,flat_append,zZ];have h:=m.o.app I B E;exact⟨_,rfl,show World.ownsRow _ w.1.size _ _ _ _ _ from qI h.row (by omega),h.bel⟩
  have O:cB (dH k f=gM es f j):=by show _=_;rw[H.o,s.o];exact aGl (by rw[<-s.o];exact l)
  go_wp2;go_ret;rw[O.o,<-M.o];exact⟨_,rfl,show World.ownsRow _ w.1.size _ _ _ _ _ from qI m.o.row (by omega),m.o.bel⟩
def IP{P:Program}(w:World){t a:TypeId}{e:Array (String×TypeId)}(b:jB)(c:P.underlying t=some (.interface e)):
 (binOp .eql t .nilIface (.iface a (.string b))).run P w=.ok (.bool false) w:=by
 have h:∀d:Nat,(Op.equalIn (d+2) t .nilIface (.iface a (.string b))).run P w=.ok false w:=λd=>by
  simp[Op.equalIn,run_underlying c]
 simp only[binOp];simp[Op.equal,Op.maxDepth,h 9998]
def aMy(b:jB)(w:World):
 rL 72 #[.nilIface,.iface 153 (.string b)] w (.bool false):=by
 have a:(binOp .eql 70 .nilIface (.iface 153 (.string b))).run prog w=.ok (.bool false) w:=IP w b underlying70;go_enter func72,ntmps72;go_wp2;go_ret;exact⟨rfl,rfl⟩
def QO(x:Int)(w:World):rL 319 #[zA x] w (.bool (bC x 1 60000)):=by
 by_cases a:1<=x
 .by_cases b:x<=60000
  .have e:bC x 1 60000=true:=by simp[bC,a,b]
   rw[e];go_enter func319,ntmps319;go_wp2;go_ret;exact⟨rfl,rfl⟩
  have e:bC x 1 60000=false:=by simp[bC,b]
  rw[e];go_enter func319,ntmps319;go_wp2;go_ret;exact⟨rfl,rfl⟩
 have e:bC x 1 60000=false:=by simp[bC,a]
 rw[e];go_enter func319,ntmps319;go_wp2;go_ret;exact⟨rfl,rfl⟩
