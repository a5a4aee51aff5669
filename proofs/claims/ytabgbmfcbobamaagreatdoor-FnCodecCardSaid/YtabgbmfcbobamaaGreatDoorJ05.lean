import Derived.Maps.Ext
import Derived.Sort.KeysCollected
import Derived.Test.YtabgbmfcbobamaaGreatDoorJ02
import Derived.Test.YtabgbmfcbobamaaGreatDoorJ03
import Derived.Deep.DeepCutAuto
import Derived.Deep.CutBlock
set_option maxRecDepth 100000
set_option maxHeartbeats 4000000
namespace Go.Proofs.YtabgbmfcbobamaaGreatDoor
open Go.RowKit Tryz
section
open Go.Maps
def kL (s:ByteArray):Lit:=.string s.data.toList
theorem zW (s:ByteArray):kL s=.string s.toList:=by rw[kL,ByteArray.toList_eq]
theorem aEj {x y:ByteArray} (h:kL x=kL y):x=y:=by
 rw[zW,zW]at h;exact toList_inj (by simpa using h)
theorem EQ:∀x y:List UInt8,bytesBefore x y=Op.bytesLess x y
 |[],[]=>rfl
 |[],_::_=>rfl
 |_::_,[]=>rfl
 |a::x,b::y=>by rw[bytesBefore,Op.bytesLess,EQ x y]
def wH (x y:ByteArray):Bool:=Op.bytesLess x.toList y.toList
theorem pP (x:ByteArray):wH x x=false:=tE _
theorem DC {x y z:ByteArray} (a:wH x y=true) (b:wH y z=true):wH x z=true:=oI _ _ _ a b
theorem tW {x y:ByteArray} (h:wH x y=true):wH y x=false:=qM h
theorem jS {x y:ByteArray} (h:wH x y=false) (a:x≠y):wH y x=true:=gK _ _ h (fun e=>a (toList_inj e))
theorem yK {x y:ByteArray} (h:wH x y=true):x≠y:=fun e=>by rw[e,pP]at h;cases h
theorem OK (x y:ByteArray):(kL x).before (kL y)=wH x y:=by
 rw[zW,zW,wH];exact EQ _ _
theorem gj (x y:ByteArray):(kL x).sameKey (kL y)=(x.toList==y.toList):=by rw[zW,zW];rfl
theorem wC (x y:ByteArray):(x.toList==y.toList)=true ↔ x=y:=by
 rw[Eg];exact⟨toList_inj,fun e=>by rw[e]⟩
theorem dD {x y:ByteArray} (h:x≠y):(x.toList==y.toList)=false:=by
 rw[Yc];exact fun e=>h ((wC x y).1 e)
section
variable {V:Type}
def tR (L:List (ByteArray×V)):Prop:=L.Pairwise (fun p q=>wH p.1 q.1=true)
def lk (L:List (ByteArray×V)) (k:ByteArray):Option V:=(L.find? (fun p=>p.1.toList==k.toList)).map (·.2)
def sO (k:ByteArray) (d:V):List (ByteArray×V)->List (ByteArray×V)
 |[]=>[(k,d)]
 |p::r=>if wH p.1 k=true then p::sO k d r else if p.1.toList==k.toList then(k,d):: r else(k,d):: p::r
def JZ (k:ByteArray) (L:List (ByteArray×V)):List (ByteArray×V):=L.filter (fun p=>!(p.1.toList==k.toList))
theorem aEr (k:ByteArray):lk ([]:List (ByteArray×V)) k=none:=rfl
theorem zJ (p:ByteArray×V) (r:List (ByteArray×V)) (k:ByteArray):lk (p::r) k=if p.1=k then some p.2 else lk r k:=by
 unfold lk;by_cases h:p.1=k
 ·rw[List.find?_cons_of_pos (p:=fun p:ByteArray×V=>p.1.toList==k.toList) (by exact(wC _ _).2 h),Qa h];rfl
 ·rw[List.find?_cons_of_neg (p:=fun p:ByteArray×V=>p.1.toList==k.toList) (by simpa using dD h),Oa h]
theorem fo {L:List (ByteArray×V)} {k:ByteArray} {d:V} (h:lk L k=some d):(k,d) ∈L:=by
 induction L with
 |nil=>cases h
 |cons p r c=>
  rw[zJ]at h;by_cases e:p.1=k
  ·rw[Qa e]at h;obtain⟨a,b⟩:=p;simp only[Pa]at h e;rw[<-h,<-e];exact Pb ..
  ·rw[Oa e]at h;exact Cb _ (c h)
theorem aAp {L:List (ByteArray×V)} {k:ByteArray} (h:lk L k=none):∀p∈L,p.1≠k:=by
 induction L with
 |nil=>intro p b;cases b
 |cons p r c=>
  rw[zJ]at h;by_cases e:p.1=k
  ·rw[Qa e]at h;cases h
  ·rw[Oa e]at h;intro q a;rcases Ab.1 a with rfl|a
   ·exact e
   ·exact c h q a
theorem fp {L:List (ByteArray×V)} {k:ByteArray} (h:∀p∈L,p.1≠k):lk L k=none:=by
 cases hl:lk L k with
 |none=>rfl
 |some d=>exact absurd rfl (h _ (fo hl))
theorem tR.head {p:ByteArray×V} {r:List (ByteArray×V)} (h:tR (p::r)):∀q∈r,wH p.1 q.1=true:=(Dc.1 h).1
theorem tR.tail {p:ByteArray×V} {r:List (ByteArray×V)} (h:tR (p::r)):tR r:=(Dc.1 h).2
theorem PZ {L:List (ByteArray×V)} (a:tR L) {k:ByteArray} {d:V} (h:(k,d) ∈L):lk L k=some d:=by
 induction L with
 |nil=>cases h
 |cons p r b=>
  rw[zJ];rcases Ab.1 h with e|h
  ·rw[<-e,Qa rfl]
  ·have:=a.head _ h;rw[Oa (yK this)];exact b a.tail h
theorem nw {k:ByteArray} {d:V} {L:List (ByteArray×V)} {q:ByteArray×V} (h:q∈sO k d L):q=(k,d)\/q∈L:=by
 induction L with
 |nil=>exact Ca (by simpa[sO]using h)
 |cons p r a=>
  unfold sO at h;split at h
  ·rcases Ab.1 h with rfl|h
   ·exact Ja (Pb ..)
   ·rcases a h with h|h
    ·exact Ca h
    ·exact Ja (Cb _ h)
  ·split at h
   ·rcases Ab.1 h with h|h
    ·exact Ca h
    ·exact Ja (Cb _ h)
   ·rcases Ab.1 h with h|h
    ·exact Ca h
    ·exact Ja h
theorem KK {k:ByteArray} {d:V} {L:List (ByteArray×V)} (h:tR L):tR (sO k d L):=by
 induction L with
 |nil=>exact Xe ..
 |cons p r g=>
  unfold sO;split
  ·rename_i b;refine Dc.2 ⟨fun q a=>?_,g h.tail⟩;rcases nw a with rfl|a
   ·exact b
   ·exact h.head q a
  ·rename_i b;split
   ·rename_i f;rw[wC]at f;refine Dc.2 ⟨fun q a=>?_,h.tail⟩;show wH k q.1=true;rw[<-f];exact h.head q a
   ·rename_i f;have c:=jS (by simpa using b) (fun e=>f ((wC _ _).2 e));refine Dc.2 ⟨fun q a=>?_,h⟩;rcases Ab.1 a with rfl|a
    ·exact c
    ·exact DC c (h.head q a)
theorem ZH {k:ByteArray} {d:V} {L:List (ByteArray×V)} (g:tR L) (a:ByteArray):lk (sO k d L) a=if k=a then some d else lk L a:=by
 induction L with
 |nil=>
  unfold sO;rw[zJ]
 |cons p r h=>
  unfold sO;split
  ·rename_i b;rw[zJ,zJ,h g.tail];by_cases e:p.1=a
   ·rw[Qa e,Qa e,Oa (fun f=>yK b (e.trans f.symm))]
   ·rw[Oa e,Oa e]
  ·split
   ·rename_i c;rw[wC]at c;rw[zJ,zJ];by_cases e:k=a
    ·rw[Qa e,Qa e]
    ·rw[Oa e,Oa e,Oa (by rw[c];exact e)]
   ·rw[zJ]
theorem dZ {k:ByteArray} {L:List (ByteArray×V)} (h:tR L):tR (JZ k L):=Qf _ h
theorem ZG {k:ByteArray} {L:List (ByteArray×V)} (b:ByteArray):lk (JZ k L) b=if k=b then none else lk L b:=by
 induction L with
 |nil=>rw[show JZ k ([]:List (ByteArray×V))=[] from rfl,aEr];simp
 |cons p r c=>
  unfold JZ at c |-
  by_cases e:p.1=k
  ·rw[Uc (by simp[(wC p.1 k).2 e]),c,zJ];by_cases a:k=b
   ·rw[Qa a,Qa a]
   ·rw[Oa a,Oa a,Oa (by rw[e];exact a)]
  ·rw[Mc (by simp[dD e]),zJ,zJ,c];by_cases a:k=b
   ·rw[Qa a,Qa a,Oa (by rw[<-a];exact e)]
   ·rw[Oa a,Oa a]
theorem tR.eq_of_lk {g i:List (ByteArray×V)} (j:tR g) (l:tR i) (h:∀k,lk g k=lk i k):g=i:=by
 refine List.Perm.eq_of_pairwise (le:=fun(p q:ByteArray×V)=>wH p.1 q.1=true) (fun p q f r n m=>by rw[tW n]at m;cases m) j l ?_;have nd:∀{L:List (ByteArray×V)},tR L->L.Nodup:=fun o=>o.imp (fun {a b} c e=>by rw[e,pP]at c;cases c);refine(List.perm_ext_iff_of_nodup (nd j) (nd l)).2 fun p=>?_;constructor
 ·intro f;exact fo (k:=p.1) (d:=p.2) (by rw[<-h];exact PZ j f)
 ·intro f;exact fo (k:=p.1) (d:=p.2) (by rw[h];exact PZ l f)
end
def rH (L:List (ByteArray×DataW Unit)):DataW Unit:=.map (L.map fun p=>(kL p.1,p.2))
theorem go (L:List (ByteArray×DataW Unit)):Maps.size (rH L)=L.length:=by rw[rH,size_eq,Rb]
theorem ow (k:ByteArray) (q:ByteArray×DataW Unit):ChangeMaps.notKey (kL k) (kL q.1,q.2)=!(q.1.toList==k.toList):=by
 show(!(kL q.1).sameKey (kL k))=_;rw[gj]
theorem TD (k:ByteArray) (L:List (ByteArray×DataW Unit)):(L.map fun p=>(kL p.1,p.2)).filter (ChangeMaps.notKey (kL k))=(JZ k L).map fun p=>(kL p.1,p.2):=by
 rw[List.filter_map,JZ];congr 1;apply List.filter_congr;intro q _;exact ow k q
theorem UC (k:ByteArray) (d:DataW Unit) {L:List (ByteArray×DataW Unit)} (g:tR L) (e:lk L k=none):DataW.insert (kL k,d) (L.map fun p=>(kL p.1,p.2))=(sO k d L).map fun p=>(kL p.1,p.2):=by
 induction L with
 |nil=>rfl
 |cons p r i=>
  have b:=aAp e;rw[Lb,DataW.insert,sO];by_cases h:wH p.1 k=true
  ·rw[Oa (by rw[OK,tW h];simp),Qa h,Lb,i g.tail (fp fun q f=>b q (Cb _ f))]
  ·have a:=b p (Pb ..);have c:=jS (by simpa using h) a;rw[Qa (by rw[OK];exact c),Oa h,Oa (by rw[dD a];simp)];rfl
theorem YN (k:ByteArray) (d:DataW Unit) {L:List (ByteArray×DataW Unit)} (a:tR L):sO k d (JZ k L)=sO k d L:=by
 refine tR.eq_of_lk (KK (dZ a)) (KK a) fun b=>?_;rw[ZH (dZ a),ZH a,ZG];by_cases e:k=b
 ·rw[Qa e,Qa e]
 ·rw[Oa e,Oa e,Oa e]
theorem pg (k:ByteArray) (d:DataW Unit) {L:List (ByteArray×DataW Unit)} (a:tR L):(rH L).put (kL k) d=rH (sO k d L):=by
 rw[rH,DataW.put_eq,ChangeMaps.putKey,TD,UC k d (dZ a) (by rw[ZG,Qa rfl]),YN k d a,rH]
end
def okM (a:List UInt8) (c:UInt8):Bool:=(97<=c&&c<=122) ||(48<=c&&c<=57) ||decide (0<=Lib.indexByte a c)
def jU (s:ByteArray) (b:Int) (a:ByteArray):Bool:=decide (1<=s.size) &&decide ((s.size:Int)<=b) &&s.data.toList.all (okM a.data.toList)
theorem nl (mk:ByteArray) (c:UInt8) (w:World):Calls prog 166 #[.string mk,.int .u8 (c.toNat:Int)] w fun e a=>e=.returned (.int .i64 (Lib.indexByte mk.data.toList c))/\a=w:=by
 have:=strings_IndexByte mk (c.toNat:Int) w;simpa using this
theorem yX {s:ByteArray} {f:UInt8->Bool} {k:Nat} (h:k<s.size):(s.data.toList.take (k+1)).all f=((s.data.toList.take k).all f&&f s[k]):=by
 rw[lP s k h];simp
theorem iw {l:List UInt8} {f:UInt8->Bool} {k:Nat} (h:(l.take k).all f=false):l.all f=false:=by
 rw[Yc]at h |-
 intro a;apply h;simp only[Wd]at a |-
 exact fun x b=>a x (Ed b)
theorem oh (c:UInt8):(97<=c&&c<=122)=decide (97<=(c.toNat:Int)/\(c.toNat:Int)<=122):=by rw[Sb];simp[Jf];omega
theorem ue (c:UInt8):(48<=c&&c<=57)=decide (48<=(c.toNat:Int)/\(c.toNat:Int)<=57):=by rw[Sb];simp[Jf];omega
theorem YT (s:ByteArray) (a:Int) (mk:ByteArray) (w:World) (q:s.size<=maxLen):
 Calls prog 161 #[.string s,.int .i64 a,.string mk] w fun e n=>e=.returned (.bool (jU s a mk))/\n=w:=by
 unfold maxLen at q;by_cases r:(s.size:Int)<1
 ·have c:Hid (jU s a mk=false):=by show _=_;simp[jU];omega
  go_enter func161,ntmps161;go_wp2;go_ret;exact⟨jA c.out.symm,rfl⟩
 by_cases t:a<(s.size:Int)
 ·have c:Hid (jU s a mk=false):=by
   show _=_;have:decide ((s.size:Int)<=a)=false:=by simp;omega
   simp[jU,this]
  go_enter func161,ntmps161;go_wp2;go_ret;exact⟨jA c.out.symm,rfl⟩
 have c:Hid (jU s a mk=s.data.toList.all (okM mk.data.toList)):=by
  show _=_;have o:1<=s.size:=by omega
  have p:(s.size:Int)<=a:=by omega
  simp[jU,o,p]
 go_enter func161,ntmps161;go_wp2;go_loop [7,8,20] (fun _ _ i=>∃k:Nat,k<=s.size/\i=.int .i64 k/\(s.data.toList.take k).all (okM mk.data.toList)=true) (fun _ _ i=>s.size-(intOf i).toNat)
 case atStart=>exact⟨0,La _,rfl,by simp⟩
 case round=>
  obtain⟨k,u,rfl,g⟩:=hrel;have d:Hid _:=g;clear g;by_cases j:k<s.size
  ·have b:=yX (f:=okM mk.data.toList) j;rw[d.out,Ce,okM,oh,ue]at b;have l:Hid _:=b;clear b;have m:=fun W=>nl mk s[k] W;generalize Lib.indexByte mk.data.toList s[k]=v at *;have h:Hid _:=m;clear m;go_wp2_with(go_at_call 166;refine(h.out _).mono ?_;rintro e n ⟨rfl,rfl⟩);all_goals first
    |(go_ret
      refine⟨jA ?_,rfl⟩
      rw[c.out]
      refine(iw (k:=k+1) ?_).symm
      rw[l.out]
      simp at *
      omega)
    |(refine⟨⟨k+1,by omega,by go_num,?_⟩,by simp[intOf];omega⟩
      rw[l.out]
      simp at *
      omega)
  ·go_wp2;go_ret;exact⟨jA (by rw[c.out,<-d.out,Ua (by simp;omega)]),rfl⟩
theorem iY (r:Nat) (w:World) (f:r<=1114111):Calls prog 173 #[.int .i32 (r:Nat)] w fun e d=>e=.returned (.bool (ctl r))/\d=w:=by
 by_cases a:r<32
 ·have E:Hid (ctl r=true):=by show _=_;simp[ctl,a]
  go_enter func173,ntmps173;go_wp2;go_ret;exact⟨jA (by rw[E.out]),rfl⟩
 by_cases b:127<=r
 ·by_cases c:r<=159
  ·have E:Hid (ctl r=true):=by show _=_;simp[ctl,b,c]
   go_enter func173,ntmps173;go_wp2;go_ret;exact⟨jA (by rw[E.out];simp;omega),rfl⟩
  ·have E:Hid (ctl r=false):=by show _=_;simp[ctl,a,c]
   go_enter func173,ntmps173;go_wp2;go_ret;exact⟨jA (by rw[E.out];simp;omega),rfl⟩
 ·have E:Hid (ctl r=false):=by show _=_;simp[ctl,a,b]
  go_enter func173,ntmps173;go_wp2;go_ret;exact⟨jA (by rw[E.out];simp;omega),rfl⟩
abbrev xI (w:World):Prop:=Lib.Utf8Tabs 2 3 w
theorem xI.later {w a:World} (h:xI w) (b:Below w.heap.size w a):xI a:=Utf8Tabs_below h b
theorem cu (s:ByteArray) (p:Nat) (w:World) (k:p<s.size) (c:xI w):
 Calls prog 172 #[.string s,.int .i64 (p:Nat)] w fun e b=>e=.returned (.int .i64 ((Utf8.decode s p).2:Nat))/\Below w.heap.size w b:=by
 have j:(s.extract p s.size).size=s.size-p:=by simp
 have e:Lib.decodeGo (s.extract p s.size)=Utf8.decode s p:=by
  rw[Lib.decodeGo,Oa (by omega),OW]
 have d:∀W,xI W->Calls prog 178 #[.string (s.extract p s.size)] W fun e b=>e=.returned (.tuple #[.int .i32 (Utf8.decode s p).1,.int .i64 (Utf8.decode s p).2])/\Below W.heap.size W b:=fun W i=>by
  have:=utf8_DecodeRuneInString (s.extract p s.size) W i;rw[e]at this;exact this
 generalize (Utf8.decode s p).1=R at *;generalize (Utf8.decode s p).2=N at *;have g:Hid _:=d;have h:Hid (xI w):=c;clear d c e j;go_enter func172,ntmps172;go_wp2_with fail;refine(g.out _ h.out).mono ?_;rintro e l ⟨rfl,a⟩;have f:Hid _:=a;clear a;go_wp2;go_ret;exact⟨rfl,f.out⟩
theorem LF {w:World} {g:Nat} {x:Obj} (h:w.heap[g]?=some x):g<w.heap.size:=by
 rcases Rc g w.heap.size with b|a
 ·exact b
 ·rw[Qd a]at h;exact absurd h (by simp)
def nJ (W:World) (B:Nat) (s:ByteArray) (p:Nat):Prop:=W.heap[B]?=some (.stringIter s p)
def xJ (W:World) (B:Nat) (s:ByteArray) (p:Nat):World:={ W with heap:=W.heap.setIfInBounds B (.stringIter s p) }
theorem vt {P:Program} (W:World) (B:Nat) (s:ByteArray) (a:Nat) (c:TypeId) (b:nJ W B s a) (h:a<s.size):
 (Instr.next (.pointer (some ⟨B,0,none⟩)) true c).run P W=.ok (.tuple #[.bool true,.int .i64 a,.int .i32 (Utf8.decode s a).1]) (xJ W B s (a+(Utf8.decode s a).2)):=by
 unfold nJ at b;simp only[Instr.next,getObj,setObj,Sem.run_bind,Sem.run,b,Result.andThen,h,Ee];simp[goInt,xJ]
theorem vu {P:Program} (W:World) (B:Nat) (s:ByteArray) (a:Nat) (c:TypeId) (b:nJ W B s a) (h:¬a<s.size):
 (Instr.next (.pointer (some ⟨B,0,none⟩)) true c).run P W=.ok (.tuple #[.bool false]) W:=by
 unfold nJ at b;simp[Instr.next,getObj,Sem.run,b,h]
theorem nJ.set {W:World} {B:Nat} {s:ByteArray} {p:Nat} (h:nJ W B s p) (q:Nat):nJ (xJ W B s q) B s q:=by
 have:=LF h;unfold nJ xJ;simp[this]
theorem nJ.later {W a:World} {B:Nat} {s:ByteArray} {p:Nat} (h:nJ W B s p) (b:Below W.heap.size W a):nJ a B s p:=(b.block B (LF h)).trans h
theorem NG {w W:World} {B C:Nat} (h:Below C w W) (a:C<=B) (s:ByteArray) (q:Nat):Below C w (xJ W B s q):=
 h.trans ⟨rfl,rfl,rfl,by simp[xJ],fun k b=>by simp only[xJ];rw[Ea (by omega)]⟩
theorem eu {C D:Prop} [Decidable C] [Decidable D] {α:Type} {x y:α} (h:C ↔ D):(if C then x else y)=if D then x else y:=by
 by_cases c:C
 ·rw[Qa c,Qa (h.1 c)]
 ·rw[Oa c,Oa (fun d=>c (h.2 d))]
theorem bK {a b c d:Int} (e:a=c) (f:b=d):Ending.returned (.tuple #[.int .i64 a,.int .i64 b])=.returned (.tuple #[.int .i64 c,.int .i64 d]):=by rw[e,f]
def aR (t:ByteArray) (v:Nat):Nat->Nat
 |0=>v
 |j+1=>aR t v j*64+nB t (j+1) % 64
def yM (t:ByteArray) (n v a:Nat):Nat×Nat:=
 if n<=t.size/\(∀k,k<n->1<=k->nB t k / 64=2)/\a<=aR t v (n-1)/\qy (aR t v (n-1)) then(aR t v (n-1),n) else(0,0)
theorem aGe (t:ByteArray) (h:nB t 0 / 32=6):FQ t=yM t 2 (nB t 0 % 32) 128:=by
 rw[aAi t h,yM];have e:aR t (nB t 0 % 32) (2-1)=nB t 0 % 32*64+nB t 1 % 64:=rfl;rw[e];refine eu ?_;constructor
 ·rintro⟨a,b,c⟩;refine⟨a,fun k _ _=>?_,c,by unfold qy aFa;simp;omega⟩;have:k=1:=by omega
  subst this;exact b
 ·rintro⟨a,b,c,_⟩;exact⟨a,b 1 (by omega) (by omega),c⟩
theorem aGf (t:ByteArray) (h:nB t 0 / 16=14):FQ t=yM t 3 (nB t 0 % 16) 2048:=by
 rw[od t h,yM];have e:aR t (nB t 0 % 16) (3-1)=(nB t 0 % 16*64+nB t 1 % 64)*64+nB t 2 % 64:=rfl;rw[e];refine eu ?_;constructor
 ·rintro⟨b,a,c,d,f⟩;refine⟨b,fun k _ _=>?_,d,f⟩;have:k=1\/k=2:=by omega
  rcases this with rfl|rfl
  ·exact a
  ·exact c
 ·rintro⟨b,a,c,d⟩;exact⟨b,a 1 (by omega) (by omega),a 2 (by omega) (by omega),c,d⟩
theorem aGg (t:ByteArray) (h:nB t 0 / 8=30):FQ t=yM t 4 (nB t 0 % 8) 65536:=by
 rw[vg t h,yM];have e:aR t (nB t 0 % 8) (4-1)=((nB t 0 % 8*64+nB t 1 % 64)*64+nB t 2 % 64)*64+nB t 3 % 64:=rfl;rw[e];refine eu ?_;constructor
 ·rintro⟨b,a,c,d,f,g⟩;refine⟨b,fun k _ _=>?_,f,g⟩;have:k=1\/k=2\/k=3:=by omega
  rcases this with rfl|rfl|rfl
  ·exact a
  ·exact c
  ·exact d
 ·rintro⟨b,a,c,d⟩;exact⟨b,a 1 (by omega) (by omega),a 2 (by omega) (by omega),a 3 (by omega) (by omega),c,d⟩
theorem WR (t:ByteArray) (v:Nat):∀j,aR t v j<(v+1)*64 ^ j
 |0=>by simp[aR]
 |j+1=>by
  have:=WR t v j;rw[aR,Md,<-Nat.mul_assoc];omega
theorem VL (t:ByteArray) (w:World) (Q:0<t.size) (W:t.size<=maxLen):
 Calls prog 160 #[.string t] w fun e Y=>e=.returned (.tuple #[.int .i64 ((FQ t).1:Nat),.int .i64 ((FQ t).2:Nat)])/\Y=w:=by
 unfold maxLen at W;have hU:t[0].toNat<256:=t[0].toNat_lt;have a:Hid _:=kS t 0 Q;by_cases p:t[0].toNat<128
 ·have E:Hid (FQ t=(t[0].toNat,1)):=by show _=_;rw[a.out];exact aAh t (by rw[<-a.out];exact p)
  rw[E.out];go_enter func160,ntmps160;go_wp2;go_ret2;exact⟨rfl,rfl⟩
 have c:(((t[0].toNat:Int) / 32==6)=true/\FQ t=yM t 2 (t[0].toNat % 32) 128)\/((t[0].toNat:Int) / 32==6)=false/\((((t[0].toNat:Int) / 16==14)=true/\FQ t=yM t 3 (t[0].toNat % 16) 2048)\/((t[0].toNat:Int) / 16==14)=false/\((((t[0].toNat:Int) / 8==30)=true/\FQ t=yM t 4 (t[0].toNat % 8) 65536)\/((t[0].toNat:Int) / 8==30)=false/\FQ t=(0,0))):=by
  by_cases z:t[0].toNat / 32=6
  ·exact Ca ⟨by simp;omega,by rw[a.out];exact aGe t (by rw[<-a.out];exact z)⟩
  refine Ja ⟨by simp;omega,?_⟩;by_cases s:t[0].toNat / 16=14
  ·exact Ca ⟨by simp;omega,by rw[a.out];exact aGf t (by rw[<-a.out];exact s)⟩
  refine Ja ⟨by simp;omega,?_⟩;by_cases u:t[0].toNat / 8=30
  ·exact Ca ⟨by simp;omega,by rw[a.out];exact aGg t (by rw[<-a.out];exact u)⟩
  ·exact Ja ⟨by simp;omega,by rw[a.out]at p z s u;exact vh t (by omega) z s u⟩
 have g:=bA c;clear c;go_enter func160,ntmps160;go_upto_block 0 with fail;go_cut [5,6,7] (fun X G sl Z=>∃n v d:Nat,X=.int .i64 n/\G=.int .i64 v/\sl=.int .i64 d/\2<=n/\n<=4/\(v+1)*64 ^ (n-1)<=8388608/\FQ t=yM t n v d/\d<=65536/\Z=w)
 case first=>
  rcases g.out with⟨N,E⟩|⟨N,⟨O,E⟩|⟨O,⟨P,E⟩|⟨P,E⟩⟩⟩
  all_goals
   have E:=bA E;clear g
  ·go_wp2;go_meet;exact⟨2,t[0].toNat % 32,128,rfl,by go_num,rfl,by omega,by omega,by omega,E.out,by omega,rfl⟩
  ·go_wp2;go_meet;exact⟨3,t[0].toNat % 16,2048,rfl,by go_num,rfl,by omega,by omega,by omega,E.out,by omega,rfl⟩
  ·go_wp2;go_meet;exact⟨4,t[0].toNat % 8,65536,rfl,by go_num,rfl,by omega,by omega,by omega,E.out,by omega,rfl⟩
  ·go_wp2;go_ret2;exact⟨bK (by simp[E.out]) (by simp[E.out]),rfl⟩
 clear g;obtain⟨n,v,d,rfl,rfl,rfl,T,U,L,H,S,rfl⟩:=hcut;have E:=bA H;have o:=bA L;clear H L;by_cases hz:t.size<n
 ·have b:Hid (FQ t=(0,0)):=by show _=_;rw[E.out,yM,Oa (fun h=>by have:=h.1;omega)]
  go_wp2;go_ret2;exact⟨bK (by simp[b.out]) (by simp[b.out]),rfl⟩
 go_wp2;go_loop [6,8] (fun G i=>∃j V:Nat,1<=j/\j<=n/\i=.int .i64 j/\G=.int .i64 V/\V<8388608/\Hid (V=aR t v (j-1)/\∀k,k<j->1<=k->nB t k / 64=2)) (fun _ i=>n-(intOf i).toNat)
 case atStart=>exact⟨1,v,by omega,by omega,rfl,rfl,by have p:=o.out;have s:=Nat.le_mul_of_pos_right (v+1) (show 0<64 ^ (n-1) from Fg (by omega));omega,rfl,fun k K h=>absurd h (by omega)⟩
 case round=>
  obtain⟨j,V,B,hj,rfl,rfl,hV,q⟩:=hrel;by_cases F:j<n
  ·have C:j<t.size:=by omega
   have R:t[j].toNat<256:=t[j].toNat_lt;have x:Hid _:=kS t j C;by_cases J:t[j].toNat / 64=2
   ·have A:((t[j].toNat:Int) / 64 != 2)=false:=by simp;omega
    have I:Hid (aR t v j=V*64+t[j].toNat % 64):=by
     show _=_;obtain⟨m,rfl⟩:∃m,j=m+1:=⟨j-1,by omega⟩
     rw[aR,x.out,q.out.1];rfl
    go_wp2;refine⟨⟨j+1,V*64+t[j].toNat % 64,by omega,by omega,by go_num,by go_num,?_,I.out.symm,?_⟩,by simp[intOf];omega⟩
    ·have p:=WR t v j;rw[I.out]at p;have u:(v+1)*64 ^ j<=(v+1)*64 ^ (n-1):=De (Ka _) (Zc (by omega) (by omega));have:=o.out;omega
    ·intro k K D;by_cases e:k=j
     ·subst e;rw[<-x.out];exact J
     ·exact q.out.2 k (by omega) D
   ·have A:((t[j].toNat:Int) / 64 != 2)=true:=by simp;omega
    have b:Hid (FQ t=(0,0)):=by show _=_;rw[E.out,yM,Oa (fun h=>J (by rw[x.out];exact h.2.1 j F B))]
    go_wp2;go_ret2;exact⟨bK (by simp[b.out]) (by simp[b.out]),rfl⟩
  ·have y:Hid (j=n):=by show _=_;omega
   have M:Hid (aR t v (n-1)=V):=by show _=_;rw[<-y.out];exact q.out.1.symm
   have c:(V<d\/¬V<d/\1114111<V\/¬V<d/\¬1114111<V/\xA (V:Int) 55296 57343=true)/\FQ t=(0,0)\/¬V<d/\¬1114111<V/\xA (V:Int) 55296 57343=false/\FQ t=(V,n):=by
    rw[E.out,yM,M.out];by_cases f:V<d
    ·exact Ca ⟨Ca f,Oa (fun h=>by have:=h.2.2.1;omega)⟩
    by_cases l:1114111<V
    ·exact Ca ⟨Ja (Ca ⟨f,l⟩),Oa (fun h=>by have:=(UU h.2.2.2).1;omega)⟩
    by_cases r:55296<=V/\V<=57343
    ·exact Ca ⟨Ja (Ja ⟨f,l,by simp[xA];omega⟩),Oa (fun h=>(UU h.2.2.2).2 r)⟩
    ·exact Ja ⟨f,l,by simp[xA];omega,Qa ⟨by omega,fun k K=>q.out.2 k (by have:=y.out;omega),by omega,aEz ⟨by omega,r⟩⟩⟩
   clear y;rcases c with⟨f|⟨f,l⟩|⟨f,l,r⟩,b⟩|⟨f,l,r,b⟩
   all_goals
    have b:=bA b;go_wp2_with(go_at_call 25;refine(nC (by assumption) _).mono ?_;rintro e w1 ⟨rfl,hw⟩;replace hw:=hw.symm;subst hw);go_ret2;exact⟨bK (by simp[b.out]) (by simp[b.out]),rfl⟩
structure lC where
 kind:Int
 n9:ByteArray
 text:ByteArray
 num:Int
def vY (w:World) (b o:Nat) (a:List lC):Prop:=
 ∀i (h:i<a.length),w.cell? ⟨b,o+i*4,none⟩=some (.int .i64 a[i].kind)/\w.cell? ⟨b,o+i*4+1,none⟩=some (.string a[i].n9)/\w.cell? ⟨b,o+i*4+2,none⟩=some (.string a[i].text)/\w.cell? ⟨b,o+i*4+3,none⟩=some (.int .i64 a[i].num)
def gF (w:World) (a:Option Addr) (c:List lC):Prop:=c=[]\/∃b o,a=some ⟨b,o,none⟩/\b<w.heap.size/\vY w b o c
theorem gF.later {w f:World} {a:Option Addr} {e:List lC} (h:gF w a e) (d:Below w.heap.size w f):gF f a e:=by
 rcases h with h|⟨b,o,rfl,c,h⟩
 ·exact Ca h
 ·refine Ja ⟨b,o,rfl,Ib c d.size,fun i m=>?_⟩;obtain⟨g,j,k,l⟩:=h i m;exact⟨by rw[<-g];exact d.cell c,by rw[<-j];exact d.cell c,by rw[<-k];exact d.cell c,by rw[<-l];exact d.cell c⟩
theorem gF.at {w:World} {a:Option Addr} {c:List lC} (h:gF w a c) {i:Nat} (e:i<c.length):
 ∃b o,a=some ⟨b,o,none⟩/\b<w.heap.size/\w.cell? ⟨b,o+i*4,none⟩=some (.int .i64 c[i].kind)/\w.cell? ⟨b,o+i*4+1,none⟩=some (.string c[i].n9)/\w.cell? ⟨b,o+i*4+2,none⟩=some (.string c[i].text)/\w.cell? ⟨b,o+i*4+3,none⟩=some (.int .i64 c[i].num):=by
 rcases h with rfl|⟨b,o,rfl,d,h⟩
 ·exact absurd e (by simp)
 ·exact⟨b,o,rfl,d,h i e⟩
def dG (w:World) (B:Nat) (a:Option Addr) (c:List lC):Prop:=
 c=[]\/∃g o b t,a=some ⟨g,o,none⟩/\B<=g/\w.heap[g]?=some (.cells b t (0,0))/\vY w g o c
theorem dG.recs {w:World} {B:Nat} {a:Option Addr} {b:List lC} (h:dG w B a b):gF w a b:=by
 rcases h with h|⟨g,o,c,t,rfl,_,d,h⟩
 ·exact Ca h
 ·exact Ja ⟨g,o,rfl,aA d,h⟩
theorem dG.later {w d:World} {B:Nat} {a:Option Addr} {k:List lC} (h:dG w B a k) (e:Below w.heap.size w d):dG d B a k:=by
 rcases h with h|⟨g,o,c,t,rfl,l,f,h⟩
 ·exact Ca h
 ·have b:=aA f;have n:∀j,d.cell? ⟨g,j,none⟩=w.cell? ⟨g,j,none⟩:=fun j=>World.cell?_of_block (e.block g b);exact Ja ⟨g,o,c,t,rfl,l,(e.block g b).trans f,fun i m=>by simp only[n];exact h i m⟩
theorem dG.mono {w:World} {B B':Nat} {a:Option Addr} {d:List lC} (h:dG w B a d) (e:B'<=B):dG w B' a d:=by
 rcases h with h|⟨g,o,b,t,rfl,c,f,h⟩
 ·exact Ca h
 ·exact Ja ⟨g,o,b,t,rfl,Ra e c,f,h⟩
def wY (a:Array Value) (o j:Nat) (f:lC):Prop:=a[o+j*4]?=some (.int .i64 f.kind)/\a[o+j*4+1]?=some (.string f.n9)/\a[o+j*4+2]?=some (.string f.text)/\a[o+j*4+3]?=some (.int .i64 f.num)
theorem wY.set {a:Array Value} {o j:Nat} {f:lC} (h:wY a o j f) {p:Nat} (g:p<o+j*4\/o+j*4+3<p) (v:Value):wY (a.setIfInBounds p v) o j f:=by
 obtain⟨b,c,d,e⟩:=h;refine⟨?_,?_,?_,?_⟩
 ·rw[Ea (by omega)];exact b
 ·rw[Ea (by omega)];exact c
 ·rw[Ea (by omega)];exact d
 ·rw[Ea (by omega)];exact e
theorem LT {w:World} {g o:Nat} {a:Array Value} {t:TypeId} {b:List lC} (h:eA w g a t) (d:∀j (c:j<b.length),wY a o j b[j]):vY w g o b:=by
 intro j c;simp only[h.cell];exact d j c
theorem lQ {w:World} {g o:Nat} {a:Array Value} {t:TypeId} {b:List lC} (h:eA w g a t) (d:vY w g o b):∀j (c:j<b.length),wY a o j b[j]:=by
 intro j c;have:=d j c;simp only[h.cell]at this;exact this
theorem nK {w:World} {B:Nat} {e:TypeId} {a:Option Addr} {k:Nat} {l:List lC}
 (h:w.ownsRow B e 4 (.slice a l.length k) l.length (l.flatMap fun x=>[.int .i64 x.kind,.string x.n9,.string x.text,.int .i64 x.num])):dG w B a l:=by
 rcases h.2 with⟨_,t⟩|⟨g,n,b,o,p,d,_,_,u,m⟩
 ·exact Ca (Qb.1 t)
 ·simp only[Value.slice.injEq]at o;have q:∀(l:List lC) i (c:i<l.length),(l.flatMap fun x=>[Value.int .i64 x.kind,.string x.n9,.string x.text,.int .i64 x.num])[i*4]?=some (.int .i64 l[i].kind)/\(l.flatMap fun x=>[Value.int .i64 x.kind,.string x.n9,.string x.text,.int .i64 x.num])[i*4+1]?=some (.string l[i].n9)/\(l.flatMap fun x=>[Value.int .i64 x.kind,.string x.n9,.string x.text,.int .i64 x.num])[i*4+2]?=some (.string l[i].text)/\(l.flatMap fun x=>[Value.int .i64 x.kind,.string x.n9,.string x.text,.int .i64 x.num])[i*4+3]?=some (.int .i64 l[i].num):=by
   intro l;induction l with
   |nil=>intro i c;exact absurd c (by simp)
   |cons x r v=>
    intro i c;cases i with
    |zero=>simp
    |succ i=>
     have:=v i (by simpa using c);simp only[Sc,Xc,Nb,Ic];refine⟨?_,?_,?_,?_⟩
     ·rw[show(i+1)*4=i*4+1+1+1+1 by omega,Ia,Ia,Ia,Ia];exact this.1
     ·rw[show(i+1)*4+1=i*4+1+1+1+1+1 by omega,Ia,Ia,Ia,Ia];exact this.2.1
     ·rw[show(i+1)*4+2=i*4+2+1+1+1+1 by omega,Ia,Ia,Ia,Ia];exact this.2.2.1
     ·rw[show(i+1)*4+3=i*4+3+1+1+1+1 by omega,Ia,Ia,Ia,Ia];exact this.2.2.2
  refine Ja ⟨g,0,b,e,o.1,p,d,fun i c=>?_⟩;have f:∀j,j<l.length*4->b[j]?=(l.flatMap fun x=>[Value.int .i64 x.kind,.string x.n9,.string x.text,.int .i64 x.num])[j]?:=fun j s=>by
   rw[<-m,Mb s,Zd]
  rw[cell_of_row w g _ b _ _ d,cell_of_row w g _ b _ _ d,cell_of_row w g _ b _ _ d,cell_of_row w g _ b _ _ d,Wa,f _ (by omega),f _ (by omega),f _ (by omega),f _ (by omega)];exact q l i c
def pC:List lC->Nat
 |[]=>0
 |f::r=>f.n9.size+f.text.size+pC r
theorem jQ (a b:List lC):pC (a++b)=pC a+pC b:=by
 induction a with
 |nil=>simp[pC]
 |cons f r c=>simp[pC,c];omega
theorem BR (a:List lC) (k:Nat) (h:k<a.length):pC (a.take (k+1))=pC (a.take k)+(a[k].n9.size+a[k].text.size):=by
 rw[Ma h,jQ];simp[pC]
theorem IC (a:List lC) (k:Nat):pC (a.take k)<=pC a:=by
 have:=jQ (a.take k) (a.drop k);rw[Ya]at this;omega
