import Derived.Test.YtjpeimianeiegaaGreatDoorJ17
import Derived.Test.YtjpeimianeiegaaGreatDoorJ16
set_option maxRecDepth 100000
set_option maxHeartbeats 4000000
namespace Go.Proofs.YtjpeimianeiegaaGreatDoor
open Go.RowKit Tryz
theorem dN.tail {f:dA} {r:List dA} (h:dN (f::r)):dN r:=fun i j a b=>by
 have:=h (i+1) (j+1) (by omega) (by simp;omega);simpa using this
theorem dN.head {f:dA} {r:List dA} (h:dN (f::r)) (j:Nat) (a:j<r.length):Op.bytesLess f.name.toList r[j].name.toList=true:=by
 have:=h 0 (j+1) (by omega) (by simp;omega);simpa using this
theorem kG:∀{c:List dA} (t:ByteArray),dN c->oO c t (mA t c)
 |[],t,_=>⟨Da _,fun j h=>absurd h (by simp),fun j h=>absurd h (by simp)⟩
 |f::r,t,ha=>by
  have e:=kG t ha.tail;unfold mA;by_cases b:Op.bytesLess f.name.toList t.toList=true
  ·rw[Ga b];refine⟨by simp;exact e.1,fun j a i=>?_,fun j a g=>?_⟩
   ·cases j with
    |zero=>exact b
    |succ j=>simpa using e.2.1 j (by simpa using a) (by omega)
   ·cases j with
    |zero=>omega
    |succ j=>simpa using e.2.2 j (by simpa using a) (by omega)
  ·rw[Ca b];refine⟨Ha _,fun j _ h=>absurd h (by omega),fun j a _=>?_⟩;cases j with
   |zero=>simpa using b
   |succ j=>
    have d:j<r.length:=by simpa using a
    show Op.bytesLess r[j].name.toList t.toList=false;rw[Ic];intro h;exact b (dH _ _ _ (ha.head j d) h)
theorem zR (a:Option Addr) (d:Nat) (b:List dA) (t:ByteArray) (w:World) (j:iA w a b) (c:dN b) (f:b.length<=1048576):
 Calls prog 97 #[.slice a b.length d,.string t] w fun e g=>e=.returned (.tuple #[.int .i64 (mA t b),.bool (eF b t (mA t b))])/\Below w.heap.size w g:=by
 refine(uP a d b t w j c f).mono ?_;rintro e g ⟨i,k,rfl,h⟩;obtain rfl:=k.uniq (kG t c);exact⟨rfl,h⟩
theorem CY {a:List dA} {t:ByteArray} {i:Nat} (h:eF a t i=true):∃d:i<a.length,a[i].name=t:=by
 unfold eF at h;split at h
 ·exact absurd h (by simp)
 ·rename_i f c;obtain⟨b,rfl⟩:=Va.1 c;exact⟨b,toList_inj (by simpa using h)⟩
def bC (a:List dA) (t:ByteArray):List dA:=a.filter fun f=>!(f.name.toList==t.toList)
def zE:List dA->dA->List dA
 |[],f=>[f]
 |g::r,f=>if Op.bytesLess f.name.toList g.name.toList=true then f::g::r else g::zE r f
theorem FZ {a:List dA} {t:ByteArray} (h:∀j (b:j<a.length),a[j].name≠t):bC a t=a:=by
 unfold bC;rw[Cc];intro f c;obtain⟨j,b,rfl⟩:=Gb c;simp only[Bool.not_eq_true',Pf,ne_eq];exact fun e=>h j b (toList_inj e)
theorem lT:∀{a:List dA} {i:Nat} (_:dN a) (d:i<a.length),bC a a[i].name=a.eraseIdx i
 |f::r,0,ha,_=>by
  have e:bC (f::r) f.name=bC r f.name:=by simp[bC]
  show bC (f::r) f.name=r;rw[e];exact FZ fun j g e=>by
   have:=ha.head j g;rw[e,rE]at this;exact absurd this (by simp)
 |f::r,i+1,ha,d=>by
  have b:i<r.length:=by simpa using d
  have h:=lT ha.tail b;have c:(f.name.toList==(r[i]).name.toList)=false:=by
   rw[Pf];intro e;have:=ha.head i b;rw[e,rE]at this;exact absurd this (by simp)
  show bC (f::r) r[i].name=f::r.eraseIdx i;rw[<-h];simp[bC,c]
theorem dN.erase {d:List dA} (h:dN d) (i:Nat):dN (d.eraseIdx i):=by
 intro a b e c;have f:b<d.length:=by
  rw[Dc]at c;split at c<;>omega
 rw[He,He];rw[Dc]at c;split<;>split
 ·exact h a b e (by omega)
 ·exact h a (b+1) (by omega) (by split at c<;>omega)
 ·omega
 ·exact h (a+1) (b+1) (by omega) (by split at c<;>omega)
theorem VH {a:List dA} {t:ByteArray} (f:dN a) (g:eF a t (mA t a)=false):∀j (b:j<a.length),a[j].name≠t:=by
 intro j b e;have i:=kG t f;rcases Nat.lt_trichotomy j (mA t a) with h|h|h
 ·have:=i.2.1 j b h;rw[e,rE]at this;exact absurd this (by simp)
 ·have:eF a t j=true:=by simp[eF,Ka b,e]
  rw[<-h,this]at g;exact absurd g (by simp)
 ·have c:=i.2.2 (mA t a) (by omega) (Da _);have d:=f (mA t a) j h b;rw[e]at d;rw[d]at c;exact absurd c (by simp)
theorem IL:∀{a:List dA} (f:dA),dN a->(∀j (h:j<a.length),a[j].name≠f.name)->zE a f=dK a (mA f.name a) f
 |[],f,_,_=>rfl
 |g::r,f,ha,hn=>by
  have i:=IL f ha.tail (fun j h=>by have:=hn (j+1) (by simp;omega);simpa using this);unfold zE mA;by_cases b:Op.bytesLess g.name.toList f.name.toList=true
  ·rw[Ca (by rw[qL b];simp),Ga b,i];simp[dK]
  ·have d:g.name.toList≠f.name.toList:=fun e=>hn 0 (by simp) (toList_inj e);have c:=wJ _ _ (by simpa using b) d;rw[Ga c,Ca b];rfl
theorem aBc {a:List dA} {i:Nat} (b:i<a.length) (f:dA):dK (a.eraseIdx i) i f=a.set i f:=by
 rw[dK,List.eraseIdx_eq_take_drop_succ,List.set_eq_take_append_cons_drop,Ga b];have c:(a.take i).length=i:=by rw[Ta];omega
 rw[List.take_append_of_le_length (by omega),Pa (by omega),List.drop_append_of_le_length (by omega),Ae (by omega),Jb]
theorem aCr {b:List dA} {i:Nat} (c:dN b) (d:i<b.length):mA b[i].name (b.eraseIdx i)=i:=by
 refine(kG _ (c.erase i)).uniq ⟨by rw[Dc,Ga d];omega,fun j e a=>?_,fun j e f=>?_⟩
 ·rw[He,dif_pos a];exact c j i a d
 ·rw[He,dif_neg (by omega)];rw[Dc,Ga d]at e;exact qL (c i (j+1) (by omega) (by omega))
def mG (a:List dA) (f:dA):List dA:=zE (bC a f.name) f
theorem SF {a:List dA} {f:dA} (b:dN a) (d:eF a f.name (mA f.name a)=false):mG a f=dK a (mA f.name a) f:=by
 have c:=VH b d;unfold mG;rw[FZ c];exact IL f b c
theorem SG {a:List dA} {f:dA} {i:Nat} (b:dN a) (c:i<a.length) (d:a[i].name=f.name):mG a f=a.set i f:=by
 unfold mG;rw[<-d,lT b c];have h:∀j (g:j<(a.eraseIdx i).length),(a.eraseIdx i)[j].name≠f.name:=fun j g e=>by
  rw[He]at e;rw[<-d]at e;rw[Dc,Ga c]at g;split at e
  ·have:=b j i (by omega) c;rw[e,rE]at this;exact absurd this (by simp)
  ·have:=b i (j+1) (by omega) (by omega);rw[e,rE]at this;exact absurd this (by simp)
 rw[IL f (b.erase i) h,<-d,aCr b c,aBc c]
structure uR where
 kind:Int
 name:ByteArray
 tq:ByteArray
 data:ByteArray
 size:Int
def dr (a:uR):Bool:=uA a.kind 1 6&&wF a.name&&(decide (a.kind≠5) ||wF a.tq)
def dM (a:List dA) (c:Int) (b:uR):Nat×List dA:=
 let i:=mA b.name a
 if b.kind=1 then(if eF a b.name i=true then(5,a) else if 1000<=a.length then(3,a) else(0,dK a i ⟨b.name,ByteArray.empty,0⟩))
 else match a[i]? with
  |none=>(4,a)
  |some f=>
   if eF a b.name i=false then(4,a)
   else if b.kind=2 then(if c<xA a+b.data.size then(3,a) else(0,a.set i ⟨f.name,f.data++b.data,f.y9⟩))
   else if b.kind=3 then(0,a.set i ⟨f.name,f.data,f.data.size⟩)
   else if b.kind=4 then(if uA b.size 0 f.data.size=true then(0,a.set i ⟨f.name,f.data.extract 0 b.size.toNat,b.size⟩) else(6,a))
   else if b.kind=5 then(0,mG (a.eraseIdx i) ⟨b.tq,f.data,f.y9⟩)
   else(0,a.eraseIdx i)
def dz (w:World) (b:Nat) (a:uR) (t:TypeId):Prop:=lA w b #[.int .i64 a.kind,.string a.name,.string a.tq,.string a.data,.int .i64 a.size] t
theorem dz.cells {w:World} {b:Nat} {a:uR} {t:TypeId} (h:dz w b a t):w.cell? ⟨b,0,none⟩=some (.int .i64 a.kind)/\w.cell? ⟨b,1,none⟩=some (.string a.name)/\w.cell? ⟨b,2,none⟩=some (.string a.tq)/\w.cell? ⟨b,3,none⟩=some (.string a.data)/\w.cell? ⟨b,4,none⟩=some (.int .i64 a.size):=by
 refine⟨?_,?_,?_,?_,?_⟩<;>rw[lA.cell h]<;>rfl
def TD (r:Rd):fA×Rd:=(⟨(yA 2 r).1,zA (gB 8 (yA 2 r).2).1⟩,(gB 8 (yA 2 r).2).2)
theorem au (r:Rd):(TD r).1=⟨(yA 2 r).1,zA (gB 8 (yA 2 r).2).1⟩:=by rw[TD]
theorem qV (r:Rd):(TD r).2=(gB 8 (yA 2 r).2).2:=by rw[TD]
def qF (r:Rd) (k:Nat):List fA×Rd:=MU TD r k
theorem IP (r:Rd) (k:Nat):qF r (k+1)=((qF r k).1++[(TD (qF r k).2).1],(TD (qF r k).2).2):=rfl
theorem lS (r:Rd) (k:Nat):(qF r k).1.length=k:=BH k
def GC (r:Rd):ByteArray×Rd:=yA 1 r
def JE (r:Rd):Nat×Rd:=gB 8 (GC r).2
def LJ (r:Rd):Nat×Rd:=gB 4 (JE r).2
def FU (r:Rd):List fA×Rd:=qF (LJ r).2 (LJ r).1
def LK (r:Rd):Nat×Rd:=gB 4 (FU r).2
def TZ (r:Rd):List fA×Rd:=qF (LK r).2 (LK r).1
def tL (r:Rd):eA×Rd:=(⟨(GC r).1,zA (JE r).1,(FU r).1,(TZ r).1⟩,(TZ r).2)
theorem ox (r:Rd):(tL r).1=⟨(GC r).1,zA (JE r).1,(FU r).1,(TZ r).1⟩:=by rw[tL]
theorem uU (r:Rd):(tL r).2=(TZ r).2:=by rw[tL]
def jJ (r:Rd) (k:Nat):List eA×Rd:=MU tL r k
theorem IQ (r:Rd) (k:Nat):jJ r (k+1)=((jJ r k).1++[(tL (jJ r k).2).1],(tL (jJ r k).2).2):=rfl
theorem vX (r:Rd) (k:Nat):(jJ r k).1.length=k:=BH k
def zj (s:ByteArray):ByteArray×Rd:=wB 4 ⟨s,false⟩
def BO (s:ByteArray):Nat×Rd:=gB 8 (zj s).2
def yV (s:ByteArray):Nat×Rd:=gB 8 (BO s).2
def du (s:ByteArray):Nat×Rd:=gB 4 (yV s).2
def oE (s:ByteArray):List eA×Rd:=jJ (du s).2 (du s).1
theorem QV {r:Rd} (h:r.r9=true):(TD r).2.r9=true:=by
 rw[qV];exact uD (k:=8) (uL (k:=2) h)
theorem sV {r:Rd} {k:Nat} (h:(qF r k).2.r9=true) (m:Nat) (a:k<=m):(qF r m).2.r9=true:=mU (fun _=>QV) h a
theorem KP {r:Rd} (h:r.r9=true) (m:Nat):(qF r m).2.r9=true:=sV (k:=0) h m (Ha _)
theorem aJf {r:Rd} (h:r.r9=true):(GC r).2.r9=true:=by rw[GC];exact uL h
theorem FT {r:Rd} (h:(GC r).2.r9=true):(JE r).2.r9=true:=by rw[JE];exact uD h
theorem DT {r:Rd} (h:(JE r).2.r9=true):(LJ r).2.r9=true:=by rw[LJ];exact uD h
theorem FV {r:Rd} (h:(LJ r).2.r9=true):(FU r).2.r9=true:=by rw[FU];exact KP h _
theorem FC {r:Rd} (h:(FU r).2.r9=true):(LK r).2.r9=true:=by rw[LK];exact uD h
theorem FW {r:Rd} (h:(LK r).2.r9=true):(TZ r).2.r9=true:=by rw[TZ];exact KP h _
theorem JD {r:Rd} (h:r.r9=true):(tL r).2.r9=true:=by
 rw[uU];exact FW (FC (FV (DT (FT (aJf h)))))
theorem tV {r:Rd} {k:Nat} (h:(jJ r k).2.r9=true) (m:Nat) (a:k<=m):(jJ r m).2.r9=true:=mU (fun _=>JD) h a
theorem XP {n:Nat} {r:Rd} (h:(wB n r).2.r9=false):(wB n r).2.rest.size+n=r.rest.size:=by
 unfold wB at *;split at h
 ·simp at h
 ·rename_i a;rw[Ca a];simp;omega
theorem xK {k:Nat} {r:Rd} (h:(gB k r).2.r9=false):(gB k r).2.rest.size+k=r.rest.size:=by
 have e:(gB k r).2=(wB k r).2:=by rw[gB]
 rw[e]at *;exact XP h
theorem nN (k:Nat) (r:Rd):(gB k r).2.rest.size<=r.rest.size:=by
 have e:(gB k r).2=(wB k r).2:=by rw[gB]
 rw[e];exact(eJ k r).2.2
theorem XS {k:Nat} {r:Rd} (h:(yA k r).2.r9=false):(yA k r).2.rest.size+k<=r.rest.size:=by
 rw[yA]at *;have a:(gB k r).2.r9=false:=by
  cases hs:(gB k r).2.r9 with
  |false=>rfl
  |true=>rw[aW hs]at h;exact h
 have b:=xK a;have c:=(eJ (gB k r).1 (gB k r).2).2.2;omega
theorem aLt {r:Rd} (h:(TD r).2.r9=false):(TD r).2.rest.size+10<=r.rest.size:=by
 rw[qV]at *;have a:(yA 2 r).2.r9=false:=by
  cases hs:(yA 2 r).2.r9 with
  |false=>rfl
  |true=>rw[uD (k:=8) hs]at h;exact h
 have b:=xK h;have c:=XS a;omega
theorem aLr (r:Rd):(TD r).2.rest.size<=r.rest.size:=by
 rw[qV];have a:=(kK 2 r).2;have b:=nN 8 (yA 2 r).2;omega
theorem jR (r:Rd) (k:Nat):(qF r k).2.rest.size<=r.rest.size:=xv aLr k
theorem aCu {r:Rd} {k:Nat} (h:(qF r k).2.r9=false):(qF r k).2.rest.size+10*k<=r.rest.size:=mn (fun _=>QV) (fun _=>aLt) h
theorem aIw (r:Rd):(tL r).2.rest.size<=r.rest.size:=by
 rw[uU];have a:(GC r).2.rest.size<=r.rest.size:=by rw[GC];exact(kK 1 r).2
 have b:(JE r).2.rest.size<=(GC r).2.rest.size:=by rw[JE];exact nN 8 _
 have c:(LJ r).2.rest.size<=(JE r).2.rest.size:=by rw[LJ];exact nN 4 _
 have d:(FU r).2.rest.size<=(LJ r).2.rest.size:=by rw[FU];exact jR _ _
 have e:(LK r).2.rest.size<=(FU r).2.rest.size:=by rw[LK];exact nN 4 _
 have f:(TZ r).2.rest.size<=(LK r).2.rest.size:=by rw[TZ];exact jR _ _
 omega
theorem aHu (r:Rd) (k:Nat):(jJ r k).2.rest.size<=r.rest.size:=xv aIw k
theorem aIy {r:Rd} (h:(tL r).2.r9=false):(tL r).2.rest.size+17<=r.rest.size:=by
 rw[uU]at *;have c:∀{a b:Bool},(a=true->b=true)->b=false->a=false:=fun {a b} h c=>by cases a;rfl;rw[h rfl]at c;exact c
 have f:=c FW h;have i:=c FC f;have e:=c FV i;have d:=c DT e;have g:=c FT d;have j:(GC r).2.rest.size+1<=r.rest.size:=by rw[GC]at g |-;exact XS (k:=1) g
 have l:(JE r).2.rest.size+8=(GC r).2.rest.size:=by rw[JE]at d |-;exact xK (k:=8) d
 have m:(LJ r).2.rest.size+4=(JE r).2.rest.size:=by rw[LJ]at e |-;exact xK (k:=4) e
 have n:(FU r).2.rest.size<=(LJ r).2.rest.size:=by rw[FU];exact jR _ _
 have o:(LK r).2.rest.size+4=(FU r).2.rest.size:=by rw[LK]at f |-;exact xK (k:=4) f
 have p:(TZ r).2.rest.size<=(LK r).2.rest.size:=by rw[TZ];exact jR _ _
 omega
theorem sN (r:Rd):jJ r 0=([],r):=rfl
theorem aCw {r:Rd} (k:Nat) (h:(jJ r k).2.r9=false):(jJ r k).2.rest.size+17*k<=r.rest.size:=mn (fun _=>JD) (fun _=>aIy) h
theorem aLs {r:Rd} {x:fA} {q:ByteArray} (h:r.rest=xQ x++q) (d:x.s.size<=65535) (b:GF x.n):TD r=(x,⟨q,r.r9⟩):=by
 have a:yA 2 r=(x.s,⟨aB 8 x.n++q,r.r9⟩):=pQ (by rw[h];apply dP;simp[xQ,nG]) (by omega);have c:gB 8 (yA 2 r).2=(mL (aB 8 x.n).data.toList,⟨q,r.r9⟩):=by rw[a];exact sM (r:=⟨aB 8 x.n++q,r.r9⟩) rfl
 unfold TD;rw[c,a];simp only[pT x.n ⟨b.1,b.2⟩]
theorem aCx {r:Rd} {a:List fA} {q:ByteArray} (h:r.rest=dC a++q) (d:NG a) (c:uZ a) (k:Nat) (b:k<=a.length):qF r k=(a.take k,⟨dC (a.drop k)++q,r.r9⟩):=QW (e:=xQ) (es:=dC) (fun _ _=>rfl) h (fun k b _ _ h=>aLs h (d k b) (c k b)) k b
theorem mq {a:List fA} {q:ByteArray} {b:Bool} (d:NG a) (c:uZ a):qF ⟨dC a++q,b⟩ a.length=(a,⟨q,b⟩):=by
 rw[aCx (r:=⟨dC a++q,b⟩) rfl d c a.length (Da _)];simp[dC]
theorem af {k:Nat} {v:Nat} {q:ByteArray} {b:Bool} (h:v<256 ^ k):gB k ⟨aB k (v:Nat)++q,b⟩=(v,⟨q,b⟩):=by
 have:=sM (k:=k) (r:=⟨aB k (v:Nat)++q,b⟩) (v:=(v:Nat)) rfl;rw[this,aO k _ h]
theorem aIx {r:Rd} {t:eA} {q:ByteArray} (h:r.rest=lH t++q) (a:sH t) (e:GF t.l9) (j:uZ t.m9) (l:uZ t.s9) (m:t.m9.length<4294967296) (n:t.s9.length<4294967296):tL r=(t,⟨q,r.r9⟩):=by
 have b:GC r=(t.name,⟨aB 8 t.l9++(aB 4 (t.m9.length:Nat)++(dC t.m9++(aB 4 (t.s9.length:Nat)++(dC t.s9++q)))),r.r9⟩):=
  pQ (by rw[h];apply dP;simp[lH,MX,xV]) (by have:=a.1;omega)
 have c:JE r=(mL (aB 8 t.l9).data.toList,⟨aB 4 (t.m9.length:Nat)++(dC t.m9++(aB 4 (t.s9.length:Nat)++(dC t.s9++q))),r.r9⟩):=by
  unfold JE;rw[b];exact sM (k:=8) (r:=⟨_,_⟩) rfl
 have f:LJ r=(t.m9.length,⟨dC t.m9++(aB 4 (t.s9.length:Nat)++(dC t.s9++q)),r.r9⟩):=by
  unfold LJ;rw[c];exact af (by omega)
 have d:FU r=(t.m9,⟨aB 4 (t.s9.length:Nat)++(dC t.s9++q),r.r9⟩):=by
  unfold FU;rw[f];exact mq a.2.1 j
 have g:LK r=(t.s9.length,⟨dC t.s9++q,r.r9⟩):=by
  unfold LK;rw[d];exact af (by omega)
 have i:TZ r=(t.s9,⟨q,r.r9⟩):=by
  unfold TZ;rw[g];exact mq a.2.2 l
 unfold tL;rw[b,c,d,i];simp only[pT t.l9 ⟨e.1,e.2⟩]
theorem aCy {r:Rd} {a:List eA} {q:ByteArray} (h:r.rest=aC a++q) (f:∀i (h:i<a.length),sH a[i]) (c:yz a) (d:∀i (h:i<a.length),a[i].m9.length<4294967296/\a[i].s9.length<4294967296) (k:Nat) (b:k<=a.length):jJ r k=(a.take k,⟨aC (a.drop k)++q,r.r9⟩):=QW (e:=lH) (es:=aC) (fun _ _=>rfl) h (fun k b _ _ h=>aIx h (f k b) (c k b).1 (c k b).2.1 (c k b).2.2 (d k b).1 (d k b).2) k b
theorem aIo {b a:Int} {c:List eA} (d:FI b c) (hw:GF a) (o:yz c) (p:c.length<4294967296) (m:∀i (h:i<c.length),c[i].m9.length<4294967296/\c[i].s9.length<4294967296):
 zA (BO (yI b a c)).1=b/\zA (yV (yI b a c)).1=a/\(du (yI b a c)).1=c.length/\(oE (yI b a c)).1=c/\(oE (yI b a c)).2.r9=false:=by
 have l:zj (yI b a c)=(ckB,⟨aB 8 b++(aB 8 a++(aB 4 (c.length:Nat)++(aC c++aB 4 (kH (pI b a c):Nat)))),false⟩):=
  sU (n:=4) (r:=⟨yI b a c,false⟩) (by show yI b a c=_;rw[MV d];apply dP;simp[pI,MW]) rfl
 have f:BO (yI b a c)=(mL (aB 8 b).data.toList,⟨aB 8 a++(aB 4 (c.length:Nat)++(aC c++aB 4 (kH (pI b a c):Nat))),false⟩):=by
  unfold BO;rw[l];exact sM (k:=8) (r:=⟨_,_⟩) rfl
 have g:yV (yI b a c)=(mL (aB 8 a).data.toList,⟨aB 4 (c.length:Nat)++(aC c++aB 4 (kH (pI b a c):Nat)),false⟩):=by
  unfold yV;rw[f];exact sM (k:=8) (r:=⟨_,_⟩) rfl
 have e:du (yI b a c)=(c.length,⟨aC c++aB 4 (kH (pI b a c):Nat),false⟩):=by
  unfold du;rw[g];exact af (by omega)
 have j:=aCy (r:=⟨aC c++aB 4 (kH (pI b a c):Nat),false⟩) rfl d.2.2 o m c.length (Da _);refine⟨by rw[f];exact pT b ⟨by have:=d.1;omega,by have:=d.2.1;omega⟩,by rw[g];exact pT a ⟨hw.1,hw.2⟩,by rw[e],?_,?_⟩
 ·unfold oE;rw[e,j];simp
 ·unfold oE;rw[e,j]
def nD (l:List gG) (k:Nat):Nat:=if 2*k+2<l.length/\(hget l (2*k+2)).t<(hget l (2*k+1)).t then 2*k+2 else 2*k+1
theorem oJ (l:List gG) (k:Nat):nD l k=2*k+1\/nD l k=2*k+2:=by
 unfold nD;split
 ·exact Ea rfl
 ·exact Ba rfl
theorem CH {l:List gG} {k i:Nat} (d:0<i) (c:i<l.length) (e:(i-1) / 2=k):nD l k<l.length/\(hget l (nD l k)).t<=(hget l i).t:=by
 have a:i=2*k+1\/i=2*k+2:=by omega
 unfold nD;split
 ·rename_i h;refine⟨h.1,?_⟩;rcases a with rfl|rfl
  ·omega
  ·exact Pd _
 ·rename_i h;refine⟨by omega,?_⟩;rcases a with rfl|rfl
  ·exact Pd _
  ·have:¬(hget l (2*k+2)).t<(hget l (2*k+1)).t:=fun b=>h ⟨c,b⟩;omega
def sZ (l:List gG) (k:Nat):Prop:=(∀i,0<i->i<l.length->(i-1) / 2≠k->(hget l ((i-1) / 2)).t<=(hget l i).t)/\∀i,0<i->i<l.length->(i-1) / 2=k->0<k->(hget l ((k-1) / 2)).t<=(hget l i).t
theorem sZ.done {l:List gG} {k:Nat} (h:sZ l k) (f:¬(nD l k<l.length/\(hget l (nD l k)).t<(hget l k).t)):kJ l:=by
 intro i a b;by_cases e:(i-1) / 2=k
 ·obtain⟨d,g⟩:=CH a b e;rw[e];have:¬(hget l (nD l k)).t<(hget l k).t:=fun c=>f ⟨d,c⟩;omega
 ·exact h.1 i a b e
theorem sZ.step {l:List gG} {k:Nat} (h:sZ l k) (g:nD l k<l.length) (s:(hget l (nD l k)).t<(hget l k).t):sZ (yE l k (nD l k)) (nD l k):=by
 have u:=oJ l k;have b:∀i,0<i->i<l.length->(i-1) / 2=k->(hget l (nD l k)).t<=(hget l i).t:=fun i r d e=>(CH r d e).2;generalize nD l k=c at *;have f:(c-1) / 2=k:=by omega
 have m:k<l.length:=by omega
 refine⟨fun i a d n=>?_,fun i a d o _=>?_⟩
 ·rw[gC]at d;rw[sG m g,sG m g,Ca n];by_cases p:i=c
  ·subst p;rw[Ga rfl,Ga f];omega
  ·rw[Ca p];by_cases j:(i-1) / 2=k
   ·rw[Ga j,Ca (by omega:i≠k)];exact b i a d j
   ·rw[Ca j];by_cases q:i=k
    ·subst q;rw[Ga rfl];exact h.2 c (by omega) g f a
    ·rw[Ca q];exact h.1 i a d j
 ·rw[gC]at d;rw[sG m g,sG m g,f,Ca (by omega:k≠c),Ga rfl,Ca (by omega:i≠c),Ca (by omega:i≠k)];have:=h.1 i a d (by omega);rw[o]at this;exact this
def eL:Nat->List gG->Nat->List gG
 |0,l,_=>l
 |n+1,l,k=>if nD l k<l.length/\(hget l (nD l k)).t<(hget l k).t then eL n (yE l k (nD l k)) (nD l k) else l
theorem FB:∀(n m k:Nat) (l:List gG),l.length-k<=n->l.length-k<=m->eL n l k=eL m l k
 |0,0,_,_,_,_=>rfl
 |0,m+1,k,l,b,_=>by
  have:=oJ l k;rw[eL,eL,Ca fun h=>by omega]
 |n+1,0,k,l,_,a=>by
  have:=oJ l k;rw[eL,eL,Ca fun h=>by omega]
 |n+1,m+1,k,l,b,a=>by
  have c:=oJ l k;rw[eL,eL];by_cases h:nD l k<l.length/\(hget l (nD l k)).t<(hget l k).t
  ·rw[Ga h,Ga h];exact FB n m _ _ (by rw[gC];omega) (by rw[gC];omega)
  ·rw[Ca h,Ca h]
def vM (l:List gG) (k:Nat):List gG:=eL (l.length-k) l k
theorem XL {l:List gG} {k:Nat} (h:nD l k<l.length/\(hget l (nD l k)).t<(hget l k).t):vM l k=vM (yE l k (nD l k)) (nD l k):=by
 have b:=oJ l k;obtain⟨n,a⟩:∃n,l.length-k=n+1:=⟨l.length-k-1,by have:=h.1;omega⟩
 unfold vM;rw[a,eL,Ga h];exact FB _ _ _ _ (by rw[gC];omega) (by rw[gC];omega)
theorem BN {l:List gG} {k:Nat} (h:¬(nD l k<l.length/\(hget l (nD l k)).t<(hget l k).t)):vM l k=l:=by
 unfold vM;cases l.length-k with
 |zero=>rfl
 |succ n=>rw[eL,Ca h]
theorem KW:∀(n k:Nat) (l:List gG),l.length-k<=n->k<=l.length->sZ l k->kJ (vM l k)/\(vM l k).Perm l/\(vM l k).length=l.length
 |0,k,l,f,e,h=>by
  have d:¬(nD l k<l.length/\(hget l (nD l k)).t<(hget l k).t):=fun hh=>by
   have:=oJ l k;have:=hh.1;omega
  rw[BN d];exact⟨h.done d,Kf _,rfl⟩
 |n+1,k,l,f,e,h=>by
  by_cases hh:nD l k<l.length/\(hget l (nD l k)).t<(hget l k).t
  ·have g:=oJ l k;rw[XL hh];obtain⟨a,b,c⟩:=KW n (nD l k) (yE l k (nD l k)) (by rw[gC];have:=hh.1;omega) (by rw[gC];have:=hh.1;omega) (h.step hh.1 hh.2);exact⟨a,b.trans (BS (by have:=hh.1;omega) hh.1),c.trans (gC _ _ _)⟩
  ·rw[BN hh];exact⟨h.done hh,Kf _,rfl⟩
def LO (l:List gG):List gG:=(yE l 0 (l.length-1)).take (l.length-1)
def zM (l:List gG):List gG:=vM (LO l) 0
theorem JQ (l:List gG):(LO l).length=l.length-1:=by simp[LO,gC]
theorem gi {l:List gG} (h:0<l.length) {i:Nat} (a:i<l.length-1):hget (LO l) i=if i=0 then hget l (l.length-1) else hget l i:=by
 have e:hget (LO l) i=hget (yE l 0 (l.length-1)) i:=by simp[LO,hget,List.getD,Eb a]
 rw[e,sG h (by omega),Ca (by omega)]
theorem aKc {l:List gG} (h:kJ l) (c:0<l.length):sZ (LO l) 0:=by
 refine⟨fun i a d b=>?_,fun _ _ _ _ e=>absurd e (Nat.lt_irrefl _)⟩;rw[JQ]at d;rw[gi c d,gi c (by omega),Ca b,Ca (by omega)];exact h i a (by omega)
theorem zy {l:List gG} (h:0<l.length):(hget l 0::LO l).Perm l:=by
 have c:=BS (l:=l) (i:=0) (j:=l.length-1) h (by omega);have d:(yE l 0 (l.length-1)).length=l.length:=gC _ _ _;have a:(yE l 0 (l.length-1)).drop (l.length-1)=[hget l 0]:=by
  have b:l.length-1<(yE l 0 (l.length-1)).length:=by omega
  rw[Ra b,<-DA b,sG h (by omega),Ga rfl,Ae (by omega)]
 have e:LO l++[hget l 0]=yE l 0 (l.length-1):=by rw[<-a];exact Xa _ _
 exact(List.perm_append_singleton (hget l 0) (LO l)).symm.trans (e ▸ c)
theorem qN {l:List gG} (h:kJ l) (d:0<l.length):kJ (zM l)/\(hget l 0::zM l).Perm l/\(zM l).length=l.length-1:=by
 obtain⟨a,b,c⟩:=KW (LO l).length 0 (LO l) (by omega) (Ha _) (aKc h d);exact⟨a,(b.cons _).trans (zy d),c.trans (JQ l)⟩
theorem iq {l:List gG} (h:kJ l):∀(n i:Nat),i<=n->i<l.length->(hget l 0).t<=(hget l i).t
 |0,i,b,_=>by
  obtain rfl:i=0:=by omega
  exact Pd _
 |n+1,i,b,a=>by
  by_cases e:i=0
  ·subst e;exact Pd _
  ·exact Int.le_trans (iq h n ((i-1) / 2) (by omega) (by omega)) (h i (by omega) a)
theorem aPd {l:List gG} (h:kJ l) {x:gG} (b:x∈l):(hget l 0).t<=x.t:=by
 obtain⟨i,a,rfl⟩:=Gb b;have:=iq h i i (Da _) a;rw[DA a]at this;exact this
theorem il {W w d:World} {B:Nat} {e:TypeId} {a:Nat} {v:Value} {n:Nat} {l:List Value} (h:w.ownsRow B e a v n l) (j:Below B W w) (c:B<=w.heap.size) (b:w.grownBy d v.ownBlock):Below B W d:=
 j.trans ((jC.grown (S:=fun k=>v.ownBlock=some k) b (fun _ h=>h)).below (fun g b=>by
  rcases h.2 with⟨rfl,_⟩|⟨m,f,i,rfl,o,_⟩
  ·simp[Value.ownBlock]at b
  ·simp[Value.ownBlock]at b;omega) c)
theorem aGy (W:World) (x:Obj) (cs:Array Value) (t:TypeId):∀j u,cs.toList[j]?=some u->((W.alloc x).alloc (.cells cs t)).cell? ((⟨W.heap.size+1,0,none⟩:Addr).add j)=some u:=
 World.news_of_block (fr:=(0,0)) (by have h:=heap_alloc_new (W.alloc x) (.cells cs t);simpa using h)
theorem df (l:List dA) (f:dA) (t:ByteArray):bC (l++[f]) t=bC l t++(if (f.name.toList==t.toList)=true then [] else [f]):=by
 unfold bC;rw[Ud];by_cases h:(f.name.toList==t.toList)=true
 ·rw[Ga h];simp only[Ce,h];rfl
 ·rw[Ca h];have a:(f.name.toList==t.toList)=false:=by simpa using h
  simp only[Ce,a];rfl
theorem tR (l:List dA) (t:ByteArray):(bC l t).length<=l.length:=Tb _ _
theorem kZ (a:Option Addr) (A:Nat) (c:List dA) (t:ByteArray) (w:World) (G:iA w a c) (H:c.length<=1048576):
 Calls prog 79 #[.slice a c.length A,.string t] w fun e J=>∃v,e=.returned v/\J.ownsRow w.heap.size 98 3 v (bC c t).length (flat (bC c t))/\Below w.heap.size w J:=by
 have K:Hid (iA w a c):=G;clear G;obtain⟨P,s,B,C,D⟩:=tJ;have L:Hid _:=s;clear s;go_enter func79,ntmps79;go_wp2;go_loopw [5,7,11] (fun o _ i wr=>∃(j:Nat) (m:Option Addr) (n p:Nat),j<=c.length/\i=.int .i64 j/\o=.slice m n p/\n=(bC (c.take j) t).length/\wr.ownsRow w.heap.size 98 3 (.slice m n p) n (flat (bC (c.take j) t))/\Below w.heap.size w wr) (fun _ _ i _=>c.length-(intOf i).toNat)
 case atStart=>exact⟨0,_,0,0,Ha _,rfl,rfl,rfl,⟨rfl,Ea ⟨w.heap.size,0,#[],rfl,Da _,heap_alloc_new _ _,Da _,Ha _,rfl,rfl⟩⟩,cA _ _⟩
 case round=>
  obtain⟨j,m,n,p,V,rfl,rfl,r,k,d⟩:=hrel;have u:Hid (wr.ownsRow w.heap.size 98 3 (.slice m n p) n (flat (bC (c.take j) t))):=k;have HN:Hid _:=r;have O:n<=1048576:=by have:=tR (c.take j) t;rw[Ta]at this;omega
  clear k r;by_cases q:j<c.length
  ·obtain⟨b,o,rfl,U,Q,R,S⟩:=(K.out.later d).at q;have y:Hid (bC (c.take (j+1)) t=bC (c.take j) t++(if (c[j].name.toList==t.toList)=true then [] else [c[j]])):=by
    show _=_;rw[La q,df]
   by_cases x:(c[j].name.toList==t.toList)=true
   ·have f:Hid (bC (c.take (j+1)) t=bC (c.take j) t):=by show _=_;rw[y.out,Ga x];simp
    go_wp2;exact⟨⟨j+1,m,n,p,by omega,by go_num,rfl,by rw[f.out];exact HN.out,by rw[f.out];exact cB u.out (cA _ _),pA d (cA _ _)⟩,by simp[intOf];omega⟩
   ·have N:(c[j].name.toList==t.toList)=false:=by simpa using x
    have f:Hid (bC (c.take (j+1)) t=bC (c.take j) t++[c[j]]):=by show _=_;rw[y.out,Ca x]
    have z:Hid (Below wr.heap.size wr ((wr.alloc (.cells #[.string c[j].name,.string c[j].data,.int .i64 c[j].y9] 98)).alloc (.cells #[.string c[j].name,.string c[j].data,.int .i64 c[j].y9] 98))):=pA (cA _ _) (cA _ _);clear x y;go_wp2_with(at_builtin;refine wpList_append_lies _ rfl _ _ _ rfl w.heap.size 98 P _ 3 40 underlying28 L.out B C D rfl (by omega) (.slice m n p) n (flat (bC (c.take j) t)) rfl (by exact cB u.out z.out) ⟨wr.heap.size+1,0,none⟩ 1 1 [.string c[j].name,.string c[j].data,.int .i64 c[j].y9] rfl rfl (by exact aGy _ _ #[.string c[j].name,.string c[j].data,.int .i64 c[j].y9] _) (by simp[Value.oneCell']) (by omega) (by simp[maxLen];omega) (by omega) (by have:=d.size;simp;omega) (wr.heap.size+1+1) (by simp) ?_;intro T E W l g F I);refine⟨⟨j+1,_,n+1,_,by omega,by go_num,rfl,by rw[f.out,Qa,<-HN.out];rfl,?_,?_⟩,by simp[intOf];omega⟩
    ·rw[f.out,uG,eX];exact l
    ·exact il (cB u.out z.out) (pA d z.out) (by have:=d.size;simp;omega) g
  ·go_wp2;go_ret;have M:j=c.length:=by omega
   have h:=u.out;have r:=HN.out;rw[M,Qb]at h r;subst r;exact⟨_,rfl,h,d⟩
theorem jS:∀{l:List dA} {f:dA} (r:List dA),(l.any fun g=>Op.bytesLess f.name.toList g.name.toList)=true->zE (l++r) f=zE l f++r
 |[],_,_,h=>by simp at h
 |g::l,f,r,h=>by
  show zE (g::(l++r)) f=_;unfold zE;by_cases a:Op.bytesLess f.name.toList g.name.toList=true
  ·rw[Ga a,Ga a];rfl
  ·rw[Ca a,Ca a,jS r (by simpa[a]using h)];rfl
theorem gP:∀{l:List dA} {f:dA} (r:List dA),(l.any fun g=>Op.bytesLess f.name.toList g.name.toList)=false->zE (l++r) f=l++zE r f
 |[],_,_,_=>rfl
 |g::l,f,r,h=>by
  simp only[List.any_cons,Bool.or_eq_false_iff]at h;show zE (g::(l++r)) f=_;rw[zE,Ca (by rw[h.1];simp),gP r h.2];rfl
def jF (a:List dA) (f:dA) (j:Nat):Bool:=(a.take j).any fun g=>Op.bytesLess f.name.toList g.name.toList
def xJ (a:List dA) (f:dA) (j:Nat):List dA:=if jF a f j=true then zE (a.take j) f else a.take j
theorem gK {a:List dA} {f:dA} {j:Nat} (h:j<a.length):jF a f (j+1)=(jF a f j||Op.bytesLess f.name.toList a[j].name.toList):=by
 unfold jF;rw[La h,Tf];simp only[List.any_cons,List.any_nil,Bool.or_false]
theorem mf {a:List dA} {f:dA} {j:Nat} (h:j<a.length) (b:jF a f j=true):xJ a f (j+1)=xJ a f j++[a[j]]:=by
 unfold xJ;rw[Ga b,Ga (by rw[gK h,b];rfl),La h];exact jS _ b
theorem aHp {a:List dA} {f:dA} {j:Nat} (h:j<a.length) (c:jF a f j=false) (b:Op.bytesLess f.name.toList a[j].name.toList=true):xJ a f (j+1)=xJ a f j++[f]++[a[j]]:=by
 have d:jF a f (j+1)=true:=by rw[gK h,b];simp
 have e:xJ a f (j+1)=zE (a.take (j+1)) f:=Ga d;have g:xJ a f j=a.take j:=Ca (by rw[c];simp);rw[e,g,La h,gP _ c];simp[zE,b]
theorem aHo {a:List dA} {f:dA} {j:Nat} (h:j<a.length) (b:jF a f j=false) (g:Op.bytesLess f.name.toList a[j].name.toList=false):xJ a f (j+1)=xJ a f j++[a[j]]:=by
 have c:jF a f (j+1)=false:=by rw[gK h,b,g];rfl
 have d:xJ a f (j+1)=a.take (j+1):=Ca (by rw[c];simp);have e:xJ a f j=a.take j:=Ca (by rw[b];simp);rw[d,e,La h]
theorem aHn {a:List dA} {f:dA} (b:jF a f a.length=false):zE a f=xJ a f a.length++[f]:=by
 unfold xJ;rw[Ca (by rw[b];simp)];unfold jF at b;rw[Qb]at b |-
 have:=gP (f:=f) [] b;rw[Dd]at this;rw[this];rfl
theorem aHl {a:List dA} {f:dA} (b:jF a f a.length=true):zE a f=xJ a f a.length:=by
 unfold xJ;rw[Ga b,Qb]
theorem mc (b:List dA) (f:dA) (j:Nat):(xJ b f j).length<=j+1:=by
 have a:∀(l:List dA),(zE l f).length=l.length+1:=fun l=>by
  induction l with
  |nil=>rfl
  |cons g r c=>unfold zE;split<;>simp[c]
 unfold xJ;split
 ·rw[a,Ta];omega
 ·rw[Ta];omega
theorem aDc {w:World} {B:Nat} {e:TypeId} {a:Nat} {v:Value} {n:Nat} {xs:List Value} (h:w.ownsRow B e a v n xs):∀g,v.ownBlock=some g->B<=g:=by
 intro g b;rcases h.2 with⟨rfl,_⟩|⟨i,cap,c,rfl,d,_⟩
 ·simp[Value.ownBlock]at b
 ·simp[Value.ownBlock]at b;subst b;exact d
theorem kV:(prog.info? 98).map (fun i=>(i.zero,i.size,i.bytes))=some (some (.agg #[.string ByteArray.empty,.string ByteArray.empty,.int .i64 0]),3,40):=by kernel_rfl
structure WI (w wr:World) (C:Nat) (a1:Option Addr) (es:List dA) (f:dA) (av:Option Addr) (n cv:Nat) (xs:List Value):Prop where
 row:wr.ownsRow (w.heap.size+1) 98 3 (.slice av n cv) n xs
 ap:∀b o,a1=some ⟨b,o,none⟩→some b≠(Value.slice av n cv).ownBlock∧b<C
 sz:C≤wr.heap.size
 fi:iA wr a1 es
 fb:lA wr w.heap.size #[.string f.name,.string f.data,.int .i64 f.y9] 98
 bel:Below w.heap.size w wr
section
variable {w wr w':World} {C n cv g cap:Nat} {a1 av:Option Addr} {es:List dA} {f:dA} {xs ys:List Value}
theorem WI.later (h:WI w wr C a1 es f av n cv xs) (a:Below wr.heap.size wr w'):WI w w' C a1 es f av n cv xs:=⟨cB h.row a,h.ap,Ma h.sz a.size,h.fi.later a,h.fb.later a,pA h.bel a⟩
theorem WI.app (h:WI w wr C a1 es f av n cv xs) (O:Hid (w'.ownsRow (w.heap.size+1) 98 3 (.slice (some ⟨g,0,none⟩) (n+1) cap) (n+1) ys)) (T:Hid (gA (fun i=>w.heap.size+1<=i/\(Value.slice av n cv).ownBlock=some i) wr w')) (c:Hid ((Value.slice av n cv).ownBlock=some g\/wr.heap.size<=g)):WI w w' C a1 es f (some ⟨g,0,none⟩) (n+1) cap ys:=by
 have r:=aA h.fb;refine⟨O.out,fun b o e=>⟨fun k=>?_,(h.ap b o e).2⟩,Ma h.sz T.out.size,?_,T.out.blk h.fb (by omega),h.bel.trans (T.out.below (by omega) fun i m e=>by omega)⟩
 ·have:=(h.ap b o e).2;have:=h.sz;simp only[Value.ownBlock,Ja]at k;subst k;rcases c.out with l|l
  ·exact(h.ap b o e).1 l.symm
  ·omega
 ·rcases h.fi with d|⟨b,o,rfl,a,d⟩
  ·exact Ba d
  ·have p:=T.out.block b a fun e=>(h.ap b o rfl).1 e.2.symm;have q:∀j,w'.cell? ⟨b,j,none⟩=wr.cell? ⟨b,j,none⟩:=fun j=>World.cell?_of_block p;exact Ea ⟨b,o,rfl,Ab a T.out.size,fun i m=>by simp only[q];exact d i m⟩
end
theorem rp (a:Option Addr) (cap:Nat) (k:List dA) (f:dA) (w:World) (V:iA w a k) (K:k.length<=1048576):
 Calls prog 78 #[.slice a k.length cap,.agg #[.string f.name,.string f.data,.int .i64 f.y9]] w fun e w'=>∃v,e=.returned v/\w'.ownsRow w.heap.size 98 3 v (mG k f).length (flat (mG k f))/\Below w.heap.size w w':=by
 have Z:=bA V;clear V;go_enter func78,ntmps78;go_wp2_with fail;refine(kZ a cap k f.name _ ((Z.out.later (cA _ _)).later (cA _ _)) K).mono ?_;rintro e R ⟨v1,rfl,c,u⟩;obtain⟨a1,S,rfl,q⟩:=fK c;have hes:=tR k f.name;have H:Hid (mG k f=zE (bC k f.name) f):=rfl;generalize bC k f.name=es at *;have G:Hid (WI w R R.heap.size a1 es f (some ⟨w.heap.size+1,0,none⟩) 0 0 []):=by
  have h:=lA.later (w:=(w.alloc (.cells #[.string f.name,.string f.data,.int .i64 f.y9] 98)).alloc (.cells #[] 98)) (g:=(w.alloc (.cells #[.string f.name,.string f.data,.int .i64 f.y9] 98)).heap.size) (heap_alloc_new _ _) u;refine⟨⟨rfl,Ea ⟨w.heap.size+1,0,#[],rfl,Da _,by show lA _ _ _ _;simpa using h,Da _,Ha _,rfl,rfl⟩⟩,fun b o e=>?_,Da _,q.files,(lA.later (lA.later (g:=w.heap.size) (heap_alloc_new w (.cells #[.string f.name,.string f.data,.int .i64 f.y9] 98)) (Below.refl _ _)) (cA _ _)).later u,pA (pA (cA _ _) (cA _ _)) u⟩;have h1:=(aDc c) b (by rw[e];rfl);have h2:=(uM c) b (by rw[e];rfl);simp at h1;exact⟨by simp[Value.ownBlock];omega,h2⟩
 clear c q u;go_wp2;go_loopw [5,6,8,15] (fun o p _ i wr=>∃(j:Nat) (av:Option Addr) (n cv:Nat),j<=es.length/\i=.int .i64 j/\o=.slice av n cv/\p=.bool (jF es f j)/\n=(xJ es f j).length/\Hid (WI w wr R.heap.size a1 es f av n cv (flat (xJ es f j)))) (fun _ _ _ i _=>es.length-(intOf i).toNat)
 case atStart=>exact⟨0,_,0,0,Ha _,rfl,rfl,rfl,rfl,G.out⟩
 case round=>
  obtain⟨j,av,n,cv,hj,rfl,rfl,rfl,W,m⟩:=hrel;have HN:=bA W;have hn2:n<=1048577:=by have:=mc es f j;omega
  have Q:=aA m.out.fb;have x0:wr.cell? ⟨w.heap.size,0,none⟩=some (.string f.name):=m.out.fb.cell 0;have x1:wr.cell? ⟨w.heap.size,1,none⟩=some (.string f.data):=m.out.fb.cell 1;have x2:wr.cell? ⟨w.heap.size,2,none⟩=some (.int .i64 f.y9):=m.out.fb.cell 2;clear W G;by_cases d:j<es.length
  ·obtain⟨b,o,rfl,hb,c0,c1,c2⟩:=m.out.fi.at d;have t:=bA (m.out.later (cA wr (.cells #[.string es[j].name,.string es[j].data,.int .i64 es[j].y9] 98)));have O:Hid (lA (wr.alloc (.cells #[.string es[j].name,.string es[j].data,.int .i64 es[j].y9] 98)) wr.heap.size #[.string es[j].name,.string es[j].data,.int .i64 es[j].y9] 98):=heap_alloc_new _ _;have J:w.heap.size+1<=(wr.alloc (.cells #[.string es[j].name,.string es[j].data,.int .i64 es[j].y9] 98)).heap.size:=by simp;omega
   have A:(jF es f j=false/\Op.bytesLess f.name.toList es[j].name.toList=true/\Op.bytesLess es[j].name.toList f.name.toList=false/\(es[j].name.toList==f.name.toList)=false)\/jF es f (j+1)=jF es f j/\xJ es f (j+1)=xJ es f j++[es[j]]/\(jF es f j=true\/jF es f j=false/\Op.bytesLess f.name.toList es[j].name.toList=false/\(Op.bytesLess es[j].name.toList f.name.toList=true\/(es[j].name.toList==f.name.toList)=true)):=by
    cases l:jF es f j
    ·cases r:Op.bytesLess f.name.toList es[j].name.toList
     ·refine Ea ⟨by rw[gK d,l,r];rfl,aHo d l r,Ea ⟨rfl,rfl,?_⟩⟩;by_cases e:es[j].name.toList=f.name.toList
      ·right;simpa using e
      ·left;exact wJ _ _ r (Ne.symm e)
     ·exact Ba ⟨rfl,rfl,qL r,by rw[Pf];intro e;rw[e,rE]at r;exact absurd r (by simp)⟩
    ·exact Ea ⟨by rw[gK d,l];rfl,mf d l,Ba rfl⟩
   rcases A with⟨l,r,hg1,hg2⟩|⟨L,X,A⟩
   ·have F:=bA (aHp d l r);have M:Hid (jF es f (j+1)=true):=by show _=_;rw[gK d,r];simp
    go_wp2_with(first
     |(at_builtin;refine gL rfl _ _ rfl underlying28 kV rfl (by omega) (by omega) rfl t.out.row rfl (by simp) (cs:=#[.string f.name,.string f.data,.int .i64 f.y9]) rfl (by simp[Value.oneCell']) (by omega) (by exact J) ?_;intro U y D I B E;have z:=bA (t.out.app I B E);have x:=B.out.blk O.out (fun e=>absurd (uM m.out.row _ e.2) (by omega));have k0:D.cell? ⟨wr.heap.size,0,none⟩=some (.string es[j].name):=x.cell 0;have k1:D.cell? ⟨wr.heap.size,1,none⟩=some (.string es[j].data):=x.cell 1;have k2:D.cell? ⟨wr.heap.size,2,none⟩=some (.int .i64 es[j].y9):=x.cell 2;have P:w.heap.size+1<=D.heap.size:=aA z.out.fb;clear x)
     |(at_builtin;refine gL rfl _ _ rfl underlying28 kV rfl (by omega) (by omega) rfl z.out.row rfl rfl (cs:=#[.string es[j].name,.string es[j].data,.int .i64 es[j].y9]) rfl (by simp[Value.oneCell']) (by omega) (by exact P) ?_;intro g6 T w6 O6 T6 Y))
    refine⟨⟨j+1,_,n+1+1,_,by omega,by go_num,rfl,by rw[M.out],by rw[F.out,Qa,Qa,<-HN.out];rfl,?_⟩,by simp[intOf];omega⟩;rw[F.out,uG,uG,eX,eX];exact bA (z.out.app O6 T6 Y)
   have F:=bA X;have M:=bA L;clear X L;rcases A with l|⟨l,r,hg|hg⟩
   all_goals
    rw[l]at M;go_wp2_with(at_builtin;refine gL rfl _ _ rfl underlying28 kV rfl (by omega) (by omega) rfl t.out.row rfl (by simp) (cs:=#[.string es[j].name,.string es[j].data,.int .i64 es[j].y9]) rfl (by simp[Value.oneCell']) (by omega) (by exact J) ?_;intro U y D I B E);refine⟨⟨j+1,_,n+1,_,by omega,by go_num,rfl,by rw[M.out],by rw[F.out,Qa,<-HN.out];rfl,?_⟩,by simp[intOf];omega⟩;rw[F.out,uG,eX];exact bA (t.out.app I B E)
  ·have s:Hid (j=es.length):=by show _=_;omega
   cases l:jF es f j
   ·have N:Hid (mG k f=xJ es f j++[f]):=by show _=_;rw[H.out,s.out];exact aHn (by rw[<-s.out];exact l)
    go_wp2_with(at_builtin;refine gL rfl _ _ rfl underlying28 kV rfl (by omega) (by omega) rfl m.out.row rfl rfl (cs:=#[.string f.name,.string f.data,.int .i64 f.y9]) rfl (by simp[Value.oneCell']) (by omega) (by exact Q) ?_;intro U y D I B E);go_ret;rw[N.out,Qa,<-HN.out,uG,eX];have h:=m.out.app I B E;exact⟨_,rfl,ES (B':=w.heap.size) h.row (by omega),h.bel⟩
   ·have N:Hid (mG k f=xJ es f j):=by show _=_;rw[H.out,s.out];exact aHl (by rw[<-s.out];exact l)
    go_wp2;go_ret;rw[N.out,<-HN.out];exact⟨_,rfl,ES (B':=w.heap.size) m.out.row (by omega),m.out.bel⟩
