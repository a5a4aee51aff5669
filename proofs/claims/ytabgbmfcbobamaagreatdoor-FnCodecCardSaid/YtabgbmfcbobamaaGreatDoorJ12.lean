import Derived.Test.YtabgbmfcbobamaaGreatDoorJ10
import Derived.Test.YtabgbmfcbobamaaGreatDoorJ09
import Derived.Test.YtabgbmfcbobamaaGreatDoorJ11
import Derived.Shelf.Spec.SlicesInsert
import Derived.Lib.AppendZerosOnto
set_option maxRecDepth 100000
set_option maxHeartbeats 2000000
namespace Go.Proofs.YtabgbmfcbobamaaGreatDoor
open Go.RowKit Tryz
def iH (f:Nat->Bool):Nat->Bool
 |0=>true
 |k+1=>iH f k&&f k
theorem lI (f:Nat->Bool) (k:Nat):iH f (k+1)=(iH f k&&f k):=rfl
theorem kM {f:Nat->Bool} {k n:Nat} (h:f k=false) (b:k<n):iH f n=false:=by
 induction n with
 |zero=>omega
 |succ n a=>
  rw[lI];by_cases e:k=n
  ·subst e;rw[h,Jg]
  ·rw[a (by omega),Mg]
theorem uN {f:Nat->Bool} {k n:Nat} (h:iH f n=true) (a:k<n):f k=true:=by
 cases hf:f k with
 |true=>rfl
 |false=>rw[kM hf a]at h;cases h
def okT (c:UInt8):Bool:=(97<=c&&c<=122) ||(48<=c&&c<=57) ||c==45
def yB (s:ByteArray):Bool:=decide (1<=s.size) &&decide (s.size<=32) &&s.data.toList.all okT
def cE (s:ByteArray):Bool:=!s.toList.isEmpty&&decide (dN s=0)
def vD (s:ByteArray):ByteArray:=gI (dE s).1
def eI (s:ByteArray):Bool:=!(vD s).toList.isEmpty
def iE (t:dA):Bool:=t.l9==-1&&t.m9.length==0&&t.s9.length==0
def sI (a:List lA) (i:Nat):Bool:=match i with
 |0=>true
 |j+1=>match a[j]?,a[j+1]? with
  |some p,some q=>wH p.s q.s
  |_,_=>false
def kJ (a:List lA) (i:Nat):Bool:=match a[i]? with
 |some m=>sI a i&&cE m.s&&xA m.n 0 1000000
 |none=>false
def kK (a:List lA):Bool:=iH (kJ a) a.length
def uG (b a:Int) (c:List lA) (i:Nat):Bool:=match c[i]? with
 |some x=>sI c i&&eI x.s&&xA x.n 0 a&&decide (a-x.n<b)
 |none=>false
def uJ (b a:Int) (c:List lA):Bool:=iH (uG b a c) c.length
def lK (a:List dA) (i:Nat):Bool:=match i with
 |0=>true
 |j+1=>match a[j]?,a[j+1]? with
  |some p,some q=>wH p.name q.name
  |_,_=>false
def eO (b a:Int) (t:dA):Bool:=yB t.name&&xA t.l9 (-1) 1000000&&kK t.m9&&uJ b a t.s9&&!iE t
def xL (b a:Int) (c:List dA) (i:Nat):Bool:=match c[i]? with
 |some t=>lK c i&&eO b a t
 |none=>false
def yL (b a:Int) (c:List dA):Bool:=iH (xL b a c) c.length
def gB (c:vB) (a:Int) (b:List dA):Bool:=jE c&&xA a 0 1000000000000&&decide (b.length<=10000) &&yL c.w a b
theorem eQ {a:List lA} {k:Nat} (c:0<k) (b:k<a.length):sI a k=wH (a[k-1]'(by omega)).s a[k].s:=by
 obtain⟨j,rfl⟩:∃j,k=j+1:=⟨k-1,by omega⟩
 simp[sI,Va (show j<a.length by omega),Va b]
theorem qS {a:List dA} {k:Nat} (c:0<k) (b:k<a.length):lK a k=wH (a[k-1]'(by omega)).name a[k].name:=by
 obtain⟨j,rfl⟩:∃j,k=j+1:=⟨k-1,by omega⟩
 simp[lK,Va (show j<a.length by omega),Va b]
theorem bW {a:List lA} {k:Nat} (b:k<a.length):kJ a k=(sI a k&&cE a[k].s&&xA a[k].n 0 1000000):=by simp[kJ,Va b]
theorem vS {c a:Int} {b:List lA} {k:Nat} (d:k<b.length):uG c a b k=(sI b k&&eI b[k].s&&xA b[k].n 0 a&&decide (a-b[k].n<c)):=by simp[uG,Va d]
theorem eT {b a:Int} {c:List dA} {k:Nat} (d:k<c.length):xL b a c k=(lK c k&&eO b a c[k]):=by simp[xL,Va d]
theorem kQ {α:Type} {c:α->ByteArray}:∀(l:List α),(∀k (h:k+1<l.length),wH (c (l[k]'(by omega))) (c l[k+1])=true)->jC c l
 |[],_=>Xd
 |[a],_=>Xe ..
 |a::b::r,h=>by
  have f:jC c (b::r):=kQ (b::r) fun k g=>h (k+1) (by simp at g |-;omega);have e:wH (c a) (c b)=true:=h 0 (by simp);refine Dc.2 ⟨fun q d=>?_,f⟩;rcases Ab.1 d with rfl|d
  ·exact e
  ·exact DC e (f.head q d)
theorem py {α:Type} {a:α->ByteArray} {l:List α} (k:Nat) (h:jC a l):jC a (l.take k):=List.Pairwise.sublist (List.take_sublist ..) h
theorem DV {a:List lA} {n:Nat} (h:iH (kJ a) n=true) (d:n<=a.length):jC (·.s) (a.take n):=by
 apply kQ;intro k c;simp only[Hb]at c;have:=uN h (k:=k+1) (by omega);rw[bW (by omega),Sa,Sa]at this;have b:=this.1.1;rw[eQ (by omega) (by omega)]at b;simpa using b
theorem EE {c b:Int} {a:List lA} {n:Nat} (h:iH (uG c b a) n=true) (f:n<=a.length):jC (·.s) (a.take n):=by
 apply kQ;intro k e;simp only[Hb]at e;have:=uN h (k:=k+1) (by omega);rw[vS (by omega),Sa,Sa,Sa]at this;have d:=this.1.1.1;rw[eQ (by omega) (by omega)]at d;simpa using d
theorem qr {c a:Int} {b:List dA} {n:Nat} (h:iH (xL c a b) n=true) (f:n<=b.length):jC (·.name) (b.take n):=by
 apply kQ;intro k e;simp only[Hb]at e;have:=uN h (k:=k+1) (by omega);rw[eT (by omega),Sa]at this;have d:=this.1;rw[qS (by omega) (by omega)]at d;simpa using d
theorem KM {α:Type} {key:α->ByteArray} {l:List α} {k:Nat} (c:k<l.length) (h:jC key (l.take (k+1))):bB key l[k] (l.take k)=l.take (k+1)/\xC key (key l[k]) (l.take k)=none:=by
 rw[Ma c]at h |-
 have b:∀p∈l.take k,wH (key p) (key l[k])=true:=fun p a=>(Re.1 h).2.2 p a _ (Tc.2 rfl);exact⟨nt b,rJ fun p a=>yK (b p a)⟩
theorem FP (s:ByteArray) (w:World) (hs:s.size<=1000000000) (hT:xI w):
 Calls prog 167 #[.string s] w fun e w'=>e=.returned (.int .i64 (dN s:Nat))/\Below w.heap.size w w':=by
 have X:Hid (xI w):=hT;clear hT;have b0:=run_range_string w 9 s underlying9;have G:Hid (nJ (w.iter s 0) w.heap.size s 0/\Below w.heap.size w (w.iter s 0)):=⟨World.iter_heap _ _ _,cA _ _⟩
 generalize w.iter s 0=w0 at *;go_enter func167,ntmps167;go_wp2;clear b0;go_loopw [3,4,5,6] (fun cnt Y _ _ wr=>∃(p:Nat) (a:List Nat) (v:Bool),p<=s.size/\a.length<=p/\Hid (rX s p a/\v=a.any ctl)/\cnt=.int .i64 (a.length:Nat)/\Y=.bool v/\Hid (nJ wr w.heap.size s p/\Below w.heap.size w wr)) (fun _ _ _ _ wr=>s.size-wr.iterPos w.heap.size)
 case atStart=>
  exact⟨0,[],false,La _,Ka _,⟨rX.start s,rfl⟩,rfl,rfl,G.out⟩
 case round=>
  obtain⟨p,a,v,hp,hac,D,rfl,rfl,y⟩:=hrel;have HM:Hid (wr.iterPos w.heap.size=p):=by show _=_;unfold World.iterPos;rw[y.out.1]
  clear G;by_cases j:p<s.size
  ·have B:∀C,(Instr.next (.pointer (some ⟨w.heap.size,0,none⟩)) true C).run prog wr=_:=fun C=>vt wr w.heap.size s p C y.out.1 j;have M:=lT s p;have u:=oV s p;have K:Hid _:=fun W h=>cu s p W j h;have x:Hid _:=FC s p j;have H:Hid _:=fun E=>D.out.1.step j E;have F:Hid _:=fun E=>D.out.1.bad j E;have U:Hid (∀r,(a++[r]).any ctl=(v||ctl r)):=fun r=>by rw[Dg,<-D.out.2];simp
   have J:Hid (nJ (xJ wr w.heap.size s (p+(Utf8.decode s p).2)) w.heap.size s (p+(Utf8.decode s p).2)/\Below w.heap.size w (xJ wr w.heap.size s (p+(Utf8.decode s p).2))):=⟨y.out.1.set _,NG y.out.2 (Ka _) _ _⟩
   obtain⟨R,Q⟩:∃R,(Utf8.decode s p).1=R:=⟨_,rfl⟩
   obtain⟨N,A⟩:∃N,(Utf8.decode s p).2=N:=⟨_,rfl⟩
   have HD:Hid (Utf8.decode s p=(R,N)):=by show _=_;rw[<-Q,<-A]
   rw[Q]at u B;rw[A]at u B M;have o:Hid (∀W,xI W->Calls prog 172 #[.string s,.int .i64 (p:Nat)] W fun e w'=>e=.returned (.int .i64 (N:Nat))/\Below W.heap.size W w'):=by show ∀_,_;rw[<-A];exact K.out
   have n:Hid ((R,N)≠(65533,1)->rX s (p+N) (a++[R])/\p+N<=s.size):=fun h=>by
    have E:Utf8.decode s p≠(65533,1):=by rw[HD.out];exact h
    have z:=H.out E;have h2:=x.out E;rw[Q,A]at z;rw[A]at h2;exact⟨z,h2⟩
   have f:Hid (nJ (xJ wr w.heap.size s (p+N)) w.heap.size s (p+N)/\Below w.heap.size w (xJ wr w.heap.size s (p+N))):=by show _/\_;rw[<-A];exact J.out
   clear K H x J Q A y;obtain⟨O,hr2⟩:=u;generalize xJ wr w.heap.size s (p+N)=P at *;have l:Hid (∀W,(R,N)≠(65533,1)->Below P.heap.size P W->∃(T:Nat) (i:List Nat) (L:Bool),T<=s.size/\i.length<=T/\Hid (rX s T i/\L=i.any ctl)/\Value.int .i64 ((a.length:Int)+1)=.int .i64 (i.length:Nat)/\Value.bool (v||ctl R)=.bool L/\Hid (nJ W w.heap.size s T/\Below w.heap.size w W)):=fun W g S=>
    ⟨p+N,a++[R],v||ctl R,(n.out g).2,(n.out g).1.1,⟨(n.out g).1,(U.out R).symm⟩,by simp,rfl,f.out.1.later S,nA f.out.2 S⟩
   have m:Hid (∀W,(R,N)≠(65533,1)->Below P.heap.size P W->s.size-W.iterPos w.heap.size<s.size-wr.iterPos w.heap.size):=fun W g S=>by
    have z:W.iterPos w.heap.size=p+N:=by unfold World.iterPos;rw[f.out.1.later S]
    rw[z,HM.out];omega
   by_cases hf:R=65533
   ·have Z:((R:Int)==65533)=true:=by simp;omega
    by_cases z:N=1
    ·have a0:((N:Int)==1)=true:=by simp;omega
     have I:Hid _:=F.out (by rw[HD.out,hf,z]);clear l m;go_wp2_with fail;refine(o.out _ (X.out.later f.out.2)).mono ?_;rintro e w2 ⟨rfl,c⟩;have d:Hid _:=nA f.out.2 c;clear c;go_wp2;go_ret;exact⟨zF (by rw[I.out];rfl),d.out⟩
    ·have a0:((N:Int)==1)=false:=by simp;omega
     have g:(R,N)≠(65533,1):=by simp;omega
     have b:Hid ((R,N)≠(65533,1)):=g;clear g hf z;cases v with
     |true=>
      go_wp2_with fail;refine(o.out _ (X.out.later f.out.2)).mono ?_;rintro e w2 ⟨rfl,c⟩;have d:Hid _:=c;clear c;go_wp2;have t:=l.out _ b.out d.out;rw[Bool.true_or]at t;exact⟨t,m.out _ b.out d.out⟩
     |false=>
      go_wp2_with fail;refine(o.out _ (X.out.later f.out.2)).mono ?_;rintro e w2 ⟨rfl,c⟩;have d:Hid _:=c;clear c;go_wp2_with fail;refine(iY R _ O).mono ?_;rintro e w3 ⟨rfl,hw⟩;replace hw:=hw.symm;subst hw;go_wp2;have t:=l.out _ b.out d.out;rw[Bg]at t;exact⟨t,m.out _ b.out d.out⟩
   ·have Z:((R:Int)==65533)=false:=by simp;omega
    have b:Hid ((R,N)≠(65533,1)):=by show _≠_;simp;omega
    cases v with
    |true=>
     go_wp2;have t:=l.out _ b.out (Below.refl _ _);rw[Bool.true_or]at t;exact⟨t,m.out _ b.out (Below.refl _ _)⟩
    |false=>
     go_wp2_with fail;refine(iY R _ O).mono ?_;rintro e w3 ⟨rfl,hw⟩;replace hw:=hw.symm;subst hw;go_wp2;have t:=l.out _ b.out (Below.refl _ _);rw[Bg]at t;exact⟨t,m.out _ b.out (Below.refl _ _)⟩
  ·have B:∀C,(Instr.next (.pointer (some ⟨w.heap.size,0,none⟩)) true C).run prog wr=_:=fun C=>vu wr w.heap.size s p C y.out.1 j;have I:Hid _:=D.out.1.done (by omega);have HC:Hid _:=D.out.2;have V:Hid _:=y.out.2;clear D y HM;by_cases q:128<a.length
   ·have k:Hid (dN s=43):=by show _=_;rw[I.out,SZ,Qa q]
    go_wp2;go_ret;exact⟨zF (by rw[k.out];rfl),V.out⟩
   ·cases v with
    |true=>
     have k:Hid (dN s=44):=by show _=_;rw[I.out,SZ,Oa q,<-HC.out];rfl
     go_wp2;go_ret;exact⟨zF (by rw[k.out];rfl),V.out⟩
    |false=>
     have k:Hid (dN s=0):=by show _=_;rw[I.out,SZ,Oa q,<-HC.out];rfl
     go_wp2;go_ret;exact⟨zF (by rw[k.out];rfl),V.out⟩
def RB (w:World) (B:Nat) (r:Rd):Prop:=eA w B #[.string r.rest,.bool r.r9] 68
theorem ch (B:Nat) (r:Rd) (n:Nat) (w:World) (f:RB w B r) (o:n<=70000) (l:r.rest.size<=1000000000):
 Calls prog 96 #[.pointer (some ⟨B,0,none⟩),.int .i64 (n:Nat)] w fun e i=>e=.returned (.string (uB n r).1)/\RB i B (uB n r).2/\dB B w i:=by
 have g:Hid (RB w B r):=f;have j:=eA.cell f 0;have k:=eA.cell f 1;simp only[Nc,Cc,Ia]at j k;have a:=eA.free f 0;have b:=eA.free f 1;obtain⟨c,d⟩:=r;simp only at j k l;clear f;by_cases h:c.size<n
 ·have E:Hid (uB n ⟨c,d⟩=(ByteArray.empty,⟨c,true⟩)):=by show _=_;unfold uB;rw[Qa h]
  rw[E.out];go_enter func96,ntmps96;go_wp2;go_ret;exact⟨rfl,eA.set g.out 1 (.bool true),(dB.refl _ _).setCell _ _⟩
 ·have E:Hid (uB n ⟨c,d⟩=(c.extract 0 n,⟨c.extract n c.size,d⟩)):=by show _=_;unfold uB;rw[Oa h]
  have m:¬((c.size:Int)<(n:Int)):=by omega
  rw[E.out];go_enter func96,ntmps96;go_wp2;go_ret;exact⟨rfl,eA.set g.out 0 (.string (c.extract n c.size)),(dB.refl _ _).setCell _ _⟩
theorem LM (B:Nat) (r:Rd) (k:Nat) (w:World) (f:RB w B r) (m:k<=2) (j:r.rest.size<=1000000000):
 Calls prog 104 #[.pointer (some ⟨B,0,none⟩),.int .i64 (k:Nat)] w fun e a=>e=.returned (.int .i64 ((zA k r).1:Nat))/\RB a B (zA k r).2/\dB B w a:=by
 have d:Hid (Calls prog 96 #[.pointer (some ⟨B,0,none⟩),.int .i64 (k:Nat)] w fun e a=>e=.returned (.string (uB k r).1)/\RB a B (uB k r).2/\dB B w a):=ch B r k w f (by omega) j;have i:Hid (∀W,Calls prog 138 #[.string (uB k r).1] W fun e a=>e=.returned (.int .i64 (jN (uB k r).1.data.toList:Nat))/\a=W):=fun W=>YH _ W (by have:=(xG k r).1;omega);show Calls _ _ _ _ fun e a=>e=.returned (.int .i64 (jN (uB k r).1.data.toList:Nat))/\RB a B (uB k r).2/\dB B w a;clear f;generalize jN (uB k r).1.data.toList=N at *;generalize (uB k r).1=T at *;generalize (uB k r).2=l at *;go_enter func104,ntmps104;go_wp2_with fail;refine d.out.mono ?_;rintro e g ⟨rfl,c,b⟩;have h:Hid (RB g B l/\dB B w g):=⟨c,b⟩
 clear c b d;go_wp2_with fail;refine(i.out _).mono ?_;rintro e n ⟨rfl,hw⟩;replace hw:=hw.symm;subst hw;go_wp2;go_ret;exact⟨rfl,h.out⟩
theorem ck (B:Nat) (r:Rd) (k:Nat) (w:World) (l:RB w B r) (m:k<=2) (t:r.rest.size<=1000000000):
 Calls prog 105 #[.pointer (some ⟨B,0,none⟩),.int .i64 (k:Nat)] w fun e a=>e=.returned (.string (oA k r).1)/\RB a B (oA k r).2/\dB B w a:=by
 have j:Hid (Calls prog 104 #[.pointer (some ⟨B,0,none⟩),.int .i64 (k:Nat)] w fun e a=>e=.returned (.int .i64 ((zA k r).1:Nat))/\RB a B (zA k r).2/\dB B w a):=LM B r k w l m t;have s:(zA k r).1<65536:=by
  have x:=nL k r;have y:256 ^ k<=256 ^ 2:=Zc (by omega) m;omega
 have g:(zA k r).2.rest.size<=1000000000:=by
  have:=(xG k r).2.2;show(uB k r).2.rest.size<=_;omega
 have q:Hid (∀W,RB W B (zA k r).2->Calls prog 96 #[.pointer (some ⟨B,0,none⟩),.int .i64 ((zA k r).1:Nat)] W fun e a=>e=.returned (.string (oA k r).1)/\RB a B (oA k r).2/\dB B W a):=fun W h=>ch B _ _ W h (by omega) g;clear l;generalize (oA k r).1=T at *;generalize (oA k r).2=u at *;generalize (zA k r).1=N at *;generalize (zA k r).2=v at *;go_enter func105,ntmps105;go_wp2_with fail;refine j.out.mono ?_;rintro e n ⟨rfl,d,b⟩;have i:Hid (RB n B v/\dB B w n):=⟨d,b⟩
 clear d b j;go_wp2_with fail;refine(q.out _ i.out.1).mono ?_;rintro e o ⟨rfl,f,c⟩;have p:Hid (RB o B u/\dB B w o):=⟨f,i.out.2.trans c⟩
 clear f c;go_wp2;go_ret;exact⟨rfl,p.out⟩
theorem uE {w i:World} {B a:Nat} {e:TypeId} {size:Nat} {v:Value} {n:Nat} {j:List Value} (h:w.ownsRow a e size v n j) (l:dB B w i) (p:B<a):i.ownsRow a e size v n j:=by
 obtain⟨k,d⟩:=h;refine⟨k,?_⟩;rcases d with d|⟨g,b,c,o,m,f,r⟩
 ·exact Ca d
 ·exact Ja ⟨g,b,c,o,m,(l.block g (aA f) (by omega)).trans f,r⟩
theorem dB.alloc {B:Nat} {w a:World} (h:dB B w a) (o:Obj):dB B w (a.alloc o):=h.trans (dB.of (cA _ _))
def xQ (k:Int):Bool:=k==1||k==3||k==5||k==6
def uQ (k:Int):Bool:=k==3||k==5
def fR (k:Int):Bool:=k==2||k==3
def KY (l:mA):Prop:=l.name.size<=255/\l.value.size<=65535
def GH (x:jD):Prop:=x.labs.length<=255/\∀i (h:i<x.labs.length),KY x.labs[i]
def ry (a:List jD):Prop:=∀i (h:i<a.length),GH a[i]
def kO (r:vI):Prop:=(1<=r.kind/\r.kind<=6)/\(xQ r.kind=false->r.n9.size=0)/\(uQ r.kind=false->r.metric.size=0)/\(fR r.kind=false->r.num=0)/\(r.kind≠1->r.smps=[])/\r.n9.size<=255/\r.metric.size<=65535/\r.smps.length<=500/\ry r.smps
def tP (x:jD):ByteArray:=nI x.labs++fA 8 x.bits
def cD:List jD->ByteArray
 |[]=>ByteArray.empty
 |x::r=>tP x++cD r
theorem fL:∀(a b:List jD),cD (a++b)=cD a++cD b
 |[],b=>by simp[cD]
 |r::q,b=>by
  show tP r++cD (q++b)=tP r++cD q++cD b;rw[fL q b,Gb]
theorem jZ (a:List jD) (k:Nat) (h:k<a.length):cD (a.take (k+1))=cD (a.take k)++tP a[k]:=by
 rw[Ma h,fL];simp[cD]
def uS (r:vI):ByteArray:=
 fA 1 r.kind++((if xQ r.kind=true then oK r.n9 else ByteArray.empty)++((if r.kind=1 then fA 2 (r.smps.length:Nat)++cD r.smps else ByteArray.empty)++((if uQ r.kind=true then nD r.metric else ByteArray.empty)++(if fR r.kind=true then fA 8 r.num else ByteArray.empty))))
def aHe (l:List jD):Decidable (l=[]):=match l with
 |[]=>isTrue rfl
 |_::_=>isFalse (fun h=>by cases h)
def aGk (r:vI):Decidable (kO r):=by
 haveI:=aHe r.smps
 unfold kO ry GH KY;infer_instance
def aG (r:vI):ByteArray:=haveI:=aGk r;if kO r/\(uS r).size<=60000 then uS r else ByteArray.empty
theorem IX {r:vI} (h:kO r) (a:(uS r).size<=60000):aG r=uS r:=by unfold aG;rw[Qa ⟨h,a⟩]
theorem IW {r:vI} (h:¬kO r):aG r=ByteArray.empty:=by unfold aG;rw[Oa fun a=>h a.1]
theorem BT {r:vI} (h:60000<(uS r).size):aG r=ByteArray.empty:=by unfold aG;rw[Oa fun a=>by omega]
theorem aGy (b:ByteArray):b++ByteArray.empty=b:=by simp
theorem zv (b:ByteArray):ByteArray.empty++b=b:=by simp
theorem tI:∀(a:List mA),(cC a).size=3*a.length+wB a
 |[]=>rfl
 |l::r=>by
  rw[cC,Ga,Ga,mE,oD,tI r];simp only[Jb,wB];omega
theorem mM (x:jD):(tP x).size=9+3*x.labs.length+wB x.labs:=by
 rw[tP,Ga,nI,Ga,iA,iA,tI];omega
def vJ:List jD->Nat
 |[]=>0
 |x::r=>wB x.labs+vJ r
theorem qW (a b:List jD):vJ (a++b)=vJ a+vJ b:=by
 induction a with
 |nil=>simp[vJ]
 |cons f r c=>simp[vJ,c];omega
theorem RF (a:List jD) (k:Nat) (h:k<a.length):vJ (a.take (k+1))=vJ (a.take k)+wB a[k].labs:=by
 rw[Ma h,qW];simp[vJ]
theorem aCh (a:List jD):vJ a<=eC a:=by
 induction a with
 |nil=>simp[vJ,eC]
 |cons x r b=>simp only[vJ,eC,kG];omega
theorem KF:∀(a:List jD),vJ a<=(cD a).size
 |[]=>by simp[vJ]
 |x::r=>by
  have h:=KF r;have e:(cD (x::r)).size=(tP x).size+(cD r).size:=by show(tP x++cD r).size=_;rw[Ga]
  have b:=mM x;rw[e];simp only[vJ];omega
theorem UH (a:List mA) (i:Nat) (h:i<a.length):a[i].name.size+a[i].value.size<=wB a:=by
 have b:=jL a i h;have c:=yJ a (i+1);omega
theorem yj (a:List jD) (i:Nat) (h:i<a.length):wB a[i].labs<=vJ a:=by
 have b:=RF a i h;have e:=qW (a.take (i+1)) (a.drop (i+1));rw[Ya]at e;omega
def aDv (x:jD):Prop:=x.labs.length<=255/\∀i (h:i<x.labs.length),x.labs[i].name.size<=255
def uU (r:vI):Prop:=r.n9.size<=255/\r.smps.length<=500/\∀i (h:i<r.smps.length),aDv r.smps[i]
def PF (r:vI):Prop:=(xQ r.kind=false->r.n9.size=0)/\(uQ r.kind=false->r.metric.size=0)/\(fR r.kind=false->r.num=0)/\(r.kind≠1->r.smps=[])
theorem aGl {r:vI} (e:1<=r.kind/\r.kind<=6) (b:PF r) (a:uU r) (h:r.n9.size+r.metric.size+vJ r.smps<=60000):kO r:=by
 refine⟨e,b.1,b.2.1,b.2.2.1,b.2.2.2,a.1,by omega,a.2.1,fun i c=>⟨(a.2.2 i c).1,fun j d=>⟨(a.2.2 i c).2 j d,?_⟩⟩⟩;have f:=UH r.smps[i].labs j d;have g:=yj r.smps i c;omega
theorem aFo {r:vI} (h:kO r):PF r:=⟨h.2.1,h.2.2.1,h.2.2.2.1,h.2.2.2.2.1⟩
theorem aFn {r:vI} (h:kO r):uU r:=⟨h.2.2.2.2.2.1,h.2.2.2.2.2.2.2.1,fun i a=>⟨(h.2.2.2.2.2.2.2.2 i a).1,fun j b=>((h.2.2.2.2.2.2.2.2 i a).2 j b).1⟩⟩
theorem aCi {r:vI} (h:kO r) (d:60000<r.n9.size+r.metric.size+vJ r.smps):60000<(uS r).size:=by
 obtain⟨_,a,b,_,c,_⟩:=h;have e:=KF r.smps;have f:r.n9.size<=(if xQ r.kind=true then oK r.n9 else ByteArray.empty).size:=by
  split
  ·rw[mE];omega
  ·rw[a (by simp_all)];exact La _
 have g:vJ r.smps<=(if r.kind=1 then fA 2 (r.smps.length:Nat)++cD r.smps else ByteArray.empty).size:=by
  split
  ·rw[Ga];omega
  ·rw[c (by assumption)];exact La _
 have i:r.metric.size<=(if uQ r.kind=true then nD r.metric else ByteArray.empty).size:=by
  split
  ·rw[oD];omega
  ·rw[b (by simp_all)];exact La _
 simp only[uS,Ga];omega
def zC (t:ByteArray):List kA->Nat->Int
 |[],_=>-1
 |f::r,i=>if (f.name.toList==t.toList)=true then i else zC t r (i+1)
theorem xT (a:Option Addr) (p:Nat) (f:List kA) (c y s v:Int) (u:Bool) (t:ByteArray) (w:World) (q:qA w a f) (j:f.length<=maxLen):
 Calls prog 70 #[.agg #[.slice a f.length p,.int .i64 c,.int .i64 y,.int .i64 s,.int .i64 v,.bool u],.string t] w fun e z=>e=.returned (.int .i64 (zC t f 0))/\Below w.heap.size w z:=by
 unfold maxLen at j;have r:Hid (qA w a f):=q;clear q;go_enter func70,ntmps70;go_wp2;go_loopw [5,6,10] (fun _ _ i wr=>∃k:Nat,k<=f.length/\i=.int .i64 k/\zC t f 0=zC t (f.drop k) k/\Below w.heap.size w wr) (fun _ _ i _=>f.length-(intOf i).toNat)
 case atStart=>exact⟨0,La _,rfl,rfl,cA _ _⟩
 case round=>
  obtain⟨k,F,rfl,h,d⟩:=hrel;have g:Hid _:=h;clear h;by_cases l:k<f.length
  ·obtain⟨b,o,rfl,D,A,B,C⟩:=(r.out.later d).at l;have m:=Kb l;by_cases n:(f[k].name.toList==t.toList)=true
   ·have E:Hid (zC t f 0=k):=by show _=_;rw[g.out,m,zC,Qa n]
    clear m;go_wp2;go_ret;exact⟨zF E.out.symm,d.alloc d.size _⟩
   ·have x:(f[k].name.toList==t.toList)=false:=by simpa using n
    have E:Hid (zC t f 0=zC t (f.drop (k+1)) (k+1)):=by show _=_;rw[g.out,m,zC,Oa n]
    clear m n;go_wp2;exact⟨⟨k+1,by omega,by go_num,E.out,d.alloc d.size _⟩,by simp[intOf];omega⟩
  ·go_wp2;go_ret;have e:f.drop k=[]:=Ff (by omega);exact⟨zF (by rw[g.out,e];rfl),d⟩
def RJ (a:List kA):Prop:=∀i j (b:i<j) (c:j<a.length),Op.bytesLess a[i].name.toList a[j].name.toList=true
theorem oz {a:List kA} {j:Nat} (h:DW a (j+1)=true) (b:j+1<a.length):Op.bytesLess a[j].name.toList a[j+1].name.toList=true:=by
 simp[DW,Va b,Va (show j<a.length by omega)]at h;exact h.2
theorem aDp {a:List kA} (h:mT a=true):RJ a:=by
 simp only[mT,IA,Wd,Wg]at h;intro i j f b;induction j with
 |zero=>omega
 |succ j d=>
  have c:=oz (h (j+1) b) b;by_cases e:i=j
  ·subst e;exact c
  ·exact oI _ _ _ (d (by omega) (by omega)) c
def OI (a:List kA) (t:ByteArray) (i:Nat):Prop:=i<=a.length/\(∀j (h:j<a.length),j<i->Op.bytesLess a[j].name.toList t.toList=true)/\(∀j (h:j<a.length),i<=j->Op.bytesLess a[j].name.toList t.toList=false)
def mC (t:ByteArray):List kA->Nat
 |[]=>0
 |f::r=>if Op.bytesLess f.name.toList t.toList=true then mC t r+1 else 0
theorem OI.uniq {d:List kA} {t:ByteArray} {i j:Nat} (h:OI d t i) (k:OI d t j):i=j:=by
 rcases Nat.lt_trichotomy i j with c|e|c
 ·have a:=k.2.1 i (by have:=k.1;omega) c;have b:=h.2.2 i (by have:=k.1;omega) (Ka _);rw[a]at b;exact absurd b (by simp)
 ·exact e
 ·have a:=h.2.1 j (by have:=h.1;omega) c;have b:=k.2.2 j (by have:=h.1;omega) (Ka _);rw[a]at b;exact absurd b (by simp)
def yR (a:List kA) (t:ByteArray) (i:Nat):Bool:=match a[i]? with
 |none=>false
 |some f=>f.name.toList==t.toList
theorem XX {a:List kA} {t:ByteArray} (p:RJ a) {i:Nat} (u:OI a t i):zC t a 0=if yR a t i=true then(i:Int) else -1:=by
 have o:∀(n k:Nat),k+n=a.length->(∀j (h:j<a.length),j<k->(a[j].name.toList==t.toList)=false)->zC t (a.drop k) k=if yR a t i=true then(i:Int) else -1:=by
  intro n;induction n with
  |zero=>
   intro k r c;rw[Ff (by omega),zC];rw[Oa];intro h;unfold yR at h;split at h
   ·exact absurd h (by simp)
   ·rename_i f q;obtain⟨b,rfl⟩:=Fc.1 q;rw[c i b (by omega)]at h;exact absurd h (by simp)
  |succ n w=>
   intro k r c;have b:k<a.length:=by omega
   rw[Kb b,zC];by_cases d:(a[k].name.toList==t.toList)=true
   ·rw[Qa d];have v:OI a t k:=by
     have e:a[k].name.toList=t.toList:=by simpa using d
     refine⟨by omega,fun j l g=>?_,fun j l s=>?_⟩
     ·rw[<-e];exact p j k g b
     ·rw[<-e];by_cases m:j=k
      ·subst m;exact tE _
      ·exact qM (p k j (by omega) l)
    obtain rfl:=u.uniq v;rw[Qa];simp[yR,Va b,d]
   ·rw[Oa d];refine w (k+1) (by omega) fun j l g=>?_;by_cases m:j=k
    ·subst m;simpa using d
    ·exact c j l (by omega)
 have:=o a.length 0 (by omega) (fun j _ h=>absurd h (by omega));simpa using this
structure WG (S:Nat→Prop) (w w':World):Prop where
 os:w'.os=w.os
 tape:w'.tape=w.tape
 output:w'.output=w.output
 size:w.heap.size≤w'.heap.size
 block:∀k,k<w.heap.size→¬S k→w'.heap[k]?=w.heap[k]?
theorem WG.below {S:Nat->Prop} {B:Nat} {w a:World} (h:WG S w a) (b:∀k,S k->B<=k) (d:B<=w.heap.size):Below B w a:=
 ⟨h.os,h.tape,h.output,h.size,fun k c=>h.block k (by omega) (fun x=>by have:=b k x;omega)⟩
theorem WG.grown {S:Nat->Prop} {w a:World} {row:Option Nat} (h:w.grownBy a row) (d:∀g,row=some g->S g):WG S w a:=
 ⟨h.os,h.tape,h.output,h.size,fun k c b=>h.block k c (fun e=>b (d k e.symm))⟩
def GX (a:List kA) (i:Nat) (f:kA):List kA:=a.take i++f::a.drop i
theorem RJ.tail {f:kA} {r:List kA} (h:RJ (f::r)):RJ r:=fun i j a b=>by
 have:=h (i+1) (j+1) (by omega) (by simp;omega);simpa using this
theorem RJ.head {f:kA} {r:List kA} (h:RJ (f::r)) (j:Nat) (a:j<r.length):Op.bytesLess f.name.toList r[j].name.toList=true:=by
 have:=h 0 (j+1) (by omega) (by simp;omega);simpa using this
theorem fW:∀{c:List kA} (t:ByteArray),RJ c->OI c t (mC t c)
 |[],t,_=>⟨Ka _,fun j h=>absurd h (by simp),fun j h=>absurd h (by simp)⟩
 |f::r,t,g=>by
  have e:=fW t g.tail;unfold mC;by_cases b:Op.bytesLess f.name.toList t.toList=true
  ·rw[Qa b];refine⟨by simp;exact e.1,fun j a k=>?_,fun j a i=>?_⟩
   ·cases j with
    |zero=>exact b
    |succ j=>simpa using e.2.1 j (by simpa using a) (by omega)
   ·cases j with
    |zero=>omega
    |succ j=>simpa using e.2.2 j (by simpa using a) (by omega)
  ·rw[Oa b];refine⟨La _,fun j _ h=>absurd h (by omega),fun j a _=>?_⟩;cases j with
   |zero=>simpa using b
   |succ j=>
    have d:j<r.length:=by simpa using a
    show Op.bytesLess r[j].name.toList t.toList=false;rw[Yc];intro h;exact b (oI _ _ _ (g.head j d) h)
theorem aAb {a:List kA} {t:ByteArray} {i:Nat} (h:yR a t i=true):∃d:i<a.length,a[i].name=t:=by
 unfold yR at h;split at h
 ·exact absurd h (by simp)
 ·rename_i f c;obtain⟨b,rfl⟩:=Fc.1 c;exact⟨b,toList_inj (by simpa using h)⟩
def bC (a:List kA) (t:ByteArray):List kA:=a.filter fun f=>!(f.name.toList==t.toList)
def kE:List kA->kA->List kA
 |[],f=>[f]
 |g::r,f=>if Op.bytesLess f.name.toList g.name.toList=true then f::g::r else g::kE r f
theorem CQ {a:List kA} {t:ByteArray} (h:∀j (b:j<a.length),a[j].name≠t):bC a t=a:=by
 unfold bC;rw[Lc];intro f c;obtain⟨j,b,rfl⟩:=Ob c;simp only[Bool.not_eq_true',Yf,ne_eq];exact fun e=>h j b (toList_inj e)
theorem fS:∀{a:List kA} {i:Nat} (_:RJ a) (g:i<a.length),bC a a[i].name=a.eraseIdx i
 |f::r,0,c,_=>by
  have e:bC (f::r) f.name=bC r f.name:=by simp[bC]
  show bC (f::r) f.name=r;rw[e];exact CQ fun j h e=>by
   have:=c.head j h;rw[e,tE]at this;exact absurd this (by simp)
 |f::r,i+1,c,g=>by
  have b:i<r.length:=by simpa using g
  have k:=fS c.tail b;have d:(f.name.toList==(r[i]).name.toList)=false:=by
   rw[Yf];intro e;have:=c.head i b;rw[e,tE]at this;exact absurd this (by simp)
  show bC (f::r) r[i].name=f::r.eraseIdx i;rw[<-k];simp[bC,d]
theorem RJ.erase {d:List kA} (h:RJ d) (i:Nat):RJ (d.eraseIdx i):=by
 intro a b e c;have f:b<d.length:=by
  rw[Od]at c;split at c<;>omega
 rw[Ke,Ke];rw[Od]at c;split<;>split
 ·exact h a b e (by omega)
 ·exact h a (b+1) (by omega) (by split at c<;>omega)
 ·omega
 ·exact h (a+1) (b+1) (by omega) (by split at c<;>omega)
theorem nj {a:List kA} {t:ByteArray} (f:RJ a) (g:yR a t (mC t a)=false):∀j (b:j<a.length),a[j].name≠t:=by
 intro j b e;have i:=fW t f;rcases Nat.lt_trichotomy j (mC t a) with h|h|h
 ·have:=i.2.1 j b h;rw[e,tE]at this;exact absurd this (by simp)
 ·have:yR a t j=true:=by simp[yR,Va b,e]
  rw[<-h,this]at g;exact absurd g (by simp)
 ·have c:=i.2.2 (mC t a) (by omega) (Ka _);have d:=f (mC t a) j h b;rw[e]at d;rw[d]at c;exact absurd c (by simp)
theorem DX:∀{a:List kA} (f:kA),RJ a->(∀j (k:j<a.length),a[j].name≠f.name)->kE a f=GX a (mC f.name a) f
 |[],f,_,_=>rfl
 |g::r,f,i,h=>by
  have l:=DX f i.tail (fun j k=>by have:=h (j+1) (by simp;omega);simpa using this);unfold kE mC;by_cases b:Op.bytesLess g.name.toList f.name.toList=true
  ·rw[Oa (by rw[qM b];simp),Qa b,l];simp[GX]
  ·have d:g.name.toList≠f.name.toList:=fun e=>h 0 (by simp) (toList_inj e);have c:=gK _ _ (by simpa using b) d;rw[Qa c,Oa b];rfl
theorem ny {a:List kA} {i:Nat} (b:i<a.length) (f:kA):GX (a.eraseIdx i) i f=a.set i f:=by
 rw[GX,List.eraseIdx_eq_take_drop_succ,List.set_eq_take_append_cons_drop,Qa b];have c:(a.take i).length=i:=by rw[Hb];omega
 rw[List.take_append_of_le_length (by omega),Ua (by omega),List.drop_append_of_le_length (by omega),Ff (by omega),Nb]
theorem pf {b:List kA} {i:Nat} (c:RJ b) (d:i<b.length):mC b[i].name (b.eraseIdx i)=i:=by
 refine(fW _ (c.erase i)).uniq ⟨by rw[Od,Qa d];omega,fun j e a=>?_,fun j e f=>?_⟩
 ·rw[Ke,dif_pos a];exact c j i a d
 ·rw[Ke,dif_neg (by omega)];rw[Od,Qa d]at e;exact qM (c i (j+1) (by omega) (by omega))
def oG (a:List kA) (f:kA):List kA:=kE (bC a f.name) f
theorem yp {a:List kA} {f:kA} (b:RJ a) (d:yR a f.name (mC f.name a)=false):oG a f=GX a (mC f.name a) f:=by
 have c:=nj b d;unfold oG;rw[CQ c];exact DX f b c
theorem yq {a:List kA} {f:kA} {i:Nat} (b:RJ a) (c:i<a.length) (d:a[i].name=f.name):oG a f=a.set i f:=by
 unfold oG;rw[<-d,fS b c];have h:∀j (g:j<(a.eraseIdx i).length),(a.eraseIdx i)[j].name≠f.name:=fun j g e=>by
  rw[Ke]at e;rw[<-d]at e;rw[Od,Qa c]at g;split at e
  ·have:=b j i (by omega) c;rw[e,tE]at this;exact absurd this (by simp)
  ·have:=b i (j+1) (by omega) (by omega);rw[e,tE]at this;exact absurd this (by simp)
 rw[DX f (b.erase i) h,<-d,pf b c,ny c]
def bH (a:List kA) (c k b d:Int):Bool:=
 (decide (a.length<=1000) &&mT a) &&xA c 0 1000000000&&decide ((xB a:Int)<=c) &&xA k 0 1000000000000000&&xA b 0 1000000000000000&&xA d 0 1000000000000000
theorem lp (w:World) (a b c d e f:Value) (t:TypeId):let W:=w.alloc (.cells #[a,b,c,d,e,f] t)
 W.cell? ⟨w.heap.size,0,none⟩=some a/\W.cell? ⟨w.heap.size,1,none⟩=some b/\W.cell? ⟨w.heap.size,2,none⟩=some c/\
 W.cell? ⟨w.heap.size,3,none⟩=some d/\W.cell? ⟨w.heap.size,4,none⟩=some e/\W.cell? ⟨w.heap.size,5,none⟩=some f:=by
 simp[go_sem]
theorem DK:∃i,prog.info? 9=some i/\i.zero=some (.string ByteArray.empty)/\i.size=1/\i.bytes=16:=by
 have h:(prog.info? 9).map (fun i=>(i.zero,i.size,i.bytes))=some (some (.string ByteArray.empty),1,16):=by kernel_rfl
 obtain⟨i,b,a⟩:=Ub.1 h;simp only[Hc]at a;exact⟨i,b,a.1,a.2.1,a.2.2⟩
theorem lH {w:World} {B:Nat} {e:TypeId} {g i:Nat} {a:List ByteArray} (h:w.ownsRow B e 1 (.slice (some ⟨g,0,none⟩) a.length i) a.length (a.map Value.string)):
 a.length<=i/\g<w.heap.size/\∀(j:Nat) x,a[j]?=some x->w.cell? ⟨g,0+j,none⟩=some (.string x):=by
 rcases h.2 with⟨c,_⟩|⟨p,f,d,c,q,k,l,_,_,n⟩
 ·simp at c
 ·simp only[Value.slice.injEq,Pa,Addr.mk.injEq,Yb]at c;obtain⟨rfl,_,rfl⟩:=c;refine⟨l,aA k,fun j x o=>?_⟩;rw[cell_of_row w g _ d _ _ k,Wa,<-Zd];have b:(a.map Value.string)[j]?=some (.string x):=by rw[Ig,o];rfl
  rw[<-n]at b;have m:=(Fc.1 b).1;rw[Hb]at m;rw[Mb (by omega)]at b;exact b
theorem uw:(prog.info? 100).map (fun i=>(i.zero,i.size,i.bytes))=some (some (.agg #[.string ⟨#[]⟩,.int .i64 0,.slice none 0 0,.slice none 0 0]),4,72):=by kernel_rfl
structure oH (α:Type) where
 m:Nat
 cells:α→List Value
 len:∀a,(cells a).length=m
 part:World→Nat→Nat→α→Prop
 keep:∀{w w':World} {lo hi:Nat} {a:α},part w lo hi a→w.heap.size≤w'.heap.size→(∀g,lo≤g→g<hi→g<w.heap.size→w'.heap[g]?=w.heap[g]?)→part w' lo hi a
 wide:∀{w:World} {lo hi lo' hi':Nat} {a:α},part w lo hi a→lo'≤lo→hi≤hi'→part w lo' hi' a
def oH.flat {α:Type} (K:oH α) (a:List α):List Value:=a.flatMap K.cells
theorem oH.flat_append {α:Type} (K:oH α) (a b:List α):K.flat (a++b)=K.flat a++K.flat b:=by simp[oH.flat]
theorem oH.flat_get {α:Type} (K:oH α):∀(l:List α) (i:Nat) (b:i<l.length) (j:Nat),j<K.m->(K.flat l)[i*K.m+j]?=(K.cells l[i])[j]?:=by
 intro l;unfold oH.flat;induction l with
 |nil=>intro i b;exact absurd b (by simp)
 |cons x r d=>
  intro i b j c;cases i with
  |zero=>
   simp only[Sc,Nat.zero_mul,Wa,Df];rw[Td (by rw[K.len];exact c)]
  |succ i=>
   have:=d i (by simpa using b) j c;simp only[Sc,Ic];have a:=K.len x;have e:(i+1)*K.m+j-(K.cells x).length=i*K.m+j:=by rw[a,Kg];omega
   rw[Bd (by rw[a,Kg];omega),e];exact this
def wI {α:Type} (K:oH α) (w:World) (b:Nat) (e:TypeId) (v:Value) (n:Nat) (d:List α):Prop:=
 w.ownsRow b e K.m v n (K.flat d)/\d.length=n/\∀y∈d,∃c a,b<=c/\a<=w.heap.size/\(∀g,v.ownBlock=some g->g<c\/a<=g)/\K.part w c a y
theorem wI.nil {α:Type} (K:oH α) (w:World) (b:Nat) (e:TypeId):wI K w b e (.slice none 0 0) 0 []:=
 ⟨World.ownsRow_nil _ _ _ _,rfl,fun y a=>by cases a⟩
theorem wI.row {α:Type} {K:oH α} {w:World} {b:Nat} {e:TypeId} {v:Value} {n:Nat} {i:List α} (h:wI K w b e v n i):∃a c,v=.slice a n c:=by
 rcases h.1.2 with⟨rfl,rfl⟩|⟨g,d,f,rfl,_⟩
 ·exact⟨none,0,rfl⟩
 ·exact⟨_,_,rfl⟩
theorem wI.lt {α:Type} {K:oH α} {w:World} {b:Nat} {e:TypeId} {v:Value} {n:Nat} {c:List α} (h:wI K w b e v n c):∀g,v.ownBlock=some g->b<=g/\g<w.heap.size:=fun g a=>h.1.lt g a
theorem wI.turn {α:Type} {K:oH α} {w j:World} {S:Nat->Prop} {b:Nat} {e:TypeId} {v:Value} {n:Nat} {k:List α} (h:wI K w b e v n k) (a:gA S w j) (f:∀g,S g->g<b):wI K j b e v n k:=by
 obtain⟨d,l,m⟩:=h;refine⟨a.row d (fun g i e=>by have:=(d.lt g i).1;have:=f g e;omega),l,fun y t=>?_⟩;obtain⟨u,q,o,p,r,s⟩:=m y t;exact⟨u,q,o,Ra p a.size,r,K.keep s a.size fun g i _ c=>a.block g c (fun e=>by have:=f g e;omega)⟩
theorem wI.but {α:Type} {K:oH α} {w a:World} {B b:Nat} {e:TypeId} {v:Value} {n:Nat} {c:List α} (h:wI K w b e v n c) (i:dB B w a) (d:B<b):wI K a b e v n c:=
 h.turn (gA.but i) (fun g f=>by rw[f];exact d)
theorem wI.snoc {α:Type} {K:oH α} {wr w4 w6:World} {b f d k:Nat} {e:TypeId} {v:Value} {ys:List α} {y:α}
 (n:w6.ownsRow b e K.m (.slice (some ⟨f,0,none⟩) (k+1) d) (k+1) (K.flat ys++K.cells y))
 (h:wI K wr b e v k ys) (x:b<=wr.heap.size) (i:w4.heap.size<=w6.heap.size) (w:wr.heap.size<=w4.heap.size)
 (p:∀g,g<wr.heap.size->b<=g->v.ownBlock≠some g->w6.heap[g]?=wr.heap[g]?) (q:∀g,wr.heap.size<=g->g<w4.heap.size->w6.heap[g]?=w4.heap[g]?)
 (u:K.part w4 wr.heap.size w4.heap.size y)
 (j:(v.ownBlock=some f/\f<wr.heap.size)\/w4.heap.size<=f):wI K w6 b e (.slice (some ⟨f,0,none⟩) (k+1) d) (k+1) (ys++[y]):=by
 obtain⟨G,E,F⟩:=h;refine⟨?_,by rw[Za,E];rfl,fun z c=>?_⟩
 ·rw[K.flat_append];have e:K.flat [y]=K.cells y:=by simp[oH.flat]
  rw[e];exact n
 ·rcases Oc.1 c with c|c
  ·obtain⟨D,B,r,A,t,C⟩:=F z c;refine⟨D,B,r,by omega,fun g a=>?_,K.keep C (by omega) fun g a l o=>p g o (by omega) (fun e=>by have:=t g e;omega)⟩;simp only[Value.ownBlock,Pa]at a;subst a;rcases j with⟨h,s⟩|h
   ·exact t _ h
   ·exact Ja (by omega)
  ·rw[Tc]at c;subst c;refine⟨wr.heap.size,w4.heap.size,x,i,fun g a=>?_,K.keep u i fun g a l _=>q g a l⟩;simp only[Value.ownBlock,Pa]at a;subst a;rcases j with⟨_,s⟩|h
   ·exact Ca s
   ·exact Ja h
def RN {α:Type} (K:oH α) (w:World) (d c:Nat) (a:Option Addr) (b:List α):Prop:=
 b=[]\/∃g,a=some ⟨g,0,none⟩/\d<=g/\g<c/\g<w.heap.size/\∀i (h:i<b.length),(∀j,j<K.m->w.cell? ⟨g,i*K.m+j,none⟩=(K.cells b[i])[j]?)/\K.part w d c b[i]
theorem RN.keep {α:Type} {K:oH α} {w w':World} {c b:Nat} {a:Option Addr} {k:List α} (h:RN K w c b a k) (n:w.heap.size<=w'.heap.size) (f:∀g,c<=g->g<b->g<w.heap.size->w'.heap[g]?=w.heap[g]?):RN K w' c b a k:=by
 rcases h with h|⟨g,rfl,d,e,l,h⟩
 ·exact Ca h
 ·refine Ja ⟨g,rfl,d,e,by omega,fun i b=>⟨fun j m=>?_,K.keep (h i b).2 n f⟩⟩;rw[World.cell?_of_block (f g d e l)];exact(h i b).1 j m
theorem RN.wide {α:Type} {K:oH α} {w:World} {e b d c:Nat} {a:Option Addr} {f:List α} (h:RN K w e b a f) (j:d<=e) (k:b<=c):RN K w d c a f:=by
 rcases h with h|⟨g,rfl,m,n,l,h⟩
 ·exact Ca h
 ·exact Ja ⟨g,rfl,by omega,by omega,l,fun i b=>⟨(h i b).1,K.wide (h i b).2 j k⟩⟩
theorem RN.later {α:Type} {K:oH α} {w e:World} {d c:Nat} {a:Option Addr} {f:List α} (h:RN K w d c a f) (b:Below w.heap.size w e):RN K e d c a f:=
 h.keep b.size fun g _ _ i=>b.block g i
theorem RN.at {α:Type} {K:oH α} {w:World} {e d:Nat} {a:Option Addr} {c:List α} (h:RN K w e d a c) {i:Nat} (b:i<c.length):
 ∃g,a=some ⟨g,0,none⟩/\g<w.heap.size/\(∀j,j<K.m->w.cell? ⟨g,i*K.m+j,none⟩=(K.cells c[i])[j]?)/\K.part w e d c[i]:=by
 rcases h with rfl|⟨g,rfl,k,l,f,h⟩
 ·exact absurd b (by simp)
 ·exact⟨g,rfl,f,(h i b).1,(h i b).2⟩
theorem wI.out {α:Type} {K:oH α} {w:World} {b:Nat} {e:TypeId} {a:Option Addr} {n d:Nat} {q:List α} (h:wI K w b e (.slice a n d) n q):RN K w b w.heap.size a q:=by
 obtain⟨v,D,x⟩:=h;rcases v.2 with⟨_,E⟩|⟨g,r,f,s,y,t,_,_,C,p⟩
 ·exact Ca (Qb.1 (by omega))
 ·simp only[Value.slice.injEq]at s;have c:=aA t;refine Ja ⟨g,s.1,y,c,c,fun i u=>⟨fun j A=>?_,?_⟩⟩
  ·have l:i*K.m+j<n*K.m:=by
    have:(i+1)*K.m<=n*K.m:=Nat.mul_le_mul_right _ (by omega);rw[Kg]at this;omega
   rw[eA.cell (show eA w g f e from t) _,<-Zd,<-Mb l,p];exact K.flat_get q i u j A
  ·obtain⟨F,z,o,k,_,B⟩:=x _ (Xa u);exact K.wide B o k
theorem kN (k:Nat) (r:Rd):(zA k r).2.rest.size<=r.rest.size:=by rw[zA];exact(xG k r).2.2
theorem RT.laterD {w w':World} {B:Nat} {r:Rd} (h:RT w B r) (a:Below w.heap.size w w'):RT w' B r:=h.imp fun _ h=>h.later a
theorem dB.upToD {g:Nat} {w c d:World} (h:dB g w c) (a:Below w.heap.size c d):dB g w d:=
 ⟨a.os.trans h.os,a.tape.trans h.tape,a.output.trans h.output,Ra h.size a.size,fun k b e=>(a.block k b).trans (h.block k b e)⟩
theorem qN {g:Nat} {a w:World} (h:dB g a w):dB g a w.drew:=⟨h.os,h.tape,h.output,h.size,h.block⟩
theorem pI (B:Nat) (r:Rd) (k:Nat) (w:World) (a:RT w B r) (b:k<=8) (c:r.rest.size<=1000000000):
 Calls prog 59 #[.pointer (some ⟨B,0,none⟩),.int .i64 (k:Nat)] w fun e w'=>(e=.returned (.int .i64 (jB (zA k r).1))/\(zA k r).2.r9=false/\RT w' B (zA k r).2/\dB B w w')\/(e=.panicked aM/\(zA k r).2.r9=true/\dB B w w'):=by
 cases h:(zA k r).2.r9 with
 |true=>exact(ZS B r k w a b c h).mono fun e w' q=>Ja ⟨q.1,rfl,q.2⟩
 |false=>exact(jr B r k w a b c h).mono fun e w' q=>Ca ⟨q.1,rfl,q.2⟩
theorem cT (B:Nat) (r:Rd) (k:Nat) (w:World) (a:RT w B r) (b:k<=2) (c:r.rest.size<=1000000000):
 Calls prog 60 #[.pointer (some ⟨B,0,none⟩),.int .i64 (k:Nat)] w fun e w'=>(e=.returned (.string (oA k r).1)/\(oA k r).2.r9=false/\RT w' B (oA k r).2/\dB B w w')\/(e=.panicked aM/\(oA k r).2.r9=true/\dB B w w'):=by
 cases h:(oA k r).2.r9 with
 |true=>exact(xr B r k w a b c h).mono fun e w' q=>Ja ⟨q.1,rfl,q.2⟩
 |false=>exact(aCd B r k w a b c h).mono fun e w' q=>Ca ⟨q.1,rfl,q.2⟩
structure TG (w0 w':World) (B R1:Nat) (zs:Array Value) (t:TypeId) (r:Rd):Prop where
 Z:eA w' R1 zs t
 N:dB B w0 w'
 T:RT w' B r
section
variable {w0 w' w'':World} {B R1:Nat} {zs:Array Value} {t:TypeId} {r r':Rd}
theorem TG.call (h:TG w0 w' B R1 zs t r) (b:RT w'' B r') (a:dB B w' w'') (c:B<R1):TG w0 w'' B R1 zs t r':=⟨h.Z.but a (by omega),h.N.trans a,b⟩
theorem TG.alloc (h:TG w0 w' B R1 zs t r) (o:Obj):TG w0 (w'.alloc o) B R1 zs t r:=⟨h.Z.alloc _,h.N.trans (dB.of (cA _ _)),h.T.laterD (cA _ _)⟩
theorem TG.turn {S:Nat->Prop} (h:TG w0 w' B R1 zs t r) (b:gA S w' w'') (a:∀j,S j->R1<j) (d:B<R1) (c:w0.heap.size<=R1):TG w0 w'' B R1 zs t r:=
 ⟨b.blk h.Z (fun e=>by have:=a _ e;omega),h.N.upToD (b.below h.N.size fun j f e=>by have:=a _ e;omega),h.T.imp fun _ h=>b.blk h (fun e=>by have:=a _ e;omega)⟩
end
