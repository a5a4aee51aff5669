import Derived.Test.YtjpeimianeiegaaGreatDoorJ02
import Derived.Lib.ItoaNum
import Derived.Stop.Asserts
import Derived.RowKitTokens
import Derived.StillTail
set_option maxRecDepth 100000
set_option maxHeartbeats 1000000
namespace Go.Proofs.YtjpeimianeiegaaGreatDoor
open Go.RowKit Tryz
structure fA where
 s:ByteArray
 n:Int
def gY (w:World) (b o:Nat) (a:List fA):Prop:=
 ∀i (h:i<a.length),w.cell? ⟨b,o+i*2,none⟩=some (.string a[i].s)/\w.cell? ⟨b,o+i*2+1,none⟩=some (.int .i64 a[i].n)
def vA (w:World) (a:Option Addr) (c:List fA):Prop:=c=[]\/∃b o,a=some ⟨b,o,none⟩/\b<w.heap.size/\gY w b o c
theorem vA.later {w f:World} {a:Option Addr} {e:List fA} (h:vA w a e) (d:Below w.heap.size w f):vA f a e:=by
 rcases h with h|⟨b,o,rfl,c,h⟩
 ·exact Ba h
 ·refine Ea ⟨b,o,rfl,Ab c d.size,fun i k=>?_⟩;obtain⟨g,j⟩:=h i k;exact⟨by rw[<-g];exact d.cell c,by rw[<-j];exact d.cell c⟩
theorem vA.at {w:World} {a:Option Addr} {c:List fA} (h:vA w a c) {i:Nat} (e:i<c.length):
 ∃b o,a=some ⟨b,o,none⟩/\b<w.heap.size/\w.cell? ⟨b,o+i*2,none⟩=some (.string c[i].s)/\w.cell? ⟨b,o+i*2+1,none⟩=some (.int .i64 c[i].n):=by
 rcases h with rfl|⟨b,o,rfl,d,h⟩
 ·exact absurd e (by simp)
 ·exact⟨b,o,rfl,d,h i e⟩
def aD (w:World) (B:Nat) (a:Option Addr) (c:List fA):Prop:=
 c=[]\/∃g o b t,a=some ⟨g,o,none⟩/\B<=g/\w.heap[g]?=some (.cells b t (0,0))/\gY w g o c
theorem aD.pairs {w:World} {B:Nat} {a:Option Addr} {b:List fA} (h:aD w B a b):vA w a b:=by
 rcases h with h|⟨g,o,c,t,rfl,_,d,h⟩
 ·exact Ba h
 ·exact Ea ⟨g,o,rfl,aA d,h⟩
theorem aD.later {w d:World} {B:Nat} {a:Option Addr} {k:List fA} (h:aD w B a k) (e:Below w.heap.size w d):aD d B a k:=by
 rcases h with h|⟨g,o,c,t,rfl,l,f,h⟩
 ·exact Ba h
 ·have b:=aA f;have n:∀j,d.cell? ⟨g,j,none⟩=w.cell? ⟨g,j,none⟩:=fun j=>World.cell?_of_block (e.block g b);exact Ea ⟨g,o,c,t,rfl,l,(e.block g b).trans f,fun i m=>by simp only[n];exact h i m⟩
theorem aD.mono {w:World} {B B':Nat} {a:Option Addr} {d:List fA} (h:aD w B a d) (e:B'<=B):aD w B' a d:=by
 rcases h with h|⟨g,o,b,t,rfl,c,f,h⟩
 ·exact Ba h
 ·exact Ea ⟨g,o,b,t,rfl,Ma e c,f,h⟩
def zN (a:Array Value) (o j:Nat) (f:fA):Prop:=a[o+j*2]?=some (.string f.s)/\a[o+j*2+1]?=some (.int .i64 f.n)
theorem zN.set {a:Array Value} {o j:Nat} {f:fA} (h:zN a o j f) {p:Nat} (d:p<o+j*2\/o+j*2+1<p) (v:Value):zN (a.setIfInBounds p v) o j f:=by
 obtain⟨b,c⟩:=h;refine⟨?_,?_⟩
 ·rw[Aa (by omega)];exact b
 ·rw[Aa (by omega)];exact c
theorem zN.made (a:Array Value) (o j:Nat) (f:fA) (h:o+j*2+1<a.size):
 zN ((a.setIfInBounds (o+j*2) (.string f.s)).setIfInBounds (o+j*2+1) (.int .i64 f.n)) o j f:=by
 refine⟨?_,?_⟩<;>simp[Wa]<;>omega
theorem LY {w:World} {g o:Nat} {a:Array Value} {t:TypeId} {b:List fA} (h:lA w g a t) (d:∀j (c:j<b.length),zN a o j b[j]):gY w g o b:=by
 intro j c;simp only[h.cell];exact d j c
theorem MC {w:World} {g o:Nat} {a:Array Value} {t:TypeId} {b:List fA} (h:lA w g a t) (d:gY w g o b):∀j (c:j<b.length),zN a o j b[j]:=by
 intro j c;have:=d j c;simp only[h.cell]at this;exact this
theorem ug {b:Array Value} {o:Nat} {a:List fA} (c:∀j (d:j<a.length),zN b o j a[j]):a.length=0\/o+a.length*2<=b.size:=by
 by_cases h:a.length=0
 ·exact Ba h
 ·right;have:=(c (a.length-1) (by omega)).2;have:=(Bb.1 this).1;omega
theorem pC {w:World} {B:Nat} {e:TypeId} {a:Option Addr} {d:Nat} {l:List fA}
 (h:w.ownsRow B e 2 (.slice a l.length d) l.length (l.flatMap fun x=>[.string x.s,.int .i64 x.n])):aD w B a l:=by
 rcases h.2 with⟨_,v⟩|⟨g,m,b,p,q,f,_,_,y,k⟩
 ·exact Ba (Fb.1 v)
 ·simp only[Value.slice.injEq]at p;have t:∀(l:List fA) i (c:i<l.length),(l.flatMap fun x=>[Value.string x.s,.int .i64 x.n])[i*2]?=some (.string l[i].s)/\(l.flatMap fun x=>[Value.string x.s,.int .i64 x.n])[i*2+1]?=some (.int .i64 l[i].n):=by
   intro l;induction l with
   |nil=>intro i c;exact absurd c (by simp)
   |cons x r z=>
    intro i c;cases i with
    |zero=>simp
    |succ i=>
     have:=z i (by simpa using c);simp only[Yc,Hd,Jb,Vb];rw[show(i+1)*2=i*2+1+1 by omega,Fa,Fa,Fa,Fa];exact this
  refine Ea ⟨g,0,b,e,p.1,q,f,fun i c=>?_⟩;have o:∀j,j<l.length*2->b[j]?=(l.flatMap fun x=>[Value.string x.s,.int .i64 x.n])[j]?:=fun j u=>by
   rw[<-k,Eb u,Sd]
  rw[cell_of_row w g _ b _ _ f,cell_of_row w g _ b _ _ f,Oa,o _ (by omega),o _ (by omega)];exact t l i c
def wC:List fA->Nat
 |[]=>0
 |f::r=>f.s.size+wC r
theorem iW (a b:List fA):wC (a++b)=wC a+wC b:=by
 induction a with
 |nil=>simp[wC]
 |cons f r c=>simp[wC,c];omega
theorem rL (a:List fA) (k:Nat) (h:k<a.length):wC (a.take (k+1))=wC (a.take k)+a[k].s.size:=by
 rw[La h,iW];simp[wC]
theorem oN (a:List fA) (k:Nat):wC (a.take k)<=wC a:=by
 have:=iW (a.take k) (a.drop k);rw[Xa]at this;omega
def kx (k:Nat) (i:Nat):fA:=⟨mt (k+2*i),((k+2*i+1:Nat):Int)⟩
def tF (k n:Nat):List fA:=(List.range n).map (kx k)
theorem qH (k n:Nat):(tF k n).length=n:=by simp[tF]
theorem lZ (k n i:Nat) (h:i<(tF k n).length):(tF k n)[i]=kx k i:=by simp[tF]
structure dE where
 kind:Int
 n9:ByteArray
 text:ByteArray
 num:Int
def aEe (w:World) (b o:Nat) (a:List dE):Prop:=
 ∀i (h:i<a.length),w.cell? ⟨b,o+i*4,none⟩=some (.int .i64 a[i].kind)/\w.cell? ⟨b,o+i*4+1,none⟩=some (.string a[i].n9)/\w.cell? ⟨b,o+i*4+2,none⟩=some (.string a[i].text)/\w.cell? ⟨b,o+i*4+3,none⟩=some (.int .i64 a[i].num)
def pK (w:World) (a:Option Addr) (c:List dE):Prop:=c=[]\/∃b o,a=some ⟨b,o,none⟩/\b<w.heap.size/\aEe w b o c
theorem pK.later {w f:World} {a:Option Addr} {e:List dE} (h:pK w a e) (d:Below w.heap.size w f):pK f a e:=by
 rcases h with h|⟨b,o,rfl,c,h⟩
 ·exact Ba h
 ·refine Ea ⟨b,o,rfl,Ab c d.size,fun i m=>?_⟩;obtain⟨g,j,k,l⟩:=h i m;exact⟨by rw[<-g];exact d.cell c,by rw[<-j];exact d.cell c,by rw[<-k];exact d.cell c,by rw[<-l];exact d.cell c⟩
theorem pK.at {w:World} {a:Option Addr} {c:List dE} (h:pK w a c) {i:Nat} (e:i<c.length):
 ∃b o,a=some ⟨b,o,none⟩/\b<w.heap.size/\w.cell? ⟨b,o+i*4,none⟩=some (.int .i64 c[i].kind)/\w.cell? ⟨b,o+i*4+1,none⟩=some (.string c[i].n9)/\w.cell? ⟨b,o+i*4+2,none⟩=some (.string c[i].text)/\w.cell? ⟨b,o+i*4+3,none⟩=some (.int .i64 c[i].num):=by
 rcases h with rfl|⟨b,o,rfl,d,h⟩
 ·exact absurd e (by simp)
 ·exact⟨b,o,rfl,d,h i e⟩
def sF (w:World) (B:Nat) (a:Option Addr) (c:List dE):Prop:=
 c=[]\/∃g o b t,a=some ⟨g,o,none⟩/\B<=g/\w.heap[g]?=some (.cells b t (0,0))/\aEe w g o c
theorem sF.recs {w:World} {B:Nat} {a:Option Addr} {b:List dE} (h:sF w B a b):pK w a b:=by
 rcases h with h|⟨g,o,c,t,rfl,_,d,h⟩
 ·exact Ba h
 ·exact Ea ⟨g,o,rfl,aA d,h⟩
theorem sF.later {w d:World} {B:Nat} {a:Option Addr} {k:List dE} (h:sF w B a k) (e:Below w.heap.size w d):sF d B a k:=by
 rcases h with h|⟨g,o,c,t,rfl,l,f,h⟩
 ·exact Ba h
 ·have b:=aA f;have n:∀j,d.cell? ⟨g,j,none⟩=w.cell? ⟨g,j,none⟩:=fun j=>World.cell?_of_block (e.block g b);exact Ea ⟨g,o,c,t,rfl,l,(e.block g b).trans f,fun i m=>by simp only[n];exact h i m⟩
theorem sF.mono {w:World} {B B':Nat} {a:Option Addr} {d:List dE} (h:sF w B a d) (e:B'<=B):sF w B' a d:=by
 rcases h with h|⟨g,o,b,t,rfl,c,f,h⟩
 ·exact Ba h
 ·exact Ea ⟨g,o,b,t,rfl,Ma e c,f,h⟩
theorem KT {w:World} {B:Nat} {e:TypeId} {a:Option Addr} {k:Nat} {l:List dE}
 (h:w.ownsRow B e 4 (.slice a l.length k) l.length (l.flatMap fun x=>[.int .i64 x.kind,.string x.n9,.string x.text,.int .i64 x.num])):sF w B a l:=by
 rcases h.2 with⟨_,t⟩|⟨g,n,b,o,p,d,_,_,u,m⟩
 ·exact Ba (Fb.1 t)
 ·simp only[Value.slice.injEq]at o;have q:∀(l:List dE) i (c:i<l.length),(l.flatMap fun x=>[Value.int .i64 x.kind,.string x.n9,.string x.text,.int .i64 x.num])[i*4]?=some (.int .i64 l[i].kind)/\(l.flatMap fun x=>[Value.int .i64 x.kind,.string x.n9,.string x.text,.int .i64 x.num])[i*4+1]?=some (.string l[i].n9)/\(l.flatMap fun x=>[Value.int .i64 x.kind,.string x.n9,.string x.text,.int .i64 x.num])[i*4+2]?=some (.string l[i].text)/\(l.flatMap fun x=>[Value.int .i64 x.kind,.string x.n9,.string x.text,.int .i64 x.num])[i*4+3]?=some (.int .i64 l[i].num):=by
   intro l;induction l with
   |nil=>intro i c;exact absurd c (by simp)
   |cons x r v=>
    intro i c;cases i with
    |zero=>simp
    |succ i=>
     have:=v i (by simpa using c);simp only[Yc,Hd,Jb,Vb];refine⟨?_,?_,?_,?_⟩
     ·rw[show(i+1)*4=i*4+1+1+1+1 by omega,Fa,Fa,Fa,Fa];exact this.1
     ·rw[show(i+1)*4+1=i*4+1+1+1+1+1 by omega,Fa,Fa,Fa,Fa];exact this.2.1
     ·rw[show(i+1)*4+2=i*4+2+1+1+1+1 by omega,Fa,Fa,Fa,Fa];exact this.2.2.1
     ·rw[show(i+1)*4+3=i*4+3+1+1+1+1 by omega,Fa,Fa,Fa,Fa];exact this.2.2.2
  refine Ea ⟨g,0,b,e,o.1,p,d,fun i c=>?_⟩;have f:∀j,j<l.length*4->b[j]?=(l.flatMap fun x=>[Value.int .i64 x.kind,.string x.n9,.string x.text,.int .i64 x.num])[j]?:=fun j s=>by
   rw[<-m,Eb s,Sd]
  rw[cell_of_row w g _ b _ _ d,cell_of_row w g _ b _ _ d,cell_of_row w g _ b _ _ d,cell_of_row w g _ b _ _ d,Oa,f _ (by omega),f _ (by omega),f _ (by omega),f _ (by omega)];exact q l i c
def fE:List dE->Nat
 |[]=>0
 |f::r=>f.n9.size+f.text.size+fE r
theorem wX (a b:List dE):fE (a++b)=fE a+fE b:=by
 induction a with
 |nil=>simp[fE]
 |cons f r c=>simp[fE,c];omega
theorem EO (a:List dE) (k:Nat) (h:k<a.length):fE (a.take (k+1))=fE (a.take k)+(a[k].n9.size+a[k].text.size):=by
 rw[La h,wX];simp[fE]
theorem LZ (a:List dE) (k:Nat):fE (a.take k)<=fE a:=by
 have:=wX (a.take k) (a.drop k);rw[Xa]at this;omega
def mL (l:List UInt8):Nat:=l.foldl (fun v c=>v*256+c.toNat) 0
theorem sW (l:List UInt8) (c:UInt8):mL (l++[c])=mL l*256+c.toNat:=by simp[mL]
theorem wS (l:List UInt8):mL l<256 ^ l.length:=by
 have b:∀(n:Nat) (l:List UInt8),l.length=n->mL l<256 ^ n:=fun n=>by
  induction n with
  |zero=>intro l h;rw[Fb.1 h];decide
  |succ n c=>
   intro l h;have a:l≠[]:=by intro e;rw[e]at h;simp at h
   rw[<-List.dropLast_concat_getLast a,sW];have d:=c l.dropLast (by simp[h]);have f:=(l.getLast a).toNat_lt;rw[Oc];omega
 exact b _ l rfl
def zC (s:ByteArray) (p n:Nat):List UInt8:=(s.data.toList.drop p).take n
theorem kF {s:ByteArray} {p n:Nat} (h:p+n<=s.size):(zC s p n).length=n:=by
 have:s.data.toList.length=s.size:=by simp
 simp only[zC,Ta,Lc];omega
theorem BK {s:ByteArray} {p k:Nat} (h:p+k<s.size):zC s p (k+1)=zC s p k++[s[p+k]]:=by
 have a:s.data.toList.length=s.size:=by simp
 unfold zC;rw[La (by rw[Lc,a];omega),List.getElem_drop];rfl
def zK (n:Nat):Nat->List UInt8
 |0=>[]
 |i+1=>(48+UInt8.ofNat (n / 10 ^ i % 10)):: zK n i
def wR (n:Nat):ByteArray:=⟨(119::97::108::45::zK n 6).toArray⟩
def vD (n:Int):ByteArray:=if 1<=n/\n<=999999 then wR n.toNat else ByteArray.empty
theorem zJ (n:Nat):∀i,(zK n i).length=i
 |0=>rfl
 |i+1=>by simp[zK,zJ n i]
theorem mQ (n:Int):(vD n).size<=10:=by
 unfold vD;split
 ·show(119::97::108::45::zK n.toNat 6).toArray.size<=10;simp[zJ]
 ·simp
theorem aAc (k:Nat):UInt8.ofNat (48+k)=48+UInt8.ofNat k:=by rw[UInt8.ofNat_add];rfl
theorem js (n:Nat) (h:n<1000000):Lib.itoa ((1000000+n:Nat):Int)=49::zK n 6:=by
 have a:Lib.nDigits (1000000+n)=7:=Lib.nDigits_unique 6 _ (by omega) (by omega);rw[Lib.itoa,Ca (by omega),Mc,Lib.decDigits_eq,a];simp only[List.range_succ,List.range_zero,Sb,Tg,Jb,Hd,zK,Lib.dg,aAc];congr 1
 ·rw[show(1000000+n) / 10 ^ (7-1-0) % 10=1 by omega];rfl
 ·simp only[List.cons.injEq,Ub];refine⟨?_,?_,?_,?_,?_,?_⟩<;>congr 2<;>omega
def vW (x y:ByteArray):Int:=if Op.bytesLess x.toList y.toList=true then -1 else if (x.toList==y.toList)=true then 0 else 1
theorem IE (s:ByteArray) (w:World):Calls prog 159 #[.string s] w fun e a=>e=.returned (.bool false)/\a=w:=by
 go_enter func159,ntmps159;go_wp2;go_ret;exact⟨rfl,rfl⟩
theorem JN (x y:ByteArray) (w:World):Calls prog 126 #[.string x,.string y] w fun e c=>e=.returned (.int .i64 (vW x y))/\c=w:=by
 by_cases b:Op.bytesLess x.toList y.toList=true
 ·have E:Hid (vW x y = -1):=by show _=_;simp[vW,b]
  go_enter func126,ntmps126;go_wp2_with(first|(go_at_call 159;refine(IE _ _).mono ?_;rintro e c ⟨rfl,rfl⟩));go_ret;exact⟨iC E.out.symm,rfl⟩
 have a:Op.bytesLess x.toList y.toList=false:=by simpa using b
 by_cases d:(x.toList==y.toList)=true
 ·have E:Hid (vW x y=0):=by show _=_;simp[vW,a,d]
  clear b;go_enter func126,ntmps126;go_wp2_with(first|(go_at_call 159;refine(IE _ _).mono ?_;rintro e c ⟨rfl,rfl⟩));go_ret;exact⟨iC E.out.symm,rfl⟩
 have f:(x.toList==y.toList)=false:=by simpa using d
 have E:Hid (vW x y=1):=by show _=_;simp only[vW,a,f];rfl
 clear b d;go_enter func126,ntmps126;go_wp2_with(first|(go_at_call 159;refine(IE _ _).mono ?_;rintro e c ⟨rfl,rfl⟩));go_ret;exact⟨iC E.out.symm,rfl⟩
def BM (v:Int):Nat->Int
 |0=>v
 |k+1=>BM v k / 256
def pW (v:Int):Nat->List Int
 |0=>[]
 |n+1=>BM v n % 256::pW v n
def aB (n:Nat) (v:Int):ByteArray:=strOfNums (pW v n)
theorem nX (v:Int):∀n,(pW v n).length=n
 |0=>rfl
 |n+1=>by simp[pW,nX v n]
theorem bB (n:Nat) (v:Int):(aB n v).size=n:=by
 rw[aB,strOfNums_size,nX]
theorem ZL:∃i,prog.info? 5=some i/\i.zero=some (.int .u8 0)/\i.size=1/\i.bytes=1:=by
 have h:(prog.info? 5).map (fun i=>(i.zero,i.size,i.bytes))=some (some (.int .u8 0),1,1):=by kernel_rfl
 obtain⟨i,b,a⟩:=Ib.1 h;simp only[Hb]at a;exact⟨i,b,a.1,a.2.1,a.2.2⟩
theorem aEz {w:World} {B:Nat} {f:Option Addr} {j:Nat} {a:List Int} (h:w.ownsRow B 5 1 (.slice f a.length j) a.length (a.map (Value.int .u8))):
 (convert 160 9 (.slice f a.length j)).run prog w=.ok (.string (strOfNums a)) w:=by
 rcases h.2 with⟨c,r⟩|⟨g,l,b,c,_,n,p,_,q,d⟩
 ·simp only[Value.slice.injEq]at c;obtain⟨rfl,m,rfl⟩:=c;have e:a=[]:=Fb.1 m;subst e;exact run_convert_bytes_nil w 160 5 underlying160 underlying5 _ _ 9 underlying9
 ·simp only[Value.slice.injEq]at c;obtain⟨rfl,_,rfl⟩:=c;refine run_convert_bytes_arg w 160 5 underlying160 underlying5 g 0 _ _ a rfl (fun i o=>?_) 9 underlying9;rw[Oa,cell_of_row w g i b _ _ n];have k:(b.toList.take (a.length*1))[i]?=(a.map (Value.int .u8))[i]?:=by rw[d]
  rw[Eb (by omega)]at k;rw[<-Sd,k];simp[List.getD,Ka o]
theorem aE (n:Nat) (v:Int) (w:World) (hn:n<=8) (G : -9223372036854775808<=v) (H:v<=9223372036854775807):
 Calls prog 85 #[.int .i64 n,.int .i64 v] w fun e T=>e=.returned (.string (aB n v))/\Below w.heap.size w T:=by
 obtain⟨L,p,B,C,D⟩:=ZL;have M:Hid (prog.info? 5=some L):=p;clear p;have V:Hid (-9223372036854775808<=v/\v<=9223372036854775807):=⟨G,H⟩
 clear G H;go_enter func85,ntmps85;go_wp2;go_loopw [5,6,7,8] (fun E i _ _ wr=>∃(m:Nat) (a:List Int) (s:Option Addr) (t:Nat),a.length+m=n/\Hid (a++pW v m=pW v n)/\i=.int .i64 ((m:Int)-1)/\E=.slice s a.length t/\Hid (wr.ownsRow w.heap.size 5 1 (.slice s a.length t) a.length (a.map (Value.int .u8)))/\Below w.heap.size w wr) (fun _ i _ _ _=>((intOf i)+1).toNat)
 case atStart=>
  exact⟨n,[],_,_,by simp,by show _=_;simp,by simp,rfl,World.ownsRow_made w #[] 0 (Da _) (by simp[maxLen]) (by simp),cA _ _⟩
 case round=>
  obtain⟨m,a,s,t,Z,h,rfl,rfl,d,b⟩:=hrel;by_cases hp:0<m
  ·obtain⟨r,rfl⟩:∃r,m=r+1:=⟨m-1,by omega⟩
   have F:((r+1:Nat):Int)-1=(r:Int):=by omega
   rw[F];clear F;go_wp2;go_loop [7,8] (fun x k=>∃(j:Nat) (X:Int),j<=r/\k=.int .i64 j/\x=.int .i64 X/\Hid (X=BM v j)) (fun _ k=>r-(intOf k).toNat)
   case atStart=>exact⟨0,v,Ha _,rfl,rfl,rfl⟩
   case round=>
    obtain⟨j,X,Y,rfl,rfl,I⟩:=hrel;by_cases R:j<r
    ·go_wp2;exact⟨⟨j+1,X / 256,by omega,by go_num,rfl,by show _=_;rw[BM,I.out]⟩,by simp[intOf];omega⟩
    ·have e:j=r:=by omega
     subst e;have S:=b.size;go_wp2_with(at_builtin;refine wpList_append_lies _ rfl _ _ _ rfl w.heap.size 5 L _ 1 1 underlying160 M.out B C D rfl (by omega) (.slice s a.length t) a.length (a.map (Value.int .u8)) rfl (by exact cB d.out (cA _ _)) ⟨wr.heap.size,0,none⟩ 1 1 [.int .u8 (X % 256)] rfl rfl (by exact World.news_of_block (heap_alloc_new _ _)) (by simp[Value.oneCell']) (by omega) (by simp[maxLen];omega) (by omega) (by simp;omega) (wr.heap.size+1) (by simp) ?_;intro P o U c f J K);have y:Below w.heap.size w U:=(pA b (cA _ _)).grown f (by simp;omega) (fun q u=>by
      rcases d.out.2 with⟨z,_⟩|⟨g,N,O,z,W,_⟩
      ·rw[z]at u;simp[Value.ownBlock]at u
      ·rw[z]at u;simp[Value.ownBlock]at u;omega)
     have A:a.map (Value.int .u8)++[Value.int .u8 (X % 256)]=(a++[X % 256]).map (Value.int .u8):=by simp
     have l:(a++[X % 256]).length=a.length+1:=by simp
     rw[A,<-l]at c;refine⟨⟨j,a++[X % 256],some ⟨P,0,none⟩,o,by rw[l];omega,?_,rfl,by rw[l],c,y⟩,by simp[intOf]⟩;show _=_;rw[<-h.out,pW,I.out];simp
  ·have e:m=0:=by omega
   subst e;have Q:=aEz d.out;go_wp2;go_ret;refine⟨Zc (fun x=>Ending.returned (.string x)) ?_,b⟩;rw[aB,<-h.out,pW,Dd]
def BA (v:Nat):Nat->List Nat
 |0=>[]
 |n+1=>v / 256 ^ n % 256::BA v n
theorem KJ (v:Nat):∀n,(BA v n).length=n
 |0=>rfl
 |n+1=>by simp[BA,KJ v n]
theorem np (v:Nat):∀k,BM (v:Int) k=((v / 256 ^ k:Nat):Int)
 |0=>by simp[BM]
 |k+1=>by rw[BM,np v k,Oc,<-Ag];omega
theorem QO (v:Nat):∀n,pW (v:Int) n=(BA v n).map (fun x:Nat=>(x:Int))
 |0=>rfl
 |n+1=>by rw[pW,BA,Sb,QO v n,np];simp
theorem lo (a b n:Nat):∀m,m<=n->BA (a*256 ^ n+b) m=BA b m
 |0,_=>rfl
 |m+1,h=>by
  rw[BA,BA,lo a b n m (by omega)];congr 1;obtain⟨d,rfl⟩:∃d,n=m+1+d:=⟨n-(m+1),by omega⟩
  have e:a*256 ^ (m+1+d)+b=b+256 ^ m*(a*256 ^ d*256):=by rw[Nat.pow_add,Oc,Nat.add_comm];congr 1;ac_rfl
  rw[e,Nat.add_mul_div_left _ _ (We (by omega))];omega
theorem ey (c:UInt8) (l:List UInt8):mL (c::l)=c.toNat*256 ^ l.length+mL l:=by
 have f:∀(l:List UInt8) (v:Nat),l.foldl (fun v c=>v*256+c.toNat) v=v*256 ^ l.length+mL l:=fun l=>by
  induction l with
  |nil=>intro v;simp[mL]
  |cons d l e=>
   intro v;have a:=e (v*256+d.toNat);have b:=e (0*256+d.toNat);simp only[mL,Wc,Sa,Oc]at a b |-
   rw[a,b];simp only[Nat.add_mul,Nat.zero_mul,Oa];rw[Nat.add_assoc];congr 1;ac_rfl
 have:=f l (0*256+c.toNat);simpa[mL]using this
theorem xi:∀(l:List UInt8),BA (mL l) l.length=l.map (fun c=>c.toNat)
 |[]=>rfl
 |c::l=>by
  have a:=wS l;have b:=c.toNat_lt;rw[Sa,BA,ey,lo _ _ _ _ (Da _),xi l,Sb];congr 1;rw[Nat.add_comm,Nat.mul_comm,Nat.add_mul_div_left _ _ (We (by omega)),Nat.div_eq_of_lt a];omega
theorem MS (l:List UInt8) (n:Nat) (h:l.length=n):aB n (mL l:Nat)=⟨l.toArray⟩:=by
 subst h;rw[aB,QO,xi,strOfNums];congr 2;rw[Wd,Wd];conv=>rhs;rw[<-List.map_id l]
 congr 1;funext c;simp
theorem vx (v:Nat):∀n,mL ((BA v n).map UInt8.ofNat)=v % 256 ^ n
 |0=>by simp[BA,mL,Nat.mod_one]
 |n+1=>by
  rw[BA,Sb,ey,vx v n,Ua,KJ,UInt8.toNat_ofNat_of_lt' (by show _<256;omega),Oc,Nat.mod_mul];rw[Nat.mul_comm,Nat.add_comm]
theorem aCj (n v:Nat):(aB n v).data.toList=(BA v n).map UInt8.ofNat:=by
 rw[aB,QO,strOfNums_data,Wd];congr 1
theorem aO (n v:Nat) (h:v<256 ^ n):mL (aB n v).data.toList=v:=by
 rw[aCj,vx,Hc h]
section
open Go.Extern.Stop Go.Stop Go.Extern
theorem aFr (v:Value) (w:World):(Extern.ReflectliteType.typeOf #[.iface 139 v]).run prog w=.ok (.iface 225 (.agg #[.pointer (some ⟨8,139,none⟩)])) w:=by kernel_rfl
theorem ZQ (w : World) : ((Extern.ReflectliteType.method fun t => do Extern.Rtype.noPackHeld "Comparable" t; pure (.bool (<- typeInfo t).comparable)) #[.agg #[.pointer (some ⟨8, 139, none⟩)]]).run prog w = .ok (.bool true) w := by kernel_rfl
theorem NK (w:World):(callFunc 334 #[.agg #[.pointer (some ⟨8,139,none⟩)]]).run prog w=.ok (.value (.bool true)) w:=by
 rw [@run_callFunc_extern prog 334 _ (Extern.ReflectliteType.method fun t => do Extern.Rtype.noPackHeld "Comparable" t; pure (.bool (<- typeInfo t).comparable)) func334 (by kernel_rfl) (by kernel_rfl) (by kernel_rfl) (by kernel_rfl), ZQ]
 rfl
theorem qf (v:Value) (w:World):(callFunc 107 #[.iface 139 v]).run prog w=.ok (.value (.iface 225 (.agg #[.pointer (some ⟨8,139,none⟩)]))) w:=by
 rw[@run_callFunc_extern prog 107 _ Extern.ReflectliteType.typeOf func107 (by kernel_rfl) (by kernel_rfl) (by kernel_rfl) (by kernel_rfl),aFr];rfl
theorem AO (v : Value) (w : World) : (Go.method 512 225 v "Comparable").run prog w = .ok (334, v) w := by kernel_rfl
theorem aNw:(prog.info? 139).map (·.comparable)=some true:=by kernel_rfl
theorem aQb (v:Value) (a:TypeId) (w:World):(Instr.typeAssert (.iface 139 v) a 227 true).run prog w=.ok (.tuple #[.nilIface,.bool false]) w:=run_typeAssert_lacksB underlying227 (by kernel_rfl) (by kernel_rfl) v a w
theorem aHb (v:Value) (a:TypeId) (w:World):(Instr.typeAssert (.iface 139 v) a 230 true).run prog w=.ok (.tuple #[.nilIface,.bool false]) w:=run_typeAssert_lacksB underlying230 (by kernel_rfl) (by kernel_rfl) v a w
theorem aCg (v:Value) (a:TypeId) (w:World):(Instr.typeAssert (.iface 139 v) a 231 true).run prog w=.ok (.tuple #[.nilIface,.bool false]) w:=run_typeAssert_lacksB underlying231 (by kernel_rfl) (by kernel_rfl) v a w
theorem ET {P:Program} (w:World) {t c:TypeId} {l:Array (String×TypeId)} (a b:ByteArray)
 (j:P.underlying t=some (.interface l)) (f:(P.info? c).map (·.comparable)=some true) (k:P.underlying c=some .string):
 (binOp .eql t (.iface c (.string a)) (.iface c (.string b))).run P w=.ok (.bool (a==b)) w:=by
 obtain⟨i,g,e⟩:=Ib.1 f;have h:∀d:Nat,(Op.equalIn (d+2) t (.iface c (.string a)) (.iface c (.string b))).run P w=.ok (a==b) w:=fun d=>by
  simp[Op.equalIn,run_underlying j,run_underlying k,typeInfo,g,e]
 simp only[binOp];simp[Op.equal,Op.maxDepth,h 9998]
theorem gD (a b:ByteArray) (r:Bool) (c:(a==b)=r) (w:World):
 Calls prog 67 #[.iface 139 (.string a),.iface 139 (.string b)] w fun e f=>e=.returned (.bool r)/\f=w:=by
 have j:=qf;have g:=NK;have h:=AO;have i:=aQb;have k:=aHb;have l:=aCg;have d:(binOp .eql 79 (.iface 139 (.string a)) (.iface 139 (.string b))).run prog w=.ok (.bool r) w:=by
  rw[ET w a b underlying79 aNw underlying139,c]
 clear c;cases r
 ·go_enter func67,ntmps67;go_wp2;refine wp_loop_rounds 1 ?_;rw[rounds_succ];go_wp2;go_ret;exact⟨rfl,rfl⟩
 ·go_enter func67,ntmps67;go_wp2;refine wp_loop_rounds 1 ?_;rw[rounds_succ];go_wp2;go_ret;exact⟨rfl,rfl⟩
end
structure eB where
 name:ByteArray
 value:ByteArray
def tS (w:World) (b o:Nat) (a:List eB):Prop:=
 ∀i (h:i<a.length),w.cell? ⟨b,o+i*2,none⟩=some (.string a[i].name)/\w.cell? ⟨b,o+i*2+1,none⟩=some (.string a[i].value)
def gE (w:World) (a:Option Addr) (c:List eB):Prop:=c=[]\/∃b o,a=some ⟨b,o,none⟩/\b<w.heap.size/\tS w b o c
theorem gE.later {w f:World} {a:Option Addr} {e:List eB} (h:gE w a e) (d:Below w.heap.size w f):gE f a e:=by
 rcases h with h|⟨b,o,rfl,c,h⟩
 ·exact Ba h
 ·refine Ea ⟨b,o,rfl,Ab c d.size,fun i k=>?_⟩;obtain⟨g,j⟩:=h i k;exact⟨by rw[<-g];exact d.cell c,by rw[<-j];exact d.cell c⟩
theorem gE.at {w:World} {a:Option Addr} {c:List eB} (h:gE w a c) {i:Nat} (e:i<c.length):
 ∃b o,a=some ⟨b,o,none⟩/\b<w.heap.size/\w.cell? ⟨b,o+i*2,none⟩=some (.string c[i].name)/\w.cell? ⟨b,o+i*2+1,none⟩=some (.string c[i].value):=by
 rcases h with rfl|⟨b,o,rfl,d,h⟩
 ·exact absurd e (by simp)
 ·exact⟨b,o,rfl,d,h i e⟩
def iE (w:World) (B:Nat) (a:Option Addr) (c:List eB):Prop:=
 c=[]\/∃g o b t,a=some ⟨g,o,none⟩/\B<=g/\w.heap[g]?=some (.cells b t (0,0))/\tS w g o c
theorem iE.labs {w:World} {B:Nat} {a:Option Addr} {b:List eB} (h:iE w B a b):gE w a b:=by
 rcases h with h|⟨g,o,c,t,rfl,_,d,h⟩
 ·exact Ba h
 ·exact Ea ⟨g,o,rfl,aA d,h⟩
theorem iE.later {w d:World} {B:Nat} {a:Option Addr} {k:List eB} (h:iE w B a k) (e:Below w.heap.size w d):iE d B a k:=by
 rcases h with h|⟨g,o,c,t,rfl,l,f,h⟩
 ·exact Ba h
 ·have b:=aA f;have n:∀j,d.cell? ⟨g,j,none⟩=w.cell? ⟨g,j,none⟩:=fun j=>World.cell?_of_block (e.block g b);exact Ea ⟨g,o,c,t,rfl,l,(e.block g b).trans f,fun i m=>by simp only[n];exact h i m⟩
theorem iE.mono {w:World} {B B':Nat} {a:Option Addr} {d:List eB} (h:iE w B a d) (e:B'<=B):iE w B' a d:=by
 rcases h with h|⟨g,o,b,t,rfl,c,f,h⟩
 ·exact Ba h
 ·exact Ea ⟨g,o,b,t,rfl,Ma e c,f,h⟩
theorem uO {w:World} {B:Nat} {e:TypeId} {a:Option Addr} {d:Nat} {l:List eB}
 (h:w.ownsRow B e 2 (.slice a l.length d) l.length (l.flatMap fun x=>[.string x.name,.string x.value])):iE w B a l:=by
 rcases h.2 with⟨_,t⟩|⟨g,m,b,o,p,f,_,_,u,k⟩
 ·exact Ba (Fb.1 t)
 ·simp only[Value.slice.injEq]at o;have q:∀(l:List eB) i (c:i<l.length),(l.flatMap fun x=>[Value.string x.name,.string x.value])[i*2]?=some (.string l[i].name)/\(l.flatMap fun x=>[Value.string x.name,.string x.value])[i*2+1]?=some (.string l[i].value):=by
   intro l;induction l with
   |nil=>intro i c;exact absurd c (by simp)
   |cons x r v=>
    intro i c;cases i with
    |zero=>simp
    |succ i=>
     have:=v i (by simpa using c);simp only[Yc,Hd,Jb,Vb];rw[show(i+1)*2=i*2+1+1 by omega,Fa,Fa,Fa,Fa];exact this
  refine Ea ⟨g,0,b,e,o.1,p,f,fun i c=>?_⟩;have n:∀j,j<l.length*2->b[j]?=(l.flatMap fun x=>[Value.string x.name,.string x.value])[j]?:=fun j s=>by
   rw[<-k,Eb s,Sd]
  rw[cell_of_row w g _ b _ _ f,cell_of_row w g _ b _ _ f,Oa,n _ (by omega),n _ (by omega)];exact q l i c
theorem RI {P:Program} {o:Oper} {a:Act} {w:World} {c:Act->Prop} (h:o.quiet P a (fun j=>∃_:Unit,j=w) c):o.still P a w c:=by
 obtain⟨v,i,d⟩:=h;have b:=i w ⟨(),rfl⟩;unfold Oper.quietAt at b;unfold Oper.still;generalize (execOp a.eval o).run P w=r at b;unfold Oper.quietUpon at b;unfold Oper.stillUpon;split at b
 ·obtain⟨rfl,rfl⟩:=b;exact⟨rfl,d⟩
 ·obtain⟨rfl,rfl⟩:=b;exact⟨rfl,d⟩
 ·obtain⟨rfl,f⟩:=b;exact⟨rfl,v,f.mono fun e k ⟨g,_,hw⟩=>⟨g,hw⟩,d⟩
 ·exact b.elim
theorem xN {P:Program} {b:Array Oper} {w:World} {Q:Act->Prop}:∀(l:List Oper) (a:Act),wpQuiet P b (fun e=>∃_:Unit,e=w) Q l a->wpStill P b w Q l a
 |[],a,h=>h
 |o::rest,a,h=>by
  unfold wpQuiet at h;unfold wpStill;split
  ·rename_i hw;rw[Ga hw]at h;exact RI (Oper.quiet_mono (fun c d=>xN rest c d) h)
  ·rename_i hw;rw[Ca hw]at h;exact xN rest _ h
theorem sE {P:Program} {id:Nat} {Q:Exit->Act->World->Prop} {a:Act} {w:World} {l:List Oper} (n:Nat) (d:P.follows .mixedOrders=true) (c:Region.lexTailB .any l.toArray n=true)
 (h:wpQuiet P l.toArray (fun e=>∃_:Unit,e=w.drew) (fun b=>wpList P l.toArray Q (l.drop n) b w.drew) (l.take n) a):(Code.region id l.toArray true).wp P Q a w:=
 wp_region_still_tail n d c (xN _ _ h)
theorem zQ:(prog.info? 199).map (fun i=>(i.zero,i.size,i.bytes))=some (some (.agg #[.string ByteArray.empty,.string ByteArray.empty]),2,32):=by kernel_rfl
