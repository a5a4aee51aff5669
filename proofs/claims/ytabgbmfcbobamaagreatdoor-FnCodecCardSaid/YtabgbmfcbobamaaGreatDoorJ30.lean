import Derived.Test.YtabgbmfcbobamaaGreatDoorJ26
import Derived.Test.YtabgbmfcbobamaaGreatDoorJ27
set_option maxRecDepth 100000
set_option maxHeartbeats 8000000
namespace Go.Proofs.YtabgbmfcbobamaaGreatDoor
open Go.RowKit Tryz
theorem ln {C:World->Prop} {w:World} {O:Nat} {q r s u v x y z A B D E F G a b c d e f g u7 i j l m n o:Value} {t:TypeId} (h:eA w O #[q,r,s,u,v,x,y,z,A,B,D,E,F,G] t)
 (k:∀p,eA p O #[a,b,c,d,e,f,g,u7,i,j,l,m,n,o] t->gA (·=O) w p->C p):C ((((((((((((((w.setCell ⟨O,0,none⟩ a).setCell ⟨O,1,none⟩ b).setCell ⟨O,2,none⟩ c).setCell ⟨O,3,none⟩ d).setCell ⟨O,4,none⟩ e).setCell ⟨O,5,none⟩ f).setCell ⟨O,6,none⟩ g).setCell ⟨O,7,none⟩ u7).setCell ⟨O,8,none⟩ i).setCell ⟨O,9,none⟩ j).setCell ⟨O,10,none⟩ l).setCell ⟨O,11,none⟩ m).setCell ⟨O,12,none⟩ n).setCell ⟨O,13,none⟩ o):=
 k _ (by have:=((((((((((((((h.set 0 a).set 1 b).set 2 c).set 3 d).set 4 e).set 5 f).set 6 g).set 7 u7).set 8 i).set 9 j).set 10 l).set 11 m).set 12 n).set 13 o);simpa using this) (((((((((((((((gA.refl (·=O) w).setCell (Ca rfl) 0 a).setCell (Ca rfl) 1 b).setCell (Ca rfl) 2 c).setCell (Ca rfl) 3 d).setCell (Ca rfl) 4 e).setCell (Ca rfl) 5 f).setCell (Ca rfl) 6 g).setCell (Ca rfl) 7 u7).setCell (Ca rfl) 8 i).setCell (Ca rfl) 9 j).setCell (Ca rfl) 10 l).setCell (Ca rfl) 11 m).setCell (Ca rfl) 12 n).setCell (Ca rfl) 13 o)
theorem sd {C:World->Prop} {w:World} {O:Nat} {q r s u v x y z A l m n o p a b c d e f g u7 i:Value} {t:TypeId} (h:eA w O #[q,r,s,u,v,x,y,z,A,l,m,n,o,p] t)
 (k:∀j,eA j O #[a,b,c,d,e,f,g,u7,i,l,m,n,o,p] t->gA (·=O) w j->C j):C (((((((((w.setCell ⟨O,0,none⟩ a).setCell ⟨O,1,none⟩ b).setCell ⟨O,2,none⟩ c).setCell ⟨O,3,none⟩ d).setCell ⟨O,4,none⟩ e).setCell ⟨O,5,none⟩ f).setCell ⟨O,6,none⟩ g).setCell ⟨O,7,none⟩ u7).setCell ⟨O,8,none⟩ i):=
 k _ (by have:=(((((((((h.set 0 a).set 1 b).set 2 c).set 3 d).set 4 e).set 5 f).set 6 g).set 7 u7).set 8 i);simpa using this) ((((((((((gA.refl (·=O) w).setCell (Ca rfl) 0 a).setCell (Ca rfl) 1 b).setCell (Ca rfl) 2 c).setCell (Ca rfl) 3 d).setCell (Ca rfl) 4 e).setCell (Ca rfl) 5 f).setCell (Ca rfl) 6 g).setCell (Ca rfl) 7 u7).setCell (Ca rfl) 8 i)
theorem wd {s:ByteArray} {p n:Nat} {t:ByteArray} {q:Nat} (h:tF s p n=some (t,q)):q=p+n+t.size:=by
 unfold tF at h;split at h
 ·rename_i a;simp only[Pa,Hc]at h;obtain⟨rfl,rfl⟩:=h;rw[Hd];omega
 ·exact absurd h (by simp)
theorem PT {s:ByteArray} {n:Nat} {p:Option Nat} {q:Nat} (h:(iG s n p).2=some q):∃a,p=some a/\q=a+n+(iG s n p).1.size:=by
 cases p with
 |none=>exact absurd h (by simp[iG])
 |some a=>
  refine⟨a,rfl,?_⟩;cases hh:tF s a n with
  |none=>rw[cX hh]at h;simp at h
  |some b=>
   obtain⟨t,r⟩:=b;rw[aW hh]at h |-
   simp only[Pa]at h;have:=wd hh;simp only;omega
theorem ZD {s:ByteArray} {n:Nat} {p:Option Nat} {q:Nat} (h:(cU s n p).2=some q):∃a,p=some a/\q=a+n:=by
 cases p with
 |none=>exact absurd h (by simp[cU])
 |some p=>
  rw[fP]at h;split at h
  ·simp at h;exact⟨p,rfl,by omega⟩
  ·simp at h
theorem eU (s:ByteArray) (n:Nat) (p:Option Nat):(iG s n p).1.size<=s.size:=by
 cases p with
 |none=>simp[iG]
 |some p=>
  cases hh:tF s p n with
  |none=>rw[cX hh];simp
  |some a=>
   obtain⟨t,r⟩:=a;rw[aW hh];exact(IV hh).2.1
theorem KW (s:ByteArray) (n:Nat) (p:Option Nat):(cU s n p).1<256 ^ n:=by
 cases p with
 |none=>exact Fg (by omega)
 |some p=>
  rw[fP];split
  ·rename_i a;have:=aZ (fI s p n);rw[sL a]at this;exact this
  ·exact Fg (by omega)
theorem vi {α:Type} {g:Option Nat->α×Option Nat} {a:Option Nat} {k n:Nat} (h:¬(k<n/\∃q,(lL g a k).2=some q)) (f:k<=n):lL g a k=lL g a n/\(¬k<n\/k<n/\cO (lL g a n).2 = -1):=by
 rcases Rc k n with c|c
 ·have d:(lL g a k).2=none:=by
   cases hh:(lL g a k).2 with
   |none=>rfl
   |some b=>exact absurd ⟨c,b,hh⟩ h
  have e:=aAj d f;exact⟨e.symm,Ja ⟨c,by rw[e,d];rfl⟩⟩
 ·obtain rfl:k=n:=by omega
  exact⟨rfl,Ca (by omega)⟩
def UI:Value->Nat
 |.slice _ n _=>n
 |_=>0
theorem AO (B P N n:Nat) (w:World) (h:kB w B P N) (c:N<=10000000) (f:1<=n) (d:n<=256):
 Calls prog 34 #[.pointer (some ⟨B,0,none⟩),.int .i64 (n:Nat)] w fun e a=>∃v:Nat,v<n/\e=.returned (.int .i64 (v:Nat))/\kB a B P (N+1)/\dB B w a:=by
 by_cases b:2<=n
 ·exact cB B P N n w h c b d
 ·refine(SP B n w (by omega)).mono ?_;rintro e a ⟨rfl,rfl⟩;exact⟨0,by omega,rfl,h.mono (by omega),dB.refl _ _⟩
theorem ej (a:List mA):∀(i:Nat) (h:i<a.length) (s:ByteArray),(aB a).set (i*2) (.string s)=aB (a.set i ⟨s,a[i].value⟩):=by
 induction a with
 |nil=>intro i h;exact absurd h (by simp)
 |cons l r c=>
  intro i h s;have e:∀(x:mA) (q:List mA),aB (x::q)=.string x.name :: .string x.value::aB q:=fun _ _=>rfl;cases i with
  |zero=>rfl
  |succ i=>
   have b:(i+1)*2=i*2+1+1:=by omega
   rw[e,b,Nd,Nd,c i (by simpa using h) s];rfl
theorem el (a:List mA):∀(i:Nat) (h:i<a.length) (s:ByteArray),(aB a).set (i*2+1) (.string s)=aB (a.set i ⟨a[i].name,s⟩):=by
 induction a with
 |nil=>intro i h;exact absurd h (by simp)
 |cons l r c=>
  intro i h s;have e:∀(x:mA) (q:List mA),aB (x::q)=.string x.name :: .string x.value::aB q:=fun _ _=>rfl;cases i with
  |zero=>rfl
  |succ i=>
   have b:(i+1)*2+1=i*2+1+1+1:=by omega
   rw[e,b,Nd,Nd,c i (by simpa using h) s];rfl
theorem kj {w:World} {a g d n:Nat} {e:TypeId} {f:List Value} (h:w.ownsRow a e 2 (.slice (some ⟨g,0,none⟩) n d) n f) (j:Nat) (u:Value):(w.setCell ⟨g,j,none⟩ u).ownsRow a e 2 (.slice (some ⟨g,0,none⟩) n d) n (f.set j u):=by
 obtain⟨k,l⟩:=h;refine⟨by rw[Xb];exact k,?_⟩;rcases l with⟨c,_⟩|⟨t,i,b,c,m,o,q,p,r,s⟩
 ·exact absurd c (by simp)
 ·simp only[Value.slice.injEq,Pa,Addr.mk.injEq,Yb,Rg]at c;obtain⟨rfl,rfl⟩:=c;refine Ja ⟨g,d,b.setIfInBounds j u,rfl,m,heap_setCell_same w g j b e u o,q,p,by rw[Array.size_setIfInBounds];exact r,?_⟩;rw[Of,List.take_set,s]
theorem MA {w:World} {b g n:Nat} {e:TypeId} {a:List mA} (h:w.ownsRow b e 2 (.slice (some ⟨g,0,none⟩) a.length n) a.length (aB a)) (i:Nat) (c:i<a.length):w.cell? ⟨g,i*2,none⟩=some (.string a[i].name)/\w.cell? ⟨g,i*2+1,none⟩=some (.string a[i].value)/\(∀j,w.frozen? ⟨g,j,none⟩=false)/\b<=g:=by
 obtain⟨u,v,o,k⟩:=cG h;refine⟨k _ _ (FJ a i c),k _ _ ?_,?_,o⟩
 ·have e:∀(a:List mA) (i:Nat) (c:i<a.length),(aB a)[i*2+1]?=some (.string a[i].value):=by
   intro a;induction a with
   |nil=>intro i c;exact absurd c (by simp)
   |cons l r s=>
    intro i c;have e:aB (l::r)=.string l.name :: .string l.value::aB r:=rfl;cases i with
    |zero=>rfl
    |succ i=>
     have q:(i+1)*2+1=i*2+1+1+1:=by omega
     rw[e,q,Ia,Ia,s i (by simpa using c)];rfl
  exact e a i c
 ·rcases h.2 with⟨d,_⟩|⟨t,m,f,d,x,p,_⟩
  ·exact absurd d (by simp)
  ·simp only[Value.slice.injEq,Pa,Addr.mk.injEq,Yb,Rg]at d;obtain⟨rfl,rfl⟩:=d;exact fun j=>frozen_of_row w g j f _ p
theorem MF {b:List mA} (h:uR b) (i:Nat) {l:mA} (c:l.name.size<=65/\l.value.size<=258):uR (b.set i l):=fun x a=>by
 rcases Me a with a|rfl
 ·exact h x a
 ·exact c
theorem xg {w:World} {b g c:Nat} {e:TypeId} {a:List mA} (h:w.ownsRow b e 2 (.slice (some ⟨g,0,none⟩) a.length c) a.length (aB a)) (i:Nat) (d:i<a.length) (s:ByteArray):(w.setCell ⟨g,i*2,none⟩ (.string s)).ownsRow b e 2 (.slice (some ⟨g,0,none⟩) (a.set i ⟨s,a[i].value⟩).length c) (a.set i ⟨s,a[i].value⟩).length (aB (a.set i ⟨s,a[i].value⟩)):=by
 have:=kj h (i*2) (.string s);rw[ej a i d s]at this;rw[Xb];exact this
theorem bh {w:World} {b g c:Nat} {e:TypeId} {a:List mA} (h:w.ownsRow b e 2 (.slice (some ⟨g,0,none⟩) a.length c) a.length (aB a)) (i:Nat) (d:i<a.length) (s:ByteArray):(w.setCell ⟨g,i*2+1,none⟩ (.string s)).ownsRow b e 2 (.slice (some ⟨g,0,none⟩) (a.set i ⟨a[i].name,s⟩).length c) (a.set i ⟨a[i].name,s⟩).length (aB (a.set i ⟨a[i].name,s⟩)):=by
 have:=kj h (i*2+1) (.string s);rw[el a i d s]at this;rw[Xb];exact this
theorem aBp {w:World} {b g f:Nat} {e:TypeId} {a:List mA} (h:w.ownsRow b e 2 (.slice (some ⟨g,0,none⟩) a.length f) a.length (aB a)) (i:Nat) (t:i<=a.length):w.ownsRow b e 2 (.slice (some ⟨g,0,none⟩) i f) i (aB (a.take i)):=by
 refine⟨by rw[lF,Hb];omega,?_⟩;rcases h.2 with⟨d,_⟩|⟨s,j,c,d,n,o,u,p,q,r⟩
 ·exact absurd d (by simp)
 ·simp only[Value.slice.injEq,Pa,Addr.mk.injEq,Yb,Rg]at d;obtain⟨rfl,rfl⟩:=d;refine Ja ⟨g,f,c,rfl,n,o,by omega,p,q,?_⟩;have k:aB a=aB (a.take i)++aB (a.drop i):=by rw[<-eD,Ya]
  have l:(aB (a.take i)).length=i*2:=by rw[lF,Hb];omega
  have m:c.toList.take (i*2)=(c.toList.take (a.length*2)).take (i*2):=by rw[List.take_take,Nat.min_eq_left (by omega)]
  rw[m,r,k,<-l,Hg]
theorem rt (W:World) (x:Obj) {a b:Value} {t:TypeId}:∀j u,[a,b][j]?=some u->((W.alloc x).alloc (.cells #[a,b] t)).cell? ((⟨W.heap.size+1,0,none⟩:Addr).add j)=some u:=
 World.news_of_block (cs:=#[a,b]) (fr:=(0,0)) (by have h:=heap_alloc_new (W.alloc x) (.cells #[a,b] t);simpa using h)
def aDg (w b:World) (B P N:Nat) (e:Ending):Prop:=∃(g c:Nat) (a:List mA),e=.returned (.slice (some ⟨g,0,none⟩) a.length c)/\a.length<=20/\uR a/\b.ownsRow w.heap.size 156 2 (.slice (some ⟨g,0,none⟩) a.length c) a.length (aB a)/\kB b B P N/\dB B w b
theorem qm (B P N:Nat) (w:World) (base g cv:Nat) (f:List mA) (h:kB w B P N) (hN:N<=90000) (hrow:w.ownsRow base 156 2 (.slice (some ⟨g,0,none⟩) f.length cv) f.length (aB f)) (h1:1<=f.length) (h7:f.length<=7) (hsl:uR f):
 Calls prog 65 #[.pointer (some ⟨B,0,none⟩),.slice (some ⟨g,0,none⟩) f.length cv] w fun e w'=>aDg w w' B P (N+100) e:=by
 obtain⟨ti,hti,ht0,X,Y⟩:=vV;have HI:Hid (prog.info? 156=some ti):=hti;clear hti;have HC:Hid (kB w B P N):=h;have V:=h.lt;have M:=h.up.2;have A:Hid (uR f):=hsl;have z:Hid (w.ownsRow base 156 2 (.slice (some ⟨g,0,none⟩) f.length cv) f.length (aB f)):=hrow;clear h hrow hsl;go_enter func65,ntmps65;go_wp2_with(at_builtin;refine wpList_append_lies _ rfl _ _ _ rfl w.heap.size 156 ti _ 2 32 underlying123 HI.out ht0 X Y rfl (by omega) (.slice (some ⟨w.heap.size,0,none⟩) 0 0) 0 [] rfl (by exact World.ownsRow_made w #[] 0 (Ka _) (by simp[maxLen]) (by simp)) ⟨g,0,none⟩ f.length cv (aB f) rfl (lF f) (by exact bg (vA z.out (cA _ _))) (by exact uP f) (by omega) (by simp[maxLen];omega) (by omega) (by simp) (w.heap.size+1) (by simp) ?_;intro o k w1 G J hat1 hlt1);rw[Wa,Nb]at G;have hB1:Below w.heap.size w w1:=(cA w _).grown J (by simp) (fun q hq=>by simp[Value.ownBlock]at hq;omega);have Q:Hid (w1.ownsRow w.heap.size 156 2 (.slice (some ⟨o,0,none⟩) f.length k) f.length (aB f)):=G;have HB1:Hid (Below w.heap.size w w1):=hB1;clear G J hat1 hlt1 hB1 z;refine(AO B P N f.length w1 (HC.out.later HB1.out) (by omega) h1 (by omega)).mono ?_;rintro e w2 ⟨i,hi,rfl,hc2,hb2⟩;have H2:Hid (kB w2 B P (N+1)/\dB B w w2):=⟨hc2,(dB.of HB1.out).trans hb2⟩
 have R:Hid (w2.ownsRow w.heap.size 156 2 (.slice (some ⟨o,0,none⟩) f.length k) f.length (aB f)):=uE Q.out hb2 V;clear hc2 hb2 Q HB1 HC;go_wp2_with fail;refine(cB B P (N+1) 7 w2 H2.out.1 (by omega) (by omega) (by omega)).mono ?_;rintro e r ⟨sw,hsw,rfl,hc3,hb3⟩;have E:Hid (kB r B P (N+2)/\dB B w r):=⟨hc3,H2.out.2.trans hb3⟩
 have m:Hid (r.ownsRow w.heap.size 156 2 (.slice (some ⟨o,0,none⟩) f.length k) f.length (aB f)):=uE R.out hb3 V;have hz3:w.heap.size<=r.heap.size:=E.out.2.size;clear hc3 hb3 R H2;have hi':(i:Int)<(f.length:Nat):=by omega
 obtain⟨x0,x1,xf,hg1⟩:=MA m.out i hi;have a:=xf (i*2+1);clear xf;have T:=A.out f[i] (Xa hi);have hcase:sw=0\/(sw=1\/sw=2)\/sw=3\/sw=4\/sw=5\/sw=6:=by omega
 clear hsw;rcases hcase with rfl|hs12|rfl|rfl|rfl|rfl
 ·clear x0 x1 a;go_wp2_with fail;refine(jJ ⟨#[110]⟩ 1 64 r (by decide) (by omega) (by omega)).mono ?_;rintro e O ⟨b,X,rfl,y⟩;have B4:Hid (Below r.heap.size r O):=y;clear y;go_wp2_with fail;refine(jJ ⟨#[110]⟩ 1 65 O (by decide) (by omega) (by omega)).mono ?_;rintro e w5 ⟨d,Y,rfl,hb5⟩;have B5:Hid (Below r.heap.size r w5):=nA B4.out hb5;clear hb5 B4;go_wp2_with fail;have Z:Hid (vK (w5.alloc (.cells ([⟨#[]⟩,⟨#[57,97]⟩,⟨#[97,45,98]⟩,⟨#[106,111,98]⟩,b,d,⟨#[195,169]⟩].map Value.string).toArray 9)) w5.heap.size 7 65):=pL w5 _ 65 _ 7 rfl (by
   simp only[List.all_cons,List.all_nil,Ag,Sa,Eb];refine⟨by decide,by decide,by decide,by decide,by omega,by omega,by decide⟩)
  simp only[Lb,Qc]at Z;have hC5:=(E.out.1.later B5.out).later (cA w5 (.cells #[.string ⟨#[]⟩,.string ⟨#[57,97]⟩,.string ⟨#[97,45,98]⟩,.string ⟨#[106,111,98]⟩,.string b,.string d,.string ⟨#[195,169]⟩] 9));have hz5:r.heap.size<=w5.heap.size:=B5.out.size;refine(cB B P (N+2) 7 _ hC5 (by omega) (by omega) (by omega)).mono ?_;rintro e w6 ⟨v,hv,rfl,hc6,hb6⟩;have HR6:=Z.out.but hb6 (by omega);obtain⟨s,hcell,hs⟩:=HR6.at hv;have H6:Hid (kB w6 B P (N+3)/\dB B w w6):=⟨hc6,((E.out.2.trans (dB.of B5.out)).later (cA _ _)).trans hb6⟩
  have S:Hid (w6.ownsRow w.heap.size 156 2 (.slice (some ⟨o,0,none⟩) f.length k) f.length (aB f)):=uE (vA (vA m.out B5.out) (cA _ _)) hb6 V;obtain⟨y0,y1,yf,_⟩:=MA S.out i hi;have k0:=yf (i*2);clear hc6 hb6 HR6 Z hC5 B5 E m yf;have hv':(v:Int)<7:=by omega
  go_wp2;refine bodyPost_ret (v:=.slice (some ⟨o,0,none⟩) f.length k) (by simp[results,results65,go_sem]) rfl ?_;have hB7:Below w.heap.size w6 (w6.setCell ⟨o,i*2,none⟩ (.string s)):=(Below.refl _ _).setCell hg1 _;exact⟨o,k,f.set i ⟨s,f[i].value⟩,by rw[Xb],by rw[Xb];omega,MF A.out i ⟨hs,T.2⟩,xg S.out i hi _,(H6.out.1.below (hB7.mono M)).mono (by omega),H6.out.2.below_to hB7⟩
 ·have c0:¬((sw:Int)=0):=by omega
  have c12:(sw:Int)=1\/(sw:Int)=2:=by omega
  clear hs12;rcases c12 with c|c
  all_goals
   rw[c];clear c c0 x0 x1 a;go_wp2_with fail;refine(SA B P (N+2) r E.out.1 (by omega)).mono ?_;rintro e O ⟨va,hva,rfl,U,y⟩;have H4:Hid (kB O B P (N+3)/\dB B w O):=⟨U,E.out.2.trans y⟩
   have n:Hid (O.ownsRow w.heap.size 156 2 (.slice (some ⟨o,0,none⟩) f.length k) f.length (aB f)):=uE m.out y V;obtain⟨y0,y1,yf,_⟩:=MA n.out i hi;have k1:=yf (i*2+1);clear U y m E yf;go_wp2;refine bodyPost_ret (v:=.slice (some ⟨o,0,none⟩) f.length k) (by simp[results,results65,go_sem]) rfl ?_;have t:Below w.heap.size O (O.setCell ⟨o,i*2+1,none⟩ (.string va)):=(Below.refl _ _).setCell hg1 _;exact⟨o,k,f.set i ⟨f[i].name,va⟩,by rw[Xb],by rw[Xb];omega,MF A.out i ⟨T.1,hva⟩,bh n.out i hi _,(H4.out.1.below (t.mono M)).mono (by omega),H4.out.2.below_to t⟩
 ·generalize hnm:f[i].name=nm at *;clear hnm;go_wp2_with(at_builtin;refine wpList_append_lies _ rfl _ _ _ rfl w.heap.size 156 ti _ 2 32 underlying123 HI.out ht0 X Y rfl (by omega) (.slice (some ⟨o,0,none⟩) f.length k) f.length (aB f) rfl (by exact vA m.out (cA _ _)) ⟨r.heap.size,0,none⟩ 1 1 [.string nm,.string ⟨#[119]⟩] rfl rfl (by exact World.news_of_block (cs:=#[.string nm,.string ⟨#[119]⟩]) (heap_alloc_new _ _)) (by simp[Value.oneCell']) (by omega) (by simp[maxLen];omega) (by omega) (by simp;omega) (r.heap.size+1) (by simp) ?_;intro K C w5 p hgrow5 hat5 hlt5);have t:Below w.heap.size r w5:=((cA r _).mono (by omega)).grown hgrow5 (by simp;omega) (fun q hq=>uF m.out q hq);have D:(f++[(⟨nm,⟨#[119]⟩⟩:mA)]).length=f.length+1:=by simp
  have hxs:aB f++[.string nm,.string ⟨#[119]⟩]=aB (f++[⟨nm,⟨#[119]⟩⟩]):=by rw[eD];rfl
  rw[hxs,<-D]at p;refine bodyPost_ret (v:=.slice (some ⟨K,0,none⟩) (f.length+1) C) (by simp[results,results65,go_sem]) rfl ?_;exact⟨K,C,f++[⟨nm,⟨#[119]⟩⟩],by rw[D],by omega,EG A.out ⟨T.1,by show(1:Nat)<=258;omega⟩,p,(E.out.1.below (t.mono M)).mono (by omega),E.out.2.below_to t⟩
 ·go_wp2;refine bodyPost_ret (v:=.slice (some ⟨o,0,none⟩) f.length k) (by simp[results,results65,go_sem]) rfl ?_;have t:Below w.heap.size r (r.setCell ⟨o,i*2+1,none⟩ (.string ⟨#[]⟩)):=(Below.refl _ _).setCell hg1 _;exact⟨o,k,f.set i ⟨f[i].name,⟨#[]⟩⟩,by rw[Xb],by rw[Xb];omega,MF A.out i ⟨T.1,by show(0:Nat)<=258;omega⟩,bh m.out i hi _,(E.out.1.below (t.mono M)).mono (by omega),E.out.2.below_to t⟩
 ·obtain⟨hcap,hgl,_,I⟩:=cG m.out;have hcm:k<=maxLen:=by
   rcases m.out.2 with⟨e1,_⟩|⟨g',cap,cur,e1,_,_,_,hm,_⟩
   ·exact absurd e1 (by simp)
   ·simp only[Value.slice.injEq,Pa,Addr.mk.injEq,Yb,Rg]at e1;rw[e1.2];exact hm
  have HSRC:Hid (iS r.drew (if k=i+1 then some ⟨o,0,none⟩ else some ⟨o,(i+1)*2,none⟩) (f.length-(i+1)) (aB (f.drop (i+1)))):=ce (w:=r.drew) I (i+1) hcap;have HPRE:Hid (r.drew.ownsRow w.heap.size 156 2 (.slice (some ⟨o,0,none⟩) i k) i (aB (f.take i))):=aBp m.out i (by omega);have HL:Hid ((aB (f.drop (i+1))).length=(f.length-(i+1))*2):=by show _=_;rw[lF,Ad]
  clear I x0 x1 a;have hic:i<=k:=by omega
  have hwr:IntKind.i64.wrap ((i:Int)+1)=(i:Int)+1:=by
   simp only[IntKind.wrap,IntKind.bits,IntKind.signed];simp;omega
  have hp0:(0:Int)<=(i:Int)+1:=by omega
  have hp1:(i:Int)+1<=(f.length:Nat):=by omega
  have hp2:((i:Int)+1).toNat=i+1:=by omega
  have hcm2:(k:Int)<=9223372036854775807:=by unfold maxLen at hcm;omega
  go_wp2_with fail;go_region_law (refine tH _ rfl (.tmp 59) (.tmp 63) 123 rfl w.heap.size 156 ti _ 2 32 underlying123 HI.out ht0 X Y rfl (by omega) o i k (aB (f.take i)) (by simp[Act.eval,Act.put]) (by exact HPRE.out) (if k=i+1 then some ⟨o,0,none⟩ else some ⟨o,(i+1)*2,none⟩) (f.length-(i+1)) (k-(i+1)) (aB (f.drop (i+1))) (by simp[Act.eval,Act.put];trace_state) HL.out (by exact HSRC.out) (uP _) (by simp[maxLen];omega) (by omega) (by simpa using hz3) ?_;intro K C w5 p t _ _ _ _)
  all_goals go_wp2
  all_goals
   have D:(f.take i++f.drop (i+1)).length=i+(f.length-(i+1)):=by rw[Za,Hb,Ad];omega
   rw[<-eD,<-D]at p;have L:Below w.heap.size r w5:=((Below.refl _ r).drew).trans t;refine bodyPost_ret (v:=.slice (some ⟨K,0,none⟩) (i+(f.length-(i+1))) C) (by simp[results,results65,go_sem]) rfl ?_;exact⟨K,C,f.take i++f.drop (i+1),by rw[D],by omega,fun x hx=>by
    rw[Oc]at hx;rcases hx with hx|hx
    ·exact A.out x (Ed hx)
    ·exact A.out x (Qe hx),p,(E.out.1.below (L.mono M)).mono (by omega),E.out.2.below_to L⟩
 ·go_wp2_with fail;refine(cB B P (N+2) 2 r E.out.1 (by omega) (by omega) (by omega)).mono ?_;rintro e O ⟨v4,hv4,rfl,U,y⟩;have H4:Hid (kB O B P (N+3)/\dB B w O):=⟨U,E.out.2.trans y⟩
  have n:Hid (O.ownsRow w.heap.size 156 2 (.slice (some ⟨o,0,none⟩) f.length k) f.length (aB f)):=uE m.out y V;clear U y m E x0 x1 a;have H5:Hid (uR f):=A;clear A T hi hi' hg1;go_wp2;go_loopw [1] (fun out wr=>∃(l:List mA) (K F:Nat),out=.slice (some ⟨K,0,none⟩) l.length F/\l.length<=17/\Hid (uR l/\kB wr B P (N+3)/\dB B w wr)/\Hid (wr.ownsRow w.heap.size 156 2 (.slice (some ⟨K,0,none⟩) l.length F) l.length (aB l))/\w.heap.size<=wr.heap.size) (fun out _=>20-UI out)
  case atStart=>exact⟨f,o,k,rfl,by omega,⟨H5.out,H4.out⟩,n.out,H4.out.2.size⟩
  case round=>
   clear H4 n H5 h1 h7;obtain⟨l,K,F,rfl,hal,Z,z,hszr⟩:=hrel;by_cases hgo:(l.length:Int)<16+(v4:Int)
   ·have hal2:l.length<=16:=by omega
    obtain⟨H,htx,hcv⟩:∃H:ByteArray,H.size=1/\(convert 22 9 (.slice (some ⟨wr.heap.size,0,none⟩) 1 1)).run prog (wr.alloc (.cells #[.int .u8 (97+(l.length:Nat))] 5))=.ok (.string H) (wr.alloc (.cells #[.int .u8 (97+(l.length:Nat))] 5)):=
     ⟨strOfNums [97+((l.length:Nat):Int)],qY _,AN (B:=0) (ys:=[97+((l.length:Nat):Int)]) ⟨by simp,.inr ⟨wr.heap.size,1,#[.int .u8 (97+(l.length:Nat))],rfl,La _,heap_alloc_new _ _,Ka _,by simp[maxLen],by simp,by simp⟩⟩⟩
    have HTX:Hid (H.size=1):=htx;have htx2:H.size<=1:=by omega
    clear htx;have HA:Hid (((wr.alloc (.cells #[.int .u8 (97+((l.length:Nat):Int))] 5)).alloc (.cells #[.string (⟨#[110]⟩++H),.string ⟨#[118]⟩] 156)).ownsRow w.heap.size 156 2 (.slice (some ⟨K,0,none⟩) l.length F) l.length (aB l)):=vA (vA z.out (cA _ _)) (cA _ _);have HN2:Hid (∀j u,[Value.string (⟨#[110]⟩++H),Value.string ⟨#[118]⟩][j]?=some u->((wr.alloc (.cells #[.int .u8 (97+((l.length:Nat):Int))] 5)).alloc (.cells #[.string (⟨#[110]⟩++H),.string ⟨#[118]⟩] 156)).cell? ((⟨wr.heap.size+1,0,none⟩:Addr).add j)=some u):=rt _ _;have HZ:Hid (w.heap.size<=((wr.alloc (.cells #[.int .u8 (97+((l.length:Nat):Int))] 5)).alloc (.cells #[.string (⟨#[110]⟩++H),.string ⟨#[118]⟩] 156)).heap.size/\((wr.alloc (.cells #[.int .u8 (97+((l.length:Nat):Int))] 5)).alloc (.cells #[.string (⟨#[110]⟩++H),.string ⟨#[118]⟩] 156)).heap.size=wr.heap.size+1+1):=⟨by simp;omega,by simp⟩
    go_wp2_with(at_builtin;refine wpList_append_lies _ rfl _ _ _ rfl w.heap.size 156 ti _ 2 32 underlying123 HI.out ht0 X Y rfl (by omega) (.slice (some ⟨K,0,none⟩) l.length F) l.length (aB l) rfl HA.out ⟨wr.heap.size+1,0,none⟩ 1 1 [.string (⟨#[110]⟩++H),.string ⟨#[118]⟩] rfl rfl HN2.out (by simp[Value.oneCell']) (by omega) (by simp[maxLen];omega) (by omega) HZ.out.1 (wr.heap.size+1+1) HZ.out.2 ?_;intro g6 cap6 w6 W hgrow6 hat6 hlt6);have L:Below w.heap.size wr w6:=((nA (cA wr _) (cA _ _)).mono hszr).grown hgrow6 (by simp;omega) (fun q hq=>uF z.out q hq);have D:(l++[(⟨⟨#[110]⟩++H,⟨#[118]⟩⟩:mA)]).length=l.length+1:=by simp
    have hxs:aB l++[.string (⟨#[110]⟩++H),.string ⟨#[118]⟩]=aB (l++[⟨⟨#[110]⟩++H,⟨#[118]⟩⟩]):=by rw[eD];rfl
    rw[hxs,<-D]at W;refine⟨⟨l++[(⟨⟨#[110]⟩++H,⟨#[118]⟩⟩:mA)],g6,cap6,by rw[D],by omega,⟨EG Z.out.1 ⟨?_,by show(1:Nat)<=258;omega⟩,Z.out.2.1.below (L.mono M),Z.out.2.2.below_to L⟩,W,Ra hszr L.size⟩,by simp only[UI];omega⟩;simp only;rw[Ga,HTX.out];show(1:Nat)+1<=65;omega
   ·go_wp2;refine bodyPost_ret (v:=.slice (some ⟨K,0,none⟩) l.length F) (by simp[results,results65,go_sem]) rfl ?_;exact⟨K,F,l,rfl,by omega,Z.out.1,z.out,Z.out.2.1.mono (by omega),Z.out.2.2⟩
def rn (a:List mA) (c:Nat):Prop:=a.length<=20/\a.length<=c/\uR a
def xX (w:World) (d c:Nat) (a:Option Addr) (b:List mA):Prop:=b=[]\/∃g o,a=some ⟨g,o,none⟩/\d<=g/\g<c/\g<w.heap.size/\fO w g o b
theorem xX.keep {w w':World} {c b:Nat} {a:Option Addr} {f:List mA} (h:xX w c b a f) (n:w.heap.size<=w'.heap.size) (m:∀g,c<=g->g<b->g<w.heap.size->w'.heap[g]?=w.heap[g]?):xX w' c b a f:=by
 rcases h with h|⟨g,o,rfl,d,e,k,h⟩
 ·exact Ca h
 ·have l:∀j,w'.cell? ⟨g,j,none⟩=w.cell? ⟨g,j,none⟩:=fun j=>World.cell?_of_block (m g d e k);exact Ja ⟨g,o,rfl,d,e,by omega,fun i b=>by simp only[l];exact h i b⟩
theorem xX.wide {w:World} {e d c b:Nat} {a:Option Addr} {f:List mA} (h:xX w e d a f) (j:c<=e) (k:d<=b):xX w c b a f:=by
 rcases h with h|⟨g,o,rfl,l,m,i,h⟩
 ·exact Ca h
 ·exact Ja ⟨g,o,rfl,by omega,by omega,i,h⟩
theorem xX.labs {w:World} {d c:Nat} {a:Option Addr} {b:List mA} (h:xX w d c a b):sC w a b:=by
 rcases h with h|⟨g,o,rfl,_,_,e,h⟩
 ·exact Ca h
 ·exact Ja ⟨g,o,rfl,e,h⟩
theorem gC.inR {w:World} {c:Nat} {a:Option Addr} {d:List mA} (h:gC w c a d):xX w c w.heap.size a d:=by
 rcases h with h|⟨g,o,e,t,rfl,f,b,h⟩
 ·exact Ca h
 ·exact Ja ⟨g,o,rfl,f,aA b,aA b,h⟩
def kz (v:Int):Prop:=-9223372036854775808<=v/\v<=9223372036854775807
def rU:oH XV where
 m:=2
 cells:=fun y=>[.slice y.a y.x.labs.length y.c,.int .i64 y.x.bits]
 len:=fun _=>rfl
 part:=fun w i e y=>xX w i e y.a y.x.labs/\rn y.x.labs y.c/\kz y.x.bits
 keep:=fun h g f=>⟨h.1.keep g f,h.2⟩
 wide:=fun h b d=>⟨h.1.wide b d,h.2⟩
structure QV where
 kind:Int
 n9:ByteArray
 metric:ByteArray
 num:Int
 ys:List XV
 a:Option Addr
 c:Nat
def aCw (k a:Int) (t m:ByteArray) (b:List XV):Prop:=(xQ k=false->t.size=0)/\(uQ k=false->m.size=0)/\(fR k=false->a=0)/\(k≠1->b=[])
def QV.good (q:QV):Prop:=(1<=q.kind/\q.kind<=6)/\q.n9.size<=16/\q.metric.size<=16/\(-100<=q.num/\q.num<=100)/\q.ys.length<=5/\aCw q.kind q.num q.n9 q.metric q.ys
def QV.val (q:QV):Value:=.agg #[.int .i64 q.kind,.string q.n9,.string q.metric,.int .i64 q.num,.slice q.a q.ys.length q.c]
def dV:oH QV where
 m:=5
 cells:=fun q=>[.int .i64 q.kind,.string q.n9,.string q.metric,.int .i64 q.num,.slice q.a q.ys.length q.c]
 len:=fun _=>rfl
 part:=fun w i e q=>RN rU w i e q.a q.ys/\q.good
 keep:=fun h g f=>⟨h.1.keep g f,h.2⟩
 wide:=fun h b d=>⟨h.1.wide b d,h.2⟩
def de (c:vB):Prop:=(1<=c.w/\c.w<=8)/\(1<=c.tl/\c.tl<=7)/\(1<=c.ml/\c.ml<=5)/\(1<=c.sh/\c.sh<=5)/\(0<=c.ha/\c.ha<=2)/\(100<=c.sg/\c.sg<=299)
def RS (w:World) (g m:Nat):Prop:=∃(a:Array Value) (t:TypeId),eA w g a t/\∀j,j<m->∃z:Int,a[j]?=some (.int .i64 z)/\kz z
theorem RS.but {w d:World} {g m B:Nat} (h:RS w g m) (f:dB B w d) (b:g≠B):RS d g m:=by
 obtain⟨a,t,c,e⟩:=h;exact⟨a,t,(f.block g (aA c) b).trans c,e⟩
theorem RS.at {w:World} {g m:Nat} (h:RS w g m) {j:Nat} (d:j<m):∃z:Int,w.cell? ⟨g,j,none⟩=some (.int .i64 z)/\kz z:=by
 obtain⟨a,t,b,c⟩:=h;obtain⟨s,e,f⟩:=c j d;exact⟨s,by rw[b.cell];exact e,f⟩
theorem LZ (w:World) (L:List Int) (t:TypeId) (m:Nat) (b:m=L.length) (h:(L.all fun z=>decide (-9223372036854775808<=z/\z<=9223372036854775807))=true):RS (w.alloc (.cells (L.map (Value.int .i64)).toArray t)) w.heap.size m:=by
 subst b;refine⟨_,t,heap_alloc_new _ _,fun j a=>⟨L[j],by simp[a],?_⟩⟩;have:=Wd.1 h L[j] (Xa a);simpa[kz]using this
theorem UR (k:Nat) (r:Rd):(zA k r).2.rest.size<=r.rest.size:=by rw[zA];exact(xG k r).2.2
theorem xn (r:Rd):(wS r).2.rest.size<=r.rest.size:=by rw[wS];exact Ra (UW _ _).1 (by rw[CA];exact UR 1 r)
theorem aFr (r:Rd):(xS r).2.rest.size<=r.rest.size:=by rw[oQ,GG];exact Ra (UR 8 _) (xn r)
theorem kb (r:Rd) (k:Nat):(yD r k).2.rest.size<=r.rest.size:=by
 induction k with
 |zero=>rw[dJ];exact Ka _
 |succ k a=>
  rw[gX];have:=aFr (yD r k).2;generalize xS (yD r k).2=A at *;exact Ra this a
theorem QF (B:Nat) (r:Rd) (k:Nat) (w:World) (b:RT w B r) (c:k<=8) (d:r.rest.size<=1000000000):
 Calls prog 59 #[.pointer (some ⟨B,0,none⟩),.int .i64 (k:Nat)] w fun e a=>(e=.returned (.int .i64 (jB (zA k r).1))/\(zA k r).2.r9=false/\RT a B (zA k r).2/\dB B w a)\/(e=.panicked aM/\(zA k r).2.r9=true/\dB B w a):=by
 cases h:(zA k r).2.r9 with
 |true=>exact(ZS B r k w b c d h).mono fun e a q=>Ja ⟨q.1,rfl,q.2⟩
 |false=>exact(jr B r k w b c d h).mono fun e a q=>Ca ⟨q.1,rfl,q.2⟩
def GO (r:Rd):Nat×Rd:=zA 2 r
def cy (r:Rd):List jD×Rd:=yD (GO r).2 (GO r).1
def im (B:Nat) (r:Rd) (w:World) (e:Ending) (a:World):Prop:=
 ((cy r).2.r9=false/\∃c b,e=.returned (.slice c (cy r).1.length b)/\tD a w.heap.size c (cy r).1/\RT a B (cy r).2/\dB B w a)\/
 ((cy r).2.r9=true/\e=.panicked aM/\dB B w a)
theorem uu:∃i,prog.info? 126=some i/\i.zero=some (.agg #[.slice none 0 0,.int .i64 0])/\i.size=2/\i.bytes=32:=by
 obtain⟨i,b,a⟩:=Ub.1 YL;simp only[Hc]at a;exact⟨i,b,a.1,a.2.1,a.2.2⟩
theorem dB.upR {g:Nat} {w c d:World} (h:dB g w c) (a:Below w.heap.size c d):dB g w d:=
 ⟨a.os.trans h.os,a.tape.trans h.tape,a.output.trans h.output,Ra h.size a.size,fun k b e=>(a.block k b).trans (h.block k b e)⟩
theorem VC (B:Nat) (r:Rd) (w:World) (hB:RT w B r) (hs:r.rest.size<=1000000000):
 Calls prog 93 #[.pointer (some ⟨B,0,none⟩)] w fun e f=>im B r w e f:=by
 have hBw:B<w.heap.size:=by obtain⟨t,h⟩:=hB;exact aA h
 have HB:Hid (RT w B r):=hB;have HOK:Hid (∀av m f,(yD (GO r).2 (GO r).1).2.r9=false->tD f w.heap.size av (yD (GO r).2 (GO r).1).1->RT f B (yD (GO r).2 (GO r).1).2->dB B w f->im B r w (.returned (.slice av (GO r).1 m)) f):=fun av m f a b c d=>by
  have hl:(cy r).1.length=(GO r).1:=by rw[cy];exact lR _ _
  have P:yD (GO r).2 (GO r).1=cy r:=by rw[cy]
  rw[P]at a b c;refine Ca ⟨a,av,m,?_,b,c,d⟩;rw[hl]
 have z:Hid (∀f,(cy r).2.r9=true->dB B w f->im B r w (.panicked aM) f):=fun f a b=>Ja ⟨a,rfl,b⟩;have hn:(GO r).1<65536:=by rw[GO];exact nL 2 _
 have N:Hid (∀W,RT W B r->Calls prog 59 #[.pointer (some ⟨B,0,none⟩),.int .i64 2] W fun e f=>(e=.returned (.int .i64 ((GO r).1:Nat))/\(GO r).2.r9=false/\RT f B (GO r).2/\dB B W f)\/(e=.panicked aM/\(cy r).2.r9=true/\dB B W f)):=fun W h=>by
  refine(QF B _ 2 W h (by omega) hs).mono ?_;have P:zA 2 r=GO r:=by rw[GO]
  rw[P,kD (by omega)];rintro e f (⟨a,b,c⟩|⟨a,b,c⟩)
  ·exact Ca ⟨a,b,c⟩
  ·exact Ja ⟨a,by rw[cy];exact iQ (k:=0) (by rw[dJ];exact b) _ (La _),c⟩
 have HST:Hid ((yD (GO r).2 (GO r).1).2.r9=true->(cy r).2.r9=true):=fun h=>by rw[cy];exact h
 have hz:(GO r).2.rest.size<=1000000000:=by rw[GO];exact Ra (UR 2 r) hs
 clear hB hs;generalize im B r w=Post at *;generalize (cy r).2.r9=TS at *;generalize (GO r).1=n at *;generalize (GO r).2=c at *;obtain⟨i1,Y,a0,b0,c0⟩:=uu;have HI1:Hid (prog.info? 126=some i1):=Y;clear Y;go_enter func93,ntmps93;go_wp2_with fail;refine(N.out _ HB.out).mono ?_;rintro e w1 (⟨rfl,i0,d0,y⟩|⟨rfl,I,y⟩);rotate_left
 ·exact⟨rfl,z.out _ I y⟩
 have H1:Hid (RT w1 B c/\dB B w w1/\c.r9=false):=⟨d0,y,i0⟩
 clear d0 y i0 N HB;go_wp2;go_loopw [3,6] (fun out i wr=>∃k:Nat,k<=n/\i=.int .i64 k/\Hid (sX wr w.heap.size 126 out k (yD c k).1)/\Hid (RT wr B (yD c k).2)/\Hid ((yD c k).2.r9=false)/\Hid (dB B w wr)) (fun _ i _=>n-(intOf i).toNat)
 case atStart=>exact⟨0,La _,rfl,by rw[dJ];exact sX.nil _ _ _,by rw[dJ];exact H1.out.1,by rw[dJ];exact H1.out.2.2,H1.out.2.1⟩
 case round=>
  obtain⟨k,hk,rfl,HG,D,HSH,u⟩:=hrel;by_cases hlt:k<n
  ·have K:(yD c k).2.rest.size<=1000000000:=Ra (kb c k) hz;have l0:(wS (yD c k).2).2.rest.size<=1000000000:=Ra (xn _) K;have J:(yD c (k+1)).2.r9=true->TS=true:=fun h=>HST.out (iQ h n (by omega));have e1:(yD c (k+1)).1=(yD c k).1++[⟨(wS (yD c k).2).1,jB (GG (yD c k).2).1⟩]:=by rw[gX,MG]
   have e2:(yD c (k+1)).2=(GG (yD c k).2).2:=by rw[gX];simp only[oQ]
   rw[e2]at J;have P1:Hid (∀W,RT W B (yD c k).2->Calls prog 132 #[.pointer (some ⟨B,0,none⟩)] W fun e f=>∃g m,e=.returned (.slice (some ⟨g,0,none⟩) (wS (yD c k).2).1.length m)/\f.ownsRow W.heap.size 156 2 (.slice (some ⟨g,0,none⟩) (wS (yD c k).2).1.length m) (wS (yD c k).2).1.length (aB (wS (yD c k).2).1)/\RT f B (wS (yD c k).2).2/\dB B W f):=fun W h=>ZF B _ W h K;have P2:Hid (∀W,RT W B (wS (yD c k).2).2->Calls prog 59 #[.pointer (some ⟨B,0,none⟩),.int .i64 8] W fun e f=>(e=.returned (.int .i64 (jB (GG (yD c k).2).1))/\(GG (yD c k).2).2.r9=false/\RT f B (GG (yD c k).2).2/\dB B W f)\/(e=.panicked aM/\TS=true/\dB B W f)):=fun W h=>by
    refine(QF B _ 8 W h (by omega) l0).mono ?_;have P:zA 8 (wS (yD c k).2).2=GG (yD c k).2:=by rw[GG]
    rw[P];rintro e f (⟨a,b,c⟩|⟨a,b,c⟩)
    ·exact Ca ⟨a,b,c⟩
    ·exact Ja ⟨a,J b,c⟩
   have l:(yD c k).1.length=k:=lR c k;clear J K l0;have E1:Hid ((yD c (k+1)).1=(yD c k).1++[⟨(wS (yD c k).2).1,jB (GG (yD c k).2).1⟩]):=e1;have E2:Hid ((yD c (k+1)).2=(GG (yD c k).2).2):=e2;have HL:Hid ((yD c k).1.length=k):=l;clear e1 e2 l;generalize jB (GG (yD c k).2).1=bi at *;generalize (GG (yD c k).2).2=rB at *;generalize (wS (yD c k).2).2=rL at *;generalize (wS (yD c k).2).1=A at *;obtain⟨T,ys,E,R,S,U⟩:=HG.out;have s:∀q,u3.ownBlock=some q->w.heap.size<=q/\q<wr.heap.size:=fun q hq=>E.lt q hq;have HV1:=bA E;have O:=bA R;have HV3:=bA S;have HV4:=bA U;have hwr:=u.out.size;clear E R S U HG;go_wp2_with fail;refine(P1.out _ D.out).mono ?_;rintro e w2 ⟨Q,q2,rfl,Z,g0,X⟩;have L:Hid (w2.ownsRow wr.heap.size 156 2 (.slice (some ⟨Q,0,none⟩) A.length q2) A.length (aB A)/\RT w2 B rL/\dB B wr w2):=⟨Z,g0,X⟩
   clear Z g0 X P1 D;go_wp2_with fail;refine(P2.out _ L.out.2.1).mono ?_;rintro e o (⟨rfl,j0,h0,p⟩|⟨rfl,I,p⟩);rotate_left
   ·exact⟨rfl,z.out _ I ((u.out.trans L.out.2.2).trans p)⟩
   have hq2:=bA (bd L.out.1);have C:Hid (gC o wr.heap.size (some ⟨Q,0,none⟩) A/\RT o B rB/\dB B wr o/\rB.r9=false):=⟨rF (uE L.out.1 p (by omega)),h0,L.out.2.2.trans p,j0⟩
   have k0:wr.heap.size<=o.heap.size:=C.out.2.2.1.size;clear h0 p j0 P2 L;go_wp2_with(at_builtin;refine wpList_append_lies _ rfl _ _ _ rfl w.heap.size 126 i1 _ 2 32 underlying42 HI1.out a0 b0 c0 rfl (by omega) u3 k (rV ys) rfl (by exact((gA.but C.out.2.2.1).row HV1.out (fun g M e=>by have:=(s g M).1;omega)).alloc _) ⟨o.heap.size,0,none⟩ 1 1 [.slice (some ⟨Q,0,none⟩) A.length q2,.int .i64 bi] rfl rfl (by have:=World.news_of_block (cs:=#[.slice (some ⟨Q,0,none⟩) A.length q2,.int .i64 bi]) (t:=126) (fr:=(0,0)) (heap_alloc_new o (.cells #[.slice (some ⟨Q,0,none⟩) A.length q2,.int .i64 bi] 126));simpa using this) (by simp[Value.oneCell']) (by omega) (by simp[maxLen];omega) (by omega) (by simp;omega) (o.heap.size+1) (by simp) ?_;intro g5 cap5 w5 H j V hlt5);have hgg:(u3.ownBlock=some g5/\g5<wr.heap.size)\/o.heap.size<=g5:=by
    rcases V with h|h
    ·exact Ca ⟨h,(s _ h).2⟩
    ·exact Ja (by omega)
   have F:∀g,g<o.heap.size->u3.ownBlock≠some g->w5.heap[g]?=o.heap[g]?:=fun g M G=>by
    rw[(gA.grown j).block g (by simp;omega) G];exact(cA _ _).block g M
   refine⟨⟨k+1,by omega,by go_num,?_,?_,?_,?_⟩,by simp[intOf];omega⟩
   ·rw[E1.out];have hyk:ys.length=k:=by have h1:=HL.out;rw[<-O.out,Rb]at h1;exact h1
    exact sX.snoc (wr:=wr) (w4:=o) (v:=u3) (T:=T) (ys:=ys) (x:=⟨A,bi⟩) H O.out hyk HV3.out HV4.out (by omega)
     (fun g M hb G=>(F g (by omega) G).trans (C.out.2.2.1.block g M (by omega)))
     (fun g M hg4=>F g hg4 (fun e=>by have:=(s _ e).2;omega))
     C.out.1 hq2.out hgg k0
   ·rw[E2.out];obtain⟨tt,ht⟩:=C.out.2.1;exact⟨tt,(F B (by omega) (fun e=>by have:=(s _ e).1;omega)).trans ht⟩
   ·show _=_;rw[E2.out];exact C.out.2.2.2
   ·exact(u.out.trans C.out.2.2.1).upR (((Below.refl _ o).alloc (by omega) _).grown j (by simp;omega) (fun q hq=>by have:=s q hq;omega))
  ·obtain rfl:k=n:=by omega
   obtain⟨ra,rc,rfl⟩:=HG.out.row;have l:=lR c k;go_wp2;exact HOK.out _ _ _ HSH.out (HG.out.own l) D.out u.out
