import Derived.Test.YtjpeimianeiegaaGreatDoorJ22
import Derived.Test.YtjpeimianeiegaaGreatDoorJ25
set_option maxRecDepth 100000
set_option maxHeartbeats 2000000
namespace Go.Proofs.YtjpeimianeiegaaGreatDoor
open Go.RowKit Tryz
def wD (D:kB) (a:uR):kB×Nat:=
 (⟨(yP D.fs D.c D.k D.cr D.fl D.dn a).2.1,(yP D.fs D.c D.k D.cr D.fl D.dn a).2.2.1,(yP D.fs D.c D.k D.cr D.fl D.dn a).2.2.2.1,(yP D.fs D.c D.k D.cr D.fl D.dn a).2.2.2.2.1,(yP D.fs D.c D.k D.cr D.fl D.dn a).2.2.2.2.2.1,(yP D.fs D.c D.k D.cr D.fl D.dn a).2.2.2.2.2.2⟩,(yP D.fs D.c D.k D.cr D.fl D.dn a).1)
structure GB (fs:List dA):Prop where
 r9:mK fs
 len:fs.length≤1048576
 sum:xA fs≤1000000000
theorem MO:GB []:=⟨fun i h=>absurd h (by simp),by simp,by simp[xA]⟩
theorem sL (a:List dA) (i:Nat) (f:dA) (h:i<a.length):xA (a.set i f)+a[i].data.size=xA a+f.data.size:=by
 induction a generalizing i with
 |nil=>exact absurd h (by simp)
 |cons g r b=>
  cases i with
  |zero=>simp[xA];omega
  |succ i=>
   have:=b i (by simpa using h);simp only[Ad,Vb,xA];omega
theorem qR {a:List dA} (i:Nat) (b:i<a.length):a[i].data.size<=xA a:=by
 have c:=eG a i b;have d:=oF a (i+1);omega
theorem nQ {a:List dA} (h:mK a) {f:dA} (b:f∈a):f.name.size<=maxLen/\f.data.size<=maxLen:=by
 obtain⟨i,c,rfl⟩:=Gb b;exact h i c
theorem FA {a:List dA} (h:∀f∈a,f.name.size<=maxLen/\f.data.size<=maxLen):mK a:=fun _ b=>h _ (Db b)
theorem IZ {b:List dA} (h:mK b) {i:Nat} {f:dA} (c:f.name.size<=maxLen/\f.data.size<=maxLen):mK (b.set i f):=FA fun _ a=>by
 rcases List.mem_or_eq_of_mem_set a with a|rfl
 ·exact nQ h a
 ·exact c
theorem FO (a:List dA) (i:Nat):xA (a.eraseIdx i)<=xA a:=by
 induction a generalizing i with
 |nil=>simp
 |cons g r b=>
  cases i with
  |zero=>simp[xA]
  |succ i=>have:=b i;simp only[List.eraseIdx_cons_succ,xA];omega
theorem lW (a:List dA) (i:Nat) (h:i<a.length):xA (a.eraseIdx i)+a[i].data.size=xA a:=by
 induction a generalizing i with
 |nil=>exact absurd h (by simp)
 |cons g r b=>
  cases i with
  |zero=>simp[xA];omega
  |succ i=>
   have:=b i (by simpa using h);simp only[List.eraseIdx_cons_succ,Vb,xA];omega
theorem TW (p:dA->Bool) (a:List dA):xA (a.filter p)<=xA a:=by
 induction a with
 |nil=>simp
 |cons g r b=>
  rw[Ce];split
  ·simp only[xA];omega
  ·simp only[xA];omega
theorem cl (a:List dA) (f:dA):xA (zE a f)=xA a+f.data.size:=by
 induction a with
 |nil=>simp[zE,xA]
 |cons g r b=>
  unfold zE;split
  ·simp only[xA];omega
  ·simp only[xA,b];omega
theorem aBy {fs:List dA} {f g:dA} (h:g∈zE fs f):g=f\/g∈fs:=by
 induction fs with
 |nil=>simp[zE]at h;exact Ba h
 |cons x r a=>
  unfold zE at h;split at h
  ·simpa using h
  ·rcases Cb.1 h with rfl|h
   ·simp
   ·rcases a h with h|h
    ·exact Ba h
    ·exact Ea (Za _ h)
theorem BR (a:List dA) (i:Nat) (f:dA):xA (dK a i f)=xA a+f.data.size:=by
 have h:=lO (a.take i) (a.drop i);rw[Xa]at h;rw[dK,lO];simp only[xA];omega
theorem aNs {a:List dA} {c:Int} {b:uR} (h:GB a) (u:a.length<=1000) (v:c<=1000000000) (q:b.name.size<=maxLen) (s:b.tq.size<=maxLen):GB (dM a c b).2:=by
 have w:(1000000000:Nat)<=maxLen:=by unfold maxLen;omega
 unfold dM;simp only;split
 ·split
  ·exact h
  ·split
   ·exact h
   ·refine⟨FA fun f i=>?_,?_,?_⟩
    ·simp only[dK,Ie,Cb]at i;rcases i with i|rfl|i
     ·exact nQ h.r9 (Xd i)
     ·exact⟨q,by simp[maxLen]⟩
     ·exact nQ h.r9 (Lg i)
    ·show(dK a _ _).length<=_;rw[dK];simp only[Qa,Ta,Sa,Lc];omega
    ·show xA (dK a _ _)<=_;rw[BR];have:=h.sum;simpa using this
 ·split
  ·exact h
  ·rename_i f i;obtain⟨j,rfl⟩:=Va.1 i;have e:=nQ h.r9 (Db j);have p:=qR _ j;have y:=h.sum;split
   ·exact h
   ·split
    ·split
     ·exact h
     ·rename_i x;have d:=sL a (mA b.name a) ⟨a[mA b.name a].name,a[mA b.name a].data++b.data,a[mA b.name a].y9⟩ j;simp only[Ia]at d;refine⟨IZ h.r9 ⟨e.1,?_⟩,?_,?_⟩
      ·show(a[mA b.name a].data++b.data).size<=maxLen;rw[Ia];omega
      ·show(a.set _ _).length<=_;rw[Xc];omega
      ·show xA (a.set _ _)<=_;omega
    ·split
     ·have d:=sL a (mA b.name a) ⟨a[mA b.name a].name,a[mA b.name a].data,a[mA b.name a].data.size⟩ j;refine⟨IZ h.r9 e,?_,?_⟩
      ·show(a.set _ _).length<=_;rw[Xc];omega
      ·show xA (a.set _ _)<=_;simp only at d;omega
     ·split
      ·split
       ·have d:=sL a (mA b.name a) ⟨a[mA b.name a].name,a[mA b.name a].data.extract 0 b.size.toNat,b.size⟩ j;have z:(a[mA b.name a].data.extract 0 b.size.toNat).size<=a[mA b.name a].data.size:=by rw[Yb];omega
        refine⟨IZ h.r9 ⟨e.1,?_⟩,?_,?_⟩
        ·show(a[mA b.name a].data.extract 0 b.size.toNat).size<=maxLen;omega
        ·show(a.set _ _).length<=_;rw[Xc];omega
        ·show xA (a.set _ _)<=_;simp only at d;omega
       ·exact h
      ·split
       ·have n:(a.eraseIdx (mA b.name a)).length<=a.length:=by rw[Dc];split<;>omega
        have o:=lW a (mA b.name a) j;refine⟨FA fun g k=>?_,?_,?_⟩
        ·rcases aBy (fs:=bC (a.eraseIdx (mA b.name a)) b.tq) (f:=⟨b.tq,a[mA b.name a].data,a[mA b.name a].y9⟩) k with rfl|k
         ·exact⟨s,e.2⟩
         ·exact nQ h.r9 (Sf (Ed.1 k).1)
        ·show(mG _ _).length<=_;have m:∀(l:List dA) (f:dA),(zE l f).length=l.length+1:=fun l f=>by
          induction l with
          |nil=>rfl
          |cons g r t=>unfold zE;split<;>simp[t]
         have:(bC (a.eraseIdx (mA b.name a)) b.tq).length<=(a.eraseIdx (mA b.name a)).length:=Tb _ _;rw[mG,m];simp only;omega
        ·show xA (mG _ _)<=_;have:=TW (fun f=>!(f.name.toList==b.tq.toList)) (a.eraseIdx (mA b.name a));rw[mG,cl];simp only[bC];omega
       ·refine⟨FA fun g k=>nQ h.r9 (Sf k),?_,?_⟩
        ·show(a.eraseIdx _).length<=_;rw[Dc];split<;>omega
        ·show xA (a.eraseIdx _)<=_;have:=FO a (mA b.name a);omega
theorem dX {D:kB} {a:uR} (h:GB D.fs) (f:a.name.size<=maxLen) (g:a.tq.size<=maxLen):GB (wD D a).1.fs:=by
 show GB (yP D.fs D.c D.k D.cr D.fl D.dn a).2.1;unfold yP;split
 ·rename_i b;simp only[Na]at b;obtain⟨_,d,_,e,_⟩:=dD b.1;unfold lG;split
  ·exact aNs h d e f g
  ·exact h
 ·exact MO
def nI (n:Int):uR:=⟨1,vD n,⟨#[]⟩,⟨#[]⟩,0⟩
def eR (n:Int):uR:=⟨3,vD n,⟨#[]⟩,⟨#[]⟩,0⟩
def en (w:World) (P D:Nat) (L:zH):Prop:=lA w P #[.pointer (some ⟨D,0,none⟩),.int .i64 L.first,.int .i64 L.last,.int .i64 L.size] 76
theorem en.later {w a:World} {P D:Nat} {L:zH} (h:en w P D L) (b:Below w.heap.size w a):en a P D L:=lA.later h b
theorem en.cells {w:World} {P D:Nat} {L:zH} (h:en w P D L):w.cell? ⟨P,0,none⟩=some (.pointer (some ⟨D,0,none⟩))/\w.cell? ⟨P,1,none⟩=some (.int .i64 L.first)/\w.cell? ⟨P,2,none⟩=some (.int .i64 L.last)/\w.cell? ⟨P,3,none⟩=some (.int .i64 L.size):=by
 refine⟨?_,?_,?_,?_⟩<;>rw[lA.cell h]<;>rfl
def oR (d:List eA) (a b:ByteArray) (c:Int):List eA×Bool:=
 if (kC a&&(b.toList.isEmpty||lE b) &&uA c (-1) 1000000)=false then(d,false)
 else if bE (jG (dB d a) b c)=true then(tD (·.name) a d,true)
 else if ((zB (·.name) a d).isNone&&decide (10000<=d.length))=true then(d,false)
 else(qA (·.name) (jG (dB d a) b c) d,true)
theorem dU (t:eA) (a:ByteArray) (b:Int):(jG t a b).name=t.name:=by unfold jG;split<;>rfl
theorem VT (t:eA) (a:ByteArray) (b:Int):(jG t a b).s9=t.s9:=by unfold jG;split<;>rfl
theorem jI {c:nB} {a:Int} {b:List eA} (h:iB c a b=true):vF c=true/\0<=a/\a<=1000000000000/\b.length<=10000/\yM c.w a b=true:=by
 simp only[iB,Na,Ya]at h;obtain⟨⟨⟨d,e⟩,f⟩,g⟩:=h;have:=qK e;exact⟨d,this.1,this.2,f,g⟩
theorem rS {c a:Int} {b:List eA} (h:yM c a b=true):vB (·.name) b:=by
 have:=aDr (n:=b.length) h (Da _);rwa [Qb]at this
theorem aMh {c:nB} {i:Int} {f:List eA} (h:iB c i f=true) (b d:ByteArray) (e:Int):uY c i f b d e=(i,(oR f b d e).1,(oR f b d e).2):=by
 obtain⟨_,_,_,r,o⟩:=jI h;have s:=rS o;unfold uY oR;rw[Ca (by rw[h];simp)];by_cases k:(kC b&&(d.toList.isEmpty||lE d) &&uA e (-1) 1000000)=false
 ·rw[Ga k,Ga k]
 ·rw[Ca k,Ca k];have j:(jG (dB f b) d e).name=b:=by rw[dU,eH]
  have m:∀x∈(jG (dB f b) d e).s9,i-x.n<c.w:=by rw[VT];exact BU o
  have u:=PQ o s (t:=jG (dB f b) d e) m;rw[u,j];by_cases l:bE (jG (dB f b) d e)=true
  ·have v:(tD (·.name) b f).length<=f.length:=Tb _ _;rw[Ga l,Ga l,Ca (by omega)]
  ·have g:=DF (a:=jG (dB f b) d e) s;simp only[j]at g;rw[Ca l,Ca l];cases hg:zB (·.name) b f with
   |some q=>
    rw[hg]at g;simp only[Vf,Lf]at g;rw[Ca (by omega),Ca (by simp)]
   |none=>
    rw[hg]at g;simp only[Wf,Gd,Hg]at g;by_cases p:10000<=f.length
    ·rw[Ga (by omega),Ga (by simp[p])]
    ·rw[Ca (by omega),Ca (by simp[p])]
theorem ZX {α:Type} {key:α->ByteArray} {a q:α} {l:List α} (g:vB key l) (h:q∈qA key a l):q=a\/(q∈l/\key q≠key a):=by
 induction l with
 |nil=>exact Ba (by simpa[qA]using h)
 |cons p r j=>
  rw[qA]at h;by_cases c:uH (key p) (key a)=true
  ·rw[Ga c]at h;rcases Cb.1 h with h|h
   ·exact Ea ⟨by rw[h];exact Lb ..,by rw[h];exact bH c⟩
   ·rcases j g.tail h with h|h
    ·exact Ba h
    ·exact Ea ⟨Za _ h.1,h.2⟩
  ·rw[Ca c]at h;have b:∀q∈r,key q≠key a:=fun q i e=>by
    have f:=g.head q i;rw[e]at f;exact c f
   by_cases d:key p=key a
   ·rw[Ga ((xC _ _).2 d)]at h;rcases Cb.1 h with h|h
    ·exact Ba h
    ·exact Ea ⟨Za _ h,b q h⟩
   ·rw[Ca (by rw[mC d];simp)]at h;rcases Cb.1 h with h|h
    ·exact Ba h
    ·rcases Cb.1 h with h|h
     ·exact Ea ⟨by rw[h];exact Lb ..,by rw[h];exact d⟩
     ·exact Ea ⟨Za _ h,b q h⟩
theorem DM {α β:Type} {key:α->ByteArray} {a p:α} {l:List α} (f:α->β) (e:vB key l) (b:p∈l) (c:key p=key a) (g:f p=f a):(qA key a l).map f=l.map f:=by
 induction l with
 |nil=>cases b
 |cons q r h=>
  rw[qA];rcases Cb.1 b with rfl|b
  ·rw[Ca (by rw[c,fN];simp),Ga ((xC _ _).2 c)];simp[g]
  ·have d:=e.head p b;rw[c]at d;rw[Ga d,Sb,Sb,h e.tail b]
theorem aDu (B:Nat) (r:Rd) (w:World) (c:RB w B r):
 Calls prog 270 #[.pointer (some ⟨B,0,none⟩)] w fun e h=>e=.returned (.bool (kT r))/\h=w:=by
 have d:=lA.cell c 0;have f:=lA.cell c 1;simp only[Xb,Kb,Fa]at d f;have g:Hid (ByteArray.empty.toList=[]):=by show _=_;rw[ByteArray.toList_eq];rfl
 obtain⟨a,b⟩:=r;simp only at d f;clear c;cases b with
 |true=>
  have E:Hid (kT ⟨a,true⟩=false):=rfl;go_enter func270,ntmps270;go_wp2;go_ret;exact⟨kA E.out.symm,rfl⟩
 |false=>
  have E:Hid (kT ⟨a,false⟩=a.toList.isEmpty):=by
   show _=_;unfold kT;rw[g.out];cases a.toList<;>rfl
  go_enter func270,ntmps270;go_wp2;go_ret;exact⟨kA E.out.symm,rfl⟩
theorem aEu (key:ByteArray):NT key<=255:=by
 have:=dT 1 ⟨key,false⟩;unfold NT;omega
theorem sk (B:Nat) (key:ByteArray) (w:World) (X:RB w B ⟨key,false⟩) (hs:key.size<=1000000000):
 Calls prog 269 #[.pointer (some ⟨B,0,none⟩)] w fun e f=>∃g J,e=.returned (.slice (some ⟨g,0,none⟩) (iF key).1.length J)/\f.ownsRow w.heap.size 199 2 (.slice (some ⟨g,0,none⟩) (iF key).1.length J) (iF key).1.length (lD (iF key).1)/\RB f B (iF key).2/\eD B w f:=by
 have HC:Hid (Calls prog 210 #[.pointer (some ⟨B,0,none⟩),.int .i64 1] w fun e f=>e=.returned (.int .i64 (NT key:Nat))/\RB f B (gB 1 ⟨key,false⟩).2/\eD B w f):=QP B ⟨key,false⟩ 1 w X (by omega) hs;have p:=aA X;have hz:(gB 1 ⟨key,false⟩).2.rest.size<=1000000000:=by
  have h2:=(eJ 1 ⟨key,false⟩).2.2;have h3:(gB 1 ⟨key,false⟩).2.rest.size<=key.size:=h2;omega
 have hcl:=aEu key;have F:Hid (iF key=kS (gB 1 ⟨key,false⟩).2 (NT key)):=by show _=_;rw[iF]
 rw[F.out];clear F X;generalize (gB 1 ⟨key,false⟩).2=c at *;generalize NT key=n at *;obtain⟨ti,z,R,S,T⟩:=jg;have HI:Hid _:=z;have Y:∀W:World,(Instr.makeSlice 194 (.int .i64 0) (.int .i64 (n:Nat))).run prog W=.ok (.slice (some ⟨W.heap.size,0,none⟩) 0 n) (W.alloc (.cells (madeCells #[.string ByteArray.empty,.string ByteArray.empty] (n*2)) 199)):=fun W=>by
  have hr:=run_make (P:=prog) W 194 199 ti _ underlying194 z R .i64 .i64 0 (n:Nat) (by omega) (by omega) (by rw[T];omega) (by omega);simp only[Mc,S]at hr;exact hr
 clear z;go_enter func269,ntmps269;go_wp2_with fail;refine HC.out.mono ?_;rintro e w1 ⟨rfl,N,u⟩;have H1:Hid (RB w1 B c/\eD B w w1):=⟨N,u⟩
 have b0:=u.size;clear N u HC;go_wp2;clear Y;go_loopw [4,5,11] (fun c0 _ i wr=>∃(k:Nat) (b:List eB) (g t:Nat),k<=n/\i=.int .i64 k/\b.length<=k/\k<=b.length/\c0=.slice (some ⟨g,0,none⟩) b.length t/\Hid (b=(kS c k).1)/\Hid (RB wr B (kS c k).2)/\Hid (wr.ownsRow w.heap.size 199 2 (.slice (some ⟨g,0,none⟩) b.length t) b.length (lD b))/\Hid (eD B w wr)) (fun _ _ i _=>n-(intOf i).toNat)
 case atStart=>
  refine⟨0,[],_,_,Ha _,rfl,Ha _,Ha _,rfl,rfl,lA.later H1.out.1 (cA _ _),⟨rfl,Ea ⟨w1.heap.size,n,_,rfl,b0,heap_alloc_new _ _,Ha _,by simp[maxLen];omega,size_madeCells _ _,rfl⟩⟩,H1.out.2.alloc _⟩
 case round=>
  obtain⟨k,b,g,t,hk,rfl,hyl,hyl2,rfl,V,s,j,r⟩:=hrel;by_cases hlt:k<n
  ·have m:(kS c k).2.rest.size<=1000000000:=by have:=(aHw c k).1;omega
   have d:(yA 1 (kS c k).2).2.rest.size<=1000000000:=by have:=(kK 1 (kS c k).2).2;omega
   have H:Hid (∀W,RB W B (kS c k).2->Calls prog 225 #[.pointer (some ⟨B,0,none⟩),.int .i64 1] W fun e f=>e=.returned (.string (yA 1 (kS c k).2).1)/\RB f B (yA 1 (kS c k).2).2/\eD B W f):=fun W h=>pa B _ 1 W h (by omega) m;have I:Hid (∀W,RB W B (yA 1 (kS c k).2).2->Calls prog 225 #[.pointer (some ⟨B,0,none⟩),.int .i64 2] W fun e f=>e=.returned (.string (yA 2 (yA 1 (kS c k).2).2).1)/\RB f B (yA 2 (yA 1 (kS c k).2).2).2/\eD B W f):=fun W h=>pa B _ 2 W h (by omega) d;have G:Hid (kS c (k+1)=(b++[⟨(yA 1 (kS c k).2).1,(yA 2 (yA 1 (kS c k).2).2).1⟩],(yA 2 (yA 1 (kS c k).2).2).2)):=by show _=_;rw[EJ,xf,V.out]
   clear m d;generalize yA 2 (yA 1 (kS c k).2).2=t2 at *;generalize yA 1 (kS c k).2=t1 at *;generalize t1.1=D at *;generalize t2.1=E at *;go_wp2_with fail;refine(H.out _ s.out).mono ?_;rintro e w2 ⟨rfl,O,v⟩;have U:Hid (RB w2 B t1.2/\eD B w w2/\w2.ownsRow w.heap.size 199 2 (.slice (some ⟨g,0,none⟩) b.length t) b.length (lD b)):=⟨O,r.out.trans v,nc j.out v p⟩
   clear O v H s j r;go_wp2_with fail;refine(I.out _ U.out.1).mono ?_;rintro e A ⟨rfl,Q,x⟩;have C:Hid (RB A B t2.2/\eD B w A/\A.ownsRow w.heap.size 199 2 (.slice (some ⟨g,0,none⟩) b.length t) b.length (lD b)):=⟨Q,U.out.2.1.trans x,nc U.out.2.2 x p⟩
   have hz3:=C.out.2.1.size;clear Q x I U;go_wp2_with(at_builtin;refine wpList_append_lies _ rfl _ _ _ rfl w.heap.size 199 ti _ 2 32 underlying194 HI.out R S T rfl (by omega) (.slice (some ⟨g,0,none⟩) b.length t) b.length (lD b) rfl (by exact cB C.out.2.2 (cA _ _)) ⟨A.heap.size,0,none⟩ 1 1 [.string D,.string E] rfl rfl (by exact World.news_of_block (cs:=#[.string D,.string E]) (heap_alloc_new _ _)) (by simp[Value.oneCell']) (by omega) (by simp[maxLen];omega) (by omega) (by simp;omega) (A.heap.size+1) (by simp) ?_;intro g5 K w5 l a hat5 hlt5);have y:=(a.block B (by simp;omega) (fun e=>by have:=oI C.out.2.2 B e.symm;omega)).trans ((cA A _).block B (by omega));have L:eD B w w5:=by
    have o:=C.out.2.1;refine⟨a.os.trans o.os,a.tape.trans o.tape,a.output.trans o.output,?_,fun q hq Z=>?_⟩
    ·have:=a.size;simp at this;omega
    ·exact(a.block q (by simp;omega) (fun e=>by have:=oI C.out.2.2 q e.symm;omega)).trans (((cA A _).block q (by omega)).trans (o.block q hq Z))
   have M:(b++[(⟨D,E⟩:eB)]).length=b.length+1:=by simp
   have a0:lD b++[.string D,.string E]=lD (b++[⟨D,E⟩]):=by rw[tG];rfl
   rw[a0,<-M]at l;refine⟨⟨k+1,b++[(⟨D,E⟩:eB)],g5,K,by omega,by go_num,by omega,by omega,by rw[M],by show _=_;rw[G.out],?_,l,L⟩,by simp[intOf];omega⟩;show RB w5 B (kS c (k+1)).2;rw[G.out];exact y.trans C.out.1
  ·have e:k=n:=by omega
   subst e;have hY:=V.out;clear V;subst hY;go_wp2;go_ret;exact⟨g,t,rfl,j.out,s.out,r.out⟩
theorem iy (key:ByteArray) (w:World) (M:key.size<=1000000000) (D:dF w):
 Calls prog 246 #[.string key] w fun e s=>∃a m,e=.returned (.tuple #[.slice a (uE key).1.length m,.bool (uE key).2])/\iE s w.heap.size a (uE key).1/\Below w.heap.size w s:=by
 have u:Hid _:=fun W B h=>sk B key W h M;have p:aDx (iF key).1:=fun i K=>by
  have:=aCt key i K;exact⟨by omega,by omega⟩
 have F:(iF key).1.length<=255:=by
  have h:(iF key).1.length=NT key:=by rw[iF];exact BG _ _
  have:=aEu key;omega
 have x:Hid (∀W B,RB W B (iF key).2->Calls prog 270 #[.pointer (some ⟨B,0,none⟩)] W fun e s=>e=.returned (.bool (kT (iF key).2))/\s=W):=fun W B h=>aDu B _ W h;have A:Hid _:=fun W a c h I J=>aBd a c _ W h p (by omega) J I;have C:Hid (dF w):=D;have b:Hid (RB (w.alloc (.cells #[.string key,.bool false] 210)) w.heap.size ⟨key,false⟩/\Below w.heap.size w (w.alloc (.cells #[.string key,.bool false] 210))):=⟨heap_alloc_new _ _,cA _ _⟩
 have r:w.heap.size<(w.alloc (.cells #[.string key,.bool false] 210)).heap.size:=by simp
 have q:Hid (uE key=if (kT (iF key).2&&eP (iF key).1)=true then((iF key).1,true) else([],false)):=by show _=_;rw[uE]
 clear D p;generalize kT (iF key).2=N at *;generalize eP (iF key).1=H at *;generalize (iF key).1=L at *;generalize (iF key).2=y at *;cases N with
 |true=>
  cases H with
  |true=>
   have E:Hid (uE key=(L,true)):=q.out;rw[E.out];go_enter func246,ntmps246;go_wp2_with fail;refine(u.out _ _ b.out.1).mono ?_;rintro e o ⟨g,m,rfl,d,j,f⟩;obtain⟨n,_,_,_⟩:=kQ d;have k:Hid (RB o w.heap.size y/\iE o w.heap.size (some ⟨g,0,none⟩) L/\Below w.heap.size w o):=⟨j,(uO d).mono (by omega),b.out.2.trans (f.below (Da _) (by omega))⟩
   clear d j f b r;go_wp2_with fail;refine(x.out _ _ k.out.1).mono ?_;rintro e G ⟨rfl,hw⟩;replace hw:=hw.symm;subst hw;go_wp2_with fail;refine(A.out _ _ _ k.out.2.1.labs (C.out.later k.out.2.2) n).mono ?_;rintro e z ⟨rfl,l⟩;have t:Hid (iE z w.heap.size (some ⟨g,0,none⟩) L/\Below w.heap.size w z):=⟨k.out.2.1.later l,pA k.out.2.2 l⟩
   clear l;go_wp2;refine bodyPost_ret (v:=.tuple #[.slice (some ⟨g,0,none⟩) L.length m,.bool true]) (by simp[results,results246,go_sem]) rfl ⟨_,_,rfl,t.out⟩
  |false=>
   have E:Hid (uE key=([],false)):=q.out;rw[E.out];go_enter func246,ntmps246;go_wp2_with fail;refine(u.out _ _ b.out.1).mono ?_;rintro e o ⟨g,m,rfl,d,j,f⟩;obtain⟨n,_,_,_⟩:=kQ d;have k:Hid (RB o w.heap.size y/\iE o w.heap.size (some ⟨g,0,none⟩) L/\Below w.heap.size w o):=⟨j,(uO d).mono (by omega),b.out.2.trans (f.below (Da _) (by omega))⟩
   clear d j f b r;go_wp2_with fail;refine(x.out _ _ k.out.1).mono ?_;rintro e G ⟨rfl,hw⟩;replace hw:=hw.symm;subst hw;go_wp2_with fail;refine(A.out _ _ _ k.out.2.1.labs (C.out.later k.out.2.2) n).mono ?_;rintro e z ⟨rfl,l⟩;have t:Hid _:=pA k.out.2.2 l;clear l;go_wp2;refine bodyPost_ret (v:=.tuple #[.slice none 0 0,.bool false]) (by simp[results,results246,go_sem]) rfl ⟨_,_,rfl,Ba rfl,t.out⟩
 |false=>
  have E:Hid (uE key=([],false)):=q.out;rw[E.out];go_enter func246,ntmps246;go_wp2_with fail;refine(u.out _ _ b.out.1).mono ?_;rintro e o ⟨g,m,rfl,d,j,f⟩;have k:Hid (RB o w.heap.size y/\Below w.heap.size w o):=⟨j,b.out.2.trans (f.below (Da _) (by omega))⟩
  clear d j f b r;go_wp2_with fail;refine(x.out _ _ k.out.1).mono ?_;rintro e G ⟨rfl,hw⟩;replace hw:=hw.symm;subst hw;go_wp2;refine bodyPost_ret (v:=.tuple #[.slice none 0 0,.bool false]) (by simp[results,results246,go_sem]) rfl ⟨_,_,rfl,Ba rfl,k.out.2⟩
theorem OA (key:ByteArray):(uE key).1.length<=16:=by
 cases hd:(uE key).2 with
 |true=>exact NM (YS hd).1
 |false=>rw[(MK hd).1];simp
theorem fX (key:ByteArray) (w:World) (q:key.size<=1000000000) (k:dF w):
 Calls prog 216 #[.string key] w fun e c=>e=.returned (.string (iJ (uE key).1))/\Below w.heap.size w c:=by
 have r:=OA key;have i:Hid (Calls prog 246 #[.string key] w fun e c=>∃a b,e=.returned (.tuple #[.slice a (uE key).1.length b,.bool (uE key).2])/\iE c w.heap.size a (uE key).1/\Below w.heap.size w c):=iy key w q k;clear k;generalize (uE key).1=L at *;generalize (uE key).2=p at *;generalize j:iJ L=M;have n:Hid _:=j;clear j;go_enter func216,ntmps216;go_wp2_with fail;refine i.out.mono ?_;rintro e h ⟨a,b,rfl,g,d⟩;have o:Hid (Calls prog 247 #[.slice a L.length b] h fun e c=>e=.returned (.string M)/\Below h.heap.size h c):=by
  have:=DR a b L h g.labs (by omega);rw[n.out]at this;exact this
 have l:Hid _:=d;clear g d i;go_wp2_with fail;refine o.out.mono ?_;rintro e s ⟨rfl,f⟩;have m:Hid _:=pA l.out f;clear f;go_wp2;go_ret;exact⟨rfl,m.out⟩
theorem aY (key:ByteArray) (w:World) (z:key.size<=1000000000):
 Calls prog 95 #[.string key] w fun e n=>e=.returned (.string (iJ (uE key).1))/\Below w.heap.size w n:=by
 have G:=OA key;have u:Hid (Calls prog 121 #[.string key] w fun e n=>∃a g,e=.returned (.tuple #[.slice a (uE key).1.length g,.bool (uE key).2])/\iE n w.heap.size a (uE key).1/\Below w.heap.size w n):=LD key w z;generalize (uE key).1=c at *;generalize (uE key).2=p at *;go_enter func95,ntmps95;go_wp2_with fail;refine u.out.mono ?_;rintro e s ⟨a,g,rfl,j,h⟩;have y:Hid (gE s a c):=j.labs;have t:Hid _:=h;clear j h u;go_wp2;go_loopw [6,14] (fun _ i wr=>∃k:Nat,k<=c.length/\i=.int .i64 k/\Hid (iJ c=iJ (c.drop k))/\Below s.heap.size s wr) (fun _ i _=>c.length-(intOf i).toNat)
 case atStart=>exact⟨0,Ha _,rfl,rfl,Below.refl _ _⟩
 case round=>
  obtain⟨k,F,rfl,q,d⟩:=hrel;by_cases l:k<c.length
  ·obtain⟨b,o,rfl,D,B,C⟩:=(y.out.later d).at l;have m:=VZ c k l;have v:Hid (cN c[k]=(c[k].name.toList==[95,95,110,97,109,101,95,95])):=by show _=_;rw[cN,QN]
   generalize c[k].name=x at *;by_cases f:cN c[k]=true
   ·have r:(x.toList==[95,95,110,97,109,101,95,95])=true:=by rw[<-v.out];exact f
    have E:Hid (iJ c=c[k].value):=by show _=_;rw[q.out,m,Ga f]
    clear m f;generalize c[k].value=A at *;go_wp2;go_ret;exact⟨by rw[E.out];rfl,pA t.out (pA d (cA _ _))⟩
   ·have r:(x.toList==[95,95,110,97,109,101,95,95])=false:=by rw[<-v.out];simpa using f
    have E:Hid (iJ c=iJ (c.drop (k+1))):=by show _=_;rw[q.out,m,Ca f]
    clear m f;generalize c[k].value=A at *;go_wp2;exact⟨⟨k+1,by omega,by go_num,E.out,pA d (cA _ _)⟩,by simp[intOf];omega⟩
  ·have E:Hid (iJ c=ByteArray.empty):=by
    show _=_;rw[q.out,Pb (by omega)];rfl
   go_wp2;go_ret;exact⟨by rw[E.out];rfl,pA t.out d⟩
theorem aOj (c:UInt8):okM [45] c=okT c:=by
 have e:decide (0<=Lib.indexByte [45] c)=(c==45):=by
  by_cases h:c=45
  ·subst h;rfl
  ·have a:((45:UInt8)==c)=false:=by simpa using fun e=>h e.symm
   have b:(c==45)=false:=by simpa using h
   simp[Lib.indexByte,a,b]
 rw[okM,okT,e]
theorem pd (s : ByteArray) : gR s 32 ⟨#[45]⟩ = kC s := by
  have e := funext aOj
  rw [gR, kC, e]
  congr 2
  rw [Bool.eq_iff_iff]; simp; omega
theorem kN (s:ByteArray) (w:World) (b:s.size<=maxLen):Calls prog 171 #[.string s] w fun e a=>e=.returned (.bool (kC s))/\a=w:=by
 have H:Hid _:=fun W=>pd s ▸ KE s 32 ⟨#[45]⟩ W b;generalize kC s=R at *;go_enter func171,ntmps171;go_wp2_with fail;refine(H.out _).mono ?_;rintro e a ⟨rfl,hw⟩;replace hw:=hw.symm;subst hw;go_wp2;go_ret;exact⟨rfl,rfl⟩
theorem aLm (c:UInt8):okT c=decide ((97<=(c.toNat:Int)/\(c.toNat:Int)<=122)\/(48<=(c.toNat:Int)/\(c.toNat:Int)<=57)\/(c.toNat:Int)=45):=by
 have a:(c==45)=decide (c.toNat=45):=by rw[Nb];simp[<-UInt8.toNat_inj]
 rw[Nb];simp[okT,a,Cf];omega
theorem eK (s:ByteArray) (w:World) (m:s.size<=maxLen):
 Calls prog 81 #[.string s] w fun e h=>e=.returned (.bool (kC s))/\h=w:=by
 unfold maxLen at m;by_cases c:1<=s.size/\s.size<=32
 ·have l:uA (s.size:Int) 1 32=true:=by unfold uA;simp;omega
  have HN:Hid (kC s=s.data.toList.all okT):=by show _=_;simp[kC,c.1,c.2]
  have o:=c.1;have p:=c.2;clear c;go_enter func81,ntmps81;go_wp2_with(go_at_call 41;refine(fD _ _ _ _).mono ?_;rintro e h ⟨rfl,rfl⟩);go_loop [3,4] (fun i _=>∃k:Nat,k<=s.size/\i=.int .i64 k/\(s.data.toList.take k).all okT=true) (fun i _=>s.size-(intOf i).toNat)
  case atStart=>exact⟨0,Ha _,rfl,by simp⟩
  case round=>
   obtain⟨k,n,rfl,d⟩:=hrel;have b:Hid _:=d;clear d l;by_cases g:k<s.size
   ·have a:=cZ (f:=okT) g;rw[b.out,Nc,aLm]at a;have j:Hid _:=a;clear a;go_wp2;all_goals first
     |(go_ret
       refine⟨kA ?_,rfl⟩
       rw[HN.out]
       refine(vu (k:=k+1) ?_).symm
       rw[j.out,Ve]
       simp at *
       omega)
     |(refine⟨⟨k+1,by omega,by go_num,?_⟩,by simp[intOf];omega⟩
       rw[j.out,Ze]
       simp at *
       omega)
   ·go_wp2;go_ret;exact⟨kA (by rw[HN.out,<-b.out,Pa (by simp;omega)]),rfl⟩
 ·have l:uA (s.size:Int) 1 32=false:=by unfold uA;simp;omega
  have HN:Hid (kC s=false):=by show _=_;simp[kC];omega
  go_enter func81,ntmps81;go_wp2_with(go_at_call 41;refine(fD _ _ _ _).mono ?_;rintro e h ⟨rfl,rfl⟩);go_ret;exact⟨kA HN.out.symm,rfl⟩
theorem xT (s:ByteArray) (w:World) (h:s.size<=1000000000) (d:dF w):Calls prog 215 #[.string s] w fun e b=>e=.returned (.bool (lE s))/\Below w.heap.size w b:=by
 have H:Hid (Calls prog 245 #[.string s] w fun e b=>e=.returned (.int .i64 (bP s:Nat))/\Below w.heap.size w b):=KD s w h d;have c:Hid (lE s=(!s.toList.isEmpty&&decide (bP s=0))):=rfl;clear d;generalize bP s=v at *;by_cases a:s.toList.isEmpty=true
 ·go_enter func215,ntmps215;go_wp2;go_ret;exact⟨kA (by rw[c.out,a];rfl),Below.refl _ _⟩
 ·have f:s.toList.isEmpty=false:=by simpa using a
  clear a;go_enter func215,ntmps215;go_wp2_with fail;refine H.out.mono ?_;rintro e i ⟨rfl,g⟩;go_wp2;go_ret;exact⟨kA (by rw[c.out,f];rw[Nb];simp),g⟩
theorem lN (s:ByteArray) (w:World) (g:s.size<=1000000000):Calls prog 83 #[.string s] w fun e b=>e=.returned (.bool (lE s))/\Below w.heap.size w b:=by
 have H:Hid (Calls prog 120 #[.string s] w fun e b=>e=.returned (.int .i64 (bP s:Nat))/\Below w.heap.size w b):=LF s w g;have c:Hid (lE s=(!s.toList.isEmpty&&decide (bP s=0))):=rfl;generalize bP s=v at *;by_cases a:s.toList.isEmpty=true
 ·go_enter func83,ntmps83;go_wp2;go_ret;exact⟨kA (by rw[c.out,a];rfl),Below.refl _ _⟩
 ·have d:s.toList.isEmpty=false:=by simpa using a
  clear a;go_enter func83,ntmps83;go_wp2_with fail;refine H.out.mono ?_;rintro e h ⟨rfl,f⟩;go_wp2;go_ret;exact⟨kA (by rw[c.out,d];rw[Nb];simp),f⟩
theorem aLc {key:ByteArray} (h:(uE key).2=false):(iJ (uE key).1).toList.isEmpty=true:=by rw[(MK h).1];simp[iJ]
theorem IG (s:ByteArray) (w:World) (i:s.size<=1000000000):Calls prog 84 #[.string s] w fun e f=>e=.returned (.bool (aJ s))/\Below w.heap.size w f:=by
 have d:Hid (Calls prog 121 #[.string s] w fun e f=>∃a c,e=.returned (.tuple #[.slice a (uE s).1.length c,.bool (uE s).2])/\iE f w.heap.size a (uE s).1/\Below w.heap.size w f):=LD s w i;have k:Hid _:=fun W=>aY s W i;have h:Hid (aJ s=!(iJ (uE s).1).toList.isEmpty):=rfl;cases hd:(uE s).2 with
 |false=>
  have l:=aLc hd;rw[hd]at d;generalize iJ (uE s).1=m at *;generalize (uE s).1=L at *;clear hd;go_enter func84,ntmps84;go_wp2_with fail;refine d.out.mono ?_;rintro e n ⟨a,c,rfl,_,b⟩;go_wp2;go_ret;exact⟨kA (by rw[h.out,l];rfl),b⟩
 |true=>
  rw[hd]at d;generalize iJ (uE s).1=m at *;generalize (uE s).1=L at *;clear hd;go_enter func84,ntmps84;go_wp2_with fail;refine d.out.mono ?_;rintro e n ⟨a,c,rfl,_,b⟩;have j:Hid _:=b;clear b;go_wp2_with fail;refine(k.out _).mono ?_;rintro e o ⟨rfl,g⟩;go_wp2;go_ret;exact⟨kA (by rw[h.out]),pA j.out g⟩
theorem AR (t:eA) (c d:Option Addr) (f g:Nat) (w:World):Calls prog 82 #[.agg #[.string t.name,.int .i64 t.l9,.slice c t.m9.length f,.slice d t.s9.length g]] w fun e i=>e=.returned (.bool (bE t))/\Below w.heap.size w i:=by
 have E:Hid (bE t=(t.l9==-1&&t.m9.length==0&&t.s9.length==0)):=rfl;generalize t.m9.length=h at *;generalize t.s9.length=j at *;generalize t.l9=L at *;by_cases a:L = -1
 ·by_cases b:h=0
  ·go_enter func82,ntmps82;go_wp2;go_ret;exact⟨kA (by rw[E.out,a,b];rw[Nb];simp),cA _ _⟩
  ·go_enter func82,ntmps82;go_wp2;go_ret;exact⟨kA (by rw[E.out,a];rw[Nb];simp[b]),cA _ _⟩
 ·go_enter func82,ntmps82;go_wp2;go_ret;exact⟨kA (by rw[E.out];rw[Nb];simp[a]),cA _ _⟩
theorem eS (x : Int) (w : World) : Calls prog 172 #[.int .i64 x] w fun e w' => e = .returned (.bool (uA x (-1) 1000000)) ∧ w' = w := by
  by_cases h : x = -1
  · have E : Hid (uA x (-1) 1000000 = true) := by show _ = _; subst h; rfl
    go_enter func172, ntmps172
    go_wp2_with(go_at_call 58; refine(qE _ _).mono ?_; rintro e w' ⟨rfl, rfl⟩)
    go_ret
    exact⟨kA E.out.symm, rfl⟩
  · have E : Hid (uA x (-1) 1000000 = uA x 0 1000000) := by
      show _ = _
      unfold uA
      congr 1
      rw [Bool.eq_iff_iff]; simp; omega
    go_enter func172, ntmps172
    go_wp2_with(go_at_call 58; refine(qE _ _).mono ?_; rintro e w' ⟨rfl, rfl⟩)
    go_ret
    exact⟨kA (by rw [E.out, show(x == -1) = false by simpa using h, Bool.false_or]), rfl⟩
theorem mS (n:Int) (w:World):
 Calls prog 50 #[.int .i64 n] w fun e f=>e=.returned (.string (vD n))/\Below w.heap.size w f:=by
 by_cases h:1<=n/\n<=999999
 ·have k:uA n 1 999999=true:=by unfold uA;simp;omega
  have E:Hid (vD n=wR n.toNat):=Ga h;obtain⟨N,rfl⟩:=Int.eq_ofNat_of_zero_le (show 0<=n by omega);have o:N<=999999:=by omega
  have p:=gb;clear h;go_enter func50,ntmps50;go_wp2_with(go_at_call 41;refine(fD _ _ _ _).mono ?_;rintro e f ⟨rfl,hw⟩;replace hw:=hw.symm;subst hw);go_loopw [0,3,4] (fun m s i wr=>∃(j M:Nat) (c:ByteArray),j<=6/\i=.int .i64 j/\m=.int .i64 M/\s=.string c/\Hid (M=N / 10 ^ j)/\M<=999999/\c.size=j/\Hid (c.data.toList=zK N j)/\Below w.heap.size w wr) (fun _ _ i _=>6-(intOf i).toNat)
  case atStart=>exact⟨0,N,ByteArray.empty,by omega,rfl,rfl,rfl,by show _=_;simp,o,rfl,rfl,Below.refl _ _⟩
  case round=>
   obtain⟨j,M,c,r,rfl,rfl,rfl,g,l,d,b,a⟩:=hrel;by_cases q:j<6
   ·go_wp2;refine⟨⟨j+1,M / 10,_,by omega,by go_num,by go_num,rfl,?_,by omega,?_,?_,pA a (cA _ _)⟩,by simp[intOf];omega⟩
    ·show _=_;rw[g.out,Ag,Oc]
    ·rw[FM,d]
    ·show _=_;rw[ck,b.out,zK,g.out]
   ·go_wp2;go_ret;have e:j=6:=by omega
    subst e;refine⟨Zc (fun x=>Ending.returned (.string x)) ?_,a⟩;rw[E.out,wR];refine WD _ _ ?_;rw[Mc,<-b.out];simp
 ·have k:uA n 1 999999=false:=by unfold uA;simp;omega
  have E:Hid (vD n=ByteArray.empty):=Ca h;go_enter func50,ntmps50;go_wp2_with(go_at_call 41;refine(fD _ _ _ _).mono ?_;rintro e f ⟨rfl,hw⟩;replace hw:=hw.symm;subst hw);go_ret;exact⟨Zc (fun x=>Ending.returned (.string x)) E.out.symm,Below.refl _ _⟩
