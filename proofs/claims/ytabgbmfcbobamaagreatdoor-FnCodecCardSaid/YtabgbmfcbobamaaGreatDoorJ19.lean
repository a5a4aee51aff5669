import Derived.Test.YtabgbmfcbobamaaGreatDoorJ13
import Derived.Test.YtabgbmfcbobamaaGreatDoorJ16
set_option maxRecDepth 100000
set_option maxHeartbeats 4000000
namespace Go.Proofs.YtabgbmfcbobamaaGreatDoor
open Go.RowKit Tryz
theorem fc (a C:Option Addr) (D n:Nat) (c d:List mA) (w:World) (N:sC w a c) (t:sC w C d) (hx:c.length<=2000000):
 Calls prog 148 #[.slice a c.length D,.slice C d.length n] w fun e Z=>e=.returned (.bool (vE c d))/\Below w.heap.size w Z:=by
 have R:Hid (sC w a c):=N;have z:Hid (sC w C d):=t;clear N t;by_cases F:c.length=d.length
 ·have G:((c.length:Int) != (d.length:Int))=false:=by simp[F]
  have H:d.length<=c.length/\c.length<=d.length:=by omega
  obtain⟨P,Q⟩:=H;clear F;go_enter func148,ntmps148;go_wp2;go_loopw [5,13] (fun _ i wr=>∃k:Nat,k<=c.length/\i=.int .i64 k/\Hid (vE c d=vE (c.drop k) (d.drop k))/\Below w.heap.size w wr) (fun _ i _=>c.length-(intOf i).toNat)
  case atStart=>exact⟨0,La _,rfl,rfl,Below.refl _ _⟩
  case round=>
   obtain⟨k,hk,rfl,A,f⟩:=hrel;by_cases u:k<c.length
   ·have g:k<d.length:=by omega
    obtain⟨b,o,rfl,hb,J,K⟩:=(R.out.later f).at u;obtain⟨b',o',rfl,T,l,m⟩:=(z.out.later f).at g;have y:=bj c d k u g;have j:∀W,Sem.run prog (binOp .neq 156 (.agg #[.string c[k].name,.string c[k].value]) (.agg #[.string d[k].name,.string d[k].value])) W=.ok (.bool (!wR c[k] d[k])) W:=fun W=>aEu.1 c[k] d[k] W;have O:∀(I:BinOp) (p q:Operand) (W:World),Sem.run prog (eqGuard I 156 p q (.agg #[.string c[k].name,.string c[k].value]) (.agg #[.string d[k].name,.string d[k].value])) W=.ok () W:=fun I p q W=>aEu.2 I p q c[k] d[k] W;have L:=fB.cells J;have M:=fB.cells K;have r:=fB.cells l;have s:=fB.cells m;clear J K l m;have v:=fB.there wr;cases he:wR c[k] d[k]with
    |true=>
     have E:Hid (vE c d=vE (c.drop (k+1)) (d.drop (k+1))):=by show _=_;rw[A.out,y,he,Ce]
     rw[he]at j;clear y he;generalize c[k].name=U at *;generalize c[k].value=X at *;generalize d[k].name=V at *;generalize d[k].value=Y at *;go_wp2_with fail;refine eB (by kernel_rfl) (by kernel_rfl) ?_;repeat (go_big_quiet_step (fail))
     refine wpQuiet_nil ?_;rintro _ ⟨x,rfl⟩;have B:Hid _:=nA f x.h;clear L M r s v;generalize x.w'=S at *;clear x;go_wp2;exact⟨⟨k+1,by omega,by go_num,E.out,B.out⟩,by simp[intOf];omega⟩
    |false=>
     have E:Hid (vE c d=false):=by show _=_;rw[A.out,y,he,Mg]
     rw[he]at j;clear y he;generalize c[k].name=U at *;generalize c[k].value=X at *;generalize d[k].name=V at *;generalize d[k].value=Y at *;go_wp2_with fail;refine eB (by kernel_rfl) (by kernel_rfl) ?_;repeat (go_big_quiet_step (fail))
     refine wpQuiet_nil ?_;rintro _ ⟨x,rfl⟩;have B:Hid _:=nA f x.h;clear L M r s v;generalize x.w'=S at *;clear x;go_wp2;go_ret;exact⟨jA E.out.symm,B.out⟩
   ·have E:Hid (vE c d=true):=by
     show _=_;rw[A.out,Ac (by omega),Ac (by omega)];rfl
    go_wp2;go_ret;exact⟨jA E.out.symm,f⟩
 ·have G:((c.length:Int) != (d.length:Int))=true:=by simp;omega
  have E:Hid _:=gk F;go_enter func148,ntmps148;go_wp2;go_ret;exact⟨jA E.out.symm,Below.refl _ _⟩
theorem mW (a:Option Addr) (g:Nat) (c:List mA) (w:World) (hf:sC w a c) (hB:JC c) (M:c.length<=2000000) (L:c.length<=g):
 Calls prog 124 #[.slice a c.length g] w fun e A=>e=.returned (.string (gG c))/\Below w.heap.size w A:=by
 have s:Hid (Calls prog 122 #[.slice a c.length g] w fun e A=>JD e w A (pA c).1 (pA c).2.1 (pA c).2.2):=NN a g c w hf hB M L;have S:Hid (sC w a c):=hf;have HB:Hid (JC c):=hB;have hcl:=JL c;unfold JD at s;clear hf hB;by_cases J:(pA c).2.1=0
 ·have Z:(((pA c).2.1:Int) != 0)=false:=by simp;omega
  have G:Hid (∀W p B,sC W p (pA c).1->sC W a c->Calls prog 148 #[.slice p (pA c).1.length B,.slice a c.length g] W fun e A=>e=.returned (.bool (vE (pA c).1 c))/\Below W.heap.size W A):=fun W p B h1 h2=>fc p a B g _ c W h1 h2 (by omega);by_cases N:vE (pA c).1 c=true
  ·have n:iO c=true:=by unfold iO;rw[J,N];rfl
   have E:Hid (gG c=nI c):=by show _=_;rw[gG,Qa n]
   have h16:=JK n;have U:Hid (∀W,Calls prog 26 #[.int .i64 1,.int .i64 (c.length:Nat)] W fun e A=>e=.returned (.string (fA 1 (c.length:Nat)))/\Below W.heap.size W A):=fun W=>aC 1 (c.length:Nat) W (by omega) (by omega) (by omega);have hz1:=iA 1 (c.length:Nat);have T:Hid (nI c=fA 1 (c.length:Nat)++cC c):=rfl;have t:Hid _:=N;clear J N n;generalize (pA c).1=C at *;generalize (pA c).2.1=Y at *;generalize (pA c).2.2=c2 at *;generalize fA 1 (c.length:Nat)=X at *;go_enter func124,ntmps124;go_wp2_with fail;refine s.out.mono ?_;rintro e D ⟨p,B,rfl,f,d⟩;have r:Hid _:=d;have u:Hid (sC D p C/\sC D a c):=⟨f.labs,S.out.later d⟩
   clear f d s;go_wp2_with fail;refine(G.out _ _ _ u.out.1 u.out.2).mono ?_;rintro e w2 ⟨rfl,l⟩;rw[t.out];have O:Hid _:=nA r.out l;clear l u r;go_wp2_with fail;refine(U.out _).mono ?_;rintro e w3 ⟨rfl,K⟩;have B3:Hid _:=nA O.out K;clear K O;go_wp2;go_loopw [6,8,28] (fun out _ i wr=>∃(k:Nat) (q:ByteArray),k<=c.length/\i=.int .i64 k/\out=.string q/\q.size<=1+k*3000000000/\Hid (q=X++cC (c.take k))/\Below w.heap.size w wr) (fun _ _ i _=>c.length-(intOf i).toNat)
   case atStart=>exact⟨0,X,La _,rfl,rfl,by omega,by show _=_;simp[cC],B3.out⟩
   case round=>
    obtain⟨k,q,hk,rfl,rfl,hst,H,m⟩:=hrel;by_cases v:k<c.length
    ·obtain⟨b,o,rfl,hb,c0,Y⟩:=(S.out.later m).at v;obtain⟨hs1,hs2⟩:=HB.out k v;have V:Hid _:=fun W=>bN c[k].name W hs1;have F:Hid _:=fun W=>pK c[k].value W hs2;have hz8:=mE c[k].name;have hz16:=oD c[k].value;have HT:=yZ c k v;have R:Hid (q++(oK c[k].name++nD c[k].value)=X++cC (c.take (k+1))):=by show _=_;rw[HT,H.out,Gb]
     clear HT;generalize oK c[k].name=I at *;generalize nD c[k].value=j at *;generalize c[k].name=P at *;generalize c[k].value=Q at *;have z:(I++j).size=I.size+j.size:=Ga;have hzst:(q++(I++j)).size=q.size+(I.size+j.size):=by rw[Ga,z]
     have d0:∀x:fB (wr.alloc (.cells #[.string P,.string Q] 156)),x.w'.cell? ⟨wr.heap.size,0,none⟩=some (.string P):=fB.cells (by simp);have d1:∀x:fB (wr.alloc (.cells #[.string P,.string Q] 156)),x.w'.cell? ⟨wr.heap.size,1,none⟩=some (.string Q):=fB.cells (by simp);have hne:=fB.there (wr.alloc (.cells #[.string P,.string Q] 156));go_wp2_with fail;refine eB (by kernel_rfl) (by kernel_rfl) ?_;repeat (go_big_quiet_step (first|(go_at_call 28;exact pB (V.out _))|(go_at_call 29;exact pB (F.out _))))
     refine wpQuiet_nil ?_;rintro _ ⟨x,rfl⟩;have HX:Hid _:=nA (nA m (cA _ _)) x.h;clear d0 d1 hne;generalize x.w'=W2 at *;clear x;go_wp2;exact⟨⟨k+1,q++(I++j),by omega,by go_num,rfl,by omega,R.out,HX.out⟩,by simp[intOf];omega⟩
    ·have R:Hid (q=gG c):=by
      show _=_;rw[E.out,T.out,H.out,Ua (by omega)]
     go_wp2;go_ret;exact⟨by rw[<-R.out];rfl,m⟩
  ·have y:vE (pA c).1 c=false:=by simpa using N
   have E:Hid (gG c=ByteArray.empty):=by
    show _=_;rw[gG,Oa];unfold iO;rw[y,Jg];simp
   have t:Hid _:=y;clear J N y;generalize (pA c).1=C at *;generalize (pA c).2.1=Y at *;generalize (pA c).2.2=c2 at *;go_enter func124,ntmps124;go_wp2_with fail;refine s.out.mono ?_;rintro e D ⟨p,B,rfl,f,d⟩;have r:Hid _:=d;have u:Hid (sC D p C/\sC D a c):=⟨f.labs,S.out.later d⟩
   clear f d s;go_wp2_with fail;refine(G.out _ _ _ u.out.1 u.out.2).mono ?_;rintro e w2 ⟨rfl,l⟩;rw[t.out];have O:Hid _:=nA r.out l;clear l u r;go_wp2;go_ret;exact⟨by rw[E.out];rfl,O.out⟩
 ·have Z:(((pA c).2.1:Int) != 0)=true:=by simp;omega
  have E:Hid (gG c=ByteArray.empty):=by
   show _=_;rw[gG,Oa];unfold iO;rw[Bc J];simp
  clear J;generalize (pA c).1=C at *;generalize (pA c).2.1=Y at *;generalize (pA c).2.2=c2 at *;go_enter func124,ntmps124;go_wp2_with fail;refine s.out.mono ?_;rintro e D ⟨p,B,rfl,f,d⟩;have r:Hid _:=d;clear f d s;go_wp2;go_ret;exact⟨by rw[E.out];rfl,r.out⟩
def lenOf:Value->Nat
 |.slice _ n _=>n
 |_=>0
def iT (d:ByteArray) (a:List mA) (c:Int):Prop:=∀b,iO b=true->nI b=d->a.length<=b.length/\a=b.take a.length/\c=((1+(cC a).size:Nat):Int)
theorem QT (l:mA) (r:List mA):(cC (l::r)).data.toList=(fA 1 (l.name.size:Nat)).data.toList++(l.name.data.toList++((fA 2 (l.value.size:Nat)).data.toList++(l.value.data.toList++(cC r).data.toList))):=by
 simp[cC,oK,nD]
theorem PQ (a:List mA) (k:Nat) (h:k<a.length):(nI a).data.toList=((fA 1 (a.length:Nat)).data.toList++(cC (a.take k)).data.toList)++(cC (a[k]:: a.drop (k+1))).data.toList:=by
 have e:cC a=cC (a.take k)++cC (a[k]:: a.drop (k+1)):=by
  rw[<-wL,<-Kb h,Ya]
 rw[nI,e];simp
theorem jz (a:List mA) (k:Nat):((fA 1 (a.length:Nat)).data.toList++(cC (a.take k)).data.toList).length=1+(cC (a.take k)).size:=by
 rw[Za,<-pH,<-pH,iA]
theorem pd {a:List mA} (b:iO a=true) (k:Nat) (h:k<a.length):tF (nI a) (1+(cC (a.take k)).size) 1=some (a[k].name,1+(cC (a.take k)).size+1+a[k].name.size):=by
 have c:=uW b k h;refine jw (post:=(fA 2 (a[k].value.size:Nat)).data.toList++(a[k].value.data.toList++(cC (a.drop (k+1))).data.toList)) ?_ (jz a k) (by omega);rw[PQ a k h,QT]
theorem ga {a:List mA} (b:iO a=true) (k:Nat) (h:k<a.length):tF (nI a) (1+(cC (a.take k)).size+1+a[k].name.size) 2=some (a[k].value,1+(cC (a.take k)).size+1+a[k].name.size+2+a[k].value.size):=by
 have c:=uW b k h;refine jw (pre:=((fA 1 (a.length:Nat)).data.toList++(cC (a.take k)).data.toList)++((fA 1 (a[k].name.size:Nat)).data.toList++a[k].name.data.toList)) (post:=(cC (a.drop (k+1))).data.toList) ?_ ?_ (by omega)
 ·rw[PQ a k h,QT];simp only[Ld]
 ·rw[Za,jz,Za,<-pH,<-pH,iA];omega
theorem QU (a:List mA) (k:Nat) (h:k<a.length):(cC (a.take (k+1))).size=(cC (a.take k)).size+1+a[k].name.size+2+a[k].value.size:=by
 rw[yZ a k h,Ga,Ga,mE,oD];omega
theorem qp (a:List mA) (k:Nat):(cC (a.take k)).size<=(cC a).size:=by
 have e:cC a=cC (a.take k)++cC (a.drop k):=by rw[<-wL,Ya]
 rw[e,Ga];omega
theorem YX (a:List mA):(nI a).size=1+(cC a).size:=by rw[nI,Ga,iA]
theorem UY (a:ByteArray):iT a [] 1:=fun b _ _=>⟨La _,by simp,rfl⟩
theorem FW {d:ByteArray} {a:List mA} {p:Nat} (h:iT d a (p:Nat)) (n:p<d.size):∀b,iO b=true->nI b=d->∃g:a.length<b.length,tF d p 1=some (b[a.length].name,p+1+b[a.length].name.size)/\tF d (p+1+b[a.length].name.size) 2=some (b[a.length].value,p+1+b[a.length].name.size+2+b[a.length].value.size):=by
 intro b j g;obtain⟨l,i,m⟩:=h b j g;have f:p=1+(cC a).size:=by omega
 have c:a.length<b.length:=by
  rcases Rc a.length b.length with c|k
  ·exact c
  ·exfalso;have e:a=b:=by rw[i];exact Ua (by omega)
   have:=YX b;rw[g]at this;rw[e]at f;omega
 refine⟨c,?_,?_⟩
 ·have:=pd j a.length c;rw[<-i,g,<-f]at this;exact this
 ·have:=ga j a.length c;rw[<-i,g,<-f]at this;exact this
theorem ay {b:ByteArray} {a:List mA} {p:Nat} (h:iT b a (p:Nat)) (t:p<b.size) {m o:ByteArray} {q n:Nat} (r:tF b p 1=some (m,q)) (s:tF b q 2=some (o,n)):iT b (a++[⟨m,o⟩]) (n:Nat):=by
 intro c i j;obtain⟨d,e,f⟩:=FW h t c i j;obtain⟨u,g,v⟩:=h c i j;rw[r]at e;simp only[Pa,Hc]at e;obtain⟨rfl,rfl⟩:=e;rw[s]at f;simp only[Pa,Hc]at f;obtain⟨rfl,rfl⟩:=f;have k:(a++[(⟨c[a.length].name,c[a.length].value⟩:mA)]).length=a.length+1:=by simp
 have l:a++[(⟨c[a.length].name,c[a.length].value⟩:mA)]=c.take (a.length+1):=by
  rw[Ma d,<-g]
 refine⟨by rw[k];omega,by rw[k];exact l,?_⟩;rw[l,QU c a.length d,<-g];congr 1;omega
theorem FX {a:ByteArray} {d:List mA} {p:Nat} (h:iT a d (p:Nat)) (o:p<a.size) (e:tF a p 1=none\/∃j q,tF a p 1=some (j,q)/\tF a q 2=none) (b:List mA) (k:Int):iT a b k:=by
 intro r l m;exfalso;obtain⟨n,c,i⟩:=FW h o r l m;rcases e with e|⟨j,q,f,g⟩
 ·rw[e]at c;exact absurd c (by simp)
 ·rw[f]at c;simp only[Pa,Hc]at c;obtain⟨rfl,rfl⟩:=c;rw[g]at i;exact absurd i (by simp)
theorem gf {b:ByteArray} {c:List mA} {a:Int} (h:iT b c a) (q:a<=0\/(b.size:Int)<=a\/16<c.length):
 (dE b=(c,true)/\gG c=b/\0<b.size)\/(dE b=([],false)/\(b.size=0\/gG c≠b)):=by
 cases hd:(dE b).2 with
 |true=>
  obtain⟨f,d⟩:=SR hd;obtain⟨l,g,p⟩:=h _ f d;have m:=JK f;have i:=YX (dE b).1;rw[d]at i;have e:c=(dE b).1:=by
   rcases Rc c.length (dE b).1.length with j|n
   ·exfalso;have o:=QU (dE b).1 c.length j;have r:=qp (dE b).1 (c.length+1);rw[<-g]at o;omega
   ·rw[g];exact Ua (by omega)
  left;refine⟨?_,?_,by omega⟩
  ·rw[e];cases hdk:dE b with
   |mk x y=>rw[hdk]at hd;simp only at hd |-;rw[hd]
  ·rw[e,gG,Qa f,d]
 |false=>
  obtain⟨l,g⟩:=IM hd;right;refine⟨l,?_⟩;by_cases k:b.size=0
  ·exact Ca k
  ·right;intro d;unfold gG at d;split at d
   ·rename_i f;exact g c f d
   ·rw[<-d]at k;exact k rfl
theorem so {a:List mA} (h:JC a) {l:mA} (b:l.name.size<=1000000000/\l.value.size<=1000000000):JC (a++[l]):=fun i c=>by
 by_cases e:i<a.length
 ·rw[Be e];exact h i e
 ·rw[Pe (by omega)];simpa using b
theorem GK (b:ByteArray) (w:World) (M:b.size<=1000000000):
 Calls prog 146 #[.string b] w fun e z=>∃a R,e=.returned (.tuple #[.slice a (dE b).1.length R,.bool (dE b).2])/\gC z w.heap.size a (dE b).1/\Below w.heap.size w z:=by
 go_enter func146,ntmps146;go_wp2;go_loopw [4,5,6,7,8,9] (fun D Q _ _ _ _ wr=>∃(c:List mA) (p:Int) (g A:Nat),Q=.int .i64 p/\D=.slice (some ⟨g,0,none⟩) c.length A/\-1<=p/\p<=1000000000/\c.length<=17/\Hid (JC c/\iT b c p)/\Hid (wr.ownsRow w.heap.size 156 2 (.slice (some ⟨g,0,none⟩) c.length A) c.length (aB c))/\Below w.heap.size w wr) (fun D _ _ _ _ _ _=>18-lenOf D)
 case atStart=>
  exact⟨[],1,_,_,rfl,rfl,by omega,by omega,by simp,⟨fun i h=>absurd h (by simp),UY b⟩,World.ownsRow_made w #[] 0 (Ka _) (by simp[maxLen]) (by simp),cA _ _⟩
 case round=>
  obtain⟨c,t,g,A,rfl,rfl,hp1,hp2,hal,G,j,d⟩:=hrel;have N:=d.size;by_cases K:0<t/\t<(b.size:Int)/\c.length<=16
  ·obtain⟨hg1,hg2,hg3⟩:=K;obtain⟨p,rfl⟩:∃p:Nat,t=(p:Int):=⟨t.toNat,by omega⟩
   have C:p<b.size:=by omega
   have Z:((c.length:Nat):Int)<=16:=by omega
   obtain⟨f,m,q,u,H1,F,I,h4,h5,h6⟩:∃f m,∃q u:Int,(Hid (∀W,Calls prog 112 #[.string b,.int .i64 (p:Nat),.int .i64 1] W fun e z=>e=.returned (.tuple #[.string f,.int .i64 q])/\z=W))/\(Hid (∀W,Calls prog 112 #[.string b,.int .i64 q,.int .i64 2] W fun e z=>e=.returned (.tuple #[.string m,.int .i64 u])/\z=W))/\iT b (c++[⟨f,m⟩]) u/\-1<=u/\u<=1000000000/\f.size<=1000000000/\m.size<=1000000000:=by
    have h0:ByteArray.empty.size=0:=rfl;cases hn1:tF b p 1 with
    |none=>exact⟨_,_,_,_,fun W=>cS b p 1 W M (by omega) (by omega) hn1,fun W=>CF b 2 W,FX G.out.2 C (Ca hn1) _ _,by omega,by omega,by omega,by omega⟩
    |some tq=>
     obtain⟨f,q⟩:=tq;obtain⟨hq1,hq2,hq3⟩:=IV hn1;cases hn2:tF b q 2 with
     |none=>exact⟨f,_,(q:Nat),_,fun W=>oN b p 1 f q W M (by omega) hn1,fun W=>cS b q 2 W M (by omega) (by omega) hn2,FX G.out.2 C (Ja ⟨f,q,hn1,hn2⟩) _ _,by omega,by omega,by omega,by omega⟩
     |some V=>
      obtain⟨m,u⟩:=V;obtain⟨hr1,hr2,hr3⟩:=IV hn2;exact⟨f,m,(q:Nat),(u:Nat),fun W=>oN b p 1 f q W M (by omega) hn1,fun W=>oN b q 2 m u W M (by omega) hn2,ay G.out.2 C hn1 hn2,by omega,by omega,by omega,by omega⟩
   have P:=bA I;have L:(c++[(⟨f,m⟩:mA)]).length=c.length+1:=by simp
   clear I;go_wp2_with fail;refine pD (H1.out _) ?_;go_wp2_with fail;refine pD (F.out _) ?_;go_wp2_with(at_builtin;refine gN rfl _ _ rfl underlying123 vP rfl (by omega) (by omega) rfl j.out rfl rfl (cs:=#[.string f,.string m]) rfl (by simp[Value.oneCell']) (by omega) N ?_;intro g5 H w5 O5 T5);have o:=O5.out;rw[show aB c++(#[Value.string f,.string m]).toList=aB (c++[⟨f,m⟩]) by rw[eD];rfl,<-L]at o;exact⟨⟨c++[(⟨f,m⟩:mA)],u,g5,H,rfl,by rw[L],by omega,by omega,by omega,⟨so G.out.1 h6,P.out⟩,o,d.trans (T5.out.below N fun i hi e=>by omega)⟩,by simp only[lenOf];omega⟩
  ·have J:=gf G.out.2 (by omega);obtain⟨T,_,_,_⟩:=cG j.out;have Y:Hid (gC wr w.heap.size (some ⟨g,0,none⟩) c):=rF j.out;have X:Hid (Calls prog 124 #[.slice (some ⟨g,0,none⟩) c.length A] wr fun e z=>e=.returned (.string (gG c))/\Below wr.heap.size wr z):=mW _ A c wr Y.out.labs G.out.1 (by omega) T;have s:Hid (b.toList.isEmpty=decide (b.size=0)):=by
    show _=_;rw[ByteArray.toList_eq,pH];cases b.data.toList<;>simp
   have S:(dE b=(c,true)/\b.toList.isEmpty=false/\((gG c).toList==b.toList)=true)\/(dE b=([],false)/\b.toList.isEmpty=true)\/(dE b=([],false)/\b.toList.isEmpty=false/\((gG c).toList==b.toList)=false):=by
    rcases J with⟨k,r,I⟩|⟨k,r⟩
    ·left;refine⟨k,?_,?_⟩
     ·rw[s.out];exact Bc (by omega)
     ·rw[r];simp
    ·by_cases U:b.size=0
     ·right;left;exact⟨k,by rw[s.out];exact Zb U⟩
     ·right;right;refine⟨k,by rw[s.out];exact Bc U,?_⟩;rw[<-Bool.not_eq_true];intro hb;rcases r with r|r
      ·exact U r
      ·exact r (toList_inj (by simpa using hb))
   have B:t<=0\/(0<t/\(b.size:Int)<=t)\/(0<t/\t<(b.size:Int)/\(16:Int)<(c.length:Nat)):=by omega
   clear J j K s;generalize gG c=KV at *;rcases S with⟨k,r,I⟩|⟨k,r⟩|⟨k,r,I⟩
   ·have E:Hid _:=k;clear k;rcases B with x|⟨x,n⟩|⟨x,n,y⟩
    all_goals
     go_wp2_with fail;refine X.out.mono ?_;rintro e O ⟨rfl,l⟩;have F:Hid (gC O w.heap.size (some ⟨g,0,none⟩) c/\Below w.heap.size w O):=⟨Y.out.later l,nA d l⟩
     clear l;go_wp2;refine bodyPost_ret (v:=.tuple #[.slice (some ⟨g,0,none⟩) c.length A,.bool true]) (by simp[results,results146,go_sem]) rfl ⟨some ⟨g,0,none⟩,A,?_,?_,F.out.2⟩
     ·rw[E.out]
     ·rw[E.out];exact F.out.1
   ·have E:Hid _:=k;clear k;rcases B with x|⟨x,n⟩|⟨x,n,y⟩
    all_goals
     go_wp2;refine bodyPost_ret (v:=.tuple #[.slice (some ⟨wr.heap.size,0,none⟩) 0 0,.bool false]) (by simp[results,results146,go_sem]) rfl ?_;first
      |exact⟨some ⟨wr.heap.size,0,none⟩,0,by rw[E.out];rfl,by rw[E.out];exact Ca rfl,nA d (cA _ _)⟩
      |exact⟨some ⟨wr.heap.size,0,none⟩,⟨0,by rw[E.out];rfl⟩,by rw[E.out];exact Ca rfl,nA d (cA _ _)⟩
      |exact⟨⟨some ⟨wr.heap.size,0,none⟩,⟨0,by rw[E.out];rfl⟩,by rw[E.out];exact Ca rfl⟩,nA d (cA _ _)⟩
      |exact⟨⟨some ⟨wr.heap.size,0,none⟩,0,by rw[E.out];rfl,by rw[E.out];exact Ca rfl⟩,nA d (cA _ _)⟩
   ·have E:Hid _:=k;clear k;rcases B with x|⟨x,n⟩|⟨x,n,y⟩
    all_goals
     go_wp2_with fail;refine X.out.mono ?_;rintro e O ⟨rfl,l⟩;have F:Hid _:=nA d l;clear l;go_wp2;refine bodyPost_ret (v:=.tuple #[.slice (some ⟨O.heap.size,0,none⟩) 0 0,.bool false]) (by simp[results,results146,go_sem]) rfl ⟨some ⟨O.heap.size,0,none⟩,0,?_,?_,nA F.out (cA _ _)⟩
     ·rw[E.out];rfl
     ·rw[E.out];exact Ca rfl
def qJ (a:List tQ):List Value:=a.flatMap fun x=>[.pointer (some ⟨x.b,0,none⟩),.int .i64 x.t]
theorem TI (a b:List tQ):qJ (a++b)=qJ a++qJ b:=by simp[qJ]
theorem AY (a:List tQ):(qJ a).length=a.length*2:=by
 induction a with
 |nil=>rfl
 |cons x r b=>simp[qJ]at b |-;omega
theorem DI:∀(a:List tQ) (k:Nat),k<a.length->(qJ a)[k*2]?=some (.pointer (some ⟨(zE a k).b,0,none⟩))/\(qJ a)[k*2+1]?=some (.int .i64 (zE a k).t)
 |[],k,h=>absurd h (by simp)
 |x::r,0,_=>⟨rfl,rfl⟩
 |x::r,k+1,h=>by
  have c:=DI r k (by simpa using h);have e:qJ (x::r)=.pointer (some ⟨x.b,0,none⟩):: .int .i64 x.t::qJ r:=rfl;rw[e,show(k+1)*2=k*2+1+1 by omega,Ia,Ia,Ia,Ia];exact c
theorem TM {w:World} {B g n a:Nat} {c:List tQ} (h:w.ownsRow B 248 2 (.slice (some ⟨g,0,none⟩) n a) n (qJ c)) (u:n=c.length):uK w g a c/\B<=g:=by
 rcases h.2 with⟨e,_⟩|⟨s,d,b,e,o,p,t,i,l,m⟩
 ·simp at e
 ·simp only[Value.slice.injEq,Pa,Addr.mk.injEq,Yb,Rg]at e;obtain⟨rfl,rfl⟩:=e;refine⟨⟨b,p,l,by omega,i,fun k r=>?_⟩,o⟩;have f:∀j,j<n*2->b[j]?=(qJ c)[j]?:=fun j q=>by rw[<-m,Mb q,Zd]
  rw[f _ (by omega),f _ (by omega)];exact DI c k r
theorem BU {w:World} {B g a:Nat} {b:List tQ} (h:uK w g a b) (m:B<=g):w.ownsRow B 248 2 (.slice (some ⟨g,0,none⟩) b.length a) b.length (qJ b):=by
 obtain⟨c,d,f,i,k,l⟩:=h;refine⟨AY b,Ja ⟨g,a,c,rfl,m,d,i,k,f,?_⟩⟩;apply List.ext_getElem?;intro j;by_cases n:j<b.length*2
 ·rw[Mb n,Zd];obtain⟨o,p⟩:=l (j / 2) (by omega);obtain⟨q,r⟩:=DI b (j / 2) (by omega);rcases Nat.mod_two_eq_zero_or_one j with e|e
  ·have:j=j / 2*2:=by omega
   rw[this,o,q]
  ·have:j=j / 2*2+1:=by omega
   rw[this,p,r]
 ·rw[Ae (by simp;omega),Ae (by rw[AY];omega)]
theorem ev:(prog.info? 248).map (fun i=>(i.zero,i.size,i.bytes))=some (some (.agg #[.pointer none,.int .i64 0]),2,16):=by kernel_rfl
theorem dq (p q:Value) (s t:Int) (w:World):Calls prog 232 #[.agg #[p,.int .i64 s],.agg #[q,.int .i64 t]] w fun e a=>e=.returned (.bool (decide (s<t)))/\Below w.heap.size w a:=by
 go_enter func232,ntmps232;go_wp2;go_ret;exact⟨rfl,nA (cA _ _) (cA _ _)⟩
theorem UD (x y : Value) (w : World) : (invoke (.fn (.method "loop.example/s02176/impl.before") #[]) #[.iface 248 x, y]).run prog w = .ok (.enter 232 #[x, y]) w := by kernel_rfl
theorem NZ {P:Program} {c:Array Oper} {C:World->Prop} {Q:Act->Prop} {a:Act} {o:Oper} {b:List Oper} {f:FuncId} {args:Array Value} {v:Value} (hw:Region.wanted o (yielded c a.tmps)=true)
 (j:∀w,(execOp a.eval o).run P w=.ok (.enter f args) w) (i:∀w,C w->Calls P f args w (fun e d=>e=.returned v/\C d)) (h:wpQuiet P c C Q b (a.put o.dst v)):wpQuiet P c C Q (o::b) a:=
 BigFrame.wpQuiet_want hw fun K g=>⟨v,fun w hw=>by unfold Oper.quietAt;rw[j];exact⟨rfl,i w hw⟩,g _ h⟩
theorem XS {P:Program} (ρ:Operand->Value) (o:Oper) (r y:Operand) (name:String) (d:Array TypeId) (a:o.op=.call { callee:=.invoke r name,args:=#[y],argTypes:=d}) {u z:Value} (b:ρ r=u) (c:ρ y=z) {n:Next} {w:World}
 (h:(invoke (.fn (.method name) #[]) #[u,z]).run P w=.ok n w):(execOp ρ o).run P w=.ok n w:=by
 unfold execOp;simp only[a,resolve];simp[b,c,h]
theorem wj (x o B:Nat) (v:Value) (j:List tQ) (s:tQ) (w:World) (G:Array Value) (M:TypeId) (hX:eA w x G M) (ho:G[o]?=some v) (O:w.ownsRow B 248 2 v j.length (qJ j)) (E:v.ownBlock≠some x) (hB:B<=w.heap.size) (hn:j.length<=1000000000):
 Calls prog 170 #[.pointer (some ⟨x,o,none⟩),.agg #[.pointer (some ⟨s.b,0,none⟩),.int .i64 s.t]] w fun e w'=>e=.returned (.tuple #[])/\∃g f,eA w' x (G.setIfInBounds o (.slice (some ⟨g,0,none⟩) (j.length+1) f)) M/\
  w'.ownsRow B 248 2 (.slice (some ⟨g,0,none⟩) (j.length+1) f) (j.length+1) (qJ (gW j s))/\(v.ownBlock=some g\/w.heap.size<=g)/\gA (fun k=>k=x\/v.ownBlock=some k) w w':=by
 obtain⟨i0,hi,hz0,hz1,hz2⟩:=info_parts ev;have c0:w.cell? ⟨x,o,none⟩=some v:=by rw[hX.cell];exact ho
 have hxl:=aA hX;have HX:Hid (eA w x G M):=hX;clear hX;have OWN:Hid (((w.alloc (.cells #[.pointer (some ⟨s.b,0,none⟩),.int .i64 s.t] 248)).alloc (.cells #[.pointer (some ⟨s.b,0,none⟩),.int .i64 s.t] 248)).ownsRow B 248 2 v j.length (qJ j)):=bA ((O.alloc _).alloc _);have NEW:Hid (((w.alloc (.cells #[.pointer (some ⟨s.b,0,none⟩),.int .i64 s.t] 248)).alloc (.cells #[.pointer (some ⟨s.b,0,none⟩),.int .i64 s.t] 248)).heap[w.heap.size+1]?=some (.cells #[.pointer (some ⟨s.b,0,none⟩),.int .i64 s.t] 248 (0,0))):=bA (by have:=heap_alloc_new (w.alloc (.cells #[.pointer (some ⟨s.b,0,none⟩),.int .i64 s.t] 248)) (.cells #[.pointer (some ⟨s.b,0,none⟩),.int .i64 s.t] 248);simpa using this);have N:Hid (∀p:World,((w.alloc (.cells #[.pointer (some ⟨s.b,0,none⟩),.int .i64 s.t] 248)).alloc (.cells #[.pointer (some ⟨s.b,0,none⟩),.int .i64 s.t] 248)).grownBy p v.ownBlock->eA p x G M/\gA (fun k=>v.ownBlock=some k) w p):=fun p h=>by
  have ht:=(gA.of (S:=fun k=>v.ownBlock=some k) (nA (cA w _) (cA _ _))).trans' (gA.grown h);exact⟨ht.blk HX.out E,ht⟩
 clear O;go_enter func170,ntmps170;go_upto_region 1 with fail;go_cut [13] (fun _ wx=>∃g f,eA wx x (G.setIfInBounds o (.slice (some ⟨g,0,none⟩) (j.length+1) f)) M/\uK wx g f (j++[s])/\B<=g/\(v.ownBlock=some g\/w.heap.size<=g)/\g≠x/\gA (fun k=>k=x\/v.ownBlock=some k) w wx)
 case first=>
  go_region_law (refine step_append_lies _ rfl (.tmp 10) (.tmp 12) 238 rfl B 248 i0 (.agg #[.pointer none,.int .i64 0]) 2 16 underlying238 hi hz0 hz1 hz2 rfl (by decide) v j.length (qJ j) (by simp[Act.eval]) (by exact OWN.out) ⟨w.heap.size+1,0,none⟩ 1 1 [.pointer (some ⟨s.b,0,none⟩),.int .i64 s.t] (by simp[Act.eval]) rfl (World.news_of_block (cs:=#[.pointer (some ⟨s.b,0,none⟩),.int .i64 s.t]) (by exact NEW.out)) (by intro u hu;simp at hu;rcases hu with rfl|rfl<;>rfl) (by omega) (by unfold maxLen;omega) (by omega) (by simp;omega) (w.heap.size+1+1) (by simp) ?_;intro g f p hrow D m hlt;obtain⟨n,L⟩:=N.out p ⟨D.os,D.tape,D.output,D.size,D.block⟩;have c1:p.cell? ⟨x,o,none⟩=some v:=(by rw[n.cell];exact ho);have d:=n.free o)
  all_goals(go_wp2_with fail;go_meet)
  all_goals
   have hr2:p.ownsRow B 248 2 (.slice (some ⟨g,0,none⟩) (j.length+1) f) (j.length+1) (qJ (j++[s])):=by rw[TI];exact hrow
   obtain⟨hM,I⟩:=TM hr2 (by simp);have K:g≠x:=by
    rcases m with h|h
    ·exact fun e=>E (by rw[<-e];exact h)
    ·omega
   obtain⟨cur,m1,m2⟩:=hM;exact⟨g,f,n.set o _,⟨cur,m1.but ((dB.refl _ _).setCell _ _) K,m2⟩,I,by rcases m with h|h;exact Ca h;exact Ja (by omega),K,gA.setCell (S:=fun k=>k=x\/v.ownBlock=some k) (L.mono fun k _ hk=>Ja hk) (Ca (Ca rfl)) _ _⟩
 obtain⟨g,f,n,hM1,I,m,K,L⟩:=hcut;rename World=>p;have R:Hid (eA p x (G.setIfInBounds o (.slice (some ⟨g,0,none⟩) (j.length+1) f)) M):=n;have HM1:Hid (uK p g f (j++[s])):=hM1;have HT1:Hid _:=L;have r:Hid _:=m;have hoc:=(Vb.1 ho).1;have J:(G.setIfInBounds o (.slice (some ⟨g,0,none⟩) (j.length+1) f))[o]?=some (.slice (some ⟨g,0,none⟩) (j.length+1) f):=by simp[hoc]
 obtain⟨T,V⟩:∃c,c=G.setIfInBounds o (.slice (some ⟨g,0,none⟩) (j.length+1) f):=⟨_,rfl⟩
 rw[<-V]at J R;have HCD:Hid _:=V;clear V;have k0:p.cell? ⟨x,o,none⟩=some (.slice (some ⟨g,0,none⟩) (j.length+1) f):=by rw[R.out.cell];exact J
 clear n hM1 L m OWN NEW N HX c0 ho hi hz0 hz1 hz2 E;go_wp2;go_loopw [4] (fun a wr=>∃(k:Nat) (l:List tQ),a=.int .i64 k/\k<l.length/\l.length=j.length+1/\eA wr x T M/\uK wr g f l/\Hid (gW j s=nO l k)/\gA (fun k=>k=x\/v.ownBlock=some k) w wr) (fun a _=>(intOf a).toNat)
 case atStart=>exact⟨j.length,j++[s],by go_num,by simp,by simp,R.out,HM1.out,rfl,HT1.out⟩
 case round=>
  obtain⟨k,l,rfl,hk,hl,Y,hM2,HS,ht2⟩:=hrel;have F:Hid (eA wr x T M):=Y;have z:Hid (uK wr g f l):=hM2;have Q:Hid _:=ht2;have k1:wr.cell? ⟨x,o,none⟩=some (.slice (some ⟨g,0,none⟩) (j.length+1) f):=by rw[Y.cell];exact J
  clear Y hM2 ht2 k0;by_cases h0:0<k
  ·have X:=GC (l:=l) h0;obtain⟨q,hqd⟩:∃q,q=(k-1) / 2:=⟨_,rfl⟩
   rw[<-hqd]at X;have hq:((k:Int)-1) / 2=(q:Nat):=by omega
   have hp:q<l.length:=by omega
   obtain⟨a0,a1,_,_⟩:=z.out.cells hk;obtain⟨b0,b1,_,_⟩:=z.out.cells hp;have HST:Hid _:=X;have HSW:Hid (∀W,Below wr.heap.size wr W->Calls prog 176 #[.pointer (some ⟨x,o,none⟩),.int .i64 k,.int .i64 (((k:Int)-1) / 2)] W fun e w'=>e=.returned (.tuple #[])/\uK w' g f (iM l k q)/\dB g W w'):=
    fun W hW=>by rw[hq];exact xu x o g (j.length+1) f k q l W (by rw[(F.out.later hW).cell];exact J) hl.symm (z.out.later hW) (by omega) (by omega)
   have HL:Hid _:=hl;have hkn:k<j.length+1:=by omega
   have hqn:q<j.length+1:=by omega
   clear X hqd hl;have d0:=fB.cells k1;have d1:=fB.cells a0;have d2:=fB.cells a1;have d3:=fB.cells b0;have d4:=fB.cells b1;have hnel:=fB.there wr;clear a0 a1 b0 b1 k1;generalize zE l k=A at *;generalize zE l q=C at *;go_wp2_with fail;refine eB (by kernel_rfl) (by kernel_rfl) ?_;repeat (go_big_quiet_step (fail))
   refine NZ (by rfl) (fun W=>XS _ _ _ _ _ _ rfl rfl rfl (UD _ _ W)) (by rintro _ ⟨x,rfl⟩;exact pB (dq _ _ _ _ _)) ?_;simp only[Act.put,Pf,Nd,List.set_cons_zero];repeat (go_big_quiet_step (fail))
   refine wpQuiet_nil ?_;rintro _ ⟨y,rfl⟩;have Z:Hid _:=y.h;have HE:Hid _:=hq;clear d0 d1 d2 d3 d4 hnel hq;generalize y.w'=W2 at *;clear y;by_cases H:A.t<C.t
   ·have hd:decide (A.t<C.t)=true:=by simpa using H
    rw[hd];have P:Hid (gW j s=nO (iM l k q) q):=by show _=_;rw[HS.out,HST.out,Qa H]
    go_wp2_with fail;refine(HSW.out _ Z.out).mono ?_;rintro e w3 ⟨rfl,hM3,U⟩;have HM3:Hid (uK w3 g f (iM l k q)):=hM3;have HX3:Hid (eA w3 x T M):=(F.out.later Z.out).but U K.symm;have HT3:Hid (gA (fun k=>k=x\/v.ownBlock=some k) w w3):=by
     refine(Q.out.trans' (gA.of Z.out)).trans ((gA.but U).mono fun i _ e=>?_);subst e;rcases r.out with h|h
     ·exact Ca (Ja h)
     ·exact Ja h
    clear hM3 U HSW;go_wp2;exact⟨⟨q,iM l k q,by rw[HE.out],by rw[nG];exact hp,by rw[nG];exact HL.out,HX3.out,HM3.out,P.out,HT3.out⟩,by simp[intOf];omega⟩
   ·have hd:decide (A.t<C.t)=false:=by simpa using H
    rw[hd];have P:Hid (gW j s=l):=by show _=_;rw[HS.out,HST.out,Oa H]
    go_wp2;refine bodyPost_ret (v:=.tuple #[]) (by simp[results,results170,go_sem]) rfl ⟨rfl,g,f,HCD.out ▸ F.out.later Z.out,?_,r.out,Q.out.trans' (gA.of Z.out)⟩;rw[P.out,<-HL.out];exact BU (z.out.later Z.out) I
  ·go_wp2;go_end0;obtain rfl:k=0:=by omega
   rw[HS.out,GF];refine⟨rfl,g,f,HCD.out ▸ F.out,?_,r.out,Q.out⟩;rw[<-hl];exact BU z.out I
def jT (c:vB) (e:Int) (b:List dA) (a d:ByteArray):List dA×Nat:=
 if (yB a&&eI d)=false then(b,5)
 else if (xC (·.s) d (tA b a).s9).isSome=true then(bB (·.name) (kI (tA b a) d e) b,1)
 else if (if (tA b a).l9 = -1 then c.tl else(tA b a).l9)<=((tA b a).s9.length:Nat)\/((xC (·.name) a b).isNone&&decide (10000<=b.length))=true then(b,3)
 else if qG (tA b a).m9 (vD d) c.ml<=(wN vD (tA b a).s9 (vD d):Nat) then(b,4)
 else(bB (·.name) (kI (tA b a) d e) b,2)
theorem qq {d c:Int} {a:List dA} (h:yL d c a=true) {name:ByteArray}: -1<=(tA a name).l9/\(tA a name).l9<=1000000:=by
 rcases uI (ts:=a) (name:=name) with⟨b,_⟩|⟨b,_⟩
 ·have:=nH h _ b;simp only[eO,Sa]at this;exact dK this.1.1.1.2
 ·rw[b];exact⟨by simp,by simp⟩
theorem ip {c:vB} {e:Int} {d:List dA} (h:gB c e d=true) (a b:ByteArray):iF c e d a b=(e,(jT c e d a b).1,(jT c e d a b).2):=by
 obtain⟨_,_,_,m,n⟩:=oF h;unfold iF jT;rw[Oa (by rw[h];simp)];by_cases f:(yB a&&eI b)=false
 ·rw[Qa f,Qa f]
 ·rw[Oa f,Oa f];by_cases i:(xC (·.s) b (tA d a).s9).isSome=true
  ·rw[Qa i,Qa i]
  ·rw[Oa i,Oa i];have o:(vD b).toList.isEmpty=false:=by
    have:(yB a&&eI b)=true:=by simpa using f
    simp only[Sa,eI]at this;simpa using this.2
   have j:qD c (tA d a) ByteArray.empty=((((tA d a).s9.length:Nat):Int),if (tA d a).l9 = -1 then c.tl else(tA d a).l9):=by
    unfold qD;rw[Qa (show ByteArray.empty.toList.isEmpty=true by rw[ByteArray.toList_eq];rfl)];have:=(qq n (name:=a)).1;by_cases l:(tA d a).l9 = -1
    ·rw[Qa l,Qa (by omega)]
    ·rw[Oa l,Oa (by omega)]
   have k:qD c (tA d a) (vD b)=(((wN vD (tA d a).s9 (vD b):Nat):Int),qG (tA d a).m9 (vD b) c.ml):=by
    unfold qD;rw[Oa (by rw[o];simp)]
   have bA:=ib n (name:=a);rw[j,k];simp only;have g:(iE (tA d a)=true/\d.length=10000) ↔ ((xC (·.name) a d).isNone&&decide (10000<=d.length))=true:=by
    rw[bA,Sa,Eb];cases xC (·.name) a d with
    |none=>simp;omega
    |some q=>simp
   simp only[g];generalize (if (tA d a).l9 = -1 then c.tl else(tA d a).l9)=p;split
   ·rfl
   ·split<;>rfl
theorem kT (w:World) (cs:Array Value) (t:TypeId):eA (w.alloc (.cells cs t)) w.heap.size cs t:=heap_alloc_new _ _
def OD (a:Option Addr) (c:List kA) (P:Nat):Prop:=c=[]\/∃b o,a=some ⟨b,o,none⟩/\b≠P
theorem uO {w a:World} {cs:Array Value} {t:TypeId} (h:Below (w.alloc (.cells cs t)).heap.size (w.alloc (.cells cs t)) a):eA a w.heap.size cs t:=(kT w cs t).later h
theorem AK {w:World} {P:Nat} {i j k l m n a b c d e f:Value} {t:TypeId} (h:eA w P #[i,j,k,l,m,n] t):
 eA ((((((w.setCell ⟨P,0,none⟩ a).setCell ⟨P,1,none⟩ b).setCell ⟨P,2,none⟩ c).setCell ⟨P,3,none⟩ d).setCell ⟨P,4,none⟩ e).setCell ⟨P,5,none⟩ f) P #[a,b,c,d,e,f] t:=by
 have g:=(((((h.set 0 a).set 1 b).set 2 c).set 3 d).set 4 e).set 5 f;simpa using g
theorem bR {w a:World} {cs:Array Value} {t:TypeId} (h:Below (w.alloc (.cells cs t)).drew.heap.size (w.alloc (.cells cs t)).drew a):eA a w.heap.size cs t:=(kT w cs t).later ⟨h.os,h.tape,h.output,h.size,h.block⟩
theorem dh {w:World} {a:Option Addr} {d:List kA} {P:Nat} {t:TypeId} (h:qA w a d) (j:eA w P #[.slice none 0 0,.int .i64 0,.int .i64 0,.int .i64 0,.int .i64 0,.bool false] t):OD a d P:=by
 rcases h with h|⟨b,o,e,_,h⟩
 ·exact Ca h
 ·by_cases f:d=[]
  ·exact Ca f
  ·refine Ja ⟨b,o,e,fun g=>?_⟩;subst g;have i:0<d.length:=by
    cases d with
    |nil=>exact absurd rfl f
    |cons _ _=>simp
   have c:=(h 0 i).1;rw[j.cell]at c;simp only[Nat.zero_mul,Bf]at c;match o,c with
   |0,c=>simp at c
   |1,c=>simp at c
   |2,c=>simp at c
   |3,c=>simp at c
   |4,c=>simp at c
   |5,c=>simp at c
   |n+6,c=>simp at c
theorem aH {w:World} {P:Nat} (a b c d e f:Value):
 dB P w ((((((w.setCell ⟨P,0,none⟩ a).setCell ⟨P,1,none⟩ b).setCell ⟨P,2,none⟩ c).setCell ⟨P,3,none⟩ d).setCell ⟨P,4,none⟩ e).setCell ⟨P,5,none⟩ f):=
 ((((((dB.refl P w).setCell 0 a).setCell 1 b).setCell 2 c).setCell 3 d).setCell 4 e).setCell 5 f
theorem qA.apart {w e:World} {P:Nat} {a:Option Addr} {c:List kA} (h:qA w a c) (f:OD a c P) (g:dB P w e):qA e a c:=by
 rcases f with i|⟨b,o,rfl,d⟩
 ·exact Ca i
 ·exact h.but g d
