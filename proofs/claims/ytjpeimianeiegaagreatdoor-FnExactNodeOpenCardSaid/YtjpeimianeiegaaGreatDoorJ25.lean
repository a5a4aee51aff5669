import Derived.Test.YtjpeimianeiegaaGreatDoorJ21
import Derived.Test.YtjpeimianeiegaaGreatDoorJ24
set_option maxRecDepth 100000
set_option maxHeartbeats 2000000
namespace Go.Proofs.YtjpeimianeiegaaGreatDoor
open Go.RowKit Tryz
def kI (t:eA) (key:ByteArray) (a:Int):eA:=⟨t.name,t.l9,t.m9,qA (·.s) ⟨key,a⟩ t.s9⟩
def GN (c:nB) (b:Int) (d:List eA) (a key:ByteArray):Int×List eA×Nat:=
 if iB c b d=false then(0,[],5)
 else if (kC a&&aJ key)=false then(b,d,5)
 else if (zB (·.s) key (dB d a).s9).isSome=true then(b,qA (·.name) (kI (dB d a) key b) d,1)
 else if (lF c (dB d a) ByteArray.empty).2<=(lF c (dB d a) ByteArray.empty).1\/(bE (dB d a)=true/\d.length=10000) then(b,d,3)
 else if (lF c (dB d a) (tC key)).2<=(lF c (dB d a) (tC key)).1 then(b,d,4)
 else(b,qA (·.name) (kI (dB d a) key b) d,2)
theorem aP {ts:List eA} {name:ByteArray}:(dB ts name∈ts/\(zB (·.name) name ts).isSome=true)\/(dB ts name=⟨name,-1,[],[]⟩/\zB (·.name) name ts=none):=by
 unfold dB;cases h:zB (·.name) name ts with
 |none=>exact Ea ⟨rfl,rfl⟩
 |some t=>exact Ba ⟨(vT h).1,rfl⟩
theorem eH {a:List eA} {name:ByteArray}:(dB a name).name=name:=by
 unfold dB;cases h:zB (·.name) name a with
 |none=>rfl
 |some t=>exact(vT h).2
theorem vh {e d:Int} {a:List eA} (h:yM e d a=true) {name:ByteArray}:bE (dB a name)=!(zB (·.name) name a).isSome:=by
 rcases aP (ts:=a) (name:=name) with⟨b,c⟩|⟨b,c⟩
 ·rw[(wI (iI h _ b)).2.2.2,c];rfl
 ·rw[b,c];rfl
theorem BU {b a:Int} {c:List eA} (h:yM b a c=true) {name:ByteArray}:∀x∈(dB c name).s9,a-x.n<b:=by
 rcases aP (ts:=c) (name:=name) with⟨d,_⟩|⟨d,_⟩
 ·exact fun x e=>(EZ (wI (iI h _ d)).2.2.1 x e).1
 ·rw[d];exact fun x e=>by simp at e
theorem ZM {α:Type} {key:α->ByteArray} {a:α} {l:List α}:(qA key a l).length≠0:=by
 cases l with
 |nil=>simp[qA]
 |cons p r=>
  rw[qA];split
  ·simp
  ·split<;>simp
theorem zb {b a:Int} {t:eA} {key:ByteArray} (hw:1<=b) (h:∀x∈t.s9,a-x.n<b):∀x∈(kI t key a).s9,a-x.n<b:=fun x c=>by
 rcases tI (show x∈qA (·.s) ⟨key,a⟩ t.s9 from c) with rfl|c
 ·show a-a<b;omega
 ·exact h x c
theorem UE {t:eA} {key:ByteArray} {a:Int}:bE (kI t key a)=false:=by
 have:((qA (·.s) (⟨key,a⟩:fA) t.s9).length==0)=false:=by simpa using ZM
 simp[bE,kI,this]
theorem ro {c b:Int} {d:List eA} (h:yM c b d=true) (e:vB (·.name) d) (hw:1<=c) {a key:ByteArray}:
 sC c b (qA (·.name) (kI (dB d a) key b) d)=qA (·.name) (kI (dB d a) key b) d:=by
 rw[PQ h e (zb hw (BU h)),UE];rfl
theorem VK {l:List fA} {k:ByteArray} {n:Int} {j:Nat} (f:j<=l.length) (c:∀i (h:i<l.length),i<j->uH l[i].s k=true) (d:∀h:j<l.length,uH l[j].s k=false) (e:zB (·.s) k l=none):
 qA (·.s) ⟨k,n⟩ l=l.take j++⟨k,n⟩:: l.drop j:=by
 induction l generalizing j with
 |nil=>simp[qA]
 |cons p r o=>
  have g:p.s≠k:=jV e p (Lb ..);rw[qA];cases j with
  |zero=>
   have b:uH p.s k=false:=d (by simp);rw[Ca (by rw[b];simp),Ca (by rw[mC g];simp)];rfl
  |succ j=>
   have b:uH p.s k=true:=c 0 (by simp) (by omega);have a:zB (·.s) k r=none:=vK fun q m=>jV e q (Za _ m);rw[Ga b,o (j:=j) (by simpa using f) (fun i h t=>by have:=c (i+1) (by simpa using h) (by omega);simpa using this) (fun h=>by have:=d (by simpa using h);simpa using this) a];rfl
theorem rr (a C:Option Addr) (D n:Nat) (c d:List eB) (w:World) (N:gE w a c) (t:gE w C d) (hx:c.length<=2000000):
 Calls prog 206 #[.slice a c.length D,.slice C d.length n] w fun e Z=>e=.returned (.bool (nF c d))/\Below w.heap.size w Z:=by
 have R:Hid (gE w a c):=N;have z:Hid (gE w C d):=t;clear N t;by_cases F:c.length=d.length
 ·have G:((c.length:Int) != (d.length:Int))=false:=by simp[F]
  have H:d.length<=c.length/\c.length<=d.length:=by omega
  obtain⟨P,Q⟩:=H;clear F;go_enter func206,ntmps206;go_wp2;go_loopw [5,13] (fun _ i wr=>∃k:Nat,k<=c.length/\i=.int .i64 k/\Hid (nF c d=nF (c.drop k) (d.drop k))/\Below w.heap.size w wr) (fun _ i _=>c.length-(intOf i).toNat)
  case atStart=>exact⟨0,Ha _,rfl,rfl,Below.refl _ _⟩
  case round=>
   obtain⟨k,hk,rfl,A,f⟩:=hrel;by_cases u:k<c.length
   ·have g:k<d.length:=by omega
    obtain⟨b,o,rfl,hb,J,K⟩:=(R.out.later f).at u;obtain⟨b',o',rfl,T,l,m⟩:=(z.out.later f).at g;have y:=ni c d k u g;have j:∀W,Sem.run prog (binOp .neq 199 (.agg #[.string c[k].name,.string c[k].value]) (.agg #[.string d[k].name,.string d[k].value])) W=.ok (.bool (!xS c[k] d[k])) W:=fun W=>aOe.1 c[k] d[k] W;have O:∀(I:BinOp) (p q:Operand) (W:World),Sem.run prog (eqGuard I 199 p q (.agg #[.string c[k].name,.string c[k].value]) (.agg #[.string d[k].name,.string d[k].value])) W=.ok () W:=fun I p q W=>aOe.2 I p q c[k] d[k] W;have L:=oA.cells J;have M:=oA.cells K;have r:=oA.cells l;have s:=oA.cells m;clear J K l m;have v:=oA.there wr;cases he:xS c[k] d[k]with
    |true=>
     have E:Hid (nF c d=nF (c.drop (k+1)) (d.drop (k+1))):=by show _=_;rw[A.out,y,he,Nc]
     rw[he]at j;clear y he;generalize c[k].name=U at *;generalize c[k].value=X at *;generalize d[k].name=V at *;generalize d[k].value=Y at *;go_wp2_with fail;refine jA (by kernel_rfl) (by kernel_rfl) ?_;repeat (go_big_quiet_step (fail))
     refine wpQuiet_nil ?_;rintro _ ⟨x,rfl⟩;have B:Hid _:=pA f x.h;clear L M r s v;generalize x.w'=S at *;clear x;go_wp2;exact⟨⟨k+1,by omega,by go_num,E.out,B.out⟩,by simp[intOf];omega⟩
    |false=>
     have E:Hid (nF c d=false):=by show _=_;rw[A.out,y,he,Ld]
     rw[he]at j;clear y he;generalize c[k].name=U at *;generalize c[k].value=X at *;generalize d[k].name=V at *;generalize d[k].value=Y at *;go_wp2_with fail;refine jA (by kernel_rfl) (by kernel_rfl) ?_;repeat (go_big_quiet_step (fail))
     refine wpQuiet_nil ?_;rintro _ ⟨x,rfl⟩;have B:Hid _:=pA f x.h;clear L M r s v;generalize x.w'=S at *;clear x;go_wp2;go_ret;exact⟨kA E.out.symm,B.out⟩
   ·have E:Hid (nF c d=true):=by
     show _=_;rw[A.out,Pb (by omega),Pb (by omega)];rfl
    go_wp2;go_ret;exact⟨kA E.out.symm,f⟩
 ·have G:((c.length:Int) != (d.length:Int))=true:=by simp;omega
  have E:Hid _:=ur F;go_enter func206,ntmps206;go_wp2;go_ret;exact⟨kA E.out.symm,Below.refl _ _⟩
theorem oc (a:Option Addr) (g:Nat) (c:List eB) (w:World) (hf:gE w a c) (hB:dw c) (M:c.length<=2000000) (L:c.length<=g):
 Calls prog 157 #[.slice a c.length g] w fun e A=>e=.returned (.string (bZ c))/\Below w.heap.size w A:=by
 have s:Hid (Calls prog 205 #[.slice a c.length g] w fun e A=>NA e w A (qB c).1 (qB c).2.1 (qB c).2.2):=TK a g c w hf hB M L;have S:Hid (gE w a c):=hf;have HB:Hid (dw c):=hB;have hcl:=NN c;unfold NA at s;clear hf hB;by_cases J:(qB c).2.1=0
 ·have Z:(((qB c).2.1:Int) != 0)=false:=by simp;omega
  have G:Hid (∀W p B,gE W p (qB c).1->gE W a c->Calls prog 206 #[.slice p (qB c).1.length B,.slice a c.length g] W fun e A=>e=.returned (.bool (nF (qB c).1 c))/\Below W.heap.size W A):=fun W p B h1 h2=>rr p a B g _ c W h1 h2 (by omega);by_cases N:nF (qB c).1 c=true
  ·have n:eP c=true:=by unfold eP;rw[J,N];rfl
   have E:Hid (bZ c=yT c):=by show _=_;rw[bZ,Ga n]
   have h16:=NM n;have U:Hid (∀W,Calls prog 85 #[.int .i64 1,.int .i64 (c.length:Nat)] W fun e A=>e=.returned (.string (aB 1 (c.length:Nat)))/\Below W.heap.size W A):=fun W=>aE 1 (c.length:Nat) W (by omega) (by omega) (by omega);have hz1:=bB 1 (c.length:Nat);have T:Hid (yT c=aB 1 (c.length:Nat)++mD c):=rfl;have t:Hid _:=N;clear J N n;generalize (qB c).1=C at *;generalize (qB c).2.1=Y at *;generalize (qB c).2.2=c2 at *;generalize aB 1 (c.length:Nat)=X at *;go_enter func157,ntmps157;go_wp2_with fail;refine s.out.mono ?_;rintro e D ⟨p,B,rfl,f,d⟩;have r:Hid _:=d;have u:Hid (gE D p C/\gE D a c):=⟨f.labs,S.out.later d⟩
   clear f d s;go_wp2_with fail;refine(G.out _ _ _ u.out.1 u.out.2).mono ?_;rintro e w2 ⟨rfl,l⟩;rw[t.out];have O:Hid _:=pA r.out l;clear l u r;go_wp2_with fail;refine(U.out _).mono ?_;rintro e w3 ⟨rfl,K⟩;have B3:Hid _:=pA O.out K;clear K O;go_wp2;go_loopw [6,8,28] (fun out _ i wr=>∃(k:Nat) (q:ByteArray),k<=c.length/\i=.int .i64 k/\out=.string q/\q.size<=1+k*3000000000/\Hid (q=X++mD (c.take k))/\Below w.heap.size w wr) (fun _ _ i _=>c.length-(intOf i).toNat)
   case atStart=>exact⟨0,X,Ha _,rfl,rfl,by omega,by show _=_;simp[mD],B3.out⟩
   case round=>
    obtain⟨k,q,hk,rfl,rfl,hst,H,m⟩:=hrel;by_cases v:k<c.length
    ·obtain⟨b,o,rfl,hb,c0,Y⟩:=(S.out.later m).at v;obtain⟨hs1,hs2⟩:=HB.out k v;have V:Hid _:=fun W=>BP c[k].name W hs1;have F:Hid _:=fun W=>bY c[k].value W hs2;have hz8:=yO c[k].name;have hz16:=jK c[k].value;have HT:=RS c k v;have R:Hid (q++(xV c[k].name++nG c[k].value)=X++mD (c.take (k+1))):=by show _=_;rw[HT,H.out,Ob]
     clear HT;generalize xV c[k].name=I at *;generalize nG c[k].value=j at *;generalize c[k].name=P at *;generalize c[k].value=Q at *;have z:(I++j).size=I.size+j.size:=Ia;have hzst:(q++(I++j)).size=q.size+(I.size+j.size):=by rw[Ia,z]
     have d0:∀x:oA (wr.alloc (.cells #[.string P,.string Q] 199)),x.w'.cell? ⟨wr.heap.size,0,none⟩=some (.string P):=oA.cells (by simp);have d1:∀x:oA (wr.alloc (.cells #[.string P,.string Q] 199)),x.w'.cell? ⟨wr.heap.size,1,none⟩=some (.string Q):=oA.cells (by simp);have hne:=oA.there (wr.alloc (.cells #[.string P,.string Q] 199));go_wp2_with fail;refine jA (by kernel_rfl) (by kernel_rfl) ?_;repeat (go_big_quiet_step (first|(go_at_call 86;exact tA (V.out _))|(go_at_call 87;exact tA (F.out _))))
     refine wpQuiet_nil ?_;rintro _ ⟨x,rfl⟩;have HX:Hid _:=pA (pA m (cA _ _)) x.h;clear d0 d1 hne;generalize x.w'=W2 at *;clear x;go_wp2;exact⟨⟨k+1,q++(I++j),by omega,by go_num,rfl,by omega,R.out,HX.out⟩,by simp[intOf];omega⟩
    ·have R:Hid (q=bZ c):=by
      show _=_;rw[E.out,T.out,H.out,Pa (by omega)]
     go_wp2;go_ret;exact⟨by rw[<-R.out];rfl,m⟩
  ·have y:nF (qB c).1 c=false:=by simpa using N
   have E:Hid (bZ c=ByteArray.empty):=by
    show _=_;rw[bZ,Ca];unfold eP;rw[y,Zf];simp
   have t:Hid _:=y;clear J N y;generalize (qB c).1=C at *;generalize (qB c).2.1=Y at *;generalize (qB c).2.2=c2 at *;go_enter func157,ntmps157;go_wp2_with fail;refine s.out.mono ?_;rintro e D ⟨p,B,rfl,f,d⟩;have r:Hid _:=d;have u:Hid (gE D p C/\gE D a c):=⟨f.labs,S.out.later d⟩
   clear f d s;go_wp2_with fail;refine(G.out _ _ _ u.out.1 u.out.2).mono ?_;rintro e w2 ⟨rfl,l⟩;rw[t.out];have O:Hid _:=pA r.out l;clear l u r;go_wp2;go_ret;exact⟨by rw[E.out];rfl,O.out⟩
 ·have Z:(((qB c).2.1:Int) != 0)=true:=by simp;omega
  have E:Hid (bZ c=ByteArray.empty):=by
   show _=_;rw[bZ,Ca];unfold eP;rw[Mb J];simp
  clear J;generalize (qB c).1=C at *;generalize (qB c).2.1=Y at *;generalize (qB c).2.2=c2 at *;go_enter func157,ntmps157;go_wp2_with fail;refine s.out.mono ?_;rintro e D ⟨p,B,rfl,f,d⟩;have r:Hid _:=d;clear f d s;go_wp2;go_ret;exact⟨by rw[E.out];rfl,r.out⟩
def lenOf:Value->Nat
 |.slice _ n _=>n
 |_=>0
def xU (key:ByteArray) (a:List eB) (c:Int):Prop:=∀b,eP b=true->yT b=key->a.length<=b.length/\a=b.take a.length/\c=((1+(mD a).size:Nat):Int)
theorem XN (l:eB) (r:List eB):(mD (l::r)).data.toList=(aB 1 (l.name.size:Nat)).data.toList++(l.name.data.toList++((aB 2 (l.value.size:Nat)).data.toList++(l.value.data.toList++(mD r).data.toList))):=by
 simp[mD,xV,nG]
theorem VP (a:List eB) (k:Nat) (h:k<a.length):(yT a).data.toList=((aB 1 (a.length:Nat)).data.toList++(mD (a.take k)).data.toList)++(mD (a[k]:: a.drop (k+1))).data.toList:=by
 have e:mD a=mD (a.take k)++mD (a[k]:: a.drop (k+1)):=by
  rw[<-wM,<-Ra h,Xa]
 rw[yT,e];simp
theorem xr (a:List eB) (k:Nat):((aB 1 (a.length:Nat)).data.toList++(mD (a.take k)).data.toList).length=1+(mD (a.take k)).size:=by
 rw[Qa,<-mJ,<-mJ,bB]
theorem aCo {a:List eB} (b:eP a=true) (k:Nat) (h:k<a.length):dG (yT a) (1+(mD (a.take k)).size) 1=some (a[k].name,1+(mD (a.take k)).size+1+a[k].name.size):=by
 have c:=kY b k h;refine xo (post:=(aB 2 (a[k].value.size:Nat)).data.toList++(a[k].value.data.toList++(mD (a.drop (k+1))).data.toList)) ?_ (xr a k) (by omega);rw[VP a k h,XN]
theorem uh {a:List eB} (b:eP a=true) (k:Nat) (h:k<a.length):dG (yT a) (1+(mD (a.take k)).size+1+a[k].name.size) 2=some (a[k].value,1+(mD (a.take k)).size+1+a[k].name.size+2+a[k].value.size):=by
 have c:=kY b k h;refine xo (pre:=((aB 1 (a.length:Nat)).data.toList++(mD (a.take k)).data.toList)++((aB 1 (a[k].name.size:Nat)).data.toList++a[k].name.data.toList)) (post:=(mD (a.drop (k+1))).data.toList) ?_ ?_ (by omega)
 ·rw[VP a k h,XN];simp only[Df]
 ·rw[Qa,xr,Qa,<-mJ,<-mJ,bB];omega
theorem XO (a:List eB) (k:Nat) (h:k<a.length):(mD (a.take (k+1))).size=(mD (a.take k)).size+1+a[k].name.size+2+a[k].value.size:=by
 rw[RS a k h,Ia,Ia,yO,jK];omega
theorem aDp (a:List eB) (k:Nat):(mD (a.take k)).size<=(mD a).size:=by
 have e:mD a=mD (a.take k)++mD (a.drop k):=by rw[<-wM,Xa]
 rw[e,Ia];omega
theorem jv (a:List eB):(yT a).size=1+(mD a).size:=by rw[yT,Ia,bB]
theorem ax (key:ByteArray):xU key [] 1:=fun a _ _=>⟨Ha _,by simp,rfl⟩
theorem KQ {key:ByteArray} {a:List eB} {p:Nat} (h:xU key a (p:Nat)) (m:p<key.size):∀b,eP b=true->yT b=key->∃f:a.length<b.length,dG key p 1=some (b[a.length].name,p+1+b[a.length].name.size)/\dG key (p+1+b[a.length].name.size) 2=some (b[a.length].value,p+1+b[a.length].name.size+2+b[a.length].value.size):=by
 intro b i f;obtain⟨k,g,l⟩:=h b i f;have d:p=1+(mD a).size:=by omega
 have c:a.length<b.length:=by
  rcases Ac a.length b.length with c|j
  ·exact c
  ·exfalso;have e:a=b:=by rw[g];exact Pa (by omega)
   have:=jv b;rw[f]at this;rw[e]at d;omega
 refine⟨c,?_,?_⟩
 ·have:=aCo i a.length c;rw[<-g,f,<-d]at this;exact this
 ·have:=uh i a.length c;rw[<-g,f,<-d]at this;exact this
theorem mu {key:ByteArray} {a:List eB} {p:Nat} (h:xU key a (p:Nat)) (s:p<key.size) {l n:ByteArray} {q m:Nat} (o:dG key p 1=some (l,q)) (r:dG key q 2=some (n,m)):xU key (a++[⟨l,n⟩]) (m:Nat):=by
 intro b g i;obtain⟨c,d,e⟩:=KQ h s b g i;obtain⟨t,f,u⟩:=h b g i;rw[o]at d;simp only[Ja,Hb]at d;obtain⟨rfl,rfl⟩:=d;rw[r]at e;simp only[Ja,Hb]at e;obtain⟨rfl,rfl⟩:=e;have j:(a++[(⟨b[a.length].name,b[a.length].value⟩:eB)]).length=a.length+1:=by simp
 have k:a++[(⟨b[a.length].name,b[a.length].value⟩:eB)]=b.take (a.length+1):=by
  rw[La c,<-f]
 refine⟨by rw[j];omega,by rw[j];exact k,?_⟩;rw[k,XO b a.length c,<-f];congr 1;omega
theorem KR {key:ByteArray} {c:List eB} {p:Nat} (h:xU key c (p:Nat)) (n:p<key.size) (d:dG key p 1=none\/∃i q,dG key p 1=some (i,q)/\dG key q 2=none) (a:List eB) (j:Int):xU key a j:=by
 intro o k l;exfalso;obtain⟨m,b,g⟩:=KQ h n o k l;rcases d with d|⟨i,q,e,f⟩
 ·rw[d]at b;exact absurd b (by simp)
 ·rw[e]at b;simp only[Ja,Hb]at b;obtain⟨rfl,rfl⟩:=b;rw[f]at g;exact absurd g (by simp)
theorem ui {key:ByteArray} {b:List eB} {a:Int} (h:xU key b a) (p:a<=0\/(key.size:Int)<=a\/16<b.length):
 (uE key=(b,true)/\bZ b=key/\0<key.size)\/(uE key=([],false)/\(key.size=0\/bZ b≠key)):=by
 cases hd:(uE key).2 with
 |true=>
  obtain⟨d,c⟩:=YS hd;obtain⟨k,f,o⟩:=h _ d c;have l:=NM d;have g:=jv (uE key).1;rw[c]at g;have e:b=(uE key).1:=by
   rcases Ac b.length (uE key).1.length with i|m
   ·exfalso;have n:=XO (uE key).1 b.length i;have q:=aDp (uE key).1 (b.length+1);rw[<-f]at n;omega
   ·rw[f];exact Pa (by omega)
  left;refine⟨?_,?_,by omega⟩
  ·rw[e];cases hdk:uE key with
   |mk x y=>rw[hdk]at hd;simp only at hd |-;rw[hd]
  ·rw[e,bZ,Ga d,c]
 |false=>
  obtain⟨k,f⟩:=MK hd;right;refine⟨k,?_⟩;by_cases j:key.size=0
  ·exact Ba j
  ·right;intro c;unfold bZ at c;split at c
   ·rename_i d;exact f b d c
   ·rw[<-c]at j;exact j rfl
theorem aEp {a:List eB} (h:dw a) {l:eB} (b:l.name.size<=1000000000/\l.value.size<=1000000000):dw (a++[l]):=fun i c=>by
 by_cases e:i<a.length
 ·rw[Re e];exact h i e
 ·rw[Nf (by omega)];simpa using b
theorem LD (key:ByteArray) (w:World) (L:key.size<=1000000000):
 Calls prog 121 #[.string key] w fun e y=>∃a Q,e=.returned (.tuple #[.slice a (uE key).1.length Q,.bool (uE key).2])/\iE y w.heap.size a (uE key).1/\Below w.heap.size w y:=by
 go_enter func121,ntmps121;go_wp2;go_loopw [4,5,6,7,8,9] (fun C P _ _ _ _ wr=>∃(b:List eB) (p:Int) (g z:Nat),P=.int .i64 p/\C=.slice (some ⟨g,0,none⟩) b.length z/\-1<=p/\p<=1000000000/\b.length<=17/\Hid (dw b/\xU key b p)/\Hid (wr.ownsRow w.heap.size 199 2 (.slice (some ⟨g,0,none⟩) b.length z) b.length (lD b))/\Below w.heap.size w wr) (fun C _ _ _ _ _ _=>18-lenOf C)
 case atStart=>
  exact⟨[],1,_,_,rfl,rfl,by omega,by omega,by simp,⟨fun i h=>absurd h (by simp),ax key⟩,World.ownsRow_made w #[] 0 (Da _) (by simp[maxLen]) (by simp),cA _ _⟩
 case round=>
  obtain⟨b,s,g,z,rfl,rfl,hp1,hp2,hal,F,f,c⟩:=hrel;have M:=c.size;by_cases J:0<s/\s<(key.size:Int)/\b.length<=16
  ·obtain⟨hg1,hg2,hg3⟩:=J;obtain⟨p,rfl⟩:∃p:Nat,s=(p:Int):=⟨s.toNat,by omega⟩
   have B:p<key.size:=by omega
   have Y:((b.length:Nat):Int)<=16:=by omega
   obtain⟨d,l,q,t,Z,D,H,h4,h5,h6⟩:∃d l,∃q t:Int,(Hid (∀W,Calls prog 46 #[.string key,.int .i64 (p:Nat),.int .i64 1] W fun e y=>e=.returned (.tuple #[.string d,.int .i64 q])/\y=W))/\(Hid (∀W,Calls prog 46 #[.string key,.int .i64 q,.int .i64 2] W fun e y=>e=.returned (.tuple #[.string l,.int .i64 t])/\y=W))/\xU key (b++[⟨d,l⟩]) t/\-1<=t/\t<=1000000000/\d.size<=1000000000/\l.size<=1000000000:=by
    have h0:ByteArray.empty.size=0:=rfl;cases hn1:dG key p 1 with
    |none=>exact⟨_,_,_,_,fun W=>iT key p 1 W L (by omega) (by omega) hn1,fun W=>FE key 2 W,KR F.out.2 B (Ba hn1) _ _,by omega,by omega,by omega,by omega⟩
    |some tq=>
     obtain⟨d,q⟩:=tq;obtain⟨hq1,hq2,hq3⟩:=EI hn1;cases hn2:dG key q 2 with
     |none=>exact⟨d,_,(q:Nat),_,fun W=>kO key p 1 d q W L (by omega) hn1,fun W=>iT key q 2 W L (by omega) (by omega) hn2,KR F.out.2 B (Ea ⟨d,q,hn1,hn2⟩) _ _,by omega,by omega,by omega,by omega⟩
     |some U=>
      obtain⟨l,t⟩:=U;obtain⟨hr1,hr2,hr3⟩:=EI hn2;exact⟨d,l,(q:Nat),(t:Nat),fun W=>kO key p 1 d q W L (by omega) hn1,fun W=>kO key q 2 l t W L (by omega) hn2,mu F.out.2 B hn1 hn2,by omega,by omega,by omega,by omega⟩
   have O:=bA H;have K:(b++[(⟨d,l⟩:eB)]).length=b.length+1:=by simp
   clear H;go_wp2_with fail;refine fC (Z.out _) ?_;go_wp2_with fail;refine fC (D.out _) ?_;go_wp2_with(at_builtin;refine bW rfl _ _ rfl underlying194 zQ rfl (by omega) (by omega) rfl f.out rfl rfl (cs:=#[.string d,.string l]) rfl (by simp[Value.oneCell']) (by omega) M ?_;intro g5 G w5 O5 T5);have n:=O5.out;rw[show lD b++(#[Value.string d,.string l]).toList=lD (b++[⟨d,l⟩]) by rw[tG];rfl,<-K]at n;exact⟨⟨b++[(⟨d,l⟩:eB)],t,g5,G,rfl,by rw[K],by omega,by omega,by omega,⟨aEp F.out.1 h6,O.out⟩,n,c.trans (T5.out.below M fun i hi e=>by omega)⟩,by simp only[lenOf];omega⟩
  ·have I:=ui F.out.2 (by omega);obtain⟨S,_,_,_⟩:=kQ f.out;have X:Hid (iE wr w.heap.size (some ⟨g,0,none⟩) b):=uO f.out;have V:Hid (Calls prog 157 #[.slice (some ⟨g,0,none⟩) b.length z] wr fun e y=>e=.returned (.string (bZ b))/\Below wr.heap.size wr y):=oc _ z b wr X.out.labs F.out.1 (by omega) S;have r:Hid (key.toList.isEmpty=decide (key.size=0)):=by
    show _=_;rw[ByteArray.toList_eq,mJ];cases key.data.toList<;>simp
   have R:(uE key=(b,true)/\key.toList.isEmpty=false/\((bZ b).toList==key.toList)=true)\/(uE key=([],false)/\key.toList.isEmpty=true)\/(uE key=([],false)/\key.toList.isEmpty=false/\((bZ b).toList==key.toList)=false):=by
    rcases I with⟨j,o,H⟩|⟨j,o⟩
    ·left;refine⟨j,?_,?_⟩
     ·rw[r.out];exact Mb (by omega)
     ·rw[o];simp
    ·by_cases T:key.size=0
     ·right;left;exact⟨j,by rw[r.out];exact Rb T⟩
     ·right;right;refine⟨j,by rw[r.out];exact Mb T,?_⟩;rw[<-Bool.not_eq_true];intro hb;rcases o with o|o
      ·exact T o
      ·exact o (toList_inj (by simpa using hb))
   have A:s<=0\/(0<s/\(key.size:Int)<=s)\/(0<s/\s<(key.size:Int)/\(16:Int)<(b.length:Nat)):=by omega
   clear I f J r;generalize bZ b=KV at *;rcases R with⟨j,o,H⟩|⟨j,o⟩|⟨j,o,H⟩
   ·have E:Hid _:=j;clear j;rcases A with u|⟨u,m⟩|⟨u,m,x⟩
    all_goals
     go_wp2_with fail;refine V.out.mono ?_;rintro e N ⟨rfl,k⟩;have D:Hid (iE N w.heap.size (some ⟨g,0,none⟩) b/\Below w.heap.size w N):=⟨X.out.later k,pA c k⟩
     clear k;go_wp2;refine bodyPost_ret (v:=.tuple #[.slice (some ⟨g,0,none⟩) b.length z,.bool true]) (by simp[results,results121,go_sem]) rfl ⟨some ⟨g,0,none⟩,z,?_,?_,D.out.2⟩
     ·rw[E.out]
     ·rw[E.out];exact D.out.1
   ·have E:Hid _:=j;clear j;rcases A with u|⟨u,m⟩|⟨u,m,x⟩
    all_goals
     go_wp2;refine bodyPost_ret (v:=.tuple #[.slice (some ⟨wr.heap.size,0,none⟩) 0 0,.bool false]) (by simp[results,results121,go_sem]) rfl ?_;first
      |exact⟨some ⟨wr.heap.size,0,none⟩,0,by rw[E.out];rfl,by rw[E.out];exact Ba rfl,pA c (cA _ _)⟩
      |exact⟨some ⟨wr.heap.size,0,none⟩,⟨0,by rw[E.out];rfl⟩,by rw[E.out];exact Ba rfl,pA c (cA _ _)⟩
      |exact⟨⟨some ⟨wr.heap.size,0,none⟩,⟨0,by rw[E.out];rfl⟩,by rw[E.out];exact Ba rfl⟩,pA c (cA _ _)⟩
      |exact⟨⟨some ⟨wr.heap.size,0,none⟩,0,by rw[E.out];rfl,by rw[E.out];exact Ba rfl⟩,pA c (cA _ _)⟩
   ·have E:Hid _:=j;clear j;rcases A with u|⟨u,m⟩|⟨u,m,x⟩
    all_goals
     go_wp2_with fail;refine V.out.mono ?_;rintro e N ⟨rfl,k⟩;have D:Hid _:=pA c k;clear k;go_wp2;refine bodyPost_ret (v:=.tuple #[.slice (some ⟨N.heap.size,0,none⟩) 0 0,.bool false]) (by simp[results,results121,go_sem]) rfl ⟨some ⟨N.heap.size,0,none⟩,0,?_,?_,pA D.out (cA _ _)⟩
     ·rw[E.out];rfl
     ·rw[E.out];exact Ba rfl
theorem aDv (X b:Nat):wrap64 (wrap64 ((X:Int)*256)+(b:Int))=zA (X*256+b):=by
 rw[GA];unfold wrap64;split<;>omega
theorem bn (s:ByteArray) (p n:Nat) (w:World) (m:s.size<=maxLen) (h:p+n<=s.size) (u:n<=8):
 Calls prog 80 #[.string s,.int .i64 p,.int .i64 n] w fun e o=>e=.returned (.int .i64 (zA (mL (zC s p n))))/\o=w:=by
 unfold maxLen at m;go_enter func80,ntmps80;go_wp2;go_loop [7,8] (fun v i=>∃(k V:Nat) (Z:Int),k<=n/\i=.int .i64 k/\v=.int .i64 Z/\Hid (Z=zA V)/\Hid (V=mL (zC s p k))) (fun _ i=>n-(intOf i).toNat)
 case atStart=>exact⟨0,0,0,Ha _,rfl,rfl,by show _=_;rw[pF (by omega)];rfl,rfl⟩
 case round=>
  obtain⟨k,V,Z,t,rfl,rfl,c,a⟩:=hrel;by_cases l:k<n
  ·have f:V<72057594037927936:=by
    have d:=wS (zC s p k);rw[kF (by omega),<-a.out]at d;have q:256 ^ k<=256 ^ 7:=Zb (by omega) (by omega);omega
   obtain rfl:Z=(V:Int):=by rw[c.out,pF (by omega)]
   have g:(0:Int)<=(p:Int)+(k:Int):=by omega
   have j:(p:Int)+(k:Int)<(s.size:Int):=by omega
   have b:p+k<s.size:=by omega
   have r:=s[p+k].toNat_lt;have hw:=aDv V s[p+k].toNat;go_wp2;refine⟨⟨k+1,V*256+s[p+k].toNat,zA (V*256+s[p+k].toNat),by omega,by go_num,?_,rfl,by show _=_;rw[BK b,sW,a.out]⟩,by simp[intOf];omega⟩;exact Zc (Value.int .i64) hw
  ·go_wp2;go_ret;have e:k=n:=by omega
   subst e;exact⟨iC (by rw[c.out,a.out]),rfl⟩
theorem aIf {a b:Int} {c d:Int} (e:a=b) (f:c=d):Ending.returned (.tuple #[.int .i64 a,.int .i64 c])=.returned (.tuple #[.int .i64 b,.int .i64 d]):=by rw[e,f]
theorem yG (s:ByteArray) (n:Nat) (p:Option Nat) (w:World) (j:s.size<=1000000000) (c:∀q,p=some q->q<=1000000000) (g:n<=8):
 Calls prog 45 #[.string s,.int .i64 (eI p),.int .i64 (n:Nat)] w fun e a=>e=.returned (.tuple #[.int .i64 (zA (mH s n p).1),.int .i64 (eI (mH s n p).2)])/\a=w:=by
 have b:zA 0=0:=pF (by omega);cases p with
 |none=>
  show Calls _ _ #[.string s,.int .i64 (-1),.int .i64 (n:Nat)] w fun e a=>e=.returned (.tuple #[.int .i64 (zA 0),.int .i64 (-1)])/\a=w;rw[b];go_enter func45,ntmps45;go_wp2;go_ret2;exact⟨rfl,rfl⟩
 |some q=>
  have i:=c q rfl;rw[xL];show Calls _ _ #[.string s,.int .i64 (q:Nat),.int .i64 (n:Nat)] w fun e a=>e=.returned (.tuple #[.int .i64 (zA (if q+n<=s.size then(mL (zC s q n),some (q+n)) else(0,none)).1),.int .i64 (eI (if q+n<=s.size then(mL (zC s q n),some (q+n)) else(0,none)).2)])/\a=w;clear c;by_cases h:q+n<=s.size
  ·rw[Ga h];have d:Hid _:=fun W=>bn s q n W (by unfold maxLen;omega) h g;show Calls _ _ #[.string s,.int .i64 (q:Nat),.int .i64 (n:Nat)] w fun e a=>e=.returned (.tuple #[.int .i64 (zA (mL (zC s q n))),.int .i64 ((q+n:Nat):Int)])/\a=w;generalize zA (mL (zC s q n))=V at *;have f:¬((q:Int)+(n:Int) > (s.size:Int)):=by omega
   go_enter func45,ntmps45;go_wp2_with fail;refine(d.out _).mono ?_;rintro e k ⟨rfl,hw⟩;replace hw:=hw.symm;subst hw;go_wp2;go_ret2;exact⟨aIf rfl (by omega),rfl⟩
  ·rw[Ca h];show Calls _ _ #[.string s,.int .i64 (q:Nat),.int .i64 (n:Nat)] w fun e a=>e=.returned (.tuple #[.int .i64 (zA 0),.int .i64 (-1)])/\a=w;rw[b];have f:(q:Int)+(n:Int) > (s.size:Int):=by omega
   go_enter func45,ntmps45;go_wp2;go_ret2;exact⟨rfl,rfl⟩
theorem jO (s:ByteArray) (n:Nat) (p:Option Nat) (w:World) (b:s.size<=1000000000) (c:∀q,p=some q->q<=1000000000) (a:n<=2):
 Calls prog 46 #[.string s,.int .i64 (eI p),.int .i64 (n:Nat)] w fun e f=>e=.returned (.tuple #[.string (bG s n p).1,.int .i64 (eI (bG s n p).2)])/\f=w:=by
 cases p with
 |none=>exact FE s n w
 |some q=>
  cases h:dG s q n with
  |none=>rw[cU h];exact iT s q n w b (c q rfl) a h
  |some d=>
   obtain⟨t,r⟩:=d;rw[bU h];exact kO s q n t r w b a h
theorem bJ {s:ByteArray} {n:Nat} {p:Option Nat} {q:Nat} (h:(mH s n p).2=some q):q<=s.size:=by
 cases p with
 |none=>exact absurd h (by simp[mH])
 |some p=>
  rw[xL]at h;split at h
  ·simp at h;omega
  ·simp at h
theorem DI {s:ByteArray} {n:Nat} {p:Option Nat} {q:Nat} (h:(bG s n p).2=some q):q<=s.size:=by
 cases p with
 |none=>exact absurd h (by simp[bG])
 |some p=>
  cases hh:dG s p n with
  |none=>rw[cU hh]at h;simp at h
  |some a=>
   obtain⟨t,r⟩:=a;rw[bU hh]at h;simp at h;have:=(EI hh).1;omega
