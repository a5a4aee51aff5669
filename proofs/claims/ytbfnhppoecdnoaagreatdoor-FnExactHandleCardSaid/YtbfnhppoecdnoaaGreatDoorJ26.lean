import Derived.Test.YtbfnhppoecdnoaaGreatDoorJ15
import Derived.Test.YtbfnhppoecdnoaaGreatDoorJ24
import Derived.Test.YtbfnhppoecdnoaaGreatDoorJ23
set_option maxRecDepth 100000
set_option maxHeartbeats 8000000
set_option linter.defProp false
open Bool renaming false->cA,true->dA
open Option renaming none->aA,some->bA
open ByteArray renaming empty->kA
open List renaming length->vA
namespace Go.Proofs.YtbfnhppoecdnoaaGreatDoor
open Go renaming World->eA,Value->iA
open Value renaming slice->oA,bool->pA,int->lA,string->nA,tuple->uA
open IntKind renaming i64->mA
open Obj renaming cells->tA
open Ending renaming returned->sA
open Go.RowKit Tryz
def ya(a C:iC)(D n:Nat)(c d:List eC)(w:eA)(N:yD w a c)(t:yD w C d)(hx:vA c<=2000000):
 qD 105 #[oA a (vA c) D,oA C (vA d) n] w (pA (mH c d)):=by
 have R:xA (yD w a c):=N;have z:xA (yD w C d):=t;clear N t;by_cases F:vA c=vA d
 .have G:((vA c:Int) != (vA d:Int))=cA:=by simp[F]
  have H:vA d<=vA c/\vA c<=vA d:=by omega
  obtain⟨P,Q⟩:=H;clear F;go_enter func105,ntmps105;go_wp2;go_loopw [5,13] (fun _ i wr=>∃k:Nat,k<=vA c/\i=lA mA k/\xA (mH c d=mH (c.drop k) (d.drop k))/\kB w wr) (fun _ i _=>vA c-(intOf i).toNat)
  case atStart=>exact⟨0,Oa _,rfl,rfl,eD⟩
  case round=>
   obtain⟨k,hk,rfl,A,f⟩:=hrel;by_cases u:k<vA c
   .have g:k<vA d:=by omega
    obtain⟨b,o,rfl,hb,J,K⟩:=(R.o.z f).at u;obtain⟨b',o',rfl,T,l,m⟩:=(z.o.z f).at g;have y:=rr c d k u g;have j:∀W,Sem.run prog (binOp .neq 116 (.agg #[nA c[k].N,nA c[k].V]) (.agg #[nA d[k].N,nA d[k].V])) W=.ok (pA (!sV c[k] d[k])) W:=fun W=>aSd.1 c[k] d[k] W;have O:∀(I:BinOp)(p q:Operand)(W:eA),Sem.run prog (eqGuard I 116 p q (.agg #[nA c[k].N,nA c[k].V]) (.agg #[nA d[k].N,nA d[k].V])) W=.ok () W:=fun I p q W=>aSd.2 I p q c[k] d[k] W;have L:=tB.cells J;have M:=tB.cells K;have r:=tB.cells l;have s:=tB.cells m;clear J K l m;have v:=tB.there wr;cases he:sV c[k] d[k]with
    |true=>
     have E:xA (mH c d=mH (c.drop (k+1)) (d.drop (k+1))):=by show _=_;rw[A.o,y,he,Oc]
     rw[he]at j;clear y he;generalize c[k].N=U at *;generalize c[k].V=X at *;generalize d[k].N=V at *;generalize d[k].V=Y at *;go_wp2_with fail;refine jB (by kernel_rfl) (by kernel_rfl) ?_;repeat (go_big_quiet_step (fail))
     refine wpQuiet_nil ?_;rintro _ ⟨x,rfl⟩;have B:xA _:=oB f x.h;clear L M r s v;generalize x.w'=S at *;clear x;go_wp2;exact⟨⟨k+1,by omega,by go_num,E.o,B.o⟩,by simp[intOf];omega⟩
    |false=>
     have E:xA (mH c d=cA):=by show _=_;rw[A.o,y,he,Be]
     rw[he]at j;clear y he;generalize c[k].N=U at *;generalize c[k].V=X at *;generalize d[k].N=V at *;generalize d[k].V=Y at *;go_wp2_with fail;refine jB (by kernel_rfl) (by kernel_rfl) ?_;repeat (go_big_quiet_step (fail))
     refine wpQuiet_nil ?_;rintro _ ⟨x,rfl⟩;have B:xA _:=oB f x.h;clear L M r s v;generalize x.w'=S at *;clear x;go_wp2;go_ret;exact⟨fB E.o.symm,B.o⟩
   have E:xA (mH c d=dA):=by
    show _=_;rw[A.o,Yb (by omega),Yb (by omega)];rfl
   go_wp2;go_ret;exact⟨fB E.o.symm,f⟩
 have G:((vA c:Int) != (vA d:Int))=dA:=by simp;omega
 have E:xA _:=zr F;go_enter func105,ntmps105;go_wp2;go_ret;exact⟨fB E.o.symm,eD⟩
def OD(a:iC)(g:Nat)(c:List eC)(w:eA)(hf:yD w a c)(hB:QA c)(M:vA c<=2000000)(L:vA c<=g):
 qD 57 #[oA a (vA c) g] w (nA (yI c)):=by
 have s:xA (Calls prog 55 #[oA a (vA c) g] w fun e A=>QC e w A (uB c).1 (uB c).2.1 (uB c).2.2):=WV a g c w hf hB M L;have S:xA (yD w a c):=hf;have HB:xA (QA c):=hB;have hcl:=QS c;unfold QC at s;clear hf hB;by_cases J:(uB c).2.1=0
 .have Z:(((uB c).2.1:Int) != 0)=cA:=by simp;omega
  have G:xA (∀W p B,yD W p (uB c).1->yD W a c->qD 105 #[.slice p (vA (uB c).1) B,oA a (vA c) g] W (pA (mH (uB c).1 c))):=fun W p B h1 h2=>ya p a B g _ c W h1 h2 (by omega);by_cases N:mH (uB c).1 c=dA
  .have n:vP c=dA:=by unfold vP;rw[J,N];rfl
   have E:xA (yI c=bI c):=by show _=_;rw[yI,Ma n]
   have h16:=QQ n;have U:xA (∀W,qD 21 #[lA mA 1,lA mA (vA c:Nat)] W (nA (pB 1 (vA c:Nat)))):=fun W=>lD 1 (vA c:Nat) W (by omega) (by omega) (by omega);have hz1:=qB 1 (vA c:Nat);have T:xA (bI c=pB 1 (vA c:Nat)++jD c):=rfl;have t:xA _:=N;clear J N n;generalize (uB c).1=C at *;generalize (uB c).2.1=Y at *;generalize (uB c).2.2=c2 at *;generalize pB 1 (vA c:Nat)=X at *;go_enter func57,ntmps57;go_wp2_with fail;refine s.o.mono ?_;rintro e D ⟨p,B,rfl,f,d⟩;have r:xA _:=d;have u:xA (yD D p C/\yD D a c):=⟨f.B,S.o.z d⟩
   clear f d s;go_wp2_with fail;apply aC (G.o _ _ _ u.o.1 u.o.2);intro w2 l;rw[t.o];have O:xA _:=oB r.o l;clear l u r;go_wp2_with fail;apply aC (U.o _);intro w3 K;have B3:xA _:=oB O.o K;clear K O;go_wp2;go_loopw [6,8,28] (fun out _ i wr=>∃(k:Nat)(q:gB),k<=vA c/\i=lA mA k/\out=nA q/\q.size<=1+k*3000000000/\xA (q=X++jD (c.take k))/\kB w wr) (fun _ _ i _=>vA c-(intOf i).toNat)
   case atStart=>exact⟨0,X,Oa _,rfl,rfl,by omega,by show _=_;simp[jD],B3.o⟩
   case round=>
    obtain⟨k,q,hk,rfl,rfl,hst,H,m⟩:=hrel;by_cases v:k<vA c
    .obtain ⟨b,o,rfl,hb,c0,Y⟩:=(S.o.z m).at v;obtain⟨hs1,hs2⟩:=HB.o k v;have V:xA _:=fun W=>rQ c[k].N W hs1;have F:xA _:=fun W=>rO c[k].V W hs2;have hz8:=lH c[k].N;have hz16:=uF c[k].V;have HT:=FV c k v;have R:xA (q++(kO c[k].N++qF c[k].V)=X++jD (c.take (k+1))):=by show _=_;rw[HT,H.o,Wa]
     clear HT;generalize kO c[k].N=I at *;generalize qF c[k].V=j at *;generalize c[k].N=P at *;generalize c[k].V=Q at *;have z:(I++j).size=I.size+j.size:=Ka;have hzst:(q++(I++j)).size=q.size+(I.size+j.size):=by rw[Ka,z]
     have d0:∀x:tB (wr.alloc (tA #[nA P,nA Q] 116)),x.w'.cell? ⟨wr.1.size,0,aA⟩=bA (nA P):=tB.cells (by simp);have d1:∀x:tB (wr.alloc (tA #[nA P,nA Q] 116)),x.w'.cell? ⟨wr.1.size,1,aA⟩=bA (nA Q):=tB.cells (by simp);have hne:=tB.there (wr.alloc (tA #[nA P,nA Q] 116));go_wp2_with fail;refine jB (by kernel_rfl) (by kernel_rfl) ?_;repeat (go_big_quiet_step (first|(go_at_call 106;exact xB (V.o _))|(go_at_call 29;exact xB (F.o _))))
     refine wpQuiet_nil ?_;rintro _ ⟨x,rfl⟩;have HX:xA _:=oB (oB m vB) x.h;clear d0 d1 hne;generalize x.w'=W2 at *;clear x;go_wp2;exact⟨⟨k+1,q++(I++j),by omega,by go_num,rfl,by omega,R.o,HX.o⟩,by simp[intOf];omega⟩
    have R:xA (q=yI c):=by
     show _=_;rw[E.o,T.o,H.o,Ra (by omega)]
    go_wp2;go_ret;exact⟨by rw[<-R.o];rfl,m⟩
  have y:mH (uB c).1 c=cA:=by simpa using N
  have E:xA (yI c=kA):=by
   show _=_;rw[yI,Ja];unfold vP;rw[y,Wg];simp
  have t:xA _:=y;clear J N y;generalize (uB c).1=C at *;generalize (uB c).2.1=Y at *;generalize (uB c).2.2=c2 at *;go_enter func57,ntmps57;go_wp2_with fail;refine s.o.mono ?_;rintro e D ⟨p,B,rfl,f,d⟩;have r:xA _:=d;have u:xA (yD D p C/\yD D a c):=⟨f.B,S.o.z d⟩
  clear f d s;go_wp2_with fail;apply aC (G.o _ _ _ u.o.1 u.o.2);intro w2 l;rw[t.o];have O:xA _:=oB r.o l;clear l u r;go_wp2;go_ret;exact⟨by rw[E.o];rfl,O.o⟩
 have Z:(((uB c).2.1:Int) != 0)=dA:=by simp;omega
 have E:xA (yI c=kA):=by
  show _=_;rw[yI,Ja];unfold vP;rw[Ub J];simp
 clear J;generalize (uB c).1=C at *;generalize (uB c).2.1=Y at *;generalize (uB c).2.2=c2 at *;go_enter func57,ntmps57;go_wp2_with fail;refine s.o.mono ?_;rintro e D ⟨p,B,rfl,f,d⟩;have r:xA _:=d;clear f d s;go_wp2;go_ret;exact⟨by rw[E.o];rfl,r.o⟩
def lenOf:iA->Nat
 |oA _ n _=>n
 |_=>0
def eX(key:gB)(a:List eC)(c:Int):Prop:=∀b,vP b=dA->bI b=key->vA a<=vA b/\a=b.take (vA a)/\c=((1+(jD a).size:Nat):Int)
def ax(l:eC)(r:List eC):(jD (l::r)).data.toList=(pB 1 (l.N.size:Nat)).data.toList++(l.N.data.toList++((pB 2 (l.V.size:Nat)).data.toList++(l.V.data.toList++(jD r).data.toList))):=by
 simp[jD,kO,qF]
def ZA(a:List eC)(k:Nat)(h:k<vA a):(bI a).data.toList=((pB 1 (vA a:Nat)).data.toList++(jD (a.take k)).data.toList)++(jD (a[k]:: a.drop (k+1))).data.toList:=by
 have e:jD a=jD (a.take k)++jD (a[k]:: a.drop (k+1)):=by
  rw[<-rP,<-Cb h,Za]
 rw[bI,e];simp
def aCb(a:List eC)(k:Nat):((pB 1 (vA a:Nat)).data.toList++(jD (a.take k)).data.toList).length=1+(jD (a.take k)).size:=by
 rw[Kb,<-aQ,<-aQ,qB]
def aGt{a:List eC}(b:vP a=dA)(k:Nat)(h:k<vA a):pI (bI a) (1+(jD (a.take k)).size) 1=bA (a[k].N,1+(jD (a.take k)).size+1+a[k].N.size):=by
 have c:=BK b k h;refine aBz (post:=(pB 2 (a[k].V.size:Nat)).data.toList++(a[k].V.data.toList++(jD (a.drop (k+1))).data.toList)) ?_ (aCb a k) (by omega);rw[ZA a k h,ax]
def zi{a:List eC}(b:vP a=dA)(k:Nat)(h:k<vA a):pI (bI a) (1+(jD (a.take k)).size+1+a[k].N.size) 2=bA (a[k].V,1+(jD (a.take k)).size+1+a[k].N.size+2+a[k].V.size):=by
 have c:=BK b k h;refine aBz (pre:=((pB 1 (vA a:Nat)).data.toList++(jD (a.take k)).data.toList)++((pB 1 (a[k].N.size:Nat)).data.toList++a[k].N.data.toList)) (post:=(jD (a.drop (k+1))).data.toList) ?_ ?_ (by omega);rw[ZA a k h,ax];simp only[Nd];rw[Kb,aCb,Kb,<-aQ,<-aQ,qB];omega
def ay(a:List eC)(k:Nat)(h:k<vA a):(jD (a.take (k+1))).size=(jD (a.take k)).size+1+a[k].N.size+2+a[k].V.size:=by grind [jD,FV,lH,uF]
def aHn(a:List eC)(k:Nat):(jD (a.take k)).size<=(jD a).size:=by
 have e:jD a=jD (a.take k)++jD (a.drop k):=by rw[<-rP,Za]
 rw[e,Ka];omega
def pd(a:List eC):(bI a).size=1+(jD a).size:=by rw[bI,Ka,qB]
def gp(key:gB):eX key [] 1:=fun a _ _=>⟨Oa _,by simp,rfl⟩
def NK{key:gB}{a:List eC}{p:Nat}(h:eX key a (p:Nat))(m:p<key.size):∀b,vP b=dA->bI b=key->∃f:vA a<vA b,pI key p 1=bA (b[vA a].N,p+1+b[vA a].N.size)/\pI key (p+1+b[vA a].N.size) 2=bA (b[vA a].V,p+1+b[vA a].N.size+2+b[vA a].V.size):=by
 intro b i f;obtain⟨k,g,l⟩:=h b i f;have d:p=1+(jD a).size:=by omega
 have c:vA a<vA b:=by
  rcases Gc (vA a) (vA b) with c|j;exact c;exfalso;have e:a=b:=by rw[g];exact Ra (by omega)
  have:=pd b;rw[f]at this;rw[e]at d;omega
 refine⟨c,?_,?_⟩;have:=aGt i (vA a) c;rw[<-g,f,<-d]at this;exact this;have:=zi i (vA a) c;rw[<-g,f,<-d]at this;exact this
def ri{key:gB}{a:List eC}{p:Nat}(h:eX key a (p:Nat))(s:p<key.size){l n:gB}{q m:Nat}(o:pI key p 1=bA (l,q))(r:pI key q 2=bA (n,m)):eX key (a++[⟨l,n⟩]) (m:Nat):=by
 intro b g i;obtain⟨c,d,e⟩:=NK h s b g i;obtain⟨t,f,u⟩:=h b g i;rw[o]at d;simp only[Qa,Dc]at d;obtain⟨rfl,rfl⟩:=d;rw[r]at e;simp only[Qa,Dc]at e;obtain⟨rfl,rfl⟩:=e;have j:(a++[(⟨b[vA a].N,b[vA a].V⟩:eC)]).length=vA a+1:=by simp
 have k:a++[(⟨b[vA a].N,b[vA a].V⟩:eC)]=b.take (vA a+1):=by
  rw[Pa c,<-f]
 refine⟨by rw[j];omega,by rw[j];exact k,?_⟩;rw[k,ay b (vA a) c,<-f];congr 1;omega
def NM{key:gB}{c:List eC}{p:Nat}(h:eX key c (p:Nat))(n:p<key.size)(d:pI key p 1=aA\/∃i q,pI key p 1=bA (i,q)/\pI key q 2=aA)(a:List eC)(j:Int):eX key a j:=by
 intro o k l;exfalso;obtain⟨m,b,g⟩:=NK h n o k l;rcases d with d|⟨i,q,e,f⟩;rw[d]at b;exact absurd b (by simp);rw[e]at b;simp only[Qa,Dc]at b;obtain⟨rfl,rfl⟩:=b;rw[f]at g;exact absurd g (by simp)
def zk{key:gB}{b:List eC}{a:Int}(h:eX key b a)(p:a<=0\/(key.size:Int)<=a\/16<vA b):
 (gG key=(b,dA)/\yI b=key/\0<key.size)\/(gG key=([],cA)/\(key.size=0\/yI b≠key)):=by
 cases hd:(gG key).2 with
 |true=>
  obtain⟨d,c⟩:=dh hd;obtain⟨k,f,o⟩:=h _ d c;have l:=QQ d;have g:=pd (gG key).1;rw[c]at g;have e:b=(gG key).1:=by
   rcases Gc (vA b) (vA (gG key).1) with i|m;exfalso;have n:=ay (gG key).1 (vA b) i;have q:=aHn (gG key).1 (vA b+1);rw[<-f]at n;omega;rw[f];exact Ra (by omega)
  left;refine⟨?_,?_,by omega⟩
  .rw[e];cases hdk:gG key with
   |mk x y=>rw[hdk]at hd;simp only at hd |-;rw[hd]
  rw[e,yI,Ma d,c]
 |false=>
  obtain⟨k,f⟩:=PF hd;right;refine⟨k,?_⟩;by_cases j:key.size=0
  .exact Ca j
  right;intro c;unfold yI at c;split at c
  .rename_i d;exact f b d c
  rw[<-c]at j;exact j rfl
def aIm{a:List eC}(h:QA a){l:eC}(b:l.N.size<=1000000000/\l.V.size<=1000000000):QA (a++[l]):=by grind [QA]
def OA(key:gB)(w:eA)(L:key.size<=1000000000):
 Calls prog 100 #[nA key] w fun e y=>∃a Q,e=sA (uA #[.slice a (vA (gG key).1) Q,pA (gG key).2])/\uE y w.1.size a (gG key).1/\kB w y:=by
 go_enter func100,ntmps100;go_wp2;go_loopw [4,5,6,7,8,9] (fun C P _ _ _ _ wr=>∃(b:List eC)(p:Int)(g z:Nat),P=lA mA p/\C=oA (bA ⟨g,0,aA⟩) (vA b) z/\-1<=p/\p<=1000000000/\vA b<=17/\xA (QA b/\eX key b p)/\xA (wr.ownsRow w.1.size 116 2 (oA (bA ⟨g,0,aA⟩) (vA b) z) (vA b) (xD b))/\kB w wr) (fun C _ _ _ _ _ _=>18-lenOf C)
 case atStart=>
  exact⟨[],1,_,_,rfl,rfl,by omega,by omega,by simp,⟨fun i h=>absurd h (by simp),gp key⟩,eA.ownsRow_made w #[] 0 (Ia _) (by simp[maxLen]) (by simp),vB⟩
 case round=>
  obtain⟨b,s,g,z,rfl,rfl,hp1,hp2,hal,F,f,c⟩:=hrel;have M:=c.size;by_cases J:0<s/\s<(key.size:Int)/\vA b<=16
  .obtain ⟨hg1,hg2,hg3⟩:=J;obtain⟨p,rfl⟩:∃p:Nat,s=(p:Int):=⟨s.toNat,by omega⟩
   have B:p<key.size:=by omega
   have Y:((vA b:Nat):Int)<=16:=by omega
   obtain⟨d,l,q,t,Z,D,H,h4,h5,h6⟩:∃d l,∃q t:Int,(xA (∀W,dI 53 #[nA key,lA mA (p:Nat),lA mA 1] W (uA #[nA d,lA mA q])))/\(xA (∀W,dI 53 #[nA key,lA mA q,lA mA 2] W (uA #[nA l,lA mA t])))/\eX key (b++[⟨d,l⟩]) t/\-1<=t/\t<=1000000000/\d.size<=1000000000/\l.size<=1000000000:=by
    have h0:ByteArray.empty.size=0:=rfl;cases hn1:pI key p 1 with
    |none=>exact⟨_,_,_,_,fun W=>yV key p 1 W L (by omega) (by omega) hn1,fun W=>JL key 2 W,NM F.o.2 B (Ca hn1) _ _,by omega,by omega,by omega,by omega⟩
    |some tq=>
     obtain⟨d,q⟩:=tq;obtain⟨hq1,hq2,hq3⟩:=PM hn1;cases hn2:pI key q 2 with
     |none=>exact⟨d,_,(q:Nat),_,fun W=>bR key p 1 d q W L (by omega) hn1,fun W=>yV key q 2 W L (by omega) (by omega) hn2,NM F.o.2 B (La ⟨d,q,hn1,hn2⟩) _ _,by omega,by omega,by omega,by omega⟩
     |some U=>
      obtain⟨l,t⟩:=U;obtain⟨hr1,hr2,hr3⟩:=PM hn2;exact⟨d,l,(q:Nat),(t:Nat),fun W=>bR key p 1 d q W L (by omega) hn1,fun W=>bR key q 2 l t W L (by omega) hn2,ri F.o.2 B hn1 hn2,by omega,by omega,by omega,by omega⟩
   have O:=yA H;have K:vA (b++[(⟨d,l⟩:eC)])=vA b+1:=by simp
   clear H;go_wp2_with fail;refine wE (Z.o _) ?_;go_wp2_with fail;refine wE (D.o _) ?_;go_wp2_with(at_builtin;refine vQ rfl _ _ rfl underlying65 qT rfl (by omega) (by omega) rfl f.o rfl rfl (cs:=#[nA d,nA l]) rfl (by simp[iA.oneCell']) (by omega) M ?_;intro g5 G w5 O5 T5);have n:=O5.o;rw[show xD b++(#[iA.string d,nA l]).toList=xD (b++[⟨d,l⟩]) by rw[aI];rfl,<-K]at n;exact⟨⟨b++[(⟨d,l⟩:eC)],t,g5,G,rfl,by rw[K],by omega,by omega,by omega,⟨aIm F.o.1 h6,O.o⟩,n,c.trans (T5.o.below M fun i hi e=>by omega)⟩,by simp only[lenOf];omega⟩
  have I:=zk F.o.2 (by omega);obtain⟨S,_,_,_⟩:=bT f.o;have X:xA (uE wr w.1.size (bA ⟨g,0,aA⟩) b):=eM f.o;have V:xA (qD 57 #[oA (bA ⟨g,0,aA⟩) (vA b) z] wr (nA (yI b))):=OD _ z b wr X.o.B F.o.1 (by omega) S;have r:xA (key.toList.isEmpty=decide (key.size=0)):=by
   show _=_;rw[ByteArray.toList_eq,aQ];cases key.data.toList<;>simp
  have R:(gG key=(b,dA)/\key.toList.isEmpty=cA/\((yI b).toList==key.toList)=dA)\/(gG key=([],cA)/\key.toList.isEmpty=dA)\/(gG key=([],cA)/\key.toList.isEmpty=cA/\((yI b).toList==key.toList)=cA):=by
   rcases I with⟨j,o,H⟩|⟨j,o⟩
   .left;refine⟨j,?_,?_⟩
    .rw[r.o];exact Ub (by omega)
    rw[o];simp
   by_cases T:key.size=0
   .right;left;exact⟨j,by rw[r.o];exact Ac T⟩
   right;right;refine⟨j,by rw[r.o];exact Ub T,?_⟩;rw[<-Bool.not_eq_true];intro hb;rcases o with o|o;exact T o;exact o (toList_inj (by simpa using hb))
  have A:s<=0\/(0<s/\(key.size:Int)<=s)\/(0<s/\s<(key.size:Int)/\(16:Int)<(vA b:Nat)):=by omega
  clear I f J r;generalize yI b=KV at *;rcases R with⟨j,o,H⟩|⟨j,o⟩|⟨j,o,H⟩
  .have E:xA _:=j;clear j;rcases A with u|⟨u,m⟩|⟨u,m,x⟩
   all_goals
    go_wp2_with fail;apply aC V.o;intro N k;have D:xA (uE N w.1.size (bA ⟨g,0,aA⟩) b/\kB w N):=⟨X.o.z k,oB c k⟩
    clear k;go_wp2;refine bodyPost_ret (v:=uA #[oA (bA ⟨g,0,aA⟩) (vA b) z,pA dA]) (by simp[results,results100,go_sem]) rfl ⟨bA ⟨g,0,aA⟩,z,?_,?_,D.o.2⟩
    .rw[E.o]
    rw[E.o];exact D.o.1
  .have E:xA _:=j;clear j;rcases A with u|⟨u,m⟩|⟨u,m,x⟩
   all_goals
    go_wp2;refine bodyPost_ret (v:=uA #[oA (bA ⟨wr.1.size,0,aA⟩) 0 0,pA cA]) (by simp[results,results100,go_sem]) rfl ?_;first
     |exact⟨bA ⟨wr.1.size,0,aA⟩,0,by rw[E.o];rfl,by rw[E.o];exact Ca rfl,oB c vB⟩
     |exact⟨bA ⟨wr.1.size,0,aA⟩,⟨0,by rw[E.o];rfl⟩,by rw[E.o];exact Ca rfl,oB c vB⟩
     |exact⟨⟨bA ⟨wr.1.size,0,aA⟩,⟨0,by rw[E.o];rfl⟩,by rw[E.o];exact Ca rfl⟩,oB c vB⟩
     |exact⟨⟨bA ⟨wr.1.size,0,aA⟩,0,by rw[E.o];rfl,by rw[E.o];exact Ca rfl⟩,oB c vB⟩
  have E:xA _:=j;clear j;rcases A with u|⟨u,m⟩|⟨u,m,x⟩
  all_goals
   go_wp2_with fail;apply aC V.o;intro N k;have D:xA _:=oB c k;clear k;go_wp2;refine bodyPost_ret (v:=uA #[oA (bA ⟨N.1.size,0,aA⟩) 0 0,pA cA]) (by simp[results,results100,go_sem]) rfl ⟨bA ⟨N.1.size,0,aA⟩,0,?_,?_,oB D.o vB⟩
   .rw[E.o];rfl
   rw[E.o];exact Ca rfl
def RC(key:gB):vA (gG key).1<=16:=by grind [gG,QQ,dh,PF]
def AI(key:gB)(w:eA)(q:key.size<=1000000000)(k:vH w):
 qD 163 #[nA key] w (nA (jL (gG key).1)):=by
 have r:=RC key;have i:xA (Calls prog 200 #[nA key] w fun e c=>∃a b,e=sA (uA #[.slice a (vA (gG key).1) b,pA (gG key).2])/\uE c w.1.size a (gG key).1/\kB w c):=nt key w q k;clear k;generalize (gG key).1=L at *;generalize (gG key).2=p at *;generalize j:jL L=M;have n:xA _:=j;clear j;go_enter func163,ntmps163;go_wp2_with fail;refine i.o.mono ?_;rintro e h ⟨a,b,rfl,g,d⟩;have o:xA (qD 201 #[oA a (vA L) b] h (nA M)):=by
  have:=IX a b L h g.B (by omega);rw[n.o]at this;exact this
 have l:xA _:=d;clear g d i;go_wp2_with fail;apply aC o.o;intro s f;have m:xA _:=oB l.o f;clear f;go_wp2;go_ret;exact⟨rfl,m.o⟩
def BD(key:gB)(w:eA)(z:key.size<=1000000000):
 qD 101 #[nA key] w (nA (jL (gG key).1)):=by
 have G:=RC key;have u:xA (Calls prog 100 #[nA key] w fun e n=>∃a g,e=sA (uA #[.slice a (vA (gG key).1) g,pA (gG key).2])/\uE n w.1.size a (gG key).1/\kB w n):=OA key w z;generalize (gG key).1=c at *;generalize (gG key).2=p at *;go_enter func101,ntmps101;go_wp2_with fail;refine u.o.mono ?_;rintro e s ⟨a,g,rfl,j,h⟩;have y:xA (yD s a c):=j.B;have t:xA _:=h;clear j h u;go_wp2;go_loopw [6,14] (fun _ i wr=>∃k:Nat,k<=vA c/\i=lA mA k/\xA (jL c=jL (c.drop k))/\kB s wr) (fun _ i _=>vA c-(intOf i).toNat)
 case atStart=>exact⟨0,Oa _,rfl,rfl,eD⟩
 case round=>
  obtain⟨k,F,rfl,q,d⟩:=hrel;by_cases l:k<vA c
  .obtain ⟨b,o,rfl,D,B,C⟩:=(y.o.z d).at l;have m:=ZK c k l;have v:xA (cQ c[k]=(c[k].N.toList==[95,95,110,97,109,101,95,95])):=by show _=_;rw[cQ,UJ]
   generalize c[k].N=x at *;by_cases f:cQ c[k]=dA
   .have r:(x.toList==[95,95,110,97,109,101,95,95])=dA:=by rw[<-v.o];exact f
    have E:xA (jL c=c[k].V):=by show _=_;rw[q.o,m,Ma f]
    clear m f;generalize c[k].V=A at *;go_wp2;go_ret;exact⟨by rw[E.o];rfl,oB t.o (oB d vB)⟩
   have r:(x.toList==[95,95,110,97,109,101,95,95])=cA:=by rw[<-v.o];simpa using f
   have E:xA (jL c=jL (c.drop (k+1))):=by show _=_;rw[q.o,m,Ja f]
   clear m f;generalize c[k].V=A at *;go_wp2;exact⟨⟨k+1,by omega,by go_num,E.o,oB d vB⟩,by simp[intOf];omega⟩
  have E:xA (jL c=kA):=by
   show _=_;rw[q.o,Yb (by omega)];rfl
  go_wp2;go_ret;exact⟨by rw[E.o];rfl,oB t.o d⟩
theorem aSj(c:UInt8):okM [45] c=okT c:=by
 have e:decide (0<=Lib.indexByte [45] c)=(c==45):=by
  by_cases h:c=45
  .subst h;rfl
  have a:((45:UInt8)==c)=cA:=by simpa using fun e=>h e.symm
  have b:(c==45)=cA:=by simpa using h
  simp[Lib.indexByte,a,b]
 rw[okM,okT,e]
def ug(s:gB):aU s 32 ⟨#[45]⟩=tC s:=by grind [aU,tC,aSj]
def dN(s:gB)(w:eA)(b:s.size<=maxLen):dI 84 #[nA s] w (pA (tC s)):=by
 have H:xA _:=fun W=>ug s ▸ MY s 32 ⟨#[45]⟩ W b;generalize tC s=R at *;go_enter func84,ntmps84;go_wp2_with fail;apply lK (H.o _);go_wp2;go_ret;exact⟨rfl,rfl⟩
def aPb(c:UInt8):okT c=decide ((97<=(c.toNat:Int)/\(c.toNat:Int)<=122)\/(48<=(c.toNat:Int)/\(c.toNat:Int)<=57)\/(c.toNat:Int)=45):=by
 have a:(c==45)=decide (c.toNat=45):=by rw[Qb];simp[<-UInt8.toNat_inj]
 rw[Qb];simp[okT,a,Df];omega
def cG(s:gB)(w:eA)(m:s.size<=maxLen):
 dI 19 #[nA s] w (pA (tC s)):=by
 unfold maxLen at m;by_cases c:1<=s.size/\s.size<=32
 .have l:wB (s.size:Int) 1 32=dA:=by unfold wB;simp;omega
  have HN:xA (tC s=s.data.toList.all okT):=by show _=_;simp[tC,c.1,c.2]
  have o:=c.1;have p:=c.2;clear c;go_enter func19,ntmps19;go_wp2_with(go_at_call 48;apply aC (vD _ _ _ _);rintro h rfl);go_loop [3,4] (fun i _=>∃k:Nat,k<=s.size/\i=lA mA k/\(s.data.toList.take k).all okT=dA) (fun i _=>s.size-(intOf i).toNat)
  case atStart=>exact⟨0,Oa _,rfl,by simp⟩
  case round=>
   obtain⟨k,n,rfl,d⟩:=hrel;have b:xA _:=d;clear d l;by_cases g:k<s.size
   .have a:=CZ (f:=okT) g;rw[b.o,Oc,aPb]at a;have j:xA _:=a;clear a;go_wp2;all_goals first
     |(go_ret
       refine⟨fB ?_,rfl⟩;rw[HN.o];refine(aAz (k:=k+1) ?_).symm;rw[j.o,Xe];simp at *;omega)
     |(refine⟨⟨k+1,by omega,by go_num,?_⟩,by simp[intOf];omega⟩
       rw[j.o,Af];simp at *;omega)
   go_wp2;go_ret;exact⟨fB (by rw[HN.o,<-b.o,Ra (by simp;omega)]),rfl⟩
 have l:wB (s.size:Int) 1 32=cA:=by unfold wB;simp;omega
 have HN:xA (tC s=cA):=by show _=_;simp[tC];omega
 go_enter func19,ntmps19;go_wp2_with(go_at_call 48;apply aC (vD _ _ _ _);rintro h rfl);go_ret;exact⟨fB HN.o.symm,rfl⟩
def mW(s:gB)(w:eA)(h:s.size<=1000000000)(d:vH w):qD 162 #[nA s] w (pA (yE s)):=by
 have H:xA (qD 199 #[nA s] w (lA mA (zP s:Nat))):=MX s w h d;have c:xA (yE s=(!s.toList.isEmpty&&decide (zP s=0))):=rfl;clear d;generalize zP s=v at *;by_cases a:s.toList.isEmpty=dA
 .go_enter func162,ntmps162;go_wp2;go_ret;exact⟨fB (by rw[c.o,a];rfl),eD⟩
 have f:s.toList.isEmpty=cA:=by simpa using a
 clear a;go_enter func162,ntmps162;go_wp2_with fail;apply aC H.o;intro i g;go_wp2;go_ret;exact⟨fB (by rw[c.o,f];rw[Qb];simp),g⟩
def eN(s:gB)(w:eA)(g:s.size<=1000000000):qD 50 #[nA s] w (pA (yE s)):=by
 have H:xA (qD 99 #[nA s] w (lA mA (zP s:Nat))):=OE s w g;have c:xA (yE s=(!s.toList.isEmpty&&decide (zP s=0))):=rfl;generalize zP s=v at *;by_cases a:s.toList.isEmpty=dA
 .go_enter func50,ntmps50;go_wp2;go_ret;exact⟨fB (by rw[c.o,a];rfl),eD⟩
 have d:s.toList.isEmpty=cA:=by simpa using a
 clear a;go_enter func50,ntmps50;go_wp2_with fail;apply aC H.o;intro h f;go_wp2;go_ret;exact⟨fB (by rw[c.o,d];rw[Qb];simp),f⟩
def aOu{key:gB}(h:(gG key).2=cA):(jL (gG key).1).toList.isEmpty=dA:=by rw[(PF h).1];simp[jL]
def KZ(s:gB)(w:eA)(i:s.size<=1000000000):qD 51 #[nA s] w (pA (pK s)):=by
 have d:xA (Calls prog 100 #[nA s] w fun e f=>∃a c,e=sA (uA #[.slice a (vA (gG s).1) c,pA (gG s).2])/\uE f w.1.size a (gG s).1/\kB w f):=OA s w i;have k:xA _:=fun W=>BD s W i;have h:xA (pK s=!(jL (gG s).1).toList.isEmpty):=rfl;cases hd:(gG s).2 with
 |false=>
  have l:=aOu hd;rw[hd]at d;generalize jL (gG s).1=m at *;generalize (gG s).1=L at *;clear hd;go_enter func51,ntmps51;go_wp2_with fail;refine d.o.mono ?_;rintro e n ⟨a,c,rfl,_,b⟩;go_wp2;go_ret;exact⟨fB (by rw[h.o,l];rfl),b⟩
 |true=>
  rw[hd]at d;generalize jL (gG s).1=m at *;generalize (gG s).1=L at *;clear hd;go_enter func51,ntmps51;go_wp2_with fail;refine d.o.mono ?_;rintro e n ⟨a,c,rfl,_,b⟩;have j:xA _:=b;clear b;go_wp2_with fail;apply aC (k.o _);intro o g;go_wp2;go_ret;exact⟨fB (by rw[h.o]),oB j.o g⟩
def EZ(t:aB)(c d:iC)(f g:Nat)(w:eA):qD 49 #[.agg #[nA t.N,lA mA t.L,oA c (vA t.M) f,oA d (vA t.Z) g]] w (pA (aF t)):=by
 have E:xA (aF t=(t.L==-1&&vA t.M==0&&vA t.Z==0)):=rfl;generalize vA t.M=h at *;generalize vA t.Z=j at *;generalize t.L=L at *;by_cases a:L = -1
 .by_cases b:h=0
  .go_enter func49,ntmps49;go_wp2;go_ret;exact⟨fB (by rw[E.o,a,b];rw[Qb];simp),vB⟩
  go_enter func49,ntmps49;go_wp2;go_ret;exact⟨fB (by rw[E.o,a];rw[Qb];simp[b]),vB⟩
 go_enter func49,ntmps49;go_wp2;go_ret;exact⟨fB (by rw[E.o];rw[Qb];simp[a]),vB⟩
def wU(x:Int)(w:eA):dI 119 #[lA mA x] w (pA (wB x (-1) 1000000)):=by
 by_cases h:x = -1
 .have E:xA (wB x (-1) 1000000=dA):=by show _=_;subst h;rfl
  go_enter func119,ntmps119;go_wp2_with(go_at_call 118;apply aC (bG _ _);rintro a rfl);go_ret;exact⟨fB E.o.symm,rfl⟩
 have E:xA (wB x (-1) 1000000=wB x 0 1000000):=by
  show _=_;unfold wB;congr 1;rw[Qb];simp;omega
 go_enter func119,ntmps119;go_wp2_with(go_at_call 118;apply aC (bG _ _);rintro a rfl);go_ret;exact⟨fB (by rw[E.o,show(x==-1)=cA by simpa using h,Rf]),rfl⟩
def aHw(a:List dB):Prop:=∀i(h:i<vA a),a[i].s.size<=1000000000
def aNa(a:List aB):Prop:=∀i(h:i<vA a),a[i].N.size<=maxLen/\aHw a[i].M/\aHw a[i].Z/\vA a[i].M<=1000000000/\vA a[i].Z<=1000000000
structure PS(w W:World)(c:lC)(now:Int)(a:iC)(n cap:Nat):Prop where
 C:iB W w.1.size #[lA mA c.w,lA mA c.tl,lA mA c.ml,lA mA c.sh,lA mA c.ha,lA mA c.sg] 46
 S:iB W (w.1.size+1) #[lA mA now,oA a n cap] 41
 B:kB w W
def PS.z{w W f:eA}{c:lC}{d:Int}{a:iC}{n b:Nat}(h:PS w W c d a n b)(e:kB W f):PS w f c d a n b:=⟨h.C.z e,h.S.z e,oB h.B e⟩
def jG(c:lC)(t:Int)(a:iC)(cap:Nat)(v:List aB)(w:eA)(hf:nC w a v)(hb:aNa v)(hlen:vA v<=1000000000):
 qD 16 #[oF c,.agg #[lA mA t,oA a (vA v) cap]] w (pA (kC c t v)):=by
 have HC:=yA (fun W=>pM c W);have HSB:xA (kC c t v=(pH c&&wB t 0 1000000000000&&decide (vA v<=10000) &&mN c.w t v)):=rfl;have HF:=yA hf;have HB:=yA hb;clear hf hb;unfold oF at *;have hcs:(pH c=cA\/pH c=dA/\(wB t 0 1000000000000=cA\/wB t 0 1000000000000=dA/\(10000:Int)<vA v))/\kC c t v=cA\/pH c=dA/\wB t 0 1000000000000=dA/\¬(10000:Int)<vA v/\kC c t v=mN c.w t v:=by
  rw[HSB.o];cases pH c<;>cases wB t 0 1000000000000<;>simp
  by_cases h:(10000:Int)<vA v
  .exact Ca ⟨h,fun h'=>by omega⟩
  exact La ⟨by omega,fun _=>by omega⟩
 clear HSB;have HP:=fun{W:eA}(hb:Below _ (eA.alloc (eA.alloc w (tA #[lA mA c.w,lA mA c.tl,lA mA c.ml,lA mA c.sh,lA mA c.ha,lA mA c.sg] 46)) (tA #[lA mA t,oA a (vA v) cap] 41)) W)=>yA (show PS w W c t a (vA v) cap from⟨((iB.new _ _ _).alloc _).z hb,by have:=(iB.new (w.alloc (tA #[lA mA c.w,lA mA c.tl,lA mA c.ml,lA mA c.sh,lA mA c.ha,lA mA c.sg] 46)) #[lA mA t,oA a (vA v) cap] 41).z hb;simpa using this,oB (oB vB vB) hb⟩);rcases hcs with⟨g0|⟨g0,g1|⟨g1,g2⟩⟩,E⟩|⟨g0,g1,g2,E⟩
 rotate_left 3;rotate_left 1;iterate 3
  .have E:=yA E
   rw[g0]at HC
   go_enter func16,ntmps16
   go_wp2_with(first
    |(go_at_call 15;apply aC (HC.o _);intro w1 a0;have P1:=HP a0;clear a0 HP;obtain⟨s0,s1⟩:=P1.o.S.c2)
    |(go_at_call 48;refine aC (bE (by assumption) _) ?_;rintro w' rfl))
   go_ret
   exact⟨fB (by rw[E.o]),P1.o.B⟩
 have HSB2:=yA E;obtain⟨hn0,hn1⟩:=uL g1;rw[g0]at HC;clear E;go_enter func16,ntmps16;go_wp2_with(first
  |(go_at_call 15;apply aC (HC.o _);intro w1 a0;have P1:=HP a0;clear a0 HP;obtain⟨s0,s1⟩:=P1.o.S.c2)
  |(go_at_call 48;apply aC (bE g1 _);rintro w' rfl))
 clear s0 s1;go_loopw [5,6,7,8,9,10,29] (fun _ _ _ _ _ _ i wr=>∃k:Nat,k<=vA v/\i=lA mA k/\eI (xN c.w t v) k=dA/\kB w' wr) (fun _ _ _ _ _ _ i _=>vA v-(intOf i).toNat)
 case atStart=>exact⟨0,Oa _,rfl,rfl,eD⟩
 case round=>
  obtain⟨k,hk,rfl,hok,j0⟩:=hrel;have HOK:=yA hok;have HBEL:=yA j0;have PW:=yA (P1.o.z j0);clear hok j0 P1;by_cases k0:k<vA v
  .obtain ⟨b,o,a1,q1,a2,q2,rfl,hbl,m,p,q,r,p1,p2⟩:=(HF.o.z PW.o.B).at k0;obtain⟨n1,n2,n3,n4,n5⟩:=HB.o k k0;have F:xA (xN c.w t v k=cA->kC c t v=cA):=fun h=>by rw[HSB2.o];exact fQ h k0
   have I:xA (xN c.w t v k=(qO v k&&yP c.w t v[k])):=zW k0;have HPRE:xA (0<k->∃u:gB,qO v k=aK u v[k].N/\cC wr b (o+(k-1)*4) (nA u)):=fun z=>by
    refine⟨_,rW z k0,?_⟩;obtain⟨b',o',_,_,_,_,e,_,u0,_⟩:=(HF.o.z PW.o.B).at (i:=k-1) (by omega)
    simp only[Qa,Addr.mk.injEq,Cc]at e;rw[e.1,e.2];exact u0
   have N:xA (k=0->qO v k=dA):=fun z=>by subst z;rfl
   generalize v[k]=T at *;have Z:=yA (fun W=>cG T.N W n1);have X:=yA (fun W=>EZ T a1 a2 q1 q2 W);have O:xA (yP c.w t T=(tC T.N&&wB T.L (-1) 1000000&&jM T.M&&fL c.w t T.Z&&!aF T)):=rfl;have hc2:(tC T.N=cA\/tC T.N=dA/\(wB T.L (-1) 1000000=cA\/wB T.L (-1) 1000000=dA/\aF T=dA))/\yP c.w t T=cA\/tC T.N=dA/\wB T.L (-1) 1000000=dA/\aF T=cA/\yP c.w t T=(jM T.M&&fL c.w t T.Z):=by
    rw[O.o];cases tC T.N<;>cases wB T.L (-1) 1000000<;>cases aF T<;>simp
   clear O;rcases hc2 with⟨e1|⟨e1,e2|⟨e2,e3⟩⟩,E⟩|⟨e1,e2,e3,E⟩
   rotate_left 3;rotate_left 1;iterate 3
    .have E:=yA E
     rw[e1]at Z
     try rw[e3]at X
     go_wp2_with(first
      |(go_at_call 19;apply lK (Z.o _))
      |(go_at_call 48;refine lK (bE (by assumption) _) ?_)
      |(go_at_call 49;apply aC (X.o _);intro w3 b0))
     go_ret
     exact⟨fB (F.o (by rw[I.o,E.o];simp)).symm,by first|exact oB PW.o.B (oB vB b0)|exact oB PW.o.B vB⟩
   have O:=yA E;rw[e1]at Z;rw[e3]at X;clear E;go_upto_region 8 with(first
    |(go_at_call 19;apply lK (Z.o _))
    |(go_at_call 48;apply lK (bE e2 _))
    |(go_at_call 49;apply aC (X.o _);intro w3 b0))
   have T3:=yA ((iB.new wr #[nA T.N,lA mA T.L,oA a1 (vA T.M) q1,oA a2 (vA T.Z) q2] 85).z b0);have R:=oB vB b0;have P3:=yA (PW.o.z R);have B3:=yA (oB HBEL.o R);have Q3:=yA (Vc (p1.z R) (p2.z R));have Y:xA (0<k->∃u:gB,qO v k=aK u T.N/\cC w3 b (o+(k-1)*4) (nA u)):=fun z=>by
    obtain⟨u,e1,e2⟩:=HPRE.o z;exact⟨u,e1,(R.cell hbl).trans e2⟩
   clear b0 R HPRE p1 p2 m p q r PW HBEL X Z;generalize wr.1.size=tb at *;clear wr;go_cut [61] (fun s wx=>s=pA (!(qO v k))/\kB w3 wx)
   case first=>
    obtain⟨-,x0⟩:=P3.o.S.c2;obtain⟨x1,-⟩:=T3.o.c4;have hv:(∃u,((0:Int)<k/\0<k)/\cC w3 b (o+(k-1)*4) (nA u)/\qO v k=aK u T.N)\/decide ((0:Int)<k)=cA/\decide (0<k)=cA/\qO v k=dA:=by
     by_cases z:0<k
     .obtain ⟨u,hp,U⟩:=Y.o z;exact Ca ⟨u,⟨by omega,z⟩,U,hp⟩
     exact La ⟨by simp;omega,by simp;omega,N.o (by omega)⟩
    rcases hv with⟨u,⟨z,h0'⟩,U,HP⟩|⟨hd,hd',HP⟩
    all_goals
     have HP:=yA HP;go_quiet (fail)
     go_wp2_with fail;go_meet;exact⟨by rw[HP.o];rfl,below_drewN eD _⟩
   obtain⟨rfl,Q⟩:=hcut;rename eA=>w4;have T4:=yA (T3.o.z Q);have PW:=yA (P3.o.z Q);have B4:=yA (oB B3.o Q);have P14:=yA (Q3.o.1.z Q);have P24:=yA (Q3.o.2.z Q);clear Q T3 P3 B3 Q3 Y N;cases e4:qO v k
   .rw[e4]at I;go_wp2;go_ret;exact⟨fB (F.o (by rw[I.o];simp)).symm,PW.o.B⟩
   rw[e4]at I;obtain⟨-,-,y2,-⟩:=T4.o.c4;go_wp2;clear y2;go_loopw [7,8,65] (fun _ _ j wr=>∃i:Nat,i<=vA T.M/\j=lA mA i/\eI (iM T.M) i=dA/\kB w4 wr) (fun _ _ j _=>vA T.M-(intOf j).toNat)
   case atStart=>exact⟨0,Oa _,rfl,rfl,eD⟩
   case round=>
    obtain⟨i,hi,rfl,l0,e0⟩:=hrel;have M:=yA l0;have y:=yA e0;clear l0 e0;by_cases A:i<vA T.M
    .obtain ⟨pb,po,rfl,m0,c0,c1⟩:=(P14.o.z y.o).at A;have HMF:xA _:=fun h=>F.o (by rw[I.o,O.o];have:jM T.M=cA:=fQ h A;rw[this];simp);have HMA:xA _:=AP A;have hsz:=n2 i A;have G:xA (0<i->∃u:gB,mM T.M i=aK u T.M[i].s/\cC wr pb (po+(i-1)*2) (nA u)):=fun z=>by
      refine⟨_,bU z A,?_⟩;obtain⟨b',o',e,_,u0,_⟩:=(P14.o.z y.o).at (i:=i-1) (by omega)
      simp only[Qa,Addr.mk.injEq,Cc]at e;rw[e.1,e.2];exact u0
     have N:xA (i=0->mM T.M i=dA):=fun z=>by subst z;rfl
     generalize T.M[i]=P at *;have K:=yA (fun W=>eN P.s W hsz);have H:=yA (yG wr (tA #[nA P.s,lA mA P.n] 111));have MB:=yA (iB.new wr #[nA P.s,lA mA P.n] 111);go_upto_region 13 with fail;generalize wr.alloc (tA #[nA P.s,lA mA P.n] 111)=W at *;have D:=yA (oB y.o H.o);have TB:=yA (T4.o.z D.o);have PB:=yA (PW.o.z D.o);replace G:xA (0<i->∃u:gB,mM T.M i=aK u P.s/\cC W pb (po+(i-1)*2) (nA u)):=fun z=>by
      obtain⟨u,e1,e2⟩:=G.o z;exact⟨u,e1,(H.o.cell m0).trans e2⟩
     generalize wr.1.size=mb at *;clear c0 c1 m0 y H wr;go_cut [95] (fun s wx=>s=pA (!(iM T.M i))/\kB W wx)
     case first=>
      have d:=fun x:tB W=>(⟨(MB.o.z x.h).c2,(TB.o.z x.h).c4,(PB.o.z x.h).S.c2,(PB.o.z x.h).C.c6⟩:_/\_/\_/\_)
      simp only[forall_and]at d;obtain⟨⟨d0,d1⟩,⟨-,-,d2,d3⟩,⟨d4,-⟩,⟨d5,-⟩⟩:=d;have hnel:=tB.there W;have hv:yE P.s=cA/\iM T.M i=cA\/yE P.s=dA/\(wB P.n 0 1000000=cA/\iM T.M i=cA\/wB P.n 0 1000000=dA/\((∃u,((0:Int)<i/\0<i)/\cC W pb (po+(i-1)*2) (nA u)/\iM T.M i=aK u P.s)\/decide ((0:Int)<i)=cA/\decide (0<i)=cA/\iM T.M i=dA)):=by
       rw[HMA.o];cases yE P.s
       .exact Ca ⟨rfl,by simp⟩
       refine La ⟨rfl,?_⟩;cases wB P.n 0 1000000
       .exact Ca ⟨rfl,by simp⟩
       refine La ⟨rfl,?_⟩;by_cases z:0<i
       .obtain ⟨u,hp,U⟩:=G.o z;exact Ca ⟨u,⟨by omega,z⟩,U,by rw[hp];simp⟩
       exact La ⟨by simp;omega,by simp;omega,by rw[N.o (by omega)];rfl⟩
      rcases hv with⟨f,L⟩|⟨f,⟨l,L⟩|⟨l,⟨u,⟨z,h0'⟩,U,L⟩|⟨hd,hd',L⟩⟩⟩
      all_goals
       have L:=yA L;rw[f]at K;try have d6:=tB.cells U
       try clear U
       refine jB (by kernel_rfl) (by kernel_rfl) ?_;repeat (go_big_quiet_step (first|(go_at_call 50;exact xB (K.o _))|(go_at_call 48;exact yC (bE (by assumption) _))))
       refine wpQuiet_nil ?_;rintro _ ⟨x,rfl⟩;go_wp2_with fail;go_meet;exact⟨by rw[L.o];rfl,x.h⟩
     obtain⟨rfl,i0⟩:=hcut;rename eA=>w7;have V:=yA (oB D.o i0);clear i0 D MB TB PB G K;cases f4:iM T.M i
     .have J:=yA f4;go_wp2;go_ret;exact⟨fB (HMF.o J.o).symm,oB PW.o.B V.o⟩
     have J:xA (eI (iM T.M) (i+1)=dA):=by show _=_;rw[sL,M.o,f4];rfl
     go_wp2;exact⟨⟨i+1,by omega,by go_num,J.o,V.o⟩,by simp[intOf];omega⟩
    .have ei:i=vA T.M:=by omega
     have HMB:xA (jM T.M=dA):=by have:=M.o;rw[ei]at this;exact this
     clear ei;replace T4:=yA (T4.o.z y.o);replace PW:=yA (PW.o.z y.o);replace B4:=yA (oB B4.o y.o);have P25:=yA (P24.o.z y.o);obtain⟨-,-,-,y3⟩:=T4.o.c4;clear P14 P24 y M;go_wp2;clear y3;generalize hwo:wr=wo at *;clear hwo;go_loopw [9,10,100] (fun _ _ j wr=>∃i:Nat,i<=vA T.Z/\j=lA mA i/\eI (dJ c.w t T.Z) i=dA/\kB wo wr) (fun _ _ j _=>vA T.Z-(intOf j).toNat)
     case atStart=>exact⟨0,Oa _,rfl,rfl,eD⟩
     case round=>
      obtain⟨i,hi,rfl,l0,e0⟩:=hrel;have M:=yA l0;have y:=yA e0;clear l0 e0;by_cases A:i<vA T.Z
      .obtain ⟨pb,po,rfl,m0,c0,c1⟩:=(P25.o.z y.o).at A;have HMF:xA _:=fun h=>F.o (by rw[I.o,O.o];have:fL c.w t T.Z=cA:=fQ h A;rw[this];simp);have HMA:xA (dJ c.w t T.Z i=(mM T.Z i&&pK T.Z[i].s&&wB T.Z[i].n 0 t&&decide (t-T.Z[i].n<c.w))):=tW A;have hsz:=n3 i A;have G:xA (0<i->∃u:gB,mM T.Z i=aK u T.Z[i].s/\cC wr pb (po+(i-1)*2) (nA u)):=fun z=>by
        refine⟨_,bU z A,?_⟩;obtain⟨b',o',e,_,u0,_⟩:=(P25.o.z y.o).at (i:=i-1) (by omega)
        simp only[Qa,Addr.mk.injEq,Cc]at e;rw[e.1,e.2];exact u0
       have N:xA (i=0->mM T.Z i=dA):=fun z=>by subst z;rfl
       generalize T.Z[i]=P at *;have K:=yA (fun W=>KZ P.s W hsz);have H:=yA (yG wr (tA #[nA P.s,lA mA P.n] 88));have MB:=yA (iB.new wr #[nA P.s,lA mA P.n] 88);go_upto_region 19 with fail;generalize wr.alloc (tA #[nA P.s,lA mA P.n] 88)=W at *;have D:=yA (oB y.o H.o);have TB:=yA (T4.o.z D.o);have PB:=yA (PW.o.z D.o);replace G:xA (0<i->∃u:gB,mM T.Z i=aK u P.s/\cC W pb (po+(i-1)*2) (nA u)):=fun z=>by
        obtain⟨u,e1,e2⟩:=G.o z;exact⟨u,e1,(H.o.cell m0).trans e2⟩
       generalize wr.1.size=mb at *;clear c0 c1 m0 y H wr;go_cut [142] (fun s wx=>s=pA (!(dJ c.w t T.Z i))/\kB W wx)
       case first=>
        have d:=fun x:tB W=>(⟨(MB.o.z x.h).c2,(TB.o.z x.h).c4,(PB.o.z x.h).S.c2,(PB.o.z x.h).C.c6⟩:_/\_/\_/\_)
        simp only[forall_and]at d;obtain⟨⟨d0,d1⟩,⟨-,-,d2,d3⟩,⟨d4,-⟩,⟨d5,-⟩⟩:=d;have hnel:=tB.there W;have hv:pK P.s=cA/\dJ c.w t T.Z i=cA\/pK P.s=dA/\(wB P.n 0 t=cA/\dJ c.w t T.Z i=cA\/wB P.n 0 t=dA/\(0<=P.n/\P.n<=t)/\(c.w<=t-P.n/\dJ c.w t T.Z i=cA\/decide (c.w<=t-P.n)=cA/\((∃u,((0:Int)<i/\0<i)/\cC W pb (po+(i-1)*2) (nA u)/\dJ c.w t T.Z i=aK u P.s)\/decide ((0:Int)<i)=cA/\decide (0<i)=cA/\dJ c.w t T.Z i=dA))):=by
         rw[HMA.o];cases pK P.s
         .exact Ca ⟨rfl,by simp⟩
         refine La ⟨rfl,?_⟩;cases hb:wB P.n 0 t
         .exact Ca ⟨rfl,by simp⟩
         refine La ⟨rfl,uL hb,?_⟩;by_cases g:c.w<=t-P.n
         .exact Ca ⟨g,by rw[Ub (show ¬t-P.n<c.w by omega)];simp⟩
         refine La ⟨by simpa using g,?_⟩;rw[Ac (show t-P.n<c.w by omega)];by_cases z:0<i
         .obtain ⟨u,hp,U⟩:=G.o z;exact Ca ⟨u,⟨by omega,z⟩,U,by rw[hp];simp⟩
         exact La ⟨by simp;omega,by simp;omega,by rw[N.o (by omega)];rfl⟩
        rcases hv with⟨f,L⟩|⟨f,⟨l,L⟩|⟨l,⟨r0,r1⟩,⟨g,L⟩|⟨g,⟨u,⟨z,h0'⟩,U,L⟩|⟨hd,hd',L⟩⟩⟩⟩
        all_goals
         have L:=yA L;rw[f]at K;try have d6:=tB.cells U
         try clear U
         refine jB (by kernel_rfl) (by kernel_rfl) ?_;repeat (go_big_quiet_step (first|(go_at_call 51;exact xB (K.o _))|(go_at_call 48;exact yC (bE (by assumption) _))))
         refine wpQuiet_nil ?_;rintro _ ⟨x,rfl⟩;go_wp2_with fail;go_meet;exact⟨by rw[L.o];rfl,x.h⟩
       obtain⟨rfl,i0⟩:=hcut;rename eA=>w7;have V:=yA (oB D.o i0);clear i0 D MB TB PB G K;cases f4:dJ c.w t T.Z i
       .have J:=yA f4;go_wp2;go_ret;exact⟨fB (HMF.o J.o).symm,oB PW.o.B V.o⟩
       have J:xA (eI (dJ c.w t T.Z) (i+1)=dA):=by show _=_;rw[sL,M.o,f4];rfl
       go_wp2;exact⟨⟨i+1,by omega,by go_num,J.o,V.o⟩,by simp[intOf];omega⟩
      .have ei:i=vA T.Z:=by omega
       have HSS:xA (fL c.w t T.Z=dA):=by have:=M.o;rw[ei]at this;exact this
       have HNX:xA (eI (xN c.w t v) (k+1)=dA):=by
        show _=_;rw[sL,HOK.o,I.o,O.o,HMB.o,HSS.o];rfl
       clear ei;go_wp2;exact⟨⟨k+1,by omega,by go_num,HNX.o,oB B4.o y.o⟩,by simp[intOf];omega⟩
  have ek:k=vA v:=by omega
  have HEND:xA (kC c t v=dA):=by show _=_;rw[HSB2.o];have:=HOK.o;rw[ek]at this;exact this
  go_wp2;go_ret;exact⟨fB HEND.o.symm,PW.o.B⟩
section
open Go.ChangeShapes Go.WideShapes Go.ChangeAt
def lg:prog.cellsOf 26=6:=by kernel_rfl
def vl:prog.cellsOf 28=3:=by kernel_rfl
def MF:prog.cellsOf 4=1:=by kernel_rfl
def vm:prog.cellsOf 33=14:=by kernel_rfl
section
variable {H:Type} {enc:TypeId×iA→H} {W:eA}
theorem aGq{r:Reach}{b0:Nat}{v:iA}{d:DataW H}{p:List MemPlace}(hv:iA.okWide prog W r b0 33 v)(h:DataW.Trod enc prog W 0 (fun _=>dA) dA 33 v d p):
 ∃(a b:iC)(ca z:Nat)(N:oC),v=.agg #[oA a (vA N.d.fs) ca,lA mA N.d.c,lA mA N.d.k,lA mA N.d.cr,lA mA N.d.fl,pA N.d.dn,lA mA N.l.first,lA mA N.l.last,lA mA N.l.size,lA mA N.now,oA b (vA N.ts) z,lA mA N.lsn,pA N.deg,pA N.up]/\eB W a N.d.fs/\pL N.d.fs/\vA N.d.fs<=maxLen/\nC W b N.ts/\DW N.ts/\jz N.ts/\nU N.lsn/\nU N.now/\vA N.ts<=maxLen:=by
 obtain⟨cs,rfl,m⟩:=okWide_struct underlying33 hv;obtain⟨Z,hf⟩:=h;obtain⟨G,n,_,_,_,u,i⟩:=DataW.trod_struct underlying33 hf;rw[vm]at m;obtain⟨l⟩:=cs;simp at m;match l,m with
 |[c0,c1,c2,c3,c4,c5,c6,c7,c8,c9,c10,c11,c12,c13],_=>
  match G,u with
  |[y0,y1,y2,y3,y4,y5],_=>
   have h0:=i 0 _ rfl;have h1:=i 1 _ rfl;have h2:=i 2 _ rfl;have h3:=i 3 _ rfl;have h4:=i 4 _ rfl;have h5:=i 5 _ rfl;simp[iA.cells,lg,vl,aDj,kT,MF]at h0 h1 h2 h3 h4 h5;obtain⟨xd,nd,_,_,_,B,g⟩:=DataW.trod_struct underlying26 h0;obtain⟨xl,nl,_,_,_,C,j⟩:=DataW.trod_struct underlying28 h1;obtain⟨G,ns,_,_,_,D,t⟩:=DataW.trod_struct underlying31 h2;match xd,B with
   |[z0,z1,z2,z3,z4,z5],_=>
    match xl,C with
    |[l0,l1,l2],_=>
     match G,D with
     |[s0,s1],_=>
      have I:=g 0 _ rfl;have J:=g 1 _ rfl;have K:=g 2 _ rfl;have L:=g 3 _ rfl;have M:=g 4 _ rfl;have O:=g 5 _ rfl;have k0:=j 0 _ rfl;have k1:=j 1 _ rfl;have k2:=j 2 _ rfl;have e:=t 0 _ rfl;have f:=t 1 _ rfl;simp[lh,kT,MF,vn]at I J K L M O k0 k1 k2 e f;obtain⟨a,y,fs,e0,hF,hS,hL⟩:=zb I;obtain⟨i1,P,_,_⟩:=DataW.trod_int underlying3 J;obtain⟨i2,Q,_,_⟩:=DataW.trod_int underlying3 K;obtain⟨i3,R,_,_⟩:=DataW.trod_int underlying3 L;obtain⟨i4,S,_,_⟩:=DataW.trod_int underlying3 M;obtain⟨b5,T,_⟩:=DataW.trod_bool underlying4 O;obtain⟨i6,U,_,_⟩:=DataW.trod_int underlying3 k0;obtain⟨i7,V,_,_⟩:=DataW.trod_int underlying3 k1;obtain⟨i8,X,_,_⟩:=DataW.trod_int underlying3 k2;obtain⟨i9,Y,_,w9⟩:=DataW.trod_int underlying3 e;obtain⟨b,z,ts,A,q1,q2,q4,q3⟩:=aGr f;obtain⟨E,o,_,F⟩:=DataW.trod_int underlying3 h3;obtain⟨w,q,_⟩:=DataW.trod_bool underlying4 h4;obtain⟨x,s,_⟩:=DataW.trod_bool underlying4 h5;simp at P Q R S T U V X Y o q s;exact⟨a,b,y,z,⟨⟨fs,i1,i2,i3,i4,b5⟩,⟨i6,i7,i8⟩,i9,ts,E,w,x⟩,by simp[e0,P,Q,R,S,T,U,V,X,Y,A,o,q,s],hF,hS,hL,q1,q2,q4,JU F,JU w9,q3⟩
end
end
