import Derived.Test.YtiegonaogehghaaGreatDoorJ13
import Derived.Test.YtiegonaogehghaaGreatDoorJ15
set_option maxRecDepth 100000
set_option maxHeartbeats 4000000
set_option linter.defProp false
open Bool renaming false->cA,true->dA
open Option renaming none->aA,some->bA
open ByteArray renaming empty->kA
open List renaming length->yA
namespace Go.Proofs.YtiegonaogehghaaGreatDoor
open Go renaming World->eA,Calls->gA,Value->iA
open Value renaming slice->pA,bool->qA,string->oA,tuple->xA,pointer->sA
open Ending renaming returned->uA
open Go.RowKit Tryz
def oe(a C:jC)(D n:Nat)(c d:List bC)(w:eA)(N:nD w a c)(t:nD w C d)(e:yA c<=2000000):
 vE 179 #[pA a (yA c) D,pA C (yA d) n] w (qA (nH c d)):=by
 have R:bB (nD w a c):=N;have z:bB (nD w C d):=t;clear N t;by_cases F:yA c=yA d
 .have G:((yA c:Int) != (yA d:Int))=cA:=by simp[F]
  have H:yA d<=yA c/\yA c<=yA d:=by omega
  obtain⟨P,Q⟩:=H;clear F;go_enter func179,ntmps179;go_wp2;go_loopw [5,13] (λ_ i wr=>∃k:Nat,k<=yA c/\i=zA k/\bB (nH c d=nH (c.drop k) (d.drop k))/\tB w wr) (λ_ i _=>yA c-(intOf i).toNat)
  case atStart=>exact⟨0,Oa _,rfl,rfl,bD⟩
  case round=>
   obtain⟨k,e,rfl,A,f⟩:=hrel;by_cases u:k<yA c
   .have g:k<yA d:=by omega
    obtain⟨b,o,rfl,e,J,K⟩:=(R.o.z f).at u;obtain⟨b',e,rfl,T,l,m⟩:=(z.o.z f).at g;have y:=jb c d k u g;have j:∀W,Sem.run prog (binOp .neq 181 (.agg #[oA c[k].N,oA c[k].V]) (.agg #[oA d[k].N,oA d[k].V])) W=.ok (qA (!mU c[k] d[k])) W:=λW=>aLo.1 c[k] d[k] W;have O:∀(I:BinOp)(p q:Operand)(W:eA),Sem.run prog (eqGuard I 181 p q (.agg #[oA c[k].N,oA c[k].V]) (.agg #[oA d[k].N,oA d[k].V])) W=.ok () W:=λI p q W=>aLo.2 I p q c[k] d[k] W;have L:=iC.cells J;have M:=iC.cells K;have r:=iC.cells l;have s:=iC.cells m;clear J K l m;have v:=iC.there wr;cases he:mU c[k] d[k]with
    |true=>
     have E:bB (nH c d=nH (c.drop (k+1)) (d.drop (k+1))):=by show _=_;rw[A.o,y,he,Oc]
     rw[he]at j;clear y he;generalize c[k].N=U at *;generalize c[k].V=X at *;generalize d[k].N=V at *;generalize d[k].V=Y at *;go_wp2_with fail;refine wB (by kernel_rfl) (by kernel_rfl) ?_;repeat (go_big_quiet_step (fail))
     refine wpQuiet_nil ?_;rintro _ ⟨x,rfl⟩;have B:bB _:=vB f x.h;clear L M r s v;generalize x.w'=S at *;clear x;go_wp2;exact⟨⟨k+1,by omega,by go_num,E.o,B.o⟩,by simp[intOf];omega⟩
    |false=>
     have E:bB (nH c d=cA):=by show _=_;rw[A.o,y,he,Be]
     rw[he]at j;clear y he;generalize c[k].N=U at *;generalize c[k].V=X at *;generalize d[k].N=V at *;generalize d[k].V=Y at *;go_wp2_with fail;refine wB (by kernel_rfl) (by kernel_rfl) ?_;repeat (go_big_quiet_step (fail))
     refine wpQuiet_nil ?_;rintro _ ⟨x,rfl⟩;have B:bB _:=vB f x.h;clear L M r s v;generalize x.w'=S at *;clear x;go_wp2;go_ret;exact⟨oB E.o.symm,B.o⟩
   have E:bB (nH c d=dA):=by
    show _=_;rw[A.o,Yb (by omega),Yb (by omega)];rfl
   go_wp2;go_ret;exact⟨oB E.o.symm,f⟩
 have G:((yA c:Int) != (yA d:Int))=dA:=by simp;omega
 have E:bB _:=px F;go_enter func179,ntmps179;go_wp2;go_ret;exact⟨oB E.o.symm,bD⟩
def KW(a:jC)(g:Nat)(c:List bC)(w:eA)(hf:nD w a c)(hB:MJ c)(M:yA c<=2000000)(L:yA c<=g):
 vE 116 #[pA a (yA c) g] w (oA (rI c)):=by
 have s:bB (gA prog 114 #[pA a (yA c) g] w λe A=>MK e w A (uB c).1 (uB c).2.1 (uB c).2.2):=SG a g c w hf hB M L;have S:bB (nD w a c):=hf;have HB:bB (MJ c):=hB;have hcl:=MW c;unfold MK at s;clear hf hB;by_cases J:(uB c).2.1=0
 .have Z:(((uB c).2.1:Int) != 0)=cA:=by simp;omega
  have G:bB (∀W p B,nD W p (uB c).1->nD W a c->vE 179 #[.slice p (yA (uB c).1) B,pA a (yA c) g] W (qA (nH (uB c).1 c))):=λW p B h1 h2=>oe p a B g _ c W h1 h2 (by omega);by_cases N:nH (uB c).1 c=dA
  .have n:dO c=dA:=by unfold dO;rw[J,N];rfl
   have E:bB (rI c=tH c):=by show _=_;rw[rI,Ma n]
   have h16:=MU n;have U:bB (∀W,vE 54 #[.int .i64 1,.int .i64 (yA c:Nat)] W (oA (qB 1 (yA c:Nat)))):=λW=>fD 1 (yA c:Nat) W (by omega) (by omega) (by omega);have hz1:=kB 1 (yA c:Nat);have T:bB (tH c=qB 1 (yA c:Nat)++gD c):=rfl;have t:bB _:=N;clear J N n;generalize (uB c).1=C at *;generalize (uB c).2.1=Y at *;generalize (uB c).2.2=c2 at *;generalize qB 1 (yA c:Nat)=X at *;go_enter func116,ntmps116;go_wp2_with fail;refine s.o.mono ?_;rintro e D ⟨p,B,rfl,f,d⟩;have r:bB _:=d;have u:bB (nD D p C/\nD D a c):=⟨f.B,S.o.z d⟩
   clear f d s;go_wp2_with fail;apply hC (G.o _ _ _ u.o.1 u.o.2);intro w2 l;rw[t.o];have O:bB _:=vB r.o l;clear l u r;go_wp2_with fail;apply hC (U.o _);intro w3 K;have B3:bB _:=vB O.o K;clear K O;go_wp2;go_loopw [6,8,28] (λout _ i wr=>∃(k:Nat)(q:nB),k<=yA c/\i=.int .i64 k/\out=oA q/\q.size<=1+k*3000000000/\bB (q=X++gD (c.take k))/\tB w wr) (λ_ _ i _=>yA c-(intOf i).toNat)
   case atStart=>exact⟨0,X,Oa _,rfl,rfl,by omega,by show _=_;simp[gD],B3.o⟩
   case round=>
    obtain⟨k,q,hk,rfl,rfl,hst,H,m⟩:=hrel;by_cases v:k<yA c
    .obtain ⟨b,o,rfl,hb,c0,Y⟩:=(S.o.z m).at v;obtain⟨hs1,hs2⟩:=HB.o k v;have V:bB _:=λW=>zP c[k].N W hs1;have F:bB _:=λW=>aO c[k].V W hs2;have hz8:=lF c[k].N;have hz16:=bF c[k].V;have HT:=eT c k v;have R:bB (q++(xM c[k].N++vF c[k].V)=X++gD (c.take (k+1))):=by show _=_;rw[HT,H.o,Wa]
     clear HT;generalize xM c[k].N=I at *;generalize vF c[k].V=j at *;generalize c[k].N=P at *;generalize c[k].V=Q at *;have z:(I++j).size=I.size+j.size:=Ka;have hzst:(q++(I++j)).size=q.size+(I.size+j.size):=by rw[Ka,z]
     have d0:∀x:iC (wr.alloc (.cells #[oA P,oA Q] 181)),x.w'.cell? ⟨wr.1.size,0,aA⟩=bA (oA P):=iC.cells (by simp);have d1:∀x:iC (wr.alloc (.cells #[oA P,oA Q] 181)),x.w'.cell? ⟨wr.1.size,1,aA⟩=bA (oA Q):=iC.cells (by simp);have hne:=iC.there (wr.alloc (.cells #[oA P,oA Q] 181));go_wp2_with fail;refine wB (by kernel_rfl) (by kernel_rfl) ?_;repeat (go_big_quiet_step (first|(go_at_call 91;exact mC (V.o _))|(go_at_call 62;exact mC (F.o _))))
     refine wpQuiet_nil ?_;rintro _ ⟨x,rfl⟩;have HX:bB _:=vB (vB m yB) x.h;clear d0 d1 hne;generalize x.w'=W2 at *;clear x;go_wp2;exact⟨⟨k+1,q++(I++j),by omega,by go_num,rfl,by omega,R.o,HX.o⟩,by simp[intOf];omega⟩
    have R:bB (q=rI c):=by
     show _=_;rw[E.o,T.o,H.o,Ra (by omega)]
    go_wp2;go_ret;exact⟨by rw[<-R.o];rfl,m⟩
  have y:nH (uB c).1 c=cA:=by simpa using N
  have E:bB (rI c=kA):=by
   show _=_;rw[rI,Ja];unfold dO;rw[y,Wg];simp
  have t:bB _:=y;clear J N y;generalize (uB c).1=C at *;generalize (uB c).2.1=Y at *;generalize (uB c).2.2=c2 at *;go_enter func116,ntmps116;go_wp2_with fail;refine s.o.mono ?_;rintro e D ⟨p,B,rfl,f,d⟩;have r:bB _:=d;have u:bB (nD D p C/\nD D a c):=⟨f.B,S.o.z d⟩
  clear f d s;go_wp2_with fail;apply hC (G.o _ _ _ u.o.1 u.o.2);intro w2 l;rw[t.o];have O:bB _:=vB r.o l;clear l u r;go_wp2;go_ret;exact⟨by rw[E.o];rfl,O.o⟩
 have Z:(((uB c).2.1:Int) != 0)=dA:=by simp;omega
 have E:bB (rI c=kA):=by
  show _=_;rw[rI,Ja];unfold dO;rw[Ub J];simp
 clear J;generalize (uB c).1=C at *;generalize (uB c).2.1=Y at *;generalize (uB c).2.2=c2 at *;go_enter func116,ntmps116;go_wp2_with fail;refine s.o.mono ?_;rintro e D ⟨p,B,rfl,f,d⟩;have r:bB _:=d;clear f d s;go_wp2;go_ret;exact⟨by rw[E.o];rfl,r.o⟩
def lenOf:iA->Nat
 |pA _ n _=>n
 |_=>0
def yV(key:nB)(a:List bC)(c:Int):Prop:=∀b,dO b=dA->tH b=key->yA a<=yA b/\a=b.take (yA a)/\c=((1+(gD a).size:Nat):Int)
def WD(l:bC)(r:List bC):(gD (l::r)).data.toList=(qB 1 (l.N.size:Nat)).data.toList++(l.N.data.toList++((qB 2 (l.V.size:Nat)).data.toList++(l.V.data.toList++(gD r).data.toList))):=by
 simp[gD,xM,vF]
def UZ(a:List bC)(k:Nat)(h:k<yA a):(tH a).data.toList=((qB 1 (yA a:Nat)).data.toList++(gD (a.take k)).data.toList)++(gD (a[k]:: a.drop (k+1))).data.toList:=by
 have e:gD a=gD (a.take k)++gD (a[k]:: a.drop (k+1)):=by
  rw[<-mM,<-Cb h,Za]
 rw[tH,e];simp
def sr(a:List bC)(k:Nat):((qB 1 (yA a:Nat)).data.toList++(gD (a.take k)).data.toList).length=1+(gD (a.take k)).size:=by
 rw[Kb,<-jR,<-jR,kB]
def zi{a:List bC}(b:dO a=dA)(k:Nat)(h:k<yA a):xN (tH a) (1+(gD (a.take k)).size) 1=bA (a[k].N,1+(gD (a.take k)).size+1+a[k].N.size):=by
 have c:=pZ b k h;refine ZG (post:=(qB 2 (a[k].V.size:Nat)).data.toList++(a[k].V.data.toList++(gD (a.drop (k+1))).data.toList)) ?_ (sr a k) (by omega);rw[UZ a k h,WD]
def pf{a:List bC}(b:dO a=dA)(k:Nat)(h:k<yA a):xN (tH a) (1+(gD (a.take k)).size+1+a[k].N.size) 2=bA (a[k].V,1+(gD (a.take k)).size+1+a[k].N.size+2+a[k].V.size):=by
 have c:=pZ b k h;refine ZG (pre:=((qB 1 (yA a:Nat)).data.toList++(gD (a.take k)).data.toList)++((qB 1 (a[k].N.size:Nat)).data.toList++a[k].N.data.toList)) (post:=(gD (a.drop (k+1))).data.toList) ?_ ?_ (by omega);rw[UZ a k h,WD];simp only[Nd];rw[Kb,sr,Kb,<-jR,<-jR,kB];omega
def WE(a:List bC)(k:Nat)(h:k<yA a):(gD (a.take (k+1))).size=(gD (a.take k)).size+1+a[k].N.size+2+a[k].V.size:=by grind [gD,eT,lF,bF]
def aAh(a:List bC)(k:Nat):(gD (a.take k)).size<=(gD a).size:=by
 have e:gD a=gD (a.take k)++gD (a.drop k):=by rw[<-mM,Za]
 rw[e,Ka];omega
def fp(a:List bC):(tH a).size=1+(gD a).size:=by rw[tH,Ka,kB]
def ZI(key:nB):yV key [] 1:=λa _ _=>⟨Oa _,by simp,rfl⟩
def KL{key:nB}{a:List bC}{p:Nat}(h:yV key a (p:Nat))(m:p<key.size):∀b,dO b=dA->tH b=key->∃f:yA a<yA b,xN key p 1=bA (b[yA a].N,p+1+b[yA a].N.size)/\xN key (p+1+b[yA a].N.size) 2=bA (b[yA a].V,p+1+b[yA a].N.size+2+b[yA a].V.size):=by
 intro b i f;obtain⟨k,g,l⟩:=h b i f;have d:p=1+(gD a).size:=by omega
 have c:yA a<yA b:=by
  rcases Gc (yA a) (yA b) with c|j;exact c;exfalso;have e:a=b:=by rw[g];exact Ra (by omega)
  have:=fp b;rw[f]at this;rw[e]at d;omega
 refine⟨c,?_,?_⟩;have:=zi i (yA a) c;rw[<-g,f,<-d]at this;exact this;have:=pf i (yA a) c;rw[<-g,f,<-d]at this;exact this
def ip{key:nB}{a:List bC}{p:Nat}(h:yV key a (p:Nat))(s:p<key.size){l n:nB}{q m:Nat}(o:xN key p 1=bA (l,q))(r:xN key q 2=bA (n,m)):yV key (a++[⟨l,n⟩]) (m:Nat):=by
 intro b g i;obtain⟨c,d,e⟩:=KL h s b g i;obtain⟨t,f,u⟩:=h b g i;rw[o]at d;simp only[Qa,Dc]at d;obtain⟨rfl,rfl⟩:=d;rw[r]at e;simp only[Qa,Dc]at e;obtain⟨rfl,rfl⟩:=e;have j:(a++[(⟨b[yA a].N,b[yA a].V⟩:bC)]).length=yA a+1:=by simp
 have k:a++[(⟨b[yA a].N,b[yA a].V⟩:bC)]=b.take (yA a+1):=by
  rw[Pa c,<-f]
 refine⟨by rw[j];omega,by rw[j];exact k,?_⟩;rw[k,WE b (yA a) c,<-f];congr 1;omega
def KM{key:nB}{c:List bC}{p:Nat}(h:yV key c (p:Nat))(n:p<key.size)(d:xN key p 1=aA\/∃i q,xN key p 1=bA (i,q)/\xN key q 2=aA)(a:List bC)(j:Int):yV key a j:=by
 intro o k l;exfalso;obtain⟨m,b,g⟩:=KL h n o k l;obtain d|⟨i,q,e,f⟩:=d;rw[d]at b;exact absurd b (by simp);rw[e]at b;simp only[Qa,Dc]at b;obtain⟨rfl,rfl⟩:=b;rw[f]at g;exact absurd g (by simp)
def pk{key:nB}{b:List bC}{a:Int}(h:yV key b a)(p:a<=0\/(key.size:Int)<=a\/16<yA b):
 (nG key=(b,dA)/\rI b=key/\0<key.size)\/(nG key=([],cA)/\(key.size=0\/rI b≠key)):=by
 cases hd:(nG key).2 with
 |true=>
  obtain⟨d,c⟩:=XS hd;obtain⟨k,f,o⟩:=h _ d c;have l:=MU d;have g:=fp (nG key).1;rw[c]at g;have e:b=(nG key).1:=by
   rcases Gc (yA b) (yA (nG key).1) with i|m;exfalso;have n:=WE (nG key).1 (yA b) i;have q:=aAh (nG key).1 (yA b+1);rw[<-f]at n;omega;rw[f];exact Ra (by omega)
  left;refine⟨?_,?_,by omega⟩
  .rw[e];cases hdk:nG key with
   |mk x y=>rw[hdk]at hd;simp only at hd |-;rw[hd]
  rw[e,rI,Ma d,c]
 |false=>
  obtain⟨k,f⟩:=LV hd;right;refine⟨k,?_⟩;by_cases j:key.size=0
  .exact Ca j
  right;intro c;unfold rI at c;split at c
  .rename_i d;exact f b d c
  rw[<-c]at j;exact j rfl
def aBn{a:List bC}(h:MJ a){l:bC}(b:l.N.size<=1000000000/\l.V.size<=1000000000):MJ (a++[l]):=by grind [MJ]
def KU(key:nB)(w:eA)(L:key.size<=1000000000):
 gA prog 177 #[oA key] w λe y=>∃a Q,e=uA (xA #[.slice a (yA (nG key).1) Q,qA (nG key).2])/\tD y w.1.size a (nG key).1/\tB w y:=by
 go_enter func177,ntmps177;go_wp2;go_loopw [4,5,6,7,8,9] (λC P _ _ _ _ wr=>∃(b:List bC)(p:Int)(g z:Nat),P=zA p/\C=pA (pB g) (yA b) z/\-1<=p/\p<=1000000000/\yA b<=17/\bB (MJ b/\yV key b p)/\bB (wr.ownsRow w.1.size 181 2 (pA (pB g) (yA b) z) (yA b) (nC b))/\tB w wr) (λC _ _ _ _ _ _=>18-lenOf C)
 case atStart=>
  exact⟨[],1,_,_,rfl,rfl,by omega,by omega,by simp,⟨λi h=>absurd h (by simp),ZI key⟩,eA.ownsRow_made w #[] 0 (Ia _) (by simp[maxLen]) (by simp),yB⟩
 case round=>
  obtain⟨b,s,g,z,rfl,rfl,h,h,h,F,f,c⟩:=hrel;have M:=c.size;by_cases J:0<s/\s<(key.size:Int)/\yA b<=16
  .obtain ⟨hg1,hg2,hg3⟩:=J;obtain⟨p,rfl⟩:∃p:Nat,s=(p:Int):=⟨s.toNat,by omega⟩
   have B:p<key.size:=by omega
   have Y:((yA b:Nat):Int)<=16:=by omega
   obtain⟨d,l,q,t,Z,D,H,h,h,h⟩:∃d l,∃q t:Int,(bB (∀W,hI 103 #[oA key,zA (p:Nat),zA 1] W (xA #[oA d,zA q])))/\(bB (∀W,hI 103 #[oA key,zA q,zA 2] W (xA #[oA l,zA t])))/\yV key (b++[⟨d,l⟩]) t/\-1<=t/\t<=1000000000/\d.size<=1000000000/\l.size<=1000000000:=by
    have m:ByteArray.empty.size=0:=rfl;cases hn1:xN key p 1 with
    |none=>exact⟨_,_,_,_,λW=>BI key p 1 W L (by omega) (by omega) hn1,λW=>ZU key 2 W,KM F.o.2 B (Ca hn1) _ _,by omega,by omega,by omega,by omega⟩
    |some m=>
     obtain⟨d,q⟩:=m;obtain⟨m,m,m⟩:=sn hn1;cases hn2:xN key q 2 with
     |none=>exact⟨d,_,(q:Nat),_,λW=>kQ key p 1 d q W L (by omega) hn1,λW=>BI key q 2 W L (by omega) (by omega) hn2,KM F.o.2 B (La ⟨d,q,hn1,hn2⟩) _ _,by omega,by omega,by omega,by omega⟩
     |some U=>
      obtain⟨l,t⟩:=U;obtain⟨m,m,m⟩:=sn hn2;exact⟨d,l,(q:Nat),(t:Nat),λW=>kQ key p 1 d q W L (by omega) hn1,λW=>kQ key q 2 l t W L (by omega) hn2,ip F.o.2 B hn1 hn2,by omega,by omega,by omega,by omega⟩
   have O:=cB H;have K:yA (b++[(⟨d,l⟩:bC)])=yA b+1:=by simp
   clear H;go_wp2_with fail;refine oD (Z.o _) ?_;go_wp2_with fail;refine oD (D.o _) ?_;go_wp2_with(at_builtin;refine dQ rfl _ _ rfl underlying104 nS rfl (by omega) (by omega) rfl f.o rfl rfl (cs:=#[oA d,oA l]) rfl (by simp[iA.oneCell']) (by omega) M ?_;intro m G o o I);have n:=o.o;rw[show nC b++(#[iA.string d,oA l]).toList=nC (b++[⟨d,l⟩]) by rw[jF];rfl,<-K]at n;exact⟨⟨b++[(⟨d,l⟩:bC)],t,m,G,rfl,by rw[K],by omega,by omega,by omega,⟨aBn F.o.1 h,O.o⟩,n,c.trans (I.o.below M λi h e=>by omega)⟩,by simp only[lenOf];omega⟩
  have I:=pk F.o.2 (by omega);obtain⟨S,_,_,_⟩:=tK f.o;have X:bB (tD wr w.1.size (pB g) b):=xJ f.o;have V:bB (vE 116 #[pA (pB g) (yA b) z] wr (oA (rI b))):=KW _ z b wr X.o.B F.o.1 (by omega) S;have r:bB (key.toList.isEmpty=decide (key.size=0)):=by
   show _=_;rw[ByteArray.toList_eq,jR];cases key.data.toList<;>simp
  have R:(nG key=(b,dA)/\key.toList.isEmpty=cA/\((rI b).toList==key.toList)=dA)\/(nG key=([],cA)/\key.toList.isEmpty=dA)\/(nG key=([],cA)/\key.toList.isEmpty=cA/\((rI b).toList==key.toList)=cA):=by
   obtain⟨j,o,H⟩|⟨j,o⟩:=I
   .left;refine⟨j,?_,?_⟩
    .rw[r.o];exact Ub (by omega)
    rw[o];simp
   by_cases T:key.size=0
   .right;left;exact⟨j,by rw[r.o];exact Ac T⟩
   right;right;refine⟨j,by rw[r.o];exact Ub T,?_⟩;rw[<-Bool.not_eq_true];intro h;obtain o|o:=o;exact T o;exact o (toList_inj (by simpa using h))
  have A:s<=0\/(0<s/\(key.size:Int)<=s)\/(0<s/\s<(key.size:Int)/\(16:Int)<(yA b:Nat)):=by omega
  clear I f J r;generalize rI b=h at *;obtain⟨j,o,H⟩|⟨j,o⟩|⟨j,o,H⟩:=R
  .have E:bB _:=j;clear j;obtain u|⟨u,m⟩|⟨u,m,x⟩:=A
   all_goals
    go_wp2_with fail;apply hC V.o;intro N k;have D:bB (tD N w.1.size (pB g) b/\tB w N):=⟨X.o.z k,vB c k⟩
    clear k;go_wp2;refine bodyPost_ret (v:=xA #[pA (pB g) (yA b) z,qA dA]) (by simp[results,results177,go_sem]) rfl ⟨pB g,z,?_,?_,D.o.2⟩
    .rw[E.o]
    rw[E.o];exact D.o.1
  .have E:bB _:=j;clear j;obtain u|⟨u,m⟩|⟨u,m,x⟩:=A
   all_goals
    go_wp2;refine bodyPost_ret (v:=xA #[pA (pB wr.1.size) 0 0,qA cA]) (by simp[results,results177,go_sem]) rfl ?_;first
     |exact⟨bA ⟨wr.1.size,0,aA⟩,0,by rw[E.o];rfl,by rw[E.o];exact Ca rfl,vB c yB⟩
     |exact⟨bA ⟨wr.1.size,0,aA⟩,⟨0,by rw[E.o];rfl⟩,by rw[E.o];exact Ca rfl,vB c yB⟩
     |exact⟨⟨bA ⟨wr.1.size,0,aA⟩,⟨0,by rw[E.o];rfl⟩,by rw[E.o];exact Ca rfl⟩,vB c yB⟩
     |exact⟨⟨bA ⟨wr.1.size,0,aA⟩,0,by rw[E.o];rfl,by rw[E.o];exact Ca rfl⟩,vB c yB⟩
  have E:bB _:=j;clear j;obtain u|⟨u,m⟩|⟨u,m,x⟩:=A
  all_goals
   go_wp2_with fail;apply hC V.o;intro N k;have D:bB _:=vB c k;clear k;go_wp2;refine bodyPost_ret (v:=xA #[pA (pB N.1.size) 0 0,qA cA]) (by simp[results,results177,go_sem]) rfl ⟨pB N.1.size,0,?_,?_,vB D.o yB⟩
   .rw[E.o];rfl
   rw[E.o];exact Ca rfl
def NH(key:nB):yA (nG key).1<=16:=by grind [nG,MU,XS,LV]
def rY(key:nB)(w:eA)(q:key.size<=1000000000)(k:bH w):
 vE 210 #[oA key] w (oA (eL (nG key).1)):=by
 have r:=NH key;have i:bB (gA prog 260 #[oA key] w λe c=>∃a b,e=uA (xA #[.slice a (yA (nG key).1) b,qA (nG key).2])/\tD c w.1.size a (nG key).1/\tB w c):=ed key w q k;clear k;generalize (nG key).1=L at *;generalize (nG key).2=p at *;generalize j:eL L=M;have n:bB _:=j;clear j;go_enter func210,ntmps210;go_wp2_with fail;refine i.o.mono ?_;rintro e h ⟨a,b,rfl,g,d⟩;have o:bB (vE 261 #[pA a (yA L) b] h (oA M)):=by
  have:=FC a b L h g.B (by omega);rw[n.o]at this;exact this
 have l:bB _:=d;clear g d i;go_wp2_with fail;apply hC o.o;intro s f;have m:bB _:=vB l.o f;clear f;go_wp2;go_ret;exact⟨rfl,m.o⟩
def jZ(key:nB)(w:eA)(z:key.size<=1000000000):
 vE 175 #[oA key] w (oA (eL (nG key).1)):=by
 have G:=NH key;have u:bB (gA prog 177 #[oA key] w λe n=>∃a g,e=uA (xA #[.slice a (yA (nG key).1) g,qA (nG key).2])/\tD n w.1.size a (nG key).1/\tB w n):=KU key w z;generalize (nG key).1=c at *;generalize (nG key).2=p at *;go_enter func175,ntmps175;go_wp2_with fail;refine u.o.mono ?_;rintro e s ⟨a,g,rfl,j,h⟩;have y:bB (nD s a c):=j.B;have t:bB _:=h;clear j h u;go_wp2;go_loopw [6,14] (λ_ i wr=>∃k:Nat,k<=yA c/\i=zA k/\bB (eL c=eL (c.drop k))/\tB s wr) (λ_ i _=>yA c-(intOf i).toNat)
 case atStart=>exact⟨0,Oa _,rfl,rfl,bD⟩
 case round=>
  obtain⟨k,F,rfl,q,d⟩:=hrel;by_cases l:k<yA c
  .obtain ⟨b,o,rfl,D,B,C⟩:=(y.o.z d).at l;have m:=VE c k l;have v:bB (iP c[k]=(c[k].N.toList==[95,95,110,97,109,101,95,95])):=by show _=_;rw[iP,PT]
   generalize c[k].N=x at *;by_cases f:iP c[k]=dA
   .have r:(x.toList==[95,95,110,97,109,101,95,95])=dA:=by rw[<-v.o];exact f
    have E:bB (eL c=c[k].V):=by show _=_;rw[q.o,m,Ma f]
    clear m f;generalize c[k].V=A at *;go_wp2;go_ret;exact⟨by rw[E.o];rfl,vB t.o (vB d yB)⟩
   have r:(x.toList==[95,95,110,97,109,101,95,95])=cA:=by rw[<-v.o];simpa using f
   have E:bB (eL c=eL (c.drop (k+1))):=by show _=_;rw[q.o,m,Ja f]
   clear m f;generalize c[k].V=A at *;go_wp2;exact⟨⟨k+1,by omega,by go_num,E.o,vB d yB⟩,by simp[intOf];omega⟩
  have E:bB (eL c=kA):=by
   show _=_;rw[q.o,Yb (by omega)];rfl
  go_wp2;go_ret;exact⟨by rw[E.o];rfl,vB t.o d⟩
theorem aLv(c:UInt8):okM [45] c=okT c:=by
 have e:decide (0<=Lib.indexByte [45] c)=(c==45):=by
  by_cases h:c=45
  .subst h;rfl
  have a:((45:UInt8)==c)=cA:=by simpa using λe=>h e.symm
  have b:(c==45)=cA:=by simpa using h
  simp[Lib.indexByte,a,b]
 rw[okM,okT,e]
def ko(s:nB):wS s 32 ⟨#[45]⟩=oC s:=by grind [wS,oC,aLv]
def qJ(s:nB)(w:eA)(b:s.size<=maxLen):hI 28 #[oA s] w (qA (oC s)):=by
 have H:bB _:=λW=>ko s ▸ KB s 32 ⟨#[45]⟩ W b;generalize oC s=R at *;go_enter func28,ntmps28;go_wp2_with fail;apply cO (H.o _);go_wp2;go_ret;exact⟨rfl,rfl⟩
def aId(c:UInt8):okT c=decide ((97<=(c.toNat:Int)/\(c.toNat:Int)<=122)\/(48<=(c.toNat:Int)/\(c.toNat:Int)<=57)\/(c.toNat:Int)=45):=by
 have a:(c==45)=decide (c.toNat=45):=by rw[Qb];simp[<-UInt8.toNat_inj]
 rw[Qb];simp[okT,a,Df];omega
def iG(s:nB)(w:eA)(n:s.size<=maxLen):
 hI 52 #[oA s] w (qA (oC s)):=by
 unfold maxLen at n;by_cases c:1<=s.size/\s.size<=32
 .have m:zB (s.size:Int) 1 32=dA:=by unfold zB;simp;omega
  have g:bB (oC s=s.data.toList.all okT):=by show _=_;simp[oC,c.1,c.2]
  have p:=c.1;have q:=c.2;clear c;go_enter func52,ntmps52;go_wp2_with(go_at_call 90;apply hC (qD _ _ _ _);rintro j rfl);go_loop [3,4] (λi _=>∃k:Nat,k<=s.size/\i=zA k/\(s.data.toList.take k).all okT=dA) (λi _=>s.size-(intOf i).toNat)
  case atStart=>exact⟨0,Oa _,rfl,by simp⟩
  case round=>
   obtain⟨k,o,rfl,d⟩:=hrel;have b:bB _:=d;clear d m;by_cases h:k<s.size
   .have a:=AO (f:=okT) h;rw[b.o,Oc,aId]at a;have l:bB _:=a;clear a;go_wp2;all_goals first
     |(go_ret
       refine⟨oB ?_,rfl⟩;rw[g.o];refine(rb (k:=k+1) ?_).symm;rw[l.o,Xe];simp at *;omega)
     |(refine⟨⟨k+1,by omega,by go_num,?_⟩,by simp[intOf];omega⟩
       rw[l.o,Af];simp at *;omega)
   go_wp2;go_ret;exact⟨oB (by rw[g.o,<-b.o,Ra (by simp;omega)]),rfl⟩
 have m:zB (s.size:Int) 1 32=cA:=by unfold zB;simp;omega
 have g:bB (oC s=cA):=by show _=_;simp[oC];omega
 go_enter func52,ntmps52;go_wp2_with(go_at_call 90;apply hC (qD _ _ _ _);rintro j rfl);go_ret;exact⟨oB g.o.symm,rfl⟩
def iV(s:nB)(w:eA)(h:s.size<=1000000000)(d:bH w):vE 209 #[oA s] w (qA (xE s)):=by
 have H:bB (vE 259 #[oA s] w (zA (cP s:Nat))):=KA s w h d;have c:bB (xE s=(!s.toList.isEmpty&&decide (cP s=0))):=rfl;clear d;generalize cP s=v at *;by_cases a:s.toList.isEmpty=dA
 .go_enter func209,ntmps209;go_wp2;go_ret;exact⟨oB (by rw[c.o,a];rfl),bD⟩
 have f:s.toList.isEmpty=cA:=by simpa using a
 clear a;go_enter func209,ntmps209;go_wp2_with fail;apply hC H.o;intro i g;go_wp2;go_ret;exact⟨oB (by rw[c.o,f];rw[Qb];simp),g⟩
def eM(s:nB)(w:eA)(g:s.size<=1000000000):vE 112 #[oA s] w (qA (xE s)):=by
 have H:bB (vE 176 #[oA s] w (zA (cP s:Nat))):=KY s w g;have c:bB (xE s=(!s.toList.isEmpty&&decide (cP s=0))):=rfl;generalize cP s=v at *;by_cases a:s.toList.isEmpty=dA
 .go_enter func112,ntmps112;go_wp2;go_ret;exact⟨oB (by rw[c.o,a];rfl),bD⟩
 have d:s.toList.isEmpty=cA:=by simpa using a
 clear a;go_enter func112,ntmps112;go_wp2_with fail;apply hC H.o;intro h f;go_wp2;go_ret;exact⟨oB (by rw[c.o,d];rw[Qb];simp),f⟩
def aHu{key:nB}(h:(nG key).2=cA):(eL (nG key).1).toList.isEmpty=dA:=by rw[(LV h).1];simp[eL]
def IF(s:nB)(w:eA)(i:s.size<=1000000000):vE 113 #[oA s] w (qA (kK s)):=by
 have d:bB (gA prog 177 #[oA s] w λe f=>∃a c,e=uA (xA #[.slice a (yA (nG s).1) c,qA (nG s).2])/\tD f w.1.size a (nG s).1/\tB w f):=KU s w i;have k:bB _:=λW=>jZ s W i;have h:bB (kK s=!(eL (nG s).1).toList.isEmpty):=rfl;cases hd:(nG s).2 with
 |false=>
  have l:=aHu hd;rw[hd]at d;generalize eL (nG s).1=m at *;generalize (nG s).1=L at *;clear hd;go_enter func113,ntmps113;go_wp2_with fail;refine d.o.mono ?_;rintro e n ⟨a,c,rfl,_,b⟩;go_wp2;go_ret;exact⟨oB (by rw[h.o,l];rfl),b⟩
 |true=>
  rw[hd]at d;generalize eL (nG s).1=m at *;generalize (nG s).1=L at *;clear hd;go_enter func113,ntmps113;go_wp2_with fail;refine d.o.mono ?_;rintro e n ⟨a,c,rfl,_,b⟩;have j:bB _:=b;clear b;go_wp2_with fail;apply hC (k.o _);intro o g;go_wp2;go_ret;exact⟨oB (by rw[h.o]),vB j.o g⟩
def CF(t:fB)(c d:jC)(f g:Nat)(w:eA):vE 111 #[.agg #[oA t.N,zA t.L,pA c (yA t.M) f,pA d (yA t.Z) g]] w (qA (yE t)):=by
 have E:bB (yE t=(t.L==-1&&yA t.M==0&&yA t.Z==0)):=rfl;generalize yA t.M=h at *;generalize yA t.Z=j at *;generalize t.L=L at *;by_cases a:L = -1
 .by_cases b:h=0
  .go_enter func111,ntmps111;go_wp2;go_ret;exact⟨oB (by rw[E.o,a,b];rw[Qb];simp),yB⟩
  go_enter func111,ntmps111;go_wp2;go_ret;exact⟨oB (by rw[E.o,a];rw[Qb];simp[b]),yB⟩
 go_enter func111,ntmps111;go_wp2;go_ret;exact⟨oB (by rw[E.o];rw[Qb];simp[a]),yB⟩
def tT(x:Int)(w:eA):hI 143 #[zA x] w (qA (zB x (-1) 1000000)):=by
 by_cases h:x = -1
 .have E:bB (zB x (-1) 1000000=dA):=by show _=_;subst h;rfl
  go_enter func143,ntmps143;go_wp2_with(go_at_call 63;apply hC (gG _ _);rintro a rfl);go_ret;exact⟨oB E.o.symm,rfl⟩
 have E:bB (zB x (-1) 1000000=zB x 0 1000000):=by
  show _=_;unfold zB;congr 1;rw[Qb];simp;omega
 go_enter func143,ntmps143;go_wp2_with(go_at_call 63;apply hC (gG _ _);rintro a rfl);go_ret;exact⟨oB (by rw[E.o,show(x==-1)=cA by simpa using h,Rf]),rfl⟩
section
open Go.Maps Go.ChangeMaps
def qI(n:Int):DataW Unit:=.lit (.int .i64 n)
def fF(g:Nat):DataW Unit:=.lit (.int .i64 (g:Int))
def nE:iA->Option (DataW Unit×List MemPlace)
 |sA (bA ⟨g,0,aA⟩)=>bA (fF g,[])
 |sA aA=>bA (.nil,[])
 |_=>aA
def wW(g:Nat):nE (.pointer (pB g))=bA (fF g,[]):=rfl
def qL:Keyed prog 9:=string_keyed underlying9
def wM{s:nB}(h:s.size<=maxLen):keyOf prog 9 (oA s)=bA (kL s):=WideMaps.keyOf_string_mk underlying9 h
def RF{H:Type}{P:Program}{w:eA}{k:TypeId}{R:iA->Option (DataW H×List MemPlace)}{b n:Nat}{D:DataW H}(h:w.ownsMap P k R b n D):w.ownsMap P k R b (Maps.size D) D:=by
 obtain⟨c,a,d,F,e,rfl⟩:=h;refine⟨c,a,d,F,?_,rfl⟩;rw[size_eq,length_sorted,Xa,Qg];exact Ia _
structure nR(w:World)(S:Nat→Prop)(x:Nat)(t:fB)(M lm sm cm:Nat)(iv:Value)(Q:List (iB×Nat))(hs:List mI)(D:DataW Unit):Prop where
 blk:gB w x #[zA t.L,.map (bA lm),.map (bA sm),.map (bA cm),iv] 192
 lims:w.ownsMap prog 9 (plainElem prog 3) lm (yA t.M) (aE (t.M.map λp=>(p.s,qI p.n)))
 Z:w.ownsMap prog 9 nE sm (yA Q) (aE (Q.map λq=>(q.1.s,fF q.2)))
 cnts:w.ownsMap prog 9 (plainElem prog 3) cm M D
 cnt:∀m:nB,D.atKey (kL m) (qI 0)=qI (oI wD t.Z m)
 q1:Q.map (·.1)=t.Z
 cells:∀q∈Q,gB w q.2 #[oA q.1.s,zA q.1.n] 58
 row:w.ownsRow 0 334 2 iv (yA hs) (jK hs)
 heap:mJ hs
 perm:(hs.map (·.b)).Perm (Q.map (·.2))
 early:∀h∈hs,∀q∈Q,q.2=h.b→h.t≤q.1.n
 rm:sC (·.s) t.M
 rs:sC (·.s) t.Z
 sx:S x
 sl:S lm
 ss:S sm
 sc:S cm
 sq:∀q∈Q,S q.2
 si:∀g,iv.ownBlock=bA g→S g
 d1:lm≠sm
 d2:lm≠cm
 d3:sm≠cm
 nd:(Q.map (·.2)).Nodup
 dx:∀q∈Q,q.2≠x
 di:∀g,iv.ownBlock=bA g→g≠x∧∀q∈Q,q.2≠g
def mD(w:eA)(S:Nat->Prop)(x:Nat)(t:fB)(M:Nat):Prop:=∃d e a c Q b D,nR w S x t M d e a c Q b D
def pt{w:eA}{B:Nat}{e:TypeId}{a:Nat}{v:iA}{n:Nat}{i:List iA}(h:w.ownsRow B e a v n i):∀g,v.ownBlock=bA g->g<w.1.size:=by
 intro g b;obtain⟨rfl,_⟩|⟨j,c,d,rfl,_,f,_⟩:=h.2
 .cases b
 simp only[iA.ownBlock,Qa]at b;subst b;exact aB f
def nR.keep{w w':eA}{S S':Nat->Prop}{x:Nat}{t:fB}{M u v m:Nat}{s:iA}{Q:List (iB×Nat)}{f:List mI}{D:DataW Unit}(h:nR w S x t M u v m s Q f D)
(c:∀g,g<w.1.size->S g->w'.heap[g]?=w.heap[g]?/\S' g):nR w' S' x t M u v m s Q f D:=by
 have p:∀{R:iA->Option (DataW Unit×List MemPlace)}{b n:Nat}{E:DataW Unit},w.ownsMap prog 9 R b n E->S b->w'.ownsMap prog 9 R b n E:=fun{R b n E} h f=>by
  have o:=h.lt;obtain⟨A,d,i,r⟩:=h;exact⟨A,d,(c b o f).1.trans i,r⟩
 have i:∀{g:Nat}{a:Array iA}{y:TypeId},gB w g a y->S g->gB w' g a y:=fun{g a y} h f=>(c g (aB h) f).1.trans h;exact { h with
  blk:=i h.blk h.sx
  lims:=p h.lims h.sl
  Z:=p h.Z h.ss
  cnts:=p h.cnts h.sc
  cells:=λq k=>i (h.cells q k) (h.sq q k)
  row:=by
   refine⟨h.row.1,?_⟩;obtain B|⟨g,l,a,e,C,j,r⟩:=h.row.2;exact Ca B;have:s.ownBlock=bA g:=by rw[e];rfl
   exact La ⟨g,l,a,e,C,i j (h.si g this),r⟩
  sx:=(c x (aB h.blk) h.sx).2
  sl:=(c u h.lims.lt h.sl).2
  ss:=(c v h.Z.lt h.ss).2
  sc:=(c m h.cnts.lt h.sc).2
  sq:=λq k=>(c q.2 (aB (h.cells q k)) (h.sq q k)).2
  si:=λg z=>(c g (pt h.row g z) (h.si g z)).2}
def mD.keep{w w':eA}{S S':Nat->Prop}{x:Nat}{t:fB}{M:Nat}(h:mD w S x t M)(b:∀g,g<w.1.size->S g->w'.heap[g]?=w.heap[g]?/\S' g):mD w' S' x t M:=by
 obtain⟨e,f,a,d,Q,c,D,h⟩:=h;exact⟨e,f,a,d,Q,c,D,h.keep b⟩
def mD.z{w a:eA}{S:Nat->Prop}{x:Nat}{t:fB}{M:Nat}(h:mD w S x t M)(b:tB w a):mD a S x t M:=h.keep λg c d=>⟨b.block g c,d⟩
def mD.lt{w:eA}{S:Nat->Prop}{x:Nat}{t:fB}{M:Nat}(h:mD w S x t M):x<w.1.size:=by
 obtain⟨d,e,a,c,Q,b,D,h⟩:=h;exact aB h.blk
def mD.mono{w:eA}{S:Nat->Prop}{x:Nat}{t:fB}{M a:Nat}(h:mD w S x t M)(c:M<=a):mD w S x t a:=by
 obtain⟨f,g,b,e,Q,d,D,h⟩:=h;exact⟨f,g,b,e,Q,d,D,{ h with cnts:=h.cnts.mono c}⟩
def FE(a:Int)(o:nB)(w:eA):
 gA prog 93 #[zA a] w λe d=>∃x,e=uA (.pointer (pB x))/\w.1.size<=x/\mD d (λg=>w.1.size<=g) x ⟨o,a,[],[]⟩ 0/\tB w d:=by
 have j:=@run_makeMap prog;go_enter func93,ntmps93;go_wp2;go_ret;refine⟨w.1.size+1+1+1,rfl,by omega,⟨w.1.size,w.1.size+1,w.1.size+1+1,pA aA 0 0,[],[],.map [],?_⟩,vB (vB (vB yB yB) yB) yB⟩;have k:∀R:iA->Option (DataW Unit×List MemPlace),(w.alloc (.map #[] 0)).ownsMap prog 9 R w.1.size 0 (.map []):=λR=>eA.ownsMap_made w _ _ R;have l:∀R:iA->Option (DataW Unit×List MemPlace),((w.alloc (.map #[] 0)).alloc (.map #[] 0)).ownsMap prog 9 R (w.1.size+1) 0 (.map []):=λR=>by have:=eA.ownsMap_made (w.alloc (.map #[] 0)) prog 9 R;simpa using this
 have n:∀R:iA->Option (DataW Unit×List MemPlace),(((w.alloc (.map #[] 0)).alloc (.map #[] 0)).alloc (.map #[] 0)).ownsMap prog 9 R (w.1.size+1+1) 0 (.map []):=λR=>by have:=eA.ownsMap_made ((w.alloc (.map #[] 0)).alloc (.map #[] 0)) prog 9 R;simpa using this
 exact {
  blk:=by have:=gB.new (((w.alloc (.map #[] 0)).alloc (.map #[] 0)).alloc (.map #[] 0)) #[zA a,.map (bA w.1.size),.map (bA (w.1.size+1)),.map (bA (w.1.size+1+1)),pA aA 0 0] 192;simpa using this
  lims:=(((k _).alloc _).alloc _).alloc _
  Z:=((l _).alloc _).alloc _
  cnts:=(n _).alloc _
  cnt:=λm=>rfl
  q1:=rfl
  cells:=λq b=>by cases b
  row:=eA.ownsRow_nil _ _ _ _
  heap:=λi _ h=>by simp at h
  perm:=Lf _
  early:=λh f=>by cases f
  rm:=Gd
  rs:=Gd
  sx:=by show w.1.size<=_;omega
  sl:=Ia _
  ss:=by show w.1.size<=_;omega
  sc:=by show w.1.size<=_;omega
  sq:=λq b=>by cases b
  si:=λg c=>by cases c
  d1:=by omega
  d2:=by omega
  d3:=by omega
  nd:=List.nodup_nil
  dx:=λq b=>by cases b
  di:=λg c=>by cases c}
def OO(x:Nat)(t:fB)(S:Nat->Prop)(M:Nat)(w:eA)(h:mD w S x t M):
 hI 146 #[.pointer (pB x)] w (qA (yE t)):=by
 obtain⟨g,j,o,q,Q,p,D,h⟩:=h;have l:tC w x 0 (zA t.L):=h.blk.cell 0;have m:tC w x 1 (.map (bA g)):=h.blk.cell 1;have n:tC w x 2 (.map (bA j)):=h.blk.cell 2;have f:=h.lims.len underlying187 3;have d:=h.Z.len underlying185 3;rw[kM]at f d;have c:yA Q=yA t.Z:=by rw[<-h.q1,Xa]
 rw[c]at d;clear h c;have E:bB (yE t=(t.L==-1&&yA t.M==0&&yA t.Z==0)):=rfl;generalize yA t.M=i at *;generalize yA t.Z=r at *;generalize t.L=L at *;by_cases a:L = -1
 .by_cases b:i=0
  .go_enter func146,ntmps146;go_wp2;go_ret;exact⟨oB (by rw[E.o,a,b];rw[Qb];simp),rfl⟩
  go_enter func146,ntmps146;go_wp2;go_ret;exact⟨oB (by rw[E.o,a];rw[Qb];simp[b]),rfl⟩
 go_enter func146,ntmps146;go_wp2;go_ret;exact⟨oB (by rw[E.o];rw[Qb];simp[a]),rfl⟩
end
theorem qj(w:eA)(B D:Nat)(b:List jB)(c k r s:Int)(H:Bool)(v:iA)(d:pK)(h:bn w B D b c k r s H v d)(I:(iD k r s H).1=0)(X:d.K≠1)(J:1<=d.K/\d.K<=6)(G:fI b d.N (fC d.N b)=dA):AN w B D b c k r s H v d:=by
 unfold AN;have m:=cB h.drive;have HA:=cB h.asc;obtain⟨-,-,o,o,O,W,Y⟩:=h;have E:bB (kJ b c k r s H d=((zO b c d).1,(zO b c d).2,(iD k r s H).2)):=by show _=_;rw[kJ,Ma I]
 have HR:=cB I;obtain⟨N,-⟩:=LX G;have z:=cB (UG (c:=c) X G N);have HQ:=cB G;have h1b:(d.K==1)=cA:=by simpa using X
 have U:bB (d.K=2\/d.K=3\/d.K=4\/d.K=5\/d.K=6):=by show _\/_;omega
 clear I G J;go_enter func125,ntmps125;go_wp2_with fail;apply hC (dW D 153 v (zA c) k r s H _ (m.o.z yB).blk W Y);rintro w1 ⟨n,l⟩;have J:bB _:=(m.o.z yB).charged n l;have W:bB _:=vJ.charge m.o m.o.size n;have G:¬(w.1.size=D):=by have:=aB m.o.blk;omega
 have HO:bB (bl w1 w.1.size d 115):=gB.keeps (S:=λk=>k=D) (g:=w.1.size) (heap_alloc_new w (.cells #[zA d.K,oA d.N,oA d.tq,oA d.data,zA d.size] 115)) (bE.but n) G;obtain⟨Z,u,I,G,L⟩:=HO.o.cells;clear n l;rw[HR.o];simp only[eH];obtain⟨a,cap,rfl,Y⟩:=J.o.files;have p1:=iC.cells u;have p4:=iC.cells J.o.cell4;have hne:=iC.there w1;have m:bB (∀x:iC w1,rB x.w' a b):=λx=>Y.z x.h;have HDx:bB (∀x:iC w1,rC x.w' B D b c (iD k r s H).2.1 r s (iD k r s H).2.2 (pA a (yA b) cap)):=λx=>J.o.z x.h;have HOx:bB (∀x:iC w1,bl x.w' w.1.size d 115):=λx=>gB.z HO.o x.h;have R:yA b<=1048576:=by omega
 clear u I G L Y HO;go_wp2_with fail;refine wB (by kernel_rfl) (by kernel_rfl) ?_;repeat (go_big_quiet_step (first|(go_at_call 124;exact mC (rT _ _ _ _ _ (m.o _) HA.o R))))
 refine wpQuiet_nil ?_;rintro _ ⟨y,rfl⟩;have i:bB _:=HDx.o y;have F:bB (bl y.w' w.1.size d 115):=HOx.o y;have C:bB _:=W.o.on y.h J.o.size;clear Z p1 p4 hne HDx m HOx J W;generalize y.w'=W at *;clear y;rw[HQ.o];clear h1b X;obtain K|K|K|K|K:=U.o
 all_goals
  have HKD:=cB K;clear U
 .have ED:bB (zO b c d=if c<qC b+d.data.size then(3,b) else(0,b.set (fC d.N b) ⟨b[fC d.N b].N,b[fC d.N b].data++d.data,b[fC d.N b].Y⟩)):=by show _=_;rw[z.o];simp[K]
  obtain⟨Z,u,I,G,L⟩:=F.o.cells;clear u I L;go_wp2_with fail;refine(WX B D _ b c _ r s _ _ d.data _ i.o N R o O).mono ?_;rintro e Y ⟨t,o⟩;have m:bB _:=C.o.trans o;clear o Z G;obtain⟨T,rfl,J⟩|⟨O,rfl,J⟩:=t
  .have A:bB (zO b c d=(3,b)):=by show _=_;rw[ED.o,Ma T]
   have p:bB _:=J;clear J T;go_wp2;go_ret;rw[E.o,A.o];exact⟨rfl,m.o.below,λ_=>m.o.other,_,p.o,λ_=>rfl⟩
  have A:bB (zO b c d=(0,b.set (fC d.N b) ⟨b[fC d.N b].N,b[fC d.N b].data++d.data,b[fC d.N b].Y⟩)):=by show _=_;rw[ED.o,Ja (by omega)]
  have p:bB _:=J;clear J O;go_wp2;go_ret;rw[E.o,A.o];exact⟨rfl,m.o.below,λ_=>m.o.other,_,p.o,λ_=>rfl⟩
 .have A:bB (zO b c d=(0,b.set (fC d.N b) ⟨b[fC d.N b].N,b[fC d.N b].data,b[fC d.N b].data.size⟩)):=by show _=_;rw[z.o];simp[K]
  obtain⟨Z,u,I,G,L⟩:=F.o.cells;obtain⟨g,U,V,hgD,P⟩:=i.o.slice (by omega);simp only[iA.slice.injEq]at V;obtain⟨rfl,_,rfl⟩:=V;obtain⟨q,_,l,hnc,hcm,Q,f⟩:=bK i.o.row;have M:=(f _ N).2.1;rw[Ya]at M;have q4:=i.o.cell4;have HS:bB (gA prog 188 #[sA (bA ⟨g,fC d.N b*3,aA⟩)] W λe w'=>e=uA (xA #[])/\w'=W.setCell ⟨g,fC d.N b*3+2,aA⟩ (zA b[fC d.N b].data.size)):=kh g _ q 151 _ W l M (by omega);have p:bB (rC (W.setCell ⟨g,fC d.N b*3+2,aA⟩ (zA b[fC d.N b].data.size)) B D (b.set (fC d.N b) ⟨b[fC d.N b].N,b[fC d.N b].data,b[fC d.N b].data.size⟩) c (iD k r s H).2.1 r s (iD k r s H).2.2 (pA (pB g) (yA b) cap)):=
   i.o.put ((pD.refl _ _).setCell _ _) (l.set _ _) (by simp[Q]) (zy N f _)
  have m:bB (vJ B w (W.setCell ⟨g,fC d.N b*3+2,aA⟩ (zA b[fC d.N b].data.size))):=C.o.set l (Ca rfl) P _;clear l f M u I G L;go_wp2_with fail;apply hC HS.o;rintro Y rfl;go_wp2;go_ret;rw[E.o,A.o];exact⟨rfl,m.o.below,λ_=>m.o.other,_,p.o,λ_=>rfl⟩
 .cases hb:zB d.size 0 b[fC d.N b].data.size
  .have A:bB (zO b c d=(6,b)):=by show _=_;rw[z.o];simp[K,hb]
   obtain⟨Z,u,I,G,L⟩:=F.o.cells;obtain⟨g,U,V,hgD,P⟩:=i.o.slice (by omega);simp only[iA.slice.injEq]at V;obtain⟨rfl,_,rfl⟩:=V;obtain⟨q,_,l,hnc,hcm,Q,f⟩:=bK i.o.row;have M:=(f _ N).2.1;rw[Ya]at M;have q4:=i.o.cell4;have HS:bB _:=λJ h=>aw g _ q 151 _ d.size J h M hb;have O:bB (gB W g q 151):=l;clear l f M u I G hb;go_wp2_with fail;go_region_with (go_at_call 189;apply hC (HS.o _ (O.o.z bD.drew));intro Y o)
   all_goals(
    simp only[eH]
    go_wp2
    go_ret
    rw[E.o,A.o];have hR:vJ B w _:=(C.o.on bD.drew i.o.size).on o i.o.size;exact⟨rfl,hR.below,λ_=>hR.other,_,(i.o.z bD.drew).z o,λ_=>rfl⟩)
  have A:bB (zO b c d=(0,b.set (fC d.N b) ⟨b[fC d.N b].N,b[fC d.N b].data.extract 0 d.size.toNat,d.size⟩)):=by show _=_;rw[z.o];simp[K,hb]
  have hdl:b[fC d.N b].data.size<=1000000000:=by
   have X:=gI b _ N;have h2:=pH b (fC d.N b+1);omega
  obtain⟨Z,u,I,G,L⟩:=F.o.cells;obtain⟨g,U,V,hgD,P⟩:=i.o.slice (by omega);simp only[iA.slice.injEq]at V;obtain⟨rfl,_,rfl⟩:=V;obtain⟨q,_,l,hnc,hcm,Q,f⟩:=bK i.o.row;have M:=(f _ N).2.1;rw[Ya]at M;have q4:=i.o.cell4;have HS:bB (∀J,gB J g q 151->gA prog 189 #[sA (bA ⟨g,fC d.N b*3,aA⟩),zA d.size] J λe w'=>e=uA (eH 0)/\pD g J w'/\
   gB w' g ((q.setIfInBounds (fC d.N b*3+1) (oA (b[fC d.N b].data.extract 0 d.size.toNat))).setIfInBounds (fC d.N b*3+2) (zA d.size)) 151):=λJ h=>kq g _ q 151 _ d.size J h M (by omega) hb hdl
  have O:bB (gB W g q 151):=l;have J:bB _:=f;clear l f M u I G hb hdl;go_wp2_with fail;go_region_with (go_at_call 189;apply hC (HS.o _ (O.o.z bD.drew));rintro Y ⟨n,o⟩)
  all_goals(
   simp only[eH]
   go_wp2
   go_ret
   rw[E.o,A.o];have hR:vJ B w _:=(C.o.on bD.drew i.o.size).but n (O.o.z bD.drew) (Ca rfl) P i.o.size;exact⟨rfl,hR.below,λ_=>hR.other,_,(i.o.z bD.drew).put n o (by simp[Q]) (aEz N J.o _ _),λ_=>rfl⟩)
 .have A:bB (zO b c d=(0,vH (b.eraseIdx (fC d.N b)) ⟨d.tq,b[fC d.N b].data,b[fC d.N b].Y⟩)):=by show _=_;rw[z.o];simp[K]
  obtain⟨Z,u,I,G,L⟩:=F.o.cells;clear u G L;go_wp2_with fail;apply hC (pq B D _ b c _ r s _ _ d.tq _ i.o N (HA.o.erase _) R);rintro Y ⟨j,v3,O,o,t⟩;obtain rfl:=O.uniq (lK d.tq (HA.o.erase _));have m:bB _:=C.o.trans o;have p:bB (rC Y B D (vH (b.eraseIdx (fC d.N b)) ⟨d.tq,b[fC d.N b].data,b[fC d.N b].Y⟩) c (iD k r s H).2.1 r s (iD k r s H).2.2 v3):=by
   obtain⟨X,h2⟩|⟨X,h2⟩:=t;obtain ⟨T,J⟩:=LX X;show rC _ _ _ _ _ _ _ _ _ _;rw[RH (HA.o.erase _) T J];exact h2;show rC _ _ _ _ _ _ _ _ _ _;rw[RG (HA.o.erase _) X];exact h2
  clear t o O;go_wp2;go_ret;rw[E.o,A.o];exact⟨rfl,m.o.below,λ_=>m.o.other,v3,p.o,λh=>(by have:=HKD.o;omega)⟩
 have A:bB (zO b c d=(0,b.eraseIdx (fC d.N b))):=by show _=_;rw[z.o];simp[K]
 obtain⟨Z,u,I,G,L⟩:=F.o.cells;clear u I G L;go_wp2_with fail;apply hC (QE B D _ b c _ r s _ _ _ i.o N R);rintro Y ⟨v3,t,_,o⟩;have p:bB _:=t;have m:bB _:=C.o.trans (vJ.removed i.o o);clear t o;go_wp2;go_ret;rw[E.o,A.o];exact⟨rfl,m.o.below,λ_=>m.o.other,v3,p.o,λh=>(by have:=HKD.o;omega)⟩
def jy(w:eA)(B D:Nat)(f:List jB)(c k b e:Int)(d:Bool)(v:iA)(a:pK)(h:bn w B D f c k b e d v a)(g:zB a.K 1 6=dA):AN w B D f c k b e d v a:=by grind [zB,AN,iD,fI,fC,jz,ZZ,qj,aa]
