import Derived.Test.YtcmdjimlmnaojaaGreatDoorJ13
import Derived.Test.YtcmdjimlmnaojaaGreatDoorJ15
set_option maxRecDepth 100000
set_option maxHeartbeats 4000000
set_option linter.defProp false
open Bool renaming false->dA,true->eA
open Option renaming none->aA,some->cA
open ByteArray renaming empty->lA
open List renaming length->zA
namespace Go.Proofs.YtcmdjimlmnaojaaGreatDoor
open Go renaming World->fA,Calls->iA,Value->jA
open Value renaming slice->qA,bool->sA,string->pA,tuple->yA,pointer->tA
open Ending renaming returned->vA
open Go.RowKit Tryz
def oe(a C:nC)(D n:Nat)(c d:List cC)(w:fA)(N:qD w a c)(t:qD w C d)(e:zA c<=2000000):
 cF 173 #[qA a (zA c) D,qA C (zA d) n] w (sA (vH c d)):=by
 have R:cB (qD w a c):=N;have z:cB (qD w C d):=t;clear N t;by_cases F:zA c=zA d
 .have G:((zA c:Int) != (zA d:Int))=dA:=by simp[F]
  have H:zA d<=zA c/\zA c<=zA d:=by omega
  obtain⟨P,Q⟩:=H;clear F;go_enter func173,ntmps173;go_wp2;go_loopw [5,13] (λ_ i wr=>∃k:Nat,k<=zA c/\i=aB k/\cB (vH c d=vH (c.drop k) (d.drop k))/\xB w wr) (λ_ i _=>zA c-(intOf i).toNat)
  case atStart=>exact⟨0,Oa _,rfl,rfl,gD⟩
  case round=>
   obtain⟨k,e,rfl,A,f⟩:=hrel;by_cases u:k<zA c
   .have g:k<zA d:=by omega
    obtain⟨b,o,rfl,e,J,K⟩:=(R.o.z f).at u;obtain⟨b',e,rfl,T,l,m⟩:=(z.o.z f).at g;have y:=jg c d k u g;have j:∀W,Sem.run prog (binOp .neq 175 (.agg #[pA c[k].N,pA c[k].V]) (.agg #[pA d[k].N,pA d[k].V])) W=.ok (sA (!nU c[k] d[k])) W:=λW=>aLm.1 c[k] d[k] W;have O:∀(I:BinOp)(p q:Operand)(W:fA),Sem.run prog (eqGuard I 175 p q (.agg #[pA c[k].N,pA c[k].V]) (.agg #[pA d[k].N,pA d[k].V])) W=.ok () W:=λI p q W=>aLm.2 I p q c[k] d[k] W;have L:=kC.cells J;have M:=kC.cells K;have r:=kC.cells l;have s:=kC.cells m;clear J K l m;have v:=kC.there wr;cases he:nU c[k] d[k]with
    |true=>
     have E:cB (vH c d=vH (c.drop (k+1)) (d.drop (k+1))):=by show _=_;rw[A.o,y,he,Oc]
     rw[he]at j;clear y he;generalize c[k].N=U at *;generalize c[k].V=X at *;generalize d[k].N=V at *;generalize d[k].V=Y at *;go_wp2_with fail;refine zB (by kernel_rfl) (by kernel_rfl) ?_;repeat (go_big_quiet_step (fail))
     refine wpQuiet_nil ?_;rintro _ ⟨x,rfl⟩;have B:cB _:=aC f x.h;clear L M r s v;generalize x.w'=S at *;clear x;go_wp2;exact⟨⟨k+1,by omega,by go_num,E.o,B.o⟩,by simp[intOf];omega⟩
    |false=>
     have E:cB (vH c d=dA):=by show _=_;rw[A.o,y,he,Be]
     rw[he]at j;clear y he;generalize c[k].N=U at *;generalize c[k].V=X at *;generalize d[k].N=V at *;generalize d[k].V=Y at *;go_wp2_with fail;refine zB (by kernel_rfl) (by kernel_rfl) ?_;repeat (go_big_quiet_step (fail))
     refine wpQuiet_nil ?_;rintro _ ⟨x,rfl⟩;have B:cB _:=aC f x.h;clear L M r s v;generalize x.w'=S at *;clear x;go_wp2;go_ret;exact⟨oB E.o.symm,B.o⟩
   have E:cB (vH c d=eA):=by
    show _=_;rw[A.o,Yb (by omega),Yb (by omega)];rfl
   go_wp2;go_ret;exact⟨oB E.o.symm,f⟩
 have G:((zA c:Int) != (zA d:Int))=eA:=by simp;omega
 have E:cB _:=px F;go_enter func173,ntmps173;go_wp2;go_ret;exact⟨oB E.o.symm,gD⟩
def LG(a:nC)(g:Nat)(c:List cC)(w:fA)(hf:qD w a c)(hB:MU c)(M:zA c<=2000000)(L:zA c<=g):
 cF 108 #[qA a (zA c) g] w (pA (uI c)):=by
 have s:cB (iA prog 106 #[qA a (zA c) g] w λe A=>MV e w A (wB c).1 (wB c).2.1 (wB c).2.2):=SQ a g c w hf hB M L;have S:cB (qD w a c):=hf;have HB:cB (MU c):=hB;have hcl:=NJ c;unfold MV at s;clear hf hB;by_cases J:(wB c).2.1=0
 .have Z:(((wB c).2.1:Int) != 0)=dA:=by simp;omega
  have G:cB (∀W p B,qD W p (wB c).1->qD W a c->cF 173 #[.slice p (zA (wB c).1) B,qA a (zA c) g] W (sA (vH (wB c).1 c))):=λW p B h1 h2=>oe p a B g _ c W h1 h2 (by omega);by_cases N:vH (wB c).1 c=eA
  .have n:jO c=eA:=by unfold jO;rw[J,N];rfl
   have E:cB (uI c=aI c):=by show _=_;rw[uI,Ma n]
   have h16:=NH n;have U:cB (∀W,cF 49 #[.int .i64 1,.int .i64 (zA c:Nat)] W (pA (tB 1 (zA c:Nat)))):=λW=>mD 1 (zA c:Nat) W (by omega) (by omega) (by omega);have hz1:=nB 1 (zA c:Nat);have T:cB (aI c=tB 1 (zA c:Nat)++nD c):=rfl;have t:cB _:=N;clear J N n;generalize (wB c).1=C at *;generalize (wB c).2.1=Y at *;generalize (wB c).2.2=c2 at *;generalize tB 1 (zA c:Nat)=X at *;go_enter func108,ntmps108;go_wp2_with fail;refine s.o.mono ?_;rintro e D ⟨p,B,rfl,f,d⟩;have r:cB _:=d;have u:cB (qD D p C/\qD D a c):=⟨f.B,S.o.z d⟩
   clear f d s;go_wp2_with fail;apply jC (G.o _ _ _ u.o.1 u.o.2);intro w2 l;rw[t.o];have O:cB _:=aC r.o l;clear l u r;go_wp2_with fail;apply jC (U.o _);intro w3 K;have B3:cB _:=aC O.o K;clear K O;go_wp2;go_loopw [6,8,28] (λout _ i wr=>∃(k:Nat)(q:pB),k<=zA c/\i=.int .i64 k/\out=pA q/\q.size<=1+k*3000000000/\cB (q=X++nD (c.take k))/\xB w wr) (λ_ _ i _=>zA c-(intOf i).toNat)
   case atStart=>exact⟨0,X,Oa _,rfl,rfl,by omega,by show _=_;simp[nD],B3.o⟩
   case round=>
    obtain⟨k,q,hk,rfl,rfl,hst,H,m⟩:=hrel;by_cases v:k<zA c
    .obtain ⟨b,o,rfl,hb,c0,Y⟩:=(S.o.z m).at v;obtain⟨hs1,hs2⟩:=HB.o k v;have V:cB _:=λW=>cQ c[k].N W hs1;have F:cB _:=λW=>gO c[k].V W hs2;have hz8:=sF c[k].N;have hz16:=eF c[k].V;have HT:=iT c k v;have R:cB (q++(gN c[k].N++dG c[k].V)=X++nD (c.take (k+1))):=by show _=_;rw[HT,H.o,Wa]
     clear HT;generalize gN c[k].N=I at *;generalize dG c[k].V=j at *;generalize c[k].N=P at *;generalize c[k].V=Q at *;have z:(I++j).size=I.size+j.size:=Ka;have hzst:(q++(I++j)).size=q.size+(I.size+j.size):=by rw[Ka,z]
     have d0:∀x:kC (wr.alloc (.cells #[pA P,pA Q] 175)),x.w'.cell? ⟨wr.1.size,0,aA⟩=cA (pA P):=kC.cells (by simp);have d1:∀x:kC (wr.alloc (.cells #[pA P,pA Q] 175)),x.w'.cell? ⟨wr.1.size,1,aA⟩=cA (pA Q):=kC.cells (by simp);have hne:=kC.there (wr.alloc (.cells #[pA P,pA Q] 175));go_wp2_with fail;refine zB (by kernel_rfl) (by kernel_rfl) ?_;repeat (go_big_quiet_step (first|(go_at_call 87;exact oC (V.o _))|(go_at_call 57;exact oC (F.o _))))
     refine wpQuiet_nil ?_;rintro _ ⟨x,rfl⟩;have HX:cB _:=aC (aC m bC) x.h;clear d0 d1 hne;generalize x.w'=W2 at *;clear x;go_wp2;exact⟨⟨k+1,q++(I++j),by omega,by go_num,rfl,by omega,R.o,HX.o⟩,by simp[intOf];omega⟩
    have R:cB (q=uI c):=by
     show _=_;rw[E.o,T.o,H.o,Ra (by omega)]
    go_wp2;go_ret;exact⟨by rw[<-R.o];rfl,m⟩
  have y:vH (wB c).1 c=dA:=by simpa using N
  have E:cB (uI c=lA):=by
   show _=_;rw[uI,Ja];unfold jO;rw[y,Wg];simp
  have t:cB _:=y;clear J N y;generalize (wB c).1=C at *;generalize (wB c).2.1=Y at *;generalize (wB c).2.2=c2 at *;go_enter func108,ntmps108;go_wp2_with fail;refine s.o.mono ?_;rintro e D ⟨p,B,rfl,f,d⟩;have r:cB _:=d;have u:cB (qD D p C/\qD D a c):=⟨f.B,S.o.z d⟩
  clear f d s;go_wp2_with fail;apply jC (G.o _ _ _ u.o.1 u.o.2);intro w2 l;rw[t.o];have O:cB _:=aC r.o l;clear l u r;go_wp2;go_ret;exact⟨by rw[E.o];rfl,O.o⟩
 have Z:(((wB c).2.1:Int) != 0)=eA:=by simp;omega
 have E:cB (uI c=lA):=by
  show _=_;rw[uI,Ja];unfold jO;rw[Ub J];simp
 clear J;generalize (wB c).1=C at *;generalize (wB c).2.1=Y at *;generalize (wB c).2.2=c2 at *;go_enter func108,ntmps108;go_wp2_with fail;refine s.o.mono ?_;rintro e D ⟨p,B,rfl,f,d⟩;have r:cB _:=d;clear f d s;go_wp2;go_ret;exact⟨by rw[E.o];rfl,r.o⟩
def lenOf:jA->Nat
 |qA _ n _=>n
 |_=>0
def yV(key:pB)(a:List cC)(c:Int):Prop:=∀b,jO b=eA->aI b=key->zA a<=zA b/\a=b.take (zA a)/\c=((1+(nD a).size:Nat):Int)
def WH(l:cC)(r:List cC):(nD (l::r)).data.toList=(tB 1 (l.N.size:Nat)).data.toList++(l.N.data.toList++((tB 2 (l.V.size:Nat)).data.toList++(l.V.data.toList++(nD r).data.toList))):=by
 simp[nD,gN,dG]
def VD(a:List cC)(k:Nat)(h:k<zA a):(aI a).data.toList=((tB 1 (zA a:Nat)).data.toList++(nD (a.take k)).data.toList)++(nD (a[k]:: a.drop (k+1))).data.toList:=by
 have e:nD a=nD (a.take k)++nD (a[k]:: a.drop (k+1)):=by
  rw[<-xM,<-Cb h,Za]
 rw[aI,e];simp
def sy(a:List cC)(k:Nat):((tB 1 (zA a:Nat)).data.toList++(nD (a.take k)).data.toList).length=1+(nD (a.take k)).size:=by
 rw[Kb,<-pR,<-pR,nB]
def zc{a:List cC}(b:jO a=eA)(k:Nat)(h:k<zA a):dO (aI a) (1+(nD (a.take k)).size) 1=cA (a[k].N,1+(nD (a.take k)).size+1+a[k].N.size):=by
 have c:=pZ b k h;refine ZE (post:=(tB 2 (a[k].V.size:Nat)).data.toList++(a[k].V.data.toList++(nD (a.drop (k+1))).data.toList)) ?_ (sy a k) (by omega);rw[VD a k h,WH]
def pf{a:List cC}(b:jO a=eA)(k:Nat)(h:k<zA a):dO (aI a) (1+(nD (a.take k)).size+1+a[k].N.size) 2=cA (a[k].V,1+(nD (a.take k)).size+1+a[k].N.size+2+a[k].V.size):=by
 have c:=pZ b k h;refine ZE (pre:=((tB 1 (zA a:Nat)).data.toList++(nD (a.take k)).data.toList)++((tB 1 (a[k].N.size:Nat)).data.toList++a[k].N.data.toList)) (post:=(nD (a.drop (k+1))).data.toList) ?_ ?_ (by omega);rw[VD a k h,WH];simp only[Nd];rw[Kb,sy,Kb,<-pR,<-pR,nB];omega
def WJ(a:List cC)(k:Nat)(h:k<zA a):(nD (a.take (k+1))).size=(nD (a.take k)).size+1+a[k].N.size+2+a[k].V.size:=by grind [nD,iT,sF,eF]
def aAc(a:List cC)(k:Nat):(nD (a.take k)).size<=(nD a).size:=by
 have e:nD a=nD (a.take k)++nD (a.drop k):=by rw[<-xM,Za]
 rw[e,Ka];omega
def fv(a:List cC):(aI a).size=1+(nD a).size:=by rw[aI,Ka,nB]
def ZG(key:pB):yV key [] 1:=λa _ _=>⟨Oa _,by simp,rfl⟩
def KT{key:pB}{a:List cC}{p:Nat}(h:yV key a (p:Nat))(m:p<key.size):∀b,jO b=eA->aI b=key->∃f:zA a<zA b,dO key p 1=cA (b[zA a].N,p+1+b[zA a].N.size)/\dO key (p+1+b[zA a].N.size) 2=cA (b[zA a].V,p+1+b[zA a].N.size+2+b[zA a].V.size):=by
 intro b i f;obtain⟨k,g,l⟩:=h b i f;have d:p=1+(nD a).size:=by omega
 have c:zA a<zA b:=by
  rcases Gc (zA a) (zA b) with c|j;exact c;exfalso;have e:a=b:=by rw[g];exact Ra (by omega)
  have:=fv b;rw[f]at this;rw[e]at d;omega
 refine⟨c,?_,?_⟩;have:=zc i (zA a) c;rw[<-g,f,<-d]at this;exact this;have:=pf i (zA a) c;rw[<-g,f,<-d]at this;exact this
def iw{key:pB}{a:List cC}{p:Nat}(h:yV key a (p:Nat))(s:p<key.size){l n:pB}{q m:Nat}(o:dO key p 1=cA (l,q))(r:dO key q 2=cA (n,m)):yV key (a++[⟨l,n⟩]) (m:Nat):=by
 intro b g i;obtain⟨c,d,e⟩:=KT h s b g i;obtain⟨t,f,u⟩:=h b g i;rw[o]at d;simp only[Qa,Dc]at d;obtain⟨rfl,rfl⟩:=d;rw[r]at e;simp only[Qa,Dc]at e;obtain⟨rfl,rfl⟩:=e;have j:(a++[(⟨b[zA a].N,b[zA a].V⟩:cC)]).length=zA a+1:=by simp
 have k:a++[(⟨b[zA a].N,b[zA a].V⟩:cC)]=b.take (zA a+1):=by
  rw[Pa c,<-f]
 refine⟨by rw[j];omega,by rw[j];exact k,?_⟩;rw[k,WJ b (zA a) c,<-f];congr 1;omega
def KU{key:pB}{c:List cC}{p:Nat}(h:yV key c (p:Nat))(n:p<key.size)(d:dO key p 1=aA\/∃i q,dO key p 1=cA (i,q)/\dO key q 2=aA)(a:List cC)(j:Int):yV key a j:=by
 intro o k l;exfalso;obtain⟨m,b,g⟩:=KT h n o k l;obtain d|⟨i,q,e,f⟩:=d;rw[d]at b;exact absurd b (by simp);rw[e]at b;simp only[Qa,Dc]at b;obtain⟨rfl,rfl⟩:=b;rw[f]at g;exact absurd g (by simp)
def pk{key:pB}{b:List cC}{a:Int}(h:yV key b a)(p:a<=0\/(key.size:Int)<=a\/16<zA b):
 (wG key=(b,eA)/\uI b=key/\0<key.size)\/(wG key=([],dA)/\(key.size=0\/uI b≠key)):=by
 cases hd:(wG key).2 with
 |true=>
  obtain⟨d,c⟩:=XR hd;obtain⟨k,f,o⟩:=h _ d c;have l:=NH d;have g:=fv (wG key).1;rw[c]at g;have e:b=(wG key).1:=by
   rcases Gc (zA b) (zA (wG key).1) with i|m;exfalso;have n:=WJ (wG key).1 (zA b) i;have q:=aAc (wG key).1 (zA b+1);rw[<-f]at n;omega;rw[f];exact Ra (by omega)
  left;refine⟨?_,?_,by omega⟩
  .rw[e];cases hdk:wG key with
   |mk x y=>rw[hdk]at hd;simp only at hd |-;rw[hd]
  rw[e,uI,Ma d,c]
 |false=>
  obtain⟨k,f⟩:=MG hd;right;refine⟨k,?_⟩;by_cases j:key.size=0
  .exact Ca j
  right;intro c;unfold uI at c;split at c
  .rename_i d;exact f b d c
  rw[<-c]at j;exact j rfl
def aBi{a:List cC}(h:MU a){l:cC}(b:l.N.size<=1000000000/\l.V.size<=1000000000):MU (a++[l]):=by grind [MU]
def LD(key:pB)(w:fA)(L:key.size<=1000000000):
 iA prog 171 #[pA key] w λe y=>∃a Q,e=vA (yA #[.slice a (zA (wG key).1) Q,sA (wG key).2])/\zD y w.1.size a (wG key).1/\xB w y:=by
 go_enter func171,ntmps171;go_wp2;go_loopw [4,5,6,7,8,9] (λC P _ _ _ _ wr=>∃(b:List cC)(p:Int)(g z:Nat),P=aB p/\C=qA (vB g) (zA b) z/\-1<=p/\p<=1000000000/\zA b<=17/\cB (MU b/\yV key b p)/\cB (wr.ownsRow w.1.size 175 2 (qA (vB g) (zA b) z) (zA b) (rC b))/\xB w wr) (λC _ _ _ _ _ _=>18-lenOf C)
 case atStart=>
  exact⟨[],1,_,_,rfl,rfl,by omega,by omega,by simp,⟨λi h=>absurd h (by simp),ZG key⟩,fA.ownsRow_made w #[] 0 (Ia _) (by simp[maxLen]) (by simp),bC⟩
 case round=>
  obtain⟨b,s,g,z,rfl,rfl,h,h,h,F,f,c⟩:=hrel;have M:=c.size;by_cases J:0<s/\s<(key.size:Int)/\zA b<=16
  .obtain ⟨hg1,hg2,hg3⟩:=J;obtain⟨p,rfl⟩:∃p:Nat,s=(p:Int):=⟨s.toNat,by omega⟩
   have B:p<key.size:=by omega
   have Y:((zA b:Nat):Int)<=16:=by omega
   obtain⟨d,l,q,t,Z,D,H,h,h,h⟩:∃d l,∃q t:Int,(cB (∀W,rI 95 #[pA key,aB (p:Nat),aB 1] W (yA #[pA d,aB q])))/\(cB (∀W,rI 95 #[pA key,aB q,aB 2] W (yA #[pA l,aB t])))/\yV key (b++[⟨d,l⟩]) t/\-1<=t/\t<=1000000000/\d.size<=1000000000/\l.size<=1000000000:=by
    have m:ByteArray.empty.size=0:=rfl;cases hn1:dO key p 1 with
    |none=>exact⟨_,_,_,_,λW=>BI key p 1 W L (by omega) (by omega) hn1,λW=>ZS key 2 W,KU F.o.2 B (Ca hn1) _ _,by omega,by omega,by omega,by omega⟩
    |some m=>
     obtain⟨d,q⟩:=m;obtain⟨m,m,m⟩:=su hn1;cases hn2:dO key q 2 with
     |none=>exact⟨d,_,(q:Nat),_,λW=>oQ key p 1 d q W L (by omega) hn1,λW=>BI key q 2 W L (by omega) (by omega) hn2,KU F.o.2 B (La ⟨d,q,hn1,hn2⟩) _ _,by omega,by omega,by omega,by omega⟩
     |some U=>
      obtain⟨l,t⟩:=U;obtain⟨m,m,m⟩:=su hn2;exact⟨d,l,(q:Nat),(t:Nat),λW=>oQ key p 1 d q W L (by omega) hn1,λW=>oQ key q 2 l t W L (by omega) hn2,iw F.o.2 B hn1 hn2,by omega,by omega,by omega,by omega⟩
   have O:=dB H;have K:zA (b++[(⟨d,l⟩:cC)])=zA b+1:=by simp
   clear H;go_wp2_with fail;refine rD (Z.o _) ?_;go_wp2_with fail;refine rD (D.o _) ?_;go_wp2_with(at_builtin;refine iQ rfl _ _ rfl underlying90 qS rfl (by omega) (by omega) rfl f.o rfl rfl (cs:=#[pA d,pA l]) rfl (by simp[jA.oneCell']) (by omega) M ?_;intro m G o o I);have n:=o.o;rw[show rC b++(#[jA.string d,pA l]).toList=rC (b++[⟨d,l⟩]) by rw[qF];rfl,<-K]at n;exact⟨⟨b++[(⟨d,l⟩:cC)],t,m,G,rfl,by rw[K],by omega,by omega,by omega,⟨aBi F.o.1 h,O.o⟩,n,c.trans (I.o.below M λi h e=>by omega)⟩,by simp only[lenOf];omega⟩
  have I:=pk F.o.2 (by omega);obtain⟨S,_,_,_⟩:=vK f.o;have X:cB (zD wr w.1.size (vB g) b):=eK f.o;have V:cB (cF 108 #[qA (vB g) (zA b) z] wr (pA (uI b))):=LG _ z b wr X.o.B F.o.1 (by omega) S;have r:cB (key.toList.isEmpty=decide (key.size=0)):=by
   show _=_;rw[ByteArray.toList_eq,pR];cases key.data.toList<;>simp
  have R:(wG key=(b,eA)/\key.toList.isEmpty=dA/\((uI b).toList==key.toList)=eA)\/(wG key=([],dA)/\key.toList.isEmpty=eA)\/(wG key=([],dA)/\key.toList.isEmpty=dA/\((uI b).toList==key.toList)=dA):=by
   obtain⟨j,o,H⟩|⟨j,o⟩:=I
   .left;refine⟨j,?_,?_⟩
    .rw[r.o];exact Ub (by omega)
    rw[o];simp
   by_cases T:key.size=0
   .right;left;exact⟨j,by rw[r.o];exact Ac T⟩
   right;right;refine⟨j,by rw[r.o];exact Ub T,?_⟩;rw[<-Bool.not_eq_true];intro h;obtain o|o:=o;exact T o;exact o (toList_inj (by simpa using h))
  have A:s<=0\/(0<s/\(key.size:Int)<=s)\/(0<s/\s<(key.size:Int)/\(16:Int)<(zA b:Nat)):=by omega
  clear I f J r;generalize uI b=h at *;obtain⟨j,o,H⟩|⟨j,o⟩|⟨j,o,H⟩:=R
  .have E:cB _:=j;clear j;obtain u|⟨u,m⟩|⟨u,m,x⟩:=A
   all_goals
    go_wp2_with fail;apply jC V.o;intro N k;have D:cB (zD N w.1.size (vB g) b/\xB w N):=⟨X.o.z k,aC c k⟩
    clear k;go_wp2;refine bodyPost_ret (v:=yA #[qA (vB g) (zA b) z,sA eA]) (by simp[results,results171,go_sem]) rfl ⟨vB g,z,?_,?_,D.o.2⟩
    .rw[E.o]
    rw[E.o];exact D.o.1
  .have E:cB _:=j;clear j;obtain u|⟨u,m⟩|⟨u,m,x⟩:=A
   all_goals
    go_wp2;refine bodyPost_ret (v:=yA #[qA (vB wr.1.size) 0 0,sA dA]) (by simp[results,results171,go_sem]) rfl ?_;first
     |exact⟨cA ⟨wr.1.size,0,aA⟩,0,by rw[E.o];rfl,by rw[E.o];exact Ca rfl,aC c bC⟩
     |exact⟨cA ⟨wr.1.size,0,aA⟩,⟨0,by rw[E.o];rfl⟩,by rw[E.o];exact Ca rfl,aC c bC⟩
     |exact⟨⟨cA ⟨wr.1.size,0,aA⟩,⟨0,by rw[E.o];rfl⟩,by rw[E.o];exact Ca rfl⟩,aC c bC⟩
     |exact⟨⟨cA ⟨wr.1.size,0,aA⟩,0,by rw[E.o];rfl,by rw[E.o];exact Ca rfl⟩,aC c bC⟩
  have E:cB _:=j;clear j;obtain u|⟨u,m⟩|⟨u,m,x⟩:=A
  all_goals
   go_wp2_with fail;apply jC V.o;intro N k;have D:cB _:=aC c k;clear k;go_wp2;refine bodyPost_ret (v:=yA #[qA (vB N.1.size) 0 0,sA dA]) (by simp[results,results171,go_sem]) rfl ⟨vB N.1.size,0,?_,?_,aC D.o bC⟩
   .rw[E.o];rfl
   rw[E.o];exact Ca rfl
def NU(key:pB):zA (wG key).1<=16:=by grind [wG,NH,XR,MG]
def tY(key:pB)(w:fA)(q:key.size<=1000000000)(k:kH w):
 cF 205 #[pA key] w (pA (jL (wG key).1)):=by
 have r:=NU key;have i:cB (iA prog 256 #[pA key] w λe c=>∃a b,e=vA (yA #[.slice a (zA (wG key).1) b,sA (wG key).2])/\zD c w.1.size a (wG key).1/\xB w c):=eg key w q k;clear k;generalize (wG key).1=L at *;generalize (wG key).2=p at *;generalize j:jL L=M;have n:cB _:=j;clear j;go_enter func205,ntmps205;go_wp2_with fail;refine i.o.mono ?_;rintro e h ⟨a,b,rfl,g,d⟩;have o:cB (cF 257 #[qA a (zA L) b] h (pA M)):=by
  have:=FH a b L h g.B (by omega);rw[n.o]at this;exact this
 have l:cB _:=d;clear g d i;go_wp2_with fail;apply jC o.o;intro s f;have m:cB _:=aC l.o f;clear f;go_wp2;go_ret;exact⟨rfl,m.o⟩
def lZ(key:pB)(w:fA)(z:key.size<=1000000000):
 cF 169 #[pA key] w (pA (jL (wG key).1)):=by
 have G:=NU key;have u:cB (iA prog 171 #[pA key] w λe n=>∃a g,e=vA (yA #[.slice a (zA (wG key).1) g,sA (wG key).2])/\zD n w.1.size a (wG key).1/\xB w n):=LD key w z;generalize (wG key).1=c at *;generalize (wG key).2=p at *;go_enter func169,ntmps169;go_wp2_with fail;refine u.o.mono ?_;rintro e s ⟨a,g,rfl,j,h⟩;have y:cB (qD s a c):=j.B;have t:cB _:=h;clear j h u;go_wp2;go_loopw [6,14] (λ_ i wr=>∃k:Nat,k<=zA c/\i=aB k/\cB (jL c=jL (c.drop k))/\xB s wr) (λ_ i _=>zA c-(intOf i).toNat)
 case atStart=>exact⟨0,Oa _,rfl,rfl,gD⟩
 case round=>
  obtain⟨k,F,rfl,q,d⟩:=hrel;by_cases l:k<zA c
  .obtain ⟨b,o,rfl,D,B,C⟩:=(y.o.z d).at l;have m:=VI c k l;have v:cB (kP c[k]=(c[k].N.toList==[95,95,110,97,109,101,95,95])):=by show _=_;rw[kP,QC]
   generalize c[k].N=x at *;by_cases f:kP c[k]=eA
   .have r:(x.toList==[95,95,110,97,109,101,95,95])=eA:=by rw[<-v.o];exact f
    have E:cB (jL c=c[k].V):=by show _=_;rw[q.o,m,Ma f]
    clear m f;generalize c[k].V=A at *;go_wp2;go_ret;exact⟨by rw[E.o];rfl,aC t.o (aC d bC)⟩
   have r:(x.toList==[95,95,110,97,109,101,95,95])=dA:=by rw[<-v.o];simpa using f
   have E:cB (jL c=jL (c.drop (k+1))):=by show _=_;rw[q.o,m,Ja f]
   clear m f;generalize c[k].V=A at *;go_wp2;exact⟨⟨k+1,by omega,by go_num,E.o,aC d bC⟩,by simp[intOf];omega⟩
  have E:cB (jL c=lA):=by
   show _=_;rw[q.o,Yb (by omega)];rfl
  go_wp2;go_ret;exact⟨by rw[E.o];rfl,aC t.o d⟩
theorem aLt(c:UInt8):okM [45] c=okT c:=by
 have e:decide (0<=Lib.indexByte [45] c)=(c==45):=by
  by_cases h:c=45
  .subst h;rfl
  have a:((45:UInt8)==c)=dA:=by simpa using λe=>h e.symm
  have b:(c==45)=dA:=by simpa using h
  simp[Lib.indexByte,a,b]
 rw[okM,okT,e]
def kq(s:pB):yS s 32 ⟨#[45]⟩=uC s:=by grind [yS,uC,aLt]
def pM(s:pB)(w:fA)(b:s.size<=maxLen):rI 79 #[pA s] w (sA (uC s)):=by
 have H:cB _:=λW=>kq s ▸ KH s 32 ⟨#[45]⟩ W b;generalize uC s=R at *;go_enter func79,ntmps79;go_wp2_with fail;apply kO (H.o _);go_wp2;go_ret;exact⟨rfl,rfl⟩
def aIb(c:UInt8):okT c=decide ((97<=(c.toNat:Int)/\(c.toNat:Int)<=122)\/(48<=(c.toNat:Int)/\(c.toNat:Int)<=57)\/(c.toNat:Int)=45):=by
 have a:(c==45)=decide (c.toNat=45):=by rw[Qb];simp[<-UInt8.toNat_inj]
 rw[Qb];simp[okT,a,Df];omega
def rG(s:pB)(w:fA)(n:s.size<=maxLen):
 rI 47 #[pA s] w (sA (uC s)):=by
 unfold maxLen at n;by_cases c:1<=s.size/\s.size<=32
 .have m:yB (s.size:Int) 1 32=eA:=by unfold yB;simp;omega
  have g:cB (uC s=s.data.toList.all okT):=by show _=_;simp[uC,c.1,c.2]
  have p:=c.1;have q:=c.2;clear c;go_enter func47,ntmps47;go_wp2_with(go_at_call 86;apply jC (uD _ _ _ _);rintro j rfl);go_loop [3,4] (λi _=>∃k:Nat,k<=s.size/\i=aB k/\(s.data.toList.take k).all okT=eA) (λi _=>s.size-(intOf i).toNat)
  case atStart=>exact⟨0,Oa _,rfl,by simp⟩
  case round=>
   obtain⟨k,o,rfl,d⟩:=hrel;have b:cB _:=d;clear d m;by_cases h:k<s.size
   .have a:=AP (f:=okT) h;rw[b.o,Oc,aIb]at a;have l:cB _:=a;clear a;go_wp2;all_goals first
     |(go_ret
       refine⟨oB ?_,rfl⟩;rw[g.o];refine(rb (k:=k+1) ?_).symm;rw[l.o,Xe];simp at *;omega)
     |(refine⟨⟨k+1,by omega,by go_num,?_⟩,by simp[intOf];omega⟩
       rw[l.o,Af];simp at *;omega)
   go_wp2;go_ret;exact⟨oB (by rw[g.o,<-b.o,Ra (by simp;omega)]),rfl⟩
 have m:yB (s.size:Int) 1 32=dA:=by unfold yB;simp;omega
 have g:cB (uC s=dA):=by show _=_;simp[uC];omega
 go_enter func47,ntmps47;go_wp2_with(go_at_call 86;apply jC (uD _ _ _ _);rintro j rfl);go_ret;exact⟨oB g.o.symm,rfl⟩
def fV(s:pB)(w:fA)(h:s.size<=1000000000)(d:kH w):cF 204 #[pA s] w (sA (aF s)):=by
 have H:cB (cF 255 #[pA s] w (aB (fP s:Nat))):=KG s w h d;have c:cB (aF s=(!s.toList.isEmpty&&decide (fP s=0))):=rfl;clear d;generalize fP s=v at *;by_cases a:s.toList.isEmpty=eA
 .go_enter func204,ntmps204;go_wp2;go_ret;exact⟨oB (by rw[c.o,a];rfl),gD⟩
 have f:s.toList.isEmpty=dA:=by simpa using a
 clear a;go_enter func204,ntmps204;go_wp2_with fail;apply jC H.o;intro i g;go_wp2;go_ret;exact⟨oB (by rw[c.o,f];rw[Qb];simp),g⟩
def qM(s:pB)(w:fA)(g:s.size<=1000000000):cF 104 #[pA s] w (sA (aF s)):=by
 have H:cB (cF 170 #[pA s] w (aB (fP s:Nat))):=LH s w g;have c:cB (aF s=(!s.toList.isEmpty&&decide (fP s=0))):=rfl;generalize fP s=v at *;by_cases a:s.toList.isEmpty=eA
 .go_enter func104,ntmps104;go_wp2;go_ret;exact⟨oB (by rw[c.o,a];rfl),gD⟩
 have d:s.toList.isEmpty=dA:=by simpa using a
 clear a;go_enter func104,ntmps104;go_wp2_with fail;apply jC H.o;intro h f;go_wp2;go_ret;exact⟨oB (by rw[c.o,d];rw[Qb];simp),f⟩
def aHs{key:pB}(h:(wG key).2=dA):(jL (wG key).1).toList.isEmpty=eA:=by rw[(MG h).1];simp[jL]
def IM(s:pB)(w:fA)(i:s.size<=1000000000):cF 105 #[pA s] w (sA (qK s)):=by
 have d:cB (iA prog 171 #[pA s] w λe f=>∃a c,e=vA (yA #[.slice a (zA (wG s).1) c,sA (wG s).2])/\zD f w.1.size a (wG s).1/\xB w f):=LD s w i;have k:cB _:=λW=>lZ s W i;have h:cB (qK s=!(jL (wG s).1).toList.isEmpty):=rfl;cases hd:(wG s).2 with
 |false=>
  have l:=aHs hd;rw[hd]at d;generalize jL (wG s).1=m at *;generalize (wG s).1=L at *;clear hd;go_enter func105,ntmps105;go_wp2_with fail;refine d.o.mono ?_;rintro e n ⟨a,c,rfl,_,b⟩;go_wp2;go_ret;exact⟨oB (by rw[h.o,l];rfl),b⟩
 |true=>
  rw[hd]at d;generalize jL (wG s).1=m at *;generalize (wG s).1=L at *;clear hd;go_enter func105,ntmps105;go_wp2_with fail;refine d.o.mono ?_;rintro e n ⟨a,c,rfl,_,b⟩;have j:cB _:=b;clear b;go_wp2_with fail;apply jC (k.o _);intro o g;go_wp2;go_ret;exact⟨oB (by rw[h.o]),aC j.o g⟩
def CK(t:gB)(c d:nC)(f g:Nat)(w:fA):cF 103 #[.agg #[pA t.N,aB t.L,qA c (zA t.M) f,qA d (zA t.Z) g]] w (sA (xE t)):=by
 have E:cB (xE t=(t.L==-1&&zA t.M==0&&zA t.Z==0)):=rfl;generalize zA t.M=h at *;generalize zA t.Z=j at *;generalize t.L=L at *;by_cases a:L = -1
 .by_cases b:h=0
  .go_enter func103,ntmps103;go_wp2;go_ret;exact⟨oB (by rw[E.o,a,b];rw[Qb];simp),bC⟩
  go_enter func103,ntmps103;go_wp2;go_ret;exact⟨oB (by rw[E.o,a];rw[Qb];simp[b]),bC⟩
 go_enter func103,ntmps103;go_wp2;go_ret;exact⟨oB (by rw[E.o];rw[Qb];simp[a]),bC⟩
def uT(x:Int)(w:fA):rI 136 #[aB x] w (sA (yB x (-1) 1000000)):=by
 by_cases h:x = -1
 .have E:cB (yB x (-1) 1000000=eA):=by show _=_;subst h;rfl
  go_enter func136,ntmps136;go_wp2_with(go_at_call 58;apply jC (qG _ _);rintro a rfl);go_ret;exact⟨oB E.o.symm,rfl⟩
 have E:cB (yB x (-1) 1000000=yB x 0 1000000):=by
  show _=_;unfold yB;congr 1;rw[Qb];simp;omega
 go_enter func136,ntmps136;go_wp2_with(go_at_call 58;apply jC (qG _ _);rintro a rfl);go_ret;exact⟨oB (by rw[E.o,show(x==-1)=dA by simpa using h,Rf]),rfl⟩
section
open Go.Maps Go.ChangeMaps
def aJ(n:Int):DataW Unit:=.lit (.int .i64 n)
def kF(g:Nat):DataW Unit:=.lit (.int .i64 (g:Int))
def tE:jA->Option (DataW Unit×List MemPlace)
 |tA (cA ⟨g,0,aA⟩)=>cA (kF g,[])
 |tA aA=>cA (.nil,[])
 |_=>aA
def wW(g:Nat):tE (.pointer (vB g))=cA (kF g,[]):=rfl
def vL:Keyed prog 9:=string_keyed underlying9
def eN{s:pB}(h:s.size<=maxLen):keyOf prog 9 (pA s)=cA (kL s):=WideMaps.keyOf_string_mk underlying9 h
def RP{H:Type}{P:Program}{w:fA}{k:TypeId}{R:jA->Option (DataW H×List MemPlace)}{b n:Nat}{D:DataW H}(h:w.ownsMap P k R b n D):w.ownsMap P k R b (Maps.size D) D:=by
 obtain⟨c,a,d,F,e,rfl⟩:=h;refine⟨c,a,d,F,?_,rfl⟩;rw[size_eq,length_sorted,Xa,Qg];exact Ia _
structure sR(w:World)(S:Nat→Prop)(x:Nat)(t:gB)(M lm sm cm:Nat)(iv:Value)(Q:List (kB×Nat))(hs:List qI)(D:DataW Unit):Prop where
 blk:jB w x #[aB t.L,.map (cA lm),.map (cA sm),.map (cA cm),iv] 222
 lims:w.ownsMap prog 9 (plainElem prog 3) lm (zA t.M) (jE (t.M.map λp=>(p.s,aJ p.n)))
 Z:w.ownsMap prog 9 tE sm (zA Q) (jE (Q.map λq=>(q.1.s,kF q.2)))
 cnts:w.ownsMap prog 9 (plainElem prog 3) cm M D
 cnt:∀m:pB,D.atKey (kL m) (aJ 0)=aJ (tI dE t.Z m)
 q1:Q.map (·.1)=t.Z
 cells:∀q∈Q,jB w q.2 #[pA q.1.s,aB q.1.n] 134
 row:w.ownsRow 0 331 2 iv (zA hs) (pK hs)
 heap:uJ hs
 perm:(hs.map (·.b)).Perm (Q.map (·.2))
 early:∀h∈hs,∀q∈Q,q.2=h.b→h.t≤q.1.n
 rm:tC (·.s) t.M
 rs:tC (·.s) t.Z
 sx:S x
 sl:S lm
 ss:S sm
 sc:S cm
 sq:∀q∈Q,S q.2
 si:∀g,iv.ownBlock=cA g→S g
 d1:lm≠sm
 d2:lm≠cm
 d3:sm≠cm
 nd:(Q.map (·.2)).Nodup
 dx:∀q∈Q,q.2≠x
 di:∀g,iv.ownBlock=cA g→g≠x∧∀q∈Q,q.2≠g
def tD(w:fA)(S:Nat->Prop)(x:Nat)(t:gB)(M:Nat):Prop:=∃d e a c Q b D,sR w S x t M d e a c Q b D
def pt{w:fA}{B:Nat}{e:TypeId}{a:Nat}{v:jA}{n:Nat}{i:List jA}(h:w.ownsRow B e a v n i):∀g,v.ownBlock=cA g->g<w.1.size:=by
 intro g b;obtain⟨rfl,_⟩|⟨j,c,d,rfl,_,f,_⟩:=h.2
 .cases b
 simp only[jA.ownBlock,Qa]at b;subst b;exact bB f
def sR.keep{w w':fA}{S S':Nat->Prop}{x:Nat}{t:gB}{M u v m:Nat}{s:jA}{Q:List (kB×Nat)}{f:List qI}{D:DataW Unit}(h:sR w S x t M u v m s Q f D)
(c:∀g,g<w.1.size->S g->w'.heap[g]?=w.heap[g]?/\S' g):sR w' S' x t M u v m s Q f D:=by
 have p:∀{R:jA->Option (DataW Unit×List MemPlace)}{b n:Nat}{E:DataW Unit},w.ownsMap prog 9 R b n E->S b->w'.ownsMap prog 9 R b n E:=fun{R b n E} h f=>by
  have o:=h.lt;obtain⟨A,d,i,r⟩:=h;exact⟨A,d,(c b o f).1.trans i,r⟩
 have i:∀{g:Nat}{a:Array jA}{y:TypeId},jB w g a y->S g->jB w' g a y:=fun{g a y} h f=>(c g (bB h) f).1.trans h;exact { h with
  blk:=i h.blk h.sx
  lims:=p h.lims h.sl
  Z:=p h.Z h.ss
  cnts:=p h.cnts h.sc
  cells:=λq k=>i (h.cells q k) (h.sq q k)
  row:=by
   refine⟨h.row.1,?_⟩;obtain B|⟨g,l,a,e,C,j,r⟩:=h.row.2;exact Ca B;have:s.ownBlock=cA g:=by rw[e];rfl
   exact La ⟨g,l,a,e,C,i j (h.si g this),r⟩
  sx:=(c x (bB h.blk) h.sx).2
  sl:=(c u h.lims.lt h.sl).2
  ss:=(c v h.Z.lt h.ss).2
  sc:=(c m h.cnts.lt h.sc).2
  sq:=λq k=>(c q.2 (bB (h.cells q k)) (h.sq q k)).2
  si:=λg z=>(c g (pt h.row g z) (h.si g z)).2}
def tD.keep{w w':fA}{S S':Nat->Prop}{x:Nat}{t:gB}{M:Nat}(h:tD w S x t M)(b:∀g,g<w.1.size->S g->w'.heap[g]?=w.heap[g]?/\S' g):tD w' S' x t M:=by
 obtain⟨e,f,a,d,Q,c,D,h⟩:=h;exact⟨e,f,a,d,Q,c,D,h.keep b⟩
def tD.z{w a:fA}{S:Nat->Prop}{x:Nat}{t:gB}{M:Nat}(h:tD w S x t M)(b:xB w a):tD a S x t M:=h.keep λg c d=>⟨b.block g c,d⟩
def tD.lt{w:fA}{S:Nat->Prop}{x:Nat}{t:gB}{M:Nat}(h:tD w S x t M):x<w.1.size:=by
 obtain⟨d,e,a,c,Q,b,D,h⟩:=h;exact bB h.blk
def tD.mono{w:fA}{S:Nat->Prop}{x:Nat}{t:gB}{M a:Nat}(h:tD w S x t M)(c:M<=a):tD w S x t a:=by
 obtain⟨f,g,b,e,Q,d,D,h⟩:=h;exact⟨f,g,b,e,Q,d,D,{ h with cnts:=h.cnts.mono c}⟩
def FI(a:Int)(o:pB)(w:fA):
 iA prog 137 #[aB a] w λe d=>∃x,e=vA (.pointer (vB x))/\w.1.size<=x/\tD d (λg=>w.1.size<=g) x ⟨o,a,[],[]⟩ 0/\xB w d:=by
 have j:=@run_makeMap prog;go_enter func137,ntmps137;go_wp2;go_ret;refine⟨w.1.size+1+1+1,rfl,by omega,⟨w.1.size,w.1.size+1,w.1.size+1+1,qA aA 0 0,[],[],.map [],?_⟩,aC (aC (aC bC bC) bC) bC⟩;have k:∀R:jA->Option (DataW Unit×List MemPlace),(w.alloc (.map #[] 0)).ownsMap prog 9 R w.1.size 0 (.map []):=λR=>fA.ownsMap_made w _ _ R;have l:∀R:jA->Option (DataW Unit×List MemPlace),((w.alloc (.map #[] 0)).alloc (.map #[] 0)).ownsMap prog 9 R (w.1.size+1) 0 (.map []):=λR=>by have:=fA.ownsMap_made (w.alloc (.map #[] 0)) prog 9 R;simpa using this
 have n:∀R:jA->Option (DataW Unit×List MemPlace),(((w.alloc (.map #[] 0)).alloc (.map #[] 0)).alloc (.map #[] 0)).ownsMap prog 9 R (w.1.size+1+1) 0 (.map []):=λR=>by have:=fA.ownsMap_made ((w.alloc (.map #[] 0)).alloc (.map #[] 0)) prog 9 R;simpa using this
 exact {
  blk:=by have:=jB.new (((w.alloc (.map #[] 0)).alloc (.map #[] 0)).alloc (.map #[] 0)) #[aB a,.map (cA w.1.size),.map (cA (w.1.size+1)),.map (cA (w.1.size+1+1)),qA aA 0 0] 222;simpa using this
  lims:=(((k _).alloc _).alloc _).alloc _
  Z:=((l _).alloc _).alloc _
  cnts:=(n _).alloc _
  cnt:=λm=>rfl
  q1:=rfl
  cells:=λq b=>by cases b
  row:=fA.ownsRow_nil _ _ _ _
  heap:=λi _ h=>by simp at h
  perm:=Lf _
  early:=λh f=>by cases f
  rm:=Gd
  rs:=Gd
  sx:=by show w.1.size<=_;omega
  sl:=Ia _
  ss:=by show w.1.size<=_;omega
  sc:=by show w.1.size<=_;omega
  sq:=λq b=>by cases b
  si:=λg c=>by cases c
  d1:=by omega
  d2:=by omega
  d3:=by omega
  nd:=List.nodup_nil
  dx:=λq b=>by cases b
  di:=λg c=>by cases c}
def OU(x:Nat)(t:gB)(S:Nat->Prop)(M:Nat)(w:fA)(h:tD w S x t M):
 rI 140 #[.pointer (vB x)] w (sA (xE t)):=by
 obtain⟨g,j,o,q,Q,p,D,h⟩:=h;have l:yC w x 0 (aB t.L):=h.blk.cell 0;have m:yC w x 1 (.map (cA g)):=h.blk.cell 1;have n:yC w x 2 (.map (cA j)):=h.blk.cell 2;have f:=h.lims.len underlying216 3;have d:=h.Z.len underlying217 3;rw[vM]at f d;have c:zA Q=zA t.Z:=by rw[<-h.q1,Xa]
 rw[c]at d;clear h c;have E:cB (xE t=(t.L==-1&&zA t.M==0&&zA t.Z==0)):=rfl;generalize zA t.M=i at *;generalize zA t.Z=r at *;generalize t.L=L at *;by_cases a:L = -1
 .by_cases b:i=0
  .go_enter func140,ntmps140;go_wp2;go_ret;exact⟨oB (by rw[E.o,a,b];rw[Qb];simp),rfl⟩
  go_enter func140,ntmps140;go_wp2;go_ret;exact⟨oB (by rw[E.o,a];rw[Qb];simp[b]),rfl⟩
 go_enter func140,ntmps140;go_wp2;go_ret;exact⟨oB (by rw[E.o];rw[Qb];simp[a]),rfl⟩
end
theorem qi(w:fA)(B D:Nat)(b:List iB)(c k r s:Int)(H:Bool)(v:jA)(d:oK)(h:bo w B D b c k r s H v d)(I:(jD k r s H).1=0)(X:d.K≠1)(J:1<=d.K/\d.K<=6)(G:yH b d.N (dC d.N b)=eA):AO w B D b c k r s H v d:=by
 unfold AO;have m:=dB h.drive;have HA:=dB h.asc;obtain⟨-,-,o,o,O,W,Y⟩:=h;have E:cB (wI b c k r s H d=((jN b c d).1,(jN b c d).2,(jD k r s H).2)):=by show _=_;rw[wI,Ma I]
 have HR:=dB I;obtain⟨N,-⟩:=wZ G;have z:=dB (UK (c:=c) X G N);have HQ:=dB G;have h1b:(d.K==1)=dA:=by simpa using X
 have HKS:cB (d.K=2\/d.K=3\/d.K=4\/d.K=5\/d.K=6):=by show _\/_;omega
 clear I G J;go_enter func117,ntmps117;go_wp2_with fail;apply jC (dW D 146 v (aB c) k r s H _ (m.o.z bC).blk W Y);rintro w1 ⟨n,l⟩;have J:cB _:=(m.o.z bC).charged n l;have W:cB _:=cK.charge m.o m.o.size n;have G:¬(w.1.size=D):=by have:=bB m.o.blk;omega
 have HO:cB (bm w1 w.1.size d 101):=jB.keeps (S:=λk=>k=D) (g:=w.1.size) (heap_alloc_new w (.cells #[aB d.K,pA d.N,pA d.tq,pA d.data,aB d.size] 101)) (kE.but n) G;obtain⟨Z,u,I,G,L⟩:=HO.o.cells;clear n l;rw[HR.o];simp only[nH];obtain⟨a,cap,rfl,Y⟩:=J.o.files;have p1:=kC.cells u;have p4:=kC.cells J.o.cell4;have hne:=kC.there w1;have m:cB (∀x:kC w1,uB x.w' a b):=λx=>Y.z x.h;have HDx:cB (∀x:kC w1,wC x.w' B D b c (jD k r s H).2.1 r s (jD k r s H).2.2 (qA a (zA b) cap)):=λx=>J.o.z x.h;have HOx:cB (∀x:kC w1,bm x.w' w.1.size d 101):=λx=>jB.z HO.o x.h;have R:zA b<=1048576:=by omega
 clear u I G L Y HO;go_wp2_with fail;refine zB (by kernel_rfl) (by kernel_rfl) ?_;repeat (go_big_quiet_step (first|(go_at_call 116;exact oC (rT _ _ _ _ _ (m.o _) HA.o R))))
 refine wpQuiet_nil ?_;rintro _ ⟨y,rfl⟩;have i:cB _:=HDx.o y;have F:cB (bm y.w' w.1.size d 101):=HOx.o y;have C:cB _:=W.o.on y.h J.o.size;clear Z p1 p4 hne HDx m HOx J W;generalize y.w'=W at *;clear y;rw[HQ.o];clear h1b X;obtain K|K|K|K|K:=HKS.o
 all_goals
  have HKD:=dB K;clear HKS
 .have ED:cB (jN b c d=if c<pC b+d.data.size then(3,b) else(0,b.set (dC d.N b) ⟨b[dC d.N b].N,b[dC d.N b].data++d.data,b[dC d.N b].Y⟩)):=by show _=_;rw[z.o];simp[K]
  obtain⟨Z,u,I,G,L⟩:=F.o.cells;clear u I L;go_wp2_with fail;refine(WZ B D _ b c _ r s _ _ d.data _ i.o N R o O).mono ?_;rintro e Y ⟨t,o⟩;have m:cB _:=C.o.trans o;clear o Z G;obtain⟨T,rfl,J⟩|⟨O,rfl,J⟩:=t
  .have A:cB (jN b c d=(3,b)):=by show _=_;rw[ED.o,Ma T]
   have p:cB _:=J;clear J T;go_wp2;go_ret;rw[E.o,A.o];exact⟨rfl,m.o.below,λ_=>m.o.other,_,p.o,λ_=>rfl⟩
  have A:cB (jN b c d=(0,b.set (dC d.N b) ⟨b[dC d.N b].N,b[dC d.N b].data++d.data,b[dC d.N b].Y⟩)):=by show _=_;rw[ED.o,Ja (by omega)]
  have p:cB _:=J;clear J O;go_wp2;go_ret;rw[E.o,A.o];exact⟨rfl,m.o.below,λ_=>m.o.other,_,p.o,λ_=>rfl⟩
 .have A:cB (jN b c d=(0,b.set (dC d.N b) ⟨b[dC d.N b].N,b[dC d.N b].data,b[dC d.N b].data.size⟩)):=by show _=_;rw[z.o];simp[K]
  obtain⟨Z,u,I,G,L⟩:=F.o.cells;obtain⟨g,U,V,hgD,P⟩:=i.o.slice (by omega);simp only[jA.slice.injEq]at V;obtain⟨rfl,_,rfl⟩:=V;obtain⟨q,_,l,hnc,hcm,Q,f⟩:=iK i.o.row;have M:=(f _ N).2.1;rw[Ya]at M;have q4:=i.o.cell4;have HS:cB (iA prog 182 #[tA (cA ⟨g,dC d.N b*3,aA⟩)] W λe w'=>e=vA (yA #[])/\w'=W.setCell ⟨g,dC d.N b*3+2,aA⟩ (aB b[dC d.N b].data.size)):=kj g _ q 144 _ W l M (by omega);have p:cB (wC (W.setCell ⟨g,dC d.N b*3+2,aA⟩ (aB b[dC d.N b].data.size)) B D (b.set (dC d.N b) ⟨b[dC d.N b].N,b[dC d.N b].data,b[dC d.N b].data.size⟩) c (jD k r s H).2.1 r s (jD k r s H).2.2 (qA (vB g) (zA b) cap)):=
   i.o.put ((sD.refl _ _).setCell _ _) (l.set _ _) (by simp[Q]) (zr N f _)
  have m:cB (cK B w (W.setCell ⟨g,dC d.N b*3+2,aA⟩ (aB b[dC d.N b].data.size))):=C.o.set l (Ca rfl) P _;clear l f M u I G L;go_wp2_with fail;apply jC HS.o;rintro Y rfl;go_wp2;go_ret;rw[E.o,A.o];exact⟨rfl,m.o.below,λ_=>m.o.other,_,p.o,λ_=>rfl⟩
 .cases hb:yB d.size 0 b[dC d.N b].data.size
  .have A:cB (jN b c d=(6,b)):=by show _=_;rw[z.o];simp[K,hb]
   obtain⟨Z,u,I,G,L⟩:=F.o.cells;obtain⟨g,U,V,hgD,P⟩:=i.o.slice (by omega);simp only[jA.slice.injEq]at V;obtain⟨rfl,_,rfl⟩:=V;obtain⟨q,_,l,hnc,hcm,Q,f⟩:=iK i.o.row;have M:=(f _ N).2.1;rw[Ya]at M;have q4:=i.o.cell4;have HS:cB _:=λJ h=>aq g _ q 144 _ d.size J h M hb;have O:cB (jB W g q 144):=l;clear l f M u I G hb;go_wp2_with fail;go_region_with (go_at_call 183;apply jC (HS.o _ (O.o.z gD.drew));intro Y o)
   all_goals(
    simp only[nH]
    go_wp2
    go_ret
    rw[E.o,A.o];have hR:cK B w _:=(C.o.on gD.drew i.o.size).on o i.o.size;exact⟨rfl,hR.below,λ_=>hR.other,_,(i.o.z gD.drew).z o,λ_=>rfl⟩)
  have A:cB (jN b c d=(0,b.set (dC d.N b) ⟨b[dC d.N b].N,b[dC d.N b].data.extract 0 d.size.toNat,d.size⟩)):=by show _=_;rw[z.o];simp[K,hb]
  have hdl:b[dC d.N b].data.size<=1000000000:=by
   have X:=kI b _ N;have h2:=xH b (dC d.N b+1);omega
  obtain⟨Z,u,I,G,L⟩:=F.o.cells;obtain⟨g,U,V,hgD,P⟩:=i.o.slice (by omega);simp only[jA.slice.injEq]at V;obtain⟨rfl,_,rfl⟩:=V;obtain⟨q,_,l,hnc,hcm,Q,f⟩:=iK i.o.row;have M:=(f _ N).2.1;rw[Ya]at M;have q4:=i.o.cell4;have HS:cB (∀J,jB J g q 144->iA prog 183 #[tA (cA ⟨g,dC d.N b*3,aA⟩),aB d.size] J λe w'=>e=vA (nH 0)/\sD g J w'/\
   jB w' g ((q.setIfInBounds (dC d.N b*3+1) (pA (b[dC d.N b].data.extract 0 d.size.toNat))).setIfInBounds (dC d.N b*3+2) (aB d.size)) 144):=λJ h=>kr g _ q 144 _ d.size J h M (by omega) hb hdl
  have O:cB (jB W g q 144):=l;have J:cB _:=f;clear l f M u I G hb hdl;go_wp2_with fail;go_region_with (go_at_call 183;apply jC (HS.o _ (O.o.z gD.drew));rintro Y ⟨n,o⟩)
  all_goals(
   simp only[nH]
   go_wp2
   go_ret
   rw[E.o,A.o];have hR:cK B w _:=(C.o.on gD.drew i.o.size).but n (O.o.z gD.drew) (Ca rfl) P i.o.size;exact⟨rfl,hR.below,λ_=>hR.other,_,(i.o.z gD.drew).put n o (by simp[Q]) (aEy N J.o _ _),λ_=>rfl⟩)
 .have A:cB (jN b c d=(0,yG (b.eraseIdx (dC d.N b)) ⟨d.tq,b[dC d.N b].data,b[dC d.N b].Y⟩)):=by show _=_;rw[z.o];simp[K]
  obtain⟨Z,u,I,G,L⟩:=F.o.cells;clear u G L;go_wp2_with fail;apply jC (pq B D _ b c _ r s _ _ d.tq _ i.o N (HA.o.erase _) R);rintro Y ⟨j,v3,O,o,t⟩;obtain rfl:=O.uniq (iJ d.tq (HA.o.erase _));have m:cB _:=C.o.trans o;have p:cB (wC Y B D (yG (b.eraseIdx (dC d.N b)) ⟨d.tq,b[dC d.N b].data,b[dC d.N b].Y⟩) c (jD k r s H).2.1 r s (jD k r s H).2.2 v3):=by
   obtain⟨X,h2⟩|⟨X,h2⟩:=t;obtain ⟨T,J⟩:=wZ X;show wC _ _ _ _ _ _ _ _ _ _;rw[GK (HA.o.erase _) T J];exact h2;show wC _ _ _ _ _ _ _ _ _ _;rw[wV (HA.o.erase _) X];exact h2
  clear t o O;go_wp2;go_ret;rw[E.o,A.o];exact⟨rfl,m.o.below,λ_=>m.o.other,v3,p.o,λh=>(by have:=HKD.o;omega)⟩
 have A:cB (jN b c d=(0,b.eraseIdx (dC d.N b))):=by show _=_;rw[z.o];simp[K]
 obtain⟨Z,u,I,G,L⟩:=F.o.cells;clear u I G L;go_wp2_with fail;apply jC (QM B D _ b c _ r s _ _ _ i.o N R);rintro Y ⟨v3,t,_,o⟩;have p:cB _:=t;have m:cB _:=C.o.trans (cK.removed i.o o);clear t o;go_wp2;go_ret;rw[E.o,A.o];exact⟨rfl,m.o.below,λ_=>m.o.other,v3,p.o,λh=>(by have:=HKD.o;omega)⟩
def jz(w:fA)(B D:Nat)(f:List iB)(c k b e:Int)(d:Bool)(v:jA)(a:oK)(h:bo w B D f c k b e d v a)(g:yB a.K 1 6=eA):AO w B D f c k b e d v a:=by grind [yB,AO,jD,yH,dC,ke,ZX,qi,ZY]
