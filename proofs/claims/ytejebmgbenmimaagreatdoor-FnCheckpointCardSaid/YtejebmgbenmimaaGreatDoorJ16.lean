import Derived.Test.YtejebmgbenmimaaGreatDoorJ12
import Derived.Test.YtejebmgbenmimaaGreatDoorJ14
set_option maxRecDepth 100000
set_option maxHeartbeats 4000000
set_option linter.defProp false
open Bool renaming false->gA,true->iA
open Option renaming none->eA,some->fA
open ByteArray renaming empty->pA
open List renaming length->cB
namespace Go.Proofs.YtejebmgbenmimaaGreatDoor
open Go renaming World->jA,Calls->lA,Value->mA
open Value renaming slice->uA,bool->vA,string->tA,tuple->bB,pointer->xA
open Ending renaming returned->zA
open Go.RowKit Tryz
def lu(a C:nC)(D n:Nat)(c d:List hC)(w:jA)(N:vD w a c)(t:vD w C d)(e:cB c<=2000000):
 gF 208 #[uA a (cB c) D,uA C (cB d) n] w (vA (uH c d)):=by
 have R:fB (vD w a c):=N;have z:fB (vD w C d):=t;clear N t;by_cases F:cB c=cB d
 .have G:((cB c:Int) != (cB d:Int))=gA:=by simp[F]
  have H:cB d<=cB c/\cB c<=cB d:=by omega
  obtain⟨P,Q⟩:=H;clear F;go_enter func208,ntmps208;go_wp2;go_loopw [5,13] (λ_ i wr=>∃k:Nat,k<=cB c/\i=dB k/\fB (uH c d=uH (c.drop k) (d.drop k))/\zB w wr) (λ_ i _=>cB c-(intOf i).toNat)
  case atStart=>exact⟨0,Oa _,rfl,rfl,jD⟩
  case round=>
   obtain⟨k,e,rfl,A,f⟩:=hrel;by_cases u:k<cB c
   .have g:k<cB d:=by omega
    obtain⟨b,o,rfl,e,J,K⟩:=(R.o.z f).at u;obtain⟨b',e,rfl,T,l,m⟩:=(z.o.z f).at g;have y:=gc c d k u g;have j:∀W,Sem.run prog (binOp .neq 190 (.agg #[tA c[k].N,tA c[k].V]) (.agg #[tA d[k].N,tA d[k].V])) W=.ok (vA (!kU c[k] d[k])) W:=λW=>aJn.1 c[k] d[k] W;have O:∀(I:BinOp)(p q:Operand)(W:jA),Sem.run prog (eqGuard I 190 p q (.agg #[tA c[k].N,tA c[k].V]) (.agg #[tA d[k].N,tA d[k].V])) W=.ok () W:=λI p q W=>aJn.2 I p q c[k] d[k] W;have L:=mC.cells J;have M:=mC.cells K;have r:=mC.cells l;have s:=mC.cells m;clear J K l m;have v:=mC.there wr;cases he:kU c[k] d[k]with
    |true=>
     have E:fB (uH c d=uH (c.drop (k+1)) (d.drop (k+1))):=by show _=_;rw[A.o,y,he,Oc]
     rw[he]at j;clear y he;generalize c[k].N=U at *;generalize c[k].V=X at *;generalize d[k].N=V at *;generalize d[k].V=Y at *;go_wp2_with fail;refine bC (by kernel_rfl) (by kernel_rfl) ?_;repeat (go_big_quiet_step (fail))
     refine wpQuiet_nil ?_;rintro _ ⟨x,rfl⟩;have B:fB _:=xB f x.h;clear L M r s v;generalize x.w'=S at *;clear x;go_wp2;exact⟨⟨k+1,by omega,by go_num,E.o,B.o⟩,by simp[intOf];omega⟩
    |false=>
     have E:fB (uH c d=gA):=by show _=_;rw[A.o,y,he,Be]
     rw[he]at j;clear y he;generalize c[k].N=U at *;generalize c[k].V=X at *;generalize d[k].N=V at *;generalize d[k].V=Y at *;go_wp2_with fail;refine bC (by kernel_rfl) (by kernel_rfl) ?_;repeat (go_big_quiet_step (fail))
     refine wpQuiet_nil ?_;rintro _ ⟨x,rfl⟩;have B:fB _:=xB f x.h;clear L M r s v;generalize x.w'=S at *;clear x;go_wp2;go_ret;exact⟨tB E.o.symm,B.o⟩
   have E:fB (uH c d=iA):=by
    show _=_;rw[A.o,Yb (by omega),Yb (by omega)];rfl
   go_wp2;go_ret;exact⟨tB E.o.symm,f⟩
 have G:((cB c:Int) != (cB d:Int))=iA:=by simp;omega
 have E:fB _:=nb F;go_enter func208,ntmps208;go_wp2;go_ret;exact⟨tB E.o.symm,jD⟩
def KO(a:nC)(g:Nat)(c:List hC)(w:jA)(hf:vD w a c)(hB:MC c)(M:cB c<=2000000)(L:cB c<=g):
 gF 141 #[uA a (cB c) g] w (tA (wI c)):=by
 have s:fB (lA prog 139 #[uA a (cB c) g] w λe A=>MD e w A (yB c).1 (yB c).2.1 (yB c).2.2):=RG a g c w hf hB M L;have S:fB (vD w a c):=hf;have HB:fB (MC c):=hB;have hcl:=MS c;unfold MD at s;clear hf hB;by_cases J:(yB c).2.1=0
 .have Z:(((yB c).2.1:Int) != 0)=gA:=by simp;omega
  have G:fB (∀W p B,vD W p (yB c).1->vD W a c->gF 208 #[.slice p (cB (yB c).1) B,uA a (cB c) g] W (vA (uH (yB c).1 c))):=λW p B h1 h2=>lu p a B g _ c W h1 h2 (by omega);by_cases N:uH (yB c).1 c=iA
  .have n:dO c=iA:=by unfold dO;rw[J,N];rfl
   have E:fB (wI c=bI c):=by show _=_;rw[wI,Ma n]
   have h16:=MQ n;have U:fB (∀W,gF 68 #[.int .i64 1,.int .i64 (cB c:Nat)] W (tA (uB 1 (cB c:Nat)))):=λW=>oD 1 (cB c:Nat) W (by omega) (by omega) (by omega);have hz1:=oB 1 (cB c:Nat);have T:fB (bI c=uB 1 (cB c:Nat)++pD c):=rfl;have t:fB _:=N;clear J N n;generalize (yB c).1=C at *;generalize (yB c).2.1=Y at *;generalize (yB c).2.2=c2 at *;generalize uB 1 (cB c:Nat)=X at *;go_enter func141,ntmps141;go_wp2_with fail;refine s.o.mono ?_;rintro e D ⟨p,B,rfl,f,d⟩;have r:fB _:=d;have u:fB (vD D p C/\vD D a c):=⟨f.B,S.o.z d⟩
   clear f d s;go_wp2_with fail;apply oC (G.o _ _ _ u.o.1 u.o.2);intro w2 l;rw[t.o];have O:fB _:=xB r.o l;clear l u r;go_wp2_with fail;apply oC (U.o _);intro w3 K;have B3:fB _:=xB O.o K;clear K O;go_wp2;go_loopw [6,8,28] (λout _ i wr=>∃(k:Nat)(q:vB),k<=cB c/\i=.int .i64 k/\out=tA q/\q.size<=1+k*3000000000/\fB (q=X++pD (c.take k))/\zB w wr) (λ_ _ i _=>cB c-(intOf i).toNat)
   case atStart=>exact⟨0,X,Oa _,rfl,rfl,by omega,by show _=_;simp[pD],B3.o⟩
   case round=>
    obtain⟨k,q,hk,rfl,rfl,hst,H,m⟩:=hrel;by_cases v:k<cB c
    .obtain ⟨b,o,rfl,hb,c0,Y⟩:=(S.o.z m).at v;obtain⟨hs1,hs2⟩:=HB.o k v;have V:fB _:=λW=>sP c[k].N W hs1;have F:fB _:=λW=>bO c[k].V W hs2;have hz8:=sF c[k].N;have hz16:=kF c[k].V;have HT:=kT c k v;have R:fB (q++(vM c[k].N++eG c[k].V)=X++pD (c.take (k+1))):=by show _=_;rw[HT,H.o,Wa]
     clear HT;generalize vM c[k].N=I at *;generalize eG c[k].V=j at *;generalize c[k].N=P at *;generalize c[k].V=Q at *;have z:(I++j).size=I.size+j.size:=Ka;have hzst:(q++(I++j)).size=q.size+(I.size+j.size):=by rw[Ka,z]
     have d0:∀x:mC (wr.alloc (.cells #[tA P,tA Q] 190)),x.w'.cell? ⟨wr.1.size,0,eA⟩=fA (tA P):=mC.cells (by simp);have d1:∀x:mC (wr.alloc (.cells #[tA P,tA Q] 190)),x.w'.cell? ⟨wr.1.size,1,eA⟩=fA (tA Q):=mC.cells (by simp);have hne:=mC.there (wr.alloc (.cells #[tA P,tA Q] 190));go_wp2_with fail;refine bC (by kernel_rfl) (by kernel_rfl) ?_;repeat (go_big_quiet_step (first|(go_at_call 104;exact rC (V.o _))|(go_at_call 75;exact rC (F.o _))))
     refine wpQuiet_nil ?_;rintro _ ⟨x,rfl⟩;have HX:fB _:=xB (xB m aC) x.h;clear d0 d1 hne;generalize x.w'=W2 at *;clear x;go_wp2;exact⟨⟨k+1,q++(I++j),by omega,by go_num,rfl,by omega,R.o,HX.o⟩,by simp[intOf];omega⟩
    have R:fB (q=wI c):=by
     show _=_;rw[E.o,T.o,H.o,Ra (by omega)]
    go_wp2;go_ret;exact⟨by rw[<-R.o];rfl,m⟩
  have y:uH (yB c).1 c=gA:=by simpa using N
  have E:fB (wI c=pA):=by
   show _=_;rw[wI,Ja];unfold dO;rw[y,Wg];simp
  have t:fB _:=y;clear J N y;generalize (yB c).1=C at *;generalize (yB c).2.1=Y at *;generalize (yB c).2.2=c2 at *;go_enter func141,ntmps141;go_wp2_with fail;refine s.o.mono ?_;rintro e D ⟨p,B,rfl,f,d⟩;have r:fB _:=d;have u:fB (vD D p C/\vD D a c):=⟨f.B,S.o.z d⟩
  clear f d s;go_wp2_with fail;apply oC (G.o _ _ _ u.o.1 u.o.2);intro w2 l;rw[t.o];have O:fB _:=xB r.o l;clear l u r;go_wp2;go_ret;exact⟨by rw[E.o];rfl,O.o⟩
 have Z:(((yB c).2.1:Int) != 0)=iA:=by simp;omega
 have E:fB (wI c=pA):=by
  show _=_;rw[wI,Ja];unfold dO;rw[Ub J];simp
 clear J;generalize (yB c).1=C at *;generalize (yB c).2.1=Y at *;generalize (yB c).2.2=c2 at *;go_enter func141,ntmps141;go_wp2_with fail;refine s.o.mono ?_;rintro e D ⟨p,B,rfl,f,d⟩;have r:fB _:=d;clear f d s;go_wp2;go_ret;exact⟨by rw[E.o];rfl,r.o⟩
def lenOf:mA->Nat
 |uA _ n _=>n
 |_=>0
def yV(key:vB)(a:List hC)(c:Int):Prop:=∀b,dO b=iA->bI b=key->cB a<=cB b/\a=b.take (cB a)/\c=((1+(pD a).size:Nat):Int)
def VF(l:hC)(r:List hC):(pD (l::r)).data.toList=(uB 1 (l.N.size:Nat)).data.toList++(l.N.data.toList++((uB 2 (l.V.size:Nat)).data.toList++(l.V.data.toList++(pD r).data.toList))):=by
 simp[pD,vM,eG]
def TZ(a:List hC)(k:Nat)(h:k<cB a):(bI a).data.toList=((uB 1 (cB a:Nat)).data.toList++(pD (a.take k)).data.toList)++(pD (a[k]:: a.drop (k+1))).data.toList:=by
 have e:pD a=pD (a.take k)++pD (a[k]:: a.drop (k+1)):=by
  rw[<-sM,<-Cb h,Za]
 rw[bI,e];simp
def qe(a:List hC)(k:Nat):((uB 1 (cB a:Nat)).data.toList++(pD (a.take k)).data.toList).length=1+(pD (a.take k)).size:=by
 rw[Kb,<-fR,<-fR,oB]
def wd{a:List hC}(b:dO a=iA)(k:Nat)(h:k<cB a):zN (bI a) (1+(pD (a.take k)).size) 1=fA (a[k].N,1+(pD (a.take k)).size+1+a[k].N.size):=by
 have c:=uZ b k h;refine YH (post:=(uB 2 (a[k].V.size:Nat)).data.toList++(a[k].V.data.toList++(pD (a.drop (k+1))).data.toList)) ?_ (qe a k) (by omega);rw[TZ a k h,VF]
def mr{a:List hC}(b:dO a=iA)(k:Nat)(h:k<cB a):zN (bI a) (1+(pD (a.take k)).size+1+a[k].N.size) 2=fA (a[k].V,1+(pD (a.take k)).size+1+a[k].N.size+2+a[k].V.size):=by
 have c:=uZ b k h;refine YH (pre:=((uB 1 (cB a:Nat)).data.toList++(pD (a.take k)).data.toList)++((uB 1 (a[k].N.size:Nat)).data.toList++a[k].N.data.toList)) (post:=(pD (a.drop (k+1))).data.toList) ?_ ?_ (by omega);rw[TZ a k h,VF];simp only[Nd];rw[Kb,qe,Kb,<-fR,<-fR,oB];omega
def VG(a:List hC)(k:Nat)(h:k<cB a):(pD (a.take (k+1))).size=(pD (a.take k)).size+1+a[k].N.size+2+a[k].V.size:=by grind [pD,kT,sF,kF]
def xo(a:List hC)(k:Nat):(pD (a.take k)).size<=(pD a).size:=by
 have e:pD a=pD (a.take k)++pD (a.drop k):=by rw[<-sM,Za]
 rw[e,Ka];omega
def du(a:List hC):(bI a).size=1+(pD a).size:=by rw[bI,Ka,oB]
def YJ(key:vB):yV key [] 1:=λa _ _=>⟨Oa _,by simp,rfl⟩
def KD{key:vB}{a:List hC}{p:Nat}(h:yV key a (p:Nat))(m:p<key.size):∀b,dO b=iA->bI b=key->∃f:cB a<cB b,zN key p 1=fA (b[cB a].N,p+1+b[cB a].N.size)/\zN key (p+1+b[cB a].N.size) 2=fA (b[cB a].V,p+1+b[cB a].N.size+2+b[cB a].V.size):=by
 intro b i f;obtain⟨k,g,l⟩:=h b i f;have d:p=1+(pD a).size:=by omega
 have c:cB a<cB b:=by
  rcases Gc (cB a) (cB b) with c|j;exact c;exfalso;have e:a=b:=by rw[g];exact Ra (by omega)
  have:=du b;rw[f]at this;rw[e]at d;omega
 refine⟨c,?_,?_⟩;have:=wd i (cB a) c;rw[<-g,f,<-d]at this;exact this;have:=mr i (cB a) c;rw[<-g,f,<-d]at this;exact this
def fp{key:vB}{a:List hC}{p:Nat}(h:yV key a (p:Nat))(s:p<key.size){l n:vB}{q m:Nat}(o:zN key p 1=fA (l,q))(r:zN key q 2=fA (n,m)):yV key (a++[⟨l,n⟩]) (m:Nat):=by
 intro b g i;obtain⟨c,d,e⟩:=KD h s b g i;obtain⟨t,f,u⟩:=h b g i;rw[o]at d;simp only[Qa,Dc]at d;obtain⟨rfl,rfl⟩:=d;rw[r]at e;simp only[Qa,Dc]at e;obtain⟨rfl,rfl⟩:=e;have j:(a++[(⟨b[cB a].N,b[cB a].V⟩:hC)]).length=cB a+1:=by simp
 have k:a++[(⟨b[cB a].N,b[cB a].V⟩:hC)]=b.take (cB a+1):=by
  rw[Pa c,<-f]
 refine⟨by rw[j];omega,by rw[j];exact k,?_⟩;rw[k,VG b (cB a) c,<-f];congr 1;omega
def KE{key:vB}{c:List hC}{p:Nat}(h:yV key c (p:Nat))(n:p<key.size)(d:zN key p 1=eA\/∃i q,zN key p 1=fA (i,q)/\zN key q 2=eA)(a:List hC)(j:Int):yV key a j:=by
 intro o k l;exfalso;obtain⟨m,b,g⟩:=KD h n o k l;obtain d|⟨i,q,e,f⟩:=d;rw[d]at b;exact absurd b (by simp);rw[e]at b;simp only[Qa,Dc]at b;obtain⟨rfl,rfl⟩:=b;rw[f]at g;exact absurd g (by simp)
def mw{key:vB}{b:List hC}{a:Int}(h:yV key b a)(p:a<=0\/(key.size:Int)<=a\/16<cB b):
 (sG key=(b,iA)/\wI b=key/\0<key.size)\/(sG key=([],gA)/\(key.size=0\/wI b≠key)):=by
 cases hd:(sG key).2 with
 |true=>
  obtain⟨d,c⟩:=WR hd;obtain⟨k,f,o⟩:=h _ d c;have l:=MQ d;have g:=du (sG key).1;rw[c]at g;have e:b=(sG key).1:=by
   rcases Gc (cB b) (cB (sG key).1) with i|m;exfalso;have n:=VG (sG key).1 (cB b) i;have q:=xo (sG key).1 (cB b+1);rw[<-f]at n;omega;rw[f];exact Ra (by omega)
  left;refine⟨?_,?_,by omega⟩
  .rw[e];cases hdk:sG key with
   |mk x y=>rw[hdk]at hd;simp only at hd |-;rw[hd]
  rw[e,wI,Ma d,c]
 |false=>
  obtain⟨k,f⟩:=LP hd;right;refine⟨k,?_⟩;by_cases j:key.size=0
  .exact Ca j
  right;intro c;unfold wI at c;split at c
  .rename_i d;exact f b d c
  rw[<-c]at j;exact j rfl
def ze{a:List hC}(h:MC a){l:hC}(b:l.N.size<=1000000000/\l.V.size<=1000000000):MC (a++[l]):=by grind [MC]
def KM(key:vB)(w:jA)(L:key.size<=1000000000):
 lA prog 199 #[tA key] w λe y=>∃a Q,e=zA (bB #[.slice a (cB (sG key).1) Q,vA (sG key).2])/\qE y w.1.size a (sG key).1/\zB w y:=by
 go_enter func199,ntmps199;go_wp2;go_loopw [4,5,6,7,8,9] (λC P _ _ _ _ wr=>∃(b:List hC)(p:Int)(g z:Nat),P=dB p/\C=uA (cC g) (cB b) z/\-1<=p/\p<=1000000000/\cB b<=17/\fB (MC b/\yV key b p)/\fB (wr.ownsRow w.1.size 190 2 (uA (cC g) (cB b) z) (cB b) (wC b))/\zB w wr) (λC _ _ _ _ _ _=>18-lenOf C)
 case atStart=>
  exact⟨[],1,_,_,rfl,rfl,by omega,by omega,by simp,⟨λi h=>absurd h (by simp),YJ key⟩,jA.ownsRow_made w #[] 0 (Ia _) (by simp[maxLen]) (by simp),aC⟩
 case round=>
  obtain⟨b,s,g,z,rfl,rfl,h,h,h,F,f,c⟩:=hrel;have M:=c.size;by_cases J:0<s/\s<(key.size:Int)/\cB b<=16
  .obtain ⟨hg1,hg2,hg3⟩:=J;obtain⟨p,rfl⟩:∃p:Nat,s=(p:Int):=⟨s.toNat,by omega⟩
   have B:p<key.size:=by omega
   have Y:((cB b:Nat):Int)<=16:=by omega
   obtain⟨d,l,q,t,Z,D,H,h,h,h⟩:∃d l,∃q t:Int,(fB (∀W,bM 132 #[tA key,dB (p:Nat),dB 1] W (bB #[tA d,dB q])))/\(fB (∀W,bM 132 #[tA key,dB q,dB 2] W (bB #[tA l,dB t])))/\yV key (b++[⟨d,l⟩]) t/\-1<=t/\t<=1000000000/\d.size<=1000000000/\l.size<=1000000000:=by
    have m:ByteArray.empty.size=0:=rfl;cases hn1:zN key p 1 with
    |none=>exact⟨_,_,_,_,λW=>BJ key p 1 W L (by omega) (by omega) hn1,λW=>YZ key 2 W,KE F.o.2 B (Ca hn1) _ _,by omega,by omega,by omega,by omega⟩
    |some m=>
     obtain⟨d,q⟩:=m;obtain⟨m,m,m⟩:=qc hn1;cases hn2:zN key q 2 with
     |none=>exact⟨d,_,(q:Nat),_,λW=>eQ key p 1 d q W L (by omega) hn1,λW=>BJ key q 2 W L (by omega) (by omega) hn2,KE F.o.2 B (La ⟨d,q,hn1,hn2⟩) _ _,by omega,by omega,by omega,by omega⟩
     |some U=>
      obtain⟨l,t⟩:=U;obtain⟨m,m,m⟩:=qc hn2;exact⟨d,l,(q:Nat),(t:Nat),λW=>eQ key p 1 d q W L (by omega) hn1,λW=>eQ key q 2 l t W L (by omega) hn2,fp F.o.2 B hn1 hn2,by omega,by omega,by omega,by omega⟩
   have O:=gB H;have K:cB (b++[(⟨d,l⟩:hC)])=cB b+1:=by simp
   clear H;go_wp2_with fail;refine tD (Z.o _) ?_;go_wp2_with fail;refine tD (D.o _) ?_;go_wp2_with(at_builtin;refine yP rfl _ _ rfl underlying129 tS rfl (by omega) (by omega) rfl f.o rfl rfl (cs:=#[tA d,tA l]) rfl (by simp[mA.oneCell']) (by omega) M ?_;intro m G o o I);have n:=o.o;rw[show wC b++(#[mA.string d,tA l]).toList=wC (b++[⟨d,l⟩]) by rw[cG];rfl,<-K]at n;exact⟨⟨b++[(⟨d,l⟩:hC)],t,m,G,rfl,by rw[K],by omega,by omega,by omega,⟨ze F.o.1 h,O.o⟩,n,c.trans (I.o.below M λi h e=>by omega)⟩,by simp only[lenOf];omega⟩
  have I:=mw F.o.2 (by omega);obtain⟨S,_,_,_⟩:=mK f.o;have X:fB (qE wr w.1.size (cC g) b):=zJ f.o;have V:fB (gF 141 #[uA (cC g) (cB b) z] wr (tA (wI b))):=KO _ z b wr X.o.B F.o.1 (by omega) S;have r:fB (key.toList.isEmpty=decide (key.size=0)):=by
   show _=_;rw[ByteArray.toList_eq,fR];cases key.data.toList<;>simp
  have R:(sG key=(b,iA)/\key.toList.isEmpty=gA/\((wI b).toList==key.toList)=iA)\/(sG key=([],gA)/\key.toList.isEmpty=iA)\/(sG key=([],gA)/\key.toList.isEmpty=gA/\((wI b).toList==key.toList)=gA):=by
   obtain⟨j,o,H⟩|⟨j,o⟩:=I
   .left;refine⟨j,?_,?_⟩
    .rw[r.o];exact Ub (by omega)
    rw[o];simp
   by_cases T:key.size=0
   .right;left;exact⟨j,by rw[r.o];exact Ac T⟩
   right;right;refine⟨j,by rw[r.o];exact Ub T,?_⟩;rw[<-Bool.not_eq_true];intro h;obtain o|o:=o;exact T o;exact o (toList_inj (by simpa using h))
  have A:s<=0\/(0<s/\(key.size:Int)<=s)\/(0<s/\s<(key.size:Int)/\(16:Int)<(cB b:Nat)):=by omega
  clear I f J r;generalize wI b=h at *;obtain⟨j,o,H⟩|⟨j,o⟩|⟨j,o,H⟩:=R
  .have E:fB _:=j;clear j;obtain u|⟨u,m⟩|⟨u,m,x⟩:=A
   all_goals
    go_wp2_with fail;apply oC V.o;intro N k;have D:fB (qE N w.1.size (cC g) b/\zB w N):=⟨X.o.z k,xB c k⟩
    clear k;go_wp2;refine bodyPost_ret (v:=bB #[uA (cC g) (cB b) z,vA iA]) (by simp[results,results199,go_sem]) rfl ⟨cC g,z,?_,?_,D.o.2⟩
    .rw[E.o]
    rw[E.o];exact D.o.1
  .have E:fB _:=j;clear j;obtain u|⟨u,m⟩|⟨u,m,x⟩:=A
   all_goals
    go_wp2;refine bodyPost_ret (v:=bB #[uA (cC wr.1.size) 0 0,vA gA]) (by simp[results,results199,go_sem]) rfl ?_;first
     |exact⟨fA ⟨wr.1.size,0,eA⟩,0,by rw[E.o];rfl,by rw[E.o];exact Ca rfl,xB c aC⟩
     |exact⟨fA ⟨wr.1.size,0,eA⟩,⟨0,by rw[E.o];rfl⟩,by rw[E.o];exact Ca rfl,xB c aC⟩
     |exact⟨⟨fA ⟨wr.1.size,0,eA⟩,⟨0,by rw[E.o];rfl⟩,by rw[E.o];exact Ca rfl⟩,xB c aC⟩
     |exact⟨⟨fA ⟨wr.1.size,0,eA⟩,0,by rw[E.o];rfl,by rw[E.o];exact Ca rfl⟩,xB c aC⟩
  have E:fB _:=j;clear j;obtain u|⟨u,m⟩|⟨u,m,x⟩:=A
  all_goals
   go_wp2_with fail;apply oC V.o;intro N k;have D:fB _:=xB c k;clear k;go_wp2;refine bodyPost_ret (v:=bB #[uA (cC N.1.size) 0 0,vA gA]) (by simp[results,results199,go_sem]) rfl ⟨cC N.1.size,0,?_,?_,xB D.o aC⟩
   .rw[E.o];rfl
   rw[E.o];exact Ca rfl
def NA(key:vB):cB (sG key).1<=16:=by grind [sG,MQ,WR,LP]
def uY(key:vB)(w:jA)(q:key.size<=1000000000)(k:iH w):
 gF 228 #[tA key] w (tA (aL (sG key).1)):=by
 have r:=NA key;have i:fB (lA prog 272 #[tA key] w λe c=>∃a b,e=zA (bB #[.slice a (cB (sG key).1) b,vA (sG key).2])/\qE c w.1.size a (sG key).1/\zB w c):=cj key w q k;clear k;generalize (sG key).1=L at *;generalize (sG key).2=p at *;generalize j:aL L=M;have n:fB _:=j;clear j;go_enter func228,ntmps228;go_wp2_with fail;refine i.o.mono ?_;rintro e h ⟨a,b,rfl,g,d⟩;have o:fB (gF 273 #[uA a (cB L) b] h (tA M)):=by
  have:=EQ a b L h g.B (by omega);rw[n.o]at this;exact this
 have l:fB _:=d;clear g d i;go_wp2_with fail;apply oC o.o;intro s f;have m:fB _:=xB l.o f;clear f;go_wp2;go_ret;exact⟨rfl,m.o⟩
def nZ(key:vB)(w:jA)(z:key.size<=1000000000):
 gF 200 #[tA key] w (tA (aL (sG key).1)):=by
 have G:=NA key;have u:fB (lA prog 199 #[tA key] w λe n=>∃a g,e=zA (bB #[.slice a (cB (sG key).1) g,vA (sG key).2])/\qE n w.1.size a (sG key).1/\zB w n):=KM key w z;generalize (sG key).1=c at *;generalize (sG key).2=p at *;go_enter func200,ntmps200;go_wp2_with fail;refine u.o.mono ?_;rintro e s ⟨a,g,rfl,j,h⟩;have y:fB (vD s a c):=j.B;have t:fB _:=h;clear j h u;go_wp2;go_loopw [6,14] (λ_ i wr=>∃k:Nat,k<=cB c/\i=dB k/\fB (aL c=aL (c.drop k))/\zB s wr) (λ_ i _=>cB c-(intOf i).toNat)
 case atStart=>exact⟨0,Oa _,rfl,rfl,jD⟩
 case round=>
  obtain⟨k,F,rfl,q,d⟩:=hrel;by_cases l:k<cB c
  .obtain ⟨b,o,rfl,D,B,C⟩:=(y.o.z d).at l;have m:=UF c k l;have v:fB (bP c[k]=(c[k].N.toList==[95,95,110,97,109,101,95,95])):=by show _=_;rw[bP,OZ]
   generalize c[k].N=x at *;by_cases f:bP c[k]=iA
   .have r:(x.toList==[95,95,110,97,109,101,95,95])=iA:=by rw[<-v.o];exact f
    have E:fB (aL c=c[k].V):=by show _=_;rw[q.o,m,Ma f]
    clear m f;generalize c[k].V=A at *;go_wp2;go_ret;exact⟨by rw[E.o];rfl,xB t.o (xB d aC)⟩
   have r:(x.toList==[95,95,110,97,109,101,95,95])=gA:=by rw[<-v.o];simpa using f
   have E:fB (aL c=aL (c.drop (k+1))):=by show _=_;rw[q.o,m,Ja f]
   clear m f;generalize c[k].V=A at *;go_wp2;exact⟨⟨k+1,by omega,by go_num,E.o,xB d aC⟩,by simp[intOf];omega⟩
  have E:fB (aL c=pA):=by
   show _=_;rw[q.o,Yb (by omega)];rfl
  go_wp2;go_ret;exact⟨by rw[E.o];rfl,xB t.o d⟩
theorem aJu(c:UInt8):okM [45] c=okT c:=by
 have e:decide (0<=Lib.indexByte [45] c)=(c==45):=by
  by_cases h:c=45
  .subst h;rfl
  have a:((45:UInt8)==c)=gA:=by simpa using λe=>h e.symm
  have b:(c==45)=gA:=by simpa using h
  simp[Lib.indexByte,a,b]
 rw[okM,okT,e]
def ig(s:vB):cT s 32 ⟨#[45]⟩=xC s:=by grind [cT,xC,aJu]
def jM(s:vB)(w:jA)(b:s.size<=maxLen):bM 96 #[tA s] w (vA (xC s)):=by
 have H:fB _:=λW=>ig s ▸ JS s 32 ⟨#[45]⟩ W b;generalize xC s=R at *;go_enter func96,ntmps96;go_wp2_with fail;apply dR (H.o _);go_wp2;go_ret;exact⟨rfl,rfl⟩
def aFz(c:UInt8):okT c=decide ((97<=(c.toNat:Int)/\(c.toNat:Int)<=122)\/(48<=(c.toNat:Int)/\(c.toNat:Int)<=57)\/(c.toNat:Int)=45):=by
 have a:(c==45)=decide (c.toNat=45):=by rw[Qb];simp[<-UInt8.toNat_inj]
 rw[Qb];simp[okT,a,Df];omega
def qG(s:vB)(w:jA)(n:s.size<=maxLen):
 bM 66 #[tA s] w (vA (xC s)):=by
 unfold maxLen at n;by_cases c:1<=s.size/\s.size<=32
 .have m:dC (s.size:Int) 1 32=iA:=by unfold dC;simp;omega
  have g:fB (xC s=s.data.toList.all okT):=by show _=_;simp[xC,c.1,c.2]
  have p:=c.1;have q:=c.2;clear c;go_enter func66,ntmps66;go_wp2_with(go_at_call 103;apply oC (zD _ _ _ _);rintro j rfl);go_loop [3,4] (λi _=>∃k:Nat,k<=s.size/\i=dB k/\(s.data.toList.take k).all okT=iA) (λi _=>s.size-(intOf i).toNat)
  case atStart=>exact⟨0,Oa _,rfl,by simp⟩
  case round=>
   obtain⟨k,o,rfl,d⟩:=hrel;have b:fB _:=d;clear d m;by_cases h:k<s.size
   .have a:=AQ (f:=okT) h;rw[b.o,Oc,aFz]at a;have l:fB _:=a;clear a;go_wp2;all_goals first
     |(go_ret
       refine⟨tB ?_,rfl⟩;rw[g.o];refine(ov (k:=k+1) ?_).symm;rw[l.o,Xe];simp at *;omega)
     |(refine⟨⟨k+1,by omega,by go_num,?_⟩,by simp[intOf];omega⟩
       rw[l.o,Af];simp at *;omega)
   go_wp2;go_ret;exact⟨tB (by rw[g.o,<-b.o,Ra (by simp;omega)]),rfl⟩
 have m:dC (s.size:Int) 1 32=gA:=by unfold dC;simp;omega
 have g:fB (xC s=gA):=by show _=_;simp[xC];omega
 go_enter func66,ntmps66;go_wp2_with(go_at_call 103;apply oC (zD _ _ _ _);rintro j rfl);go_ret;exact⟨tB g.o.symm,rfl⟩
def dV(s:vB)(w:jA)(h:s.size<=1000000000)(d:iH w):gF 227 #[tA s] w (vA (dF s)):=by
 have H:fB (gF 271 #[tA s] w (dB (zO s:Nat))):=JR s w h d;have c:fB (dF s=(!s.toList.isEmpty&&decide (zO s=0))):=rfl;clear d;generalize zO s=v at *;by_cases a:s.toList.isEmpty=iA
 .go_enter func227,ntmps227;go_wp2;go_ret;exact⟨tB (by rw[c.o,a];rfl),jD⟩
 have f:s.toList.isEmpty=gA:=by simpa using a
 clear a;go_enter func227,ntmps227;go_wp2_with fail;apply oC H.o;intro i g;go_wp2;go_ret;exact⟨tB (by rw[c.o,f];rw[Qb];simp),g⟩
def kM(s:vB)(w:jA)(g:s.size<=1000000000):gF 122 #[tA s] w (vA (dF s)):=by
 have H:fB (gF 198 #[tA s] w (dB (zO s:Nat))):=KP s w g;have c:fB (dF s=(!s.toList.isEmpty&&decide (zO s=0))):=rfl;generalize zO s=v at *;by_cases a:s.toList.isEmpty=iA
 .go_enter func122,ntmps122;go_wp2;go_ret;exact⟨tB (by rw[c.o,a];rfl),jD⟩
 have d:s.toList.isEmpty=gA:=by simpa using a
 clear a;go_enter func122,ntmps122;go_wp2_with fail;apply oC H.o;intro h f;go_wp2;go_ret;exact⟨tB (by rw[c.o,d];rw[Qb];simp),f⟩
def aFp{key:vB}(h:(sG key).2=gA):(aL (sG key).1).toList.isEmpty=iA:=by rw[(LP h).1];simp[aL]
def GX(s:vB)(w:jA)(i:s.size<=1000000000):gF 123 #[tA s] w (vA (gK s)):=by
 have d:fB (lA prog 199 #[tA s] w λe f=>∃a c,e=zA (bB #[.slice a (cB (sG s).1) c,vA (sG s).2])/\qE f w.1.size a (sG s).1/\zB w f):=KM s w i;have k:fB _:=λW=>nZ s W i;have h:fB (gK s=!(aL (sG s).1).toList.isEmpty):=rfl;cases hd:(sG s).2 with
 |false=>
  have l:=aFp hd;rw[hd]at d;generalize aL (sG s).1=m at *;generalize (sG s).1=L at *;clear hd;go_enter func123,ntmps123;go_wp2_with fail;refine d.o.mono ?_;rintro e n ⟨a,c,rfl,_,b⟩;go_wp2;go_ret;exact⟨tB (by rw[h.o,l];rfl),b⟩
 |true=>
  rw[hd]at d;generalize aL (sG s).1=m at *;generalize (sG s).1=L at *;clear hd;go_enter func123,ntmps123;go_wp2_with fail;refine d.o.mono ?_;rintro e n ⟨a,c,rfl,_,b⟩;have j:fB _:=b;clear b;go_wp2_with fail;apply oC (k.o _);intro o g;go_wp2;go_ret;exact⟨tB (by rw[h.o]),xB j.o g⟩
def CH(t:kB)(c d:nC)(f g:Nat)(w:jA):gF 121 #[.agg #[tA t.N,dB t.L,uA c (cB t.M) f,uA d (cB t.Z) g]] w (vA (eF t)):=by
 have E:fB (eF t=(t.L==-1&&cB t.M==0&&cB t.Z==0)):=rfl;generalize cB t.M=h at *;generalize cB t.Z=j at *;generalize t.L=L at *;by_cases a:L = -1
 .by_cases b:h=0
  .go_enter func121,ntmps121;go_wp2;go_ret;exact⟨tB (by rw[E.o,a,b];rw[Qb];simp),aC⟩
  go_enter func121,ntmps121;go_wp2;go_ret;exact⟨tB (by rw[E.o,a];rw[Qb];simp[b]),aC⟩
 go_enter func121,ntmps121;go_wp2;go_ret;exact⟨tB (by rw[E.o];rw[Qb];simp[a]),aC⟩
def tT(x:Int)(w:jA):bM 163 #[dB x] w (vA (dC x (-1) 1000000)):=by
 by_cases h:x = -1
 .have E:fB (dC x (-1) 1000000=iA):=by show _=_;subst h;rfl
  go_enter func163,ntmps163;go_wp2_with(go_at_call 76;apply oC (pG _ _);rintro a rfl);go_ret;exact⟨tB E.o.symm,rfl⟩
 have E:fB (dC x (-1) 1000000=dC x 0 1000000):=by
  show _=_;unfold dC;congr 1;rw[Qb];simp;omega
 go_enter func163,ntmps163;go_wp2_with(go_at_call 76;apply oC (pG _ _);rintro a rfl);go_ret;exact⟨tB (by rw[E.o,show(x==-1)=gA by simpa using h,Rf]),rfl⟩
section
open Go.Maps Go.ChangeMaps
def vI(n:Int):DataW Unit:=.lit (.int .i64 n)
def nF(g:Nat):DataW Unit:=.lit (.int .i64 (g:Int))
def wE:mA->Option (DataW Unit×List MemPlace)
 |xA (fA ⟨g,0,eA⟩)=>fA (nF g,[])
 |xA eA=>fA (.nil,[])
 |_=>eA
def yW(g:Nat):wE (.pointer (cC g))=fA (nF g,[]):=rfl
def pL:Keyed prog 9:=string_keyed underlying9
def zM{s:vB}(h:s.size<=maxLen):keyOf prog 9 (tA s)=fA (kL s):=WideMaps.keyOf_string_mk underlying9 h
def QJ{H:Type}{P:Program}{w:jA}{k:TypeId}{R:mA->Option (DataW H×List MemPlace)}{b n:Nat}{D:DataW H}(h:w.ownsMap P k R b n D):w.ownsMap P k R b (Maps.size D) D:=by
 obtain⟨c,a,d,F,e,rfl⟩:=h;refine⟨c,a,d,F,?_,rfl⟩;rw[size_eq,length_sorted,Xa,Qg];exact Ia _
structure kR(w:World)(S:Nat→Prop)(x:Nat)(t:kB)(M lm sm cm:Nat)(iv:Value)(Q:List (pB×Nat))(hs:List rI)(D:DataW Unit):Prop where
 blk:rB w x #[dB t.L,.map (fA lm),.map (fA sm),.map (fA cm),iv] 233
 lims:w.ownsMap prog 9 (plainElem prog 3) lm (cB t.M) (fE (t.M.map λp=>(p.s,vI p.n)))
 Z:w.ownsMap prog 9 wE sm (cB Q) (fE (Q.map λq=>(q.1.s,nF q.2)))
 cnts:w.ownsMap prog 9 (plainElem prog 3) cm M D
 cnt:∀m:vB,D.atKey (kL m) (vI 0)=vI (sI cE t.Z m)
 q1:Q.map (·.1)=t.Z
 cells:∀q∈Q,rB w q.2 #[tA q.1.s,dB q.1.n] 109
 row:w.ownsRow 0 342 2 iv (cB hs) (fK hs)
 heap:nJ hs
 perm:(hs.map (·.b)).Perm (Q.map (·.2))
 early:∀h∈hs,∀q∈Q,q.2=h.b→h.t≤q.1.n
 rm:zC (·.s) t.M
 rs:zC (·.s) t.Z
 sx:S x
 sl:S lm
 ss:S sm
 sc:S cm
 sq:∀q∈Q,S q.2
 si:∀g,iv.ownBlock=fA g→S g
 d1:lm≠sm
 d2:lm≠cm
 d3:sm≠cm
 nd:(Q.map (·.2)).Nodup
 dx:∀q∈Q,q.2≠x
 di:∀g,iv.ownBlock=fA g→g≠x∧∀q∈Q,q.2≠g
def yD(w:jA)(S:Nat->Prop)(x:Nat)(t:kB)(M:Nat):Prop:=∃d e a c Q b D,kR w S x t M d e a c Q b D
def mz{w:jA}{B:Nat}{e:TypeId}{a:Nat}{v:mA}{n:Nat}{i:List mA}(h:w.ownsRow B e a v n i):∀g,v.ownBlock=fA g->g<w.1.size:=by
 intro g b;obtain⟨rfl,_⟩|⟨j,c,d,rfl,_,f,_⟩:=h.2
 .cases b
 simp only[mA.ownBlock,Qa]at b;subst b;exact eB f
def kR.keep{w w':jA}{S S':Nat->Prop}{x:Nat}{t:kB}{M u v m:Nat}{s:mA}{Q:List (pB×Nat)}{f:List rI}{D:DataW Unit}(h:kR w S x t M u v m s Q f D)
(c:∀g,g<w.1.size->S g->w'.heap[g]?=w.heap[g]?/\S' g):kR w' S' x t M u v m s Q f D:=by
 have p:∀{R:mA->Option (DataW Unit×List MemPlace)}{b n:Nat}{E:DataW Unit},w.ownsMap prog 9 R b n E->S b->w'.ownsMap prog 9 R b n E:=fun{R b n E} h f=>by
  have o:=h.lt;obtain⟨A,d,i,r⟩:=h;exact⟨A,d,(c b o f).1.trans i,r⟩
 have i:∀{g:Nat}{a:Array mA}{y:TypeId},rB w g a y->S g->rB w' g a y:=fun{g a y} h f=>(c g (eB h) f).1.trans h;exact { h with
  blk:=i h.blk h.sx
  lims:=p h.lims h.sl
  Z:=p h.Z h.ss
  cnts:=p h.cnts h.sc
  cells:=λq k=>i (h.cells q k) (h.sq q k)
  row:=by
   refine⟨h.row.1,?_⟩;obtain B|⟨g,l,a,e,C,j,r⟩:=h.row.2;exact Ca B;have:s.ownBlock=fA g:=by rw[e];rfl
   exact La ⟨g,l,a,e,C,i j (h.si g this),r⟩
  sx:=(c x (eB h.blk) h.sx).2
  sl:=(c u h.lims.lt h.sl).2
  ss:=(c v h.Z.lt h.ss).2
  sc:=(c m h.cnts.lt h.sc).2
  sq:=λq k=>(c q.2 (eB (h.cells q k)) (h.sq q k)).2
  si:=λg z=>(c g (mz h.row g z) (h.si g z)).2}
def yD.keep{w w':jA}{S S':Nat->Prop}{x:Nat}{t:kB}{M:Nat}(h:yD w S x t M)(b:∀g,g<w.1.size->S g->w'.heap[g]?=w.heap[g]?/\S' g):yD w' S' x t M:=by
 obtain⟨e,f,a,d,Q,c,D,h⟩:=h;exact⟨e,f,a,d,Q,c,D,h.keep b⟩
def yD.z{w a:jA}{S:Nat->Prop}{x:Nat}{t:kB}{M:Nat}(h:yD w S x t M)(b:zB w a):yD a S x t M:=h.keep λg c d=>⟨b.block g c,d⟩
def yD.lt{w:jA}{S:Nat->Prop}{x:Nat}{t:kB}{M:Nat}(h:yD w S x t M):x<w.1.size:=by
 obtain⟨d,e,a,c,Q,b,D,h⟩:=h;exact eB h.blk
def yD.mono{w:jA}{S:Nat->Prop}{x:Nat}{t:kB}{M a:Nat}(h:yD w S x t M)(c:M<=a):yD w S x t a:=by
 obtain⟨f,g,b,e,Q,d,D,h⟩:=h;exact⟨f,g,b,e,Q,d,D,{ h with cnts:=h.cnts.mono c}⟩
def EW(a:Int)(o:vB)(w:jA):
 lA prog 164 #[dB a] w λe d=>∃x,e=zA (.pointer (cC x))/\w.1.size<=x/\yD d (λg=>w.1.size<=g) x ⟨o,a,[],[]⟩ 0/\zB w d:=by
 have j:=@run_makeMap prog;go_enter func164,ntmps164;go_wp2;go_ret;refine⟨w.1.size+1+1+1,rfl,by omega,⟨w.1.size,w.1.size+1,w.1.size+1+1,uA eA 0 0,[],[],.map [],?_⟩,xB (xB (xB aC aC) aC) aC⟩;have k:∀R:mA->Option (DataW Unit×List MemPlace),(w.alloc (.map #[] 0)).ownsMap prog 9 R w.1.size 0 (.map []):=λR=>jA.ownsMap_made w _ _ R;have l:∀R:mA->Option (DataW Unit×List MemPlace),((w.alloc (.map #[] 0)).alloc (.map #[] 0)).ownsMap prog 9 R (w.1.size+1) 0 (.map []):=λR=>by have:=jA.ownsMap_made (w.alloc (.map #[] 0)) prog 9 R;simpa using this
 have n:∀R:mA->Option (DataW Unit×List MemPlace),(((w.alloc (.map #[] 0)).alloc (.map #[] 0)).alloc (.map #[] 0)).ownsMap prog 9 R (w.1.size+1+1) 0 (.map []):=λR=>by have:=jA.ownsMap_made ((w.alloc (.map #[] 0)).alloc (.map #[] 0)) prog 9 R;simpa using this
 exact {
  blk:=by have:=rB.new (((w.alloc (.map #[] 0)).alloc (.map #[] 0)).alloc (.map #[] 0)) #[dB a,.map (fA w.1.size),.map (fA (w.1.size+1)),.map (fA (w.1.size+1+1)),uA eA 0 0] 233;simpa using this
  lims:=(((k _).alloc _).alloc _).alloc _
  Z:=((l _).alloc _).alloc _
  cnts:=(n _).alloc _
  cnt:=λm=>rfl
  q1:=rfl
  cells:=λq b=>by cases b
  row:=jA.ownsRow_nil _ _ _ _
  heap:=λi _ h=>by simp at h
  perm:=Lf _
  early:=λh f=>by cases f
  rm:=Gd
  rs:=Gd
  sx:=by show w.1.size<=_;omega
  sl:=Ia _
  ss:=by show w.1.size<=_;omega
  sc:=by show w.1.size<=_;omega
  sq:=λq b=>by cases b
  si:=λg c=>by cases c
  d1:=by omega
  d2:=by omega
  d3:=by omega
  nd:=List.nodup_nil
  dx:=λq b=>by cases b
  di:=λg c=>by cases c}
def OD(x:Nat)(t:kB)(S:Nat->Prop)(M:Nat)(w:jA)(h:yD w S x t M):
 bM 167 #[.pointer (cC x)] w (vA (eF t)):=by
 obtain⟨g,j,o,q,Q,p,D,h⟩:=h;have l:gD w x 0 (dB t.L):=h.blk.cell 0;have m:gD w x 1 (.map (fA g)):=h.blk.cell 1;have n:gD w x 2 (.map (fA j)):=h.blk.cell 2;have f:=h.lims.len underlying227 3;have d:=h.Z.len underlying228 3;rw[pM]at f d;have c:cB Q=cB t.Z:=by rw[<-h.q1,Xa]
 rw[c]at d;clear h c;have E:fB (eF t=(t.L==-1&&cB t.M==0&&cB t.Z==0)):=rfl;generalize cB t.M=i at *;generalize cB t.Z=r at *;generalize t.L=L at *;by_cases a:L = -1
 .by_cases b:i=0
  .go_enter func167,ntmps167;go_wp2;go_ret;exact⟨tB (by rw[E.o,a,b];rw[Qb];simp),rfl⟩
  go_enter func167,ntmps167;go_wp2;go_ret;exact⟨tB (by rw[E.o,a];rw[Qb];simp[b]),rfl⟩
 go_enter func167,ntmps167;go_wp2;go_ret;exact⟨tB (by rw[E.o];rw[Qb];simp[a]),rfl⟩
end
theorem nt(w:jA)(B D:Nat)(b:List nB)(c k r s:Int)(H:Bool)(v:mA)(d:yK)(h:aa w B D b c k r s H v d)(I:(mD k r s H).1=0)(X:d.K≠1)(J:1<=d.K/\d.K<=6)(G:tH b d.N (gC d.N b)=iA):AP w B D b c k r s H v d:=by
 unfold AP;have m:=gB h.drive;have HA:=gB h.asc;obtain⟨-,-,o,o,O,W,Y⟩:=h;have E:fB (tI b c k r s H d=((iN b c d).1,(iN b c d).2,(mD k r s H).2)):=by show _=_;rw[tI,Ma I]
 have HR:=gB I;obtain⟨N,-⟩:=AA G;have z:=gB (SU (c:=c) X G N);have HQ:=gB G;have h1b:(d.K==1)=gA:=by simpa using X
 have U:fB (d.K=2\/d.K=3\/d.K=4\/d.K=5\/d.K=6):=by show _\/_;omega
 clear I G J;go_enter func111,ntmps111;go_wp2_with fail;apply oC (eW D 113 v (dB c) k r s H _ (m.o.z aC).blk W Y);rintro w1 ⟨n,l⟩;have J:fB _:=(m.o.z aC).charged n l;have W:fB _:=wJ.charge m.o m.o.size n;have G:¬(w.1.size=D):=by have:=eB m.o.blk;omega
 have HO:fB (ZZ w1 w.1.size d 140):=rB.keeps (S:=λk=>k=D) (g:=w.1.size) (heap_alloc_new w (.cells #[dB d.K,tA d.N,tA d.tq,tA d.data,dB d.size] 140)) (iE.but n) G;obtain⟨Z,u,I,G,L⟩:=HO.o.cells;clear n l;rw[HR.o];simp only[pY];obtain⟨a,cap,rfl,Y⟩:=J.o.files;have p1:=mC.cells u;have p4:=mC.cells J.o.cell4;have hne:=mC.there w1;have m:fB (∀x:mC w1,wB x.w' a b):=λx=>Y.z x.h;have HDx:fB (∀x:mC w1,bD x.w' B D b c (mD k r s H).2.1 r s (mD k r s H).2.2 (uA a (cB b) cap)):=λx=>J.o.z x.h;have HOx:fB (∀x:mC w1,ZZ x.w' w.1.size d 140):=λx=>rB.z HO.o x.h;have R:cB b<=1048576:=by omega
 clear u I G L Y HO;go_wp2_with fail;refine bC (by kernel_rfl) (by kernel_rfl) ?_;repeat (go_big_quiet_step (first|(go_at_call 147;exact rC (uN _ _ _ _ _ (m.o _) HA.o R))))
 refine wpQuiet_nil ?_;rintro _ ⟨y,rfl⟩;have i:fB _:=HDx.o y;have F:fB (ZZ y.w' w.1.size d 140):=HOx.o y;have C:fB _:=W.o.on y.h J.o.size;clear Z p1 p4 hne HDx m HOx J W;generalize y.w'=W at *;clear y;rw[HQ.o];clear h1b X;obtain K|K|K|K|K:=U.o
 all_goals
  have HKD:=gB K;clear U
 .have ED:fB (iN b c d=if c<tC b+d.data.size then(3,b) else(0,b.set (gC d.N b) ⟨b[gC d.N b].N,b[gC d.N b].data++d.data,b[gC d.N b].Y⟩)):=by show _=_;rw[z.o];simp[K]
  obtain⟨Z,u,I,G,L⟩:=F.o.cells;clear u I L;go_wp2_with fail;refine(VY B D _ b c _ r s _ _ d.data _ i.o N R o O).mono ?_;rintro e Y ⟨t,o⟩;have m:fB _:=C.o.trans o;clear o Z G;obtain⟨T,rfl,J⟩|⟨O,rfl,J⟩:=t
  .have A:fB (iN b c d=(3,b)):=by show _=_;rw[ED.o,Ma T]
   have p:fB _:=J;clear J T;go_wp2;go_ret;rw[E.o,A.o];exact⟨rfl,m.o.below,λ_=>m.o.other,_,p.o,λ_=>rfl⟩
  have A:fB (iN b c d=(0,b.set (gC d.N b) ⟨b[gC d.N b].N,b[gC d.N b].data++d.data,b[gC d.N b].Y⟩)):=by show _=_;rw[ED.o,Ja (by omega)]
  have p:fB _:=J;clear J O;go_wp2;go_ret;rw[E.o,A.o];exact⟨rfl,m.o.below,λ_=>m.o.other,_,p.o,λ_=>rfl⟩
 .have A:fB (iN b c d=(0,b.set (gC d.N b) ⟨b[gC d.N b].N,b[gC d.N b].data,b[gC d.N b].data.size⟩)):=by show _=_;rw[z.o];simp[K]
  obtain⟨Z,u,I,G,L⟩:=F.o.cells;obtain⟨g,U,V,hgD,P⟩:=i.o.slice (by omega);simp only[mA.slice.injEq]at V;obtain⟨rfl,_,rfl⟩:=V;obtain⟨q,_,l,hnc,hcm,Q,f⟩:=aK i.o.row;have M:=(f _ N).2.1;rw[Ya]at M;have q4:=i.o.cell4;have HS:fB (lA prog 112 #[xA (fA ⟨g,gC d.N b*3,eA⟩)] W λe w'=>e=zA (bB #[])/\w'=W.setCell ⟨g,gC d.N b*3+2,eA⟩ (dB b[gC d.N b].data.size)):=QC g _ q 115 _ W l M (by omega);have p:fB (bD (W.setCell ⟨g,gC d.N b*3+2,eA⟩ (dB b[gC d.N b].data.size)) B D (b.set (gC d.N b) ⟨b[gC d.N b].N,b[gC d.N b].data,b[gC d.N b].data.size⟩) c (mD k r s H).2.1 r s (mD k r s H).2.2 (uA (cC g) (cB b) cap)):=
   i.o.put ((uD.refl _ _).setCell _ _) (l.set _ _) (by simp[Q]) (ww N f _)
  have m:fB (wJ B w (W.setCell ⟨g,gC d.N b*3+2,eA⟩ (dB b[gC d.N b].data.size))):=C.o.set l (Ca rfl) P _;clear l f M u I G L;go_wp2_with fail;apply oC HS.o;rintro Y rfl;go_wp2;go_ret;rw[E.o,A.o];exact⟨rfl,m.o.below,λ_=>m.o.other,_,p.o,λ_=>rfl⟩
 .cases hb:dC d.size 0 b[gC d.N b].data.size
  .have A:fB (iN b c d=(6,b)):=by show _=_;rw[z.o];simp[K,hb]
   obtain⟨Z,u,I,G,L⟩:=F.o.cells;obtain⟨g,U,V,hgD,P⟩:=i.o.slice (by omega);simp only[mA.slice.injEq]at V;obtain⟨rfl,_,rfl⟩:=V;obtain⟨q,_,l,hnc,hcm,Q,f⟩:=aK i.o.row;have M:=(f _ N).2.1;rw[Ya]at M;have q4:=i.o.cell4;have HS:fB _:=λJ h=>ZO g _ q 115 _ d.size J h M hb;have O:fB (rB W g q 115):=l;clear l f M u I G hb;go_wp2_with fail;go_region_with (go_at_call 191;apply oC (HS.o _ (O.o.z jD.drew));intro Y o)
   all_goals(
    simp only[pY]
    go_wp2
    go_ret
    rw[E.o,A.o];have hR:wJ B w _:=(C.o.on jD.drew i.o.size).on o i.o.size;exact⟨rfl,hR.below,λ_=>hR.other,_,(i.o.z jD.drew).z o,λ_=>rfl⟩)
  have A:fB (iN b c d=(0,b.set (gC d.N b) ⟨b[gC d.N b].N,b[gC d.N b].data.extract 0 d.size.toNat,d.size⟩)):=by show _=_;rw[z.o];simp[K,hb]
  have hdl:b[gC d.N b].data.size<=1000000000:=by
   have X:=jI b _ N;have h2:=wH b (gC d.N b+1);omega
  obtain⟨Z,u,I,G,L⟩:=F.o.cells;obtain⟨g,U,V,hgD,P⟩:=i.o.slice (by omega);simp only[mA.slice.injEq]at V;obtain⟨rfl,_,rfl⟩:=V;obtain⟨q,_,l,hnc,hcm,Q,f⟩:=aK i.o.row;have M:=(f _ N).2.1;rw[Ya]at M;have q4:=i.o.cell4;have HS:fB (∀J,rB J g q 115->lA prog 191 #[xA (fA ⟨g,gC d.N b*3,eA⟩),dB d.size] J λe w'=>e=zA (pY 0)/\uD g J w'/\
   rB w' g ((q.setIfInBounds (gC d.N b*3+1) (tA (b[gC d.N b].data.extract 0 d.size.toNat))).setIfInBounds (gC d.N b*3+2) (dB d.size)) 115):=λJ h=>ii g _ q 115 _ d.size J h M (by omega) hb hdl
  have O:fB (rB W g q 115):=l;have J:fB _:=f;clear l f M u I G hb hdl;go_wp2_with fail;go_region_with (go_at_call 191;apply oC (HS.o _ (O.o.z jD.drew));rintro Y ⟨n,o⟩)
  all_goals(
   simp only[pY]
   go_wp2
   go_ret
   rw[E.o,A.o];have hR:wJ B w _:=(C.o.on jD.drew i.o.size).but n (O.o.z jD.drew) (Ca rfl) P i.o.size;exact⟨rfl,hR.below,λ_=>hR.other,_,(i.o.z jD.drew).put n o (by simp[Q]) (aCy N J.o _ _),λ_=>rfl⟩)
 .have A:fB (iN b c d=(0,tG (b.eraseIdx (gC d.N b)) ⟨d.tq,b[gC d.N b].data,b[gC d.N b].Y⟩)):=by show _=_;rw[z.o];simp[K]
  obtain⟨Z,u,I,G,L⟩:=F.o.cells;clear u G L;go_wp2_with fail;apply oC (mx B D _ b c _ r s _ _ d.tq _ i.o N (HA.o.erase _) R);rintro Y ⟨j,v3,O,o,t⟩;obtain rfl:=O.uniq (bJ d.tq (HA.o.erase _));have m:fB _:=C.o.trans o;have p:fB (bD Y B D (tG (b.eraseIdx (gC d.N b)) ⟨d.tq,b[gC d.N b].data,b[gC d.N b].Y⟩) c (mD k r s H).2.1 r s (mD k r s H).2.2 v3):=by
   obtain⟨X,h2⟩|⟨X,h2⟩:=t;obtain ⟨T,J⟩:=AA X;show bD _ _ _ _ _ _ _ _ _ _;rw[FW (HA.o.erase _) T J];exact h2;show bD _ _ _ _ _ _ _ _ _ _;rw[vV (HA.o.erase _) X];exact h2
  clear t o O;go_wp2;go_ret;rw[E.o,A.o];exact⟨rfl,m.o.below,λ_=>m.o.other,v3,p.o,λh=>(by have:=HKD.o;omega)⟩
 have A:fB (iN b c d=(0,b.eraseIdx (gC d.N b))):=by show _=_;rw[z.o];simp[K]
 obtain⟨Z,u,I,G,L⟩:=F.o.cells;clear u I G L;go_wp2_with fail;apply oC (PG B D _ b c _ r s _ _ _ i.o N R);rintro Y ⟨v3,t,_,o⟩;have p:fB _:=t;have m:fB _:=C.o.trans (wJ.removed i.o o);clear t o;go_wp2;go_ret;rw[E.o,A.o];exact⟨rfl,m.o.below,λ_=>m.o.other,v3,p.o,λh=>(by have:=HKD.o;omega)⟩
def aDh(w:jA)(B D:Nat)(f:List nB)(c k b e:Int)(d:Bool)(v:mA)(a:yK)(h:aa w B D f c k b e d v a)(g:dC a.K 1 6=iA):AP w B D f c k b e d v a:=by grind [dC,AP,mD,tH,gC,gz,ZG,nt,ZH]
