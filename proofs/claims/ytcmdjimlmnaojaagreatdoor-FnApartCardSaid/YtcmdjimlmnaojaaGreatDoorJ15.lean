import Derived.Test.YtcmdjimlmnaojaaGreatDoorJ11
import Derived.Test.YtcmdjimlmnaojaaGreatDoorJ12
import Derived.StillTail
import Derived.Test.YtcmdjimlmnaojaaGreatDoorJ14
set_option maxRecDepth 100000
set_option maxHeartbeats 2000000
set_option linter.defProp false
open Bool renaming true->eA,false->dA
open Option renaming some->cA,none->aA
open ByteArray renaming empty->lA
open List renaming length->zA
namespace Go.Proofs.YtcmdjimlmnaojaaGreatDoor
open Go renaming World->fA,Value->jA
open Value renaming bool->sA,string->pA,slice->qA,tuple->yA
open Ending renaming returned->vA
open Obj renaming cells->xA
open Go.RowKit Tryz
def XQ:Nat->Int->Int
 |0,x=>x
 |k+1,x=>wrap64 (XQ k x+XQ k x)
def shK:Nat->Int->Int
 |0,e=>e
 |k+1,e=>shK k e / 2
def YZ:Nat->Int->Bool
 |0,_=>eA
 |k+1,e=>YZ k e&&(shK k e).tmod 2 != 0
def aZ(b:Int):Bool:=YZ 11 (b / 4503599627370496) &&XQ 12 b != 0
def aHv(b:Int)(w:fA):rI 107 #[aB b] w (sA (aZ b)):=by
 have d:cB (aZ b=(YZ 11 (b / 4503599627370496) &&XQ 12 b != 0)):=rfl;generalize aZ b=V at *;go_enter func107,ntmps107;go_wp2;go_loopw [3,5] (λf i wr=>∃k:Nat,k<=12/\i=aB k/\f=aB (XQ k b)/\wr=w) (λ_ i _=>12-(intOf i).toNat)
 case atStart=>exact⟨0,by omega,rfl,rfl,rfl⟩
 case round=>
  obtain⟨k,g,rfl,rfl,rfl⟩:=hrel;by_cases h:k<12
  .go_wp2;exact⟨⟨k+1,by omega,by go_num,rfl,trivial⟩,by simp[intOf];omega⟩
  obtain rfl:k=12:=by omega
  generalize XQ 12 b=D at *;go_wp2;generalize b / 4503599627370496=E at *;go_loopw [4,6,7] (λe a i l=>∃k:Nat,k<=11/\i=aB k/\e=aB (shK k E)/\a=sA (YZ k E)/\l=wr) (λ_ _ i _=>11-(intOf i).toNat)
  case atStart=>exact⟨0,by omega,rfl,rfl,rfl,rfl⟩
  case round=>
   obtain⟨k,g,rfl,rfl,rfl,rfl⟩:=hrel;by_cases h:k<11
   .have c:YZ (k+1) E=(YZ k E&&(shK k E).tmod 2 != 0):=rfl;generalize YZ k E=y at *;cases y
    all_goals
     replace c:=dB c;go_wp2;exact⟨⟨k+1,by omega,by go_num,rfl,by rw[c.o];simp,trivial⟩,by simp[intOf];omega⟩
   obtain rfl:k=11:=by omega
   generalize YZ 11 E=y at *;cases y
   all_goals
    go_wp2;go_ret;exact⟨by rw[d.o];rfl,rfl⟩
def GU(w:fA)(h:pB)(t:gB)(e:Ending)(a:fA):Prop:=
 ∃M b d c f,e=vA (.agg #[pA h,aB t.L,qA b (zA t.M) d,qA c (zA t.Z) f])/\w.1.size<=M/\lD a w.1.size b t.M/\(∀g o,b=cA (eB g o)->g<M)/\lD a M c t.Z/\M<=a.1.size/\xB w a
def flatK(a:List kB):List jA:=a.flatMap λx=>[pA x.s,aB x.n]
def WW(w:fA)(h:pB)(t:gB)(e:Ending)(a:fA):Prop:=
 ∃M b f c d,e=vA (.agg #[pA h,aB t.L,qA b (zA t.M) f,qA c (zA t.Z) d])/\w.1.size<=M/\lD a w.1.size b t.M/\(∀g o,b=cA (eB g o)->g<M)/\a.ownsRow M 134 2 (qA c (zA t.Z) d) (zA t.Z) (flatK t.Z)/\M<=a.1.size/\xB w a
def WW.tel{w:fA}{a:pB}{t:gB}{e:Ending}{b:fA}(h:WW w a t e b):GU w a t e b:=by
 obtain⟨M,c,f,d,g,i,j,k,l,m,n⟩:=h;exact⟨M,c,f,d,g,i,j,k,l,bE m,n⟩
def mW(a b:List kB):flatK (a++b)=flatK a++flatK b:=by simp[flatK]
def iM(a:List kB):zA (flatK a)=zA a*2:=by induction a<;>grind [flatK]
def tP(b:List kB):∀u∈flatK b,u.oneCell'=eA:=by
 intro u a;simp only[flatK,Ig]at a;obtain⟨x,_,a⟩:=a;simp only[Lb,List.mem_nil_iff,Bf]at a;rcases a with rfl|rfl<;>rfl
def UR:∀(a:List kB)(j:Nat)(u:jA),(flatK a)[j]?=cA u->∃i,∃h:i<zA a,(j=i*2/\u=pA a[i].s)\/(j=i*2+1/\u=aB a[i].n)
 |[],j,u,h=>by simp[flatK]at h
 |x::r,0,u,h=>⟨0,by simp,Ca ⟨rfl,by simpa[flatK]using h.symm⟩⟩
 |x::r,1,u,h=>⟨0,by simp,La ⟨rfl,by simpa[flatK]using h.symm⟩⟩
 |x::r,j+2,u,h=>by
  have b:(flatK r)[j]?=cA u:=by simpa[flatK]using h
  obtain⟨i,c,q⟩:=UR r j u b;refine⟨i+1,by simpa using c,?_⟩;obtain⟨e,q⟩|⟨e,q⟩:=q;exact Ca ⟨by omega,by simpa using q⟩;exact La ⟨by omega,by simpa using q⟩
def xN{w:fA}{b o:Nat}{c:List kB}(h:∀i(d:i<zA c),w.cell? (eB b (o+i*2))=cA (pA c[i].s)/\w.cell? (eB b (o+i*2+1))=cA (aB c[i].n)):
 ∀j u,(flatK c)[j]?=cA u->w.cell? (((eB b o):Addr).add j)=cA u:=by
 intro j u e;have a:((eB b o):Addr).add j=(eB b (o+j)):=by unfold Addr.add;split<;>simp_all
 rw[a];obtain⟨i,d,q⟩:=UR c j u e;obtain⟨rfl,rfl⟩|⟨rfl,rfl⟩:=q;exact (h i d).1;exact (h i d).2
def wQ:(prog.info? 131).map (λi=>(i.zero,i.size,i.bytes))=cA (cA (.agg #[pA lA,aB 0,qA aA 0 0,qA aA 0 0]),4,72):=by kernel_rfl
def aJz(a:List gB):Prop:=∀i(h:i<zA a),zA a[i].M<=1048576/\zA a[i].Z<=1048576
def dD.mono{B B':Nat}{w:fA}{a:nC}{k:List gB}(h:dD w B a k)(f:B'<=B):dD w B' a k:=by
 obtain h|⟨d,o,c,t,T,rfl,G,g,u,h⟩:=h;exact Ca h;have m:∀{n a j},zE w B T n a j->zE w B' T n a j:=fun{n a j} h=>by
  obtain h|⟨d,E,b,F,e,f,r⟩:=h;exact Ca h;exact La ⟨d,E,b,F,e,by omega,r⟩
 refine La ⟨d,o,c,t,T,rfl,by omega,g,u,λi v=>?_⟩;obtain⟨l,q,p,s,x,y,z,A,C,D⟩:=h i v;exact⟨l,q,p,s,x,y,z,A,m C,m D⟩
def aAi(B:Nat)(r:Rd)(w:fA)(c:RB w B r):
 rI 291 #[.pointer (vB B)] w (sA (nR r)):=by
 have d:=jB.cell c 0;have f:=jB.cell c 1;simp only[Xb,Ob,Ga]at d f;have g:cB (ByteArray.empty.toList=[]):=by show _=_;rw[ByteArray.toList_eq];rfl
 obtain⟨a,b⟩:=r;simp only at d f;clear c;cases b with
 |true=>
  have E:cB (nR ⟨a,eA⟩=dA):=rfl;go_enter func291,ntmps291;go_wp2;go_ret;exact⟨oB E.o.symm,rfl⟩
 |false=>
  have E:cB (nR ⟨a,dA⟩=a.toList.isEmpty):=by
   show _=_;unfold nR;rw[g.o];cases a.toList<;>rfl
  go_enter func291,ntmps291;go_wp2;go_ret;exact⟨oB E.o.symm,rfl⟩
def ma{a:List cC}(h:(wB a).2.1=0):0<zA (wB a).1/\0<zA a:=by
 obtain⟨d,e⟩:=JX a;by_cases c:(fI a).1=0
 .obtain ⟨b,_,g,_⟩:=d c;have f:=VB g;have i:=zZ a;rw[b];simp only;rw[CH];exact⟨f,by omega⟩
 have b:=e c;rw[b]at h;exact absurd h c
def NA:∀(a b:List cC),Lib.allEq nU a b=vH a b
 |[],[]=>rfl
 |[],_::_=>rfl
 |_::_,[]=>rfl
 |x::r,y::q=>by rw[Lib.allEq,vH,NA r q]
def PK[Inhabited cC]{w:fA}{b o:Nat}{c:List cC}(h:mP w b o c):∀j,j<zA c->∀i v,(lU c[j]!)[i]?=cA v->w.cell? ⟨b,o+j*2+i,aA⟩=cA v:=by grind [mP,lU]
def qD.some{w:fA}{a:nC}{c:List cC}(h:qD w a c)(d:0<zA c):∃b o,a=cA (eB b o)/\b<w.1.size/\mP w b o c:=by
 obtain rfl|h:=h;exact absurd d (by simp);exact h
def dh(w:fA)(q:Nat):xB w (w.drewN q):=⟨rfl,rfl,rfl,Ia _,λ_ _=>rfl⟩
def wj(a j:nC)(g b:Nat)(d f:List cC)(w:fA)(p:qD w a d)(s:qD w j f)(h:0<zA d)(i:0<zA f)(r:zA d<=2000000)(t:zA f<=2000000):
 cF 319 #[qA a (zA d) g,qA j (zA f) b] w (sA (vH d f)):=by
 obtain⟨l,u,rfl,_,n⟩:=p.some h;obtain⟨m,v,rfl,_,o⟩:=s.some i;haveI:=aHn
 have c:=AnyQ.slices_Equal eqlL 2 isAgg175 sizeOf175 lU (λ_=>rfl) nU aLm l u (zA d) g m v (zA f) b d f w (Ia _) (Ia _) (by omega) (by omega) (PK n) (PK o);change Calls prog 319 _ _ _ at c;apply jC c;rintro k ⟨q,rfl⟩;rw[Rb,Rb,NA];exact⟨rfl,dh w q⟩
def xp(a:nC)(d:Nat)(b:List cC)(w:fA)(s:qD w a b)(z:WR b)(h:zA b<=2000000)(k:zA b<=d)(A:kH w):
 cF 292 #[qA a (zA b) d] w (sA (jO b)):=by
 have l:cB (Calls prog 216 #[qA a (zA b) d] w λe n=>∃y g,e=vA (yA #[.slice y (zA (wB b).1) g,aB ((wB b).2.1:Nat),aB ((wB b).2.2:Nat)])/\zA (wB b).1<=g/\zD n w.1.size y (wB b).1/\xB w n):=AX a d b w s z h k A;have D:cB (qD w a b):=s;have J:=NJ b;clear s z A;by_cases i:(wB b).2.1=0
 .obtain ⟨t,u⟩:=ma i;have p:cB _:=λW m q H I=>wj m a q d _ b W H I t u (by omega) h;have E:cB (jO b=vH (wB b).1 b):=by show _=_;unfold jO;rw[i];rfl
  have r:(((wB b).2.1:Int)==0)=eA:=by simp;omega
  rw[E.o];clear i E;generalize vH (wB b).1 b=K at *;generalize (wB b).1=C at *;generalize (wB b).2.1=F at *;generalize (wB b).2.2=G at *;go_enter func292,ntmps292;go_wp2_with fail;refine l.o.mono ?_;rintro e v ⟨m,q,rfl,_,f,c⟩;have o:cB _:=c;have x:cB (qD v m C/\qD v a b):=⟨f.B,D.o.z c⟩
  clear f c l;go_wp2_with fail;apply jC (p.o _ _ _ x.o.1 x.o.2);intro L j;have B:cB _:=aC o.o j;clear j;go_wp2;go_ret;exact⟨rfl,B.o⟩
 have E:cB (jO b=dA):=by show _=_;unfold jO;rw[Ub i];rfl
 have r:(((wB b).2.1:Int)==0)=dA:=by simp;omega
 rw[E.o];clear i E;generalize (wB b).1=C at *;generalize (wB b).2.1=F at *;generalize (wB b).2.2=G at *;go_enter func292,ntmps292;go_wp2_with fail;refine l.o.mono ?_;rintro e v ⟨m,q,rfl,_,f,c⟩;have o:cB _:=c;clear f c l;go_wp2;go_ret;exact⟨rfl,o.o⟩
def aKl(key:pB):XK key<=255:=by
 have:=pa 1 ⟨key,dA⟩;unfold XK;omega
def eg(key:pB)(w:fA)(D:key.size<=1000000000)(s:kH w):
 Calls prog 256 #[pA key] w λe p=>∃a j,e=vA (yA #[.slice a (zA (wG key).1) j,sA (wG key).2])/\zD p w.1.size a (wG key).1/\xB w p:=by
 have r:=dB (λW B(h:RB W B ⟨key,dA⟩)=>PJ h D);rw[show mV (kK 1 ⟨key,dA⟩).2 (kK 1 ⟨key,dA⟩).1=lH key by rw[lH,XK]]at r;have d:WR (lH key).1:=λi C=>by
  have:=zi key i C;exact⟨by omega,by omega⟩
 have t:zA (lH key).1<=255:=by
  have h:zA (lH key).1=XK key:=by rw[lH];exact CU _ _
  have:=aKl key;omega
 have y:cB (∀W B,RB W B (lH key).2->rI 291 #[.pointer (vB B)] W (sA (nR (lH key).2))):=λW B h=>aAi B _ W h;have u:cB _:=λW a c h z A=>xp a c _ W h d (by omega) A z;have x:=dB s;have f:=dB (⟨heap_alloc_new _ _,bC⟩:RB (w.alloc (xA #[pA key,sA dA] 164)) w.1.size ⟨key,dA⟩/\xB w (w.alloc (xA #[pA key,sA dA] 164)));have q:w.1.size<(w.alloc (xA #[pA key,sA dA] 164)).1.size:=by simp
 have E:nR (lH key).2=eA/\(jO (lH key).1=eA/\wG key=((lH key).1,eA)\/jO (lH key).1=dA/\wG key=([],dA))\/nR (lH key).2=dA/\wG key=([],dA):=by
  rw[wG];cases nR (lH key).2<;>cases jO (lH key).1<;>simp
 clear s d;generalize nR (lH key).2=J at *;generalize jO (lH key).1=F at *;generalize (lH key).1=L at *;generalize (lH key).2=G at *;generalize wG key=V at *;obtain⟨rfl,⟨rfl,rfl⟩|⟨rfl,rfl⟩⟩|⟨rfl,rfl⟩:=E
 all_goals
  go_enter func256,ntmps256;go_wp2_with(first
   |(go_at_call 210;refine(r.o _ _ f.o.1).mono ?_;rintro e H ⟨g,j,rfl,l,o,m⟩;obtain⟨n,_,_,_⟩:=vK l;have b:=dB (Vc o (Vc ((eK l).mono (show w.1.size<=_ by omega)) (f.o.2.trans (m.below (Ia _) (by omega)))));clear l o m f q)
   |(go_at_call 291;refine rD (y.o _ _ b.o.1) ?_)
   |(go_at_call 292;apply jC (u.o _ _ _ b.o.2.1.B (x.o.z b.o.2.2) n);intro I k;replace b:=dB (Vc trivial (Vc (b.o.2.1.z k) (aC b.o.2.2 k)));clear k))
 .exact bodyPost_ret (v:=yA #[qA (vB g) (zA L) j,sA eA]) (by simp[results,results256,go_sem]) rfl ⟨_,_,rfl,b.o.2⟩
 all_goals exact bodyPost_ret (v:=yA #[qA aA 0 0,sA dA]) (by simp[results,results256,go_sem]) rfl ⟨_,_,rfl,Ca rfl,b.o.2.2⟩
def LF(s:pB)(p n:Nat)(w:fA)(o:s.size<=maxLen)(h:p+n<=s.size)(u:n<=7):
 rI 165 #[pA s,aB p,aB n] w (aB (vX (cR s p n):Nat)):=by
 unfold maxLen at o;go_enter func165,ntmps165;go_wp2;go_loop [7,8] (λv i=>∃(k V:Nat),k<=n/\i=aB k/\v=aB V/\cB (V=vX (cR s p k))) (λ_ i=>n-(intOf i).toNat)
 case atStart=>exact⟨0,0,Oa _,rfl,rfl,rfl⟩
 case round=>
  obtain⟨k,V,t,rfl,rfl,a⟩:=hrel;have d:V<72057594037927936:=by
   have b:=GX (cR s p k);rw[yR (by omega),<-a.o]at b;have f:256 ^ k<=256 ^ 7:=Sc (by omega) (by omega);omega
  by_cases m:k<n
  .have g:V*256+255<9223372036854775807:=by
    have b:=GX (cR s p k);rw[yR (by omega),<-a.o]at b;have f:256 ^ k<=256 ^ 6:=Sc (by omega) (by omega);omega
   have j:(0:Int)<=(p:Int)+(k:Int):=by omega
   have l:(p:Int)+(k:Int)<(s.size:Int):=by omega
   have c:p+k<s.size:=by omega
   have r:=s[p+k].toNat_lt;go_wp2;exact⟨⟨k+1,V*256+s[p+k].toNat,by omega,by go_num,by go_num,by show _=_;rw[QS c,DU,a.o]⟩,by simp[intOf];omega⟩
  .go_wp2;go_ret;have e:k=n:=by omega
   subst e;exact⟨uF (by rw[a.o]),rfl⟩
def dZ(s:pB)(p n:Nat):Nat:=vX (cR s p n)
def dO(s:pB)(p n:Nat):Option (pB×Nat):=if p+n<=s.size/\p+n+dZ s p n<=s.size then cA (s.extract (p+n) (p+n+dZ s p n),p+n+dZ s p n) else aA
def aEt{t u:pB}{a b:Int}(c:t=u)(d:a=b):Ending.returned (yA #[pA t,aB a])=vA (yA #[pA u,aB b]):=by rw[c,d]
def ZS(s:pB)(n:Nat)(w:fA):
 rI 95 #[pA s,aB (-1),aB (n:Nat)] w (yA #[pA lA,aB (-1)]):=by
 go_enter func95,ntmps95;go_wp2;go_ret2;exact⟨rfl,rfl⟩
def BI(s:pB)(p n:Nat)(w:fA)(k:s.size<=1000000000)(j:p<=1000000000)(g:n<=2)(h:dO s p n=aA):
 rI 95 #[pA s,aB (p:Nat),aB (n:Nat)] w (yA #[pA lA,aB (-1)]):=by
 by_cases a:p+n<=s.size
 .have d:cB (∀W,rI 165 #[pA s,aB (p:Nat),aB (n:Nat)] W (aB (dZ s p n:Nat))):=λW=>LF s p n W (by unfold maxLen;omega) a (by omega);have c:¬p+n+dZ s p n<=s.size:=λc=>by
   unfold dO at h;rw[Ma ⟨a,c⟩]at h;exact absurd h (by simp)
  have l:dZ s p n<65536:=by
   have f:=GX (cR s p n);rw[yR a]at f;have i:256 ^ n<=256 ^ 2:=Sc (by omega) g;unfold dZ;omega
  clear h;generalize dZ s p n=Z at *;go_enter func95,ntmps95;go_wp2_with fail;apply kO (d.o _);go_wp2;go_ret2;exact⟨rfl,rfl⟩
 .clear h;go_enter func95,ntmps95;go_wp2;go_ret2;exact⟨rfl,rfl⟩
def oQ(s:pB)(p n:Nat)(t:pB)(q:Nat)(w:fA)(j:s.size<=1000000000)(i:n<=2)(h:dO s p n=cA (t,q)):
 rI 95 #[pA s,aB (p:Nat),aB (n:Nat)] w (yA #[pA t,aB (q:Nat)]):=by
 unfold dO at h;split at h
 .rename_i f;obtain⟨d,g⟩:=f;simp only[Qa,Dc]at h;have c:cB (∀W,rI 165 #[pA s,aB (p:Nat),aB (n:Nat)] W (aB (dZ s p n:Nat))):=λW=>LF s p n W (by unfold maxLen;omega) d (by omega);have b:cB _:=h;clear h;generalize dZ s p n=Z at *;go_enter func95,ntmps95;go_wp2_with fail;apply kO (c.o _);go_wp2;go_ret2;exact⟨aEt b.o.1 (by rw[<-b.o.2];go_num),rfl⟩
 exact absurd h (by simp)
def ZE{s t:pB}{n p:Nat}{pre post:List UInt8}(h:s.data.toList=pre++((tB n (t.size:Nat)).data.toList++(t.data.toList++post)))(a:zA pre=p)(b:t.size<256 ^ n):dO s p n=cA (t,p+n+t.size):=by grind [tB,dO,dZ,cR,pR,nB,pT,LL,kQ]
def su{s:pB}{p n:Nat}{t:pB}{q:Nat}(h:dO s p n=cA (t,q)):q<=s.size/\t.size<=s.size/\p+n<=q:=by
 unfold dO at h;split at h
 .rename_i a;simp only[Qa,Dc]at h;obtain⟨rfl,rfl⟩:=h;refine⟨a.2,?_,by omega⟩;simp;omega
 exact absurd h (by simp)
def dD.turned{S:Nat->Prop}{w q:fA}{B:Nat}{a:nC}{p:List gB}(h:dD w B a p)(n:fB S w q)(l:∀g,B<=g->g<w.1.size->¬S g):dD q B a p:=by
 obtain h|⟨g,o,c,t,T,rfl,k,e,r,h⟩:=h;exact Ca h;have m:=n.block g (bB e) (l g k (bB e));exact La ⟨g,o,c,t,T,rfl,k,m.trans e,r,λi s=>(h i s).keep (λj _=>fA.cell?_of_block m) λf b d _=>⟨n.block f b (l f d b),rfl⟩⟩
def RG{P:Program}{o:Oper}{a:Act}{w:fA}{c:Act->Prop}(h:o.quiet P a (λj=>∃_:Unit,j=w) c):o.still P a w c:=by
 obtain⟨v,i,d⟩:=h;have b:=i w ⟨(),rfl⟩;unfold Oper.quietAt at b;unfold Oper.still;generalize (execOp a.eval o).run P w=r at b;unfold Oper.quietUpon at b;unfold Oper.stillUpon;split at b;obtain ⟨rfl,rfl⟩:=b;exact⟨rfl,d⟩;obtain ⟨rfl,rfl⟩:=b;exact⟨rfl,d⟩;obtain ⟨rfl,f⟩:=b;exact⟨rfl,v,f.mono λe k ⟨g,_,h⟩=>⟨g,h⟩,d⟩;exact b.elim
def gQ{P:Program}{c:Array Oper}{w:fA}{Q:Act->Prop}:∀(l:List Oper)(a:Act),wpQuiet P c (λf=>∃_:Unit,f=w) Q l a->wpStill P c w Q l a
 |[],a,h=>h
 |o::b,a,h=>by
  unfold wpQuiet at h;unfold wpStill;split
  .rename_i g;rw[Ma g]at h;exact RG (Oper.quiet_mono (λd e=>gQ b d e) h)
  rename_i g;rw[Ja g]at h;exact gQ b _ h
def eR{P:Program}{id:Nat}{Q:Exit->Act->fA->Prop}{a:Act}{w:fA}{l:List Oper}(n:Nat)(d:P.follows .mixedOrders=eA)(c:Region.lexTailB .any l.toArray n=eA)
(h:wpQuiet P l.toArray (λe=>∃_:Unit,e=w.drew) (λb=>wpList P l.toArray Q (l.drop n) b w.drew) (l.take n) a):(Code.region id l.toArray eA).wp P Q a w:=
 wp_region_still_tail n d c (gQ _ _ h)
structure oK where
 K:Int
 N:pB
 tq:pB
 data:pB
 size:Int
def AN(a:oK):Bool:=yB a.K 1 6&&cG a.N&&(decide (a.K≠5) ||cG a.tq)
def jN(a:List iB)(c:Int)(b:oK):Nat×List iB:=
 let i:=dC b.N a
 if b.K=1 then(if yH a b.N i=eA then(5,a) else if 1000<=zA a then(3,a) else(0,mM a i ⟨b.N,lA,0⟩))
 else match a[i]? with
  |none=>(4,a)
  |some f=>
   if yH a b.N i=dA then(4,a)
   else if b.K=2 then(if c<pC a+b.data.size then(3,a) else(0,a.set i ⟨f.N,f.data++b.data,f.Y⟩))
   else if b.K=3 then(0,a.set i ⟨f.N,f.data,f.data.size⟩)
   else if b.K=4 then(if yB b.size 0 f.data.size=eA then(0,a.set i ⟨f.N,f.data.extract 0 b.size.toNat,b.size⟩) else(6,a))
   else if b.K=5 then(0,yG (a.eraseIdx i) ⟨b.tq,f.data,f.Y⟩)
   else(0,a.eraseIdx i)
def bm(w:fA)(b:Nat)(a:oK)(t:TypeId):Prop:=jB w b #[aB a.K,pA a.N,pA a.tq,pA a.data,aB a.size] t
def bm.cells{w:fA}{b:Nat}{a:oK}{t:TypeId}(h:bm w b a t):w.cell? (eB b 0)=cA (aB a.K)/\w.cell? (eB b 1)=cA (pA a.N)/\w.cell? (eB b 2)=cA (pA a.tq)/\w.cell? (eB b 3)=cA (pA a.data)/\w.cell? (eB b 4)=cA (aB a.size):=by
 refine⟨?_,?_,?_,?_,?_⟩<;>rw[jB.cell h]<;>rfl
def IV{S:Nat->Prop}{w j:fA}{B:Nat}{e:TypeId}{a:Nat}{v:jA}{n:Nat}{k:List jA}(h:w.ownsRow B e a v n k)(p:kE S w j)(o:∀g,v.ownBlock=cA g->¬S g):j.ownsRow B e a v n k:=by
 obtain⟨l,d⟩:=h;refine⟨l,?_⟩;obtain d|⟨g,b,c,i,m,f,r⟩:=d;exact Ca d;exact La ⟨g,b,c,i,m,(p.block g (bB f) (o g (by rw[i];rfl))).trans f,r⟩
def wC.charged{w i:fA}{B D:Nat}{j:List iB}{c k l d f:Int}{m a:Bool}{v:jA}(h:wC w B D j c k d f m v)(n:sD D w i)(b:jB i D #[aB l,aB d,aB f,sA a,v,aB c] 146):wC i B D j c l d f a v:=
 ⟨h.from',b,IV h.row (kE.but n) (λg o e=>h.apart g o e),h.apart⟩
def wI(e:List iB)(c k a d:Int)(b:Bool)(f:oK):Nat×List iB×Int×Bool:=
 if (jD k a d b).1=0 then((jN e c f).1,(jN e c f).2,(jD k a d b).2) else((jD k a d b).1,e,(jD k a d b).2)
structure bo(w:World)(B D:Nat)(fs:List iB)(c k cr fl:Int)(dn:Bool)(v:Value)(op:oK):Prop where
 drive:wC w B D fs c k cr fl dn v
 asc:lT fs
 len:zA fs≤1000
 sum:(pC fs:Int)≤c
 cap:c≤1000000000
 k0:0≤k
 k1:k≤1000000000000000
def AO(w:fA)(B D:Nat)(g:List iB)(c k b d:Int)(f:Bool)(v:jA)(a:oK):Prop:=
 Calls prog 117 #[.pointer (vB D),.agg #[aB a.K,pA a.N,pA a.tq,pA a.data,aB a.size]] w λe h=>
  e=vA (nH (wI g c k b d f a).1)/\Below B w h/\(a.K<=6->vJ w h)/\∃i,wC h B D (wI g c k b d f a).2.1 c (wI g c k b d f a).2.2.1 b d (wI g c k b d f a).2.2.2 i/\(a.K=4->i=v)
theorem DX(k a c:Int)(b:Bool):(jD k a c b).1=0\/(jD k a c b).1=1\/(jD k a c b).1=2:=by grind [jD]
def JV{a:List iB}{c:Int}{b:oK}(d:b.K≠1)(e:yH a b.N (dC b.N a)=dA):jN a c b=(4,a):=by
 unfold jN;simp only[Ja d];split;rfl;rw[Ma e]
theorem UK{a:List iB}{c:Int}{b:oK}(e:b.K≠1)(f:yH a b.N (dC b.N a)=eA)(d:dC b.N a<zA a):
 jN a c b=if b.K=2 then(if c<pC a+b.data.size then(3,a) else(0,a.set (dC b.N a) ⟨a[dC b.N a].N,a[dC b.N a].data++b.data,a[dC b.N a].Y⟩))
  else if b.K=3 then(0,a.set (dC b.N a) ⟨a[dC b.N a].N,a[dC b.N a].data,a[dC b.N a].data.size⟩)
  else if b.K=4 then(if yB b.size 0 a[dC b.N a].data.size=eA then(0,a.set (dC b.N a) ⟨a[dC b.N a].N,a[dC b.N a].data.extract 0 b.size.toNat,b.size⟩) else(6,a))
  else if b.K=5 then(0,yG (a.eraseIdx (dC b.N a)) ⟨b.tq,a[dC b.N a].data,a[dC b.N a].Y⟩)
  else(0,a.eraseIdx (dC b.N a)):=by grind [yH,dC,jN,pC,yB,yG]
theorem ZY(w:fA)(B D:Nat)(n:List iB)(c k d g:Int)(f:Bool)(v:jA)(s:oK)(h:bo w B D n c k d g f v s)(r:(jD k d g f).1≠0):AO w B D n c k d g f v s:=by
 unfold AO;have m:cB _:=h.drive;have p:=h.k0;have q:=h.k1;have E:cB (wI n c k d g f s=((jD k d g f).1,n,(jD k d g f).2)):=by show _=_;rw[wI,Ja r]
 have t:cB _:=Or.resolve_left (DX k d g f) r;clear h r;go_enter func117,ntmps117;go_wp2_with fail;apply jC (dW D 146 v (aB c) k d g f _ (m.o.z bC).blk p q);rintro z ⟨a,j⟩;have l:cB _:=(m.o.z bC).charged a j;have b:cB _:=cK.charge m.o m.o.size a;clear a j;generalize x:jD k d g f=R at *;obtain⟨i,y,u⟩:=R;have o:cB (i=1\/i=2):=t.o;clear t;obtain rfl|rfl:=o.o
 .simp only[nH];go_wp2;go_ret;rw[E.o];exact⟨rfl,b.o.below,λ_=>b.o.other,v,l.o,λ_=>rfl⟩
 simp only[nH];go_wp2;go_ret;rw[E.o];exact⟨rfl,b.o.below,λ_=>b.o.other,v,l.o,λ_=>rfl⟩
theorem ke(w:fA)(B D:Nat)(b:List iB)(c k p q:Int)(r:Bool)(v:jA)(a:oK)(h:bo w B D b c k p q r v a)(I:(jD k p q r).1=0)(x:a.K=1):AO w B D b c k p q r v a:=by
 unfold AO;have t:cB _:=h.drive;have G:=h.k0;have H:=h.k1;have K:cB (lT b):=h.asc;have M:=h.len;have E:cB (wI b c k p q r a=((jN b c a).1,(jN b c a).2,(jD k p q r).2)):=by show _=_;rw[wI,Ma I]
 have Q:cB _:=I;have y:cB (jN b c a=if yH b a.N (dC a.N b)=eA then(5,b) else if 1000<=zA b then(3,b) else(0,mM b (dC a.N b) ⟨a.N,lA,0⟩)):=by show _=_;simp[jN,x]
 have l:cB _:=x;clear h I x;go_enter func117,ntmps117;go_wp2_with fail;apply jC (dW D 146 v (aB c) k p q r _ (t.o.z bC).blk G H);rintro O ⟨d,m⟩;have A:cB _:=(t.o.z bC).charged d m;have z:cB _:=cK.charge t.o t.o.size d;have C:¬(w.1.size=D):=by have:=bB t.o.blk;omega
 have P:cB (bm O w.1.size a 101):=jB.keeps (S:=λk=>k=D) (g:=w.1.size) (heap_alloc_new w (xA #[aB a.K,pA a.N,pA a.tq,pA a.data,aB a.size] 101)) (kE.but d) C;obtain⟨R,T,U,V,W⟩:=P.o.cells;clear d m;rw[Q.o];simp only[nH];have x:=l.o;clear U V W;go_wp2_with fail;refine(mj B D b c _ p q _ v a.N O A.o K.o (by omega)).mono ?_;rintro e X ⟨i,J,N,u,F⟩;obtain rfl:=N.uniq (iJ a.N K.o);have f:cB _:=z.o.trans u;clear N u R T;obtain⟨o,rfl,n⟩|⟨o,L,rfl,n⟩|⟨o,L,rfl,n⟩:=F
 .have s:cB (jN b c a=(5,b)):=by show _=_;rw[y.o,Ma o]
  have j:cB _:=n;clear o n;go_wp2;go_ret;rw[E.o,s.o];exact⟨rfl,f.o.below,λ_=>f.o.other,J,j.o,λh=>(by have:=l.o;omega)⟩
 .have s:cB (jN b c a=(3,b)):=by show _=_;rw[y.o,Ja (by rw[o];simp),Ma L]
  have j:cB _:=n;clear o n;go_wp2;go_ret;rw[E.o,s.o];exact⟨rfl,f.o.below,λ_=>f.o.other,J,j.o,λh=>(by have:=l.o;omega)⟩
 have s:cB (jN b c a=(0,mM b (dC a.N b) ⟨a.N,lA,0⟩)):=by show _=_;rw[y.o,Ja (by rw[o];simp),Ja (by omega)]
 have j:cB _:=n;clear o n;go_wp2;go_ret;rw[E.o,s.o];exact⟨rfl,f.o.below,λ_=>f.o.other,J,j.o,λh=>(by have:=l.o;omega)⟩
theorem ZX(w:fA)(B D:Nat)(d:List iB)(c k j l:Int)(m:Bool)(v:jA)(b:oK)(h:bo w B D d c k j l m v b)(M:(jD k j l m).1=0)(N:b.K≠1)(L:yH d b.N (dC b.N d)=dA):AO w B D d c k j l m v b:=by
 unfold AO;have r:cB _:=h.drive;have H:=h.k0;have I:=h.k1;have R:cB (lT d):=h.asc;have O:=h.len;have E:cB (wI d c k j l m b=((jN d c b).1,(jN d c b).2,(jD k j l m).2)):=by show _=_;rw[wI,Ma M]
 have U:cB _:=M;have Q:cB (jN d c b=(4,d)):=JV N L;have T:cB _:=L;have V:(b.K==1)=dA:=by simpa using N
 clear L;clear h M;go_enter func117,ntmps117;go_wp2_with fail;apply jC (dW D 146 v (aB c) k j l m _ (r.o.z bC).blk H I);rintro u ⟨f,n⟩;have i:cB _:=(r.o.z bC).charged f n;have p:cB _:=cK.charge r.o r.o.size f;have G:¬(w.1.size=D):=by have:=bB r.o.blk;omega
 have A:cB (bm u w.1.size b 101):=jB.keeps (S:=λk=>k=D) (g:=w.1.size) (heap_alloc_new w (xA #[aB b.K,pA b.N,pA b.tq,pA b.data,aB b.size] 101)) (kE.but f) G;obtain⟨X,P,Y,Z,e⟩:=A.o.cells;clear f n;rw[U.o];simp only[nH];obtain⟨a,F,rfl,o⟩:=i.o.files;have h:=kC.cells P;have G:=kC.cells i.o.cell4;have K:=kC.there u;have t:cB (∀x:kC u,uB x.w' a d):=λx=>o.z x.h;have s:cB (∀x:kC u,wC x.w' B D d c (jD k j l m).2.1 j l (jD k j l m).2.2 (qA a (zA d) F)):=λx=>i.o.z x.h;have C:cB (∀x:kC u,bm x.w' w.1.size b 101):=λx=>jB.z A.o x.h;have J:zA d<=1048576:=by omega
 clear P Y Z e o A;go_wp2_with fail;refine zB (by kernel_rfl) (by kernel_rfl) ?_;repeat (go_big_quiet_step (first|(go_at_call 116;exact oC (rT _ _ _ _ _ (t.o _) R.o J))))
 refine wpQuiet_nil ?_;rintro _ ⟨y,rfl⟩;have z:cB _:=s.o y;have q:cB _:=p.o.on y.h i.o.size;clear X h G K s t C i p;generalize y.w'=W at *;clear y;rw[T.o];go_wp2;go_ret;rw[E.o,Q.o];exact⟨rfl,q.o.below,λ_=>q.o.other,_,z.o,λ_=>rfl⟩
def WV(a:List nE):Prop:=∀i(h:i<zA a),WU a[i].K/\WU a[i].U
structure VR(r:eG):Prop where
 ok:pv r
 sz:(wK r).size≤60000
 U:WU r.U
 bits:∀i(h:i<zA r.P),WU r.P[i].bits
def DO(s:pB)(p:Nat)(x:pB):Prop:=∃a b,s.data.toList=a++(x.data.toList++b)/\zA a=p
section
variable {s x y t:pB} {p n k:Nat} {ls:List cC} {xs:List oF}
theorem aOd(s:pB):DO s 0 s:=⟨[],[],by simp,rfl⟩
theorem DO.l(h:DO s p (x++y)):DO s p x:=by
 obtain⟨a,b,e,c⟩:=h;exact⟨a,y.data.toList++b,by rw[e];simp,c⟩
theorem DO.r(h:DO s p (x++y)):DO s (p+x.size) y:=by
 obtain⟨a,b,e,c⟩:=h;exact⟨a++x.data.toList,b,by rw[e];simp,by simp[c]⟩
theorem DO.le(h:DO s p x):p+x.size<=s.size:=by
 obtain⟨a,b,e,c⟩:=h;rw[pR,pR,e];simp only[Kb];omega
theorem DO.sect(h:DO s p x):cR s p x.size=x.data.toList:=by
 obtain⟨a,b,e,rfl⟩:=h;rw[cR,e,List.drop_left,pR,List.take_left]
theorem DO.part(h:DO s p (tB n (t.size:Nat)++t))(d:t.size<256 ^ n):dO s p n=cA (t,p+n+t.size):=by
 obtain⟨a,b,e,c⟩:=h;exact ZE (pre:=a) (post:=b) (by rw[e];simp) c d
theorem aHc(h:DO s p (nD ls))(a:k<zA ls):DO s (p+(nD (ls.take k)).size) (gN ls[k].N++dG ls[k].V):=by
 rw[<-Za (k+1) ls,xM,iT ls k a]at h;exact h.l.r
theorem aHd(h:DO s p (iE xs))(a:k<zA xs):DO s (p+(iE (xs.take k)).size) (gW xs[k]):=by
 rw[<-Za (k+1) xs,eI,rP xs k a]at h;exact h.l.r
end
def OE:∀xs:List oF,zA xs+xF xs<=(iE xs).size
 |[]=>Ia _
 |x::r=>by
  have h:=OE r;have e:=qP x;show zA r+1+(zA x.B+aE x.B+xF r)<=(gW x++iE r).size;rw[Ka];omega
def VR.bulk{r:eG}(h:VR r):FT r<=130000/\r.T.size+r.R.size+fQ r.P<=60000:=by
 have a:=h.sz;have f:¬60000<r.T.size+r.R.size+fQ r.P:=λc=>by have:=aIy h.ok c;omega
 have b:r.K=1\/r.P=[]:=by by_cases e:r.K=1;exact Ca e;exact La (h.ok.2.2.2.2.1 e)
 have d:zA r.P+xF r.P<=60000:=by
  obtain e|e:=b;have:=OE r.P;rw[wK,Ma e]at a;simp only[Ka]at a;omega;rw[e];exact Oa _
 refine⟨?_,by omega⟩;show r.T.size+r.R.size+zA r.P+xF r.P<=_;omega
def aNn{r:eG}(h:VR r):∃j m u:Nat,DO (wK r) 0 (tB 1 r.K)/\(yU r.K=eA/\DO (wK r) 1 (gN r.T)/\j=2+r.T.size\/yU r.K=dA/\r.T=lA/\j=1)/\
 (xU r.K=eA/\DO (wK r) j (dG r.R)/\m=j+2+r.R.size\/xU r.K=dA/\r.R=lA/\m=j)/\
 (kV r.K=eA/\DO (wK r) m (tB 8 r.U)/\u=m+8\/kV r.K=dA/\r.U=0/\u=m)/\(r.K=1->DO (wK r) u (tB 2 (zA r.P:Nat)++iE r.P)):=by
 obtain⟨w,v,o,q,_⟩:=h.ok;have g:∀b:pB,b.size=0->b=lA:=λb z=>by simp_all
 have f:=λx(e:wK r=x)=>show DO (wK r) 0 x from e ▸ aOd _;clear h;obtain⟨k,c,d,i,xs⟩:=r;dsimp only at *;rcases aNh w with rfl|rfl|rfl|rfl|rfl|rfl
 .have h:=f _ (aNm c d i xs);rw[Wa]at h;exact⟨_,_,_,h.l.l,Ca ⟨rfl,h.l.r,rfl⟩,La ⟨rfl,g _ (o rfl),rfl⟩,La ⟨rfl,q rfl,rfl⟩,λ_=>by have:=h.r;simp only[Ka,nB,sF]at this;rwa [show 0+(1+(1+c.size))=2+c.size by omega]at this⟩
 .have h:=f _ (aOl c d i xs);exact⟨_,_,_,h.l,La ⟨rfl,g _ (v rfl),rfl⟩,La ⟨rfl,g _ (o rfl),rfl⟩,Ca ⟨rfl,h.r,rfl⟩,λe=>by cases e⟩
 .have h:=f _ (aOm c d i xs);have a:=h.l.r;have b:=h.r;simp only[Ka,nB,sF,eF]at a b;exact⟨_,_,_,h.l.l.l,Ca ⟨rfl,h.l.l.r,rfl⟩,Ca ⟨rfl,by rwa [show 0+(1+(1+c.size))=2+c.size by omega]at a,rfl⟩,Ca ⟨rfl,by rwa [show 0+(1+(1+c.size)+(2+d.size))=2+c.size+2+d.size by omega]at b,rfl⟩,λe=>by cases e⟩
 .have h:=f _ (aOn c d i xs);exact⟨_,_,_,h,La ⟨rfl,g _ (v rfl),rfl⟩,La ⟨rfl,g _ (o rfl),rfl⟩,La ⟨rfl,q rfl,rfl⟩,λe=>by cases e⟩
 .have h:=f _ (aOo c d i xs);have a:=h.r;simp only[Ka,nB,sF]at a;exact⟨_,_,_,h.l.l,Ca ⟨rfl,h.l.r,rfl⟩,Ca ⟨rfl,by rwa [show 0+(1+(1+c.size))=2+c.size by omega]at a,rfl⟩,La ⟨rfl,q rfl,rfl⟩,λe=>by cases e⟩
 have h:=f _ (aOp c d i xs);exact⟨_,_,_,h.l,Ca ⟨rfl,h.r,rfl⟩,La ⟨rfl,g _ (o rfl),rfl⟩,La ⟨rfl,q rfl,rfl⟩,λe=>by cases e⟩
def KE(s:pB)(w:fA)(k:s.size<=maxLen):
 cF 235 #[pA s] w (aB (pL s:Nat)):=by
 have m:cB _:=k;clear k;go_enter func235,ntmps235;go_wp2_with fail;refine(gj _).mono ?_;rintro e l ⟨b,c,rfl,_,j,a,d⟩;have g:cB (jB l b c 371/\(∀i,i<256->c[i]?=cA (.int .u32 (mi i:Nat)))/\xB w l):=⟨j,a,d⟩
 clear j a d;go_wp2_with fail;apply jC (qn b c s _ m.o g.o.1 g.o.2.1);intro o f;have h:cB _:=aC g.o.2.2 f;clear f;go_wp2;go_ret;exact⟨rfl,h.o⟩
def aO(a:List oK):List jA:=a.flatMap λo=>[aB o.K,pA o.N,pA o.tq,pA o.data,aB o.size]
def wu:∀(l:List oK)(i:Nat)(a:i<zA l),(aO l)[i*5]?=cA (aB l[i].K)/\(aO l)[i*5+1]?=cA (pA l[i].N)/\(aO l)[i*5+2]?=cA (pA l[i].tq)/\(aO l)[i*5+3]?=cA (pA l[i].data)/\(aO l)[i*5+4]?=cA (aB l[i].size):=by
 intro l;unfold aO;induction l with
 |nil=>intro i a;exact absurd a (by simp)
 |cons x r b=>
  intro i a;cases i with
  |zero=>simp
  |succ i=>
   have:=b i (by simpa using a);simp only[Xc,Sd,Mb,Ec];have e:∀k,(i+1)*5+k=i*5+k+1+1+1+1+1:=λk=>by omega
   refine⟨?_,?_,?_,?_,?_⟩;rw[show(i+1)*5=i*5+1+1+1+1+1 by omega];simpa only[Ga]using this.1;rw[e];simpa only[Ga]using this.2.1;rw[e];simpa only[Ga]using this.2.2.1;rw[e];simpa only[Ga]using this.2.2.2.1;rw[e];simpa only[Ga]using this.2.2.2.2
def aNl{w:fA}{g:Nat}{l:List oK}(h:∀j u,(aO l)[j]?=cA u->w.cell? (eB g j)=cA u)(i:Nat)(f:i<zA l):
 w.cell? (eB g (i*5))=cA (aB l[i].K)/\w.cell? (eB g (i*5+1))=cA (pA l[i].N)/\w.cell? (eB g (i*5+2))=cA (pA l[i].tq)/\w.cell? (eB g (i*5+3))=cA (pA l[i].data)/\w.cell? (eB g (i*5+4))=cA (aB l[i].size):=by
 obtain⟨a,b,c,d,e⟩:=wu l i f;exact⟨h _ _ a,h _ _ b,h _ _ c,h _ _ d,h _ _ e⟩
def aLu{w:fA}{g:Nat}{l:List oK}{t:TypeId}(h:jB w g (aO l).toArray t):∀j u,(aO l)[j]?=cA u->w.cell? (eB g j)=cA u:=λj u a=>by
 rw[h.cell];simpa using a
def bj(r:eG)(w:fA)(e:Ending)(c:fA):Prop:=
 ∃b a,e=vA (yA #[.agg #[aB r.K,pA r.T,pA r.R,aB r.U,qA b (zA r.P) a],sA eA])/\aH c w.1.size b r.P/\xB w c
def EO(a:List nE):List jA:=a.flatMap λx=>[aB x.K,pA x.T,pA x.X,aB x.U]
def fZ(a:List cC):List pB:=a.flatMap λl=>[gN l.N,dG l.V]
def ip(a:List cC)(k:Nat)(h:k<zA a):fZ (a.take (k+1))=fZ (a.take k)++[gN a[k].N,dG a[k].V]:=by
 unfold fZ;rw[Pa h,He];rfl
def TW:∀(a:List cC),vF (fZ a)=nD a
 |[]=>rfl
 |l::r=>by
  have e:fZ (l::r)=[gN l.N,dG l.V]++fZ r:=rfl;rw[e,oG,TW r,nD];simp[vF]
def xx(a:nC)(Z:Nat)(c:List cC)(w:fA)(hf:qD w a c)(hB:WR c)(hlen:zA c<=16):
 cF 214 #[qA a (zA c) Z] w (pA (aI c)):=by
 have HF:cB (qD w a c):=hf;have HB:cB (WR c):=hB;have HU:cB (∀W,cF 23 #[.int .i64 (zA c:Nat)] W (pA (tB 1 (zA c:Nat)))):=λW=>CG (zA c) W;have hz1:=nB 1 (zA c:Nat);have V:cB (aI c=tB 1 (zA c:Nat)++nD c):=rfl;generalize tB 1 (zA c:Nat)=Y at *;obtain⟨ti,O,g0,h0,i0⟩:=xZ;have HI:cB (prog.info? 9=cA ti):=O;clear hf hB O;go_enter func214,ntmps214;go_wp2_with fail;apply jC (HU.o _);intro Q r;have B1:cB (xB w Q):=r;have e0:w.1.size<=Q.1.size:=r.size;clear r;go_wp2;go_loopw [3,5,12] (λk0 _ i wr=>∃(k:Nat)(f:List pB)(g C:Nat),k<=zA c/\i=.int .i64 k/\k0=qA (cA ⟨g,0,aA⟩) (zA f) C/\zA f<=1+2*k/\iG f<=1+k*3000000000/\cB (f=Y::fZ (c.take k))/\cB (wr.ownsRow w.1.size 9 1 (qA (cA ⟨g,0,aA⟩) (zA f) C) (zA f) (f.map jA.string))/\xB w wr) (λ_ _ i _=>zA c-(intOf i).toNat)
 case atStart=>
  exact⟨0,[Y],_,_,Oa _,rfl,rfl,by simp,by simp[iG];omega,rfl,⟨rfl,La ⟨Q.1.size,1,_,rfl,e0,heap_alloc_new _ _,Ia _,by simp[maxLen],rfl,rfl⟩⟩,aC B1.o bC⟩
 case round=>
  obtain⟨k,f,g,C,hk,rfl,rfl,hpl,hps,I,j,n⟩:=hrel;by_cases E:k<zA c
  .obtain ⟨b,o,rfl,hb,c0,c1⟩:=(HF.o.z n).at E;obtain⟨b0,d0⟩:=HB.o k E;have X:cB (∀W,cF 213 #[pA c[k].N] W (pA (gN c[k].N))):=λW=>pS c[k].N W b0;have J:cB (∀W,cF 162 #[pA c[k].V] W (pA (dG c[k].V))):=λW=>rL c[k].V W d0;have hz8:=sF c[k].N;have hz16:=eF c[k].V;have HT:=ip c k E;have U:cB (f++[gN c[k].N,dG c[k].V]=Y::fZ (c.take (k+1))):=by show _=_;rw[HT,I.o];rfl
   clear HT;generalize gN c[k].N=q at *;generalize dG c[k].V=h at *;generalize c[k].N=F at *;generalize c[k].V=G at *;have s:cB (jB (wr.alloc (xA #[pA F,pA G] 175)) wr.1.size #[pA F,pA G] 175/\xB wr (wr.alloc (xA #[pA F,pA G] 175))):=⟨heap_alloc_new _ _,bC⟩
   have B:cB ((wr.alloc (xA #[pA F,pA G] 175)).ownsRow w.1.size 9 1 (qA (cA ⟨g,0,aA⟩) (zA f) C) (zA f) (f.map jA.string)/\xB w (wr.alloc (xA #[pA F,pA G] 175))):=⟨hC j.o bC,aC n bC⟩
   go_wp2_with fail;generalize wr.alloc (xA #[pA F,pA G] 175)=W at *;have S:=s.o.1.cell 0;have T:=s.o.1.cell 1;simp only[Xb,Ob,Ga]at S T;have l:wr.1.size<W.1.size:=bB s.o.1;have j0:w.1.size<=W.1.size:=B.o.2.size;have hgB:g<wr.1.size:=(fH j.o).2.1;clear j s hb c0 c1 n;generalize wr.1.size=v at *;clear wr;go_region_held3 (λp=>p.cell? ⟨v,0,aA⟩=cA (pA F)/\p.cell? ⟨v,1,aA⟩=cA (pA G))
    (first
     |go_keep
     |exact⟨z.trans S,A.trans T⟩
     |exact⟨((d.alloc d.size _).cell l).trans S,((d.alloc d.size _).cell l).trans T⟩
     |exact⟨(d.cell l).trans S,(d.cell l).trans T⟩
     |exact⟨(u.cell l).trans S,(u.cell l).trans T⟩)
    ((first
      |(go_at_call 213;apply jC (X.o _);intro Q r;have u:xB W Q:=(Below.refl _ W).drew.trans r)
      |(go_at_call 162;apply jC (J.o _);intro w2 t;have d:xB W w2:=u.trans (t.mono u.size))
      |(refine dJ _ (by rfl) _ _ _ (by rfl) w.1.size 9 ti _ 1 16 underlying30 HI.o g0 h0 i0 rfl (by omega) g (zA f) C _ (by rfl) (by exact hC (hC B.o.1 d) bC) _ 2 2 [pA q,pA h] (by rfl) rfl (by exact La ⟨_,rfl,fA.news_of_block (cs:=#[pA q,pA h]) (heap_alloc_new _ _)⟩) (by simp[jA.oneCell']) (by simp[maxLen];omega) (by omega) (by have:=d.size;simp;omega) ?_;intro g5 x R m K D hg5 L hlt5;have z:R.cell? ⟨v,0,aA⟩=W.cell? ⟨v,0,aA⟩:=(fA.cell?_of_block (D v (by have:=d.size;simp;omega) (by omega))).trans ((d.alloc d.size _).cell l);have A:R.cell? ⟨v,1,aA⟩=W.cell? ⟨v,1,aA⟩:=(fA.cell?_of_block (D v (by have:=d.size;simp;omega) (by omega))).trans ((d.alloc d.size _).cell l);have y:xB w R:=((aC B.o.2 d).alloc (Ua j0 d.size) _).trans K)))
   have P:f.map jA.string++[jA.string q,pA h]=(f++[q,h]).map jA.string:=by simp
   have N:zA (f++[q,h])=zA f+2:=by simp
   have hsm:iG (f++[q,h])=iG f+(q.size+h.size):=by rw[wH];simp[iG]
   rw[P,<-N]at m;rw[<-N];have H:cB (R.ownsRow w.1.size 9 1 (.slice (cA ⟨g5,0,aA⟩) (zA (f++[q,h])) x) (zA (f++[q,h])) ((f++[q,h]).map jA.string)/\xB w R):=⟨m,y⟩
   clear m K y D L z A P;generalize f++[q,h]=l0 at *;go_wp2;exact⟨⟨k+1,l0,g5,x,by omega,by go_num,rfl,by omega,by omega,U.o,H.o.1,H.o.2⟩,by simp[intOf];omega⟩
  have U:cB (vF f=aI c):=by
   show _=_;rw[I.o,Ra (by omega),vF,TW,V.o]
  obtain⟨a0,hg,M⟩:=fH j.o;have HJ:cB (cF 154 #[qA (cA ⟨g,0,aA⟩) (zA f) C] wr (pA (vF f))):=nI g (zA f) C f wr rfl M hg a0 (by omega) (by omega);rw[U.o]at HJ;clear j M;go_wp2_with fail;apply jC HJ.o;intro w2 t;have B2:cB (xB w w2):=aC n t;clear t;go_wp2;go_ret;exact⟨rfl,B2.o⟩
def zw(k:Int)(j:Nat):Bool:=match j with
 |0=>yU k
 |1=>k==1
 |2=>xU k
 |3=>kV k
 |_=>k==1||k==2||k==3||k==4
def oR(w:fA):Prop:=0<w.1.size/\∀i j,i<7->j<5->w.cell? (eB 0 (i*5+j))=cA (sA (zw (i:Int) j))
def oR.z{w b:fA}(h:oR w)(a:xB w b):oR b:=⟨Bb h.1 a.size,λi j c d=>(a.cell h.1).trans (h.2 i j c d)⟩
def oR.but{w b:fA}{B:Nat}(h:oR w)(a:sD B w b)(c:0≠B):oR b:=
 ⟨Bb h.1 a.size,λi j d e=>(fA.cell?_of_block (a.block _ h.1 c)).trans (h.2 i j d e)⟩
