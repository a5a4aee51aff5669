import Derived.Test.YtflbidbilgndeaaGreatDoorJ10
import Derived.StillTail
import Derived.Test.YtflbidbilgndeaaGreatDoorJ13
set_option maxRecDepth 100000
set_option maxHeartbeats 4000000
set_option linter.defProp false
open Bool renaming true->dA,false->cA
open Option renaming some->bA,none->aA
open ByteArray renaming empty->kA
open List renaming length->yA
namespace Go.Proofs.YtflbidbilgndeaaGreatDoor
open Go renaming World->eA,Value->iA
open Value renaming bool->qA,string->oA,slice->pA,tuple->xA
open Ending renaming returned->uA
open Obj renaming cells->vA
open Go.RowKit Tryz
def ZS:Nat->Int->Int
 |0,x=>x
 |k+1,x=>wrap64 (ZS k x+ZS k x)
def shK:Nat->Int->Int
 |0,e=>e
 |k+1,e=>shK k e / 2
def bp:Nat->Int->Bool
 |0,_=>dA
 |k+1,e=>bp k e&&(shK k e).tmod 2 != 0
def AL(b:Int):Bool:=bp 11 (b / 4503599627370496) &&ZS 12 b != 0
def aJy(b:Int)(w:eA):rL 113 #[zA b] w (qA (AL b)):=by
 have d:cB (AL b=(bp 11 (b / 4503599627370496) &&ZS 12 b != 0)):=rfl;generalize AL b=V at *;go_enter func113,ntmps113;go_wp2;go_loopw [3,5] (λf i wr=>∃k:Nat,k<=12/\i=zA k/\f=zA (ZS k b)/\wr=w) (λ_ i _=>12-(intOf i).toNat)
 case atStart=>exact⟨0,by omega,rfl,rfl,rfl⟩
 case round=>
  obtain⟨k,g,rfl,rfl,rfl⟩:=hrel;by_cases h:k<12
  .go_wp2;exact⟨⟨k+1,by omega,by go_num,rfl,trivial⟩,by simp[intOf];omega⟩
  obtain rfl:k=12:=by omega
  generalize ZS 12 b=D at *;go_wp2;generalize b / 4503599627370496=E at *;go_loopw [4,6,7] (λe a i l=>∃k:Nat,k<=11/\i=zA k/\e=zA (shK k E)/\a=qA (bp k E)/\l=wr) (λ_ _ i _=>11-(intOf i).toNat)
  case atStart=>exact⟨0,by omega,rfl,rfl,rfl,rfl⟩
  case round=>
   obtain⟨k,g,rfl,rfl,rfl,rfl⟩:=hrel;by_cases h:k<11
   .have c:bp (k+1) E=(bp k E&&(shK k E).tmod 2 != 0):=rfl;generalize bp k E=y at *;cases y
    all_goals
     replace c:=bB c;go_wp2;exact⟨⟨k+1,by omega,by go_num,rfl,by rw[c.o];simp,trivial⟩,by simp[intOf];omega⟩
   obtain rfl:k=11:=by omega
   generalize bp 11 E=y at *;cases y
   all_goals
    go_wp2;go_ret;exact⟨by rw[d.o];rfl,rfl⟩
def JM(w:eA)(h:jB)(t:fB)(e:Ending)(a:eA):Prop:=
 ∃M b d c f,e=uA (.agg #[oA h,zA t.L,pA b (yA t.M) d,pA c (yA t.Z) f])/\w.1.size<=M/\fD a w.1.size b t.M/\(∀g o,b=bA (dB g o)->g<M)/\fD a M c t.Z/\M<=a.1.size/\uB w a
def flatK(a:List kB):List iA:=a.flatMap λx=>[oA x.s,zA x.n]
def ZD(w:eA)(h:jB)(t:fB)(e:Ending)(a:eA):Prop:=
 ∃M b f c d,e=uA (.agg #[oA h,zA t.L,pA b (yA t.M) f,pA c (yA t.Z) d])/\w.1.size<=M/\fD a w.1.size b t.M/\(∀g o,b=bA (dB g o)->g<M)/\a.ownsRow M 98 2 (pA c (yA t.Z) d) (yA t.Z) (flatK t.Z)/\M<=a.1.size/\uB w a
def ZD.tel{w:eA}{a:jB}{t:fB}{e:Ending}{b:eA}(h:ZD w a t e b):JM w a t e b:=by
 obtain⟨M,c,f,d,g,i,j,k,l,m,n⟩:=h;exact⟨M,c,f,d,g,i,j,k,l,oD m,n⟩
def sX(a b:List kB):flatK (a++b)=flatK a++flatK b:=by simp[flatK]
def tM(a:List kB):yA (flatK a)=yA a*2:=by induction a<;>grind [flatK]
def cQ(b:List kB):∀u∈flatK b,u.oneCell'=dA:=by
 intro u a;simp only[flatK,Ig]at a;obtain⟨x,_,a⟩:=a;simp only[Lb,List.mem_nil_iff,Bf]at a;rcases a with rfl|rfl<;>rfl
def WK:∀(a:List kB)(j:Nat)(u:iA),(flatK a)[j]?=bA u->∃i,∃h:i<yA a,(j=i*2/\u=oA a[i].s)\/(j=i*2+1/\u=zA a[i].n)
 |[],j,u,h=>by simp[flatK]at h
 |x::r,0,u,h=>⟨0,by simp,Ca ⟨rfl,by simpa[flatK]using h.symm⟩⟩
 |x::r,1,u,h=>⟨0,by simp,La ⟨rfl,by simpa[flatK]using h.symm⟩⟩
 |x::r,j+2,u,h=>by
  have b:(flatK r)[j]?=bA u:=by simpa[flatK]using h
  obtain⟨i,c,q⟩:=WK r j u b;refine⟨i+1,by simpa using c,?_⟩;obtain⟨e,q⟩|⟨e,q⟩:=q;exact Ca ⟨by omega,by simpa using q⟩;exact La ⟨by omega,by simpa using q⟩
def fO{w:eA}{b o:Nat}{c:List kB}(h:∀i(d:i<yA c),w.cell? (dB b (o+i*2))=bA (oA c[i].s)/\w.cell? (dB b (o+i*2+1))=bA (zA c[i].n)):
 ∀j u,(flatK c)[j]?=bA u->w.cell? (((dB b o):Addr).add j)=bA u:=by
 intro j u e;have a:((dB b o):Addr).add j=(dB b (o+j)):=by unfold Addr.add;split<;>simp_all
 rw[a];obtain⟨i,d,q⟩:=WK c j u e;obtain⟨rfl,rfl⟩|⟨rfl,rfl⟩:=q;exact (h i d).1;exact (h i d).2
def nO:(prog.info? 94).map (λi=>(i.zero,i.size,i.bytes))=bA (bA (.agg #[oA kA,zA 0,pA aA 0 0,pA aA 0 0]),4,72):=by kernel_rfl
def aMb(a:List fB):Prop:=∀i(h:i<yA a),yA a[i].M<=1048576/\yA a[i].Z<=1048576
def cD.mono{B B':Nat}{w:eA}{a:mC}{k:List fB}(h:cD w B a k)(f:B'<=B):cD w B' a k:=by
 obtain h|⟨d,o,c,t,T,rfl,G,g,u,h⟩:=h;exact Ca h;have m:∀{n a j},aF w B T n a j->aF w B' T n a j:=fun{n a j} h=>by
  obtain h|⟨d,E,b,F,e,f,r⟩:=h;exact Ca h;exact La ⟨d,E,b,F,e,by omega,r⟩
 refine La ⟨d,o,c,t,T,rfl,by omega,g,u,λi v=>?_⟩;obtain⟨l,q,p,s,x,y,z,A,C,D⟩:=h i v;exact⟨l,q,p,s,x,y,z,A,m C,m D⟩
def aCu(B:Nat)(r:Rd)(w:eA)(c:RB w B r):
 rL 296 #[.pointer (yB B)] w (qA (eS r)):=by
 have d:=nB.cell c 0;have f:=nB.cell c 1;simp only[Xb,Ob,Ga]at d f;have g:cB (ByteArray.empty.toList=[]):=by show _=_;rw[ByteArray.toList_eq];rfl
 obtain⟨a,b⟩:=r;simp only at d f;clear c;cases b with
 |true=>
  have E:cB (eS ⟨a,dA⟩=cA):=rfl;go_enter func296,ntmps296;go_wp2;go_ret;exact⟨oB E.o.symm,rfl⟩
 |false=>
  have E:cB (eS ⟨a,cA⟩=a.toList.isEmpty):=by
   show _=_;unfold eS;rw[g.o];cases a.toList<;>rfl
  go_enter func296,ntmps296;go_wp2;go_ret;exact⟨oB E.o.symm,rfl⟩
def om{a:List dC}(h:(xB a).2.1=0):0<yA (xB a).1/\0<yA a:=by
 obtain⟨d,e⟩:=LH a;by_cases c:(hI a).1=0
 .obtain ⟨b,_,g,_⟩:=d c;have f:=XC g;have i:=BT a;rw[b];simp only;rw[EF];exact⟨f,by omega⟩
 have b:=e c;rw[b]at h;exact absurd h c
def OQ:∀(a b:List dC),Lib.allEq tV a b=qH a b
 |[],[]=>rfl
 |[],_::_=>rfl
 |_::_,[]=>rfl
 |x::r,y::q=>by rw[Lib.allEq,qH,OQ r q]
def RK[Inhabited dC]{w:eA}{b o:Nat}{c:List dC}(h:vP w b o c):∀j,j<yA c->∀i v,(jR c[j]!)[i]?=bA v->w.cell? ⟨b,o+j*2+i,aA⟩=bA v:=by grind [vP,jR]
def sD.some{w:eA}{a:mC}{c:List dC}(h:sD w a c)(d:0<yA c):∃b o,a=bA (dB b o)/\b<w.1.size/\vP w b o c:=by
 obtain rfl|h:=h;exact absurd d (by simp);exact h
def gk(w:eA)(q:Nat):uB w (w.drewN q):=⟨rfl,rfl,rfl,Ia _,λ_ _=>rfl⟩
def zt(a j:mC)(g b:Nat)(d f:List dC)(w:eA)(p:sD w a d)(s:sD w j f)(h:0<yA d)(i:0<yA f)(r:yA d<=2000000)(t:yA f<=2000000):
 dF 324 #[pA a (yA d) g,pA j (yA f) b] w (qA (qH d f)):=by
 obtain⟨l,u,rfl,_,n⟩:=p.some h;obtain⟨m,v,rfl,_,o⟩:=s.some i;haveI:=aJn
 have c:=AnyQ.slices_Equal eqlL 2 isAgg181 sizeOf181 jR (λ_=>rfl) tV aNm l u (yA d) g m v (yA f) b d f w (Ia _) (Ia _) (by omega) (by omega) (RK n) (RK o);change Calls prog 324 _ _ _ at c;apply lC c;rintro k ⟨q,rfl⟩;rw[Rb,Rb,OQ];exact⟨rfl,gk w q⟩
def aAq(a:mC)(d:Nat)(b:List dC)(w:eA)(s:sD w a b)(z:sU b)(h:yA b<=2000000)(k:yA b<=d)(A:uG w):
 dF 297 #[pA a (yA b) d] w (qA (tO b)):=by
 have l:cB (Calls prog 221 #[pA a (yA b) d] w λe n=>∃y g,e=uA (xA #[.slice y (yA (xB b).1) g,zA ((xB b).2.1:Nat),zA ((xB b).2.2:Nat)])/\yA (xB b).1<=g/\oE n w.1.size y (xB b).1/\uB w n):=CW a d b w s z h k A;have D:cB (sD w a b):=s;have J:=OY b;clear s z A;by_cases i:(xB b).2.1=0
 .obtain ⟨t,u⟩:=om i;have p:cB _:=λW m q H I=>zt m a q d _ b W H I t u (by omega) h;have E:cB (tO b=qH (xB b).1 b):=by show _=_;unfold tO;rw[i];rfl
  have r:(((xB b).2.1:Int)==0)=dA:=by simp;omega
  rw[E.o];clear i E;generalize qH (xB b).1 b=K at *;generalize (xB b).1=C at *;generalize (xB b).2.1=F at *;generalize (xB b).2.2=G at *;go_enter func297,ntmps297;go_wp2_with fail;refine l.o.mono ?_;rintro e v ⟨m,q,rfl,_,f,c⟩;have o:cB _:=c;have x:cB (sD v m C/\sD v a b):=⟨f.B,D.o.z c⟩
  clear f c l;go_wp2_with fail;apply lC (p.o _ _ _ x.o.1 x.o.2);intro L j;have B:cB _:=vB o.o j;clear j;go_wp2;go_ret;exact⟨rfl,B.o⟩
 have E:cB (tO b=cA):=by show _=_;unfold tO;rw[Ub i];rfl
 have r:(((xB b).2.1:Int)==0)=cA:=by simp;omega
 rw[E.o];clear i E;generalize (xB b).1=C at *;generalize (xB b).2.1=F at *;generalize (xB b).2.2=G at *;go_enter func297,ntmps297;go_wp2_with fail;refine l.o.mono ?_;rintro e v ⟨m,q,rfl,_,f,c⟩;have o:cB _:=c;clear f c l;go_wp2;go_ret;exact⟨rfl,o.o⟩
def aMp(key:jB):ZM key<=255:=by
 have:=rr 1 ⟨key,cA⟩;unfold ZM;omega
def im(key:jB)(w:eA)(D:key.size<=1000000000)(s:uG w):
 Calls prog 261 #[oA key] w λe p=>∃a j,e=uA (xA #[.slice a (yA (pG key).1) j,qA (pG key).2])/\oE p w.1.size a (pG key).1/\uB w p:=by
 have r:=bB (λW B(h:RB W B ⟨key,cA⟩)=>RJ h D);rw[show sW (mK 1 ⟨key,cA⟩).2 (mK 1 ⟨key,cA⟩).1=kH key by rw[kH,ZM]]at r;have d:sU (kH key).1:=λi C=>by
  have:=aBx key i C;exact⟨by omega,by omega⟩
 have t:yA (kH key).1<=255:=by
  have h:yA (kH key).1=ZM key:=by rw[kH];exact EU _ _
  have:=aMp key;omega
 have y:cB (∀W B,RB W B (kH key).2->rL 296 #[.pointer (yB B)] W (qA (eS (kH key).2))):=λW B h=>aCu B _ W h;have u:cB _:=λW a c h z A=>aAq a c _ W h d (by omega) A z;have x:=bB s;have f:=bB (⟨heap_alloc_new _ _,zB⟩:RB (w.alloc (vA #[oA key,qA cA] 170)) w.1.size ⟨key,cA⟩/\uB w (w.alloc (vA #[oA key,qA cA] 170)));have q:w.1.size<(w.alloc (vA #[oA key,qA cA] 170)).1.size:=by simp
 have E:eS (kH key).2=dA/\(tO (kH key).1=dA/\pG key=((kH key).1,dA)\/tO (kH key).1=cA/\pG key=([],cA))\/eS (kH key).2=cA/\pG key=([],cA):=by
  rw[pG];cases eS (kH key).2<;>cases tO (kH key).1<;>simp
 clear s d;generalize eS (kH key).2=J at *;generalize tO (kH key).1=F at *;generalize (kH key).1=L at *;generalize (kH key).2=G at *;generalize pG key=V at *;obtain⟨rfl,⟨rfl,rfl⟩|⟨rfl,rfl⟩⟩|⟨rfl,rfl⟩:=E
 all_goals
  go_enter func261,ntmps261;go_wp2_with(first
   |(go_at_call 215;refine(r.o _ _ f.o.1).mono ?_;rintro e H ⟨g,j,rfl,l,o,m⟩;obtain⟨n,_,_,_⟩:=aL l;have b:=bB (Vc o (Vc ((gK l).mono (show w.1.size<=_ by omega)) (f.o.2.trans (m.below (Ia _) (by omega)))));clear l o m f q)
   |(go_at_call 296;refine tD (y.o _ _ b.o.1) ?_)
   |(go_at_call 297;apply lC (u.o _ _ _ b.o.2.1.B (x.o.z b.o.2.2) n);intro I k;replace b:=bB (Vc trivial (Vc (b.o.2.1.z k) (vB b.o.2.2 k)));clear k))
 .exact bodyPost_ret (v:=xA #[pA (yB g) (yA L) j,qA dA]) (by simp[results,results261,go_sem]) rfl ⟨_,_,rfl,b.o.2⟩
 all_goals exact bodyPost_ret (v:=xA #[pA aA 0 0,qA cA]) (by simp[results,results261,go_sem]) rfl ⟨_,_,rfl,Ca rfl,b.o.2.2⟩
def MS(s:jB)(p n:Nat)(w:eA)(o:s.size<=maxLen)(h:p+n<=s.size)(u:n<=7):
 rL 171 #[oA s,zA p,zA n] w (zA (jT (aI s p n):Nat)):=by
 unfold maxLen at o;go_enter func171,ntmps171;go_wp2;go_loop [7,8] (λv i=>∃(k V:Nat),k<=n/\i=zA k/\v=zA V/\cB (V=jT (aI s p k))) (λ_ i=>n-(intOf i).toNat)
 case atStart=>exact⟨0,0,Oa _,rfl,rfl,rfl⟩
 case round=>
  obtain⟨k,V,t,rfl,rfl,a⟩:=hrel;have d:V<72057594037927936:=by
   have b:=DR (aI s p k);rw[tS (by omega),<-a.o]at b;have f:256 ^ k<=256 ^ 7:=Sc (by omega) (by omega);omega
  by_cases m:k<n
  .have g:V*256+255<9223372036854775807:=by
    have b:=DR (aI s p k);rw[tS (by omega),<-a.o]at b;have f:256 ^ k<=256 ^ 6:=Sc (by omega) (by omega);omega
   have j:(0:Int)<=(p:Int)+(k:Int):=by omega
   have l:(p:Int)+(k:Int)<(s.size:Int):=by omega
   have c:p+k<s.size:=by omega
   have r:=s[p+k].toNat_lt;go_wp2;exact⟨⟨k+1,V*256+s[p+k].toNat,by omega,by go_num,by go_num,by show _=_;rw[SP c,FY,a.o]⟩,by simp[intOf];omega⟩
  .go_wp2;go_ret;have e:k=n:=by omega
   subst e;exact⟨uF (by rw[a.o]),rfl⟩
def AQ(s:jB)(p n:Nat):Nat:=jT (aI s p n)
def pO(s:jB)(p n:Nat):Option (jB×Nat):=if p+n<=s.size/\p+n+AQ s p n<=s.size then bA (s.extract (p+n) (p+n+AQ s p n),p+n+AQ s p n) else aA
def aGw{t u:jB}{a b:Int}(c:t=u)(d:a=b):Ending.returned (xA #[oA t,zA a])=uA (xA #[oA u,zA b]):=by rw[c,d]
def dj(s:jB)(n:Nat)(w:eA):
 rL 101 #[oA s,zA (-1),zA (n:Nat)] w (xA #[oA kA,zA (-1)]):=by
 go_enter func101,ntmps101;go_wp2;go_ret2;exact⟨rfl,rfl⟩
def DJ(s:jB)(p n:Nat)(w:eA)(k:s.size<=1000000000)(j:p<=1000000000)(g:n<=2)(h:pO s p n=aA):
 rL 101 #[oA s,zA (p:Nat),zA (n:Nat)] w (xA #[oA kA,zA (-1)]):=by
 by_cases a:p+n<=s.size
 .have d:cB (∀W,rL 171 #[oA s,zA (p:Nat),zA (n:Nat)] W (zA (AQ s p n:Nat))):=λW=>MS s p n W (by unfold maxLen;omega) a (by omega);have c:¬p+n+AQ s p n<=s.size:=λc=>by
   unfold pO at h;rw[Ma ⟨a,c⟩]at h;exact absurd h (by simp)
  have l:AQ s p n<65536:=by
   have f:=DR (aI s p n);rw[tS a]at f;have i:256 ^ n<=256 ^ 2:=Sc (by omega) g;unfold AQ;omega
  clear h;generalize AQ s p n=Z at *;go_enter func101,ntmps101;go_wp2_with fail;apply dR (d.o _);go_wp2;go_ret2;exact⟨rfl,rfl⟩
 .clear h;go_enter func101,ntmps101;go_wp2;go_ret2;exact⟨rfl,rfl⟩
def yQ(s:jB)(p n:Nat)(t:jB)(q:Nat)(w:eA)(j:s.size<=1000000000)(i:n<=2)(h:pO s p n=bA (t,q)):
 rL 101 #[oA s,zA (p:Nat),zA (n:Nat)] w (xA #[oA t,zA (q:Nat)]):=by
 unfold pO at h;split at h
 .rename_i f;obtain⟨d,g⟩:=f;simp only[Qa,Dc]at h;have c:cB (∀W,rL 171 #[oA s,zA (p:Nat),zA (n:Nat)] W (zA (AQ s p n:Nat))):=λW=>MS s p n W (by unfold maxLen;omega) d (by omega);have b:cB _:=h;clear h;generalize AQ s p n=Z at *;go_enter func101,ntmps101;go_wp2_with fail;apply dR (c.o _);go_wp2;go_ret2;exact⟨aGw b.o.1 (by rw[<-b.o.2];go_num),rfl⟩
 exact absurd h (by simp)
def cc{s t:jB}{n p:Nat}{pre post:List UInt8}(h:s.data.toList=pre++((pB n (t.size:Nat)).data.toList++(t.data.toList++post)))(a:yA pre=p)(b:t.size<256 ^ n):pO s p n=bA (t,p+n+t.size):=by grind [pB,pO,AQ,aI,fR,gB,qQ,DU,rQ]
def vw{s:jB}{p n:Nat}{t:jB}{q:Nat}(h:pO s p n=bA (t,q)):q<=s.size/\t.size<=s.size/\p+n<=q:=by
 unfold pO at h;split at h
 .rename_i a;simp only[Qa,Dc]at h;obtain⟨rfl,rfl⟩:=h;refine⟨a.2,?_,by omega⟩;simp;omega
 exact absurd h (by simp)
def cD.turned{S:Nat->Prop}{w q:eA}{B:Nat}{a:mC}{p:List fB}(h:cD w B a p)(n:eB S w q)(l:∀g,B<=g->g<w.1.size->¬S g):cD q B a p:=by
 obtain h|⟨g,o,c,t,T,rfl,k,e,r,h⟩:=h;exact Ca h;have m:=n.block g (aB e) (l g k (aB e));exact La ⟨g,o,c,t,T,rfl,k,m.trans e,r,λi s=>(h i s).keep (λj _=>eA.cell?_of_block m) λf b d _=>⟨n.block f b (l f d b),rfl⟩⟩
def SZ{P:Program}{o:Oper}{a:Act}{w:eA}{c:Act->Prop}(h:o.quiet P a (λj=>∃_:Unit,j=w) c):o.still P a w c:=by
 obtain⟨v,i,d⟩:=h;have b:=i w ⟨(),rfl⟩;unfold Oper.quietAt at b;unfold Oper.still;generalize (execOp a.eval o).run P w=r at b;unfold Oper.quietUpon at b;unfold Oper.stillUpon;split at b;obtain ⟨rfl,rfl⟩:=b;exact⟨rfl,d⟩;obtain ⟨rfl,rfl⟩:=b;exact⟨rfl,d⟩;obtain ⟨rfl,f⟩:=b;exact⟨rfl,v,f.mono λe k ⟨g,_,h⟩=>⟨g,h⟩,d⟩;exact b.elim
def oQ{P:Program}{c:Array Oper}{w:eA}{Q:Act->Prop}:∀(l:List Oper)(a:Act),wpQuiet P c (λf=>∃_:Unit,f=w) Q l a->wpStill P c w Q l a
 |[],a,h=>h
 |o::b,a,h=>by
  unfold wpQuiet at h;unfold wpStill;split
  .rename_i g;rw[Ma g]at h;exact SZ (Oper.quiet_mono (λd e=>oQ b d e) h)
  rename_i g;rw[Ja g]at h;exact oQ b _ h
def pM{P:Program}{id:Nat}{Q:Exit->Act->eA->Prop}{a:Act}{w:eA}{l:List Oper}(n:Nat)(d:P.follows .mixedOrders=dA)(c:Region.lexTailB .any l.toArray n=dA)
(h:wpQuiet P l.toArray (λe=>∃_:Unit,e=w.drew) (λb=>wpList P l.toArray Q (l.drop n) b w.drew) (l.take n) a):(Code.region id l.toArray dA).wp P Q a w:=
 wp_region_still_tail n d c (oQ _ _ h)
structure zN where
 K:Int
 N:jB
 tq:jB
 data:jB
 size:Int
def US(a:zN):Bool:=bC a.K 1 6&&qG a.N&&(decide (a.K≠5) ||qG a.tq)
def tU(a:List iB)(c:Int)(b:zN):Nat×List iB:=
 let i:=gC b.N a
 if b.K=1 then(if dJ a b.N i=dA then(5,a) else if 1000<=yA a then(3,a) else(0,kN a i ⟨b.N,kA,0⟩))
 else match a[i]? with
  |none=>(4,a)
  |some f=>
   if dJ a b.N i=cA then(4,a)
   else if b.K=2 then(if c<pC a+b.data.size then(3,a) else(0,a.set i ⟨f.N,f.data++b.data,f.Y⟩))
   else if b.K=3 then(0,a.set i ⟨f.N,f.data,f.data.size⟩)
   else if b.K=4 then(if bC b.size 0 f.data.size=dA then(0,a.set i ⟨f.N,f.data.extract 0 b.size.toNat,b.size⟩) else(6,a))
   else if b.K=5 then(0,dH (a.eraseIdx i) ⟨b.tq,f.data,f.Y⟩)
   else(0,a.eraseIdx i)
def aHx(w:eA)(b:Nat)(a:zN)(t:TypeId):Prop:=nB w b #[zA a.K,oA a.N,oA a.tq,oA a.data,zA a.size] t
def aHx.cells{w:eA}{b:Nat}{a:zN}{t:TypeId}(h:aHx w b a t):w.cell? (dB b 0)=bA (zA a.K)/\w.cell? (dB b 1)=bA (oA a.N)/\w.cell? (dB b 2)=bA (oA a.tq)/\w.cell? (dB b 3)=bA (oA a.data)/\w.cell? (dB b 4)=bA (zA a.size):=by
 refine⟨?_,?_,?_,?_,?_⟩<;>rw[nB.cell h]<;>rfl
def KG{S:Nat->Prop}{w i:eA}{B:Nat}{e:TypeId}{size:Nat}{v:iA}{n:Nat}{j:List iA}(h:w.ownsRow B e size v n j)(o:lE S w i)(m:∀g,v.ownBlock=bA g->¬S g):i.ownsRow B e size v n j:=by
 obtain⟨k,c⟩:=h;refine⟨k,?_⟩;obtain c|⟨g,a,b,f,l,d,r⟩:=c;exact Ca c;exact La ⟨g,a,b,f,l,(o.block g (aB d) (m g (by rw[f];rfl))).trans d,r⟩
def kD.charged{w i:eA}{B D:Nat}{j:List iB}{c k l d f:Int}{m a:Bool}{v:iA}(h:kD w B D j c k d f m v)(n:qD D w i)(b:nB i D #[zA l,zA d,zA f,qA a,v,zA c] 102):kD i B D j c l d f a v:=
 ⟨h.from',b,KG h.row (lE.but n) (λg o e=>h.apart g o e),h.apart⟩
def iL(e:List iB)(c k a d:Int)(b:Bool)(f:zN):Nat×List iB×Int×Bool:=
 if (fI k a d b).1=0 then((tU e c f).1,(tU e c f).2,(fI k a d b).2) else((fI k a d b).1,e,(fI k a d b).2)
structure aOu(w:World)(B D:Nat)(fs:List iB)(c k cr fl:Int)(dn:Bool)(v:Value)(op:zN):Prop where
 drive:kD w B D fs c k cr fl dn v
 asc:pV fs
 len:yA fs≤1000
 sum:(pC fs:Int)≤c
 cap:c≤1000000000
 k0:0≤k
 k1:k≤1000000000000000
theorem WC{a:List iB}{c:Int}{b:zN}(e:b.K≠1)(f:dJ a b.N (gC b.N a)=dA)(d:gC b.N a<yA a):
 tU a c b=if b.K=2 then(if c<pC a+b.data.size then(3,a) else(0,a.set (gC b.N a) ⟨a[gC b.N a].N,a[gC b.N a].data++b.data,a[gC b.N a].Y⟩))
  else if b.K=3 then(0,a.set (gC b.N a) ⟨a[gC b.N a].N,a[gC b.N a].data,a[gC b.N a].data.size⟩)
  else if b.K=4 then(if bC b.size 0 a[gC b.N a].data.size=dA then(0,a.set (gC b.N a) ⟨a[gC b.N a].N,a[gC b.N a].data.extract 0 b.size.toNat,b.size⟩) else(6,a))
  else if b.K=5 then(0,dH (a.eraseIdx (gC b.N a)) ⟨b.tq,a[gC b.N a].data,a[gC b.N a].Y⟩)
  else(0,a.eraseIdx (gC b.N a)):=by grind [dJ,gC,tU,pC,bC,dH]
def aLb(w:eA)(B D:Nat)(d:List iB)(c k m n:Int)(A:Bool)(v:iA)(b:zN)(h:aOu w B D d c k m n A v b)(G:bC b.K 1 6=dA)(h4:b.K≠4)(Q:(iL d c k m n A b).1=0):
 Calls prog 123 #[.pointer (yB D),.agg #[zA b.K,oA b.N,oA b.tq,oA b.data,zA b.size]] w λe w'=>
  e=uA .nilIface/\Below B w w'/\vJ w w'/\∃v',kD w' B D (iL d c k m n A b).2.1 c (iL d c k m n A b).2.2.1 m n (iL d c k m n A b).2.2.2 v':=by
 have J:(fI k m n A).1=0:=by
  unfold iL at Q;split at Q;assumption;exact Q
 have Z:iL d c k m n A b=((tU d c b).1,(tU d c b).2,(fI k m n A).2):=by rw[iL,Ma J]
 have d0:(fI k m n A).2=(k+1,cA):=by
  unfold fI at J |-
  repeat' split
  all_goals simp_all
 rw[d0]at Z;rw[Z]at Q |-
 dsimp only at Q |-
 have Y:=bB h.drive;have U:=bB h.asc;obtain⟨-,-,O,O,c0,O,hk1⟩:=h;have X:=bB (λW v4 v5(h:nB W D #[zA k,zA m,zA n,qA A,v4,v5] 102)=>yj D 102 v4 v5 k m n A W h O hk1 J);have HS:=bB Q;have O:=bB (show b.K=1\/b.K=2\/b.K=3\/b.K=5\/b.K=6 from by have:1<=b.K/\b.K<=6:=(by simpa[bC]using G);omega);clear Q G h4 J d0 Z;go_enter func123,ntmps123;go_wp2_with fail;apply lC (X.o _ _ _ (Y.o.z zB).blk);rintro T ⟨u,i⟩;have z:=bB ((Y.o.z zB).charged u i);have M:=bB (iN.charge Y.o Y.o.size u);have h:¬(w.1.size=D):=by have:=aB Y.o.blk;omega
 have HO:cB (aHx T w.1.size b 119):=nB.keeps (S:=λk=>k=D) (g:=w.1.size) (heap_alloc_new w (vA #[zA b.K,oA b.N,oA b.tq,oA b.data,zA b.size] 119)) (lE.but u) h;clear u i X;obtain G|HK:=O.o
 .have HX:cB (dJ d b.N (gC b.N d)=cA/\yA d<1000/\(tU d c b).2=kN d (gC b.N d) ⟨b.N,kA,0⟩):=bB (by
   have s:=HS.o;unfold tU at s |-
   simp only[G,Td]at s |-
   split at s
   .cases s
   split at s
   .cases s
   rename_i p h;exact⟨by simpa using p,by omega,by rw[Ja p,Ja h]⟩)
  obtain⟨h,H,R,K,L⟩:=HO.o.cells;clear R K L O;go_wp2_with fail;apply lC (za B D d c _ m n _ v b.N T z.o U.o HX.o.2.1 HX.o.1);rintro w2 ⟨J,v',Y⟩;have q:=bB (M.o.trans J);have l:=bB Y;clear J Y h H;go_wp2;go_ret;rw[HX.o.2.2];exact⟨rfl,q.o.below,q.o.other,v',l.o⟩
 have s:b.K≠1:=by omega
 have h1b:(b.K==1)=cA:=by simpa using s
 have hq:dJ d b.N (gC b.N d)=dA:=by
  have p:=HS.o;unfold tU at p;simp only[Ja s]at p;split at p
  .cases p
  split at p
  .cases p
  simpa using ‹¬_=cA›
 obtain⟨V,-⟩:=BR hq;have F:=bB (WC (c:=c) s hq V);obtain⟨h,H,R,K,L⟩:=HO.o.cells;obtain⟨a,cap,rfl,J⟩:=z.o.files;have p1:=kC.cells H;have p4:=kC.cells z.o.cell4;have hne:=kC.there T;have N:=bB (λW(Z:uB T W)=>kO a cap d b.N W (J.z Z) U.o (by omega));rw[hq]at N;have Z:=bB (λx:kC T=>z.o.z x.h);have a0:=bB (λx:kC T=>nB.z HO.o x.h);have P:yA d<=1048576:=by omega
 clear H R K L J HO hq O s;go_wp2_with fail;refine wB (by kernel_rfl) (by kernel_rfl) ?_;repeat (go_big_quiet_step (first|(go_at_call 122;exact oC (N.o _ (kC.h _)))))
 refine wpQuiet_nil ?_;rintro _ ⟨y,rfl⟩;have l:=bB (Z.o y);have J:cB (aHx y.w' w.1.size b 119):=a0.o y;have q:=bB (M.o.on y.h z.o.size);clear h p1 p4 hne Z a0 z M N;generalize y.w'=W at *;clear y h1b;obtain⟨h,H,R,K,L⟩:=J.o.cells;obtain G|G|G|G:=HK
 .have I:cB (¬c<pC d+b.data.size/\(tU d c b).2=d.set (gC b.N d) ⟨d[gC b.N d].N,d[gC b.N d].data++b.data,d[gC b.N d].Y⟩):=bB (by
   have p:=HS.o;rw[F.o,Ma G]at p |-
   split at p
   .cases p
   exact ⟨‹_›,by rw[Ja ‹_›]⟩)
  clear H R L;go_wp2_with fail;refine lC (fc B D _ d c _ m n _ _ b.data _ l.o V P c0 (by have:=I.o.1;omega)) ?_;rintro J ⟨Y,C⟩;have f:=bB (q.o.trans C);have r:=bB Y;clear C Y h K;go_wp2;go_ret;rw[I.o.2];exact⟨rfl,f.o.below,f.o.other,_,r.o⟩
 .have I:cB ((tU d c b).2=d.set (gC b.N d) ⟨d[gC b.N d].N,d[gC b.N d].data,d[gC b.N d].data.size⟩):=bB (by rw[F.o];simp[G]);obtain⟨g,h,O,h,h⟩:=l.o.slice (by omega);simp only[iA.slice.injEq]at O;obtain⟨rfl,_,rfl⟩:=O;obtain⟨O,_,i,Y,Y,Y,t⟩:=dP l.o.row;have Z:=(t _ V).2.1;rw[Ya]at Z;have q4:=l.o.cell4;have HSY:=bB (nc g _ O 104 _ W i Z (by omega));have r:=bB (l.o.put ((qD.refl _ _).setCell _ _) (i.set _ _) (by simp[Y]) (aCe V t d[gC b.N d].data.size));have f:=bB (q.o.set (o:=gC b.N d*3+2) i (Ca rfl) h (zA d[gC b.N d].data.size));clear i t Z H R K L;go_wp2_with fail;apply lC HSY.o;rintro J rfl;go_wp2;go_ret;rw[I.o];exact⟨rfl,f.o.below,f.o.other,_,r.o⟩
 .have I:cB ((tU d c b).2=dH (d.eraseIdx (gC b.N d)) ⟨b.tq,d[gC b.N d].data,d[gC b.N d].Y⟩):=bB (by rw[F.o];simp[G]);clear H K L;go_wp2_with fail;apply lC (sj B D _ d c _ m n _ _ b.tq _ l.o V (U.o.erase _) P);rintro J ⟨j,v3,W,C,E⟩;obtain rfl:=W.uniq (xI b.tq (U.o.erase _));have f:=bB (q.o.trans C);have r:cB (kD J B D (dH (d.eraseIdx (gC b.N d)) ⟨b.tq,d[gC b.N d].data,d[gC b.N d].Y⟩) c (k+1) m n cA v3):=bB (by
   obtain⟨s,p⟩|⟨s,p⟩:=E;obtain ⟨h,O⟩:=BR s;rw[JF (U.o.erase _) h O];exact p;rw[cX (U.o.erase _) s];exact p)
  clear E C W;go_wp2;go_ret;rw[I.o];exact⟨rfl,f.o.below,f.o.other,v3,r.o⟩
 .have I:cB ((tU d c b).2=d.eraseIdx (gC b.N d)):=bB (by rw[F.o];simp[G]);clear H R K L;go_wp2_with fail;apply lC (SG B D _ d c _ m n _ _ _ l.o V P);rintro J ⟨v3,E,_,h⟩;have r:=bB E;have f:=bB (q.o.trans (iN.removed l.o h));clear E h;go_wp2;go_ret;rw[I.o];exact⟨rfl,f.o.below,f.o.other,v3,r.o⟩
def JK(a:List xD):Prop:=∀i(h:i<yA a),wU a[i].K/\wU a[i].U
structure VR(r:gG):Prop where
 ok:sn r
 sz:(sK r).size≤60000
 U:wU r.U
 bits:∀i(h:i<yA r.P),wU r.P[i].bits
def FN(s:jB)(p:Nat)(x:jB):Prop:=∃a b,s.data.toList=a++(x.data.toList++b)/\yA a=p
section
variable {s x y t:jB} {p n k:Nat} {ls:List dC} {xs:List sF}
theorem aQh(s:jB):FN s 0 s:=⟨[],[],by simp,rfl⟩
theorem FN.l(h:FN s p (x++y)):FN s p x:=by
 obtain⟨a,b,e,c⟩:=h;exact⟨a,y.data.toList++b,by rw[e];simp,c⟩
theorem FN.r(h:FN s p (x++y)):FN s (p+x.size) y:=by
 obtain⟨a,b,e,c⟩:=h;exact⟨a++x.data.toList,b,by rw[e];simp,by simp[c]⟩
theorem FN.le(h:FN s p x):p+x.size<=s.size:=by
 obtain⟨a,b,e,c⟩:=h;rw[fR,fR,e];simp only[Kb];omega
theorem FN.sect(h:FN s p x):aI s p x.size=x.data.toList:=by
 obtain⟨a,b,e,rfl⟩:=h;rw[aI,e,List.drop_left,fR,List.take_left]
theorem FN.part(h:FN s p (pB n (t.size:Nat)++t))(d:t.size<256 ^ n):pO s p n=bA (t,p+n+t.size):=by
 obtain⟨a,b,e,c⟩:=h;exact cc (pre:=a) (post:=b) (by rw[e];simp) c d
theorem aJb(h:FN s p (mD ls))(a:k<yA ls):FN s (p+(mD (ls.take k)).size) (aN ls[k].N++aG ls[k].V):=by
 rw[<-Za (k+1) ls,cN,pU ls k a]at h;exact h.l.r
theorem aJc(h:FN s p (iE xs))(a:k<yA xs):FN s (p+(iE (xs.take k)).size) (qX xs[k]):=by
 rw[<-Za (k+1) xs,gI,aQ xs k a]at h;exact h.l.r
end
def PZ:∀xs:List sF,yA xs+yF xs<=(iE xs).size
 |[]=>Ia _
 |x::r=>by
  have h:=PZ r;have e:=zP x;show yA r+1+(yA x.B+bE x.B+yF r)<=(qX x++iE r).size;rw[Ka];omega
def VR.bulk{r:gG}(h:VR r):IK r<=130000/\r.T.size+r.R.size+mQ r.P<=60000:=by
 have a:=h.sz;have f:¬60000<r.T.size+r.R.size+mQ r.P:=λc=>by have:=aLh h.ok c;omega
 have b:r.K=1\/r.P=[]:=by by_cases e:r.K=1;exact Ca e;exact La (h.ok.2.2.2.2.1 e)
 have d:yA r.P+yF r.P<=60000:=by
  obtain e|e:=b;have:=PZ r.P;rw[sK,Ma e]at a;simp only[Ka]at a;omega;rw[e];exact Oa _
 refine⟨?_,by omega⟩;show r.T.size+r.R.size+yA r.P+yF r.P<=_;omega
def aPx{r:gG}(h:VR r):∃j m u:Nat,FN (sK r) 0 (pB 1 r.K)/\(bW r.K=dA/\FN (sK r) 1 (aN r.T)/\j=2+r.T.size\/bW r.K=cA/\r.T=kA/\j=1)/\
 (aW r.K=dA/\FN (sK r) j (aG r.R)/\m=j+2+r.R.size\/aW r.K=cA/\r.R=kA/\m=j)/\
 (qW r.K=dA/\FN (sK r) m (pB 8 r.U)/\u=m+8\/qW r.K=cA/\r.U=0/\u=m)/\(r.K=1->FN (sK r) u (pB 2 (yA r.P:Nat)++iE r.P)):=by
 obtain⟨w,v,o,q,_⟩:=h.ok;have g:∀b:jB,b.size=0->b=kA:=λb z=>by simp_all
 have f:=λx(e:sK r=x)=>show FN (sK r) 0 x from e ▸ aQh _;clear h;obtain⟨k,c,d,i,xs⟩:=r;dsimp only at *;rcases kinds w with rfl|rfl|rfl|rfl|rfl|rfl
 .have h:=f _ (aPw c d i xs);rw[Wa]at h;exact⟨_,_,_,h.l.l,Ca ⟨rfl,h.l.r,rfl⟩,La ⟨rfl,g _ (o rfl),rfl⟩,La ⟨rfl,q rfl,rfl⟩,λ_=>by have:=h.r;simp only[Ka,gB,rF]at this;rwa [show 0+(1+(1+c.size))=2+c.size by omega]at this⟩
 .have h:=f _ (aQn c d i xs);exact⟨_,_,_,h.l,La ⟨rfl,g _ (v rfl),rfl⟩,La ⟨rfl,g _ (o rfl),rfl⟩,Ca ⟨rfl,h.r,rfl⟩,λe=>by cases e⟩
 .have h:=f _ (aQo c d i xs);have a:=h.l.r;have b:=h.r;simp only[Ka,gB,rF,iF]at a b;exact⟨_,_,_,h.l.l.l,Ca ⟨rfl,h.l.l.r,rfl⟩,Ca ⟨rfl,by rwa [show 0+(1+(1+c.size))=2+c.size by omega]at a,rfl⟩,Ca ⟨rfl,by rwa [show 0+(1+(1+c.size)+(2+d.size))=2+c.size+2+d.size by omega]at b,rfl⟩,λe=>by cases e⟩
 .have h:=f _ (aQp c d i xs);exact⟨_,_,_,h,La ⟨rfl,g _ (v rfl),rfl⟩,La ⟨rfl,g _ (o rfl),rfl⟩,La ⟨rfl,q rfl,rfl⟩,λe=>by cases e⟩
 .have h:=f _ (aQq c d i xs);have a:=h.r;simp only[Ka,gB,rF]at a;exact⟨_,_,_,h.l.l,Ca ⟨rfl,h.l.r,rfl⟩,Ca ⟨rfl,by rwa [show 0+(1+(1+c.size))=2+c.size by omega]at a,rfl⟩,La ⟨rfl,q rfl,rfl⟩,λe=>by cases e⟩
 have h:=f _ (aQr c d i xs);exact⟨_,_,_,h.l,Ca ⟨rfl,h.r,rfl⟩,La ⟨rfl,g _ (o rfl),rfl⟩,La ⟨rfl,q rfl,rfl⟩,λe=>by cases e⟩
def LP(s:jB)(w:eA)(k:s.size<=maxLen):
 dF 240 #[oA s] w (zA (cJ s:Nat)):=by
 have m:cB _:=k;clear k;go_enter func240,ntmps240;go_wp2_with fail;refine(MA _).mono ?_;rintro e l ⟨b,c,rfl,_,j,a,d⟩;have g:cB (nB l b c 374/\(∀i,i<256->c[i]?=bA (.int .u32 (ZP i:Nat)))/\uB w l):=⟨j,a,d⟩
 clear j a d;go_wp2_with fail;apply lC (TF b c s _ m.o g.o.1 g.o.2.1);intro o f;have h:cB _:=vB g.o.2.2 f;clear f;go_wp2;go_ret;exact⟨rfl,h.o⟩
def lO(a:List zN):List iA:=a.flatMap λo=>[zA o.K,oA o.N,oA o.tq,oA o.data,zA o.size]
def zy:∀(l:List zN)(i:Nat)(a:i<yA l),(lO l)[i*5]?=bA (zA l[i].K)/\(lO l)[i*5+1]?=bA (oA l[i].N)/\(lO l)[i*5+2]?=bA (oA l[i].tq)/\(lO l)[i*5+3]?=bA (oA l[i].data)/\(lO l)[i*5+4]?=bA (zA l[i].size):=by
 intro l;unfold lO;induction l with
 |nil=>intro i a;exact absurd a (by simp)
 |cons x r b=>
  intro i a;cases i with
  |zero=>simp
  |succ i=>
   have:=b i (by simpa using a);simp only[Xc,Sd,Mb,Ec];have e:∀k,(i+1)*5+k=i*5+k+1+1+1+1+1:=λk=>by omega
   refine⟨?_,?_,?_,?_,?_⟩;rw[show(i+1)*5=i*5+1+1+1+1+1 by omega];simpa only[Ga]using this.1;rw[e];simpa only[Ga]using this.2.1;rw[e];simpa only[Ga]using this.2.2.1;rw[e];simpa only[Ga]using this.2.2.2.1;rw[e];simpa only[Ga]using this.2.2.2.2
def aPv{w:eA}{g:Nat}{l:List zN}(h:∀j u,(lO l)[j]?=bA u->w.cell? (dB g j)=bA u)(i:Nat)(f:i<yA l):
 w.cell? (dB g (i*5))=bA (zA l[i].K)/\w.cell? (dB g (i*5+1))=bA (oA l[i].N)/\w.cell? (dB g (i*5+2))=bA (oA l[i].tq)/\w.cell? (dB g (i*5+3))=bA (oA l[i].data)/\w.cell? (dB g (i*5+4))=bA (zA l[i].size):=by
 obtain⟨a,b,c,d,e⟩:=zy l i f;exact⟨h _ _ a,h _ _ b,h _ _ c,h _ _ d,h _ _ e⟩
def aNu{w:eA}{g:Nat}{l:List zN}{t:TypeId}(h:nB w g (lO l).toArray t):∀j u,(lO l)[j]?=bA u->w.cell? (dB g j)=bA u:=λj u a=>by
 rw[h.cell];simpa using a
def xn(r:gG)(w:eA)(e:Ending)(c:eA):Prop:=
 ∃b a,e=uA (xA #[.agg #[zA r.K,oA r.T,oA r.R,zA r.U,pA b (yA r.P) a],qA dA])/\tG c w.1.size b r.P/\uB w c
def iW(a:List xD):List iA:=a.flatMap λx=>[zA x.K,oA x.T,oA x.X,zA x.U]
def AU(a:List dC):List jB:=a.flatMap λl=>[aN l.N,aG l.V]
def lg(a:List dC)(k:Nat)(h:k<yA a):AU (a.take (k+1))=AU (a.take k)++[aN a[k].N,aG a[k].V]:=by
 unfold AU;rw[Pa h,He];rfl
def VM:∀(a:List dC),xF (AU a)=mD a
 |[]=>rfl
 |l::r=>by
  have e:AU (l::r)=[aN l.N,aG l.V]++AU r:=rfl;rw[e,lG,VM r,mD];simp[xF]
def aAw(a:mC)(Z:Nat)(c:List dC)(w:eA)(hf:sD w a c)(hB:sU c)(hlen:yA c<=16):
 dF 219 #[pA a (yA c) Z] w (oA (uH c)):=by
 have HF:cB (sD w a c):=hf;have HB:cB (sU c):=hB;have HU:cB (∀W,dF 26 #[.int .i64 (yA c:Nat)] W (oA (pB 1 (yA c:Nat)))):=λW=>EE (yA c) W;have hz1:=gB 1 (yA c:Nat);have V:cB (uH c=pB 1 (yA c:Nat)++mD c):=rfl;generalize pB 1 (yA c:Nat)=Y at *;obtain⟨ti,O,g0,h0,i0⟩:=lW;have HI:cB (prog.info? 9=bA ti):=O;clear hf hB O;go_enter func219,ntmps219;go_wp2_with fail;apply lC (HU.o _);intro Q r;have B1:cB (uB w Q):=r;have e0:w.1.size<=Q.1.size:=r.size;clear r;go_wp2;go_loopw [3,5,12] (λk0 _ i wr=>∃(k:Nat)(f:List jB)(g C:Nat),k<=yA c/\i=.int .i64 k/\k0=pA (bA ⟨g,0,aA⟩) (yA f) C/\yA f<=1+2*k/\fG f<=1+k*3000000000/\cB (f=Y::AU (c.take k))/\cB (wr.ownsRow w.1.size 9 1 (pA (bA ⟨g,0,aA⟩) (yA f) C) (yA f) (f.map iA.string))/\uB w wr) (λ_ _ i _=>yA c-(intOf i).toNat)
 case atStart=>
  exact⟨0,[Y],_,_,Oa _,rfl,rfl,by simp,by simp[fG];omega,rfl,⟨rfl,La ⟨Q.1.size,1,_,rfl,e0,heap_alloc_new _ _,Ia _,by simp[maxLen],rfl,rfl⟩⟩,vB B1.o zB⟩
 case round=>
  obtain⟨k,f,g,C,hk,rfl,rfl,hpl,hps,I,j,n⟩:=hrel;by_cases E:k<yA c
  .obtain ⟨b,o,rfl,hb,c0,c1⟩:=(HF.o.z n).at E;obtain⟨b0,d0⟩:=HB.o k E;have X:cB (∀W,dF 218 #[oA c[k].N] W (oA (aN c[k].N))):=λW=>sT c[k].N W b0;have J:cB (∀W,dF 168 #[oA c[k].V] W (oA (aG c[k].V))):=λW=>vL c[k].V W d0;have hz8:=rF c[k].N;have hz16:=iF c[k].V;have HT:=lg c k E;have U:cB (f++[aN c[k].N,aG c[k].V]=Y::AU (c.take (k+1))):=by show _=_;rw[HT,I.o];rfl
   clear HT;generalize aN c[k].N=q at *;generalize aG c[k].V=h at *;generalize c[k].N=F at *;generalize c[k].V=G at *;have s:cB (nB (wr.alloc (vA #[oA F,oA G] 181)) wr.1.size #[oA F,oA G] 181/\uB wr (wr.alloc (vA #[oA F,oA G] 181))):=⟨heap_alloc_new _ _,zB⟩
   have B:cB ((wr.alloc (vA #[oA F,oA G] 181)).ownsRow w.1.size 9 1 (pA (bA ⟨g,0,aA⟩) (yA f) C) (yA f) (f.map iA.string)/\uB w (wr.alloc (vA #[oA F,oA G] 181))):=⟨hC j.o zB,vB n zB⟩
   go_wp2_with fail;generalize wr.alloc (vA #[oA F,oA G] 181)=W at *;have S:=s.o.1.cell 0;have T:=s.o.1.cell 1;simp only[Xb,Ob,Ga]at S T;have l:wr.1.size<W.1.size:=aB s.o.1;have j0:w.1.size<=W.1.size:=B.o.2.size;have hgB:g<wr.1.size:=(bH j.o).2.1;clear j s hb c0 c1 n;generalize wr.1.size=v at *;clear wr;go_region_held3 (λp=>p.cell? ⟨v,0,aA⟩=bA (oA F)/\p.cell? ⟨v,1,aA⟩=bA (oA G))
    (first
     |go_keep
     |exact⟨z.trans S,A.trans T⟩
     |exact⟨((d.alloc d.size _).cell l).trans S,((d.alloc d.size _).cell l).trans T⟩
     |exact⟨(d.cell l).trans S,(d.cell l).trans T⟩
     |exact⟨(u.cell l).trans S,(u.cell l).trans T⟩)
    ((first
      |(go_at_call 218;apply lC (X.o _);intro Q r;have u:uB W Q:=(Below.refl _ W).drew.trans r)
      |(go_at_call 168;apply lC (J.o _);intro w2 t;have d:uB W w2:=u.trans (t.mono u.size))
      |(refine iJ _ (by rfl) _ _ _ (by rfl) w.1.size 9 ti _ 1 16 underlying30 HI.o g0 h0 i0 rfl (by omega) g (yA f) C _ (by rfl) (by exact hC (hC B.o.1 d) zB) _ 2 2 [oA q,oA h] (by rfl) rfl (by exact La ⟨_,rfl,eA.news_of_block (cs:=#[oA q,oA h]) (heap_alloc_new _ _)⟩) (by simp[iA.oneCell']) (by simp[maxLen];omega) (by omega) (by have:=d.size;simp;omega) ?_;intro g5 x R m K D hg5 L hlt5;have z:R.cell? ⟨v,0,aA⟩=W.cell? ⟨v,0,aA⟩:=(eA.cell?_of_block (D v (by have:=d.size;simp;omega) (by omega))).trans ((d.alloc d.size _).cell l);have A:R.cell? ⟨v,1,aA⟩=W.cell? ⟨v,1,aA⟩:=(eA.cell?_of_block (D v (by have:=d.size;simp;omega) (by omega))).trans ((d.alloc d.size _).cell l);have y:uB w R:=((vB B.o.2 d).alloc (Ua j0 d.size) _).trans K)))
   have P:f.map iA.string++[iA.string q,oA h]=(f++[q,h]).map iA.string:=by simp
   have N:yA (f++[q,h])=yA f+2:=by simp
   have hsm:fG (f++[q,h])=fG f+(q.size+h.size):=by rw[rH];simp[fG]
   rw[P,<-N]at m;rw[<-N];have H:cB (R.ownsRow w.1.size 9 1 (.slice (bA ⟨g5,0,aA⟩) (yA (f++[q,h])) x) (yA (f++[q,h])) ((f++[q,h]).map iA.string)/\uB w R):=⟨m,y⟩
   clear m K y D L z A P;generalize f++[q,h]=l0 at *;go_wp2;exact⟨⟨k+1,l0,g5,x,by omega,by go_num,rfl,by omega,by omega,U.o,H.o.1,H.o.2⟩,by simp[intOf];omega⟩
  have U:cB (xF f=uH c):=by
   show _=_;rw[I.o,Ra (by omega),xF,VM,V.o]
  obtain⟨a0,hg,M⟩:=bH j.o;have HJ:cB (dF 160 #[pA (bA ⟨g,0,aA⟩) (yA f) C] wr (oA (xF f))):=uI g (yA f) C f wr rfl M hg a0 (by omega) (by omega);rw[U.o]at HJ;clear j M;go_wp2_with fail;apply lC HJ.o;intro w2 t;have B2:cB (uB w w2):=vB n t;clear t;go_wp2;go_ret;exact⟨rfl,B2.o⟩
def shB(k:Int)(j:Nat):Bool:=match j with
 |0=>bW k
 |1=>k==1
 |2=>aW k
 |3=>qW k
 |_=>k==1||k==2||k==3||k==4
def fS(w:eA):Prop:=0<w.1.size/\∀i j,i<7->j<5->w.cell? (dB 0 (i*5+j))=bA (qA (shB (i:Int) j))
def fS.z{w b:eA}(h:fS w)(a:uB w b):fS b:=⟨Bb h.1 a.size,λi j c d=>(a.cell h.1).trans (h.2 i j c d)⟩
def fS.but{w b:eA}{B:Nat}(h:fS w)(a:qD B w b)(c:0≠B):fS b:=
 ⟨Bb h.1 a.size,λi j d e=>(eA.cell?_of_block (a.block _ h.1 c)).trans (h.2 i j d e)⟩
