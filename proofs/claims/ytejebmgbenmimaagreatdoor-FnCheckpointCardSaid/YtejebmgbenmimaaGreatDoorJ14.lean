import Derived.Test.YtejebmgbenmimaaGreatDoorJ10
import Derived.Test.YtejebmgbenmimaaGreatDoorJ11
import Derived.StillTail
import Derived.Test.YtejebmgbenmimaaGreatDoorJ13
set_option maxRecDepth 100000
set_option maxHeartbeats 2000000
set_option linter.defProp false
open Bool renaming true->iA,false->gA
open Option renaming some->fA,none->eA
open ByteArray renaming empty->pA
open List renaming length->cB
namespace Go.Proofs.YtejebmgbenmimaaGreatDoor
open Go renaming World->jA,Value->mA
open Value renaming bool->vA,string->tA,slice->uA,tuple->bB
open Ending renaming returned->zA
open Obj renaming cells->aB
open Go.RowKit Tryz
def WP:Nat->Int->Int
 |0,x=>x
 |k+1,x=>wrap64 (WP k x+WP k x)
def shK:Nat->Int->Int
 |0,e=>e
 |k+1,e=>shK k e / 2
def YC:Nat->Int->Bool
 |0,_=>iA
 |k+1,e=>YC k e&&(shK k e).tmod 2 != 0
def cZ(b:Int):Bool:=YC 11 (b / 4503599627370496) &&WP 12 b != 0
def aFs(b:Int)(w:jA):bM 140 #[dB b] w (vA (cZ b)):=by
 have d:fB (cZ b=(YC 11 (b / 4503599627370496) &&WP 12 b != 0)):=rfl;generalize cZ b=V at *;go_enter func140,ntmps140;go_wp2;go_loopw [3,5] (λf i wr=>∃k:Nat,k<=12/\i=dB k/\f=dB (WP k b)/\wr=w) (λ_ i _=>12-(intOf i).toNat)
 case atStart=>exact⟨0,by omega,rfl,rfl,rfl⟩
 case round=>
  obtain⟨k,g,rfl,rfl,rfl⟩:=hrel;by_cases h:k<12
  .go_wp2;exact⟨⟨k+1,by omega,by go_num,rfl,trivial⟩,by simp[intOf];omega⟩
  obtain rfl:k=12:=by omega
  generalize WP 12 b=D at *;go_wp2;generalize b / 4503599627370496=E at *;go_loopw [4,6,7] (λe a i l=>∃k:Nat,k<=11/\i=dB k/\e=dB (shK k E)/\a=vA (YC k E)/\l=wr) (λ_ _ i _=>11-(intOf i).toNat)
  case atStart=>exact⟨0,by omega,rfl,rfl,rfl,rfl⟩
  case round=>
   obtain⟨k,g,rfl,rfl,rfl,rfl⟩:=hrel;by_cases h:k<11
   .have c:YC (k+1) E=(YC k E&&(shK k E).tmod 2 != 0):=rfl;generalize YC k E=y at *;cases y
    all_goals
     replace c:=gB c;go_wp2;exact⟨⟨k+1,by omega,by go_num,rfl,by rw[c.o];simp,trivial⟩,by simp[intOf];omega⟩
   obtain rfl:k=11:=by omega
   generalize YC 11 E=y at *;cases y
   all_goals
    go_wp2;go_ret;exact⟨by rw[d.o];rfl,rfl⟩
def GF(w:jA)(h:vB)(t:kB)(e:Ending)(a:jA):Prop:=
 ∃M b d c f,e=zA (.agg #[tA h,dB t.L,uA b (cB t.M) d,uA c (cB t.Z) f])/\w.1.size<=M/\kD a w.1.size b t.M/\(∀g o,b=fA (iB g o)->g<M)/\kD a M c t.Z/\M<=a.1.size/\zB w a
def flatK(a:List pB):List mA:=a.flatMap λx=>[tA x.s,dB x.n]
def VT(w:jA)(h:vB)(t:kB)(e:Ending)(a:jA):Prop:=
 ∃M b f c d,e=zA (.agg #[tA h,dB t.L,uA b (cB t.M) f,uA c (cB t.Z) d])/\w.1.size<=M/\kD a w.1.size b t.M/\(∀g o,b=fA (iB g o)->g<M)/\a.ownsRow M 109 2 (uA c (cB t.Z) d) (cB t.Z) (flatK t.Z)/\M<=a.1.size/\zB w a
def VT.tel{w:jA}{a:vB}{t:kB}{e:Ending}{b:jA}(h:VT w a t e b):GF w a t e b:=by
 obtain⟨M,c,f,d,g,i,j,k,l,m,n⟩:=h;exact⟨M,c,f,d,g,i,j,k,l,rD m,n⟩
def nW(a b:List pB):flatK (a++b)=flatK a++flatK b:=by simp[flatK]
def dM(a:List pB):cB (flatK a)=cB a*2:=by induction a<;>grind [flatK]
def lP(b:List pB):∀u∈flatK b,u.oneCell'=iA:=by
 intro u a;simp only[flatK,Ig]at a;obtain⟨x,_,a⟩:=a;simp only[Lb,List.mem_nil_iff,Bf]at a;rcases a with rfl|rfl<;>rfl
def TA:∀(a:List pB)(j:Nat)(u:mA),(flatK a)[j]?=fA u->∃i,∃h:i<cB a,(j=i*2/\u=tA a[i].s)\/(j=i*2+1/\u=dB a[i].n)
 |[],j,u,h=>by simp[flatK]at h
 |x::r,0,u,h=>⟨0,by simp,Ca ⟨rfl,by simpa[flatK]using h.symm⟩⟩
 |x::r,1,u,h=>⟨0,by simp,La ⟨rfl,by simpa[flatK]using h.symm⟩⟩
 |x::r,j+2,u,h=>by
  have b:(flatK r)[j]?=fA u:=by simpa[flatK]using h
  obtain⟨i,c,q⟩:=TA r j u b;refine⟨i+1,by simpa using c,?_⟩;obtain⟨e,q⟩|⟨e,q⟩:=q;exact Ca ⟨by omega,by simpa using q⟩;exact La ⟨by omega,by simpa using q⟩
def qN{w:jA}{b o:Nat}{c:List pB}(h:∀i(d:i<cB c),w.cell? (iB b (o+i*2))=fA (tA c[i].s)/\w.cell? (iB b (o+i*2+1))=fA (dB c[i].n)):
 ∀j u,(flatK c)[j]?=fA u->w.cell? (((iB b o):Addr).add j)=fA u:=by
 intro j u e;have a:((iB b o):Addr).add j=(iB b (o+j)):=by unfold Addr.add;split<;>simp_all
 rw[a];obtain⟨i,d,q⟩:=TA c j u e;obtain⟨rfl,rfl⟩|⟨rfl,rfl⟩:=q;exact (h i d).1;exact (h i d).2
def wN:(prog.info? 105).map (λi=>(i.zero,i.size,i.bytes))=fA (fA (.agg #[tA pA,dB 0,uA eA 0 0,uA eA 0 0]),4,72):=by kernel_rfl
def aHy(a:List kB):Prop:=∀i(h:i<cB a),cB a[i].M<=1048576/\cB a[i].Z<=1048576
def cD.mono{B B':Nat}{w:jA}{a:nC}{k:List kB}(h:cD w B a k)(f:B'<=B):cD w B' a k:=by
 obtain h|⟨d,o,c,t,T,rfl,G,g,u,h⟩:=h;exact Ca h;have m:∀{n a j},cF w B T n a j->cF w B' T n a j:=fun{n a j} h=>by
  obtain h|⟨d,E,b,F,e,f,r⟩:=h;exact Ca h;exact La ⟨d,E,b,F,e,by omega,r⟩
 refine La ⟨d,o,c,t,T,rfl,by omega,g,u,λi v=>?_⟩;obtain⟨l,q,p,s,x,y,z,A,C,D⟩:=h i v;exact⟨l,q,p,s,x,y,z,A,m C,m D⟩
def xw(B:Nat)(r:Rd)(w:jA)(c:RB w B r):
 bM 302 #[.pointer (cC B)] w (vA (cR r)):=by
 have d:=rB.cell c 0;have f:=rB.cell c 1;simp only[Xb,Ob,Ga]at d f;have g:fB (ByteArray.empty.toList=[]):=by show _=_;rw[ByteArray.toList_eq];rfl
 obtain⟨a,b⟩:=r;simp only at d f;clear c;cases b with
 |true=>
  have E:fB (cR ⟨a,iA⟩=gA):=rfl;go_enter func302,ntmps302;go_wp2;go_ret;exact⟨tB E.o.symm,rfl⟩
 |false=>
  have E:fB (cR ⟨a,gA⟩=a.toList.isEmpty):=by
   show _=_;unfold cR;rw[g.o];cases a.toList<;>rfl
  go_enter func302,ntmps302;go_wp2;go_ret;exact⟨tB E.o.symm,rfl⟩
def jg{a:List hC}(h:(yB a).2.1=0):0<cB (yB a).1/\0<cB a:=by
 obtain⟨d,e⟩:=JD a;by_cases c:(eI a).1=0
 .obtain ⟨b,_,g,_⟩:=d c;have f:=TW g;have i:=AE a;rw[b];simp only;rw[CF];exact⟨f,by omega⟩
 have b:=e c;rw[b]at h;exact absurd h c
def ML:∀(a b:List hC),Lib.allEq kU a b=uH a b
 |[],[]=>rfl
 |[],_::_=>rfl
 |_::_,[]=>rfl
 |x::r,y::q=>by rw[Lib.allEq,uH,ML r q]
def OP[Inhabited hC]{w:jA}{b o:Nat}{c:List hC}(h:dP w b o c):∀j,j<cB c->∀i v,(jU c[j]!)[i]?=fA v->w.cell? ⟨b,o+j*2+i,eA⟩=fA v:=by grind [dP,jU]
def vD.some{w:jA}{a:nC}{c:List hC}(h:vD w a c)(d:0<cB c):∃b o,a=fA (iB b o)/\b<w.1.size/\dP w b o c:=by
 obtain rfl|h:=h;exact absurd d (by simp);exact h
def bh(w:jA)(q:Nat):zB w (w.drewN q):=⟨rfl,rfl,rfl,Ia _,λ_ _=>rfl⟩
def tw(a j:nC)(g b:Nat)(d f:List hC)(w:jA)(p:vD w a d)(s:vD w j f)(h:0<cB d)(i:0<cB f)(r:cB d<=2000000)(t:cB f<=2000000):
 gF 326 #[uA a (cB d) g,uA j (cB f) b] w (vA (uH d f)):=by
 obtain⟨l,u,rfl,_,n⟩:=p.some h;obtain⟨m,v,rfl,_,o⟩:=s.some i;haveI:=aFk
 have c:=AnyQ.slices_Equal eqlL 2 isAgg190 sizeOf190 jU (λ_=>rfl) kU aJn l u (cB d) g m v (cB f) b d f w (Ia _) (Ia _) (by omega) (by omega) (OP n) (OP o);change Calls prog 326 _ _ _ at c;apply oC c;rintro k ⟨q,rfl⟩;rw[Rb,Rb,ML];exact⟨rfl,bh w q⟩
def uv(a:nC)(d:Nat)(b:List hC)(w:jA)(s:vD w a b)(z:VM b)(h:cB b<=2000000)(k:cB b<=d)(A:iH w):
 gF 303 #[uA a (cB b) d] w (vA (dO b)):=by
 have l:fB (Calls prog 238 #[uA a (cB b) d] w λe n=>∃y g,e=zA (bB #[.slice y (cB (yB b).1) g,dB ((yB b).2.1:Nat),dB ((yB b).2.2:Nat)])/\cB (yB b).1<=g/\qE n w.1.size y (yB b).1/\zB w n):=AY a d b w s z h k A;have D:fB (vD w a b):=s;have J:=MS b;clear s z A;by_cases i:(yB b).2.1=0
 .obtain ⟨t,u⟩:=jg i;have p:fB _:=λW m q H I=>tw m a q d _ b W H I t u (by omega) h;have E:fB (dO b=uH (yB b).1 b):=by show _=_;unfold dO;rw[i];rfl
  have r:(((yB b).2.1:Int)==0)=iA:=by simp;omega
  rw[E.o];clear i E;generalize uH (yB b).1 b=K at *;generalize (yB b).1=C at *;generalize (yB b).2.1=F at *;generalize (yB b).2.2=G at *;go_enter func303,ntmps303;go_wp2_with fail;refine l.o.mono ?_;rintro e v ⟨m,q,rfl,_,f,c⟩;have o:fB _:=c;have x:fB (vD v m C/\vD v a b):=⟨f.B,D.o.z c⟩
  clear f c l;go_wp2_with fail;apply oC (p.o _ _ _ x.o.1 x.o.2);intro L j;have B:fB _:=xB o.o j;clear j;go_wp2;go_ret;exact⟨rfl,B.o⟩
 have E:fB (dO b=gA):=by show _=_;unfold dO;rw[Ub i];rfl
 have r:(((yB b).2.1:Int)==0)=gA:=by simp;omega
 rw[E.o];clear i E;generalize (yB b).1=C at *;generalize (yB b).2.1=F at *;generalize (yB b).2.2=G at *;go_enter func303,ntmps303;go_wp2_with fail;refine l.o.mono ?_;rintro e v ⟨m,q,rfl,_,f,c⟩;have o:fB _:=c;clear f c l;go_wp2;go_ret;exact⟨rfl,o.o⟩
def aIk(key:vB):WK key<=255:=by
 have:=mm 1 ⟨key,gA⟩;unfold WK;omega
def cj(key:vB)(w:jA)(D:key.size<=1000000000)(s:iH w):
 Calls prog 272 #[tA key] w λe p=>∃a j,e=zA (bB #[.slice a (cB (sG key).1) j,vA (sG key).2])/\qE p w.1.size a (sG key).1/\zB w p:=by
 have r:=gB (λW B(h:RB W B ⟨key,gA⟩)=>OO h D);rw[show lV (dK 1 ⟨key,gA⟩).2 (dK 1 ⟨key,gA⟩).1=kH key by rw[kH,WK]]at r;have d:VM (kH key).1:=λi C=>by
  have:=wj key i C;exact⟨by omega,by omega⟩
 have t:cB (kH key).1<=255:=by
  have h:cB (kH key).1=WK key:=by rw[kH];exact CS _ _
  have:=aIk key;omega
 have y:fB (∀W B,RB W B (kH key).2->bM 302 #[.pointer (cC B)] W (vA (cR (kH key).2))):=λW B h=>xw B _ W h;have u:fB _:=λW a c h z A=>uv a c _ W h d (by omega) A z;have x:=gB s;have f:=gB (⟨heap_alloc_new _ _,aC⟩:RB (w.alloc (aB #[tA key,vA gA] 179)) w.1.size ⟨key,gA⟩/\zB w (w.alloc (aB #[tA key,vA gA] 179)));have q:w.1.size<(w.alloc (aB #[tA key,vA gA] 179)).1.size:=by simp
 have E:cR (kH key).2=iA/\(dO (kH key).1=iA/\sG key=((kH key).1,iA)\/dO (kH key).1=gA/\sG key=([],gA))\/cR (kH key).2=gA/\sG key=([],gA):=by
  rw[sG];cases cR (kH key).2<;>cases dO (kH key).1<;>simp
 clear s d;generalize cR (kH key).2=J at *;generalize dO (kH key).1=F at *;generalize (kH key).1=L at *;generalize (kH key).2=G at *;generalize sG key=V at *;obtain⟨rfl,⟨rfl,rfl⟩|⟨rfl,rfl⟩⟩|⟨rfl,rfl⟩:=E
 all_goals
  go_enter func272,ntmps272;go_wp2_with(first
   |(go_at_call 233;refine(r.o _ _ f.o.1).mono ?_;rintro e H ⟨g,j,rfl,l,o,m⟩;obtain⟨n,_,_,_⟩:=mK l;have b:=gB (Vc o (Vc ((zJ l).mono (show w.1.size<=_ by omega)) (f.o.2.trans (m.below (Ia _) (by omega)))));clear l o m f q)
   |(go_at_call 302;refine tD (y.o _ _ b.o.1) ?_)
   |(go_at_call 303;apply oC (u.o _ _ _ b.o.2.1.B (x.o.z b.o.2.2) n);intro I k;replace b:=gB (Vc trivial (Vc (b.o.2.1.z k) (xB b.o.2.2 k)));clear k))
 .exact bodyPost_ret (v:=bB #[uA (cC g) (cB L) j,vA iA]) (by simp[results,results272,go_sem]) rfl ⟨_,_,rfl,b.o.2⟩
 all_goals exact bodyPost_ret (v:=bB #[uA eA 0 0,vA gA]) (by simp[results,results272,go_sem]) rfl ⟨_,_,rfl,Ca rfl,b.o.2.2⟩
def KN(s:vB)(p n:Nat)(w:jA)(o:s.size<=maxLen)(h:p+n<=s.size)(u:n<=7):
 bM 203 #[tA s,dB p,dB n] w (dB (uX (sQ s p n):Nat)):=by
 unfold maxLen at o;go_enter func203,ntmps203;go_wp2;go_loop [7,8] (λv i=>∃(k V:Nat),k<=n/\i=dB k/\v=dB V/\fB (V=uX (sQ s p k))) (λ_ i=>n-(intOf i).toNat)
 case atStart=>exact⟨0,0,Oa _,rfl,rfl,rfl⟩
 case round=>
  obtain⟨k,V,t,rfl,rfl,a⟩:=hrel;have d:V<72057594037927936:=by
   have b:=GH (sQ s p k);rw[vR (by omega),<-a.o]at b;have f:256 ^ k<=256 ^ 7:=Sc (by omega) (by omega);omega
  by_cases m:k<n
  .have g:V*256+255<9223372036854775807:=by
    have b:=GH (sQ s p k);rw[vR (by omega),<-a.o]at b;have f:256 ^ k<=256 ^ 6:=Sc (by omega) (by omega);omega
   have j:(0:Int)<=(p:Int)+(k:Int):=by omega
   have l:(p:Int)+(k:Int)<(s.size:Int):=by omega
   have c:p+k<s.size:=by omega
   have r:=s[p+k].toNat_lt;go_wp2;exact⟨⟨k+1,V*256+s[p+k].toNat,by omega,by go_num,by go_num,by show _=_;rw[PM c,DP,a.o]⟩,by simp[intOf];omega⟩
  .go_wp2;go_ret;have e:k=n:=by omega
   subst e;exact⟨vF (by rw[a.o]),rfl⟩
def gZ(s:vB)(p n:Nat):Nat:=uX (sQ s p n)
def zN(s:vB)(p n:Nat):Option (vB×Nat):=if p+n<=s.size/\p+n+gZ s p n<=s.size then fA (s.extract (p+n) (p+n+gZ s p n),p+n+gZ s p n) else eA
def aCt{t u:vB}{a b:Int}(c:t=u)(d:a=b):Ending.returned (bB #[tA t,dB a])=zA (bB #[tA u,dB b]):=by rw[c,d]
def YZ(s:vB)(n:Nat)(w:jA):
 bM 132 #[tA s,dB (-1),dB (n:Nat)] w (bB #[tA pA,dB (-1)]):=by
 go_enter func132,ntmps132;go_wp2;go_ret2;exact⟨rfl,rfl⟩
def BJ(s:vB)(p n:Nat)(w:jA)(k:s.size<=1000000000)(j:p<=1000000000)(g:n<=2)(h:zN s p n=eA):
 bM 132 #[tA s,dB (p:Nat),dB (n:Nat)] w (bB #[tA pA,dB (-1)]):=by
 by_cases a:p+n<=s.size
 .have d:fB (∀W,bM 203 #[tA s,dB (p:Nat),dB (n:Nat)] W (dB (gZ s p n:Nat))):=λW=>KN s p n W (by unfold maxLen;omega) a (by omega);have c:¬p+n+gZ s p n<=s.size:=λc=>by
   unfold zN at h;rw[Ma ⟨a,c⟩]at h;exact absurd h (by simp)
  have l:gZ s p n<65536:=by
   have f:=GH (sQ s p n);rw[vR a]at f;have i:256 ^ n<=256 ^ 2:=Sc (by omega) g;unfold gZ;omega
  clear h;generalize gZ s p n=Z at *;go_enter func132,ntmps132;go_wp2_with fail;apply dR (d.o _);go_wp2;go_ret2;exact⟨rfl,rfl⟩
 .clear h;go_enter func132,ntmps132;go_wp2;go_ret2;exact⟨rfl,rfl⟩
def eQ(s:vB)(p n:Nat)(t:vB)(q:Nat)(w:jA)(j:s.size<=1000000000)(i:n<=2)(h:zN s p n=fA (t,q)):
 bM 132 #[tA s,dB (p:Nat),dB (n:Nat)] w (bB #[tA t,dB (q:Nat)]):=by
 unfold zN at h;split at h
 .rename_i f;obtain⟨d,g⟩:=f;simp only[Qa,Dc]at h;have c:fB (∀W,bM 203 #[tA s,dB (p:Nat),dB (n:Nat)] W (dB (gZ s p n:Nat))):=λW=>KN s p n W (by unfold maxLen;omega) d (by omega);have b:fB _:=h;clear h;generalize gZ s p n=Z at *;go_enter func132,ntmps132;go_wp2_with fail;apply dR (c.o _);go_wp2;go_ret2;exact⟨aCt b.o.1 (by rw[<-b.o.2];go_num),rfl⟩
 exact absurd h (by simp)
def YH{s t:vB}{n p:Nat}{pre post:List UInt8}(h:s.data.toList=pre++((uB n (t.size:Nat)).data.toList++(t.data.toList++post)))(a:cB pre=p)(b:t.size<256 ^ n):zN s p n=fA (t,p+n+t.size):=by grind [uB,zN,gZ,sQ,fR,oB,pT,KT,zP]
def qc{s:vB}{p n:Nat}{t:vB}{q:Nat}(h:zN s p n=fA (t,q)):q<=s.size/\t.size<=s.size/\p+n<=q:=by
 unfold zN at h;split at h
 .rename_i a;simp only[Qa,Dc]at h;obtain⟨rfl,rfl⟩:=h;refine⟨a.2,?_,by omega⟩;simp;omega
 exact absurd h (by simp)
def cD.turned{S:Nat->Prop}{w q:jA}{B:Nat}{a:nC}{p:List kB}(h:cD w B a p)(n:jB S w q)(l:∀g,B<=g->g<w.1.size->¬S g):cD q B a p:=by
 obtain h|⟨g,o,c,t,T,rfl,k,e,r,h⟩:=h;exact Ca h;have m:=n.block g (eB e) (l g k (eB e));exact La ⟨g,o,c,t,T,rfl,k,m.trans e,r,λi s=>(h i s).keep (λj _=>jA.cell?_of_block m) λf b d _=>⟨n.block f b (l f d b),rfl⟩⟩
def PZ{P:Program}{o:Oper}{a:Act}{w:jA}{c:Act->Prop}(h:o.quiet P a (λj=>∃_:Unit,j=w) c):o.still P a w c:=by
 obtain⟨v,i,d⟩:=h;have b:=i w ⟨(),rfl⟩;unfold Oper.quietAt at b;unfold Oper.still;generalize (execOp a.eval o).run P w=r at b;unfold Oper.quietUpon at b;unfold Oper.stillUpon;split at b;obtain ⟨rfl,rfl⟩:=b;exact⟨rfl,d⟩;obtain ⟨rfl,rfl⟩:=b;exact⟨rfl,d⟩;obtain ⟨rfl,f⟩:=b;exact⟨rfl,v,f.mono λe k ⟨g,_,h⟩=>⟨g,h⟩,d⟩;exact b.elim
def xP{P:Program}{c:Array Oper}{w:jA}{Q:Act->Prop}:∀(l:List Oper)(a:Act),wpQuiet P c (λf=>∃_:Unit,f=w) Q l a->wpStill P c w Q l a
 |[],a,h=>h
 |o::b,a,h=>by
  unfold wpQuiet at h;unfold wpStill;split
  .rename_i g;rw[Ma g]at h;exact PZ (Oper.quiet_mono (λd e=>xP b d e) h)
  rename_i g;rw[Ja g]at h;exact xP b _ h
def uQ{P:Program}{id:Nat}{Q:Exit->Act->jA->Prop}{a:Act}{w:jA}{l:List Oper}(n:Nat)(d:P.follows .mixedOrders=iA)(c:Region.lexTailB .any l.toArray n=iA)
(h:wpQuiet P l.toArray (λe=>∃_:Unit,e=w.drew) (λb=>wpList P l.toArray Q (l.drop n) b w.drew) (l.take n) a):(Code.region id l.toArray iA).wp P Q a w:=
 wp_region_still_tail n d c (xP _ _ h)
structure yK where
 K:Int
 N:vB
 tq:vB
 data:vB
 size:Int
def GZ(a:yK):Bool:=dC a.K 1 6&&gG a.N&&(decide (a.K≠5) ||gG a.tq)
def iN(a:List nB)(c:Int)(b:yK):Nat×List nB:=
 let i:=gC b.N a
 if b.K=1 then(if tH a b.N i=iA then(5,a) else if 1000<=cB a then(3,a) else(0,iM a i ⟨b.N,pA,0⟩))
 else match a[i]? with
  |none=>(4,a)
  |some f=>
   if tH a b.N i=gA then(4,a)
   else if b.K=2 then(if c<tC a+b.data.size then(3,a) else(0,a.set i ⟨f.N,f.data++b.data,f.Y⟩))
   else if b.K=3 then(0,a.set i ⟨f.N,f.data,f.data.size⟩)
   else if b.K=4 then(if dC b.size 0 f.data.size=iA then(0,a.set i ⟨f.N,f.data.extract 0 b.size.toNat,b.size⟩) else(6,a))
   else if b.K=5 then(0,tG (a.eraseIdx i) ⟨b.tq,f.data,f.Y⟩)
   else(0,a.eraseIdx i)
def ZZ(w:jA)(b:Nat)(a:yK)(t:TypeId):Prop:=rB w b #[dB a.K,tA a.N,tA a.tq,tA a.data,dB a.size] t
def ZZ.cells{w:jA}{b:Nat}{a:yK}{t:TypeId}(h:ZZ w b a t):w.cell? (iB b 0)=fA (dB a.K)/\w.cell? (iB b 1)=fA (tA a.N)/\w.cell? (iB b 2)=fA (tA a.tq)/\w.cell? (iB b 3)=fA (tA a.data)/\w.cell? (iB b 4)=fA (dB a.size):=by
 refine⟨?_,?_,?_,?_,?_⟩<;>rw[rB.cell h]<;>rfl
def IG{S:Nat->Prop}{w j:jA}{B:Nat}{e:TypeId}{a:Nat}{v:mA}{n:Nat}{k:List mA}(h:w.ownsRow B e a v n k)(p:iE S w j)(o:∀g,v.ownBlock=fA g->¬S g):j.ownsRow B e a v n k:=by
 obtain⟨l,d⟩:=h;refine⟨l,?_⟩;obtain d|⟨g,b,c,i,m,f,r⟩:=d;exact Ca d;exact La ⟨g,b,c,i,m,(p.block g (eB f) (o g (by rw[i];rfl))).trans f,r⟩
def bD.charged{w i:jA}{B D:Nat}{j:List nB}{c k l d f:Int}{m a:Bool}{v:mA}(h:bD w B D j c k d f m v)(n:uD D w i)(b:rB i D #[dB l,dB d,dB f,vA a,v,dB c] 113):bD i B D j c l d f a v:=
 ⟨h.from',b,IG h.row (iE.but n) (λg o e=>h.apart g o e),h.apart⟩
def tI(e:List nB)(c k a d:Int)(b:Bool)(f:yK):Nat×List nB×Int×Bool:=
 if (mD k a d b).1=0 then((iN e c f).1,(iN e c f).2,(mD k a d b).2) else((mD k a d b).1,e,(mD k a d b).2)
structure aa(w:World)(B D:Nat)(fs:List nB)(c k cr fl:Int)(dn:Bool)(v:Value)(op:yK):Prop where
 drive:bD w B D fs c k cr fl dn v
 asc:mT fs
 len:cB fs≤1000
 sum:(tC fs:Int)≤c
 cap:c≤1000000000
 k0:0≤k
 k1:k≤1000000000000000
def AP(w:jA)(B D:Nat)(g:List nB)(c k b d:Int)(f:Bool)(v:mA)(a:yK):Prop:=
 Calls prog 111 #[.pointer (cC D),.agg #[dB a.K,tA a.N,tA a.tq,tA a.data,dB a.size]] w λe h=>
  e=zA (pY (tI g c k b d f a).1)/\Below B w h/\(a.K<=6->oJ w h)/\∃i,bD h B D (tI g c k b d f a).2.1 c (tI g c k b d f a).2.2.1 b d (tI g c k b d f a).2.2.2 i/\(a.K=4->i=v)
def WG(k a c:Int)(b:Bool):(mD k a c b).1=0\/(mD k a c b).1=1\/(mD k a c b).1=2:=by grind [mD]
def JB{a:List nB}{c:Int}{b:yK}(d:b.K≠1)(e:tH a b.N (gC b.N a)=gA):iN a c b=(4,a):=by
 unfold iN;simp only[Ja d];split;rfl;rw[Ma e]
theorem SU{a:List nB}{c:Int}{b:yK}(e:b.K≠1)(f:tH a b.N (gC b.N a)=iA)(d:gC b.N a<cB a):
 iN a c b=if b.K=2 then(if c<tC a+b.data.size then(3,a) else(0,a.set (gC b.N a) ⟨a[gC b.N a].N,a[gC b.N a].data++b.data,a[gC b.N a].Y⟩))
  else if b.K=3 then(0,a.set (gC b.N a) ⟨a[gC b.N a].N,a[gC b.N a].data,a[gC b.N a].data.size⟩)
  else if b.K=4 then(if dC b.size 0 a[gC b.N a].data.size=iA then(0,a.set (gC b.N a) ⟨a[gC b.N a].N,a[gC b.N a].data.extract 0 b.size.toNat,b.size⟩) else(6,a))
  else if b.K=5 then(0,tG (a.eraseIdx (gC b.N a)) ⟨b.tq,a[gC b.N a].data,a[gC b.N a].Y⟩)
  else(0,a.eraseIdx (gC b.N a)):=by grind [tH,gC,iN,tC,dC,tG]
theorem ZH(w:jA)(B D:Nat)(n:List nB)(c k d g:Int)(f:Bool)(v:mA)(s:yK)(h:aa w B D n c k d g f v s)(r:(mD k d g f).1≠0):AP w B D n c k d g f v s:=by
 unfold AP;have m:fB _:=h.drive;have p:=h.k0;have q:=h.k1;have E:fB (tI n c k d g f s=((mD k d g f).1,n,(mD k d g f).2)):=by show _=_;rw[tI,Ja r]
 have t:fB _:=Or.resolve_left (WG k d g f) r;clear h r;go_enter func111,ntmps111;go_wp2_with fail;apply oC (eW D 113 v (dB c) k d g f _ (m.o.z aC).blk p q);rintro z ⟨a,j⟩;have l:fB _:=(m.o.z aC).charged a j;have b:fB _:=wJ.charge m.o m.o.size a;clear a j;generalize x:mD k d g f=R at *;obtain⟨i,y,u⟩:=R;have o:fB (i=1\/i=2):=t.o;clear t;obtain rfl|rfl:=o.o
 .simp only[pY];go_wp2;go_ret;rw[E.o];exact⟨rfl,b.o.below,λ_=>b.o.other,v,l.o,λ_=>rfl⟩
 simp only[pY];go_wp2;go_ret;rw[E.o];exact⟨rfl,b.o.below,λ_=>b.o.other,v,l.o,λ_=>rfl⟩
theorem gz(w:jA)(B D:Nat)(b:List nB)(c k p q:Int)(r:Bool)(v:mA)(a:yK)(h:aa w B D b c k p q r v a)(I:(mD k p q r).1=0)(x:a.K=1):AP w B D b c k p q r v a:=by
 unfold AP;have t:fB _:=h.drive;have G:=h.k0;have H:=h.k1;have K:fB (mT b):=h.asc;have M:=h.len;have E:fB (tI b c k p q r a=((iN b c a).1,(iN b c a).2,(mD k p q r).2)):=by show _=_;rw[tI,Ma I]
 have Q:fB _:=I;have y:fB (iN b c a=if tH b a.N (gC a.N b)=iA then(5,b) else if 1000<=cB b then(3,b) else(0,iM b (gC a.N b) ⟨a.N,pA,0⟩)):=by show _=_;simp[iN,x]
 have l:fB _:=x;clear h I x;go_enter func111,ntmps111;go_wp2_with fail;apply oC (eW D 113 v (dB c) k p q r _ (t.o.z aC).blk G H);rintro O ⟨d,m⟩;have A:fB _:=(t.o.z aC).charged d m;have z:fB _:=wJ.charge t.o t.o.size d;have C:¬(w.1.size=D):=by have:=eB t.o.blk;omega
 have P:fB (ZZ O w.1.size a 140):=rB.keeps (S:=λk=>k=D) (g:=w.1.size) (heap_alloc_new w (aB #[dB a.K,tA a.N,tA a.tq,tA a.data,dB a.size] 140)) (iE.but d) C;obtain⟨R,T,U,V,W⟩:=P.o.cells;clear d m;rw[Q.o];simp only[pY];have x:=l.o;clear U V W;go_wp2_with fail;refine(jo B D b c _ p q _ v a.N O A.o K.o (by omega)).mono ?_;rintro e X ⟨i,J,N,u,F⟩;obtain rfl:=N.uniq (bJ a.N K.o);have f:fB _:=z.o.trans u;clear N u R T;obtain⟨o,rfl,n⟩|⟨o,L,rfl,n⟩|⟨o,L,rfl,n⟩:=F
 .have s:fB (iN b c a=(5,b)):=by show _=_;rw[y.o,Ma o]
  have j:fB _:=n;clear o n;go_wp2;go_ret;rw[E.o,s.o];exact⟨rfl,f.o.below,λ_=>f.o.other,J,j.o,λh=>(by have:=l.o;omega)⟩
 .have s:fB (iN b c a=(3,b)):=by show _=_;rw[y.o,Ja (by rw[o];simp),Ma L]
  have j:fB _:=n;clear o n;go_wp2;go_ret;rw[E.o,s.o];exact⟨rfl,f.o.below,λ_=>f.o.other,J,j.o,λh=>(by have:=l.o;omega)⟩
 have s:fB (iN b c a=(0,iM b (gC a.N b) ⟨a.N,pA,0⟩)):=by show _=_;rw[y.o,Ja (by rw[o];simp),Ja (by omega)]
 have j:fB _:=n;clear o n;go_wp2;go_ret;rw[E.o,s.o];exact⟨rfl,f.o.below,λ_=>f.o.other,J,j.o,λh=>(by have:=l.o;omega)⟩
theorem ZG(w:jA)(B D:Nat)(d:List nB)(c k j l:Int)(m:Bool)(v:mA)(b:yK)(h:aa w B D d c k j l m v b)(M:(mD k j l m).1=0)(N:b.K≠1)(L:tH d b.N (gC b.N d)=gA):AP w B D d c k j l m v b:=by
 unfold AP;have r:fB _:=h.drive;have H:=h.k0;have I:=h.k1;have R:fB (mT d):=h.asc;have O:=h.len;have E:fB (tI d c k j l m b=((iN d c b).1,(iN d c b).2,(mD k j l m).2)):=by show _=_;rw[tI,Ma M]
 have U:fB _:=M;have Q:fB (iN d c b=(4,d)):=JB N L;have T:fB _:=L;have V:(b.K==1)=gA:=by simpa using N
 clear L;clear h M;go_enter func111,ntmps111;go_wp2_with fail;apply oC (eW D 113 v (dB c) k j l m _ (r.o.z aC).blk H I);rintro u ⟨f,n⟩;have i:fB _:=(r.o.z aC).charged f n;have p:fB _:=wJ.charge r.o r.o.size f;have G:¬(w.1.size=D):=by have:=eB r.o.blk;omega
 have A:fB (ZZ u w.1.size b 140):=rB.keeps (S:=λk=>k=D) (g:=w.1.size) (heap_alloc_new w (aB #[dB b.K,tA b.N,tA b.tq,tA b.data,dB b.size] 140)) (iE.but f) G;obtain⟨X,P,Y,Z,e⟩:=A.o.cells;clear f n;rw[U.o];simp only[pY];obtain⟨a,F,rfl,o⟩:=i.o.files;have h:=mC.cells P;have G:=mC.cells i.o.cell4;have K:=mC.there u;have t:fB (∀x:mC u,wB x.w' a d):=λx=>o.z x.h;have s:fB (∀x:mC u,bD x.w' B D d c (mD k j l m).2.1 j l (mD k j l m).2.2 (uA a (cB d) F)):=λx=>i.o.z x.h;have C:fB (∀x:mC u,ZZ x.w' w.1.size b 140):=λx=>rB.z A.o x.h;have J:cB d<=1048576:=by omega
 clear P Y Z e o A;go_wp2_with fail;refine bC (by kernel_rfl) (by kernel_rfl) ?_;repeat (go_big_quiet_step (first|(go_at_call 147;exact rC (uN _ _ _ _ _ (t.o _) R.o J))))
 refine wpQuiet_nil ?_;rintro _ ⟨y,rfl⟩;have z:fB _:=s.o y;have q:fB _:=p.o.on y.h i.o.size;clear X h G K s t C i p;generalize y.w'=W at *;clear y;rw[T.o];go_wp2;go_ret;rw[E.o,Q.o];exact⟨rfl,q.o.below,λ_=>q.o.other,_,z.o,λ_=>rfl⟩
def VQ(a:List tE):Prop:=∀i(h:i<cB a),VP a[i].K/\VP a[i].U
structure VR(r:fH):Prop where
 ok:na r
 sz:(oK r).size≤60000
 U:VP r.U
 bits:∀i(h:i<cB r.P),VP r.P[i].bits
def DJ(s:vB)(p:Nat)(x:vB):Prop:=∃a b,s.data.toList=a++(x.data.toList++b)/\cB a=p
section
variable {s x y t:vB} {p n k:Nat} {ls:List hC} {xs:List wF}
theorem aMf(s:vB):DJ s 0 s:=⟨[],[],by simp,rfl⟩
theorem DJ.l(h:DJ s p (x++y)):DJ s p x:=by
 obtain⟨a,b,e,c⟩:=h;exact⟨a,y.data.toList++b,by rw[e];simp,c⟩
theorem DJ.r(h:DJ s p (x++y)):DJ s (p+x.size) y:=by
 obtain⟨a,b,e,c⟩:=h;exact⟨a++x.data.toList,b,by rw[e];simp,by simp[c]⟩
theorem DJ.le(h:DJ s p x):p+x.size<=s.size:=by
 obtain⟨a,b,e,c⟩:=h;rw[fR,fR,e];simp only[Kb];omega
theorem DJ.sect(h:DJ s p x):sQ s p x.size=x.data.toList:=by
 obtain⟨a,b,e,rfl⟩:=h;rw[sQ,e,List.drop_left,fR,List.take_left]
theorem DJ.part(h:DJ s p (uB n (t.size:Nat)++t))(d:t.size<256 ^ n):zN s p n=fA (t,p+n+t.size):=by
 obtain⟨a,b,e,c⟩:=h;exact YH (pre:=a) (post:=b) (by rw[e];simp) c d
theorem aEz(h:DJ s p (pD ls))(a:k<cB ls):DJ s (p+(pD (ls.take k)).size) (vM ls[k].N++eG ls[k].V):=by
 rw[<-Za (k+1) ls,sM,kT ls k a]at h;exact h.l.r
theorem aFa(h:DJ s p (kE xs))(a:k<cB xs):DJ s (p+(kE (xs.take k)).size) (jW xs[k]):=by
 rw[<-Za (k+1) xs,dI,jP xs k a]at h;exact h.l.r
end
def NN:∀xs:List wF,cB xs+yF xs<=(kE xs).size
 |[]=>Ia _
 |x::r=>by
  have h:=NN r;have e:=iP x;show cB r+1+(cB x.B+bE x.B+yF r)<=(jW x++kE r).size;rw[Ka];omega
def VR.bulk{r:fH}(h:VR r):FF r<=130000/\r.T.size+r.R.size+wP r.P<=60000:=by
 have a:=h.sz;have f:¬60000<r.T.size+r.R.size+wP r.P:=λc=>by have:=aHb h.ok c;omega
 have b:r.K=1\/r.P=[]:=by by_cases e:r.K=1;exact Ca e;exact La (h.ok.2.2.2.2.1 e)
 have d:cB r.P+yF r.P<=60000:=by
  obtain e|e:=b;have:=NN r.P;rw[oK,Ma e]at a;simp only[Ka]at a;omega;rw[e];exact Oa _
 refine⟨?_,by omega⟩;show r.T.size+r.R.size+cB r.P+yF r.P<=_;omega
def aLs{r:fH}(h:VR r):∃j m u:Nat,DJ (oK r) 0 (uB 1 r.K)/\(wU r.K=iA/\DJ (oK r) 1 (vM r.T)/\j=2+r.T.size\/wU r.K=gA/\r.T=pA/\j=1)/\
 (vU r.K=iA/\DJ (oK r) j (eG r.R)/\m=j+2+r.R.size\/vU r.K=gA/\r.R=pA/\m=j)/\
 (iV r.K=iA/\DJ (oK r) m (uB 8 r.U)/\u=m+8\/iV r.K=gA/\r.U=0/\u=m)/\(r.K=1->DJ (oK r) u (uB 2 (cB r.P:Nat)++kE r.P)):=by
 obtain⟨w,v,o,q,_⟩:=h.ok;have g:∀b:vB,b.size=0->b=pA:=λb z=>by simp_all
 have f:=λx(e:oK r=x)=>show DJ (oK r) 0 x from e ▸ aMf _;clear h;obtain⟨k,c,d,i,xs⟩:=r;dsimp only at *;rcases aLj w with rfl|rfl|rfl|rfl|rfl|rfl
 .have h:=f _ (aLr c d i xs);rw[Wa]at h;exact⟨_,_,_,h.l.l,Ca ⟨rfl,h.l.r,rfl⟩,La ⟨rfl,g _ (o rfl),rfl⟩,La ⟨rfl,q rfl,rfl⟩,λ_=>by have:=h.r;simp only[Ka,oB,sF]at this;rwa [show 0+(1+(1+c.size))=2+c.size by omega]at this⟩
 .have h:=f _ (aMl c d i xs);exact⟨_,_,_,h.l,La ⟨rfl,g _ (v rfl),rfl⟩,La ⟨rfl,g _ (o rfl),rfl⟩,Ca ⟨rfl,h.r,rfl⟩,λe=>by cases e⟩
 .have h:=f _ (aMm c d i xs);have a:=h.l.r;have b:=h.r;simp only[Ka,oB,sF,kF]at a b;exact⟨_,_,_,h.l.l.l,Ca ⟨rfl,h.l.l.r,rfl⟩,Ca ⟨rfl,by rwa [show 0+(1+(1+c.size))=2+c.size by omega]at a,rfl⟩,Ca ⟨rfl,by rwa [show 0+(1+(1+c.size)+(2+d.size))=2+c.size+2+d.size by omega]at b,rfl⟩,λe=>by cases e⟩
 .have h:=f _ (aMn c d i xs);exact⟨_,_,_,h,La ⟨rfl,g _ (v rfl),rfl⟩,La ⟨rfl,g _ (o rfl),rfl⟩,La ⟨rfl,q rfl,rfl⟩,λe=>by cases e⟩
 .have h:=f _ (aMo c d i xs);have a:=h.r;simp only[Ka,oB,sF]at a;exact⟨_,_,_,h.l.l,Ca ⟨rfl,h.l.r,rfl⟩,Ca ⟨rfl,by rwa [show 0+(1+(1+c.size))=2+c.size by omega]at a,rfl⟩,La ⟨rfl,q rfl,rfl⟩,λe=>by cases e⟩
 have h:=f _ (aMp c d i xs);exact⟨_,_,_,h.l,Ca ⟨rfl,h.r,rfl⟩,La ⟨rfl,g _ (o rfl),rfl⟩,La ⟨rfl,q rfl,rfl⟩,λe=>by cases e⟩
def JN(s:vB)(w:jA)(k:s.size<=maxLen):
 gF 109 #[tA s] w (dB (qK s:Nat)):=by
 have m:fB _:=k;clear k;go_enter func109,ntmps109;go_wp2_with fail;refine(JX _).mono ?_;rintro e l ⟨b,c,rfl,_,j,a,d⟩;have g:fB (rB l b c 310/\(∀i,i<256->c[i]?=fA (.int .u32 (jn i:Nat)))/\zB w l):=⟨j,a,d⟩
 clear j a d;go_wp2_with fail;apply oC (oa b c s _ m.o g.o.1 g.o.2.1);intro o f;have h:fB _:=xB g.o.2.2 f;clear f;go_wp2;go_ret;exact⟨rfl,h.o⟩
def vN(a:List yK):List mA:=a.flatMap λo=>[dB o.K,tA o.N,tA o.tq,tA o.data,dB o.size]
def ud:∀(l:List yK)(i:Nat)(a:i<cB l),(vN l)[i*5]?=fA (dB l[i].K)/\(vN l)[i*5+1]?=fA (tA l[i].N)/\(vN l)[i*5+2]?=fA (tA l[i].tq)/\(vN l)[i*5+3]?=fA (tA l[i].data)/\(vN l)[i*5+4]?=fA (dB l[i].size):=by
 intro l;unfold vN;induction l with
 |nil=>intro i a;exact absurd a (by simp)
 |cons x r b=>
  intro i a;cases i with
  |zero=>simp
  |succ i=>
   have:=b i (by simpa using a);simp only[Xc,Sd,Mb,Ec];have e:∀k,(i+1)*5+k=i*5+k+1+1+1+1+1:=λk=>by omega
   refine⟨?_,?_,?_,?_,?_⟩;rw[show(i+1)*5=i*5+1+1+1+1+1 by omega];simpa only[Ga]using this.1;rw[e];simpa only[Ga]using this.2.1;rw[e];simpa only[Ga]using this.2.2.1;rw[e];simpa only[Ga]using this.2.2.2.1;rw[e];simpa only[Ga]using this.2.2.2.2
def aLq{w:jA}{g:Nat}{l:List yK}(h:∀j u,(vN l)[j]?=fA u->w.cell? (iB g j)=fA u)(i:Nat)(f:i<cB l):
 w.cell? (iB g (i*5))=fA (dB l[i].K)/\w.cell? (iB g (i*5+1))=fA (tA l[i].N)/\w.cell? (iB g (i*5+2))=fA (tA l[i].tq)/\w.cell? (iB g (i*5+3))=fA (tA l[i].data)/\w.cell? (iB g (i*5+4))=fA (dB l[i].size):=by
 obtain⟨a,b,c,d,e⟩:=ud l i f;exact⟨h _ _ a,h _ _ b,h _ _ c,h _ _ d,h _ _ e⟩
def aJv{w:jA}{g:Nat}{l:List yK}{t:TypeId}(h:rB w g (vN l).toArray t):∀j u,(vN l)[j]?=fA u->w.cell? (iB g j)=fA u:=λj u a=>by
 rw[h.cell];simpa using a
def ZY(r:fH)(w:jA)(e:Ending)(c:jA):Prop:=
 ∃b a,e=zA (bB #[.agg #[dB r.K,tA r.T,tA r.R,dB r.U,uA b (cB r.P) a],vA iA])/\vG c w.1.size b r.P/\zB w c
def EE(a:List tE):List mA:=a.flatMap λx=>[dB x.K,tA x.T,tA x.X,dB x.U]
def iZ(a:List hC):List vB:=a.flatMap λl=>[vM l.N,eG l.V]
def fj(a:List hC)(k:Nat)(h:k<cB a):iZ (a.take (k+1))=iZ (a.take k)++[vM a[k].N,eG a[k].V]:=by
 unfold iZ;rw[Pa h,He];rfl
def SE:∀(a:List hC),xF (iZ a)=pD a
 |[]=>rfl
 |l::r=>by
  have e:iZ (l::r)=[vM l.N,eG l.V]++iZ r:=rfl;rw[e,oG,SE r,pD];simp[xF]
def ve(a:nC)(Z:Nat)(c:List hC)(w:jA)(hf:vD w a c)(hB:VM c)(hlen:cB c<=16):
 gF 236 #[uA a (cB c) Z] w (tA (bI c)):=by
 have HF:fB (vD w a c):=hf;have HB:fB (VM c):=hB;have HU:fB (∀W,gF 28 #[.int .i64 (cB c:Nat)] W (tA (uB 1 (cB c:Nat)))):=λW=>CE (cB c) W;have hz1:=oB 1 (cB c:Nat);have V:fB (bI c=uB 1 (cB c:Nat)++pD c):=rfl;generalize uB 1 (cB c:Nat)=Y at *;obtain⟨ti,O,g0,h0,i0⟩:=AC;have HI:fB (prog.info? 9=fA ti):=O;clear hf hB O;go_enter func236,ntmps236;go_wp2_with fail;apply oC (HU.o _);intro Q r;have B1:fB (zB w Q):=r;have e0:w.1.size<=Q.1.size:=r.size;clear r;go_wp2;go_loopw [3,5,12] (λk0 _ i wr=>∃(k:Nat)(f:List vB)(g C:Nat),k<=cB c/\i=.int .i64 k/\k0=uA (fA ⟨g,0,eA⟩) (cB f) C/\cB f<=1+2*k/\jG f<=1+k*3000000000/\fB (f=Y::iZ (c.take k))/\fB (wr.ownsRow w.1.size 9 1 (uA (fA ⟨g,0,eA⟩) (cB f) C) (cB f) (f.map mA.string))/\zB w wr) (λ_ _ i _=>cB c-(intOf i).toNat)
 case atStart=>
  exact⟨0,[Y],_,_,Oa _,rfl,rfl,by simp,by simp[jG];omega,rfl,⟨rfl,La ⟨Q.1.size,1,_,rfl,e0,heap_alloc_new _ _,Ia _,by simp[maxLen],rfl,rfl⟩⟩,xB B1.o aC⟩
 case round=>
  obtain⟨k,f,g,C,hk,rfl,rfl,hpl,hps,I,j,n⟩:=hrel;by_cases E:k<cB c
  .obtain ⟨b,o,rfl,hb,c0,c1⟩:=(HF.o.z n).at E;obtain⟨b0,d0⟩:=HB.o k E;have X:fB (∀W,gF 116 #[tA c[k].N] W (tA (vM c[k].N))):=λW=>sS c[k].N W b0;have J:fB (∀W,gF 117 #[tA c[k].V] W (tA (eG c[k].V))):=λW=>jL c[k].V W d0;have hz8:=sF c[k].N;have hz16:=kF c[k].V;have HT:=fj c k E;have U:fB (f++[vM c[k].N,eG c[k].V]=Y::iZ (c.take (k+1))):=by show _=_;rw[HT,I.o];rfl
   clear HT;generalize vM c[k].N=q at *;generalize eG c[k].V=h at *;generalize c[k].N=F at *;generalize c[k].V=G at *;have s:fB (rB (wr.alloc (aB #[tA F,tA G] 190)) wr.1.size #[tA F,tA G] 190/\zB wr (wr.alloc (aB #[tA F,tA G] 190))):=⟨heap_alloc_new _ _,aC⟩
   have B:fB ((wr.alloc (aB #[tA F,tA G] 190)).ownsRow w.1.size 9 1 (uA (fA ⟨g,0,eA⟩) (cB f) C) (cB f) (f.map mA.string)/\zB w (wr.alloc (aB #[tA F,tA G] 190))):=⟨lC j.o aC,xB n aC⟩
   go_wp2_with fail;generalize wr.alloc (aB #[tA F,tA G] 190)=W at *;have S:=s.o.1.cell 0;have T:=s.o.1.cell 1;simp only[Xb,Ob,Ga]at S T;have l:wr.1.size<W.1.size:=eB s.o.1;have j0:w.1.size<=W.1.size:=B.o.2.size;have hgB:g<wr.1.size:=(cH j.o).2.1;clear j s hb c0 c1 n;generalize wr.1.size=v at *;clear wr;go_region_held3 (λp=>p.cell? ⟨v,0,eA⟩=fA (tA F)/\p.cell? ⟨v,1,eA⟩=fA (tA G))
    (first
     |go_keep
     |exact⟨z.trans S,A.trans T⟩
     |exact⟨((d.alloc d.size _).cell l).trans S,((d.alloc d.size _).cell l).trans T⟩
     |exact⟨(d.cell l).trans S,(d.cell l).trans T⟩
     |exact⟨(u.cell l).trans S,(u.cell l).trans T⟩)
    ((first
      |(go_at_call 116;apply oC (X.o _);intro Q r;have u:zB W Q:=(Below.refl _ W).drew.trans r)
      |(go_at_call 117;apply oC (J.o _);intro w2 t;have d:zB W w2:=u.trans (t.mono u.size))
      |(refine yI _ (by rfl) _ _ _ (by rfl) w.1.size 9 ti _ 1 16 underlying30 HI.o g0 h0 i0 rfl (by omega) g (cB f) C _ (by rfl) (by exact lC (lC B.o.1 d) aC) _ 2 2 [tA q,tA h] (by rfl) rfl (by exact La ⟨_,rfl,jA.news_of_block (cs:=#[tA q,tA h]) (heap_alloc_new _ _)⟩) (by simp[mA.oneCell']) (by simp[maxLen];omega) (by omega) (by have:=d.size;simp;omega) ?_;intro g5 x R m K D hg5 L hlt5;have z:R.cell? ⟨v,0,eA⟩=W.cell? ⟨v,0,eA⟩:=(jA.cell?_of_block (D v (by have:=d.size;simp;omega) (by omega))).trans ((d.alloc d.size _).cell l);have A:R.cell? ⟨v,1,eA⟩=W.cell? ⟨v,1,eA⟩:=(jA.cell?_of_block (D v (by have:=d.size;simp;omega) (by omega))).trans ((d.alloc d.size _).cell l);have y:zB w R:=((xB B.o.2 d).alloc (Ua j0 d.size) _).trans K)))
   have P:f.map mA.string++[mA.string q,tA h]=(f++[q,h]).map mA.string:=by simp
   have N:cB (f++[q,h])=cB f+2:=by simp
   have hsm:jG (f++[q,h])=jG f+(q.size+h.size):=by rw[vH];simp[jG]
   rw[P,<-N]at m;rw[<-N];have H:fB (R.ownsRow w.1.size 9 1 (.slice (fA ⟨g5,0,eA⟩) (cB (f++[q,h])) x) (cB (f++[q,h])) ((f++[q,h]).map mA.string)/\zB w R):=⟨m,y⟩
   clear m K y D L z A P;generalize f++[q,h]=l0 at *;go_wp2;exact⟨⟨k+1,l0,g5,x,by omega,by go_num,rfl,by omega,by omega,U.o,H.o.1,H.o.2⟩,by simp[intOf];omega⟩
  have U:fB (xF f=bI c):=by
   show _=_;rw[I.o,Ra (by omega),xF,SE,V.o]
  obtain⟨a0,hg,M⟩:=cH j.o;have HJ:fB (gF 108 #[uA (fA ⟨g,0,eA⟩) (cB f) C] wr (tA (xF f))):=mI g (cB f) C f wr rfl M hg a0 (by omega) (by omega);rw[U.o]at HJ;clear j M;go_wp2_with fail;apply oC HJ.o;intro w2 t;have B2:fB (zB w w2):=xB n t;clear t;go_wp2;go_ret;exact⟨rfl,B2.o⟩
def xh(k:Int)(j:Nat):Bool:=match j with
 |0=>wU k
 |1=>k==1
 |2=>vU k
 |3=>iV k
 |_=>k==1||k==2||k==3||k==4
def eR(w:jA):Prop:=0<w.1.size/\∀i j,i<7->j<5->w.cell? (iB 0 (i*5+j))=fA (vA (xh (i:Int) j))
def eR.z{w b:jA}(h:eR w)(a:zB w b):eR b:=⟨Bb h.1 a.size,λi j c d=>(a.cell h.1).trans (h.2 i j c d)⟩
def eR.but{w b:jA}{B:Nat}(h:eR w)(a:uD B w b)(c:0≠B):eR b:=
 ⟨Bb h.1 a.size,λi j d e=>(jA.cell?_of_block (a.block _ h.1 c)).trans (h.2 i j d e)⟩
