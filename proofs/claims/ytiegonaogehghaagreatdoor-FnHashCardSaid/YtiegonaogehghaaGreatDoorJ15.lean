import Derived.Test.YtiegonaogehghaaGreatDoorJ11
import Derived.Test.YtiegonaogehghaaGreatDoorJ12
import Derived.StillTail
import Derived.Test.YtiegonaogehghaaGreatDoorJ14
set_option maxRecDepth 100000
set_option maxHeartbeats 2000000
set_option linter.defProp false
open Bool renaming true->dA,false->cA
open Option renaming some->bA,none->aA
open ByteArray renaming empty->kA
open List renaming length->yA
namespace Go.Proofs.YtiegonaogehghaaGreatDoor
open Go renaming World->eA,Value->iA
open Value renaming bool->qA,string->oA,slice->pA,tuple->xA
open Ending renaming returned->uA
open Obj renaming cells->vA
open Go.RowKit Tryz
def XR:Nat->Int->Int
 |0,x=>x
 |k+1,x=>wrap64 (XR k x+XR k x)
def shK:Nat->Int->Int
 |0,e=>e
 |k+1,e=>shK k e / 2
def ZC:Nat->Int->Bool
 |0,_=>dA
 |k+1,e=>ZC k e&&(shK k e).tmod 2 != 0
def yY(b:Int):Bool:=ZC 11 (b / 4503599627370496) &&XR 12 b != 0
def aHx(b:Int)(w:eA):hI 115 #[zA b] w (qA (yY b)):=by
 have d:bB (yY b=(ZC 11 (b / 4503599627370496) &&XR 12 b != 0)):=rfl;generalize yY b=V at *;go_enter func115,ntmps115;go_wp2;go_loopw [3,5] (λf i wr=>∃k:Nat,k<=12/\i=zA k/\f=zA (XR k b)/\wr=w) (λ_ i _=>12-(intOf i).toNat)
 case atStart=>exact⟨0,by omega,rfl,rfl,rfl⟩
 case round=>
  obtain⟨k,g,rfl,rfl,rfl⟩:=hrel;by_cases h:k<12
  .go_wp2;exact⟨⟨k+1,by omega,by go_num,rfl,trivial⟩,by simp[intOf];omega⟩
  obtain rfl:k=12:=by omega
  generalize XR 12 b=D at *;go_wp2;generalize b / 4503599627370496=E at *;go_loopw [4,6,7] (λe a i l=>∃k:Nat,k<=11/\i=zA k/\e=zA (shK k E)/\a=qA (ZC k E)/\l=wr) (λ_ _ i _=>11-(intOf i).toNat)
  case atStart=>exact⟨0,by omega,rfl,rfl,rfl,rfl⟩
  case round=>
   obtain⟨k,g,rfl,rfl,rfl,rfl⟩:=hrel;by_cases h:k<11
   .have c:ZC (k+1) E=(ZC k E&&(shK k E).tmod 2 != 0):=rfl;generalize ZC k E=y at *;cases y
    all_goals
     replace c:=cB c;go_wp2;exact⟨⟨k+1,by omega,by go_num,rfl,by rw[c.o];simp,trivial⟩,by simp[intOf];omega⟩
   obtain rfl:k=11:=by omega
   generalize ZC 11 E=y at *;cases y
   all_goals
    go_wp2;go_ret;exact⟨by rw[d.o];rfl,rfl⟩
def GK(w:eA)(h:nB)(t:fB)(e:Ending)(a:eA):Prop:=
 ∃M b d c f,e=uA (.agg #[oA h,zA t.L,pA b (yA t.M) d,pA c (yA t.Z) f])/\w.1.size<=M/\eD a w.1.size b t.M/\(∀g o,b=bA (dB g o)->g<M)/\eD a M c t.Z/\M<=a.1.size/\tB w a
def flatK(a:List iB):List iA:=a.flatMap λx=>[oA x.s,zA x.n]
def WU(w:eA)(h:nB)(t:fB)(e:Ending)(a:eA):Prop:=
 ∃M b f c d,e=uA (.agg #[oA h,zA t.L,pA b (yA t.M) f,pA c (yA t.Z) d])/\w.1.size<=M/\eD a w.1.size b t.M/\(∀g o,b=bA (dB g o)->g<M)/\a.ownsRow M 58 2 (pA c (yA t.Z) d) (yA t.Z) (flatK t.Z)/\M<=a.1.size/\tB w a
def WU.tel{w:eA}{a:nB}{t:fB}{e:Ending}{b:eA}(h:WU w a t e b):GK w a t e b:=by
 obtain⟨M,c,f,d,g,i,j,k,l,m,n⟩:=h;exact⟨M,c,f,d,g,i,j,k,l,vD m,n⟩
def mW(a b:List iB):flatK (a++b)=flatK a++flatK b:=by simp[flatK]
def aM(a:List iB):yA (flatK a)=yA a*2:=by induction a<;>grind [flatK]
def sP(b:List iB):∀u∈flatK b,u.oneCell'=dA:=by
 intro u a;simp only[flatK,Ig]at a;obtain⟨x,_,a⟩:=a;simp only[Lb,List.mem_nil_iff,Bf]at a;rcases a with rfl|rfl<;>rfl
def UM:∀(a:List iB)(j:Nat)(u:iA),(flatK a)[j]?=bA u->∃i,∃h:i<yA a,(j=i*2/\u=oA a[i].s)\/(j=i*2+1/\u=zA a[i].n)
 |[],j,u,h=>by simp[flatK]at h
 |x::r,0,u,h=>⟨0,by simp,Ca ⟨rfl,by simpa[flatK]using h.symm⟩⟩
 |x::r,1,u,h=>⟨0,by simp,La ⟨rfl,by simpa[flatK]using h.symm⟩⟩
 |x::r,j+2,u,h=>by
  have b:(flatK r)[j]?=bA u:=by simpa[flatK]using h
  obtain⟨i,c,q⟩:=UM r j u b;refine⟨i+1,by simpa using c,?_⟩;obtain⟨e,q⟩|⟨e,q⟩:=q;exact Ca ⟨by omega,by simpa using q⟩;exact La ⟨by omega,by simpa using q⟩
def sN{w:eA}{b o:Nat}{c:List iB}(h:∀i(d:i<yA c),w.cell? (dB b (o+i*2))=bA (oA c[i].s)/\w.cell? (dB b (o+i*2+1))=bA (zA c[i].n)):
 ∀j u,(flatK c)[j]?=bA u->w.cell? (((dB b o):Addr).add j)=bA u:=by
 intro j u e;have a:((dB b o):Addr).add j=(dB b (o+j)):=by unfold Addr.add;split<;>simp_all
 rw[a];obtain⟨i,d,q⟩:=UM c j u e;obtain⟨rfl,rfl⟩|⟨rfl,rfl⟩:=q;exact (h i d).1;exact (h i d).2
def rQ:(prog.info? 54).map (λi=>(i.zero,i.size,i.bytes))=bA (bA (.agg #[oA kA,zA 0,pA aA 0 0,pA aA 0 0]),4,72):=by kernel_rfl
def aKc(a:List fB):Prop:=∀i(h:i<yA a),yA a[i].M<=1048576/\yA a[i].Z<=1048576
def zC.mono{B B':Nat}{w:eA}{a:jC}{k:List fB}(h:zC w B a k)(f:B'<=B):zC w B' a k:=by
 obtain h|⟨d,o,c,t,T,rfl,G,g,u,h⟩:=h;exact Ca h;have m:∀{n a j},wE w B T n a j->wE w B' T n a j:=fun{n a j} h=>by
  obtain h|⟨d,E,b,F,e,f,r⟩:=h;exact Ca h;exact La ⟨d,E,b,F,e,by omega,r⟩
 refine La ⟨d,o,c,t,T,rfl,by omega,g,u,λi v=>?_⟩;obtain⟨l,q,p,s,x,y,z,A,C,D⟩:=h i v;exact⟨l,q,p,s,x,y,z,A,m C,m D⟩
def aAn(B:Nat)(r:Rd)(w:eA)(c:RB w B r):
 hI 295 #[.pointer (pB B)] w (qA (gR r)):=by
 have d:=gB.cell c 0;have f:=gB.cell c 1;simp only[Xb,Ob,Ga]at d f;have g:bB (ByteArray.empty.toList=[]):=by show _=_;rw[ByteArray.toList_eq];rfl
 obtain⟨a,b⟩:=r;simp only at d f;clear c;cases b with
 |true=>
  have E:bB (gR ⟨a,dA⟩=cA):=rfl;go_enter func295,ntmps295;go_wp2;go_ret;exact⟨oB E.o.symm,rfl⟩
 |false=>
  have E:bB (gR ⟨a,cA⟩=a.toList.isEmpty):=by
   show _=_;unfold gR;rw[g.o];cases a.toList<;>rfl
  go_enter func295,ntmps295;go_wp2;go_ret;exact⟨oB E.o.symm,rfl⟩
def lx{a:List bC}(h:(uB a).2.1=0):0<yA (uB a).1/\0<yA a:=by
 obtain⟨d,e⟩:=JR a;by_cases c:(aI a).1=0
 .obtain ⟨b,_,g,_⟩:=d c;have f:=UX g;have i:=yZ a;rw[b];simp only;rw[CA];exact⟨f,by omega⟩
 have b:=e c;rw[b]at h;exact absurd h c
def MP:∀(a b:List bC),Lib.allEq mU a b=nH a b
 |[],[]=>rfl
 |[],_::_=>rfl
 |_::_,[]=>rfl
 |x::r,y::q=>by rw[Lib.allEq,nH,MP r q]
def PC[Inhabited bC]{w:eA}{b o:Nat}{c:List bC}(h:kP w b o c):∀j,j<yA c->∀i v,(kU c[j]!)[i]?=bA v->w.cell? ⟨b,o+j*2+i,aA⟩=bA v:=by grind [kP,kU]
def nD.some{w:eA}{a:jC}{c:List bC}(h:nD w a c)(d:0<yA c):∃b o,a=bA (dB b o)/\b<w.1.size/\kP w b o c:=by
 obtain rfl|h:=h;exact absurd d (by simp);exact h
def de(w:eA)(q:Nat):tB w (w.drewN q):=⟨rfl,rfl,rfl,Ia _,λ_ _=>rfl⟩
def wj(a j:jC)(g b:Nat)(d f:List bC)(w:eA)(p:nD w a d)(s:nD w j f)(h:0<yA d)(i:0<yA f)(r:yA d<=2000000)(t:yA f<=2000000):
 vE 322 #[pA a (yA d) g,pA j (yA f) b] w (qA (nH d f)):=by
 obtain⟨l,u,rfl,_,n⟩:=p.some h;obtain⟨m,v,rfl,_,o⟩:=s.some i;haveI:=aHo
 have c:=AnyQ.slices_Equal eqlL 2 isAgg181 sizeOf181 kU (λ_=>rfl) mU aLo l u (yA d) g m v (yA f) b d f w (Ia _) (Ia _) (by omega) (by omega) (PC n) (PC o);change Calls prog 322 _ _ _ at c;apply hC c;rintro k ⟨q,rfl⟩;rw[Rb,Rb,MP];exact⟨rfl,de w q⟩
def xu(a:jC)(d:Nat)(b:List bC)(w:eA)(s:nD w a b)(z:WN b)(h:yA b<=2000000)(k:yA b<=d)(A:bH w):
 vE 296 #[pA a (yA b) d] w (qA (dO b)):=by
 have l:bB (Calls prog 220 #[pA a (yA b) d] w λe n=>∃y g,e=uA (xA #[.slice y (yA (uB b).1) g,zA ((uB b).2.1:Nat),zA ((uB b).2.2:Nat)])/\yA (uB b).1<=g/\tD n w.1.size y (uB b).1/\tB w n):=AX a d b w s z h k A;have D:bB (nD w a b):=s;have J:=MW b;clear s z A;by_cases i:(uB b).2.1=0
 .obtain ⟨t,u⟩:=lx i;have p:bB _:=λW m q H I=>wj m a q d _ b W H I t u (by omega) h;have E:bB (dO b=nH (uB b).1 b):=by show _=_;unfold dO;rw[i];rfl
  have r:(((uB b).2.1:Int)==0)=dA:=by simp;omega
  rw[E.o];clear i E;generalize nH (uB b).1 b=K at *;generalize (uB b).1=C at *;generalize (uB b).2.1=F at *;generalize (uB b).2.2=G at *;go_enter func296,ntmps296;go_wp2_with fail;refine l.o.mono ?_;rintro e v ⟨m,q,rfl,_,f,c⟩;have o:bB _:=c;have x:bB (nD v m C/\nD v a b):=⟨f.B,D.o.z c⟩
  clear f c l;go_wp2_with fail;apply hC (p.o _ _ _ x.o.1 x.o.2);intro L j;have B:bB _:=vB o.o j;clear j;go_wp2;go_ret;exact⟨rfl,B.o⟩
 have E:bB (dO b=cA):=by show _=_;unfold dO;rw[Ub i];rfl
 have r:(((uB b).2.1:Int)==0)=cA:=by simp;omega
 rw[E.o];clear i E;generalize (uB b).1=C at *;generalize (uB b).2.1=F at *;generalize (uB b).2.2=G at *;go_enter func296,ntmps296;go_wp2_with fail;refine l.o.mono ?_;rintro e v ⟨m,q,rfl,_,f,c⟩;have o:bB _:=c;clear f c l;go_wp2;go_ret;exact⟨rfl,o.o⟩
def aKo(key:nB):XL key<=255:=by
 have:=oz 1 ⟨key,cA⟩;unfold XL;omega
def ed(key:nB)(w:eA)(D:key.size<=1000000000)(s:bH w):
 Calls prog 260 #[oA key] w λe p=>∃a j,e=uA (xA #[.slice a (yA (nG key).1) j,qA (nG key).2])/\tD p w.1.size a (nG key).1/\tB w p:=by
 have r:=cB (λW B(h:RB W B ⟨key,cA⟩)=>PA h D);rw[show oV (eK 1 ⟨key,cA⟩).2 (eK 1 ⟨key,cA⟩).1=dH key by rw[dH,XL]]at r;have d:WN (dH key).1:=λi C=>by
  have:=zo key i C;exact⟨by omega,by omega⟩
 have t:yA (dH key).1<=255:=by
  have h:yA (dH key).1=XL key:=by rw[dH];exact CO _ _
  have:=aKo key;omega
 have y:bB (∀W B,RB W B (dH key).2->hI 295 #[.pointer (pB B)] W (qA (gR (dH key).2))):=λW B h=>aAn B _ W h;have u:bB _:=λW a c h z A=>xu a c _ W h d (by omega) A z;have x:=cB s;have f:=cB (⟨heap_alloc_new _ _,yB⟩:RB (w.alloc (vA #[oA key,qA cA] 170)) w.1.size ⟨key,cA⟩/\tB w (w.alloc (vA #[oA key,qA cA] 170)));have q:w.1.size<(w.alloc (vA #[oA key,qA cA] 170)).1.size:=by simp
 have E:gR (dH key).2=dA/\(dO (dH key).1=dA/\nG key=((dH key).1,dA)\/dO (dH key).1=cA/\nG key=([],cA))\/gR (dH key).2=cA/\nG key=([],cA):=by
  rw[nG];cases gR (dH key).2<;>cases dO (dH key).1<;>simp
 clear s d;generalize gR (dH key).2=J at *;generalize dO (dH key).1=F at *;generalize (dH key).1=L at *;generalize (dH key).2=G at *;generalize nG key=V at *;obtain⟨rfl,⟨rfl,rfl⟩|⟨rfl,rfl⟩⟩|⟨rfl,rfl⟩:=E
 all_goals
  go_enter func260,ntmps260;go_wp2_with(first
   |(go_at_call 215;refine(r.o _ _ f.o.1).mono ?_;rintro e H ⟨g,j,rfl,l,o,m⟩;obtain⟨n,_,_,_⟩:=tK l;have b:=cB (Vc o (Vc ((xJ l).mono (show w.1.size<=_ by omega)) (f.o.2.trans (m.below (Ia _) (by omega)))));clear l o m f q)
   |(go_at_call 295;refine oD (y.o _ _ b.o.1) ?_)
   |(go_at_call 296;apply hC (u.o _ _ _ b.o.2.1.B (x.o.z b.o.2.2) n);intro I k;replace b:=cB (Vc trivial (Vc (b.o.2.1.z k) (vB b.o.2.2 k)));clear k))
 .exact bodyPost_ret (v:=xA #[pA (pB g) (yA L) j,qA dA]) (by simp[results,results260,go_sem]) rfl ⟨_,_,rfl,b.o.2⟩
 all_goals exact bodyPost_ret (v:=xA #[pA aA 0 0,qA cA]) (by simp[results,results260,go_sem]) rfl ⟨_,_,rfl,Ca rfl,b.o.2.2⟩
def KV(s:nB)(p n:Nat)(w:eA)(o:s.size<=maxLen)(h:p+n<=s.size)(u:n<=7):
 hI 171 #[oA s,zA p,zA n] w (zA (uX (yQ s p n):Nat)):=by
 unfold maxLen at o;go_enter func171,ntmps171;go_wp2;go_loop [7,8] (λv i=>∃(k V:Nat),k<=n/\i=zA k/\v=zA V/\bB (V=uX (yQ s p k))) (λ_ i=>n-(intOf i).toNat)
 case atStart=>exact⟨0,0,Oa _,rfl,rfl,rfl⟩
 case round=>
  obtain⟨k,V,t,rfl,rfl,a⟩:=hrel;have d:V<72057594037927936:=by
   have b:=GO (yQ s p k);rw[tR (by omega),<-a.o]at b;have f:256 ^ k<=256 ^ 7:=Sc (by omega) (by omega);omega
  by_cases m:k<n
  .have g:V*256+255<9223372036854775807:=by
    have b:=GO (yQ s p k);rw[tR (by omega),<-a.o]at b;have f:256 ^ k<=256 ^ 6:=Sc (by omega) (by omega);omega
   have j:(0:Int)<=(p:Int)+(k:Int):=by omega
   have l:(p:Int)+(k:Int)<(s.size:Int):=by omega
   have c:p+k<s.size:=by omega
   have r:=s[p+k].toNat_lt;go_wp2;exact⟨⟨k+1,V*256+s[p+k].toNat,by omega,by go_num,by go_num,by show _=_;rw[QL c,DP,a.o]⟩,by simp[intOf];omega⟩
  .go_wp2;go_ret;have e:k=n:=by omega
   subst e;exact⟨zE (by rw[a.o]),rfl⟩
def bZ(s:nB)(p n:Nat):Nat:=uX (yQ s p n)
def xN(s:nB)(p n:Nat):Option (nB×Nat):=if p+n<=s.size/\p+n+bZ s p n<=s.size then bA (s.extract (p+n) (p+n+bZ s p n),p+n+bZ s p n) else aA
def aEv{t u:nB}{a b:Int}(c:t=u)(d:a=b):Ending.returned (xA #[oA t,zA a])=uA (xA #[oA u,zA b]):=by rw[c,d]
def ZU(s:nB)(n:Nat)(w:eA):
 hI 103 #[oA s,zA (-1),zA (n:Nat)] w (xA #[oA kA,zA (-1)]):=by
 go_enter func103,ntmps103;go_wp2;go_ret2;exact⟨rfl,rfl⟩
def BI(s:nB)(p n:Nat)(w:eA)(k:s.size<=1000000000)(j:p<=1000000000)(g:n<=2)(h:xN s p n=aA):
 hI 103 #[oA s,zA (p:Nat),zA (n:Nat)] w (xA #[oA kA,zA (-1)]):=by
 by_cases a:p+n<=s.size
 .have d:bB (∀W,hI 171 #[oA s,zA (p:Nat),zA (n:Nat)] W (zA (bZ s p n:Nat))):=λW=>KV s p n W (by unfold maxLen;omega) a (by omega);have c:¬p+n+bZ s p n<=s.size:=λc=>by
   unfold xN at h;rw[Ma ⟨a,c⟩]at h;exact absurd h (by simp)
  have l:bZ s p n<65536:=by
   have f:=GO (yQ s p n);rw[tR a]at f;have i:256 ^ n<=256 ^ 2:=Sc (by omega) g;unfold bZ;omega
  clear h;generalize bZ s p n=Z at *;go_enter func103,ntmps103;go_wp2_with fail;apply cO (d.o _);go_wp2;go_ret2;exact⟨rfl,rfl⟩
 .clear h;go_enter func103,ntmps103;go_wp2;go_ret2;exact⟨rfl,rfl⟩
def kQ(s:nB)(p n:Nat)(t:nB)(q:Nat)(w:eA)(j:s.size<=1000000000)(i:n<=2)(h:xN s p n=bA (t,q)):
 hI 103 #[oA s,zA (p:Nat),zA (n:Nat)] w (xA #[oA t,zA (q:Nat)]):=by
 unfold xN at h;split at h
 .rename_i f;obtain⟨d,g⟩:=f;simp only[Qa,Dc]at h;have c:bB (∀W,hI 171 #[oA s,zA (p:Nat),zA (n:Nat)] W (zA (bZ s p n:Nat))):=λW=>KV s p n W (by unfold maxLen;omega) d (by omega);have b:bB _:=h;clear h;generalize bZ s p n=Z at *;go_enter func103,ntmps103;go_wp2_with fail;apply cO (c.o _);go_wp2;go_ret2;exact⟨aEv b.o.1 (by rw[<-b.o.2];go_num),rfl⟩
 exact absurd h (by simp)
def ZG{s t:nB}{n p:Nat}{pre post:List UInt8}(h:s.data.toList=pre++((qB n (t.size:Nat)).data.toList++(t.data.toList++post)))(a:yA pre=p)(b:t.size<256 ^ n):xN s p n=bA (t,p+n+t.size):=by grind [qB,xN,bZ,yQ,jR,kB,pT,LD,fQ]
def sn{s:nB}{p n:Nat}{t:nB}{q:Nat}(h:xN s p n=bA (t,q)):q<=s.size/\t.size<=s.size/\p+n<=q:=by
 unfold xN at h;split at h
 .rename_i a;simp only[Qa,Dc]at h;obtain⟨rfl,rfl⟩:=h;refine⟨a.2,?_,by omega⟩;simp;omega
 exact absurd h (by simp)
def zC.turned{S:Nat->Prop}{w q:eA}{B:Nat}{a:jC}{p:List fB}(h:zC w B a p)(n:eB S w q)(l:∀g,B<=g->g<w.1.size->¬S g):zC q B a p:=by
 obtain h|⟨g,o,c,t,T,rfl,k,e,r,h⟩:=h;exact Ca h;have m:=n.block g (aB e) (l g k (aB e));exact La ⟨g,o,c,t,T,rfl,k,m.trans e,r,λi s=>(h i s).keep (λj _=>eA.cell?_of_block m) λf b d _=>⟨n.block f b (l f d b),rfl⟩⟩
def QW{P:Program}{o:Oper}{a:Act}{w:eA}{c:Act->Prop}(h:o.quiet P a (λj=>∃_:Unit,j=w) c):o.still P a w c:=by
 obtain⟨v,i,d⟩:=h;have b:=i w ⟨(),rfl⟩;unfold Oper.quietAt at b;unfold Oper.still;generalize (execOp a.eval o).run P w=r at b;unfold Oper.quietUpon at b;unfold Oper.stillUpon;split at b;obtain ⟨rfl,rfl⟩:=b;exact⟨rfl,d⟩;obtain ⟨rfl,rfl⟩:=b;exact⟨rfl,d⟩;obtain ⟨rfl,f⟩:=b;exact⟨rfl,v,f.mono λe k ⟨g,_,h⟩=>⟨g,h⟩,d⟩;exact b.elim
def cQ{P:Program}{c:Array Oper}{w:eA}{Q:Act->Prop}:∀(l:List Oper)(a:Act),wpQuiet P c (λf=>∃_:Unit,f=w) Q l a->wpStill P c w Q l a
 |[],a,h=>h
 |o::b,a,h=>by
  unfold wpQuiet at h;unfold wpStill;split
  .rename_i g;rw[Ma g]at h;exact QW (Oper.quiet_mono (λd e=>cQ b d e) h)
  rename_i g;rw[Ja g]at h;exact cQ b _ h
def aR{P:Program}{id:Nat}{Q:Exit->Act->eA->Prop}{a:Act}{w:eA}{l:List Oper}(n:Nat)(d:P.follows .mixedOrders=dA)(c:Region.lexTailB .any l.toArray n=dA)
(h:wpQuiet P l.toArray (λe=>∃_:Unit,e=w.drew) (λb=>wpList P l.toArray Q (l.drop n) b w.drew) (l.take n) a):(Code.region id l.toArray dA).wp P Q a w:=
 wp_region_still_tail n d c (cQ _ _ h)
structure pK where
 K:Int
 N:nB
 tq:nB
 data:nB
 size:Int
def IJ(a:pK):Bool:=zB a.K 1 6&&cH a.N&&(decide (a.K≠5) ||cH a.tq)
def zO(a:List jB)(c:Int)(b:pK):Nat×List jB:=
 let i:=fC b.N a
 if b.K=1 then(if fI a b.N i=dA then(5,a) else if 1000<=yA a then(3,a) else(0,dM a i ⟨b.N,kA,0⟩))
 else match a[i]? with
  |none=>(4,a)
  |some f=>
   if fI a b.N i=cA then(4,a)
   else if b.K=2 then(if c<qC a+b.data.size then(3,a) else(0,a.set i ⟨f.N,f.data++b.data,f.Y⟩))
   else if b.K=3 then(0,a.set i ⟨f.N,f.data,f.data.size⟩)
   else if b.K=4 then(if zB b.size 0 f.data.size=dA then(0,a.set i ⟨f.N,f.data.extract 0 b.size.toNat,b.size⟩) else(6,a))
   else if b.K=5 then(0,vH (a.eraseIdx i) ⟨b.tq,f.data,f.Y⟩)
   else(0,a.eraseIdx i)
def bl(w:eA)(b:Nat)(a:pK)(t:TypeId):Prop:=gB w b #[zA a.K,oA a.N,oA a.tq,oA a.data,zA a.size] t
def bl.cells{w:eA}{b:Nat}{a:pK}{t:TypeId}(h:bl w b a t):w.cell? (dB b 0)=bA (zA a.K)/\w.cell? (dB b 1)=bA (oA a.N)/\w.cell? (dB b 2)=bA (oA a.tq)/\w.cell? (dB b 3)=bA (oA a.data)/\w.cell? (dB b 4)=bA (zA a.size):=by
 refine⟨?_,?_,?_,?_,?_⟩<;>rw[gB.cell h]<;>rfl
def IP{S:Nat->Prop}{w j:eA}{B:Nat}{e:TypeId}{a:Nat}{v:iA}{n:Nat}{k:List iA}(h:w.ownsRow B e a v n k)(p:bE S w j)(o:∀g,v.ownBlock=bA g->¬S g):j.ownsRow B e a v n k:=by
 obtain⟨l,d⟩:=h;refine⟨l,?_⟩;obtain d|⟨g,b,c,i,m,f,r⟩:=d;exact Ca d;exact La ⟨g,b,c,i,m,(p.block g (aB f) (o g (by rw[i];rfl))).trans f,r⟩
def rC.charged{w i:eA}{B D:Nat}{j:List jB}{c k l d f:Int}{m a:Bool}{v:iA}(h:rC w B D j c k d f m v)(n:pD D w i)(b:gB i D #[zA l,zA d,zA f,qA a,v,zA c] 153):rC i B D j c l d f a v:=
 ⟨h.from',b,IP h.row (bE.but n) (λg o e=>h.apart g o e),h.apart⟩
def kJ(e:List jB)(c k a d:Int)(b:Bool)(f:pK):Nat×List jB×Int×Bool:=
 if (iD k a d b).1=0 then((zO e c f).1,(zO e c f).2,(iD k a d b).2) else((iD k a d b).1,e,(iD k a d b).2)
structure bn(w:World)(B D:Nat)(fs:List jB)(c k cr fl:Int)(dn:Bool)(v:Value)(op:pK):Prop where
 drive:rC w B D fs c k cr fl dn v
 asc:xU fs
 len:yA fs≤1000
 sum:(qC fs:Int)≤c
 cap:c≤1000000000
 k0:0≤k
 k1:k≤1000000000000000
def AN(w:eA)(B D:Nat)(g:List jB)(c k b d:Int)(f:Bool)(v:iA)(a:pK):Prop:=
 Calls prog 125 #[.pointer (pB D),.agg #[zA a.K,oA a.N,oA a.tq,oA a.data,zA a.size]] w λe h=>
  e=uA (eH (kJ g c k b d f a).1)/\Below B w h/\(a.K<=6->nJ w h)/\∃i,rC h B D (kJ g c k b d f a).2.1 c (kJ g c k b d f a).2.2.1 b d (kJ g c k b d f a).2.2.2 i/\(a.K=4->i=v)
theorem DS(k a c:Int)(b:Bool):(iD k a c b).1=0\/(iD k a c b).1=1\/(iD k a c b).1=2:=by grind [iD]
def JO{a:List jB}{c:Int}{b:pK}(d:b.K≠1)(e:fI a b.N (fC b.N a)=cA):zO a c b=(4,a):=by
 unfold zO;simp only[Ja d];split;rfl;rw[Ma e]
theorem UG{a:List jB}{c:Int}{b:pK}(e:b.K≠1)(f:fI a b.N (fC b.N a)=dA)(d:fC b.N a<yA a):
 zO a c b=if b.K=2 then(if c<qC a+b.data.size then(3,a) else(0,a.set (fC b.N a) ⟨a[fC b.N a].N,a[fC b.N a].data++b.data,a[fC b.N a].Y⟩))
  else if b.K=3 then(0,a.set (fC b.N a) ⟨a[fC b.N a].N,a[fC b.N a].data,a[fC b.N a].data.size⟩)
  else if b.K=4 then(if zB b.size 0 a[fC b.N a].data.size=dA then(0,a.set (fC b.N a) ⟨a[fC b.N a].N,a[fC b.N a].data.extract 0 b.size.toNat,b.size⟩) else(6,a))
  else if b.K=5 then(0,vH (a.eraseIdx (fC b.N a)) ⟨b.tq,a[fC b.N a].data,a[fC b.N a].Y⟩)
  else(0,a.eraseIdx (fC b.N a)):=by grind [fI,fC,zO,qC,zB,vH]
theorem aa(w:eA)(B D:Nat)(n:List jB)(c k d g:Int)(f:Bool)(v:iA)(s:pK)(h:bn w B D n c k d g f v s)(r:(iD k d g f).1≠0):AN w B D n c k d g f v s:=by
 unfold AN;have m:bB _:=h.drive;have p:=h.k0;have q:=h.k1;have E:bB (kJ n c k d g f s=((iD k d g f).1,n,(iD k d g f).2)):=by show _=_;rw[kJ,Ja r]
 have t:bB _:=Or.resolve_left (DS k d g f) r;clear h r;go_enter func125,ntmps125;go_wp2_with fail;apply hC (dW D 153 v (zA c) k d g f _ (m.o.z yB).blk p q);rintro z ⟨a,j⟩;have l:bB _:=(m.o.z yB).charged a j;have b:bB _:=vJ.charge m.o m.o.size a;clear a j;generalize x:iD k d g f=R at *;obtain⟨i,y,u⟩:=R;have o:bB (i=1\/i=2):=t.o;clear t;obtain rfl|rfl:=o.o
 .simp only[eH];go_wp2;go_ret;rw[E.o];exact⟨rfl,b.o.below,λ_=>b.o.other,v,l.o,λ_=>rfl⟩
 simp only[eH];go_wp2;go_ret;rw[E.o];exact⟨rfl,b.o.below,λ_=>b.o.other,v,l.o,λ_=>rfl⟩
theorem jz(w:eA)(B D:Nat)(b:List jB)(c k p q:Int)(r:Bool)(v:iA)(a:pK)(h:bn w B D b c k p q r v a)(I:(iD k p q r).1=0)(x:a.K=1):AN w B D b c k p q r v a:=by
 unfold AN;have t:bB _:=h.drive;have G:=h.k0;have H:=h.k1;have K:bB (xU b):=h.asc;have M:=h.len;have E:bB (kJ b c k p q r a=((zO b c a).1,(zO b c a).2,(iD k p q r).2)):=by show _=_;rw[kJ,Ma I]
 have Q:bB _:=I;have y:bB (zO b c a=if fI b a.N (fC a.N b)=dA then(5,b) else if 1000<=yA b then(3,b) else(0,dM b (fC a.N b) ⟨a.N,kA,0⟩)):=by show _=_;simp[zO,x]
 have l:bB _:=x;clear h I x;go_enter func125,ntmps125;go_wp2_with fail;apply hC (dW D 153 v (zA c) k p q r _ (t.o.z yB).blk G H);rintro O ⟨d,m⟩;have A:bB _:=(t.o.z yB).charged d m;have z:bB _:=vJ.charge t.o t.o.size d;have C:¬(w.1.size=D):=by have:=aB t.o.blk;omega
 have P:bB (bl O w.1.size a 115):=gB.keeps (S:=λk=>k=D) (g:=w.1.size) (heap_alloc_new w (vA #[zA a.K,oA a.N,oA a.tq,oA a.data,zA a.size] 115)) (bE.but d) C;obtain⟨R,T,U,V,W⟩:=P.o.cells;clear d m;rw[Q.o];simp only[eH];have x:=l.o;clear U V W;go_wp2_with fail;refine(mg B D b c _ p q _ v a.N O A.o K.o (by omega)).mono ?_;rintro e X ⟨i,J,N,u,F⟩;obtain rfl:=N.uniq (lK a.N K.o);have f:bB _:=z.o.trans u;clear N u R T;obtain⟨o,rfl,n⟩|⟨o,L,rfl,n⟩|⟨o,L,rfl,n⟩:=F
 .have s:bB (zO b c a=(5,b)):=by show _=_;rw[y.o,Ma o]
  have j:bB _:=n;clear o n;go_wp2;go_ret;rw[E.o,s.o];exact⟨rfl,f.o.below,λ_=>f.o.other,J,j.o,λh=>(by have:=l.o;omega)⟩
 .have s:bB (zO b c a=(3,b)):=by show _=_;rw[y.o,Ja (by rw[o];simp),Ma L]
  have j:bB _:=n;clear o n;go_wp2;go_ret;rw[E.o,s.o];exact⟨rfl,f.o.below,λ_=>f.o.other,J,j.o,λh=>(by have:=l.o;omega)⟩
 have s:bB (zO b c a=(0,dM b (fC a.N b) ⟨a.N,kA,0⟩)):=by show _=_;rw[y.o,Ja (by rw[o];simp),Ja (by omega)]
 have j:bB _:=n;clear o n;go_wp2;go_ret;rw[E.o,s.o];exact⟨rfl,f.o.below,λ_=>f.o.other,J,j.o,λh=>(by have:=l.o;omega)⟩
theorem ZZ(w:eA)(B D:Nat)(d:List jB)(c k j l:Int)(m:Bool)(v:iA)(b:pK)(h:bn w B D d c k j l m v b)(M:(iD k j l m).1=0)(N:b.K≠1)(L:fI d b.N (fC b.N d)=cA):AN w B D d c k j l m v b:=by
 unfold AN;have r:bB _:=h.drive;have H:=h.k0;have I:=h.k1;have R:bB (xU d):=h.asc;have O:=h.len;have E:bB (kJ d c k j l m b=((zO d c b).1,(zO d c b).2,(iD k j l m).2)):=by show _=_;rw[kJ,Ma M]
 have U:bB _:=M;have Q:bB (zO d c b=(4,d)):=JO N L;have T:bB _:=L;have V:(b.K==1)=cA:=by simpa using N
 clear L;clear h M;go_enter func125,ntmps125;go_wp2_with fail;apply hC (dW D 153 v (zA c) k j l m _ (r.o.z yB).blk H I);rintro u ⟨f,n⟩;have i:bB _:=(r.o.z yB).charged f n;have p:bB _:=vJ.charge r.o r.o.size f;have G:¬(w.1.size=D):=by have:=aB r.o.blk;omega
 have A:bB (bl u w.1.size b 115):=gB.keeps (S:=λk=>k=D) (g:=w.1.size) (heap_alloc_new w (vA #[zA b.K,oA b.N,oA b.tq,oA b.data,zA b.size] 115)) (bE.but f) G;obtain⟨X,P,Y,Z,e⟩:=A.o.cells;clear f n;rw[U.o];simp only[eH];obtain⟨a,F,rfl,o⟩:=i.o.files;have h:=iC.cells P;have G:=iC.cells i.o.cell4;have K:=iC.there u;have t:bB (∀x:iC u,rB x.w' a d):=λx=>o.z x.h;have s:bB (∀x:iC u,rC x.w' B D d c (iD k j l m).2.1 j l (iD k j l m).2.2 (pA a (yA d) F)):=λx=>i.o.z x.h;have C:bB (∀x:iC u,bl x.w' w.1.size b 115):=λx=>gB.z A.o x.h;have J:yA d<=1048576:=by omega
 clear P Y Z e o A;go_wp2_with fail;refine wB (by kernel_rfl) (by kernel_rfl) ?_;repeat (go_big_quiet_step (first|(go_at_call 124;exact mC (rT _ _ _ _ _ (t.o _) R.o J))))
 refine wpQuiet_nil ?_;rintro _ ⟨y,rfl⟩;have z:bB _:=s.o y;have q:bB _:=p.o.on y.h i.o.size;clear X h G K s t C i p;generalize y.w'=W at *;clear y;rw[T.o];go_wp2;go_ret;rw[E.o,Q.o];exact⟨rfl,q.o.below,λ_=>q.o.other,_,z.o,λ_=>rfl⟩
def WT(a:List qE):Prop:=∀i(h:i<yA a),WR a[i].K/\WR a[i].U
structure VR(r:dG):Prop where
 ok:pw r
 sz:(uK r).size≤60000
 U:WR r.U
 bits:∀i(h:i<yA r.P),WR r.P[i].bits
def DJ(s:nB)(p:Nat)(x:nB):Prop:=∃a b,s.data.toList=a++(x.data.toList++b)/\yA a=p
section
variable {s x y t:nB} {p n k:Nat} {ls:List bC} {xs:List oF}
theorem aOf(s:nB):DJ s 0 s:=⟨[],[],by simp,rfl⟩
theorem DJ.l(h:DJ s p (x++y)):DJ s p x:=by
 obtain⟨a,b,e,c⟩:=h;exact⟨a,y.data.toList++b,by rw[e];simp,c⟩
theorem DJ.r(h:DJ s p (x++y)):DJ s (p+x.size) y:=by
 obtain⟨a,b,e,c⟩:=h;exact⟨a++x.data.toList,b,by rw[e];simp,by simp[c]⟩
theorem DJ.le(h:DJ s p x):p+x.size<=s.size:=by
 obtain⟨a,b,e,c⟩:=h;rw[jR,jR,e];simp only[Kb];omega
theorem DJ.sect(h:DJ s p x):yQ s p x.size=x.data.toList:=by
 obtain⟨a,b,e,rfl⟩:=h;rw[yQ,e,List.drop_left,jR,List.take_left]
theorem DJ.part(h:DJ s p (qB n (t.size:Nat)++t))(d:t.size<256 ^ n):xN s p n=bA (t,p+n+t.size):=by
 obtain⟨a,b,e,c⟩:=h;exact ZG (pre:=a) (post:=b) (by rw[e];simp) c d
theorem aHc(h:DJ s p (gD ls))(a:k<yA ls):DJ s (p+(gD (ls.take k)).size) (xM ls[k].N++vF ls[k].V):=by
 rw[<-Za (k+1) ls,mM,eT ls k a]at h;exact h.l.r
theorem aHd(h:DJ s p (cE xs))(a:k<yA xs):DJ s (p+(cE (xs.take k)).size) (gW xs[k]):=by
 rw[<-Za (k+1) xs,zH,pP xs k a]at h;exact h.l.r
end
def NW:∀xs:List oF,yA xs+sF xs<=(cE xs).size
 |[]=>Ia _
 |x::r=>by
  have h:=NW r;have e:=oP x;show yA r+1+(yA x.B+rD x.B+sF r)<=(gW x++cE r).size;rw[Ka];omega
def VR.bulk{r:dG}(h:VR r):FO r<=130000/\r.T.size+r.R.size+bP r.P<=60000:=by
 have a:=h.sz;have f:¬60000<r.T.size+r.R.size+bP r.P:=λc=>by have:=aJb h.ok c;omega
 have b:r.K=1\/r.P=[]:=by by_cases e:r.K=1;exact Ca e;exact La (h.ok.2.2.2.2.1 e)
 have d:yA r.P+sF r.P<=60000:=by
  obtain e|e:=b;have:=NW r.P;rw[uK,Ma e]at a;simp only[Ka]at a;omega;rw[e];exact Oa _
 refine⟨?_,by omega⟩;show r.T.size+r.R.size+yA r.P+sF r.P<=_;omega
def aNo{r:dG}(h:VR r):∃j m u:Nat,DJ (uK r) 0 (qB 1 r.K)/\(zU r.K=dA/\DJ (uK r) 1 (xM r.T)/\j=2+r.T.size\/zU r.K=cA/\r.T=kA/\j=1)/\
 (yU r.K=dA/\DJ (uK r) j (vF r.R)/\m=j+2+r.R.size\/yU r.K=cA/\r.R=kA/\m=j)/\
 (mV r.K=dA/\DJ (uK r) m (qB 8 r.U)/\u=m+8\/mV r.K=cA/\r.U=0/\u=m)/\(r.K=1->DJ (uK r) u (qB 2 (yA r.P:Nat)++cE r.P)):=by
 obtain⟨w,v,o,q,_⟩:=h.ok;have g:∀b:nB,b.size=0->b=kA:=λb z=>by simp_all
 have f:=λx(e:uK r=x)=>show DJ (uK r) 0 x from e ▸ aOf _;clear h;obtain⟨k,c,d,i,xs⟩:=r;dsimp only at *;rcases aNi w with rfl|rfl|rfl|rfl|rfl|rfl
 .have h:=f _ (aNn c d i xs);rw[Wa]at h;exact⟨_,_,_,h.l.l,Ca ⟨rfl,h.l.r,rfl⟩,La ⟨rfl,g _ (o rfl),rfl⟩,La ⟨rfl,q rfl,rfl⟩,λ_=>by have:=h.r;simp only[Ka,kB,lF]at this;rwa [show 0+(1+(1+c.size))=2+c.size by omega]at this⟩
 .have h:=f _ (aOn c d i xs);exact⟨_,_,_,h.l,La ⟨rfl,g _ (v rfl),rfl⟩,La ⟨rfl,g _ (o rfl),rfl⟩,Ca ⟨rfl,h.r,rfl⟩,λe=>by cases e⟩
 .have h:=f _ (aOo c d i xs);have a:=h.l.r;have b:=h.r;simp only[Ka,kB,lF,bF]at a b;exact⟨_,_,_,h.l.l.l,Ca ⟨rfl,h.l.l.r,rfl⟩,Ca ⟨rfl,by rwa [show 0+(1+(1+c.size))=2+c.size by omega]at a,rfl⟩,Ca ⟨rfl,by rwa [show 0+(1+(1+c.size)+(2+d.size))=2+c.size+2+d.size by omega]at b,rfl⟩,λe=>by cases e⟩
 .have h:=f _ (aOp c d i xs);exact⟨_,_,_,h,La ⟨rfl,g _ (v rfl),rfl⟩,La ⟨rfl,g _ (o rfl),rfl⟩,La ⟨rfl,q rfl,rfl⟩,λe=>by cases e⟩
 .have h:=f _ (aOq c d i xs);have a:=h.r;simp only[Ka,kB,lF]at a;exact⟨_,_,_,h.l.l,Ca ⟨rfl,h.l.r,rfl⟩,Ca ⟨rfl,by rwa [show 0+(1+(1+c.size))=2+c.size by omega]at a,rfl⟩,La ⟨rfl,q rfl,rfl⟩,λe=>by cases e⟩
 have h:=f _ (aOr c d i xs);exact⟨_,_,_,h.l,Ca ⟨rfl,h.r,rfl⟩,La ⟨rfl,g _ (o rfl),rfl⟩,La ⟨rfl,q rfl,rfl⟩,λe=>by cases e⟩
def JY(s:nB)(w:eA)(k:s.size<=maxLen):
 vE 240 #[oA s] w (zA (lL s:Nat)):=by
 have m:bB _:=k;clear k;go_enter func240,ntmps240;go_wp2_with fail;refine(gf _).mono ?_;rintro e l ⟨b,c,rfl,_,j,a,d⟩;have g:bB (gB l b c 374/\(∀i,i<256->c[i]?=bA (.int .u32 (mf i:Nat)))/\tB w l):=⟨j,a,d⟩
 clear j a d;go_wp2_with fail;apply hC (qo b c s _ m.o g.o.1 g.o.2.1);intro o f;have h:bB _:=vB g.o.2.2 f;clear f;go_wp2;go_ret;exact⟨rfl,h.o⟩
def vN(a:List pK):List iA:=a.flatMap λo=>[zA o.K,oA o.N,oA o.tq,oA o.data,zA o.size]
def wu:∀(l:List pK)(i:Nat)(a:i<yA l),(vN l)[i*5]?=bA (zA l[i].K)/\(vN l)[i*5+1]?=bA (oA l[i].N)/\(vN l)[i*5+2]?=bA (oA l[i].tq)/\(vN l)[i*5+3]?=bA (oA l[i].data)/\(vN l)[i*5+4]?=bA (zA l[i].size):=by
 intro l;unfold vN;induction l with
 |nil=>intro i a;exact absurd a (by simp)
 |cons x r b=>
  intro i a;cases i with
  |zero=>simp
  |succ i=>
   have:=b i (by simpa using a);simp only[Xc,Sd,Mb,Ec];have e:∀k,(i+1)*5+k=i*5+k+1+1+1+1+1:=λk=>by omega
   refine⟨?_,?_,?_,?_,?_⟩;rw[show(i+1)*5=i*5+1+1+1+1+1 by omega];simpa only[Ga]using this.1;rw[e];simpa only[Ga]using this.2.1;rw[e];simpa only[Ga]using this.2.2.1;rw[e];simpa only[Ga]using this.2.2.2.1;rw[e];simpa only[Ga]using this.2.2.2.2
def aNm{w:eA}{g:Nat}{l:List pK}(h:∀j u,(vN l)[j]?=bA u->w.cell? (dB g j)=bA u)(i:Nat)(f:i<yA l):
 w.cell? (dB g (i*5))=bA (zA l[i].K)/\w.cell? (dB g (i*5+1))=bA (oA l[i].N)/\w.cell? (dB g (i*5+2))=bA (oA l[i].tq)/\w.cell? (dB g (i*5+3))=bA (oA l[i].data)/\w.cell? (dB g (i*5+4))=bA (zA l[i].size):=by
 obtain⟨a,b,c,d,e⟩:=wu l i f;exact⟨h _ _ a,h _ _ b,h _ _ c,h _ _ d,h _ _ e⟩
def aLw{w:eA}{g:Nat}{l:List pK}{t:TypeId}(h:gB w g (vN l).toArray t):∀j u,(vN l)[j]?=bA u->w.cell? (dB g j)=bA u:=λj u a=>by
 rw[h.cell];simpa using a
def bh(r:dG)(w:eA)(e:Ending)(c:eA):Prop:=
 ∃b a,e=uA (xA #[.agg #[zA r.K,oA r.T,oA r.R,zA r.U,pA b (yA r.P) a],qA dA])/\qG c w.1.size b r.P/\tB w c
def EG(a:List qE):List iA:=a.flatMap λx=>[zA x.K,oA x.T,oA x.X,zA x.U]
def xF(b:nB->Nat)(n:Nat)(a:List nB):List (List nB):=(List.range n).map λi=>a.filter λk=>b k==i
def wI(b:nB->Nat)(n:Nat)(a:List nB):yA (xF b n a)=n:=by simp[xF]
def uN(b:nB->Nat)(n:Nat)(a:List nB)(i:Nat)(h:i<yA (xF b n a)):(xF b n a)[i]=a.filter λk=>b k==i:=by simp[xF]
def vu(a:nB->Nat)(n:Nat):xF a n []=List.replicate n []:=by
 apply List.ext_getElem;simp[wI];intro i b c;rw[uN];simp
def mi(a:nB->Nat)(n:Nat)(b:List nB)(k:nB)(h:a k<n):xF a n (b++[k])=(xF a n b).set (a k) ((xF a n b)[a k]'(by rw[wI];exact h)++[k]):=by
 apply List.ext_getElem;simp[wI];intro i f d;have g:i<yA (xF a n b):=by simpa using d
 have c:(xF a n b)[a k]'(by rw[wI];exact h)=b.filter λq=>a q==a k:=uN _ _ _ _ _;simp only[c];rw[uN,List.getElem_set,Vf];by_cases e:a k=i
 .rw[Ma e];subst e;simp
 rw[Ja e,uN];simp[e]
def NF(b:nB->Nat)(n:Nat)(a:List nB):xF b (n+1) a=xF b n a++[a.filter λk=>b k==n]:=by simp[xF,List.range_succ]
def dT:List (List nB)->Nat
 |[]=>0
 |t::r=>yA t+dT r
def FX(a b:List (List nB)):dT (a++b)=dT a+dT b:=by
 induction a with
 |nil=>simp[dT]
 |cons f r c=>simp[dT,c];omega
def dZ(a:List bC):List nB:=a.flatMap λl=>[xM l.N,vF l.V]
def ij(a:List bC)(k:Nat)(h:k<yA a):dZ (a.take (k+1))=dZ (a.take k)++[xM a[k].N,vF a[k].V]:=by
 unfold dZ;rw[Pa h,He];rfl
def TM:∀(a:List bC),qF (dZ a)=gD a
 |[]=>rfl
 |l::r=>by
  have e:dZ (l::r)=[xM l.N,vF l.V]++dZ r:=rfl;rw[e,eG,TM r,gD];simp[qF]
def yb(a:jC)(Z:Nat)(c:List bC)(w:eA)(hf:nD w a c)(hB:WN c)(hlen:yA c<=16):
 vE 219 #[pA a (yA c) Z] w (oA (tH c)):=by
 have HF:bB (nD w a c):=hf;have HB:bB (WN c):=hB;have HU:bB (∀W,vE 24 #[.int .i64 (yA c:Nat)] W (oA (qB 1 (yA c:Nat)))):=λW=>BZ (yA c) W;have hz1:=kB 1 (yA c:Nat);have V:bB (tH c=qB 1 (yA c:Nat)++gD c):=rfl;generalize qB 1 (yA c:Nat)=Y at *;obtain⟨ti,O,g0,h0,i0⟩:=wZ;have HI:bB (prog.info? 9=bA ti):=O;clear hf hB O;go_enter func219,ntmps219;go_wp2_with fail;apply hC (HU.o _);intro Q r;have B1:bB (tB w Q):=r;have e0:w.1.size<=Q.1.size:=r.size;clear r;go_wp2;go_loopw [3,5,12] (λk0 _ i wr=>∃(k:Nat)(f:List nB)(g C:Nat),k<=yA c/\i=.int .i64 k/\k0=pA (bA ⟨g,0,aA⟩) (yA f) C/\yA f<=1+2*k/\yF f<=1+k*3000000000/\bB (f=Y::dZ (c.take k))/\bB (wr.ownsRow w.1.size 9 1 (pA (bA ⟨g,0,aA⟩) (yA f) C) (yA f) (f.map iA.string))/\tB w wr) (λ_ _ i _=>yA c-(intOf i).toNat)
 case atStart=>
  exact⟨0,[Y],_,_,Oa _,rfl,rfl,by simp,by simp[yF];omega,rfl,⟨rfl,La ⟨Q.1.size,1,_,rfl,e0,heap_alloc_new _ _,Ia _,by simp[maxLen],rfl,rfl⟩⟩,vB B1.o yB⟩
 case round=>
  obtain⟨k,f,g,C,hk,rfl,rfl,hpl,hps,I,j,n⟩:=hrel;by_cases E:k<yA c
  .obtain ⟨b,o,rfl,hb,c0,c1⟩:=(HF.o.z n).at E;obtain⟨b0,d0⟩:=HB.o k E;have X:bB (∀W,vE 218 #[oA c[k].N] W (oA (xM c[k].N))):=λW=>mS c[k].N W b0;have J:bB (∀W,vE 166 #[oA c[k].V] W (oA (vF c[k].V))):=λW=>mL c[k].V W d0;have hz8:=lF c[k].N;have hz16:=bF c[k].V;have HT:=ij c k E;have U:bB (f++[xM c[k].N,vF c[k].V]=Y::dZ (c.take (k+1))):=by show _=_;rw[HT,I.o];rfl
   clear HT;generalize xM c[k].N=q at *;generalize vF c[k].V=h at *;generalize c[k].N=F at *;generalize c[k].V=G at *;have s:bB (gB (wr.alloc (vA #[oA F,oA G] 181)) wr.1.size #[oA F,oA G] 181/\tB wr (wr.alloc (vA #[oA F,oA G] 181))):=⟨heap_alloc_new _ _,yB⟩
   have B:bB ((wr.alloc (vA #[oA F,oA G] 181)).ownsRow w.1.size 9 1 (pA (bA ⟨g,0,aA⟩) (yA f) C) (yA f) (f.map iA.string)/\tB w (wr.alloc (vA #[oA F,oA G] 181))):=⟨eC j.o yB,vB n yB⟩
   go_wp2_with fail;generalize wr.alloc (vA #[oA F,oA G] 181)=W at *;have S:=s.o.1.cell 0;have T:=s.o.1.cell 1;simp only[Xb,Ob,Ga]at S T;have l:wr.1.size<W.1.size:=aB s.o.1;have j0:w.1.size<=W.1.size:=B.o.2.size;have hgB:g<wr.1.size:=(xG j.o).2.1;clear j s hb c0 c1 n;generalize wr.1.size=v at *;clear wr;go_region_held3 (λp=>p.cell? ⟨v,0,aA⟩=bA (oA F)/\p.cell? ⟨v,1,aA⟩=bA (oA G))
    (first
     |go_keep
     |exact⟨z.trans S,A.trans T⟩
     |exact⟨((d.alloc d.size _).cell l).trans S,((d.alloc d.size _).cell l).trans T⟩
     |exact⟨(d.cell l).trans S,(d.cell l).trans T⟩
     |exact⟨(u.cell l).trans S,(u.cell l).trans T⟩)
    ((first
      |(go_at_call 218;apply hC (X.o _);intro Q r;have u:tB W Q:=(Below.refl _ W).drew.trans r)
      |(go_at_call 166;apply hC (J.o _);intro w2 t;have d:tB W w2:=u.trans (t.mono u.size))
      |(refine tI _ (by rfl) _ _ _ (by rfl) w.1.size 9 ti _ 1 16 underlying30 HI.o g0 h0 i0 rfl (by omega) g (yA f) C _ (by rfl) (by exact eC (eC B.o.1 d) yB) _ 2 2 [oA q,oA h] (by rfl) rfl (by exact La ⟨_,rfl,eA.news_of_block (cs:=#[oA q,oA h]) (heap_alloc_new _ _)⟩) (by simp[iA.oneCell']) (by simp[maxLen];omega) (by omega) (by have:=d.size;simp;omega) ?_;intro g5 x R m K D hg5 L hlt5;have z:R.cell? ⟨v,0,aA⟩=W.cell? ⟨v,0,aA⟩:=(eA.cell?_of_block (D v (by have:=d.size;simp;omega) (by omega))).trans ((d.alloc d.size _).cell l);have A:R.cell? ⟨v,1,aA⟩=W.cell? ⟨v,1,aA⟩:=(eA.cell?_of_block (D v (by have:=d.size;simp;omega) (by omega))).trans ((d.alloc d.size _).cell l);have y:tB w R:=((vB B.o.2 d).alloc (Ua j0 d.size) _).trans K)))
   have P:f.map iA.string++[iA.string q,oA h]=(f++[q,h]).map iA.string:=by simp
   have N:yA (f++[q,h])=yA f+2:=by simp
   have hsm:yF (f++[q,h])=yF f+(q.size+h.size):=by rw[oH];simp[yF]
   rw[P,<-N]at m;rw[<-N];have H:bB (R.ownsRow w.1.size 9 1 (.slice (bA ⟨g5,0,aA⟩) (yA (f++[q,h])) x) (yA (f++[q,h])) ((f++[q,h]).map iA.string)/\tB w R):=⟨m,y⟩
   clear m K y D L z A P;generalize f++[q,h]=l0 at *;go_wp2;exact⟨⟨k+1,l0,g5,x,by omega,by go_num,rfl,by omega,by omega,U.o,H.o.1,H.o.2⟩,by simp[intOf];omega⟩
  have U:bB (qF f=tH c):=by
   show _=_;rw[I.o,Ra (by omega),qF,TM,V.o]
  obtain⟨a0,hg,M⟩:=xG j.o;have HJ:bB (vE 159 #[pA (bA ⟨g,0,aA⟩) (yA f) C] wr (oA (qF f))):=iI g (yA f) C f wr rfl M hg a0 (by omega) (by omega);rw[U.o]at HJ;clear j M;go_wp2_with fail;apply hC HJ.o;intro w2 t;have B2:bB (tB w w2):=vB n t;clear t;go_wp2;go_ret;exact⟨rfl,B2.o⟩
def shB(k:Int)(j:Nat):Bool:=match j with
 |0=>zU k
 |1=>k==1
 |2=>yU k
 |3=>mV k
 |_=>k==1||k==2||k==3||k==4
def iR(w:eA):Prop:=0<w.1.size/\∀i j,i<7->j<5->w.cell? (dB 0 (i*5+j))=bA (qA (shB (i:Int) j))
def iR.z{w b:eA}(h:iR w)(a:tB w b):iR b:=⟨Bb h.1 a.size,λi j c d=>(a.cell h.1).trans (h.2 i j c d)⟩
def iR.but{w b:eA}{B:Nat}(h:iR w)(a:pD B w b)(c:0≠B):iR b:=
 ⟨Bb h.1 a.size,λi j d e=>(eA.cell?_of_block (a.block _ h.1 c)).trans (h.2 i j d e)⟩
