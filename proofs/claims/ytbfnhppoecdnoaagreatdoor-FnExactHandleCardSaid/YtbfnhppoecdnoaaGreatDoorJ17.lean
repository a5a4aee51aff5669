import Derived.Test.YtbfnhppoecdnoaaGreatDoorJ12
import Derived.Test.YtbfnhppoecdnoaaGreatDoorJ10
import Derived.Test.YtbfnhppoecdnoaaGreatDoorJ13
import Derived.Test.YtbfnhppoecdnoaaGreatDoorJ14
set_option maxRecDepth 100000
set_option maxHeartbeats 4000000
set_option linter.defProp false
open Option renaming some->bA,none->aA
open Bool renaming true->dA,false->cA
open ByteArray renaming empty->kA
open List renaming length->vA
namespace Go.Proofs.YtbfnhppoecdnoaaGreatDoor
open Go renaming World->eA,Value->iA
open Value renaming slice->oA,int->lA,string->nA,pointer->qA,bool->pA
open IntKind renaming i64->mA
open Obj renaming cells->tA
open Go.RowKit Tryz
def ZI{p:FuncId}(V:p=150\/p=151)(X:Int)(a:iC)(K:Nat)(x:List dB)(k B H:Nat)(T:Nat->Nat)(w:eA)(O:X=(k:Int))(hk:0<k)(a0:k+2*vA x<=100000000)(U:gD w B T H a x):
 Calls prog p #[oA a (vA x) K,lA mA X] w fun e Y=>e=.returned (lA mA ((k+2*vA x:Nat):Int))/\bB (fun g=>B<=g/\T g=H) w Y/\gD Y B T H a (rH k (vA x)):=by
 subst O;have M:x=[]\/(0<vA x/\∃g o s t,a=bA ⟨g,o,aA⟩/\B<=g/\T g=H/\w.heap[g]?=bA (tA s t (0,0))/\dX w g o x):=by
  rcases U with h|h;exact Ca h
  by_cases Q:x=[]
  .exact Ca Q
  exact La ⟨Tg.2 Q,h⟩
 clear U;rcases M with rfl|⟨W,g,o,s,t,rfl,R,S,N,F⟩
 .rcases V with rfl|rfl
  go_enter func150,ntmps150;rotate_left;go_enter func151,ntmps151;all_goals
   go_wp2;go_loopw [1,5] (fun l i wr=>l=lA mA (k:Int)/\i=lA mA 0/\wr=w) (fun _ i _=>0)
   case atStart=>exact⟨rfl,rfl,rfl⟩
   case round=>
    obtain⟨rfl,rfl,rfl⟩:=hrel;go_wp2;go_ret;exact⟨rfl,bB.of eD,Ca rfl⟩
 have z:=OT N F;have G:=zh z;have Z:xA (iB w g s t):=N;have A:xA (B<=g/\T g=H):=⟨R,S⟩
 clear z N F R S;generalize vA x=n at *;rcases V with rfl|rfl
 go_enter func150,ntmps150;rotate_left;go_enter func151,ntmps151;all_goals
  go_wp2;go_loopw [1,5] (fun l i wr=>∃(j:Nat)(c:Array iA),j<=n/\i=lA mA j/\l=lA mA ((k+2*j:Nat):Int)/\iB wr g c t/\c.size=s.size/\(∀m,m<j->vO c o m (qb k m))/\tD g w wr) (fun _ i _=>n-(intOf i).toNat)
  case atStart=>exact⟨0,s,Oa _,rfl,rfl,Z.o,rfl,fun m h=>absurd h (by omega),tD.refl _ _⟩
  case round=>
   obtain⟨j,c,hj,rfl,rfl,y,E,v,u⟩:=hrel;have q:xA (iB wr g c t):=y;have r:xA _:=v;have J:xA _:=E;clear y v;by_cases b0:j<n
   .have L:o+j*2+1<c.size:=by rcases G with h|h<;>omega
    clear E G;go_wp2_with fail;refine aC (bJ _ (k+2*j) (by omega) _ (by omega) (by omega)) ?_;intro w1 C;have f:=q.o.z C;obtain⟨v0,d0⟩:=f.there (j:=o+j*2) (by omega);have b:=f.free (o+j*2);obtain⟨v1,d1⟩:=f.there (j:=o+j*2+1) (by omega);have d:=f.free (o+j*2+1);have I:xA (iB w1 g c t):=f;have D:xA _:=u.trans (tD.of C);clear f C u;go_wp2;refine⟨⟨j+1,_,by omega,by go_num,by go_num,(I.o.set (o+j*2) (nA (mt (k+2*j)))).set (o+j*2+1) (lA mA ((k+2*j+1:Nat):Int)),by simp[J.o],?_,(D.o.setCell _ _).setCell _ _⟩,by simp[intOf];omega⟩;intro m P;by_cases e:m=j
    .subst e;exact vO.made c o m (qb k m) L
    exact ((r.o m (by omega)).set (by omega) _).set (by omega) _
   go_wp2;go_ret;have e:j=n:=by omega
   subst e;refine⟨fD (by omega),(bB.but u).mono fun i _ e=>by subst e;exact A.o,La ⟨g,o,c,t,rfl,A.o.1,A.o.2,q.o,OQ q.o ?_⟩⟩;intro m P;rw[DL];exact r.o m (by rw[sJ]at P;exact P)
def YR{p:FuncId}(B:p=152\/p=153)(u:Int)(a:iC)(g:Nat)(k n:Nat)(w:eA)(m:u=(k:Int))(G:0<k)(A:k+2*n<=100000000)(t:yB w a (rH k n)):
 qD p #[oA a n g,lA mA u] w (lA mA ((k+2*n:Nat):Int)):=by
 subst m;have v:xA (yB w a (rH k n)):=t;clear t;rcases B with rfl|rfl
 go_enter func152,ntmps152;rotate_left;go_enter func153,ntmps153;all_goals
  go_wp2;go_loopw [1,5] (fun l i wr=>∃j:Nat,j<=n/\i=lA mA j/\l=lA mA ((k+2*j:Nat):Int)/\kB w wr) (fun _ i _=>n-(intOf i).toNat)
  case atStart=>exact⟨0,Oa _,rfl,rfl,eD⟩
  case round=>
   obtain⟨j,F,rfl,rfl,c⟩:=hrel;by_cases q:j<n
   .obtain ⟨b,o,rfl,E,d,f⟩:=(v.o.z c).at (i:=j) (by rw[sJ];exact q)
    rw[DL]at d f;simp only[qb]at d f;have z:=tB.cells d;have r:=tB.there wr;have s:xA _:=f;clear d f;go_wp2_with fail;refine jB (by kernel_rfl) (by kernel_rfl) ?_;repeat (go_big_quiet_step (first|(go_at_call 149;exact xB (bJ _ (k+2*j) (by omega) _ (by omega) (by omega)))))
    refine wpQuiet_nil ?_;rintro _ ⟨x,rfl⟩;have D:x.w'.cell? ⟨b,o+j*2+1,aA⟩=bA (lA mA ((k:Int)+2*(j:Int)+1)):=by rw[x.cell s.o];simp
    have y:xA _:=oB c x.h;clear z r s c;generalize x.w'=W at *;clear x;go_wp2;exact⟨⟨j+1,by omega,by go_num,by go_num,y.o⟩,by simp[intOf];omega⟩
   go_wp2;go_ret;have e:j=n:=by omega
   subst e;exact⟨fD (by omega),c⟩
def sV(x y:eC):Bool:=x.N.toList==y.N.toList&&x.V.toList==y.V.toList
def mH:List eC->List eC->Bool
 |[],[]=>dA
 |x::r,y::q=>sV x y&&mH r q
 |_,_=>cA
def wm(x y:eC):sV x y=dA ↔ x=y:=by
 unfold sV;rw[Sa,Lg,Lg];constructor
 .rintro ⟨a,b⟩;cases x;cases y
  simp only[eC.mk.injEq];exact⟨toList_inj a,toList_inj b⟩
 rintro rfl;exact⟨rfl,rfl⟩
theorem qY:∀(a b:List eC),mH a b=dA ↔ a=b
 |[],[]=>by simp[mH]
 |[],_::_=>by simp[mH]
 |_::_,[]=>by simp[mH]
 |x::r,y::q=>by
  rw[mH,Sa,wm,qY r q];simp
def zr{a b:List eC}(h:vA a≠vA b):mH a b=cA:=by
 rw[Yc];intro c;exact h (by rw[(qY a b).1 c])
def rr(a b:List eC)(k:Nat)(c:k<vA a)(d:k<vA b):mH (a.drop k) (b.drop k)=(sV a[k] b[k] &&mH (a.drop (k+1)) (b.drop (k+1))):=by
 rw[Cb c,Cb d,mH]
def vP(a:List eC):Bool:=decide ((uB a).2.1=0) &&mH (uB a).1 a
def jD:List eC->gB
 |[]=>kA
 |l::r=>kO l.N++qF l.V++jD r
def bI(a:List eC):gB:=pB 1 (vA a:Nat)++jD a
def yI(a:List eC):gB:=if vP a=dA then bI a else kA
def rP:∀(a b:List eC),jD (a++b)=jD a++jD b
 |[],b=>by simp[jD]
 |l::r,b=>by
  show kO l.N++qF l.V++jD (r++b)=kO l.N++qF l.V++jD r++jD b;rw[rP r b,Wa (b:=jD r)]
theorem FV(a:List eC)(k:Nat)(h:k<vA a):jD (a.take (k+1))=jD (a.take k)++(kO a[k].N++qF a[k].V):=by
 rw[Pa h,rP];simp[jD]
def QS(a:List eC):vA (uB a).1<=16:=by grind [uB,EU,BS]
theorem cy{a:List eC}(h:(uB a).2.1=0):vA a<=16:=by
 unfold uB at h;split at h;exact absurd h (by simp);omega
theorem QQ{a:List eC}(h:vP a=dA):vA a<=16:=by grind [vP,cy]
def aIp{a:List eC}(h:vP a=dA):uB a=(a,0,(uB a).2.2):=by grind [vP,uB,qY]
theorem iZ{x y:gB}(h:x.data.toList=y.data.toList):x=y:=by
 cases x;cases y
 simp only[ByteArray.mk.injEq];exact Array.toList_inj.1 h
theorem fS(x y:gB):(x++y).data.toList=x.data.toList++y.data.toList:=by simp
theorem sN(s:gB)(i j:Nat):(s.extract i j).data.toList=(s.data.toList.take j).drop i:=by
 rw[ByteArray.data_extract,Array.toList_extract,List.extract_eq_drop_take']
theorem aQ(s:gB):s.size=vA s.data.toList:=by simp
structure Rd where
 rest:gB
 H:Bool
def iD(n:Nat)(r:Rd):gB×Rd:=if r.rest.size<n then(kA,⟨r.rest,dA⟩) else(r.rest.extract 0 n,⟨r.rest.extract n r.rest.size,r.H⟩)
def kD(k:Nat)(r:Rd):Nat×Rd:=(rS (iD k r).1.data.toList,(iD k r).2)
def sC(k:Nat)(r:Rd):gB×Rd:=iD (kD k r).1 (kD k r).2
theorem sP(n:Nat)(r:Rd):(iD n r).1.size<=n/\(iD n r).1.size<=r.rest.size/\(iD n r).2.rest.size<=r.rest.size:=by
 unfold iD;split;exact ⟨by simp,by simp,Ia _⟩;refine ⟨?_,?_,?_⟩<;>simp<;>omega
theorem jJ{n:Nat}{r:Rd}(h:(iD n r).2.H=cA):r.H=cA/\(iD n r).1.size=n/\r.rest=(iD n r).1++(iD n r).2.rest:=by
 unfold iD at *;split at h;exact absurd h (by simp)
 rename_i a;rw[Ja a];refine⟨h,by simp;omega,?_⟩;apply iZ;rw[fS,sN,sN,Kf,aQ,Rb,Za]
def CH{n:Nat}{r:Rd}{t q:gB}(h:r.rest=t++q)(a:t.size=n):iD n r=(t,⟨q,r.H⟩):=by grind [iD,iZ,sN,fS,aQ]
def VO{k:Nat}{r:Rd}(h:(sC k r).2.H=cA):r.H=cA/\r.rest=pB k ((sC k r).1.size:Nat)++((sC k r).1++(sC k r).2.rest):=by
 obtain⟨f,g,i⟩:=jJ (r:=(kD k r).2) h;obtain⟨b,c,d⟩:=jJ (n:=k) (r:=r) f;refine⟨b,?_⟩;have e:pB k ((sC k r).1.size:Nat)=(iD k r).1:=by
  show pB k ((iD (kD k r).1 (kD k r).2).1.size:Nat)=_;rw[g];have:=aBu (iD k r).1.data.toList k (by rw[<-aQ];exact c);show pB k (rS (iD k r).1.data.toList:Nat)=_;rw[this]
 rw[e];have a:(iD k r).2.rest=(sC k r).1++(sC k r).2.rest:=i;rw[<-a];exact d
def CJ{k:Nat}{r:Rd}{t q:gB}(h:r.rest=pB k (t.size:Nat)++(t++q))(d:t.size<256 ^ k):sC k r=(t,⟨q,r.H⟩):=by
 have a:=CH (n:=k) h (qB k _);have b:(kD k r).1=t.size:=by
  show rS (iD k r).1.data.toList=_;rw[a];exact kX k t.size d
 have c:(kD k r).2=⟨t++q,r.H⟩:=by
  show(iD k r).2=_;rw[a]
 rw[sC,b,c];exact CH rfl rfl
theorem JT(k:Nat)(r:Rd):(sC k r).1.size<=r.rest.size/\(sC k r).2.rest.size<=r.rest.size:=by grind [sC,kD,iD,sP]
def FG(k:Nat)(r:Rd):(kD k r).1<256 ^ k:=by
 have h:=DY (iD k r).1.data.toList;have a:=(sP k r).1;have b:256 ^ vA (iD k r).1.data.toList<=256 ^ k:=Sc (by omega) (by rw[<-aQ];exact a);show rS (iD k r).1.data.toList<_;omega
def rV(x:eC):List iA:=[nA x.N,nA x.V]
def WM(l:eC)(w:eA)(k:l.N.size<=1000000000)(d:l.V.size<=1000000000)(b:vH w):
 qD 239 #[.agg #[nA l.N,nA l.V]] w (lA mA (iR l:Nat)):=by
 have i:xA (vH w):=b;have HN:xA _:=fun W=>eh l.N W (by unfold maxLen;omega);have j:xA _:=fun W h=>MX l.V W d h;clear b k d;by_cases h:TY l.N=dA
 .have E:xA (iR l=zP l.V):=by show _=_;rw[iR,Ma h]
  rw[E.o];have a:xA _:=h;clear h E;generalize l.N=m at *;generalize l.V=f at *;generalize zP f=V at *;go_enter func239,ntmps239;go_wp2_with fail;apply aC (HN.o _);intro o hw;rw[a.o];replace hw:=hw.symm;subst hw;go_wp2_with fail;apply aC (j.o _ (i.o.z vB));intro p c;have g:xA _:=oB vB c;clear c;go_wp2;go_ret;exact⟨rfl,g.o⟩
 have a:xA (TY l.N=cA):=by show _=_;simpa using h
 have E:xA (iR l=41):=by show _=_;rw[iR,Ja h]
 rw[E.o];clear h E;generalize l.N=m at *;generalize l.V=f at *;go_enter func239,ntmps239;go_wp2_with fail;apply aC (HN.o _);intro o hw;rw[a.o];replace hw:=hw.symm;subst hw;go_wp2;go_ret;exact⟨rfl,vB⟩
def aEw(t:gB)(B:Nat)(w:eA)(c:B<w.1.size)(a:w.cell? ⟨B,0,aA⟩=bA (nA t)):
 PredBelow prog 273 #[qA (bA ⟨B,0,aA⟩)] (fun x=>.agg (rV x).toArray) (fun x:eC=>x.N.toList==t.toList) w:=fun W x b=>by
 have e:=(b.cell (p:=⟨B,0,aA⟩) c).trans a;have d:=Bb c b.size;show Calls prog 273 #[.agg #[nA x.N,nA x.V],qA (bA ⟨B,0,aA⟩)] W _;go_enter func273,ntmps273;go_wp2;go_ret;exact⟨rfl,b.alloc b.size _⟩
def nj(b o n c:Nat)(f:List eC)(t:gB)(w:eA)(u:b<w.1.size)(l:rR w b o f)(s:n<=vA f)(m:vA f<=2000000):
 qD 240 #[oA (bA ⟨b,o,aA⟩) n c,nA t] w (pA ((f.take n).any fun x=>x.N.toList==t.toList)):=by
 have q:∀args w,(callFunc 273 args).run prog w=.ok (.enter 273 args) w:=enters_of func273 (by kernel_rfl) rfl;haveI:=aOo
 have a:=AnyQ.slices_ContainsFunc contL 2 isAgg116 sizeOf116 rV (fun _=>rfl) (fun x:eC=>x.N.toList==t.toList) 273 #[qA (bA ⟨w.1.size,0,aA⟩)] q b o n c f (w.alloc (tA #[nA t] 9))
  (aEw t w.1.size _ (by simp) (by simp)) s (by omega) (by simp;omega) (fun j k i v d=>by
   refine Lib.cell?_alloc_some _ ?_;have h:=l j k;have e:f[j]! = f[j]:=getElem!_pos f j k;rw[e]at d;match i,d with
   |0,d=>simp[rV]at d;rw[<-d];exact h.1
   |1,d=>simp[rV]at d;rw[<-d];exact h.2
   |i+2,d=>simp[rV]at d)
 change Calls prog 169 _ _ _ at a;clear l;generalize ((f.take n).any fun x=>x.N.toList==t.toList)=r at a |-
 go_enter func240,ntmps240;go_wp2_with(go_at_call 169;apply aC a;intro p g);go_ret;exact⟨rfl,((Below.refl _ w).alloc (Ia _) _).trans (g.mono (by simp))⟩
def UJ:UI.toList=[95,95,110,97,109,101,95,95]:=by rw[UI,ByteArray.toList_eq]
def IX(a:iC)(l:Nat)(c:List eC)(w:eA)(p:yD w a c)(q:vA c<=2000000):
 qD 201 #[oA a (vA c) l] w (nA (jL c)):=by
 have s:xA (yD w a c):=p;clear p;go_enter func201,ntmps201;go_wp2;go_loopw [4,7] (fun _ i wr=>∃k:Nat,k<=vA c/\i=lA mA k/\xA (jL c=jL (c.drop k))/\kB w wr) (fun _ i _=>vA c-(intOf i).toNat)
 case atStart=>exact⟨0,Oa _,rfl,rfl,eD⟩
 case round=>
  obtain⟨k,z,rfl,j,d⟩:=hrel;by_cases g:k<vA c
  .obtain ⟨b,o,rfl,y,v,x⟩:=(s.o.z d).at g;have h:=ZK c k g;have n:xA (cQ c[k]=(c[k].N.toList==[95,95,110,97,109,101,95,95])):=by show _=_;rw[cQ,UJ]
   generalize c[k].N=r at *;by_cases f:cQ c[k]=dA
   .have m:(r.toList==[95,95,110,97,109,101,95,95])=dA:=by rw[<-n.o];exact f
    have E:xA (jL c=c[k].V):=by show _=_;rw[j.o,h,Ma f]
    clear h f;generalize c[k].V=t at *;go_wp2;go_ret;exact⟨by rw[E.o];rfl,oB d vB⟩
   have m:(r.toList==[95,95,110,97,109,101,95,95])=cA:=by rw[<-n.o];simpa using f
   have E:xA (jL c=jL (c.drop (k+1))):=by show _=_;rw[j.o,h,Ja f]
   clear h f;generalize c[k].V=t at *;go_wp2;exact⟨⟨k+1,by omega,by go_num,E.o,oB d vB⟩,by simp[intOf];omega⟩
  have E:xA (jL c=kA):=by
   show _=_;rw[j.o,Yb (by omega)];rfl
  go_wp2;go_ret;exact⟨by rw[E.o];rfl,d⟩
def bk(a:List eC):Prop:=∀i(h:i<vA a),a[i].N.size<=1000000000/\a[i].V.size<=1000000000
def yH(a:List eC):Nat×Nat:=
 if 16<vA a then(40,0) else match cD a 0 with
 |some (c,i)=>(c,i)
 |none=>match gF [] a 0 with
  |some i=>(45,i)
  |none=>if ((jL a).toList==ByteArray.empty.toList)=dA then(46,0) else(0,0)
def aCe{a b c d:Nat}(e:a=c)(f:b=d):Ending.returned (.tuple #[lA mA (a:Nat),lA mA (b:Nat)])=.returned (.tuple #[lA mA (c:Nat),lA mA (d:Nat)]):=by rw[e,f]
def RZ{a:List eC}(h:16<vA a):yH a=(40,0):=by unfold yH;rw[Ma h]
def YJ{a:List eC}(h:¬16<vA a){c i:Nat}(b:cD a 0=bA (c,i)):yH a=(c,i):=by unfold yH;rw[Ja h,b]
def MR{a:List eC}(h:¬16<vA a)(b:cD a 0=aA){i:Nat}(c:gF [] a 0=bA i):yH a=(45,i):=by unfold yH;rw[Ja h,b,c]
def YK{a:List eC}(h:¬16<vA a)(b:cD a 0=aA)(c:gF [] a 0=aA):yH a=if ((jL a).toList==ByteArray.empty.toList)=dA then(46,0) else(0,0):=by unfold yH;rw[Ja h,b,c]
def mw(a:iC)(g:Nat)(c:List eC)(w:eA)(hf:yD w a c)(Y:bk c)(t:vA c<=2000000)(a0:vA c<=g)(Z:vH w):
 qD 207 #[oA a (vA c) g] w (.tuple #[lA mA ((yH c).1:Nat),lA mA ((yH c).2:Nat)]):=by
 have L:xA (yD w a c):=hf;have HB:xA (bk c):=Y;have X:xA (vH w):=Z;clear hf Y Z;by_cases J:16<vA c
 .rw[RZ J];go_enter func207,ntmps207;go_wp2;go_ret2;exact⟨rfl,eD⟩
 have v:xA (¬16<vA c):=J;go_enter func207,ntmps207;go_wp2;go_loopw [4,5,6,14] (fun _ _ _ i wr=>∃k:Nat,k<=vA c/\i=lA mA k/\xA (cD c 0=cD (c.drop k) k)/\kB w wr) (fun _ _ _ i _=>vA c-(intOf i).toNat)
 case atStart=>exact⟨0,Oa _,rfl,rfl,eD⟩
 case round=>
  obtain⟨k,hk,rfl,s,d⟩:=hrel;by_cases j:k<vA c
  .obtain ⟨b,o,rfl,N,c0,c1⟩:=(L.o.z d).at j;obtain⟨A,B⟩:=HB.o k j;have y:xA _:=fun W h=>WM c[k] W A B h;have q:=DF c k j;by_cases I:iR c[k]=0
   .have E:xA (cD c 0=cD (c.drop (k+1)) (k+1)):=by show _=_;rw[s.o,q,Ma I]
    have H:xA (∀W,vH W->qD 239 #[.agg #[nA c[k].N,nA c[k].V]] W (lA mA 0)):=by
     show ∀_,_;have:=y.o;rw[I]at this;exact this
    clear q y I A B;generalize c[k].N=r at *;generalize c[k].V=C at *;go_wp2_with fail;apply aC (H.o _ ((X.o.z d).z vB));intro T f;have l:xA _:=oB (oB d vB) f;clear f;go_wp2;exact⟨⟨k+1,by omega,by go_num,E.o,l.o⟩,by simp[intOf];omega⟩
   have E:xA _:=YJ v.o (by rw[s.o,q,Ja I]);have h0b:((iR c[k]:Int) != 0)=dA:=by simp;omega
   clear q I A B;generalize iR c[k]=V at *;generalize c[k].N=r at *;generalize c[k].V=C at *;go_wp2_with fail;apply aC (y.o _ ((X.o.z d).z vB));intro T f;have l:xA _:=oB (oB d vB) f;clear f;go_wp2;go_ret2;exact⟨aCe (by rw[E.o]) (by rw[E.o]),l.o⟩
  have HN:xA (cD c 0=aA):=by
   show _=_;rw[s.o,Yb (by omega)];rfl
  clear s;go_wp2;clear j hk;go_loopw [7,8,28] (fun _ _ i wr=>∃k:Nat,k<=vA c/\i=lA mA k/\xA (gF [] c 0=gF (c.take k) (c.drop k) k)/\kB w wr) (fun _ _ i _=>vA c-(intOf i).toNat)
  case atStart=>exact⟨0,Oa _,rfl,rfl,d⟩
  case round=>
   clear d;obtain⟨k,hk,rfl,s,d⟩:=hrel;by_cases j:k<vA c
   .obtain ⟨b,o,rfl,N,c0,c1⟩:=(L.o.z d).at j;have q:=GZ c k j;have K:rR wr b o c:=by
     rcases L.o.z d with h|⟨b',o',e,_,h⟩;rw[h]at j;exact absurd j (by simp);simp only[Qa,Addr.mk.injEq,Cc]at e;obtain⟨rfl,rfl⟩:=e;exact h
    have p:xA (∀W,kB wr W->qD 240 #[oA (bA ⟨b,o,aA⟩) k g,nA c[k].N] W (pA ((c.take k).any fun x=>cS x c[k]))):=fun W R=>by
     have h2:rR W b o c:=fun i hi=>by
      have:=K i hi;exact⟨(R.cell N).trans this.1,(R.cell N).trans this.2⟩
     exact nj b o k g c c[k].N W (Bb N R.size) h2 (by omega) t
    have hk0:(0:Int)<=(k:Int):=by omega
    have hkc:(k:Int)<=(g:Int):=by omega
    clear K;by_cases D:((c.take k).any fun x=>cS x c[k])=dA
    .have E:xA _:=MR v.o HN.o (by rw[s.o,q,Ma D]);have m:xA (∀W,kB wr W->qD 240 #[oA (bA ⟨b,o,aA⟩) k g,nA c[k].N] W (pA dA)):=by
      show ∀_,_;have:=p.o;rw[D]at this;exact this
     clear q p D;generalize c[k].N=r at *;generalize c[k].V=C at *;have Q:∀x:tB (wr.alloc (tA #[nA r,nA C] 116)),x.w'.cell? ⟨wr.1.size,0,aA⟩=bA (nA r):=tB.cells (by simp);have z:=tB.there (wr.alloc (tA #[nA r,nA C] 116));go_wp2_with fail;refine jB (by kernel_rfl) (by kernel_rfl) ?_;repeat (go_big_quiet_step (first|(go_at_call 240;exact xB (m.o _ (oB vB (tB.h _))))))
     refine wpQuiet_nil ?_;rintro _ ⟨x,rfl⟩;have P:xA _:=oB (oB d vB) x.h;clear Q z;generalize x.w'=W at *;clear x;go_wp2;go_ret2;exact⟨aCe (by rw[E.o]) (by rw[E.o]),P.o⟩
    .have E:xA (gF [] c 0=gF (c.take (k+1)) (c.drop (k+1)) (k+1)):=by show _=_;rw[s.o,q,Ja D]
     have m:xA (∀W,kB wr W->qD 240 #[oA (bA ⟨b,o,aA⟩) k g,nA c[k].N] W (pA cA)):=by
      show ∀_,_;have h1:((c.take k).any fun x=>cS x c[k])=cA:=by simpa using D
      have:=p.o;rw[h1]at this;exact this
     clear q p D;generalize c[k].N=r at *;generalize c[k].V=C at *;have Q:∀x:tB (wr.alloc (tA #[nA r,nA C] 116)),x.w'.cell? ⟨wr.1.size,0,aA⟩=bA (nA r):=tB.cells (by simp);have z:=tB.there (wr.alloc (tA #[nA r,nA C] 116));go_wp2_with fail;refine jB (by kernel_rfl) (by kernel_rfl) ?_;repeat (go_big_quiet_step (first|(go_at_call 240;exact xB (m.o _ (oB vB (tB.h _))))))
     refine wpQuiet_nil ?_;rintro _ ⟨x,rfl⟩;have P:xA _:=oB (oB d vB) x.h;clear Q z;generalize x.w'=W at *;clear x;go_wp2;exact⟨⟨k+1,by omega,by go_num,E.o,P.o⟩,by simp[intOf];omega⟩
   .have O:xA (gF [] c 0=aA):=by
     show _=_;rw[s.o,Yb (by omega)];rfl
    have U:xA (qD 201 #[oA a (vA c) g] wr (nA (jL c))):=IX a g c wr (L.o.z d) t;have E:=YK v.o HN.o O.o;have G:xA (ByteArray.empty.toList=[]):=by show _=_;rw[ByteArray.toList_eq];rfl
    generalize jL c=M at *;by_cases u:(M.toList==ByteArray.empty.toList)=dA
    .have F:xA (yH c=(46,0)):=by show _=_;rw[E,Ma u]
     have S:M.toList.isEmpty=dA:=by rw[G.o]at u;simpa using u
     clear u E;go_wp2_with fail;apply aC U.o;intro T f;have l:xA _:=oB d f;clear f;go_wp2;go_ret2;exact⟨aCe (by rw[F.o]) (by rw[F.o]),l.o⟩
    have F:xA (yH c=(0,0)):=by show _=_;rw[E,Ja u]
    have S:M.toList.isEmpty=cA:=by rw[G.o]at u;simpa using u
    clear u E;go_wp2_with fail;apply aC U.o;intro T f;have l:xA _:=oB d f;clear f;go_wp2;go_ret2;exact⟨aCe (by rw[F.o]) (by rw[F.o]),l.o⟩
def OC(s:gB)(p n:Nat)(w:eA)(o:s.size<=maxLen)(h:p+n<=s.size)(u:n<=7):
 dI 102 #[nA s,lA mA p,lA mA n] w (lA mA (rS (eL s p n):Nat)):=by
 unfold maxLen at o;go_enter func102,ntmps102;go_wp2;go_loop [7,8] (fun v i=>∃(k V:Nat),k<=n/\i=lA mA k/\v=lA mA V/\xA (V=rS (eL s p k))) (fun _ i=>n-(intOf i).toNat)
 case atStart=>exact⟨0,0,Oa _,rfl,rfl,rfl⟩
 case round=>
  obtain⟨k,V,t,rfl,rfl,a⟩:=hrel;have d:V<72057594037927936:=by
   have b:=DY (eL s p k);rw[nP (by omega),<-a.o]at b;have f:256 ^ k<=256 ^ 7:=Sc (by omega) (by omega);omega
  by_cases m:k<n
  .have g:V*256+255<9223372036854775807:=by
    have b:=DY (eL s p k);rw[nP (by omega),<-a.o]at b;have f:256 ^ k<=256 ^ 6:=Sc (by omega) (by omega);omega
   have j:(0:Int)<=(p:Int)+(k:Int):=by omega
   have l:(p:Int)+(k:Int)<(s.size:Int):=by omega
   have c:p+k<s.size:=by omega
   have r:=s[p+k].toNat_lt;go_wp2;exact⟨⟨k+1,V*256+s[p+k].toNat,by omega,by go_num,by go_num,by show _=_;rw[UW c,oZ,a.o]⟩,by simp[intOf];omega⟩
  .go_wp2;go_ret;have e:k=n:=by omega
   subst e;exact⟨fD (by rw[a.o]),rfl⟩
def LJ{S:Nat->Prop}{w i:eA}{B:Nat}{e:TypeId}{size:Nat}{v:iA}{n:Nat}{j:List iA}(h:w.ownsRow B e size v n j)(o:gE S w i)(m:∀g,v.ownBlock=bA g->¬S g):i.ownsRow B e size v n j:=by
 obtain⟨k,c⟩:=h;refine⟨k,?_⟩;rcases c with c|⟨g,a,b,f,l,d,r⟩;exact Ca c;exact La ⟨g,a,b,f,l,(o.block g (zA d) (m g (by rw[f];rfl))).trans d,r⟩
def uC.charged{w i:eA}{B D:Nat}{j:List cB}{c k l d f:Int}{m a:Bool}{v:iA}(h:uC w B D j c k d f m v)(n:tD D w i)(b:iB i D #[lA mA l,lA mA d,lA mA f,pA a,v,lA mA c] 293):uC i B D j c l d f a v:=
 ⟨h.from',b,LJ h.row (gE.but n) (fun g o e=>h.apart g o e),h.apart⟩
def mJ(e:List cB)(c k a d:Int)(b:Bool)(f:vK):Nat×List cB×Int×Bool:=
 if (mD k a d b).1=0 then((uP e c f).1,(uP e c f).2,(mD k a d b).2) else((mD k a d b).1,e,(mD k a d b).2)
structure jy(w:World)(B D:Nat)(fs:List cB)(c k cr fl:Int)(dn:Bool)(v:Value)(op:vK):Prop where
 drive:uC w B D fs c k cr fl dn v
 asc:nV fs
 len:vA fs≤1000
 sum:(rC fs:Int)≤c
 cap:c≤1000000000
 k0:0≤k
 k1:k≤1000000000000000
def CY(w:eA)(B D:Nat)(g:List cB)(c k b d:Int)(f:Bool)(v:iA)(a:vK):Prop:=
 Calls prog 225 #[qA (bA ⟨D,0,aA⟩),.agg #[lA mA a.K,nA a.N,nA a.tq,nA a.data,lA mA a.size]] w fun e h=>
  e=.returned (gH (mJ g c k b d f a).1)/\Below B w h/\(a.K<=6->mL w h)/\∃i,uC h B D (mJ g c k b d f a).2.1 c (mJ g c k b d f a).2.2.1 b d (mJ g c k b d f a).2.2.2 i/\(a.K=4->i=v)
theorem GL(k a c:Int)(b:Bool):(mD k a c b).1=0\/(mD k a c b).1=1\/(mD k a c b).1=2:=by grind [mD]
def MN{a:List cB}{c:Int}{b:vK}(d:b.K≠1)(e:kI a b.N (fC b.N a)=cA):uP a c b=(4,a):=by
 unfold uP;simp only[Ja d];split;rfl;rw[Ma e]
theorem YG{a:List cB}{c:Int}{b:vK}(e:b.K≠1)(f:kI a b.N (fC b.N a)=dA)(d:fC b.N a<vA a):
 uP a c b=if b.K=2 then(if c<rC a+b.data.size then(3,a) else(0,a.set (fC b.N a) ⟨a[fC b.N a].N,a[fC b.N a].data++b.data,a[fC b.N a].Y⟩))
  else if b.K=3 then(0,a.set (fC b.N a) ⟨a[fC b.N a].N,a[fC b.N a].data,a[fC b.N a].data.size⟩)
  else if b.K=4 then(if wB b.size 0 a[fC b.N a].data.size=dA then(0,a.set (fC b.N a) ⟨a[fC b.N a].N,a[fC b.N a].data.extract 0 b.size.toNat,b.size⟩) else(6,a))
  else if b.K=5 then(0,uH (a.eraseIdx (fC b.N a)) ⟨b.tq,a[fC b.N a].data,a[fC b.N a].Y⟩)
  else(0,a.eraseIdx (fC b.N a)):=by grind [kI,fC,uP,rC,wB,uH]
theorem iq(w:eA)(B D:Nat)(n:List cB)(c k d g:Int)(f:Bool)(v:iA)(s:vK)(h:jy w B D n c k d g f v s)(r:(mD k d g f).1≠0):CY w B D n c k d g f v s:=by
 unfold CY;have m:xA _:=h.drive;have p:=h.k0;have q:=h.k1;have E:xA (mJ n c k d g f s=((mD k d g f).1,n,(mD k d g f).2)):=by show _=_;rw[mJ,Ja r]
 have t:xA _:=Or.resolve_left (GL k d g f) r;clear h r;go_enter func225,ntmps225;go_wp2_with fail;apply aC (nX D 293 v (lA mA c) k d g f _ (m.o.z vB).blk p q);rintro z ⟨a,j⟩;have l:xA _:=(m.o.z vB).charged a j;have b:xA _:=bK.charge m.o m.o.size a;clear a j;generalize x:mD k d g f=R at *;obtain⟨i,y,u⟩:=R;have o:xA (i=1\/i=2):=t.o;clear t;rcases o.o with rfl|rfl
 .simp only[gH];go_wp2;go_ret;rw[E.o];exact⟨rfl,b.o.below,fun _=>b.o.other,v,l.o,fun _=>rfl⟩
 simp only[gH];go_wp2;go_ret;rw[E.o];exact⟨rfl,b.o.below,fun _=>b.o.other,v,l.o,fun _=>rfl⟩
theorem tf(w:eA)(B D:Nat)(b:List cB)(c k p q:Int)(r:Bool)(v:iA)(a:vK)(h:jy w B D b c k p q r v a)(I:(mD k p q r).1=0)(x:a.K=1):CY w B D b c k p q r v a:=by
 unfold CY;have t:xA _:=h.drive;have G:=h.k0;have H:=h.k1;have K:xA (nV b):=h.asc;have M:=h.len;have E:xA (mJ b c k p q r a=((uP b c a).1,(uP b c a).2,(mD k p q r).2)):=by show _=_;rw[mJ,Ma I]
 have Q:xA _:=I;have y:xA (uP b c a=if kI b a.N (fC a.N b)=dA then(5,b) else if 1000<=vA b then(3,b) else(0,bN b (fC a.N b) ⟨a.N,kA,0⟩)):=by show _=_;simp[uP,x]
 have l:xA _:=x;clear h I x;go_enter func225,ntmps225;go_wp2_with fail;apply aC (nX D 293 v (lA mA c) k p q r _ (t.o.z vB).blk G H);rintro O ⟨d,m⟩;have A:xA _:=(t.o.z vB).charged d m;have z:xA _:=bK.charge t.o t.o.size d;have C:¬(w.1.size=D):=by have:=zA t.o.blk;omega
 have P:xA (jx O w.1.size a 141):=iB.keeps (S:=fun k=>k=D) (g:=w.1.size) (heap_alloc_new w (tA #[lA mA a.K,nA a.N,nA a.tq,nA a.data,lA mA a.size] 141)) (gE.but d) C;obtain⟨R,T,U,V,W⟩:=P.o.cells;clear d m;rw[Q.o];simp only[gH];have x:=l.o;clear U V W;go_wp2_with fail;refine(vu B D b c _ p q _ v a.N O A.o K.o (by omega)).mono ?_;rintro e X ⟨i,J,N,u,F⟩;obtain rfl:=N.uniq (rK a.N K.o);have f:xA _:=z.o.trans u;clear N u R T;rcases F with⟨o,rfl,n⟩|⟨o,L,rfl,n⟩|⟨o,L,rfl,n⟩
 .have s:xA (uP b c a=(5,b)):=by show _=_;rw[y.o,Ma o]
  have j:xA _:=n;clear o n;go_wp2;go_ret;rw[E.o,s.o];exact⟨rfl,f.o.below,fun _=>f.o.other,J,j.o,fun h=>(by have:=l.o;omega)⟩
 .have s:xA (uP b c a=(3,b)):=by show _=_;rw[y.o,Ja (by rw[o];simp),Ma L]
  have j:xA _:=n;clear o n;go_wp2;go_ret;rw[E.o,s.o];exact⟨rfl,f.o.below,fun _=>f.o.other,J,j.o,fun h=>(by have:=l.o;omega)⟩
 have s:xA (uP b c a=(0,bN b (fC a.N b) ⟨a.N,kA,0⟩)):=by show _=_;rw[y.o,Ja (by rw[o];simp),Ja (by omega)]
 have j:xA _:=n;clear o n;go_wp2;go_ret;rw[E.o,s.o];exact⟨rfl,f.o.below,fun _=>f.o.other,J,j.o,fun h=>(by have:=l.o;omega)⟩
theorem ip(w:eA)(B D:Nat)(d:List cB)(c k j l:Int)(m:Bool)(v:iA)(b:vK)(h:jy w B D d c k j l m v b)(M:(mD k j l m).1=0)(N:b.K≠1)(L:kI d b.N (fC b.N d)=cA):CY w B D d c k j l m v b:=by
 unfold CY;have r:xA _:=h.drive;have H:=h.k0;have I:=h.k1;have R:xA (nV d):=h.asc;have O:=h.len;have E:xA (mJ d c k j l m b=((uP d c b).1,(uP d c b).2,(mD k j l m).2)):=by show _=_;rw[mJ,Ma M]
 have U:xA _:=M;have Q:xA (uP d c b=(4,d)):=MN N L;have T:xA _:=L;have V:(b.K==1)=cA:=by simpa using N
 clear L;clear h M;go_enter func225,ntmps225;go_wp2_with fail;apply aC (nX D 293 v (lA mA c) k j l m _ (r.o.z vB).blk H I);rintro u ⟨f,n⟩;have i:xA _:=(r.o.z vB).charged f n;have p:xA _:=bK.charge r.o r.o.size f;have G:¬(w.1.size=D):=by have:=zA r.o.blk;omega
 have A:xA (jx u w.1.size b 141):=iB.keeps (S:=fun k=>k=D) (g:=w.1.size) (heap_alloc_new w (tA #[lA mA b.K,nA b.N,nA b.tq,nA b.data,lA mA b.size] 141)) (gE.but f) G;obtain⟨X,P,Y,Z,o4⟩:=A.o.cells;clear f n;rw[U.o];simp only[gH];obtain⟨a,F,rfl,o⟩:=i.o.files;have p1:=tB.cells P;have p4:=tB.cells i.o.cell4;have K:=tB.there u;have t:xA (∀x:tB u,eB x.w' a d):=fun x=>o.z x.h;have s:xA (∀x:tB u,uC x.w' B D d c (mD k j l m).2.1 j l (mD k j l m).2.2 (oA a (vA d) F)):=fun x=>i.o.z x.h;have C:xA (∀x:tB u,jx x.w' w.1.size b 141):=fun x=>iB.z A.o x.h;have J:vA d<=1048576:=by omega
 clear P Y Z o4 o A;go_wp2_with fail;refine jB (by kernel_rfl) (by kernel_rfl) ?_;repeat (go_big_quiet_step (first|(go_at_call 256;exact xB (zZ _ _ _ _ _ (t.o _) R.o J))))
 refine wpQuiet_nil ?_;rintro _ ⟨y,rfl⟩;have z:xA _:=s.o y;have q:xA _:=p.o.on y.h i.o.size;clear X p1 p4 K s t C i p;generalize y.w'=W at *;clear y;rw[T.o];go_wp2;go_ret;rw[E.o,Q.o];exact⟨rfl,q.o.below,fun _=>q.o.other,_,z.o,fun _=>rfl⟩
def fJ{s:gB}{b:Bool}(h:uG s=b)(w:eA)(a:s.size<=maxLen):dI 111 #[nA s] w (pA b):=h ▸ TI s w a
def WY(a:iC)(r:Nat)(d:List cB)(c p m s:Int)(N:Bool)(w:eA)(hf:eB w a d)(hs:pL d)(I:vA d<=maxLen)(J:rC d<=1000000000):
 qD 110 #[.agg #[oA a (vA d) r,lA mA c,lA mA p,lA mA m,lA mA s,pA N]] w (pA (fF d c p m s)):=by
 obtain⟨z0,z1,z2,z3,z4,z5⟩:=XQ w (oA a (vA d) r) (lA mA c) (lA mA p) (lA mA m) (lA mA s) (pA N) 37;have d0:=tB.cells z0;have d1:=tB.cells z1;have d2:=tB.cells z2;have d3:=tB.cells z3;have d4:=tB.cells z4;have d5:=tB.cells z5;have F:kB w (w.alloc (tA #[oA a (vA d) r,lA mA c,lA mA p,lA mA m,lA mA s,pA N] 37)):=eD.alloc (Ia _) _;have hne:=tB.there (w.alloc (tA #[oA a (vA d) r,lA mA c,lA mA p,lA mA m,lA mA s,pA N] 37));have C:xA (∀x:tB (w.alloc (tA #[oA a (vA d) r,lA mA c,lA mA p,lA mA m,lA mA s,pA N] 37)),eB x.w' a d):=fun x=>(hf.z F).z x.h;have Q:xA (∀x:tB (w.alloc (tA #[oA a (vA d) r,lA mA c,lA mA p,lA mA m,lA mA s,pA N] 37)),kB w x.w'):=fun x=>F.trans (x.h.mono F.size);have HS:xA (pL d):=hs;have HL:xA _:=I;unfold maxLen at I;clear z0 z1 z2 z3 z4 z5 F hf hs;by_cases hA0:(1000:Int)<vA d
 .have E:xA (fF d c p m s=cA):=by
   show _=_;have e:decide (vA d<=1000)=cA:=by simp;omega
   simp only[fF,e,Be]
  go_enter func110,ntmps110;go_wp2_with fail;refine jB (by kernel_rfl) (by kernel_rfl) ?_;repeat (go_big_quiet_step (fail))
  refine wpQuiet_nil ?_;rintro _ ⟨x,rfl⟩;go_wp2;go_ret;exact⟨fB E.o.symm,Q.o x⟩
 have hA1:decide ((1000:Int)<vA d)=cA:=by simp;omega
 have hA2:decide (1000<vA d)=cA:=by simp;omega
 have Y:decide (vA d<=1000)=dA:=by simp;omega
 by_cases z:wB c 0 1000000000=cA
 .have E:xA (fF d c p m s=cA):=by show _=_;simp only[fF,z,Wg,Be]
  have u:xA _:=z;clear z Y;go_enter func110,ntmps110;go_wp2_with fail;refine jB (by kernel_rfl) (by kernel_rfl) ?_;repeat (go_big_quiet_step (first|(go_at_call 48;apply yC;apply bE;exact u.o)))
  refine wpQuiet_nil ?_;rintro _ ⟨x,rfl⟩;go_wp2;go_ret;exact⟨fB E.o.symm,Q.o x⟩
 have Z:wB c 0 1000000000=dA:=by simpa using z
 have u:xA _:=Z;clear z;by_cases hC0:c<(rC d:Int)
 .have E:xA (fF d c p m s=cA):=by
   show _=_;have e:decide ((rC d:Int)<=c)=cA:=by simp;omega
   simp only[fF,e,Wg,Be]
  clear Y Z;go_enter func110,ntmps110;go_wp2_with fail;refine jB (by kernel_rfl) (by kernel_rfl) ?_;repeat (go_big_quiet_step (first|(go_at_call 48;apply yC;apply bE;exact u.o)|(go_at_call 157;exact xB (AM _ _ _ _ _ _ _ _ _ (C.o _) HL.o J))))
  refine wpQuiet_nil ?_;rintro _ ⟨x,rfl⟩;go_wp2;go_ret;exact⟨fB E.o.symm,Q.o x⟩
 have hC1:decide (c<(rC d:Int))=cA:=by simp;omega
 have qC:decide ((rC d:Int)<=c)=dA:=by simp;omega
 have E:xA (fF d c p m s=(zH d&&wB p 0 1000000000000000&&wB m 0 1000000000000000&&wB s 0 1000000000000000)):=by show _=_;simp only[fF,Y,Z,qC,Oc,Bool.and_true]
 clear Y Z qC;go_enter func110,ntmps110;go_wp2_with fail;refine jB (by kernel_rfl) (by kernel_rfl) ?_;repeat (go_big_quiet_step (first|(go_at_call 48;apply yC;apply bE;exact u.o)|(go_at_call 157;exact xB (AM _ _ _ _ _ _ _ _ _ (C.o _) HL.o J))))
 refine wpQuiet_nil ?_;rintro _ ⟨x,rfl⟩;have HF:xA (eB x.w' a d):=C.o x;have R:xA (kB w x.w'):=Q.o x;have n:w.1.size<x.w'.1.size:=by have:=x.h.size;simp at this;omega
 have e0:=d0 x;have S:=d2 x;have e3:=d3 x;have e4:=d4 x;clear d0 d1 d2 d3 d4 d5 C Q hne u;generalize x.w'=W at *;clear x;have HC:xA (∀wr,kB W wr->cC wr w.1.size 0 (oA a (vA d) r)/\cC wr w.1.size 2 (lA mA p)/\
  cC wr w.1.size 3 (lA mA m)/\cC wr w.1.size 4 (lA mA s)):=fun wr h=>
  ⟨(h.cell n).trans e0,(h.cell n).trans S,(h.cell n).trans e3,(h.cell n).trans e4⟩
 go_wp2;go_loopw [3,4,25] (fun _ _ i wr=>∃k:Nat,k<=vA d/\i=lA mA k/\xT d k=dA/\kB W wr) (fun _ _ i _=>vA d-(intOf i).toNat)
 case atStart=>exact⟨0,Oa _,rfl,rfl,eD⟩
 case round=>
  obtain⟨k,hk,rfl,T,g⟩:=hrel;obtain⟨e0',e2',e3',e4'⟩:=HC.o wr g;have L:xA _:=T;have t:xA _:=R.o.trans (g.mono (Vg n));have M:w.1.size<wr.1.size:=by have:=g.size;omega
  have hsz2:¬w.1.size=wr.1.size:=by omega
  clear T e0 S e3 e4 R HC;by_cases l:k<vA d
  .obtain ⟨b,o,rfl,hb,c0,c1,c2⟩:=(HF.o.z g).at l;have U:=(HS.o k l).1;have hsd:=(HS.o k l).2;have y:xA _:=U;unfold maxLen at hsd;clear U;by_cases O:uG d[k].N=cA
   .have f:pU d k=cA:=by simp[pU,Va l,cP,O]
    have D:xA _:=AT f l;have HN:xA _:=O;clear f O;go_wp2_with(first|(go_at_call 111;apply aC (fJ HN.o _ y.o);rintro q rfl));go_ret;exact⟨fB (by rw[E.o,zH,D.o];simp),t.o.alloc (Vg M) _⟩
   have H:uG d[k].N=dA:=by simpa using O
   have HN:xA _:=H;by_cases A:wB d[k].Y 0 d[k].data.size=cA
   .have f:pU d k=cA:=by simp[pU,Va l,cP,A]
    have D:xA _:=AT f l;have v:xA _:=A;clear f O H A;go_wp2_with(first|(go_at_call 111;apply aC (fJ HN.o _ y.o);rintro q rfl)|(go_at_call 48;apply aC (bE v.o _);rintro q rfl));go_ret;exact⟨fB (by rw[E.o,zH,D.o];simp),t.o.alloc (Vg M) _⟩
   have B:wB d[k].Y 0 d[k].data.size=dA:=by simpa using A
   have v:xA _:=B;have G:cP d[k]=dA:=by simp[cP,H,B]
   clear O H A B;by_cases hk0:(0:Int)<k
   .obtain ⟨b2,o2,S,q1,c0',q2,q3⟩:=(HF.o.z g).at (i:=k-1) (by omega)
    simp only[Qa,Addr.mk.injEq,Cc]at S;obtain⟨rfl,rfl⟩:=S;have f:pU d k=Op.bytesLess d[k-1].N.toList d[k].N.toList:=by
     obtain⟨j,rfl⟩:∃j,k=j+1:=⟨k-1,by omega⟩
     simp[pU,Va l,Va (show j<vA d by omega),G]
    generalize d[k-1].N=gn at c0' f;have hk1:0<k:=by omega
    clear q1 q2 q3 G;by_cases hl:Op.bytesLess gn.toList d[k].N.toList=dA
    .have D:xA (xT d (k+1)=dA):=by show xT d (k+1)=dA;rw[CC,L.o,f,hl];rfl
     clear f;go_wp2_with(first|(go_at_call 111;apply aC (fJ HN.o _ y.o);rintro q rfl)|(go_at_call 48;apply aC (bE v.o _);rintro q rfl));go_quiet (fail)
     go_wp2;exact⟨⟨k+1,by omega,by go_num,D.o,below_drewN (g.alloc g.size _) _⟩,by simp[intOf];omega⟩
    have hl':Op.bytesLess gn.toList d[k].N.toList=cA:=by simpa using hl
    have D:xA _:=AT (by rw[f];exact hl') l;clear f hl;go_wp2_with(first|(go_at_call 111;apply aC (fJ HN.o _ y.o);rintro q rfl)|(go_at_call 48;apply aC (bE v.o _);rintro q rfl));go_quiet (fail)
    go_wp2;go_ret;exact⟨fB (by rw[E.o,zH,D.o];simp),below_drewN (t.o.alloc (Vg M) _) _⟩
   have f:pU d k=dA:=by
    obtain rfl:k=0:=by omega
    simp[pU,Va l,G]
   have D:xA (xT d (k+1)=dA):=by show xT d (k+1)=dA;rw[CC,L.o,f];rfl
   have hk1:decide (0<k)=cA:=by simp;omega
   clear f G;go_wp2_with(first|(go_at_call 111;apply aC (fJ HN.o _ y.o);rintro q rfl)|(go_at_call 48;apply aC (bE v.o _);rintro q rfl));go_quiet (fail)
   go_wp2;exact⟨⟨k+1,by omega,by go_num,D.o,below_drewN (g.alloc g.size _) _⟩,by simp[intOf];omega⟩
  have ek:k=vA d:=by omega
  have E2:xA (fF d c p m s=(wB p 0 1000000000000000&&wB m 0 1000000000000000&&wB s 0 1000000000000000)):=by
   show _=_;have:=L.o;rw[ek]at this;rw[E.o,zH,this,Oc]
  by_cases V:wB p 0 1000000000000000=cA
  .have K:xA _:=V;clear V;go_wp2_with(first|(go_at_call 48;apply aC (bE K.o _);rintro q rfl));go_ret;exact⟨fB (by rw[E2.o,K.o];rfl),t.o⟩
  have K:xA (wB p 0 1000000000000000=dA):=by show _=_;simpa using V
  clear V;by_cases X:wB m 0 1000000000000000=cA
  .have P:xA _:=X;clear X;go_wp2_with fail;apply aC (bE K.o _);rintro q rfl;go_wp2_with fail;apply aC (bE P.o _);rintro q rfl;go_wp2;go_ret;exact⟨fB (by rw[E2.o,K.o,P.o];rfl),t.o⟩
  have P:xA (wB m 0 1000000000000000=dA):=by show _=_;simpa using X
  clear X;go_wp2_with fail;apply aC (bE K.o _);rintro q rfl;go_wp2_with fail;apply aC (bE P.o _);rintro q rfl;go_wp2_with fail;apply aC (vD _ _ _ _);rintro q rfl;go_wp2;go_ret;exact⟨fB (by rw[E2.o,K.o,P.o];rfl),t.o⟩
def IH{a:iC}{f:Nat}{d:List cB}{c k j l:Int}{m b:Bool}(h:fF d c k j l=b)(w:eA)(n:eB w a d)(o:pL d)(g:vA d<=maxLen)(i:rC d<=1000000000):
 qD 182 #[.agg #[oA a (vA d) f,lA mA c,lA mA k,lA mA j,lA mA l,pA m]] w (pA b):=h ▸ DH a f d c k j l m w n o g i
def JN{a:iC}{f:Nat}{d:List cB}{c k j l:Int}{m b:Bool}(h:fF d c k j l=b)(w:eA)(n:eB w a d)(o:pL d)(g:vA d<=maxLen)(i:rC d<=1000000000):
 qD 110 #[.agg #[oA a (vA d) f,lA mA c,lA mA k,lA mA j,lA mA l,pA m]] w (pA b):=h ▸ WY a f d c k j l m w n o g i
def xK{a:List cB}{c k b d:Int}(h:fF a c k b d=dA):zH a=dA/\vA a<=1000/\0<=c/\c<=1000000000/\(rC a:Int)<=c/\0<=k/\k<=1000000000000000/\0<=b/\b<=1000000000000000/\0<=d/\d<=1000000000000000:=by grind [fF,zH,rC,wB]
def jW(x:Nat):Nat:=if x % 2=1 then(x / 2) ^^^ 2197175160 else x / 2
def bP(x:Nat):Nat->Nat
 |0=>x
 |k+1=>jW (bP x k)
def vt(i:Nat):Nat:=bP i 8
def aIy{x:Nat}(h:x<4294967296):jW x<4294967296:=by
 unfold jW;split;exact Qd (n:=32) (by omega) (by omega);omega
def YB{x:Nat}(h:x<4294967296):∀k,bP x k<4294967296
 |0=>h
 |k+1=>aIy (YB h k)
def aNw{i:Nat}(h:i<256):vt i<4294967296:=YB (by omega) 8
def aCq(a b:Nat):(a ^^^ b) % 2=(a+b) % 2:=by
 have:=Nat.xor_mod_two_eq_one (a:=a) (b:=b);omega
def aDv(r x:Nat):jW (r ^^^ x)=uZ r x ^^^ (x / 2):=by
 unfold jW uZ;rw[aCq,Nat.xor_div_two];split;rw[Nat.xor_assoc,Nat.xor_comm (x / 2),<-Nat.xor_assoc];rfl
def MH(r b:Nat):∀k,bP (r ^^^ b) k=wQ r b k ^^^ (b / 2 ^ k)
 |0=>by simp[bP,wQ]
 |k+1=>by
  show jW (bP (r ^^^ b) k)=uZ (wQ r b k) (b / 2 ^ k) ^^^ (b / 2 ^ (k+1));rw[MH r b k,aDv,Fg,Od]
def vs(x z:Nat):jW (x ^^^ (2*z))=jW x ^^^ z:=by
 unfold jW;rw[aCq,Nat.xor_div_two,show(x+2*z) % 2=x % 2 by omega,show 2*z / 2=z by omega];split;rw[Nat.xor_assoc,Nat.xor_comm z,<-Nat.xor_assoc];rfl
def MI(x z:Nat):∀k,bP (x ^^^ (2 ^ k*z)) k=bP x k ^^^ z
 |0=>by simp[bP]
 |k+1=>by
  show jW (bP (x ^^^ (2 ^ (k+1)*z)) k)=jW (bP x k) ^^^ z;rw[Od,Nat.mul_assoc,MI x (2*z) k,vs]
def aDw(r:Nat):r=(r % 256) ^^^ (256*(r / 256)):=by
 have h:256*(r / 256)+r % 256=(2 ^ 8*(r / 256)) ||| (r % 256):=Ef (i:=8) (b:=r % 256) (by omega) (r / 256)
 have c:(r % 256) ^^^ (256*(r / 256))=(2 ^ 8*(r / 256)) ||| (r % 256):=by
  apply Nat.eq_of_testBit_eq;intro i;rw[Nat.testBit_xor,Nat.testBit_or,show 256*(r / 256)=2 ^ 8*(r / 256) from rfl,Nat.testBit_two_pow_mul,show r % 256=r % 2 ^ 8 from rfl,Nat.testBit_mod_two_pow];by_cases a:i<8
  .simp[a,Nat.not_le.2 a]
  simp[a,Nat.not_lt.1 a]
 omega
def aDx(r b:Nat)(d:b<256):wQ r b 8=(r / 256) ^^^ vt ((r % 256) ^^^ b):=by
 have a:=MH r b 8;rw[show b / 2 ^ 8=0 by omega,Nat.xor_zero]at a;rw[<-a];have c:=MI ((r % 256) ^^^ b) (r / 256) 8;rw[show((r % 256) ^^^ b) ^^^ (2 ^ 8*(r / 256))=r ^^^ b by
  rw[Nat.xor_assoc,Nat.xor_comm b,<-Nat.xor_assoc,show(2 ^ 8*(r / 256))=256*(r / 256) from rfl,<-aDw r]]at c
 rw[c,Nat.xor_comm];rfl
