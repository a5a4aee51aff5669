import Derived.Test.YtiegonaogehghaaGreatDoorJ07
import Derived.Deep.RegionHeld3
import Derived.Shelf.Spec.SlicesInsert
import Derived.Stop.Asserts
set_option maxRecDepth 100000
set_option maxHeartbeats 4000000
set_option linter.defProp false
open Bool renaming false->cA,true->dA
open ByteArray renaming empty->kA
open Option renaming some->bA
open List renaming length->yA
namespace Go.Proofs.YtiegonaogehghaaGreatDoor
open Go renaming Value->iA,World->eA,TypeId->jA
open Value renaming slice->pA,bool->qA,tuple->xA,agg->tA,string->oA,pointer->sA
open Ending renaming returned->uA
open Obj renaming cells->vA
open Go.RowKit Tryz
def EY(r:Rd):bC×Rd:=(⟨(kG 1 r).1,(kG 2 (kG 1 r).2).1⟩,(kG 2 (kG 1 r).2).2)
def oV(r:Rd):Nat->List bC×Rd
 |0=>([],r)
 |k+1=>((oV r k).1++[(EY (oV r k).2).1],(EY (oV r k).2).2)
def XL(key:nB):Nat:=(eK 1 ⟨key,cA⟩).1
def dH(key:nB):List bC×Rd:=oV (eK 1 ⟨key,cA⟩).2 (XL key)
def gR(r:Rd):Bool:=!r.H&&(r.rest.toList==ByteArray.empty.toList)
def nG(key:nB):List bC×Bool:=if (gR (dH key).2&&dO (dH key).1)=dA then((dH key).1,dA) else([],cA)
theorem ru(r:Rd):EY r=(⟨(kG 1 r).1,(kG 2 (kG 1 r).2).1⟩,(kG 2 (kG 1 r).2).2):=by rw[EY]
theorem FM(r:Rd)(k:Nat):oV r (k+1)=((oV r k).1++[(EY (oV r k).2).1],(EY (oV r k).2).2):=by rw[oV]
def CO(r:Rd):∀k,yA (oV r k).1=k
 |0=>rfl
 |k+1=>by rw[oV];simp[CO r k]
def ye{r:Rd}(h:(EY r).2.H=cA):r.H=cA/\r.rest=xM (EY r).1.N++vF (EY r).1.V++(EY r).2.rest:=by
 obtain⟨c,d⟩:=RE (k:=2) (r:=(kG 1 r).2) h;obtain⟨a,b⟩:=RE (k:=1) (r:=r) c;refine⟨a,?_⟩;rw[b,d];apply LD;simp[EY,xM,vF]
def aDm{r:Rd}{l:bC}{q:nB}(h:r.rest=xM l.N++vF l.V++q)(c:l.N.size<256)(d:l.V.size<65536):EY r=(l,⟨q,r.H⟩):=by
 have e:r.rest=qB 1 (l.N.size:Nat)++(l.N++(vF l.V++q)):=by
  rw[h];apply LD;simp[xM]
 have a:=JB e (by omega);have b:kG 2 (kG 1 r).2=(l.V,⟨q,r.H⟩):=by
  rw[a];exact JB (r:=⟨vF l.V++q,r.H⟩) (by show vF l.V++q=_;apply LD;simp[vF]) (by omega)
 rw[EY,b,a]
def aEs{r:Rd}(k:Nat):(oV r k).2.H=cA->r.H=cA/\r.rest=gD (oV r k).1++(oV r k).2.rest:=by
 induction k with
 |zero=>
  intro h;refine⟨h,?_⟩;show r.rest=kA++r.rest;apply LD;simp
 |succ k f=>
  intro h;rw[FM]at h |-
  simp only at h |-
  obtain⟨d,e⟩:=ye h;obtain⟨b,c⟩:=f d;refine⟨b,?_⟩;generalize oV r k=R at *;generalize EY R.2=L at *;rw[c,e,mM];have a:gD [L.1]=xM L.1.N++vF L.1.V:=by
   show xM L.1.N++vF L.1.V++kA=_;apply LD;simp
  rw[a];apply LD;simp
def aBf(a:List bC):Prop:=∀i(h:i<yA a),a[i].N.size<256/\a[i].V.size<65536
def ZH{r:Rd}{a:List bC}{q:nB}(h:r.rest=gD a++q)(b:aBf a):∀k,k<=yA a->oV r k=(a.take k,⟨gD (a.drop k)++q,r.H⟩)
 |0,_=>by
  cases r
  simp only at h;simp[oV,h]
 |k+1,f=>by
  have d:=ZH h b k (by omega);have e:gD (a.drop k)++q=xM a[k].N++vF a[k].V++(gD (a.drop (k+1))++q):=by
   rw[Cb (by omega)];apply LD;simp[gD]
  have c:=aDm (r:=⟨gD (a.drop k)++q,r.H⟩) e (b k (by omega)).1 (b k (by omega)).2;rw[FM,d,c,Pa (by omega)]
def QK(s:nB):∀(b p:Nat)(l:List Nat),s.size<=p+b->sJ s b p=bA l->s.size<=p+4*yA l
 |0,p,l,c,_=>by omega
 |b+1,p,l,c,h=>by
  rw[sJ]at h;split at h
  .split at h
   .exact absurd h (by simp)
   obtain ⟨d,a,rfl⟩:=Wb.1 h;have e:=fW s p;have f:=(kY s p).2;have:=QK s b _ d (by omega) a;simp;omega
  omega
def aFq{s:nB}(h:cP s=0):s.size<=512:=by
 unfold cP at h;split at h;exact absurd h (by simp)
 rename_i l a;unfold RS at h;split at h
 .exact absurd h (by simp)
 have:=QK s s.size 0 l (by omega) a;omega
def AU:∀(b:List bC)(j:Nat),aD b j=none->∀i(h:i<yA b),tQ b[i]=0
 |[],_,_,i,h=>absurd h (by simp)
 |l::r,j,a,i,h=>by
  rw[aD]at a;split at a
  .rename_i c;cases i with
   |zero=>exact c
   |succ i=>exact AU r _ a i (by simpa using h)
  exact absurd a (by simp)
def JT:∀(l:List bC)(j c i:Nat),aD l j=bA (c,i)->c≠0
 |[],_,_,_,h=>by simp[aD]at h
 |x::r,j,c,i,h=>by
  rw[aD]at h;split at h;exact JT r _ _ _ h
  rename_i a;simp only[Qa,Dc]at h;rw[<-h.1];exact a
def pZ{a:List bC}(h:dO a=dA):aBf a:=by
 have k:=aBp h;have j:=MU h;have f:(uB a).2.1=0:=by rw[k]
 have b:aD a 0=none:=by
  cases b:aD a 0 with
  |none=>rfl
  |some g=>
   obtain⟨c,i⟩:=g;rw[qZ (by omega) b]at f;exact absurd f (JT a 0 c i b)
 intro i l;have d:=AU a 0 b i l;unfold tQ at d;split at d
 .rename_i m;have e:YX a[i].N:=by simpa[PH]using m
  have:=aFq d;exact⟨by have:=e.2.1;omega,by omega⟩
 exact absurd d (by simp)
theorem cz{a:List bC}(h:dO a=dA):nG (tH a)=(a,dA):=by
 have c:=MU h;have i:=pZ h;have b:uF 1 ⟨tH a,cA⟩=(qB 1 (yA a:Nat),⟨gD a,cA⟩):=AI rfl (kB 1 _);have f:XL (tH a)=yA a:=by
  show uX (uF 1 ⟨tH a,cA⟩).1.data.toList=_;rw[b];exact pT 1 (yA a) (by omega)
 have g:(eK 1 ⟨tH a,cA⟩).2=⟨gD a,cA⟩:=by
  show(uF 1 ⟨tH a,cA⟩).2=_;rw[b]
 have d:dH (tH a)=(a,⟨kA,cA⟩):=by
  unfold dH;rw[f,g];have e:=ZH (r:=⟨gD a,cA⟩) (q:=kA) (by apply LD;simp) i (yA a) (Ia _);rw[e,Rb,Kg];simp[gD]
 unfold nG;rw[d];simp only;rw[Ma (by simp[gR,h])]
theorem XS{key:nB}(h:(nG key).2=dA):dO (nG key).1=dA/\tH (nG key).1=key:=by
 unfold nG at h |-
 split at h
 .rename_i hw;rw[Ma hw];rw[Sa]at hw;refine⟨hw.2,?_⟩;have a:=hw.1;unfold gR at a;rw[Sa]at a;have d:(dH key).2.H=cA:=by simpa using a.1
  have c:(dH key).2.rest=kA:=toList_inj (by simpa using a.2);obtain⟨g,i⟩:=aEs (r:=(eK 1 ⟨key,cA⟩).2) (XL key) d;obtain⟨m,k,l⟩:=DA (n:=1) (r:=⟨key,cA⟩) g;have j:yA (dH key).1=XL key:=CO _ _;have e:qB 1 (yA (dH key).1:Nat)=(uF 1 ⟨key,cA⟩).1:=by
   rw[j];have:=sj (uF 1 ⟨key,cA⟩).1.data.toList 1 (by rw[<-jR];exact k);show qB 1 (uX (uF 1 ⟨key,cA⟩).1.data.toList:Nat)=_;rw[this]
  show qB 1 (yA (dH key).1:Nat)++gD (dH key).1=key;have b:(uF 1 ⟨key,cA⟩).2.rest=gD (dH key).1++(dH key).2.rest:=i;have f:key=(uF 1 ⟨key,cA⟩).1++(uF 1 ⟨key,cA⟩).2.rest:=l;rw[e];conv=>rhs;rw[f,b,c]
  apply LD;simp
 exact absurd h (by simp)
theorem LV{key:nB}(h:(nG key).2=cA):nG key=([],cA)/\∀a,dO a=dA->tH a≠key:=by grind [nG,dO,tH,cz]
theorem aEr(r:Rd)(k:Nat):(oV r k).2.rest.size<=r.rest.size/\∀i(h:i<yA (oV r k).1),(oV r k).1[i].N.size<=r.rest.size/\(oV r k).1[i].V.size<=r.rest.size:=by induction k<;>grind [oV,kG,tv,FM,ru]
def zo(key:nB):∀i(h:i<yA (dH key).1),(dH key).1[i].N.size<=key.size/\(dH key).1[i].V.size<=key.size:=by grind [dH,eK,XL,aEr,AJ]
structure mI where
 b:Nat
 t:Int
def jD(l:List mI)(i:Nat):mI:=l.getD i ⟨0,0⟩
def aH(l:List mI)(i j:Nat):List mI:=(l.set i (jD l j)).set j (jD l i)
def EM{l:List mI}{i:Nat}(h:i<yA l):jD l i=l[i]:=by simp[jD,List.getD,Va h]
def lD(l:List mI)(i j:Nat):yA (aH l i j)=yA l:=by simp[aH]
theorem sI{l:List mI}{i j:Nat}(a:i<yA l)(b:j<yA l)(k:Nat):jD (aH l i j) k=if k=j then jD l i else if k=i then jD l j else jD l k:=by grind [jD,aH]
def CZ{l:List mI}{i j:Nat}(a:i<yA l)(b:j<yA l):(aH l i j).Perm l:=by
 unfold aH;rw[EM a,EM b];exact List.set_set_perm a b
def mJ(l:List mI):Prop:=∀i,0<i->i<yA l->(jD l ((i-1) / 2)).t<=(jD l i).t
def xV(l:List mI)(k:Nat):Prop:=(∀i,0<i->i<yA l->i≠k->(jD l ((i-1) / 2)).t<=(jD l i).t)/\∀i,0<i->i<yA l->(i-1) / 2=k->0<k->(jD l ((k-1) / 2)).t<=(jD l i).t
def mJ.push{l:List mI}(h:mJ l)(x:mI):xV (l++[x]) (yA l):=by grind [mJ,xV,jD]
def xV.done{l:List mI}{k:Nat}(h:xV l k)(a:k=0\/(jD l ((k-1) / 2)).t<=(jD l k).t):mJ l:=by grind [xV,jD,mJ]
def xV.step{l:List mI}{k:Nat}(h:xV l k)(e:k<yA l)(p:0<k)(r:(jD l k).t<(jD l ((k-1) / 2)).t):xV (aH l k ((k-1) / 2)) ((k-1) / 2):=by
 have d:(k-1) / 2<yA l:=by omega
 have o:(k-1) / 2≠k:=by omega
 refine⟨λi a c j=>?_,λi a c n m=>?_⟩
 .rw[lD]at c;rw[sI e d,sI e d,Ja j];by_cases b:i=k
  .subst b;rw[Ma rfl,Ma rfl];omega
  rw[Ja b];by_cases f:(i-1) / 2=(k-1) / 2
  .rw[Ma f];have:=h.1 i a c b;rw[f]at this;omega
  rw[Ja f];by_cases g:(i-1) / 2=k
  .rw[Ma g];exact h.2 i a c g p
  rw[Ja g];exact h.1 i a c b
 rw[lD]at c;rw[sI e d,sI e d,Ja (by omega:((k-1) / 2-1) / 2≠(k-1) / 2),Ja (by omega:((k-1) / 2-1) / 2≠k),Ja (by omega:i≠(k-1) / 2)];have q:=h.1 ((k-1) / 2) m d o;by_cases b:i=k
 .rw[Ma b];exact q
 rw[Ja b];have:=h.1 i a c b;rw[n]at this;omega
def fR(l:List mI):Nat->List mI
 |0=>l
 |k+1=>if (jD l (k+1)).t<(jD l (k / 2)).t then fR (aH l (k+1) (k / 2)) (k / 2) else l
def KR{l:List mI}{k:Nat}(a:0<k):fR l k=if (jD l k).t<(jD l ((k-1) / 2)).t then fR (aH l k ((k-1) / 2)) ((k-1) / 2) else l:=by
 obtain⟨j,rfl⟩:∃j,k=j+1:=⟨k-1,by omega⟩
 rw[fR,Nat.add_sub_cancel]
def KS(l:List mI):fR l 0=l:=by rw[fR]
def KQ:∀(k:Nat)(l:List mI),k<yA l->xV l k->mJ (fR l k)/\(fR l k).Perm l/\yA (fR l k)=yA l
 |0,l,_,h=>by rw[KS];exact⟨h.done (Ca rfl),Lf _,rfl⟩
 |k+1,l,e,h=>by
  rw[KR (by omega)];by_cases d:(jD l (k+1)).t<(jD l ((k+1-1) / 2)).t
  .rw[Ma d];obtain⟨a,b,c⟩:=KQ ((k+1-1) / 2) (aH l (k+1) ((k+1-1) / 2)) (by rw[lD];omega) (h.step e (by omega) d);exact⟨a,b.trans (CZ e (by omega)),c.trans (lD _ _ _)⟩
  rw[Ja d];exact⟨h.done (La (by omega)),Lf _,rfl⟩
def lR(l:List mI)(x:mI):List mI:=fR (l++[x]) (yA l)
def CM{l:List mI}(h:mJ l)(x:mI):mJ (lR l x)/\(lR l x).Perm (x::l)/\yA (lR l x)=yA l+1:=by
 obtain⟨a,b,c⟩:=KQ (yA l) (l++[x]) (by simp) (h.push x);exact⟨a,b.trans (List.perm_append_singleton x l),by rw[lR,c];simp⟩
structure gE where
 fs:List jB
 c:Int
 k:Int
 cr:Int
 fl:Int
 dn:Bool
structure mG where
 first:Int
 last:Int
 size:Int
structure pC where
 d:gE
 l:mG
 now:Int
 ts:List fB
 lsn:Int
 deg:Bool
 up:Bool
def dC(a:jC)(e:Nat)(b:jC)(f:Nat)(N:pC):Array iA:=#[pA a (yA N.d.fs) e,zA N.d.c,zA N.d.k,zA N.d.cr,zA N.d.fl,qA N.d.dn,zA N.l.first,zA N.l.last,zA N.l.size,zA N.now,pA b (yA N.ts) f,zA N.lsn,qA N.deg,qA N.up]
def gB.n14{w:eA}{b:Nat}{a c d e f g i j k l m n o p:iA}{t:jA}(h:gB w b #[a,c,d,e,f,g,i,j,k,l,m,n,o,p] t):
 w.cell? (dB b 0)=bA a/\w.cell? (dB b 1)=bA c/\w.cell? (dB b 2)=bA d/\w.cell? (dB b 3)=bA e/\w.cell? (dB b 4)=bA f/\w.cell? (dB b 5)=bA g/\w.cell? (dB b 6)=bA i/\
 w.cell? (dB b 7)=bA j/\w.cell? (dB b 8)=bA k/\w.cell? (dB b 9)=bA l/\w.cell? (dB b 10)=bA m/\w.cell? (dB b 11)=bA n/\w.cell? (dB b 12)=bA o/\w.cell? (dB b 13)=bA p:=by
 refine⟨?_,?_,?_,?_,?_,?_,?_,?_,?_,?_,?_,?_,?_,?_⟩<;>(rw[gB.cell h];rfl)
def gB.frees{w:eA}{b:Nat}{cs:Array iA}{t:jA}(h:gB w b cs t):w.frozen? (dB b 0)=cA/\w.frozen? (dB b 1)=cA/\w.frozen? (dB b 2)=cA/\w.frozen? (dB b 3)=cA/\w.frozen? (dB b 4)=cA/\w.frozen? (dB b 5)=cA/\w.frozen? (dB b 6)=cA/\
 w.frozen? (dB b 7)=cA/\w.frozen? (dB b 8)=cA/\w.frozen? (dB b 9)=cA/\w.frozen? (dB b 10)=cA/\w.frozen? (dB b 11)=cA/\w.frozen? (dB b 12)=cA/\w.frozen? (dB b 13)=cA:=
 ⟨h.free 0,h.free 1,h.free 2,h.free 3,h.free 4,h.free 5,h.free 6,h.free 7,h.free 8,h.free 9,h.free 10,h.free 11,h.free 12,h.free 13⟩
def aGl{C:eA->Prop}{w:eA}{O:Nat}{r s u v x y i j l m n o p q a b c d e f:iA}{t:jA}(h:gB w O #[r,s,u,v,x,y,i,j,l,m,n,o,p,q] t)
(k:∀g,gB g O #[a,b,c,d,e,f,i,j,l,m,n,o,p,q] t->eB (·=O) w g->C g):C ((((((w.setCell (dB O 0) a).setCell (dB O 1) b).setCell (dB O 2) c).setCell (dB O 3) d).setCell (dB O 4) e).setCell (dB O 5) f):=
 k _ (by have:=((((((h.set 0 a).set 1 b).set 2 c).set 3 d).set 4 e).set 5 f);simpa using this) (((((((eB.refl (·=O) w).setCell (Ca rfl) 0 a).setCell (Ca rfl) 1 b).setCell (Ca rfl) 2 c).setCell (Ca rfl) 3 d).setCell (Ca rfl) 4 e).setCell (Ca rfl) 5 f)
def xK:pC:=⟨⟨[],0,0,0,0,cA⟩,⟨0,0,0⟩,0,[],0,cA,cA⟩
def ub(N:pC):Bool:=N.up&&!N.deg
def iq{c d a b:iA}(e:c=a)(f:d=b):Ending.returned (xA #[c,d])=uA (xA #[a,b]):=by rw[e,f]
def iE(t:nB):List jB->Nat->Int
 |[],_=>-1
 |f::r,i=>if (f.N.toList==t.toList)=dA then i else iE t r (i+1)
def sW(a:jC)(p:Nat)(f:List jB)(c y s v:Int)(u:Bool)(t:nB)(w:eA)(q:rB w a f)(j:yA f<=maxLen):
 vE 41 #[tA #[pA a (yA f) p,zA c,zA y,zA s,zA v,qA u],oA t] w (zA (iE t f 0)):=by
 unfold maxLen at j;have r:bB (rB w a f):=q;clear q;go_enter func41,ntmps41;go_wp2;go_loopw [5,6,10] (λ_ _ i wr=>∃k:Nat,k<=yA f/\i=zA k/\iE t f 0=iE t (f.drop k) k/\tB w wr) (λ_ _ i _=>yA f-(intOf i).toNat)
 case atStart=>exact⟨0,Oa _,rfl,rfl,yB⟩
 case round=>
  obtain⟨k,F,rfl,h,d⟩:=hrel;have g:bB _:=h;clear h;by_cases l:k<yA f
  .obtain ⟨b,o,rfl,D,A,B,C⟩:=(r.o.z d).at l;have m:=Cb l;by_cases n:(f[k].N.toList==t.toList)=dA
   .have E:bB (iE t f 0=k):=by show _=_;rw[g.o,m,iE,Ma n]
    clear m;go_wp2;go_ret;exact⟨zE E.o.symm,d.alloc d.size _⟩
   have x:(f[k].N.toList==t.toList)=cA:=by simpa using n
   have E:bB (iE t f 0=iE t (f.drop (k+1)) (k+1)):=by show _=_;rw[g.o,m,iE,Ja n]
   clear m n;go_wp2;exact⟨⟨k+1,by omega,by go_num,E.o,d.alloc d.size _⟩,by simp[intOf];omega⟩
  go_wp2;go_ret;have e:f.drop k=[]:=Ie (by omega);exact⟨zE (by rw[g.o,e];rfl),d⟩
def xU(a:List jB):Prop:=∀i j(b:i<j)(c:j<yA a),Op.bytesLess a[i].N.toList a[j].N.toList=dA
def zf{a:List jB}{j:Nat}(h:lT a (j+1)=dA)(b:j+1<yA a):Op.bytesLess a[j].N.toList a[j+1].N.toList=dA:=by grind [lT]
def BL{a:List jB}(h:bI a=dA):xU a:=by
 simp only[bI,tS,Ke,Xg]at h;intro i j f b;induction j with
 |zero=>omega
 |succ j d=>
  have c:=zf (h (j+1) b) b;by_cases e:i=j
  .subst e;exact c
  exact gJ _ _ _ (d (by omega) (by omega)) c
def mT(a:List jB)(t:nB)(i:Nat):Prop:=i<=yA a/\(∀j(h:j<yA a),j<i->Op.bytesLess a[j].N.toList t.toList=dA)/\(∀j(h:j<yA a),i<=j->Op.bytesLess a[j].N.toList t.toList=cA)
def fC(t:nB):List jB->Nat
 |[]=>0
 |f::r=>if Op.bytesLess f.N.toList t.toList=dA then fC t r+1 else 0
def mT.uniq{d:List jB}{t:nB}{i j:Nat}(h:mT d t i)(k:mT d t j):i=j:=by
 rcases Nat.lt_trichotomy i j with c|e|c;have a:=k.2.1 i (by have:=k.1;omega) c;have b:=h.2.2 i (by have:=k.1;omega) (Ia _);rw[a]at b;exact absurd b (by simp);exact e;have a:=h.2.1 j (by have:=h.1;omega) c;have b:=k.2.2 j (by have:=h.1;omega) (Ia _);rw[a]at b;exact absurd b (by simp)
def fI(a:List jB)(t:nB)(i:Nat):Bool:=match a[i]? with
 |none=>cA
 |some f=>f.N.toList==t.toList
def ch{x y:nB}:(hY x y<0) ↔ Op.bytesLess x.toList y.toList=dA:=by
 unfold hY;split<;>(try split)<;>simp_all
def vf{x y:nB}:(hY x y==0)=(x.toList==y.toList):=by grind [hY,kH]
def py(a:jC)(A:Nat)(d:List jB)(t:nB)(w:eA)(I:rB w a d)(n:xU d)(K:yA d<=1048576):
 Calls prog 182 #[pA a (yA d) A,oA t,.func (.func 183) #[] #[]] w λe z=>
  ∃i,mT d t i/\e=uA (xA #[zA i,qA (fI d t i)])/\tB w z:=by
 have G:bB (rB w a d):=I;have F:bB (xU d):=n;clear I n;go_enter func182,ntmps182;go_wp2;go_loopw [9,10,11] (λi j _ wr=>∃f l:Nat,i=zA f/\j=zA l/\f<=l/\l<=yA d/\(∀m(h:m<yA d),m<f->Op.bytesLess d[m].N.toList t.toList=dA)/\
  (∀m(h:m<yA d),l<=m->Op.bytesLess d[m].N.toList t.toList=cA)/\tB w wr) (λi j _ _=>(intOf j).toNat-(intOf i).toNat)
 case atStart=>exact⟨0,yA d,rfl,rfl,Oa _,Ia _,λm h k=>absurd k (by omega),λm h k=>absurd k (by omega),bD⟩
 case round=>
  obtain⟨f,l,rfl,rfl,P,x,q,p,c⟩:=hrel;have v:bB _:=q;have u:bB _:=p;clear q p;by_cases Q:f<l
  .obtain ⟨m,R⟩:∃m:Nat,m=(f+l) / 2:=⟨_,rfl⟩
   have U:((f:Int)+(l:Int)) / 2=(m:Int):=by omega
   have C:f<=m:=by omega
   have S:m<l:=by omega
   have y:m<yA d:=by omega
   clear R;obtain⟨b,o,rfl,O,L,M,N⟩:=(G.o.z c).at y;by_cases r:Op.bytesLess d[m].N.toList t.toList=dA
   .have T:=ch.2 r;have s:bB _:=r;clear r;go_wp2_with fail;apply hC (BU _ _ _ _ _);intro z g;go_wp2;refine⟨⟨m+1,l,by go_num,rfl,by omega,x,λj J B=>?_,u.o,c.trans (g.mono c.size)⟩,by simp[intOf];omega⟩;by_cases e:j=m
    .subst e;exact s.o
    exact gJ _ _ _ (F.o j m (by omega) y) s.o
   have T:¬hY d[m].N t<0:=λh=>r (ch.1 h);have s:bB (Op.bytesLess d[m].N.toList t.toList=cA):=by show _=_;simpa using r
   clear r;go_wp2_with fail;apply hC (BU _ _ _ _ _);intro z g;go_wp2;refine⟨⟨f,m,rfl,rfl,C,by omega,v.o,λj J B=>?_,c.trans (g.mono c.size)⟩,by simp[intOf];omega⟩;by_cases e:j=m
   .subst e;exact s.o
   rw[Yc];intro h;have:=gJ _ _ _ (F.o m j (by omega) J) h;rw[s.o]at this;exact absurd this (by simp)
  obtain rfl:f=l:=by omega
  have H:bB (mT d t f):=⟨x,v.o,u.o⟩
  by_cases D:f<yA d
  .obtain ⟨b,o,rfl,O,L,M,N⟩:=(G.o.z c).at D;have E:bB ((hY d[f].N t==0)=fI d t f):=by show _=_;rw[vf];simp[fI,Va D]
   go_wp2_with fail;apply hC (BU _ _ _ _ _);intro z g;go_wp2;go_ret2;exact⟨f,H.o,iq rfl (Kd iA.bool E.o),c.trans (g.mono c.size)⟩
  have E:bB (fI d t f=cA):=by show _=_;simp[fI,Fd (Nat.not_lt.1 D)]
  go_wp2;go_ret2;exact⟨f,H.o,iq rfl (Kd iA.bool E.o.symm),c⟩
def iW(a:jC)(d:Nat)(b:List jB)(t:nB)(w:eA)(g:rB w a b)(c:xU b)(f:yA b<=1048576):
 Calls prog 124 #[pA a (yA b) d,oA t] w λe j=>
  ∃i,mT b t i/\e=uA (xA #[zA i,qA (fI b t i)])/\tB w j:=by
 have l:bB (rB w a b):=g;have k:bB (xU b):=c;clear g c;go_enter func124,ntmps124;go_wp2_with fail;refine(py a d b t _ l.o k.o f).mono ?_;rintro e j ⟨i,h,rfl,n⟩;have m:bB (mT b t i):=h;clear h;go_wp2;go_ret2;exact⟨i,m.o,rfl,n⟩
theorem OH{a:List jB}{t:nB}(p:xU a){i:Nat}(u:mT a t i):iE t a 0=if fI a t i=dA then(i:Int) else -1:=by
 have o:∀(n k:Nat),k+n=yA a->(∀j(h:j<yA a),j<k->(a[j].N.toList==t.toList)=cA)->iE t (a.drop k) k=if fI a t i=dA then(i:Int) else -1:=by
  intro n;induction n with
  |zero=>
   intro k r c;rw[Ie (by omega),iE];rw[Ja];intro h;unfold fI at h;split at h;exact absurd h (by simp)
   rename_i f q;obtain⟨b,rfl⟩:=Pb.1 q;rw[c i b (by omega)]at h;exact absurd h (by simp)
  |succ n w=>
   intro k r c;have b:k<yA a:=by omega
   rw[Cb b,iE];by_cases d:(a[k].N.toList==t.toList)=dA
   .rw[Ma d];have v:mT a t k:=by
     have e:a[k].N.toList=t.toList:=by simpa using d
     refine⟨by omega,λj l g=>?_,λj l s=>?_⟩;rw[<-e];exact p j k g b;rw[<-e];by_cases m:j=k
     .subst m;exact kH _
     exact tP (p k j (by omega) l)
    obtain rfl:=u.uniq v;rw[Ma];simp[fI,Va b,d]
   .rw[Ja d];refine w (k+1) (by omega) λj l g=>?_;by_cases m:j=k
    .subst m;simpa using d
    exact c j l (by omega)
 have:=o (yA a) 0 (by omega) (λj _ h=>absurd h (by omega));simpa using this
def wG{w:eA}{B:Nat}{e:jA}{a:Nat}{v:iA}{n:Nat}{i:List iA}(h:w.ownsRow B e a v n i):∀g,v.ownBlock=bA g->g<w.1.size:=by
 intro g b;obtain⟨rfl,_⟩|⟨j,c,d,rfl,_,f,_⟩:=h.2;simp[iA.ownBlock]at b;simp[iA.ownBlock]at b;subst b;exact aB f
def fZ{w:eA}{B:Nat}{e:jA}{c:Nat}{v:iA}{n:Nat}{f:List iA}(h:w.ownsRow B e c v n f):∃a b,v=pA a n b:=by
 obtain⟨rfl,rfl⟩|⟨g,b,d,rfl,_⟩:=h.2;exact ⟨none,0,rfl⟩;exact ⟨_,b,rfl⟩
def QH{w:eA}{B B':Nat}{e:jA}{a:Nat}{v:iA}{n:Nat}{d:List iA}(h:w.ownsRow B e a v n d)(i:B'<=B):w.ownsRow B' e a v n d:=by
 refine⟨h.1,?_⟩;obtain f|⟨g,b,c,k,j,r⟩:=h.2;exact Ca f;exact La ⟨g,b,c,k,Ua i j,r⟩
structure rC(w:World)(B D:Nat)(fs:List jB)(c k cr fl:Int)(dn:Bool)(v:Value):Prop where
 from':B≤D
 blk:gB w D #[zA k,zA cr,zA fl,qA dn,v,zA c] 153
 row:w.ownsRow B 151 3 v (yA fs) (flat fs)
 apart:∀g,v.ownBlock=bA g→g≠D
def rC.z{w g:eA}{B D:Nat}{e:List jB}{c k a d:Int}{b:Bool}{v:iA}(h:rC w B D e c k a d b v)(f:tB w g):rC g B D e c k a d b v:=
 ⟨h.from',h.blk.z f,eC h.row f,h.apart⟩
def IH(a:jC)(d:Nat)(f:List jB)(c k l n:Int)(m:Bool)(w:eA)(t:rB w a f)(o:yA f<=1048576):
 Calls prog 17 #[tA #[pA a (yA f) d,zA c,zA k,zA l,zA n,qA m]] w λe b=>
  ∃D v,e=uA (.pointer (pB D))/\rC b w.1.size D f c k l n m v/\tB w b:=by
 have u:bB (rB w a f):=t;clear t;obtain⟨A,B,C,E,F,G⟩:=dP.new w (pA a (yA f) d) (zA c) (zA k) (zA l) (zA n) (qA m) 35;have p:bB (∀b,Below (w.alloc (vA #[pA a (yA f) d,zA c,zA k,zA l,zA n,qA m] 35)).1.size (w.alloc (vA #[pA a (yA f) d,zA c,zA k,zA l,zA n,qA m] 35)) b->tC b w.1.size 0 (pA a (yA f) d)/\tC b w.1.size 1 (zA c)/\tC b w.1.size 2 (zA k)/\tC b w.1.size 3 (zA l)/\tC b w.1.size 4 (zA n)/\tC b w.1.size 5 (qA m)):=λb h=>
  (dP.new w (pA a (yA f) d) (zA c) (zA k) (zA l) (zA n) (qA m) 35).z h
 go_enter func17,ntmps17;go_wp2_with fail;go_region_held3 (λb=>b.cell? (dB w.1.size 0)=bA (pA a (yA f) d)/\b.cell? (dB w.1.size 1)=bA (zA c)/\b.cell? (dB w.1.size 2)=bA (zA k)/\b.cell? (dB w.1.size 3)=bA (zA l)/\b.cell? (dB w.1.size 4)=bA (zA n)/\b.cell? (dB w.1.size 5)=bA (qA m))
  (first|(exact p.o _ (vB (vB bD.drew j) yB))|(exact p.o _ (vB bD.drew j))|(exact p.o _ bD.drew))
  (first
  |(go_at_call 67;refine(TQ a d f _ ((u.o.z yB).z bD.drew) o).mono ?_;rintro e y ⟨v,rfl,i,j⟩;obtain⟨z,s,rfl⟩:=fZ i))
 go_wp2;go_ret;have q:=j.size;have r:=wG i;refine⟨y.1.size,_,rfl,⟨?_,heap_alloc_new _ _,QH (eC i yB) (by simp),?_⟩,vB (vB yB (vB bD.drew j)) yB⟩
 .simp at q;omega
 intro g x;have:=r g x;omega
def kh(b o:Nat)(c:Array iA)(t:jA)(d:nB)(w:eA)(f:gB w b c t)(g:c[o+1]?=bA (oA d))(h:o+2<c.size):
 Calls prog 188 #[sA (bA (dB b o))] w λe j=>e=uA (xA #[])/\j=w.setCell (dB b (o+2)) (zA d.size):=by
 have i:=f.cell (o+1);rw[g]at i;obtain⟨l,k⟩:=f.there h;have a:=f.free (o+2);clear f g h;go_enter func188,ntmps188;go_wp2;go_end0;exact⟨rfl,rfl⟩
def dU(D:Nat)(t:jA)(a:jC)(n d:Nat)(c k f h:Int)(g:Bool)(w:eA)(i:gB w D #[zA k,zA f,zA h,qA g,pA a n d,zA c] t):
 vE 19 #[.pointer (pB D)] w (tA #[pA a n d,zA c,zA k,zA f,zA h,qA g]):=by
 have b:=i.z (pF w (vA #[pA none 0 0,zA 0,zA 0,zA 0,zA 0,qA cA] 35));have j:=b.cell 0;have l:=b.cell 1;have m:=b.cell 2;have o:=b.cell 3;have p:=b.cell 4;have q:=b.cell 5;simp only[Xb,Ob,Ga]at j l m o p q;clear i b;go_enter func19,ntmps19;go_wp2_with fail;go_region
 go_wp2;exact bodyPost_ret (v:=tA #[pA a n d,zA c,zA k,zA f,zA h,qA g]) (by simp[results,results19,go_sem]) rfl ⟨rfl,yB.drew⟩
structure bE(S:Nat→Prop)(w w':World):Prop where
 os:w'.os=w.os
 tape:w'.tape=w.tape
 output:w'.output=w.output
 size:w.1.size≤w'.1.size
 block:∀k,k<w.1.size→¬S k→w'.heap[k]?=w.heap[k]?
def bE.refl(S:Nat->Prop)(w:eA):bE S w w:=⟨rfl,rfl,rfl,Ia _,λ_ _ _=>rfl⟩
def bE.trans{S:Nat->Prop}{a b c:eA}(h:bE S a b)(k:bE S b c):bE S a c:=
 ⟨k.os.trans h.os,k.tape.trans h.tape,k.output.trans h.output,Ua h.size k.size,λi e d=>(k.block i (Bb e h.size) d).trans (h.block i e d)⟩
def bE.of{S:Nat->Prop}{w a:eA}(h:tB w a):bE S w a:=⟨h.os,h.tape,h.output,h.size,λk b _=>h.block k b⟩
def bE.mono{S T:Nat->Prop}{w a:eA}(h:bE S w a)(c:∀k,S k->T k):bE T w a:=⟨h.os,h.tape,h.output,h.size,λk b d=>h.block k b (λx=>d (c k x))⟩
def bE.below{S:Nat->Prop}{B:Nat}{w a:eA}(h:bE S w a)(b:∀k,S k->B<=k)(d:B<=w.1.size):Below B w a:=
 ⟨h.os,h.tape,h.output,h.size,λk c=>h.block k (by omega) (λx=>by have:=b k x;omega)⟩
def bE.but{g:Nat}{w a:eA}(h:pD g w a):bE (λk=>k=g) w a:=⟨h.os,h.tape,h.output,h.size,h.block⟩
def bE.setCell{S:Nat->Prop}{a w:eA}(h:bE S a w){g:Nat}(b:S g)(o:Nat)(v:iA):bE S a (w.setCell (dB g o) v):=
 h.trans ⟨rfl,rfl,rfl,by simp[eA.setCell],λk _ c=>Below.heap_setCell _ _ _ _ (λe=>c (by rw[e];exact b))⟩
def bE.setCells{S:Nat->Prop}{g:Nat}(b:S g):∀(c:List iA)(o:Nat){a w:eA},bE S a w->bE S a (w.setCells g o c)
 |[],_,_,_,h=>h
 |v::r,o,_,_,h=>bE.setCells b r (o+1) (h.setCell b o v)
def bE.drew{S:Nat->Prop}{a w:eA}(h:bE S a w):bE S a w.drew:=⟨h.os,h.tape,h.output,h.size,h.block⟩
def bE.grown{S:Nat->Prop}{w a:eA}{f:Option Nat}(h:w.grownBy a f)(d:∀g,f=bA g->S g):bE S w a:=
 ⟨h.os,h.tape,h.output,h.size,λk c b=>h.block k c (λe=>b (d k e.symm))⟩
def gB.keeps{S:Nat->Prop}{w c:eA}{g:Nat}{a:Array iA}{t:jA}(h:gB w g a t)(d:bE S w c)(b:¬S g):gB c g a t:=(d.block g (aB h) b).trans h
def gB.setCells{g:Nat}{t:jA}:∀(f:List iA)(o:Nat){w:eA}{a:Array iA},gB w g a t->∃b,gB (w.setCells g o f) g b t/\b.size=a.size
 |[],_,_,a,h=>⟨a,h,rfl⟩
 |v::r,o,_,a,h=>by
  obtain⟨c,d,e⟩:=gB.setCells r (o+1) (h.set o v);exact⟨c,d,by rw[e];simp⟩
def sR{w:eA}{B g n a:Nat}{b:Array iA}{e:jA}{c:List iA}(f:B<=g)(h:gB w g b e)(m:n<=a)(l:a<=maxLen)(o:b.size=a*3)(p:yA c=n*3)
(i:∀j u,c[j]?=bA u->w.cell? (dB g j)=bA u):w.ownsRow B e 3 (pA (pB g) n a) n c:=by
 refine⟨p,La ⟨g,a,b,rfl,f,h,m,l,o,?_⟩⟩;apply List.ext_getElem?;intro j;by_cases k:j<n*3
 .rw[Jb k];have d:=i j c[j] (Va (by omega));rw[h.cell]at d;rw[Yd,d,Va (by omega)]
 rw[Fd (by simp;omega),Fd (by omega)]
def oR{w:eA}{B g n m a:Nat}{e:jA}{l:List iA}(h:w.ownsRow B e 3 (pA (pB g) m a) n l):
 ∃b,B<=g/\m=n/\gB w g b e/\n<=a/\a<=maxLen/\b.size=a*3/\∀j u,l[j]?=bA u->w.cell? (dB g j)=bA u:=by
 obtain⟨d,_⟩|⟨t,i,b,d,o,k,q,p,r,s⟩:=h.2;exact absurd d (by simp);simp only[iA.slice.injEq,Qa,Addr.mk.injEq,Cc]at d;obtain⟨rfl,rfl,rfl⟩:=d;refine⟨b,o,rfl,k,q,p,r,λj u c=>?_⟩;rw[gB.cell k];rw[<-s]at c;have f:=(Pb.1 c).1;rw[Hb]at f;rw[Jb (by omega)]at c;simpa using c
def jQ{P:Program}(w:eA)(n B C d:jA)(b o c g:Nat)(a:Addr)(e l k f:Nat)(cs:List iA)
(A:P.underlying n=bA (.slice d))(z:(P.info? d).map (·.size)=bA f)(t:Nat.min e c=k)(x:yA cs=k*f)
(h:∀j v,cs[j]?=bA v->w.cell? (a.add j)=bA v)(q:∀j,j<yA cs->(w.cell? (dB b (o+j))).isSome=dA)(r:∀j,j<yA cs->w.frozen? (dB b (o+j))=cA)(p:∀v∈cs,v.oneCell'=dA):
 (Builtin.copy_ #[n,B] C #[pA (bA (dB b o)) c g,pA (bA a) e l]).run P w=.ok (goInt k) (w.setCells b o cs):=by
 have u:=run_loadCells_list (P:=P) w a cs h;have m:=run_storeCells_cells (P:=P) b o cs 0 w (by simpa using q) (by simpa using r) p;obtain⟨i,y,s⟩:=Wb.1 z;simp[Builtin.copy_,run_underlying A,Builtin.lenOf,Builtin.firstCells,sizeOf,typeInfo,y,s,t,<-x,u,m]
def lZ:List iA:=[oA kA,oA kA,zA 0]
def SD{P:Program}(w:eA)(t m e:jA)(i:TypeInfo)(k:P.underlying t=bA (.slice e))(h:P.info? e=bA i)(l:i.zero=bA (tA #[oA kA,oA kA,zA 0]))
(b o c:Nat)(f:∀j,j<3->(w.cell? (dB b (o+j))).isSome=dA)(g:∀j,j<3->w.frozen? (dB b (o+j))=cA):
 (Builtin.clear_ #[t] m #[pA (bA (dB b o)) 1 c]).run P w=.ok (xA #[]) (w.setCells b o lZ):=by
 have a:=run_storeCells_cells (P:=P) b o lZ 0 w (by simpa[lZ]using f) (by simpa[lZ]using g) (by simp[lZ,iA.oneCell']);have d:(Builtin.zeroCells (iA.agg #[oA kA,oA kA,zA 0]).cells 1).toList=lZ:=by kernel_rfl
 simp[Builtin.clear_,run_underlying k,zeroValue,typeInfo,h,l,d,a]
def mw(a:List jB)(i:Nat):flat (a.eraseIdx i)=flat (a.take i)++flat (a.drop (i+1)):=by
 rw[List.eraseIdx_eq_take_drop_succ,flat_append]
theorem OL(a:List jB)(i:Nat):flat a=flat (a.take i)++flat (a.drop i):=by
 rw[<-flat_append,Za]
def nU(a:List jB)(i j:Nat)(h:i<=yA a):(flat (a.drop i))[j]?=(flat a)[i*3+j]?:=by
 have b:yA (flat (a.take i))=i*3:=by rw[tE,Hb];omega
 rw[OL a i,Uc (by omega),b];congr 1;omega
def iQ(a:List jB)(i j:Nat)(h:i<=yA a)(b:j<i*3):(flat (a.take i))[j]?=(flat a)[j]?:=by grind [flat,tE,OL]
def dM(a:List jB)(i:Nat)(f:jB):List jB:=a.take i++f::a.drop i
def sQ(a:List jB)(i:Nat)(f:jB)(h:i<=yA a):yA (dM a i f)=yA a+1:=by simp[dM];omega
def US(a:List jB)(i:Nat)(f:jB):flat (dM a i f)=flat (a.take i)++(flat [f]++flat (a.drop i)):=by grind [flat,dM]
def DL(w:eA)(a:Nat)(f:jB):Prop:=gB w a #[oA f.N,oA f.data,zA f.Y] 151
def DL.cells{w:eA}{a:Nat}{f:jB}(h:DL w a f):∀j u,(flat [f])[j]?=bA u->w.cell? (dB a j)=bA u:=λj u b=>by
 rw[gB.cell h,<-b];simp[flat]
def UT{w:eA}{g i n:Nat}{b:List jB}{f:jB}(p:yA b=n)(o:i<=n)(e:∀j u,j<i*3->(flat b)[j]?=bA u->w.cell? (dB g j)=bA u)(h:∀j u,(flat [f])[j]?=bA u->w.cell? (dB g (i*3+j))=bA u)
(k:∀j u,(flat (b.drop i))[j]?=bA u->w.cell? (dB g ((i+1)*3+j))=bA u):∀j u,(flat (dM b i f))[j]?=bA u->w.cell? (dB g j)=bA u:=by
 intro j u a;have c:yA (flat (b.take i))=i*3:=by rw[tE,Hb];omega
 have l:yA (flat [f])=3:=rfl;rw[US]at a;by_cases d:j<i*3
 .rw[Pe (by omega),iQ b i j (by omega) d]at a;exact e j u d a
 rw[Uc (by omega),c]at a;by_cases m:j-i*3<3
 .rw[Pe (by omega)]at a;have:=h _ _ a;rwa [show i*3+(j-i*3)=j by omega]at this
 rw[Uc (by omega),l]at a;have:=k _ _ a;rwa [show(i+1)*3+(j-i*3-3)=j by omega]at this
def YN(B g a i F:Nat)(d:List jB)(f:jB)(w:eA)(D:w.ownsRow B 151 3 (pA (pB g) (yA d) a) (yA d) (flat d))(p:DL w F f)(Q:F≠g)(h:i<yA d)(s:yA d+1<=a)(N:yA d<=1048576):
 Calls prog 234 #[pA (pB g) (yA d) a,zA i,pA (pB F) 1 1] w λe w'=>
  e=uA (pA (pB g) (yA d+1) a)/\w'.ownsRow B 151 3 (pA (pB g) (yA d+1) a) (yA d+1) (flat (dM d i f))/\bE (λk=>k=g) w w':=by
 obtain⟨K,hB,_,b,W,H,y,I⟩:=oR D;obtain⟨m,M,Y,R,Z⟩:=nL;obtain⟨n,T⟩:∃n,yA d=n:=⟨_,rfl⟩
 rw[T]at h s N W |-
 have l:(prog.info? 151).map (·.size)=bA 3:=by rw[M];simp[R]
 have t:∀w,(Go.sizeOf 151).run prog w=.ok 3 w:=λw=>by simp[sizeOf,typeInfo,M,R]
 have c:∀j,j<a*3->(w.cell? (dB g j)).isSome=dA:=λj h=>by obtain⟨v,p⟩:=b.there (j:=j) (by omega);rw[p];rfl
 have X:∀m U,(callFunc 276 #[pA (pB F) 1 1,.slice (bA (dB g ((i+1)*3))) m U]).run prog w=.ok (.value (qA cA)) w:=λm U=>by
  rw[run_callFunc_extern func276 (by kernel_rfl) (by kernel_rfl) (by kernel_rfl) (e:=Extern.SlicesOverlaps.overlaps #[33,33] #[4]) (by kernel_rfl),
   Lib.run_overlaps_apart w 33 4 151 underlying33 3 t (dB F 0) (dB g ((i+1)*3)) 1 1 m U Q 151 151 3 K.size (by unfold DL gB at p;simp[eA.shape?,p]) (by unfold gB at b;simp[eA.shape?,b]) (by omega) (gB.free p _) (gB.free p _)]
  rfl
 obtain⟨z,r⟩:∃z,z=flat (d.drop i):=⟨_,rfl⟩
 have C:yA z=(n-i)*3:=by rw[r,tE,Rc,T]
 have A:∀J G m,(Builtin.copy_ #[33,33] J #[.slice (bA (dB g ((i+1)*3))) (n-i) G,.slice (bA (dB g (i*3))) (n+1-i) m]).run prog w.drew=.ok (goInt ((n-i:Nat):Int)) (w.drew.setCells g ((i+1)*3) z):=λJ G m=>
  jQ w.drew _ _ J 151 g ((i+1)*3) (n-i) G (dB g (i*3)) (n+1-i) m (n-i) 3 z underlying33 l (by simp only[Nat.min_def];split<;>omega) C
   (λj v h=>by rw[Addr.add_lit];exact I _ v (by rwa [r,nU d i j (by omega)]at h))
   (λj h=>c _ (by omega)) (λj h=>b.free _) (by rw[r];exact pG _)
 obtain⟨q,m⟩:∃q,q=w.drew.setCells g ((i+1)*3) z:=⟨_,rfl⟩
 obtain⟨o,o,x⟩:=gB.setCells z ((i+1)*3) (show gB w.drew g K 151 from b);rw[<-m]at o A;have P:DL q F f:=by rw[m];exact gB.keeps (S:=λk=>k=g) p (bE.setCells (S:=λk=>k=g) rfl _ _ (bE.refl _ _).drew) Q
 have L:∀J G,(Builtin.copy_ #[33,33] J #[.slice (bA (dB g (i*3))) (n+1-i) G,pA (pB F) 1 1]).run prog q=.ok (goInt 1) (q.setCells g (i*3) (flat [f])):=λJ G=>
  jQ q _ _ J 151 g (i*3) (n+1-i) G (dB F 0) 1 1 1 3 (flat [f]) underlying33 l (by simp only[Nat.min_def];split<;>omega) rfl
   (λj v h=>by rw[Addr.add_lit,Ya];exact P.cells j v h)
   (λj h=>by obtain⟨v,p⟩:=o.there (j:=i*3+j) (by rw[x,y];simp[flat]at h;omega);rw[p];rfl) (λj h=>o.free _) (pG _)
 obtain⟨G,V,O⟩:=gB.setCells (flat [f]) (i*3) o;have J:bB (bE (λk=>k=g) w (q.setCells g (i*3) (flat [f]))):=by
  show bE _ _ _;rw[m];exact bE.setCells (S:=λk=>k=g) rfl _ _ (bE.setCells (S:=λk=>k=g) rfl _ _ (bE.refl _ _).drew)
 have U:bB ((q.setCells g (i*3) (flat [f])).ownsRow B 151 3 (pA (pB g) (n+1) a) (n+1) (flat (dM d i f))):=by
  refine sR hB V s H (by rw[O,x,y]) (by rw[tE,sQ _ _ _ (by omega),T]) (UT T (by omega) ?_ ?_ ?_);intro j u h E;rw[eA.cell?_setCells_out g (flat [f]) (i*3) q _ (λ_ _=>Ca h),m,eA.cell?_setCells_out g z ((i+1)*3) _ _ (λ_ _=>Ca (by show j<_;omega))];exact I j u E;intro j u E;have h:=(Pb.1 E).1;rw[eA.cell?_setCells_in g (flat [f]) (i*3) q (λk G=>by obtain⟨v,p⟩:=o.there (j:=i*3+k) (by rw[x,y];simp[flat]at G;omega);rw[p];rfl) j h,<-E,Va];intro j u E;rw[<-r]at E;have h:=(Pb.1 E).1;rw[eA.cell?_setCells_out g (flat [f]) (i*3) q _ (λ_ _=>La (by simp[flat];omega)),m,
   eA.cell?_setCells_in g z ((i+1)*3) w.drew (λk G=>c _ (by omega)) j h,<-E,Va]
 have Z:¬((i:Int)=(n:Int)):=by omega
 have h:¬((a:Int)<(n:Int)+1):=by omega
 have h:IntKind.i64.wrap ((i:Int)+1)=(i:Int)+1:=by rw[IntKind.wrap_i64];omega
 have h:(0:Int)<=(i:Int)+1:=by omega
 have h:i<=n:=by omega
 have h:((i:Int)+1).toNat=i+1:=by omega
 have h:¬(a=i+1):=by omega
 have h:(i:Int)+1<=(n:Int)+1:=by omega
 have h:¬(a=i):=by omega
 have h:(i:Int)<=(n:Int)+1:=by omega
 have h:((n:Int)+1).toNat=n+1:=by omega
 have h:(a:Int)<=9223372036854775807:=by unfold maxLen at H;omega
 clear D b o I c p P y x O r C m Y t l H;go_enter func234,ntmps234;go_wp2_with(simp only[X]);go_region_law (refine step_copy_runI rfl _ _ 33 33 rfl _ _ (by simp[Act.eval,Act.put]) (by simp[Act.eval,Act.put]) (A _ _ _) ?_)
 go_wp2_with(at_builtin;refine wpList_copy_runI _ rfl _ _ 33 33 rfl _ _ rfl rfl (L _ _) ?_);go_ret;exact⟨rfl,U.o,J.o⟩
section
open Go.Extern.Stop Go.Stop Go.Extern
def aDf(v:iA)(w:eA):(Extern.ReflectliteType.typeOf #[.iface 154 v]).run prog w=.ok (.iface 278 (tA #[sA (bA (dB 10 154))])) w:=by kernel_rfl
def YO(w : World) : ((Extern.ReflectliteType.method fun t => do Extern.Rtype.noPackHeld "Comparable" t; pure (.bool (<- typeInfo t).comparable)) #[.agg #[.pointer (some ⟨10, 154, none⟩)]]).run prog w = .ok (.bool true) w := by kernel_rfl
def MT(w:eA):(callFunc 374 #[tA #[sA (bA (dB 10 154))]]).run prog w=.ok (.value (qA dA)) w:=by
 rw [@run_callFunc_extern prog 374 _ (Extern.ReflectliteType.method fun t => do Extern.Rtype.noPackHeld "Comparable" t; pure (.bool (<- typeInfo t).comparable)) func374 (by kernel_rfl) (by kernel_rfl) (by kernel_rfl) (by kernel_rfl), YO]
 rfl
def lr(v:iA)(w:eA):(callFunc 133 #[.iface 154 v]).run prog w=.ok (.value (.iface 278 (tA #[sA (bA (dB 10 154))]))) w:=by
 rw[@run_callFunc_extern prog 133 _ Extern.ReflectliteType.typeOf func133 (by kernel_rfl) (by kernel_rfl) (by kernel_rfl) (by kernel_rfl),aDf];rfl
def CC(v : Value)(w : World) : (Go.method 549 278 v "Comparable").run prog w = .ok (374, v) w := by kernel_rfl
def aLa:(prog.info? 154).map (·.comparable)=bA dA:=by kernel_rfl
def aOh(v:iA)(a:jA)(w:eA):(Instr.typeAssert (.iface 154 v) a 280 dA).run prog w=.ok (xA #[.nilIface,qA cA]) w:=run_typeAssert_lacksB underlying280 (by kernel_rfl) (by kernel_rfl) v a w
def aEe(v:iA)(a:jA)(w:eA):(Instr.typeAssert (.iface 154 v) a 283 dA).run prog w=.ok (xA #[.nilIface,qA cA]) w:=run_typeAssert_lacksB underlying283 (by kernel_rfl) (by kernel_rfl) v a w
def za(v:iA)(a:jA)(w:eA):(Instr.typeAssert (.iface 154 v) a 284 dA).run prog w=.ok (xA #[.nilIface,qA cA]) w:=run_typeAssert_lacksB underlying284 (by kernel_rfl) (by kernel_rfl) v a w
def FQ{P:Program}(w:eA){t c:jA}{l:Array (String×jA)}(a b:nB)
(j:P.underlying t=bA (.interface l))(f:(P.info? c).map (·.comparable)=bA dA)(k:P.underlying c=bA .string):
 (binOp .eql t (.iface c (oA a)) (.iface c (oA b))).run P w=.ok (qA (a==b)) w:=by
 obtain⟨i,g,e⟩:=Wb.1 f;have h:∀d:Nat,(Op.equalIn (d+2) t (.iface c (oA a)) (.iface c (oA b))).run P w=.ok (a==b) w:=λd=>by
  simp[Op.equalIn,run_underlying j,run_underlying k,typeInfo,g,e]
 simp only[binOp];simp[Op.equal,Op.maxDepth,h 9998]
def nF(a b:nB)(r:Bool)(c:(a==b)=r)(w:eA):
 hI 72 #[.iface 154 (oA a),.iface 154 (oA b)] w (qA r):=by
 have j:=lr;have g:=MT;have h:=CC;have i:=aOh;have k:=aEe;have l:=za;have d:(binOp .eql 75 (.iface 154 (oA a)) (.iface 154 (oA b))).run prog w=.ok (qA r) w:=by
  rw[FQ w a b underlying75 aLa underlying154,c]
 clear c;cases r
 .go_enter func72,ntmps72;go_wp2;refine wp_loop_rounds 1 ?_;rw[rounds_succ];go_wp2;go_ret;exact⟨rfl,rfl⟩
 go_enter func72,ntmps72;go_wp2;refine wp_loop_rounds 1 ?_;rw[rounds_succ];go_wp2;go_ret;exact⟨rfl,rfl⟩
end
def aFk:nB:=⟨#[116,104,101,32,100,105,115,107,32,105,115,32,100,111,119,110]⟩
def ah:nB:=⟨#[116,104,101,32,111,112,101,114,97,116,105,111,110,32,102,97,105,108,101,100]⟩
def aFl:nB:=⟨#[116,104,101,32,100,105,115,107,32,105,115,32,102,117,108,108]⟩
def QZ:nB:=⟨#[116,104,101,32,102,105,108,101,32,105,115,32,109,105,115,115,105,110,103]⟩
def af:nB:=⟨#[116,104,101,32,102,105,108,101,32,101,120,105,115,116,115]⟩
def aMi:nB:=⟨#[116,104,101,32,111,112,101,114,97,116,105,111,110,32,105,115,32,105,109,112,114,111,112,101,114]⟩
def eH(a:Nat):iA:=match a with
 |0=>.nilIface
 |1=>.iface 154 (oA aFk)
 |2=>.iface 154 (oA ah)
 |3=>.iface 154 (oA aFl)
 |4=>.iface 154 (oA QZ)
 |5=>.iface 154 (oA af)
 |_=>.iface 154 (oA aMi)
theorem aGs(w:eA):hI 135 #[.nilIface] w (zA 0):=by
 go_enter func135,ntmps135;go_wp2;go_ret;exact⟨rfl,rfl⟩
theorem vh(w:eA):hI 135 #[.iface 154 (oA aFk)] w (zA 1):=by
 go_enter func135,ntmps135;go_wp2_with fail;refine hC (nF _ _ dA (by kernel_rfl) _) ?_;rintro a rfl;go_wp2;go_ret;exact⟨rfl,rfl⟩
theorem cn(w:eA):hI 135 #[.iface 154 (oA ah)] w (zA 2):=by
 go_enter func135,ntmps135;go_wp2_with fail;refine hC (nF _ _ cA (by kernel_rfl) _) ?_;rintro a rfl;go_wp2_with fail;refine hC (nF _ _ dA (by kernel_rfl) _) ?_;rintro a rfl;go_wp2;go_ret;exact⟨rfl,rfl⟩
theorem vi(w:eA):hI 135 #[.iface 154 (oA aFl)] w (zA 3):=by
 go_enter func135,ntmps135;go_wp2_with fail;refine hC (nF _ _ cA (by kernel_rfl) _) ?_;rintro a rfl;go_wp2_with fail;refine hC (nF _ _ cA (by kernel_rfl) _) ?_;rintro a rfl;go_wp2_with fail;refine hC (nF _ _ dA (by kernel_rfl) _) ?_;rintro a rfl;go_wp2;go_ret;exact⟨rfl,rfl⟩
theorem XM(w:eA):hI 135 #[.iface 154 (oA QZ)] w (zA 4):=by
 go_enter func135,ntmps135;go_wp2_with fail;refine hC (nF _ _ cA (by kernel_rfl) _) ?_;rintro a rfl;go_wp2_with fail;refine hC (nF _ _ cA (by kernel_rfl) _) ?_;rintro a rfl;go_wp2_with fail;refine hC (nF _ _ cA (by kernel_rfl) _) ?_;rintro a rfl;go_wp2_with fail;refine hC (nF _ _ dA (by kernel_rfl) _) ?_;rintro a rfl;go_wp2;go_ret;exact⟨rfl,rfl⟩
theorem cl(w:eA):hI 135 #[.iface 154 (oA af)] w (zA 5):=by
 go_enter func135,ntmps135;go_wp2_with fail;refine hC (nF _ _ cA (by kernel_rfl) _) ?_;rintro a rfl;go_wp2_with fail;refine hC (nF _ _ cA (by kernel_rfl) _) ?_;rintro a rfl;go_wp2_with fail;refine hC (nF _ _ cA (by kernel_rfl) _) ?_;rintro a rfl;go_wp2_with fail;refine hC (nF _ _ cA (by kernel_rfl) _) ?_;rintro a rfl;go_wp2_with fail;refine hC (nF _ _ dA (by kernel_rfl) _) ?_;rintro a rfl;go_wp2;go_ret;exact⟨rfl,rfl⟩
theorem aBt(w:eA):hI 135 #[.iface 154 (oA aMi)] w (zA 6):=by
 go_enter func135,ntmps135;go_wp2_with fail;refine hC (nF _ _ cA (by kernel_rfl) _) ?_;rintro a rfl;go_wp2_with fail;refine hC (nF _ _ cA (by kernel_rfl) _) ?_;rintro a rfl;go_wp2_with fail;refine hC (nF _ _ cA (by kernel_rfl) _) ?_;rintro a rfl;go_wp2_with fail;refine hC (nF _ _ cA (by kernel_rfl) _) ?_;rintro a rfl;go_wp2_with fail;refine hC (nF _ _ cA (by kernel_rfl) _) ?_;rintro a rfl;go_wp2;go_ret;exact⟨rfl,rfl⟩
def cq(a:Nat)(h:a<=6)(w:eA):hI 135 #[eH a] w (zA a):=by grind [eH,aGs,vh,cn,vi,XM,cl,aBt]
def bO{x a:Int}{b:Bool}(h:zB x 0 a=b)(w:eA):hI 64 #[zA x,zA a] w (qA b):=h ▸ tF x a w
def qK{a:jC}{d:Nat}{c:List jB}{b:Bool}(h:(decide (yA c<=1000) &&bI c)=b)(w:eA)(g:rB w a c)(i:eP c)(f:yA c<=maxLen):
 vE 65 #[pA a (yA c) d] w (qA b):=h ▸ OC a d c w g i f
def sE(a:List jB)(c k b d:Int):Bool:=
 (decide (yA a<=1000) &&bI a) &&zB c 0 1000000000&&decide ((qC a:Int)<=c) &&zB k 0 1000000000000000&&zB b 0 1000000000000000&&zB d 0 1000000000000000
def TJ(w:eA)(a b c d e f:iA)(t:jA):let W:=w.alloc (vA #[a,b,c,d,e,f] t)
 W.cell? (dB w.1.size 0)=bA a/\W.cell? (dB w.1.size 1)=bA b/\W.cell? (dB w.1.size 2)=bA c/\
 W.cell? (dB w.1.size 3)=bA d/\W.cell? (dB w.1.size 4)=bA e/\W.cell? (dB w.1.size 5)=bA f:=by
 simp[go_sem]
def oU(a:jC)(m:Nat)(b:List jB)(c k j l:Int)(H:Bool)(w:eA)(L:rB w a b)(M:eP b)(y:yA b<=maxLen)(f:qC b<=1000000000):
 vE 16 #[tA #[pA a (yA b) m,zA c,zA k,zA j,zA l,qA H]] w (qA (sE b c k j l)):=by
 obtain⟨N,O,P,Q,R,U⟩:=TJ w (pA a (yA b) m) (zA c) (zA k) (zA j) (zA l) (qA H) 35;have W:=iC.cells N;have X:=iC.cells O;have Y:=iC.cells P;have Z:=iC.cells Q;have e:=iC.cells R;have u:tB w (w.alloc (vA #[pA a (yA b) m,zA c,zA k,zA j,zA l,qA H] 35)):=bD.alloc (Ia _) _;have T:=iC.there (w.alloc (vA #[pA a (yA b) m,zA c,zA k,zA j,zA l,qA H] 35));have d:bB (∀x:iC (w.alloc (vA #[pA a (yA b) m,zA c,zA k,zA j,zA l,qA H] 35)),rB x.w' a b):=λx=>(L.z u).z x.h;have D:bB (∀x:iC (w.alloc (vA #[pA a (yA b) m,zA c,zA k,zA j,zA l,qA H] 35)),tB w x.w'):=λx=>u.trans (x.h.mono u.size);have G:bB (eP b):=M;have n:bB _:=y;clear N O P Q R U u L M y;by_cases o:(decide (yA b<=1000) &&bI b)=cA
 .have E:bB (sE b c k j l=cA):=by show _=_;simp only[sE,o,Be]
  have z:bB _:=o;clear o;go_enter func16,ntmps16;go_wp2_with fail;refine wB (by kernel_rfl) (by kernel_rfl) ?_;repeat (go_big_quiet_step (first|(go_at_call 65;exact mC (qK z.o _ (d.o _) G.o n.o))|(go_at_call 66;exact mC (wJ _ _ _ _ (d.o _) n.o f))|(go_at_call 64;apply wC;apply bO;first|exact i.o|exact A.o|exact B.o|exact F.o)))
  refine wpQuiet_nil ?_;rintro _ ⟨x,rfl⟩;go_wp2;go_ret;exact⟨oB E.o.symm,D.o x⟩
 have t:(decide (yA b<=1000) &&bI b)=dA:=by simpa using o
 have z:bB _:=t;clear o;by_cases p:zB c 0 1000000000=cA
 .have E:bB (sE b c k j l=cA):=by show _=_;simp only[sE,p,t,Be,Oc]
  have i:bB _:=p;clear p t;go_enter func16,ntmps16;go_wp2_with fail;refine wB (by kernel_rfl) (by kernel_rfl) ?_;repeat (go_big_quiet_step (first|(go_at_call 65;exact mC (qK z.o _ (d.o _) G.o n.o))|(go_at_call 66;exact mC (wJ _ _ _ _ (d.o _) n.o f))|(go_at_call 64;apply wC;apply bO;first|exact i.o|exact A.o|exact B.o|exact F.o)))
  refine wpQuiet_nil ?_;rintro _ ⟨x,rfl⟩;go_wp2;go_ret;exact⟨oB E.o.symm,D.o x⟩
 have v:zB c 0 1000000000=dA:=by simpa using p
 have i:bB _:=v;clear p;by_cases q:decide ((qC b:Int)<=c)=cA
 .have E:bB (sE b c k j l=cA):=by show _=_;simp only[sE,q,t,v,Be,Oc]
  have S:=q;clear q t v;go_enter func16,ntmps16;go_wp2_with fail;refine wB (by kernel_rfl) (by kernel_rfl) ?_;repeat (go_big_quiet_step (first|(go_at_call 65;exact mC (qK z.o _ (d.o _) G.o n.o))|(go_at_call 66;exact mC (wJ _ _ _ _ (d.o _) n.o f))|(go_at_call 64;apply wC;apply bO;first|exact i.o|exact A.o|exact B.o|exact F.o)))
  refine wpQuiet_nil ?_;rintro _ ⟨x,rfl⟩;go_wp2;go_ret;exact⟨oB E.o.symm,D.o x⟩
 have C:decide ((qC b:Int)<=c)=dA:=by simpa using q
 have e:(qC b:Int)<=c:=by simpa using C
 clear q;by_cases r:zB k 0 1000000000000000=cA
 .have E:bB (sE b c k j l=cA):=by show _=_;simp only[sE,r,t,v,C,Be,Oc]
  have A:bB _:=r;clear r t v C;go_enter func16,ntmps16;go_wp2_with fail;refine wB (by kernel_rfl) (by kernel_rfl) ?_;repeat (go_big_quiet_step (first|(go_at_call 65;exact mC (qK z.o _ (d.o _) G.o n.o))|(go_at_call 66;exact mC (wJ _ _ _ _ (d.o _) n.o f))|(go_at_call 64;apply wC;apply bO;first|exact i.o|exact A.o|exact B.o|exact F.o)))
  refine wpQuiet_nil ?_;rintro _ ⟨x,rfl⟩;go_wp2;go_ret;exact⟨oB E.o.symm,D.o x⟩
 have I:zB k 0 1000000000000000=dA:=by simpa using r
 have A:bB _:=I;clear r;by_cases s:zB j 0 1000000000000000=cA
 .have E:bB (sE b c k j l=cA):=by show _=_;simp only[sE,s,t,v,C,I,Be,Oc]
  have B:bB _:=s;clear s t v C I;go_enter func16,ntmps16;go_wp2_with fail;refine wB (by kernel_rfl) (by kernel_rfl) ?_;repeat (go_big_quiet_step (first|(go_at_call 65;exact mC (qK z.o _ (d.o _) G.o n.o))|(go_at_call 66;exact mC (wJ _ _ _ _ (d.o _) n.o f))|(go_at_call 64;apply wC;apply bO;first|exact i.o|exact A.o|exact B.o|exact F.o)))
  refine wpQuiet_nil ?_;rintro _ ⟨x,rfl⟩;go_wp2;go_ret;exact⟨oB E.o.symm,D.o x⟩
 have K:zB j 0 1000000000000000=dA:=by simpa using s
 have B:bB _:=K;clear s;have E:bB (sE b c k j l=zB l 0 1000000000000000):=by show _=_;simp only[sE,t,v,C,I,K,Oc]
 clear t v C I K;obtain⟨g,J⟩:∃g,zB l 0 1000000000000000=g:=⟨_,rfl⟩
 rw[J]at E;have F:bB _:=J;clear J;go_enter func16,ntmps16;go_wp2_with fail;refine wB (by kernel_rfl) (by kernel_rfl) ?_;repeat (go_big_quiet_step (first|(go_at_call 65;exact mC (qK z.o _ (d.o _) G.o n.o))|(go_at_call 66;exact mC (wJ _ _ _ _ (d.o _) n.o f))|(go_at_call 64;apply wC;apply bO;first|exact i.o|exact A.o|exact B.o|exact F.o)))
 refine wpQuiet_nil ?_;rintro _ ⟨x,rfl⟩;go_wp2;go_ret;exact⟨oB E.o.symm,D.o x⟩
def uk(w:eA)(a:jC)(c:List (List nB)):Prop:=
 c=[]\/∃b o,a=bA (dB b o)/\b<w.1.size/\∀i(h:i<yA c),∃d e,w.cell? (dB b (o+i))=bA (.slice d (yA c[i]) e)/\eS w d c[i]
def uk.z{w e:eA}{a:jC}{f:List (List nB)}(h:uk w a f)(d:tB w e):uk e a f:=by
 obtain h|⟨b,o,rfl,c,h⟩:=h;exact Ca h;refine La ⟨b,o,rfl,Bb c d.size,λi m=>?_⟩;obtain⟨g,j,k,l⟩:=h i m;exact⟨g,j,(d.cell c).trans k,l.z d⟩
def uk.at{w:eA}{a:jC}{d:List (List nB)}(h:uk w a d){i:Nat}(g:i<yA d):
 ∃b o c e,a=bA (dB b o)/\b<w.1.size/\w.cell? (dB b (o+i))=bA (.slice c (yA d[i]) e)/\eS w c d[i]:=by
 obtain rfl|⟨b,o,rfl,f,h⟩:=h;exact absurd g (by simp);obtain ⟨c,e,j,k⟩:=h i g;exact⟨b,o,c,e,rfl,f,j,k⟩
def nZ(w:eA)(B:Nat)(T:Nat->Nat)(n:Nat)(a:jC)(l:List nB):Prop:=
 l=[]\/∃g o b t,a=bA (dB g o)/\B<=g/\T g=n/\w.heap[g]?=bA (vA b t (0,0))/\∀i(h:i<yA l),w.cell? (dB g (o+i))=bA (oA l[i])
def nZ.own{w:eA}{B n:Nat}{T:Nat->Nat}{a:jC}{l:List nB}(h:nZ w B T n a l):oT w B a l:=by
 obtain h|⟨g,o,b,t,e,c,_,d,h⟩:=h;exact Ca h;exact La ⟨g,o,b,t,e,c,d,h⟩
def nZ.strs{w:eA}{B n:Nat}{T:Nat->Nat}{a:jC}{l:List nB}(h:nZ w B T n a l):eS w a l:=h.own.strs
def oT.tag{w:eA}{B n:Nat}{T:Nat->Nat}{a:jC}{l:List nB}(h:oT w B a l)(d:∀g o,a=bA (dB g o)->T g=n):nZ w B T n a l:=by
 obtain h|⟨g,o,b,t,e,c,f,h⟩:=h;exact Ca h;exact La ⟨g,o,b,t,e,c,d g o e,f,h⟩
def SZ(w:eA)(B:Nat)(a:jC)(b:List (List nB)):Prop:=
 b=[]\/∃g o c t T,a=bA (dB g o)/\B<=g/\w.heap[g]?=bA (vA c t (0,0))/\T g=0/\∀i(h:i<yA b),∃d e,w.cell? (dB g (o+i))=bA (.slice d (yA b[i]) e)/\nZ w B T (i+1) d b[i]
def SZ.ss{w:eA}{B:Nat}{a:jC}{b:List (List nB)}(h:SZ w B a b):uk w a b:=by
 obtain h|⟨g,o,e,t,T,rfl,_,k,_,h⟩:=h;exact Ca h;refine La ⟨g,o,rfl,aB k,λi l=>?_⟩;obtain⟨c,d,f,j⟩:=h i l;exact⟨c,d,f,j.strs⟩
def hO(w:eA)(B:Nat)(T:Nat->Nat)(c:Array iA)(a:List (List nB)):Prop:=
 c.size=yA a/\∀i(h:i<yA a),∃v,c[i]?=bA v/\w.ownsRow B 9 1 v (yA a[i]) (a[i].map iA.string)/\∀g,v.ownBlock=bA g->T g=i+1
def hO.own{w:eA}{B g:Nat}{T:Nat->Nat}{c:Array iA}{t:jA}{k:List (List nB)}(h:hO w B T c k)(m:gB w g c t)(q:B<=g)(r:T g=0):SZ w B (pB g) k:=by
 refine La ⟨g,0,c,t,T,rfl,q,m,r,λi s=>?_⟩;obtain⟨v,o,j,p⟩:=h.2 i s;obtain⟨b,d,rfl⟩:∃b d,v=.slice b (yA k[i]) d:=by
  obtain⟨e,l⟩|⟨g,cap,f,e,_⟩:=j.2;exact ⟨none,0,by rw[e,l]⟩;exact ⟨_,_,e⟩
 refine⟨b,d,by rw[Ya,m.cell];exact o,(LB j).tag λn x e=>p n ?_⟩;obtain⟨a,l⟩|⟨u,cap,f,a,_⟩:=j.2
 .rw[e]at a;cases a
 rw[e]at a;cases a;rw[e];rfl
def hO.at{w:eA}{B:Nat}{T:Nat->Nat}{c:Array iA}{a:List (List nB)}(h:hO w B T c a){i:Nat}(b:i<yA a):
 ∃v,c[i]?=bA v/\w.ownsRow B 9 1 v (yA a[i]) (a[i].map iA.string)/\∀g,v.ownBlock=bA g->T g=i+1:=h.2 i b
def hO.snoc{w w4:eA}{B H i f l:Nat}{T:Nat->Nat}{c:Array iA}{a:List (List nB)}{v:iA}{k:nB}(h:hO w B T c a)(C:i<yA a)(A:∀g,v.ownBlock=bA g->T g=i+1)
(E:eB (λk=>v.ownBlock=bA k) w w4)(F:w.1.size<=H)(o:v.ownBlock=bA f\/f=H)(n:w4.ownsRow B 9 1 (pA (pB f) (yA a[i]+1) l) (yA a[i]+1) (a[i].map iA.string++[oA k])):
 hO w4 B (λb=>if b=f then i+1 else T b) (c.setIfInBounds i (pA (pB f) (yA a[i]+1) l)) (a.set i (a[i]++[k])):=by
 have p:i<c.size:=by rw[h.1];exact C
 refine⟨by simp[h.1],λj D=>?_⟩;have s:j<yA a:=by simpa using D
 by_cases e:i=j
 .subst e;refine⟨_,Ff p,?_,λg d=>?_⟩
  .simpa using n
  simp only[iA.ownBlock,Qa]at d;simp only[Ma d.symm]
 obtain ⟨u,z,t,x⟩:=h.2 j s;have m:∀g,u.ownBlock=bA g->¬v.ownBlock=bA g:=λg d q=>by
  have:=A g q;have:=x g d;omega
 refine⟨u,by rw[Ea e];exact z,?_,λg d=>?_⟩;have:=E.row t m;simpa[List.getElem_set,e]using this;have r:g≠f:=by
  intro y;subst y;obtain h|h:=o;exact m g d h;have:=(t.lt g d).2;omega
 simp only[Ja r];exact x g d
def hO.base{w:eA}{B e:Nat}{T:Nat->Nat}{c:Array iA}{f:List (List nB)}(h:hO w B T c f)(n:e<=B):hO w e T c f:=by
 refine⟨h.1,λi o=>?_⟩;obtain⟨v,l,⟨p,d⟩,m⟩:=h.2 i o;refine⟨v,l,⟨p,?_⟩,m⟩;obtain d|⟨g,a,b,j,k,r⟩:=d;exact Ca d;exact La ⟨g,a,b,j,Ua n k,r⟩
def hO.turn{S:Nat->Prop}{w e:eA}{B:Nat}{T:Nat->Nat}{c:Array iA}{f:List (List nB)}(h:hO w B T c f)(m:eB S w e)(k:∀g,g<w.1.size->B<=g->T g≠0->¬S g):hO e B T c f:=by
 refine⟨h.1,λi l=>?_⟩;obtain⟨v,j,a,d⟩:=h.2 i l;exact⟨v,j,m.row a (λg b=>k g (a.lt g b).2 (a.lt g b).1 (by have:=d g b;omega)),d⟩
