import Derived.Test.YtcmdjimlmnaojaaGreatDoorJ07
import Derived.Deep.RegionHeld3
import Derived.Shelf.Spec.SlicesInsert
import Derived.Stop.Asserts
set_option maxRecDepth 100000
set_option maxHeartbeats 4000000
set_option linter.defProp false
open Bool renaming false->dA,true->eA
open ByteArray renaming empty->lA
open Option renaming some->cA
open List renaming length->zA
namespace Go.Proofs.YtcmdjimlmnaojaaGreatDoor
open Go renaming Value->jA,World->fA,TypeId->kA
open Value renaming slice->qA,bool->sA,tuple->yA,agg->uA,string->pA,pointer->tA
open Ending renaming returned->vA
open Obj renaming cells->xA
open Go.RowKit Tryz
def FE(r:Rd):cC×Rd:=(⟨(tG 1 r).1,(tG 2 (tG 1 r).2).1⟩,(tG 2 (tG 1 r).2).2)
def mV(r:Rd):Nat->List cC×Rd
 |0=>([],r)
 |k+1=>((mV r k).1++[(FE (mV r k).2).1],(FE (mV r k).2).2)
def XK(key:pB):Nat:=(kK 1 ⟨key,dA⟩).1
def lH(key:pB):List cC×Rd:=mV (kK 1 ⟨key,dA⟩).2 (XK key)
def nR(r:Rd):Bool:=!r.H&&(r.rest.toList==ByteArray.empty.toList)
def wG(key:pB):List cC×Bool:=if (nR (lH key).2&&jO (lH key).1)=eA then((lH key).1,eA) else([],dA)
theorem rv(r:Rd):FE r=(⟨(tG 1 r).1,(tG 2 (tG 1 r).2).1⟩,(tG 2 (tG 1 r).2).2):=by rw[FE]
theorem FQ(r:Rd)(k:Nat):mV r (k+1)=((mV r k).1++[(FE (mV r k).2).1],(FE (mV r k).2).2):=by rw[mV]
def CU(r:Rd):∀k,zA (mV r k).1=k
 |0=>rfl
 |k+1=>by rw[mV];simp[CU r k]
def ya{r:Rd}(h:(FE r).2.H=dA):r.H=dA/\r.rest=gN (FE r).1.N++dG (FE r).1.V++(FE r).2.rest:=by
 obtain⟨c,d⟩:=RO (k:=2) (r:=(tG 1 r).2) h;obtain⟨a,b⟩:=RO (k:=1) (r:=r) c;refine⟨a,?_⟩;rw[b,d];apply LL;simp[FE,gN,dG]
def aDj{r:Rd}{l:cC}{q:pB}(h:r.rest=gN l.N++dG l.V++q)(c:l.N.size<256)(d:l.V.size<65536):FE r=(l,⟨q,r.H⟩):=by
 have e:r.rest=tB 1 (l.N.size:Nat)++(l.N++(dG l.V++q)):=by
  rw[h];apply LL;simp[gN]
 have a:=JH e (by omega);have b:tG 2 (tG 1 r).2=(l.V,⟨q,r.H⟩):=by
  rw[a];exact JH (r:=⟨dG l.V++q,r.H⟩) (by show dG l.V++q=_;apply LL;simp[dG]) (by omega)
 rw[FE,b,a]
def aEp{r:Rd}(k:Nat):(mV r k).2.H=dA->r.H=dA/\r.rest=nD (mV r k).1++(mV r k).2.rest:=by
 induction k with
 |zero=>
  intro h;refine⟨h,?_⟩;show r.rest=lA++r.rest;apply LL;simp
 |succ k f=>
  intro h;rw[FQ]at h |-
  simp only at h |-
  obtain⟨d,e⟩:=ya h;obtain⟨b,c⟩:=f d;refine⟨b,?_⟩;generalize mV r k=R at *;generalize FE R.2=L at *;rw[c,e,xM];have a:nD [L.1]=gN L.1.N++dG L.1.V:=by
   show gN L.1.N++dG L.1.V++lA=_;apply LL;simp
  rw[a];apply LL;simp
def aAy(a:List cC):Prop:=∀i(h:i<zA a),a[i].N.size<256/\a[i].V.size<65536
def ZF{r:Rd}{a:List cC}{q:pB}(h:r.rest=nD a++q)(b:aAy a):∀k,k<=zA a->mV r k=(a.take k,⟨nD (a.drop k)++q,r.H⟩)
 |0,_=>by
  cases r
  simp only at h;simp[mV,h]
 |k+1,f=>by
  have d:=ZF h b k (by omega);have e:nD (a.drop k)++q=gN a[k].N++dG a[k].V++(nD (a.drop (k+1))++q):=by
   rw[Cb (by omega)];apply LL;simp[nD]
  have c:=aDj (r:=⟨nD (a.drop k)++q,r.H⟩) e (b k (by omega)).1 (b k (by omega)).2;rw[FQ,d,c,Pa (by omega)]
def QR(s:pB):∀(b p:Nat)(l:List Nat),s.size<=p+b->zJ s b p=cA l->s.size<=p+4*zA l
 |0,p,l,c,_=>by omega
 |b+1,p,l,c,h=>by
  rw[zJ]at h;split at h
  .split at h
   .exact absurd h (by simp)
   obtain ⟨d,a,rfl⟩:=Wb.1 h;have e:=fW s p;have f:=(oY s p).2;have:=QR s b _ d (by omega) a;simp;omega
  omega
def aFn{s:pB}(h:fP s=0):s.size<=512:=by
 unfold fP at h;split at h;exact absurd h (by simp)
 rename_i l a;unfold SA at h;split at h
 .exact absurd h (by simp)
 have:=QR s s.size 0 l (by omega) a;omega
def AU:∀(b:List cC)(j:Nat),fD b j=none->∀i(h:i<zA b),xQ b[i]=0
 |[],_,_,i,h=>absurd h (by simp)
 |l::r,j,a,i,h=>by
  rw[fD]at a;split at a
  .rename_i c;cases i with
   |zero=>exact c
   |succ i=>exact AU r _ a i (by simpa using h)
  exact absurd a (by simp)
def JZ:∀(l:List cC)(j c i:Nat),fD l j=cA (c,i)->c≠0
 |[],_,_,_,h=>by simp[fD]at h
 |x::r,j,c,i,h=>by
  rw[fD]at h;split at h;exact JZ r _ _ _ h
  rename_i a;simp only[Qa,Dc]at h;rw[<-h.1];exact a
def pZ{a:List cC}(h:jO a=eA):aAy a:=by
 have k:=aBk h;have j:=NH h;have f:(wB a).2.1=0:=by rw[k]
 have b:fD a 0=none:=by
  cases b:fD a 0 with
  |none=>rfl
  |some g=>
   obtain⟨c,i⟩:=g;rw[qZ (by omega) b]at f;exact absurd f (JZ a 0 c i b)
 intro i l;have d:=AU a 0 b i l;unfold xQ at d;split at d
 .rename_i m;have e:YU a[i].N:=by simpa[PN]using m
  have:=aFn d;exact⟨by have:=e.2.1;omega,by omega⟩
 exact absurd d (by simp)
theorem da{a:List cC}(h:jO a=eA):wG (aI a)=(a,eA):=by
 have c:=NH h;have i:=pZ h;have b:aG 1 ⟨aI a,dA⟩=(tB 1 (zA a:Nat),⟨nD a,dA⟩):=AI rfl (nB 1 _);have f:XK (aI a)=zA a:=by
  show vX (aG 1 ⟨aI a,dA⟩).1.data.toList=_;rw[b];exact pT 1 (zA a) (by omega)
 have g:(kK 1 ⟨aI a,dA⟩).2=⟨nD a,dA⟩:=by
  show(aG 1 ⟨aI a,dA⟩).2=_;rw[b]
 have d:lH (aI a)=(a,⟨lA,dA⟩):=by
  unfold lH;rw[f,g];have e:=ZF (r:=⟨nD a,dA⟩) (q:=lA) (by apply LL;simp) i (zA a) (Ia _);rw[e,Rb,Kg];simp[nD]
 unfold wG;rw[d];simp only;rw[Ma (by simp[nR,h])]
theorem XR{key:pB}(h:(wG key).2=eA):jO (wG key).1=eA/\aI (wG key).1=key:=by
 unfold wG at h |-
 split at h
 .rename_i hw;rw[Ma hw];rw[Sa]at hw;refine⟨hw.2,?_⟩;have a:=hw.1;unfold nR at a;rw[Sa]at a;have d:(lH key).2.H=dA:=by simpa using a.1
  have c:(lH key).2.rest=lA:=toList_inj (by simpa using a.2);obtain⟨g,i⟩:=aEp (r:=(kK 1 ⟨key,dA⟩).2) (XK key) d;obtain⟨m,k,l⟩:=DF (n:=1) (r:=⟨key,dA⟩) g;have j:zA (lH key).1=XK key:=CU _ _;have e:tB 1 (zA (lH key).1:Nat)=(aG 1 ⟨key,dA⟩).1:=by
   rw[j];have:=so (aG 1 ⟨key,dA⟩).1.data.toList 1 (by rw[<-pR];exact k);show tB 1 (vX (aG 1 ⟨key,dA⟩).1.data.toList:Nat)=_;rw[this]
  show tB 1 (zA (lH key).1:Nat)++nD (lH key).1=key;have b:(aG 1 ⟨key,dA⟩).2.rest=nD (lH key).1++(lH key).2.rest:=i;have f:key=(aG 1 ⟨key,dA⟩).1++(aG 1 ⟨key,dA⟩).2.rest:=l;rw[e];conv=>rhs;rw[f,b,c]
  apply LL;simp
 exact absurd h (by simp)
theorem MG{key:pB}(h:(wG key).2=dA):wG key=([],dA)/\∀a,jO a=eA->aI a≠key:=by grind [wG,jO,aI,da]
theorem aEo(r:Rd)(k:Nat):(mV r k).2.rest.size<=r.rest.size/\∀i(h:i<zA (mV r k).1),(mV r k).1[i].N.size<=r.rest.size/\(mV r k).1[i].V.size<=r.rest.size:=by induction k<;>grind [mV,tG,ua,FQ,rv]
def zi(key:pB):∀i(h:i<zA (lH key).1),(lH key).1[i].N.size<=key.size/\(lH key).1[i].V.size<=key.size:=by grind [lH,kK,XK,aEo,AJ]
structure qI where
 b:Nat
 t:Int
def oD(l:List qI)(i:Nat):qI:=l.getD i ⟨0,0⟩
def jH(l:List qI)(i j:Nat):List qI:=(l.set i (oD l j)).set j (oD l i)
def EU{l:List qI}{i:Nat}(h:i<zA l):oD l i=l[i]:=by simp[oD,List.getD,Va h]
def pD(l:List qI)(i j:Nat):zA (jH l i j)=zA l:=by simp[jH]
theorem cJ{l:List qI}{i j:Nat}(a:i<zA l)(b:j<zA l)(k:Nat):oD (jH l i j) k=if k=j then oD l i else if k=i then oD l j else oD l k:=by grind [oD,jH]
def DE{l:List qI}{i j:Nat}(a:i<zA l)(b:j<zA l):(jH l i j).Perm l:=by
 unfold jH;rw[EU a,EU b];exact List.set_set_perm a b
def uJ(l:List qI):Prop:=∀i,0<i->i<zA l->(oD l ((i-1) / 2)).t<=(oD l i).t
def xV(l:List qI)(k:Nat):Prop:=(∀i,0<i->i<zA l->i≠k->(oD l ((i-1) / 2)).t<=(oD l i).t)/\∀i,0<i->i<zA l->(i-1) / 2=k->0<k->(oD l ((k-1) / 2)).t<=(oD l i).t
def uJ.push{l:List qI}(h:uJ l)(x:qI):xV (l++[x]) (zA l):=by grind [uJ,xV,oD]
def xV.done{l:List qI}{k:Nat}(h:xV l k)(a:k=0\/(oD l ((k-1) / 2)).t<=(oD l k).t):uJ l:=by grind [xV,oD,uJ]
def xV.step{l:List qI}{k:Nat}(h:xV l k)(e:k<zA l)(p:0<k)(r:(oD l k).t<(oD l ((k-1) / 2)).t):xV (jH l k ((k-1) / 2)) ((k-1) / 2):=by
 have d:(k-1) / 2<zA l:=by omega
 have o:(k-1) / 2≠k:=by omega
 refine⟨λi a c j=>?_,λi a c n m=>?_⟩
 .rw[pD]at c;rw[cJ e d,cJ e d,Ja j];by_cases b:i=k
  .subst b;rw[Ma rfl,Ma rfl];omega
  rw[Ja b];by_cases f:(i-1) / 2=(k-1) / 2
  .rw[Ma f];have:=h.1 i a c b;rw[f]at this;omega
  rw[Ja f];by_cases g:(i-1) / 2=k
  .rw[Ma g];exact h.2 i a c g p
  rw[Ja g];exact h.1 i a c b
 rw[pD]at c;rw[cJ e d,cJ e d,Ja (by omega:((k-1) / 2-1) / 2≠(k-1) / 2),Ja (by omega:((k-1) / 2-1) / 2≠k),Ja (by omega:i≠(k-1) / 2)];have q:=h.1 ((k-1) / 2) m d o;by_cases b:i=k
 .rw[Ma b];exact q
 rw[Ja b];have:=h.1 i a c b;rw[n]at this;omega
def lR(l:List qI):Nat->List qI
 |0=>l
 |k+1=>if (oD l (k+1)).t<(oD l (k / 2)).t then lR (jH l (k+1) (k / 2)) (k / 2) else l
def KZ{l:List qI}{k:Nat}(a:0<k):lR l k=if (oD l k).t<(oD l ((k-1) / 2)).t then lR (jH l k ((k-1) / 2)) ((k-1) / 2) else l:=by
 obtain⟨j,rfl⟩:∃j,k=j+1:=⟨k-1,by omega⟩
 rw[lR,Nat.add_sub_cancel]
def LB(l:List qI):lR l 0=l:=by rw[lR]
def KY:∀(k:Nat)(l:List qI),k<zA l->xV l k->uJ (lR l k)/\(lR l k).Perm l/\zA (lR l k)=zA l
 |0,l,_,h=>by rw[LB];exact⟨h.done (Ca rfl),Lf _,rfl⟩
 |k+1,l,e,h=>by
  rw[KZ (by omega)];by_cases d:(oD l (k+1)).t<(oD l ((k+1-1) / 2)).t
  .rw[Ma d];obtain⟨a,b,c⟩:=KY ((k+1-1) / 2) (jH l (k+1) ((k+1-1) / 2)) (by rw[pD];omega) (h.step e (by omega) d);exact⟨a,b.trans (DE e (by omega)),c.trans (pD _ _ _)⟩
  rw[Ja d];exact⟨h.done (La (by omega)),Lf _,rfl⟩
def qR(l:List qI)(x:qI):List qI:=lR (l++[x]) (zA l)
def CT{l:List qI}(h:uJ l)(x:qI):uJ (qR l x)/\(qR l x).Perm (x::l)/\zA (qR l x)=zA l+1:=by
 obtain⟨a,b,c⟩:=KY (zA l) (l++[x]) (by simp) (h.push x);exact⟨a,b.trans (List.perm_append_singleton x l),by rw[qR,c];simp⟩
structure xD where
 fs:List iB
 c:Int
 k:Int
 cr:Int
 fl:Int
 dn:Bool
structure jG where
 first:Int
 last:Int
 size:Int
structure sC where
 d:xD
 l:jG
 now:Int
 ts:List gB
 lsn:Int
 deg:Bool
 up:Bool
def gC(a:nC)(e:Nat)(b:nC)(f:Nat)(N:sC):Array jA:=#[qA a (zA N.d.fs) e,aB N.d.c,aB N.d.k,aB N.d.cr,aB N.d.fl,sA N.d.dn,aB N.l.first,aB N.l.last,aB N.l.size,aB N.now,qA b (zA N.ts) f,aB N.lsn,sA N.deg,sA N.up]
def jB.n14{w:fA}{b:Nat}{a c d e f g i j k l m n o p:jA}{t:kA}(h:jB w b #[a,c,d,e,f,g,i,j,k,l,m,n,o,p] t):
 w.cell? (eB b 0)=cA a/\w.cell? (eB b 1)=cA c/\w.cell? (eB b 2)=cA d/\w.cell? (eB b 3)=cA e/\w.cell? (eB b 4)=cA f/\w.cell? (eB b 5)=cA g/\w.cell? (eB b 6)=cA i/\
 w.cell? (eB b 7)=cA j/\w.cell? (eB b 8)=cA k/\w.cell? (eB b 9)=cA l/\w.cell? (eB b 10)=cA m/\w.cell? (eB b 11)=cA n/\w.cell? (eB b 12)=cA o/\w.cell? (eB b 13)=cA p:=by
 refine⟨?_,?_,?_,?_,?_,?_,?_,?_,?_,?_,?_,?_,?_,?_⟩<;>(rw[jB.cell h];rfl)
def jB.frees{w:fA}{b:Nat}{cs:Array jA}{t:kA}(h:jB w b cs t):w.frozen? (eB b 0)=dA/\w.frozen? (eB b 1)=dA/\w.frozen? (eB b 2)=dA/\w.frozen? (eB b 3)=dA/\w.frozen? (eB b 4)=dA/\w.frozen? (eB b 5)=dA/\w.frozen? (eB b 6)=dA/\
 w.frozen? (eB b 7)=dA/\w.frozen? (eB b 8)=dA/\w.frozen? (eB b 9)=dA/\w.frozen? (eB b 10)=dA/\w.frozen? (eB b 11)=dA/\w.frozen? (eB b 12)=dA/\w.frozen? (eB b 13)=dA:=
 ⟨h.free 0,h.free 1,h.free 2,h.free 3,h.free 4,h.free 5,h.free 6,h.free 7,h.free 8,h.free 9,h.free 10,h.free 11,h.free 12,h.free 13⟩
def aGg{C:fA->Prop}{w:fA}{O:Nat}{r s u v x y i j l m n o p q a b c d e f:jA}{t:kA}(h:jB w O #[r,s,u,v,x,y,i,j,l,m,n,o,p,q] t)
(k:∀g,jB g O #[a,b,c,d,e,f,i,j,l,m,n,o,p,q] t->fB (·=O) w g->C g):C ((((((w.setCell (eB O 0) a).setCell (eB O 1) b).setCell (eB O 2) c).setCell (eB O 3) d).setCell (eB O 4) e).setCell (eB O 5) f):=
 k _ (by have:=((((((h.set 0 a).set 1 b).set 2 c).set 3 d).set 4 e).set 5 f);simpa using this) (((((((fB.refl (·=O) w).setCell (Ca rfl) 0 a).setCell (Ca rfl) 1 b).setCell (Ca rfl) 2 c).setCell (Ca rfl) 3 d).setCell (Ca rfl) 4 e).setCell (Ca rfl) 5 f)
def bL:sC:=⟨⟨[],0,0,0,0,dA⟩,⟨0,0,0⟩,0,[],0,dA,dA⟩
def bf(N:sC):Bool:=N.up&&!N.deg
def iy{c d a b:jA}(e:c=a)(f:d=b):Ending.returned (yA #[c,d])=vA (yA #[a,b]):=by rw[e,f]
def mE(t:pB):List iB->Nat->Int
 |[],_=>-1
 |f::r,i=>if (f.N.toList==t.toList)=eA then i else mE t r (i+1)
def sW(a:nC)(p:Nat)(f:List iB)(c y s v:Int)(u:Bool)(t:pB)(w:fA)(q:uB w a f)(j:zA f<=maxLen):
 cF 36 #[uA #[qA a (zA f) p,aB c,aB y,aB s,aB v,sA u],pA t] w (aB (mE t f 0)):=by
 unfold maxLen at j;have r:cB (uB w a f):=q;clear q;go_enter func36,ntmps36;go_wp2;go_loopw [5,6,10] (λ_ _ i wr=>∃k:Nat,k<=zA f/\i=aB k/\mE t f 0=mE t (f.drop k) k/\xB w wr) (λ_ _ i _=>zA f-(intOf i).toNat)
 case atStart=>exact⟨0,Oa _,rfl,rfl,bC⟩
 case round=>
  obtain⟨k,F,rfl,h,d⟩:=hrel;have g:cB _:=h;clear h;by_cases l:k<zA f
  .obtain ⟨b,o,rfl,D,A,B,C⟩:=(r.o.z d).at l;have m:=Cb l;by_cases n:(f[k].N.toList==t.toList)=eA
   .have E:cB (mE t f 0=k):=by show _=_;rw[g.o,m,mE,Ma n]
    clear m;go_wp2;go_ret;exact⟨uF E.o.symm,d.alloc d.size _⟩
   have x:(f[k].N.toList==t.toList)=dA:=by simpa using n
   have E:cB (mE t f 0=mE t (f.drop (k+1)) (k+1)):=by show _=_;rw[g.o,m,mE,Ja n]
   clear m n;go_wp2;exact⟨⟨k+1,by omega,by go_num,E.o,d.alloc d.size _⟩,by simp[intOf];omega⟩
  go_wp2;go_ret;have e:f.drop k=[]:=Ie (by omega);exact⟨uF (by rw[g.o,e];rfl),d⟩
def lT(a:List iB):Prop:=∀i j(b:i<j)(c:j<zA a),Op.bytesLess a[i].N.toList a[j].N.toList=eA
def yz{a:List iB}{j:Nat}(h:mT a (j+1)=eA)(b:j+1<zA a):Op.bytesLess a[j].N.toList a[j+1].N.toList=eA:=by grind [mT]
def eY{a:List iB}(h:gI a=eA):lT a:=by
 simp only[gI,wS,Ke,Xg]at h;intro i j f b;induction j with
 |zero=>omega
 |succ j d=>
  have c:=yz (h (j+1) b) b;by_cases e:i=j
  .subst e;exact c
  exact sJ _ _ _ (d (by omega) (by omega)) c
def nT(a:List iB)(t:pB)(i:Nat):Prop:=i<=zA a/\(∀j(h:j<zA a),j<i->Op.bytesLess a[j].N.toList t.toList=eA)/\(∀j(h:j<zA a),i<=j->Op.bytesLess a[j].N.toList t.toList=dA)
def dC(t:pB):List iB->Nat
 |[]=>0
 |f::r=>if Op.bytesLess f.N.toList t.toList=eA then dC t r+1 else 0
def nT.uniq{d:List iB}{t:pB}{i j:Nat}(h:nT d t i)(k:nT d t j):i=j:=by
 rcases Nat.lt_trichotomy i j with c|e|c;have a:=k.2.1 i (by have:=k.1;omega) c;have b:=h.2.2 i (by have:=k.1;omega) (Ia _);rw[a]at b;exact absurd b (by simp);exact e;have a:=h.2.1 j (by have:=h.1;omega) c;have b:=k.2.2 j (by have:=h.1;omega) (Ia _);rw[a]at b;exact absurd b (by simp)
def yH(a:List iB)(t:pB)(i:Nat):Bool:=match a[i]? with
 |none=>dA
 |some f=>f.N.toList==t.toList
def ck{x y:pB}:(lY x y<0) ↔ Op.bytesLess x.toList y.toList=eA:=by
 unfold lY;split<;>(try split)<;>simp_all
def vh{x y:pB}:(lY x y==0)=(x.toList==y.toList):=by grind [lY,gG]
def py(a:nC)(A:Nat)(d:List iB)(t:pB)(w:fA)(I:uB w a d)(n:lT d)(K:zA d<=1048576):
 Calls prog 176 #[qA a (zA d) A,pA t,.func (.func 177) #[] #[]] w λe z=>
  ∃i,nT d t i/\e=vA (yA #[aB i,sA (yH d t i)])/\xB w z:=by
 have G:cB (uB w a d):=I;have F:cB (lT d):=n;clear I n;go_enter func176,ntmps176;go_wp2;go_loopw [9,10,11] (λi j _ wr=>∃f l:Nat,i=aB f/\j=aB l/\f<=l/\l<=zA d/\(∀m(h:m<zA d),m<f->Op.bytesLess d[m].N.toList t.toList=eA)/\
  (∀m(h:m<zA d),l<=m->Op.bytesLess d[m].N.toList t.toList=dA)/\xB w wr) (λi j _ _=>(intOf j).toNat-(intOf i).toNat)
 case atStart=>exact⟨0,zA d,rfl,rfl,Oa _,Ia _,λm h k=>absurd k (by omega),λm h k=>absurd k (by omega),gD⟩
 case round=>
  obtain⟨f,l,rfl,rfl,P,x,q,p,c⟩:=hrel;have v:cB _:=q;have u:cB _:=p;clear q p;by_cases Q:f<l
  .obtain ⟨m,R⟩:∃m:Nat,m=(f+l) / 2:=⟨_,rfl⟩
   have U:((f:Int)+(l:Int)) / 2=(m:Int):=by omega
   have C:f<=m:=by omega
   have S:m<l:=by omega
   have y:m<zA d:=by omega
   clear R;obtain⟨b,o,rfl,O,L,M,N⟩:=(G.o.z c).at y;by_cases r:Op.bytesLess d[m].N.toList t.toList=eA
   .have T:=ck.2 r;have s:cB _:=r;clear r;go_wp2_with fail;apply jC (CC _ _ _ _ _);intro z g;go_wp2;refine⟨⟨m+1,l,by go_num,rfl,by omega,x,λj J B=>?_,u.o,c.trans (g.mono c.size)⟩,by simp[intOf];omega⟩;by_cases e:j=m
    .subst e;exact s.o
    exact sJ _ _ _ (F.o j m (by omega) y) s.o
   have T:¬lY d[m].N t<0:=λh=>r (ck.1 h);have s:cB (Op.bytesLess d[m].N.toList t.toList=dA):=by show _=_;simpa using r
   clear r;go_wp2_with fail;apply jC (CC _ _ _ _ _);intro z g;go_wp2;refine⟨⟨f,m,rfl,rfl,C,by omega,v.o,λj J B=>?_,c.trans (g.mono c.size)⟩,by simp[intOf];omega⟩;by_cases e:j=m
   .subst e;exact s.o
   rw[Yc];intro h;have:=sJ _ _ _ (F.o m j (by omega) J) h;rw[s.o]at this;exact absurd this (by simp)
  obtain rfl:f=l:=by omega
  have H:cB (nT d t f):=⟨x,v.o,u.o⟩
  by_cases D:f<zA d
  .obtain ⟨b,o,rfl,O,L,M,N⟩:=(G.o.z c).at D;have E:cB ((lY d[f].N t==0)=yH d t f):=by show _=_;rw[vh];simp[yH,Va D]
   go_wp2_with fail;apply jC (CC _ _ _ _ _);intro z g;go_wp2;go_ret2;exact⟨f,H.o,iy rfl (Kd jA.bool E.o),c.trans (g.mono c.size)⟩
  have E:cB (yH d t f=dA):=by show _=_;simp[yH,Fd (Nat.not_lt.1 D)]
  go_wp2;go_ret2;exact⟨f,H.o,iy rfl (Kd jA.bool E.o.symm),c⟩
def iW(a:nC)(d:Nat)(b:List iB)(t:pB)(w:fA)(g:uB w a b)(c:lT b)(f:zA b<=1048576):
 Calls prog 116 #[qA a (zA b) d,pA t] w λe j=>
  ∃i,nT b t i/\e=vA (yA #[aB i,sA (yH b t i)])/\xB w j:=by
 have l:cB (uB w a b):=g;have k:cB (lT b):=c;clear g c;go_enter func116,ntmps116;go_wp2_with fail;refine(py a d b t _ l.o k.o f).mono ?_;rintro e j ⟨i,h,rfl,n⟩;have m:cB (nT b t i):=h;clear h;go_wp2;go_ret2;exact⟨i,m.o,rfl,n⟩
theorem EJ{a:List iB}{t:pB}(p:lT a){i:Nat}(u:nT a t i):mE t a 0=if yH a t i=eA then(i:Int) else -1:=by
 have o:∀(n k:Nat),k+n=zA a->(∀j(h:j<zA a),j<k->(a[j].N.toList==t.toList)=dA)->mE t (a.drop k) k=if yH a t i=eA then(i:Int) else -1:=by
  intro n;induction n with
  |zero=>
   intro k r c;rw[Ie (by omega),mE];rw[Ja];intro h;unfold yH at h;split at h;exact absurd h (by simp)
   rename_i f q;obtain⟨b,rfl⟩:=Pb.1 q;rw[c i b (by omega)]at h;exact absurd h (by simp)
  |succ n w=>
   intro k r c;have b:k<zA a:=by omega
   rw[Cb b,mE];by_cases d:(a[k].N.toList==t.toList)=eA
   .rw[Ma d];have v:nT a t k:=by
     have e:a[k].N.toList=t.toList:=by simpa using d
     refine⟨by omega,λj l g=>?_,λj l s=>?_⟩;rw[<-e];exact p j k g b;rw[<-e];by_cases m:j=k
     .subst m;exact gG _
     exact uP (p k j (by omega) l)
    obtain rfl:=u.uniq v;rw[Ma];simp[yH,Va b,d]
   .rw[Ja d];refine w (k+1) (by omega) λj l g=>?_;by_cases m:j=k
    .subst m;simpa using d
    exact c j l (by omega)
 have:=o (zA a) 0 (by omega) (λj _ h=>absurd h (by omega));simpa using this
def eH{w:fA}{B:Nat}{e:kA}{a:Nat}{v:jA}{n:Nat}{i:List jA}(h:w.ownsRow B e a v n i):∀g,v.ownBlock=cA g->g<w.1.size:=by
 intro g b;obtain⟨rfl,_⟩|⟨j,c,d,rfl,_,f,_⟩:=h.2;simp[jA.ownBlock]at b;simp[jA.ownBlock]at b;subst b;exact bB f
def iZ{w:fA}{B:Nat}{e:kA}{c:Nat}{v:jA}{n:Nat}{f:List jA}(h:w.ownsRow B e c v n f):∃a b,v=qA a n b:=by
 obtain⟨rfl,rfl⟩|⟨g,b,d,rfl,_⟩:=h.2;exact ⟨none,0,rfl⟩;exact ⟨_,b,rfl⟩
def QO{w:fA}{B B':Nat}{e:kA}{a:Nat}{v:jA}{n:Nat}{d:List jA}(h:w.ownsRow B e a v n d)(i:B'<=B):w.ownsRow B' e a v n d:=by
 refine⟨h.1,?_⟩;obtain f|⟨g,b,c,k,j,r⟩:=h.2;exact Ca f;exact La ⟨g,b,c,k,Ua i j,r⟩
structure wC(w:World)(B D:Nat)(fs:List iB)(c k cr fl:Int)(dn:Bool)(v:Value):Prop where
 from':B≤D
 blk:jB w D #[aB k,aB cr,aB fl,sA dn,v,aB c] 146
 row:w.ownsRow B 144 3 v (zA fs) (flat fs)
 apart:∀g,v.ownBlock=cA g→g≠D
def wC.z{w g:fA}{B D:Nat}{e:List iB}{c k a d:Int}{b:Bool}{v:jA}(h:wC w B D e c k a d b v)(f:xB w g):wC g B D e c k a d b v:=
 ⟨h.from',h.blk.z f,hC h.row f,h.apart⟩
def IP(a:nC)(d:Nat)(f:List iB)(c k l n:Int)(m:Bool)(w:fA)(t:uB w a f)(o:zA f<=1048576):
 Calls prog 16 #[uA #[qA a (zA f) d,aB c,aB k,aB l,aB n,sA m]] w λe b=>
  ∃D v,e=vA (.pointer (vB D))/\wC b w.1.size D f c k l n m v/\xB w b:=by
 have u:cB (uB w a f):=t;clear t;obtain⟨A,B,C,E,F,G⟩:=gP.new w (qA a (zA f) d) (aB c) (aB k) (aB l) (aB n) (sA m) 35;have p:cB (∀b,Below (w.alloc (xA #[qA a (zA f) d,aB c,aB k,aB l,aB n,sA m] 35)).1.size (w.alloc (xA #[qA a (zA f) d,aB c,aB k,aB l,aB n,sA m] 35)) b->yC b w.1.size 0 (qA a (zA f) d)/\yC b w.1.size 1 (aB c)/\yC b w.1.size 2 (aB k)/\yC b w.1.size 3 (aB l)/\yC b w.1.size 4 (aB n)/\yC b w.1.size 5 (sA m)):=λb h=>
  (gP.new w (qA a (zA f) d) (aB c) (aB k) (aB l) (aB n) (sA m) 35).z h
 go_enter func16,ntmps16;go_wp2_with fail;go_region_held3 (λb=>b.cell? (eB w.1.size 0)=cA (qA a (zA f) d)/\b.cell? (eB w.1.size 1)=cA (aB c)/\b.cell? (eB w.1.size 2)=cA (aB k)/\b.cell? (eB w.1.size 3)=cA (aB l)/\b.cell? (eB w.1.size 4)=cA (aB n)/\b.cell? (eB w.1.size 5)=cA (sA m))
  (first|(exact p.o _ (aC (aC gD.drew j) bC))|(exact p.o _ (aC gD.drew j))|(exact p.o _ gD.drew))
  (first
  |(go_at_call 62;refine(UA a d f _ ((u.o.z bC).z gD.drew) o).mono ?_;rintro e y ⟨v,rfl,i,j⟩;obtain⟨z,s,rfl⟩:=iZ i))
 go_wp2;go_ret;have q:=j.size;have r:=eH i;refine⟨y.1.size,_,rfl,⟨?_,heap_alloc_new _ _,QO (hC i bC) (by simp),?_⟩,aC (aC bC (aC gD.drew j)) bC⟩
 .simp at q;omega
 intro g x;have:=r g x;omega
def kj(b o:Nat)(c:Array jA)(t:kA)(d:pB)(w:fA)(f:jB w b c t)(g:c[o+1]?=cA (pA d))(h:o+2<c.size):
 Calls prog 182 #[tA (cA (eB b o))] w λe j=>e=vA (yA #[])/\j=w.setCell (eB b (o+2)) (aB d.size):=by
 have i:=f.cell (o+1);rw[g]at i;obtain⟨l,k⟩:=f.there h;have a:=f.free (o+2);clear f g h;go_enter func182,ntmps182;go_wp2;go_end0;exact⟨rfl,rfl⟩
def eU(D:Nat)(t:kA)(a:nC)(n d:Nat)(c k f h:Int)(g:Bool)(w:fA)(i:jB w D #[aB k,aB f,aB h,sA g,qA a n d,aB c] t):
 cF 18 #[.pointer (vB D)] w (uA #[qA a n d,aB c,aB k,aB f,aB h,sA g]):=by
 have b:=i.z (zF w (xA #[qA none 0 0,aB 0,aB 0,aB 0,aB 0,sA dA] 35));have j:=b.cell 0;have l:=b.cell 1;have m:=b.cell 2;have o:=b.cell 3;have p:=b.cell 4;have q:=b.cell 5;simp only[Xb,Ob,Ga]at j l m o p q;clear i b;go_enter func18,ntmps18;go_wp2_with fail;go_region
 go_wp2;exact bodyPost_ret (v:=uA #[qA a n d,aB c,aB k,aB f,aB h,sA g]) (by simp[results,results18,go_sem]) rfl ⟨rfl,bC.drew⟩
structure kE(S:Nat→Prop)(w w':World):Prop where
 os:w'.os=w.os
 tape:w'.tape=w.tape
 output:w'.output=w.output
 size:w.1.size≤w'.1.size
 block:∀k,k<w.1.size→¬S k→w'.heap[k]?=w.heap[k]?
def kE.refl(S:Nat->Prop)(w:fA):kE S w w:=⟨rfl,rfl,rfl,Ia _,λ_ _ _=>rfl⟩
def kE.trans{S:Nat->Prop}{a b c:fA}(h:kE S a b)(k:kE S b c):kE S a c:=
 ⟨k.os.trans h.os,k.tape.trans h.tape,k.output.trans h.output,Ua h.size k.size,λi e d=>(k.block i (Bb e h.size) d).trans (h.block i e d)⟩
def kE.of{S:Nat->Prop}{w a:fA}(h:xB w a):kE S w a:=⟨h.os,h.tape,h.output,h.size,λk b _=>h.block k b⟩
def kE.mono{S T:Nat->Prop}{w a:fA}(h:kE S w a)(c:∀k,S k->T k):kE T w a:=⟨h.os,h.tape,h.output,h.size,λk b d=>h.block k b (λx=>d (c k x))⟩
def kE.below{S:Nat->Prop}{B:Nat}{w a:fA}(h:kE S w a)(b:∀k,S k->B<=k)(d:B<=w.1.size):Below B w a:=
 ⟨h.os,h.tape,h.output,h.size,λk c=>h.block k (by omega) (λx=>by have:=b k x;omega)⟩
def kE.but{g:Nat}{w a:fA}(h:sD g w a):kE (λk=>k=g) w a:=⟨h.os,h.tape,h.output,h.size,h.block⟩
def kE.setCell{S:Nat->Prop}{a w:fA}(h:kE S a w){g:Nat}(b:S g)(o:Nat)(v:jA):kE S a (w.setCell (eB g o) v):=
 h.trans ⟨rfl,rfl,rfl,by simp[fA.setCell],λk _ c=>Below.heap_setCell _ _ _ _ (λe=>c (by rw[e];exact b))⟩
def kE.setCells{S:Nat->Prop}{g:Nat}(b:S g):∀(c:List jA)(o:Nat){a w:fA},kE S a w->kE S a (w.setCells g o c)
 |[],_,_,_,h=>h
 |v::r,o,_,_,h=>kE.setCells b r (o+1) (h.setCell b o v)
def kE.drew{S:Nat->Prop}{a w:fA}(h:kE S a w):kE S a w.drew:=⟨h.os,h.tape,h.output,h.size,h.block⟩
def kE.grown{S:Nat->Prop}{w a:fA}{f:Option Nat}(h:w.grownBy a f)(d:∀g,f=cA g->S g):kE S w a:=
 ⟨h.os,h.tape,h.output,h.size,λk c b=>h.block k c (λe=>b (d k e.symm))⟩
def jB.keeps{S:Nat->Prop}{w c:fA}{g:Nat}{a:Array jA}{t:kA}(h:jB w g a t)(d:kE S w c)(b:¬S g):jB c g a t:=(d.block g (bB h) b).trans h
def jB.setCells{g:Nat}{t:kA}:∀(f:List jA)(o:Nat){w:fA}{a:Array jA},jB w g a t->∃b,jB (w.setCells g o f) g b t/\b.size=a.size
 |[],_,_,a,h=>⟨a,h,rfl⟩
 |v::r,o,_,a,h=>by
  obtain⟨c,d,e⟩:=jB.setCells r (o+1) (h.set o v);exact⟨c,d,by rw[e];simp⟩
def xR{w:fA}{B g n a:Nat}{b:Array jA}{e:kA}{c:List jA}(f:B<=g)(h:jB w g b e)(m:n<=a)(l:a<=maxLen)(o:b.size=a*3)(p:zA c=n*3)
(i:∀j u,c[j]?=cA u->w.cell? (eB g j)=cA u):w.ownsRow B e 3 (qA (vB g) n a) n c:=by
 refine⟨p,La ⟨g,a,b,rfl,f,h,m,l,o,?_⟩⟩;apply List.ext_getElem?;intro j;by_cases k:j<n*3
 .rw[Jb k];have d:=i j c[j] (Va (by omega));rw[h.cell]at d;rw[Yd,d,Va (by omega)]
 rw[Fd (by simp;omega),Fd (by omega)]
def tR{w:fA}{B g n m a:Nat}{e:kA}{l:List jA}(h:w.ownsRow B e 3 (qA (vB g) m a) n l):
 ∃b,B<=g/\m=n/\jB w g b e/\n<=a/\a<=maxLen/\b.size=a*3/\∀j u,l[j]?=cA u->w.cell? (eB g j)=cA u:=by
 obtain⟨d,_⟩|⟨t,i,b,d,o,k,q,p,r,s⟩:=h.2;exact absurd d (by simp);simp only[jA.slice.injEq,Qa,Addr.mk.injEq,Cc]at d;obtain⟨rfl,rfl,rfl⟩:=d;refine⟨b,o,rfl,k,q,p,r,λj u c=>?_⟩;rw[jB.cell k];rw[<-s]at c;have f:=(Pb.1 c).1;rw[Hb]at f;rw[Jb (by omega)]at c;simpa using c
def nQ{P:Program}(w:fA)(n B C d:kA)(b o c g:Nat)(a:Addr)(e l k f:Nat)(cs:List jA)
(A:P.underlying n=cA (.slice d))(z:(P.info? d).map (·.size)=cA f)(t:Nat.min e c=k)(x:zA cs=k*f)
(h:∀j v,cs[j]?=cA v->w.cell? (a.add j)=cA v)(q:∀j,j<zA cs->(w.cell? (eB b (o+j))).isSome=eA)(r:∀j,j<zA cs->w.frozen? (eB b (o+j))=dA)(p:∀v∈cs,v.oneCell'=eA):
 (Builtin.copy_ #[n,B] C #[qA (cA (eB b o)) c g,qA (cA a) e l]).run P w=.ok (goInt k) (w.setCells b o cs):=by
 have u:=run_loadCells_list (P:=P) w a cs h;have m:=run_storeCells_cells (P:=P) b o cs 0 w (by simpa using q) (by simpa using r) p;obtain⟨i,y,s⟩:=Wb.1 z;simp[Builtin.copy_,run_underlying A,Builtin.lenOf,Builtin.firstCells,sizeOf,typeInfo,y,s,t,<-x,u,m]
def mZ:List jA:=[pA lA,pA lA,aB 0]
def SJ{P:Program}(w:fA)(t m e:kA)(i:TypeInfo)(k:P.underlying t=cA (.slice e))(h:P.info? e=cA i)(l:i.zero=cA (uA #[pA lA,pA lA,aB 0]))
(b o c:Nat)(f:∀j,j<3->(w.cell? (eB b (o+j))).isSome=eA)(g:∀j,j<3->w.frozen? (eB b (o+j))=dA):
 (Builtin.clear_ #[t] m #[qA (cA (eB b o)) 1 c]).run P w=.ok (yA #[]) (w.setCells b o mZ):=by
 have a:=run_storeCells_cells (P:=P) b o mZ 0 w (by simpa[mZ]using f) (by simpa[mZ]using g) (by simp[mZ,jA.oneCell']);have d:(Builtin.zeroCells (jA.agg #[pA lA,pA lA,aB 0]).cells 1).toList=mZ:=by kernel_rfl
 simp[Builtin.clear_,run_underlying k,zeroValue,typeInfo,h,l,d,a]
def mx(a:List iB)(i:Nat):flat (a.eraseIdx i)=flat (a.take i)++flat (a.drop (i+1)):=by
 rw[List.eraseIdx_eq_take_drop_succ,flat_append]
theorem OS(a:List iB)(i:Nat):flat a=flat (a.take i)++flat (a.drop i):=by
 rw[<-flat_append,Za]
def oU(a:List iB)(i j:Nat)(h:i<=zA a):(flat (a.drop i))[j]?=(flat a)[i*3+j]?:=by
 have b:zA (flat (a.take i))=i*3:=by rw[yE,Hb];omega
 rw[OS a i,Uc (by omega),b];congr 1;omega
def mQ(a:List iB)(i j:Nat)(h:i<=zA a)(b:j<i*3):(flat (a.take i))[j]?=(flat a)[j]?:=by grind [flat,yE,OS]
def mM(a:List iB)(i:Nat)(f:iB):List iB:=a.take i++f::a.drop i
def cO(a:List iB)(i:Nat)(f:iB)(h:i<=zA a):zA (mM a i f)=zA a+1:=by simp[mM];omega
def UX(a:List iB)(i:Nat)(f:iB):flat (mM a i f)=flat (a.take i)++(flat [f]++flat (a.drop i)):=by grind [flat,mM]
def DP(w:fA)(a:Nat)(f:iB):Prop:=jB w a #[pA f.N,pA f.data,aB f.Y] 144
def DP.cells{w:fA}{a:Nat}{f:iB}(h:DP w a f):∀j u,(flat [f])[j]?=cA u->w.cell? (eB a j)=cA u:=λj u b=>by
 rw[jB.cell h,<-b];simp[flat]
def UY{w:fA}{g i n:Nat}{b:List iB}{f:iB}(p:zA b=n)(o:i<=n)(e:∀j u,j<i*3->(flat b)[j]?=cA u->w.cell? (eB g j)=cA u)(h:∀j u,(flat [f])[j]?=cA u->w.cell? (eB g (i*3+j))=cA u)
(k:∀j u,(flat (b.drop i))[j]?=cA u->w.cell? (eB g ((i+1)*3+j))=cA u):∀j u,(flat (mM b i f))[j]?=cA u->w.cell? (eB g j)=cA u:=by
 intro j u a;have c:zA (flat (b.take i))=i*3:=by rw[yE,Hb];omega
 have l:zA (flat [f])=3:=rfl;rw[UX]at a;by_cases d:j<i*3
 .rw[Pe (by omega),mQ b i j (by omega) d]at a;exact e j u d a
 rw[Uc (by omega),c]at a;by_cases m:j-i*3<3
 .rw[Pe (by omega)]at a;have:=h _ _ a;rwa [show i*3+(j-i*3)=j by omega]at this
 rw[Uc (by omega),l]at a;have:=k _ _ a;rwa [show(i+1)*3+(j-i*3-3)=j by omega]at this
def YM(B g a i F:Nat)(d:List iB)(f:iB)(w:fA)(D:w.ownsRow B 144 3 (qA (vB g) (zA d) a) (zA d) (flat d))(p:DP w F f)(Q:F≠g)(h:i<zA d)(s:zA d+1<=a)(N:zA d<=1048576):
 Calls prog 229 #[qA (vB g) (zA d) a,aB i,qA (vB F) 1 1] w λe w'=>
  e=vA (qA (vB g) (zA d+1) a)/\w'.ownsRow B 144 3 (qA (vB g) (zA d+1) a) (zA d+1) (flat (mM d i f))/\kE (λk=>k=g) w w':=by
 obtain⟨K,hB,_,b,W,H,y,I⟩:=tR D;obtain⟨m,M,Y,R,Z⟩:=sL;obtain⟨n,T⟩:∃n,zA d=n:=⟨_,rfl⟩
 rw[T]at h s N W |-
 have l:(prog.info? 144).map (·.size)=cA 3:=by rw[M];simp[R]
 have t:∀w,(Go.sizeOf 144).run prog w=.ok 3 w:=λw=>by simp[sizeOf,typeInfo,M,R]
 have c:∀j,j<a*3->(w.cell? (eB g j)).isSome=eA:=λj h=>by obtain⟨v,p⟩:=b.there (j:=j) (by omega);rw[p];rfl
 have X:∀m U,(callFunc 272 #[qA (vB F) 1 1,.slice (cA (eB g ((i+1)*3))) m U]).run prog w=.ok (.value (sA dA)) w:=λm U=>by
  rw[run_callFunc_extern func272 (by kernel_rfl) (by kernel_rfl) (by kernel_rfl) (e:=Extern.SlicesOverlaps.overlaps #[33,33] #[4]) (by kernel_rfl),
   Lib.run_overlaps_apart w 33 4 144 underlying33 3 t (eB F 0) (eB g ((i+1)*3)) 1 1 m U Q 144 144 3 K.size (by unfold DP jB at p;simp[fA.shape?,p]) (by unfold jB at b;simp[fA.shape?,b]) (by omega) (jB.free p _) (jB.free p _)]
  rfl
 obtain⟨z,r⟩:∃z,z=flat (d.drop i):=⟨_,rfl⟩
 have C:zA z=(n-i)*3:=by rw[r,yE,Rc,T]
 have A:∀J G m,(Builtin.copy_ #[33,33] J #[.slice (cA (eB g ((i+1)*3))) (n-i) G,.slice (cA (eB g (i*3))) (n+1-i) m]).run prog w.drew=.ok (goInt ((n-i:Nat):Int)) (w.drew.setCells g ((i+1)*3) z):=λJ G m=>
  nQ w.drew _ _ J 144 g ((i+1)*3) (n-i) G (eB g (i*3)) (n+1-i) m (n-i) 3 z underlying33 l (by simp only[Nat.min_def];split<;>omega) C
   (λj v h=>by rw[Addr.add_lit];exact I _ v (by rwa [r,oU d i j (by omega)]at h))
   (λj h=>c _ (by omega)) (λj h=>b.free _) (by rw[r];exact zG _)
 obtain⟨q,m⟩:∃q,q=w.drew.setCells g ((i+1)*3) z:=⟨_,rfl⟩
 obtain⟨o,o,x⟩:=jB.setCells z ((i+1)*3) (show jB w.drew g K 144 from b);rw[<-m]at o A;have P:DP q F f:=by rw[m];exact jB.keeps (S:=λk=>k=g) p (kE.setCells (S:=λk=>k=g) rfl _ _ (kE.refl _ _).drew) Q
 have L:∀J G,(Builtin.copy_ #[33,33] J #[.slice (cA (eB g (i*3))) (n+1-i) G,qA (vB F) 1 1]).run prog q=.ok (goInt 1) (q.setCells g (i*3) (flat [f])):=λJ G=>
  nQ q _ _ J 144 g (i*3) (n+1-i) G (eB F 0) 1 1 1 3 (flat [f]) underlying33 l (by simp only[Nat.min_def];split<;>omega) rfl
   (λj v h=>by rw[Addr.add_lit,Ya];exact P.cells j v h)
   (λj h=>by obtain⟨v,p⟩:=o.there (j:=i*3+j) (by rw[x,y];simp[flat]at h;omega);rw[p];rfl) (λj h=>o.free _) (zG _)
 obtain⟨G,V,O⟩:=jB.setCells (flat [f]) (i*3) o;have J:cB (kE (λk=>k=g) w (q.setCells g (i*3) (flat [f]))):=by
  show kE _ _ _;rw[m];exact kE.setCells (S:=λk=>k=g) rfl _ _ (kE.setCells (S:=λk=>k=g) rfl _ _ (kE.refl _ _).drew)
 have W:cB ((q.setCells g (i*3) (flat [f])).ownsRow B 144 3 (qA (vB g) (n+1) a) (n+1) (flat (mM d i f))):=by
  refine xR hB V s H (by rw[O,x,y]) (by rw[yE,cO _ _ _ (by omega),T]) (UY T (by omega) ?_ ?_ ?_);intro j u h E;rw[fA.cell?_setCells_out g (flat [f]) (i*3) q _ (λ_ _=>Ca h),m,fA.cell?_setCells_out g z ((i+1)*3) _ _ (λ_ _=>Ca (by show j<_;omega))];exact I j u E;intro j u E;have h:=(Pb.1 E).1;rw[fA.cell?_setCells_in g (flat [f]) (i*3) q (λk G=>by obtain⟨v,p⟩:=o.there (j:=i*3+k) (by rw[x,y];simp[flat]at G;omega);rw[p];rfl) j h,<-E,Va];intro j u E;rw[<-r]at E;have h:=(Pb.1 E).1;rw[fA.cell?_setCells_out g (flat [f]) (i*3) q _ (λ_ _=>La (by simp[flat];omega)),m,
   fA.cell?_setCells_in g z ((i+1)*3) w.drew (λk G=>c _ (by omega)) j h,<-E,Va]
 have Z:¬((i:Int)=(n:Int)):=by omega
 have h:¬((a:Int)<(n:Int)+1):=by omega
 have h:IntKind.i64.wrap ((i:Int)+1)=(i:Int)+1:=by rw[IntKind.wrap_i64];omega
 have h:(0:Int)<=(i:Int)+1:=by omega
 have h:i<=n:=by omega
 have h:((i:Int)+1).toNat=i+1:=by omega
 have h:¬(a=i+1):=by omega
 have h:(i:Int)+1<=(n:Int)+1:=by omega
 have h:¬(a=i):=by omega
 have h:(i:Int)<=(n:Int)+1:=by omega
 have h:((n:Int)+1).toNat=n+1:=by omega
 have h:(a:Int)<=9223372036854775807:=by unfold maxLen at H;omega
 clear D b o I c p P y x O r C m Y t l H;go_enter func229,ntmps229;go_wp2_with(simp only[X]);go_region_law (refine step_copy_runI rfl _ _ 33 33 rfl _ _ (by simp[Act.eval,Act.put]) (by simp[Act.eval,Act.put]) (A _ _ _) ?_)
 go_wp2_with(at_builtin;refine wpList_copy_runI _ rfl _ _ 33 33 rfl _ _ rfl rfl (L _ _) ?_);go_ret;exact⟨rfl,W.o,J.o⟩
section
open Go.Extern.Stop Go.Stop Go.Extern
def aDb(v:jA)(w:fA):(Extern.ReflectliteType.typeOf #[.iface 147 v]).run prog w=.ok (.iface 272 (uA #[tA (cA (eB 10 147))])) w:=by kernel_rfl
def YN(w : World) : ((Extern.ReflectliteType.method fun t => do Extern.Rtype.noPackHeld "Comparable" t; pure (.bool (<- typeInfo t).comparable)) #[.agg #[.pointer (some ⟨10, 147, none⟩)]]).run prog w = .ok (.bool true) w := by kernel_rfl
def NG(w:fA):(callFunc 371 #[uA #[tA (cA (eB 10 147))]]).run prog w=.ok (.value (sA eA)) w:=by
 rw [@run_callFunc_extern prog 371 _ (Extern.ReflectliteType.method fun t => do Extern.Rtype.noPackHeld "Comparable" t; pure (.bool (<- typeInfo t).comparable)) func371 (by kernel_rfl) (by kernel_rfl) (by kernel_rfl) (by kernel_rfl), YN]
 rfl
def lx(v:jA)(w:fA):(callFunc 125 #[.iface 147 v]).run prog w=.ok (.value (.iface 272 (uA #[tA (cA (eB 10 147))]))) w:=by
 rw[@run_callFunc_extern prog 125 _ Extern.ReflectliteType.typeOf func125 (by kernel_rfl) (by kernel_rfl) (by kernel_rfl) (by kernel_rfl),aDb];rfl
def CI(v : Value)(w : World) : (Go.method 546 272 v "Comparable").run prog w = .ok (371, v) w := by kernel_rfl
def aKz:(prog.info? 147).map (·.comparable)=cA eA:=by kernel_rfl
def aOf(v:jA)(a:kA)(w:fA):(Instr.typeAssert (.iface 147 v) a 274 eA).run prog w=.ok (yA #[.nilIface,sA dA]) w:=run_typeAssert_lacksB underlying274 (by kernel_rfl) (by kernel_rfl) v a w
def aEb(v:jA)(a:kA)(w:fA):(Instr.typeAssert (.iface 147 v) a 277 eA).run prog w=.ok (yA #[.nilIface,sA dA]) w:=run_typeAssert_lacksB underlying277 (by kernel_rfl) (by kernel_rfl) v a w
def yv(v:jA)(a:kA)(w:fA):(Instr.typeAssert (.iface 147 v) a 278 eA).run prog w=.ok (yA #[.nilIface,sA dA]) w:=run_typeAssert_lacksB underlying278 (by kernel_rfl) (by kernel_rfl) v a w
def FV{P:Program}(w:fA){t c:kA}{l:Array (String×kA)}(a b:pB)
(j:P.underlying t=cA (.interface l))(f:(P.info? c).map (·.comparable)=cA eA)(k:P.underlying c=cA .string):
 (binOp .eql t (.iface c (pA a)) (.iface c (pA b))).run P w=.ok (sA (a==b)) w:=by
 obtain⟨i,g,e⟩:=Wb.1 f;have h:∀d:Nat,(Op.equalIn (d+2) t (.iface c (pA a)) (.iface c (pA b))).run P w=.ok (a==b) w:=λd=>by
  simp[Op.equalIn,run_underlying j,run_underlying k,typeInfo,g,e]
 simp only[binOp];simp[Op.equal,Op.maxDepth,h 9998]
def tF(a b:pB)(r:Bool)(c:(a==b)=r)(w:fA):
 rI 67 #[.iface 147 (pA a),.iface 147 (pA b)] w (sA r):=by
 have j:=lx;have g:=NG;have h:=CI;have i:=aOf;have k:=aEb;have l:=yv;have d:(binOp .eql 67 (.iface 147 (pA a)) (.iface 147 (pA b))).run prog w=.ok (sA r) w:=by
  rw[FV w a b underlying67 aKz underlying147,c]
 clear c;cases r
 .go_enter func67,ntmps67;go_wp2;refine wp_loop_rounds 1 ?_;rw[rounds_succ];go_wp2;go_ret;exact⟨rfl,rfl⟩
 go_enter func67,ntmps67;go_wp2;refine wp_loop_rounds 1 ?_;rw[rounds_succ];go_wp2;go_ret;exact⟨rfl,rfl⟩
end
def aFh:pB:=⟨#[116,104,101,32,100,105,115,107,32,105,115,32,100,111,119,110]⟩
def ae:pB:=⟨#[116,104,101,32,111,112,101,114,97,116,105,111,110,32,102,97,105,108,101,100]⟩
def aFi:pB:=⟨#[116,104,101,32,100,105,115,107,32,105,115,32,102,117,108,108]⟩
def RK:pB:=⟨#[116,104,101,32,102,105,108,101,32,105,115,32,109,105,115,115,105,110,103]⟩
def ad:pB:=⟨#[116,104,101,32,102,105,108,101,32,101,120,105,115,116,115]⟩
def aMh:pB:=⟨#[116,104,101,32,111,112,101,114,97,116,105,111,110,32,105,115,32,105,109,112,114,111,112,101,114]⟩
def nH(a:Nat):jA:=match a with
 |0=>.nilIface
 |1=>.iface 147 (pA aFh)
 |2=>.iface 147 (pA ae)
 |3=>.iface 147 (pA aFi)
 |4=>.iface 147 (pA RK)
 |5=>.iface 147 (pA ad)
 |_=>.iface 147 (pA aMh)
theorem aGo(w:fA):rI 127 #[.nilIface] w (aB 0):=by
 go_enter func127,ntmps127;go_wp2;go_ret;exact⟨rfl,rfl⟩
theorem vj(w:fA):rI 127 #[.iface 147 (pA aFh)] w (aB 1):=by
 go_enter func127,ntmps127;go_wp2_with fail;refine jC (tF _ _ eA (by kernel_rfl) _) ?_;rintro a rfl;go_wp2;go_ret;exact⟨rfl,rfl⟩
theorem cq(w:fA):rI 127 #[.iface 147 (pA ae)] w (aB 2):=by
 go_enter func127,ntmps127;go_wp2_with fail;refine jC (tF _ _ dA (by kernel_rfl) _) ?_;rintro a rfl;go_wp2_with fail;refine jC (tF _ _ eA (by kernel_rfl) _) ?_;rintro a rfl;go_wp2;go_ret;exact⟨rfl,rfl⟩
theorem vk(w:fA):rI 127 #[.iface 147 (pA aFi)] w (aB 3):=by
 go_enter func127,ntmps127;go_wp2_with fail;refine jC (tF _ _ dA (by kernel_rfl) _) ?_;rintro a rfl;go_wp2_with fail;refine jC (tF _ _ dA (by kernel_rfl) _) ?_;rintro a rfl;go_wp2_with fail;refine jC (tF _ _ eA (by kernel_rfl) _) ?_;rintro a rfl;go_wp2;go_ret;exact⟨rfl,rfl⟩
theorem XL(w:fA):rI 127 #[.iface 147 (pA RK)] w (aB 4):=by
 go_enter func127,ntmps127;go_wp2_with fail;refine jC (tF _ _ dA (by kernel_rfl) _) ?_;rintro a rfl;go_wp2_with fail;refine jC (tF _ _ dA (by kernel_rfl) _) ?_;rintro a rfl;go_wp2_with fail;refine jC (tF _ _ dA (by kernel_rfl) _) ?_;rintro a rfl;go_wp2_with fail;refine jC (tF _ _ eA (by kernel_rfl) _) ?_;rintro a rfl;go_wp2;go_ret;exact⟨rfl,rfl⟩
theorem cn(w:fA):rI 127 #[.iface 147 (pA ad)] w (aB 5):=by
 go_enter func127,ntmps127;go_wp2_with fail;refine jC (tF _ _ dA (by kernel_rfl) _) ?_;rintro a rfl;go_wp2_with fail;refine jC (tF _ _ dA (by kernel_rfl) _) ?_;rintro a rfl;go_wp2_with fail;refine jC (tF _ _ dA (by kernel_rfl) _) ?_;rintro a rfl;go_wp2_with fail;refine jC (tF _ _ dA (by kernel_rfl) _) ?_;rintro a rfl;go_wp2_with fail;refine jC (tF _ _ eA (by kernel_rfl) _) ?_;rintro a rfl;go_wp2;go_ret;exact⟨rfl,rfl⟩
theorem aBp(w:fA):rI 127 #[.iface 147 (pA aMh)] w (aB 6):=by
 go_enter func127,ntmps127;go_wp2_with fail;refine jC (tF _ _ dA (by kernel_rfl) _) ?_;rintro a rfl;go_wp2_with fail;refine jC (tF _ _ dA (by kernel_rfl) _) ?_;rintro a rfl;go_wp2_with fail;refine jC (tF _ _ dA (by kernel_rfl) _) ?_;rintro a rfl;go_wp2_with fail;refine jC (tF _ _ dA (by kernel_rfl) _) ?_;rintro a rfl;go_wp2_with fail;refine jC (tF _ _ dA (by kernel_rfl) _) ?_;rintro a rfl;go_wp2;go_ret;exact⟨rfl,rfl⟩
def ct(a:Nat)(h:a<=6)(w:fA):rI 127 #[nH a] w (aB a):=by grind [nH,aGo,vj,cq,vk,XL,cn,aBp]
def iO{x a:Int}{b:Bool}(h:yB x 0 a=b)(w:fA):rI 59 #[aB x,aB a] w (sA b):=h ▸ yF x a w
def tK{a:nC}{d:Nat}{c:List iB}{b:Bool}(h:(decide (zA c<=1000) &&gI c)=b)(w:fA)(g:uB w a c)(i:iP c)(f:zA c<=maxLen):
 cF 60 #[qA a (zA c) d] w (sA b):=h ▸ OK a d c w g i f
def wE(a:List iB)(c k b d:Int):Bool:=
 (decide (zA a<=1000) &&gI a) &&yB c 0 1000000000&&decide ((pC a:Int)<=c) &&yB k 0 1000000000000000&&yB b 0 1000000000000000&&yB d 0 1000000000000000
def TQ(w:fA)(a b c d e f:jA)(t:kA):let W:=w.alloc (xA #[a,b,c,d,e,f] t)
 W.cell? (eB w.1.size 0)=cA a/\W.cell? (eB w.1.size 1)=cA b/\W.cell? (eB w.1.size 2)=cA c/\
 W.cell? (eB w.1.size 3)=cA d/\W.cell? (eB w.1.size 4)=cA e/\W.cell? (eB w.1.size 5)=cA f:=by
 simp[go_sem]
def pU(a:nC)(m:Nat)(b:List iB)(c k j l:Int)(H:Bool)(w:fA)(L:uB w a b)(M:iP b)(y:zA b<=maxLen)(f:pC b<=1000000000):
 cF 15 #[uA #[qA a (zA b) m,aB c,aB k,aB j,aB l,sA H]] w (sA (wE b c k j l)):=by
 obtain⟨N,O,P,Q,R,U⟩:=TQ w (qA a (zA b) m) (aB c) (aB k) (aB j) (aB l) (sA H) 35;have W:=kC.cells N;have X:=kC.cells O;have Y:=kC.cells P;have Z:=kC.cells Q;have e:=kC.cells R;have u:xB w (w.alloc (xA #[qA a (zA b) m,aB c,aB k,aB j,aB l,sA H] 35)):=gD.alloc (Ia _) _;have T:=kC.there (w.alloc (xA #[qA a (zA b) m,aB c,aB k,aB j,aB l,sA H] 35));have d:cB (∀x:kC (w.alloc (xA #[qA a (zA b) m,aB c,aB k,aB j,aB l,sA H] 35)),uB x.w' a b):=λx=>(L.z u).z x.h;have D:cB (∀x:kC (w.alloc (xA #[qA a (zA b) m,aB c,aB k,aB j,aB l,sA H] 35)),xB w x.w'):=λx=>u.trans (x.h.mono u.size);have G:cB (iP b):=M;have n:cB _:=y;clear N O P Q R U u L M y;by_cases o:(decide (zA b<=1000) &&gI b)=dA
 .have E:cB (wE b c k j l=dA):=by show _=_;simp only[wE,o,Be]
  have z:cB _:=o;clear o;go_enter func15,ntmps15;go_wp2_with fail;refine zB (by kernel_rfl) (by kernel_rfl) ?_;repeat (go_big_quiet_step (first|(go_at_call 60;exact oC (tK z.o _ (d.o _) G.o n.o))|(go_at_call 61;exact oC (dK _ _ _ _ (d.o _) n.o f))|(go_at_call 59;apply bD;apply iO;first|exact i.o|exact A.o|exact B.o|exact F.o)))
  refine wpQuiet_nil ?_;rintro _ ⟨x,rfl⟩;go_wp2;go_ret;exact⟨oB E.o.symm,D.o x⟩
 have t:(decide (zA b<=1000) &&gI b)=eA:=by simpa using o
 have z:cB _:=t;clear o;by_cases p:yB c 0 1000000000=dA
 .have E:cB (wE b c k j l=dA):=by show _=_;simp only[wE,p,t,Be,Oc]
  have i:cB _:=p;clear p t;go_enter func15,ntmps15;go_wp2_with fail;refine zB (by kernel_rfl) (by kernel_rfl) ?_;repeat (go_big_quiet_step (first|(go_at_call 60;exact oC (tK z.o _ (d.o _) G.o n.o))|(go_at_call 61;exact oC (dK _ _ _ _ (d.o _) n.o f))|(go_at_call 59;apply bD;apply iO;first|exact i.o|exact A.o|exact B.o|exact F.o)))
  refine wpQuiet_nil ?_;rintro _ ⟨x,rfl⟩;go_wp2;go_ret;exact⟨oB E.o.symm,D.o x⟩
 have v:yB c 0 1000000000=eA:=by simpa using p
 have i:cB _:=v;clear p;by_cases q:decide ((pC b:Int)<=c)=dA
 .have E:cB (wE b c k j l=dA):=by show _=_;simp only[wE,q,t,v,Be,Oc]
  have S:=q;clear q t v;go_enter func15,ntmps15;go_wp2_with fail;refine zB (by kernel_rfl) (by kernel_rfl) ?_;repeat (go_big_quiet_step (first|(go_at_call 60;exact oC (tK z.o _ (d.o _) G.o n.o))|(go_at_call 61;exact oC (dK _ _ _ _ (d.o _) n.o f))|(go_at_call 59;apply bD;apply iO;first|exact i.o|exact A.o|exact B.o|exact F.o)))
  refine wpQuiet_nil ?_;rintro _ ⟨x,rfl⟩;go_wp2;go_ret;exact⟨oB E.o.symm,D.o x⟩
 have C:decide ((pC b:Int)<=c)=eA:=by simpa using q
 have e:(pC b:Int)<=c:=by simpa using C
 clear q;by_cases r:yB k 0 1000000000000000=dA
 .have E:cB (wE b c k j l=dA):=by show _=_;simp only[wE,r,t,v,C,Be,Oc]
  have A:cB _:=r;clear r t v C;go_enter func15,ntmps15;go_wp2_with fail;refine zB (by kernel_rfl) (by kernel_rfl) ?_;repeat (go_big_quiet_step (first|(go_at_call 60;exact oC (tK z.o _ (d.o _) G.o n.o))|(go_at_call 61;exact oC (dK _ _ _ _ (d.o _) n.o f))|(go_at_call 59;apply bD;apply iO;first|exact i.o|exact A.o|exact B.o|exact F.o)))
  refine wpQuiet_nil ?_;rintro _ ⟨x,rfl⟩;go_wp2;go_ret;exact⟨oB E.o.symm,D.o x⟩
 have I:yB k 0 1000000000000000=eA:=by simpa using r
 have A:cB _:=I;clear r;by_cases s:yB j 0 1000000000000000=dA
 .have E:cB (wE b c k j l=dA):=by show _=_;simp only[wE,s,t,v,C,I,Be,Oc]
  have B:cB _:=s;clear s t v C I;go_enter func15,ntmps15;go_wp2_with fail;refine zB (by kernel_rfl) (by kernel_rfl) ?_;repeat (go_big_quiet_step (first|(go_at_call 60;exact oC (tK z.o _ (d.o _) G.o n.o))|(go_at_call 61;exact oC (dK _ _ _ _ (d.o _) n.o f))|(go_at_call 59;apply bD;apply iO;first|exact i.o|exact A.o|exact B.o|exact F.o)))
  refine wpQuiet_nil ?_;rintro _ ⟨x,rfl⟩;go_wp2;go_ret;exact⟨oB E.o.symm,D.o x⟩
 have K:yB j 0 1000000000000000=eA:=by simpa using s
 have B:cB _:=K;clear s;have E:cB (wE b c k j l=yB l 0 1000000000000000):=by show _=_;simp only[wE,t,v,C,I,K,Oc]
 clear t v C I K;obtain⟨g,J⟩:∃g,yB l 0 1000000000000000=g:=⟨_,rfl⟩
 rw[J]at E;have F:cB _:=J;clear J;go_enter func15,ntmps15;go_wp2_with fail;refine zB (by kernel_rfl) (by kernel_rfl) ?_;repeat (go_big_quiet_step (first|(go_at_call 60;exact oC (tK z.o _ (d.o _) G.o n.o))|(go_at_call 61;exact oC (dK _ _ _ _ (d.o _) n.o f))|(go_at_call 59;apply bD;apply iO;first|exact i.o|exact A.o|exact B.o|exact F.o)))
 refine wpQuiet_nil ?_;rintro _ ⟨x,rfl⟩;go_wp2;go_ret;exact⟨oB E.o.symm,D.o x⟩
