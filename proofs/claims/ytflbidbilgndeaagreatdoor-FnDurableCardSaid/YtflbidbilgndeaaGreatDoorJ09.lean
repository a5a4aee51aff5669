import Derived.Test.YtflbidbilgndeaaGreatDoorJ06
import Derived.Deep.RegionHeld3
import Derived.Shelf.Spec.SlicesInsert
import Derived.Stop.Asserts
set_option maxRecDepth 100000
set_option maxHeartbeats 4000000
set_option linter.defProp false
open Bool renaming false->cA,true->dA
open ByteArray renaming empty->kA
open Option renaming some->bA
open List renaming length->yA
namespace Go.Proofs.YtflbidbilgndeaaGreatDoor
open Go renaming Value->iA,World->eA,TypeId->jA
open Value renaming slice->pA,bool->qA,tuple->xA,string->oA
open Ending renaming returned->uA
open Obj renaming cells->vA
open Go.RowKit Tryz
def GV(r:Rd):dC×Rd:=(⟨(oG 1 r).1,(oG 2 (oG 1 r).2).1⟩,(oG 2 (oG 1 r).2).2)
def sW(r:Rd):Nat->List dC×Rd
 |0=>([],r)
 |k+1=>((sW r k).1++[(GV (sW r k).2).1],(GV (sW r k).2).2)
def ZM(key:jB):Nat:=(mK 1 ⟨key,cA⟩).1
def kH(key:jB):List dC×Rd:=sW (mK 1 ⟨key,cA⟩).2 (ZM key)
def eS(r:Rd):Bool:=!r.H&&(r.rest.toList==ByteArray.empty.toList)
def pG(key:jB):List dC×Bool:=if (eS (kH key).2&&tO (kH key).1)=dA then((kH key).1,dA) else([],cA)
theorem vj(r:Rd):GV r=(⟨(oG 1 r).1,(oG 2 (oG 1 r).2).1⟩,(oG 2 (oG 1 r).2).2):=by rw[GV]
theorem II(r:Rd)(k:Nat):sW r (k+1)=((sW r k).1++[(GV (sW r k).2).1],(GV (sW r k).2).2):=by rw[sW]
def EU(r:Rd):∀k,yA (sW r k).1=k
 |0=>rfl
 |k+1=>by rw[sW];simp[EU r k]
def aAy{r:Rd}(h:(GV r).2.H=cA):r.H=cA/\r.rest=aN (GV r).1.N++aG (GV r).1.V++(GV r).2.rest:=by
 obtain⟨c,d⟩:=TL (k:=2) (r:=(oG 1 r).2) h;obtain⟨a,b⟩:=TL (k:=1) (r:=r) c;refine⟨a,?_⟩;rw[b,d];apply DU;simp[GV,aN,aG]
def aFo{r:Rd}{l:dC}{q:jB}(h:r.rest=aN l.N++aG l.V++q)(c:l.N.size<256)(d:l.V.size<65536):GV r=(l,⟨q,r.H⟩):=by
 have e:r.rest=pB 1 (l.N.size:Nat)++(l.N++(aG l.V++q)):=by
  rw[h];apply DU;simp[aN]
 have a:=KN e (by omega);have b:oG 2 (oG 1 r).2=(l.V,⟨q,r.H⟩):=by
  rw[a];exact KN (r:=⟨aG l.V++q,r.H⟩) (by show aG l.V++q=_;apply DU;simp[aG]) (by omega)
 rw[GV,b,a]
def aGs{r:Rd}(k:Nat):(sW r k).2.H=cA->r.H=cA/\r.rest=mD (sW r k).1++(sW r k).2.rest:=by
 induction k with
 |zero=>
  intro h;refine⟨h,?_⟩;show r.rest=kA++r.rest;apply DU;simp
 |succ k f=>
  intro h;rw[II]at h |-
  simp only at h |-
  obtain⟨d,e⟩:=aAy h;obtain⟨b,c⟩:=f d;refine⟨b,?_⟩;generalize sW r k=R at *;generalize GV R.2=L at *;rw[c,e,cN];have a:mD [L.1]=aN L.1.N++aG L.1.V:=by
   show aN L.1.N++aG L.1.V++kA=_;apply DU;simp
  rw[a];apply DU;simp
def aDi(a:List dC):Prop:=∀i(h:i<yA a),a[i].N.size<256/\a[i].V.size<65536
def cg{r:Rd}{a:List dC}{q:jB}(h:r.rest=mD a++q)(b:aDi a):∀k,k<=yA a->sW r k=(a.take k,⟨mD (a.drop k)++q,r.H⟩)
 |0,_=>by
  cases r
  simp only at h;simp[sW,h]
 |k+1,f=>by
  have d:=cg h b k (by omega);have e:mD (a.drop k)++q=aN a[k].N++aG a[k].V++(mD (a.drop (k+1))++q):=by
   rw[Cb (by omega)];apply DU;simp[mD]
  have c:=aFo (r:=⟨mD (a.drop k)++q,r.H⟩) e (b k (by omega)).1 (b k (by omega)).2;rw[II,d,c,Pa (by omega)]
def SN(s:jB):∀(b p:Nat)(l:List Nat),s.size<=p+b->aK s b p=bA l->s.size<=p+4*yA l
 |0,p,l,c,_=>by omega
 |b+1,p,l,c,h=>by
  rw[aK]at h;split at h
  .split at h
   .exact absurd h (by simp)
   obtain ⟨d,a,rfl⟩:=Wb.1 h;have e:=nX s p;have f:=(tZ s p).2;have:=SN s b _ d (by omega) a;simp;omega
  omega
def aHn{s:jB}(h:qP s=0):s.size<=512:=by
 unfold qP at h;split at h;exact absurd h (by simp)
 rename_i l a;unfold UJ at h;split at h
 .exact absurd h (by simp)
 have:=SN s s.size 0 l (by omega) a;omega
def CQ:∀(b:List dC)(j:Nat),jD b j=none->∀i(h:i<yA b),yR b[i]=0
 |[],_,_,i,h=>absurd h (by simp)
 |l::r,j,a,i,h=>by
  rw[jD]at a;split at a
  .rename_i c;cases i with
   |zero=>exact c
   |succ i=>exact CQ r _ a i (by simpa using h)
  exact absurd a (by simp)
theorem xZ:∀(l:List dC)(j c i:Nat),jD l j=bA (c,i)->c≠0
 |[],_,_,_,h=>by simp[jD]at h
 |x::r,j,c,i,h=>by
  rw[jD]at h;split at h;exact xZ r _ _ _ h
  rename_i a;simp only[Qa,Dc]at h;rw[<-h.1];exact a
def BL{a:List dC}(h:tO a=dA):aDi a:=by
 have k:=aDt h;have j:=OW h;have f:(xB a).2.1=0:=by rw[k]
 have b:jD a 0=none:=by
  cases b:jD a 0 with
  |none=>rfl
  |some g=>
   obtain⟨c,i⟩:=g;rw[BM (by omega) b]at f;exact absurd f (xZ a 0 c i b)
 intro i l;have d:=CQ a 0 b i l;unfold yR at d;split at d
 .rename_i m;have e:bj a[i].N:=by simpa[RO]using m
  have:=aHn d;exact⟨by have:=e.2.1;omega,by omega⟩
 exact absurd d (by simp)
theorem gc{a:List dC}(h:tO a=dA):pG (uH a)=(a,dA):=by
 have c:=OW h;have i:=BL h;have b:bG 1 ⟨uH a,cA⟩=(pB 1 (yA a:Nat),⟨mD a,cA⟩):=yW rfl (gB 1 _);have f:ZM (uH a)=yA a:=by
  show jT (bG 1 ⟨uH a,cA⟩).1.data.toList=_;rw[b];exact qQ 1 (yA a) (by omega)
 have g:(mK 1 ⟨uH a,cA⟩).2=⟨mD a,cA⟩:=by
  show(bG 1 ⟨uH a,cA⟩).2=_;rw[b]
 have d:kH (uH a)=(a,⟨kA,cA⟩):=by
  unfold kH;rw[f,g];have e:=cg (r:=⟨mD a,cA⟩) (q:=kA) (by apply DU;simp) i (yA a) (Ia _);rw[e,Rb,Kg];simp[mD]
 unfold pG;rw[d];simp only;rw[Ma (by simp[eS,h])]
theorem ZT{key:jB}(h:(pG key).2=dA):tO (pG key).1=dA/\uH (pG key).1=key:=by
 unfold pG at h |-
 split at h
 .rename_i hw;rw[Ma hw];rw[Sa]at hw;refine⟨hw.2,?_⟩;have a:=hw.1;unfold eS at a;rw[Sa]at a;have d:(kH key).2.H=cA:=by simpa using a.1
  have c:(kH key).2.rest=kA:=toList_inj (by simpa using a.2);obtain⟨g,i⟩:=aGs (r:=(mK 1 ⟨key,cA⟩).2) (ZM key) d;obtain⟨m,k,l⟩:=FE (n:=1) (r:=⟨key,cA⟩) g;have j:yA (kH key).1=ZM key:=EU _ _;have e:pB 1 (yA (kH key).1:Nat)=(bG 1 ⟨key,cA⟩).1:=by
   rw[j];have:=vr (bG 1 ⟨key,cA⟩).1.data.toList 1 (by rw[<-fR];exact k);show pB 1 (jT (bG 1 ⟨key,cA⟩).1.data.toList:Nat)=_;rw[this]
  show pB 1 (yA (kH key).1:Nat)++mD (kH key).1=key;have b:(bG 1 ⟨key,cA⟩).2.rest=mD (kH key).1++(kH key).2.rest:=i;have f:key=(bG 1 ⟨key,cA⟩).1++(bG 1 ⟨key,cA⟩).2.rest:=l;rw[e];conv=>rhs;rw[f,b,c]
  apply DU;simp
 exact absurd h (by simp)
theorem NY{key:jB}(h:(pG key).2=cA):pG key=([],cA)/\∀a,tO a=dA->uH a≠key:=by grind [pG,tO,uH,gc]
theorem aGr(r:Rd)(k:Nat):(sW r k).2.rest.size<=r.rest.size/\∀i(h:i<yA (sW r k).1),(sW r k).1[i].N.size<=r.rest.size/\(sW r k).1[i].V.size<=r.rest.size:=by induction k<;>grind [sW,oG,xc,II,vj]
def aBx(key:jB):∀i(h:i<yA (kH key).1),(kH key).1[i].N.size<=key.size/\(kH key).1[i].V.size<=key.size:=by grind [kH,mK,ZM,aGr,CG]
structure zI where
 b:Nat
 t:Int
def nD(l:List zI)(i:Nat):zI:=l.getD i ⟨0,0⟩
def eH(l:List zI)(i j:Nat):List zI:=(l.set i (nD l j)).set j (nD l i)
def GN{l:List zI}{i:Nat}(h:i<yA l):nD l i=l[i]:=by simp[nD,List.getD,Va h]
def pD(l:List zI)(i j:Nat):yA (eH l i j)=yA l:=by simp[eH]
theorem gJ{l:List zI}{i j:Nat}(a:i<yA l)(b:j<yA l)(k:Nat):nD (eH l i j) k=if k=j then nD l i else if k=i then nD l j else nD l k:=by grind [nD,eH]
def FC{l:List zI}{i j:Nat}(a:i<yA l)(b:j<yA l):(eH l i j).Perm l:=by
 unfold eH;rw[GN a,GN b];exact List.set_set_perm a b
def uJ(l:List zI):Prop:=∀i,0<i->i<yA l->(nD l ((i-1) / 2)).t<=(nD l i).t
def dX(l:List zI)(k:Nat):Prop:=(∀i,0<i->i<yA l->i≠k->(nD l ((i-1) / 2)).t<=(nD l i).t)/\∀i,0<i->i<yA l->(i-1) / 2=k->0<k->(nD l ((k-1) / 2)).t<=(nD l i).t
def uJ.push{l:List zI}(h:uJ l)(x:zI):dX (l++[x]) (yA l):=by grind [uJ,dX,nD]
def dX.done{l:List zI}{k:Nat}(h:dX l k)(a:k=0\/(nD l ((k-1) / 2)).t<=(nD l k).t):uJ l:=by grind [dX,nD,uJ]
def dX.step{l:List zI}{k:Nat}(h:dX l k)(e:k<yA l)(p:0<k)(r:(nD l k).t<(nD l ((k-1) / 2)).t):dX (eH l k ((k-1) / 2)) ((k-1) / 2):=by
 have d:(k-1) / 2<yA l:=by omega
 have o:(k-1) / 2≠k:=by omega
 refine⟨λi a c j=>?_,λi a c n m=>?_⟩
 .rw[pD]at c;rw[gJ e d,gJ e d,Ja j];by_cases b:i=k
  .subst b;rw[Ma rfl,Ma rfl];omega
  rw[Ja b];by_cases f:(i-1) / 2=(k-1) / 2
  .rw[Ma f];have:=h.1 i a c b;rw[f]at this;omega
  rw[Ja f];by_cases g:(i-1) / 2=k
  .rw[Ma g];exact h.2 i a c g p
  rw[Ja g];exact h.1 i a c b
 rw[pD]at c;rw[gJ e d,gJ e d,Ja (by omega:((k-1) / 2-1) / 2≠(k-1) / 2),Ja (by omega:((k-1) / 2-1) / 2≠k),Ja (by omega:i≠(k-1) / 2)];have q:=h.1 ((k-1) / 2) m d o;by_cases b:i=k
 .rw[Ma b];exact q
 rw[Ja b];have:=h.1 i a c b;rw[n]at this;omega
def bS(l:List zI):Nat->List zI
 |0=>l
 |k+1=>if (nD l (k+1)).t<(nD l (k / 2)).t then bS (eH l (k+1) (k / 2)) (k / 2) else l
def MO{l:List zI}{k:Nat}(a:0<k):bS l k=if (nD l k).t<(nD l ((k-1) / 2)).t then bS (eH l k ((k-1) / 2)) ((k-1) / 2) else l:=by
 obtain⟨j,rfl⟩:∃j,k=j+1:=⟨k-1,by omega⟩
 rw[bS,Nat.add_sub_cancel]
def MP(l:List zI):bS l 0=l:=by rw[bS]
def MN:∀(k:Nat)(l:List zI),k<yA l->dX l k->uJ (bS l k)/\(bS l k).Perm l/\yA (bS l k)=yA l
 |0,l,_,h=>by rw[MP];exact⟨h.done (Ca rfl),Lf _,rfl⟩
 |k+1,l,e,h=>by
  rw[MO (by omega)];by_cases d:(nD l (k+1)).t<(nD l ((k+1-1) / 2)).t
  .rw[Ma d];obtain⟨a,b,c⟩:=MN ((k+1-1) / 2) (eH l (k+1) ((k+1-1) / 2)) (by rw[pD];omega) (h.step e (by omega) d);exact⟨a,b.trans (FC e (by omega)),c.trans (pD _ _ _)⟩
  rw[Ja d];exact⟨h.done (La (by omega)),Lf _,rfl⟩
def gS(l:List zI)(x:zI):List zI:=bS (l++[x]) (yA l)
def ET{l:List zI}(h:uJ l)(x:zI):uJ (gS l x)/\(gS l x).Perm (x::l)/\yA (gS l x)=yA l+1:=by
 obtain⟨a,b,c⟩:=MN (yA l) (l++[x]) (by simp) (h.push x);exact⟨a,b.trans (List.perm_append_singleton x l),by rw[gS,c];simp⟩
structure yD where
 fs:List iB
 c:Int
 k:Int
 cr:Int
 fl:Int
 dn:Bool
structure iH where
 first:Int
 last:Int
 size:Int
structure wC where
 d:yD
 l:iH
 now:Int
 ts:List fB
 lsn:Int
 deg:Bool
 up:Bool
def sC(a:mC)(e:Nat)(b:mC)(f:Nat)(N:wC):Array iA:=#[pA a (yA N.d.fs) e,zA N.d.c,zA N.d.k,zA N.d.cr,zA N.d.fl,qA N.d.dn,zA N.l.first,zA N.l.last,zA N.l.size,zA N.now,pA b (yA N.ts) f,zA N.lsn,qA N.deg,qA N.up]
def nB.n14{w:eA}{b:Nat}{a c d e f g i j k l m n o p:iA}{t:jA}(h:nB w b #[a,c,d,e,f,g,i,j,k,l,m,n,o,p] t):
 w.cell? (dB b 0)=bA a/\w.cell? (dB b 1)=bA c/\w.cell? (dB b 2)=bA d/\w.cell? (dB b 3)=bA e/\w.cell? (dB b 4)=bA f/\w.cell? (dB b 5)=bA g/\w.cell? (dB b 6)=bA i/\
 w.cell? (dB b 7)=bA j/\w.cell? (dB b 8)=bA k/\w.cell? (dB b 9)=bA l/\w.cell? (dB b 10)=bA m/\w.cell? (dB b 11)=bA n/\w.cell? (dB b 12)=bA o/\w.cell? (dB b 13)=bA p:=by
 refine⟨?_,?_,?_,?_,?_,?_,?_,?_,?_,?_,?_,?_,?_,?_⟩<;>(rw[nB.cell h];rfl)
def nB.frees{w:eA}{b:Nat}{cs:Array iA}{t:jA}(h:nB w b cs t):w.frozen? (dB b 0)=cA/\w.frozen? (dB b 1)=cA/\w.frozen? (dB b 2)=cA/\w.frozen? (dB b 3)=cA/\w.frozen? (dB b 4)=cA/\w.frozen? (dB b 5)=cA/\w.frozen? (dB b 6)=cA/\
 w.frozen? (dB b 7)=cA/\w.frozen? (dB b 8)=cA/\w.frozen? (dB b 9)=cA/\w.frozen? (dB b 10)=cA/\w.frozen? (dB b 11)=cA/\w.frozen? (dB b 12)=cA/\w.frozen? (dB b 13)=cA:=
 ⟨h.free 0,h.free 1,h.free 2,h.free 3,h.free 4,h.free 5,h.free 6,h.free 7,h.free 8,h.free 9,h.free 10,h.free 11,h.free 12,h.free 13⟩
def aIj{C:eA->Prop}{w:eA}{O:Nat}{r s u v x y i j l m n o p q a b c d e f:iA}{t:jA}(h:nB w O #[r,s,u,v,x,y,i,j,l,m,n,o,p,q] t)
(k:∀g,nB g O #[a,b,c,d,e,f,i,j,l,m,n,o,p,q] t->eB (·=O) w g->C g):C ((((((w.setCell (dB O 0) a).setCell (dB O 1) b).setCell (dB O 2) c).setCell (dB O 3) d).setCell (dB O 4) e).setCell (dB O 5) f):=
 k _ (by have:=((((((h.set 0 a).set 1 b).set 2 c).set 3 d).set 4 e).set 5 f);simpa using this) (((((((eB.refl (·=O) w).setCell (Ca rfl) 0 a).setCell (Ca rfl) 1 b).setCell (Ca rfl) 2 c).setCell (Ca rfl) 3 d).setCell (Ca rfl) 4 e).setCell (Ca rfl) 5 f)
def uP:wC:=⟨⟨[],0,0,0,0,cA⟩,⟨0,0,0⟩,0,[],0,cA,cA⟩
def ee(N:wC):Bool:=N.up&&!N.deg
def lr{c d a b:iA}(e:c=a)(f:d=b):Ending.returned (xA #[c,d])=uA (xA #[a,b]):=by rw[e,f]
def nE(t:jB):List iB->Nat->Int
 |[],_=>-1
 |f::r,i=>if (f.N.toList==t.toList)=dA then i else nE t r (i+1)
def aY(a:mC)(p:Nat)(f:List iB)(c y s v:Int)(u:Bool)(t:jB)(w:eA)(q:tB w a f)(j:yA f<=maxLen):
 dF 41 #[.agg #[pA a (yA f) p,zA c,zA y,zA s,zA v,qA u],oA t] w (zA (nE t f 0)):=by
 unfold maxLen at j;have r:cB (tB w a f):=q;clear q;go_enter func41,ntmps41;go_wp2;go_loopw [5,6,10] (λ_ _ i wr=>∃k:Nat,k<=yA f/\i=zA k/\nE t f 0=nE t (f.drop k) k/\uB w wr) (λ_ _ i _=>yA f-(intOf i).toNat)
 case atStart=>exact⟨0,Oa _,rfl,rfl,zB⟩
 case round=>
  obtain⟨k,F,rfl,h,d⟩:=hrel;have g:cB _:=h;clear h;by_cases l:k<yA f
  .obtain ⟨b,o,rfl,D,A,B,C⟩:=(r.o.z d).at l;have m:=Cb l;by_cases n:(f[k].N.toList==t.toList)=dA
   .have E:cB (nE t f 0=k):=by show _=_;rw[g.o,m,nE,Ma n]
    clear m;go_wp2;go_ret;exact⟨uF E.o.symm,d.alloc d.size _⟩
   have x:(f[k].N.toList==t.toList)=cA:=by simpa using n
   have E:cB (nE t f 0=nE t (f.drop (k+1)) (k+1)):=by show _=_;rw[g.o,m,nE,Ja n]
   clear m n;go_wp2;exact⟨⟨k+1,by omega,by go_num,E.o,d.alloc d.size _⟩,by simp[intOf];omega⟩
  go_wp2;go_ret;have e:f.drop k=[]:=Ie (by omega);exact⟨uF (by rw[g.o,e];rfl),d⟩
def pV(a:List iB):Prop:=∀i j(b:i<j)(c:j<yA a),Op.bytesLess a[i].N.toList a[j].N.toList=dA
def aBp{a:List iB}{j:Nat}(h:uU a (j+1)=dA)(b:j+1<yA a):Op.bytesLess a[j].N.toList a[j+1].N.toList=dA:=by grind [uU]
def gT{a:List iB}(h:iI a=dA):pV a:=by
 simp only[iI,dU,Ke,Xg]at h;intro i j f b;induction j with
 |zero=>omega
 |succ j d=>
  have c:=aBp (h (j+1) b) b;by_cases e:i=j
  .subst e;exact c
  exact rJ _ _ _ (d (by omega) (by omega)) c
def qY(a:List iB)(t:jB)(i:Nat):Prop:=i<=yA a/\(∀j(h:j<yA a),j<i->Op.bytesLess a[j].N.toList t.toList=dA)/\(∀j(h:j<yA a),i<=j->Op.bytesLess a[j].N.toList t.toList=cA)
def gC(t:jB):List iB->Nat
 |[]=>0
 |f::r=>if Op.bytesLess f.N.toList t.toList=dA then gC t r+1 else 0
def qY.uniq{d:List iB}{t:jB}{i j:Nat}(h:qY d t i)(k:qY d t j):i=j:=by
 rcases Nat.lt_trichotomy i j with c|e|c;have a:=k.2.1 i (by have:=k.1;omega) c;have b:=h.2.2 i (by have:=k.1;omega) (Ia _);rw[a]at b;exact absurd b (by simp);exact e;have a:=h.2.1 j (by have:=h.1;omega) c;have b:=k.2.2 j (by have:=h.1;omega) (Ia _);rw[a]at b;exact absurd b (by simp)
def dJ(a:List iB)(t:jB)(i:Nat):Bool:=match a[i]? with
 |none=>cA
 |some f=>f.N.toList==t.toList
def fv{x y:jB}:(qZ x y<0) ↔ Op.bytesLess x.toList y.toList=dA:=by
 unfold qZ;split<;>(try split)<;>simp_all
def ym{x y:jB}:(qZ x y==0)=(x.toList==y.toList):=by grind [qZ,yE]
def su(a:mC)(A:Nat)(d:List iB)(t:jB)(w:eA)(I:tB w a d)(n:pV d)(K:yA d<=1048576):
 Calls prog 182 #[pA a (yA d) A,oA t,.func (.func 183) #[] #[]] w λe z=>
  ∃i,qY d t i/\e=uA (xA #[zA i,qA (dJ d t i)])/\uB w z:=by
 have G:cB (tB w a d):=I;have F:cB (pV d):=n;clear I n;go_enter func182,ntmps182;go_wp2;go_loopw [9,10,11] (λi j _ wr=>∃f l:Nat,i=zA f/\j=zA l/\f<=l/\l<=yA d/\(∀m(h:m<yA d),m<f->Op.bytesLess d[m].N.toList t.toList=dA)/\
  (∀m(h:m<yA d),l<=m->Op.bytesLess d[m].N.toList t.toList=cA)/\uB w wr) (λi j _ _=>(intOf j).toNat-(intOf i).toNat)
 case atStart=>exact⟨0,yA d,rfl,rfl,Oa _,Ia _,λm h k=>absurd k (by omega),λm h k=>absurd k (by omega),iD⟩
 case round=>
  obtain⟨f,l,rfl,rfl,P,x,q,p,c⟩:=hrel;have v:cB _:=q;have u:cB _:=p;clear q p;by_cases Q:f<l
  .obtain ⟨m,R⟩:∃m:Nat,m=(f+l) / 2:=⟨_,rfl⟩
   have U:((f:Int)+(l:Int)) / 2=(m:Int):=by omega
   have C:f<=m:=by omega
   have S:m<l:=by omega
   have y:m<yA d:=by omega
   clear R;obtain⟨b,o,rfl,O,L,M,N⟩:=(G.o.z c).at y;by_cases r:Op.bytesLess d[m].N.toList t.toList=dA
   .have T:=fv.2 r;have s:cB _:=r;clear r;go_wp2_with fail;apply lC (EA _ _ _ _ _);intro z g;go_wp2;refine⟨⟨m+1,l,by go_num,rfl,by omega,x,λj J B=>?_,u.o,c.trans (g.mono c.size)⟩,by simp[intOf];omega⟩;by_cases e:j=m
    .subst e;exact s.o
    exact rJ _ _ _ (F.o j m (by omega) y) s.o
   have T:¬qZ d[m].N t<0:=λh=>r (fv.1 h);have s:cB (Op.bytesLess d[m].N.toList t.toList=cA):=by show _=_;simpa using r
   clear r;go_wp2_with fail;apply lC (EA _ _ _ _ _);intro z g;go_wp2;refine⟨⟨f,m,rfl,rfl,C,by omega,v.o,λj J B=>?_,c.trans (g.mono c.size)⟩,by simp[intOf];omega⟩;by_cases e:j=m
   .subst e;exact s.o
   rw[Yc];intro h;have:=rJ _ _ _ (F.o m j (by omega) J) h;rw[s.o]at this;exact absurd this (by simp)
  obtain rfl:f=l:=by omega
  have H:cB (qY d t f):=⟨x,v.o,u.o⟩
  by_cases D:f<yA d
  .obtain ⟨b,o,rfl,O,L,M,N⟩:=(G.o.z c).at D;have E:cB ((qZ d[f].N t==0)=dJ d t f):=by show _=_;rw[ym];simp[dJ,Va D]
   go_wp2_with fail;apply lC (EA _ _ _ _ _);intro z g;go_wp2;go_ret2;exact⟨f,H.o,lr rfl (Kd iA.bool E.o),c.trans (g.mono c.size)⟩
  have E:cB (dJ d t f=cA):=by show _=_;simp[dJ,Fd (Nat.not_lt.1 D)]
  go_wp2;go_ret2;exact⟨f,H.o,lr rfl (Kd iA.bool E.o.symm),c⟩
def GH(a:mC)(d:Nat)(b:List iB)(t:jB)(w:eA)(g:tB w a b)(c:pV b)(f:yA b<=1048576):
 Calls prog 122 #[pA a (yA b) d,oA t] w λe j=>
  ∃i,qY b t i/\e=uA (xA #[zA i,qA (dJ b t i)])/\uB w j:=by
 have l:cB (tB w a b):=g;have k:cB (pV b):=c;clear g c;go_enter func122,ntmps122;go_wp2_with fail;refine(su a d b t _ l.o k.o f).mono ?_;rintro e j ⟨i,h,rfl,n⟩;have m:cB (qY b t i):=h;clear h;go_wp2;go_ret2;exact⟨i,m.o,rfl,n⟩
theorem wZ{a:List iB}{t:jB}(p:pV a){i:Nat}(u:qY a t i):nE t a 0=if dJ a t i=dA then(i:Int) else -1:=by
 have o:∀(n k:Nat),k+n=yA a->(∀j(h:j<yA a),j<k->(a[j].N.toList==t.toList)=cA)->nE t (a.drop k) k=if dJ a t i=dA then(i:Int) else -1:=by
  intro n;induction n with
  |zero=>
   intro k r c;rw[Ie (by omega),nE];rw[Ja];intro h;unfold dJ at h;split at h;exact absurd h (by simp)
   rename_i f q;obtain⟨b,rfl⟩:=Pb.1 q;rw[c i b (by omega)]at h;exact absurd h (by simp)
  |succ n w=>
   intro k r c;have b:k<yA a:=by omega
   rw[Cb b,nE];by_cases d:(a[k].N.toList==t.toList)=dA
   .rw[Ma d];have v:qY a t k:=by
     have e:a[k].N.toList=t.toList:=by simpa using d
     refine⟨by omega,λj l g=>?_,λj l s=>?_⟩;rw[<-e];exact p j k g b;rw[<-e];by_cases m:j=k
     .subst m;exact yE _
     exact eO (p k j (by omega) l)
    obtain rfl:=u.uniq v;rw[Ma];simp[dJ,Va b,d]
   .rw[Ja d];refine w (k+1) (by omega) λj l g=>?_;by_cases m:j=k
    .subst m;simpa using d
    exact c j l (by omega)
 have:=o (yA a) 0 (by omega) (λj _ h=>absurd h (by omega));simpa using this
structure kD(w:World)(B D:Nat)(fs:List iB)(c k cr fl:Int)(dn:Bool)(v:Value):Prop where
 from':B≤D
 blk:nB w D #[zA k,zA cr,zA fl,qA dn,v,zA c] 102
 row:w.ownsRow B 104 3 v (yA fs) (flat fs)
 apart:∀g,v.ownBlock=bA g→g≠D
def kD.z{w g:eA}{B D:Nat}{e:List iB}{c k a d:Int}{b:Bool}{v:iA}(h:kD w B D e c k a d b v)(f:uB w g):kD g B D e c k a d b v:=
 ⟨h.from',h.blk.z f,hC h.row f,h.apart⟩
def BZ(a:mC)(d:Nat)(f:List iB)(c k l n:Int)(m:Bool)(w:eA)(t:tB w a f)(o:yA f<=1048576):
 Calls prog 19 #[.agg #[pA a (yA f) d,zA c,zA k,zA l,zA n,qA m]] w λe b=>
  ∃D v,e=uA (.pointer (yB D))/\kD b w.1.size D f c k l n m v/\uB w b:=by
 have u:cB (tB w a f):=t;clear t;obtain⟨A,B,C,E,F,G⟩:=rP.new w (pA a (yA f) d) (zA c) (zA k) (zA l) (zA n) (qA m) 35;have p:cB (∀b,Below (w.alloc (vA #[pA a (yA f) d,zA c,zA k,zA l,zA n,qA m] 35)).1.size (w.alloc (vA #[pA a (yA f) d,zA c,zA k,zA l,zA n,qA m] 35)) b->tC b w.1.size 0 (pA a (yA f) d)/\tC b w.1.size 1 (zA c)/\tC b w.1.size 2 (zA k)/\tC b w.1.size 3 (zA l)/\tC b w.1.size 4 (zA n)/\tC b w.1.size 5 (qA m)):=λb h=>
  (rP.new w (pA a (yA f) d) (zA c) (zA k) (zA l) (zA n) (qA m) 35).z h
 go_enter func19,ntmps19;go_wp2_with fail;go_region_held3 (λb=>b.cell? (dB w.1.size 0)=bA (pA a (yA f) d)/\b.cell? (dB w.1.size 1)=bA (zA c)/\b.cell? (dB w.1.size 2)=bA (zA k)/\b.cell? (dB w.1.size 3)=bA (zA l)/\b.cell? (dB w.1.size 4)=bA (zA n)/\b.cell? (dB w.1.size 5)=bA (qA m))
  (first|(exact p.o _ (vB (vB iD.drew j) zB))|(exact p.o _ (vB iD.drew j))|(exact p.o _ iD.drew))
  (first
  |(go_at_call 67;refine(VP a d f _ ((u.o.z zB).z iD.drew) o).mono ?_;rintro e y ⟨v,rfl,i,j⟩;obtain⟨z,s,rfl⟩:=tF i))
 go_wp2;go_ret;have q:=j.size;have r:=jP i;refine⟨y.1.size,_,rfl,⟨?_,heap_alloc_new _ _,qI (hC i zB) (by simp),?_⟩,vB (vB zB (vB iD.drew j)) zB⟩
 .simp at q;omega
 intro g x;have:=r g x;omega
def nc(b o:Nat)(c:Array iA)(t:jA)(d:jB)(w:eA)(f:nB w b c t)(g:c[o+1]?=bA (oA d))(h:o+2<c.size):
 Calls prog 93 #[.pointer (bA (dB b o))] w λe j=>e=uA (xA #[])/\j=w.setCell (dB b (o+2)) (zA d.size):=by
 have i:=f.cell (o+1);rw[g]at i;obtain⟨l,k⟩:=f.there h;have a:=f.free (o+2);clear f g h;go_enter func93,ntmps93;go_wp2;go_end0;exact⟨rfl,rfl⟩
def nV(D:Nat)(t:jA)(a:mC)(n d:Nat)(c k f h:Int)(g:Bool)(w:eA)(i:nB w D #[zA k,zA f,zA h,qA g,pA a n d,zA c] t):
 dF 21 #[.pointer (yB D)] w (.agg #[pA a n d,zA c,zA k,zA f,zA h,qA g]):=by
 have b:=i.z (wF w (vA #[pA none 0 0,zA 0,zA 0,zA 0,zA 0,qA cA] 35));have j:=b.cell 0;have l:=b.cell 1;have m:=b.cell 2;have o:=b.cell 3;have p:=b.cell 4;have q:=b.cell 5;simp only[Xb,Ob,Ga]at j l m o p q;clear i b;go_enter func21,ntmps21;go_wp2_with fail;go_region
 go_wp2;exact bodyPost_ret (v:=.agg #[pA a n d,zA c,zA k,zA f,zA h,qA g]) (by simp[results,results21,go_sem]) rfl ⟨rfl,zB.drew⟩
structure lE(S:Nat→Prop)(w w':World):Prop where
 os:w'.os=w.os
 tape:w'.tape=w.tape
 output:w'.output=w.output
 size:w.1.size≤w'.1.size
 block:∀k,k<w.1.size→¬S k→w'.heap[k]?=w.heap[k]?
def lE.refl(S:Nat->Prop)(w:eA):lE S w w:=⟨rfl,rfl,rfl,Ia _,λ_ _ _=>rfl⟩
def lE.trans{S:Nat->Prop}{a b c:eA}(h:lE S a b)(k:lE S b c):lE S a c:=
 ⟨k.os.trans h.os,k.tape.trans h.tape,k.output.trans h.output,Ua h.size k.size,λi e d=>(k.block i (Bb e h.size) d).trans (h.block i e d)⟩
def lE.of{S:Nat->Prop}{w a:eA}(h:uB w a):lE S w a:=⟨h.os,h.tape,h.output,h.size,λk b _=>h.block k b⟩
def lE.mono{S T:Nat->Prop}{w a:eA}(h:lE S w a)(c:∀k,S k->T k):lE T w a:=⟨h.os,h.tape,h.output,h.size,λk b d=>h.block k b (λx=>d (c k x))⟩
def lE.below{S:Nat->Prop}{B:Nat}{w a:eA}(h:lE S w a)(b:∀k,S k->B<=k)(d:B<=w.1.size):Below B w a:=
 ⟨h.os,h.tape,h.output,h.size,λk c=>h.block k (by omega) (λx=>by have:=b k x;omega)⟩
def lE.but{g:Nat}{w a:eA}(h:qD g w a):lE (λk=>k=g) w a:=⟨h.os,h.tape,h.output,h.size,h.block⟩
def lE.setCell{S:Nat->Prop}{a w:eA}(h:lE S a w){g:Nat}(b:S g)(o:Nat)(v:iA):lE S a (w.setCell (dB g o) v):=
 h.trans ⟨rfl,rfl,rfl,by simp[eA.setCell],λk _ c=>Below.heap_setCell _ _ _ _ (λe=>c (by rw[e];exact b))⟩
def lE.setCells{S:Nat->Prop}{g:Nat}(b:S g):∀(c:List iA)(o:Nat){a w:eA},lE S a w->lE S a (w.setCells g o c)
 |[],_,_,_,h=>h
 |v::r,o,_,_,h=>lE.setCells b r (o+1) (h.setCell b o v)
def lE.drew{S:Nat->Prop}{a w:eA}(h:lE S a w):lE S a w.drew:=⟨h.os,h.tape,h.output,h.size,h.block⟩
def lE.grown{S:Nat->Prop}{w a:eA}{f:Option Nat}(h:w.grownBy a f)(d:∀g,f=bA g->S g):lE S w a:=
 ⟨h.os,h.tape,h.output,h.size,λk c b=>h.block k c (λe=>b (d k e.symm))⟩
def nB.keeps{S:Nat->Prop}{w c:eA}{g:Nat}{a:Array iA}{t:jA}(h:nB w g a t)(d:lE S w c)(b:¬S g):nB c g a t:=(d.block g (aB h) b).trans h
def nB.setCells{g:Nat}{t:jA}:∀(f:List iA)(o:Nat){w:eA}{a:Array iA},nB w g a t->∃b,nB (w.setCells g o f) g b t/\b.size=a.size
 |[],_,_,a,h=>⟨a,h,rfl⟩
 |v::r,o,_,a,h=>by
  obtain⟨c,d,e⟩:=nB.setCells r (o+1) (h.set o v);exact⟨c,d,by rw[e];simp⟩
def rS{w:eA}{B g n a:Nat}{b:Array iA}{e:jA}{c:List iA}(f:B<=g)(h:nB w g b e)(m:n<=a)(l:a<=maxLen)(o:b.size=a*3)(p:yA c=n*3)
(i:∀j u,c[j]?=bA u->w.cell? (dB g j)=bA u):w.ownsRow B e 3 (pA (yB g) n a) n c:=by
 refine⟨p,La ⟨g,a,b,rfl,f,h,m,l,o,?_⟩⟩;apply List.ext_getElem?;intro j;by_cases k:j<n*3
 .rw[Jb k];have d:=i j c[j] (Va (by omega));rw[h.cell]at d;rw[Yd,d,Va (by omega)]
 rw[Fd (by simp;omega),Fd (by omega)]
def lS{w:eA}{B g n m a:Nat}{e:jA}{l:List iA}(h:w.ownsRow B e 3 (pA (yB g) m a) n l):
 ∃b,B<=g/\m=n/\nB w g b e/\n<=a/\a<=maxLen/\b.size=a*3/\∀j u,l[j]?=bA u->w.cell? (dB g j)=bA u:=by
 obtain⟨d,_⟩|⟨t,i,b,d,o,k,q,p,r,s⟩:=h.2;exact absurd d (by simp);simp only[iA.slice.injEq,Qa,Addr.mk.injEq,Cc]at d;obtain⟨rfl,rfl,rfl⟩:=d;refine⟨b,o,rfl,k,q,p,r,λj u c=>?_⟩;rw[nB.cell k];rw[<-s]at c;have f:=(Pb.1 c).1;rw[Hb]at f;rw[Jb (by omega)]at c;simpa using c
def xQ{P:Program}(w:eA)(n B C d:jA)(b o c g:Nat)(a:Addr)(e l k f:Nat)(cs:List iA)
(A:P.underlying n=bA (.slice d))(z:(P.info? d).map (·.size)=bA f)(t:Nat.min e c=k)(x:yA cs=k*f)
(h:∀j v,cs[j]?=bA v->w.cell? (a.add j)=bA v)(q:∀j,j<yA cs->(w.cell? (dB b (o+j))).isSome=dA)(r:∀j,j<yA cs->w.frozen? (dB b (o+j))=cA)(p:∀v∈cs,v.oneCell'=dA):
 (Builtin.copy_ #[n,B] C #[pA (bA (dB b o)) c g,pA (bA a) e l]).run P w=.ok (goInt k) (w.setCells b o cs):=by
 have u:=run_loadCells_list (P:=P) w a cs h;have m:=run_storeCells_cells (P:=P) b o cs 0 w (by simpa using q) (by simpa using r) p;obtain⟨i,y,s⟩:=Wb.1 z;simp[Builtin.copy_,run_underlying A,Builtin.lenOf,Builtin.firstCells,sizeOf,typeInfo,y,s,t,<-x,u,m]
def BE:List iA:=[oA kA,oA kA,zA 0]
def UU{P:Program}(w:eA)(t m e:jA)(i:TypeInfo)(k:P.underlying t=bA (.slice e))(h:P.info? e=bA i)(l:i.zero=bA (.agg #[oA kA,oA kA,zA 0]))
(b o c:Nat)(f:∀j,j<3->(w.cell? (dB b (o+j))).isSome=dA)(g:∀j,j<3->w.frozen? (dB b (o+j))=cA):
 (Builtin.clear_ #[t] m #[pA (bA (dB b o)) 1 c]).run P w=.ok (xA #[]) (w.setCells b o BE):=by
 have a:=run_storeCells_cells (P:=P) b o BE 0 w (by simpa[BE]using f) (by simpa[BE]using g) (by simp[BE,iA.oneCell']);have d:(Builtin.zeroCells (iA.agg #[oA kA,oA kA,zA 0]).cells 1).toList=BE:=by kernel_rfl
 simp[Builtin.clear_,run_underlying k,zeroValue,typeInfo,h,l,d,a]
def pn(a:List iB)(i:Nat):flat (a.eraseIdx i)=flat (a.take i)++flat (a.drop (i+1)):=by
 rw[List.eraseIdx_eq_take_drop_succ,flat_append]
theorem QP(a:List iB)(i:Nat):flat a=flat (a.take i)++flat (a.drop i):=by
 rw[<-flat_append,Za]
def uV(a:List iB)(i j:Nat)(h:i<=yA a):(flat (a.drop i))[j]?=(flat a)[i*3+j]?:=by
 have b:yA (flat (a.take i))=i*3:=by rw[wE,Hb];omega
 rw[QP a i,Uc (by omega),b];congr 1;omega
def uQ(a:List iB)(i j:Nat)(h:i<=yA a)(b:j<i*3):(flat (a.take i))[j]?=(flat a)[j]?:=by grind [flat,wE,QP]
def kN(a:List iB)(i:Nat)(f:iB):List iB:=a.take i++f::a.drop i
def oO(a:List iB)(i:Nat)(f:iB)(h:i<=yA a):yA (kN a i f)=yA a+1:=by simp[kN];omega
def WW(a:List iB)(i:Nat)(f:iB):flat (kN a i f)=flat (a.take i)++(flat [f]++flat (a.drop i)):=by grind [flat,kN]
def FO(w:eA)(a:Nat)(f:iB):Prop:=nB w a #[oA f.N,oA f.data,zA f.Y] 104
def FO.cells{w:eA}{a:Nat}{f:iB}(h:FO w a f):∀j u,(flat [f])[j]?=bA u->w.cell? (dB a j)=bA u:=λj u b=>by
 rw[nB.cell h,<-b];simp[flat]
def WX{w:eA}{g i n:Nat}{b:List iB}{f:iB}(p:yA b=n)(o:i<=n)(e:∀j u,j<i*3->(flat b)[j]?=bA u->w.cell? (dB g j)=bA u)(h:∀j u,(flat [f])[j]?=bA u->w.cell? (dB g (i*3+j))=bA u)
(k:∀j u,(flat (b.drop i))[j]?=bA u->w.cell? (dB g ((i+1)*3+j))=bA u):∀j u,(flat (kN b i f))[j]?=bA u->w.cell? (dB g j)=bA u:=by
 intro j u a;have c:yA (flat (b.take i))=i*3:=by rw[wE,Hb];omega
 have l:yA (flat [f])=3:=rfl;rw[WW]at a;by_cases d:j<i*3
 .rw[Pe (by omega),uQ b i j (by omega) d]at a;exact e j u d a
 rw[Uc (by omega),c]at a;by_cases m:j-i*3<3
 .rw[Pe (by omega)]at a;have:=h _ _ a;rwa [show i*3+(j-i*3)=j by omega]at this
 rw[Uc (by omega),l]at a;have:=k _ _ a;rwa [show(i+1)*3+(j-i*3-3)=j by omega]at this
def ay(B g a i F:Nat)(d:List iB)(f:iB)(w:eA)(D:w.ownsRow B 104 3 (pA (yB g) (yA d) a) (yA d) (flat d))(p:FO w F f)(Q:F≠g)(h:i<yA d)(s:yA d+1<=a)(N:yA d<=1048576):
 Calls prog 234 #[pA (yB g) (yA d) a,zA i,pA (yB F) 1 1] w λe w'=>
  e=uA (pA (yB g) (yA d+1) a)/\w'.ownsRow B 104 3 (pA (yB g) (yA d+1) a) (yA d+1) (flat (kN d i f))/\lE (λk=>k=g) w w':=by
 obtain⟨K,hB,_,b,W,H,y,I⟩:=lS D;obtain⟨G,M,Y,R,Z⟩:=xL;obtain⟨n,T⟩:∃n,yA d=n:=⟨_,rfl⟩
 rw[T]at h s N W |-
 have l:(prog.info? 104).map (·.size)=bA 3:=by rw[M];simp[R]
 have t:∀w,(Go.sizeOf 104).run prog w=.ok 3 w:=λw=>by simp[sizeOf,typeInfo,M,R]
 have c:∀j,j<a*3->(w.cell? (dB g j)).isSome=dA:=λj h=>by obtain⟨v,p⟩:=b.there (j:=j) (by omega);rw[p];rfl
 have X:∀lb U,(callFunc 277 #[pA (yB F) 1 1,.slice (bA (dB g ((i+1)*3))) lb U]).run prog w=.ok (.value (qA cA)) w:=λlb U=>by
  rw[run_callFunc_extern func277 (by kernel_rfl) (by kernel_rfl) (by kernel_rfl) (e:=Extern.SlicesOverlaps.overlaps #[33,33] #[4]) (by kernel_rfl),
   Lib.run_overlaps_apart w 33 4 104 underlying33 3 t (dB F 0) (dB g ((i+1)*3)) 1 1 lb U Q 104 104 3 K.size (by unfold FO nB at p;simp[eA.shape?,p]) (by unfold nB at b;simp[eA.shape?,b]) (by omega) (nB.free p _) (nB.free p _)]
  rfl
 obtain⟨z,r⟩:∃z,z=flat (d.drop i):=⟨_,rfl⟩
 have C:yA z=(n-i)*3:=by rw[r,wE,Rc,T]
 have A:∀J G O,(Builtin.copy_ #[33,33] J #[.slice (bA (dB g ((i+1)*3))) (n-i) G,.slice (bA (dB g (i*3))) (n+1-i) O]).run prog w.drew=.ok (goInt ((n-i:Nat):Int)) (w.drew.setCells g ((i+1)*3) z):=λJ G O=>
  xQ w.drew _ _ J 104 g ((i+1)*3) (n-i) G (dB g (i*3)) (n+1-i) O (n-i) 3 z underlying33 l (by simp only[Nat.min_def];split<;>omega) C
   (λj v h=>by rw[Addr.add_lit];exact I _ v (by rwa [r,uV d i j (by omega)]at h))
   (λj h=>c _ (by omega)) (λj h=>b.free _) (by rw[r];exact sG _)
 obtain⟨q,m⟩:∃q,q=w.drew.setCells g ((i+1)*3) z:=⟨_,rfl⟩
 obtain⟨O,o,x⟩:=nB.setCells z ((i+1)*3) (show nB w.drew g K 104 from b);rw[<-m]at o A;have P:FO q F f:=by rw[m];exact nB.keeps (S:=λk=>k=g) p (lE.setCells (S:=λk=>k=g) rfl _ _ (lE.refl _ _).drew) Q
 have L:∀J G,(Builtin.copy_ #[33,33] J #[.slice (bA (dB g (i*3))) (n+1-i) G,pA (yB F) 1 1]).run prog q=.ok (goInt 1) (q.setCells g (i*3) (flat [f])):=λJ G=>
  xQ q _ _ J 104 g (i*3) (n+1-i) G (dB F 0) 1 1 1 3 (flat [f]) underlying33 l (by simp only[Nat.min_def];split<;>omega) rfl
   (λj v h=>by rw[Addr.add_lit,Ya];exact P.cells j v h)
   (λj h=>by obtain⟨v,p⟩:=o.there (j:=i*3+j) (by rw[x,y];simp[flat]at h;omega);rw[p];rfl) (λj h=>o.free _) (sG _)
 obtain⟨G,V,O⟩:=nB.setCells (flat [f]) (i*3) o;have J:cB (lE (λk=>k=g) w (q.setCells g (i*3) (flat [f]))):=by
  show lE _ _ _;rw[m];exact lE.setCells (S:=λk=>k=g) rfl _ _ (lE.setCells (S:=λk=>k=g) rfl _ _ (lE.refl _ _).drew)
 have U:cB ((q.setCells g (i*3) (flat [f])).ownsRow B 104 3 (pA (yB g) (n+1) a) (n+1) (flat (kN d i f))):=by
  refine rS hB V s H (by rw[O,x,y]) (by rw[wE,oO _ _ _ (by omega),T]) (WX T (by omega) ?_ ?_ ?_);intro j u h E;rw[eA.cell?_setCells_out g (flat [f]) (i*3) q _ (λ_ _=>Ca h),m,eA.cell?_setCells_out g z ((i+1)*3) _ _ (λ_ _=>Ca (by show j<_;omega))];exact I j u E;intro j u E;have h:=(Pb.1 E).1;rw[eA.cell?_setCells_in g (flat [f]) (i*3) q (λk G=>by obtain⟨v,p⟩:=o.there (j:=i*3+k) (by rw[x,y];simp[flat]at G;omega);rw[p];rfl) j h,<-E,Va];intro j u E;rw[<-r]at E;have h:=(Pb.1 E).1;rw[eA.cell?_setCells_out g (flat [f]) (i*3) q _ (λ_ _=>La (by simp[flat];omega)),m,
   eA.cell?_setCells_in g z ((i+1)*3) w.drew (λk G=>c _ (by omega)) j h,<-E,Va]
 have Z:¬((i:Int)=(n:Int)):=by omega
 have h:¬((a:Int)<(n:Int)+1):=by omega
 have h:IntKind.i64.wrap ((i:Int)+1)=(i:Int)+1:=by rw[IntKind.wrap_i64];omega
 have h:(0:Int)<=(i:Int)+1:=by omega
 have h:i<=n:=by omega
 have h:((i:Int)+1).toNat=i+1:=by omega
 have h:¬(a=i+1):=by omega
 have h:(i:Int)+1<=(n:Int)+1:=by omega
 have h:¬(a=i):=by omega
 have h:(i:Int)<=(n:Int)+1:=by omega
 have h:((n:Int)+1).toNat=n+1:=by omega
 have h:(a:Int)<=9223372036854775807:=by unfold maxLen at H;omega
 clear D b o I c p P y x O r C m Y t l H;go_enter func234,ntmps234;go_wp2_with(simp only[X]);go_region_law (refine step_copy_runI rfl _ _ 33 33 rfl _ _ (by simp[Act.eval,Act.put]) (by simp[Act.eval,Act.put]) (A _ _ _) ?_)
 go_wp2_with(at_builtin;refine wpList_copy_runI _ rfl _ _ 33 33 rfl _ _ rfl rfl (L _ _) ?_);go_ret;exact⟨rfl,U.o,J.o⟩
def aIs(w:eA):rL 133 #[.nilIface] w (zA 0):=by
 go_enter func133,ntmps133;go_wp2;go_ret;exact⟨rfl,rfl⟩
def cT{x a:Int}{b:Bool}(h:bC x 0 a=b)(w:eA):rL 64 #[zA x,zA a] w (qA b):=h ▸ zF x a w
def vK{a:mC}{d:Nat}{c:List iB}{b:Bool}(h:(decide (yA c<=1000) &&iI c)=b)(w:eA)(g:tB w a c)(i:xO c)(f:yA c<=maxLen):
 dF 65 #[pA a (yA c) d] w (qA b):=h ▸ QH a d c w g i f
def eF(a:List iB)(c k b d:Int):Bool:=
 (decide (yA a<=1000) &&iI a) &&bC c 0 1000000000&&decide ((pC a:Int)<=c) &&bC k 0 1000000000000000&&bC b 0 1000000000000000&&bC d 0 1000000000000000
def VK(w:eA)(a b c d e f:iA)(t:jA):let W:=w.alloc (vA #[a,b,c,d,e,f] t)
 W.cell? (dB w.1.size 0)=bA a/\W.cell? (dB w.1.size 1)=bA b/\W.cell? (dB w.1.size 2)=bA c/\
 W.cell? (dB w.1.size 3)=bA d/\W.cell? (dB w.1.size 4)=bA e/\W.cell? (dB w.1.size 5)=bA f:=by
 simp[go_sem]
def UN(a:mC)(m:Nat)(b:List iB)(c k j l:Int)(H:Bool)(w:eA)(L:tB w a b)(M:xO b)(y:yA b<=maxLen)(f:pC b<=1000000000):
 dF 18 #[.agg #[pA a (yA b) m,zA c,zA k,zA j,zA l,qA H]] w (qA (eF b c k j l)):=by
 obtain⟨N,O,P,Q,R,U⟩:=VK w (pA a (yA b) m) (zA c) (zA k) (zA j) (zA l) (qA H) 35;have W:=kC.cells N;have X:=kC.cells O;have Y:=kC.cells P;have Z:=kC.cells Q;have e:=kC.cells R;have u:uB w (w.alloc (vA #[pA a (yA b) m,zA c,zA k,zA j,zA l,qA H] 35)):=iD.alloc (Ia _) _;have T:=kC.there (w.alloc (vA #[pA a (yA b) m,zA c,zA k,zA j,zA l,qA H] 35));have d:cB (∀x:kC (w.alloc (vA #[pA a (yA b) m,zA c,zA k,zA j,zA l,qA H] 35)),tB x.w' a b):=λx=>(L.z u).z x.h;have D:cB (∀x:kC (w.alloc (vA #[pA a (yA b) m,zA c,zA k,zA j,zA l,qA H] 35)),uB w x.w'):=λx=>u.trans (x.h.mono u.size);have G:cB (xO b):=M;have n:cB _:=y;clear N O P Q R U u L M y;by_cases o:(decide (yA b<=1000) &&iI b)=cA
 .have E:cB (eF b c k j l=cA):=by show _=_;simp only[eF,o,Be]
  have z:cB _:=o;clear o;go_enter func18,ntmps18;go_wp2_with fail;refine wB (by kernel_rfl) (by kernel_rfl) ?_;repeat (go_big_quiet_step (first|(go_at_call 65;exact oC (vK z.o _ (d.o _) G.o n.o))|(go_at_call 66;exact oC (tL _ _ _ _ (d.o _) n.o f))|(go_at_call 64;apply uC;apply cT;first|exact i.o|exact A.o|exact B.o|exact F.o)))
  refine wpQuiet_nil ?_;rintro _ ⟨x,rfl⟩;go_wp2;go_ret;exact⟨oB E.o.symm,D.o x⟩
 have t:(decide (yA b<=1000) &&iI b)=dA:=by simpa using o
 have z:cB _:=t;clear o;by_cases p:bC c 0 1000000000=cA
 .have E:cB (eF b c k j l=cA):=by show _=_;simp only[eF,p,t,Be,Oc]
  have i:cB _:=p;clear p t;go_enter func18,ntmps18;go_wp2_with fail;refine wB (by kernel_rfl) (by kernel_rfl) ?_;repeat (go_big_quiet_step (first|(go_at_call 65;exact oC (vK z.o _ (d.o _) G.o n.o))|(go_at_call 66;exact oC (tL _ _ _ _ (d.o _) n.o f))|(go_at_call 64;apply uC;apply cT;first|exact i.o|exact A.o|exact B.o|exact F.o)))
  refine wpQuiet_nil ?_;rintro _ ⟨x,rfl⟩;go_wp2;go_ret;exact⟨oB E.o.symm,D.o x⟩
 have v:bC c 0 1000000000=dA:=by simpa using p
 have i:cB _:=v;clear p;by_cases q:decide ((pC b:Int)<=c)=cA
 .have E:cB (eF b c k j l=cA):=by show _=_;simp only[eF,q,t,v,Be,Oc]
  have S:=q;clear q t v;go_enter func18,ntmps18;go_wp2_with fail;refine wB (by kernel_rfl) (by kernel_rfl) ?_;repeat (go_big_quiet_step (first|(go_at_call 65;exact oC (vK z.o _ (d.o _) G.o n.o))|(go_at_call 66;exact oC (tL _ _ _ _ (d.o _) n.o f))|(go_at_call 64;apply uC;apply cT;first|exact i.o|exact A.o|exact B.o|exact F.o)))
  refine wpQuiet_nil ?_;rintro _ ⟨x,rfl⟩;go_wp2;go_ret;exact⟨oB E.o.symm,D.o x⟩
 have C:decide ((pC b:Int)<=c)=dA:=by simpa using q
 have e:(pC b:Int)<=c:=by simpa using C
 clear q;by_cases r:bC k 0 1000000000000000=cA
 .have E:cB (eF b c k j l=cA):=by show _=_;simp only[eF,r,t,v,C,Be,Oc]
  have A:cB _:=r;clear r t v C;go_enter func18,ntmps18;go_wp2_with fail;refine wB (by kernel_rfl) (by kernel_rfl) ?_;repeat (go_big_quiet_step (first|(go_at_call 65;exact oC (vK z.o _ (d.o _) G.o n.o))|(go_at_call 66;exact oC (tL _ _ _ _ (d.o _) n.o f))|(go_at_call 64;apply uC;apply cT;first|exact i.o|exact A.o|exact B.o|exact F.o)))
  refine wpQuiet_nil ?_;rintro _ ⟨x,rfl⟩;go_wp2;go_ret;exact⟨oB E.o.symm,D.o x⟩
 have I:bC k 0 1000000000000000=dA:=by simpa using r
 have A:cB _:=I;clear r;by_cases s:bC j 0 1000000000000000=cA
 .have E:cB (eF b c k j l=cA):=by show _=_;simp only[eF,s,t,v,C,I,Be,Oc]
  have B:cB _:=s;clear s t v C I;go_enter func18,ntmps18;go_wp2_with fail;refine wB (by kernel_rfl) (by kernel_rfl) ?_;repeat (go_big_quiet_step (first|(go_at_call 65;exact oC (vK z.o _ (d.o _) G.o n.o))|(go_at_call 66;exact oC (tL _ _ _ _ (d.o _) n.o f))|(go_at_call 64;apply uC;apply cT;first|exact i.o|exact A.o|exact B.o|exact F.o)))
  refine wpQuiet_nil ?_;rintro _ ⟨x,rfl⟩;go_wp2;go_ret;exact⟨oB E.o.symm,D.o x⟩
 have K:bC j 0 1000000000000000=dA:=by simpa using s
 have B:cB _:=K;clear s;have E:cB (eF b c k j l=bC l 0 1000000000000000):=by show _=_;simp only[eF,t,v,C,I,K,Oc]
 clear t v C I K;obtain⟨g,J⟩:∃g,bC l 0 1000000000000000=g:=⟨_,rfl⟩
 rw[J]at E;have F:cB _:=J;clear J;go_enter func18,ntmps18;go_wp2_with fail;refine wB (by kernel_rfl) (by kernel_rfl) ?_;repeat (go_big_quiet_step (first|(go_at_call 65;exact oC (vK z.o _ (d.o _) G.o n.o))|(go_at_call 66;exact oC (tL _ _ _ _ (d.o _) n.o f))|(go_at_call 64;apply uC;apply cT;first|exact i.o|exact A.o|exact B.o|exact F.o)))
 refine wpQuiet_nil ?_;rintro _ ⟨x,rfl⟩;go_wp2;go_ret;exact⟨oB E.o.symm,D.o x⟩
