import Derived.Test.YtejebmgbenmimaaGreatDoorJ06
import Derived.Deep.RegionHeld3
import Derived.Shelf.Spec.SlicesInsert
import Derived.Stop.Asserts
set_option maxRecDepth 100000
set_option maxHeartbeats 4000000
set_option linter.defProp false
open Bool renaming false->gA,true->iA
open ByteArray renaming empty->pA
open Option renaming some->fA
open List renaming length->cB
namespace Go.Proofs.YtejebmgbenmimaaGreatDoor
open Go renaming Value->mA,World->jA,TypeId->oA
open Value renaming slice->uA,bool->vA,tuple->bB,string->tA
open Ending renaming returned->zA
open Obj renaming cells->aB
open Go.RowKit Tryz
def EN(r:Rd):hC×Rd:=(⟨(rG 1 r).1,(rG 2 (rG 1 r).2).1⟩,(rG 2 (rG 1 r).2).2)
def lV(r:Rd):Nat->List hC×Rd
 |0=>([],r)
 |k+1=>((lV r k).1++[(EN (lV r k).2).1],(EN (lV r k).2).2)
def WK(key:vB):Nat:=(dK 1 ⟨key,gA⟩).1
def kH(key:vB):List hC×Rd:=lV (dK 1 ⟨key,gA⟩).2 (WK key)
def cR(r:Rd):Bool:=!r.H&&(r.rest.toList==ByteArray.empty.toList)
def sG(key:vB):List hC×Bool:=if (cR (kH key).2&&dO (kH key).1)=iA then((kH key).1,iA) else([],gA)
theorem pj(r:Rd):EN r=(⟨(rG 1 r).1,(rG 2 (rG 1 r).2).1⟩,(rG 2 (rG 1 r).2).2):=by rw[EN]
theorem FB(r:Rd)(k:Nat):lV r (k+1)=((lV r k).1++[(EN (lV r k).2).1],(EN (lV r k).2).2):=by rw[lV]
def CS(r:Rd):∀k,cB (lV r k).1=k
 |0=>rfl
 |k+1=>by rw[lV];simp[CS r k]
def vg{r:Rd}(h:(EN r).2.H=gA):r.H=gA/\r.rest=vM (EN r).1.N++eG (EN r).1.V++(EN r).2.rest:=by
 obtain⟨c,d⟩:=QH (k:=2) (r:=(rG 1 r).2) h;obtain⟨a,b⟩:=QH (k:=1) (r:=r) c;refine⟨a,?_⟩;rw[b,d];apply KT;simp[EN,vM,eG]
def aBj{r:Rd}{l:hC}{q:vB}(h:r.rest=vM l.N++eG l.V++q)(c:l.N.size<256)(d:l.V.size<65536):EN r=(l,⟨q,r.H⟩):=by
 have e:r.rest=uB 1 (l.N.size:Nat)++(l.N++(eG l.V++q)):=by
  rw[h];apply KT;simp[vM]
 have a:=IN e (by omega);have b:rG 2 (rG 1 r).2=(l.V,⟨q,r.H⟩):=by
  rw[a];exact IN (r:=⟨eG l.V++q,r.H⟩) (by show eG l.V++q=_;apply KT;simp[eG]) (by omega)
 rw[EN,b,a]
def aCp{r:Rd}(k:Nat):(lV r k).2.H=gA->r.H=gA/\r.rest=pD (lV r k).1++(lV r k).2.rest:=by
 induction k with
 |zero=>
  intro h;refine⟨h,?_⟩;show r.rest=pA++r.rest;apply KT;simp
 |succ k f=>
  intro h;rw[FB]at h |-
  simp only at h |-
  obtain⟨d,e⟩:=vg h;obtain⟨b,c⟩:=f d;refine⟨b,?_⟩;generalize lV r k=R at *;generalize EN R.2=L at *;rw[c,e,sM];have a:pD [L.1]=vM L.1.N++eG L.1.V:=by
   show vM L.1.N++eG L.1.V++pA=_;apply KT;simp
  rw[a];apply KT;simp
def yu(a:List hC):Prop:=∀i(h:i<cB a),a[i].N.size<256/\a[i].V.size<65536
def YI{r:Rd}{a:List hC}{q:vB}(h:r.rest=pD a++q)(b:yu a):∀k,k<=cB a->lV r k=(a.take k,⟨pD (a.drop k)++q,r.H⟩)
 |0,_=>by
  cases r
  simp only at h;simp[lV,h]
 |k+1,f=>by
  have d:=YI h b k (by omega);have e:pD (a.drop k)++q=vM a[k].N++eG a[k].V++(pD (a.drop (k+1))++q):=by
   rw[Cb (by omega)];apply KT;simp[pD]
  have c:=aBj (r:=⟨pD (a.drop k)++q,r.H⟩) e (b k (by omega)).1 (b k (by omega)).2;rw[FB,d,c,Pa (by omega)]
def PL(s:vB):∀(b p:Nat)(l:List Nat),s.size<=p+b->rJ s b p=fA l->s.size<=p+4*cB l
 |0,p,l,c,_=>by omega
 |b+1,p,l,c,h=>by
  rw[rJ]at h;split at h
  .split at h
   .exact absurd h (by simp)
   obtain ⟨d,a,rfl⟩:=Wb.1 h;have e:=gW s p;have f:=(oY s p).2;have:=PL s b _ d (by omega) a;simp;omega
  omega
def aDo{s:vB}(h:zO s=0):s.size<=512:=by
 unfold zO at h;split at h;exact absurd h (by simp)
 rename_i l a;unfold QT at h;split at h
 .exact absurd h (by simp)
 have:=PL s s.size 0 l (by omega) a;omega
def AV:∀(b:List hC)(j:Nat),lD b j=none->∀i(h:i<cB b),pQ b[i]=0
 |[],_,_,i,h=>absurd h (by simp)
 |l::r,j,a,i,h=>by
  rw[lD]at a;split at a
  .rename_i c;cases i with
   |zero=>exact c
   |succ i=>exact AV r _ a i (by simpa using h)
  exact absurd a (by simp)
def JF:∀(l:List hC)(j c i:Nat),lD l j=fA (c,i)->c≠0
 |[],_,_,_,h=>by simp[lD]at h
 |x::r,j,c,i,h=>by
  rw[lD]at h;split at h;exact JF r _ _ _ h
  rename_i a;simp only[Qa,Dc]at h;rw[<-h.1];exact a
def uZ{a:List hC}(h:dO a=iA):yu a:=by
 have k:=zh h;have j:=MQ h;have f:(yB a).2.1=0:=by rw[k]
 have b:lD a 0=none:=by
  cases b:lD a 0 with
  |none=>rfl
  |some g=>
   obtain⟨c,i⟩:=g;rw[vZ (by omega) b]at f;exact absurd f (JF a 0 c i b)
 intro i l;have d:=AV a 0 b i l;unfold pQ at d;split at d
 .rename_i m;have e:XZ a[i].N:=by simpa[OT]using m
  have:=aDo d;exact⟨by have:=e.2.1;omega,by omega⟩
 exact absurd d (by simp)
theorem ba{a:List hC}(h:dO a=iA):sG (bI a)=(a,iA):=by
 have c:=MQ h;have i:=uZ h;have b:bG 1 ⟨bI a,gA⟩=(uB 1 (cB a:Nat),⟨pD a,gA⟩):=qV rfl (oB 1 _);have f:WK (bI a)=cB a:=by
  show uX (bG 1 ⟨bI a,gA⟩).1.data.toList=_;rw[b];exact pT 1 (cB a) (by omega)
 have g:(dK 1 ⟨bI a,gA⟩).2=⟨pD a,gA⟩:=by
  show(bG 1 ⟨bI a,gA⟩).2=_;rw[b]
 have d:kH (bI a)=(a,⟨pA,gA⟩):=by
  unfold kH;rw[f,g];have e:=YI (r:=⟨pD a,gA⟩) (q:=pA) (by apply KT;simp) i (cB a) (Ia _);rw[e,Rb,Kg];simp[pD]
 unfold sG;rw[d];simp only;rw[Ma (by simp[cR,h])]
theorem WR{key:vB}(h:(sG key).2=iA):dO (sG key).1=iA/\bI (sG key).1=key:=by
 unfold sG at h |-
 split at h
 .rename_i hw;rw[Ma hw];rw[Sa]at hw;refine⟨hw.2,?_⟩;have a:=hw.1;unfold cR at a;rw[Sa]at a;have d:(kH key).2.H=gA:=by simpa using a.1
  have c:(kH key).2.rest=pA:=toList_inj (by simpa using a.2);obtain⟨g,i⟩:=aCp (r:=(dK 1 ⟨key,gA⟩).2) (WK key) d;obtain⟨m,k,l⟩:=DC (n:=1) (r:=⟨key,gA⟩) g;have j:cB (kH key).1=WK key:=CS _ _;have e:uB 1 (cB (kH key).1:Nat)=(bG 1 ⟨key,gA⟩).1:=by
   rw[j];have:=px (bG 1 ⟨key,gA⟩).1.data.toList 1 (by rw[<-fR];exact k);show uB 1 (uX (bG 1 ⟨key,gA⟩).1.data.toList:Nat)=_;rw[this]
  show uB 1 (cB (kH key).1:Nat)++pD (kH key).1=key;have b:(bG 1 ⟨key,gA⟩).2.rest=pD (kH key).1++(kH key).2.rest:=i;have f:key=(bG 1 ⟨key,gA⟩).1++(bG 1 ⟨key,gA⟩).2.rest:=l;rw[e];conv=>rhs;rw[f,b,c]
  apply KT;simp
 exact absurd h (by simp)
theorem LP{key:vB}(h:(sG key).2=gA):sG key=([],gA)/\∀a,dO a=iA->bI a≠key:=by grind [sG,dO,bI,ba]
theorem aCo(r:Rd)(k:Nat):(lV r k).2.rest.size<=r.rest.size/\∀i(h:i<cB (lV r k).1),(lV r k).1[i].N.size<=r.rest.size/\(lV r k).1[i].V.size<=r.rest.size:=by induction k<;>grind [lV,rG,qq,FB,pj]
def wj(key:vB):∀i(h:i<cB (kH key).1),(kH key).1[i].N.size<=key.size/\(kH key).1[i].V.size<=key.size:=by grind [kH,dK,WK,aCo,AL]
structure rI where
 b:Nat
 t:Int
def qD(l:List rI)(i:Nat):rI:=l.getD i ⟨0,0⟩
def gH(l:List rI)(i j:Nat):List rI:=(l.set i (qD l j)).set j (qD l i)
def EI{l:List rI}{i:Nat}(h:i<cB l):qD l i=l[i]:=by simp[qD,List.getD,Va h]
def sD(l:List rI)(i j:Nat):cB (gH l i j)=cB l:=by simp[gH]
theorem xI{l:List rI}{i j:Nat}(a:i<cB l)(b:j<cB l)(k:Nat):qD (gH l i j) k=if k=j then qD l i else if k=i then qD l j else qD l k:=by grind [qD,gH]
def DA{l:List rI}{i j:Nat}(a:i<cB l)(b:j<cB l):(gH l i j).Perm l:=by
 unfold gH;rw[EI a,EI b];exact List.set_set_perm a b
def nJ(l:List rI):Prop:=∀i,0<i->i<cB l->(qD l ((i-1) / 2)).t<=(qD l i).t
def wV(l:List rI)(k:Nat):Prop:=(∀i,0<i->i<cB l->i≠k->(qD l ((i-1) / 2)).t<=(qD l i).t)/\∀i,0<i->i<cB l->(i-1) / 2=k->0<k->(qD l ((k-1) / 2)).t<=(qD l i).t
def nJ.push{l:List rI}(h:nJ l)(x:rI):wV (l++[x]) (cB l):=by grind [nJ,wV,qD]
def wV.done{l:List rI}{k:Nat}(h:wV l k)(a:k=0\/(qD l ((k-1) / 2)).t<=(qD l k).t):nJ l:=by grind [wV,qD,nJ]
def wV.step{l:List rI}{k:Nat}(h:wV l k)(e:k<cB l)(p:0<k)(r:(qD l k).t<(qD l ((k-1) / 2)).t):wV (gH l k ((k-1) / 2)) ((k-1) / 2):=by
 have d:(k-1) / 2<cB l:=by omega
 have o:(k-1) / 2≠k:=by omega
 refine⟨λi a c j=>?_,λi a c n m=>?_⟩
 .rw[sD]at c;rw[xI e d,xI e d,Ja j];by_cases b:i=k
  .subst b;rw[Ma rfl,Ma rfl];omega
  rw[Ja b];by_cases f:(i-1) / 2=(k-1) / 2
  .rw[Ma f];have:=h.1 i a c b;rw[f]at this;omega
  rw[Ja f];by_cases g:(i-1) / 2=k
  .rw[Ma g];exact h.2 i a c g p
  rw[Ja g];exact h.1 i a c b
 rw[sD]at c;rw[xI e d,xI e d,Ja (by omega:((k-1) / 2-1) / 2≠(k-1) / 2),Ja (by omega:((k-1) / 2-1) / 2≠k),Ja (by omega:i≠(k-1) / 2)];have q:=h.1 ((k-1) / 2) m d o;by_cases b:i=k
 .rw[Ma b];exact q
 rw[Ja b];have:=h.1 i a c b;rw[n]at this;omega
def aR(l:List rI):Nat->List rI
 |0=>l
 |k+1=>if (qD l (k+1)).t<(qD l (k / 2)).t then aR (gH l (k+1) (k / 2)) (k / 2) else l
def KJ{l:List rI}{k:Nat}(a:0<k):aR l k=if (qD l k).t<(qD l ((k-1) / 2)).t then aR (gH l k ((k-1) / 2)) ((k-1) / 2) else l:=by
 obtain⟨j,rfl⟩:∃j,k=j+1:=⟨k-1,by omega⟩
 rw[aR,Nat.add_sub_cancel]
def KK(l:List rI):aR l 0=l:=by rw[aR]
def KI:∀(k:Nat)(l:List rI),k<cB l->wV l k->nJ (aR l k)/\(aR l k).Perm l/\cB (aR l k)=cB l
 |0,l,_,h=>by rw[KK];exact⟨h.done (Ca rfl),Lf _,rfl⟩
 |k+1,l,e,h=>by
  rw[KJ (by omega)];by_cases d:(qD l (k+1)).t<(qD l ((k+1-1) / 2)).t
  .rw[Ma d];obtain⟨a,b,c⟩:=KI ((k+1-1) / 2) (gH l (k+1) ((k+1-1) / 2)) (by rw[sD];omega) (h.step e (by omega) d);exact⟨a,b.trans (DA e (by omega)),c.trans (sD _ _ _)⟩
  rw[Ja d];exact⟨h.done (La (by omega)),Lf _,rfl⟩
def gR(l:List rI)(x:rI):List rI:=aR (l++[x]) (cB l)
def CQ{l:List rI}(h:nJ l)(x:rI):nJ (gR l x)/\(gR l x).Perm (x::l)/\cB (gR l x)=cB l+1:=by
 obtain⟨a,b,c⟩:=KI (cB l) (l++[x]) (by simp) (h.push x);exact⟨a,b.trans (List.perm_append_singleton x l),by rw[gR,c];simp⟩
structure eE where
 fs:List nB
 c:Int
 k:Int
 cr:Int
 fl:Int
 dn:Bool
structure aI where
 first:Int
 last:Int
 size:Int
structure vC where
 d:eE
 l:aI
 now:Int
 ts:List kB
 lsn:Int
 deg:Bool
 up:Bool
def sC(a:nC)(e:Nat)(b:nC)(f:Nat)(N:vC):Array mA:=#[uA a (cB N.d.fs) e,dB N.d.c,dB N.d.k,dB N.d.cr,dB N.d.fl,vA N.d.dn,dB N.l.first,dB N.l.last,dB N.l.size,dB N.now,uA b (cB N.ts) f,dB N.lsn,vA N.deg,vA N.up]
def rB.n14{w:jA}{b:Nat}{a c d e f g i j k l m n o p:mA}{t:oA}(h:rB w b #[a,c,d,e,f,g,i,j,k,l,m,n,o,p] t):
 w.cell? (iB b 0)=fA a/\w.cell? (iB b 1)=fA c/\w.cell? (iB b 2)=fA d/\w.cell? (iB b 3)=fA e/\w.cell? (iB b 4)=fA f/\w.cell? (iB b 5)=fA g/\w.cell? (iB b 6)=fA i/\
 w.cell? (iB b 7)=fA j/\w.cell? (iB b 8)=fA k/\w.cell? (iB b 9)=fA l/\w.cell? (iB b 10)=fA m/\w.cell? (iB b 11)=fA n/\w.cell? (iB b 12)=fA o/\w.cell? (iB b 13)=fA p:=by
 refine⟨?_,?_,?_,?_,?_,?_,?_,?_,?_,?_,?_,?_,?_,?_⟩<;>(rw[rB.cell h];rfl)
def rB.frees{w:jA}{b:Nat}{cs:Array mA}{t:oA}(h:rB w b cs t):w.frozen? (iB b 0)=gA/\w.frozen? (iB b 1)=gA/\w.frozen? (iB b 2)=gA/\w.frozen? (iB b 3)=gA/\w.frozen? (iB b 4)=gA/\w.frozen? (iB b 5)=gA/\w.frozen? (iB b 6)=gA/\
 w.frozen? (iB b 7)=gA/\w.frozen? (iB b 8)=gA/\w.frozen? (iB b 9)=gA/\w.frozen? (iB b 10)=gA/\w.frozen? (iB b 11)=gA/\w.frozen? (iB b 12)=gA/\w.frozen? (iB b 13)=gA:=
 ⟨h.free 0,h.free 1,h.free 2,h.free 3,h.free 4,h.free 5,h.free 6,h.free 7,h.free 8,h.free 9,h.free 10,h.free 11,h.free 12,h.free 13⟩
def aEi{C:jA->Prop}{w:jA}{O:Nat}{r s u v x y i j l m n o p q a b c d e f:mA}{t:oA}(h:rB w O #[r,s,u,v,x,y,i,j,l,m,n,o,p,q] t)
(k:∀g,rB g O #[a,b,c,d,e,f,i,j,l,m,n,o,p,q] t->jB (·=O) w g->C g):C ((((((w.setCell (iB O 0) a).setCell (iB O 1) b).setCell (iB O 2) c).setCell (iB O 3) d).setCell (iB O 4) e).setCell (iB O 5) f):=
 k _ (by have:=((((((h.set 0 a).set 1 b).set 2 c).set 3 d).set 4 e).set 5 f);simpa using this) (((((((jB.refl (·=O) w).setCell (Ca rfl) 0 a).setCell (Ca rfl) 1 b).setCell (Ca rfl) 2 c).setCell (Ca rfl) 3 d).setCell (Ca rfl) 4 e).setCell (Ca rfl) 5 f)
def yN:vC:=⟨⟨[],0,0,0,0,gA⟩,⟨0,0,0⟩,0,[],0,gA,gA⟩
def ZQ(N:vC):Bool:=N.up&&!N.deg
def ft{c d a b:mA}(e:c=a)(f:d=b):Ending.returned (bB #[c,d])=zA (bB #[a,b]):=by rw[e,f]
def lE(t:vB):List nB->Nat->Int
 |[],_=>-1
 |f::r,i=>if (f.N.toList==t.toList)=iA then i else lE t r (i+1)
def tW(a:nC)(p:Nat)(f:List nB)(c y s v:Int)(u:Bool)(t:vB)(w:jA)(q:wB w a f)(j:cB f<=maxLen):
 gF 56 #[.agg #[uA a (cB f) p,dB c,dB y,dB s,dB v,vA u],tA t] w (dB (lE t f 0)):=by
 unfold maxLen at j;have r:fB (wB w a f):=q;clear q;go_enter func56,ntmps56;go_wp2;go_loopw [5,6,10] (λ_ _ i wr=>∃k:Nat,k<=cB f/\i=dB k/\lE t f 0=lE t (f.drop k) k/\zB w wr) (λ_ _ i _=>cB f-(intOf i).toNat)
 case atStart=>exact⟨0,Oa _,rfl,rfl,aC⟩
 case round=>
  obtain⟨k,F,rfl,h,d⟩:=hrel;have g:fB _:=h;clear h;by_cases l:k<cB f
  .obtain ⟨b,o,rfl,D,A,B,C⟩:=(r.o.z d).at l;have m:=Cb l;by_cases n:(f[k].N.toList==t.toList)=iA
   .have E:fB (lE t f 0=k):=by show _=_;rw[g.o,m,lE,Ma n]
    clear m;go_wp2;go_ret;exact⟨vF E.o.symm,d.alloc d.size _⟩
   have x:(f[k].N.toList==t.toList)=gA:=by simpa using n
   have E:fB (lE t f 0=lE t (f.drop (k+1)) (k+1)):=by show _=_;rw[g.o,m,lE,Ja n]
   clear m n;go_wp2;exact⟨⟨k+1,by omega,by go_num,E.o,d.alloc d.size _⟩,by simp[intOf];omega⟩
  go_wp2;go_ret;have e:f.drop k=[]:=Ie (by omega);exact⟨vF (by rw[g.o,e];rfl),d⟩
def mT(a:List nB):Prop:=∀i j(b:i<j)(c:j<cB a),Op.bytesLess a[i].N.toList a[j].N.toList=iA
def vx{a:List nB}{j:Nat}(h:nT a (j+1)=iA)(b:j+1<cB a):Op.bytesLess a[j].N.toList a[j+1].N.toList=iA:=by grind [nT]
def kS{a:List nB}(h:fI a=iA):mT a:=by
 simp only[fI,aT,Ke,Xg]at h;intro i j f b;induction j with
 |zero=>omega
 |succ j d=>
  have c:=vx (h (j+1) b) b;by_cases e:i=j
  .subst e;exact c
  exact kJ _ _ _ (d (by omega) (by omega)) c
def oT(a:List nB)(t:vB)(i:Nat):Prop:=i<=cB a/\(∀j(h:j<cB a),j<i->Op.bytesLess a[j].N.toList t.toList=iA)/\(∀j(h:j<cB a),i<=j->Op.bytesLess a[j].N.toList t.toList=gA)
def gC(t:vB):List nB->Nat
 |[]=>0
 |f::r=>if Op.bytesLess f.N.toList t.toList=iA then gC t r+1 else 0
def oT.uniq{d:List nB}{t:vB}{i j:Nat}(h:oT d t i)(k:oT d t j):i=j:=by
 rcases Nat.lt_trichotomy i j with c|e|c;have a:=k.2.1 i (by have:=k.1;omega) c;have b:=h.2.2 i (by have:=k.1;omega) (Ia _);rw[a]at b;exact absurd b (by simp);exact e;have a:=h.2.1 j (by have:=h.1;omega) c;have b:=k.2.2 j (by have:=h.1;omega) (Ia _);rw[a]at b;exact absurd b (by simp)
def tH(a:List nB)(t:vB)(i:Nat):Bool:=match a[i]? with
 |none=>gA
 |some f=>f.N.toList==t.toList
def aq{x y:vB}:(lY x y<0) ↔ Op.bytesLess x.toList y.toList=iA:=by
 unfold lY;split<;>(try split)<;>simp_all
def ry{x y:vB}:(lY x y==0)=(x.toList==y.toList):=by grind [lY,iF]
def nc(a:nC)(A:Nat)(d:List nB)(t:vB)(w:jA)(I:wB w a d)(n:mT d)(K:cB d<=1048576):
 Calls prog 211 #[uA a (cB d) A,tA t,.func (.func 212) #[] #[]] w λe z=>
  ∃i,oT d t i/\e=zA (bB #[dB i,vA (tH d t i)])/\zB w z:=by
 have G:fB (wB w a d):=I;have F:fB (mT d):=n;clear I n;go_enter func211,ntmps211;go_wp2;go_loopw [9,10,11] (λi j _ wr=>∃f l:Nat,i=dB f/\j=dB l/\f<=l/\l<=cB d/\(∀m(h:m<cB d),m<f->Op.bytesLess d[m].N.toList t.toList=iA)/\
  (∀m(h:m<cB d),l<=m->Op.bytesLess d[m].N.toList t.toList=gA)/\zB w wr) (λi j _ _=>(intOf j).toNat-(intOf i).toNat)
 case atStart=>exact⟨0,cB d,rfl,rfl,Oa _,Ia _,λm h k=>absurd k (by omega),λm h k=>absurd k (by omega),jD⟩
 case round=>
  obtain⟨f,l,rfl,rfl,P,x,q,p,c⟩:=hrel;have v:fB _:=q;have u:fB _:=p;clear q p;by_cases Q:f<l
  .obtain ⟨m,R⟩:∃m:Nat,m=(f+l) / 2:=⟨_,rfl⟩
   have U:((f:Int)+(l:Int)) / 2=(m:Int):=by omega
   have C:f<=m:=by omega
   have S:m<l:=by omega
   have y:m<cB d:=by omega
   clear R;obtain⟨b,o,rfl,O,L,M,N⟩:=(G.o.z c).at y;by_cases r:Op.bytesLess d[m].N.toList t.toList=iA
   .have T:=aq.2 r;have s:fB _:=r;clear r;go_wp2_with fail;apply oC (BV _ _ _ _ _);intro z g;go_wp2;refine⟨⟨m+1,l,by go_num,rfl,by omega,x,λj J B=>?_,u.o,c.trans (g.mono c.size)⟩,by simp[intOf];omega⟩;by_cases e:j=m
    .subst e;exact s.o
    exact kJ _ _ _ (F.o j m (by omega) y) s.o
   have T:¬lY d[m].N t<0:=λh=>r (aq.1 h);have s:fB (Op.bytesLess d[m].N.toList t.toList=gA):=by show _=_;simpa using r
   clear r;go_wp2_with fail;apply oC (BV _ _ _ _ _);intro z g;go_wp2;refine⟨⟨f,m,rfl,rfl,C,by omega,v.o,λj J B=>?_,c.trans (g.mono c.size)⟩,by simp[intOf];omega⟩;by_cases e:j=m
   .subst e;exact s.o
   rw[Yc];intro h;have:=kJ _ _ _ (F.o m j (by omega) J) h;rw[s.o]at this;exact absurd this (by simp)
  obtain rfl:f=l:=by omega
  have H:fB (oT d t f):=⟨x,v.o,u.o⟩
  by_cases D:f<cB d
  .obtain ⟨b,o,rfl,O,L,M,N⟩:=(G.o.z c).at D;have E:fB ((lY d[f].N t==0)=tH d t f):=by show _=_;rw[ry];simp[tH,Va D]
   go_wp2_with fail;apply oC (BV _ _ _ _ _);intro z g;go_wp2;go_ret2;exact⟨f,H.o,ft rfl (Kd mA.bool E.o),c.trans (g.mono c.size)⟩
  have E:fB (tH d t f=gA):=by show _=_;simp[tH,Fd (Nat.not_lt.1 D)]
  go_wp2;go_ret2;exact⟨f,H.o,ft rfl (Kd mA.bool E.o.symm),c⟩
def lW(a:nC)(d:Nat)(b:List nB)(t:vB)(w:jA)(g:wB w a b)(c:mT b)(f:cB b<=1048576):
 Calls prog 147 #[uA a (cB b) d,tA t] w λe j=>
  ∃i,oT b t i/\e=zA (bB #[dB i,vA (tH b t i)])/\zB w j:=by
 have l:fB (wB w a b):=g;have k:fB (mT b):=c;clear g c;go_enter func147,ntmps147;go_wp2_with fail;refine(nc a d b t _ l.o k.o f).mono ?_;rintro e j ⟨i,h,rfl,n⟩;have m:fB (oT b t i):=h;clear h;go_wp2;go_ret2;exact⟨i,m.o,rfl,n⟩
theorem EA{a:List nB}{t:vB}(p:mT a){i:Nat}(u:oT a t i):lE t a 0=if tH a t i=iA then(i:Int) else -1:=by
 have o:∀(n k:Nat),k+n=cB a->(∀j(h:j<cB a),j<k->(a[j].N.toList==t.toList)=gA)->lE t (a.drop k) k=if tH a t i=iA then(i:Int) else -1:=by
  intro n;induction n with
  |zero=>
   intro k r c;rw[Ie (by omega),lE];rw[Ja];intro h;unfold tH at h;split at h;exact absurd h (by simp)
   rename_i f q;obtain⟨b,rfl⟩:=Pb.1 q;rw[c i b (by omega)]at h;exact absurd h (by simp)
  |succ n w=>
   intro k r c;have b:k<cB a:=by omega
   rw[Cb b,lE];by_cases d:(a[k].N.toList==t.toList)=iA
   .rw[Ma d];have v:oT a t k:=by
     have e:a[k].N.toList=t.toList:=by simpa using d
     refine⟨by omega,λj l g=>?_,λj l s=>?_⟩;rw[<-e];exact p j k g b;rw[<-e];by_cases m:j=k
     .subst m;exact iF _
     exact mP (p k j (by omega) l)
    obtain rfl:=u.uniq v;rw[Ma];simp[tH,Va b,d]
   .rw[Ja d];refine w (k+1) (by omega) λj l g=>?_;by_cases m:j=k
    .subst m;simpa using d
    exact c j l (by omega)
 have:=o (cB a) 0 (by omega) (λj _ h=>absurd h (by omega));simpa using this
def aH{w:jA}{B:Nat}{e:oA}{a:Nat}{v:mA}{n:Nat}{i:List mA}(h:w.ownsRow B e a v n i):∀g,v.ownBlock=fA g->g<w.1.size:=by
 intro g b;obtain⟨rfl,_⟩|⟨j,c,d,rfl,_,f,_⟩:=h.2;simp[mA.ownBlock]at b;simp[mA.ownBlock]at b;subst b;exact eB f
def kZ{w:jA}{B:Nat}{e:oA}{c:Nat}{v:mA}{n:Nat}{f:List mA}(h:w.ownsRow B e c v n f):∃a b,v=uA a n b:=by
 obtain⟨rfl,rfl⟩|⟨g,b,d,rfl,_⟩:=h.2;exact ⟨none,0,rfl⟩;exact ⟨_,b,rfl⟩
def PJ{w:jA}{B B':Nat}{e:oA}{a:Nat}{v:mA}{n:Nat}{d:List mA}(h:w.ownsRow B e a v n d)(i:B'<=B):w.ownsRow B' e a v n d:=by
 refine⟨h.1,?_⟩;obtain f|⟨g,b,c,k,j,r⟩:=h.2;exact Ca f;exact La ⟨g,b,c,k,Ua i j,r⟩
structure bD(w:World)(B D:Nat)(fs:List nB)(c k cr fl:Int)(dn:Bool)(v:Value):Prop where
 from':B≤D
 blk:rB w D #[dB k,dB cr,dB fl,vA dn,v,dB c] 113
 row:w.ownsRow B 115 3 v (cB fs) (flat fs)
 apart:∀g,v.ownBlock=fA g→g≠D
def bD.z{w g:jA}{B D:Nat}{e:List nB}{c k a d:Int}{b:Bool}{v:mA}(h:bD w B D e c k a d b v)(f:zB w g):bD g B D e c k a d b v:=
 ⟨h.from',h.blk.z f,lC h.row f,h.apart⟩
def AH(a:nC)(d:Nat)(f:List nB)(c k l n:Int)(m:Bool)(w:jA)(t:wB w a f)(o:cB f<=1048576):
 Calls prog 21 #[.agg #[uA a (cB f) d,dB c,dB k,dB l,dB n,vA m]] w λe b=>
  ∃D v,e=zA (.pointer (cC D))/\bD b w.1.size D f c k l n m v/\zB w b:=by
 have u:fB (wB w a f):=t;clear t;obtain⟨A,B,C,E,F,G⟩:=aP.new w (uA a (cB f) d) (dB c) (dB k) (dB l) (dB n) (vA m) 35;have p:fB (∀b,Below (w.alloc (aB #[uA a (cB f) d,dB c,dB k,dB l,dB n,vA m] 35)).1.size (w.alloc (aB #[uA a (cB f) d,dB c,dB k,dB l,dB n,vA m] 35)) b->gD b w.1.size 0 (uA a (cB f) d)/\gD b w.1.size 1 (dB c)/\gD b w.1.size 2 (dB k)/\gD b w.1.size 3 (dB l)/\gD b w.1.size 4 (dB n)/\gD b w.1.size 5 (vA m)):=λb h=>
  (aP.new w (uA a (cB f) d) (dB c) (dB k) (dB l) (dB n) (vA m) 35).z h
 go_enter func21,ntmps21;go_wp2_with fail;go_region_held3 (λb=>b.cell? (iB w.1.size 0)=fA (uA a (cB f) d)/\b.cell? (iB w.1.size 1)=fA (dB c)/\b.cell? (iB w.1.size 2)=fA (dB k)/\b.cell? (iB w.1.size 3)=fA (dB l)/\b.cell? (iB w.1.size 4)=fA (dB n)/\b.cell? (iB w.1.size 5)=fA (vA m))
  (first|(exact p.o _ (xB (xB jD.drew j) aC))|(exact p.o _ (xB jD.drew j))|(exact p.o _ jD.drew))
  (first
  |(go_at_call 79;refine(SH a d f _ ((u.o.z aC).z jD.drew) o).mono ?_;rintro e y ⟨v,rfl,i,j⟩;obtain⟨z,s,rfl⟩:=kZ i))
 go_wp2;go_ret;have q:=j.size;have r:=aH i;refine⟨y.1.size,_,rfl,⟨?_,heap_alloc_new _ _,PJ (lC i aC) (by simp),?_⟩,xB (xB aC (xB jD.drew j)) aC⟩
 .simp at q;omega
 intro g x;have:=r g x;omega
def QC(b o:Nat)(c:Array mA)(t:oA)(d:vB)(w:jA)(f:rB w b c t)(g:c[o+1]?=fA (tA d))(h:o+2<c.size):
 Calls prog 112 #[.pointer (fA (iB b o))] w λe j=>e=zA (bB #[])/\j=w.setCell (iB b (o+2)) (dB d.size):=by
 have i:=f.cell (o+1);rw[g]at i;obtain⟨l,k⟩:=f.there h;have a:=f.free (o+2);clear f g h;go_enter func112,ntmps112;go_wp2;go_end0;exact⟨rfl,rfl⟩
def dU(D:Nat)(t:oA)(a:nC)(n d:Nat)(c k f h:Int)(g:Bool)(w:jA)(i:rB w D #[dB k,dB f,dB h,vA g,uA a n d,dB c] t):
 gF 23 #[.pointer (cC D)] w (.agg #[uA a n d,dB c,dB k,dB f,dB h,vA g]):=by
 have b:=i.z (uF w (aB #[uA none 0 0,dB 0,dB 0,dB 0,dB 0,vA gA] 35));have j:=b.cell 0;have l:=b.cell 1;have m:=b.cell 2;have o:=b.cell 3;have p:=b.cell 4;have q:=b.cell 5;simp only[Xb,Ob,Ga]at j l m o p q;clear i b;go_enter func23,ntmps23;go_wp2_with fail;go_region
 go_wp2;exact bodyPost_ret (v:=.agg #[uA a n d,dB c,dB k,dB f,dB h,vA g]) (by simp[results,results23,go_sem]) rfl ⟨rfl,aC.drew⟩
structure iE(S:Nat→Prop)(w w':World):Prop where
 os:w'.os=w.os
 tape:w'.tape=w.tape
 output:w'.output=w.output
 size:w.1.size≤w'.1.size
 block:∀k,k<w.1.size→¬S k→w'.heap[k]?=w.heap[k]?
def iE.refl(S:Nat->Prop)(w:jA):iE S w w:=⟨rfl,rfl,rfl,Ia _,λ_ _ _=>rfl⟩
def iE.trans{S:Nat->Prop}{a b c:jA}(h:iE S a b)(k:iE S b c):iE S a c:=
 ⟨k.os.trans h.os,k.tape.trans h.tape,k.output.trans h.output,Ua h.size k.size,λi e d=>(k.block i (Bb e h.size) d).trans (h.block i e d)⟩
def iE.of{S:Nat->Prop}{w a:jA}(h:zB w a):iE S w a:=⟨h.os,h.tape,h.output,h.size,λk b _=>h.block k b⟩
def iE.mono{S T:Nat->Prop}{w a:jA}(h:iE S w a)(c:∀k,S k->T k):iE T w a:=⟨h.os,h.tape,h.output,h.size,λk b d=>h.block k b (λx=>d (c k x))⟩
def iE.below{S:Nat->Prop}{B:Nat}{w a:jA}(h:iE S w a)(b:∀k,S k->B<=k)(d:B<=w.1.size):Below B w a:=
 ⟨h.os,h.tape,h.output,h.size,λk c=>h.block k (by omega) (λx=>by have:=b k x;omega)⟩
def iE.but{g:Nat}{w a:jA}(h:uD g w a):iE (λk=>k=g) w a:=⟨h.os,h.tape,h.output,h.size,h.block⟩
def iE.setCell{S:Nat->Prop}{a w:jA}(h:iE S a w){g:Nat}(b:S g)(o:Nat)(v:mA):iE S a (w.setCell (iB g o) v):=
 h.trans ⟨rfl,rfl,rfl,by simp[jA.setCell],λk _ c=>Below.heap_setCell _ _ _ _ (λe=>c (by rw[e];exact b))⟩
def iE.setCells{S:Nat->Prop}{g:Nat}(b:S g):∀(c:List mA)(o:Nat){a w:jA},iE S a w->iE S a (w.setCells g o c)
 |[],_,_,_,h=>h
 |v::r,o,_,_,h=>iE.setCells b r (o+1) (h.setCell b o v)
def iE.drew{S:Nat->Prop}{a w:jA}(h:iE S a w):iE S a w.drew:=⟨h.os,h.tape,h.output,h.size,h.block⟩
def iE.grown{S:Nat->Prop}{w a:jA}{f:Option Nat}(h:w.grownBy a f)(d:∀g,f=fA g->S g):iE S w a:=
 ⟨h.os,h.tape,h.output,h.size,λk c b=>h.block k c (λe=>b (d k e.symm))⟩
def rB.keeps{S:Nat->Prop}{w c:jA}{g:Nat}{a:Array mA}{t:oA}(h:rB w g a t)(d:iE S w c)(b:¬S g):rB c g a t:=(d.block g (eB h) b).trans h
def rB.setCells{g:Nat}{t:oA}:∀(f:List mA)(o:Nat){w:jA}{a:Array mA},rB w g a t->∃b,rB (w.setCells g o f) g b t/\b.size=a.size
 |[],_,_,a,h=>⟨a,h,rfl⟩
 |v::r,o,_,a,h=>by
  obtain⟨c,d,e⟩:=rB.setCells r (o+1) (h.set o v);exact⟨c,d,by rw[e];simp⟩
def tR{w:jA}{B g n a:Nat}{b:Array mA}{e:oA}{c:List mA}(f:B<=g)(h:rB w g b e)(m:n<=a)(l:a<=maxLen)(o:b.size=a*3)(p:cB c=n*3)
(i:∀j u,c[j]?=fA u->w.cell? (iB g j)=fA u):w.ownsRow B e 3 (uA (cC g) n a) n c:=by
 refine⟨p,La ⟨g,a,b,rfl,f,h,m,l,o,?_⟩⟩;apply List.ext_getElem?;intro j;by_cases k:j<n*3
 .rw[Jb k];have d:=i j c[j] (Va (by omega));rw[h.cell]at d;rw[Yd,d,Va (by omega)]
 rw[Fd (by simp;omega),Fd (by omega)]
def mR{w:jA}{B g n m a:Nat}{e:oA}{l:List mA}(h:w.ownsRow B e 3 (uA (cC g) m a) n l):
 ∃b,B<=g/\m=n/\rB w g b e/\n<=a/\a<=maxLen/\b.size=a*3/\∀j u,l[j]?=fA u->w.cell? (iB g j)=fA u:=by
 obtain⟨d,_⟩|⟨t,i,b,d,o,k,q,p,r,s⟩:=h.2;exact absurd d (by simp);simp only[mA.slice.injEq,Qa,Addr.mk.injEq,Cc]at d;obtain⟨rfl,rfl,rfl⟩:=d;refine⟨b,o,rfl,k,q,p,r,λj u c=>?_⟩;rw[rB.cell k];rw[<-s]at c;have f:=(Pb.1 c).1;rw[Hb]at f;rw[Jb (by omega)]at c;simpa using c
def dQ{P:Program}(w:jA)(n B C d:oA)(b o c g:Nat)(a:Addr)(e l k f:Nat)(cs:List mA)
(A:P.underlying n=fA (.slice d))(z:(P.info? d).map (·.size)=fA f)(t:Nat.min e c=k)(x:cB cs=k*f)
(h:∀j v,cs[j]?=fA v->w.cell? (a.add j)=fA v)(q:∀j,j<cB cs->(w.cell? (iB b (o+j))).isSome=iA)(r:∀j,j<cB cs->w.frozen? (iB b (o+j))=gA)(p:∀v∈cs,v.oneCell'=iA):
 (Builtin.copy_ #[n,B] C #[uA (fA (iB b o)) c g,uA (fA a) e l]).run P w=.ok (goInt k) (w.setCells b o cs):=by
 have u:=run_loadCells_list (P:=P) w a cs h;have m:=run_storeCells_cells (P:=P) b o cs 0 w (by simpa using q) (by simpa using r) p;obtain⟨i,y,s⟩:=Wb.1 z;simp[Builtin.copy_,run_underlying A,Builtin.lenOf,Builtin.firstCells,sizeOf,typeInfo,y,s,t,<-x,u,m]
def qZ:List mA:=[tA pA,tA pA,dB 0]
def RC{P:Program}(w:jA)(t m e:oA)(i:TypeInfo)(k:P.underlying t=fA (.slice e))(h:P.info? e=fA i)(l:i.zero=fA (.agg #[tA pA,tA pA,dB 0]))
(b o c:Nat)(f:∀j,j<3->(w.cell? (iB b (o+j))).isSome=iA)(g:∀j,j<3->w.frozen? (iB b (o+j))=gA):
 (Builtin.clear_ #[t] m #[uA (fA (iB b o)) 1 c]).run P w=.ok (bB #[]) (w.setCells b o qZ):=by
 have a:=run_storeCells_cells (P:=P) b o qZ 0 w (by simpa[qZ]using f) (by simpa[qZ]using g) (by simp[qZ,mA.oneCell']);have d:(Builtin.zeroCells (mA.agg #[tA pA,tA pA,dB 0]).cells 1).toList=qZ:=by kernel_rfl
 simp[Builtin.clear_,run_underlying k,zeroValue,typeInfo,h,l,d,a]
def jx(a:List nB)(i:Nat):flat (a.eraseIdx i)=flat (a.take i)++flat (a.drop (i+1)):=by
 rw[List.eraseIdx_eq_take_drop_succ,flat_append]
theorem OA(a:List nB)(i:Nat):flat a=flat (a.take i)++flat (a.drop i):=by
 rw[<-flat_append,Za]
def lU(a:List nB)(i j:Nat)(h:i<=cB a):(flat (a.drop i))[j]?=(flat a)[i*3+j]?:=by
 have b:cB (flat (a.take i))=i*3:=by rw[zE,Hb];omega
 rw[OA a i,Uc (by omega),b];congr 1;omega
def cQ(a:List nB)(i j:Nat)(h:i<=cB a)(b:j<i*3):(flat (a.take i))[j]?=(flat a)[j]?:=by grind [flat,zE,OA]
def iM(a:List nB)(i:Nat)(f:nB):List nB:=a.take i++f::a.drop i
def xN(a:List nB)(i:Nat)(f:nB)(h:i<=cB a):cB (iM a i f)=cB a+1:=by simp[iM];omega
def TN(a:List nB)(i:Nat)(f:nB):flat (iM a i f)=flat (a.take i)++(flat [f]++flat (a.drop i)):=by grind [flat,iM]
def DL(w:jA)(a:Nat)(f:nB):Prop:=rB w a #[tA f.N,tA f.data,dB f.Y] 115
def DL.cells{w:jA}{a:Nat}{f:nB}(h:DL w a f):∀j u,(flat [f])[j]?=fA u->w.cell? (iB a j)=fA u:=λj u b=>by
 rw[rB.cell h,<-b];simp[flat]
def TO{w:jA}{g i n:Nat}{b:List nB}{f:nB}(p:cB b=n)(o:i<=n)(e:∀j u,j<i*3->(flat b)[j]?=fA u->w.cell? (iB g j)=fA u)(h:∀j u,(flat [f])[j]?=fA u->w.cell? (iB g (i*3+j))=fA u)
(k:∀j u,(flat (b.drop i))[j]?=fA u->w.cell? (iB g ((i+1)*3+j))=fA u):∀j u,(flat (iM b i f))[j]?=fA u->w.cell? (iB g j)=fA u:=by
 intro j u a;have c:cB (flat (b.take i))=i*3:=by rw[zE,Hb];omega
 have l:cB (flat [f])=3:=rfl;rw[TN]at a;by_cases d:j<i*3
 .rw[Pe (by omega),cQ b i j (by omega) d]at a;exact e j u d a
 rw[Uc (by omega),c]at a;by_cases m:j-i*3<3
 .rw[Pe (by omega)]at a;have:=h _ _ a;rwa [show i*3+(j-i*3)=j by omega]at this
 rw[Uc (by omega),l]at a;have:=k _ _ a;rwa [show(i+1)*3+(j-i*3-3)=j by omega]at this
def XR(B g a i F:Nat)(d:List nB)(f:nB)(w:jA)(D:w.ownsRow B 115 3 (uA (cC g) (cB d) a) (cB d) (flat d))(p:DL w F f)(Q:F≠g)(h:i<cB d)(s:cB d+1<=a)(N:cB d<=1048576):
 Calls prog 247 #[uA (cC g) (cB d) a,dB i,uA (cC F) 1 1] w λe w'=>
  e=zA (uA (cC g) (cB d+1) a)/\w'.ownsRow B 115 3 (uA (cC g) (cB d+1) a) (cB d+1) (flat (iM d i f))/\iE (λk=>k=g) w w':=by
 obtain⟨K,hB,_,b,W,H,y,I⟩:=mR D;obtain⟨m,M,Y,R,Z⟩:=mL;obtain⟨n,T⟩:∃n,cB d=n:=⟨_,rfl⟩
 rw[T]at h s N W |-
 have l:(prog.info? 115).map (·.size)=fA 3:=by rw[M];simp[R]
 have t:∀w,(Go.sizeOf 115).run prog w=.ok 3 w:=λw=>by simp[sizeOf,typeInfo,M,R]
 have c:∀j,j<a*3->(w.cell? (iB g j)).isSome=iA:=λj h=>by obtain⟨v,p⟩:=b.there (j:=j) (by omega);rw[p];rfl
 have X:∀lb U,(callFunc 286 #[uA (cC F) 1 1,.slice (fA (iB g ((i+1)*3))) lb U]).run prog w=.ok (.value (vA gA)) w:=λlb U=>by
  rw[run_callFunc_extern func286 (by kernel_rfl) (by kernel_rfl) (by kernel_rfl) (e:=Extern.SlicesOverlaps.overlaps #[33,33] #[4]) (by kernel_rfl),
   Lib.run_overlaps_apart w 33 4 115 underlying33 3 t (iB F 0) (iB g ((i+1)*3)) 1 1 lb U Q 115 115 3 K.size (by unfold DL rB at p;simp[jA.shape?,p]) (by unfold rB at b;simp[jA.shape?,b]) (by omega) (rB.free p _) (rB.free p _)]
  rfl
 obtain⟨z,r⟩:∃z,z=flat (d.drop i):=⟨_,rfl⟩
 have C:cB z=(n-i)*3:=by rw[r,zE,Rc,T]
 have A:∀J G m,(Builtin.copy_ #[33,33] J #[.slice (fA (iB g ((i+1)*3))) (n-i) G,.slice (fA (iB g (i*3))) (n+1-i) m]).run prog w.drew=.ok (goInt ((n-i:Nat):Int)) (w.drew.setCells g ((i+1)*3) z):=λJ G m=>
  dQ w.drew _ _ J 115 g ((i+1)*3) (n-i) G (iB g (i*3)) (n+1-i) m (n-i) 3 z underlying33 l (by simp only[Nat.min_def];split<;>omega) C
   (λj v h=>by rw[Addr.add_lit];exact I _ v (by rwa [r,lU d i j (by omega)]at h))
   (λj h=>c _ (by omega)) (λj h=>b.free _) (by rw[r];exact uG _)
 obtain⟨q,m⟩:∃q,q=w.drew.setCells g ((i+1)*3) z:=⟨_,rfl⟩
 obtain⟨o,o,x⟩:=rB.setCells z ((i+1)*3) (show rB w.drew g K 115 from b);rw[<-m]at o A;have P:DL q F f:=by rw[m];exact rB.keeps (S:=λk=>k=g) p (iE.setCells (S:=λk=>k=g) rfl _ _ (iE.refl _ _).drew) Q
 have L:∀J G,(Builtin.copy_ #[33,33] J #[.slice (fA (iB g (i*3))) (n+1-i) G,uA (cC F) 1 1]).run prog q=.ok (goInt 1) (q.setCells g (i*3) (flat [f])):=λJ G=>
  dQ q _ _ J 115 g (i*3) (n+1-i) G (iB F 0) 1 1 1 3 (flat [f]) underlying33 l (by simp only[Nat.min_def];split<;>omega) rfl
   (λj v h=>by rw[Addr.add_lit,Ya];exact P.cells j v h)
   (λj h=>by obtain⟨v,p⟩:=o.there (j:=i*3+j) (by rw[x,y];simp[flat]at h;omega);rw[p];rfl) (λj h=>o.free _) (uG _)
 obtain⟨G,V,O⟩:=rB.setCells (flat [f]) (i*3) o;have J:fB (iE (λk=>k=g) w (q.setCells g (i*3) (flat [f]))):=by
  show iE _ _ _;rw[m];exact iE.setCells (S:=λk=>k=g) rfl _ _ (iE.setCells (S:=λk=>k=g) rfl _ _ (iE.refl _ _).drew)
 have U:fB ((q.setCells g (i*3) (flat [f])).ownsRow B 115 3 (uA (cC g) (n+1) a) (n+1) (flat (iM d i f))):=by
  refine tR hB V s H (by rw[O,x,y]) (by rw[zE,xN _ _ _ (by omega),T]) (TO T (by omega) ?_ ?_ ?_);intro j u h E;rw[jA.cell?_setCells_out g (flat [f]) (i*3) q _ (λ_ _=>Ca h),m,jA.cell?_setCells_out g z ((i+1)*3) _ _ (λ_ _=>Ca (by show j<_;omega))];exact I j u E;intro j u E;have h:=(Pb.1 E).1;rw[jA.cell?_setCells_in g (flat [f]) (i*3) q (λk G=>by obtain⟨v,p⟩:=o.there (j:=i*3+k) (by rw[x,y];simp[flat]at G;omega);rw[p];rfl) j h,<-E,Va];intro j u E;rw[<-r]at E;have h:=(Pb.1 E).1;rw[jA.cell?_setCells_out g (flat [f]) (i*3) q _ (λ_ _=>La (by simp[flat];omega)),m,
   jA.cell?_setCells_in g z ((i+1)*3) w.drew (λk G=>c _ (by omega)) j h,<-E,Va]
 have Z:¬((i:Int)=(n:Int)):=by omega
 have h:¬((a:Int)<(n:Int)+1):=by omega
 have h:IntKind.i64.wrap ((i:Int)+1)=(i:Int)+1:=by rw[IntKind.wrap_i64];omega
 have h:(0:Int)<=(i:Int)+1:=by omega
 have h:i<=n:=by omega
 have h:((i:Int)+1).toNat=i+1:=by omega
 have h:¬(a=i+1):=by omega
 have h:(i:Int)+1<=(n:Int)+1:=by omega
 have h:¬(a=i):=by omega
 have h:(i:Int)<=(n:Int)+1:=by omega
 have h:((n:Int)+1).toNat=n+1:=by omega
 have h:(a:Int)<=9223372036854775807:=by unfold maxLen at H;omega
 clear D b o I c p P y x O r C m Y t l H;go_enter func247,ntmps247;go_wp2_with(simp only[X]);go_region_law (refine step_copy_runI rfl _ _ 33 33 rfl _ _ (by simp[Act.eval,Act.put]) (by simp[Act.eval,Act.put]) (A _ _ _) ?_)
 go_wp2_with(at_builtin;refine wpList_copy_runI _ rfl _ _ 33 33 rfl _ _ rfl rfl (L _ _) ?_);go_ret;exact⟨rfl,U.o,J.o⟩
def aLx:vB:=⟨#[116,104,101,32,100,105,115,107,32,105,115,32,100,111,119,110]⟩
def aGy:vB:=⟨#[116,104,101,32,111,112,101,114,97,116,105,111,110,32,102,97,105,108,101,100]⟩
def aLy:vB:=⟨#[116,104,101,32,100,105,115,107,32,105,115,32,102,117,108,108]⟩
def aDi:vB:=⟨#[116,104,101,32,102,105,108,101,32,105,115,32,109,105,115,115,105,110,103]⟩
def aGx:vB:=⟨#[116,104,101,32,102,105,108,101,32,101,120,105,115,116,115]⟩
def aMs:vB:=⟨#[116,104,101,32,111,112,101,114,97,116,105,111,110,32,105,115,32,105,109,112,114,111,112,101,114]⟩
def pY(a:Nat):mA:=match a with
 |0=>.nilIface
 |1=>.iface 162 (tA aLx)
 |2=>.iface 162 (tA aGy)
 |3=>.iface 162 (tA aLy)
 |4=>.iface 162 (tA aDi)
 |5=>.iface 162 (tA aGx)
 |_=>.iface 162 (tA aMs)
def aEq(w:jA):bM 37 #[.nilIface] w (dB 0):=by
 go_enter func37,ntmps37;go_wp2;go_ret;exact⟨rfl,rfl⟩
def cO{x a:Int}{b:Bool}(h:dC x 0 a=b)(w:jA):bM 41 #[dB x,dB a] w (vA b):=h ▸ zF x a w
def kK{a:nC}{d:Nat}{c:List nB}{b:Bool}(h:(decide (cB c<=1000) &&fI c)=b)(w:jA)(g:wB w a c)(i:gO c)(f:cB c<=maxLen):
 gF 77 #[uA a (cB c) d] w (vA b):=h ▸ NT a d c w g i f
def rE(a:List nB)(c k b d:Int):Bool:=
 (decide (cB a<=1000) &&fI a) &&dC c 0 1000000000&&decide ((tC a:Int)<=c) &&dC k 0 1000000000000000&&dC b 0 1000000000000000&&dC d 0 1000000000000000
def SA(w:jA)(a b c d e f:mA)(t:oA):let W:=w.alloc (aB #[a,b,c,d,e,f] t)
 W.cell? (iB w.1.size 0)=fA a/\W.cell? (iB w.1.size 1)=fA b/\W.cell? (iB w.1.size 2)=fA c/\
 W.cell? (iB w.1.size 3)=fA d/\W.cell? (iB w.1.size 4)=fA e/\W.cell? (iB w.1.size 5)=fA f:=by
 simp[go_sem]
def QX(a:nC)(m:Nat)(b:List nB)(c k j l:Int)(H:Bool)(w:jA)(L:wB w a b)(M:gO b)(y:cB b<=maxLen)(f:tC b<=1000000000):
 gF 20 #[.agg #[uA a (cB b) m,dB c,dB k,dB j,dB l,vA H]] w (vA (rE b c k j l)):=by
 obtain⟨N,O,P,Q,R,U⟩:=SA w (uA a (cB b) m) (dB c) (dB k) (dB j) (dB l) (vA H) 35;have W:=mC.cells N;have X:=mC.cells O;have Y:=mC.cells P;have Z:=mC.cells Q;have e:=mC.cells R;have u:zB w (w.alloc (aB #[uA a (cB b) m,dB c,dB k,dB j,dB l,vA H] 35)):=jD.alloc (Ia _) _;have T:=mC.there (w.alloc (aB #[uA a (cB b) m,dB c,dB k,dB j,dB l,vA H] 35));have d:fB (∀x:mC (w.alloc (aB #[uA a (cB b) m,dB c,dB k,dB j,dB l,vA H] 35)),wB x.w' a b):=λx=>(L.z u).z x.h;have D:fB (∀x:mC (w.alloc (aB #[uA a (cB b) m,dB c,dB k,dB j,dB l,vA H] 35)),zB w x.w'):=λx=>u.trans (x.h.mono u.size);have G:fB (gO b):=M;have n:fB _:=y;clear N O P Q R U u L M y;by_cases o:(decide (cB b<=1000) &&fI b)=gA
 .have E:fB (rE b c k j l=gA):=by show _=_;simp only[rE,o,Be]
  have z:fB _:=o;clear o;go_enter func20,ntmps20;go_wp2_with fail;refine bC (by kernel_rfl) (by kernel_rfl) ?_;repeat (go_big_quiet_step (first|(go_at_call 77;exact rC (kK z.o _ (d.o _) G.o n.o))|(go_at_call 78;exact rC (yJ _ _ _ _ (d.o _) n.o f))|(go_at_call 41;apply dD;apply cO;first|exact i.o|exact A.o|exact B.o|exact F.o)))
  refine wpQuiet_nil ?_;rintro _ ⟨x,rfl⟩;go_wp2;go_ret;exact⟨tB E.o.symm,D.o x⟩
 have t:(decide (cB b<=1000) &&fI b)=iA:=by simpa using o
 have z:fB _:=t;clear o;by_cases p:dC c 0 1000000000=gA
 .have E:fB (rE b c k j l=gA):=by show _=_;simp only[rE,p,t,Be,Oc]
  have i:fB _:=p;clear p t;go_enter func20,ntmps20;go_wp2_with fail;refine bC (by kernel_rfl) (by kernel_rfl) ?_;repeat (go_big_quiet_step (first|(go_at_call 77;exact rC (kK z.o _ (d.o _) G.o n.o))|(go_at_call 78;exact rC (yJ _ _ _ _ (d.o _) n.o f))|(go_at_call 41;apply dD;apply cO;first|exact i.o|exact A.o|exact B.o|exact F.o)))
  refine wpQuiet_nil ?_;rintro _ ⟨x,rfl⟩;go_wp2;go_ret;exact⟨tB E.o.symm,D.o x⟩
 have v:dC c 0 1000000000=iA:=by simpa using p
 have i:fB _:=v;clear p;by_cases q:decide ((tC b:Int)<=c)=gA
 .have E:fB (rE b c k j l=gA):=by show _=_;simp only[rE,q,t,v,Be,Oc]
  have S:=q;clear q t v;go_enter func20,ntmps20;go_wp2_with fail;refine bC (by kernel_rfl) (by kernel_rfl) ?_;repeat (go_big_quiet_step (first|(go_at_call 77;exact rC (kK z.o _ (d.o _) G.o n.o))|(go_at_call 78;exact rC (yJ _ _ _ _ (d.o _) n.o f))|(go_at_call 41;apply dD;apply cO;first|exact i.o|exact A.o|exact B.o|exact F.o)))
  refine wpQuiet_nil ?_;rintro _ ⟨x,rfl⟩;go_wp2;go_ret;exact⟨tB E.o.symm,D.o x⟩
 have C:decide ((tC b:Int)<=c)=iA:=by simpa using q
 have e:(tC b:Int)<=c:=by simpa using C
 clear q;by_cases r:dC k 0 1000000000000000=gA
 .have E:fB (rE b c k j l=gA):=by show _=_;simp only[rE,r,t,v,C,Be,Oc]
  have A:fB _:=r;clear r t v C;go_enter func20,ntmps20;go_wp2_with fail;refine bC (by kernel_rfl) (by kernel_rfl) ?_;repeat (go_big_quiet_step (first|(go_at_call 77;exact rC (kK z.o _ (d.o _) G.o n.o))|(go_at_call 78;exact rC (yJ _ _ _ _ (d.o _) n.o f))|(go_at_call 41;apply dD;apply cO;first|exact i.o|exact A.o|exact B.o|exact F.o)))
  refine wpQuiet_nil ?_;rintro _ ⟨x,rfl⟩;go_wp2;go_ret;exact⟨tB E.o.symm,D.o x⟩
 have I:dC k 0 1000000000000000=iA:=by simpa using r
 have A:fB _:=I;clear r;by_cases s:dC j 0 1000000000000000=gA
 .have E:fB (rE b c k j l=gA):=by show _=_;simp only[rE,s,t,v,C,I,Be,Oc]
  have B:fB _:=s;clear s t v C I;go_enter func20,ntmps20;go_wp2_with fail;refine bC (by kernel_rfl) (by kernel_rfl) ?_;repeat (go_big_quiet_step (first|(go_at_call 77;exact rC (kK z.o _ (d.o _) G.o n.o))|(go_at_call 78;exact rC (yJ _ _ _ _ (d.o _) n.o f))|(go_at_call 41;apply dD;apply cO;first|exact i.o|exact A.o|exact B.o|exact F.o)))
  refine wpQuiet_nil ?_;rintro _ ⟨x,rfl⟩;go_wp2;go_ret;exact⟨tB E.o.symm,D.o x⟩
 have K:dC j 0 1000000000000000=iA:=by simpa using s
 have B:fB _:=K;clear s;have E:fB (rE b c k j l=dC l 0 1000000000000000):=by show _=_;simp only[rE,t,v,C,I,K,Oc]
 clear t v C I K;obtain⟨g,J⟩:∃g,dC l 0 1000000000000000=g:=⟨_,rfl⟩
 rw[J]at E;have F:fB _:=J;clear J;go_enter func20,ntmps20;go_wp2_with fail;refine bC (by kernel_rfl) (by kernel_rfl) ?_;repeat (go_big_quiet_step (first|(go_at_call 77;exact rC (kK z.o _ (d.o _) G.o n.o))|(go_at_call 78;exact rC (yJ _ _ _ _ (d.o _) n.o f))|(go_at_call 41;apply dD;apply cO;first|exact i.o|exact A.o|exact B.o|exact F.o)))
 refine wpQuiet_nil ?_;rintro _ ⟨x,rfl⟩;go_wp2;go_ret;exact⟨tB E.o.symm,D.o x⟩
