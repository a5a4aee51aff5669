import Derived.Deep.WholeRow
import Derived.Test.YtcmdjimlmnaojaaGreatDoorJ21
set_option maxRecDepth 100000
set_option maxHeartbeats 4000000
set_option linter.defProp false
open Option renaming some->cA,none->aA
open Bool renaming true->eA,false->dA
open ByteArray renaming empty->lA
open List renaming length->zA
namespace Go.Proofs.YtcmdjimlmnaojaaGreatDoor
open Go renaming World->fA,TypeId->kA,Value->jA
open IntKind renaming i64->oA
open Value renaming string->pA,slice->qA,int->mA,agg->uA,bool->sA
open Obj renaming cells->xA
open Go.RowKit Tryz
section
open Go.Maps
def MT(w:fA):(zeroValue 3).run prog w=.ok (aB 0) w:=by kernel_rfl
def cD{H:Type}{P:Program}{w:fA}{k:kA}{R:jA->Option (DataW H×List MemPlace)}{b n g:Nat}{D:DataW H}{c:Array jA}{t:kA}(h:w.ownsMap P k R b n D)(d:jB w g c t):b≠g:=by
 intro e;subst e;obtain⟨i,a,f,_⟩:=h;rw[jB,f]at d;simp at d
def bH{H:Type}{P:Program}{w:fA}{k:kA}{R:jA->Option (DataW H×List MemPlace)}{b n:Nat}{D:DataW H}{B:Nat}{e:kA}{a:Nat}{v:jA}{m:Nat}{j:List jA}(h:w.ownsMap P k R b n D)(i:w.ownsRow B e a v m j):v.ownBlock≠cA b:=by
 intro c;obtain⟨rfl,_⟩|⟨l,d,f,rfl,_,g,_⟩:=i.2
 .cases c
 simp only[jA.ownBlock,Qa]at c;subst c;exact cD h g rfl
def sR.newLims{w f:fA}{S:Nat->Prop}{x:Nat}{t:gB}{M c m i n:Nat}{l:jA}{Q:List (kB×Nat)}{k:List qI}{D E:DataW Unit}{d:List kB}(h:sR w S x t M c m i l Q k D)(b:fB (·=c) w f)
(a:f.ownsMap prog 9 (plainElem prog 3) c n E)(o:E=jE (d.map λp=>(p.s,aJ p.n)))(u:tC (·.s) d):tD f S x { t with M:=d} M:=by
 subst o;refine⟨c,m,i,l,Q,k,D,?_⟩;exact { h with
  blk:=b.blk h.blk (cD h.lims h.blk).symm
  lims:=by have:=RP a;rw[vM]at this;exact this
  Z:=b.map h.Z h.d1.symm
  cnts:=b.map h.cnts h.d2.symm
  cells:=λq j=>b.blk (h.cells q j) (cD h.lims (h.cells q j)).symm
  row:=b.row h.row (λg r e=>by subst e;exact bH h.lims h.row r)
  rm:=u}
def aFx{w w2 G N:fA}{S:Nat->Prop}{x:Nat}{t:gB}{M W L F:Nat}{O:jA}{Q:List (kB×Nat)}{z:List qI}{D:DataW Unit}{key:pB}{j c:Int}{g A:Nat}(h:sR w S x t M W L F O Q z D)(y:xC (·.s) key t.Z=aA)
(d:fB (λk=>k=L\/k=F) w G)(J:w2.ownsMap prog 9 tE L (zA Q+1) (DataW.put (jE (Q.map λq=>(q.1.s,kF q.2))) (kL key) (kF w.1.size)))(i:fB (·=F) w2 G)
(K:G.ownsMap prog 9 (plainElem prog 3) F (M+1) (D.put (kL (dE key)) (.lit (.int oA (c+1)))))(b:jB G w.1.size #[pA key,aB j] 134)(hc:c=(tI dE t.Z (dE key):Nat))
(P:jB N x (#[aB t.L,.map (cA W),.map (cA L),.map (cA F),O].setIfInBounds 4 (qA (vB g) (zA z+1) A)) 222)
(U:N.ownsRow 0 331 2 (qA (vB g) (zA z+1) A) (zA z+1) (pK (qR z ⟨w.1.size,j⟩)))(v:O.ownBlock=cA g\/G.1.size<=g)(f:fB (λk=>k=x\/O.ownBlock=cA k) G N):
 tD N (λg=>S g\/w.1.size<=g) x { t with Z:=fC (·.s) ⟨key,j⟩ t.Z} (M+1)/\fB S w N:=by
 have m:=bB h.blk;have m:=bB b;have m:=cD h.Z h.blk;have O:=cD h.cnts h.blk;have a0:=cD h.lims h.blk;have X:=bH h.lims h.row;have Y:=bH h.Z h.row;have Z:=bH h.cnts h.row;have u:=λq l=>bB (h.cells q l);have C:xC (λq:kB×Nat=>q.1.s) key Q=aA:=by
  have:=eV (key:=λq:kB×Nat=>q.1.s) (key':=λp:kB=>p.s) (λq=>q.1) (λ_=>rfl) key Q;rw[h.q1,y]at this;cases hg:xC (λq:kB×Nat=>q.1.s) key Q with
  |none=>rfl
  |some q=>rw[hg]at this;cases this
 have E:=IJ (key:=λq:kB×Nat=>q.1.s) (a:=((⟨key,j⟩:kB),w.1.size)) C;have R:=IJ (key:=λp:kB=>p.s) (a:=(⟨key,j⟩:kB)) y;have H:zA (fC (λq:kB×Nat=>q.1.s) ((⟨key,j⟩:kB),w.1.size) Q)=zA Q+1:=by rw[E.length_eq];rfl
 have V:tC (λq:kB×Nat=>q.1.s) Q:=by
  rw[<-xW (key':=λp:kB=>p.s) (λq:kB×Nat=>q.1) (λ_=>rfl),h.q1];exact h.rs
 obtain⟨ph,G,pl⟩:=CT h.heap ⟨w.1.size,j⟩;have I:DataW.put (jE (Q.map λq=>(q.1.s,kF q.2))) (kL key) (kF w.1.size)=jE ((fC (λq:kB×Nat=>q.1.s) ((⟨key,j⟩:kB),w.1.size) Q).map λq=>(q.1.s,kF q.2)):=
  IT (key:=λq:kB×Nat=>q.1.s) (λq=>kF q.2) ((⟨key,j⟩:kB),w.1.size) V
 have n:∀q,q∈fC (λq:kB×Nat=>q.1.s) ((⟨key,j⟩:kB),w.1.size) Q->q=((⟨key,j⟩:kB),w.1.size)\/q∈Q:=λq l=>uK l;have B:∀s∈z,∃q∈Q,q.2=s.b:=λs o=>by
  have:=(h.perm.mem_iff (a:=s.b)).1 (Md.2 ⟨s,o,rfl⟩);obtain⟨q,l,e⟩:=Md.1 this;exact⟨q,l,e⟩
 refine⟨⟨W,L,F,qA (vB g) (zA z+1) A,fC (λq:kB×Nat=>q.1.s) ((⟨key,j⟩:kB),w.1.size) Q,qR z ⟨w.1.size,j⟩,D.put (kL (dE key)) (.lit (.int oA (c+1))),?_⟩,?_⟩
 .exact {
   blk:=P
   lims:=f.map (d.map h.lims (λe=>by obtain e|e:=e;exact h.d1 e;exact h.d2 e)) (λe=>by obtain e|e:=e;exact a0 e;exact X e)
   Z:=by
    rw[<-I,H];exact f.map (i.map J h.d3) (λe=>by obtain e|e:=e;exact m e;exact Y e)
   cnts:=f.map K (λe=>by obtain e|e:=e;exact O e;exact Z e)
   cnt:=λm=>by
    rw[UD R m,UC];by_cases e:dE key=m
    .rw[Ma e,<-e,atKey_put_same (k:=kL (dE key)) h.cnts.isMap trivial,hc];rfl
    rw[Ja e,atKey_put_other (λI=>e (aDc I).symm),h.cnt m];rfl
   q1:=by
    rw[cS (key':=λp:kB=>p.s) (λq:kB×Nat=>q.1) (λ_=>rfl),h.q1]
   cells:=λq l=>by
    rcases n q l with rfl|l;exact f.blk b (λe=>by obtain e|e:=e;simp only at e;omega;have:=pt h.row _ e;simp only at this;omega);exact f.blk (d.blk (h.cells q l) (λe=>by obtain e|e:=e;exact cD h.Z (h.cells q l) e.symm;exact cD h.cnts (h.cells q l) e.symm)) (λe=>by obtain e|e:=e;exact h.dx q l e;exact(h.di _ e).2 q l rfl)
   row:=by rw[pl];exact U
   heap:=ph
   perm:=by
    refine(G.map _).trans ?_;refine List.Perm.trans ?_ (E.map _).symm;exact List.Perm.cons _ h.perm
   early:=λs o q l e=>by
    rcases Lb.1 ((G.mem_iff).1 o) with rfl|o
    .rcases n q l with rfl|l
     .exact Xd _
     have:=u q l;simp only at e;omega
    rcases n q l with rfl|l;obtain ⟨b,T,I⟩:=B s o;have:=u b T;simp only at e;omega;exact h.early s o q l e
   rm:=h.rm
   rs:=jK h.rs
   sx:=Ca h.sx
   sl:=Ca h.sl
   ss:=Ca h.ss
   sc:=Ca h.sc
   sq:=λq l=>by
    rcases n q l with rfl|l;exact La (Ia _);exact Ca (h.sq q l)
   si:=λb r=>by
    simp only[jA.ownBlock,Qa]at r;subst r;obtain e|e:=v;exact Ca (h.si g e);exact La (by have:=d.size;omega)
   d1:=h.d1
   d2:=h.d2
   d3:=h.d3
   nd:=by
    rw[(E.map _).nodup_iff,Fc,List.nodup_cons];refine⟨λm=>?_,h.nd⟩;obtain⟨q,l,e⟩:=Md.1 m;have:=u q l;simp only at e;omega
   dx:=λq l=>by
    rcases n q l with rfl|l;simp only;omega;exact h.dx q l
   di:=λb r=>by
    simp only[jA.ownBlock,Qa]at r;subst r;obtain e|e:=v
    .refine ⟨(h.di g e).1,λq l=>?_⟩;rcases n q l with rfl|l
     .have:=pt h.row g e;simp only;omega
     exact (h.di g e).2 q l
    refine ⟨by omega,λq l=>?_⟩;rcases n q l with rfl|l;simp only;omega;have:=u q l;omega}
 refine (d.mono λk _ e=>by obtain rfl|rfl:=e;exact h.ss;exact h.sc).trans (f.mono λk _ e=>?_);obtain rfl|e:=e;exact Ca h.sx;exact Ca (h.si _ e)
def qw(x:Nat)(t:gB)(key:pB)(l:Int)(S:Nat->Prop)(M:Nat)(w:fA)(h:tD w S x t M)(O:xC (·.s) key t.Z=aA)(hk:key.size<=maxLen)(hm:(dE key).size<=maxLen)(hM:M<=1000000000)(hl:zA t.Z<=1000000000):
 Calls prog 207 #[.pointer (cA ⟨x,0,aA⟩),pA key,pA (dE key),mA oA l] w λe G=>e=.returned (.tuple #[])/\tD G (λg=>S g\/w.1.size<=g) x { t with Z:=fC (·.s) ⟨key,l⟩ t.Z} (M+1)/\fB S w G:=by
 obtain⟨lm,V,I,Z,Q,F,D,h⟩:=h;have HK:cB _:=eN hk;have HM:cB _:=eN hm;have hQ:zA Q=zA t.Z:=by rw[<-h.q1,Xa]
 have hH:zA F=zA Q:=by have:=h.perm.length_eq;simpa using this
 have HI:cB _:=h;obtain⟨X,n⟩:∃W,W=w.alloc (xA #[pA key,mA oA l] 134):=⟨_,rfl⟩
 have d:fB (λ_=>False) w X:=by rw[n];exact fB.of bC
 have b1:jB X w.1.size #[pA key,mA oA l] 134:=by rw[n];exact jB.new _ _ _
 obtain⟨Y,U,z,J⟩:=(d.map h.Z (λe=>e)).update vL underlying217 (by unfold maxLen;omega) HK.o (wW w.1.size);have j:fB (·=V) X Y:=(fB.grown J).mono λi _ e=>by simp only[Qa]at e;exact e.symm
 have a:=(d.mono λ_ _ e=>e.elim).trans' j;have m:=a.map h.cnts (Ne.symm h.d3);obtain⟨c,runL,L,d0⟩:=m.lookup_int vL underlying216 underlying3 (MT _) HM.o;have hc:c=(tI dE t.Z (dE key):Nat):=by
  have:=h.cnt (dE key);unfold aJ at this;rw[L]at this;simpa using this
 have c0:=XJ dE t.Z (dE key);have hcl:0<=c:=by omega
 have hcu:c<=1000000000:=by omega
 obtain⟨C,run3,A,K⟩:=m.update vL underlying216 (by unfold maxLen;omega) (val:=mA oA (c+1)) HM.o (plainElem_int underlying3 (WalkArith.wf_i64 (by omega)));have f:fB (·=I) Y C:=(fB.grown K).mono λi _ e=>by simp only[Qa]at e;exact e.symm
 have b:=(a.mono λ_ _ e=>Ca e).trans' (f.mono λ_ _ e=>La e);have T:=cD h.Z h.blk;have e0:=cD h.cnts h.blk;have r:jB X x _ _:=d.blk h.blk (λe=>e);have u:jB Y x _ _:=a.blk h.blk T.symm;have v:jB C x _ _:=b.blk h.blk (λe=>by obtain e|e:=e;exact T e.symm;exact e0 e.symm);have B:=b.row h.row (λg hg e=>by obtain rfl|rfl:=e;exact bH h.Z h.row hg;exact bH h.cnts h.row hg);have c1:yC X x 2 (.map (cA V)):=r.cell 2;have c2:yC Y x 3 (.map (cA I)):=u.cell 3;have HP:cB (Calls prog 258 #[.pointer (cA ⟨x,4,aA⟩),uA #[.pointer (cA ⟨w.1.size,0,aA⟩),mA oA l]] C λe G=>e=.returned (.tuple #[])/\∃g E,jB G x (#[mA oA t.L,.map (cA lm),.map (cA V),.map (cA I),Z].setIfInBounds 4 (qA (cA ⟨g,0,aA⟩) (zA F+1) E)) 222/\
  G.ownsRow 0 331 2 (qA (cA ⟨g,0,aA⟩) (zA F+1) E) (zA F+1) (pK (qR F ⟨w.1.size,l⟩))/\(Z.ownBlock=cA g\/C.1.size<=g)/\fB (λk=>k=x\/Z.ownBlock=cA k) C G):=
  iu x 4 0 Z F ⟨w.1.size,l⟩ C _ _ v rfl B (λe=>(h.di x e).1 rfl) (Oa _) (by omega)
 have H:cB _:=b;have o:cB (Y.ownsMap prog 9 tE V (zA Q+1) (DataW.put (jE (Q.map λq=>(q.1.s,kF q.2))) (kL key) (kF w.1.size))):=z;have p:cB (C.ownsMap prog 9 (plainElem prog 3) I (M+1) (D.put (kL (dE key)) (.lit (.int oA (c+1))))):=A;have T3:cB _:=f;have B3:cB (jB C w.1.size #[pA key,mA oA l] 134):=((j.mono (S':=λk=>k=V\/k=I) λ_ _ e=>Ca e).trans' (f.mono λ_ _ e=>La e)).blk b1 (λe=>by have:=h.Z.lt;have:=h.cnts.lt;rcases e with e|e<;>omega);have a0:cB _:=hc;rw[n]at U c1;clear h hk hm n d b1 z J j a m L d0 hc c0 A K f b r u v B;go_enter func207,ntmps207;go_wp2_with fail;apply jC HP.o;rintro w4 ⟨g,E,N,P,y,R⟩;have HF:=aFx HI.o O H.o o.o T3.o p.o B3.o a0.o N P y R;clear HP HI H o T3 p B3 N P y R;have b0:cB _:=dB HF;clear HF;go_wp2;go_end0;exact⟨rfl,b0.o⟩
end
structure C14(cs:Array Value):Prop where
 size:cs.size=14
 one:cs.all (·.oneCell')=eA
def dH(a b:nC)(c d:Nat)(N:sC):C14 (gC a c b d N):=⟨rfl,by simp[gC,jA.oneCell']⟩
def sK(W:fA)(X:Nat):Prop:=∃a T,jB W X a T/\a.size=14
def jB.box{W:fA}{X:Nat}{cs:Array jA}{T:kA}(h:jB W X cs T)(a:cs.size=14):sK W X:=⟨cs,T,h,a⟩
def rE(a:nC)(e:Nat)(b:nC)(f:Nat)(N:sC):#[qA a (zA N.d.fs) e,aB N.d.c,aB N.d.k,aB N.d.cr,aB N.d.fl,sA N.d.dn,aB N.l.first,aB N.l.last,aB N.l.size,aB N.now,qA b (zA N.ts) f,aB N.lsn,sA N.deg,sA N.up]=gC a e b f N:=rfl
def cL:#[qA aA 0 0,aB 0,aB 0,aB 0,aB 0,sA dA,aB 0,aB 0,aB 0,aB 0,qA aA 0 0,aB 0,sA dA,sA dA]=gC aA 0 aA 0 bL:=rfl
def fG(a b:nC)(c d:Nat)(N:sC):(gC a c b d N).size=14:=rfl
def jF(a:nC)(e:Nat)(b:nC)(f:Nat)(N:sC)(T:kA):∀W X,jB W X (gC a e b f N) T->W.cell? (eB X 0)=cA (qA a (zA N.d.fs) e)/\W.cell? (eB X 1)=cA (aB N.d.c)/\W.cell? (eB X 2)=cA (aB N.d.k)/\W.cell? (eB X 3)=cA (aB N.d.cr)/\W.cell? (eB X 4)=cA (aB N.d.fl)/\W.cell? (eB X 5)=cA (sA N.d.dn)/\W.cell? (eB X 6)=cA (aB N.l.first)/\W.cell? (eB X 7)=cA (aB N.l.last)/\W.cell? (eB X 8)=cA (aB N.l.size)/\W.cell? (eB X 9)=cA (aB N.now)/\W.cell? (eB X 10)=cA (qA b (zA N.ts) f)/\W.cell? (eB X 11)=cA (aB N.lsn)/\W.cell? (eB X 12)=cA (sA N.deg)/\W.cell? (eB X 13)=cA (sA N.up):=λ_ _ h=>h.n14
def lK{W:fA}{X:Nat}{cs:Array jA}(h:sK W X)(a:C14 cs):(storeCells (eB X 0) cs.toList 0).run prog W=.ok () (W.setRow X cs):=by
 obtain⟨e,T,d,b⟩:=h;have:=run_storeCells_from (P:=prog) X T cs.toList 0 e W d (by simp[b,a.size]) (λv c=>(Array.all_eq_true_iff_forall_mem.1 a.one) v (by simpa using c));simpa using this
def jB.drewI{W:fA}{X:Nat}{cs:Array jA}{T:kA}:jB W.drew X cs T ↔ jB W X cs T:=Iff.rfl
def sK.drewI{W:fA}{X:Nat}:sK W.drew X ↔ sK W X:=Iff.rfl
def sK.new(w:fA)(a b:nC)(ca c:Nat)(N:sC)(T:kA):sK (w.alloc (xA (gC a ca b c N) T)) w.1.size:=(jB.new w _ T).box rfl
def sK.alloc{W:fA}{X:Nat}(h:sK W X)(o:Obj):sK (W.alloc o) X:=by
 obtain⟨c,T,b,a⟩:=h;exact⟨c,T,b.alloc o,a⟩
def sK.alloc2{W:fA}{X:Nat}(h:sK W X)(o a:Obj):sK ((W.alloc o).alloc a) X:=(h.alloc o).alloc a
def jB.row{W:fA}{X:Nat}{a cs:Array jA}{T:kA}(h:jB W X a T):jB (W.setRow X cs) X cs T:=setRow_heap _ _ _ _ _ _ h
def uG(W:fA)(X:Nat)(cs:Array jA):fB (·=X) W (W.setRow X cs):=⟨rfl,rfl,rfl,by simp,λk _ a=>setRow_other _ _ _ _ a⟩
def kU{C:fA->Prop}{w:fA}{X:Nat}{a cs:Array jA}{T:kA}(h:jB w X a T)(k:∀W,jB W X cs T->fB (·=X) w W->C W):C (w.setRow X cs):=k _ h.row (uG _ _ _)
def sP{a:List iB}(c:∀f∈a,tO f=eA)(d:lT a):gI a=eA:=by
 simp only[gI,wS,Ke,Xg];intro i b;unfold mT;rw[Va b];simp only[c _ (Gb b),Oc];cases i with
 |zero=>rfl
 |succ j=>
  simp only[Va (show j<zA a by omega)];exact d j (j+1) (by omega) b
def EH{a:List iB}(h:gI a=eA):∀f∈a,tO f=eA:=by
 intro f c;obtain⟨i,b,rfl⟩:=Ib c;simp only[gI,wS,Ke,Xg]at h;have:=h i b;unfold mT at this;rw[Va b]at this;simp only[Sa]at this;exact this.1
def ltF(a b:iB):Prop:=Op.bytesLess a.N.toList b.N.toList=eA
def bt{c:List iB}:lT c ↔ c.Pairwise ltF:=by
 rw[Qe];exact⟨λh i j _ b a=>h i j a b,λh i j a b=>h i j (by omega) b a⟩
def rg{c:List iB}{f:iB}(h:lT c)(l:yH c f.N (dC f.N c)=dA):lT (mM c (dC f.N c) f):=by
 have n:=iJ f.N h;have k:=II h l;have g:=bt.1 h;rw[<-Za (dC f.N c) c,Ae]at g;rw[bt,mM,Ae,Bc];refine⟨g.1,⟨λb d=>?_,g.2.1⟩,λa m b d=>?_⟩;obtain ⟨j,i,rfl⟩:=Ib d;rw[Rc]at i;rw[Cg];have o:=n.2.2 (dC f.N c+j) (by omega) (by omega);exact wL _ _ o (λe=>k _ (by omega) (toList_inj e));rcases Lb.1 d with rfl|d;obtain ⟨j,i,rfl⟩:=Ib m;rw[Hb]at i;rw[Ue];exact n.2.1 j (by omega) (by omega);exact g.2.2 a m b d
def MA{c:List iB}{i:Nat}{f:iB}(h:lT c)(n:i<zA c)(m:f.N=c[i].N):lT (c.set i f):=by
 have o:∀a(l:a<zA (c.set i f))(g:a<zA c),(c.set i f)[a].N=c[a].N:=λa l g=>by
  rw[List.getElem_set];split
  .rename_i e;subst e;exact m
  rfl
 intro a b j k;have d:b<zA c:=by simpa using k
 rw[o a (by omega) (by omega),o b k d];exact h a b j d
def rY{n d:pB}{s:Int}(c:cG n=eA)(a:0<=s)(b:s<=d.size):tO ⟨n,d,s⟩=eA:=by
 simp[tO,yB,c,a,b]
def vW{a:List iB}{i:Nat}{f g:iB}(h:g∈a.set i f):g=f\/g∈a:=(List.mem_or_eq_of_mem_set h).symm
def dd{a:List iB}{c k b d:Int}(e:zA a<=1000)(f:gI a=eA)(g:0<=c/\c<=1000000000)(h:(pC a:Int)<=c)(i:0<=k/\k<=1000000000000000)(j:0<=b/\b<=1000000000000000)(l:0<=d/\d<=1000000000000000):wE a c k b d=eA:=by
 simp[wE,yB,e,f,g,h,i,j,l]
def aCd{a:List iB}{c:Int}{op:oK}(m:gI a=eA)(l:zA a<=1000)(p:(pC a:Int)<=c)(B:cG op.N=eA)(E:op.K=5->cG op.tq=eA):
 gI (jN a c op).2=eA/\zA (jN a c op).2<=1000/\(pC (jN a c op).2:Int)<=c:=by
 have j:=eY m;have o:=EH m;unfold jN;simp only;split
 .split
  .exact ⟨m,l,p⟩
  rename_i x;split
  .exact ⟨m,l,p⟩
  rename_i A;have C:=iJ op.N j;refine⟨sP (λf i=>?_) (rg (f:=⟨op.N,lA,0⟩) j (by simpa using x)),?_,?_⟩
  .simp only[mM,Ee,Lb]at i;obtain i|rfl|i:=i
   .exact o _ (Ce i)
   .exact rY B (by omega) (by simp)
   exact o _ (Ng i)
  .rw[cO _ _ _ C.1];omega
  rw[eX];simpa using p
 split;exact ⟨m,l,p⟩
 rename_i f v;obtain⟨k,rfl⟩:=Pb.1 v;have h:=o _ (Gb k);simp only[tO,yB,Sa,Ab]at h;split
 .exact ⟨m,l,p⟩
 split
 .split
  .exact ⟨m,l,p⟩
  rename_i G;have b:=cM a (dC op.N a) ⟨a[dC op.N a].N,a[dC op.N a].data++op.data,a[dC op.N a].Y⟩ k;simp only[Ka]at b;refine⟨sP (λg e=>?_) (MA j k rfl),by simpa using l,by simp only;omega⟩;rcases vW e with rfl|e
  .exact rY h.1 h.2.1 (by rw[Ka];omega)
  exact o _ e
 split
 .have b:=cM a (dC op.N a) ⟨a[dC op.N a].N,a[dC op.N a].data,a[dC op.N a].data.size⟩ k;simp only at b;refine⟨sP (λg e=>?_) (MA j k rfl),by simpa using l,by simp only;omega⟩;rcases vW e with rfl|e
  .exact rY h.1 (by omega) (by omega)
  exact o _ e
 split
 .split
  .rename_i u;simp only[yB,Sa,Ab]at u;have b:=cM a (dC op.N a) ⟨a[dC op.N a].N,a[dC op.N a].data.extract 0 op.size.toNat,op.size⟩ k;simp only at b;have F:(a[dC op.N a].data.extract 0 op.size.toNat).size=op.size.toNat:=by rw[Je];omega
   refine⟨sP (λg e=>?_) (MA j k rfl),by simpa using l,by simp only;omega⟩;rcases vW e with rfl|e;exact rY h.1 u.1 (by rw[F];omega);exact o _ e
  exact ⟨m,l,p⟩
 have t:gI (a.eraseIdx (dC op.N a))=eA:=sP (λg e=>o _ (Sf e)) (j.erase _);have z:zA (a.eraseIdx (dC op.N a))=zA a-1:=by rw[Ad,Ma k]
 have D:=mR a _ k;split
 .rename_i y;have u:=(iJ op.tq (j.erase (dC op.N a)))
  have q:=rY (n:=op.tq) (d:=a[dC op.N a].data) (s:=a[dC op.N a].Y) (E y) h.2.1 h.2.2;cases hq:yH (a.eraseIdx (dC op.N a)) op.tq (dC op.tq (a.eraseIdx (dC op.N a))) with
  |true=>
   obtain⟨w,r⟩:=wZ hq;have b:=cM (a.eraseIdx (dC op.N a)) (dC op.tq (a.eraseIdx (dC op.N a))) ⟨op.tq,a[dC op.N a].data,a[dC op.N a].Y⟩ w;simp only at b;rw[GK (f:=⟨op.tq,a[dC op.N a].data,a[dC op.N a].Y⟩) (j.erase _) w r];refine⟨sP (λg e=>?_) (MA (j.erase _) w r.symm),by simp only[Pd];omega,by simp only;omega⟩;rcases vW e with rfl|e;exact q;exact EH t _ e
  |false=>
   rw[wV (f:=⟨op.tq,a[dC op.N a].data,a[dC op.N a].Y⟩) (j.erase _) hq];refine⟨sP (λf i=>?_) (rg (f:=⟨op.tq,a[dC op.N a].data,a[dC op.N a].Y⟩) (j.erase _) hq),?_,?_⟩
   .simp only[mM,Ee,Lb]at i;obtain i|rfl|i:=i
    .exact EH t _ (Ce i)
    .exact q
    exact EH t _ (Ng i)
   .rw[cO _ _ _ u.1];omega
   rw[eX];simp only;omega
 exact ⟨t,by simp only;omega,by simp only;omega⟩
def XI{k cr fl:Int}{dn:Bool}(a:0<=k)(b:k<=1000000000000000):0<=(jD k cr fl dn).2.1/\(jD k cr fl dn).2.1<=1000000000000000:=by
 unfold jD;split;exact ⟨a,b⟩;split;exact ⟨a,b⟩;split;simp only;omega;split<;>(simp only;omega)
def BU{j:List iB}{c k b d:Int}{i:Bool}{a:oK}(h:wE j c k b d=eA)(l:AN a=eA):
 wE (wI j c k b d i a).2.1 c (wI j c k b d i a).2.2.1 b d=eA:=by
 obtain⟨m,n,o,p,q,x,y,r,s,e,f⟩:=pJ h;have g:cG a.N=eA/\(a.K=5->cG a.tq=eA):=by
  simp only[AN,yB,Sa,Fe,Ab]at l;exact⟨l.1.2,λh=>l.2.resolve_left (λk=>k h)⟩
 have t:=XI (cr:=b) (fl:=d) (dn:=i) x y;unfold wI;split;obtain ⟨u,v,w⟩:=aCd (op:=a) m n q g.1 g.2;exact dd v u ⟨o,p⟩ w t ⟨r,s⟩ ⟨e,f⟩;exact dd n m ⟨o,p⟩ q t ⟨r,s⟩ ⟨e,f⟩
def aS:pB:=⟨#[99,107,112,116,46,116,109,112]⟩
def vg:pB:=⟨#[99,107,112,116]⟩
def vI:xD->List oK->xD×Nat
 |K,[]=>(K,0)
 |K,a::r=>if (cE K a).2=0 then vI (cE K a).1 r else cE K a
def FK(n:Int):oK:=⟨6,sH n,⟨#[]⟩,⟨#[]⟩,0⟩
def VM:oK:=⟨6,aS,⟨#[]⟩,⟨#[]⟩,0⟩
def lX(a:Int)(b:pB):List oK:=
 [⟨1,aS,⟨#[]⟩,⟨#[]⟩,0⟩,⟨2,aS,⟨#[]⟩,b,0⟩,⟨3,aS,⟨#[]⟩,⟨#[]⟩,0⟩,⟨5,aS,vg,⟨#[]⟩,0⟩,⟨1,sH (a+1),⟨#[]⟩,⟨#[]⟩,0⟩]
def uQ(first:Int)(k:Nat):List oK:=(List.range k).map fun(i:Nat)=>FK (first+(i:Int))
def qL(a:List iB):List oK:=if 0<=mE aS a 0 then [VM] else []
def zN(K:xD)(L:jG)(a:pB):List oK:=qL K.fs++(lX L.last a++uQ L.first (L.last+1-L.first).toNat)
def aJm(N:sC)(K:xD):sC:=⟨K,N.l,N.now,N.ts,N.lsn,eA,!K.dn⟩
def DJ(c:lC)(N:sC):sC×Int:=
 if lG c=dA then(bL,61)
 else if bf N=dA then(N,60)
 else if bJ N.l=dA then(N,21)
 else if N.l.last=999999 then(N,23)
 else if yN N.lsn N.now N.ts=⟨#[]⟩ then(N,62)
 else if (vI N.d (zN N.d N.l (yN N.lsn N.now N.ts))).2=0 then(⟨(vI N.d (zN N.d N.l (yN N.lsn N.now N.ts))).1,⟨N.l.last+1,N.l.last+1,0⟩,N.now,N.ts,N.lsn,N.deg,N.up⟩,0)
 else(aJm N (vI N.d (zN N.d N.l (yN N.lsn N.now N.ts))).1,((vI N.d (zN N.d N.l (yN N.lsn N.now N.ts))).2:Int))
theorem aU(a b:List oK):∀K:xD,vI K (a++b)=if (vI K a).2=0 then vI (vI K a).1 b else vI K a:=by induction a<;>grind [vI]
def nV{K:xD}{xs:List oK}(a:oK)(h:(vI K xs).2=0):vI K (xs++[a])=cE (vI K xs).1 a:=by grind [vI,cE,aU]
def IX{K:xD}{a d:List oK}(b:oK)(h:(vI K a).2=0)(c:(cE (vI K a).1 b).2≠0):vI K (a++b::d)=cE (vI K a).1 b:=by
 rw[aU,Ma h];simp only[vI];rw[Ja c]
def BT(f:Int)(k:Nat):uQ f (k+1)=uQ f k++[FK (f+k)]:=by simp[uQ,List.range_succ]
def dc(f:Int)(j k:Nat)(h:j<k):∃r,uQ f k=uQ f j++FK (f+j):: r:=by
 obtain⟨m,rfl⟩:∃m,k=j+1+m:=⟨k-j-1,by omega⟩
 refine⟨((List.range m).map λi=>FK (f+(j+1+i:Nat))),?_⟩;simp only[uQ,List.range_add,Ld,Vd,List.range_one,Nd,Fc,Ag];simp only[Bg,Sd,Mb,List.append_cancel_left_eq,List.cons.injEq,true_and];refine Ge λi _=>?_;simp only[Function.comp_apply]
def aJj(a:oK):Prop:=a.N.size<=maxLen/\a.tq.size<=maxLen/\a.data.size<=200000000
def TZ{K:xD}{L:jG}{text:pB}(h:text.size<=200000000):∀f∈zN K L text,aJj f:=by
 intro f a;have e:∀n,(sH n).size<=maxLen:=λn=>by have:=fO n;unfold maxLen;omega
 have d:aS.size<=maxLen:=by unfold maxLen;decide
 have g:vg.size<=maxLen:=by unfold maxLen;decide
 have b:(⟨#[]⟩:pB).size<=maxLen:=Oa _;have c:(⟨#[]⟩:pB).size<=200000000:=Oa _;simp only[zN,qL,lX,uQ,Ee,Md,Lb,Ed,Bf]at a;rcases a with a|(a|a|a|a|a)|⟨i,_,a⟩
 .split at a
  .simp only[Lb,Ed,Bf]at a;subst a;exact⟨d,b,c⟩
  cases a
 .subst a;exact⟨d,b,c⟩
 .subst a;exact⟨d,b,h⟩
 .subst a;exact⟨d,b,c⟩
 .subst a;exact⟨d,g,c⟩
 .subst a;exact⟨e _,b,c⟩
 subst a;exact⟨e _,b,c⟩
def XY:∀(d:List oK)(K:xD),JK K.fs->(∀a∈d,aJj a)->JK (vI K d).1.fs
 |[],K,h,_=>h
 |a::r,K,h,c=>by
  obtain⟨e,f,_⟩:=c a (by simp);have b:=dV h e f;simp only[vI];split;exact XY r _ b (λo g=>c o (Sb _ g));exact b
def DD(K:xD)(a:oK):(cE K a).2<=6:=by grind [cE,zQ,RC]
def IW:∀(b:List oK)(K:xD),(vI K b).2<=6
 |[],_=>Oa _
 |a::r,K=>by
  simp only[vI];split;exact IW r _;exact DD K a
theorem aAb{K:xD}(a:oK)(h:wE K.fs K.c K.k K.cr K.fl=dA):cE K a=(⟨[],0,0,0,0,dA⟩,6):=by
 unfold cE zQ;rw[Ja (by simp[h])]
def aIp{K:xD}{L:jG}{a:pB}(h:wE K.fs K.c K.k K.cr K.fl=dA):vI K (zN K L a)=(⟨[],0,0,0,0,dA⟩,6):=by grind [wE,vI,zN,qL,lX,aAb]
def xd{a:List iB}{t:pB}(b:lT a):(0<=mE t a 0) ↔ yH a t (dC t a)=eA:=by grind [lT,mE,yH,dC,EJ,iJ]
structure XV where
 x:oF
 a:nC
 c:Nat
def AW(b:List XV):List jA:=b.flatMap λy=>[qA y.a (zA y.x.B) y.c,aB y.x.bits]
def YD(a b:List XV):AW (a++b)=AW a++AW b:=by simp[AW]
def aAu(w:fA)(b:Nat)(T:Nat->Nat)(d:List XV):Prop:=∀i(h:i<zA d),mN w b T (i+1) d[i].a d[i].x.B/\zA d[i].x.B<=d[i].c
def bY(w:fA)(b:Nat)(e:kA)(v:jA)(n:Nat)(a:List oF):Prop:=
 ∃T ys,w.ownsRow b e 2 v n (AW ys)/\ys.map (·.x)=a/\(∀g,v.ownBlock=cA g->T g=0)/\aAu w b T ys
def ja{w:fA}{B:Nat}{e:kA}{m:Nat}{a:nC}{n c:Nat}{i:List jA}(h:w.ownsRow B e m (qA a n c) n i):n<=c:=by
 obtain⟨_,j⟩|⟨g,b,d,e,_,_,f,_⟩:=h.2;omega
 cases e;exact f
def bY.nil(w:fA)(b:Nat)(e:kA):bY w b e (qA aA 0 0) 0 []:=
 ⟨λ_=>0,[],fA.ownsRow_nil _ _ _ _,rfl,λ_ _=>rfl,λi h=>absurd h (by simp)⟩
def bY.row{w:fA}{b:Nat}{e:kA}{v:jA}{n:Nat}{i:List oF}(h:bY w b e v n i):∃a c,v=qA a n c:=by
 obtain⟨_,_,h,_⟩:=h;obtain⟨rfl,rfl⟩|⟨g,d,f,rfl,_⟩:=h.2;exact ⟨aA,0,rfl⟩;exact ⟨_,_,rfl⟩
def bY.snoc{wr w4 w6:fA}{b c f k:Nat}{e:kA}{v:jA}{T:Nat->Nat}{ys:List XV}{G:List oF}{x:oF}{q:nC}{r:Nat}
(p:w6.ownsRow b e 2 (qA (vB c) (k+1) f) (k+1) (AW ys++[qA q (zA x.B) r,aB x.bits]))
(D:ys.map (·.x)=G)(C:zA ys=k)(F:∀g,v.ownBlock=cA g->T g=0)(E:aAu wr b T ys)(O:b<=wr.1.size)
(A:∀g,g<wr.1.size->b<=g->v.ownBlock≠cA g->w6.heap[g]?=wr.heap[g]?)(B:∀g,wr.1.size<=g->g<w4.1.size->w6.heap[g]?=w4.heap[g]?)
(H:zD w4 wr.1.size q x.B)(w:zA x.B<=r)
(y:(v.ownBlock=cA c/\c<wr.1.size)\/w4.1.size<=c)(I:wr.1.size<=w4.1.size):bY w6 b e (qA (vB c) (k+1) f) (k+1) (G++[x]):=by
 refine⟨λg=>if g<wr.1.size then T g else if g<w4.1.size then k+1 else 0,ys++[⟨x,q,r⟩],?_,?_,?_,?_⟩;rw[YD];exact p;rw[Ld,D];rfl
 .intro g l;simp only[jA.ownBlock,Qa]at l;subst l;obtain⟨h,M⟩|h:=y
  .simp only[Ma M];exact F _ h
  simp only[Ja (show ¬c<wr.1.size by omega),Ja (show ¬c<w4.1.size by omega)]
 intro i z;by_cases d:i<zA ys
 .rw[Ve d];exact⟨(E i d).1.keep λg l u K=>⟨A g l u (λe=>by have:=F g e;omega),by simp only[Ma l];exact K⟩,(E i d).2⟩
 have e:i=k:=by simp at z;omega
 subst e;rw[Re (by omega)];simp only[C,Nat.sub_self,Eg];refine⟨?_,w⟩;obtain h|⟨g,o,s,N,rfl,J,a,t⟩:=H;exact Ca h;have n:=bB a;have m:=B g (by omega) n;have L:∀j,w6.cell? (eB g j)=w4.cell? (eB g j):=λj=>fA.cell?_of_block m;exact La ⟨g,o,s,N,rfl,by omega,by simp only[Ja (show ¬g<wr.1.size by omega),Ma n],m.trans a,λi z=>by simp only[L];exact t i z⟩
def bY.own{w:fA}{b:Nat}{e:kA}{a:nC}{n cap:Nat}{q:List oF}(h:bY w b e (qA a n cap) n q)(I:zA q=n):aH w b a q:=by
 obtain⟨T,m,C,v,D,y⟩:=h;have K:zA m=n:=by rw[<-I,<-v,Xa]
 obtain⟨_,M⟩|⟨g,u,o,s,E,A,_,_,J,t⟩:=C.2;exact Ca (Nb.1 (by omega));simp only[jA.slice.injEq]at s;have F:T g=0:=D g (by rw[s.1];rfl);have G:∀(l:List XV) i(p:i<zA l),(AW l)[i*2]?=cA (.slice l[i].a (zA l[i].x.B) l[i].c)/\(AW l)[i*2+1]?=cA (aB l[i].x.bits):=by
  intro l;unfold AW;induction l with
  |nil=>intro i p;exact absurd p (by simp)
  |cons x r L=>
   intro i p;cases i with
   |zero=>simp
   |succ i=>
    have:=L i (by simpa using p);simp only[Xc,Sd,Mb,Ec];refine⟨?_,?_⟩;rw[show(i+1)*2=i*2+1+1 by omega,Ga,Ga];exact this.1;rw[show(i+1)*2+1=i*2+1+1+1 by omega,Ga,Ga];exact this.2
 have z:∀j,j<n*2->w.cell? (eB g j)=(AW m)[j]?:=λj H=>by
  rw[jB.cell (show jB w g o e from A) j,<-Yd,<-t,Jb H]
 refine La ⟨g,0,o,e,T,s.1,E,A,F,λi p=>?_⟩;have k:i<zA m:=by omega
 have B:q[i]=m[i].x:=by simp only[<-v,List.getElem_map]
 obtain⟨d,f⟩:=G m i k;rw[B];refine⟨m[i].a,m[i].c,?_,?_,(y i k).1,(y i k).2⟩;rw[Ya,z _ (by omega)];exact d;rw[Ya,z _ (by omega)];exact f
def AS(t:pB):∀(a:List iB)(k:Nat),mE t a k = -1\/∃i,i<zA a/\mE t a k=(k+i:Nat)
 |[],_=>Ca rfl
 |f::r,k=>by
  rw[mE];split;exact La ⟨0,by simp,by simp⟩;rcases AS t r (k+1) with h|⟨i,b,h⟩;exact Ca h;exact La ⟨i+1,by simp;omega,by rw[h];omega⟩
def pN(a:List iB)(b c:Bool)(t:pB):pB×Bool:=
 if b=eA/\c=dA then(match (if 0<=mE t a 0 then a[(mE t a 0).toNat]? else aA) with
  |some f=>(f.data,eA)
  |none=>(lA,dA)) else(lA,dA)
def ZT(a:nC)(j:Nat)(g:List iB)(c k l m:Int)(q:Bool)(t:pB)(w:fA)(h:uB w a g)(hs:iP g)(r:zA g<=maxLen)(s:pC g<=1000000000):
 Calls prog 38 #[uA #[qA a (zA g) j,aB c,aB k,aB l,aB m,sA q],pA t] w λe R=>
  e=.returned (.tuple #[pA (pN g (wE g c k l m) q t).1,sA (pN g (wE g c k l m) q t).2])/\xB w R:=by
 have n:cB (uB w a g):=h;have J:cB (iP g):=hs;have G:cB _:=r;have K:cB _:=s;unfold maxLen at r;clear h hs s;obtain⟨L,v⟩:∃L,wE g c k l m=L:=⟨_,rfl⟩
 have I:cB _:=v;rw[v];clear v;obtain⟨z,P⟩:∃z,mE t g 0=z:=⟨_,rfl⟩
 have H:cB _:=P;have x:=λR h=>sW a j g c k l m q t R h G.o;rw[P]at x;have p:cB _:=x;clear x P;by_cases N:L=dA
 .subst N;have E:cB (pN g dA q t=(lA,dA)):=by show _=_;simp[pN]
  go_enter func38,ntmps38;go_wp2_with fail;apply jC (p.o _ (n.o.z bC));intro S d;obtain⟨y,A,B,C,D,F⟩:=(gP.new w (qA a (zA g) j) (aB c) (aB k) (aB l) (aB m) (sA q) 35).z d;go_wp2_with fail;apply jC (wM I.o _ ((n.o.z bC).z d) J.o G.o K.o);intro T f;obtain⟨U,V,W,X,Y,Z⟩:=((gP.new w (qA a (zA g) j) (aB c) (aB k) (aB l) (aB m) (sA q) 35).z d).z f;have u:cB _:=aC (aC bC d) f;clear y A B C D F d f;go_wp2;go_ret2;exact⟨by rw[E.o];rfl,u.o⟩
 obtain rfl:L=eA:=by simpa using N
 clear N;by_cases O:q=eA
 .subst O;have E:cB (pN g eA eA t=(lA,dA)):=by show _=_;simp[pN]
  go_enter func38,ntmps38;go_wp2_with fail;apply jC (p.o _ (n.o.z bC));intro S d;obtain⟨y,A,B,C,D,F⟩:=(gP.new w (qA a (zA g) j) (aB c) (aB k) (aB l) (aB m) (sA eA) 35).z d;go_wp2_with fail;apply jC (wM I.o _ ((n.o.z bC).z d) J.o G.o K.o);intro T f;obtain⟨U,V,W,X,Y,Z⟩:=((gP.new w (qA a (zA g) j) (aB c) (aB k) (aB l) (aB m) (sA eA) 35).z d).z f;have u:cB _:=aC (aC bC d) f;clear y A B C D F d f;go_wp2;go_ret2;exact⟨by rw[E.o];rfl,u.o⟩
 obtain rfl:q=dA:=by simpa using O
 clear O;by_cases o:z<0
 .have E:cB (pN g eA dA t=(lA,dA)):=by
   show _=_;have e:¬0<=mE t g 0:=by rw[H.o];omega
   simp[pN,e]
  go_enter func38,ntmps38;go_wp2_with fail;apply jC (p.o _ (n.o.z bC));intro S d;obtain⟨y,A,B,C,D,F⟩:=(gP.new w (qA a (zA g) j) (aB c) (aB k) (aB l) (aB m) (sA dA) 35).z d;go_wp2_with fail;apply jC (wM I.o _ ((n.o.z bC).z d) J.o G.o K.o);intro T f;obtain⟨U,V,W,X,Y,Z⟩:=((gP.new w (qA a (zA g) j) (aB c) (aB k) (aB l) (aB m) (sA dA) 35).z d).z f;have u:cB _:=aC (aC bC d) f;clear y A B C D F d f;go_wp2;go_ret2;exact⟨by rw[E.o];rfl,u.o⟩
 obtain⟨i,M,Q⟩:∃i,i<zA g/\z=(i:Nat):=by
  rcases AS t g 0 with h|⟨i,M,h⟩;rw[H.o]at h;omega;exact ⟨i,M,by rw[<-H.o,h];simp⟩
 subst Q;have E:cB (pN g eA dA t=(g[i].data,eA)):=by
  show _=_;have e:0<=mE t g 0:=by rw[H.o];omega
  have h:(mE t g 0).toNat=i:=by rw[H.o];simp
  simp[pN,e,h,Va M]
 have h:=o;clear o;go_enter func38,ntmps38;go_wp2_with fail;apply jC (p.o _ (n.o.z bC));intro S d;obtain⟨y,A,B,C,D,F⟩:=(gP.new w (qA a (zA g) j) (aB c) (aB k) (aB l) (aB m) (sA dA) 35).z d;go_wp2_with fail;apply jC (wM I.o _ ((n.o.z bC).z d) J.o G.o K.o);intro T f;obtain⟨U,V,W,X,Y,Z⟩:=((gP.new w (qA a (zA g) j) (aB c) (aB k) (aB l) (aB m) (sA dA) 35).z d).z f;have u:cB _:=aC (aC bC d) f;obtain⟨b,o,rfl,h,h,c1,c2⟩:=(((n.o.z bC).z d).z f).at M;clear y A B C D F d f;go_wp2;go_ret2;exact⟨by rw[E.o];rfl,u.o⟩
def DR(w:fA)(P D:Nat)(L:jG):Prop:=jB w P #[.pointer (vB D),aB L.first,aB L.last,aB L.size] 64
def DR.z{w a:fA}{P D:Nat}{L:jG}(h:DR w P D L)(b:xB w a):DR a P D L:=jB.z h b
def DR.cells{w:fA}{P D:Nat}{L:jG}(h:DR w P D L):w.cell? (eB P 0)=cA (.pointer (vB D))/\w.cell? (eB P 1)=cA (aB L.first)/\w.cell? (eB P 2)=cA (aB L.last)/\w.cell? (eB P 3)=cA (aB L.size):=by
 refine⟨?_,?_,?_,?_⟩<;>rw[jB.cell h]<;>rfl
def VA(L:jG)(w:fA):cF 222 #[uA #[aB L.first,aB L.last,aB L.size]] w (sA (bJ L)):=by
 obtain⟨a,b,c⟩:=L;have f:cB (xB w (w.alloc (xA #[aB a,aB b,aB c] 37))):=bC;by_cases i:1<=a
 .by_cases j:a<=b
  .by_cases k:b<=999999
   .have e:cB (bJ ⟨a,b,c⟩=yB c 0 1000000000):=by
     show _=_;have d:yB b 1 999999=eA:=by simp[yB];omega
     have h:yB a 1 b=eA:=by simp[yB];omega
     simp only[bJ,d,h,Oc]
    go_enter func222,ntmps222;go_wp2_with fail;apply kO (yF _ _ _);go_wp2;go_ret;exact⟨oB e.o.symm,f.o⟩
   .have e:cB (bJ ⟨a,b,c⟩=dA):=by
     show _=_;have d:yB b 1 999999=dA:=by simp[yB];omega
     simp[bJ,d]
    go_enter func222,ntmps222;go_wp2;go_ret;exact⟨oB e.o.symm,f.o⟩
  have e:cB (bJ ⟨a,b,c⟩=dA):=by
   show _=_;have d:yB a 1 b=dA:=by simp[yB];omega
   simp[bJ,d]
  go_enter func222,ntmps222;go_wp2;go_ret;exact⟨oB e.o.symm,f.o⟩
 have e:cB (bJ ⟨a,b,c⟩=dA):=by
  show _=_;have d:yB a 1 b=dA:=by simp[yB];omega
  simp[bJ,d]
 go_enter func222,ntmps222;go_wp2;go_ret;exact⟨oB e.o.symm,f.o⟩
def jP(L:jG)(z a:Int):Bool:=decide (L.size≠0) &&decide (a<L.size+z)
def uZ(P D:Nat)(L:jG)(z d:Int)(w:fA)(h:DR w P D L)(l:0<=L.size/\L.size<=1000000000)(n:0<=z/\z<=1000000000):
 rI 330 #[.pointer (vB P),aB z,aB d] w (sA (jP L z d)):=by
 obtain⟨g,i,j,k⟩:=h.cells;clear h g i j;obtain⟨a,b,c⟩:=L;simp only at l k;have h:IntKind.i64.wrap (c+z)=c+z:=by rw[IntKind.wrap_i64];omega
 by_cases f:c=0
 .subst f;have e:cB (jP ⟨a,b,0⟩ z d=dA):=by show _=_;simp[jP]
  go_enter func330,ntmps330;go_wp2;go_ret;exact⟨oB e.o.symm,rfl⟩
 have e:cB (jP ⟨a,b,c⟩ z d=decide (d<c+z)):=by show _=_;simp[jP,f]
 go_enter func330,ntmps330;go_wp2;go_ret;exact⟨oB (by rw[e.o];simp[f]),rfl⟩
def bR(L:jG)(p:pB)(a:Int):Nat:=
 if (bJ L&&yB a 1 1000000000)=dA then 21
 else if yB p.size 1 60000=dA then 22
 else if L.last=999999/\jP L (8+p.size) a=eA then 23 else 0
def PV{L:jG}(h:bJ L=eA):0<=L.size/\L.size<=1000000000/\1<=L.first/\L.first<=L.last/\1<=L.last/\L.last<=999999:=by
 simp only[bJ,yB,Sa,Ab]at h;omega
def pn(P D:Nat)(L:jG)(p:pB)(a:Int)(w:fA)(h:DR w P D L)(G:p.size<=1900000):
 cF 298 #[.pointer (vB P),pA p,aB a] w (aGt (bR L p a)):=by
 obtain⟨t,u,v,x⟩:=h.cells;have s:cB (DR w P D L):=h;clear h t;have j:cB _:=λW=>VA L W;have o:cB (∀W,rI 314 #[aB (p.size:Int)] W (sA (yB p.size 1 60000))):=λW=>ds _ W;cases hl:bJ L with
 |false=>
  have E:cB (bR L p a=21):=by show _=_;rw[bR,hl];rfl
  rw[hl]at j;clear hl;go_enter func298,ntmps298;go_wp2_with fail;apply jC (j.o _);intro g b;have d:cB _:=b;clear b;go_wp2;go_ret;rw[E.o];exact⟨rfl,d.o⟩
 |true=>
  obtain⟨m,n,_,_,y,z⟩:=PV hl;rw[hl]at j;by_cases A:1<=a/\a<=1000000000
  .have c:yB a 1 1000000000=eA:=by simp[yB];omega
   cases hf:yB p.size 1 60000 with
   |false=>
    have E:cB (bR L p a=22):=by show _=_;simp[bR,hl,c,hf]
    rw[hf]at o;clear hf hl c;go_enter func298,ntmps298;go_wp2_with fail;apply jC (j.o _);intro g b;have d:cB _:=b;clear b;go_wp2_with fail;apply kO (o.o _);go_wp2;go_ret;rw[E.o];exact⟨rfl,d.o⟩
   |true=>
    have H:1<=p.size/\p.size<=60000:=by
     simp only[yB,Sa,Ab]at hf;omega
    have q:cB (bR L p a=if L.last=999999/\jP L (8+p.size) a=eA then 23 else 0):=by show _=_;simp[bR,hl,c,hf]
    rw[hf]at o;clear hf hl c;go_enter func298,ntmps298;go_wp2_with fail;apply jC (j.o _);intro g b;have d:cB _:=b;have k:cB (DR g P D L):=s.o.z b;obtain⟨_,_,F,_⟩:=k.o.cells;clear b u v x;go_wp2_with fail;apply kO (o.o _);by_cases l:L.last=999999
    .have r:(L.last==999999)=eA:=by simpa using l
     cases hfu:jP L (8+p.size) a with
     |true=>
      have E:cB (bR L p a=23):=by show _=_;rw[q.o,Ma ⟨l,hfu⟩]
      have i:cB (rI 330 #[.pointer (vB P),aB (8+(p.size:Int)),aB a] g (sA eA)):=by
       have:=uZ P D L (8+(p.size:Int)) a g k.o ⟨m,n⟩ (by omega);rw[hfu]at this;exact this
      clear hfu l;go_wp2_with fail;apply kO i.o;go_wp2;go_ret;rw[E.o];exact⟨rfl,d.o⟩
     |false=>
      have E:cB (bR L p a=0):=by show _=_;rw[q.o,Ja (λh=>by rw[hfu]at h;cases h.2)]
      have i:cB (rI 330 #[.pointer (vB P),aB (8+(p.size:Int)),aB a] g (sA dA)):=by
       have:=uZ P D L (8+(p.size:Int)) a g k.o ⟨m,n⟩ (by omega);rw[hfu]at this;exact this
      clear hfu l;go_wp2_with fail;apply kO i.o;go_wp2;go_ret;rw[E.o];exact⟨rfl,d.o⟩
    have r:(L.last==999999)=dA:=by simpa using l
    have E:cB (bR L p a=0):=by show _=_;rw[q.o,Ja (λh=>l h.1)]
    clear l;go_wp2;go_ret;rw[E.o];exact⟨rfl,d.o⟩
  have E:cB (bR L p a=21):=by
   show _=_;have c:yB a 1 1000000000=dA:=by simp[yB];omega
   simp[bR,c]
  by_cases B:a<1
  .go_enter func298,ntmps298;go_wp2_with fail;apply jC (j.o _);intro g b;have d:cB _:=b;clear b;go_wp2;go_ret;rw[E.o];exact⟨rfl,d.o⟩
  have C:1000000000<a:=by omega
  clear A;go_enter func298,ntmps298;go_wp2_with fail;apply jC (j.o _);intro g b;have d:cB _:=b;clear b;go_wp2;go_ret;rw[E.o];exact⟨rfl,d.o⟩
def shV(k:Int):jA:=uA #[sA (yU k),sA (k==1),sA (xU k),sA (kV k),sA (k==1||k==2||k==3||k==4)]
def UZ{k:Int}(h:1<=k/\k<=6)(w:fA):cF 142 #[aB k] w (sA eA):=by
 obtain⟨b,c⟩:=h;go_enter func142,ntmps142;go_wp2;go_ret;exact⟨rfl,gD⟩
def aEa{x:pB}(h:x.size=0):x.toList=[]:=by rw[ByteArray.toList_eq,<-Nb];simpa using h
def MF{b:Bool}{p:Prop}(h:b=dA->p):b=eA\/b=dA/\p:=by cases b;exact La ⟨rfl,h rfl⟩;exact Ca rfl
def aGx{r:eG}(a:nC)(i:Nat)(w:fA)(h:pv r):
 cF 145 #[shV r.K,uA #[aB r.K,pA r.T,pA r.R,aB r.U,qA a (zA r.P) i]] w (sA eA):=by
 obtain⟨-,j,l,o,p,-⟩:=h;obtain⟨k,C,A,B,x⟩:=r;dsimp only at *;have b:=MF j;have d:(k==1)=eA\/(k==1)=dA/\x=[]:=MF λe=>p (by simpa using e);have f:=MF l;have g:=MF o;unfold shV;generalize (k==1||k==2||k==3||k==4)=c at *;clear j l o p;generalize yU k=t at *;generalize (k==1)=s at *;generalize xU k=m at *;generalize kV k=n at *;rcases b with rfl|⟨rfl,q⟩<;>rcases d with rfl|⟨rfl,rfl⟩<;>rcases f with rfl|⟨rfl,u⟩<;>obtain rfl|⟨rfl,rfl⟩:=g
 all_goals
  (try have y:=aEa q);(try have z:=aEa u);go_enter func145,ntmps145;go_wp2;go_ret;exact⟨rfl,aC bC bC⟩
def aCg(x:cC):List jA:=[pA x.N,pA x.V]
def aHr(w:fA):PredBelow prog 212 #[] (λx=>uA (aCg x).toArray) (λx:cC=>decide ((x.N.size:Int) > 255)) w:=λW x a=>by
 show Calls prog 212 #[uA #[pA x.N,pA x.V]] W _;go_enter func212,ntmps212;go_wp2;go_ret;exact⟨rfl,a.alloc a.size _⟩
def xi(a:nC)(c:Nat)(d:jA)(w:fA):cF 260 #[qA a 0 c,d] w (aB (-1)):=by
 go_enter func260,ntmps260;go_wp2;go_loopw [5,8] (λ_ i wr=>i=aB 0/\xB w wr) (λ_ _ _=>0)
 case atStart=>exact⟨rfl,gD⟩
 case round=>
  obtain⟨rfl,b⟩:=hrel;go_wp2;go_ret;exact⟨rfl,b⟩
def aBs(a:nC)(c:Nat)(d:jA)(w:fA):cF 211 #[qA a 0 c,d] w (sA dA):=by
 have h:cB (∀W,cF 260 #[qA a 0 c,d] W (aB (-1))):=λW=>xi a c d W;go_enter func211,ntmps211;go_wp2_with fail;apply jC (h.o _);intro i b;have g:=dB b;clear b;go_wp2;go_ret;exact⟨rfl,g.o⟩
def aBr(a:nC)(c:Nat)(g:List cC)(w:fA)(p:qD w a g)(r:zA g<=2000000):
 cF 211 #[qA a (zA g) c,.func (.func 212) #[] #[]] w (sA (g.any λx=>decide ((x.N.size:Int) > 255))):=by
 obtain rfl|⟨b,o,rfl,k,h⟩:=p;exact aBs a c _ w;have n:∀args w,(callFunc 212 args).run prog w=.ok (.enter 212 args) w:=enters_of func212 (by kernel_rfl) rfl;haveI:=aHn
 have d:=AnyQ.slices_ContainsFunc contL 2 isAgg175 sizeOf175 aCg (λ_=>rfl) (λx:cC=>decide ((x.N.size:Int) > 255)) 212 #[] n b o (zA g) c g w (aHr w) (Ia _) (by omega) k (λj m i v f=>by
  have l:=h j m;have e:g[j]! = g[j]:=getElem!_pos g j m;rw[e]at f;match i,f with
  |0,f=>simp[aCg]at f;rw[<-f];exact l.1
  |1,f=>simp[aCg]at f;rw[<-f];exact l.2
  |i+2,f=>simp[aCg]at f)
 change Calls prog 211 _ _ _ at d;rw[Rb]at d;exact d
def XN(r:eG)(a:nC)(j:Nat)(w:fA)(m:oJ w a r.P)(h:pv r):
 cF 146 #[uA #[aB r.K,pA r.T,pA r.R,aB r.U,qA a (zA r.P) j]] w (sA eA):=by
 obtain⟨-,-,-,-,-,E,-,F,g⟩:=h;have t:=dB m;have u:=dB g;clear m g;go_enter func146,ntmps146;go_wp2;go_loopw [4,18] (λ_ i wr=>∃k:Nat,k<=zA r.P/\i=aB k/\xB w wr) (λ_ i _=>zA r.P-(intOf i).toNat)
 case atStart=>exact⟨0,Oa _,rfl,bC⟩
 case round=>
  obtain⟨k,H,rfl,c⟩:=hrel;by_cases f:k<zA r.P
  .obtain ⟨b,o,v,B,rfl,G,D,y,p⟩:=(t.o.z c).at f;obtain⟨I,n⟩:=u.o k f;have l:=dB (λW(z:xB wr W)=>aBr v B _ W (p.z z) (by omega));rw[List.any_eq_false.2 λx g=>by
    obtain⟨i,A,rfl⟩:=List.mem_iff_getElem.1 g;have:=(n i A).1;simp;omega]at l
   have s:=dB c;clear p n c;go_wp2_with fail;apply jC (l.o _ bC);intro J d;have q:=dB (aC (aC s.o bC) d);clear d;go_wp2;exact⟨⟨k+1,by omega,by go_num,q.o⟩,by simp[intOf];omega⟩
  .go_wp2;go_ret;exact⟨rfl,c⟩
def ao(r:eG)(a:nC)(q:Nat)(w:fA)(t:oJ w a r.P)(U:FT r<=1048576):
 cF 147 #[uA #[aB r.K,pA r.T,pA r.R,aB r.U,qA a (zA r.P) q]] w (aB ((r.T.size+r.R.size+fQ r.P:Nat):Int)):=by
 have H:FT r=r.T.size+r.R.size+zA r.P+xF r.P:=rfl;have K:=aIx r.P;have x:cB (oJ w a r.P):=t;clear t;go_enter func147,ntmps147;go_wp2;go_loopw [3,5,7,18,25] (λz _ _ i _ wr=>∃k:Nat,k<=zA r.P/\i=aB k/\z=aB ((r.T.size+r.R.size+fQ (r.P.take k):Nat):Int)/\xB w wr) (λ_ _ _ i _ _=>zA r.P-(intOf i).toNat)
 case atStart=>exact⟨0,Oa _,rfl,by simp[fQ],bC⟩
 case round=>
  obtain⟨k,S,rfl,rfl,d⟩:=hrel;by_cases l:k<zA r.P
  .obtain ⟨b,o,B,X,rfl,R,O,C,u⟩:=(x.o.z d).at l;have p:=aAf r.P k l;have I:fQ (r.P.take (k+1))<=fQ r.P:=by
    have e:=LK (r.P.take (k+1)) (r.P.drop (k+1));rw[Za]at e;omega
   have F:=QX r.P k l;have E:tJ r.P[k]=zA r.P[k].B+aE r.P[k].B:=rfl;have y:cB (∀W,xB wr W->qD W B r.P[k].B):=λW h=>u.z h;have n:cB (fQ (r.P.take (k+1))=fQ (r.P.take k)+aE r.P[k].B):=p;clear u p;rename fA=>v;generalize r.P[k].B=g at *;generalize fQ (r.P.take k)=A at *;generalize r.P[k].bits=N at *;go_wp2;go_loopw [3,7,25] (λz _ j wr=>∃m:Nat,m<=zA g/\j=aB m/\z=aB ((r.T.size+r.R.size+A+aE (g.take m):Nat):Int)/\xB v wr) (λ_ _ j _=>zA g-(intOf j).toNat)
   case atStart=>exact⟨0,Oa _,rfl,by simp[aE],bC⟩
   case round=>
    obtain⟨m,T,rfl,rfl,c⟩:=hrel;by_cases f:m<zA g
    .obtain ⟨M,V,rfl,D,P,Q⟩:=(y.o _ c).at f;have s:=vT g m f;have G:=iR g (m+1);go_wp2;refine⟨⟨m+1,by omega,by go_num,?_,aC c bC⟩,by simp[intOf];omega⟩;refine Kd (jA.int .i64) ?_;have J:=n.o;rw[s];unfold wrap64;omega
    have e:g.take m=g:=Ra (by omega);rw[e];go_wp2;refine⟨⟨k+1,by omega,by go_num,?_,aC d c⟩,by simp[intOf];omega⟩;refine Kd (jA.int .i64) ?_;rw[n.o];omega
  .have e:r.P.take k=r.P:=Ra (by omega);rw[e];go_wp2;go_ret;exact⟨rfl,d⟩
def aMm(a:List cC):Prop:=∀i(h:i<zA a),a[i].N.size<=1000000000/\a[i].V.size<=1000000000
def eZ(a:List cC):List pB:=a.flatMap λl=>[gN l.N,dG l.V]
def im(a:List cC)(k:Nat)(h:k<zA a):eZ (a.take (k+1))=eZ (a.take k)++[gN a[k].N,dG a[k].V]:=by
 unfold eZ;rw[Pa h,He];rfl
def NL:∀(a:List cC),vF (eZ a)=nD a
 |[]=>rfl
 |l::r=>by
  have e:eZ (l::r)=[gN l.N,dG l.V]++eZ r:=rfl;rw[e,oG,NL r,nD];simp[vF]
def oc(a:nC)(Z:Nat)(c:List cC)(w:fA)(hf:qD w a c)(hB:aMm c)(hlen:zA c<=255):
 cF 214 #[qA a (zA c) Z] w (pA (aI c)):=by
 have HF:cB (qD w a c):=hf;have HB:cB (aMm c):=hB;have HU:cB (∀W,cF 23 #[mA oA (zA c:Nat)] W (pA (tB 1 (zA c:Nat)))):=λW=>CG (zA c) W;have hz1:=nB 1 (zA c:Nat);have V:cB (aI c=tB 1 (zA c:Nat)++nD c):=rfl;generalize tB 1 (zA c:Nat)=Y at *;obtain⟨ti,O,g0,h0,i0⟩:=xZ;have HI:cB (prog.info? 9=cA ti):=O;clear hf hB O;go_enter func214,ntmps214;go_wp2_with fail;apply jC (HU.o _);intro Q r;have B1:cB (xB w Q):=r;have e0:w.1.size<=Q.1.size:=r.size;clear r;go_wp2;go_loopw [3,5,12] (λk0 _ i wr=>∃(k:Nat)(f:List pB)(g C:Nat),k<=zA c/\i=mA oA k/\k0=qA (cA ⟨g,0,aA⟩) (zA f) C/\zA f<=1+2*k/\iG f<=1+k*3000000000/\cB (f=Y::eZ (c.take k))/\cB (wr.ownsRow w.1.size 9 1 (qA (cA ⟨g,0,aA⟩) (zA f) C) (zA f) (f.map jA.string))/\xB w wr) (λ_ _ i _=>zA c-(intOf i).toNat)
 case atStart=>
  exact⟨0,[Y],_,_,Oa _,rfl,rfl,by simp,by simp[iG];omega,rfl,⟨rfl,La ⟨Q.1.size,1,_,rfl,e0,heap_alloc_new _ _,Ia _,by simp[maxLen],rfl,rfl⟩⟩,aC B1.o bC⟩
 case round=>
  obtain⟨k,f,g,C,hk,rfl,rfl,hpl,hps,I,j,n⟩:=hrel;by_cases E:k<zA c
  .obtain ⟨b,o,rfl,hb,c0,c1⟩:=(HF.o.z n).at E;obtain⟨b0,d0⟩:=HB.o k E;have X:cB (∀W,cF 213 #[pA c[k].N] W (pA (gN c[k].N))):=λW=>pS c[k].N W b0;have J:cB (∀W,cF 162 #[pA c[k].V] W (pA (dG c[k].V))):=λW=>rL c[k].V W d0;have hz8:=sF c[k].N;have hz16:=eF c[k].V;have HT:=im c k E;have U:cB (f++[gN c[k].N,dG c[k].V]=Y::eZ (c.take (k+1))):=by show _=_;rw[HT,I.o];rfl
   clear HT;generalize gN c[k].N=q at *;generalize dG c[k].V=h at *;generalize c[k].N=F at *;generalize c[k].V=G at *;have s:cB (jB (wr.alloc (xA #[pA F,pA G] 175)) wr.1.size #[pA F,pA G] 175/\xB wr (wr.alloc (xA #[pA F,pA G] 175))):=⟨heap_alloc_new _ _,bC⟩
   have B:cB ((wr.alloc (xA #[pA F,pA G] 175)).ownsRow w.1.size 9 1 (qA (cA ⟨g,0,aA⟩) (zA f) C) (zA f) (f.map jA.string)/\xB w (wr.alloc (xA #[pA F,pA G] 175))):=⟨hC j.o bC,aC n bC⟩
   go_wp2_with fail;generalize wr.alloc (xA #[pA F,pA G] 175)=W at *;have S:=s.o.1.cell 0;have T:=s.o.1.cell 1;simp only[Xb,Ob,Ga]at S T;have l:wr.1.size<W.1.size:=bB s.o.1;have j0:w.1.size<=W.1.size:=B.o.2.size;have hgB:g<wr.1.size:=(fH j.o).2.1;clear j s hb c0 c1 n;generalize wr.1.size=v at *;clear wr;go_region_held3 (λp=>p.cell? ⟨v,0,aA⟩=cA (pA F)/\p.cell? ⟨v,1,aA⟩=cA (pA G))
    (first
     |go_keep
     |exact⟨z.trans S,A.trans T⟩
     |exact⟨((d.alloc d.size _).cell l).trans S,((d.alloc d.size _).cell l).trans T⟩
     |exact⟨(d.cell l).trans S,(d.cell l).trans T⟩
     |exact⟨(u.cell l).trans S,(u.cell l).trans T⟩)
    ((first
      |(go_at_call 213;apply jC (X.o _);intro Q r;have u:xB W Q:=(Below.refl _ W).drew.trans r)
      |(go_at_call 162;apply jC (J.o _);intro w2 t;have d:xB W w2:=u.trans (t.mono u.size))
      |(refine dJ _ (by rfl) _ _ _ (by rfl) w.1.size 9 ti _ 1 16 underlying30 HI.o g0 h0 i0 rfl (by omega) g (zA f) C _ (by rfl) (by exact hC (hC B.o.1 d) bC) _ 2 2 [pA q,pA h] (by rfl) rfl (by exact La ⟨_,rfl,fA.news_of_block (cs:=#[pA q,pA h]) (heap_alloc_new _ _)⟩) (by simp[jA.oneCell']) (by simp[maxLen];omega) (by omega) (by have:=d.size;simp;omega) ?_;intro g5 x R m K D hg5 L hlt5;have z:R.cell? ⟨v,0,aA⟩=W.cell? ⟨v,0,aA⟩:=(fA.cell?_of_block (D v (by have:=d.size;simp;omega) (by omega))).trans ((d.alloc d.size _).cell l);have A:R.cell? ⟨v,1,aA⟩=W.cell? ⟨v,1,aA⟩:=(fA.cell?_of_block (D v (by have:=d.size;simp;omega) (by omega))).trans ((d.alloc d.size _).cell l);have y:xB w R:=((aC B.o.2 d).alloc (Ua j0 d.size) _).trans K)))
   have P:f.map jA.string++[jA.string q,pA h]=(f++[q,h]).map jA.string:=by simp
   have N:zA (f++[q,h])=zA f+2:=by simp
   have hsm:iG (f++[q,h])=iG f+(q.size+h.size):=by rw[wH];simp[iG]
   rw[P,<-N]at m;rw[<-N];have H:cB (R.ownsRow w.1.size 9 1 (.slice (cA ⟨g5,0,aA⟩) (zA (f++[q,h])) x) (zA (f++[q,h])) ((f++[q,h]).map jA.string)/\xB w R):=⟨m,y⟩
   clear m K y D L z A P;generalize f++[q,h]=l0 at *;go_wp2;exact⟨⟨k+1,l0,g5,x,by omega,by go_num,rfl,by omega,by omega,U.o,H.o.1,H.o.2⟩,by simp[intOf];omega⟩
  have U:cB (vF f=aI c):=by
   show _=_;rw[I.o,Ra (by omega),vF,NL,V.o]
  obtain⟨a0,hg,M⟩:=fH j.o;have HJ:cB (cF 154 #[qA (cA ⟨g,0,aA⟩) (zA f) C] wr (pA (vF f))):=nI g (zA f) C f wr rfl M hg a0 (by omega) (by omega);rw[U.o]at HJ;clear j M;go_wp2_with fail;apply jC HJ.o;intro w2 t;have B2:cB (xB w w2):=aC n t;clear t;go_wp2;go_ret;exact⟨rfl,B2.o⟩
