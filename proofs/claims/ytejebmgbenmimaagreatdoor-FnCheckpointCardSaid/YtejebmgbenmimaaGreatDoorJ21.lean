import Derived.Deep.WholeRow
import Derived.Test.YtejebmgbenmimaaGreatDoorJ20
set_option maxRecDepth 100000
set_option maxHeartbeats 4000000
set_option linter.defProp false
open Option renaming some->fA,none->eA
open Bool renaming true->iA,false->gA
open ByteArray renaming empty->pA
open List renaming length->cB
namespace Go.Proofs.YtejebmgbenmimaaGreatDoor
open Go renaming World->jA,TypeId->oA,Value->mA
open IntKind renaming i64->sA
open Value renaming string->tA,slice->uA,int->qA,agg->yA,bool->vA
open Obj renaming cells->aB
open Go.RowKit Tryz
section
open Go.Maps
def MA(w:jA):(zeroValue 3).run prog w=.ok (dB 0) w:=by kernel_rfl
def fD{H:Type}{P:Program}{w:jA}{k:oA}{R:mA->Option (DataW H×List MemPlace)}{b n g:Nat}{D:DataW H}{c:Array mA}{t:oA}(h:w.ownsMap P k R b n D)(d:rB w g c t):b≠g:=by
 intro e;subst e;obtain⟨i,a,f,_⟩:=h;rw[rB,f]at d;simp at d
def yG{H:Type}{P:Program}{w:jA}{k:oA}{R:mA->Option (DataW H×List MemPlace)}{b n:Nat}{D:DataW H}{B:Nat}{e:oA}{a:Nat}{v:mA}{m:Nat}{j:List mA}(h:w.ownsMap P k R b n D)(i:w.ownsRow B e a v m j):v.ownBlock≠fA b:=by
 intro c;obtain⟨rfl,_⟩|⟨l,d,f,rfl,_,g,_⟩:=i.2
 .cases c
 simp only[mA.ownBlock,Qa]at c;subst c;exact fD h g rfl
def kR.newLims{w f:jA}{S:Nat->Prop}{x:Nat}{t:kB}{M c m i n:Nat}{l:mA}{Q:List (pB×Nat)}{k:List rI}{D E:DataW Unit}{d:List pB}(h:kR w S x t M c m i l Q k D)(b:jB (·=c) w f)
(a:f.ownsMap prog 9 (plainElem prog 3) c n E)(o:E=fE (d.map λp=>(p.s,vI p.n)))(u:zC (·.s) d):yD f S x { t with M:=d} M:=by
 subst o;refine⟨c,m,i,l,Q,k,D,?_⟩;exact { h with
  blk:=b.blk h.blk (fD h.lims h.blk).symm
  lims:=by have:=QJ a;rw[pM]at this;exact this
  Z:=b.map h.Z h.d1.symm
  cnts:=b.map h.cnts h.d2.symm
  cells:=λq j=>b.blk (h.cells q j) (fD h.lims (h.cells q j)).symm
  row:=b.row h.row (λg r e=>by subst e;exact yG h.lims h.row r)
  rm:=u}
def aDz{w w2 G N:jA}{S:Nat->Prop}{x:Nat}{t:kB}{M W L F:Nat}{O:mA}{Q:List (pB×Nat)}{z:List rI}{D:DataW Unit}{key:vB}{j c:Int}{g A:Nat}(h:kR w S x t M W L F O Q z D)(y:eD (·.s) key t.Z=eA)
(d:jB (λk=>k=L\/k=F) w G)(J:w2.ownsMap prog 9 wE L (cB Q+1) (DataW.put (fE (Q.map λq=>(q.1.s,nF q.2))) (kL key) (nF w.1.size)))(i:jB (·=F) w2 G)
(K:G.ownsMap prog 9 (plainElem prog 3) F (M+1) (D.put (kL (cE key)) (.lit (.int sA (c+1)))))(b:rB G w.1.size #[tA key,dB j] 109)(hc:c=(sI cE t.Z (cE key):Nat))
(P:rB N x (#[dB t.L,.map (fA W),.map (fA L),.map (fA F),O].setIfInBounds 4 (uA (cC g) (cB z+1) A)) 233)
(U:N.ownsRow 0 342 2 (uA (cC g) (cB z+1) A) (cB z+1) (fK (gR z ⟨w.1.size,j⟩)))(v:O.ownBlock=fA g\/G.1.size<=g)(f:jB (λk=>k=x\/O.ownBlock=fA k) G N):
 yD N (λg=>S g\/w.1.size<=g) x { t with Z:=iC (·.s) ⟨key,j⟩ t.Z} (M+1)/\jB S w N:=by
 have m:=eB h.blk;have m:=eB b;have m:=fD h.Z h.blk;have O:=fD h.cnts h.blk;have a0:=fD h.lims h.blk;have X:=yG h.lims h.row;have Y:=yG h.Z h.row;have Z:=yG h.cnts h.row;have u:=λq l=>eB (h.cells q l);have C:eD (λq:pB×Nat=>q.1.s) key Q=eA:=by
  have:=bV (key:=λq:pB×Nat=>q.1.s) (key':=λp:pB=>p.s) (λq=>q.1) (λ_=>rfl) key Q;rw[h.q1,y]at this;cases hg:eD (λq:pB×Nat=>q.1.s) key Q with
  |none=>rfl
  |some q=>rw[hg]at this;cases this
 have E:=GT (key:=λq:pB×Nat=>q.1.s) (a:=((⟨key,j⟩:pB),w.1.size)) C;have R:=GT (key:=λp:pB=>p.s) (a:=(⟨key,j⟩:pB)) y;have H:cB (iC (λq:pB×Nat=>q.1.s) ((⟨key,j⟩:pB),w.1.size) Q)=cB Q+1:=by rw[E.length_eq];rfl
 have V:zC (λq:pB×Nat=>q.1.s) Q:=by
  rw[<-zW (key':=λp:pB=>p.s) (λq:pB×Nat=>q.1) (λ_=>rfl),h.q1];exact h.rs
 obtain⟨ph,G,pl⟩:=CQ h.heap ⟨w.1.size,j⟩;have I:DataW.put (fE (Q.map λq=>(q.1.s,nF q.2))) (kL key) (nF w.1.size)=fE ((iC (λq:pB×Nat=>q.1.s) ((⟨key,j⟩:pB),w.1.size) Q).map λq=>(q.1.s,nF q.2)):=
  IE (key:=λq:pB×Nat=>q.1.s) (λq=>nF q.2) ((⟨key,j⟩:pB),w.1.size) V
 have n:∀q,q∈iC (λq:pB×Nat=>q.1.s) ((⟨key,j⟩:pB),w.1.size) Q->q=((⟨key,j⟩:pB),w.1.size)\/q∈Q:=λq l=>lK l;have B:∀s∈z,∃q∈Q,q.2=s.b:=λs o=>by
  have:=(h.perm.mem_iff (a:=s.b)).1 (Md.2 ⟨s,o,rfl⟩);obtain⟨q,l,e⟩:=Md.1 this;exact⟨q,l,e⟩
 refine⟨⟨W,L,F,uA (cC g) (cB z+1) A,iC (λq:pB×Nat=>q.1.s) ((⟨key,j⟩:pB),w.1.size) Q,gR z ⟨w.1.size,j⟩,D.put (kL (cE key)) (.lit (.int sA (c+1))),?_⟩,?_⟩
 .exact {
   blk:=P
   lims:=f.map (d.map h.lims (λe=>by obtain e|e:=e;exact h.d1 e;exact h.d2 e)) (λe=>by obtain e|e:=e;exact a0 e;exact X e)
   Z:=by
    rw[<-I,H];exact f.map (i.map J h.d3) (λe=>by obtain e|e:=e;exact m e;exact Y e)
   cnts:=f.map K (λe=>by obtain e|e:=e;exact O e;exact Z e)
   cnt:=λm=>by
    rw[SJ R m,SI];by_cases e:cE key=m
    .rw[Ma e,<-e,atKey_put_same (k:=kL (cE key)) h.cnts.isMap trivial,hc];rfl
    rw[Ja e,atKey_put_other (λI=>e (aBc I).symm),h.cnt m];rfl
   q1:=by
    rw[zR (key':=λp:pB=>p.s) (λq:pB×Nat=>q.1) (λ_=>rfl),h.q1]
   cells:=λq l=>by
    rcases n q l with rfl|l;exact f.blk b (λe=>by obtain e|e:=e;simp only at e;omega;have:=mz h.row _ e;simp only at this;omega);exact f.blk (d.blk (h.cells q l) (λe=>by obtain e|e:=e;exact fD h.Z (h.cells q l) e.symm;exact fD h.cnts (h.cells q l) e.symm)) (λe=>by obtain e|e:=e;exact h.dx q l e;exact(h.di _ e).2 q l rfl)
   row:=by rw[pl];exact U
   heap:=ph
   perm:=by
    refine(G.map _).trans ?_;refine List.Perm.trans ?_ (E.map _).symm;exact List.Perm.cons _ h.perm
   early:=λs o q l e=>by
    rcases Lb.1 ((G.mem_iff).1 o) with rfl|o
    .rcases n q l with rfl|l
     .exact Xd _
     have:=u q l;simp only at e;omega
    rcases n q l with rfl|l;obtain ⟨b,T,I⟩:=B s o;have:=u b T;simp only at e;omega;exact h.early s o q l e
   rm:=h.rm
   rs:=bK h.rs
   sx:=Ca h.sx
   sl:=Ca h.sl
   ss:=Ca h.ss
   sc:=Ca h.sc
   sq:=λq l=>by
    rcases n q l with rfl|l;exact La (Ia _);exact Ca (h.sq q l)
   si:=λb r=>by
    simp only[mA.ownBlock,Qa]at r;subst r;obtain e|e:=v;exact Ca (h.si g e);exact La (by have:=d.size;omega)
   d1:=h.d1
   d2:=h.d2
   d3:=h.d3
   nd:=by
    rw[(E.map _).nodup_iff,Fc,List.nodup_cons];refine⟨λm=>?_,h.nd⟩;obtain⟨q,l,e⟩:=Md.1 m;have:=u q l;simp only at e;omega
   dx:=λq l=>by
    rcases n q l with rfl|l;simp only;omega;exact h.dx q l
   di:=λb r=>by
    simp only[mA.ownBlock,Qa]at r;subst r;obtain e|e:=v
    .refine ⟨(h.di g e).1,λq l=>?_⟩;rcases n q l with rfl|l
     .have:=mz h.row g e;simp only;omega
     exact (h.di g e).2 q l
    refine ⟨by omega,λq l=>?_⟩;rcases n q l with rfl|l;simp only;omega;have:=u q l;omega}
 refine (d.mono λk _ e=>by obtain rfl|rfl:=e;exact h.ss;exact h.sc).trans (f.mono λk _ e=>?_);obtain rfl|e:=e;exact Ca h.sx;exact Ca (h.si _ e)
def om(x:Nat)(t:kB)(key:vB)(l:Int)(S:Nat->Prop)(M:Nat)(w:jA)(h:yD w S x t M)(O:eD (·.s) key t.Z=eA)(hk:key.size<=maxLen)(hm:(cE key).size<=maxLen)(hM:M<=1000000000)(hl:cB t.Z<=1000000000):
 Calls prog 230 #[.pointer (fA ⟨x,0,eA⟩),tA key,tA (cE key),qA sA l] w λe G=>e=.returned (.tuple #[])/\yD G (λg=>S g\/w.1.size<=g) x { t with Z:=iC (·.s) ⟨key,l⟩ t.Z} (M+1)/\jB S w G:=by
 obtain⟨lm,V,I,Z,Q,F,D,h⟩:=h;have HK:fB _:=zM hk;have HM:fB _:=zM hm;have hQ:cB Q=cB t.Z:=by rw[<-h.q1,Xa]
 have hH:cB F=cB Q:=by have:=h.perm.length_eq;simpa using this
 have HI:fB _:=h;obtain⟨X,n⟩:∃W,W=w.alloc (aB #[tA key,qA sA l] 109):=⟨_,rfl⟩
 have d:jB (λ_=>False) w X:=by rw[n];exact jB.of aC
 have b1:rB X w.1.size #[tA key,qA sA l] 109:=by rw[n];exact rB.new _ _ _
 obtain⟨Y,U,z,J⟩:=(d.map h.Z (λe=>e)).update pL underlying228 (by unfold maxLen;omega) HK.o (yW w.1.size);have j:jB (·=V) X Y:=(jB.grown J).mono λi _ e=>by simp only[Qa]at e;exact e.symm
 have a:=(d.mono λ_ _ e=>e.elim).trans' j;have m:=a.map h.cnts (Ne.symm h.d3);obtain⟨c,runL,L,d0⟩:=m.lookup_int pL underlying227 underlying3 (MA _) HM.o;have hc:c=(sI cE t.Z (cE key):Nat):=by
  have:=h.cnt (cE key);unfold vI at this;rw[L]at this;simpa using this
 have c0:=WJ cE t.Z (cE key);have hcl:0<=c:=by omega
 have hcu:c<=1000000000:=by omega
 obtain⟨C,run3,A,K⟩:=m.update pL underlying227 (by unfold maxLen;omega) (val:=qA sA (c+1)) HM.o (plainElem_int underlying3 (WalkArith.wf_i64 (by omega)));have f:jB (·=I) Y C:=(jB.grown K).mono λi _ e=>by simp only[Qa]at e;exact e.symm
 have b:=(a.mono λ_ _ e=>Ca e).trans' (f.mono λ_ _ e=>La e);have T:=fD h.Z h.blk;have e0:=fD h.cnts h.blk;have r:rB X x _ _:=d.blk h.blk (λe=>e);have u:rB Y x _ _:=a.blk h.blk T.symm;have v:rB C x _ _:=b.blk h.blk (λe=>by obtain e|e:=e;exact T e.symm;exact e0 e.symm);have B:=b.row h.row (λg hg e=>by obtain rfl|rfl:=e;exact yG h.Z h.row hg;exact yG h.cnts h.row hg);have c1:gD X x 2 (.map (fA V)):=r.cell 2;have c2:gD Y x 3 (.map (fA I)):=u.cell 3;have HP:fB (Calls prog 274 #[.pointer (fA ⟨x,4,eA⟩),yA #[.pointer (fA ⟨w.1.size,0,eA⟩),qA sA l]] C λe G=>e=.returned (.tuple #[])/\∃g E,rB G x (#[qA sA t.L,.map (fA lm),.map (fA V),.map (fA I),Z].setIfInBounds 4 (uA (fA ⟨g,0,eA⟩) (cB F+1) E)) 233/\
  G.ownsRow 0 342 2 (uA (fA ⟨g,0,eA⟩) (cB F+1) E) (cB F+1) (fK (gR F ⟨w.1.size,l⟩))/\(Z.ownBlock=fA g\/C.1.size<=g)/\jB (λk=>k=x\/Z.ownBlock=fA k) C G):=
  fo x 4 0 Z F ⟨w.1.size,l⟩ C _ _ v rfl B (λe=>(h.di x e).1 rfl) (Oa _) (by omega)
 have H:fB _:=b;have o:fB (Y.ownsMap prog 9 wE V (cB Q+1) (DataW.put (fE (Q.map λq=>(q.1.s,nF q.2))) (kL key) (nF w.1.size))):=z;have p:fB (C.ownsMap prog 9 (plainElem prog 3) I (M+1) (D.put (kL (cE key)) (.lit (.int sA (c+1))))):=A;have T3:fB _:=f;have B3:fB (rB C w.1.size #[tA key,qA sA l] 109):=((j.mono (S':=λk=>k=V\/k=I) λ_ _ e=>Ca e).trans' (f.mono λ_ _ e=>La e)).blk b1 (λe=>by have:=h.Z.lt;have:=h.cnts.lt;rcases e with e|e<;>omega);have a0:fB _:=hc;rw[n]at U c1;clear h hk hm n d b1 z J j a m L d0 hc c0 A K f b r u v B;go_enter func230,ntmps230;go_wp2_with fail;apply oC HP.o;rintro w4 ⟨g,E,N,P,y,R⟩;have HF:=aDz HI.o O H.o o.o T3.o p.o B3.o a0.o N P y R;clear HP HI H o T3 p B3 N P y R;have b0:fB _:=gB HF;clear HF;go_wp2;go_end0;exact⟨rfl,b0.o⟩
end
structure C14(cs:Array Value):Prop where
 size:cs.size=14
 one:cs.all (·.oneCell')=iA
def jH(a b:nC)(c d:Nat)(N:vC):C14 (sC a c b d N):=⟨rfl,by simp[sC,mA.oneCell']⟩
def dL(W:jA)(X:Nat):Prop:=∃a T,rB W X a T/\a.size=14
def rB.box{W:jA}{X:Nat}{cs:Array mA}{T:oA}(h:rB W X cs T)(a:cs.size=14):dL W X:=⟨cs,T,h,a⟩
def vE(a:nC)(e:Nat)(b:nC)(f:Nat)(N:vC):#[uA a (cB N.d.fs) e,dB N.d.c,dB N.d.k,dB N.d.cr,dB N.d.fl,vA N.d.dn,dB N.l.first,dB N.l.last,dB N.l.size,dB N.now,uA b (cB N.ts) f,dB N.lsn,vA N.deg,vA N.up]=sC a e b f N:=rfl
def cK:#[uA eA 0 0,dB 0,dB 0,dB 0,dB 0,vA gA,dB 0,dB 0,dB 0,dB 0,uA eA 0 0,dB 0,vA gA,vA gA]=sC eA 0 eA 0 yN:=rfl
def lG(a b:nC)(c d:Nat)(N:vC):(sC a c b d N).size=14:=rfl
def rF(a:nC)(e:Nat)(b:nC)(f:Nat)(N:vC)(T:oA):∀W X,rB W X (sC a e b f N) T->W.cell? (iB X 0)=fA (uA a (cB N.d.fs) e)/\W.cell? (iB X 1)=fA (dB N.d.c)/\W.cell? (iB X 2)=fA (dB N.d.k)/\W.cell? (iB X 3)=fA (dB N.d.cr)/\W.cell? (iB X 4)=fA (dB N.d.fl)/\W.cell? (iB X 5)=fA (vA N.d.dn)/\W.cell? (iB X 6)=fA (dB N.l.first)/\W.cell? (iB X 7)=fA (dB N.l.last)/\W.cell? (iB X 8)=fA (dB N.l.size)/\W.cell? (iB X 9)=fA (dB N.now)/\W.cell? (iB X 10)=fA (uA b (cB N.ts) f)/\W.cell? (iB X 11)=fA (dB N.lsn)/\W.cell? (iB X 12)=fA (vA N.deg)/\W.cell? (iB X 13)=fA (vA N.up):=λ_ _ h=>h.n14
def uK{W:jA}{X:Nat}{cs:Array mA}(h:dL W X)(a:C14 cs):(storeCells (iB X 0) cs.toList 0).run prog W=.ok () (W.setRow X cs):=by
 obtain⟨e,T,d,b⟩:=h;have:=run_storeCells_from (P:=prog) X T cs.toList 0 e W d (by simp[b,a.size]) (λv c=>(Array.all_eq_true_iff_forall_mem.1 a.one) v (by simpa using c));simpa using this
def rB.drewI{W:jA}{X:Nat}{cs:Array mA}{T:oA}:rB W.drew X cs T ↔ rB W X cs T:=Iff.rfl
def dL.drewI{W:jA}{X:Nat}:dL W.drew X ↔ dL W X:=Iff.rfl
def dL.new(w:jA)(a b:nC)(ca c:Nat)(N:vC)(T:oA):dL (w.alloc (aB (sC a ca b c N) T)) w.1.size:=(rB.new w _ T).box rfl
def dL.alloc{W:jA}{X:Nat}(h:dL W X)(o:Obj):dL (W.alloc o) X:=by
 obtain⟨c,T,b,a⟩:=h;exact⟨c,T,b.alloc o,a⟩
def dL.alloc2{W:jA}{X:Nat}(h:dL W X)(o a:Obj):dL ((W.alloc o).alloc a) X:=(h.alloc o).alloc a
def rB.row{W:jA}{X:Nat}{a cs:Array mA}{T:oA}(h:rB W X a T):rB (W.setRow X cs) X cs T:=setRow_heap _ _ _ _ _ _ h
def eH(W:jA)(X:Nat)(cs:Array mA):jB (·=X) W (W.setRow X cs):=⟨rfl,rfl,rfl,by simp,λk _ a=>setRow_other _ _ _ _ a⟩
def bW{C:jA->Prop}{w:jA}{X:Nat}{a cs:Array mA}{T:oA}(h:rB w X a T)(k:∀W,rB W X cs T->jB (·=X) w W->C W):C (w.setRow X cs):=k _ h.row (eH _ _ _)
def kP{a:List nB}(c:∀f∈a,mO f=iA)(d:mT a):fI a=iA:=by
 simp only[fI,aT,Ke,Xg];intro i b;unfold nT;rw[Va b];simp only[c _ (Gb b),Oc];cases i with
 |zero=>rfl
 |succ j=>
  simp only[Va (show j<cB a by omega)];exact d j (j+1) (by omega) b
def DY{a:List nB}(h:fI a=iA):∀f∈a,mO f=iA:=by
 intro f c;obtain⟨i,b,rfl⟩:=Ib c;simp only[fI,aT,Ke,Xg]at h;have:=h i b;unfold nT at this;rw[Va b]at this;simp only[Sa]at this;exact this.1
def ltF(a b:nB):Prop:=Op.bytesLess a.N.toList b.N.toList=iA
def ae{c:List nB}:mT c ↔ c.Pairwise ltF:=by
 rw[Qe];exact⟨λh i j _ b a=>h i j a b,λh i j a b=>h i j (by omega) b a⟩
def ox{c:List nB}{f:nB}(h:mT c)(l:tH c f.N (gC f.N c)=gA):mT (iM c (gC f.N c) f):=by
 have n:=bJ f.N h;have k:=GR h l;have g:=ae.1 h;rw[<-Za (gC f.N c) c,Ae]at g;rw[ae,iM,Ae,Bc];refine⟨g.1,⟨λb d=>?_,g.2.1⟩,λa m b d=>?_⟩;obtain ⟨j,i,rfl⟩:=Ib d;rw[Rc]at i;rw[Cg];have o:=n.2.2 (gC f.N c+j) (by omega) (by omega);exact qL _ _ o (λe=>k _ (by omega) (toList_inj e));rcases Lb.1 d with rfl|d;obtain ⟨j,i,rfl⟩:=Ib m;rw[Hb]at i;rw[Ue];exact n.2.1 j (by omega) (by omega);exact g.2.2 a m b d
def LK{c:List nB}{i:Nat}{f:nB}(h:mT c)(n:i<cB c)(m:f.N=c[i].N):mT (c.set i f):=by
 have o:∀a(l:a<cB (c.set i f))(g:a<cB c),(c.set i f)[a].N=c[a].N:=λa l g=>by
  rw[List.getElem_set];split
  .rename_i e;subst e;exact m
  rfl
 intro a b j k;have d:b<cB c:=by simpa using k
 rw[o a (by omega) (by omega),o b k d];exact h a b j d
def rY{n d:vB}{s:Int}(c:gG n=iA)(a:0<=s)(b:s<=d.size):mO ⟨n,d,s⟩=iA:=by
 simp[mO,dC,c,a,b]
def wW{a:List nB}{i:Nat}{f g:nB}(h:g∈a.set i f):g=f\/g∈a:=(List.mem_or_eq_of_mem_set h).symm
def bd{a:List nB}{c k b d:Int}(e:cB a<=1000)(f:fI a=iA)(g:0<=c/\c<=1000000000)(h:(tC a:Int)<=c)(i:0<=k/\k<=1000000000000000)(j:0<=b/\b<=1000000000000000)(l:0<=d/\d<=1000000000000000):rE a c k b d=iA:=by
 simp[rE,dC,e,f,g,h,i,j,l]
def aAe{a:List nB}{c:Int}{op:yK}(m:fI a=iA)(l:cB a<=1000)(p:(tC a:Int)<=c)(B:gG op.N=iA)(E:op.K=5->gG op.tq=iA):
 fI (iN a c op).2=iA/\cB (iN a c op).2<=1000/\(tC (iN a c op).2:Int)<=c:=by
 have j:=kS m;have o:=DY m;unfold iN;simp only;split
 .split
  .exact ⟨m,l,p⟩
  rename_i x;split
  .exact ⟨m,l,p⟩
  rename_i A;have C:=bJ op.N j;refine⟨kP (λf i=>?_) (ox (f:=⟨op.N,pA,0⟩) j (by simpa using x)),?_,?_⟩
  .simp only[iM,Ee,Lb]at i;obtain i|rfl|i:=i
   .exact o _ (Ce i)
   .exact rY B (by omega) (by simp)
   exact o _ (Ng i)
  .rw[xN _ _ _ C.1];omega
  rw[fX];simpa using p
 split;exact ⟨m,l,p⟩
 rename_i f v;obtain⟨k,rfl⟩:=Pb.1 v;have h:=o _ (Gb k);simp only[mO,dC,Sa,Ab]at h;split
 .exact ⟨m,l,p⟩
 split
 .split
  .exact ⟨m,l,p⟩
  rename_i G;have b:=yL a (gC op.N a) ⟨a[gC op.N a].N,a[gC op.N a].data++op.data,a[gC op.N a].Y⟩ k;simp only[Ka]at b;refine⟨kP (λg e=>?_) (LK j k rfl),by simpa using l,by simp only;omega⟩;rcases wW e with rfl|e
  .exact rY h.1 h.2.1 (by rw[Ka];omega)
  exact o _ e
 split
 .have b:=yL a (gC op.N a) ⟨a[gC op.N a].N,a[gC op.N a].data,a[gC op.N a].data.size⟩ k;simp only at b;refine⟨kP (λg e=>?_) (LK j k rfl),by simpa using l,by simp only;omega⟩;rcases wW e with rfl|e
  .exact rY h.1 (by omega) (by omega)
  exact o _ e
 split
 .split
  .rename_i u;simp only[dC,Sa,Ab]at u;have b:=yL a (gC op.N a) ⟨a[gC op.N a].N,a[gC op.N a].data.extract 0 op.size.toNat,op.size⟩ k;simp only at b;have F:(a[gC op.N a].data.extract 0 op.size.toNat).size=op.size.toNat:=by rw[Je];omega
   refine⟨kP (λg e=>?_) (LK j k rfl),by simpa using l,by simp only;omega⟩;rcases wW e with rfl|e;exact rY h.1 u.1 (by rw[F];omega);exact o _ e
  exact ⟨m,l,p⟩
 have t:fI (a.eraseIdx (gC op.N a))=iA:=kP (λg e=>o _ (Sf e)) (j.erase _);have z:cB (a.eraseIdx (gC op.N a))=cB a-1:=by rw[Ad,Ma k]
 have D:=bR a _ k;split
 .rename_i y;have u:=(bJ op.tq (j.erase (gC op.N a)))
  have q:=rY (n:=op.tq) (d:=a[gC op.N a].data) (s:=a[gC op.N a].Y) (E y) h.2.1 h.2.2;cases hq:tH (a.eraseIdx (gC op.N a)) op.tq (gC op.tq (a.eraseIdx (gC op.N a))) with
  |true=>
   obtain⟨w,r⟩:=AA hq;have b:=yL (a.eraseIdx (gC op.N a)) (gC op.tq (a.eraseIdx (gC op.N a))) ⟨op.tq,a[gC op.N a].data,a[gC op.N a].Y⟩ w;simp only at b;rw[FW (f:=⟨op.tq,a[gC op.N a].data,a[gC op.N a].Y⟩) (j.erase _) w r];refine⟨kP (λg e=>?_) (LK (j.erase _) w r.symm),by simp only[Pd];omega,by simp only;omega⟩;rcases wW e with rfl|e;exact q;exact DY t _ e
  |false=>
   rw[vV (f:=⟨op.tq,a[gC op.N a].data,a[gC op.N a].Y⟩) (j.erase _) hq];refine⟨kP (λf i=>?_) (ox (f:=⟨op.tq,a[gC op.N a].data,a[gC op.N a].Y⟩) (j.erase _) hq),?_,?_⟩
   .simp only[iM,Ee,Lb]at i;obtain i|rfl|i:=i
    .exact DY t _ (Ce i)
    .exact q
    exact DY t _ (Ng i)
   .rw[xN _ _ _ u.1];omega
   rw[fX];simp only;omega
 exact ⟨t,by simp only;omega,by simp only;omega⟩
def WH{k cr fl:Int}{dn:Bool}(a:0<=k)(b:k<=1000000000000000):0<=(mD k cr fl dn).2.1/\(mD k cr fl dn).2.1<=1000000000000000:=by
 unfold mD;split;exact ⟨a,b⟩;split;exact ⟨a,b⟩;split;simp only;omega;split<;>(simp only;omega)
def NG{j:List nB}{c k b d:Int}{i:Bool}{a:yK}(h:rE j c k b d=iA)(l:GZ a=iA):
 rE (tI j c k b d i a).2.1 c (tI j c k b d i a).2.2.1 b d=iA:=by
 obtain⟨m,n,o,p,q,x,y,r,s,e,f⟩:=nH h;have g:gG a.N=iA/\(a.K=5->gG a.tq=iA):=by
  simp only[GZ,dC,Sa,Fe,Ab]at l;exact⟨l.1.2,λh=>l.2.resolve_left (λk=>k h)⟩
 have t:=WH (cr:=b) (fl:=d) (dn:=i) x y;unfold tI;split;obtain ⟨u,v,w⟩:=aAe (op:=a) m n q g.1 g.2;exact bd v u ⟨o,p⟩ w t ⟨r,s⟩ ⟨e,f⟩;exact bd n m ⟨o,p⟩ q t ⟨r,s⟩ ⟨e,f⟩
def vP:vB:=⟨#[99,107,112,116,46,116,109,112]⟩
def FZ:vB:=⟨#[99,107,112,116]⟩
def bL:eE->List yK->eE×Nat
 |K,[]=>(K,0)
 |K,a::r=>if (fF K a).2=0 then bL (fF K a).1 r else fF K a
def UJ(n:Int):yK:=⟨6,tF n,⟨#[]⟩,⟨#[]⟩,0⟩
def ex:yK:=⟨6,vP,⟨#[]⟩,⟨#[]⟩,0⟩
def sY(a:Int)(b:vB):List yK:=
 [⟨1,vP,⟨#[]⟩,⟨#[]⟩,0⟩,⟨2,vP,⟨#[]⟩,b,0⟩,⟨3,vP,⟨#[]⟩,⟨#[]⟩,0⟩,⟨5,vP,FZ,⟨#[]⟩,0⟩,⟨1,tF (a+1),⟨#[]⟩,⟨#[]⟩,0⟩]
def lQ(first:Int)(k:Nat):List yK:=(List.range k).map fun(i:Nat)=>UJ (first+(i:Int))
def nN(a:List nB):List yK:=if 0<=lE vP a 0 then [ex] else []
def rT(K:eE)(L:aI)(a:vB):List yK:=nN K.fs++(sY L.last a++lQ L.first (L.last+1-L.first).toNat)
def aLg(N:vC)(K:eE):vC:=⟨K,N.l,N.now,N.ts,N.lsn,iA,!K.dn⟩
def IV(c:kC)(N:vC):vC×Int:=
 if mH c=gA then(yN,61)
 else if ZQ N=gA then(N,60)
 else if rL N.l=gA then(N,21)
 else if N.l.last=999999 then(N,23)
 else if bH N.lsn N.now N.ts=⟨#[]⟩ then(N,62)
 else if (bL N.d (rT N.d N.l (bH N.lsn N.now N.ts))).2=0 then(⟨(bL N.d (rT N.d N.l (bH N.lsn N.now N.ts))).1,⟨N.l.last+1,N.l.last+1,0⟩,N.now,N.ts,N.lsn,N.deg,N.up⟩,0)
 else(aLg N (bL N.d (rT N.d N.l (bH N.lsn N.now N.ts))).1,((bL N.d (rT N.d N.l (bH N.lsn N.now N.ts))).2:Int))
theorem KG(a b:List yK):∀K:eE,bL K (a++b)=if (bL K a).2=0 then bL (bL K a).1 b else bL K a:=by induction a<;>grind [bL]
def xb{K:eE}{b:List yK}(a:yK)(h:(bL K b).2=0):bL K (b++[a])=fF (bL K b).1 a:=by grind [bL,fF,KG]
def NE(f:Int)(k:Nat):lQ f (k+1)=lQ f k++[UJ (f+k)]:=by simp[lQ,List.range_succ]
def aHm(a:yK):Prop:=a.N.size<=maxLen/\a.tq.size<=maxLen/\a.data.size<=200000000
def SG{K:eE}{L:aI}{text:vB}(h:text.size<=200000000):∀f∈rT K L text,aHm f:=by
 intro f a;have e:∀n,(tF n).size<=maxLen:=λn=>by have:=pK n;unfold maxLen;omega
 have d:vP.size<=maxLen:=by unfold maxLen;decide
 have g:FZ.size<=maxLen:=by unfold maxLen;decide
 have b:(⟨#[]⟩:vB).size<=maxLen:=Oa _;have c:(⟨#[]⟩:vB).size<=200000000:=Oa _;simp only[rT,nN,sY,lQ,Ee,Md,Lb,Ed,Bf]at a;rcases a with a|(a|a|a|a|a)|⟨i,_,a⟩
 .split at a
  .simp only[Lb,Ed,Bf]at a;subst a;exact⟨d,b,c⟩
  cases a
 .subst a;exact⟨d,b,c⟩
 .subst a;exact⟨d,b,h⟩
 .subst a;exact⟨d,b,c⟩
 .subst a;exact⟨d,g,c⟩
 .subst a;exact⟨e _,b,c⟩
 subst a;exact⟨e _,b,c⟩
def pg:∀(d:List yK)(K:eE),DG K.fs->(∀a∈d,aHm a)->DG (bL K d).1.fs
 |[],K,h,_=>h
 |a::r,K,h,c=>by
  obtain⟨e,f,_⟩:=c a (by simp);have b:=nQ h e f;simp only[bL];split;exact pg r _ b (λo g=>c o (Sb _ g));exact b
theorem xn{K:eE}(a:yK)(h:rE K.fs K.c K.k K.cr K.fl=gA):fF K a=(⟨[],0,0,0,0,gA⟩,6):=by
 unfold fF yQ;rw[Ja (by simp[h])]
def aGn{K:eE}{L:aI}{a:vB}(h:rE K.fs K.c K.k K.cr K.fl=gA):bL K (rT K L a)=(⟨[],0,0,0,0,gA⟩,6):=by grind [rE,bL,rT,nN,sY,xn]
def uh{a:List nB}{t:vB}(b:mT a):(0<=lE t a 0) ↔ tH a t (gC t a)=iA:=by grind [mT,lE,tH,gC,EA,bJ]
structure XV where
 x:wF
 a:nC
 c:Nat
def AX(b:List XV):List mA:=b.flatMap λy=>[uA y.a (cB y.x.B) y.c,dB y.x.bits]
def XF(a b:List XV):AX (a++b)=AX a++AX b:=by simp[AX]
def yo(w:jA)(b:Nat)(T:Nat->Nat)(d:List XV):Prop:=∀i(h:i<cB d),gN w b T (i+1) d[i].a d[i].x.B/\cB d[i].x.B<=d[i].c
def zX(w:jA)(b:Nat)(e:oA)(v:mA)(n:Nat)(a:List wF):Prop:=
 ∃T ys,w.ownsRow b e 2 v n (AX ys)/\ys.map (·.x)=a/\(∀g,v.ownBlock=fA g->T g=0)/\yo w b T ys
def fv{w:jA}{B:Nat}{e:oA}{m:Nat}{a:nC}{n c:Nat}{i:List mA}(h:w.ownsRow B e m (uA a n c) n i):n<=c:=by
 obtain⟨_,j⟩|⟨g,b,d,e,_,_,f,_⟩:=h.2;omega
 cases e;exact f
def zX.nil(w:jA)(b:Nat)(e:oA):zX w b e (uA eA 0 0) 0 []:=
 ⟨λ_=>0,[],jA.ownsRow_nil _ _ _ _,rfl,λ_ _=>rfl,λi h=>absurd h (by simp)⟩
def zX.row{w:jA}{b:Nat}{e:oA}{v:mA}{n:Nat}{i:List wF}(h:zX w b e v n i):∃a c,v=uA a n c:=by
 obtain⟨_,_,h,_⟩:=h;obtain⟨rfl,rfl⟩|⟨g,d,f,rfl,_⟩:=h.2;exact ⟨eA,0,rfl⟩;exact ⟨_,_,rfl⟩
def zX.snoc{wr w4 P:jA}{b c f k:Nat}{e:oA}{v:mA}{T:Nat->Nat}{ys:List XV}{G:List wF}{x:wF}{q:nC}{r:Nat}
(p:P.ownsRow b e 2 (uA (cC c) (k+1) f) (k+1) (AX ys++[uA q (cB x.B) r,dB x.bits]))
(D:ys.map (·.x)=G)(C:cB ys=k)(F:∀g,v.ownBlock=fA g->T g=0)(E:yo wr b T ys)(O:b<=wr.1.size)
(A:∀g,g<wr.1.size->b<=g->v.ownBlock≠fA g->P.heap[g]?=wr.heap[g]?)(B:∀g,wr.1.size<=g->g<w4.1.size->P.heap[g]?=w4.heap[g]?)
(H:qE w4 wr.1.size q x.B)(w:cB x.B<=r)
(y:(v.ownBlock=fA c/\c<wr.1.size)\/w4.1.size<=c)(I:wr.1.size<=w4.1.size):zX P b e (uA (cC c) (k+1) f) (k+1) (G++[x]):=by
 refine⟨λg=>if g<wr.1.size then T g else if g<w4.1.size then k+1 else 0,ys++[⟨x,q,r⟩],?_,?_,?_,?_⟩;rw[XF];exact p;rw[Ld,D];rfl
 .intro g l;simp only[mA.ownBlock,Qa]at l;subst l;obtain⟨h,M⟩|h:=y
  .simp only[Ma M];exact F _ h
  simp only[Ja (show ¬c<wr.1.size by omega),Ja (show ¬c<w4.1.size by omega)]
 intro i z;by_cases d:i<cB ys
 .rw[Ve d];exact⟨(E i d).1.keep λg l u K=>⟨A g l u (λe=>by have:=F g e;omega),by simp only[Ma l];exact K⟩,(E i d).2⟩
 have e:i=k:=by simp at z;omega
 subst e;rw[Re (by omega)];simp only[C,Nat.sub_self,Eg];refine⟨?_,w⟩;obtain h|⟨g,o,s,N,rfl,J,a,t⟩:=H;exact Ca h;have n:=eB a;have m:=B g (by omega) n;have L:∀j,P.cell? (iB g j)=w4.cell? (iB g j):=λj=>jA.cell?_of_block m;exact La ⟨g,o,s,N,rfl,by omega,by simp only[Ja (show ¬g<wr.1.size by omega),Ma n],m.trans a,λi z=>by simp only[L];exact t i z⟩
def zX.own{w:jA}{b:Nat}{e:oA}{a:nC}{n cap:Nat}{q:List wF}(h:zX w b e (uA a n cap) n q)(I:cB q=n):vG w b a q:=by
 obtain⟨T,m,C,v,D,y⟩:=h;have K:cB m=n:=by rw[<-I,<-v,Xa]
 obtain⟨_,M⟩|⟨g,u,o,s,E,A,_,_,J,t⟩:=C.2;exact Ca (Nb.1 (by omega));simp only[mA.slice.injEq]at s;have F:T g=0:=D g (by rw[s.1];rfl);have G:∀(l:List XV) i(p:i<cB l),(AX l)[i*2]?=fA (.slice l[i].a (cB l[i].x.B) l[i].c)/\(AX l)[i*2+1]?=fA (dB l[i].x.bits):=by
  intro l;unfold AX;induction l with
  |nil=>intro i p;exact absurd p (by simp)
  |cons x r L=>
   intro i p;cases i with
   |zero=>simp
   |succ i=>
    have:=L i (by simpa using p);simp only[Xc,Sd,Mb,Ec];refine⟨?_,?_⟩;rw[show(i+1)*2=i*2+1+1 by omega,Ga,Ga];exact this.1;rw[show(i+1)*2+1=i*2+1+1+1 by omega,Ga,Ga];exact this.2
 have z:∀j,j<n*2->w.cell? (iB g j)=(AX m)[j]?:=λj H=>by
  rw[rB.cell (show rB w g o e from A) j,<-Yd,<-t,Jb H]
 refine La ⟨g,0,o,e,T,s.1,E,A,F,λi p=>?_⟩;have k:i<cB m:=by omega
 have B:q[i]=m[i].x:=by simp only[<-v,List.getElem_map]
 obtain⟨d,f⟩:=G m i k;rw[B];refine⟨m[i].a,m[i].c,?_,?_,(y i k).1,(y i k).2⟩;rw[Ya,z _ (by omega)];exact d;rw[Ya,z _ (by omega)];exact f
def AT(t:vB):∀(a:List nB)(k:Nat),lE t a k = -1\/∃i,i<cB a/\lE t a k=(k+i:Nat)
 |[],_=>Ca rfl
 |f::r,k=>by
  rw[lE];split;exact La ⟨0,by simp,by simp⟩;rcases AT t r (k+1) with h|⟨i,b,h⟩;exact Ca h;exact La ⟨i+1,by simp;omega,by rw[h];omega⟩
def kN(a:List nB)(b c:Bool)(t:vB):vB×Bool:=
 if b=iA/\c=gA then(match (if 0<=lE t a 0 then a[(lE t a 0).toNat]? else eA) with
  |some f=>(f.data,iA)
  |none=>(pA,gA)) else(pA,gA)
def ZA(a:nC)(j:Nat)(g:List nB)(c k l m:Int)(q:Bool)(t:vB)(w:jA)(h:wB w a g)(hs:gO g)(r:cB g<=maxLen)(s:tC g<=1000000000):
 Calls prog 58 #[yA #[uA a (cB g) j,dB c,dB k,dB l,dB m,vA q],tA t] w λe R=>
  e=.returned (.tuple #[tA (kN g (rE g c k l m) q t).1,vA (kN g (rE g c k l m) q t).2])/\zB w R:=by
 have n:fB (wB w a g):=h;have J:fB (gO g):=hs;have G:fB _:=r;have K:fB _:=s;unfold maxLen at r;clear h hs s;obtain⟨L,v⟩:∃L,rE g c k l m=L:=⟨_,rfl⟩
 have I:fB _:=v;rw[v];clear v;obtain⟨z,P⟩:∃z,lE t g 0=z:=⟨_,rfl⟩
 have H:fB _:=P;have x:=λR h=>tW a j g c k l m q t R h G.o;rw[P]at x;have p:fB _:=x;clear x P;by_cases N:L=gA
 .subst N;have E:fB (kN g gA q t=(pA,gA)):=by show _=_;simp[kN]
  go_enter func58,ntmps58;go_wp2_with fail;apply oC (p.o _ (n.o.z aC));intro S d;obtain⟨y,A,B,C,D,F⟩:=(aP.new w (uA a (cB g) j) (dB c) (dB k) (dB l) (dB m) (vA q) 35).z d;go_wp2_with fail;apply oC (qM I.o _ ((n.o.z aC).z d) J.o G.o K.o);intro T f;obtain⟨U,V,W,X,Y,Z⟩:=((aP.new w (uA a (cB g) j) (dB c) (dB k) (dB l) (dB m) (vA q) 35).z d).z f;have u:fB _:=xB (xB aC d) f;clear y A B C D F d f;go_wp2;go_ret2;exact⟨by rw[E.o];rfl,u.o⟩
 obtain rfl:L=iA:=by simpa using N
 clear N;by_cases O:q=iA
 .subst O;have E:fB (kN g iA iA t=(pA,gA)):=by show _=_;simp[kN]
  go_enter func58,ntmps58;go_wp2_with fail;apply oC (p.o _ (n.o.z aC));intro S d;obtain⟨y,A,B,C,D,F⟩:=(aP.new w (uA a (cB g) j) (dB c) (dB k) (dB l) (dB m) (vA iA) 35).z d;go_wp2_with fail;apply oC (qM I.o _ ((n.o.z aC).z d) J.o G.o K.o);intro T f;obtain⟨U,V,W,X,Y,Z⟩:=((aP.new w (uA a (cB g) j) (dB c) (dB k) (dB l) (dB m) (vA iA) 35).z d).z f;have u:fB _:=xB (xB aC d) f;clear y A B C D F d f;go_wp2;go_ret2;exact⟨by rw[E.o];rfl,u.o⟩
 obtain rfl:q=gA:=by simpa using O
 clear O;by_cases o:z<0
 .have E:fB (kN g iA gA t=(pA,gA)):=by
   show _=_;have e:¬0<=lE t g 0:=by rw[H.o];omega
   simp[kN,e]
  go_enter func58,ntmps58;go_wp2_with fail;apply oC (p.o _ (n.o.z aC));intro S d;obtain⟨y,A,B,C,D,F⟩:=(aP.new w (uA a (cB g) j) (dB c) (dB k) (dB l) (dB m) (vA gA) 35).z d;go_wp2_with fail;apply oC (qM I.o _ ((n.o.z aC).z d) J.o G.o K.o);intro T f;obtain⟨U,V,W,X,Y,Z⟩:=((aP.new w (uA a (cB g) j) (dB c) (dB k) (dB l) (dB m) (vA gA) 35).z d).z f;have u:fB _:=xB (xB aC d) f;clear y A B C D F d f;go_wp2;go_ret2;exact⟨by rw[E.o];rfl,u.o⟩
 obtain⟨i,M,Q⟩:∃i,i<cB g/\z=(i:Nat):=by
  rcases AT t g 0 with h|⟨i,M,h⟩;rw[H.o]at h;omega;exact ⟨i,M,by rw[<-H.o,h];simp⟩
 subst Q;have E:fB (kN g iA gA t=(g[i].data,iA)):=by
  show _=_;have e:0<=lE t g 0:=by rw[H.o];omega
  have h:(lE t g 0).toNat=i:=by rw[H.o];simp
  simp[kN,e,h,Va M]
 have h:=o;clear o;go_enter func58,ntmps58;go_wp2_with fail;apply oC (p.o _ (n.o.z aC));intro S d;obtain⟨y,A,B,C,D,F⟩:=(aP.new w (uA a (cB g) j) (dB c) (dB k) (dB l) (dB m) (vA gA) 35).z d;go_wp2_with fail;apply oC (qM I.o _ ((n.o.z aC).z d) J.o G.o K.o);intro T f;obtain⟨U,V,W,X,Y,Z⟩:=((aP.new w (uA a (cB g) j) (dB c) (dB k) (dB l) (dB m) (vA gA) 35).z d).z f;have u:fB _:=xB (xB aC d) f;obtain⟨b,o,rfl,h,h,c1,c2⟩:=(((n.o.z aC).z d).z f).at M;clear y A B C D F d f;go_wp2;go_ret2;exact⟨by rw[E.o];rfl,u.o⟩
def bY(w:jA)(P D:Nat)(L:aI):Prop:=rB w P #[.pointer (cC D),dB L.first,dB L.last,dB L.size] 73
def bY.z{w a:jA}{P D:Nat}{L:aI}(h:bY w P D L)(b:zB w a):bY a P D L:=rB.z h b
def bY.cells{w:jA}{P D:Nat}{L:aI}(h:bY w P D L):w.cell? (iB P 0)=fA (.pointer (cC D))/\w.cell? (iB P 1)=fA (dB L.first)/\w.cell? (iB P 2)=fA (dB L.last)/\w.cell? (iB P 3)=fA (dB L.size):=by
 refine⟨?_,?_,?_,?_⟩<;>rw[rB.cell h]<;>rfl
def TU(L:aI)(w:jA):gF 34 #[yA #[dB L.first,dB L.last,dB L.size]] w (vA (rL L)):=by
 obtain⟨a,b,c⟩:=L;have f:fB (zB w (w.alloc (aB #[dB a,dB b,dB c] 37))):=aC;by_cases i:1<=a
 .by_cases j:a<=b
  .by_cases k:b<=999999
   .have e:fB (rL ⟨a,b,c⟩=dC c 0 1000000000):=by
     show _=_;have d:dC b 1 999999=iA:=by simp[dC];omega
     have h:dC a 1 b=iA:=by simp[dC];omega
     simp only[rL,d,h,Oc]
    go_enter func34,ntmps34;go_wp2_with fail;apply dR (zF _ _ _);go_wp2;go_ret;exact⟨tB e.o.symm,f.o⟩
   .have e:fB (rL ⟨a,b,c⟩=gA):=by
     show _=_;have d:dC b 1 999999=gA:=by simp[dC];omega
     simp[rL,d]
    go_enter func34,ntmps34;go_wp2;go_ret;exact⟨tB e.o.symm,f.o⟩
  have e:fB (rL ⟨a,b,c⟩=gA):=by
   show _=_;have d:dC a 1 b=gA:=by simp[dC];omega
   simp[rL,d]
  go_enter func34,ntmps34;go_wp2;go_ret;exact⟨tB e.o.symm,f.o⟩
 have e:fB (rL ⟨a,b,c⟩=gA):=by
  show _=_;have d:dC a 1 b=gA:=by simp[dC];omega
  simp[rL,d]
 go_enter func34,ntmps34;go_wp2;go_ret;exact⟨tB e.o.symm,f.o⟩
def kX(L:aI)(z a:Int):Bool:=decide (L.size≠0) &&decide (a<L.size+z)
def TH(P D:Nat)(L:aI)(z d:Int)(w:jA)(h:bY w P D L)(l:0<=L.size/\L.size<=1000000000)(n:0<=z/\z<=1000000000):
 bM 197 #[.pointer (cC P),dB z,dB d] w (vA (kX L z d)):=by
 obtain⟨g,i,j,k⟩:=h.cells;clear h g i j;obtain⟨a,b,c⟩:=L;simp only at l k;have h:IntKind.i64.wrap (c+z)=c+z:=by rw[IntKind.wrap_i64];omega
 by_cases f:c=0
 .subst f;have e:fB (kX ⟨a,b,0⟩ z d=gA):=by show _=_;simp[kX]
  go_enter func197,ntmps197;go_wp2;go_ret;exact⟨tB e.o.symm,rfl⟩
 have e:fB (kX ⟨a,b,c⟩ z d=decide (d<c+z)):=by show _=_;simp[kX,f]
 go_enter func197,ntmps197;go_wp2;go_ret;exact⟨tB (by rw[e.o];simp[f]),rfl⟩
def shV(k:Int):mA:=yA #[vA (wU k),vA (k==1),vA (vU k),vA (iV k),vA (k==1||k==2||k==3||k==4)]
def TQ{k:Int}(h:1<=k/\k<=6)(w:jA):gF 169 #[dB k] w (vA iA):=by
 obtain⟨b,c⟩:=h;go_enter func169,ntmps169;go_wp2;go_ret;exact⟨rfl,jD⟩
def aCa{x:vB}(h:x.size=0):x.toList=[]:=by rw[ByteArray.toList_eq,<-Nb];simpa using h
def LO{b:Bool}{p:Prop}(h:b=gA->p):b=iA\/b=gA/\p:=by cases b;exact La ⟨rfl,h rfl⟩;exact Ca rfl
def aEy{r:fH}(a:nC)(i:Nat)(w:jA)(h:na r):
 gF 172 #[shV r.K,yA #[dB r.K,tA r.T,tA r.R,dB r.U,uA a (cB r.P) i]] w (vA iA):=by
 obtain⟨-,j,l,o,p,-⟩:=h;obtain⟨k,C,A,B,x⟩:=r;dsimp only at *;have b:=LO j;have d:(k==1)=iA\/(k==1)=gA/\x=[]:=LO λe=>p (by simpa using e);have f:=LO l;have g:=LO o;unfold shV;generalize (k==1||k==2||k==3||k==4)=c at *;clear j l o p;generalize wU k=t at *;generalize (k==1)=s at *;generalize vU k=m at *;generalize iV k=n at *;rcases b with rfl|⟨rfl,q⟩<;>rcases d with rfl|⟨rfl,rfl⟩<;>rcases f with rfl|⟨rfl,u⟩<;>obtain rfl|⟨rfl,rfl⟩:=g
 all_goals
  (try have y:=aCa q);(try have z:=aCa u);go_enter func172,ntmps172;go_wp2;go_ret;exact⟨rfl,xB aC aC⟩
def aAh(x:hC):List mA:=[tA x.N,tA x.V]
def aFo(w:jA):PredBelow prog 235 #[] (λx=>yA (aAh x).toArray) (λx:hC=>decide ((x.N.size:Int) > 255)) w:=λW x a=>by
 show Calls prog 235 #[yA #[tA x.N,tA x.V]] W _;go_enter func235,ntmps235;go_wp2;go_ret;exact⟨rfl,a.alloc a.size _⟩
def un(a:nC)(c:Nat)(d:mA)(w:jA):gF 276 #[uA a 0 c,d] w (dB (-1)):=by
 go_enter func276,ntmps276;go_wp2;go_loopw [5,8] (λ_ i wr=>i=dB 0/\zB w wr) (λ_ _ _=>0)
 case atStart=>exact⟨rfl,jD⟩
 case round=>
  obtain⟨rfl,b⟩:=hrel;go_wp2;go_ret;exact⟨rfl,b⟩
def zo(a:nC)(c:Nat)(d:mA)(w:jA):gF 234 #[uA a 0 c,d] w (vA gA):=by
 have h:fB (∀W,gF 276 #[uA a 0 c,d] W (dB (-1))):=λW=>un a c d W;go_enter func234,ntmps234;go_wp2_with fail;apply oC (h.o _);intro i b;have g:=gB b;clear b;go_wp2;go_ret;exact⟨rfl,g.o⟩
def zn(a:nC)(c:Nat)(g:List hC)(w:jA)(p:vD w a g)(r:cB g<=2000000):
 gF 234 #[uA a (cB g) c,.func (.func 235) #[] #[]] w (vA (g.any λx=>decide ((x.N.size:Int) > 255))):=by
 obtain rfl|⟨b,o,rfl,k,h⟩:=p;exact zo a c _ w;have n:∀args w,(callFunc 235 args).run prog w=.ok (.enter 235 args) w:=enters_of func235 (by kernel_rfl) rfl;haveI:=aFk
 have d:=AnyQ.slices_ContainsFunc contL 2 isAgg190 sizeOf190 aAh (λ_=>rfl) (λx:hC=>decide ((x.N.size:Int) > 255)) 235 #[] n b o (cB g) c g w (aFo w) (Ia _) (by omega) k (λj m i v f=>by
  have l:=h j m;have e:g[j]! = g[j]:=getElem!_pos g j m;rw[e]at f;match i,f with
  |0,f=>simp[aAh]at f;rw[<-f];exact l.1
  |1,f=>simp[aAh]at f;rw[<-f];exact l.2
  |i+2,f=>simp[aAh]at f)
 change Calls prog 234 _ _ _ at d;rw[Rb]at d;exact d
def WM(r:fH)(a:nC)(j:Nat)(w:jA)(m:gJ w a r.P)(h:na r):
 gF 173 #[yA #[dB r.K,tA r.T,tA r.R,dB r.U,uA a (cB r.P) j]] w (vA iA):=by
 obtain⟨-,-,-,-,-,E,-,F,g⟩:=h;have t:=gB m;have u:=gB g;clear m g;go_enter func173,ntmps173;go_wp2;go_loopw [4,18] (λ_ i wr=>∃k:Nat,k<=cB r.P/\i=dB k/\zB w wr) (λ_ i _=>cB r.P-(intOf i).toNat)
 case atStart=>exact⟨0,Oa _,rfl,aC⟩
 case round=>
  obtain⟨k,H,rfl,c⟩:=hrel;by_cases f:k<cB r.P
  .obtain ⟨b,o,v,B,rfl,G,D,y,p⟩:=(t.o.z c).at f;obtain⟨I,n⟩:=u.o k f;have l:=gB (λW(z:zB wr W)=>zn v B _ W (p.z z) (by omega));rw[List.any_eq_false.2 λx g=>by
    obtain⟨i,A,rfl⟩:=List.mem_iff_getElem.1 g;have:=(n i A).1;simp;omega]at l
   have s:=gB c;clear p n c;go_wp2_with fail;apply oC (l.o _ aC);intro J d;have q:=gB (xB (xB s.o aC) d);clear d;go_wp2;exact⟨⟨k+1,by omega,by go_num,q.o⟩,by simp[intOf];omega⟩
  .go_wp2;go_ret;exact⟨rfl,c⟩
def ZN(r:fH)(a:nC)(q:Nat)(w:jA)(t:gJ w a r.P)(U:FF r<=1048576):
 gF 174 #[yA #[dB r.K,tA r.T,tA r.R,dB r.U,uA a (cB r.P) q]] w (dB ((r.T.size+r.R.size+wP r.P:Nat):Int)):=by
 have H:FF r=r.T.size+r.R.size+cB r.P+yF r.P:=rfl;have K:=aHa r.P;have x:fB (gJ w a r.P):=t;clear t;go_enter func174,ntmps174;go_wp2;go_loopw [3,5,7,18,25] (λz _ _ i _ wr=>∃k:Nat,k<=cB r.P/\i=dB k/\z=dB ((r.T.size+r.R.size+wP (r.P.take k):Nat):Int)/\zB w wr) (λ_ _ _ i _ _=>cB r.P-(intOf i).toNat)
 case atStart=>exact⟨0,Oa _,rfl,by simp[wP],aC⟩
 case round=>
  obtain⟨k,S,rfl,rfl,d⟩:=hrel;by_cases l:k<cB r.P
  .obtain ⟨b,o,B,X,rfl,R,O,C,u⟩:=(x.o.z d).at l;have p:=xt r.P k l;have I:wP (r.P.take (k+1))<=wP r.P:=by
    have e:=KR (r.P.take (k+1)) (r.P.drop (k+1));rw[Za]at e;omega
   have F:=PT r.P k l;have E:mJ r.P[k]=cB r.P[k].B+bE r.P[k].B:=rfl;have y:fB (∀W,zB wr W->vD W B r.P[k].B):=λW h=>u.z h;have n:fB (wP (r.P.take (k+1))=wP (r.P.take k)+bE r.P[k].B):=p;clear u p;rename jA=>v;generalize r.P[k].B=g at *;generalize wP (r.P.take k)=A at *;generalize r.P[k].bits=N at *;go_wp2;go_loopw [3,7,25] (λz _ j wr=>∃m:Nat,m<=cB g/\j=dB m/\z=dB ((r.T.size+r.R.size+A+bE (g.take m):Nat):Int)/\zB v wr) (λ_ _ j _=>cB g-(intOf j).toNat)
   case atStart=>exact⟨0,Oa _,rfl,by simp[bE],aC⟩
   case round=>
    obtain⟨m,T,rfl,rfl,c⟩:=hrel;by_cases f:m<cB g
    .obtain ⟨M,V,rfl,D,P,Q⟩:=(y.o _ c).at f;have s:=uT g m f;have G:=xQ g (m+1);go_wp2;refine⟨⟨m+1,by omega,by go_num,?_,xB c aC⟩,by simp[intOf];omega⟩;refine Kd (mA.int .i64) ?_;have J:=n.o;rw[s];unfold wrap64;omega
    have e:g.take m=g:=Ra (by omega);rw[e];go_wp2;refine⟨⟨k+1,by omega,by go_num,?_,xB d c⟩,by simp[intOf];omega⟩;refine Kd (mA.int .i64) ?_;rw[n.o];omega
  .have e:r.P.take k=r.P:=Ra (by omega);rw[e];go_wp2;go_ret;exact⟨rfl,d⟩
def aKo(a:List hC):Prop:=∀i(h:i<cB a),a[i].N.size<=1000000000/\a[i].V.size<=1000000000
def hZ(a:List hC):List vB:=a.flatMap λl=>[vM l.N,eG l.V]
def fh(a:List hC)(k:Nat)(h:k<cB a):hZ (a.take (k+1))=hZ (a.take k)++[vM a[k].N,eG a[k].V]:=by
 unfold hZ;rw[Pa h,He];rfl
def MU:∀(a:List hC),xF (hZ a)=pD a
 |[]=>rfl
 |l::r=>by
  have e:hZ (l::r)=[vM l.N,eG l.V]++hZ r:=rfl;rw[e,oG,MU r,pD];simp[xF]
def lq(a:nC)(Z:Nat)(c:List hC)(w:jA)(hf:vD w a c)(hB:aKo c)(hlen:cB c<=255):
 gF 236 #[uA a (cB c) Z] w (tA (bI c)):=by
 have HF:fB (vD w a c):=hf;have HB:fB (aKo c):=hB;have HU:fB (∀W,gF 28 #[qA sA (cB c:Nat)] W (tA (uB 1 (cB c:Nat)))):=λW=>CE (cB c) W;have hz1:=oB 1 (cB c:Nat);have V:fB (bI c=uB 1 (cB c:Nat)++pD c):=rfl;generalize uB 1 (cB c:Nat)=Y at *;obtain⟨ti,O,g0,h0,i0⟩:=AC;have HI:fB (prog.info? 9=fA ti):=O;clear hf hB O;go_enter func236,ntmps236;go_wp2_with fail;apply oC (HU.o _);intro Q r;have B1:fB (zB w Q):=r;have e0:w.1.size<=Q.1.size:=r.size;clear r;go_wp2;go_loopw [3,5,12] (λk0 _ i wr=>∃(k:Nat)(f:List vB)(g C:Nat),k<=cB c/\i=qA sA k/\k0=uA (fA ⟨g,0,eA⟩) (cB f) C/\cB f<=1+2*k/\jG f<=1+k*3000000000/\fB (f=Y::hZ (c.take k))/\fB (wr.ownsRow w.1.size 9 1 (uA (fA ⟨g,0,eA⟩) (cB f) C) (cB f) (f.map mA.string))/\zB w wr) (λ_ _ i _=>cB c-(intOf i).toNat)
 case atStart=>
  exact⟨0,[Y],_,_,Oa _,rfl,rfl,by simp,by simp[jG];omega,rfl,⟨rfl,La ⟨Q.1.size,1,_,rfl,e0,heap_alloc_new _ _,Ia _,by simp[maxLen],rfl,rfl⟩⟩,xB B1.o aC⟩
 case round=>
  obtain⟨k,f,g,C,hk,rfl,rfl,hpl,hps,I,j,n⟩:=hrel;by_cases E:k<cB c
  .obtain ⟨b,o,rfl,hb,c0,c1⟩:=(HF.o.z n).at E;obtain⟨b0,d0⟩:=HB.o k E;have X:fB (∀W,gF 116 #[tA c[k].N] W (tA (vM c[k].N))):=λW=>sS c[k].N W b0;have J:fB (∀W,gF 117 #[tA c[k].V] W (tA (eG c[k].V))):=λW=>jL c[k].V W d0;have hz8:=sF c[k].N;have hz16:=kF c[k].V;have HT:=fh c k E;have U:fB (f++[vM c[k].N,eG c[k].V]=Y::hZ (c.take (k+1))):=by show _=_;rw[HT,I.o];rfl
   clear HT;generalize vM c[k].N=q at *;generalize eG c[k].V=h at *;generalize c[k].N=F at *;generalize c[k].V=G at *;have s:fB (rB (wr.alloc (aB #[tA F,tA G] 190)) wr.1.size #[tA F,tA G] 190/\zB wr (wr.alloc (aB #[tA F,tA G] 190))):=⟨heap_alloc_new _ _,aC⟩
   have B:fB ((wr.alloc (aB #[tA F,tA G] 190)).ownsRow w.1.size 9 1 (uA (fA ⟨g,0,eA⟩) (cB f) C) (cB f) (f.map mA.string)/\zB w (wr.alloc (aB #[tA F,tA G] 190))):=⟨lC j.o aC,xB n aC⟩
   go_wp2_with fail;generalize wr.alloc (aB #[tA F,tA G] 190)=W at *;have S:=s.o.1.cell 0;have T:=s.o.1.cell 1;simp only[Xb,Ob,Ga]at S T;have l:wr.1.size<W.1.size:=eB s.o.1;have j0:w.1.size<=W.1.size:=B.o.2.size;have hgB:g<wr.1.size:=(cH j.o).2.1;clear j s hb c0 c1 n;generalize wr.1.size=v at *;clear wr;go_region_held3 (λp=>p.cell? ⟨v,0,eA⟩=fA (tA F)/\p.cell? ⟨v,1,eA⟩=fA (tA G))
    (first
     |go_keep
     |exact⟨z.trans S,A.trans T⟩
     |exact⟨((d.alloc d.size _).cell l).trans S,((d.alloc d.size _).cell l).trans T⟩
     |exact⟨(d.cell l).trans S,(d.cell l).trans T⟩
     |exact⟨(u.cell l).trans S,(u.cell l).trans T⟩)
    ((first
      |(go_at_call 116;apply oC (X.o _);intro Q r;have u:zB W Q:=(Below.refl _ W).drew.trans r)
      |(go_at_call 117;apply oC (J.o _);intro w2 t;have d:zB W w2:=u.trans (t.mono u.size))
      |(refine yI _ (by rfl) _ _ _ (by rfl) w.1.size 9 ti _ 1 16 underlying30 HI.o g0 h0 i0 rfl (by omega) g (cB f) C _ (by rfl) (by exact lC (lC B.o.1 d) aC) _ 2 2 [tA q,tA h] (by rfl) rfl (by exact La ⟨_,rfl,jA.news_of_block (cs:=#[tA q,tA h]) (heap_alloc_new _ _)⟩) (by simp[mA.oneCell']) (by simp[maxLen];omega) (by omega) (by have:=d.size;simp;omega) ?_;intro g5 x R m K D hg5 L hlt5;have z:R.cell? ⟨v,0,eA⟩=W.cell? ⟨v,0,eA⟩:=(jA.cell?_of_block (D v (by have:=d.size;simp;omega) (by omega))).trans ((d.alloc d.size _).cell l);have A:R.cell? ⟨v,1,eA⟩=W.cell? ⟨v,1,eA⟩:=(jA.cell?_of_block (D v (by have:=d.size;simp;omega) (by omega))).trans ((d.alloc d.size _).cell l);have y:zB w R:=((xB B.o.2 d).alloc (Ua j0 d.size) _).trans K)))
   have P:f.map mA.string++[mA.string q,tA h]=(f++[q,h]).map mA.string:=by simp
   have N:cB (f++[q,h])=cB f+2:=by simp
   have hsm:jG (f++[q,h])=jG f+(q.size+h.size):=by rw[vH];simp[jG]
   rw[P,<-N]at m;rw[<-N];have H:fB (R.ownsRow w.1.size 9 1 (.slice (fA ⟨g5,0,eA⟩) (cB (f++[q,h])) x) (cB (f++[q,h])) ((f++[q,h]).map mA.string)/\zB w R):=⟨m,y⟩
   clear m K y D L z A P;generalize f++[q,h]=l0 at *;go_wp2;exact⟨⟨k+1,l0,g5,x,by omega,by go_num,rfl,by omega,by omega,U.o,H.o.1,H.o.2⟩,by simp[intOf];omega⟩
  have U:fB (xF f=bI c):=by
   show _=_;rw[I.o,Ra (by omega),xF,MU,V.o]
  obtain⟨a0,hg,M⟩:=cH j.o;have HJ:fB (gF 108 #[uA (fA ⟨g,0,eA⟩) (cB f) C] wr (tA (xF f))):=mI g (cB f) C f wr rfl M hg a0 (by omega) (by omega);rw[U.o]at HJ;clear j M;go_wp2_with fail;apply oC HJ.o;intro w2 t;have B2:fB (zB w w2):=xB n t;clear t;go_wp2;go_ret;exact⟨rfl,B2.o⟩
