import Derived.Deep.WholeRow
import Derived.Test.YtflbidbilgndeaaGreatDoorJ19
set_option maxRecDepth 100000
set_option maxHeartbeats 4000000
set_option linter.defProp false
open Option renaming some->bA,none->aA
open Bool renaming true->dA,false->cA
open ByteArray renaming empty->kA
open List renaming length->yA
namespace Go.Proofs.YtflbidbilgndeaaGreatDoor
open Go renaming World->eA,TypeId->jA,Value->iA
open IntKind renaming i64->mA
open Value renaming string->oA,slice->pA,int->lA,agg->tA,bool->qA
open Obj renaming cells->vA
open Go.RowKit Tryz
section
open Go.Maps
def OK(w:eA):(zeroValue 3).run prog w=.ok (zA 0) w:=by kernel_rfl
def eD{H:Type}{P:Program}{w:eA}{k:jA}{R:iA->Option (DataW H×List MemPlace)}{b n g:Nat}{D:DataW H}{c:Array iA}{t:jA}(h:w.ownsMap P k R b n D)(d:nB w g c t):b≠g:=by
 intro e;subst e;obtain⟨i,a,f,_⟩:=h;rw[nB,f]at d;simp at d
def wG{H:Type}{P:Program}{w:eA}{k:jA}{R:iA->Option (DataW H×List MemPlace)}{b n:Nat}{D:DataW H}{B:Nat}{e:jA}{a:Nat}{v:iA}{m:Nat}{j:List iA}(h:w.ownsMap P k R b n D)(i:w.ownsRow B e a v m j):v.ownBlock≠bA b:=by
 intro c;obtain⟨rfl,_⟩|⟨l,d,f,rfl,_,g,_⟩:=i.2
 .cases c
 simp only[iA.ownBlock,Qa]at c;subst c;exact eD h g rfl
def jS.newLims{w f:eA}{S:Nat->Prop}{x:Nat}{t:fB}{M c m i n:Nat}{l:iA}{Q:List (kB×Nat)}{k:List zI}{D E:DataW Unit}{d:List kB}(h:jS w S x t M c m i l Q k D)(b:eB (·=c) w f)
(a:f.ownsMap prog 9 (plainElem prog 3) c n E)(o:E=fE (d.map λp=>(p.s,eJ p.n)))(u:zC (·.s) d):vD f S x { t with M:=d} M:=by
 subst o;refine⟨c,m,i,l,Q,k,D,?_⟩;exact { h with
  blk:=b.blk h.blk (eD h.lims h.blk).symm
  lims:=by have:=TM a;rw[bN]at this;exact this
  Z:=b.map h.Z h.d1.symm
  cnts:=b.map h.cnts h.d2.symm
  cells:=λq j=>b.blk (h.cells q j) (eD h.lims (h.cells q j)).symm
  row:=b.row h.row (λg r e=>by subst e;exact wG h.lims h.row r)
  rm:=u}
def aHz{w w2 G N:eA}{S:Nat->Prop}{x:Nat}{t:fB}{M W L F:Nat}{O:iA}{Q:List (kB×Nat)}{z:List zI}{D:DataW Unit}{key:jB}{j c:Int}{g A:Nat}(h:jS w S x t M W L F O Q z D)(y:dD (·.s) key t.Z=aA)
(d:eB (λk=>k=L\/k=F) w G)(J:w2.ownsMap prog 9 tE L (yA Q+1) (DataW.put (fE (Q.map λq=>(q.1.s,mF q.2))) (kL key) (mF w.1.size)))(i:eB (·=F) w2 G)
(K:G.ownsMap prog 9 (plainElem prog 3) F (M+1) (D.put (kL (cE key)) (.lit (.int mA (c+1)))))(b:nB G w.1.size #[oA key,zA j] 98)(hc:c=(bJ cE t.Z (cE key):Nat))
(P:nB N x (#[zA t.L,.map (bA W),.map (bA L),.map (bA F),O].setIfInBounds 4 (pA (yB g) (yA z+1) A)) 228)
(U:N.ownsRow 0 334 2 (pA (yB g) (yA z+1) A) (yA z+1) (qK (gS z ⟨w.1.size,j⟩)))(v:O.ownBlock=bA g\/G.1.size<=g)(f:eB (λk=>k=x\/O.ownBlock=bA k) G N):
 vD N (λg=>S g\/w.1.size<=g) x { t with Z:=fC (·.s) ⟨key,j⟩ t.Z} (M+1)/\eB S w N:=by
 have G:=aB h.blk;have G:=aB b;have O:=eD h.Z h.blk;have c0:=eD h.cnts h.blk;have a0:=eD h.lims h.blk;have X:=wG h.lims h.row;have Y:=wG h.Z h.row;have Z:=wG h.cnts h.row;have u:=λq l=>aB (h.cells q l);have C:dD (λq:kB×Nat=>q.1.s) key Q=aA:=by
  have:=jW (key:=λq:kB×Nat=>q.1.s) (key':=λp:kB=>p.s) (λq=>q.1) (λ_=>rfl) key Q;rw[h.q1,y]at this;cases hg:dD (λq:kB×Nat=>q.1.s) key Q with
  |none=>rfl
  |some q=>rw[hg]at this;cases this
 have E:=JX (key:=λq:kB×Nat=>q.1.s) (a:=((⟨key,j⟩:kB),w.1.size)) C;have R:=JX (key:=λp:kB=>p.s) (a:=(⟨key,j⟩:kB)) y;have H:yA (fC (λq:kB×Nat=>q.1.s) ((⟨key,j⟩:kB),w.1.size) Q)=yA Q+1:=by rw[E.length_eq];rfl
 have V:zC (λq:kB×Nat=>q.1.s) Q:=by
  rw[<-fY (key':=λp:kB=>p.s) (λq:kB×Nat=>q.1) (λ_=>rfl),h.q1];exact h.rs
 obtain⟨ph,G,pl⟩:=ET h.heap ⟨w.1.size,j⟩;have I:DataW.put (fE (Q.map λq=>(q.1.s,mF q.2))) (kL key) (mF w.1.size)=fE ((fC (λq:kB×Nat=>q.1.s) ((⟨key,j⟩:kB),w.1.size) Q).map λq=>(q.1.s,mF q.2)):=
  KE (key:=λq:kB×Nat=>q.1.s) (λq=>mF q.2) ((⟨key,j⟩:kB),w.1.size) V
 have n:∀q,q∈fC (λq:kB×Nat=>q.1.s) ((⟨key,j⟩:kB),w.1.size) Q->q=((⟨key,j⟩:kB),w.1.size)\/q∈Q:=λq l=>yK l;have B:∀s∈z,∃q∈Q,q.2=s.b:=λs o=>by
  have:=(h.perm.mem_iff (a:=s.b)).1 (Md.2 ⟨s,o,rfl⟩);obtain⟨q,l,e⟩:=Md.1 this;exact⟨q,l,e⟩
 refine⟨⟨W,L,F,pA (yB g) (yA z+1) A,fC (λq:kB×Nat=>q.1.s) ((⟨key,j⟩:kB),w.1.size) Q,gS z ⟨w.1.size,j⟩,D.put (kL (cE key)) (.lit (.int mA (c+1))),?_⟩,?_⟩
 .exact {
   blk:=P
   lims:=f.map (d.map h.lims (λe=>by obtain e|e:=e;exact h.d1 e;exact h.d2 e)) (λe=>by obtain e|e:=e;exact a0 e;exact X e)
   Z:=by
    rw[<-I,H];exact f.map (i.map J h.d3) (λe=>by obtain e|e:=e;exact O e;exact Y e)
   cnts:=f.map K (λe=>by obtain e|e:=e;exact c0 e;exact Z e)
   cnt:=λm=>by
    rw[VS R m,VQ];by_cases e:cE key=m
    .rw[Ma e,<-e,atKey_put_same (k:=kL (cE key)) h.cnts.isMap trivial,hc];rfl
    rw[Ja e,atKey_put_other (λI=>e (aFi I).symm),h.cnt m];rfl
   q1:=by
    rw[xS (key':=λp:kB=>p.s) (λq:kB×Nat=>q.1) (λ_=>rfl),h.q1]
   cells:=λq l=>by
    rcases n q l with rfl|l;exact f.blk b (λe=>by obtain e|e:=e;simp only at e;omega;have:=jP h.row _ e;simp only at this;omega);exact f.blk (d.blk (h.cells q l) (λe=>by obtain e|e:=e;exact eD h.Z (h.cells q l) e.symm;exact eD h.cnts (h.cells q l) e.symm)) (λe=>by obtain e|e:=e;exact h.dx q l e;exact(h.di _ e).2 q l rfl)
   row:=by rw[pl];exact U
   heap:=ph
   perm:=by
    refine(G.map _).trans ?_;refine List.Perm.trans ?_ (E.map _).symm;exact List.Perm.cons _ h.perm
   early:=λs o q l e=>by
    rcases Lb.1 ((G.mem_iff).1 o) with rfl|o
    .rcases n q l with rfl|l
     .exact Xd _
     have:=u q l;simp only at e;omega
    rcases n q l with rfl|l;obtain ⟨b,T,I⟩:=B s o;have:=u b T;simp only at e;omega;exact h.early s o q l e
   rm:=h.rm
   rs:=kK h.rs
   sx:=Ca h.sx
   sl:=Ca h.sl
   ss:=Ca h.ss
   sc:=Ca h.sc
   sq:=λq l=>by
    rcases n q l with rfl|l;exact La (Ia _);exact Ca (h.sq q l)
   si:=λb r=>by
    simp only[iA.ownBlock,Qa]at r;subst r;obtain e|e:=v;exact Ca (h.si g e);exact La (by have:=d.size;omega)
   d1:=h.d1
   d2:=h.d2
   d3:=h.d3
   nd:=by
    rw[(E.map _).nodup_iff,Fc,List.nodup_cons];refine⟨λG=>?_,h.nd⟩;obtain⟨q,l,e⟩:=Md.1 G;have:=u q l;simp only at e;omega
   dx:=λq l=>by
    rcases n q l with rfl|l;simp only;omega;exact h.dx q l
   di:=λb r=>by
    simp only[iA.ownBlock,Qa]at r;subst r;obtain e|e:=v
    .refine ⟨(h.di g e).1,λq l=>?_⟩;rcases n q l with rfl|l
     .have:=jP h.row g e;simp only;omega
     exact (h.di g e).2 q l
    refine ⟨by omega,λq l=>?_⟩;rcases n q l with rfl|l;simp only;omega;have:=u q l;omega}
 refine (d.mono λk _ e=>by obtain rfl|rfl:=e;exact h.ss;exact h.sc).trans (f.mono λk _ e=>?_);obtain rfl|e:=e;exact Ca h.sx;exact Ca (h.si _ e)
def uq(x:Nat)(t:fB)(key:jB)(l:Int)(S:Nat->Prop)(M:Nat)(w:eA)(h:vD w S x t M)(O:dD (·.s) key t.Z=aA)(hk:key.size<=maxLen)(hm:(cE key).size<=maxLen)(hM:M<=1000000000)(hl:yA t.Z<=1000000000):
 Calls prog 212 #[.pointer (bA ⟨x,0,aA⟩),oA key,oA (cE key),lA mA l] w λe G=>e=.returned (.tuple #[])/\vD G (λg=>S g\/w.1.size<=g) x { t with Z:=fC (·.s) ⟨key,l⟩ t.Z} (M+1)/\eB S w G:=by
 obtain⟨lm,V,I,Z,Q,F,D,h⟩:=h;have HK:cB _:=lN hk;have HM:cB _:=lN hm;have hQ:yA Q=yA t.Z:=by rw[<-h.q1,Xa]
 have hH:yA F=yA Q:=by have:=h.perm.length_eq;simpa using this
 have HI:cB _:=h;obtain⟨X,n⟩:∃W,W=w.alloc (vA #[oA key,lA mA l] 98):=⟨_,rfl⟩
 have d:eB (λ_=>False) w X:=by rw[n];exact eB.of zB
 have b1:nB X w.1.size #[oA key,lA mA l] 98:=by rw[n];exact nB.new _ _ _
 obtain⟨Y,U,z,J⟩:=(d.map h.Z (λe=>e)).update aM underlying223 (by unfold maxLen;omega) HK.o (eY w.1.size);have j:eB (·=V) X Y:=(eB.grown J).mono λi _ e=>by simp only[Qa]at e;exact e.symm
 have a:=(d.mono λ_ _ e=>e.elim).trans' j;have m:=a.map h.cnts (Ne.symm h.d3);obtain⟨c,runL,L,d0⟩:=m.lookup_int aM underlying222 underlying3 (OK _) HM.o;have hc:c=(bJ cE t.Z (cE key):Nat):=by
  have:=h.cnt (cE key);unfold eJ at this;rw[L]at this;simpa using this
 have c0:=ZL cE t.Z (cE key);have hcl:0<=c:=by omega
 have hcu:c<=1000000000:=by omega
 obtain⟨C,run3,A,K⟩:=m.update aM underlying222 (by unfold maxLen;omega) (val:=lA mA (c+1)) HM.o (plainElem_int underlying3 (WalkArith.wf_i64 (by omega)));have f:eB (·=I) Y C:=(eB.grown K).mono λi _ e=>by simp only[Qa]at e;exact e.symm
 have b:=(a.mono λ_ _ e=>Ca e).trans' (f.mono λ_ _ e=>La e);have T:=eD h.Z h.blk;have e0:=eD h.cnts h.blk;have r:nB X x _ _:=d.blk h.blk (λe=>e);have u:nB Y x _ _:=a.blk h.blk T.symm;have v:nB C x _ _:=b.blk h.blk (λe=>by obtain e|e:=e;exact T e.symm;exact e0 e.symm);have B:=b.row h.row (λg hg e=>by obtain rfl|rfl:=e;exact wG h.Z h.row hg;exact wG h.cnts h.row hg);have c1:tC X x 2 (.map (bA V)):=r.cell 2;have c2:tC Y x 3 (.map (bA I)):=u.cell 3;have HP:cB (Calls prog 263 #[.pointer (bA ⟨x,4,aA⟩),tA #[.pointer (bA ⟨w.1.size,0,aA⟩),lA mA l]] C λe G=>e=.returned (.tuple #[])/\∃g E,nB G x (#[lA mA t.L,.map (bA lm),.map (bA V),.map (bA I),Z].setIfInBounds 4 (pA (bA ⟨g,0,aA⟩) (yA F+1) E)) 228/\
  G.ownsRow 0 334 2 (pA (bA ⟨g,0,aA⟩) (yA F+1) E) (yA F+1) (qK (gS F ⟨w.1.size,l⟩))/\(Z.ownBlock=bA g\/C.1.size<=g)/\eB (λk=>k=x\/Z.ownBlock=bA k) C G):=
  ln x 4 0 Z F ⟨w.1.size,l⟩ C _ _ v rfl B (λe=>(h.di x e).1 rfl) (Oa _) (by omega)
 have H:cB _:=b;have o:cB (Y.ownsMap prog 9 tE V (yA Q+1) (DataW.put (fE (Q.map λq=>(q.1.s,mF q.2))) (kL key) (mF w.1.size))):=z;have p:cB (C.ownsMap prog 9 (plainElem prog 3) I (M+1) (D.put (kL (cE key)) (.lit (.int mA (c+1))))):=A;have T3:cB _:=f;have B3:cB (nB C w.1.size #[oA key,lA mA l] 98):=((j.mono (S':=λk=>k=V\/k=I) λ_ _ e=>Ca e).trans' (f.mono λ_ _ e=>La e)).blk b1 (λe=>by have:=h.Z.lt;have:=h.cnts.lt;rcases e with e|e<;>omega);have a0:cB _:=hc;rw[n]at U c1;clear h hk hm n d b1 z J j a m L d0 hc c0 A K f b r u v B;go_enter func212,ntmps212;go_wp2_with fail;apply lC HP.o;rintro w4 ⟨g,E,N,P,y,R⟩;have HF:=aHz HI.o O H.o o.o T3.o p.o B3.o a0.o N P y R;clear HP HI H o T3 p B3 N P y R;have b0:cB _:=bB HF;clear HF;go_wp2;go_end0;exact⟨rfl,b0.o⟩
end
structure C14(cs:Array Value):Prop where
 size:cs.size=14
 one:cs.all (·.oneCell')=dA
def xH(a b:mC)(c d:Nat)(N:wC):C14 (sC a c b d N):=⟨rfl,by simp[sC,iA.oneCell']⟩
def qN(W:eA)(X:Nat):Prop:=∃a T,nB W X a T/\a.size=14
def nB.box{W:eA}{X:Nat}{cs:Array iA}{T:jA}(h:nB W X cs T)(a:cs.size=14):qN W X:=⟨cs,T,h,a⟩
def qF(a:mC)(e:Nat)(b:mC)(f:Nat)(N:wC):#[pA a (yA N.d.fs) e,zA N.d.c,zA N.d.k,zA N.d.cr,zA N.d.fl,qA N.d.dn,zA N.l.first,zA N.l.last,zA N.l.size,zA N.now,pA b (yA N.ts) f,zA N.lsn,qA N.deg,qA N.up]=sC a e b f N:=rfl
def vN:#[pA aA 0 0,zA 0,zA 0,zA 0,zA 0,qA cA,zA 0,zA 0,zA 0,zA 0,pA aA 0 0,zA 0,qA cA,qA cA]=sC aA 0 aA 0 uP:=rfl
def jH(a b:mC)(c d:Nat)(N:wC):(sC a c b d N).size=14:=rfl
def yG(a:mC)(e:Nat)(b:mC)(f:Nat)(N:wC)(T:jA):∀W X,nB W X (sC a e b f N) T->W.cell? (dB X 0)=bA (pA a (yA N.d.fs) e)/\W.cell? (dB X 1)=bA (zA N.d.c)/\W.cell? (dB X 2)=bA (zA N.d.k)/\W.cell? (dB X 3)=bA (zA N.d.cr)/\W.cell? (dB X 4)=bA (zA N.d.fl)/\W.cell? (dB X 5)=bA (qA N.d.dn)/\W.cell? (dB X 6)=bA (zA N.l.first)/\W.cell? (dB X 7)=bA (zA N.l.last)/\W.cell? (dB X 8)=bA (zA N.l.size)/\W.cell? (dB X 9)=bA (zA N.now)/\W.cell? (dB X 10)=bA (pA b (yA N.ts) f)/\W.cell? (dB X 11)=bA (zA N.lsn)/\W.cell? (dB X 12)=bA (qA N.deg)/\W.cell? (dB X 13)=bA (qA N.up):=λ_ _ h=>h.n14
def xN{W:eA}{X:Nat}{cs:Array iA}(h:qN W X)(a:C14 cs):(storeCells (dB X 0) cs.toList 0).run prog W=.ok () (W.setRow X cs):=by
 obtain⟨e,T,d,b⟩:=h;have:=run_storeCells_from (P:=prog) X T cs.toList 0 e W d (by simp[b,a.size]) (λv c=>(Array.all_eq_true_iff_forall_mem.1 a.one) v (by simpa using c));simpa using this
def nB.drewI{W:eA}{X:Nat}{cs:Array iA}{T:jA}:nB W.drew X cs T ↔ nB W X cs T:=Iff.rfl
def qN.drewI{W:eA}{X:Nat}:qN W.drew X ↔ qN W X:=Iff.rfl
def qN.new(w:eA)(a b:mC)(ca c:Nat)(N:wC)(T:jA):qN (w.alloc (vA (sC a ca b c N) T)) w.1.size:=(nB.new w _ T).box rfl
def qN.alloc{W:eA}{X:Nat}(h:qN W X)(o:Obj):qN (W.alloc o) X:=by
 obtain⟨c,T,b,a⟩:=h;exact⟨c,T,b.alloc o,a⟩
def qN.alloc2{W:eA}{X:Nat}(h:qN W X)(o a:Obj):qN ((W.alloc o).alloc a) X:=(h.alloc o).alloc a
def nB.row{W:eA}{X:Nat}{a cs:Array iA}{T:jA}(h:nB W X a T):nB (W.setRow X cs) X cs T:=setRow_heap _ _ _ _ _ _ h
def cH(W:eA)(X:Nat)(cs:Array iA):eB (·=X) W (W.setRow X cs):=⟨rfl,rfl,rfl,by simp,λk _ a=>setRow_other _ _ _ _ a⟩
def DP{C:eA->Prop}{w:eA}{X:Nat}{a cs:Array iA}{T:jA}(h:nB w X a T)(k:∀W,nB W X cs T->eB (·=X) w W->C W):C (w.setRow X cs):=k _ h.row (cH _ _ _)
def bQ{a:List iB}(c:∀f∈a,cP f=dA)(d:pV a):iI a=dA:=by
 simp only[iI,dU,Ke,Xg];intro i b;unfold uU;rw[Va b];simp only[c _ (Gb b),Oc];cases i with
 |zero=>rfl
 |succ j=>
  simp only[Va (show j<yA a by omega)];exact d j (j+1) (by omega) b
def GF{a:List iB}(h:iI a=dA):∀f∈a,cP f=dA:=by
 intro f c;obtain⟨i,b,rfl⟩:=Ib c;simp only[iI,dU,Ke,Xg]at h;have:=h i b;unfold uU at this;rw[Va b]at this;simp only[Sa]at this;exact this.1
def ltF(a b:iB):Prop:=Op.bytesLess a.N.toList b.N.toList=dA
def fe{c:List iB}:pV c ↔ c.Pairwise ltF:=by
 rw[Qe];exact⟨λh i j _ b a=>h i j a b,λh i j a b=>h i j (by omega) b a⟩
def uy{c:List iB}{f:iB}(h:pV c)(l:dJ c f.N (gC f.N c)=cA):pV (kN c (gC f.N c) f):=by
 have n:=xI f.N h;have k:=JW h l;have g:=fe.1 h;rw[<-Za (gC f.N c) c,Ae]at g;rw[fe,kN,Ae,Bc];refine⟨g.1,⟨λb d=>?_,g.2.1⟩,λa m b d=>?_⟩;obtain ⟨j,i,rfl⟩:=Ib d;rw[Rc]at i;rw[Cg];have o:=n.2.2 (gC f.N c+j) (by omega) (by omega);exact lK _ _ o (λe=>k _ (by omega) (toList_inj e));rcases Lb.1 d with rfl|d;obtain ⟨j,i,rfl⟩:=Ib m;rw[Hb]at i;rw[Ue];exact n.2.1 j (by omega) (by omega);exact g.2.2 a m b d
def NV{c:List iB}{i:Nat}{f:iB}(h:pV c)(n:i<yA c)(m:f.N=c[i].N):pV (c.set i f):=by
 have o:∀a(l:a<yA (c.set i f))(g:a<yA c),(c.set i f)[a].N=c[a].N:=λa l g=>by
  rw[List.getElem_set];split
  .rename_i e;subst e;exact m
  rfl
 intro a b j k;have d:b<yA c:=by simpa using k
 rw[o a (by omega) (by omega),o b k d];exact h a b j d
def vZ{n d:jB}{s:Int}(c:qG n=dA)(a:0<=s)(b:s<=d.size):cP ⟨n,d,s⟩=dA:=by
 simp[cP,bC,c,a,b]
def dY{a:List iB}{i:Nat}{f g:iB}(h:g∈a.set i f):g=f\/g∈a:=(List.mem_or_eq_of_mem_set h).symm
def gi{a:List iB}{c k b d:Int}(e:yA a<=1000)(f:iI a=dA)(g:0<=c/\c<=1000000000)(h:(pC a:Int)<=c)(i:0<=k/\k<=1000000000000000)(j:0<=b/\b<=1000000000000000)(l:0<=d/\d<=1000000000000000):eF a c k b d=dA:=by
 simp[eF,bC,e,f,g,h,i,j,l]
def aEk{a:List iB}{c:Int}{op:zN}(m:iI a=dA)(l:yA a<=1000)(p:(pC a:Int)<=c)(B:qG op.N=dA)(E:op.K=5->qG op.tq=dA):
 iI (tU a c op).2=dA/\yA (tU a c op).2<=1000/\(pC (tU a c op).2:Int)<=c:=by
 have j:=gT m;have o:=GF m;unfold tU;simp only;split
 .split
  .exact ⟨m,l,p⟩
  rename_i x;split
  .exact ⟨m,l,p⟩
  rename_i A;have C:=xI op.N j;refine⟨bQ (λf i=>?_) (uy (f:=⟨op.N,kA,0⟩) j (by simpa using x)),?_,?_⟩
  .simp only[kN,Ee,Lb]at i;obtain i|rfl|i:=i
   .exact o _ (Ce i)
   .exact vZ B (by omega) (by simp)
   exact o _ (Ng i)
  .rw[oO _ _ _ C.1];omega
  rw[lY];simpa using p
 split;exact ⟨m,l,p⟩
 rename_i f v;obtain⟨k,rfl⟩:=Pb.1 v;have h:=o _ (Gb k);simp only[cP,bC,Sa,Ab]at h;split
 .exact ⟨m,l,p⟩
 split
 .split
  .exact ⟨m,l,p⟩
  rename_i G;have b:=jM a (gC op.N a) ⟨a[gC op.N a].N,a[gC op.N a].data++op.data,a[gC op.N a].Y⟩ k;simp only[Ka]at b;refine⟨bQ (λg e=>?_) (NV j k rfl),by simpa using l,by simp only;omega⟩;rcases dY e with rfl|e
  .exact vZ h.1 h.2.1 (by rw[Ka];omega)
  exact o _ e
 split
 .have b:=jM a (gC op.N a) ⟨a[gC op.N a].N,a[gC op.N a].data,a[gC op.N a].data.size⟩ k;simp only at b;refine⟨bQ (λg e=>?_) (NV j k rfl),by simpa using l,by simp only;omega⟩;rcases dY e with rfl|e
  .exact vZ h.1 (by omega) (by omega)
  exact o _ e
 split
 .split
  .rename_i u;simp only[bC,Sa,Ab]at u;have b:=jM a (gC op.N a) ⟨a[gC op.N a].N,a[gC op.N a].data.extract 0 op.size.toNat,op.size⟩ k;simp only at b;have F:(a[gC op.N a].data.extract 0 op.size.toNat).size=op.size.toNat:=by rw[Je];omega
   refine⟨bQ (λg e=>?_) (NV j k rfl),by simpa using l,by simp only;omega⟩;rcases dY e with rfl|e;exact vZ h.1 u.1 (by rw[F];omega);exact o _ e
  exact ⟨m,l,p⟩
 have t:iI (a.eraseIdx (gC op.N a))=dA:=bQ (λg e=>o _ (Sf e)) (j.erase _);have z:yA (a.eraseIdx (gC op.N a))=yA a-1:=by rw[Ad,Ma k]
 have D:=dS a _ k;split
 .rename_i y;have u:=(xI op.tq (j.erase (gC op.N a)))
  have q:=vZ (n:=op.tq) (d:=a[gC op.N a].data) (s:=a[gC op.N a].Y) (E y) h.2.1 h.2.2;cases hq:dJ (a.eraseIdx (gC op.N a)) op.tq (gC op.tq (a.eraseIdx (gC op.N a))) with
  |true=>
   obtain⟨w,r⟩:=BR hq;have b:=jM (a.eraseIdx (gC op.N a)) (gC op.tq (a.eraseIdx (gC op.N a))) ⟨op.tq,a[gC op.N a].data,a[gC op.N a].Y⟩ w;simp only at b;rw[JF (f:=⟨op.tq,a[gC op.N a].data,a[gC op.N a].Y⟩) (j.erase _) w r];refine⟨bQ (λg e=>?_) (NV (j.erase _) w r.symm),by simp only[Pd];omega,by simp only;omega⟩;rcases dY e with rfl|e;exact q;exact GF t _ e
  |false=>
   rw[cX (f:=⟨op.tq,a[gC op.N a].data,a[gC op.N a].Y⟩) (j.erase _) hq];refine⟨bQ (λf i=>?_) (uy (f:=⟨op.tq,a[gC op.N a].data,a[gC op.N a].Y⟩) (j.erase _) hq),?_,?_⟩
   .simp only[kN,Ee,Lb]at i;obtain i|rfl|i:=i
    .exact GF t _ (Ce i)
    .exact q
    exact GF t _ (Ng i)
   .rw[oO _ _ _ u.1];omega
   rw[lY];simp only;omega
 exact ⟨t,by simp only;omega,by simp only;omega⟩
def ZK{k cr fl:Int}{dn:Bool}(a:0<=k)(b:k<=1000000000000000):0<=(fI k cr fl dn).2.1/\(fI k cr fl dn).2.1<=1000000000000000:=by
 unfold fI;split;exact ⟨a,b⟩;split;exact ⟨a,b⟩;split;simp only;omega;split<;>(simp only;omega)
def PR{j:List iB}{c k b d:Int}{i:Bool}{a:zN}(h:eF j c k b d=dA)(l:US a=dA):
 eF (iL j c k b d i a).2.1 c (iL j c k b d i a).2.2.1 b d=dA:=by
 obtain⟨m,n,o,p,q,x,y,r,s,e,f⟩:=rG h;have g:qG a.N=dA/\(a.K=5->qG a.tq=dA):=by
  simp only[US,bC,Sa,Fe,Ab]at l;exact⟨l.1.2,λh=>l.2.resolve_left (λk=>k h)⟩
 have t:=ZK (cr:=b) (fl:=d) (dn:=i) x y;unfold iL;split;obtain ⟨u,v,w⟩:=aEk (op:=a) m n q g.1 g.2;exact gi v u ⟨o,p⟩ w t ⟨r,s⟩ ⟨e,f⟩;exact gi n m ⟨o,p⟩ q t ⟨r,s⟩ ⟨e,f⟩
def sR:jB:=⟨#[99,107,112,116,46,116,109,112]⟩
def FI:jB:=⟨#[99,107,112,116]⟩
def pL:yD->List zN->yD×Nat
 |K,[]=>(K,0)
 |K,a::r=>if (gF K a).2=0 then pL (gF K a).1 r else gF K a
def SD(n:Int):zN:=⟨6,zE n,⟨#[]⟩,⟨#[]⟩,0⟩
def ko:zN:=⟨6,sR,⟨#[]⟩,⟨#[]⟩,0⟩
def yZ(last:Int)(a:jB):List zN:=
 [⟨1,sR,⟨#[]⟩,⟨#[]⟩,0⟩,⟨2,sR,⟨#[]⟩,a,0⟩,⟨3,sR,⟨#[]⟩,⟨#[]⟩,0⟩,⟨5,sR,FI,⟨#[]⟩,0⟩,⟨1,zE (last+1),⟨#[]⟩,⟨#[]⟩,0⟩]
def iR(first:Int)(k:Nat):List zN:=(List.range k).map fun(i:Nat)=>SD (first+(i:Int))
def dO(a:List iB):List zN:=if 0<=nE sR a 0 then [ko] else []
def zU(K:yD)(L:iH)(a:jB):List zN:=dO K.fs++(yZ L.last a++iR L.first (L.last+1-L.first).toNat)
def aPm(N:wC)(K:yD):wC:=⟨K,N.l,N.now,N.ts,N.lsn,dA,!K.dn⟩
def NA(c:iC)(N:wC):wC×Int:=
 if lH c=cA then(uP,61)
 else if ee N=cA then(N,60)
 else if bM N.l=cA then(N,21)
 else if N.l.last=999999 then(N,23)
 else if rI N.lsn N.now N.ts=⟨#[]⟩ then(N,62)
 else if (pL N.d (zU N.d N.l (rI N.lsn N.now N.ts))).2=0 then(⟨(pL N.d (zU N.d N.l (rI N.lsn N.now N.ts))).1,⟨N.l.last+1,N.l.last+1,0⟩,N.now,N.ts,N.lsn,N.deg,N.up⟩,0)
 else(aPm N (pL N.d (zU N.d N.l (rI N.lsn N.now N.ts))).1,((pL N.d (zU N.d N.l (rI N.lsn N.now N.ts))).2:Int))
theorem ML(a b:List zN):∀K:yD,pL K (a++b)=if (pL K a).2=0 then pL (pL K a).1 b else pL K a:=by induction a<;>grind [pL]
def aCg{K:yD}{b:List zN}(a:zN)(h:(pL K b).2=0):pL K (b++[a])=gF (pL K b).1 a:=by grind [pL,gF,ML]
def PO(f:Int)(k:Nat):iR f (k+1)=iR f k++[SD (f+k)]:=by simp[iR,List.range_succ]
def aLp(a:zN):Prop:=a.N.size<=maxLen/\a.tq.size<=maxLen/\a.data.size<=200000000/\a.K≠4
def VO{K:yD}{L:iH}{text:jB}(o:text.size<=200000000):∀h∈zU K L text,aLp h:=by
 intro h a;have g:∀n,(zE n).size<=maxLen:=λn=>by have:=bL n;unfold maxLen;omega
 have d:sR.size<=maxLen:=by unfold maxLen;decide
 have j:FI.size<=maxLen:=by unfold maxLen;decide
 have b:(⟨#[]⟩:jB).size<=maxLen:=Oa _;have c:(⟨#[]⟩:jB).size<=200000000:=Oa _;obtain⟨e,k,l,m,f⟩:(1:Int)≠4/\(2:Int)≠4/\(3:Int)≠4/\(5:Int)≠4/\(6:Int)≠4:=by decide
 simp only[zU,dO,yZ,iR,Ee,Md,Lb,Ed,Bf]at a;rcases a with a|(a|a|a|a|a)|⟨i,_,a⟩
 .split at a
  .simp only[Lb,Ed,Bf]at a;subst a;exact⟨d,b,c,f⟩
  cases a
 .subst a;exact⟨d,b,c,e⟩
 .subst a;exact⟨d,b,o,k⟩
 .subst a;exact⟨d,b,c,l⟩
 .subst a;exact⟨d,j,c,m⟩
 .subst a;exact⟨g _,b,c,e⟩
 subst a;exact⟨g _,b,c,f⟩
def vg:∀(d:List zN)(K:yD),JH K.fs->(∀a∈d,aLp a)->JH (pL K d).1.fs
 |[],K,h,_=>h
 |a::r,K,h,c=>by
  obtain⟨e,f,_⟩:=c a (by simp);have b:=oT h e f;simp only[pL];split;exact vg r _ b (λo g=>c o (Sb _ g));exact b
theorem aCn{K:yD}(a:zN)(h:eF K.fs K.c K.k K.cr K.fl=cA):gF K a=(⟨[],0,0,0,0,cA⟩,6):=by
 unfold gF cZ;rw[Ja (by simp[h])]
def aKu{K:yD}{L:iH}{a:jB}(h:eF K.fs K.c K.k K.cr K.fl=cA):pL K (zU K L a)=(⟨[],0,0,0,0,cA⟩,6):=by grind [eF,pL,zU,dO,yZ,aCn]
def aAc{a:List iB}{t:jB}(b:pV a):(0<=nE t a 0) ↔ dJ a t (gC t a)=dA:=by grind [pV,nE,dJ,gC,wZ,xI]
structure XV where
 x:sF
 a:mC
 c:Nat
def CU(b:List XV):List iA:=b.flatMap λy=>[pA y.a (yA y.x.B) y.c,zA y.x.bits]
def ad(a b:List XV):CU (a++b)=CU a++CU b:=by simp[CU]
def aDf(w:eA)(b:Nat)(T:Nat->Nat)(d:List XV):Prop:=∀i(h:i<yA d),sN w b T (i+1) d[i].a d[i].x.B/\yA d[i].x.B<=d[i].c
def gZ(w:eA)(b:Nat)(e:jA)(v:iA)(n:Nat)(a:List sF):Prop:=
 ∃T ys,w.ownsRow b e 2 v n (CU ys)/\ys.map (·.x)=a/\(∀g,v.ownBlock=bA g->T g=0)/\aDf w b T ys
def lv{w:eA}{B:Nat}{e:jA}{m:Nat}{a:mC}{n c:Nat}{i:List iA}(h:w.ownsRow B e m (pA a n c) n i):n<=c:=by
 obtain⟨_,j⟩|⟨g,b,d,e,_,_,f,_⟩:=h.2;omega
 cases e;exact f
def gZ.nil(w:eA)(b:Nat)(e:jA):gZ w b e (pA aA 0 0) 0 []:=
 ⟨λ_=>0,[],eA.ownsRow_nil _ _ _ _,rfl,λ_ _=>rfl,λi h=>absurd h (by simp)⟩
def gZ.row{w:eA}{b:Nat}{e:jA}{v:iA}{n:Nat}{i:List sF}(h:gZ w b e v n i):∃a c,v=pA a n c:=by
 obtain⟨_,_,h,_⟩:=h;obtain⟨rfl,rfl⟩|⟨g,d,f,rfl,_⟩:=h.2;exact ⟨aA,0,rfl⟩;exact ⟨_,_,rfl⟩
def gZ.snoc{wr w4 P:eA}{b c f k:Nat}{e:jA}{v:iA}{T:Nat->Nat}{ys:List XV}{G:List sF}{x:sF}{q:mC}{r:Nat}
(p:P.ownsRow b e 2 (pA (yB c) (k+1) f) (k+1) (CU ys++[pA q (yA x.B) r,zA x.bits]))
(D:ys.map (·.x)=G)(C:yA ys=k)(F:∀g,v.ownBlock=bA g->T g=0)(E:aDf wr b T ys)(O:b<=wr.1.size)
(A:∀g,g<wr.1.size->b<=g->v.ownBlock≠bA g->P.heap[g]?=wr.heap[g]?)(B:∀g,wr.1.size<=g->g<w4.1.size->P.heap[g]?=w4.heap[g]?)
(H:oE w4 wr.1.size q x.B)(w:yA x.B<=r)
(y:(v.ownBlock=bA c/\c<wr.1.size)\/w4.1.size<=c)(I:wr.1.size<=w4.1.size):gZ P b e (pA (yB c) (k+1) f) (k+1) (G++[x]):=by
 refine⟨λg=>if g<wr.1.size then T g else if g<w4.1.size then k+1 else 0,ys++[⟨x,q,r⟩],?_,?_,?_,?_⟩;rw[ad];exact p;rw[Ld,D];rfl
 .intro g l;simp only[iA.ownBlock,Qa]at l;subst l;obtain⟨h,M⟩|h:=y
  .simp only[Ma M];exact F _ h
  simp only[Ja (show ¬c<wr.1.size by omega),Ja (show ¬c<w4.1.size by omega)]
 intro i z;by_cases d:i<yA ys
 .rw[Ve d];exact⟨(E i d).1.keep λg l u K=>⟨A g l u (λe=>by have:=F g e;omega),by simp only[Ma l];exact K⟩,(E i d).2⟩
 have e:i=k:=by simp at z;omega
 subst e;rw[Re (by omega)];simp only[C,Nat.sub_self,Eg];refine⟨?_,w⟩;obtain h|⟨g,o,s,N,rfl,J,a,t⟩:=H;exact Ca h;have n:=aB a;have m:=B g (by omega) n;have L:∀j,P.cell? (dB g j)=w4.cell? (dB g j):=λj=>eA.cell?_of_block m;exact La ⟨g,o,s,N,rfl,by omega,by simp only[Ja (show ¬g<wr.1.size by omega),Ma n],m.trans a,λi z=>by simp only[L];exact t i z⟩
def gZ.own{w:eA}{b:Nat}{e:jA}{a:mC}{n cap:Nat}{q:List sF}(h:gZ w b e (pA a n cap) n q)(I:yA q=n):tG w b a q:=by
 obtain⟨T,m,C,v,D,y⟩:=h;have K:yA m=n:=by rw[<-I,<-v,Xa]
 obtain⟨_,M⟩|⟨g,u,o,s,E,A,_,_,J,t⟩:=C.2;exact Ca (Nb.1 (by omega));simp only[iA.slice.injEq]at s;have F:T g=0:=D g (by rw[s.1];rfl);have G:∀(l:List XV) i(p:i<yA l),(CU l)[i*2]?=bA (.slice l[i].a (yA l[i].x.B) l[i].c)/\(CU l)[i*2+1]?=bA (zA l[i].x.bits):=by
  intro l;unfold CU;induction l with
  |nil=>intro i p;exact absurd p (by simp)
  |cons x r L=>
   intro i p;cases i with
   |zero=>simp
   |succ i=>
    have:=L i (by simpa using p);simp only[Xc,Sd,Mb,Ec];refine⟨?_,?_⟩;rw[show(i+1)*2=i*2+1+1 by omega,Ga,Ga];exact this.1;rw[show(i+1)*2+1=i*2+1+1+1 by omega,Ga,Ga];exact this.2
 have z:∀j,j<n*2->w.cell? (dB g j)=(CU m)[j]?:=λj H=>by
  rw[nB.cell (show nB w g o e from A) j,<-Yd,<-t,Jb H]
 refine La ⟨g,0,o,e,T,s.1,E,A,F,λi p=>?_⟩;have k:i<yA m:=by omega
 have B:q[i]=m[i].x:=by simp only[<-v,List.getElem_map]
 obtain⟨d,f⟩:=G m i k;rw[B];refine⟨m[i].a,m[i].c,?_,?_,(y i k).1,(y i k).2⟩;rw[Ya,z _ (by omega)];exact d;rw[Ya,z _ (by omega)];exact f
def CP(t:jB):∀(a:List iB)(k:Nat),nE t a k = -1\/∃i,i<yA a/\nE t a k=(k+i:Nat)
 |[],_=>Ca rfl
 |f::r,k=>by
  rw[nE];split;exact La ⟨0,by simp,by simp⟩;rcases CP t r (k+1) with h|⟨i,b,h⟩;exact Ca h;exact La ⟨i+1,by simp;omega,by rw[h];omega⟩
def wN(a:List iB)(b c:Bool)(t:jB):jB×Bool:=
 if b=dA/\c=cA then(match (if 0<=nE t a 0 then a[(nE t a 0).toNat]? else aA) with
  |some f=>(f.data,dA)
  |none=>(kA,cA)) else(kA,cA)
def dp(a:mC)(j:Nat)(g:List iB)(c k l m:Int)(q:Bool)(t:jB)(w:eA)(h:tB w a g)(hs:xO g)(r:yA g<=maxLen)(s:pC g<=1000000000):
 Calls prog 43 #[tA #[pA a (yA g) j,zA c,zA k,zA l,zA m,qA q],oA t] w λe R=>
  e=.returned (.tuple #[oA (wN g (eF g c k l m) q t).1,qA (wN g (eF g c k l m) q t).2])/\uB w R:=by
 have n:cB (tB w a g):=h;have J:cB (xO g):=hs;have G:cB _:=r;have K:cB _:=s;unfold maxLen at r;obtain⟨L,v⟩:∃L,eF g c k l m=L:=⟨_,rfl⟩
 have I:cB _:=v;rw[v];obtain⟨z,P⟩:∃z,nE t g 0=z:=⟨_,rfl⟩
 have H:cB _:=P;have x:=λR h=>aY a j g c k l m q t R h G.o;rw[P]at x;have p:cB _:=x;by_cases N:L=cA
 .subst N;have E:cB (wN g cA q t=(kA,cA)):=by show _=_;simp[wN]
  go_enter func43,ntmps43;go_wp2_with fail;apply lC (p.o _ (n.o.z zB));intro S d;obtain⟨y,A,B,C,D,F⟩:=(rP.new w (pA a (yA g) j) (zA c) (zA k) (zA l) (zA m) (qA q) 35).z d;go_wp2_with fail;apply lC (lP I.o _ ((n.o.z zB).z d) J.o G.o K.o);intro T f;obtain⟨U,V,W,X,Y,Z⟩:=((rP.new w (pA a (yA g) j) (zA c) (zA k) (zA l) (zA m) (qA q) 35).z d).z f;have u:cB _:=vB (vB zB d) f;go_wp2;go_ret2;exact⟨by rw[E.o];rfl,u.o⟩
 obtain rfl:L=dA:=by simpa using N
 by_cases O:q=dA
 .subst O;have E:cB (wN g dA dA t=(kA,cA)):=by show _=_;simp[wN]
  go_enter func43,ntmps43;go_wp2_with fail;apply lC (p.o _ (n.o.z zB));intro S d;obtain⟨y,A,B,C,D,F⟩:=(rP.new w (pA a (yA g) j) (zA c) (zA k) (zA l) (zA m) (qA dA) 35).z d;go_wp2_with fail;apply lC (lP I.o _ ((n.o.z zB).z d) J.o G.o K.o);intro T f;obtain⟨U,V,W,X,Y,Z⟩:=((rP.new w (pA a (yA g) j) (zA c) (zA k) (zA l) (zA m) (qA dA) 35).z d).z f;have u:cB _:=vB (vB zB d) f;go_wp2;go_ret2;exact⟨by rw[E.o];rfl,u.o⟩
 obtain rfl:q=cA:=by simpa using O
 by_cases O:z<0
 .have E:cB (wN g dA cA t=(kA,cA)):=by
   show _=_;have e:¬0<=nE t g 0:=by rw[H.o];omega
   simp[wN,e]
  go_enter func43,ntmps43;go_wp2_with fail;apply lC (p.o _ (n.o.z zB));intro S d;obtain⟨y,A,B,C,D,F⟩:=(rP.new w (pA a (yA g) j) (zA c) (zA k) (zA l) (zA m) (qA cA) 35).z d;go_wp2_with fail;apply lC (lP I.o _ ((n.o.z zB).z d) J.o G.o K.o);intro T f;obtain⟨U,V,W,X,Y,Z⟩:=((rP.new w (pA a (yA g) j) (zA c) (zA k) (zA l) (zA m) (qA cA) 35).z d).z f;have u:cB _:=vB (vB zB d) f;go_wp2;go_ret2;exact⟨by rw[E.o];rfl,u.o⟩
 obtain⟨i,M,Q⟩:∃i,i<yA g/\z=(i:Nat):=by
  rcases CP t g 0 with h|⟨i,M,h⟩;rw[H.o]at h;omega;exact ⟨i,M,by rw[<-H.o,h];simp⟩
 subst Q;have E:cB (wN g dA cA t=(g[i].data,dA)):=by
  show _=_;have e:0<=nE t g 0:=by rw[H.o];omega
  have h:(nE t g 0).toNat=i:=by rw[H.o];simp
  simp[wN,e,h,Va M]
 have h:=O;go_enter func43,ntmps43;go_wp2_with fail;apply lC (p.o _ (n.o.z zB));intro S d;obtain⟨y,A,B,C,D,F⟩:=(rP.new w (pA a (yA g) j) (zA c) (zA k) (zA l) (zA m) (qA cA) 35).z d;go_wp2_with fail;apply lC (lP I.o _ ((n.o.z zB).z d) J.o G.o K.o);intro T f;obtain⟨U,V,W,X,Y,Z⟩:=((rP.new w (pA a (yA g) j) (zA c) (zA k) (zA l) (zA m) (qA cA) 35).z d).z f;have u:cB _:=vB (vB zB d) f;obtain⟨b,o,rfl,h,h,c1,c2⟩:=(((n.o.z zB).z d).z f).at M;go_wp2;go_ret2;exact⟨by rw[E.o];rfl,u.o⟩
def iX(w:eA)(P D:Nat)(L:iH):Prop:=nB w P #[.pointer (yB D),zA L.first,zA L.last,zA L.size] 67
def iX.z{w a:eA}{P D:Nat}{L:iH}(h:iX w P D L)(b:uB w a):iX a P D L:=nB.z h b
def iX.cells{w:eA}{P D:Nat}{L:iH}(h:iX w P D L):w.cell? (dB P 0)=bA (.pointer (yB D))/\w.cell? (dB P 1)=bA (zA L.first)/\w.cell? (dB P 2)=bA (zA L.last)/\w.cell? (dB P 3)=bA (zA L.size):=by
 refine⟨?_,?_,?_,?_⟩<;>rw[nB.cell h]<;>rfl
def WZ(L:iH)(w:eA):dF 227 #[tA #[zA L.first,zA L.last,zA L.size]] w (qA (bM L)):=by
 obtain⟨a,b,c⟩:=L;have f:cB (uB w (w.alloc (vA #[zA a,zA b,zA c] 37))):=zB;by_cases i:1<=a
 .by_cases j:a<=b
  .by_cases k:b<=999999
   .have e:cB (bM ⟨a,b,c⟩=bC c 0 1000000000):=by
     show _=_;have d:bC b 1 999999=dA:=by simp[bC];omega
     have h:bC a 1 b=dA:=by simp[bC];omega
     simp only[bM,d,h,Oc]
    go_enter func227,ntmps227;go_wp2_with fail;apply dR (zF _ _ _);go_wp2;go_ret;exact⟨oB e.o.symm,f.o⟩
   .have e:cB (bM ⟨a,b,c⟩=cA):=by
     show _=_;have d:bC b 1 999999=cA:=by simp[bC];omega
     simp[bM,d]
    go_enter func227,ntmps227;go_wp2;go_ret;exact⟨oB e.o.symm,f.o⟩
  have e:cB (bM ⟨a,b,c⟩=cA):=by
   show _=_;have d:bC a 1 b=cA:=by simp[bC];omega
   simp[bM,d]
  go_enter func227,ntmps227;go_wp2;go_ret;exact⟨oB e.o.symm,f.o⟩
 have e:cB (bM ⟨a,b,c⟩=cA):=by
  show _=_;have d:bC a 1 b=cA:=by simp[bC];omega
  simp[bM,d]
 go_enter func227,ntmps227;go_wp2;go_ret;exact⟨oB e.o.symm,f.o⟩
def rY(L:iH)(z a:Int):Bool:=decide (L.size≠0) &&decide (a<L.size+z)
def WT(P D:Nat)(L:iH)(z d:Int)(w:eA)(h:iX w P D L)(l:0<=L.size/\L.size<=1000000000)(n:0<=z/\z<=1000000000):
 rL 335 #[.pointer (yB P),zA z,zA d] w (qA (rY L z d)):=by
 obtain⟨g,i,j,k⟩:=h.cells;clear h g i j;obtain⟨a,b,c⟩:=L;simp only at l k;have h:IntKind.i64.wrap (c+z)=c+z:=by rw[IntKind.wrap_i64];omega
 by_cases f:c=0
 .subst f;have e:cB (rY ⟨a,b,0⟩ z d=cA):=by show _=_;simp[rY]
  go_enter func335,ntmps335;go_wp2;go_ret;exact⟨oB e.o.symm,rfl⟩
 have e:cB (rY ⟨a,b,c⟩ z d=decide (d<c+z)):=by show _=_;simp[rY,f]
 go_enter func335,ntmps335;go_wp2;go_ret;exact⟨oB (by rw[e.o];simp[f]),rfl⟩
def shV(k:Int):iA:=tA #[qA (bW k),qA (k==1),qA (aW k),qA (qW k),qA (k==1||k==2||k==3||k==4)]
def WY{k:Int}(h:1<=k/\k<=6)(w:eA):dF 148 #[zA k] w (qA dA):=by
 obtain⟨b,c⟩:=h;go_enter func148,ntmps148;go_wp2;go_ret;exact⟨rfl,iD⟩
def aGe{x:jB}(h:x.size=0):x.toList=[]:=by rw[ByteArray.toList_eq,<-Nb];simpa using h
def NX{b:Bool}{p:Prop}(h:b=cA->p):b=dA\/b=cA/\p:=by cases b;exact La ⟨rfl,h rfl⟩;exact Ca rfl
def aJa{r:gG}(a:mC)(i:Nat)(w:eA)(h:sn r):
 dF 151 #[shV r.K,tA #[zA r.K,oA r.T,oA r.R,zA r.U,pA a (yA r.P) i]] w (qA dA):=by
 obtain⟨-,j,l,o,p,-⟩:=h;obtain⟨k,C,A,B,x⟩:=r;dsimp only at *;have b:=NX j;have d:(k==1)=dA\/(k==1)=cA/\x=[]:=NX λe=>p (by simpa using e);have f:=NX l;have g:=NX o;unfold shV;generalize (k==1||k==2||k==3||k==4)=c at *;clear j l o p;generalize bW k=t at *;generalize (k==1)=s at *;generalize aW k=m at *;generalize qW k=n at *;rcases b with rfl|⟨rfl,q⟩<;>rcases d with rfl|⟨rfl,rfl⟩<;>rcases f with rfl|⟨rfl,u⟩<;>obtain rfl|⟨rfl,rfl⟩:=g
 all_goals
  (try have y:=aGe q);(try have z:=aGe u);go_enter func151,ntmps151;go_wp2;go_ret;exact⟨rfl,vB zB zB⟩
def aJt(w:eA):PredBelow prog 217 #[] (λx=>tA (jR x).toArray) (λx:dC=>decide ((x.N.size:Int) > 255)) w:=λW x a=>by
 show Calls prog 217 #[tA #[oA x.N,oA x.V]] W _;go_enter func217,ntmps217;go_wp2;go_ret;exact⟨rfl,a.alloc a.size _⟩
def aAk(a:mC)(c:Nat)(d:iA)(w:eA):dF 265 #[pA a 0 c,d] w (zA (-1)):=by
 go_enter func265,ntmps265;go_wp2;go_loopw [5,8] (λ_ i wr=>i=zA 0/\uB w wr) (λ_ _ _=>0)
 case atStart=>exact⟨rfl,iD⟩
 case round=>
  obtain⟨rfl,b⟩:=hrel;go_wp2;go_ret;exact⟨rfl,b⟩
def aEa(a:mC)(c:Nat)(d:iA)(w:eA):dF 216 #[pA a 0 c,d] w (qA cA):=by
 have h:cB (∀W,dF 265 #[pA a 0 c,d] W (zA (-1))):=λW=>aAk a c d W;go_enter func216,ntmps216;go_wp2_with fail;apply lC (h.o _);intro i b;have g:=bB b;clear b;go_wp2;go_ret;exact⟨rfl,g.o⟩
def aDz(a:mC)(c:Nat)(g:List dC)(w:eA)(p:sD w a g)(r:yA g<=2000000):
 dF 216 #[pA a (yA g) c,.func (.func 217) #[] #[]] w (qA (g.any λx=>decide ((x.N.size:Int) > 255))):=by
 obtain rfl|⟨b,o,rfl,k,h⟩:=p;exact aEa a c _ w;have n:∀args w,(callFunc 217 args).run prog w=.ok (.enter 217 args) w:=enters_of func217 (by kernel_rfl) rfl;haveI:=aJn
 have d:=AnyQ.slices_ContainsFunc contL 2 isAgg181 sizeOf181 jR (λ_=>rfl) (λx:dC=>decide ((x.N.size:Int) > 255)) 217 #[] n b o (yA g) c g w (aJt w) (Ia _) (by omega) k (λj m i v f=>by
  have l:=h j m;have e:g[j]! = g[j]:=getElem!_pos g j m;rw[e]at f;match i,f with
  |0,f=>simp[jR]at f;rw[<-f];exact l.1
  |1,f=>simp[jR]at f;rw[<-f];exact l.2
  |i+2,f=>simp[jR]at f)
 change Calls prog 216 _ _ _ at d;rw[Rb]at d;exact d
def ZO(r:gG)(a:mC)(j:Nat)(w:eA)(m:pJ w a r.P)(h:sn r):
 dF 152 #[tA #[zA r.K,oA r.T,oA r.R,zA r.U,pA a (yA r.P) j]] w (qA dA):=by
 obtain⟨-,-,-,-,-,E,-,F,g⟩:=h;have t:=bB m;have u:=bB g;clear m g;go_enter func152,ntmps152;go_wp2;go_loopw [4,18] (λ_ i wr=>∃k:Nat,k<=yA r.P/\i=zA k/\uB w wr) (λ_ i _=>yA r.P-(intOf i).toNat)
 case atStart=>exact⟨0,Oa _,rfl,zB⟩
 case round=>
  obtain⟨k,H,rfl,c⟩:=hrel;by_cases f:k<yA r.P
  .obtain ⟨b,o,v,B,rfl,G,D,y,p⟩:=(t.o.z c).at f;obtain⟨I,n⟩:=u.o k f;have l:=bB (λW(z:uB wr W)=>aDz v B _ W (p.z z) (by omega));rw[List.any_eq_false.2 λx g=>by
    obtain⟨i,A,rfl⟩:=List.mem_iff_getElem.1 g;have:=(n i A).1;simp;omega]at l
   have s:=bB c;clear p n c;go_wp2_with fail;apply lC (l.o _ zB);intro J d;have q:=bB (vB (vB s.o zB) d);clear d;go_wp2;exact⟨⟨k+1,by omega,by go_num,q.o⟩,by simp[intOf];omega⟩
  .go_wp2;go_ret;exact⟨rfl,c⟩
def ed(r:gG)(a:mC)(q:Nat)(w:eA)(t:pJ w a r.P)(U:IK r<=1048576):
 dF 153 #[tA #[zA r.K,oA r.T,oA r.R,zA r.U,pA a (yA r.P) q]] w (zA ((r.T.size+r.R.size+mQ r.P:Nat):Int)):=by
 have H:IK r=r.T.size+r.R.size+yA r.P+yF r.P:=rfl;have K:=aLg r.P;have x:cB (pJ w a r.P):=t;clear t;go_enter func153,ntmps153;go_wp2;go_loopw [3,5,7,18,25] (λz _ _ i _ wr=>∃k:Nat,k<=yA r.P/\i=zA k/\z=zA ((r.T.size+r.R.size+mQ (r.P.take k):Nat):Int)/\uB w wr) (λ_ _ _ i _ _=>yA r.P-(intOf i).toNat)
 case atStart=>exact⟨0,Oa _,rfl,by simp[mQ],zB⟩
 case round=>
  obtain⟨k,S,rfl,rfl,d⟩:=hrel;by_cases l:k<yA r.P
  .obtain ⟨b,o,B,X,rfl,R,O,C,u⟩:=(x.o.z d).at l;have p:=aCr r.P k l;have I:mQ (r.P.take (k+1))<=mQ r.P:=by
    have e:=MX (r.P.take (k+1)) (r.P.drop (k+1));rw[Za]at e;omega
   have F:=SU r.P k l;have E:tJ r.P[k]=yA r.P[k].B+bE r.P[k].B:=rfl;have y:cB (∀W,uB wr W->sD W B r.P[k].B):=λW h=>u.z h;have n:cB (mQ (r.P.take (k+1))=mQ (r.P.take k)+bE r.P[k].B):=p;clear u p;rename eA=>v;generalize r.P[k].B=g at *;generalize mQ (r.P.take k)=A at *;generalize r.P[k].bits=N at *;go_wp2;go_loopw [3,7,25] (λz _ j wr=>∃m:Nat,m<=yA g/\j=zA m/\z=zA ((r.T.size+r.R.size+A+bE (g.take m):Nat):Int)/\uB v wr) (λ_ _ j _=>yA g-(intOf j).toNat)
   case atStart=>exact⟨0,Oa _,rfl,by simp[bE],zB⟩
   case round=>
    obtain⟨m,T,rfl,rfl,c⟩:=hrel;by_cases f:m<yA g
    .obtain ⟨M,V,rfl,D,P,Q⟩:=(y.o _ c).at f;have s:=cV g m f;have G:=xR g (m+1);go_wp2;refine⟨⟨m+1,by omega,by go_num,?_,vB c zB⟩,by simp[intOf];omega⟩;refine Kd (iA.int .i64) ?_;have J:=n.o;rw[s];unfold wrap64;omega
    have e:g.take m=g:=Ra (by omega);rw[e];go_wp2;refine⟨⟨k+1,by omega,by go_num,?_,vB d c⟩,by simp[intOf];omega⟩;refine Kd (iA.int .i64) ?_;rw[n.o];omega
  .have e:r.P.take k=r.P:=Ra (by omega);rw[e];go_wp2;go_ret;exact⟨rfl,d⟩
def AR(a:List dC):List jB:=a.flatMap λl=>[aN l.N,aG l.V]
def ld(a:List dC)(k:Nat)(h:k<yA a):AR (a.take (k+1))=AR (a.take k)++[aN a[k].N,aG a[k].V]:=by
 unfold AR;rw[Pa h,He];rfl
def PC:∀(a:List dC),xF (AR a)=mD a
 |[]=>rfl
 |l::r=>by
  have e:AR (l::r)=[aN l.N,aG l.V]++AR r:=rfl;rw[e,lG,PC r,mD];simp[xF]
def qr(a:mC)(Z:Nat)(c:List dC)(w:eA)(hf:sD w a c)(hB:sU c)(hlen:yA c<=255):
 dF 219 #[pA a (yA c) Z] w (oA (uH c)):=by
 have HF:cB (sD w a c):=hf;have HB:cB (sU c):=hB;have HU:cB (∀W,dF 26 #[lA mA (yA c:Nat)] W (oA (pB 1 (yA c:Nat)))):=λW=>EE (yA c) W;have hz1:=gB 1 (yA c:Nat);have V:cB (uH c=pB 1 (yA c:Nat)++mD c):=rfl;generalize pB 1 (yA c:Nat)=Y at *;obtain⟨ti,O,g0,h0,i0⟩:=lW;have HI:cB (prog.info? 9=bA ti):=O;clear hf hB O;go_enter func219,ntmps219;go_wp2_with fail;apply lC (HU.o _);intro Q r;have B1:cB (uB w Q):=r;have e0:w.1.size<=Q.1.size:=r.size;clear r;go_wp2;go_loopw [3,5,12] (λk0 _ i wr=>∃(k:Nat)(f:List jB)(g C:Nat),k<=yA c/\i=lA mA k/\k0=pA (bA ⟨g,0,aA⟩) (yA f) C/\yA f<=1+2*k/\fG f<=1+k*3000000000/\cB (f=Y::AR (c.take k))/\cB (wr.ownsRow w.1.size 9 1 (pA (bA ⟨g,0,aA⟩) (yA f) C) (yA f) (f.map iA.string))/\uB w wr) (λ_ _ i _=>yA c-(intOf i).toNat)
 case atStart=>
  exact⟨0,[Y],_,_,Oa _,rfl,rfl,by simp,by simp[fG];omega,rfl,⟨rfl,La ⟨Q.1.size,1,_,rfl,e0,heap_alloc_new _ _,Ia _,by simp[maxLen],rfl,rfl⟩⟩,vB B1.o zB⟩
 case round=>
  obtain⟨k,f,g,C,hk,rfl,rfl,hpl,hps,I,j,n⟩:=hrel;by_cases E:k<yA c
  .obtain ⟨b,o,rfl,hb,c0,c1⟩:=(HF.o.z n).at E;obtain⟨b0,d0⟩:=HB.o k E;have X:cB (∀W,dF 218 #[oA c[k].N] W (oA (aN c[k].N))):=λW=>sT c[k].N W b0;have J:cB (∀W,dF 168 #[oA c[k].V] W (oA (aG c[k].V))):=λW=>vL c[k].V W d0;have hz8:=rF c[k].N;have hz16:=iF c[k].V;have HT:=ld c k E;have U:cB (f++[aN c[k].N,aG c[k].V]=Y::AR (c.take (k+1))):=by show _=_;rw[HT,I.o];rfl
   clear HT;generalize aN c[k].N=q at *;generalize aG c[k].V=h at *;generalize c[k].N=F at *;generalize c[k].V=G at *;have s:cB (nB (wr.alloc (vA #[oA F,oA G] 181)) wr.1.size #[oA F,oA G] 181/\uB wr (wr.alloc (vA #[oA F,oA G] 181))):=⟨heap_alloc_new _ _,zB⟩
   have B:cB ((wr.alloc (vA #[oA F,oA G] 181)).ownsRow w.1.size 9 1 (pA (bA ⟨g,0,aA⟩) (yA f) C) (yA f) (f.map iA.string)/\uB w (wr.alloc (vA #[oA F,oA G] 181))):=⟨hC j.o zB,vB n zB⟩
   go_wp2_with fail;generalize wr.alloc (vA #[oA F,oA G] 181)=W at *;have S:=s.o.1.cell 0;have T:=s.o.1.cell 1;simp only[Xb,Ob,Ga]at S T;have l:wr.1.size<W.1.size:=aB s.o.1;have j0:w.1.size<=W.1.size:=B.o.2.size;have hgB:g<wr.1.size:=(bH j.o).2.1;clear j s hb c0 c1 n;generalize wr.1.size=v at *;clear wr;go_region_held3 (λp=>p.cell? ⟨v,0,aA⟩=bA (oA F)/\p.cell? ⟨v,1,aA⟩=bA (oA G))
    (first
     |go_keep
     |exact⟨z.trans S,A.trans T⟩
     |exact⟨((d.alloc d.size _).cell l).trans S,((d.alloc d.size _).cell l).trans T⟩
     |exact⟨(d.cell l).trans S,(d.cell l).trans T⟩
     |exact⟨(u.cell l).trans S,(u.cell l).trans T⟩)
    ((first
      |(go_at_call 218;apply lC (X.o _);intro Q r;have u:uB W Q:=(Below.refl _ W).drew.trans r)
      |(go_at_call 168;apply lC (J.o _);intro w2 t;have d:uB W w2:=u.trans (t.mono u.size))
      |(refine iJ _ (by rfl) _ _ _ (by rfl) w.1.size 9 ti _ 1 16 underlying30 HI.o g0 h0 i0 rfl (by omega) g (yA f) C _ (by rfl) (by exact hC (hC B.o.1 d) zB) _ 2 2 [oA q,oA h] (by rfl) rfl (by exact La ⟨_,rfl,eA.news_of_block (cs:=#[oA q,oA h]) (heap_alloc_new _ _)⟩) (by simp[iA.oneCell']) (by simp[maxLen];omega) (by omega) (by have:=d.size;simp;omega) ?_;intro g5 x R m K D hg5 L hlt5;have z:R.cell? ⟨v,0,aA⟩=W.cell? ⟨v,0,aA⟩:=(eA.cell?_of_block (D v (by have:=d.size;simp;omega) (by omega))).trans ((d.alloc d.size _).cell l);have A:R.cell? ⟨v,1,aA⟩=W.cell? ⟨v,1,aA⟩:=(eA.cell?_of_block (D v (by have:=d.size;simp;omega) (by omega))).trans ((d.alloc d.size _).cell l);have y:uB w R:=((vB B.o.2 d).alloc (Ua j0 d.size) _).trans K)))
   have P:f.map iA.string++[iA.string q,oA h]=(f++[q,h]).map iA.string:=by simp
   have N:yA (f++[q,h])=yA f+2:=by simp
   have hsm:fG (f++[q,h])=fG f+(q.size+h.size):=by rw[rH];simp[fG]
   rw[P,<-N]at m;rw[<-N];have H:cB (R.ownsRow w.1.size 9 1 (.slice (bA ⟨g5,0,aA⟩) (yA (f++[q,h])) x) (yA (f++[q,h])) ((f++[q,h]).map iA.string)/\uB w R):=⟨m,y⟩
   clear m K y D L z A P;generalize f++[q,h]=l0 at *;go_wp2;exact⟨⟨k+1,l0,g5,x,by omega,by go_num,rfl,by omega,by omega,U.o,H.o.1,H.o.2⟩,by simp[intOf];omega⟩
  have U:cB (xF f=uH c):=by
   show _=_;rw[I.o,Ra (by omega),xF,PC,V.o]
  obtain⟨a0,hg,M⟩:=bH j.o;have HJ:cB (dF 160 #[pA (bA ⟨g,0,aA⟩) (yA f) C] wr (oA (xF f))):=uI g (yA f) C f wr rfl M hg a0 (by omega) (by omega);rw[U.o]at HJ;clear j M;go_wp2_with fail;apply lC HJ.o;intro w2 t;have B2:cB (uB w w2):=vB n t;clear t;go_wp2;go_ret;exact⟨rfl,B2.o⟩
