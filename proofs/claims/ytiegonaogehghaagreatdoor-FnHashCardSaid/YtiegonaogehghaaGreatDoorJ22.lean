import Derived.Deep.WholeRow
import Derived.Test.YtiegonaogehghaaGreatDoorJ21
set_option maxRecDepth 100000
set_option maxHeartbeats 4000000
set_option linter.defProp false
open Option renaming some->bA,none->aA
open Bool renaming true->dA,false->cA
open ByteArray renaming empty->kA
open List renaming length->yA
namespace Go.Proofs.YtiegonaogehghaaGreatDoor
open Go renaming World->eA,TypeId->jA,Value->iA
open IntKind renaming i64->mA
open Value renaming string->oA,slice->pA,int->lA,agg->tA,bool->qA
open Obj renaming cells->vA
open Go.RowKit Tryz
section
open Go.Maps
def MI(w:eA):(zeroValue 3).run prog w=.ok (zA 0) w:=by kernel_rfl
def yC{H:Type}{P:Program}{w:eA}{k:jA}{R:iA->Option (DataW H×List MemPlace)}{b n g:Nat}{D:DataW H}{c:Array iA}{t:jA}(h:w.ownsMap P k R b n D)(d:gB w g c t):b≠g:=by
 intro e;subst e;obtain⟨i,a,f,_⟩:=h;rw[gB,f]at d;simp at d
def sG{H:Type}{P:Program}{w:eA}{k:jA}{R:iA->Option (DataW H×List MemPlace)}{b n:Nat}{D:DataW H}{B:Nat}{e:jA}{a:Nat}{v:iA}{m:Nat}{j:List iA}(h:w.ownsMap P k R b n D)(i:w.ownsRow B e a v m j):v.ownBlock≠bA b:=by
 intro c;obtain⟨rfl,_⟩|⟨l,d,f,rfl,_,g,_⟩:=i.2
 .cases c
 simp only[iA.ownBlock,Qa]at c;subst c;exact yC h g rfl
def nR.newLims{w f:eA}{S:Nat->Prop}{x:Nat}{t:fB}{M c m i n:Nat}{l:iA}{Q:List (iB×Nat)}{k:List mI}{D E:DataW Unit}{d:List iB}(h:nR w S x t M c m i l Q k D)(b:eB (·=c) w f)
(a:f.ownsMap prog 9 (plainElem prog 3) c n E)(o:E=aE (d.map λp=>(p.s,qI p.n)))(u:sC (·.s) d):mD f S x { t with M:=d} M:=by
 subst o;refine⟨c,m,i,l,Q,k,D,?_⟩;exact { h with
  blk:=b.blk h.blk (yC h.lims h.blk).symm
  lims:=by have:=RF a;rw[kM]at this;exact this
  Z:=b.map h.Z h.d1.symm
  cnts:=b.map h.cnts h.d2.symm
  cells:=λq j=>b.blk (h.cells q j) (yC h.lims (h.cells q j)).symm
  row:=b.row h.row (λg r e=>by subst e;exact sG h.lims h.row r)
  rm:=u}
def aGc{w w2 G N:eA}{S:Nat->Prop}{x:Nat}{t:fB}{M W L F:Nat}{O:iA}{Q:List (iB×Nat)}{z:List mI}{D:DataW Unit}{key:nB}{j c:Int}{g A:Nat}(h:nR w S x t M W L F O Q z D)(y:xC (·.s) key t.Z=aA)
(d:eB (λk=>k=L\/k=F) w G)(J:w2.ownsMap prog 9 nE L (yA Q+1) (DataW.put (aE (Q.map λq=>(q.1.s,fF q.2))) (kL key) (fF w.1.size)))(i:eB (·=F) w2 G)
(K:G.ownsMap prog 9 (plainElem prog 3) F (M+1) (D.put (kL (wD key)) (.lit (.int mA (c+1)))))(b:gB G w.1.size #[oA key,zA j] 58)(hc:c=(oI wD t.Z (wD key):Nat))
(P:gB N x (#[zA t.L,.map (bA W),.map (bA L),.map (bA F),O].setIfInBounds 4 (pA (pB g) (yA z+1) A)) 192)
(U:N.ownsRow 0 334 2 (pA (pB g) (yA z+1) A) (yA z+1) (jK (lR z ⟨w.1.size,j⟩)))(v:O.ownBlock=bA g\/G.1.size<=g)(f:eB (λk=>k=x\/O.ownBlock=bA k) G N):
 mD N (λg=>S g\/w.1.size<=g) x { t with Z:=cC (·.s) ⟨key,j⟩ t.Z} (M+1)/\eB S w N:=by
 have m:=aB h.blk;have m:=aB b;have m:=yC h.Z h.blk;have O:=yC h.cnts h.blk;have a0:=yC h.lims h.blk;have X:=sG h.lims h.row;have Y:=sG h.Z h.row;have Z:=sG h.cnts h.row;have u:=λq l=>aB (h.cells q l);have C:xC (λq:iB×Nat=>q.1.s) key Q=aA:=by
  have:=fV (key:=λq:iB×Nat=>q.1.s) (key':=λp:iB=>p.s) (λq=>q.1) (λ_=>rfl) key Q;rw[h.q1,y]at this;cases hg:xC (λq:iB×Nat=>q.1.s) key Q with
  |none=>rfl
  |some q=>rw[hg]at this;cases this
 have E:=IA (key:=λq:iB×Nat=>q.1.s) (a:=((⟨key,j⟩:iB),w.1.size)) C;have R:=IA (key:=λp:iB=>p.s) (a:=(⟨key,j⟩:iB)) y;have H:yA (cC (λq:iB×Nat=>q.1.s) ((⟨key,j⟩:iB),w.1.size) Q)=yA Q+1:=by rw[E.length_eq];rfl
 have V:sC (λq:iB×Nat=>q.1.s) Q:=by
  rw[<-xW (key':=λp:iB=>p.s) (λq:iB×Nat=>q.1) (λ_=>rfl),h.q1];exact h.rs
 obtain⟨ph,G,pl⟩:=CM h.heap ⟨w.1.size,j⟩;have I:DataW.put (aE (Q.map λq=>(q.1.s,fF q.2))) (kL key) (fF w.1.size)=aE ((cC (λq:iB×Nat=>q.1.s) ((⟨key,j⟩:iB),w.1.size) Q).map λq=>(q.1.s,fF q.2)):=
  IM (key:=λq:iB×Nat=>q.1.s) (λq=>fF q.2) ((⟨key,j⟩:iB),w.1.size) V
 have n:∀q,q∈cC (λq:iB×Nat=>q.1.s) ((⟨key,j⟩:iB),w.1.size) Q->q=((⟨key,j⟩:iB),w.1.size)\/q∈Q:=λq l=>sK l;have B:∀s∈z,∃q∈Q,q.2=s.b:=λs o=>by
  have:=(h.perm.mem_iff (a:=s.b)).1 (Md.2 ⟨s,o,rfl⟩);obtain⟨q,l,e⟩:=Md.1 this;exact⟨q,l,e⟩
 refine⟨⟨W,L,F,pA (pB g) (yA z+1) A,cC (λq:iB×Nat=>q.1.s) ((⟨key,j⟩:iB),w.1.size) Q,lR z ⟨w.1.size,j⟩,D.put (kL (wD key)) (.lit (.int mA (c+1))),?_⟩,?_⟩
 .exact {
   blk:=P
   lims:=f.map (d.map h.lims (λe=>by obtain e|e:=e;exact h.d1 e;exact h.d2 e)) (λe=>by obtain e|e:=e;exact a0 e;exact X e)
   Z:=by
    rw[<-I,H];exact f.map (i.map J h.d3) (λe=>by obtain e|e:=e;exact m e;exact Y e)
   cnts:=f.map K (λe=>by obtain e|e:=e;exact O e;exact Z e)
   cnt:=λm=>by
    rw[TW R m,TU];by_cases e:wD key=m
    .rw[Ma e,<-e,atKey_put_same (k:=kL (wD key)) h.cnts.isMap trivial,hc];rfl
    rw[Ja e,atKey_put_other (λI=>e (aDg I).symm),h.cnt m];rfl
   q1:=by
    rw[wR (key':=λp:iB=>p.s) (λq:iB×Nat=>q.1) (λ_=>rfl),h.q1]
   cells:=λq l=>by
    rcases n q l with rfl|l;exact f.blk b (λe=>by obtain e|e:=e;simp only at e;omega;have:=pt h.row _ e;simp only at this;omega);exact f.blk (d.blk (h.cells q l) (λe=>by obtain e|e:=e;exact yC h.Z (h.cells q l) e.symm;exact yC h.cnts (h.cells q l) e.symm)) (λe=>by obtain e|e:=e;exact h.dx q l e;exact(h.di _ e).2 q l rfl)
   row:=by rw[pl];exact U
   heap:=ph
   perm:=by
    refine(G.map _).trans ?_;refine List.Perm.trans ?_ (E.map _).symm;exact List.Perm.cons _ h.perm
   early:=λs o q l e=>by
    rcases Lb.1 ((G.mem_iff).1 o) with rfl|o
    .rcases n q l with rfl|l
     .exact Xd _
     have:=u q l;simp only at e;omega
    rcases n q l with rfl|l;obtain ⟨b,T,I⟩:=B s o;have:=u b T;simp only at e;omega;exact h.early s o q l e
   rm:=h.rm
   rs:=dK h.rs
   sx:=Ca h.sx
   sl:=Ca h.sl
   ss:=Ca h.ss
   sc:=Ca h.sc
   sq:=λq l=>by
    rcases n q l with rfl|l;exact La (Ia _);exact Ca (h.sq q l)
   si:=λb r=>by
    simp only[iA.ownBlock,Qa]at r;subst r;obtain e|e:=v;exact Ca (h.si g e);exact La (by have:=d.size;omega)
   d1:=h.d1
   d2:=h.d2
   d3:=h.d3
   nd:=by
    rw[(E.map _).nodup_iff,Fc,List.nodup_cons];refine⟨λm=>?_,h.nd⟩;obtain⟨q,l,e⟩:=Md.1 m;have:=u q l;simp only at e;omega
   dx:=λq l=>by
    rcases n q l with rfl|l;simp only;omega;exact h.dx q l
   di:=λb r=>by
    simp only[iA.ownBlock,Qa]at r;subst r;obtain e|e:=v
    .refine ⟨(h.di g e).1,λq l=>?_⟩;rcases n q l with rfl|l
     .have:=pt h.row g e;simp only;omega
     exact (h.di g e).2 q l
    refine ⟨by omega,λq l=>?_⟩;rcases n q l with rfl|l;simp only;omega;have:=u q l;omega}
 refine (d.mono λk _ e=>by obtain rfl|rfl:=e;exact h.ss;exact h.sc).trans (f.mono λk _ e=>?_);obtain rfl|e:=e;exact Ca h.sx;exact Ca (h.si _ e)
def qw(x:Nat)(t:fB)(key:nB)(l:Int)(S:Nat->Prop)(M:Nat)(w:eA)(h:mD w S x t M)(O:xC (·.s) key t.Z=aA)(hk:key.size<=maxLen)(hm:(wD key).size<=maxLen)(hM:M<=1000000000)(hl:yA t.Z<=1000000000):
 Calls prog 212 #[.pointer (bA ⟨x,0,aA⟩),oA key,oA (wD key),lA mA l] w λe G=>e=.returned (.tuple #[])/\mD G (λg=>S g\/w.1.size<=g) x { t with Z:=cC (·.s) ⟨key,l⟩ t.Z} (M+1)/\eB S w G:=by
 obtain⟨lm,V,I,Z,Q,F,D,h⟩:=h;have HK:bB _:=wM hk;have HM:bB _:=wM hm;have hQ:yA Q=yA t.Z:=by rw[<-h.q1,Xa]
 have hH:yA F=yA Q:=by have:=h.perm.length_eq;simpa using this
 have HI:bB _:=h;obtain⟨X,n⟩:∃W,W=w.alloc (vA #[oA key,lA mA l] 58):=⟨_,rfl⟩
 have d:eB (λ_=>False) w X:=by rw[n];exact eB.of yB
 have b1:gB X w.1.size #[oA key,lA mA l] 58:=by rw[n];exact gB.new _ _ _
 obtain⟨Y,U,z,J⟩:=(d.map h.Z (λe=>e)).update qL underlying185 (by unfold maxLen;omega) HK.o (wW w.1.size);have j:eB (·=V) X Y:=(eB.grown J).mono λi _ e=>by simp only[Qa]at e;exact e.symm
 have a:=(d.mono λ_ _ e=>e.elim).trans' j;have m:=a.map h.cnts (Ne.symm h.d3);obtain⟨c,runL,L,d0⟩:=m.lookup_int qL underlying187 underlying3 (MI _) HM.o;have hc:c=(oI wD t.Z (wD key):Nat):=by
  have:=h.cnt (wD key);unfold qI at this;rw[L]at this;simpa using this
 have c0:=XK wD t.Z (wD key);have hcl:0<=c:=by omega
 have hcu:c<=1000000000:=by omega
 obtain⟨C,run3,A,K⟩:=m.update qL underlying187 (by unfold maxLen;omega) (val:=lA mA (c+1)) HM.o (plainElem_int underlying3 (WalkArith.wf_i64 (by omega)));have f:eB (·=I) Y C:=(eB.grown K).mono λi _ e=>by simp only[Qa]at e;exact e.symm
 have b:=(a.mono λ_ _ e=>Ca e).trans' (f.mono λ_ _ e=>La e);have T:=yC h.Z h.blk;have e0:=yC h.cnts h.blk;have r:gB X x _ _:=d.blk h.blk (λe=>e);have u:gB Y x _ _:=a.blk h.blk T.symm;have v:gB C x _ _:=b.blk h.blk (λe=>by obtain e|e:=e;exact T e.symm;exact e0 e.symm);have B:=b.row h.row (λg hg e=>by obtain rfl|rfl:=e;exact sG h.Z h.row hg;exact sG h.cnts h.row hg);have c1:tC X x 2 (.map (bA V)):=r.cell 2;have c2:tC Y x 3 (.map (bA I)):=u.cell 3;have HP:bB (Calls prog 262 #[.pointer (bA ⟨x,4,aA⟩),tA #[.pointer (bA ⟨w.1.size,0,aA⟩),lA mA l]] C λe G=>e=.returned (.tuple #[])/\∃g E,gB G x (#[lA mA t.L,.map (bA lm),.map (bA V),.map (bA I),Z].setIfInBounds 4 (pA (bA ⟨g,0,aA⟩) (yA F+1) E)) 192/\
  G.ownsRow 0 334 2 (pA (bA ⟨g,0,aA⟩) (yA F+1) E) (yA F+1) (jK (lR F ⟨w.1.size,l⟩))/\(Z.ownBlock=bA g\/C.1.size<=g)/\eB (λk=>k=x\/Z.ownBlock=bA k) C G):=
  im x 4 0 Z F ⟨w.1.size,l⟩ C _ _ v rfl B (λe=>(h.di x e).1 rfl) (Oa _) (by omega)
 have H:bB _:=b;have o:bB (Y.ownsMap prog 9 nE V (yA Q+1) (DataW.put (aE (Q.map λq=>(q.1.s,fF q.2))) (kL key) (fF w.1.size))):=z;have p:bB (C.ownsMap prog 9 (plainElem prog 3) I (M+1) (D.put (kL (wD key)) (.lit (.int mA (c+1))))):=A;have T3:bB _:=f;have B3:bB (gB C w.1.size #[oA key,lA mA l] 58):=((j.mono (S':=λk=>k=V\/k=I) λ_ _ e=>Ca e).trans' (f.mono λ_ _ e=>La e)).blk b1 (λe=>by have:=h.Z.lt;have:=h.cnts.lt;rcases e with e|e<;>omega);have a0:bB _:=hc;rw[n]at U c1;clear h hk hm n d b1 z J j a m L d0 hc c0 A K f b r u v B;go_enter func212,ntmps212;go_wp2_with fail;apply hC HP.o;rintro w4 ⟨g,E,N,P,y,R⟩;have HF:=aGc HI.o O H.o o.o T3.o p.o B3.o a0.o N P y R;clear HP HI H o T3 p B3 N P y R;have b0:bB _:=cB HF;clear HF;go_wp2;go_end0;exact⟨rfl,b0.o⟩
end
structure C14(cs:Array Value):Prop where
 size:cs.size=14
 one:cs.all (·.oneCell')=dA
def uG(a b:jC)(c d:Nat)(N:pC):C14 (dC a c b d N):=⟨rfl,by simp[dC,iA.oneCell']⟩
def oK(W:eA)(X:Nat):Prop:=∃a T,gB W X a T/\a.size=14
def gB.box{W:eA}{X:Nat}{cs:Array iA}{T:jA}(h:gB W X cs T)(a:cs.size=14):oK W X:=⟨cs,T,h,a⟩
def lE(a:jC)(e:Nat)(b:jC)(f:Nat)(N:pC):#[pA a (yA N.d.fs) e,zA N.d.c,zA N.d.k,zA N.d.cr,zA N.d.fl,qA N.d.dn,zA N.l.first,zA N.l.last,zA N.l.size,zA N.now,pA b (yA N.ts) f,zA N.lsn,qA N.deg,qA N.up]=dC a e b f N:=rfl
def yK:#[pA aA 0 0,zA 0,zA 0,zA 0,zA 0,qA cA,zA 0,zA 0,zA 0,zA 0,pA aA 0 0,zA 0,qA cA,qA cA]=dC aA 0 aA 0 xK:=rfl
def wF(a b:jC)(c d:Nat)(N:pC):(dC a c b d N).size=14:=rfl
def eF(a:jC)(e:Nat)(b:jC)(f:Nat)(N:pC)(T:jA):∀W X,gB W X (dC a e b f N) T->W.cell? (dB X 0)=bA (pA a (yA N.d.fs) e)/\W.cell? (dB X 1)=bA (zA N.d.c)/\W.cell? (dB X 2)=bA (zA N.d.k)/\W.cell? (dB X 3)=bA (zA N.d.cr)/\W.cell? (dB X 4)=bA (zA N.d.fl)/\W.cell? (dB X 5)=bA (qA N.d.dn)/\W.cell? (dB X 6)=bA (zA N.l.first)/\W.cell? (dB X 7)=bA (zA N.l.last)/\W.cell? (dB X 8)=bA (zA N.l.size)/\W.cell? (dB X 9)=bA (zA N.now)/\W.cell? (dB X 10)=bA (pA b (yA N.ts) f)/\W.cell? (dB X 11)=bA (zA N.lsn)/\W.cell? (dB X 12)=bA (qA N.deg)/\W.cell? (dB X 13)=bA (qA N.up):=λ_ _ h=>h.n14
def fK{W:eA}{X:Nat}{cs:Array iA}(h:oK W X)(a:C14 cs):(storeCells (dB X 0) cs.toList 0).run prog W=.ok () (W.setRow X cs):=by
 obtain⟨e,T,d,b⟩:=h;have:=run_storeCells_from (P:=prog) X T cs.toList 0 e W d (by simp[b,a.size]) (λv c=>(Array.all_eq_true_iff_forall_mem.1 a.one) v (by simpa using c));simpa using this
def gB.drewI{W:eA}{X:Nat}{cs:Array iA}{T:jA}:gB W.drew X cs T ↔ gB W X cs T:=Iff.rfl
def oK.drewI{W:eA}{X:Nat}:oK W.drew X ↔ oK W X:=Iff.rfl
def oK.new(w:eA)(a b:jC)(ca c:Nat)(N:pC)(T:jA):oK (w.alloc (vA (dC a ca b c N) T)) w.1.size:=(gB.new w _ T).box rfl
def oK.alloc{W:eA}{X:Nat}(h:oK W X)(o:Obj):oK (W.alloc o) X:=by
 obtain⟨c,T,b,a⟩:=h;exact⟨c,T,b.alloc o,a⟩
def oK.alloc2{W:eA}{X:Nat}(h:oK W X)(o a:Obj):oK ((W.alloc o).alloc a) X:=(h.alloc o).alloc a
def gB.row{W:eA}{X:Nat}{a cs:Array iA}{T:jA}(h:gB W X a T):gB (W.setRow X cs) X cs T:=setRow_heap _ _ _ _ _ _ h
def lG(W:eA)(X:Nat)(cs:Array iA):eB (·=X) W (W.setRow X cs):=⟨rfl,rfl,rfl,by simp,λk _ a=>setRow_other _ _ _ _ a⟩
def jU{C:eA->Prop}{w:eA}{X:Nat}{a cs:Array iA}{T:jA}(h:gB w X a T)(k:∀W,gB W X cs T->eB (·=X) w W->C W):C (w.setRow X cs):=k _ h.row (lG _ _ _)
def qP{a:List jB}(c:∀f∈a,nO f=dA)(d:xU a):bI a=dA:=by
 simp only[bI,tS,Ke,Xg];intro i b;unfold lT;rw[Va b];simp only[c _ (Gb b),Oc];cases i with
 |zero=>rfl
 |succ j=>
  simp only[Va (show j<yA a by omega)];exact d j (j+1) (by omega) b
def EB{a:List jB}(h:bI a=dA):∀f∈a,nO f=dA:=by
 intro f c;obtain⟨i,b,rfl⟩:=Ib c;simp only[bI,tS,Ke,Xg]at h;have:=h i b;unfold lT at this;rw[Va b]at this;simp only[Sa]at this;exact this.1
def ltF(a b:jB):Prop:=Op.bytesLess a.N.toList b.N.toList=dA
def bs{c:List jB}:xU c ↔ c.Pairwise ltF:=by
 rw[Qe];exact⟨λh i j _ b a=>h i j a b,λh i j a b=>h i j (by omega) b a⟩
def rg{c:List jB}{f:jB}(h:xU c)(l:fI c f.N (fC f.N c)=cA):xU (dM c (fC f.N c) f):=by
 have n:=lK f.N h;have k:=UP h l;have g:=bs.1 h;rw[<-Za (fC f.N c) c,Ae]at g;rw[bs,dM,Ae,Bc];refine⟨g.1,⟨λb d=>?_,g.2.1⟩,λa m b d=>?_⟩;obtain ⟨j,i,rfl⟩:=Ib d;rw[Rc]at i;rw[Cg];have o:=n.2.2 (fC f.N c+j) (by omega) (by omega);exact rL _ _ o (λe=>k _ (by omega) (toList_inj e));rcases Lb.1 d with rfl|d;obtain ⟨j,i,rfl⟩:=Ib m;rw[Hb]at i;rw[Ue];exact n.2.1 j (by omega) (by omega);exact g.2.2 a m b d
def LP{c:List jB}{i:Nat}{f:jB}(h:xU c)(n:i<yA c)(m:f.N=c[i].N):xU (c.set i f):=by
 have o:∀a(l:a<yA (c.set i f))(g:a<yA c),(c.set i f)[a].N=c[a].N:=λa l g=>by
  rw[List.getElem_set];split
  .rename_i e;subst e;exact m
  rfl
 intro a b j k;have d:b<yA c:=by simpa using k
 rw[o a (by omega) (by omega),o b k d];exact h a b j d
def nY{n d:nB}{s:Int}(c:cH n=dA)(a:0<=s)(b:s<=d.size):nO ⟨n,d,s⟩=dA:=by
 simp[nO,zB,c,a,b]
def vW{a:List jB}{i:Nat}{f g:jB}(h:g∈a.set i f):g=f\/g∈a:=(List.mem_or_eq_of_mem_set h).symm
def db{a:List jB}{c k b d:Int}(e:yA a<=1000)(f:bI a=dA)(g:0<=c/\c<=1000000000)(h:(qC a:Int)<=c)(i:0<=k/\k<=1000000000000000)(j:0<=b/\b<=1000000000000000)(l:0<=d/\d<=1000000000000000):sE a c k b d=dA:=by
 simp[sE,zB,e,f,g,h,i,j,l]
def aCk{a:List jB}{c:Int}{op:pK}(m:bI a=dA)(l:yA a<=1000)(p:(qC a:Int)<=c)(B:cH op.N=dA)(E:op.K=5->cH op.tq=dA):
 bI (zO a c op).2=dA/\yA (zO a c op).2<=1000/\(qC (zO a c op).2:Int)<=c:=by
 have j:=BL m;have o:=EB m;unfold zO;simp only;split
 .split
  .exact ⟨m,l,p⟩
  rename_i x;split
  .exact ⟨m,l,p⟩
  rename_i A;have C:=lK op.N j;refine⟨qP (λf i=>?_) (rg (f:=⟨op.N,kA,0⟩) j (by simpa using x)),?_,?_⟩
  .simp only[dM,Ee,Lb]at i;obtain i|rfl|i:=i
   .exact o _ (Ce i)
   .exact nY B (by omega) (by simp)
   exact o _ (Ng i)
  .rw[sQ _ _ _ C.1];omega
  rw[CY];simpa using p
 split;exact ⟨m,l,p⟩
 rename_i f v;obtain⟨k,rfl⟩:=Pb.1 v;have h:=o _ (Gb k);simp only[nO,zB,Sa,Ab]at h;split
 .exact ⟨m,l,p⟩
 split
 .split
  .exact ⟨m,l,p⟩
  rename_i G;have b:=tN a (fC op.N a) ⟨a[fC op.N a].N,a[fC op.N a].data++op.data,a[fC op.N a].Y⟩ k;simp only[Ka]at b;refine⟨qP (λg e=>?_) (LP j k rfl),by simpa using l,by simp only;omega⟩;rcases vW e with rfl|e
  .exact nY h.1 h.2.1 (by rw[Ka];omega)
  exact o _ e
 split
 .have b:=tN a (fC op.N a) ⟨a[fC op.N a].N,a[fC op.N a].data,a[fC op.N a].data.size⟩ k;simp only at b;refine⟨qP (λg e=>?_) (LP j k rfl),by simpa using l,by simp only;omega⟩;rcases vW e with rfl|e
  .exact nY h.1 (by omega) (by omega)
  exact o _ e
 split
 .split
  .rename_i u;simp only[zB,Sa,Ab]at u;have b:=tN a (fC op.N a) ⟨a[fC op.N a].N,a[fC op.N a].data.extract 0 op.size.toNat,op.size⟩ k;simp only at b;have F:(a[fC op.N a].data.extract 0 op.size.toNat).size=op.size.toNat:=by rw[Je];omega
   refine⟨qP (λg e=>?_) (LP j k rfl),by simpa using l,by simp only;omega⟩;rcases vW e with rfl|e;exact nY h.1 u.1 (by rw[F];omega);exact o _ e
  exact ⟨m,l,p⟩
 have t:bI (a.eraseIdx (fC op.N a))=dA:=qP (λg e=>o _ (Sf e)) (j.erase _);have z:yA (a.eraseIdx (fC op.N a))=yA a-1:=by rw[Ad,Ma k]
 have D:=qX a _ k;split
 .rename_i y;have u:=(lK op.tq (j.erase (fC op.N a)))
  have q:=nY (n:=op.tq) (d:=a[fC op.N a].data) (s:=a[fC op.N a].Y) (E y) h.2.1 h.2.2;cases hq:fI (a.eraseIdx (fC op.N a)) op.tq (fC op.tq (a.eraseIdx (fC op.N a))) with
  |true=>
   obtain⟨w,r⟩:=LX hq;have b:=tN (a.eraseIdx (fC op.N a)) (fC op.tq (a.eraseIdx (fC op.N a))) ⟨op.tq,a[fC op.N a].data,a[fC op.N a].Y⟩ w;simp only at b;rw[RH (f:=⟨op.tq,a[fC op.N a].data,a[fC op.N a].Y⟩) (j.erase _) w r];refine⟨qP (λg e=>?_) (LP (j.erase _) w r.symm),by simp only[Pd];omega,by simp only;omega⟩;rcases vW e with rfl|e;exact q;exact EB t _ e
  |false=>
   rw[RG (f:=⟨op.tq,a[fC op.N a].data,a[fC op.N a].Y⟩) (j.erase _) hq];refine⟨qP (λf i=>?_) (rg (f:=⟨op.tq,a[fC op.N a].data,a[fC op.N a].Y⟩) (j.erase _) hq),?_,?_⟩
   .simp only[dM,Ee,Lb]at i;obtain i|rfl|i:=i
    .exact EB t _ (Ce i)
    .exact q
    exact EB t _ (Ng i)
   .rw[sQ _ _ _ u.1];omega
   rw[CY];simp only;omega
 exact ⟨t,by simp only;omega,by simp only;omega⟩
def XI{k cr fl:Int}{dn:Bool}(a:0<=k)(b:k<=1000000000000000):0<=(iD k cr fl dn).2.1/\(iD k cr fl dn).2.1<=1000000000000000:=by
 unfold iD;split;exact ⟨a,b⟩;split;exact ⟨a,b⟩;split;simp only;omega;split<;>(simp only;omega)
def NM{j:List jB}{c k b d:Int}{i:Bool}{a:pK}(h:sE j c k b d=dA)(l:IJ a=dA):
 sE (kJ j c k b d i a).2.1 c (kJ j c k b d i a).2.2.1 b d=dA:=by
 obtain⟨m,n,o,p,q,x,y,r,s,e,f⟩:=rK h;have g:cH a.N=dA/\(a.K=5->cH a.tq=dA):=by
  simp only[IJ,zB,Sa,Fe,Ab]at l;exact⟨l.1.2,λh=>l.2.resolve_left (λk=>k h)⟩
 have t:=XI (cr:=b) (fl:=d) (dn:=i) x y;unfold kJ;split;obtain ⟨u,v,w⟩:=aCk (op:=a) m n q g.1 g.2;exact db v u ⟨o,p⟩ w t ⟨r,s⟩ ⟨e,f⟩;exact db n m ⟨o,p⟩ q t ⟨r,s⟩ ⟨e,f⟩
def iX:nB:=⟨#[99,107,112,116,46,116,109,112]⟩
def ckN:nB:=⟨#[99,107,112,116]⟩
def jJ:gE->List pK->gE×Nat
 |K,[]=>(K,0)
 |K,a::r=>if (fE K a).2=0 then jJ (fE K a).1 r else fE K a
def FG(n:Int):pK:=⟨6,gK n,⟨#[]⟩,⟨#[]⟩,0⟩
def VI:pK:=⟨6,iX,⟨#[]⟩,⟨#[]⟩,0⟩
def oY(a:Int)(b:nB):List pK:=
 [⟨1,iX,⟨#[]⟩,⟨#[]⟩,0⟩,⟨2,iX,⟨#[]⟩,b,0⟩,⟨3,iX,⟨#[]⟩,⟨#[]⟩,0⟩,⟨5,iX,ckN,⟨#[]⟩,0⟩,⟨1,gK (a+1),⟨#[]⟩,⟨#[]⟩,0⟩]
def kR(first:Int)(k:Nat):List pK:=(List.range k).map fun(i:Nat)=>FG (first+(i:Int))
def nN(a:List jB):List pK:=if 0<=iE iX a 0 then [VI] else []
def fP(K:gE)(L:mG)(a:nB):List pK:=nN K.fs++(oY L.last a++kR L.first (L.last+1-L.first).toNat)
def aJq(N:pC)(K:gE):pC:=⟨K,N.l,N.now,N.ts,N.lsn,dA,!K.dn⟩
def DF(c:gC)(N:pC):pC×Int:=
 if cF c=cA then(xK,61)
 else if ub N=cA then(N,60)
 else if iJ N.l=cA then(N,21)
 else if N.l.last=999999 then(N,23)
 else if eO N.lsn N.now N.ts=⟨#[]⟩ then(N,62)
 else if (jJ N.d (fP N.d N.l (eO N.lsn N.now N.ts))).2=0 then(⟨(jJ N.d (fP N.d N.l (eO N.lsn N.now N.ts))).1,⟨N.l.last+1,N.l.last+1,0⟩,N.now,N.ts,N.lsn,N.deg,N.up⟩,0)
 else(aJq N (jJ N.d (fP N.d N.l (eO N.lsn N.now N.ts))).1,((jJ N.d (fP N.d N.l (eO N.lsn N.now N.ts))).2:Int))
theorem zT(a b:List pK):∀K:gE,jJ K (a++b)=if (jJ K a).2=0 then jJ (jJ K a).1 b else jJ K a:=by induction a<;>grind [jJ]
def AF{K:gE}{xs:List pK}(a:pK)(h:(jJ K xs).2=0):jJ K (xs++[a])=fE (jJ K xs).1 a:=by grind [jJ,fE,zT]
def IS{K:gE}{a d:List pK}(b:pK)(h:(jJ K a).2=0)(c:(fE (jJ K a).1 b).2≠0):jJ K (a++b::d)=fE (jJ K a).1 b:=by
 rw[zT,Ma h];simp only[jJ];rw[Ja c]
def NK(f:Int)(k:Nat):kR f (k+1)=kR f k++[FG (f+k)]:=by simp[kR,List.range_succ]
def da(f:Int)(j k:Nat)(h:j<k):∃r,kR f k=kR f j++FG (f+j):: r:=by
 obtain⟨m,rfl⟩:∃m,k=j+1+m:=⟨k-j-1,by omega⟩
 refine⟨((List.range m).map λi=>FG (f+(j+1+i:Nat))),?_⟩;simp only[kR,List.range_add,Ld,Vd,List.range_one,Nd,Fc,Ag];simp only[Bg,Sd,Mb,List.append_cancel_left_eq,List.cons.injEq,true_and];refine Ge λi _=>?_;simp only[Function.comp_apply]
def aJo(a:pK):Prop:=a.N.size<=maxLen/\a.tq.size<=maxLen/\a.data.size<=200000000
def TO{K:gE}{L:mG}{text:nB}(h:text.size<=200000000):∀f∈fP K L text,aJo f:=by
 intro f a;have e:∀n,(gK n).size<=maxLen:=λn=>by have:=zN n;unfold maxLen;omega
 have d:iX.size<=maxLen:=by unfold maxLen;decide
 have g:ckN.size<=maxLen:=by unfold maxLen;decide
 have b:(⟨#[]⟩:nB).size<=maxLen:=Oa _;have c:(⟨#[]⟩:nB).size<=200000000:=Oa _;simp only[fP,nN,oY,kR,Ee,Md,Lb,Ed,Bf]at a;rcases a with a|(a|a|a|a|a)|⟨i,_,a⟩
 .split at a
  .simp only[Lb,Ed,Bf]at a;subst a;exact⟨d,b,c⟩
  cases a
 .subst a;exact⟨d,b,c⟩
 .subst a;exact⟨d,b,h⟩
 .subst a;exact⟨d,b,c⟩
 .subst a;exact⟨d,g,c⟩
 .subst a;exact⟨e _,b,c⟩
 subst a;exact⟨e _,b,c⟩
def XZ:∀(d:List pK)(K:gE),JE K.fs->(∀a∈d,aJo a)->JE (jJ K d).1.fs
 |[],K,h,_=>h
 |a::r,K,h,c=>by
  obtain⟨e,f,_⟩:=c a (by simp);have b:=eV h e f;simp only[jJ];split;exact XZ r _ b (λo g=>c o (Sb _ g));exact b
def CX(K:gE)(a:pK):(fE K a).2<=6:=by grind [fE,vQ,QT]
def IQ:∀(b:List pK)(K:gE),(jJ K b).2<=6
 |[],_=>Oa _
 |a::r,K=>by
  simp only[jJ];split;exact IQ r _;exact CX K a
theorem aAg{K:gE}(a:pK)(h:sE K.fs K.c K.k K.cr K.fl=cA):fE K a=(⟨[],0,0,0,0,cA⟩,6):=by
 unfold fE vQ;rw[Ja (by simp[h])]
def aIr{K:gE}{L:mG}{a:nB}(h:sE K.fs K.c K.k K.cr K.fl=cA):jJ K (fP K L a)=(⟨[],0,0,0,0,cA⟩,6):=by grind [sE,jJ,fP,nN,oY,aAg]
def xe{a:List jB}{t:nB}(b:xU a):(0<=iE t a 0) ↔ fI a t (fC t a)=dA:=by grind [xU,iE,fI,fC,OH,lK]
structure XV where
 x:oF
 a:jC
 c:Nat
def AW(b:List XV):List iA:=b.flatMap λy=>[pA y.a (yA y.x.B) y.c,zA y.x.bits]
def YD(a b:List XV):AW (a++b)=AW a++AW b:=by simp[AW]
def aBa(w:eA)(b:Nat)(T:Nat->Nat)(d:List XV):Prop:=∀i(h:i<yA d),eN w b T (i+1) d[i].a d[i].x.B/\yA d[i].x.B<=d[i].c
def zX(w:eA)(b:Nat)(e:jA)(v:iA)(n:Nat)(a:List oF):Prop:=
 ∃T ys,w.ownsRow b e 2 v n (AW ys)/\ys.map (·.x)=a/\(∀g,v.ownBlock=bA g->T g=0)/\aBa w b T ys
def iu{w:eA}{B:Nat}{e:jA}{m:Nat}{a:jC}{n c:Nat}{i:List iA}(h:w.ownsRow B e m (pA a n c) n i):n<=c:=by
 obtain⟨_,j⟩|⟨g,b,d,e,_,_,f,_⟩:=h.2;omega
 cases e;exact f
def zX.nil(w:eA)(b:Nat)(e:jA):zX w b e (pA aA 0 0) 0 []:=
 ⟨λ_=>0,[],eA.ownsRow_nil _ _ _ _,rfl,λ_ _=>rfl,λi h=>absurd h (by simp)⟩
def zX.row{w:eA}{b:Nat}{e:jA}{v:iA}{n:Nat}{i:List oF}(h:zX w b e v n i):∃a c,v=pA a n c:=by
 obtain⟨_,_,h,_⟩:=h;obtain⟨rfl,rfl⟩|⟨g,d,f,rfl,_⟩:=h.2;exact ⟨aA,0,rfl⟩;exact ⟨_,_,rfl⟩
def zX.snoc{wr w4 w6:eA}{b c f k:Nat}{e:jA}{v:iA}{T:Nat->Nat}{ys:List XV}{G:List oF}{x:oF}{q:jC}{r:Nat}
(p:w6.ownsRow b e 2 (pA (pB c) (k+1) f) (k+1) (AW ys++[pA q (yA x.B) r,zA x.bits]))
(D:ys.map (·.x)=G)(C:yA ys=k)(F:∀g,v.ownBlock=bA g->T g=0)(E:aBa wr b T ys)(O:b<=wr.1.size)
(A:∀g,g<wr.1.size->b<=g->v.ownBlock≠bA g->w6.heap[g]?=wr.heap[g]?)(B:∀g,wr.1.size<=g->g<w4.1.size->w6.heap[g]?=w4.heap[g]?)
(H:tD w4 wr.1.size q x.B)(w:yA x.B<=r)
(y:(v.ownBlock=bA c/\c<wr.1.size)\/w4.1.size<=c)(I:wr.1.size<=w4.1.size):zX w6 b e (pA (pB c) (k+1) f) (k+1) (G++[x]):=by
 refine⟨λg=>if g<wr.1.size then T g else if g<w4.1.size then k+1 else 0,ys++[⟨x,q,r⟩],?_,?_,?_,?_⟩;rw[YD];exact p;rw[Ld,D];rfl
 .intro g l;simp only[iA.ownBlock,Qa]at l;subst l;obtain⟨h,M⟩|h:=y
  .simp only[Ma M];exact F _ h
  simp only[Ja (show ¬c<wr.1.size by omega),Ja (show ¬c<w4.1.size by omega)]
 intro i z;by_cases d:i<yA ys
 .rw[Ve d];exact⟨(E i d).1.keep λg l u K=>⟨A g l u (λe=>by have:=F g e;omega),by simp only[Ma l];exact K⟩,(E i d).2⟩
 have e:i=k:=by simp at z;omega
 subst e;rw[Re (by omega)];simp only[C,Nat.sub_self,Eg];refine⟨?_,w⟩;obtain h|⟨g,o,s,N,rfl,J,a,t⟩:=H;exact Ca h;have n:=aB a;have m:=B g (by omega) n;have L:∀j,w6.cell? (dB g j)=w4.cell? (dB g j):=λj=>eA.cell?_of_block m;exact La ⟨g,o,s,N,rfl,by omega,by simp only[Ja (show ¬g<wr.1.size by omega),Ma n],m.trans a,λi z=>by simp only[L];exact t i z⟩
def zX.own{w:eA}{b:Nat}{e:jA}{a:jC}{n cap:Nat}{q:List oF}(h:zX w b e (pA a n cap) n q)(I:yA q=n):qG w b a q:=by
 obtain⟨T,m,C,v,D,y⟩:=h;have K:yA m=n:=by rw[<-I,<-v,Xa]
 obtain⟨_,M⟩|⟨g,u,o,s,E,A,_,_,J,t⟩:=C.2;exact Ca (Nb.1 (by omega));simp only[iA.slice.injEq]at s;have F:T g=0:=D g (by rw[s.1];rfl);have G:∀(l:List XV) i(p:i<yA l),(AW l)[i*2]?=bA (.slice l[i].a (yA l[i].x.B) l[i].c)/\(AW l)[i*2+1]?=bA (zA l[i].x.bits):=by
  intro l;unfold AW;induction l with
  |nil=>intro i p;exact absurd p (by simp)
  |cons x r L=>
   intro i p;cases i with
   |zero=>simp
   |succ i=>
    have:=L i (by simpa using p);simp only[Xc,Sd,Mb,Ec];refine⟨?_,?_⟩;rw[show(i+1)*2=i*2+1+1 by omega,Ga,Ga];exact this.1;rw[show(i+1)*2+1=i*2+1+1+1 by omega,Ga,Ga];exact this.2
 have z:∀j,j<n*2->w.cell? (dB g j)=(AW m)[j]?:=λj H=>by
  rw[gB.cell (show gB w g o e from A) j,<-Yd,<-t,Jb H]
 refine La ⟨g,0,o,e,T,s.1,E,A,F,λi p=>?_⟩;have k:i<yA m:=by omega
 have B:q[i]=m[i].x:=by simp only[<-v,List.getElem_map]
 obtain⟨d,f⟩:=G m i k;rw[B];refine⟨m[i].a,m[i].c,?_,?_,(y i k).1,(y i k).2⟩;rw[Ya,z _ (by omega)];exact d;rw[Ya,z _ (by omega)];exact f
def AS(t:nB):∀(a:List jB)(k:Nat),iE t a k = -1\/∃i,i<yA a/\iE t a k=(k+i:Nat)
 |[],_=>Ca rfl
 |f::r,k=>by
  rw[iE];split;exact La ⟨0,by simp,by simp⟩;rcases AS t r (k+1) with h|⟨i,b,h⟩;exact Ca h;exact La ⟨i+1,by simp;omega,by rw[h];omega⟩
def jN(a:List jB)(b c:Bool)(t:nB):nB×Bool:=
 if b=dA/\c=cA then(match (if 0<=iE t a 0 then a[(iE t a 0).toNat]? else aA) with
  |some f=>(f.data,dA)
  |none=>(kA,cA)) else(kA,cA)
def ZV(a:jC)(j:Nat)(g:List jB)(c k l m:Int)(q:Bool)(t:nB)(w:eA)(h:rB w a g)(hs:eP g)(r:yA g<=maxLen)(s:qC g<=1000000000):
 Calls prog 43 #[tA #[pA a (yA g) j,zA c,zA k,zA l,zA m,qA q],oA t] w λe R=>
  e=.returned (.tuple #[oA (jN g (sE g c k l m) q t).1,qA (jN g (sE g c k l m) q t).2])/\tB w R:=by
 have n:bB (rB w a g):=h;have J:bB (eP g):=hs;have G:bB _:=r;have K:bB _:=s;unfold maxLen at r;clear h hs s;obtain⟨L,v⟩:∃L,sE g c k l m=L:=⟨_,rfl⟩
 have I:bB _:=v;rw[v];clear v;obtain⟨z,P⟩:∃z,iE t g 0=z:=⟨_,rfl⟩
 have H:bB _:=P;have x:=λR h=>sW a j g c k l m q t R h G.o;rw[P]at x;have p:bB _:=x;clear x P;by_cases N:L=cA
 .subst N;have E:bB (jN g cA q t=(kA,cA)):=by show _=_;simp[jN]
  go_enter func43,ntmps43;go_wp2_with fail;apply hC (p.o _ (n.o.z yB));intro S d;obtain⟨y,A,B,C,D,F⟩:=(dP.new w (pA a (yA g) j) (zA c) (zA k) (zA l) (zA m) (qA q) 35).z d;go_wp2_with fail;apply hC (lM I.o _ ((n.o.z yB).z d) J.o G.o K.o);intro T f;obtain⟨U,V,W,X,Y,Z⟩:=((dP.new w (pA a (yA g) j) (zA c) (zA k) (zA l) (zA m) (qA q) 35).z d).z f;have u:bB _:=vB (vB yB d) f;clear y A B C D F d f;go_wp2;go_ret2;exact⟨by rw[E.o];rfl,u.o⟩
 obtain rfl:L=dA:=by simpa using N
 clear N;by_cases O:q=dA
 .subst O;have E:bB (jN g dA dA t=(kA,cA)):=by show _=_;simp[jN]
  go_enter func43,ntmps43;go_wp2_with fail;apply hC (p.o _ (n.o.z yB));intro S d;obtain⟨y,A,B,C,D,F⟩:=(dP.new w (pA a (yA g) j) (zA c) (zA k) (zA l) (zA m) (qA dA) 35).z d;go_wp2_with fail;apply hC (lM I.o _ ((n.o.z yB).z d) J.o G.o K.o);intro T f;obtain⟨U,V,W,X,Y,Z⟩:=((dP.new w (pA a (yA g) j) (zA c) (zA k) (zA l) (zA m) (qA dA) 35).z d).z f;have u:bB _:=vB (vB yB d) f;clear y A B C D F d f;go_wp2;go_ret2;exact⟨by rw[E.o];rfl,u.o⟩
 obtain rfl:q=cA:=by simpa using O
 clear O;by_cases o:z<0
 .have E:bB (jN g dA cA t=(kA,cA)):=by
   show _=_;have e:¬0<=iE t g 0:=by rw[H.o];omega
   simp[jN,e]
  go_enter func43,ntmps43;go_wp2_with fail;apply hC (p.o _ (n.o.z yB));intro S d;obtain⟨y,A,B,C,D,F⟩:=(dP.new w (pA a (yA g) j) (zA c) (zA k) (zA l) (zA m) (qA cA) 35).z d;go_wp2_with fail;apply hC (lM I.o _ ((n.o.z yB).z d) J.o G.o K.o);intro T f;obtain⟨U,V,W,X,Y,Z⟩:=((dP.new w (pA a (yA g) j) (zA c) (zA k) (zA l) (zA m) (qA cA) 35).z d).z f;have u:bB _:=vB (vB yB d) f;clear y A B C D F d f;go_wp2;go_ret2;exact⟨by rw[E.o];rfl,u.o⟩
 obtain⟨i,M,Q⟩:∃i,i<yA g/\z=(i:Nat):=by
  rcases AS t g 0 with h|⟨i,M,h⟩;rw[H.o]at h;omega;exact ⟨i,M,by rw[<-H.o,h];simp⟩
 subst Q;have E:bB (jN g dA cA t=(g[i].data,dA)):=by
  show _=_;have e:0<=iE t g 0:=by rw[H.o];omega
  have h:(iE t g 0).toNat=i:=by rw[H.o];simp
  simp[jN,e,h,Va M]
 have h:=o;clear o;go_enter func43,ntmps43;go_wp2_with fail;apply hC (p.o _ (n.o.z yB));intro S d;obtain⟨y,A,B,C,D,F⟩:=(dP.new w (pA a (yA g) j) (zA c) (zA k) (zA l) (zA m) (qA cA) 35).z d;go_wp2_with fail;apply hC (lM I.o _ ((n.o.z yB).z d) J.o G.o K.o);intro T f;obtain⟨U,V,W,X,Y,Z⟩:=((dP.new w (pA a (yA g) j) (zA c) (zA k) (zA l) (zA m) (qA cA) 35).z d).z f;have u:bB _:=vB (vB yB d) f;obtain⟨b,o,rfl,h,h,c1,c2⟩:=(((n.o.z yB).z d).z f).at M;clear y A B C D F d f;go_wp2;go_ret2;exact⟨by rw[E.o];rfl,u.o⟩
def DN(w:eA)(P D:Nat)(L:mG):Prop:=gB w P #[.pointer (pB D),zA L.first,zA L.last,zA L.size] 72
def DN.z{w a:eA}{P D:Nat}{L:mG}(h:DN w P D L)(b:tB w a):DN a P D L:=gB.z h b
def DN.cells{w:eA}{P D:Nat}{L:mG}(h:DN w P D L):w.cell? (dB P 0)=bA (.pointer (pB D))/\w.cell? (dB P 1)=bA (zA L.first)/\w.cell? (dB P 2)=bA (zA L.last)/\w.cell? (dB P 3)=bA (zA L.size):=by
 refine⟨?_,?_,?_,?_⟩<;>rw[gB.cell h]<;>rfl
def UW(L:mG)(w:eA):vE 226 #[tA #[zA L.first,zA L.last,zA L.size]] w (qA (iJ L)):=by
 obtain⟨a,b,c⟩:=L;have f:bB (tB w (w.alloc (vA #[zA a,zA b,zA c] 37))):=yB;by_cases i:1<=a
 .by_cases j:a<=b
  .by_cases k:b<=999999
   .have e:bB (iJ ⟨a,b,c⟩=zB c 0 1000000000):=by
     show _=_;have d:zB b 1 999999=dA:=by simp[zB];omega
     have h:zB a 1 b=dA:=by simp[zB];omega
     simp only[iJ,d,h,Oc]
    go_enter func226,ntmps226;go_wp2_with fail;apply cO (tF _ _ _);go_wp2;go_ret;exact⟨oB e.o.symm,f.o⟩
   .have e:bB (iJ ⟨a,b,c⟩=cA):=by
     show _=_;have d:zB b 1 999999=cA:=by simp[zB];omega
     simp[iJ,d]
    go_enter func226,ntmps226;go_wp2;go_ret;exact⟨oB e.o.symm,f.o⟩
  have e:bB (iJ ⟨a,b,c⟩=cA):=by
   show _=_;have d:zB a 1 b=cA:=by simp[zB];omega
   simp[iJ,d]
  go_enter func226,ntmps226;go_wp2;go_ret;exact⟨oB e.o.symm,f.o⟩
 have e:bB (iJ ⟨a,b,c⟩=cA):=by
  show _=_;have d:zB a 1 b=cA:=by simp[zB];omega
  simp[iJ,d]
 go_enter func226,ntmps226;go_wp2;go_ret;exact⟨oB e.o.symm,f.o⟩
def gP(L:mG)(z a:Int):Bool:=decide (L.size≠0) &&decide (a<L.size+z)
def uZ(P D:Nat)(L:mG)(z d:Int)(w:eA)(h:DN w P D L)(l:0<=L.size/\L.size<=1000000000)(n:0<=z/\z<=1000000000):
 hI 333 #[.pointer (pB P),zA z,zA d] w (qA (gP L z d)):=by
 obtain⟨g,i,j,k⟩:=h.cells;clear h g i j;obtain⟨a,b,c⟩:=L;simp only at l k;have h:IntKind.i64.wrap (c+z)=c+z:=by rw[IntKind.wrap_i64];omega
 by_cases f:c=0
 .subst f;have e:bB (gP ⟨a,b,0⟩ z d=cA):=by show _=_;simp[gP]
  go_enter func333,ntmps333;go_wp2;go_ret;exact⟨oB e.o.symm,rfl⟩
 have e:bB (gP ⟨a,b,c⟩ z d=decide (d<c+z)):=by show _=_;simp[gP,f]
 go_enter func333,ntmps333;go_wp2;go_ret;exact⟨oB (by rw[e.o];simp[f]),rfl⟩
def xQ(L:mG)(p:nB)(a:Int):Nat:=
 if (iJ L&&zB a 1 1000000000)=cA then 21
 else if zB p.size 1 60000=cA then 22
 else if L.last=999999/\gP L (8+p.size) a=dA then 23 else 0
def PM{L:mG}(h:iJ L=dA):0<=L.size/\L.size<=1000000000/\1<=L.first/\L.first<=L.last/\1<=L.last/\L.last<=999999:=by
 simp only[iJ,zB,Sa,Ab]at h;omega
def pn(P D:Nat)(L:mG)(p:nB)(a:Int)(w:eA)(h:DN w P D L)(G:p.size<=1900000):
 vE 301 #[.pointer (pB P),oA p,zA a] w (aGx (xQ L p a)):=by
 obtain⟨t,u,v,x⟩:=h.cells;have s:bB (DN w P D L):=h;clear h t;have j:bB _:=λW=>UW L W;have o:bB (∀W,hI 317 #[zA (p.size:Int)] W (qA (zB p.size 1 60000))):=λW=>dp _ W;cases hl:iJ L with
 |false=>
  have E:bB (xQ L p a=21):=by show _=_;rw[xQ,hl];rfl
  rw[hl]at j;clear hl;go_enter func301,ntmps301;go_wp2_with fail;apply hC (j.o _);intro g b;have d:bB _:=b;clear b;go_wp2;go_ret;rw[E.o];exact⟨rfl,d.o⟩
 |true=>
  obtain⟨m,n,_,_,y,z⟩:=PM hl;rw[hl]at j;by_cases A:1<=a/\a<=1000000000
  .have c:zB a 1 1000000000=dA:=by simp[zB];omega
   cases hf:zB p.size 1 60000 with
   |false=>
    have E:bB (xQ L p a=22):=by show _=_;simp[xQ,hl,c,hf]
    rw[hf]at o;clear hf hl c;go_enter func301,ntmps301;go_wp2_with fail;apply hC (j.o _);intro g b;have d:bB _:=b;clear b;go_wp2_with fail;apply cO (o.o _);go_wp2;go_ret;rw[E.o];exact⟨rfl,d.o⟩
   |true=>
    have H:1<=p.size/\p.size<=60000:=by
     simp only[zB,Sa,Ab]at hf;omega
    have q:bB (xQ L p a=if L.last=999999/\gP L (8+p.size) a=dA then 23 else 0):=by show _=_;simp[xQ,hl,c,hf]
    rw[hf]at o;clear hf hl c;go_enter func301,ntmps301;go_wp2_with fail;apply hC (j.o _);intro g b;have d:bB _:=b;have k:bB (DN g P D L):=s.o.z b;obtain⟨_,_,F,_⟩:=k.o.cells;clear b u v x;go_wp2_with fail;apply cO (o.o _);by_cases l:L.last=999999
    .have r:(L.last==999999)=dA:=by simpa using l
     cases hfu:gP L (8+p.size) a with
     |true=>
      have E:bB (xQ L p a=23):=by show _=_;rw[q.o,Ma ⟨l,hfu⟩]
      have i:bB (hI 333 #[.pointer (pB P),zA (8+(p.size:Int)),zA a] g (qA dA)):=by
       have:=uZ P D L (8+(p.size:Int)) a g k.o ⟨m,n⟩ (by omega);rw[hfu]at this;exact this
      clear hfu l;go_wp2_with fail;apply cO i.o;go_wp2;go_ret;rw[E.o];exact⟨rfl,d.o⟩
     |false=>
      have E:bB (xQ L p a=0):=by show _=_;rw[q.o,Ja (λh=>by rw[hfu]at h;cases h.2)]
      have i:bB (hI 333 #[.pointer (pB P),zA (8+(p.size:Int)),zA a] g (qA cA)):=by
       have:=uZ P D L (8+(p.size:Int)) a g k.o ⟨m,n⟩ (by omega);rw[hfu]at this;exact this
      clear hfu l;go_wp2_with fail;apply cO i.o;go_wp2;go_ret;rw[E.o];exact⟨rfl,d.o⟩
    have r:(L.last==999999)=cA:=by simpa using l
    have E:bB (xQ L p a=0):=by show _=_;rw[q.o,Ja (λh=>l h.1)]
    clear l;go_wp2;go_ret;rw[E.o];exact⟨rfl,d.o⟩
  have E:bB (xQ L p a=21):=by
   show _=_;have c:zB a 1 1000000000=cA:=by simp[zB];omega
   simp[xQ,c]
  by_cases B:a<1
  .go_enter func301,ntmps301;go_wp2_with fail;apply hC (j.o _);intro g b;have d:bB _:=b;clear b;go_wp2;go_ret;rw[E.o];exact⟨rfl,d.o⟩
  have C:1000000000<a:=by omega
  clear A;go_enter func301,ntmps301;go_wp2_with fail;apply hC (j.o _);intro g b;have d:bB _:=b;clear b;go_wp2;go_ret;rw[E.o];exact⟨rfl,d.o⟩
def shV(k:Int):iA:=tA #[qA (zU k),qA (k==1),qA (yU k),qA (mV k),qA (k==1||k==2||k==3||k==4)]
def UU{k:Int}(h:1<=k/\k<=6)(w:eA):vE 148 #[zA k] w (qA dA):=by
 obtain⟨b,c⟩:=h;go_enter func148,ntmps148;go_wp2;go_ret;exact⟨rfl,bD⟩
def aEd{x:nB}(h:x.size=0):x.toList=[]:=by rw[ByteArray.toList_eq,<-Nb];simpa using h
def LS{b:Bool}{p:Prop}(h:b=cA->p):b=dA\/b=cA/\p:=by cases b;exact La ⟨rfl,h rfl⟩;exact Ca rfl
def aHb{r:dG}(a:jC)(i:Nat)(w:eA)(h:pw r):
 vE 151 #[shV r.K,tA #[zA r.K,oA r.T,oA r.R,zA r.U,pA a (yA r.P) i]] w (qA dA):=by
 obtain⟨-,j,l,o,p,-⟩:=h;obtain⟨k,C,A,B,x⟩:=r;dsimp only at *;have b:=LS j;have d:(k==1)=dA\/(k==1)=cA/\x=[]:=LS λe=>p (by simpa using e);have f:=LS l;have g:=LS o;unfold shV;generalize (k==1||k==2||k==3||k==4)=c at *;clear j l o p;generalize zU k=t at *;generalize (k==1)=s at *;generalize yU k=m at *;generalize mV k=n at *;rcases b with rfl|⟨rfl,q⟩<;>rcases d with rfl|⟨rfl,rfl⟩<;>rcases f with rfl|⟨rfl,u⟩<;>obtain rfl|⟨rfl,rfl⟩:=g
 all_goals
  (try have y:=aEd q);(try have z:=aEd u);go_enter func151,ntmps151;go_wp2;go_ret;exact⟨rfl,vB yB yB⟩
def aCn(x:bC):List iA:=[oA x.N,oA x.V]
def aHs(w:eA):PredBelow prog 217 #[] (λx=>tA (aCn x).toArray) (λx:bC=>decide ((x.N.size:Int) > 255)) w:=λW x a=>by
 show Calls prog 217 #[tA #[oA x.N,oA x.V]] W _;go_enter func217,ntmps217;go_wp2;go_ret;exact⟨rfl,a.alloc a.size _⟩
def xl(a:jC)(c:Nat)(d:iA)(w:eA):vE 264 #[pA a 0 c,d] w (zA (-1)):=by
 go_enter func264,ntmps264;go_wp2;go_loopw [5,8] (λ_ i wr=>i=zA 0/\tB w wr) (λ_ _ _=>0)
 case atStart=>exact⟨rfl,bD⟩
 case round=>
  obtain⟨rfl,b⟩:=hrel;go_wp2;go_ret;exact⟨rfl,b⟩
def aBw(a:jC)(c:Nat)(d:iA)(w:eA):vE 216 #[pA a 0 c,d] w (qA cA):=by
 have h:bB (∀W,vE 264 #[pA a 0 c,d] W (zA (-1))):=λW=>xl a c d W;go_enter func216,ntmps216;go_wp2_with fail;apply hC (h.o _);intro i b;have g:=cB b;clear b;go_wp2;go_ret;exact⟨rfl,g.o⟩
def aBv(a:jC)(c:Nat)(g:List bC)(w:eA)(p:nD w a g)(r:yA g<=2000000):
 vE 216 #[pA a (yA g) c,.func (.func 217) #[] #[]] w (qA (g.any λx=>decide ((x.N.size:Int) > 255))):=by
 obtain rfl|⟨b,o,rfl,k,h⟩:=p;exact aBw a c _ w;have n:∀args w,(callFunc 217 args).run prog w=.ok (.enter 217 args) w:=enters_of func217 (by kernel_rfl) rfl;haveI:=aHo
 have d:=AnyQ.slices_ContainsFunc contL 2 isAgg181 sizeOf181 aCn (λ_=>rfl) (λx:bC=>decide ((x.N.size:Int) > 255)) 217 #[] n b o (yA g) c g w (aHs w) (Ia _) (by omega) k (λj m i v f=>by
  have l:=h j m;have e:g[j]! = g[j]:=getElem!_pos g j m;rw[e]at f;match i,f with
  |0,f=>simp[aCn]at f;rw[<-f];exact l.1
  |1,f=>simp[aCn]at f;rw[<-f];exact l.2
  |i+2,f=>simp[aCn]at f)
 change Calls prog 216 _ _ _ at d;rw[Rb]at d;exact d
def XO(r:dG)(a:jC)(j:Nat)(w:eA)(m:dJ w a r.P)(h:pw r):
 vE 152 #[tA #[zA r.K,oA r.T,oA r.R,zA r.U,pA a (yA r.P) j]] w (qA dA):=by
 obtain⟨-,-,-,-,-,E,-,F,g⟩:=h;have t:=cB m;have u:=cB g;clear m g;go_enter func152,ntmps152;go_wp2;go_loopw [4,18] (λ_ i wr=>∃k:Nat,k<=yA r.P/\i=zA k/\tB w wr) (λ_ i _=>yA r.P-(intOf i).toNat)
 case atStart=>exact⟨0,Oa _,rfl,yB⟩
 case round=>
  obtain⟨k,H,rfl,c⟩:=hrel;by_cases f:k<yA r.P
  .obtain ⟨b,o,v,B,rfl,G,D,y,p⟩:=(t.o.z c).at f;obtain⟨I,n⟩:=u.o k f;have l:=cB (λW(z:tB wr W)=>aBv v B _ W (p.z z) (by omega));rw[List.any_eq_false.2 λx g=>by
    obtain⟨i,A,rfl⟩:=List.mem_iff_getElem.1 g;have:=(n i A).1;simp;omega]at l
   have s:=cB c;clear p n c;go_wp2_with fail;apply hC (l.o _ yB);intro J d;have q:=cB (vB (vB s.o yB) d);clear d;go_wp2;exact⟨⟨k+1,by omega,by go_num,q.o⟩,by simp[intOf];omega⟩
  .go_wp2;go_ret;exact⟨rfl,c⟩
def au(r:dG)(a:jC)(q:Nat)(w:eA)(t:dJ w a r.P)(U:FO r<=1048576):
 vE 153 #[tA #[zA r.K,oA r.T,oA r.R,zA r.U,pA a (yA r.P) q]] w (zA ((r.T.size+r.R.size+bP r.P:Nat):Int)):=by
 have H:FO r=r.T.size+r.R.size+yA r.P+sF r.P:=rfl;have K:=aJa r.P;have x:bB (dJ w a r.P):=t;clear t;go_enter func153,ntmps153;go_wp2;go_loopw [3,5,7,18,25] (λz _ _ i _ wr=>∃k:Nat,k<=yA r.P/\i=zA k/\z=zA ((r.T.size+r.R.size+bP (r.P.take k):Nat):Int)/\tB w wr) (λ_ _ _ i _ _=>yA r.P-(intOf i).toNat)
 case atStart=>exact⟨0,Oa _,rfl,by simp[bP],yB⟩
 case round=>
  obtain⟨k,S,rfl,rfl,d⟩:=hrel;by_cases l:k<yA r.P
  .obtain ⟨b,o,B,X,rfl,R,O,C,u⟩:=(x.o.z d).at l;have p:=WK r.P k l;have I:bP (r.P.take (k+1))<=bP r.P:=by
    have e:=kZ (r.P.take (k+1)) (r.P.drop (k+1));rw[Za]at e;omega
   have F:=QQ r.P k l;have E:lJ r.P[k]=yA r.P[k].B+rD r.P[k].B:=rfl;have y:bB (∀W,tB wr W->nD W B r.P[k].B):=λW h=>u.z h;have n:bB (bP (r.P.take (k+1))=bP (r.P.take k)+rD r.P[k].B):=p;clear u p;rename eA=>v;generalize r.P[k].B=g at *;generalize bP (r.P.take k)=A at *;generalize r.P[k].bits=N at *;go_wp2;go_loopw [3,7,25] (λz _ j wr=>∃m:Nat,m<=yA g/\j=zA m/\z=zA ((r.T.size+r.R.size+A+rD (g.take m):Nat):Int)/\tB v wr) (λ_ _ j _=>yA g-(intOf j).toNat)
   case atStart=>exact⟨0,Oa _,rfl,by simp[rD],yB⟩
   case round=>
    obtain⟨m,T,rfl,rfl,c⟩:=hrel;by_cases f:m<yA g
    .obtain ⟨M,V,rfl,D,P,Q⟩:=(y.o _ c).at f;have s:=uT g m f;have G:=dR g (m+1);go_wp2;refine⟨⟨m+1,by omega,by go_num,?_,vB c yB⟩,by simp[intOf];omega⟩;refine Kd (iA.int .i64) ?_;have J:=n.o;rw[s];unfold wrap64;omega
    have e:g.take m=g:=Ra (by omega);rw[e];go_wp2;refine⟨⟨k+1,by omega,by go_num,?_,vB d c⟩,by simp[intOf];omega⟩;refine Kd (iA.int .i64) ?_;rw[n.o];omega
  .have e:r.P.take k=r.P:=Ra (by omega);rw[e];go_wp2;go_ret;exact⟨rfl,d⟩
def aMo(a:List bC):Prop:=∀i(h:i<yA a),a[i].N.size<=1000000000/\a[i].V.size<=1000000000
def cZ(a:List bC):List nB:=a.flatMap λl=>[xM l.N,vF l.V]
def ih(a:List bC)(k:Nat)(h:k<yA a):cZ (a.take (k+1))=cZ (a.take k)++[xM a[k].N,vF a[k].V]:=by
 unfold cZ;rw[Pa h,He];rfl
def MY:∀(a:List bC),qF (cZ a)=gD a
 |[]=>rfl
 |l::r=>by
  have e:cZ (l::r)=[xM l.N,vF l.V]++cZ r:=rfl;rw[e,eG,MY r,gD];simp[qF]
def oc(a:jC)(Z:Nat)(c:List bC)(w:eA)(hf:nD w a c)(hB:aMo c)(hlen:yA c<=255):
 vE 219 #[pA a (yA c) Z] w (oA (tH c)):=by
 have HF:bB (nD w a c):=hf;have HB:bB (aMo c):=hB;have HU:bB (∀W,vE 24 #[lA mA (yA c:Nat)] W (oA (qB 1 (yA c:Nat)))):=λW=>BZ (yA c) W;have hz1:=kB 1 (yA c:Nat);have V:bB (tH c=qB 1 (yA c:Nat)++gD c):=rfl;generalize qB 1 (yA c:Nat)=Y at *;obtain⟨ti,O,g0,h0,i0⟩:=wZ;have HI:bB (prog.info? 9=bA ti):=O;clear hf hB O;go_enter func219,ntmps219;go_wp2_with fail;apply hC (HU.o _);intro Q r;have B1:bB (tB w Q):=r;have e0:w.1.size<=Q.1.size:=r.size;clear r;go_wp2;go_loopw [3,5,12] (λk0 _ i wr=>∃(k:Nat)(f:List nB)(g C:Nat),k<=yA c/\i=lA mA k/\k0=pA (bA ⟨g,0,aA⟩) (yA f) C/\yA f<=1+2*k/\yF f<=1+k*3000000000/\bB (f=Y::cZ (c.take k))/\bB (wr.ownsRow w.1.size 9 1 (pA (bA ⟨g,0,aA⟩) (yA f) C) (yA f) (f.map iA.string))/\tB w wr) (λ_ _ i _=>yA c-(intOf i).toNat)
 case atStart=>
  exact⟨0,[Y],_,_,Oa _,rfl,rfl,by simp,by simp[yF];omega,rfl,⟨rfl,La ⟨Q.1.size,1,_,rfl,e0,heap_alloc_new _ _,Ia _,by simp[maxLen],rfl,rfl⟩⟩,vB B1.o yB⟩
 case round=>
  obtain⟨k,f,g,C,hk,rfl,rfl,hpl,hps,I,j,n⟩:=hrel;by_cases E:k<yA c
  .obtain ⟨b,o,rfl,hb,c0,c1⟩:=(HF.o.z n).at E;obtain⟨b0,d0⟩:=HB.o k E;have X:bB (∀W,vE 218 #[oA c[k].N] W (oA (xM c[k].N))):=λW=>mS c[k].N W b0;have J:bB (∀W,vE 166 #[oA c[k].V] W (oA (vF c[k].V))):=λW=>mL c[k].V W d0;have hz8:=lF c[k].N;have hz16:=bF c[k].V;have HT:=ih c k E;have U:bB (f++[xM c[k].N,vF c[k].V]=Y::cZ (c.take (k+1))):=by show _=_;rw[HT,I.o];rfl
   clear HT;generalize xM c[k].N=q at *;generalize vF c[k].V=h at *;generalize c[k].N=F at *;generalize c[k].V=G at *;have s:bB (gB (wr.alloc (vA #[oA F,oA G] 181)) wr.1.size #[oA F,oA G] 181/\tB wr (wr.alloc (vA #[oA F,oA G] 181))):=⟨heap_alloc_new _ _,yB⟩
   have B:bB ((wr.alloc (vA #[oA F,oA G] 181)).ownsRow w.1.size 9 1 (pA (bA ⟨g,0,aA⟩) (yA f) C) (yA f) (f.map iA.string)/\tB w (wr.alloc (vA #[oA F,oA G] 181))):=⟨eC j.o yB,vB n yB⟩
   go_wp2_with fail;generalize wr.alloc (vA #[oA F,oA G] 181)=W at *;have S:=s.o.1.cell 0;have T:=s.o.1.cell 1;simp only[Xb,Ob,Ga]at S T;have l:wr.1.size<W.1.size:=aB s.o.1;have j0:w.1.size<=W.1.size:=B.o.2.size;have hgB:g<wr.1.size:=(xG j.o).2.1;clear j s hb c0 c1 n;generalize wr.1.size=v at *;clear wr;go_region_held3 (λp=>p.cell? ⟨v,0,aA⟩=bA (oA F)/\p.cell? ⟨v,1,aA⟩=bA (oA G))
    (first
     |go_keep
     |exact⟨z.trans S,A.trans T⟩
     |exact⟨((d.alloc d.size _).cell l).trans S,((d.alloc d.size _).cell l).trans T⟩
     |exact⟨(d.cell l).trans S,(d.cell l).trans T⟩
     |exact⟨(u.cell l).trans S,(u.cell l).trans T⟩)
    ((first
      |(go_at_call 218;apply hC (X.o _);intro Q r;have u:tB W Q:=(Below.refl _ W).drew.trans r)
      |(go_at_call 166;apply hC (J.o _);intro w2 t;have d:tB W w2:=u.trans (t.mono u.size))
      |(refine tI _ (by rfl) _ _ _ (by rfl) w.1.size 9 ti _ 1 16 underlying30 HI.o g0 h0 i0 rfl (by omega) g (yA f) C _ (by rfl) (by exact eC (eC B.o.1 d) yB) _ 2 2 [oA q,oA h] (by rfl) rfl (by exact La ⟨_,rfl,eA.news_of_block (cs:=#[oA q,oA h]) (heap_alloc_new _ _)⟩) (by simp[iA.oneCell']) (by simp[maxLen];omega) (by omega) (by have:=d.size;simp;omega) ?_;intro g5 x R m K D hg5 L hlt5;have z:R.cell? ⟨v,0,aA⟩=W.cell? ⟨v,0,aA⟩:=(eA.cell?_of_block (D v (by have:=d.size;simp;omega) (by omega))).trans ((d.alloc d.size _).cell l);have A:R.cell? ⟨v,1,aA⟩=W.cell? ⟨v,1,aA⟩:=(eA.cell?_of_block (D v (by have:=d.size;simp;omega) (by omega))).trans ((d.alloc d.size _).cell l);have y:tB w R:=((vB B.o.2 d).alloc (Ua j0 d.size) _).trans K)))
   have P:f.map iA.string++[iA.string q,oA h]=(f++[q,h]).map iA.string:=by simp
   have N:yA (f++[q,h])=yA f+2:=by simp
   have hsm:yF (f++[q,h])=yF f+(q.size+h.size):=by rw[oH];simp[yF]
   rw[P,<-N]at m;rw[<-N];have H:bB (R.ownsRow w.1.size 9 1 (.slice (bA ⟨g5,0,aA⟩) (yA (f++[q,h])) x) (yA (f++[q,h])) ((f++[q,h]).map iA.string)/\tB w R):=⟨m,y⟩
   clear m K y D L z A P;generalize f++[q,h]=l0 at *;go_wp2;exact⟨⟨k+1,l0,g5,x,by omega,by go_num,rfl,by omega,by omega,U.o,H.o.1,H.o.2⟩,by simp[intOf];omega⟩
  have U:bB (qF f=tH c):=by
   show _=_;rw[I.o,Ra (by omega),qF,MY,V.o]
  obtain⟨a0,hg,M⟩:=xG j.o;have HJ:bB (vE 159 #[pA (bA ⟨g,0,aA⟩) (yA f) C] wr (oA (qF f))):=iI g (yA f) C f wr rfl M hg a0 (by omega) (by omega);rw[U.o]at HJ;clear j M;go_wp2_with fail;apply hC HJ.o;intro w2 t;have B2:bB (tB w w2):=vB n t;clear t;go_wp2;go_ret;exact⟨rfl,B2.o⟩
