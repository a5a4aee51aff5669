import Derived.Test.YtiegonaogehghaaGreatDoorJ24
set_option maxRecDepth 100000
set_option maxHeartbeats 16000000
set_option linter.defProp false
open Option renaming some->bA,none->aA
open Bool renaming true->dA,false->cA
open List renaming length->yA
namespace Go.Proofs.YtiegonaogehghaaGreatDoor
open Go renaming World->eA,Value->iA
open Value renaming string->oA,bool->qA,slice->pA
open Ending renaming returned->uA
open Obj renaming cells->vA
open Go.RowKit Tryz
section
open Go.Maps
def nR.seen{w y:eA}{S:Nat->Prop}{x:Nat}{t:fB}{M C E z:Nat}{B:iA}{Q:List (iB×Nat)}{A:List mI}{D:DataW Unit}{q:iB×Nat}{b:Int}(h:nR w S x t M C E z B Q A D)(j:q∈Q)(H:q.1.n<=b)(l:eB (·=q.2) w y)
(F:gB y q.2 #[oA q.1.s,zA b] 58):mD y S x (vI t q.1.s b) M:=by
 have u:sC (λq:iB×Nat=>q.1.s) Q:=by
  rw[<-xW (key':=λp:iB=>p.s) (λq:iB×Nat=>q.1) (λ_=>rfl),h.q1];exact h.rs
 have d:∀{β:Type}(f:iB×Nat->β),f q=f ((⟨q.1.s,b⟩:iB),q.2)->(cC (λq:iB×Nat=>q.1.s) ((⟨q.1.s,b⟩:iB),q.2) Q).map f=Q.map f:=λf G=>
  FB (key:=λq:iB×Nat=>q.1.s) (a:=((⟨q.1.s,b⟩:iB),q.2)) f u j rfl G
 have o:yA (cC (λq:iB×Nat=>q.1.s) ((⟨q.1.s,b⟩:iB),q.2) Q)=yA Q:=by
  have:=Kd List.length (d (λq=>q.2) rfl);simpa using this
 have i:∀p,p∈cC (λq:iB×Nat=>q.1.s) ((⟨q.1.s,b⟩:iB),q.2) Q->p=((⟨q.1.s,b⟩:iB),q.2)\/(p∈Q/\p.2≠q.2):=λp c=>by
  rcases YV u c with e|⟨c,k⟩;exact Ca e;refine La ⟨c,λe=>?_⟩;have:=zR h.nd c j e;rw[this]at k;exact k rfl
 have r:(cC (λq:iB×Nat=>q.1.s) ((⟨q.1.s,b⟩:iB),q.2) Q).map (·.1)=(vI t q.1.s b).Z:=by
  rw[wR (key':=λp:iB=>p.s) (λq:iB×Nat=>q.1) (λ_=>rfl),h.q1];rfl
 refine⟨C,E,z,B,cC (λq:iB×Nat=>q.1.s) ((⟨q.1.s,b⟩:iB),q.2) Q,A,D,?_⟩;exact { h with
  blk:=l.blk h.blk (h.dx q j).symm
  lims:=l.map h.lims (yC h.lims (h.cells q j))
  Z:=by
   rw[o,d (λq=>(q.1.s,fF q.2)) rfl];exact l.map h.Z (yC h.Z (h.cells q j))
  cnts:=l.map h.cnts (yC h.cnts (h.cells q j))
  cnt:=λm=>by
   rw[h.cnt m];have:t.Z.map (·.s)=(vI t q.1.s b).Z.map (·.s):=by
    rw[<-r,<-h.q1,Vd,Vd];exact(d ((λp:iB=>p.s) ∘ λq:iB×Nat=>q.1) rfl).symm
   rw[mc this m]
  q1:=r
  cells:=λp c=>by
   rcases i p c with rfl|⟨c,k⟩;exact F;exact l.blk (h.cells p c) k
  row:=l.row h.row (λg n e=>(h.di g n).2 q j e.symm)
  perm:=by rw[d (λq=>q.2) rfl];exact h.perm
  early:=λs v p c e=>by
   rcases i p c with rfl|⟨c,_⟩;exact Int.le_trans (h.early s v q j e) H;exact h.early s v p c e
  rs:=dK h.rs
  sq:=λp c=>by
   rcases i p c with rfl|⟨c,_⟩;exact h.sq q j;exact h.sq p c
  nd:=by rw[d (λq=>q.2) rfl];exact h.nd
  dx:=λp c=>by
   rcases i p c with rfl|⟨c,_⟩;exact h.dx q j;exact h.dx p c
  di:=λg n=>⟨(h.di g n).1,λp c=>by
   rcases i p c with rfl|⟨c,_⟩;exact (h.di g n).2 q j;exact (h.di g n).2 p c⟩ }
def aDp{w j:eA}{B:Nat->Prop}{T:Nat->Option Nat}{l m:Nat}{c:gC}{i:Int}{L:List (fB×Nat)}{M M':Nat}{p:fB×Nat}{t':fB}(h:cL w B T l m c i L M)(q:∀g,w.1.size<=g->B g)(o:p∈L)(k:t'.N=p.1.N)
(b:eB (λg=>B g/\T g=bA p.2) w j)(s:mD j (λg=>(B g/\T g=bA p.2)\/w.1.size<=g) p.2 t' M')(r:M<=M'):
 eE j B l m c i ((cC (λp:fB×Nat=>p.1.N) (t',p.2) L).map (·.1)) M':=by
 refine ry (n:=yA L) h q o k b s r (eB.refl _ j) ?_;have f:DataW.put (aE (L.map λp=>(p.1.N,fF p.2))) (kL t'.N) (fF p.2)=aE ((cC (λp:fB×Nat=>p.1.N) (t',p.2) L).map λp=>(p.1.N,fF p.2)):=
  IM (key:=λp:fB×Nat=>p.1.N) (λp=>fF p.2) (t',p.2) h.rise
 have d:(cC (λp:fB×Nat=>p.1.N) (t',p.2) L).map (λp=>(p.1.N,fF p.2))=L.map λp=>(p.1.N,fF p.2):=
  FB (key:=λp:fB×Nat=>p.1.N) (a:=(t',p.2)) (λp:fB×Nat=>(p.1.N,fF p.2)) h.rise o k.symm (by simp[k])
 rw[f,d];exact b.map h.ten (λe=>by rw[h.tm]at e;cases e.2)
def eE.mono{w:eA}{B:Nat->Prop}{l m:Nat}{c:gC}{a:Int}{d:List fB}{M b:Nat}(h:eE w B l m c a d M)(f:M<=b):eE w B l m c a d b:=by
 obtain⟨T,L,h,e⟩:=h;exact⟨T,L,{ h with idx:=λp g=>(h.idx p g).mono f},e⟩
def aFw(w:eA):(zeroValue 186).run prog w=.ok (.pointer aA) w:=by kernel_rfl
def ym{w:eA}{d:Nat}{Q:List (iB×Nat)}(h:w.ownsMap prog 9 nE d (yA Q) (aE (Q.map λq=>(q.1.s,fF q.2)))){key:nB}(e:key.size<=maxLen):
 (∃q,xC (λq:iB×Nat=>q.1.s) key Q=bA q/\(Instr.lookup 185 (.map (bA d)) (oA key) dA).run prog w=.ok (.tuple #[.pointer (pB q.2),qA dA]) w)\/
 (xC (λq:iB×Nat=>q.1.s) key Q=aA/\(Instr.lookup 185 (.map (bA d)) (oA key) dA).run prog w=.ok (.tuple #[.pointer aA,qA cA]) w):=by
 obtain⟨v,f,a,c⟩:=h.look_ok qL underlying185 (aFw w) (zd:=.nil) (zp:=[]) rfl (wM e);rw[YE (key:=λq:iB×Nat=>q.1.s) (val:=λq=>fF q.2)]at a;rw[gS (key:=λq:iB×Nat=>q.1.s) (λq=>fF q.2)]at c;cases hg:xC (λq:iB×Nat=>q.1.s) key Q with
 |some q=>
  rw[hg]at a c;have b:=wQ c;subst b;exact Ca ⟨q,rfl,a⟩
 |none=>
  rw[hg]at a c;have b:=KJ c;subst b;exact La ⟨rfl,a⟩
end
section
open Go.Maps
structure Fnd(w W:World)(B:Nat→Prop)(T:Nat→Option Nat)(l m:Nat)(c:gC)(now:Int)(L:List (fB×Nat))(M:Nat)(tenant:nB)(x N:Nat)(th:Bool)(t:fB)(S:Nat→Prop):Prop where
 ix:mD W S x t N
 tn:xB (L.map (·.1)) tenant=t
 nm:t.N=tenant
 no:(xC (·.N) tenant (L.map (·.1))).isNone=!th
 led:cL W B T l m c now L M
 bw:tB w W
 sB:∀g,S g→B g
 sl:¬S l
 sm:¬S m
 mem:t∈L.map (·.1)∧th=dA∨t.Z=[]∧t.M=[]
 nM:N≤M
 put:∀k{w2 w4 w6:eA}{t':fB}{n:Nat},tB W w2→eB S w2 w4→mD w4 (λg=>S g∨w2.1.size≤g) x t' (N+k)→t'.N=tenant→eB (·=m) w4 w6→w6.ownsMap prog 9 nE m n (DataW.put (aE (L.map λp=>(p.1.N,fF p.2))) (kL tenant) (fF x))→eE w6 B l m c now (cC (·.N) t' (L.map (·.1))) (M+k)
 turn:th=dA→∀{w4:eA}{t':fB},eB S W w4→mD w4 S x t' N→t'.N=tenant→eE w4 B l m c now (cC (·.N) t' (L.map (·.1))) M
 kp:th=cA→∀{w4:eA},eB S W w4→cL w4 B T l m c now L M
 del:∀{w4 w6:eA}{n:Nat},eB S W w4→eB (·=m) w4 w6→w6.ownsMap prog 9 nE m n (DataW.del (aE (L.map λp=>(p.1.N,fF p.2))) (kL tenant))→eE w6 B l m c now (rE (·.N) tenant (L.map (·.1))) M
def aCs{w W:eA}{B:Nat->Prop}{l m:Nat}{T:Nat->Option Nat}{c:gC}{C:Int}{L:List (fB×Nat)}{M:Nat}{d:nB}{e:Ending}(h:cL w B T l m c C L M)(G:∀g,w.1.size<=g->B g)(Q:qt L d w e W):∃x N O t S,e=uA (.tuple #[.pointer (pB x),qA O])/\Fnd w W B T l m c C L M d x N O t S:=by
 have o:xC (·.N) d (L.map (·.1))=(xC (λp:fB×Nat=>p.1.N) d L).map (·.1):=nx;have y:=fun(u:fB)(x:Nat)=>wR (key:=λp:fB×Nat=>p.1.N) (key':=λt:fB=>t.N) (λp:fB×Nat=>p.1) (λ_=>rfl) (u,x) L;have E:=sZ (key:=λp:fB×Nat=>p.1.N) (key':=λt:fB=>t.N) (λp:fB×Nat=>p.1) (λ_=>rfl) d L;obtain⟨p,j,rfl,rfl⟩|⟨j,x,rfl,U,J,D⟩:=Q
 .obtain ⟨z,H⟩:=bM j;rw[j]at o;refine⟨p.2,M,dA,p.1,λg=>B g/\T g=bA p.2,rfl,h.idx p z,by unfold xB;rw[o];rfl,H,by rw[o];rfl,h,bD,λg e=>e.1,λe=>(by rw[h.tl]at e;cases e.2),λe=>(by rw[h.tm]at e;cases e.2),Ca ⟨Tc z,rfl⟩,Ia _,?_,?_,(λh=>by cases h),?_⟩
  .intro k X v I u n r a s A b O;have:=ry (p:=p) (t':=u) (M':=M+k) (h.keep λg j _=>r.block g j) (λg j=>G g (Ua r.size j)) z (A.trans H.symm) a s (by omega) b (by rw[A];exact O);rwa [y]at this
  .intro _ v u a s A;have:=aDp (p:=p) (t':=u) (M':=M) h G z (A.trans H.symm) a (s.keep λg _ f=>⟨rfl,Ca f⟩) (Ia _);rwa [y]at this
  intro v I n a b O;have:=rx (k:=d) h (λg f q R K e=>by
   rw[f.2]at e;exact K ((zR h.nd R z (Lc e).symm) ▸ H)) (λg _ f e=>by rw[e]at f;cases f.2) a b O
  rwa [E]at this
 rw[j]at o;have Y:=aB h.blk;have Z:=h.ten.lt;have F:∀{v},eB (λg=>w.1.size<=g) W v->cL v B T l m c C L M:=λa=>h.keep λg j _=>(D.trans (a.below (by have:=D.size;omega) λi J e=>by omega)).block g j;refine⟨x,0,cA,⟨d,-1,[],[]⟩,λg=>w.1.size<=g,rfl,J,by unfold xB;rw[o];rfl,rfl,by rw[o];rfl,h.keep λg j _=>D.block g j,D,λg e=>G g e,by omega,by omega,La ⟨rfl,rfl⟩,Oa _,?_,(λh=>by cases h),λ_ v a=>F a,?_⟩
 .intro k X v I u n r a s A b O;have V:=(vB D r).size;have P:=(vB D r).trans (a.below (by omega) λi J e=>by omega);have:=fv (x:=x) (t:=u) (M':=0+k) (M:=M+k) { h with idx:=λp z=>(h.idx p z).mono (by omega) } G (by rw[A];exact j) bD P U b (by rw[A];exact O) (eB.refl _ I) (s.keep λg j f=>⟨b.block g j (λe=>by rcases f with f|f<;>omega),by rcases f with f|f<;>omega⟩) (by omega);rwa [y]at this
 intro v I n a b O;have:=rx (k:=d) (S:=λ_=>False) (F a) (λg f=>f.elim) (λg _ f=>f.elim) (eB.refl _ v) b O;rwa [E]at this
end
section
open Go.Maps
def PF(l m:Nat)(a key:nB)(c:gC)(b:Int)(B:Nat->Prop)(d:List fB)(M:Nat)(w:eA)(h:eE w B l m c b d M)(hB:∀g,w.1.size<=g->B g)(hU:bH w)(o:a.size<=1400000)(o:key.size<=1400000)(o:1<=M)(o:M<=1000000000)(G:∀t∈d,yA t.Z<=1000000000)(I:∀t∈d,∀y∈t.Z,y.n<=b)(J:yA d<=1000000000):
 Calls prog 222 #[.pointer (pB l),oA a,oA key] w λe w'=>e=uA (zA ((dL c b d a key).2:Nat))/\eE w' B l m c b (dL c b d a key).1 (M+1)/\eB B w w':=by
 have O:=cB (h.mono (Gf M));have o:bB (vE 210 #[oA key] w (oA (wD key))):=rY key w (by omega) hU;have HT:bB _:=λW=>qJ a W (by unfold maxLen;omega);have U:bB (dL c b d a key=if (oC a&&!(wD key).toList.isEmpty)=cA then(d,5) else if (xC (·.s) key (xB d a).Z).isSome=dA then(cC (·.N) (vI (xB d a) key b) d,1) else if (if (xB d a).L = -1 then c.tl else(xB d a).L)<=(yA (xB d a).Z:Nat)\/((xC (·.N) a d).isNone&&decide (10000<=yA d))=dA then(d,3) else if tG (xB d a).M (wD key) c.ml<=(oI wD (xB d a).Z (wD key):Nat) then(d,4) else(cC (·.N) (vI (xB d a) key b) d,2)):=rfl;have v:bB _:=λS x t s W f Y Z hl=>qw x t key b S s W f Y (by unfold maxLen;omega) (yR key) Z hl;have Z:bB _:=λS x t s W hl f=>vT l m x c b t S s (wD key) W hl f (yR key);have b0:bB _:=fun(W:eA)(cm:Nat)(s:Nat)(D:DataW Unit)(n:Nat)(Y:W.ownsMap prog 9 (plainElem prog 3) cm s D)(s:D.atKey (kL (wD key)) (qI 0)=qI n)=>PN Y s (yR key);clear hU;generalize wD key=mk at *;generalize oC a=Y at *;generalize dL c b d a key=R at *;go_enter func222,ntmps222;go_wp2_with fail;apply hC o.o;intro w1 s;have A:=cB s;clear s o;go_wp2_with fail;refine oD (HT.o _) ?_;clear HT;have o:(Y=cA\/Y=dA/\mk.toList.isEmpty=dA)\/Y=dA/\mk.toList.isEmpty=cA:=by cases Y<;>cases mk.toList.isEmpty<;>simp
 obtain o|⟨rfl,s⟩:=o
 .have k:bB (R=(d,5)):=by show _=_;rw[U.o,Ma (by rcases o with e|⟨_,e⟩<;>rw[e]<;>simp)]
  clear U v Z b0 h;obtain rfl|⟨rfl,s⟩:=o
  all_goals
   go_wp2;go_ret;exact⟨zE (by rw[k.o];rfl),by rw[k.o];exact O.o.z A.o,eB.of A.o⟩
 obtain⟨T,L,h,rfl⟩:=h;rw[s]at U;have H1:bB _:=h.keep λg o _=>A.o.block g o;have HF:=cB (OF l m a c b B T L M w1 H1.o (by unfold maxLen;omega));have HMB:bB (B m/\B l):=⟨h.mB,h.lB⟩
 have HK:bB (keyOf prog 9 (oA a)=bA (kL a)):=wM (by unfold maxLen;omega);rw[Xa]at J;clear h;go_wp2_with fail;refine HF.o.mono ?_;intro e W Y;obtain⟨x,N,th,t,S,rfl,F⟩:=aCs H1.o (λg o=>hB g (Ua A.o.size o)) Y;have H:bB _:=vB A.o F.bw;have J:=F.nM;have r:bB (R=if (xC (·.s) key t.Z).isSome=dA then(cC (·.N) (vI t key b) (L.map (·.1)),1) else if (if t.L = -1 then c.tl else t.L)<=(yA t.Z:Nat)\/((!th) &&decide (10000<=yA L))=dA then(L.map (·.1),3) else if tG t.M mk c.ml<=(oI wD t.Z mk:Nat) then(L.map (·.1),4) else(cC (·.N) (vI t key b) (L.map (·.1)),2)):=by show _=_;rw[U.o,F.tn,F.no,Xa,Ja (by simp)]
 have hpl:yA t.Z<=1000000000:=by obtain⟨e,_⟩|⟨e,_⟩:=F.mem;exact G _ e;rw[e];simp
 have HNW:bB (∀y∈t.Z,y.n<=b):=by refine cB ?_;obtain⟨e,_⟩|⟨e,_⟩:=F.mem;exact I _ e;rw[e];simp
 have HLB:=cB F.led.blk;have x6:tC W l 6 (zA b):=F.led.blk.cell 6;have c0:=cB (KF l m x c b t S N W F.led.blk F.ix);have V:=cB (OM l m c b B T L M W F.led);have HL0:bB (∀J,tB W J->eE J B l m c b (L.map (·.1)) (M+1)):=λJ hb=>eE.mono ⟨T,L,F.led.keep λg o _=>hb.block g o,rfl⟩ (Gf M);have C:bB _:=fun(y:iC W)=>Z.o _ x t N y.w' (F.led.blk.z y.h) (F.ix.z y.h);have u:=cB F;clear HF U Z Y G I s F H1 O;obtain⟨I,G,cm,O,Q,hs,D,f⟩:=u.o.ix;have Z:=cB f;have x2:tC W x 2 (.map (bA G)):=f.blk.cell 2;have l2:=f.Z.len underlying185 3;rw[kM,show yA Q=yA t.Z by rw[<-f.q1,Xa]]at l2;have Y:bB (xC (·.s) key t.Z=(xC (λq:iB×Nat=>q.1.s) key Q).map (·.1)):=by
  show _=_;rw[<-f.q1];exact fV (key:=λq:iB×Nat=>q.1.s) (key':=λp:iB=>p.s) (λq=>q.1) (λ_=>rfl) key Q
 have d0:=cB (ym f.Z (key:=key) (by unfold maxLen;omega));have d3:=iC.cells (show tC W x 3 (.map (bA cm)) from f.blk.cell 3);have U:bB (∀y:iC W,(Instr.lookup 187 (.map (bA cm)) (oA mk) cA).run prog y.w'=.ok (zA (oI wD t.Z mk)) y.w'):=λy=>by
  obtain⟨I,G,G,O,Q,hs,D,f⟩:=u.o.ix.z y.h;have G:=f.blk.cell 3;rw[d3 y]at G;cases G
  exact b0.o _ cm _ D _ f.cnts (f.cnt mk)
 clear b0 f;obtain⟨q,hq,E⟩|⟨hq,E⟩:=d0.o
 .have k:bB (R=(cC (·.N) (vI t key b) (L.map (·.1)),1)):=by show _=_;rw[r.o,Ma (by rw[Y.o,hq];rfl)]
  obtain⟨j,hqk⟩:=bM hq;have K:=Z.o.cells q j;have G:tC W q.2 1 (zA q.1.n):=K.cell 1;have G:=K.free 1;have G:eB (·=q.2) W (W.setCell (dB q.2 1) (zA b)):=(eB.refl (·=q.2) W).setCell (Ca rfl) 1 _;have I:=Z.o.seen j (HNW.o q.1 (by rw[<-Z.o.q1];exact Tc j)) G (by have:=K.set 1 (zA b);simpa using this);rw[show q.1.s=key from hqk]at I;have O:eB S W (W.setCell (dB q.2 1) (zA b)):=G.mono λi _ e=>by subst e;exact Z.o.sq q j
  have hth:th=dA:=by
   obtain⟨_,e⟩|⟨e,_⟩:=u.o.mem;exact e;rw[<-Z.o.q1]at e;rw[List.map_eq_nil_iff.1 e]at j;cases j
  have a0:=cB ((u.o.turn hth O I u.o.nm).mono (Gf M));have g0:bB _:=(eB.of H.o).trans' (O.mono λi _ e=>u.o.sB i e);clear K G I O j hqk hq Z d0 l2;go_wp2;go_ret;exact⟨zE (by rw[k.o];rfl),by rw[k.o];exact a0.o,g0.o⟩
 have X:bB (xC (·.s) key t.Z=aA):=by show _=_;rw[Y.o,hq];rfl
 have z:bB _:=λJ(G:tB W J)=>v.o S x t N J (u.o.ix.z G) X.o (by omega) hpl;rw[X.o]at r;clear v hq d0 Y X HNW Z;generalize (if t.L = -1 then c.tl else t.L)=I at *;generalize yA t.Z=O at *;generalize decide (10000<=yA L)=Y at *;have G:(I<=(O:Int)\/¬I<=(O:Int)/\th=cA/\Y=dA)\/¬I<=(O:Int)/\(th=dA\/th=cA/\Y=cA):=by cases th<;>cases Y<;>simp<;>omega
 obtain G|⟨O,G⟩:=G
 .have k:bB (R=(L.map (·.1),3)):=by show _=_;rw[r.o,Ja (by simp),Ma (by obtain e|⟨_,e,I⟩:=G;exact Ca e;rw[e,I];simp)]
  clear r U d3 C z;obtain O|⟨O,rfl,rfl⟩:=G
  all_goals
   go_wp2_with fail;refine oD c0.o ?_;try (go_wp2_with fail;with_reducible refine oD V.o ?_)
   go_wp2;go_ret;exact⟨zE (by rw[k.o];rfl),by rw[k.o];exact HL0.o _ bD,eB.of H.o⟩
 have I:bB (R=if tG t.M mk c.ml<=(oI wD t.Z mk:Nat) then(L.map (·.1),4) else(cC (·.N) (vI t key b) (L.map (·.1)),2)):=by show _=_;rw[r.o,Ja (by simp),Ja (by rintro(e|e);exact O e;obtain h|⟨h,h'⟩:=G;rw[h]at e;simp at e;rw[h']at e;simp at e)]
 clear r;have E:=U.o;have O:=iC.there W;clear U;generalize oI wD t.Z mk=U at *;generalize tG t.M mk c.ml=W at *;obtain rfl|⟨rfl,rfl⟩:=G
 all_goals
  go_wp2_with fail;refine oD c0.o ?_;try (go_wp2_with fail;with_reducible refine oD V.o ?_)
  clear c0 V l2 x2;go_wp2_with fail;refine wB (by kernel_rfl) (by kernel_rfl) ?_;repeat (go_big_quiet_step (first|(go_at_call 230;exact wC (C.o _))|fail))
  refine wpQuiet_nil ?_;rintro _ ⟨y,rfl⟩;have h:bB _:=y.h;clear E d3 O C x6;generalize y.w'=J at *;clear y;by_cases O:W<=(U:Int)
  .have k:bB (R=(L.map (·.1),4)):=by show _=_;rw[I.o,Ma O]
   clear I;go_wp2;go_ret;exact⟨zE (by rw[k.o];rfl),by rw[k.o];exact HL0.o _ h.o,eB.of (vB H.o h.o)⟩
  have k:bB (R=(cC (·.N) (vI t key b) (L.map (·.1)),2)):=by show _=_;rw[I.o,Ja O]
  clear I;have x6:tC J l 6 (zA b):=(HLB.o.z h.o).cell 6;go_wp2_with fail;apply hC (z.o J h.o);rintro w4 ⟨I,G⟩;have s:=u.o.led.keep λg o _=>h.o.block g o;have J:=cB I;have O:=cB G;have U:bB _:=((eB.of H.o).trans' (eB.of h.o)).trans' (G.mono λi _ e=>u.o.sB i e);have o:tC w4 l 7 (.map (bA m)):=(G.blk s.blk u.o.sl).cell 7;obtain⟨w6,o,P,o⟩:=(G.map s.ten u.o.sm).store qL underlying159 (by unfold maxLen;omega) HK.o (wW x);have a0:=cB (u.o.put 1 h.o O.o J.o u.o.nm (eB.mapped o) P);have g0:bB _:=U.o.trans' ((eB.mapped o).mono λi _ e=>(show i=m from e) ▸ HMB.o.1);clear P o I G z s;go_wp2;go_ret;exact⟨zE (by rw[k.o];rfl),by rw[k.o];exact a0.o,g0.o⟩
theorem SA(l m:Nat)(a b:ByteArray)(d:Int)(c:gC)(n:Int)(B:Nat->Prop)(j:List fB)(M:Nat)(w:World)(h:eE w B l m c n j M)(hB:∀g,w.1.size<=g->B g)(o:bH w)(G:a.size<=1400000)(G:b.size<=1400000)(a0:∀t∈j,t.M.length<=1000000000)(Z:j.length<=1000000000):
 Calls prog 247 #[.pointer (pB l),.string a,.string b,zA d] w λe w'=>e=.returned (.bool (uR j a b d).2)/\eE w' B l m c n (uR j a b d).1 M/\eB B w w':=by
 have P:=cB h;have O:bB _:=λW=>qJ a W (by unfold maxLen;omega);have U:=cB (qS b w (by omega) o);have Q:bB _:=λW=>tT d W;have I:bB (uR j a b d=if (oC a&&(b.toList.isEmpty||xE b) &&zB d (-1) 1000000)=false then(j,false) else if yE (qH (xB j a) b d)=true then(rE (·.N) a j,true) else if ((xC (·.N) a j).isNone&&decide (10000<=j.length))=true then(j,false) else(cC (·.N) (qH (xB j a) b d) j,true)):=rfl;have J:bB (zB d (-1) 1000000=true->-1<=d/\d<=1000000):=λh=>zJ h;clear o;generalize oC a=o at *;generalize (b.toList.isEmpty||xE b)=Y at *;generalize zB d (-1) 1000000=b3 at *;generalize uR j a b d=R at *;have G:bB (∀W,(o&&Y&&b3)=false->Below w.1.size w W->(Ending.returned (.bool false)=.returned (.bool R.2))/\eE W B l m c n R.1 M/\eB B w W):=λW h hb=>by
  rw[I.o,Ma h];exact⟨rfl,P.o.z hb,eB.of hb⟩
 go_enter func247,ntmps247;go_wp2_with fail;refine oD (O.o _) ?_;clear O;cases o
 .go_wp2;go_ret;exact G.o _ rfl bD
 go_wp2_with fail;refine U.o.mono ?_;rintro e w2 ⟨rfl,V⟩;have o:=cB V;clear V U;cases Y
 .go_wp2;go_ret;exact G.o _ rfl o.o
 go_wp2_with fail;refine oD (Q.o _) ?_;clear Q;cases b3
 .go_wp2;go_ret;exact G.o _ rfl o.o
 obtain⟨O,hl1⟩:=J.o rfl;obtain⟨T,L,h,rfl⟩:=h;have H2:bB _:=h.keep λg hg _=>o.o.block g hg;have HF:=cB (OF l m a c n B T L M w2 H2.o (by unfold maxLen;omega));have U:bB (B m/\B l):=⟨h.mB,h.lB⟩
 have HK:bB (keyOf prog 9 (.string a)=some (kL a)):=wM (by unfold maxLen;omega);rw[Xa]at Z;clear h G;go_wp2_with fail;refine HF.o.mono ?_;intro e W Y;obtain⟨x,N,h,t,S,rfl,F⟩:=aCs H2.o (λg hg=>hB g (Ua o.o.size hg)) Y;have u:=cB F;have Z:=cB (aFv x b d t S N W F.ix (by unfold maxLen;omega) O hl1 (by obtain⟨e,_⟩|⟨_,e⟩:=F.mem;exact a0 _ e;rw[e];simp));have k:bB (R=if yE (qH t b d)=true then(rE (·.N) a (L.map (·.1)),true) else if ((!h) &&decide (10000<=L.length))=true then(L.map (·.1),false) else(cC (·.N) (qH t b d) (L.map (·.1)),true)):=by show _=_;rw[I.o,F.tn,F.no,Xa,Ja (by simp)]
 have HN:bB ((qH t b d).N=a):=by show _=_;rw[uP];exact F.nm
 have W:bB _:=vB o.o F.bw;clear HF I Y F H2 a0 J P;generalize qH t b d=t' at *;go_wp2_with fail;refine Z.o.mono ?_;rintro e I ⟨rfl,G,r⟩;have K:=cB G;have p:=cB r;have O:=cB (OO x t' S N I G);have y:=cB (r.map u.o.led.ten u.o.sm);have X:=r.blk u.o.led.blk u.o.sl;have o:I.cell? (dB l 7)=some (.map (some m)):=X.cell 7;have E:bB (eB B w I):=(eB.of W.o).trans' (r.mono λi _ e=>u.o.sB i e);clear G r Z X;go_wp2_with fail;refine oD O.o ?_;clear O;cases hidl:yE t'
 case true=>
  have z:bB (R=(rE (·.N) a (L.map (·.1)),true)):=by show _=_;rw[k.o,Ma hidl]
  clear hidl k;go_wp2_with(at_delete;refine wpList_delete_own _ rfl _ _ 159 9 rfl 97 qL underlying159 nE m _ _ rfl y.o _ _ rfl HK.o ?_;intro w6 q f);have C:=cB (u.o.del p.o (eB.mapped f) q);have D:bB _:=E.o.trans' ((eB.mapped f).mono λi _ e=>(show i=m from e) ▸ U.o.1);clear q f;go_ret;exact⟨oB (by rw[z.o]),by rw[z.o];exact C.o,D.o⟩
 by_cases s:((!h) &&decide (10000<=L.length))=true
 .have z:bB (R=(L.map (·.1),false)):=by show _=_;rw[k.o,Ja (by rw[hidl];simp),Ma s]
  simp only[Sa,Bool.not_eq_true']at s;have o:=cB (u.o.kp s.1 p.o);have v:=cB (OM l m c n B T L M I o.o);rw[s.2]at v;rw[s.1];clear hidl k s;go_wp2_with fail;refine oD v.o ?_;go_wp2;go_ret;exact⟨oB (by rw[z.o]),by rw[z.o];exact⟨T,L,o.o,rfl⟩,E.o⟩
 have z:bB (R=(cC (·.N) t' (L.map (·.1)),true)):=by show _=_;rw[k.o,Ja (by rw[hidl];simp),Ja s]
 have v:bB (h=false->Calls prog 269 #[.pointer (pB l)] I λe w'=>e=.returned (.bool false)/\w'=I):=λe=>by
  have:=OM l m c n B T L M I (u.o.kp e p.o);rwa [show decide (10000<=L.length)=false by rw[e]at s;simpa using s]at this
 obtain⟨w6,o,A,H⟩:=y.o.store qL underlying159 (by unfold maxLen;omega) HK.o (wW x);have C:=cB (u.o.put 0 bD p.o (K.o.keep λg _ hs=>⟨rfl,Ca hs⟩) HN.o (eB.mapped H) A);have D:bB _:=E.o.trans' ((eB.mapped H).mono λi _ e=>(show i=m from e) ▸ U.o.1);clear A H hidl k s K p u;cases h
 all_goals
  try (go_wp2_with fail;with_reducible refine oD (v.o trivial) ?_)
  go_wp2;go_ret;exact⟨oB (by rw[z.o]),by rw[z.o];exact C.o,D.o⟩
end
def kF(a b:jC)(c d:Nat)(N:pC):∀(j:Nat)(s:nB),(dC a c b d N)[j]?≠bA (iA.string s):=λj s=>by
 unfold dC;match j with
 |0|1|2|3|4|5|6|7|8|9|10|11|12|13=>simp
 |j+14=>simp
section
variable {w W:eA} {P:Nat} {cs:Array iA} {t:TypeId}
theorem CE(g:gB w P cs t)(f:∀(j:Nat)(s:nB),cs[j]?≠bA (iA.string s))(d:eB (·=P) w W){b o:Nat}{s:nB}(c:b<w.1.size)(h:w.cell? (dB b o)=bA (oA s)):b<W.1.size/\∀j,W.cell? (dB b j)=w.cell? (dB b j):=by
 have a:b≠P:=λe=>by subst e;rw[g.cell]at h;exact f _ _ h
 exact⟨Bb c d.size,λj=>eA.cell?_of_block (d.block b c a)⟩
theorem rB.store(m:gB w P cs t)(k:∀(j:Nat)(s:nB),cs[j]?≠bA (iA.string s))(l:eB (·=P) w W){a:jC}{c:List jB}(h:rB w a c):rB W a c:=by
 obtain h|⟨b,o,e,d,h⟩:=h;exact Ca h
 cases c with
 |nil=>exact Ca rfl
 |cons f r=>
  obtain⟨n,p⟩:=CE m k l d (h 0 (by simp)).1;exact La ⟨b,o,e,n,λi g=>by simp only[p];exact h i g⟩
theorem lC.store(m:gB w P cs t)(k:∀(j:Nat)(s:nB),cs[j]?≠bA (iA.string s))(l:eB (·=P) w W){a:jC}{c:List iB}(h:lC w a c):lC W a c:=by
 obtain h|⟨b,o,e,d,h⟩:=h;exact Ca h
 cases c with
 |nil=>exact Ca rfl
 |cons f r=>
  obtain⟨n,p⟩:=CE m k l d (h 0 (by simp)).1;exact La ⟨b,o,e,n,λi g=>by simp only[p];exact h i g⟩
theorem uC.store(l:gB w P cs t)(g:∀(j:Nat)(s:nB),cs[j]?≠bA (iA.string s))(k:eB (·=P) w W){a:jC}{m:List fB}(h:uC w a m):uC W a m:=by
 obtain h|⟨b,o,e,B,h⟩:=h;exact Ca h
 cases m with
 |nil=>exact Ca rfl
 |cons f r=>
  obtain⟨_,_,_,_,d,_⟩:=h 0 (by simp);obtain⟨D,c⟩:=CE l g k B d;refine La ⟨b,o,e,D,λi C=>?_⟩;obtain⟨n,q,p,u,v,d,x,y,z,A⟩:=h i C;exact⟨n,q,p,u,(c _).trans v,(c _).trans d,(c _).trans x,(c _).trans y,z.store l g k,A.store l g k⟩
end
def en:(prog.info? 203).map (λi=>(i.zero,i.size,i.bytes))=bA (bA (.agg #[oA ⟨#[]⟩,zA 0]),2,24):=by kernel_rfl
def eu:(prog.info? 58).map (λi=>(i.zero,i.size,i.bytes))=bA (bA (.agg #[oA ⟨#[]⟩,zA 0]),2,24):=by kernel_rfl
def ly(a:jC)(g:Nat)(c:List iB)(w:eA)(q:lC w a c)(A:yA c<=2000000):
 Calls prog 141 #[pA a (yA c) g] w λe n=>∃v,e=uA v/\n.ownsRow w.1.size 203 2 v (yA c) (flatK c)/\tB w n:=by
 have p:=λn=>Lib.run_eql_slice_nil (P:=prog) n 51 203 a (yA c) g 0 0 underlying51;cases a with
 |none=>
  have E:c=[]:=by
   obtain h|⟨b,o,e,_⟩:=q;exact h;exact absurd e (by simp)
  subst E;have y:=λn=>Lib.run_eql_slice_nil (P:=prog) n 51 203 aA 0 g 0 0 underlying51;clear p;go_enter func141,ntmps141;go_wp2;go_ret;exact⟨_,rfl,⟨rfl,Ca ⟨rfl,rfl⟩⟩,bD⟩
 |some x=>
  obtain⟨i,z,r,s,t⟩:=info_parts en;have l:(w.alloc (vA #[] 203)).ownsRow w.1.size 203 2 (pA (pB w.1.size) 0 0) 0 []:=eA.ownsRow_made w #[] 0 (Ia _) (by simp[maxLen]) (by simp);have D:=cB l;have d:∀j u,(flatK c)[j]?=bA u->(w.alloc (vA #[] 203)).cell? (x.add j)=bA u:=by
   rcases q.z (pF w (vA #[] 203)) with rfl|⟨b,o,e,_,h⟩;intro j u h;simp[flatK]at h;simp only[Qa]at e;subst e;exact sN h
  have C:bB _:=d;have B:bB _:=z;clear q l d z;go_enter func141,ntmps141;go_wp2_with(at_builtin;refine wpList_append_own_at _ rfl _ _ _ rfl w.1.size 203 i _ 2 24 underlying51 B.o r s t rfl (by omega) (pA (pB w.1.size) 0 0) 0 [] rfl D.o x (yA c) g (flatK c) rfl (aM c) C.o (sP c) (by simp[maxLen];omega) (by omega) (by simp) ?_;intro G H f m _ _);go_ret;simp only[Ya,Mb]at f;refine⟨G,rfl,f,yB.grown m (by simp) (λk F=>?_)⟩;simp[iA.ownBlock]at F;omega
def ma(a:jC)(g:Nat)(c:List iB)(w:eA)(q:lC w a c)(A:yA c<=2000000):
 Calls prog 142 #[pA a (yA c) g] w λe n=>∃v,e=uA v/\n.ownsRow w.1.size 58 2 v (yA c) (flatK c)/\tB w n:=by
 have p:=λn=>Lib.run_eql_slice_nil (P:=prog) n 52 58 a (yA c) g 0 0 underlying52;cases a with
 |none=>
  have E:c=[]:=by
   obtain h|⟨b,o,e,_⟩:=q;exact h;exact absurd e (by simp)
  subst E;have y:=λn=>Lib.run_eql_slice_nil (P:=prog) n 52 58 aA 0 g 0 0 underlying52;clear p;go_enter func142,ntmps142;go_wp2;go_ret;exact⟨_,rfl,⟨rfl,Ca ⟨rfl,rfl⟩⟩,bD⟩
 |some x=>
  obtain⟨i,z,r,s,t⟩:=info_parts eu;have l:(w.alloc (vA #[] 58)).ownsRow w.1.size 58 2 (pA (pB w.1.size) 0 0) 0 []:=eA.ownsRow_made w #[] 0 (Ia _) (by simp[maxLen]) (by simp);have D:=cB l;have d:∀j u,(flatK c)[j]?=bA u->(w.alloc (vA #[] 58)).cell? (x.add j)=bA u:=by
   rcases q.z (pF w (vA #[] 58)) with rfl|⟨b,o,e,_,h⟩;intro j u h;simp[flatK]at h;simp only[Qa]at e;subst e;exact sN h
  have C:bB _:=d;have B:bB _:=z;clear q l d z;go_enter func142,ntmps142;go_wp2_with(at_builtin;refine wpList_append_own_at _ rfl _ _ _ rfl w.1.size 58 i _ 2 24 underlying52 B.o r s t rfl (by omega) (pA (pB w.1.size) 0 0) 0 [] rfl D.o x (yA c) g (flatK c) rfl (aM c) C.o (sP c) (by simp[maxLen];omega) (by omega) (by simp) ?_;intro G H f m _ _);go_ret;simp only[Ya,Mb]at f;refine⟨G,rfl,f,yB.grown m (by simp) (λk F=>?_)⟩;simp[iA.ownBlock]at F;omega
def IN{W:eA}{B:Nat}{e:TypeId}{b:Nat}{v:iA}{n:Nat}{i:List iA}(h:W.ownsRow B e b v n i):∃a c,v=pA a n c:=by
 obtain⟨rfl,rfl⟩|⟨g,d,f,rfl,_⟩:=h.2;exact ⟨aA,0,rfl⟩;exact ⟨_,_,rfl⟩
def aKj{C:eA->Prop}{w:eA}{cs a:Array iA}{t b:TypeId}(k:∀W,tB w W->gB W w.1.size cs t->gB W (w.1.size+1) a b->W.1.size=w.1.size+1+1->C W):C ((w.alloc (vA cs t)).alloc (vA a b)):=
 k _ (vB yB yB) ((gB.new w _ _).alloc _) (by have:=gB.new (w.alloc (vA cs t)) a b;simpa using this) (by simp)
def vj(W:eA)(a:jC)(m:Nat)(d:List jB)(x:rB W a d)(z:yA d<=2000000):
 ∃l c r,(Builtin.append_ #[33,33] 33 #[pA (pB W.1.size) 0 0,pA a (yA d) m]).run prog (W.alloc (vA #[] 151))=.ok (pA l (yA d) c) r/\
  uI r W.1.size l d/\tB W r/\∀g o,l=bA (dB g o)->g<r.1.size:=by
 obtain⟨i,y,s,t,v⟩:=nL;cases a with
 |none=>
  have B:d=[]:=by
   obtain h|⟨b,o,e,_⟩:=x;exact h;exact absurd e (by simp)
  subst B;refine⟨pB W.1.size,0,W.alloc (vA #[] 151),?_,Ca rfl,yB,λg o e=>by simp only[Qa,Addr.mk.injEq]at e;simp;omega⟩;simp[Builtin.append_,run_underlying underlying33,sizeOf,typeInfo,y,Builtin.lenOf,Builtin.firstCells,storeCells]
 |some w=>
  have p:=eA.ownsRow_made W (e:=151) (size:=3) #[] 0 (Ia _) (by simp[maxLen]) (by simp);have f:∀j u,(flat d)[j]?=bA u->(W.alloc (vA #[] 151)).cell? (w.add j)=bA u:=by
   rcases x.z (pF W (vA #[] 151)) with rfl|⟨b,o,e,_,h⟩;intro j u h;simp[flat]at h;simp only[Qa]at e;subst e;exact kO h
  obtain⟨I,A,F,q,C,_,_⟩:=run_append_own_at (P:=prog) (W.alloc (vA #[] 151)) W.1.size 33 33 151 i _ 3 40 underlying33 y s t v rfl (by omega) (pA (pB W.1.size) 0 0) 0 [] p w (yA d) m (flat d) (tE d) f (pG d) (by simp[maxLen];omega) (by omega) (by simp);simp only[Ya,Mb]at q;have n:tB W A:=yB.grown C (by simp) (λk D=>by
   simp[iA.ownBlock]at D;omega)
  obtain⟨l,c,rfl⟩:=IN q;exact⟨l,c,A,F,(by obtain⟨G,H,e,E⟩:=gH q;simp only[iA.slice.injEq]at e;obtain⟨rfl,_,_⟩:=e;exact E),n,λg o e=>(q.lt g (by rw[e];rfl)).2⟩
def vk(W:eA)(a:jC)(m:Nat)(d:List iB)(x:lC W a d)(z:yA d<=2000000):
 ∃l c r,(Builtin.append_ #[51,51] 51 #[pA (pB W.1.size) 0 0,pA a (yA d) m]).run prog (W.alloc (vA #[] 203))=.ok (pA l (yA d) c) r/\
  eD r W.1.size l d/\tB W r/\∀g o,l=bA (dB g o)->g<r.1.size:=by
 obtain⟨i,y,s,t,v⟩:=info_parts en;cases a with
 |none=>
  have B:d=[]:=by
   obtain h|⟨b,o,e,_⟩:=x;exact h;exact absurd e (by simp)
  subst B;refine⟨pB W.1.size,0,W.alloc (vA #[] 203),?_,Ca rfl,yB,λg o e=>by simp only[Qa,Addr.mk.injEq]at e;simp;omega⟩;simp[Builtin.append_,run_underlying underlying51,sizeOf,typeInfo,y,Builtin.lenOf,Builtin.firstCells,storeCells]
 |some w=>
  have p:=eA.ownsRow_made W (e:=203) (size:=2) #[] 0 (Ia _) (by simp[maxLen]) (by simp);have f:∀j u,(flatK d)[j]?=bA u->(W.alloc (vA #[] 203)).cell? (w.add j)=bA u:=by
   rcases x.z (pF W (vA #[] 203)) with rfl|⟨b,o,e,_,h⟩;intro j u h;simp[flatK]at h;simp only[Qa]at e;subst e;exact sN h
  obtain⟨F,A,E,q,C,_,_⟩:=run_append_own_at (P:=prog) (W.alloc (vA #[] 203)) W.1.size 51 51 203 i _ 2 24 underlying51 y s t v rfl (by omega) (pA (pB W.1.size) 0 0) 0 [] p w (yA d) m (flatK d) (aM d) f (sP d) (by simp[maxLen];omega) (by omega) (by simp);simp only[Ya,Mb]at q;have n:tB W A:=yB.grown C (by simp) (λk D=>by
   simp[iA.ownBlock]at D;omega)
  obtain⟨l,c,rfl⟩:=IN q;exact⟨l,c,A,E,vD q,n,λg o e=>(q.lt g (by rw[e];rfl)).2⟩
def vl(W:eA)(a:jC)(m:Nat)(d:List iB)(x:lC W a d)(z:yA d<=2000000):
 ∃l c r,(Builtin.append_ #[52,52] 52 #[pA (pB W.1.size) 0 0,pA a (yA d) m]).run prog (W.alloc (vA #[] 58))=.ok (pA l (yA d) c) r/\
  eD r W.1.size l d/\tB W r/\∀g o,l=bA (dB g o)->g<r.1.size:=by
 obtain⟨i,y,s,t,v⟩:=info_parts eu;cases a with
 |none=>
  have B:d=[]:=by
   obtain h|⟨b,o,e,_⟩:=x;exact h;exact absurd e (by simp)
  subst B;refine⟨pB W.1.size,0,W.alloc (vA #[] 58),?_,Ca rfl,yB,λg o e=>by simp only[Qa,Addr.mk.injEq]at e;simp;omega⟩;simp[Builtin.append_,run_underlying underlying52,sizeOf,typeInfo,y,Builtin.lenOf,Builtin.firstCells,storeCells]
 |some w=>
  have p:=eA.ownsRow_made W (e:=58) (size:=2) #[] 0 (Ia _) (by simp[maxLen]) (by simp);have f:∀j u,(flatK d)[j]?=bA u->(W.alloc (vA #[] 58)).cell? (w.add j)=bA u:=by
   rcases x.z (pF W (vA #[] 58)) with rfl|⟨b,o,e,_,h⟩;intro j u h;simp[flatK]at h;simp only[Qa]at e;subst e;exact sN h
  obtain⟨F,A,E,q,C,_,_⟩:=run_append_own_at (P:=prog) (W.alloc (vA #[] 58)) W.1.size 52 52 58 i _ 2 24 underlying52 y s t v rfl (by omega) (pA (pB W.1.size) 0 0) 0 [] p w (yA d) m (flatK d) (aM d) f (sP d) (by simp[maxLen];omega) (by omega) (by simp);simp only[Ya,Mb]at q;have n:tB W A:=yB.grown C (by simp) (λk D=>by
   simp[iA.ownBlock]at D;omega)
  obtain⟨l,c,rfl⟩:=IN q;exact⟨l,c,A,E,vD q,n,λg o e=>(q.lt g (by rw[e];rfl)).2⟩
def OZ(a:jC)(y:Nat)(K:gE)(w:eA)(G:rB w a K.fs)(c:yA K.fs<=1048576):
 Calls prog 40 #[.agg #[pA a (yA K.fs) y,zA K.c,zA K.k,zA K.cr,zA K.fl,qA K.dn]] w λe z=>∃s o,e=uA (.agg #[pA s (yA K.fs) o,zA K.c,zA K.k,zA K.cr,zA K.fl,qA K.dn])/\bJ z (λx=>w.1.size<=x/\x<z.1.size) s K.fs/\tB w z:=by
 go_enter func40,ntmps40;go_upto_region 1 with fail;refine aKj (C:=λW=>Code.wp prog _ _ _ W) ?_;intro A p t D q;obtain⟨E,F,w2,n,H,j,_⟩:=vj A a y K.fs (G.z p) (by omega);have r:=cB n;have l:=t.z j;have m:=D.z j;have Q:=cB (H.toA (Ia _));have B:=cB (vB p j);have c:tC A w.1.size 0 (pA a (yA K.fs) y):=t.cell 0;have R:w.1.size<A.1.size:=by omega
 have V:=l.cell 0;have X:=l.cell 1;have Y:=l.cell 2;have Z:=l.cell 3;have c:=l.cell 4;have h:=l.cell 5;have I:=m.cell 0;have J:=m.cell 1;have L:=m.cell 2;have M:=m.cell 3;have N:=m.cell 4;have O:=m.cell 5;simp only[Xb,Ob,Ga]at V X Y Z c h I J L M N O;obtain⟨b,d,f,g,h,i,_⟩:=l.frees;obtain⟨c,c,c,c,c,c,_⟩:=m.frees;have P:=cB q;clear p t D n H j l m G q;go_wp2_with(at_builtin;refine Lib.wpList_append_run _ rfl _ _ _ _ rfl _ _ rfl rfl _ _ r.o ?_);refine bodyPost_ret (v:=.agg #[pA E (yA K.fs) F,zA K.c,zA K.k,zA K.cr,zA K.fl,qA K.dn]) (by simp[results,results40,go_sem,I,J,L,M,N,O]) rfl ?_;refine eB.end2 (S:=λx=>x=w.1.size\/x=w.1.size+1) (C:=λW=>∃s o,Ending.returned (.agg #[pA E (yA K.fs) F,zA K.c,zA K.k,zA K.cr,zA K.fl,qA K.dn])=Ending.returned (.agg #[pA s (yA K.fs) o,zA K.c,zA K.k,zA K.cr,zA K.fl,qA K.dn])/\bJ W (λx=>w.1.size<=x/\x<W.1.size) s K.fs/\tB w W) w2 (by
  repeat (with_reducible first|exact eB.refl _ _|refine eB.setCell ?_ (Ca (by first|exact Ca rfl|exact La rfl)) _ _)) ?_
 intro w6 u;have U:=u.size;have q:=P.o;exact⟨_,_,rfl,(Q.o.turned u (λx T _ e=>by omega)).mono (λx T=>by omega),B.o.trans (u.below (by have:=B.o.size;omega) (λk c e=>by omega))⟩
def ev:(prog.info? 54).map (λi=>(i.zero,i.size,i.bytes))=bA (bA (.agg #[oA ⟨#[]⟩,zA 0,pA aA 0 0,pA aA 0 0]),4,72):=by kernel_rfl
def YC(a:List TV):yA (dF a)=yA a*4:=by
 induction a with
 |nil=>rfl
 |cons x r b=>simp only[dF,Xc,Kb,Zb,List.length_nil]at b |-;omega
def nf(b:List TV):∀u∈dF b,u.oneCell'=dA:=by
 intro u a;simp only[dF,Ig]at a;obtain⟨x,_,a⟩:=a;simp only[Lb,List.mem_nil_iff,Bf]at a;rcases a with rfl|rfl|rfl|rfl<;>rfl
def WH{w:eA}{b:Nat}:∀(n:List fB)(o:Nat),(∀i(h:i<yA n),TD w b (o+i*4) n[i])->∃c:List TV,c.map (·.t)=n/\RP w c/\∀j u,(dF c)[j]?=bA u->w.cell? (dB b (o+j))=bA u
 |[],_,_=>⟨[],rfl,λy d=>(by cases d),λj u h=>(by simp[dF]at h)⟩
 |t::r,o,h=>by
  obtain⟨c,A,B,C⟩:=WH r (o+4) (λi D=>by
   have:=h (i+1) (by simpa using D);rw[show o+(i+1)*4=o+4+i*4 by omega]at this;simpa using this)
  obtain⟨f,k,g,l,p,q,s,v,x,z⟩:=h 0 (by simp);simp only[Nat.zero_mul,Bg,Eg]at p q s v x z;refine⟨⟨t,f,k,g,l⟩:: c,by rw[Fc,A],λy d=>?_,λj u a=>?_⟩
  .rcases Lb.1 d with rfl|d
   .exact ⟨x,z⟩
   exact B y d
  have e:dF (⟨t,f,k,g,l⟩:: c)=[oA t.N,zA t.L,pA f (yA t.M) k,pA g (yA t.Z) l]++dF c:=by simp[dF]
  rw[e]at a;match j,a with
  |0,a=>simp at a;rw[<-a];exact p
  |1,a=>simp at a;rw[<-a];exact q
  |2,a=>simp at a;rw[<-a];exact s
  |3,a=>simp at a;rw[<-a];exact v
  |j+4,a=>
   have m:(dF c)[j]?=bA u:=by simpa using a
   have:=C j u m;rw[show o+(j+4)=o+4+j by omega];exact this
def lz(a:jC)(l:Nat)(f:List fB)(z w:eA)(E:uC z a f)(s:tB z w)(N:yA f<=2000000):
 Calls prog 140 #[pA a (yA f) l] w λe r=>∃v c,e=uA v/\r.ownsRow w.1.size 54 4 v (yA f) (dF c)/\c.map (·.t)=f/\RP z c/\tB w r:=by
 have D:=λr=>Lib.run_eql_slice_nil (P:=prog) r 38 54 a (yA f) l 0 0 underlying38;cases a with
 |none=>
  have S:f=[]:=by
   obtain h|⟨b,o,e,_⟩:=E;exact h;exact absurd e (by simp)
  subst S;have L:=λr=>Lib.run_eql_slice_nil (P:=prog) r 38 54 aA 0 l 0 0 underlying38;clear D;go_enter func140,ntmps140;go_wp2;go_ret;exact⟨_,[],rfl,⟨rfl,Ca ⟨rfl,rfl⟩⟩,rfl,λy F=>(by cases F),bD⟩
 |some J=>
  obtain⟨i,M,G,H,I⟩:=info_parts ev;obtain⟨c,q,m,d⟩:∃c:List TV,c.map (·.t)=f/\RP z c/\∀j u,(dF c)[j]?=bA u->(w.alloc (vA #[] 54)).cell? (J.add j)=bA u:=by
   obtain rfl|⟨b,o,e,K,h⟩:=E;exact ⟨[],rfl,λy F=>(by cases F),λj u h=>by simp[dF]at h⟩;simp only[Qa]at e;subst e;obtain⟨c,V,W,X⟩:=WH f o h;refine⟨c,V,W,λj u U=>?_⟩;rw[MO];exact((pF w _).cell (Bb K s.size)).trans ((s.cell K).trans (X j u U))
  have x:yA c=yA f:=by rw[<-q,Xa]
  have n:(w.alloc (vA #[] 54)).ownsRow w.1.size 54 4 (pA (pB w.1.size) 0 0) 0 []:=eA.ownsRow_made w #[] 0 (Ia _) (by simp[maxLen]) (by simp);have R:=cB n;have Q:=cB d;have O:bB (prog.info? 54=bA i):=M;have A:bB (yA (dF c)=yA f*4):=by show _=_;rw[YC,x]
  have C:=cB q;have B:=cB m;clear E n d M q m x;go_enter func140,ntmps140;go_wp2_with(at_builtin;refine wpList_append_own_at _ rfl _ _ _ rfl w.1.size 54 i _ 4 72 underlying38 O.o G H I rfl (by omega) (pA (pB w.1.size) 0 0) 0 [] rfl R.o J (yA f) l (dF c) rfl A.o Q.o (nf c) (by simp[maxLen];omega) (by omega) (by simp) ?_;intro Y Z g p _ _);go_ret;simp only[Ya,Mb]at g;refine⟨Y,c,rfl,g,C.o,B.o,yB.grown p (by simp) (λk T=>?_)⟩;simp[iA.ownBlock]at T;omega
def zG{P:Program}{w:eA}{b:Array Oper}{o:Oper}{a:Act}{K:Act->eA->Prop}{Q:Exit->Act->eA->Prop}{E:Prop}{f:FuncId}{args:Array iA}(c:o.guard=aA)(i:(execOp a.eval o).run P w=.ok (.enter f args) w)
(h:Calls P f args w (λe d=>∃v,e=uA v/\K (a.put o.dst v) d)):if Region.wanted o (yielded b a.tmps)=dA then Oper.wp P o a w K Q else E:=by
 have j:Region.wanted o (yielded b a.tmps)=dA:=by simp[Region.wanted,c]
 rw[Ma j];unfold Oper.wp;rw[i];refine h.mono ?_;rintro e d ⟨v,rfl,g⟩;exact g
structure ug(w wr:World)(B g n cap:Nat)(T:Nat→Nat)(ys:List TV)(k:Nat)(m:Bool):Prop where
 row:wr.ownsRow B 54 4 (pA (pB g) n cap) n (dF ys)
 len:yA ys=n
 tg:T g=0
 own:∀i(h:i<yA ys),i<k→wE wr B T (2*i+1) ys[i].a1 ys[i].t.M∧wE wr B T (2*i+2) ys[i].a2 ys[i].t.Z
 half:m=dA→∀h:k<yA ys,wE wr B T (2*k+1) ys[k].a1 ys[k].t.M
 old:∀i(h:i<yA ys),k≤i→lC w ys[i].a2 ys[i].t.Z∧(m=cA∨k<i→lC w ys[i].a1 ys[i].t.M)
def ng(l:List TV)(i:Nat)(d:i<yA l)(a:jC)(c:Nat):dF (l.set i ⟨l[i].t,a,c,l[i].a2,l[i].c2⟩)=(dF l).set (i*4+2) (.slice a (yA l[i].t.M) c):=by
 induction l generalizing i with
 |nil=>simp at d
 |cons p r e=>
  cases i with
  |zero=>rfl
  |succ i=>
   have b:i<yA r:=by simpa using d
   have:=e i b;simp only[dF,Jd,Xc,Ec]at this |-
   rw[this,show(i+1)*4+2=(i*4+2)+4 by omega];rfl
def nh(l:List TV)(i:Nat)(d:i<yA l)(a:jC)(c:Nat):dF (l.set i ⟨l[i].t,l[i].a1,l[i].c1,a,c⟩)=(dF l).set (i*4+3) (.slice a (yA l[i].t.Z) c):=by
 induction l generalizing i with
 |nil=>simp at d
 |cons p r e=>
  cases i with
  |zero=>rfl
  |succ i=>
   have b:i<yA r:=by simpa using d
   have:=e i b;simp only[dF,Jd,Xc,Ec]at this |-
   rw[this,show(i+1)*4+3=(i*4+3)+4 by omega];rfl
def iy{w:eA}{M g n a:Nat}{f:List iA}{j:Nat}{v:iA}(h:w.ownsRow M 54 4 (pA (pB g) n a) n f):(w.setCell (dB g j) v).ownsRow M 54 4 (pA (pB g) n a) n (f.set j v):=by
 refine⟨by rw[Pd];exact h.1,?_⟩;obtain⟨e,_⟩|⟨q,d,b,e,o,p,i,k,l,m⟩:=h.2
 .cases e
 simp only[iA.slice.injEq,Qa,Addr.mk.injEq,Cc]at e;obtain⟨rfl,_,rfl⟩:=e;have c:gB w g b 54:=p;refine La ⟨g,a,b.setIfInBounds j v,rfl,o,c.set j v,i,k,by simp[l],?_⟩;rw[Jf,List.take_set,m]
def VL{w:eA}{B b n:Nat}{T:Nat->Nat}{a:jC}{c:List iB}(h:eD w B a c)(e:b<=B)(d:∀g,B<=g->g<w.1.size->T g=n):wE w b T n a c:=by grind [eD,wE]
def ug.limits{w wr j:eA}{B g n u k:Nat}{T:Nat->Nat}{d:List TV}{a:jC}{c:Nat}(h:ug w wr B g n u T d k cA)(H:k<yA d)(z:tB wr j)(G:B<=wr.1.size)(I:j.ownsRow wr.1.size 203 2 (.slice a (yA d[k].t.M) c) (yA d[k].t.M) (flatK d[k].t.M)):
 ug w (j.setCell (dB g (k*4+2)) (.slice a (yA d[k].t.M) c)) B g n u (λg=>if g<wr.1.size then T g else 2*k+1) (d.set k ⟨d[k].t,a,c,d[k].a2,d[k].c2⟩) k dA:=by
 have x:=(h.row.lt g rfl).2;have D:eB (·=g) j (j.setCell (dB g (k*4+2)) (.slice a (yA d[k].t.M) c)):=(eB.refl (·=g) j).setCell (Ca rfl) _ _;have r:∀q,q<wr.1.size->q≠g->(j.setCell (dB g (k*4+2)) (.slice a (yA d[k].t.M) c)).heap[q]?=wr.heap[q]?:=λq s A=>by
  rw[D.block q (by have:=z.size;omega) A,z.block q s]
 have f:∀{q:jC}{F:List iB}{m:Nat},0<m->wE wr B T m q F->wE (j.setCell (dB g (k*4+2)) (.slice a (yA d[k].t.M) c)) B (λg=>if g<wr.1.size then T g else 2*k+1) m q F:=λM C=>C.keep λq s _ v=>⟨r q s (λe=>by rw[e,h.tg]at v;omega),by simp only[Ma s];exact v⟩
 exact {
  row:=by rw[ng d k H];exact iy (eC h.row z)
  len:=by rw[Pd];exact h.len
  tg:=by simp only[Ma x];exact h.tg
  own:=λi y p=>by
   have o:i<yA d:=by simpa using y
   rw[Of (by omega)];obtain⟨K,L⟩:=h.own i o p;exact⟨f (by omega) K,f (by omega) L⟩
  half:=λ_ y=>by
   rw[Oe];have:=vD (l:=d[k].t.M) I;have C:=VL (b:=B) (n:=2*k+1) (T:=λg=>if g<wr.1.size then T g else 2*k+1) this G (λq s _=>by simp only[Ja (show ¬q<wr.1.size by omega)]);refine C.keep λq s _ v=>⟨D.block q s (λe=>?_),v⟩
   subst e;simp only[Ma x,h.tg]at v;omega
  old:=λi y p=>by
   have o:i<yA d:=by simpa using y
   obtain⟨E,J⟩:=h.old i o p;by_cases e:i=k
   .subst e;rw[Oe];exact⟨E,λh=>by obtain h|h:=h;cases h;omega⟩
   rw[Of (by omega)];exact⟨E,λ_=>J (Ca rfl)⟩ }
def ug.series{w wr j:eA}{B g n s k:Nat}{T:Nat->Nat}{d:List TV}{a:jC}{c:Nat}(h:ug w wr B g n s T d k dA)(D:k<yA d)(x:tB wr j)(G:B<=wr.1.size)(H:j.ownsRow wr.1.size 58 2 (.slice a (yA d[k].t.Z) c) (yA d[k].t.Z) (flatK d[k].t.Z)):
 ug w (j.setCell (dB g (k*4+3)) (.slice a (yA d[k].t.Z) c)) B g n s (λg=>if g<wr.1.size then T g else 2*k+2) (d.set k ⟨d[k].t,d[k].a1,d[k].c1,a,c⟩) (k+1) cA:=by
 have v:=(h.row.lt g rfl).2;have E:eB (·=g) j (j.setCell (dB g (k*4+3)) (.slice a (yA d[k].t.Z) c)):=(eB.refl (·=g) j).setCell (Ca rfl) _ _;have p:∀q,q<wr.1.size->q≠g->(j.setCell (dB g (k*4+3)) (.slice a (yA d[k].t.Z) c)).heap[q]?=wr.heap[q]?:=λq r A=>by
  rw[E.block q (by have:=x.size;omega) A,x.block q r]
 have f:∀{q:jC}{F:List iB}{m:Nat},0<m->wE wr B T m q F->wE (j.setCell (dB g (k*4+3)) (.slice a (yA d[k].t.Z) c)) B (λg=>if g<wr.1.size then T g else 2*k+2) m q F:=λM C=>C.keep λq r _ u=>⟨p q r (λe=>by rw[e,h.tg]at u;omega),by simp only[Ma r];exact u⟩
 exact {
  row:=by rw[nh d k D];exact iy (eC h.row x)
  len:=by rw[Pd];exact h.len
  tg:=by simp only[Ma v];exact h.tg
  own:=λi y z=>by
   have o:i<yA d:=by simpa using y
   by_cases e:i=k
   .subst e;rw[Oe];refine⟨f (by omega) (h.half rfl D),?_⟩;have:=vD (l:=d[i].t.Z) H;have C:=VL (b:=B) (n:=2*i+2) (T:=λg=>if g<wr.1.size then T g else 2*i+2) this G (λq r _=>by simp only[Ja (show ¬q<wr.1.size by omega)]);refine C.keep λq r _ u=>⟨E.block q r (λe=>?_),u⟩
    subst e;simp only[Ma v,h.tg]at u;omega
   rw[Of (by omega)];obtain⟨K,L⟩:=h.own i o (by omega);exact⟨f (by omega) K,f (by omega) L⟩
  half:=λh=>by cases h
  old:=λi y z=>by
   have o:i<yA d:=by simpa using y
   obtain⟨I,J⟩:=h.old i o (by omega);rw[Of (by omega)];exact⟨I,λ_=>J (La (by omega))⟩ }
def ug.keep{w wr w':eA}{S:Nat->Prop}{B g n c k:Nat}{T:Nat->Nat}{r:List TV}{m:Bool}(h:ug w wr B g n c T r k m)(p:eB S wr w')(o:∀q,S q->q<B):ug w w' B g n c T r k m:=by
 have l:∀q,q<wr.1.size->B<=q->w'.heap[q]?=wr.heap[q]?:=λq a b=>p.block q a (λe=>by have:=o q e;omega);exact { h with
  row:=p.row h.row (λq a e=>by have:=(h.row.lt q a).1;have:=o q e;omega)
  own:=λi j f=>⟨(h.own i j f).1.keep λq a b d=>⟨l q a b,d⟩,(h.own i j f).2.keep λq a b d=>⟨l q a b,d⟩⟩
  half:=λs j=>(h.half s j).keep λq a b d=>⟨l q a b,d⟩ }
def ug.done{w wr:eA}{B g n a:Nat}{T:Nat->Nat}{d:List TV}{j:List fB}(h:ug w wr B g n a T d n cA)(b:d.map (·.t)=j):zC wr B (pB g) j:=
 cS.own (e:=54) (n:=n) (cap:=a) ⟨T,d,h.row,b,λq f=>by simp only[iA.ownBlock,Qa]at f;rw[<-f];exact h.tg,λi c=>h.own i c (by rw[h.len]at c;exact c)⟩ (by rw[<-b,Xa];exact h.len)
section
open Go.Extern.Stop Go.Stop Go.Extern
def tm2(x:Int):(x.tmod 2 != 0)=decide (x % 2=1):=by
 have h:x.tmod 2=0 ↔ (2:Int) ∣ x:=(Int.dvd_iff_tmod_eq_zero ..).symm;by_cases e:x.tmod 2=0
 .have:=h.1 e;simp only[e,bne_self_eq_false];symm;simp;omega
 have:=λq=>e (h.2 q);rw[bne_iff_ne.2 e];symm;simp;omega
def aCd{b:Int}(h:wrap64 b=b):∀k,XR k b=wrap64 (b*2 ^ k)
 |0=>by simp[XR,h]
 |k+1=>by
  rw[XR,aCd h k,Int.pow_succ,<-Int.mul_assoc];generalize b*2 ^ k=y;unfold wrap64;omega
def aLl{b:Int}(h:wrap64 b=b):yY b=decide (9218868437227405312<b % 9223372036854775808):=by
 unfold yY;rw[aCd h 12];simp only[ZC,shK,tm2];unfold wrap64 at *;rw[Qb];simp only[Sa,Ab,bne_iff_ne,Oc,Int.reducePow];constructor;rintro ⟨a,c⟩;omega;intro a;refine⟨?_,?_⟩<;>omega
def aEh(n:Nat):(Ieee.double.order n n==bA .eq)=decide (¬9218868437227405312<n % 9223372036854775808):=by
 unfold Ieee.Format.order Ieee.Format.read;rw[show Ieee.double.signWeight=9223372036854775808 from by decide,show Ieee.double.infRung=9218868437227405312 from by decide,show Ieee.double.binade=4503599627370496 from by decide];dsimp only;(repeat' split)<;>(simp[Ieee.Datum.order];omega)
def aGo(n:Int)(w:eA):(callFunc 268 #[.int .u64 n]).run prog w=.ok (.value (.float .f64 n.toNat)) w:=by
 rw[@run_callFunc_extern prog 268 _ Extern.MathFloatBits.float64frombits func268 (by kernel_rfl) (by kernel_rfl) (by kernel_rfl) (by kernel_rfl)];rfl
def YP(b:Int)(w:eA)(c : -9223372036854775808<=b)(d:b<=9223372036854775807):hI 221 #[zA b] w (qA (!yY b)):=by
 have g:=aGo;have a:bB ((FloatKind.f64.format.order (IntKind.u64.wrap b).toNat (IntKind.u64.wrap b).toNat==bA .eq)=!yY b):=by
  show(Ieee.double.order (b % 18446744073709551616).toNat (b % 18446744073709551616).toNat==bA .eq)=!yY b;rw[aEh,aLl (by unfold wrap64;omega)];rw[Qb];simp;omega
 clear c d;go_enter func221,ntmps221;go_wp2;go_ret;exact⟨by simp[a.o],rfl⟩
end
section
open Go.Maps
structure WQ(w W:World)(B K:Nat→Prop)(v3 v4:Value)(ps:List nB)(rs:List qE)(l m:Nat)(c:gC)(now:Int)(ts:List fB)(M:Nat):Prop where
 led:eE W K l m c now ts M
 new:∀g,W.1.size≤g→K g
 sub:∀g,K g→B g
 row3:W.ownsRow w.1.size 9 1 v3 (yA ps) (ps.map iA.string)
 row4:W.ownsRow w.1.size 132 4 v4 (yA rs) (EG rs)
 off3:∀g,v3.ownBlock=bA g→¬K g∧v4.ownBlock≠bA g
 off4:∀g,v4.ownBlock=bA g→¬K g
 turn:eB B w W
section
variable {w W W':eA} {B K:Nat→Prop} {v3 v4:iA} {ps:List nB} {rs:List qE} {l m:Nat} {c:gC} {now:Int} {ts ts':List fB} {M M' g n cap:Nat}
theorem WQ.z(h:WQ w W B K v3 v4 ps rs l m c now ts M)(a:tB W W'):WQ w W' B K v3 v4 ps rs l m c now ts M:=
 ⟨h.led.z a,λg b=>h.new g (Ua a.size b),h.sub,eC h.row3 a,eC h.row4 a,h.off3,h.off4,h.turn.trans' (eB.of a)⟩
theorem WQ.judged(h:WQ w W B K v3 v4 ps rs l m c now ts M)(b:eE W' K l m c now ts' M')(a:eB K W W'):WQ w W' B K v3 v4 ps rs l m c now ts' M':=
 ⟨b,λg d=>h.new g (Ua a.size d),h.sub,a.row h.row3 λg e=>(h.off3 g e).1,a.row h.row4 h.off4,h.off3,h.off4,h.turn.trans' (a.mono λi _ e=>h.sub i e)⟩
theorem WQ.led'(h:WQ w W B K v3 v4 ps rs l m c now ts M){v:iA}(f:∀g,v.ownBlock=bA g->¬K g)(d:eB (λi=>w.1.size<=i/\v.ownBlock=bA i) W W'):eE W' (λg=>K g/\g<W.1.size\/W'.1.size<=g) l m c now ts M:=
 h.led.re λg b a=>⟨d.block g b λe=>f g e.2 a,Ca ⟨a,b⟩⟩
theorem WQ.app3(h:WQ w W B K v3 v4 ps rs l m c now ts M){x:nB}(p:W'.ownsRow w.1.size 9 1 (pA (pB g) (yA ps+1) cap) (yA ps+1) (ps.map iA.string++[oA x]))(j:eB (λi=>w.1.size<=i/\v3.ownBlock=bA i) W W')(a:v3.ownBlock=bA g\/W.1.size<=g)(o:∀g,w.1.size<=g->B g):WQ w W' B (λg=>K g/\g<W.1.size\/W'.1.size<=g) (.slice (pB g) (yA (ps++[x])) cap) v4 (ps++[x]) rs l m c now ts M:=by
 have r:=j.size;have n:=h.turn.size;have f:=wG p g rfl;have k:=λq e=>wG h.row4 q e;refine⟨h.led' (λg e=>(h.off3 g e).1) j,λg f=>La f,λg f=>f.elim (λe=>h.sub g e.1) λe=>o g (by omega),by rw[show(ps++[x]).length=yA ps+1 by simp,Ld];exact p,j.row h.row4 λq e d=>(h.off3 q d.2).2 e,λq e=>?_,λq e b=>?_,h.turn.trans' (j.mono λi _ e=>o i e.1)⟩
 .obtain rfl:g=q:=by simpa[iA.ownBlock]using e
  obtain a|a:=a;exact ⟨λb=>b.elim (λe=>(h.off3 _ a).1 e.1) λe=>by omega,(h.off3 _ a).2⟩;exact ⟨λb=>b.elim (λe=>by omega) λe=>by omega,λe=>by have:=k _ e;omega⟩
 exact b.elim (λd=>h.off4 q e d.1) λd=>by have:=k _ e;omega
theorem WQ.app4(h:WQ w W B K v3 v4 ps rs l m c now ts M){x:qE}(p:W'.ownsRow w.1.size 132 4 (pA (pB g) (yA rs+1) cap) (yA rs+1) (EG rs++[zA x.K,oA x.T,oA x.X,zA x.U]))(j:eB (λi=>w.1.size<=i/\v4.ownBlock=bA i) W W')(a:v4.ownBlock=bA g\/W.1.size<=g)(o:∀g,w.1.size<=g->B g):WQ w W' B (λg=>K g/\g<W.1.size\/W'.1.size<=g) v3 (.slice (pB g) (yA (rs++[x])) cap) ps (rs++[x]) l m c now ts M:=by
 have s:=j.size;have n:=h.turn.size;have d:=wG p g rfl;have k:=λq e=>wG h.row3 q e;have r:EG (rs++[x])=EG rs++[zA x.K,oA x.T,oA x.X,zA x.U]:=by simp[EG]
 refine⟨h.led' h.off4 j,λg d=>La d,λg d=>d.elim (λe=>h.sub g e.1) λe=>o g (by omega),j.row h.row3 λq e b=>(h.off3 q e).2 b.2,by rw[show(rs++[x]).length=yA rs+1 by simp,r];exact p,λq e=>⟨λf=>f.elim (λb=>(h.off3 q e).1 b.1) λb=>by have:=k _ e;omega,λb=>?_⟩,λq e f=>?_,h.turn.trans' (j.mono λi _ e=>o i e.1)⟩
 .obtain rfl:g=q:=by simpa[iA.ownBlock]using b
  obtain a|a:=a;exact (h.off3 _ e).2 a;have:=k _ e;omega
 obtain rfl:g=q:=by simpa[iA.ownBlock]using e
 obtain a|a:=a
 .exact f.elim (λe=>h.off4 _ a e.1) λe=>by omega
 exact f.elim (λe=>by omega) λe=>by omega
end
end
