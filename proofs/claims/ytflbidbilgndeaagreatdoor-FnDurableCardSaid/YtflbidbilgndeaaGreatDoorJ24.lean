import Derived.Test.YtflbidbilgndeaaGreatDoorJ22
set_option maxRecDepth 100000
set_option maxHeartbeats 16000000
set_option linter.defProp false
open Option renaming some->bA,none->aA
open Bool renaming true->dA,false->cA
open List renaming length->yA
namespace Go.Proofs.YtflbidbilgndeaaGreatDoor
open Go renaming World->eA,Value->iA
open Value renaming string->oA,bool->qA,slice->pA
open Ending renaming returned->uA
open Obj renaming cells->vA
open Go.RowKit Tryz
section
open Go.Maps
def jS.seen{w y:eA}{S:Nat->Prop}{x:Nat}{t:fB}{M C E z:Nat}{B:iA}{Q:List (kB×Nat)}{A:List zI}{D:DataW Unit}{q:kB×Nat}{b:Int}(h:jS w S x t M C E z B Q A D)(j:q∈Q)(H:q.1.n<=b)(l:eB (·=q.2) w y)
(F:nB y q.2 #[oA q.1.s,zA b] 98):vD y S x (kJ t q.1.s b) M:=by
 have u:zC (λq:kB×Nat=>q.1.s) Q:=by
  rw[<-fY (key':=λp:kB=>p.s) (λq:kB×Nat=>q.1) (λ_=>rfl),h.q1];exact h.rs
 have d:∀{β:Type}(f:kB×Nat->β),f q=f ((⟨q.1.s,b⟩:kB),q.2)->(fC (λq:kB×Nat=>q.1.s) ((⟨q.1.s,b⟩:kB),q.2) Q).map f=Q.map f:=λf G=>
  GY (key:=λq:kB×Nat=>q.1.s) (a:=((⟨q.1.s,b⟩:kB),q.2)) f u j rfl G
 have o:yA (fC (λq:kB×Nat=>q.1.s) ((⟨q.1.s,b⟩:kB),q.2) Q)=yA Q:=by
  have:=Kd List.length (d (λq=>q.2) rfl);simpa using this
 have i:∀p,p∈fC (λq:kB×Nat=>q.1.s) ((⟨q.1.s,b⟩:kB),q.2) Q->p=((⟨q.1.s,b⟩:kB),q.2)\/(p∈Q/\p.2≠q.2):=λp c=>by
  rcases bg u c with e|⟨c,k⟩;exact Ca e;refine La ⟨c,λe=>?_⟩;have:=aT h.nd c j e;rw[this]at k;exact k rfl
 have r:(fC (λq:kB×Nat=>q.1.s) ((⟨q.1.s,b⟩:kB),q.2) Q).map (·.1)=(kJ t q.1.s b).Z:=by
  rw[xS (key':=λp:kB=>p.s) (λq:kB×Nat=>q.1) (λ_=>rfl),h.q1];rfl
 refine⟨C,E,z,B,fC (λq:kB×Nat=>q.1.s) ((⟨q.1.s,b⟩:kB),q.2) Q,A,D,?_⟩;exact { h with
  blk:=l.blk h.blk (h.dx q j).symm
  lims:=l.map h.lims (eD h.lims (h.cells q j))
  Z:=by
   rw[o,d (λq=>(q.1.s,mF q.2)) rfl];exact l.map h.Z (eD h.Z (h.cells q j))
  cnts:=l.map h.cnts (eD h.cnts (h.cells q j))
  cnt:=λm=>by
   rw[h.cnt m];have:t.Z.map (·.s)=(kJ t q.1.s b).Z.map (·.s):=by
    rw[<-r,<-h.q1,Vd,Vd];exact(d ((λp:kB=>p.s) ∘ λq:kB×Nat=>q.1) rfl).symm
   rw[ox this m]
  q1:=r
  cells:=λp c=>by
   rcases i p c with rfl|⟨c,k⟩;exact F;exact l.blk (h.cells p c) k
  row:=l.row h.row (λg n e=>(h.di g n).2 q j e.symm)
  perm:=by rw[d (λq=>q.2) rfl];exact h.perm
  early:=λs v p c e=>by
   rcases i p c with rfl|⟨c,_⟩;exact Int.le_trans (h.early s v q j e) H;exact h.early s v p c e
  rs:=kK h.rs
  sq:=λp c=>by
   rcases i p c with rfl|⟨c,_⟩;exact h.sq q j;exact h.sq p c
  nd:=by rw[d (λq=>q.2) rfl];exact h.nd
  dx:=λp c=>by
   rcases i p c with rfl|⟨c,_⟩;exact h.dx q j;exact h.dx p c
  di:=λg n=>⟨(h.di g n).1,λp c=>by
   rcases i p c with rfl|⟨c,_⟩;exact (h.di g n).2 q j;exact (h.di g n).2 p c⟩ }
def aFr{w j:eA}{B:Nat->Prop}{T:Nat->Option Nat}{l m:Nat}{c:iC}{i:Int}{L:List (fB×Nat)}{M M':Nat}{p:fB×Nat}{t':fB}(h:mL w B T l m c i L M)(q:∀g,w.1.size<=g->B g)(o:p∈L)(k:t'.N=p.1.N)
(b:eB (λg=>B g/\T g=bA p.2) w j)(s:vD j (λg=>(B g/\T g=bA p.2)\/w.1.size<=g) p.2 t' M')(r:M<=M'):
 jE j B l m c i ((fC (λp:fB×Nat=>p.1.N) (t',p.2) L).map (·.1)) M':=by
 refine vm (n:=yA L) h q o k b s r (eB.refl _ j) ?_;have f:DataW.put (fE (L.map λp=>(p.1.N,mF p.2))) (kL t'.N) (mF p.2)=fE ((fC (λp:fB×Nat=>p.1.N) (t',p.2) L).map λp=>(p.1.N,mF p.2)):=
  KE (key:=λp:fB×Nat=>p.1.N) (λp=>mF p.2) (t',p.2) h.rise
 have d:(fC (λp:fB×Nat=>p.1.N) (t',p.2) L).map (λp=>(p.1.N,mF p.2))=L.map λp=>(p.1.N,mF p.2):=
  GY (key:=λp:fB×Nat=>p.1.N) (a:=(t',p.2)) (λp:fB×Nat=>(p.1.N,mF p.2)) h.rise o k.symm (by simp[k])
 rw[f,d];exact b.map h.ten (λe=>by rw[h.tm]at e;cases e.2)
def jE.mono{w:eA}{B:Nat->Prop}{l m:Nat}{c:iC}{a:Int}{d:List fB}{M b:Nat}(h:jE w B l m c a d M)(f:M<=b):jE w B l m c a d b:=by
 obtain⟨T,L,h,e⟩:=h;exact⟨T,L,{ h with idx:=λp g=>(h.idx p g).mono f},e⟩
def aHt(w:eA):(zeroValue 231).run prog w=.ok (.pointer aA) w:=by kernel_rfl
def aBd{w:eA}{d:Nat}{Q:List (kB×Nat)}(h:w.ownsMap prog 9 tE d (yA Q) (fE (Q.map λq=>(q.1.s,mF q.2)))){key:jB}(e:key.size<=maxLen):
 (∃q,dD (λq:kB×Nat=>q.1.s) key Q=bA q/\(Instr.lookup 223 (.map (bA d)) (oA key) dA).run prog w=.ok (.tuple #[.pointer (yB q.2),qA dA]) w)\/
 (dD (λq:kB×Nat=>q.1.s) key Q=aA/\(Instr.lookup 223 (.map (bA d)) (oA key) dA).run prog w=.ok (.tuple #[.pointer aA,qA cA]) w):=by
 obtain⟨v,f,a,c⟩:=h.look_ok aM underlying223 (aHt w) (zd:=.nil) (zp:=[]) rfl (lN e);rw[af (key:=λq:kB×Nat=>q.1.s) (val:=λq=>mF q.2)]at a;rw[iT (key:=λq:kB×Nat=>q.1.s) (λq=>mF q.2)]at c;cases hg:dD (λq:kB×Nat=>q.1.s) key Q with
 |some q=>
  rw[hg]at a c;have b:=pR c;subst b;exact Ca ⟨q,rfl,a⟩
 |none=>
  rw[hg]at a c;have b:=MF c;subst b;exact La ⟨rfl,a⟩
end
section
open Go.Maps
structure Fnd(w W:World)(B:Nat→Prop)(T:Nat→Option Nat)(l m:Nat)(c:iC)(now:Int)(L:List (fB×Nat))(M:Nat)(tenant:jB)(x N:Nat)(th:Bool)(t:fB)(S:Nat→Prop):Prop where
 ix:vD W S x t N
 tn:aC (L.map (·.1)) tenant=t
 nm:t.N=tenant
 no:(dD (·.N) tenant (L.map (·.1))).isNone=!th
 led:mL W B T l m c now L M
 bw:uB w W
 sB:∀g,S g→B g
 sl:¬S l
 sm:¬S m
 mem:t∈L.map (·.1)∧th=dA∨t.Z=[]∧t.M=[]
 nM:N≤M
 put:∀k{w2 w4 w6:eA}{t':fB}{n:Nat},uB W w2→eB S w2 w4→vD w4 (λg=>S g∨w2.1.size≤g) x t' (N+k)→t'.N=tenant→eB (·=m) w4 w6→w6.ownsMap prog 9 tE m n (DataW.put (fE (L.map λp=>(p.1.N,mF p.2))) (kL tenant) (mF x))→jE w6 B l m c now (fC (·.N) t' (L.map (·.1))) (M+k)
 turn:th=dA→∀{w4:eA}{t':fB},eB S W w4→vD w4 S x t' N→t'.N=tenant→jE w4 B l m c now (fC (·.N) t' (L.map (·.1))) M
 kp:th=cA→∀{w4:eA},eB S W w4→mL w4 B T l m c now L M
 del:∀{w4 w6:eA}{n:Nat},eB S W w4→eB (·=m) w4 w6→w6.ownsMap prog 9 tE m n (DataW.del (fE (L.map λp=>(p.1.N,mF p.2))) (kL tenant))→jE w6 B l m c now (vE (·.N) tenant (L.map (·.1))) M
def aEt{w W:eA}{B:Nat->Prop}{l m:Nat}{T:Nat->Option Nat}{c:iC}{C:Int}{L:List (fB×Nat)}{M:Nat}{d:jB}{e:Ending}(h:mL w B T l m c C L M)(G:∀g,w.1.size<=g->B g)(Q:uf L d w e W):∃x N O t S,e=uA (.tuple #[.pointer (yB x),qA O])/\Fnd w W B T l m c C L M d x N O t S:=by
 have o:dD (·.N) d (L.map (·.1))=(dD (λp:fB×Nat=>p.1.N) d L).map (·.1):=qm;have y:=fun(u:fB)(x:Nat)=>xS (key:=λp:fB×Nat=>p.1.N) (key':=λt:fB=>t.N) (λp:fB×Nat=>p.1) (λ_=>rfl) (u,x) L;have E:=BO (key:=λp:fB×Nat=>p.1.N) (key':=λt:fB=>t.N) (λp:fB×Nat=>p.1) (λ_=>rfl) d L;obtain⟨p,j,rfl,rfl⟩|⟨j,x,rfl,U,J,D⟩:=Q
 .obtain ⟨z,H⟩:=uM j;rw[j]at o;refine⟨p.2,M,dA,p.1,λg=>B g/\T g=bA p.2,rfl,h.idx p z,by unfold aC;rw[o];rfl,H,by rw[o];rfl,h,iD,λg e=>e.1,λe=>(by rw[h.tl]at e;cases e.2),λe=>(by rw[h.tm]at e;cases e.2),Ca ⟨Tc z,rfl⟩,Ia _,?_,?_,(λh=>by cases h),?_⟩
  .intro k X v I u n r a s A b O;have:=vm (p:=p) (t':=u) (M':=M+k) (h.keep λg j _=>r.block g j) (λg j=>G g (Ua r.size j)) z (A.trans H.symm) a s (by omega) b (by rw[A];exact O);rwa [y]at this
  .intro _ v u a s A;have:=aFr (p:=p) (t':=u) (M':=M) h G z (A.trans H.symm) a (s.keep λg _ f=>⟨rfl,Ca f⟩) (Ia _);rwa [y]at this
  intro v I n a b O;have:=vl (k:=d) h (λg f q R K e=>by
   rw[f.2]at e;exact K ((aT h.nd R z (Lc e).symm) ▸ H)) (λg _ f e=>by rw[e]at f;cases f.2) a b O
  rwa [E]at this
 rw[j]at o;have Y:=aB h.blk;have Z:=h.ten.lt;have F:∀{v},eB (λg=>w.1.size<=g) W v->mL v B T l m c C L M:=λa=>h.keep λg j _=>(D.trans (a.below (by have:=D.size;omega) λi J e=>by omega)).block g j;refine⟨x,0,cA,⟨d,-1,[],[]⟩,λg=>w.1.size<=g,rfl,J,by unfold aC;rw[o];rfl,rfl,by rw[o];rfl,h.keep λg j _=>D.block g j,D,λg e=>G g e,by omega,by omega,La ⟨rfl,rfl⟩,Oa _,?_,(λh=>by cases h),λ_ v a=>F a,?_⟩
 .intro k X v I u n r a s A b O;have V:=(vB D r).size;have P:=(vB D r).trans (a.below (by omega) λi J e=>by omega);have:=jr (x:=x) (t:=u) (M':=0+k) (M:=M+k) { h with idx:=λp z=>(h.idx p z).mono (by omega) } G (by rw[A];exact j) iD P U b (by rw[A];exact O) (eB.refl _ I) (s.keep λg j f=>⟨b.block g j (λe=>by rcases f with f|f<;>omega),by rcases f with f|f<;>omega⟩) (by omega);rwa [y]at this
 intro v I n a b O;have:=vl (k:=d) (S:=λ_=>False) (F a) (λg f=>f.elim) (λg _ f=>f.elim) (eB.refl _ v) b O;rwa [E]at this
end
section
open Go.Maps
def RM(l m:Nat)(a key:jB)(c:iC)(b:Int)(B:Nat->Prop)(d:List fB)(M:Nat)(w:eA)(h:jE w B l m c b d M)(hB:∀g,w.1.size<=g->B g)(hU:uG w)(hn:a.size<=1400000)(hk:key.size<=1400000)(hM:1<=M)(hM2:M<=1000000000)(hsl:∀t∈d,yA t.Z<=1000000000)(hlv:∀t∈d,∀y∈t.Z,y.n<=b)(hlen:yA d<=1000000000):
 Calls prog 223 #[.pointer (bA ⟨l,0,aA⟩),oA a,oA key] w λe w'=>e=uA (.int .i64 ((nL c b d a key).2:Nat))/\jE w' B l m c b (nL c b d a key).1 (M+1)/\eB B w w':=by
 have HLA:=bB (h.mono (Gf M));have HMT:cB (dF 210 #[oA key] w (oA (cE key))):=AA key w (by omega) hU;have HT:cB _:=λW=>wM a W (by unfold maxLen;omega);have HS:cB (nL c b d a key=if (bD a&&!(cE key).toList.isEmpty)=cA then(d,5) else if (dD (·.s) key (aC d a).Z).isSome=dA then(fC (·.N) (kJ (aC d a) key b) d,1) else if (if (aC d a).L = -1 then c.tl else(aC d a).L)<=(yA (aC d a).Z:Nat)\/((dD (·.N) a d).isNone&&decide (10000<=yA d))=dA then(d,3) else if xG (aC d a).M (cE key) c.ml<=(bJ cE (aC d a).Z (cE key):Nat) then(d,4) else(fC (·.N) (kJ (aC d a) key b) d,2)):=rfl;have v:cB _:=λS x t M0 W f hnew hM0 hl=>uq x t key b S M0 W f hnew (by unfold maxLen;omega) (zS key) hM0 hl;have e0:cB _:=λS x t M0 W hl f=>dV l m x c b t S M0 (cE key) W hl f (zS key);have b0:cB _:=fun(W:eA)(cm:Nat)(M0:Nat)(D:DataW Unit)(n:Nat)(hm:W.ownsMap prog 9 (plainElem prog 3) cm M0 D)(hc:D.atKey (kL (cE key)) (eJ 0)=eJ n)=>RR hm hc (zS key);generalize cE key=mk at *;generalize bD a=b1 at *;generalize nL c b d a key=R at *;go_enter func223,ntmps223;go_wp2_with fail;apply lC HMT.o;intro w1 hb1;have A:=bB hb1;go_wp2_with fail;refine tD (HT.o _) ?_;have o:(b1=cA\/b1=dA/\mk.toList.isEmpty=dA)\/b1=dA/\mk.toList.isEmpty=cA:=by cases b1<;>cases mk.toList.isEmpty<;>simp
 obtain o|⟨rfl,h2⟩:=o
 .have k:cB (R=(d,5)):=by show _=_;rw[HS.o,Ma (by rcases o with e|⟨_,e⟩<;>rw[e]<;>simp)]
  obtain rfl|⟨rfl,h2⟩:=o
  all_goals
   go_wp2;go_ret;exact⟨uF (by rw[k.o];rfl),by rw[k.o];exact HLA.o.z A.o,eB.of A.o⟩
 obtain⟨T,L,h,rfl⟩:=h;rw[h2]at HS;have H1:cB _:=h.keep λg hg _=>A.o.block g hg;have HF:=bB (QK l m a c b B T L M w1 H1.o (by unfold maxLen;omega));have HMB:cB (B m/\B l):=⟨h.mB,h.lB⟩
 have HK:cB (keyOf prog 9 (oA a)=bA (kL a)):=lN (by unfold maxLen;omega);rw[Xa]at hlen;go_wp2_with fail;refine HF.o.mono ?_;intro e W hfo;obtain⟨x,N,th,t,S,rfl,F⟩:=aEt H1.o (λg hg=>hB g (Ua A.o.size hg)) hfo;have H:cB _:=vB A.o F.bw;have hnM:=F.nM;have r:cB (R=if (dD (·.s) key t.Z).isSome=dA then(fC (·.N) (kJ t key b) (L.map (·.1)),1) else if (if t.L = -1 then c.tl else t.L)<=(yA t.Z:Nat)\/((!th) &&decide (10000<=yA L))=dA then(L.map (·.1),3) else if xG t.M mk c.ml<=(bJ cE t.Z mk:Nat) then(L.map (·.1),4) else(fC (·.N) (kJ t key b) (L.map (·.1)),2)):=by show _=_;rw[HS.o,F.tn,F.no,Xa,Ja (by simp)]
 have hpl:yA t.Z<=1000000000:=by obtain⟨e,_⟩|⟨e,_⟩:=F.mem;exact hsl _ e;rw[e];simp
 have HNW:cB (∀y∈t.Z,y.n<=b):=by refine bB ?_;obtain⟨e,_⟩|⟨e,_⟩:=F.mem;exact hlv _ e;rw[e];simp
 have HLB:=bB F.led.blk;have x6:W.cell? ⟨l,6,aA⟩=bA (.int .i64 b):=F.led.blk.cell 6;have c0:=bB (LZ l m x c b t S N W F.led.blk F.ix);have V:=bB (QQ l m c b B T L M W F.led);have HL0:cB (∀J,uB W J->jE J B l m c b (L.map (·.1)) (M+1)):=λJ hb=>jE.mono ⟨T,L,F.led.keep λg hg _=>hb.block g hg,rfl⟩ (Gf M);have C:cB _:=fun(y:kC W)=>e0.o _ x t N y.w' (F.led.blk.z y.h) (F.ix.z y.h);have u:=bB F;obtain⟨lm,sm,cm,iv,Q,hs,D,f⟩:=u.o.ix;have Z:=bB f;have x2:W.cell? ⟨x,2,aA⟩=bA (.map (bA sm)):=f.blk.cell 2;have l2:=f.Z.len underlying223 3;rw[bN,show yA Q=yA t.Z by rw[<-f.q1,Xa]]at l2;have Y:cB (dD (·.s) key t.Z=(dD (λq:kB×Nat=>q.1.s) key Q).map (·.1)):=by
  show _=_;rw[<-f.q1];exact jW (key:=λq:kB×Nat=>q.1.s) (key':=λp:kB=>p.s) (λq=>q.1) (λ_=>rfl) key Q
 have d0:=bB (aBd f.Z (key:=key) (by unfold maxLen;omega));have d3:=kC.cells (show W.cell? ⟨x,3,aA⟩=bA (.map (bA cm)) from f.blk.cell 3);have U:cB (∀y:kC W,(Instr.lookup 222 (.map (bA cm)) (oA mk) cA).run prog y.w'=.ok (.int .i64 (bJ cE t.Z mk)) y.w'):=λy=>by
  obtain⟨lm,sm,cm',iv,Q,hs,D,f⟩:=u.o.ix.z y.h;have h1:=f.blk.cell 3;rw[d3 y]at h1;cases h1
  exact b0.o _ cm _ D _ f.cnts (f.cnt mk)
 obtain⟨q,hq,E⟩|⟨hq,E⟩:=d0.o
 .have k:cB (R=(fC (·.N) (kJ t key b) (L.map (·.1)),1)):=by show _=_;rw[r.o,Ma (by rw[Y.o,hq];rfl)]
  obtain⟨j,hqk⟩:=uM hq;have K:=Z.o.cells q j;have y1:W.cell? ⟨q.2,1,aA⟩=bA (.int .i64 q.1.n):=K.cell 1;have fy1:=K.free 1;have ht1:eB (·=q.2) W (W.setCell ⟨q.2,1,aA⟩ (.int .i64 b)):=(eB.refl (·=q.2) W).setCell (Ca rfl) 1 _;have hin:=Z.o.seen j (HNW.o q.1 (by rw[<-Z.o.q1];exact Tc j)) ht1 (by have:=K.set 1 (.int .i64 b);simpa using this);rw[show q.1.s=key from hqk]at hin;have hts:eB S W (W.setCell ⟨q.2,1,aA⟩ (.int .i64 b)):=ht1.mono λi _ e=>by subst e;exact Z.o.sq q j
  have hth:th=dA:=by
   obtain⟨_,e⟩|⟨e,_⟩:=u.o.mem;exact e;rw[<-Z.o.q1]at e;rw[List.map_eq_nil_iff.1 e]at j;cases j
  have a0:=bB ((u.o.turn hth hts hin u.o.nm).mono (Gf M));have g0:cB _:=(eB.of H.o).trans' (hts.mono λi _ e=>u.o.sB i e);go_wp2;go_ret;exact⟨uF (by rw[k.o];rfl),by rw[k.o];exact a0.o,g0.o⟩
 have X:cB (dD (·.s) key t.Z=aA):=by show _=_;rw[Y.o,hq];rfl
 have z:cB _:=λJ(hW:uB W J)=>v.o S x t N J (u.o.ix.z hW) X.o (by omega) hpl;rw[X.o]at r;generalize (if t.L = -1 then c.tl else t.L)=LM at *;generalize yA t.Z=NS at *;generalize decide (10000<=yA L)=fd at *;have h3:(LM<=(NS:Int)\/¬LM<=(NS:Int)/\th=cA/\fd=dA)\/¬LM<=(NS:Int)/\(th=dA\/th=cA/\fd=cA):=by cases th<;>cases fd<;>simp<;>omega
 obtain h3|⟨hge,h3⟩:=h3
 .have k:cB (R=(L.map (·.1),3)):=by show _=_;rw[r.o,Ja (by simp),Ma (by obtain e|⟨_,e,e'⟩:=h3;exact Ca e;rw[e,e'];simp)]
  obtain hge|⟨hge,rfl,rfl⟩:=h3
  all_goals
   go_wp2_with fail;refine tD c0.o ?_;try (go_wp2_with fail;with_reducible refine tD V.o ?_)
   go_wp2;go_ret;exact⟨uF (by rw[k.o];rfl),by rw[k.o];exact HL0.o _ iD,eB.of H.o⟩
 have I:cB (R=if xG t.M mk c.ml<=(bJ cE t.Z mk:Nat) then(L.map (·.1),4) else(fC (·.N) (kJ t key b) (L.map (·.1)),2)):=by show _=_;rw[r.o,Ja (by simp),Ja (by rintro(e|e);exact hge e;obtain h|⟨h,h'⟩:=h3;rw[h]at e;simp at e;rw[h']at e;simp at e)]
 have E:=U.o;have hnel:=kC.there W;generalize bJ cE t.Z mk=NC at *;generalize xG t.M mk c.ml=NL at *;obtain rfl|⟨rfl,rfl⟩:=h3
 all_goals
  go_wp2_with fail;refine tD c0.o ?_;try (go_wp2_with fail;with_reducible refine tD V.o ?_)
  go_wp2_with fail;refine wB (by kernel_rfl) (by kernel_rfl) ?_;repeat (go_big_quiet_step (first|(go_at_call 231;exact uC (C.o _))|fail))
  refine wpQuiet_nil ?_;rintro _ ⟨y,rfl⟩;have HY:cB _:=y.h;generalize y.w'=J at *;by_cases O:NL<=(NC:Int)
  .have k:cB (R=(L.map (·.1),4)):=by show _=_;rw[I.o,Ma O]
   go_wp2;go_ret;exact⟨uF (by rw[k.o];rfl),by rw[k.o];exact HL0.o _ HY.o,eB.of (vB H.o HY.o)⟩
  have k:cB (R=(fC (·.N) (kJ t key b) (L.map (·.1)),2)):=by show _=_;rw[I.o,Ja O]
  have x6:J.cell? ⟨l,6,aA⟩=bA (.int .i64 b):=(HLB.o.z HY.o).cell 6;go_wp2_with fail;apply lC (z.o J HY.o);rintro w4 ⟨hi4,G⟩;have h2:=u.o.led.keep λg hg _=>HY.o.block g hg;have HI4:=bB hi4;have HT4:=bB G;have HTW:cB _:=((eB.of H.o).trans' (eB.of HY.o)).trans' (G.mono λi _ e=>u.o.sB i e);have x7:w4.cell? ⟨l,7,aA⟩=bA (.map (bA m)):=(G.blk h2.blk u.o.sl).cell 7;obtain⟨w6,run6,P,tn6⟩:=(G.map h2.ten u.o.sm).store aM underlying158 (by unfold maxLen;omega) HK.o (eY x);have a0:=bB (u.o.put 1 HY.o HT4.o HI4.o u.o.nm (eB.mapped tn6) P);have g0:cB _:=HTW.o.trans' ((eB.mapped tn6).mono λi _ e=>(show i=m from e) ▸ HMB.o.1);go_wp2;go_ret;exact⟨uF (by rw[k.o];rfl),by rw[k.o];exact a0.o,g0.o⟩
theorem UQ(l m:Nat)(a b:ByteArray)(d:Int)(c:iC)(n:Int)(B:Nat->Prop)(j:List fB)(M:Nat)(w:World)(h:jE w B l m c n j M)(hB:∀g,w.1.size<=g->B g)(G:uG w)(I:a.size<=1400000)(I:b.size<=1400000)(a0:∀t∈j,t.M.length<=1000000000)(Z:j.length<=1000000000):
 Calls prog 247 #[.pointer (yB l),.string a,.string b,zA d] w λe w'=>e=.returned (.bool (uS j a b d).2)/\jE w' B l m c n (uS j a b d).1 M/\eB B w w':=by
 have P:=bB h;have HT:cB _:=λW=>wM a W (by unfold maxLen;omega);have HM:=bB (xT b w (by omega) G);have Q:cB _:=λW=>bV d W;have O:cB (uS j a b d=if (bD a&&(b.toList.isEmpty||bF b) &&bC d (-1) 1000000)=false then(j,false) else if cF (sH (aC j a) b d)=true then(vE (·.N) a j,true) else if ((dD (·.N) a j).isNone&&decide (10000<=j.length))=true then(j,false) else(fC (·.N) (sH (aC j a) b d) j,true)):=rfl;have J:cB (bC d (-1) 1000000=true->-1<=d/\d<=1000000):=λh=>xJ h;generalize bD a=I at *;generalize (b.toList.isEmpty||bF b)=U at *;generalize bC d (-1) 1000000=Y at *;generalize uS j a b d=R at *;have G:cB (∀W,(I&&U&&Y)=false->Below w.1.size w W->(Ending.returned (.bool false)=.returned (.bool R.2))/\jE W B l m c n R.1 M/\eB B w W):=λW h hb=>by
  rw[O.o,Ma h];exact⟨rfl,P.o.z hb,eB.of hb⟩
 go_enter func247,ntmps247;go_wp2_with fail;refine tD (HT.o _) ?_;cases I
 .go_wp2;go_ret;exact G.o _ rfl iD
 go_wp2_with fail;refine HM.o.mono ?_;rintro e w2 ⟨rfl,V⟩;have o:=bB V;cases U
 .go_wp2;go_ret;exact G.o _ rfl o.o
 go_wp2_with fail;refine tD (Q.o _) ?_;cases Y
 .go_wp2;go_ret;exact G.o _ rfl o.o
 obtain⟨G,I⟩:=J.o rfl;obtain⟨T,L,h,rfl⟩:=h;have H2:cB _:=h.keep λg J _=>o.o.block g J;have Y:=bB (QK l m a c n B T L M w2 H2.o (by unfold maxLen;omega));have U:cB (B m/\B l):=⟨h.mB,h.lB⟩
 have HK:cB (keyOf prog 9 (.string a)=some (kL a)):=lN (by unfold maxLen;omega);rw[Xa]at Z;go_wp2_with fail;refine Y.o.mono ?_;intro e W Y;obtain⟨x,N,h,t,S,rfl,F⟩:=aEt H2.o (λg J=>hB g (Ua o.o.size J)) Y;have u:=bB F;have Y:=bB (aHs x b d t S N W F.ix (by unfold maxLen;omega) G I (by obtain⟨e,_⟩|⟨_,e⟩:=F.mem;exact a0 _ e;rw[e];simp));have k:cB (R=if cF (sH t b d)=true then(vE (·.N) a (L.map (·.1)),true) else if ((!h) &&decide (10000<=L.length))=true then(L.map (·.1),false) else(fC (·.N) (sH t b d) (L.map (·.1)),true)):=by show _=_;rw[O.o,F.tn,F.no,Xa,Ja (by simp)]
 have W:cB ((sH t b d).N=a):=by show _=_;rw[dQ];exact F.nm
 have J:cB _:=vB o.o F.bw;generalize sH t b d=t' at *;go_wp2_with fail;refine Y.o.mono ?_;rintro e I ⟨rfl,G,r⟩;have K:=bB G;have p:=bB r;have O:=bB (QS x t' S N I G);have y:=bB (r.map u.o.led.ten u.o.sm);have X:=r.blk u.o.led.blk u.o.sl;have G:I.cell? (dB l 7)=some (.map (some m)):=X.cell 7;have E:cB (eB B w I):=(eB.of J.o).trans' (r.mono λi _ e=>u.o.sB i e);go_wp2_with fail;refine tD O.o ?_;cases hidl:cF t'
 case true=>
  have z:cB (R=(vE (·.N) a (L.map (·.1)),true)):=by show _=_;rw[k.o,Ma hidl]
  go_wp2_with(at_delete;refine wpList_delete_own _ rfl _ _ 158 9 rfl 165 aM underlying158 tE m _ _ rfl y.o _ _ rfl HK.o ?_;intro J q f);have C:=bB (u.o.del p.o (eB.mapped f) q);have D:cB _:=E.o.trans' ((eB.mapped f).mono λi _ e=>(show i=m from e) ▸ U.o.1);go_ret;exact⟨oB (by rw[z.o]),by rw[z.o];exact C.o,D.o⟩
 by_cases s:((!h) &&decide (10000<=L.length))=true
 .have z:cB (R=(L.map (·.1),false)):=by show _=_;rw[k.o,Ja (by rw[hidl];simp),Ma s]
  simp only[Sa,Bool.not_eq_true']at s;have G:=bB (u.o.kp s.1 p.o);have v:=bB (QQ l m c n B T L M I G.o);rw[s.2]at v;rw[s.1];go_wp2_with fail;refine tD v.o ?_;go_wp2;go_ret;exact⟨oB (by rw[z.o]),by rw[z.o];exact⟨T,L,G.o,rfl⟩,E.o⟩
 have z:cB (R=(fC (·.N) t' (L.map (·.1)),true)):=by show _=_;rw[k.o,Ja (by rw[hidl];simp),Ja s]
 have v:cB (h=false->Calls prog 271 #[.pointer (yB l)] I λe w'=>e=.returned (.bool false)/\w'=I):=λe=>by
  have:=QQ l m c n B T L M I (u.o.kp e p.o);rwa [show decide (10000<=L.length)=false by rw[e]at s;simpa using s]at this
 obtain⟨J,G,A,H⟩:=y.o.store aM underlying158 (by unfold maxLen;omega) HK.o (eY x);have C:=bB (u.o.put 0 iD p.o (K.o.keep λg _ hs=>⟨rfl,Ca hs⟩) W.o (eB.mapped H) A);have D:cB _:=E.o.trans' ((eB.mapped H).mono λi _ e=>(show i=m from e) ▸ U.o.1);cases h
 all_goals
  try (go_wp2_with fail;with_reducible refine tD (v.o trivial) ?_)
  go_wp2;go_ret;exact⟨oB (by rw[z.o]),by rw[z.o];exact C.o,D.o⟩
end
def zG(a b:mC)(c d:Nat)(N:wC):∀(j:Nat)(s:jB),(sC a c b d N)[j]?≠bA (iA.string s):=λj s=>by
 unfold sC;match j with
 |0|1|2|3|4|5|6|7|8|9|10|11|12|13=>simp
 |j+14=>simp
section
variable {w W:eA} {P:Nat} {cs:Array iA} {t:TypeId}
theorem EH(g:nB w P cs t)(f:∀(j:Nat)(s:jB),cs[j]?≠bA (iA.string s))(d:eB (·=P) w W){b o:Nat}{s:jB}(c:b<w.1.size)(h:w.cell? (dB b o)=bA (oA s)):b<W.1.size/\∀j,W.cell? (dB b j)=w.cell? (dB b j):=by
 have a:b≠P:=λe=>by subst e;rw[g.cell]at h;exact f _ _ h
 exact⟨Bb c d.size,λj=>eA.cell?_of_block (d.block b c a)⟩
theorem tB.store(m:nB w P cs t)(k:∀(j:Nat)(s:jB),cs[j]?≠bA (iA.string s))(l:eB (·=P) w W){a:mC}{c:List iB}(h:tB w a c):tB W a c:=by
 obtain h|⟨b,o,e,d,h⟩:=h;exact Ca h
 cases c with
 |nil=>exact Ca rfl
 |cons f r=>
  obtain⟨n,p⟩:=EH m k l d (h 0 (by simp)).1;exact La ⟨b,o,e,n,λi g=>by simp only[p];exact h i g⟩
theorem jC.store(m:nB w P cs t)(k:∀(j:Nat)(s:jB),cs[j]?≠bA (iA.string s))(l:eB (·=P) w W){a:mC}{c:List kB}(h:jC w a c):jC W a c:=by
 obtain h|⟨b,o,e,d,h⟩:=h;exact Ca h
 cases c with
 |nil=>exact Ca rfl
 |cons f r=>
  obtain⟨n,p⟩:=EH m k l d (h 0 (by simp)).1;exact La ⟨b,o,e,n,λi g=>by simp only[p];exact h i g⟩
theorem xC.store(l:nB w P cs t)(g:∀(j:Nat)(s:jB),cs[j]?≠bA (iA.string s))(k:eB (·=P) w W){a:mC}{m:List fB}(h:xC w a m):xC W a m:=by
 obtain h|⟨b,o,e,B,h⟩:=h;exact Ca h
 cases m with
 |nil=>exact Ca rfl
 |cons f r=>
  obtain⟨_,_,_,_,d,_⟩:=h 0 (by simp);obtain⟨D,c⟩:=EH l g k B d;refine La ⟨b,o,e,D,λi C=>?_⟩;obtain⟨n,q,p,u,v,d,x,y,z,A⟩:=h i C;exact⟨n,q,p,u,(c _).trans v,(c _).trans d,(c _).trans x,(c _).trans y,z.store l g k,A.store l g k⟩
end
def ou(a:mC)(g:Nat)(c:List kB)(w:eA)(q:jC w a c)(A:yA c<=2000000):
 Calls prog 140 #[pA a (yA c) g] w λe n=>∃v,e=uA v/\n.ownsRow w.1.size 96 2 v (yA c) (flatK c)/\uB w n:=by
 have p:=λn=>Lib.run_eql_slice_nil (P:=prog) n 91 96 a (yA c) g 0 0 underlying91;cases a with
 |none=>
  have E:c=[]:=by
   obtain h|⟨b,o,e,_⟩:=q;exact h;exact absurd e (by simp)
  subst E;have y:=λn=>Lib.run_eql_slice_nil (P:=prog) n 91 96 aA 0 g 0 0 underlying91;clear p;go_enter func140,ntmps140;go_wp2;go_ret;exact⟨_,rfl,⟨rfl,Ca ⟨rfl,rfl⟩⟩,iD⟩
 |some x=>
  obtain⟨i,z,r,s,t⟩:=info_parts mR;have l:(w.alloc (vA #[] 96)).ownsRow w.1.size 96 2 (pA (yB w.1.size) 0 0) 0 []:=eA.ownsRow_made w #[] 0 (Ia _) (by simp[maxLen]) (by simp);have D:=bB l;have d:∀j u,(flatK c)[j]?=bA u->(w.alloc (vA #[] 96)).cell? (x.add j)=bA u:=by
   rcases q.z (wF w (vA #[] 96)) with rfl|⟨b,o,e,_,h⟩;intro j u h;simp[flatK]at h;simp only[Qa]at e;subst e;exact fO h
  have C:cB _:=d;have B:cB _:=z;clear q l d z;go_enter func140,ntmps140;go_wp2_with(at_builtin;refine wpList_append_own_at _ rfl _ _ _ rfl w.1.size 96 i _ 2 24 underlying91 B.o r s t rfl (by omega) (pA (yB w.1.size) 0 0) 0 [] rfl D.o x (yA c) g (flatK c) rfl (tM c) C.o (cQ c) (by simp[maxLen];omega) (by omega) (by simp) ?_;intro G H f m _ _);go_ret;simp only[Ya,Mb]at f;refine⟨G,rfl,f,zB.grown m (by simp) (λk F=>?_)⟩;simp[iA.ownBlock]at F;omega
def ow(a:mC)(g:Nat)(c:List kB)(w:eA)(q:jC w a c)(A:yA c<=2000000):
 Calls prog 141 #[pA a (yA c) g] w λe n=>∃v,e=uA v/\n.ownsRow w.1.size 98 2 v (yA c) (flatK c)/\uB w n:=by
 have p:=λn=>Lib.run_eql_slice_nil (P:=prog) n 92 98 a (yA c) g 0 0 underlying92;cases a with
 |none=>
  have E:c=[]:=by
   obtain h|⟨b,o,e,_⟩:=q;exact h;exact absurd e (by simp)
  subst E;have y:=λn=>Lib.run_eql_slice_nil (P:=prog) n 92 98 aA 0 g 0 0 underlying92;clear p;go_enter func141,ntmps141;go_wp2;go_ret;exact⟨_,rfl,⟨rfl,Ca ⟨rfl,rfl⟩⟩,iD⟩
 |some x=>
  obtain⟨i,z,r,s,t⟩:=info_parts uT;have l:(w.alloc (vA #[] 98)).ownsRow w.1.size 98 2 (pA (yB w.1.size) 0 0) 0 []:=eA.ownsRow_made w #[] 0 (Ia _) (by simp[maxLen]) (by simp);have D:=bB l;have d:∀j u,(flatK c)[j]?=bA u->(w.alloc (vA #[] 98)).cell? (x.add j)=bA u:=by
   rcases q.z (wF w (vA #[] 98)) with rfl|⟨b,o,e,_,h⟩;intro j u h;simp[flatK]at h;simp only[Qa]at e;subst e;exact fO h
  have C:cB _:=d;have B:cB _:=z;clear q l d z;go_enter func141,ntmps141;go_wp2_with(at_builtin;refine wpList_append_own_at _ rfl _ _ _ rfl w.1.size 98 i _ 2 24 underlying92 B.o r s t rfl (by omega) (pA (yB w.1.size) 0 0) 0 [] rfl D.o x (yA c) g (flatK c) rfl (tM c) C.o (cQ c) (by simp[maxLen];omega) (by omega) (by simp) ?_;intro G H f m _ _);go_ret;simp only[Ya,Mb]at f;refine⟨G,rfl,f,zB.grown m (by simp) (λk F=>?_)⟩;simp[iA.ownBlock]at F;omega
def aMj{C:eA->Prop}{w:eA}{cs a:Array iA}{t b:TypeId}(k:∀W,uB w W->nB W w.1.size cs t->nB W (w.1.size+1) a b->W.1.size=w.1.size+1+1->C W):C ((w.alloc (vA cs t)).alloc (vA a b)):=
 k _ (vB zB zB) ((nB.new w _ _).alloc _) (by have:=nB.new (w.alloc (vA cs t)) a b;simpa using this) (by simp)
def yq(W:eA)(a:mC)(m:Nat)(d:List iB)(x:tB W a d)(z:yA d<=2000000):
 ∃l c r,(Builtin.append_ #[33,33] 33 #[pA (yB W.1.size) 0 0,pA a (yA d) m]).run prog (W.alloc (vA #[] 104))=.ok (pA l (yA d) c) r/\
  jO r W.1.size l d/\uB W r/\∀g o,l=bA (dB g o)->g<r.1.size:=by
 obtain⟨i,y,s,t,v⟩:=xL;cases a with
 |none=>
  have B:d=[]:=by
   obtain h|⟨b,o,e,_⟩:=x;exact h;exact absurd e (by simp)
  subst B;refine⟨yB W.1.size,0,W.alloc (vA #[] 104),?_,Ca rfl,zB,λg o e=>by simp only[Qa,Addr.mk.injEq]at e;simp;omega⟩;simp[Builtin.append_,run_underlying underlying33,sizeOf,typeInfo,y,Builtin.lenOf,Builtin.firstCells,storeCells]
 |some w=>
  have p:=eA.ownsRow_made W (e:=104) (size:=3) #[] 0 (Ia _) (by simp[maxLen]) (by simp);have f:∀j u,(flat d)[j]?=bA u->(W.alloc (vA #[] 104)).cell? (w.add j)=bA u:=by
   rcases x.z (wF W (vA #[] 104)) with rfl|⟨b,o,e,_,h⟩;intro j u h;simp[flat]at h;simp only[Qa]at e;subst e;exact aP h
  obtain⟨I,A,F,q,C,_,_⟩:=run_append_own_at (P:=prog) (W.alloc (vA #[] 104)) W.1.size 33 33 104 i _ 3 40 underlying33 y s t v rfl (by omega) (pA (yB W.1.size) 0 0) 0 [] p w (yA d) m (flat d) (wE d) f (sG d) (by simp[maxLen];omega) (by omega) (by simp);simp only[Ya,Mb]at q;have n:uB W A:=zB.grown C (by simp) (λk D=>by
   simp[iA.ownBlock]at D;omega)
  obtain⟨l,c,rfl⟩:=tF q;exact⟨l,c,A,F,(by obtain⟨G,H,e,E⟩:=mH q;simp only[iA.slice.injEq]at e;obtain⟨rfl,_,_⟩:=e;exact E),n,λg o e=>(q.lt g (by rw[e];rfl)).2⟩
def yt(W:eA)(a:mC)(m:Nat)(d:List kB)(x:jC W a d)(z:yA d<=2000000):
 ∃l c r,(Builtin.append_ #[91,91] 91 #[pA (yB W.1.size) 0 0,pA a (yA d) m]).run prog (W.alloc (vA #[] 96))=.ok (pA l (yA d) c) r/\
  fD r W.1.size l d/\uB W r/\∀g o,l=bA (dB g o)->g<r.1.size:=by
 obtain⟨i,y,s,t,v⟩:=info_parts mR;cases a with
 |none=>
  have B:d=[]:=by
   obtain h|⟨b,o,e,_⟩:=x;exact h;exact absurd e (by simp)
  subst B;refine⟨yB W.1.size,0,W.alloc (vA #[] 96),?_,Ca rfl,zB,λg o e=>by simp only[Qa,Addr.mk.injEq]at e;simp;omega⟩;simp[Builtin.append_,run_underlying underlying91,sizeOf,typeInfo,y,Builtin.lenOf,Builtin.firstCells,storeCells]
 |some w=>
  have p:=eA.ownsRow_made W (e:=96) (size:=2) #[] 0 (Ia _) (by simp[maxLen]) (by simp);have f:∀j u,(flatK d)[j]?=bA u->(W.alloc (vA #[] 96)).cell? (w.add j)=bA u:=by
   rcases x.z (wF W (vA #[] 96)) with rfl|⟨b,o,e,_,h⟩;intro j u h;simp[flatK]at h;simp only[Qa]at e;subst e;exact fO h
  obtain⟨F,A,E,q,C,_,_⟩:=run_append_own_at (P:=prog) (W.alloc (vA #[] 96)) W.1.size 91 91 96 i _ 2 24 underlying91 y s t v rfl (by omega) (pA (yB W.1.size) 0 0) 0 [] p w (yA d) m (flatK d) (tM d) f (cQ d) (by simp[maxLen];omega) (by omega) (by simp);simp only[Ya,Mb]at q;have n:uB W A:=zB.grown C (by simp) (λk D=>by
   simp[iA.ownBlock]at D;omega)
  obtain⟨l,c,rfl⟩:=tF q;exact⟨l,c,A,E,oD q,n,λg o e=>(q.lt g (by rw[e];rfl)).2⟩
def yu(W:eA)(a:mC)(m:Nat)(d:List kB)(x:jC W a d)(z:yA d<=2000000):
 ∃l c r,(Builtin.append_ #[92,92] 92 #[pA (yB W.1.size) 0 0,pA a (yA d) m]).run prog (W.alloc (vA #[] 98))=.ok (pA l (yA d) c) r/\
  fD r W.1.size l d/\uB W r/\∀g o,l=bA (dB g o)->g<r.1.size:=by
 obtain⟨i,y,s,t,v⟩:=info_parts uT;cases a with
 |none=>
  have B:d=[]:=by
   obtain h|⟨b,o,e,_⟩:=x;exact h;exact absurd e (by simp)
  subst B;refine⟨yB W.1.size,0,W.alloc (vA #[] 98),?_,Ca rfl,zB,λg o e=>by simp only[Qa,Addr.mk.injEq]at e;simp;omega⟩;simp[Builtin.append_,run_underlying underlying92,sizeOf,typeInfo,y,Builtin.lenOf,Builtin.firstCells,storeCells]
 |some w=>
  have p:=eA.ownsRow_made W (e:=98) (size:=2) #[] 0 (Ia _) (by simp[maxLen]) (by simp);have f:∀j u,(flatK d)[j]?=bA u->(W.alloc (vA #[] 98)).cell? (w.add j)=bA u:=by
   rcases x.z (wF W (vA #[] 98)) with rfl|⟨b,o,e,_,h⟩;intro j u h;simp[flatK]at h;simp only[Qa]at e;subst e;exact fO h
  obtain⟨F,A,E,q,C,_,_⟩:=run_append_own_at (P:=prog) (W.alloc (vA #[] 98)) W.1.size 92 92 98 i _ 2 24 underlying92 y s t v rfl (by omega) (pA (yB W.1.size) 0 0) 0 [] p w (yA d) m (flatK d) (tM d) f (cQ d) (by simp[maxLen];omega) (by omega) (by simp);simp only[Ya,Mb]at q;have n:uB W A:=zB.grown C (by simp) (λk D=>by
   simp[iA.ownBlock]at D;omega)
  obtain⟨l,c,rfl⟩:=tF q;exact⟨l,c,A,E,oD q,n,λg o e=>(q.lt g (by rw[e];rfl)).2⟩
def RH(a:mC)(y:Nat)(K:yD)(w:eA)(G:tB w a K.fs)(c:yA K.fs<=1048576):
 Calls prog 40 #[.agg #[pA a (yA K.fs) y,zA K.c,zA K.k,zA K.cr,zA K.fl,qA K.dn]] w λe z=>∃s o,e=uA (.agg #[pA s (yA K.fs) o,zA K.c,zA K.k,zA K.cr,zA K.fl,qA K.dn])/\oJ z (λx=>w.1.size<=x/\x<z.1.size) s K.fs/\uB w z:=by
 go_enter func40,ntmps40;go_upto_region 1 with fail;refine aMj (C:=λW=>Code.wp prog _ _ _ W) ?_;intro A p t D q;obtain⟨E,F,w2,n,H,j,_⟩:=yq A a y K.fs (G.z p) (by omega);have r:=bB n;have l:=t.z j;have m:=D.z j;have Q:=bB (H.toA (Ia _));have B:=bB (vB p j);have c:tC A w.1.size 0 (pA a (yA K.fs) y):=t.cell 0;have R:w.1.size<A.1.size:=by omega
 have V:=l.cell 0;have X:=l.cell 1;have Y:=l.cell 2;have Z:=l.cell 3;have c:=l.cell 4;have h:=l.cell 5;have I:=m.cell 0;have J:=m.cell 1;have L:=m.cell 2;have M:=m.cell 3;have N:=m.cell 4;have O:=m.cell 5;simp only[Xb,Ob,Ga]at V X Y Z c h I J L M N O;obtain⟨b,d,f,g,h,i,_⟩:=l.frees;obtain⟨c,c,c,c,c,c,_⟩:=m.frees;have P:=bB q;clear p t D n H j l m G q;go_wp2_with(at_builtin;refine Lib.wpList_append_run _ rfl _ _ _ _ rfl _ _ rfl rfl _ _ r.o ?_);refine bodyPost_ret (v:=.agg #[pA E (yA K.fs) F,zA K.c,zA K.k,zA K.cr,zA K.fl,qA K.dn]) (by simp[results,results40,go_sem,I,J,L,M,N,O]) rfl ?_;refine eB.end2 (S:=λx=>x=w.1.size\/x=w.1.size+1) (C:=λW=>∃s o,Ending.returned (.agg #[pA E (yA K.fs) F,zA K.c,zA K.k,zA K.cr,zA K.fl,qA K.dn])=Ending.returned (.agg #[pA s (yA K.fs) o,zA K.c,zA K.k,zA K.cr,zA K.fl,qA K.dn])/\oJ W (λx=>w.1.size<=x/\x<W.1.size) s K.fs/\uB w W) w2 (by
  repeat (with_reducible first|exact eB.refl _ _|refine eB.setCell ?_ (Ca (by first|exact Ca rfl|exact La rfl)) _ _)) ?_
 intro c u;have U:=u.size;have q:=P.o;exact⟨_,_,rfl,(Q.o.turned u (λx T _ e=>by omega)).mono (λx T=>by omega),B.o.trans (u.below (by have:=B.o.size;omega) (λk c e=>by omega))⟩
def iy:(prog.info? 94).map (λi=>(i.zero,i.size,i.bytes))=bA (bA (.agg #[oA ⟨#[]⟩,zA 0,pA aA 0 0,pA aA 0 0]),4,72):=by kernel_rfl
def ab(a:List TV):yA (lF a)=yA a*4:=by
 induction a with
 |nil=>rfl
 |cons x r b=>simp only[lF,Xc,Kb,Zb,List.length_nil]at b |-;omega
def px(b:List TV):∀u∈lF b,u.oneCell'=dA:=by
 intro u a;simp only[lF,Ig]at a;obtain⟨x,_,a⟩:=a;simp only[Lb,List.mem_nil_iff,Bf]at a;rcases a with rfl|rfl|rfl|rfl<;>rfl
def YS{w:eA}{b:Nat}:∀(n:List fB)(o:Nat),(∀i(h:i<yA n),VH w b (o+i*4) n[i])->∃c:List TV,c.map (·.t)=n/\TU w c/\∀j u,(lF c)[j]?=bA u->w.cell? (dB b (o+j))=bA u
 |[],_,_=>⟨[],rfl,λy d=>(by cases d),λj u h=>(by simp[lF]at h)⟩
 |t::r,o,h=>by
  obtain⟨c,A,B,C⟩:=YS r (o+4) (λi D=>by
   have:=h (i+1) (by simpa using D);rw[show o+(i+1)*4=o+4+i*4 by omega]at this;simpa using this)
  obtain⟨f,k,g,l,p,q,s,v,x,z⟩:=h 0 (by simp);simp only[Nat.zero_mul,Bg,Eg]at p q s v x z;refine⟨⟨t,f,k,g,l⟩:: c,by rw[Fc,A],λy d=>?_,λj u a=>?_⟩
  .rcases Lb.1 d with rfl|d
   .exact ⟨x,z⟩
   exact B y d
  have e:lF (⟨t,f,k,g,l⟩:: c)=[oA t.N,zA t.L,pA f (yA t.M) k,pA g (yA t.Z) l]++lF c:=by simp[lF]
  rw[e]at a;match j,a with
  |0,a=>simp at a;rw[<-a];exact p
  |1,a=>simp at a;rw[<-a];exact q
  |2,a=>simp at a;rw[<-a];exact s
  |3,a=>simp at a;rw[<-a];exact v
  |j+4,a=>
   have m:(lF c)[j]?=bA u:=by simpa using a
   have:=C j u m;rw[show o+(j+4)=o+4+j by omega];exact this
def ov(a:mC)(l:Nat)(f:List fB)(z w:eA)(E:xC z a f)(s:uB z w)(N:yA f<=2000000):
 Calls prog 139 #[pA a (yA f) l] w λe r=>∃v c,e=uA v/\r.ownsRow w.1.size 94 4 v (yA f) (lF c)/\c.map (·.t)=f/\TU z c/\uB w r:=by
 have D:=λr=>Lib.run_eql_slice_nil (P:=prog) r 38 94 a (yA f) l 0 0 underlying38;cases a with
 |none=>
  have S:f=[]:=by
   obtain h|⟨b,o,e,_⟩:=E;exact h;exact absurd e (by simp)
  subst S;have L:=λr=>Lib.run_eql_slice_nil (P:=prog) r 38 94 aA 0 l 0 0 underlying38;clear D;go_enter func139,ntmps139;go_wp2;go_ret;exact⟨_,[],rfl,⟨rfl,Ca ⟨rfl,rfl⟩⟩,rfl,λy F=>(by cases F),iD⟩
 |some J=>
  obtain⟨i,M,G,H,I⟩:=info_parts iy;obtain⟨c,q,m,d⟩:∃c:List TV,c.map (·.t)=f/\TU z c/\∀j u,(lF c)[j]?=bA u->(w.alloc (vA #[] 94)).cell? (J.add j)=bA u:=by
   obtain rfl|⟨b,o,e,K,h⟩:=E;exact ⟨[],rfl,λy F=>(by cases F),λj u h=>by simp[lF]at h⟩;simp only[Qa]at e;subst e;obtain⟨c,V,W,X⟩:=YS f o h;refine⟨c,V,W,λj u U=>?_⟩;rw[FR];exact((wF w _).cell (Bb K s.size)).trans ((s.cell K).trans (X j u U))
  have x:yA c=yA f:=by rw[<-q,Xa]
  have n:(w.alloc (vA #[] 94)).ownsRow w.1.size 94 4 (pA (yB w.1.size) 0 0) 0 []:=eA.ownsRow_made w #[] 0 (Ia _) (by simp[maxLen]) (by simp);have R:=bB n;have Q:=bB d;have O:cB (prog.info? 94=bA i):=M;have A:cB (yA (lF c)=yA f*4):=by show _=_;rw[ab,x]
  have C:=bB q;have B:=bB m;clear E n d M q m x;go_enter func139,ntmps139;go_wp2_with(at_builtin;refine wpList_append_own_at _ rfl _ _ _ rfl w.1.size 94 i _ 4 72 underlying38 O.o G H I rfl (by omega) (pA (yB w.1.size) 0 0) 0 [] rfl R.o J (yA f) l (lF c) rfl A.o Q.o (px c) (by simp[maxLen];omega) (by omega) (by simp) ?_;intro Y Z g p _ _);go_ret;simp only[Ya,Mb]at g;refine⟨Y,c,rfl,g,C.o,B.o,zB.grown p (by simp) (λk T=>?_)⟩;simp[iA.ownBlock]at T;omega
structure xm(w wr:World)(B g n cap:Nat)(T:Nat→Nat)(ys:List TV)(k:Nat)(m:Bool):Prop where
 row:wr.ownsRow B 94 4 (pA (yB g) n cap) n (lF ys)
 len:yA ys=n
 tg:T g=0
 own:∀i(h:i<yA ys),i<k→aF wr B T (2*i+1) ys[i].a1 ys[i].t.M∧aF wr B T (2*i+2) ys[i].a2 ys[i].t.Z
 half:m=dA→∀h:k<yA ys,aF wr B T (2*k+1) ys[k].a1 ys[k].t.M
 old:∀i(h:i<yA ys),k≤i→jC w ys[i].a2 ys[i].t.Z∧(m=cA∨k<i→jC w ys[i].a1 ys[i].t.M)
def py(l:List TV)(i:Nat)(d:i<yA l)(a:mC)(c:Nat):lF (l.set i ⟨l[i].t,a,c,l[i].a2,l[i].c2⟩)=(lF l).set (i*4+2) (.slice a (yA l[i].t.M) c):=by
 induction l generalizing i with
 |nil=>simp at d
 |cons p r e=>
  cases i with
  |zero=>rfl
  |succ i=>
   have b:i<yA r:=by simpa using d
   have:=e i b;simp only[lF,Jd,Xc,Ec]at this |-
   rw[this,show(i+1)*4+2=(i*4+2)+4 by omega];rfl
def qa(l:List TV)(i:Nat)(d:i<yA l)(a:mC)(c:Nat):lF (l.set i ⟨l[i].t,l[i].a1,l[i].c1,a,c⟩)=(lF l).set (i*4+3) (.slice a (yA l[i].t.Z) c):=by
 induction l generalizing i with
 |nil=>simp at d
 |cons p r e=>
  cases i with
  |zero=>rfl
  |succ i=>
   have b:i<yA r:=by simpa using d
   have:=e i b;simp only[lF,Jd,Xc,Ec]at this |-
   rw[this,show(i+1)*4+3=(i*4+3)+4 by omega];rfl
def ly{w:eA}{M g n a:Nat}{f:List iA}{j:Nat}{v:iA}(h:w.ownsRow M 94 4 (pA (yB g) n a) n f):(w.setCell (dB g j) v).ownsRow M 94 4 (pA (yB g) n a) n (f.set j v):=by
 refine⟨by rw[Pd];exact h.1,?_⟩;obtain⟨e,_⟩|⟨q,d,b,e,o,p,i,k,l,m⟩:=h.2
 .cases e
 simp only[iA.slice.injEq,Qa,Addr.mk.injEq,Cc]at e;obtain⟨rfl,_,rfl⟩:=e;have c:nB w g b 94:=p;refine La ⟨g,a,b.setIfInBounds j v,rfl,o,c.set j v,i,k,by simp[l],?_⟩;rw[Jf,List.take_set,m]
def XR{w:eA}{B b n:Nat}{T:Nat->Nat}{a:mC}{c:List kB}(h:fD w B a c)(e:b<=B)(d:∀g,B<=g->g<w.1.size->T g=n):aF w b T n a c:=by grind [fD,aF]
def xm.limits{w wr j:eA}{B g n u k:Nat}{T:Nat->Nat}{d:List TV}{a:mC}{c:Nat}(h:xm w wr B g n u T d k cA)(H:k<yA d)(z:uB wr j)(G:B<=wr.1.size)(I:j.ownsRow wr.1.size 96 2 (.slice a (yA d[k].t.M) c) (yA d[k].t.M) (flatK d[k].t.M)):
 xm w (j.setCell (dB g (k*4+2)) (.slice a (yA d[k].t.M) c)) B g n u (λg=>if g<wr.1.size then T g else 2*k+1) (d.set k ⟨d[k].t,a,c,d[k].a2,d[k].c2⟩) k dA:=by
 have x:=(h.row.lt g rfl).2;have D:eB (·=g) j (j.setCell (dB g (k*4+2)) (.slice a (yA d[k].t.M) c)):=(eB.refl (·=g) j).setCell (Ca rfl) _ _;have r:∀q,q<wr.1.size->q≠g->(j.setCell (dB g (k*4+2)) (.slice a (yA d[k].t.M) c)).heap[q]?=wr.heap[q]?:=λq s A=>by
  rw[D.block q (by have:=z.size;omega) A,z.block q s]
 have f:∀{q:mC}{F:List kB}{m:Nat},0<m->aF wr B T m q F->aF (j.setCell (dB g (k*4+2)) (.slice a (yA d[k].t.M) c)) B (λg=>if g<wr.1.size then T g else 2*k+1) m q F:=λM C=>C.keep λq s _ v=>⟨r q s (λe=>by rw[e,h.tg]at v;omega),by simp only[Ma s];exact v⟩
 exact {
  row:=by rw[py d k H];exact ly (hC h.row z)
  len:=by rw[Pd];exact h.len
  tg:=by simp only[Ma x];exact h.tg
  own:=λi y p=>by
   have o:i<yA d:=by simpa using y
   rw[Of (by omega)];obtain⟨K,L⟩:=h.own i o p;exact⟨f (by omega) K,f (by omega) L⟩
  half:=λ_ y=>by
   rw[Oe];have:=oD (l:=d[k].t.M) I;have C:=XR (b:=B) (n:=2*k+1) (T:=λg=>if g<wr.1.size then T g else 2*k+1) this G (λq s _=>by simp only[Ja (show ¬q<wr.1.size by omega)]);refine C.keep λq s _ v=>⟨D.block q s (λe=>?_),v⟩
   subst e;simp only[Ma x,h.tg]at v;omega
  old:=λi y p=>by
   have o:i<yA d:=by simpa using y
   obtain⟨E,J⟩:=h.old i o p;by_cases e:i=k
   .subst e;rw[Oe];exact⟨E,λh=>by obtain h|h:=h;cases h;omega⟩
   rw[Of (by omega)];exact⟨E,λ_=>J (Ca rfl)⟩ }
def xm.series{w wr j:eA}{B g n s k:Nat}{T:Nat->Nat}{d:List TV}{a:mC}{c:Nat}(h:xm w wr B g n s T d k dA)(D:k<yA d)(x:uB wr j)(G:B<=wr.1.size)(H:j.ownsRow wr.1.size 98 2 (.slice a (yA d[k].t.Z) c) (yA d[k].t.Z) (flatK d[k].t.Z)):
 xm w (j.setCell (dB g (k*4+3)) (.slice a (yA d[k].t.Z) c)) B g n s (λg=>if g<wr.1.size then T g else 2*k+2) (d.set k ⟨d[k].t,d[k].a1,d[k].c1,a,c⟩) (k+1) cA:=by
 have v:=(h.row.lt g rfl).2;have E:eB (·=g) j (j.setCell (dB g (k*4+3)) (.slice a (yA d[k].t.Z) c)):=(eB.refl (·=g) j).setCell (Ca rfl) _ _;have p:∀q,q<wr.1.size->q≠g->(j.setCell (dB g (k*4+3)) (.slice a (yA d[k].t.Z) c)).heap[q]?=wr.heap[q]?:=λq r A=>by
  rw[E.block q (by have:=x.size;omega) A,x.block q r]
 have f:∀{q:mC}{F:List kB}{m:Nat},0<m->aF wr B T m q F->aF (j.setCell (dB g (k*4+3)) (.slice a (yA d[k].t.Z) c)) B (λg=>if g<wr.1.size then T g else 2*k+2) m q F:=λM C=>C.keep λq r _ u=>⟨p q r (λe=>by rw[e,h.tg]at u;omega),by simp only[Ma r];exact u⟩
 exact {
  row:=by rw[qa d k D];exact ly (hC h.row x)
  len:=by rw[Pd];exact h.len
  tg:=by simp only[Ma v];exact h.tg
  own:=λi y z=>by
   have o:i<yA d:=by simpa using y
   by_cases e:i=k
   .subst e;rw[Oe];refine⟨f (by omega) (h.half rfl D),?_⟩;have:=oD (l:=d[i].t.Z) H;have C:=XR (b:=B) (n:=2*i+2) (T:=λg=>if g<wr.1.size then T g else 2*i+2) this G (λq r _=>by simp only[Ja (show ¬q<wr.1.size by omega)]);refine C.keep λq r _ u=>⟨E.block q r (λe=>?_),u⟩
    subst e;simp only[Ma v,h.tg]at u;omega
   rw[Of (by omega)];obtain⟨K,L⟩:=h.own i o (by omega);exact⟨f (by omega) K,f (by omega) L⟩
  half:=λh=>by cases h
  old:=λi y z=>by
   have o:i<yA d:=by simpa using y
   obtain⟨I,J⟩:=h.old i o (by omega);rw[Of (by omega)];exact⟨I,λ_=>J (La (by omega))⟩ }
def xm.keep{w wr w':eA}{S:Nat->Prop}{B g n c k:Nat}{T:Nat->Nat}{r:List TV}{m:Bool}(h:xm w wr B g n c T r k m)(p:eB S wr w')(o:∀q,S q->q<B):xm w w' B g n c T r k m:=by
 have l:∀q,q<wr.1.size->B<=q->w'.heap[q]?=wr.heap[q]?:=λq a b=>p.block q a (λe=>by have:=o q e;omega);exact { h with
  row:=p.row h.row (λq a e=>by have:=(h.row.lt q a).1;have:=o q e;omega)
  own:=λi j f=>⟨(h.own i j f).1.keep λq a b d=>⟨l q a b,d⟩,(h.own i j f).2.keep λq a b d=>⟨l q a b,d⟩⟩
  half:=λs j=>(h.half s j).keep λq a b d=>⟨l q a b,d⟩ }
def xm.done{w wr:eA}{B g n a:Nat}{T:Nat->Nat}{d:List TV}{j:List fB}(h:xm w wr B g n a T d n cA)(b:d.map (·.t)=j):cD wr B (yB g) j:=
 eR.own (e:=94) (n:=n) (cap:=a) ⟨T,d,h.row,b,λq f=>by simp only[iA.ownBlock,Qa]at f;rw[<-f];exact h.tg,λi c=>h.own i c (by rw[h.len]at c;exact c)⟩ (by rw[<-b,Xa];exact h.len)
section
open Go.Extern.Stop Go.Stop Go.Extern
def tm2(x:Int):(x.tmod 2 != 0)=decide (x % 2=1):=by
 have h:x.tmod 2=0 ↔ (2:Int) ∣ x:=(Int.dvd_iff_tmod_eq_zero ..).symm;by_cases e:x.tmod 2=0
 .have:=h.1 e;simp only[e,bne_self_eq_false];symm;simp;omega
 have:=λq=>e (h.2 q);rw[bne_iff_ne.2 e];symm;simp;omega
def aEf{b:Int}(h:wrap64 b=b):∀k,ZS k b=wrap64 (b*2 ^ k)
 |0=>by simp[ZS,h]
 |k+1=>by
  rw[ZS,aEf h k,Int.pow_succ,<-Int.mul_assoc];generalize b*2 ^ k=y;unfold wrap64;omega
def aNk{b:Int}(h:wrap64 b=b):AL b=decide (9218868437227405312<b % 9223372036854775808):=by
 unfold AL;rw[aEf h 12];simp only[bp,shK,tm2];unfold wrap64 at *;rw[Qb];simp only[Sa,Ab,bne_iff_ne,Oc,Int.reducePow];constructor;rintro ⟨a,c⟩;omega;intro a;refine⟨?_,?_⟩<;>omega
def aGi(n:Nat):(Ieee.double.order n n==bA .eq)=decide (¬9218868437227405312<n % 9223372036854775808):=by
 unfold Ieee.Format.order Ieee.Format.read;rw[show Ieee.double.signWeight=9223372036854775808 from by decide,show Ieee.double.infRung=9218868437227405312 from by decide,show Ieee.double.binade=4503599627370496 from by decide];dsimp only;(repeat' split)<;>(simp[Ieee.Datum.order];omega)
def aIo(n:Int)(w:eA):(callFunc 270 #[.int .u64 n]).run prog w=.ok (.value (.float .f64 n.toNat)) w:=by
 rw[@run_callFunc_extern prog 270 _ Extern.MathFloatBits.float64frombits func270 (by kernel_rfl) (by kernel_rfl) (by kernel_rfl) (by kernel_rfl)];rfl
def az(b:Int)(w:eA)(c : -9223372036854775808<=b)(d:b<=9223372036854775807):rL 222 #[zA b] w (qA (!AL b)):=by
 have g:=aIo;have a:cB ((FloatKind.f64.format.order (IntKind.u64.wrap b).toNat (IntKind.u64.wrap b).toNat==bA .eq)=!AL b):=by
  show(Ieee.double.order (b % 18446744073709551616).toNat (b % 18446744073709551616).toNat==bA .eq)=!AL b;rw[aGi,aNk (by unfold wrap64;omega)];rw[Qb];simp;omega
 clear c d;go_enter func222,ntmps222;go_wp2;go_ret;exact⟨by simp[a.o],rfl⟩
end
section
open Go.Maps
structure WQ(w W:World)(B K:Nat→Prop)(v3 v4:Value)(ps:List jB)(rs:List xD)(l m:Nat)(c:iC)(now:Int)(ts:List fB)(M:Nat):Prop where
 led:jE W K l m c now ts M
 new:∀g,W.1.size≤g→K g
 sub:∀g,K g→B g
 row3:W.ownsRow w.1.size 9 1 v3 (yA ps) (ps.map iA.string)
 row4:W.ownsRow w.1.size 137 4 v4 (yA rs) (iW rs)
 off3:∀g,v3.ownBlock=bA g→¬K g∧v4.ownBlock≠bA g
 off4:∀g,v4.ownBlock=bA g→¬K g
 turn:eB B w W
section
variable {w W W':eA} {B K:Nat→Prop} {v3 v4:iA} {ps:List jB} {rs:List xD} {l m:Nat} {c:iC} {now:Int} {ts ts':List fB} {M M' g n cap:Nat}
theorem WQ.z(h:WQ w W B K v3 v4 ps rs l m c now ts M)(a:uB W W'):WQ w W' B K v3 v4 ps rs l m c now ts M:=
 ⟨h.led.z a,λg b=>h.new g (Ua a.size b),h.sub,hC h.row3 a,hC h.row4 a,h.off3,h.off4,h.turn.trans' (eB.of a)⟩
theorem WQ.judged(h:WQ w W B K v3 v4 ps rs l m c now ts M)(b:jE W' K l m c now ts' M')(a:eB K W W'):WQ w W' B K v3 v4 ps rs l m c now ts' M':=
 ⟨b,λg d=>h.new g (Ua a.size d),h.sub,a.row h.row3 λg e=>(h.off3 g e).1,a.row h.row4 h.off4,h.off3,h.off4,h.turn.trans' (a.mono λi _ e=>h.sub i e)⟩
theorem WQ.led'(h:WQ w W B K v3 v4 ps rs l m c now ts M){v:iA}(f:∀g,v.ownBlock=bA g->¬K g)(d:eB (λi=>w.1.size<=i/\v.ownBlock=bA i) W W'):jE W' (λg=>K g/\g<W.1.size\/W'.1.size<=g) l m c now ts M:=
 h.led.re λg b a=>⟨d.block g b λe=>f g e.2 a,Ca ⟨a,b⟩⟩
theorem WQ.app3(h:WQ w W B K v3 v4 ps rs l m c now ts M){x:jB}(p:W'.ownsRow w.1.size 9 1 (pA (yB g) (yA ps+1) cap) (yA ps+1) (ps.map iA.string++[oA x]))(j:eB (λi=>w.1.size<=i/\v3.ownBlock=bA i) W W')(a:v3.ownBlock=bA g\/W.1.size<=g)(o:∀g,w.1.size<=g->B g):WQ w W' B (λg=>K g/\g<W.1.size\/W'.1.size<=g) (.slice (yB g) (yA (ps++[x])) cap) v4 (ps++[x]) rs l m c now ts M:=by
 have r:=j.size;have n:=h.turn.size;have f:=jP p g rfl;have k:=λq e=>jP h.row4 q e;refine⟨h.led' (λg e=>(h.off3 g e).1) j,λg f=>La f,λg f=>f.elim (λe=>h.sub g e.1) λe=>o g (by omega),by rw[show(ps++[x]).length=yA ps+1 by simp,Ld];exact p,j.row h.row4 λq e d=>(h.off3 q d.2).2 e,λq e=>?_,λq e b=>?_,h.turn.trans' (j.mono λi _ e=>o i e.1)⟩
 .obtain rfl:g=q:=by simpa[iA.ownBlock]using e
  obtain a|a:=a;exact ⟨λb=>b.elim (λe=>(h.off3 _ a).1 e.1) λe=>by omega,(h.off3 _ a).2⟩;exact ⟨λb=>b.elim (λe=>by omega) λe=>by omega,λe=>by have:=k _ e;omega⟩
 exact b.elim (λd=>h.off4 q e d.1) λd=>by have:=k _ e;omega
theorem WQ.app4(h:WQ w W B K v3 v4 ps rs l m c now ts M){x:xD}(p:W'.ownsRow w.1.size 137 4 (pA (yB g) (yA rs+1) cap) (yA rs+1) (iW rs++[zA x.K,oA x.T,oA x.X,zA x.U]))(j:eB (λi=>w.1.size<=i/\v4.ownBlock=bA i) W W')(a:v4.ownBlock=bA g\/W.1.size<=g)(o:∀g,w.1.size<=g->B g):WQ w W' B (λg=>K g/\g<W.1.size\/W'.1.size<=g) v3 (.slice (yB g) (yA (rs++[x])) cap) ps (rs++[x]) l m c now ts M:=by
 have s:=j.size;have n:=h.turn.size;have d:=jP p g rfl;have k:=λq e=>jP h.row3 q e;have r:iW (rs++[x])=iW rs++[zA x.K,oA x.T,oA x.X,zA x.U]:=by simp[iW]
 refine⟨h.led' h.off4 j,λg d=>La d,λg d=>d.elim (λe=>h.sub g e.1) λe=>o g (by omega),j.row h.row3 λq e b=>(h.off3 q e).2 b.2,by rw[show(rs++[x]).length=yA rs+1 by simp,r];exact p,λq e=>⟨λf=>f.elim (λb=>(h.off3 q e).1 b.1) λb=>by have:=k _ e;omega,λb=>?_⟩,λq e f=>?_,h.turn.trans' (j.mono λi _ e=>o i e.1)⟩
 .obtain rfl:g=q:=by simpa[iA.ownBlock]using b
  obtain a|a:=a;exact (h.off3 _ e).2 a;have:=k _ e;omega
 obtain rfl:g=q:=by simpa[iA.ownBlock]using e
 obtain a|a:=a
 .exact f.elim (λe=>h.off4 _ a e.1) λe=>by omega
 exact f.elim (λe=>by omega) λe=>by omega
end
end
