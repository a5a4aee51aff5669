import Derived.Test.YtcmdjimlmnaojaaGreatDoorJ24
set_option maxRecDepth 100000
set_option maxHeartbeats 16000000
set_option linter.defProp false
open Option renaming some->cA,none->aA
open Bool renaming true->eA,false->dA
open List renaming length->zA
namespace Go.Proofs.YtcmdjimlmnaojaaGreatDoor
open Go renaming World->fA,Value->jA
open Value renaming string->pA,bool->sA,slice->qA
open Ending renaming returned->vA
open Obj renaming cells->xA
open Go.RowKit Tryz
section
open Go.Maps
def sR.seen{w y:fA}{S:Nat->Prop}{x:Nat}{t:gB}{M C E z:Nat}{B:jA}{Q:List (kB×Nat)}{A:List qI}{D:DataW Unit}{q:kB×Nat}{b:Int}(h:sR w S x t M C E z B Q A D)(j:q∈Q)(H:q.1.n<=b)(l:fB (·=q.2) w y)
(F:jB y q.2 #[pA q.1.s,aB b] 134):tD y S x (sI t q.1.s b) M:=by
 have u:tC (λq:kB×Nat=>q.1.s) Q:=by
  rw[<-xW (key':=λp:kB=>p.s) (λq:kB×Nat=>q.1) (λ_=>rfl),h.q1];exact h.rs
 have d:∀{β:Type}(f:kB×Nat->β),f q=f ((⟨q.1.s,b⟩:kB),q.2)->(fC (λq:kB×Nat=>q.1.s) ((⟨q.1.s,b⟩:kB),q.2) Q).map f=Q.map f:=λf G=>
  FG (key:=λq:kB×Nat=>q.1.s) (a:=((⟨q.1.s,b⟩:kB),q.2)) f u j rfl G
 have o:zA (fC (λq:kB×Nat=>q.1.s) ((⟨q.1.s,b⟩:kB),q.2) Q)=zA Q:=by
  have:=Kd List.length (d (λq=>q.2) rfl);simpa using this
 have i:∀p,p∈fC (λq:kB×Nat=>q.1.s) ((⟨q.1.s,b⟩:kB),q.2) Q->p=((⟨q.1.s,b⟩:kB),q.2)\/(p∈Q/\p.2≠q.2):=λp c=>by
  rcases YT u c with e|⟨c,k⟩;exact Ca e;refine La ⟨c,λe=>?_⟩;have:=eS h.nd c j e;rw[this]at k;exact k rfl
 have r:(fC (λq:kB×Nat=>q.1.s) ((⟨q.1.s,b⟩:kB),q.2) Q).map (·.1)=(sI t q.1.s b).Z:=by
  rw[cS (key':=λp:kB=>p.s) (λq:kB×Nat=>q.1) (λ_=>rfl),h.q1];rfl
 refine⟨C,E,z,B,fC (λq:kB×Nat=>q.1.s) ((⟨q.1.s,b⟩:kB),q.2) Q,A,D,?_⟩;exact { h with
  blk:=l.blk h.blk (h.dx q j).symm
  lims:=l.map h.lims (cD h.lims (h.cells q j))
  Z:=by
   rw[o,d (λq=>(q.1.s,kF q.2)) rfl];exact l.map h.Z (cD h.Z (h.cells q j))
  cnts:=l.map h.cnts (cD h.cnts (h.cells q j))
  cnt:=λm=>by
   rw[h.cnt m];have:t.Z.map (·.s)=(sI t q.1.s b).Z.map (·.s):=by
    rw[<-r,<-h.q1,Vd,Vd];exact(d ((λp:kB=>p.s) ∘ λq:kB×Nat=>q.1) rfl).symm
   rw[mg this m]
  q1:=r
  cells:=λp c=>by
   rcases i p c with rfl|⟨c,k⟩;exact F;exact l.blk (h.cells p c) k
  row:=l.row h.row (λg n e=>(h.di g n).2 q j e.symm)
  perm:=by rw[d (λq=>q.2) rfl];exact h.perm
  early:=λs v p c e=>by
   rcases i p c with rfl|⟨c,_⟩;exact Int.le_trans (h.early s v q j e) H;exact h.early s v p c e
  rs:=jK h.rs
  sq:=λp c=>by
   rcases i p c with rfl|⟨c,_⟩;exact h.sq q j;exact h.sq p c
  nd:=by rw[d (λq=>q.2) rfl];exact h.nd
  dx:=λp c=>by
   rcases i p c with rfl|⟨c,_⟩;exact h.dx q j;exact h.dx p c
  di:=λg n=>⟨(h.di g n).1,λp c=>by
   rcases i p c with rfl|⟨c,_⟩;exact (h.di g n).2 q j;exact (h.di g n).2 p c⟩ }
def aDm{w j:fA}{B:Nat->Prop}{T:Nat->Option Nat}{l m:Nat}{c:lC}{i:Int}{L:List (gB×Nat)}{M M':Nat}{p:gB×Nat}{t':gB}(h:iL w B T l m c i L M)(q:∀g,w.1.size<=g->B g)(o:p∈L)(k:t'.N=p.1.N)
(b:fB (λg=>B g/\T g=cA p.2) w j)(s:tD j (λg=>(B g/\T g=cA p.2)\/w.1.size<=g) p.2 t' M')(r:M<=M'):
 lE j B l m c i ((fC (λp:gB×Nat=>p.1.N) (t',p.2) L).map (·.1)) M':=by
 refine rz (n:=zA L) h q o k b s r (fB.refl _ j) ?_;have f:DataW.put (jE (L.map λp=>(p.1.N,kF p.2))) (kL t'.N) (kF p.2)=jE ((fC (λp:gB×Nat=>p.1.N) (t',p.2) L).map λp=>(p.1.N,kF p.2)):=
  IT (key:=λp:gB×Nat=>p.1.N) (λp=>kF p.2) (t',p.2) h.rise
 have d:(fC (λp:gB×Nat=>p.1.N) (t',p.2) L).map (λp=>(p.1.N,kF p.2))=L.map λp=>(p.1.N,kF p.2):=
  FG (key:=λp:gB×Nat=>p.1.N) (a:=(t',p.2)) (λp:gB×Nat=>(p.1.N,kF p.2)) h.rise o k.symm (by simp[k])
 rw[f,d];exact b.map h.ten (λe=>by rw[h.tm]at e;cases e.2)
def lE.mono{w:fA}{B:Nat->Prop}{l m:Nat}{c:lC}{a:Int}{d:List gB}{M b:Nat}(h:lE w B l m c a d M)(f:M<=b):lE w B l m c a d b:=by
 obtain⟨T,L,h,e⟩:=h;exact⟨T,L,{ h with idx:=λp g=>(h.idx p g).mono f},e⟩
def aFs(w:fA):(zeroValue 225).run prog w=.ok (.pointer aA) w:=by kernel_rfl
def yh{w:fA}{d:Nat}{Q:List (kB×Nat)}(h:w.ownsMap prog 9 tE d (zA Q) (jE (Q.map λq=>(q.1.s,kF q.2)))){key:pB}(e:key.size<=maxLen):
 (∃q,xC (λq:kB×Nat=>q.1.s) key Q=cA q/\(Instr.lookup 217 (.map (cA d)) (pA key) eA).run prog w=.ok (.tuple #[.pointer (vB q.2),sA eA]) w)\/
 (xC (λq:kB×Nat=>q.1.s) key Q=aA/\(Instr.lookup 217 (.map (cA d)) (pA key) eA).run prog w=.ok (.tuple #[.pointer aA,sA dA]) w):=by
 obtain⟨v,f,a,c⟩:=h.look_ok vL underlying217 (aFs w) (zd:=.nil) (zp:=[]) rfl (eN e);rw[YE (key:=λq:kB×Nat=>q.1.s) (val:=λq=>kF q.2)]at a;rw[lS (key:=λq:kB×Nat=>q.1.s) (λq=>kF q.2)]at c;cases hg:xC (λq:kB×Nat=>q.1.s) key Q with
 |some q=>
  rw[hg]at a c;have b:=aR c;subst b;exact Ca ⟨q,rfl,a⟩
 |none=>
  rw[hg]at a c;have b:=KQ c;subst b;exact La ⟨rfl,a⟩
end
section
open Go.Maps
structure Fnd(w W:World)(B:Nat→Prop)(T:Nat→Option Nat)(l m:Nat)(c:lC)(now:Int)(L:List (gB×Nat))(M:Nat)(tenant:pB)(x N:Nat)(th:Bool)(t:gB)(S:Nat→Prop):Prop where
 ix:tD W S x t N
 tn:rB (L.map (·.1)) tenant=t
 nm:t.N=tenant
 no:(xC (·.N) tenant (L.map (·.1))).isNone=!th
 led:iL W B T l m c now L M
 bw:xB w W
 sB:∀g,S g→B g
 sl:¬S l
 sm:¬S m
 mem:t∈L.map (·.1)∧th=eA∨t.Z=[]∧t.M=[]
 nM:N≤M
 put:∀k{w2 w4 w6:fA}{t':gB}{n:Nat},xB W w2→fB S w2 w4→tD w4 (λg=>S g∨w2.1.size≤g) x t' (N+k)→t'.N=tenant→fB (·=m) w4 w6→w6.ownsMap prog 9 tE m n (DataW.put (jE (L.map λp=>(p.1.N,kF p.2))) (kL tenant) (kF x))→lE w6 B l m c now (fC (·.N) t' (L.map (·.1))) (M+k)
 turn:th=eA→∀{w4:fA}{t':gB},fB S W w4→tD w4 S x t' N→t'.N=tenant→lE w4 B l m c now (fC (·.N) t' (L.map (·.1))) M
 kp:th=dA→∀{w4:fA},fB S W w4→iL w4 B T l m c now L M
 del:∀{w4 w6:fA}{n:Nat},fB S W w4→fB (·=m) w4 w6→w6.ownsMap prog 9 tE m n (DataW.del (jE (L.map λp=>(p.1.N,kF p.2))) (kL tenant))→lE w6 B l m c now (sE (·.N) tenant (L.map (·.1))) M
def aCk{w W:fA}{B:Nat->Prop}{l m:Nat}{T:Nat->Option Nat}{c:lC}{C:Int}{L:List (gB×Nat)}{M:Nat}{d:pB}{e:Ending}(h:iL w B T l m c C L M)(G:∀g,w.1.size<=g->B g)(Q:qt L d w e W):∃x N O t S,e=vA (.tuple #[.pointer (vB x),sA O])/\Fnd w W B T l m c C L M d x N O t S:=by
 have o:xC (·.N) d (L.map (·.1))=(xC (λp:gB×Nat=>p.1.N) d L).map (·.1):=ny;have y:=fun(u:gB)(x:Nat)=>cS (key:=λp:gB×Nat=>p.1.N) (key':=λt:gB=>t.N) (λp:gB×Nat=>p.1) (λ_=>rfl) (u,x) L;have E:=sZ (key:=λp:gB×Nat=>p.1.N) (key':=λt:gB=>t.N) (λp:gB×Nat=>p.1) (λ_=>rfl) d L;obtain⟨p,j,rfl,rfl⟩|⟨j,x,rfl,U,J,D⟩:=Q
 .obtain ⟨z,H⟩:=jM j;rw[j]at o;refine⟨p.2,M,eA,p.1,λg=>B g/\T g=cA p.2,rfl,h.idx p z,by unfold rB;rw[o];rfl,H,by rw[o];rfl,h,gD,λg e=>e.1,λe=>(by rw[h.tl]at e;cases e.2),λe=>(by rw[h.tm]at e;cases e.2),Ca ⟨Tc z,rfl⟩,Ia _,?_,?_,(λh=>by cases h),?_⟩
  .intro k X v I u n r a s A b O;have:=rz (p:=p) (t':=u) (M':=M+k) (h.keep λg j _=>r.block g j) (λg j=>G g (Ua r.size j)) z (A.trans H.symm) a s (by omega) b (by rw[A];exact O);rwa [y]at this
  .intro _ v u a s A;have:=aDm (p:=p) (t':=u) (M':=M) h G z (A.trans H.symm) a (s.keep λg _ f=>⟨rfl,Ca f⟩) (Ia _);rwa [y]at this
  intro v I n a b O;have:=ry (k:=d) h (λg f q R K e=>by
   rw[f.2]at e;exact K ((eS h.nd R z (Lc e).symm) ▸ H)) (λg _ f e=>by rw[e]at f;cases f.2) a b O
  rwa [E]at this
 rw[j]at o;have Y:=bB h.blk;have Z:=h.ten.lt;have F:∀{v},fB (λg=>w.1.size<=g) W v->iL v B T l m c C L M:=λa=>h.keep λg j _=>(D.trans (a.below (by have:=D.size;omega) λi J e=>by omega)).block g j;refine⟨x,0,dA,⟨d,-1,[],[]⟩,λg=>w.1.size<=g,rfl,J,by unfold rB;rw[o];rfl,rfl,by rw[o];rfl,h.keep λg j _=>D.block g j,D,λg e=>G g e,by omega,by omega,La ⟨rfl,rfl⟩,Oa _,?_,(λh=>by cases h),λ_ v a=>F a,?_⟩
 .intro k X v I u n r a s A b O;have V:=(aC D r).size;have P:=(aC D r).trans (a.below (by omega) λi J e=>by omega);have:=gb (x:=x) (t:=u) (M':=0+k) (M:=M+k) { h with idx:=λp z=>(h.idx p z).mono (by omega) } G (by rw[A];exact j) gD P U b (by rw[A];exact O) (fB.refl _ I) (s.keep λg j f=>⟨b.block g j (λe=>by rcases f with f|f<;>omega),by rcases f with f|f<;>omega⟩) (by omega);rwa [y]at this
 intro v I n a b O;have:=ry (k:=d) (S:=λ_=>False) (F a) (λg f=>f.elim) (λg _ f=>f.elim) (fB.refl _ v) b O;rwa [E]at this
end
section
open Go.Maps
def PL(l m:Nat)(a key:pB)(c:lC)(b:Int)(B:Nat->Prop)(d:List gB)(M:Nat)(w:fA)(h:lE w B l m c b d M)(hB:∀g,w.1.size<=g->B g)(hU:kH w)(o:a.size<=1400000)(o:key.size<=1400000)(o:1<=M)(o:M<=1000000000)(G:∀t∈d,zA t.Z<=1000000000)(I:∀t∈d,∀y∈t.Z,y.n<=b)(J:zA d<=1000000000):
 Calls prog 218 #[.pointer (vB l),pA a,pA key] w λe w'=>e=vA (aB ((fJ c b d a key).2:Nat))/\lE w' B l m c b (fJ c b d a key).1 (M+1)/\fB B w w':=by
 have O:=dB (h.mono (Gf M));have o:cB (cF 205 #[pA key] w (pA (dE key))):=tY key w (by omega) hU;have HT:cB _:=λW=>pM a W (by unfold maxLen;omega);have Y:cB (fJ c b d a key=if (uC a&&!(dE key).toList.isEmpty)=dA then(d,5) else if (xC (·.s) key (rB d a).Z).isSome=eA then(fC (·.N) (sI (rB d a) key b) d,1) else if (if (rB d a).L = -1 then c.tl else(rB d a).L)<=(zA (rB d a).Z:Nat)\/((xC (·.N) a d).isNone&&decide (10000<=zA d))=eA then(d,3) else if cH (rB d a).M (dE key) c.ml<=(tI dE (rB d a).Z (dE key):Nat) then(d,4) else(fC (·.N) (sI (rB d a) key b) d,2)):=rfl;have v:cB _:=λS x t s W f Z hM0 hl=>qw x t key b S s W f Z (by unfold maxLen;omega) (dS key) hM0 hl;have e0:cB _:=λS x t s W hl f=>wT l m x c b t S s (dE key) W hl f (dS key);have b0:cB _:=fun(W:fA)(cm:Nat)(s:Nat)(D:DataW Unit)(n:Nat)(Z:W.ownsMap prog 9 (plainElem prog 3) cm s D)(s:D.atKey (kL (dE key)) (aJ 0)=aJ n)=>PY Z s (dS key);clear hU;generalize dE key=mk at *;generalize uC a=Z at *;generalize fJ c b d a key=R at *;go_enter func218,ntmps218;go_wp2_with fail;apply jC o.o;intro w1 s;have A:=dB s;clear s o;go_wp2_with fail;refine rD (HT.o _) ?_;clear HT;have o:(Z=dA\/Z=eA/\mk.toList.isEmpty=eA)\/Z=eA/\mk.toList.isEmpty=dA:=by cases Z<;>cases mk.toList.isEmpty<;>simp
 obtain o|⟨rfl,s⟩:=o
 .have k:cB (R=(d,5)):=by show _=_;rw[Y.o,Ma (by rcases o with e|⟨_,e⟩<;>rw[e]<;>simp)]
  clear Y v e0 b0 h;obtain rfl|⟨rfl,s⟩:=o
  all_goals
   go_wp2;go_ret;exact⟨uF (by rw[k.o];rfl),by rw[k.o];exact O.o.z A.o,fB.of A.o⟩
 obtain⟨T,L,h,rfl⟩:=h;rw[s]at Y;have H1:cB _:=h.keep λg o _=>A.o.block g o;have HF:=dB (ON l m a c b B T L M w1 H1.o (by unfold maxLen;omega));have HMB:cB (B m/\B l):=⟨h.mB,h.lB⟩
 have HK:cB (keyOf prog 9 (pA a)=cA (kL a)):=eN (by unfold maxLen;omega);rw[Xa]at J;clear h;go_wp2_with fail;refine HF.o.mono ?_;intro e W Z;obtain⟨x,N,th,t,S,rfl,F⟩:=aCk H1.o (λg o=>hB g (Ua A.o.size o)) Z;have H:cB _:=aC A.o F.bw;have J:=F.nM;have r:cB (R=if (xC (·.s) key t.Z).isSome=eA then(fC (·.N) (sI t key b) (L.map (·.1)),1) else if (if t.L = -1 then c.tl else t.L)<=(zA t.Z:Nat)\/((!th) &&decide (10000<=zA L))=eA then(L.map (·.1),3) else if cH t.M mk c.ml<=(tI dE t.Z mk:Nat) then(L.map (·.1),4) else(fC (·.N) (sI t key b) (L.map (·.1)),2)):=by show _=_;rw[Y.o,F.tn,F.no,Xa,Ja (by simp)]
 have hpl:zA t.Z<=1000000000:=by obtain⟨e,_⟩|⟨e,_⟩:=F.mem;exact G _ e;rw[e];simp
 have HNW:cB (∀y∈t.Z,y.n<=b):=by refine dB ?_;obtain⟨e,_⟩|⟨e,_⟩:=F.mem;exact I _ e;rw[e];simp
 have HLB:=dB F.led.blk;have x6:yC W l 6 (aB b):=F.led.blk.cell 6;have c0:=dB (KL l m x c b t S N W F.led.blk F.ix);have V:=dB (OT l m c b B T L M W F.led);have HL0:cB (∀J,xB W J->lE J B l m c b (L.map (·.1)) (M+1)):=λJ hb=>lE.mono ⟨T,L,F.led.keep λg o _=>hb.block g o,rfl⟩ (Gf M);have C:cB _:=fun(y:kC W)=>e0.o _ x t N y.w' (F.led.blk.z y.h) (F.ix.z y.h);have u:=dB F;clear HF Y e0 Z G I s F H1 O;obtain⟨I,G,cm,O,Q,hs,D,f⟩:=u.o.ix;have Z:=dB f;have x2:yC W x 2 (.map (cA G)):=f.blk.cell 2;have l2:=f.Z.len underlying217 3;rw[vM,show zA Q=zA t.Z by rw[<-f.q1,Xa]]at l2;have Y:cB (xC (·.s) key t.Z=(xC (λq:kB×Nat=>q.1.s) key Q).map (·.1)):=by
  show _=_;rw[<-f.q1];exact eV (key:=λq:kB×Nat=>q.1.s) (key':=λp:kB=>p.s) (λq=>q.1) (λ_=>rfl) key Q
 have d0:=dB (yh f.Z (key:=key) (by unfold maxLen;omega));have d3:=kC.cells (show yC W x 3 (.map (cA cm)) from f.blk.cell 3);have U:cB (∀y:kC W,(Instr.lookup 216 (.map (cA cm)) (pA mk) dA).run prog y.w'=.ok (aB (tI dE t.Z mk)) y.w'):=λy=>by
  obtain⟨I,G,G,O,Q,hs,D,f⟩:=u.o.ix.z y.h;have G:=f.blk.cell 3;rw[d3 y]at G;cases G
  exact b0.o _ cm _ D _ f.cnts (f.cnt mk)
 clear b0 f;obtain⟨q,hq,E⟩|⟨hq,E⟩:=d0.o
 .have k:cB (R=(fC (·.N) (sI t key b) (L.map (·.1)),1)):=by show _=_;rw[r.o,Ma (by rw[Y.o,hq];rfl)]
  obtain⟨j,hqk⟩:=jM hq;have K:=Z.o.cells q j;have G:yC W q.2 1 (aB q.1.n):=K.cell 1;have G:=K.free 1;have G:fB (·=q.2) W (W.setCell (eB q.2 1) (aB b)):=(fB.refl (·=q.2) W).setCell (Ca rfl) 1 _;have I:=Z.o.seen j (HNW.o q.1 (by rw[<-Z.o.q1];exact Tc j)) G (by have:=K.set 1 (aB b);simpa using this);rw[show q.1.s=key from hqk]at I;have O:fB S W (W.setCell (eB q.2 1) (aB b)):=G.mono λi _ e=>by subst e;exact Z.o.sq q j
  have hth:th=eA:=by
   obtain⟨_,e⟩|⟨e,_⟩:=u.o.mem;exact e;rw[<-Z.o.q1]at e;rw[List.map_eq_nil_iff.1 e]at j;cases j
  have a0:=dB ((u.o.turn hth O I u.o.nm).mono (Gf M));have g0:cB _:=(fB.of H.o).trans' (O.mono λi _ e=>u.o.sB i e);clear K G I O j hqk hq Z d0 l2;go_wp2;go_ret;exact⟨uF (by rw[k.o];rfl),by rw[k.o];exact a0.o,g0.o⟩
 have X:cB (xC (·.s) key t.Z=aA):=by show _=_;rw[Y.o,hq];rfl
 have z:cB _:=λJ(G:xB W J)=>v.o S x t N J (u.o.ix.z G) X.o (by omega) hpl;rw[X.o]at r;clear v hq d0 Y X HNW Z;generalize (if t.L = -1 then c.tl else t.L)=I at *;generalize zA t.Z=O at *;generalize decide (10000<=zA L)=Y at *;have G:(I<=(O:Int)\/¬I<=(O:Int)/\th=dA/\Y=eA)\/¬I<=(O:Int)/\(th=eA\/th=dA/\Y=dA):=by cases th<;>cases Y<;>simp<;>omega
 obtain G|⟨O,G⟩:=G
 .have k:cB (R=(L.map (·.1),3)):=by show _=_;rw[r.o,Ja (by simp),Ma (by obtain e|⟨_,e,I⟩:=G;exact Ca e;rw[e,I];simp)]
  clear r U d3 C z;obtain O|⟨O,rfl,rfl⟩:=G
  all_goals
   go_wp2_with fail;refine rD c0.o ?_;try (go_wp2_with fail;with_reducible refine rD V.o ?_)
   go_wp2;go_ret;exact⟨uF (by rw[k.o];rfl),by rw[k.o];exact HL0.o _ gD,fB.of H.o⟩
 have I:cB (R=if cH t.M mk c.ml<=(tI dE t.Z mk:Nat) then(L.map (·.1),4) else(fC (·.N) (sI t key b) (L.map (·.1)),2)):=by show _=_;rw[r.o,Ja (by simp),Ja (by rintro(e|e);exact O e;obtain h|⟨h,O⟩:=G;rw[h]at e;simp at e;rw[O]at e;simp at e)]
 clear r;have E:=U.o;have O:=kC.there W;clear U;generalize tI dE t.Z mk=W at *;generalize cH t.M mk c.ml=Y at *;obtain rfl|⟨rfl,rfl⟩:=G
 all_goals
  go_wp2_with fail;refine rD c0.o ?_;try (go_wp2_with fail;with_reducible refine rD V.o ?_)
  clear c0 V l2 x2;go_wp2_with fail;refine zB (by kernel_rfl) (by kernel_rfl) ?_;repeat (go_big_quiet_step (first|(go_at_call 226;exact bD (C.o _))|fail))
  refine wpQuiet_nil ?_;rintro _ ⟨y,rfl⟩;have h:cB _:=y.h;clear E d3 O C x6;generalize y.w'=J at *;clear y;by_cases O:Y<=(W:Int)
  .have k:cB (R=(L.map (·.1),4)):=by show _=_;rw[I.o,Ma O]
   clear I;go_wp2;go_ret;exact⟨uF (by rw[k.o];rfl),by rw[k.o];exact HL0.o _ h.o,fB.of (aC H.o h.o)⟩
  have k:cB (R=(fC (·.N) (sI t key b) (L.map (·.1)),2)):=by show _=_;rw[I.o,Ja O]
  clear I;have x6:yC J l 6 (aB b):=(HLB.o.z h.o).cell 6;go_wp2_with fail;apply jC (z.o J h.o);rintro w4 ⟨I,G⟩;have s:=u.o.led.keep λg o _=>h.o.block g o;have J:=dB I;have O:=dB G;have W:cB _:=((fB.of H.o).trans' (fB.of h.o)).trans' (G.mono λi _ e=>u.o.sB i e);have o:yC w4 l 7 (.map (cA m)):=(G.blk s.blk u.o.sl).cell 7;obtain⟨w6,o,P,o⟩:=(G.map s.ten u.o.sm).store vL underlying152 (by unfold maxLen;omega) HK.o (wW x);have a0:=dB (u.o.put 1 h.o O.o J.o u.o.nm (fB.mapped o) P);have g0:cB _:=W.o.trans' ((fB.mapped o).mono λi _ e=>(show i=m from e) ▸ HMB.o.1);clear P o I G z s;go_wp2;go_ret;exact⟨uF (by rw[k.o];rfl),by rw[k.o];exact a0.o,g0.o⟩
theorem SI(l m:Nat)(a b:ByteArray)(d:Int)(c:lC)(n:Int)(B:Nat->Prop)(j:List gB)(M:Nat)(w:World)(h:lE w B l m c n j M)(hB:∀g,w.1.size<=g->B g)(o:kH w)(G:a.size<=1400000)(G:b.size<=1400000)(a0:∀t∈j,t.M.length<=1000000000)(Z:j.length<=1000000000):
 Calls prog 242 #[.pointer (vB l),.string a,.string b,aB d] w λe w'=>e=.returned (.bool (bQ j a b d).2)/\lE w' B l m c n (bQ j a b d).1 M/\fB B w w':=by
 have P:=dB h;have O:cB _:=λW=>pM a W (by unfold maxLen;omega);have Y:=dB (tS b w (by omega) o);have Q:cB _:=λW=>uT d W;have I:cB (bQ j a b d=if (uC a&&(b.toList.isEmpty||aF b) &&yB d (-1) 1000000)=false then(j,false) else if xE (pH (rB j a) b d)=true then(sE (·.N) a j,true) else if ((xC (·.N) a j).isNone&&decide (10000<=j.length))=true then(j,false) else(fC (·.N) (pH (rB j a) b d) j,true)):=rfl;have J:cB (yB d (-1) 1000000=true->-1<=d/\d<=1000000):=λh=>nL h;clear o;generalize uC a=o at *;generalize (b.toList.isEmpty||aF b)=b2 at *;generalize yB d (-1) 1000000=b3 at *;generalize bQ j a b d=R at *;have G:cB (∀W,(o&&b2&&b3)=false->Below w.1.size w W->(Ending.returned (.bool false)=.returned (.bool R.2))/\lE W B l m c n R.1 M/\fB B w W):=λW h hb=>by
  rw[I.o,Ma h];exact⟨rfl,P.o.z hb,fB.of hb⟩
 go_enter func242,ntmps242;go_wp2_with fail;refine rD (O.o _) ?_;clear O;cases o
 .go_wp2;go_ret;exact G.o _ rfl gD
 go_wp2_with fail;refine Y.o.mono ?_;rintro e w2 ⟨rfl,V⟩;have o:=dB V;clear V Y;cases b2
 .go_wp2;go_ret;exact G.o _ rfl o.o
 go_wp2_with fail;refine rD (Q.o _) ?_;clear Q;cases b3
 .go_wp2;go_ret;exact G.o _ rfl o.o
 obtain⟨O,hl1⟩:=J.o rfl;obtain⟨T,L,h,rfl⟩:=h;have H2:cB _:=h.keep λg hg _=>o.o.block g hg;have HF:=dB (ON l m a c n B T L M w2 H2.o (by unfold maxLen;omega));have U:cB (B m/\B l):=⟨h.mB,h.lB⟩
 have HK:cB (keyOf prog 9 (.string a)=some (kL a)):=eN (by unfold maxLen;omega);rw[Xa]at Z;clear h G;go_wp2_with fail;refine HF.o.mono ?_;intro e W Y;obtain⟨x,N,h,t,S,rfl,F⟩:=aCk H2.o (λg hg=>hB g (Ua o.o.size hg)) Y;have u:=dB F;have Z:=dB (aFr x b d t S N W F.ix (by unfold maxLen;omega) O hl1 (by obtain⟨e,_⟩|⟨_,e⟩:=F.mem;exact a0 _ e;rw[e];simp));have k:cB (R=if xE (pH t b d)=true then(sE (·.N) a (L.map (·.1)),true) else if ((!h) &&decide (10000<=L.length))=true then(L.map (·.1),false) else(fC (·.N) (pH t b d) (L.map (·.1)),true)):=by show _=_;rw[I.o,F.tn,F.no,Xa,Ja (by simp)]
 have HN:cB ((pH t b d).N=a):=by show _=_;rw[sM];exact F.nm
 have W:cB _:=aC o.o F.bw;clear HF I Y F H2 a0 J P;generalize pH t b d=t' at *;go_wp2_with fail;refine Z.o.mono ?_;rintro e I ⟨rfl,G,r⟩;have K:=dB G;have p:=dB r;have O:=dB (OU x t' S N I G);have y:=dB (r.map u.o.led.ten u.o.sm);have X:=r.blk u.o.led.blk u.o.sl;have o:I.cell? (eB l 7)=some (.map (some m)):=X.cell 7;have E:cB (fB B w I):=(fB.of W.o).trans' (r.mono λi _ e=>u.o.sB i e);clear G r Z X;go_wp2_with fail;refine rD O.o ?_;clear O;cases hidl:xE t'
 case true=>
  have z:cB (R=(sE (·.N) a (L.map (·.1)),true)):=by show _=_;rw[k.o,Ma hidl]
  clear hidl k;go_wp2_with(at_delete;refine wpList_delete_own _ rfl _ _ 152 9 rfl 159 vL underlying152 tE m _ _ rfl y.o _ _ rfl HK.o ?_;intro w6 q f);have C:=dB (u.o.del p.o (fB.mapped f) q);have D:cB _:=E.o.trans' ((fB.mapped f).mono λi _ e=>(show i=m from e) ▸ U.o.1);clear q f;go_ret;exact⟨oB (by rw[z.o]),by rw[z.o];exact C.o,D.o⟩
 by_cases s:((!h) &&decide (10000<=L.length))=true
 .have z:cB (R=(L.map (·.1),false)):=by show _=_;rw[k.o,Ja (by rw[hidl];simp),Ma s]
  simp only[Sa,Bool.not_eq_true']at s;have o:=dB (u.o.kp s.1 p.o);have v:=dB (OT l m c n B T L M I o.o);rw[s.2]at v;rw[s.1];clear hidl k s;go_wp2_with fail;refine rD v.o ?_;go_wp2;go_ret;exact⟨oB (by rw[z.o]),by rw[z.o];exact⟨T,L,o.o,rfl⟩,E.o⟩
 have z:cB (R=(fC (·.N) t' (L.map (·.1)),true)):=by show _=_;rw[k.o,Ja (by rw[hidl];simp),Ja s]
 have v:cB (h=false->Calls prog 266 #[.pointer (vB l)] I λe w'=>e=.returned (.bool false)/\w'=I):=λe=>by
  have:=OT l m c n B T L M I (u.o.kp e p.o);rwa [show decide (10000<=L.length)=false by rw[e]at s;simpa using s]at this
 obtain⟨w6,o,A,H⟩:=y.o.store vL underlying152 (by unfold maxLen;omega) HK.o (wW x);have C:=dB (u.o.put 0 gD p.o (K.o.keep λg _ hs=>⟨rfl,Ca hs⟩) HN.o (fB.mapped H) A);have D:cB _:=E.o.trans' ((fB.mapped H).mono λi _ e=>(show i=m from e) ▸ U.o.1);clear A H hidl k s K p u;cases h
 all_goals
  try (go_wp2_with fail;with_reducible refine rD (v.o trivial) ?_)
  go_wp2;go_ret;exact⟨oB (by rw[z.o]),by rw[z.o];exact C.o,D.o⟩
end
def rF(a b:nC)(c d:Nat)(N:sC):∀(j:Nat)(s:pB),(gC a c b d N)[j]?≠cA (jA.string s):=λj s=>by
 unfold gC;match j with
 |0|1|2|3|4|5|6|7|8|9|10|11|12|13=>simp
 |j+14=>simp
section
variable {w W:fA} {P:Nat} {cs:Array jA} {t:TypeId}
theorem CJ(g:jB w P cs t)(f:∀(j:Nat)(s:pB),cs[j]?≠cA (jA.string s))(d:fB (·=P) w W){b o:Nat}{s:pB}(c:b<w.1.size)(h:w.cell? (eB b o)=cA (pA s)):b<W.1.size/\∀j,W.cell? (eB b j)=w.cell? (eB b j):=by
 have a:b≠P:=λe=>by subst e;rw[g.cell]at h;exact f _ _ h
 exact⟨Bb c d.size,λj=>fA.cell?_of_block (d.block b c a)⟩
theorem uB.store(m:jB w P cs t)(k:∀(j:Nat)(s:pB),cs[j]?≠cA (jA.string s))(l:fB (·=P) w W){a:nC}{c:List iB}(h:uB w a c):uB W a c:=by
 obtain h|⟨b,o,e,d,h⟩:=h;exact Ca h
 cases c with
 |nil=>exact Ca rfl
 |cons f r=>
  obtain⟨n,p⟩:=CJ m k l d (h 0 (by simp)).1;exact La ⟨b,o,e,n,λi g=>by simp only[p];exact h i g⟩
theorem mC.store(m:jB w P cs t)(k:∀(j:Nat)(s:pB),cs[j]?≠cA (jA.string s))(l:fB (·=P) w W){a:nC}{c:List kB}(h:mC w a c):mC W a c:=by
 obtain h|⟨b,o,e,d,h⟩:=h;exact Ca h
 cases c with
 |nil=>exact Ca rfl
 |cons f r=>
  obtain⟨n,p⟩:=CJ m k l d (h 0 (by simp)).1;exact La ⟨b,o,e,n,λi g=>by simp only[p];exact h i g⟩
theorem aD.store(l:jB w P cs t)(g:∀(j:Nat)(s:pB),cs[j]?≠cA (jA.string s))(k:fB (·=P) w W){a:nC}{m:List gB}(h:aD w a m):aD W a m:=by
 obtain h|⟨b,o,e,B,h⟩:=h;exact Ca h
 cases m with
 |nil=>exact Ca rfl
 |cons f r=>
  obtain⟨_,_,_,_,d,_⟩:=h 0 (by simp);obtain⟨D,c⟩:=CJ l g k B d;refine La ⟨b,o,e,D,λi C=>?_⟩;obtain⟨n,q,p,u,v,d,x,y,z,A⟩:=h i C;exact⟨n,q,p,u,(c _).trans v,(c _).trans d,(c _).trans x,(c _).trans y,z.store l g k,A.store l g k⟩
end
def eu:(prog.info? 184).map (λi=>(i.zero,i.size,i.bytes))=cA (cA (.agg #[pA ⟨#[]⟩,aB 0]),2,24):=by kernel_rfl
def ez:(prog.info? 134).map (λi=>(i.zero,i.size,i.bytes))=cA (cA (.agg #[pA ⟨#[]⟩,aB 0]),2,24):=by kernel_rfl
def mc(a:nC)(g:Nat)(c:List kB)(w:fA)(q:mC w a c)(A:zA c<=2000000):
 Calls prog 134 #[qA a (zA c) g] w λe n=>∃v,e=vA v/\n.ownsRow w.1.size 184 2 v (zA c) (flatK c)/\xB w n:=by
 have p:=λn=>Lib.run_eql_slice_nil (P:=prog) n 128 184 a (zA c) g 0 0 underlying128;cases a with
 |none=>
  have E:c=[]:=by
   obtain h|⟨b,o,e,_⟩:=q;exact h;exact absurd e (by simp)
  subst E;have y:=λn=>Lib.run_eql_slice_nil (P:=prog) n 128 184 aA 0 g 0 0 underlying128;clear p;go_enter func134,ntmps134;go_wp2;go_ret;exact⟨_,rfl,⟨rfl,Ca ⟨rfl,rfl⟩⟩,gD⟩
 |some x=>
  obtain⟨i,z,r,s,t⟩:=info_parts eu;have l:(w.alloc (xA #[] 184)).ownsRow w.1.size 184 2 (qA (vB w.1.size) 0 0) 0 []:=fA.ownsRow_made w #[] 0 (Ia _) (by simp[maxLen]) (by simp);have D:=dB l;have d:∀j u,(flatK c)[j]?=cA u->(w.alloc (xA #[] 184)).cell? (x.add j)=cA u:=by
   rcases q.z (zF w (xA #[] 184)) with rfl|⟨b,o,e,_,h⟩;intro j u h;simp[flatK]at h;simp only[Qa]at e;subst e;exact xN h
  have C:cB _:=d;have B:cB _:=z;clear q l d z;go_enter func134,ntmps134;go_wp2_with(at_builtin;refine wpList_append_own_at _ rfl _ _ _ rfl w.1.size 184 i _ 2 24 underlying128 B.o r s t rfl (by omega) (qA (vB w.1.size) 0 0) 0 [] rfl D.o x (zA c) g (flatK c) rfl (iM c) C.o (tP c) (by simp[maxLen];omega) (by omega) (by simp) ?_;intro G H f m _ _);go_ret;simp only[Ya,Mb]at f;refine⟨G,rfl,f,bC.grown m (by simp) (λk F=>?_)⟩;simp[jA.ownBlock]at F;omega
def mf(a:nC)(g:Nat)(c:List kB)(w:fA)(q:mC w a c)(A:zA c<=2000000):
 Calls prog 135 #[qA a (zA c) g] w λe n=>∃v,e=vA v/\n.ownsRow w.1.size 134 2 v (zA c) (flatK c)/\xB w n:=by
 have p:=λn=>Lib.run_eql_slice_nil (P:=prog) n 129 134 a (zA c) g 0 0 underlying129;cases a with
 |none=>
  have E:c=[]:=by
   obtain h|⟨b,o,e,_⟩:=q;exact h;exact absurd e (by simp)
  subst E;have y:=λn=>Lib.run_eql_slice_nil (P:=prog) n 129 134 aA 0 g 0 0 underlying129;clear p;go_enter func135,ntmps135;go_wp2;go_ret;exact⟨_,rfl,⟨rfl,Ca ⟨rfl,rfl⟩⟩,gD⟩
 |some x=>
  obtain⟨i,z,r,s,t⟩:=info_parts ez;have l:(w.alloc (xA #[] 134)).ownsRow w.1.size 134 2 (qA (vB w.1.size) 0 0) 0 []:=fA.ownsRow_made w #[] 0 (Ia _) (by simp[maxLen]) (by simp);have D:=dB l;have d:∀j u,(flatK c)[j]?=cA u->(w.alloc (xA #[] 134)).cell? (x.add j)=cA u:=by
   rcases q.z (zF w (xA #[] 134)) with rfl|⟨b,o,e,_,h⟩;intro j u h;simp[flatK]at h;simp only[Qa]at e;subst e;exact xN h
  have C:cB _:=d;have B:cB _:=z;clear q l d z;go_enter func135,ntmps135;go_wp2_with(at_builtin;refine wpList_append_own_at _ rfl _ _ _ rfl w.1.size 134 i _ 2 24 underlying129 B.o r s t rfl (by omega) (qA (vB w.1.size) 0 0) 0 [] rfl D.o x (zA c) g (flatK c) rfl (iM c) C.o (tP c) (by simp[maxLen];omega) (by omega) (by simp) ?_;intro G H f m _ _);go_ret;simp only[Ya,Mb]at f;refine⟨G,rfl,f,bC.grown m (by simp) (λk F=>?_)⟩;simp[jA.ownBlock]at F;omega
def IU{W:fA}{B:Nat}{e:TypeId}{b:Nat}{v:jA}{n:Nat}{i:List jA}(h:W.ownsRow B e b v n i):∃a c,v=qA a n c:=by
 obtain⟨rfl,rfl⟩|⟨g,d,f,rfl,_⟩:=h.2;exact ⟨aA,0,rfl⟩;exact ⟨_,_,rfl⟩
def aKh{C:fA->Prop}{w:fA}{cs a:Array jA}{t b:TypeId}(k:∀W,xB w W->jB W w.1.size cs t->jB W (w.1.size+1) a b->W.1.size=w.1.size+1+1->C W):C ((w.alloc (xA cs t)).alloc (xA a b)):=
 k _ (aC bC bC) ((jB.new w _ _).alloc _) (by have:=jB.new (w.alloc (xA cs t)) a b;simpa using this) (by simp)
def vl(W:fA)(a:nC)(m:Nat)(d:List iB)(x:uB W a d)(z:zA d<=2000000):
 ∃l c r,(Builtin.append_ #[33,33] 33 #[qA (vB W.1.size) 0 0,qA a (zA d) m]).run prog (W.alloc (xA #[] 144))=.ok (qA l (zA d) c) r/\
  eJ r W.1.size l d/\xB W r/\∀g o,l=cA (eB g o)->g<r.1.size:=by
 obtain⟨i,y,s,t,v⟩:=sL;cases a with
 |none=>
  have B:d=[]:=by
   obtain h|⟨b,o,e,_⟩:=x;exact h;exact absurd e (by simp)
  subst B;refine⟨vB W.1.size,0,W.alloc (xA #[] 144),?_,Ca rfl,bC,λg o e=>by simp only[Qa,Addr.mk.injEq]at e;simp;omega⟩;simp[Builtin.append_,run_underlying underlying33,sizeOf,typeInfo,y,Builtin.lenOf,Builtin.firstCells,storeCells]
 |some w=>
  have p:=fA.ownsRow_made W (e:=144) (size:=3) #[] 0 (Ia _) (by simp[maxLen]) (by simp);have f:∀j u,(flat d)[j]?=cA u->(W.alloc (xA #[] 144)).cell? (w.add j)=cA u:=by
   rcases x.z (zF W (xA #[] 144)) with rfl|⟨b,o,e,_,h⟩;intro j u h;simp[flat]at h;simp only[Qa]at e;subst e;exact qO h
  obtain⟨I,A,F,q,C,_,_⟩:=run_append_own_at (P:=prog) (W.alloc (xA #[] 144)) W.1.size 33 33 144 i _ 3 40 underlying33 y s t v rfl (by omega) (qA (vB W.1.size) 0 0) 0 [] p w (zA d) m (flat d) (yE d) f (zG d) (by simp[maxLen];omega) (by omega) (by simp);simp only[Ya,Mb]at q;have n:xB W A:=bC.grown C (by simp) (λk D=>by
   simp[jA.ownBlock]at D;omega)
  obtain⟨l,c,rfl⟩:=IU q;exact⟨l,c,A,F,(by obtain⟨G,H,e,E⟩:=qH q;simp only[jA.slice.injEq]at e;obtain⟨rfl,_,_⟩:=e;exact E),n,λg o e=>(q.lt g (by rw[e];rfl)).2⟩
def vm(W:fA)(a:nC)(m:Nat)(d:List kB)(x:mC W a d)(z:zA d<=2000000):
 ∃l c r,(Builtin.append_ #[128,128] 128 #[qA (vB W.1.size) 0 0,qA a (zA d) m]).run prog (W.alloc (xA #[] 184))=.ok (qA l (zA d) c) r/\
  lD r W.1.size l d/\xB W r/\∀g o,l=cA (eB g o)->g<r.1.size:=by
 obtain⟨i,y,s,t,v⟩:=info_parts eu;cases a with
 |none=>
  have B:d=[]:=by
   obtain h|⟨b,o,e,_⟩:=x;exact h;exact absurd e (by simp)
  subst B;refine⟨vB W.1.size,0,W.alloc (xA #[] 184),?_,Ca rfl,bC,λg o e=>by simp only[Qa,Addr.mk.injEq]at e;simp;omega⟩;simp[Builtin.append_,run_underlying underlying128,sizeOf,typeInfo,y,Builtin.lenOf,Builtin.firstCells,storeCells]
 |some w=>
  have p:=fA.ownsRow_made W (e:=184) (size:=2) #[] 0 (Ia _) (by simp[maxLen]) (by simp);have f:∀j u,(flatK d)[j]?=cA u->(W.alloc (xA #[] 184)).cell? (w.add j)=cA u:=by
   rcases x.z (zF W (xA #[] 184)) with rfl|⟨b,o,e,_,h⟩;intro j u h;simp[flatK]at h;simp only[Qa]at e;subst e;exact xN h
  obtain⟨F,A,E,q,C,_,_⟩:=run_append_own_at (P:=prog) (W.alloc (xA #[] 184)) W.1.size 128 128 184 i _ 2 24 underlying128 y s t v rfl (by omega) (qA (vB W.1.size) 0 0) 0 [] p w (zA d) m (flatK d) (iM d) f (tP d) (by simp[maxLen];omega) (by omega) (by simp);simp only[Ya,Mb]at q;have n:xB W A:=bC.grown C (by simp) (λk D=>by
   simp[jA.ownBlock]at D;omega)
  obtain⟨l,c,rfl⟩:=IU q;exact⟨l,c,A,E,bE q,n,λg o e=>(q.lt g (by rw[e];rfl)).2⟩
def vn(W:fA)(a:nC)(m:Nat)(d:List kB)(x:mC W a d)(z:zA d<=2000000):
 ∃l c r,(Builtin.append_ #[129,129] 129 #[qA (vB W.1.size) 0 0,qA a (zA d) m]).run prog (W.alloc (xA #[] 134))=.ok (qA l (zA d) c) r/\
  lD r W.1.size l d/\xB W r/\∀g o,l=cA (eB g o)->g<r.1.size:=by
 obtain⟨i,y,s,t,v⟩:=info_parts ez;cases a with
 |none=>
  have B:d=[]:=by
   obtain h|⟨b,o,e,_⟩:=x;exact h;exact absurd e (by simp)
  subst B;refine⟨vB W.1.size,0,W.alloc (xA #[] 134),?_,Ca rfl,bC,λg o e=>by simp only[Qa,Addr.mk.injEq]at e;simp;omega⟩;simp[Builtin.append_,run_underlying underlying129,sizeOf,typeInfo,y,Builtin.lenOf,Builtin.firstCells,storeCells]
 |some w=>
  have p:=fA.ownsRow_made W (e:=134) (size:=2) #[] 0 (Ia _) (by simp[maxLen]) (by simp);have f:∀j u,(flatK d)[j]?=cA u->(W.alloc (xA #[] 134)).cell? (w.add j)=cA u:=by
   rcases x.z (zF W (xA #[] 134)) with rfl|⟨b,o,e,_,h⟩;intro j u h;simp[flatK]at h;simp only[Qa]at e;subst e;exact xN h
  obtain⟨F,A,E,q,C,_,_⟩:=run_append_own_at (P:=prog) (W.alloc (xA #[] 134)) W.1.size 129 129 134 i _ 2 24 underlying129 y s t v rfl (by omega) (qA (vB W.1.size) 0 0) 0 [] p w (zA d) m (flatK d) (iM d) f (tP d) (by simp[maxLen];omega) (by omega) (by simp);simp only[Ya,Mb]at q;have n:xB W A:=bC.grown C (by simp) (λk D=>by
   simp[jA.ownBlock]at D;omega)
  obtain⟨l,c,rfl⟩:=IU q;exact⟨l,c,A,E,bE q,n,λg o e=>(q.lt g (by rw[e];rfl)).2⟩
def PH(a:nC)(y:Nat)(K:xD)(w:fA)(G:uB w a K.fs)(c:zA K.fs<=1048576):
 Calls prog 35 #[.agg #[qA a (zA K.fs) y,aB K.c,aB K.k,aB K.cr,aB K.fl,sA K.dn]] w λe z=>∃s o,e=vA (.agg #[qA s (zA K.fs) o,aB K.c,aB K.k,aB K.cr,aB K.fl,sA K.dn])/\mJ z (λx=>w.1.size<=x/\x<z.1.size) s K.fs/\xB w z:=by
 go_enter func35,ntmps35;go_upto_region 1 with fail;refine aKh (C:=λW=>Code.wp prog _ _ _ W) ?_;intro A p t D q;obtain⟨E,F,w2,n,H,j,_⟩:=vl A a y K.fs (G.z p) (by omega);have r:=dB n;have l:=t.z j;have m:=D.z j;have Q:=dB (H.toA (Ia _));have B:=dB (aC p j);have c:yC A w.1.size 0 (qA a (zA K.fs) y):=t.cell 0;have R:w.1.size<A.1.size:=by omega
 have V:=l.cell 0;have X:=l.cell 1;have Y:=l.cell 2;have Z:=l.cell 3;have c:=l.cell 4;have h:=l.cell 5;have I:=m.cell 0;have J:=m.cell 1;have L:=m.cell 2;have M:=m.cell 3;have N:=m.cell 4;have O:=m.cell 5;simp only[Xb,Ob,Ga]at V X Y Z c h I J L M N O;obtain⟨b,d,f,g,h,i,_⟩:=l.frees;obtain⟨c,c,c,c,c,c,_⟩:=m.frees;have P:=dB q;clear p t D n H j l m G q;go_wp2_with(at_builtin;refine Lib.wpList_append_run _ rfl _ _ _ _ rfl _ _ rfl rfl _ _ r.o ?_);refine bodyPost_ret (v:=.agg #[qA E (zA K.fs) F,aB K.c,aB K.k,aB K.cr,aB K.fl,sA K.dn]) (by simp[results,results35,go_sem,I,J,L,M,N,O]) rfl ?_;refine fB.end2 (S:=λx=>x=w.1.size\/x=w.1.size+1) (C:=λW=>∃s o,Ending.returned (.agg #[qA E (zA K.fs) F,aB K.c,aB K.k,aB K.cr,aB K.fl,sA K.dn])=Ending.returned (.agg #[qA s (zA K.fs) o,aB K.c,aB K.k,aB K.cr,aB K.fl,sA K.dn])/\mJ W (λx=>w.1.size<=x/\x<W.1.size) s K.fs/\xB w W) w2 (by
  repeat (with_reducible first|exact fB.refl _ _|refine fB.setCell ?_ (Ca (by first|exact Ca rfl|exact La rfl)) _ _)) ?_
 intro w6 u;have U:=u.size;have q:=P.o;exact⟨_,_,rfl,(Q.o.turned u (λx T _ e=>by omega)).mono (λx T=>by omega),B.o.trans (u.below (by have:=B.o.size;omega) (λk c e=>by omega))⟩
def fc:(prog.info? 131).map (λi=>(i.zero,i.size,i.bytes))=cA (cA (.agg #[pA ⟨#[]⟩,aB 0,qA aA 0 0,qA aA 0 0]),4,72):=by kernel_rfl
def YC(a:List TV):zA (iF a)=zA a*4:=by
 induction a with
 |nil=>rfl
 |cons x r b=>simp only[iF,Xc,Kb,Zb,List.length_nil]at b |-;omega
def ng(b:List TV):∀u∈iF b,u.oneCell'=eA:=by
 intro u a;simp only[iF,Ig]at a;obtain⟨x,_,a⟩:=a;simp only[Lb,List.mem_nil_iff,Bf]at a;rcases a with rfl|rfl|rfl|rfl<;>rfl
def WL{w:fA}{b:Nat}:∀(n:List gB)(o:Nat),(∀i(h:i<zA n),TL w b (o+i*4) n[i])->∃c:List TV,c.map (·.t)=n/\RW w c/\∀j u,(iF c)[j]?=cA u->w.cell? (eB b (o+j))=cA u
 |[],_,_=>⟨[],rfl,λy d=>(by cases d),λj u h=>(by simp[iF]at h)⟩
 |t::r,o,h=>by
  obtain⟨c,A,B,C⟩:=WL r (o+4) (λi D=>by
   have:=h (i+1) (by simpa using D);rw[show o+(i+1)*4=o+4+i*4 by omega]at this;simpa using this)
  obtain⟨f,k,g,l,p,q,s,v,x,z⟩:=h 0 (by simp);simp only[Nat.zero_mul,Bg,Eg]at p q s v x z;refine⟨⟨t,f,k,g,l⟩:: c,by rw[Fc,A],λy d=>?_,λj u a=>?_⟩
  .rcases Lb.1 d with rfl|d
   .exact ⟨x,z⟩
   exact B y d
  have e:iF (⟨t,f,k,g,l⟩:: c)=[pA t.N,aB t.L,qA f (zA t.M) k,qA g (zA t.Z) l]++iF c:=by simp[iF]
  rw[e]at a;match j,a with
  |0,a=>simp at a;rw[<-a];exact p
  |1,a=>simp at a;rw[<-a];exact q
  |2,a=>simp at a;rw[<-a];exact s
  |3,a=>simp at a;rw[<-a];exact v
  |j+4,a=>
   have m:(iF c)[j]?=cA u:=by simpa using a
   have:=C j u m;rw[show o+(j+4)=o+4+j by omega];exact this
def md(a:nC)(l:Nat)(f:List gB)(z w:fA)(E:aD z a f)(s:xB z w)(N:zA f<=2000000):
 Calls prog 133 #[qA a (zA f) l] w λe r=>∃v c,e=vA v/\r.ownsRow w.1.size 131 4 v (zA f) (iF c)/\c.map (·.t)=f/\RW z c/\xB w r:=by
 have D:=λr=>Lib.run_eql_slice_nil (P:=prog) r 38 131 a (zA f) l 0 0 underlying38;cases a with
 |none=>
  have S:f=[]:=by
   obtain h|⟨b,o,e,_⟩:=E;exact h;exact absurd e (by simp)
  subst S;have L:=λr=>Lib.run_eql_slice_nil (P:=prog) r 38 131 aA 0 l 0 0 underlying38;clear D;go_enter func133,ntmps133;go_wp2;go_ret;exact⟨_,[],rfl,⟨rfl,Ca ⟨rfl,rfl⟩⟩,rfl,λy F=>(by cases F),gD⟩
 |some J=>
  obtain⟨i,M,G,H,I⟩:=info_parts fc;obtain⟨c,q,m,d⟩:∃c:List TV,c.map (·.t)=f/\RW z c/\∀j u,(iF c)[j]?=cA u->(w.alloc (xA #[] 131)).cell? (J.add j)=cA u:=by
   obtain rfl|⟨b,o,e,K,h⟩:=E;exact ⟨[],rfl,λy F=>(by cases F),λj u h=>by simp[iF]at h⟩;simp only[Qa]at e;subst e;obtain⟨c,V,W,X⟩:=WL f o h;refine⟨c,V,W,λj u U=>?_⟩;rw[MZ];exact((zF w _).cell (Bb K s.size)).trans ((s.cell K).trans (X j u U))
  have x:zA c=zA f:=by rw[<-q,Xa]
  have n:(w.alloc (xA #[] 131)).ownsRow w.1.size 131 4 (qA (vB w.1.size) 0 0) 0 []:=fA.ownsRow_made w #[] 0 (Ia _) (by simp[maxLen]) (by simp);have R:=dB n;have Q:=dB d;have O:cB (prog.info? 131=cA i):=M;have A:cB (zA (iF c)=zA f*4):=by show _=_;rw[YC,x]
  have C:=dB q;have B:=dB m;clear E n d M q m x;go_enter func133,ntmps133;go_wp2_with(at_builtin;refine wpList_append_own_at _ rfl _ _ _ rfl w.1.size 131 i _ 4 72 underlying38 O.o G H I rfl (by omega) (qA (vB w.1.size) 0 0) 0 [] rfl R.o J (zA f) l (iF c) rfl A.o Q.o (ng c) (by simp[maxLen];omega) (by omega) (by simp) ?_;intro Y Z g p _ _);go_ret;simp only[Ya,Mb]at g;refine⟨Y,c,rfl,g,C.o,B.o,bC.grown p (by simp) (λk T=>?_)⟩;simp[jA.ownBlock]at T;omega
def iH{P:Program}{w:fA}{b:Array Oper}{o:Oper}{a:Act}{K:Act->fA->Prop}{Q:Exit->Act->fA->Prop}{E:Prop}{f:FuncId}{args:Array jA}(c:o.guard=aA)(i:(execOp a.eval o).run P w=.ok (.enter f args) w)
(h:Calls P f args w (λe d=>∃v,e=vA v/\K (a.put o.dst v) d)):if Region.wanted o (yielded b a.tmps)=eA then Oper.wp P o a w K Q else E:=by
 have j:Region.wanted o (yielded b a.tmps)=eA:=by simp[Region.wanted,c]
 rw[Ma j];unfold Oper.wp;rw[i];refine h.mono ?_;rintro e d ⟨v,rfl,g⟩;exact g
structure uh(w wr:World)(B g n cap:Nat)(T:Nat→Nat)(ys:List TV)(k:Nat)(m:Bool):Prop where
 row:wr.ownsRow B 131 4 (qA (vB g) n cap) n (iF ys)
 len:zA ys=n
 tg:T g=0
 own:∀i(h:i<zA ys),i<k→zE wr B T (2*i+1) ys[i].a1 ys[i].t.M∧zE wr B T (2*i+2) ys[i].a2 ys[i].t.Z
 half:m=eA→∀h:k<zA ys,zE wr B T (2*k+1) ys[k].a1 ys[k].t.M
 old:∀i(h:i<zA ys),k≤i→mC w ys[i].a2 ys[i].t.Z∧(m=dA∨k<i→mC w ys[i].a1 ys[i].t.M)
def nh(l:List TV)(i:Nat)(d:i<zA l)(a:nC)(c:Nat):iF (l.set i ⟨l[i].t,a,c,l[i].a2,l[i].c2⟩)=(iF l).set (i*4+2) (.slice a (zA l[i].t.M) c):=by
 induction l generalizing i with
 |nil=>simp at d
 |cons p r e=>
  cases i with
  |zero=>rfl
  |succ i=>
   have b:i<zA r:=by simpa using d
   have:=e i b;simp only[iF,Jd,Xc,Ec]at this |-
   rw[this,show(i+1)*4+2=(i*4+2)+4 by omega];rfl
def ni(l:List TV)(i:Nat)(d:i<zA l)(a:nC)(c:Nat):iF (l.set i ⟨l[i].t,l[i].a1,l[i].c1,a,c⟩)=(iF l).set (i*4+3) (.slice a (zA l[i].t.Z) c):=by
 induction l generalizing i with
 |nil=>simp at d
 |cons p r e=>
  cases i with
  |zero=>rfl
  |succ i=>
   have b:i<zA r:=by simpa using d
   have:=e i b;simp only[iF,Jd,Xc,Ec]at this |-
   rw[this,show(i+1)*4+3=(i*4+3)+4 by omega];rfl
def jd{w:fA}{M g n a:Nat}{f:List jA}{j:Nat}{v:jA}(h:w.ownsRow M 131 4 (qA (vB g) n a) n f):(w.setCell (eB g j) v).ownsRow M 131 4 (qA (vB g) n a) n (f.set j v):=by
 refine⟨by rw[Pd];exact h.1,?_⟩;obtain⟨e,_⟩|⟨q,d,b,e,o,p,i,k,l,m⟩:=h.2
 .cases e
 simp only[jA.slice.injEq,Qa,Addr.mk.injEq,Cc]at e;obtain⟨rfl,_,rfl⟩:=e;have c:jB w g b 131:=p;refine La ⟨g,a,b.setIfInBounds j v,rfl,o,c.set j v,i,k,by simp[l],?_⟩;rw[Jf,List.take_set,m]
def VP{w:fA}{B b n:Nat}{T:Nat->Nat}{a:nC}{c:List kB}(h:lD w B a c)(e:b<=B)(d:∀g,B<=g->g<w.1.size->T g=n):zE w b T n a c:=by grind [lD,zE]
def uh.limits{w wr j:fA}{B g n u k:Nat}{T:Nat->Nat}{d:List TV}{a:nC}{c:Nat}(h:uh w wr B g n u T d k dA)(H:k<zA d)(z:xB wr j)(G:B<=wr.1.size)(I:j.ownsRow wr.1.size 184 2 (.slice a (zA d[k].t.M) c) (zA d[k].t.M) (flatK d[k].t.M)):
 uh w (j.setCell (eB g (k*4+2)) (.slice a (zA d[k].t.M) c)) B g n u (λg=>if g<wr.1.size then T g else 2*k+1) (d.set k ⟨d[k].t,a,c,d[k].a2,d[k].c2⟩) k eA:=by
 have x:=(h.row.lt g rfl).2;have D:fB (·=g) j (j.setCell (eB g (k*4+2)) (.slice a (zA d[k].t.M) c)):=(fB.refl (·=g) j).setCell (Ca rfl) _ _;have r:∀q,q<wr.1.size->q≠g->(j.setCell (eB g (k*4+2)) (.slice a (zA d[k].t.M) c)).heap[q]?=wr.heap[q]?:=λq s A=>by
  rw[D.block q (by have:=z.size;omega) A,z.block q s]
 have f:∀{q:nC}{F:List kB}{m:Nat},0<m->zE wr B T m q F->zE (j.setCell (eB g (k*4+2)) (.slice a (zA d[k].t.M) c)) B (λg=>if g<wr.1.size then T g else 2*k+1) m q F:=λM C=>C.keep λq s _ v=>⟨r q s (λe=>by rw[e,h.tg]at v;omega),by simp only[Ma s];exact v⟩
 exact {
  row:=by rw[nh d k H];exact jd (hC h.row z)
  len:=by rw[Pd];exact h.len
  tg:=by simp only[Ma x];exact h.tg
  own:=λi y p=>by
   have o:i<zA d:=by simpa using y
   rw[Of (by omega)];obtain⟨K,L⟩:=h.own i o p;exact⟨f (by omega) K,f (by omega) L⟩
  half:=λ_ y=>by
   rw[Oe];have:=bE (l:=d[k].t.M) I;have C:=VP (b:=B) (n:=2*k+1) (T:=λg=>if g<wr.1.size then T g else 2*k+1) this G (λq s _=>by simp only[Ja (show ¬q<wr.1.size by omega)]);refine C.keep λq s _ v=>⟨D.block q s (λe=>?_),v⟩
   subst e;simp only[Ma x,h.tg]at v;omega
  old:=λi y p=>by
   have o:i<zA d:=by simpa using y
   obtain⟨E,J⟩:=h.old i o p;by_cases e:i=k
   .subst e;rw[Oe];exact⟨E,λh=>by obtain h|h:=h;cases h;omega⟩
   rw[Of (by omega)];exact⟨E,λ_=>J (Ca rfl)⟩ }
def uh.series{w wr j:fA}{B g n s k:Nat}{T:Nat->Nat}{d:List TV}{a:nC}{c:Nat}(h:uh w wr B g n s T d k eA)(D:k<zA d)(x:xB wr j)(G:B<=wr.1.size)(H:j.ownsRow wr.1.size 134 2 (.slice a (zA d[k].t.Z) c) (zA d[k].t.Z) (flatK d[k].t.Z)):
 uh w (j.setCell (eB g (k*4+3)) (.slice a (zA d[k].t.Z) c)) B g n s (λg=>if g<wr.1.size then T g else 2*k+2) (d.set k ⟨d[k].t,d[k].a1,d[k].c1,a,c⟩) (k+1) dA:=by
 have v:=(h.row.lt g rfl).2;have E:fB (·=g) j (j.setCell (eB g (k*4+3)) (.slice a (zA d[k].t.Z) c)):=(fB.refl (·=g) j).setCell (Ca rfl) _ _;have p:∀q,q<wr.1.size->q≠g->(j.setCell (eB g (k*4+3)) (.slice a (zA d[k].t.Z) c)).heap[q]?=wr.heap[q]?:=λq r A=>by
  rw[E.block q (by have:=x.size;omega) A,x.block q r]
 have f:∀{q:nC}{F:List kB}{m:Nat},0<m->zE wr B T m q F->zE (j.setCell (eB g (k*4+3)) (.slice a (zA d[k].t.Z) c)) B (λg=>if g<wr.1.size then T g else 2*k+2) m q F:=λM C=>C.keep λq r _ u=>⟨p q r (λe=>by rw[e,h.tg]at u;omega),by simp only[Ma r];exact u⟩
 exact {
  row:=by rw[ni d k D];exact jd (hC h.row x)
  len:=by rw[Pd];exact h.len
  tg:=by simp only[Ma v];exact h.tg
  own:=λi y z=>by
   have o:i<zA d:=by simpa using y
   by_cases e:i=k
   .subst e;rw[Oe];refine⟨f (by omega) (h.half rfl D),?_⟩;have:=bE (l:=d[i].t.Z) H;have C:=VP (b:=B) (n:=2*i+2) (T:=λg=>if g<wr.1.size then T g else 2*i+2) this G (λq r _=>by simp only[Ja (show ¬q<wr.1.size by omega)]);refine C.keep λq r _ u=>⟨E.block q r (λe=>?_),u⟩
    subst e;simp only[Ma v,h.tg]at u;omega
   rw[Of (by omega)];obtain⟨K,L⟩:=h.own i o (by omega);exact⟨f (by omega) K,f (by omega) L⟩
  half:=λh=>by cases h
  old:=λi y z=>by
   have o:i<zA d:=by simpa using y
   obtain⟨I,J⟩:=h.old i o (by omega);rw[Of (by omega)];exact⟨I,λ_=>J (La (by omega))⟩ }
def uh.keep{w wr w':fA}{S:Nat->Prop}{B g n c k:Nat}{T:Nat->Nat}{r:List TV}{m:Bool}(h:uh w wr B g n c T r k m)(p:fB S wr w')(o:∀q,S q->q<B):uh w w' B g n c T r k m:=by
 have l:∀q,q<wr.1.size->B<=q->w'.heap[q]?=wr.heap[q]?:=λq a b=>p.block q a (λe=>by have:=o q e;omega);exact { h with
  row:=p.row h.row (λq a e=>by have:=(h.row.lt q a).1;have:=o q e;omega)
  own:=λi j f=>⟨(h.own i j f).1.keep λq a b d=>⟨l q a b,d⟩,(h.own i j f).2.keep λq a b d=>⟨l q a b,d⟩⟩
  half:=λs j=>(h.half s j).keep λq a b d=>⟨l q a b,d⟩ }
def uh.done{w wr:fA}{B g n a:Nat}{T:Nat->Nat}{d:List TV}{j:List gB}(h:uh w wr B g n a T d n dA)(b:d.map (·.t)=j):dD wr B (vB g) j:=
 iS.own (e:=131) (n:=n) (cap:=a) ⟨T,d,h.row,b,λq f=>by simp only[jA.ownBlock,Qa]at f;rw[<-f];exact h.tg,λi c=>h.own i c (by rw[h.len]at c;exact c)⟩ (by rw[<-b,Xa];exact h.len)
section
open Go.Extern.Stop Go.Stop Go.Extern
def tm2(x:Int):(x.tmod 2 != 0)=decide (x % 2=1):=by
 have h:x.tmod 2=0 ↔ (2:Int) ∣ x:=(Int.dvd_iff_tmod_eq_zero ..).symm;by_cases e:x.tmod 2=0
 .have:=h.1 e;simp only[e,bne_self_eq_false];symm;simp;omega
 have:=λq=>e (h.2 q);rw[bne_iff_ne.2 e];symm;simp;omega
def aBz{b:Int}(h:wrap64 b=b):∀k,XQ k b=wrap64 (b*2 ^ k)
 |0=>by simp[XQ,h]
 |k+1=>by
  rw[XQ,aBz h k,Int.pow_succ,<-Int.mul_assoc];generalize b*2 ^ k=y;unfold wrap64;omega
def aLk{b:Int}(h:wrap64 b=b):aZ b=decide (9218868437227405312<b % 9223372036854775808):=by
 unfold aZ;rw[aBz h 12];simp only[YZ,shK,tm2];unfold wrap64 at *;rw[Qb];simp only[Sa,Ab,bne_iff_ne,Oc,Int.reducePow];constructor;rintro ⟨a,c⟩;omega;intro a;refine⟨?_,?_⟩<;>omega
def aEe(n:Nat):(Ieee.double.order n n==cA .eq)=decide (¬9218868437227405312<n % 9223372036854775808):=by
 unfold Ieee.Format.order Ieee.Format.read;rw[show Ieee.double.signWeight=9223372036854775808 from by decide,show Ieee.double.infRung=9218868437227405312 from by decide,show Ieee.double.binade=4503599627370496 from by decide];dsimp only;(repeat' split)<;>(simp[Ieee.Datum.order];omega)
def aGj(n:Int)(w:fA):(callFunc 265 #[.int .u64 n]).run prog w=.ok (.value (.float .f64 n.toNat)) w:=by
 rw[@run_callFunc_extern prog 265 _ Extern.MathFloatBits.float64frombits func265 (by kernel_rfl) (by kernel_rfl) (by kernel_rfl) (by kernel_rfl)];rfl
def YO(b:Int)(w:fA)(c : -9223372036854775808<=b)(d:b<=9223372036854775807):rI 217 #[aB b] w (sA (!aZ b)):=by
 have g:=aGj;have a:cB ((FloatKind.f64.format.order (IntKind.u64.wrap b).toNat (IntKind.u64.wrap b).toNat==cA .eq)=!aZ b):=by
  show(Ieee.double.order (b % 18446744073709551616).toNat (b % 18446744073709551616).toNat==cA .eq)=!aZ b;rw[aEe,aLk (by unfold wrap64;omega)];rw[Qb];simp;omega
 clear c d;go_enter func217,ntmps217;go_wp2;go_ret;exact⟨by simp[a.o],rfl⟩
end
section
open Go.Maps
structure WQ(w W:World)(B K:Nat→Prop)(v3 v4:Value)(ps:List pB)(rs:List nE)(l m:Nat)(c:lC)(now:Int)(ts:List gB)(M:Nat):Prop where
 led:lE W K l m c now ts M
 new:∀g,W.1.size≤g→K g
 sub:∀g,K g→B g
 row3:W.ownsRow w.1.size 9 1 v3 (zA ps) (ps.map jA.string)
 row4:W.ownsRow w.1.size 119 4 v4 (zA rs) (EO rs)
 off3:∀g,v3.ownBlock=cA g→¬K g∧v4.ownBlock≠cA g
 off4:∀g,v4.ownBlock=cA g→¬K g
 turn:fB B w W
section
variable {w W W':fA} {B K:Nat→Prop} {v3 v4:jA} {ps:List pB} {rs:List nE} {l m:Nat} {c:lC} {now:Int} {ts ts':List gB} {M M' g n cap:Nat}
theorem WQ.z(h:WQ w W B K v3 v4 ps rs l m c now ts M)(a:xB W W'):WQ w W' B K v3 v4 ps rs l m c now ts M:=
 ⟨h.led.z a,λg b=>h.new g (Ua a.size b),h.sub,hC h.row3 a,hC h.row4 a,h.off3,h.off4,h.turn.trans' (fB.of a)⟩
theorem WQ.judged(h:WQ w W B K v3 v4 ps rs l m c now ts M)(b:lE W' K l m c now ts' M')(a:fB K W W'):WQ w W' B K v3 v4 ps rs l m c now ts' M':=
 ⟨b,λg d=>h.new g (Ua a.size d),h.sub,a.row h.row3 λg e=>(h.off3 g e).1,a.row h.row4 h.off4,h.off3,h.off4,h.turn.trans' (a.mono λi _ e=>h.sub i e)⟩
theorem WQ.led'(h:WQ w W B K v3 v4 ps rs l m c now ts M){v:jA}(f:∀g,v.ownBlock=cA g->¬K g)(d:fB (λi=>w.1.size<=i/\v.ownBlock=cA i) W W'):lE W' (λg=>K g/\g<W.1.size\/W'.1.size<=g) l m c now ts M:=
 h.led.re λg b a=>⟨d.block g b λe=>f g e.2 a,Ca ⟨a,b⟩⟩
theorem WQ.app3(h:WQ w W B K v3 v4 ps rs l m c now ts M){x:pB}(p:W'.ownsRow w.1.size 9 1 (qA (vB g) (zA ps+1) cap) (zA ps+1) (ps.map jA.string++[pA x]))(j:fB (λi=>w.1.size<=i/\v3.ownBlock=cA i) W W')(a:v3.ownBlock=cA g\/W.1.size<=g)(o:∀g,w.1.size<=g->B g):WQ w W' B (λg=>K g/\g<W.1.size\/W'.1.size<=g) (.slice (vB g) (zA (ps++[x])) cap) v4 (ps++[x]) rs l m c now ts M:=by
 have r:=j.size;have n:=h.turn.size;have f:=eH p g rfl;have k:=λq e=>eH h.row4 q e;refine⟨h.led' (λg e=>(h.off3 g e).1) j,λg f=>La f,λg f=>f.elim (λe=>h.sub g e.1) λe=>o g (by omega),by rw[show(ps++[x]).length=zA ps+1 by simp,Ld];exact p,j.row h.row4 λq e d=>(h.off3 q d.2).2 e,λq e=>?_,λq e b=>?_,h.turn.trans' (j.mono λi _ e=>o i e.1)⟩
 .obtain rfl:g=q:=by simpa[jA.ownBlock]using e
  obtain a|a:=a;exact ⟨λb=>b.elim (λe=>(h.off3 _ a).1 e.1) λe=>by omega,(h.off3 _ a).2⟩;exact ⟨λb=>b.elim (λe=>by omega) λe=>by omega,λe=>by have:=k _ e;omega⟩
 exact b.elim (λd=>h.off4 q e d.1) λd=>by have:=k _ e;omega
theorem WQ.app4(h:WQ w W B K v3 v4 ps rs l m c now ts M){x:nE}(p:W'.ownsRow w.1.size 119 4 (qA (vB g) (zA rs+1) cap) (zA rs+1) (EO rs++[aB x.K,pA x.T,pA x.X,aB x.U]))(j:fB (λi=>w.1.size<=i/\v4.ownBlock=cA i) W W')(a:v4.ownBlock=cA g\/W.1.size<=g)(o:∀g,w.1.size<=g->B g):WQ w W' B (λg=>K g/\g<W.1.size\/W'.1.size<=g) v3 (.slice (vB g) (zA (rs++[x])) cap) ps (rs++[x]) l m c now ts M:=by
 have s:=j.size;have n:=h.turn.size;have d:=eH p g rfl;have k:=λq e=>eH h.row3 q e;have r:EO (rs++[x])=EO rs++[aB x.K,pA x.T,pA x.X,aB x.U]:=by simp[EO]
 refine⟨h.led' h.off4 j,λg d=>La d,λg d=>d.elim (λe=>h.sub g e.1) λe=>o g (by omega),j.row h.row3 λq e b=>(h.off3 q e).2 b.2,by rw[show(rs++[x]).length=zA rs+1 by simp,r];exact p,λq e=>⟨λf=>f.elim (λb=>(h.off3 q e).1 b.1) λb=>by have:=k _ e;omega,λb=>?_⟩,λq e f=>?_,h.turn.trans' (j.mono λi _ e=>o i e.1)⟩
 .obtain rfl:g=q:=by simpa[jA.ownBlock]using b
  obtain a|a:=a;exact (h.off3 _ e).2 a;have:=k _ e;omega
 obtain rfl:g=q:=by simpa[jA.ownBlock]using e
 obtain a|a:=a
 .exact f.elim (λe=>h.off4 _ a e.1) λe=>by omega
 exact f.elim (λe=>by omega) λe=>by omega
end
end
