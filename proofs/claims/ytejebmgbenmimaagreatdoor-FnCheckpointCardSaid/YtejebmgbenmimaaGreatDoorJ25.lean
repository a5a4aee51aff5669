import Derived.Test.YtejebmgbenmimaaGreatDoorJ23
set_option maxRecDepth 100000
set_option maxHeartbeats 16000000
set_option linter.defProp false
open Option renaming some->fA,none->eA
open Bool renaming true->iA,false->gA
open List renaming length->cB
namespace Go.Proofs.YtejebmgbenmimaaGreatDoor
open Go renaming World->jA,Value->mA
open Value renaming string->tA,bool->vA,slice->uA
open Ending renaming returned->zA
open Obj renaming cells->aB
open Go.RowKit Tryz
section
open Go.Maps
def kR.seen{w y:jA}{S:Nat->Prop}{x:Nat}{t:kB}{M C E z:Nat}{B:mA}{Q:List (pB×Nat)}{A:List rI}{D:DataW Unit}{q:pB×Nat}{b:Int}(h:kR w S x t M C E z B Q A D)(j:q∈Q)(H:q.1.n<=b)(l:jB (·=q.2) w y)
(F:rB y q.2 #[tA q.1.s,dB b] 109):yD y S x (zI t q.1.s b) M:=by
 have u:zC (λq:pB×Nat=>q.1.s) Q:=by
  rw[<-zW (key':=λp:pB=>p.s) (λq:pB×Nat=>q.1) (λ_=>rfl),h.q1];exact h.rs
 have d:∀{β:Type}(f:pB×Nat->β),f q=f ((⟨q.1.s,b⟩:pB),q.2)->(iC (λq:pB×Nat=>q.1.s) ((⟨q.1.s,b⟩:pB),q.2) Q).map f=Q.map f:=λf G=>
  EP (key:=λq:pB×Nat=>q.1.s) (a:=((⟨q.1.s,b⟩:pB),q.2)) f u j rfl G
 have o:cB (iC (λq:pB×Nat=>q.1.s) ((⟨q.1.s,b⟩:pB),q.2) Q)=cB Q:=by
  have:=Kd List.length (d (λq=>q.2) rfl);simpa using this
 have i:∀p,p∈iC (λq:pB×Nat=>q.1.s) ((⟨q.1.s,b⟩:pB),q.2) Q->p=((⟨q.1.s,b⟩:pB),q.2)\/(p∈Q/\p.2≠q.2):=λp c=>by
  rcases XX u c with e|⟨c,k⟩;exact Ca e;refine La ⟨c,λe=>?_⟩;have:=cS h.nd c j e;rw[this]at k;exact k rfl
 have r:(iC (λq:pB×Nat=>q.1.s) ((⟨q.1.s,b⟩:pB),q.2) Q).map (·.1)=(zI t q.1.s b).Z:=by
  rw[zR (key':=λp:pB=>p.s) (λq:pB×Nat=>q.1) (λ_=>rfl),h.q1];rfl
 refine⟨C,E,z,B,iC (λq:pB×Nat=>q.1.s) ((⟨q.1.s,b⟩:pB),q.2) Q,A,D,?_⟩;exact { h with
  blk:=l.blk h.blk (h.dx q j).symm
  lims:=l.map h.lims (fD h.lims (h.cells q j))
  Z:=by
   rw[o,d (λq=>(q.1.s,nF q.2)) rfl];exact l.map h.Z (fD h.Z (h.cells q j))
  cnts:=l.map h.cnts (fD h.cnts (h.cells q j))
  cnt:=λm=>by
   rw[h.cnt m];have:t.Z.map (·.s)=(zI t q.1.s b).Z.map (·.s):=by
    rw[<-r,<-h.q1,Vd,Vd];exact(d ((λp:pB=>p.s) ∘ λq:pB×Nat=>q.1) rfl).symm
   rw[jl this m]
  q1:=r
  cells:=λp c=>by
   rcases i p c with rfl|⟨c,k⟩;exact F;exact l.blk (h.cells p c) k
  row:=l.row h.row (λg n e=>(h.di g n).2 q j e.symm)
  perm:=by rw[d (λq=>q.2) rfl];exact h.perm
  early:=λs v p c e=>by
   rcases i p c with rfl|⟨c,_⟩;exact Int.le_trans (h.early s v q j e) H;exact h.early s v p c e
  rs:=bK h.rs
  sq:=λp c=>by
   rcases i p c with rfl|⟨c,_⟩;exact h.sq q j;exact h.sq p c
  nd:=by rw[d (λq=>q.2) rfl];exact h.nd
  dx:=λp c=>by
   rcases i p c with rfl|⟨c,_⟩;exact h.dx q j;exact h.dx p c
  di:=λg n=>⟨(h.di g n).1,λp c=>by
   rcases i p c with rfl|⟨c,_⟩;exact (h.di g n).2 q j;exact (h.di g n).2 p c⟩ }
def aBm{w j:jA}{B:Nat->Prop}{T:Nat->Option Nat}{l m:Nat}{c:kC}{i:Int}{L:List (kB×Nat)}{M M':Nat}{p:kB×Nat}{t':kB}(h:xK w B T l m c i L M)(q:∀g,w.1.size<=g->B g)(o:p∈L)(k:t'.N=p.1.N)
(b:jB (λg=>B g/\T g=fA p.2) w j)(s:yD j (λg=>(B g/\T g=fA p.2)\/w.1.size<=g) p.2 t' M')(r:M<=M'):
 jE j B l m c i ((iC (λp:kB×Nat=>p.1.N) (t',p.2) L).map (·.1)) M':=by
 refine pn (n:=cB L) h q o k b s r (jB.refl _ j) ?_;have f:DataW.put (fE (L.map λp=>(p.1.N,nF p.2))) (kL t'.N) (nF p.2)=fE ((iC (λp:kB×Nat=>p.1.N) (t',p.2) L).map λp=>(p.1.N,nF p.2)):=
  IE (key:=λp:kB×Nat=>p.1.N) (λp=>nF p.2) (t',p.2) h.rise
 have d:(iC (λp:kB×Nat=>p.1.N) (t',p.2) L).map (λp=>(p.1.N,nF p.2))=L.map λp=>(p.1.N,nF p.2):=
  EP (key:=λp:kB×Nat=>p.1.N) (a:=(t',p.2)) (λp:kB×Nat=>(p.1.N,nF p.2)) h.rise o k.symm (by simp[k])
 rw[f,d];exact b.map h.ten (λe=>by rw[h.tm]at e;cases e.2)
def jE.mono{w:jA}{B:Nat->Prop}{l m:Nat}{c:kC}{a:Int}{d:List kB}{M b:Nat}(h:jE w B l m c a d M)(f:M<=b):jE w B l m c a d b:=by
 obtain⟨T,L,h,e⟩:=h;exact⟨T,L,{ h with idx:=λp g=>(h.idx p g).mono f},e⟩
def aDu(w:jA):(zeroValue 236).run prog w=.ok (.pointer eA) w:=by kernel_rfl
def vl{w:jA}{d:Nat}{Q:List (pB×Nat)}(h:w.ownsMap prog 9 wE d (cB Q) (fE (Q.map λq=>(q.1.s,nF q.2)))){key:vB}(e:key.size<=maxLen):
 (∃q,eD (λq:pB×Nat=>q.1.s) key Q=fA q/\(Instr.lookup 228 (.map (fA d)) (tA key) iA).run prog w=.ok (.tuple #[.pointer (cC q.2),vA iA]) w)\/
 (eD (λq:pB×Nat=>q.1.s) key Q=eA/\(Instr.lookup 228 (.map (fA d)) (tA key) iA).run prog w=.ok (.tuple #[.pointer eA,vA gA]) w):=by
 obtain⟨v,f,a,c⟩:=h.look_ok pL underlying228 (aDu w) (zd:=.nil) (zp:=[]) rfl (zM e);rw[XH (key:=λq:pB×Nat=>q.1.s) (val:=λq=>nF q.2)]at a;rw[lS (key:=λq:pB×Nat=>q.1.s) (λq=>nF q.2)]at c;cases hg:eD (λq:pB×Nat=>q.1.s) key Q with
 |some q=>
  rw[hg]at a c;have b:=rQ c;subst b;exact Ca ⟨q,rfl,a⟩
 |none=>
  rw[hg]at a c;have b:=KB c;subst b;exact La ⟨rfl,a⟩
end
section
open Go.Maps
structure Fnd(w W:World)(B:Nat→Prop)(T:Nat→Option Nat)(l m:Nat)(c:kC)(now:Int)(L:List (kB×Nat))(M:Nat)(tenant:vB)(x N:Nat)(th:Bool)(t:kB)(S:Nat→Prop):Prop where
 ix:yD W S x t N
 tn:eC (L.map (·.1)) tenant=t
 nm:t.N=tenant
 no:(eD (·.N) tenant (L.map (·.1))).isNone=!th
 led:xK W B T l m c now L M
 bw:zB w W
 sB:∀g,S g→B g
 sl:¬S l
 sm:¬S m
 mem:t∈L.map (·.1)∧th=iA∨t.Z=[]∧t.M=[]
 nM:N≤M
 put:∀k{w2 w4 w6:jA}{t':kB}{n:Nat},zB W w2→jB S w2 w4→yD w4 (λg=>S g∨w2.1.size≤g) x t' (N+k)→t'.N=tenant→jB (·=m) w4 w6→w6.ownsMap prog 9 wE m n (DataW.put (fE (L.map λp=>(p.1.N,nF p.2))) (kL tenant) (nF x))→jE w6 B l m c now (iC (·.N) t' (L.map (·.1))) (M+k)
 turn:th=iA→∀{w4:jA}{t':kB},jB S W w4→yD w4 S x t' N→t'.N=tenant→jE w4 B l m c now (iC (·.N) t' (L.map (·.1))) M
 kp:th=gA→∀{w4:jA},jB S W w4→xK w4 B T l m c now L M
 del:∀{w4 w6:jA}{n:Nat},jB S W w4→jB (·=m) w4 w6→w6.ownsMap prog 9 wE m n (DataW.del (fE (L.map λp=>(p.1.N,nF p.2))) (kL tenant))→jE w6 B l m c now (yE (·.N) tenant (L.map (·.1))) M
def aAl{w W:jA}{B:Nat->Prop}{l m:Nat}{T:Nat->Option Nat}{c:kC}{C:Int}{L:List (kB×Nat)}{M:Nat}{d:vB}{e:Ending}(h:xK w B T l m c C L M)(G:∀g,w.1.size<=g->B g)(Q:oe L d w e W):∃x N O t S,e=zA (.tuple #[.pointer (cC x),vA O])/\Fnd w W B T l m c C L M d x N O t S:=by
 have o:eD (·.N) d (L.map (·.1))=(eD (λp:kB×Nat=>p.1.N) d L).map (·.1):=lg;have y:=fun(u:kB)(x:Nat)=>zR (key:=λp:kB×Nat=>p.1.N) (key':=λt:kB=>t.N) (λp:kB×Nat=>p.1) (λ_=>rfl) (u,x) L;have E:=xZ (key:=λp:kB×Nat=>p.1.N) (key':=λt:kB=>t.N) (λp:kB×Nat=>p.1) (λ_=>rfl) d L;obtain⟨p,j,rfl,rfl⟩|⟨j,x,rfl,U,J,D⟩:=Q
 .obtain ⟨z,H⟩:=eM j;rw[j]at o;refine⟨p.2,M,iA,p.1,λg=>B g/\T g=fA p.2,rfl,h.idx p z,by unfold eC;rw[o];rfl,H,by rw[o];rfl,h,jD,λg e=>e.1,λe=>(by rw[h.tl]at e;cases e.2),λe=>(by rw[h.tm]at e;cases e.2),Ca ⟨Tc z,rfl⟩,Ia _,?_,?_,(λh=>by cases h),?_⟩
  .intro k X v I u n r a s A b O;have:=pn (p:=p) (t':=u) (M':=M+k) (h.keep λg j _=>r.block g j) (λg j=>G g (Ua r.size j)) z (A.trans H.symm) a s (by omega) b (by rw[A];exact O);rwa [y]at this
  .intro _ v u a s A;have:=aBm (p:=p) (t':=u) (M':=M) h G z (A.trans H.symm) a (s.keep λg _ f=>⟨rfl,Ca f⟩) (Ia _);rwa [y]at this
  intro v I n a b O;have:=pm (k:=d) h (λg f q R K e=>by
   rw[f.2]at e;exact K ((cS h.nd R z (Lc e).symm) ▸ H)) (λg _ f e=>by rw[e]at f;cases f.2) a b O
  rwa [E]at this
 rw[j]at o;have Y:=eB h.blk;have Z:=h.ten.lt;have F:∀{v},jB (λg=>w.1.size<=g) W v->xK v B T l m c C L M:=λa=>h.keep λg j _=>(D.trans (a.below (by have:=D.size;omega) λi J e=>by omega)).block g j;refine⟨x,0,gA,⟨d,-1,[],[]⟩,λg=>w.1.size<=g,rfl,J,by unfold eC;rw[o];rfl,rfl,by rw[o];rfl,h.keep λg j _=>D.block g j,D,λg e=>G g e,by omega,by omega,La ⟨rfl,rfl⟩,Oa _,?_,(λh=>by cases h),λ_ v a=>F a,?_⟩
 .intro k X v I u n r a s A b O;have V:=(xB D r).size;have P:=(xB D r).trans (a.below (by omega) λi J e=>by omega);have:=dz (x:=x) (t:=u) (M':=0+k) (M:=M+k) { h with idx:=λp z=>(h.idx p z).mono (by omega) } G (by rw[A];exact j) jD P U b (by rw[A];exact O) (jB.refl _ I) (s.keep λg j f=>⟨b.block g j (λe=>by rcases f with f|f<;>omega),by rcases f with f|f<;>omega⟩) (by omega);rwa [y]at this
 intro v I n a b O;have:=pm (k:=d) (S:=λ_=>False) (F a) (λg f=>f.elim) (λg _ f=>f.elim) (jB.refl _ v) b O;rwa [E]at this
end
section
open Go.Maps
def OQ(l m:Nat)(a key:vB)(c:kC)(b:Int)(B:Nat->Prop)(d:List kB)(M:Nat)(w:jA)(h:jE w B l m c b d M)(hB:∀g,w.1.size<=g->B g)(hU:iH w)(o:a.size<=1400000)(o:key.size<=1400000)(o:1<=M)(o:M<=1000000000)(G:∀t∈d,cB t.Z<=1000000000)(I:∀t∈d,∀y∈t.Z,y.n<=b)(J:cB d<=1000000000):
 Calls prog 240 #[.pointer (cC l),tA a,tA key] w λe w'=>e=zA (dB ((zK c b d a key).2:Nat))/\jE w' B l m c b (zK c b d a key).1 (M+1)/\jB B w w':=by
 have O:=gB (h.mono (Gf M));have o:fB (gF 228 #[tA key] w (tA (cE key))):=uY key w (by omega) hU;have HT:fB _:=λW=>jM a W (by unfold maxLen;omega);have U:fB (zK c b d a key=if (xC a&&!(cE key).toList.isEmpty)=gA then(d,5) else if (eD (·.s) key (eC d a).Z).isSome=iA then(iC (·.N) (zI (eC d a) key b) d,1) else if (if (eC d a).L = -1 then c.tl else(eC d a).L)<=(cB (eC d a).Z:Nat)\/((eD (·.N) a d).isNone&&decide (10000<=cB d))=iA then(d,3) else if zG (eC d a).M (cE key) c.ml<=(sI cE (eC d a).Z (cE key):Nat) then(d,4) else(iC (·.N) (zI (eC d a) key b) d,2)):=rfl;have v:fB _:=λS x t s W f Y Z hl=>om x t key b S s W f Y (by unfold maxLen;omega) (bS key) Z hl;have Z:fB _:=λS x t s W hl f=>vT l m x c b t S s (cE key) W hl f (bS key);have b0:fB _:=fun(W:jA)(cm:Nat)(s:Nat)(D:DataW Unit)(n:Nat)(Y:W.ownsMap prog 9 (plainElem prog 3) cm s D)(s:D.atKey (kL (cE key)) (vI 0)=vI n)=>OW Y s (bS key);clear hU;generalize cE key=mk at *;generalize xC a=Y at *;generalize zK c b d a key=R at *;go_enter func240,ntmps240;go_wp2_with fail;apply oC o.o;intro w1 s;have A:=gB s;clear s o;go_wp2_with fail;refine tD (HT.o _) ?_;clear HT;have o:(Y=gA\/Y=iA/\mk.toList.isEmpty=iA)\/Y=iA/\mk.toList.isEmpty=gA:=by cases Y<;>cases mk.toList.isEmpty<;>simp
 obtain o|⟨rfl,s⟩:=o
 .have k:fB (R=(d,5)):=by show _=_;rw[U.o,Ma (by rcases o with e|⟨_,e⟩<;>rw[e]<;>simp)]
  clear U v Z b0 h;obtain rfl|⟨rfl,s⟩:=o
  all_goals
   go_wp2;go_ret;exact⟨vF (by rw[k.o];rfl),by rw[k.o];exact O.o.z A.o,jB.of A.o⟩
 obtain⟨T,L,h,rfl⟩:=h;rw[s]at U;have H1:fB _:=h.keep λg o _=>A.o.block g o;have HF:=gB (NW l m a c b B T L M w1 H1.o (by unfold maxLen;omega));have HMB:fB (B m/\B l):=⟨h.mB,h.lB⟩
 have HK:fB (keyOf prog 9 (tA a)=fA (kL a)):=zM (by unfold maxLen;omega);rw[Xa]at J;clear h;go_wp2_with fail;refine HF.o.mono ?_;intro e W Y;obtain⟨x,N,th,t,S,rfl,F⟩:=aAl H1.o (λg o=>hB g (Ua A.o.size o)) Y;have H:fB _:=xB A.o F.bw;have J:=F.nM;have r:fB (R=if (eD (·.s) key t.Z).isSome=iA then(iC (·.N) (zI t key b) (L.map (·.1)),1) else if (if t.L = -1 then c.tl else t.L)<=(cB t.Z:Nat)\/((!th) &&decide (10000<=cB L))=iA then(L.map (·.1),3) else if zG t.M mk c.ml<=(sI cE t.Z mk:Nat) then(L.map (·.1),4) else(iC (·.N) (zI t key b) (L.map (·.1)),2)):=by show _=_;rw[U.o,F.tn,F.no,Xa,Ja (by simp)]
 have hpl:cB t.Z<=1000000000:=by obtain⟨e,_⟩|⟨e,_⟩:=F.mem;exact G _ e;rw[e];simp
 have HNW:fB (∀y∈t.Z,y.n<=b):=by refine gB ?_;obtain⟨e,_⟩|⟨e,_⟩:=F.mem;exact I _ e;rw[e];simp
 have HLB:=gB F.led.blk;have x6:gD W l 6 (dB b):=F.led.blk.cell 6;have c0:=gB (JW l m x c b t S N W F.led.blk F.ix);have V:=gB (OC l m c b B T L M W F.led);have HL0:fB (∀J,zB W J->jE J B l m c b (L.map (·.1)) (M+1)):=λJ hb=>jE.mono ⟨T,L,F.led.keep λg o _=>hb.block g o,rfl⟩ (Gf M);have C:fB _:=fun(y:mC W)=>Z.o _ x t N y.w' (F.led.blk.z y.h) (F.ix.z y.h);have u:=gB F;clear HF U Z Y G I s F H1 O;obtain⟨I,G,cm,O,Q,hs,D,f⟩:=u.o.ix;have Z:=gB f;have x2:gD W x 2 (.map (fA G)):=f.blk.cell 2;have l2:=f.Z.len underlying228 3;rw[pM,show cB Q=cB t.Z by rw[<-f.q1,Xa]]at l2;have Y:fB (eD (·.s) key t.Z=(eD (λq:pB×Nat=>q.1.s) key Q).map (·.1)):=by
  show _=_;rw[<-f.q1];exact bV (key:=λq:pB×Nat=>q.1.s) (key':=λp:pB=>p.s) (λq=>q.1) (λ_=>rfl) key Q
 have d0:=gB (vl f.Z (key:=key) (by unfold maxLen;omega));have d3:=mC.cells (show gD W x 3 (.map (fA cm)) from f.blk.cell 3);have U:fB (∀y:mC W,(Instr.lookup 227 (.map (fA cm)) (tA mk) gA).run prog y.w'=.ok (dB (sI cE t.Z mk)) y.w'):=λy=>by
  obtain⟨I,G,G,O,Q,hs,D,f⟩:=u.o.ix.z y.h;have G:=f.blk.cell 3;rw[d3 y]at G;cases G
  exact b0.o _ cm _ D _ f.cnts (f.cnt mk)
 clear b0 f;obtain⟨q,hq,E⟩|⟨hq,E⟩:=d0.o
 .have k:fB (R=(iC (·.N) (zI t key b) (L.map (·.1)),1)):=by show _=_;rw[r.o,Ma (by rw[Y.o,hq];rfl)]
  obtain⟨j,hqk⟩:=eM hq;have K:=Z.o.cells q j;have G:gD W q.2 1 (dB q.1.n):=K.cell 1;have G:=K.free 1;have G:jB (·=q.2) W (W.setCell (iB q.2 1) (dB b)):=(jB.refl (·=q.2) W).setCell (Ca rfl) 1 _;have I:=Z.o.seen j (HNW.o q.1 (by rw[<-Z.o.q1];exact Tc j)) G (by have:=K.set 1 (dB b);simpa using this);rw[show q.1.s=key from hqk]at I;have O:jB S W (W.setCell (iB q.2 1) (dB b)):=G.mono λi _ e=>by subst e;exact Z.o.sq q j
  have hth:th=iA:=by
   obtain⟨_,e⟩|⟨e,_⟩:=u.o.mem;exact e;rw[<-Z.o.q1]at e;rw[List.map_eq_nil_iff.1 e]at j;cases j
  have a0:=gB ((u.o.turn hth O I u.o.nm).mono (Gf M));have g0:fB _:=(jB.of H.o).trans' (O.mono λi _ e=>u.o.sB i e);clear K G I O j hqk hq Z d0 l2;go_wp2;go_ret;exact⟨vF (by rw[k.o];rfl),by rw[k.o];exact a0.o,g0.o⟩
 have X:fB (eD (·.s) key t.Z=eA):=by show _=_;rw[Y.o,hq];rfl
 have z:fB _:=λJ(G:zB W J)=>v.o S x t N J (u.o.ix.z G) X.o (by omega) hpl;rw[X.o]at r;clear v hq d0 Y X HNW Z;generalize (if t.L = -1 then c.tl else t.L)=I at *;generalize cB t.Z=O at *;generalize decide (10000<=cB L)=Y at *;have G:(I<=(O:Int)\/¬I<=(O:Int)/\th=gA/\Y=iA)\/¬I<=(O:Int)/\(th=iA\/th=gA/\Y=gA):=by cases th<;>cases Y<;>simp<;>omega
 obtain G|⟨O,G⟩:=G
 .have k:fB (R=(L.map (·.1),3)):=by show _=_;rw[r.o,Ja (by simp),Ma (by obtain e|⟨_,e,I⟩:=G;exact Ca e;rw[e,I];simp)]
  clear r U d3 C z;obtain O|⟨O,rfl,rfl⟩:=G
  all_goals
   go_wp2_with fail;refine tD c0.o ?_;try (go_wp2_with fail;with_reducible refine tD V.o ?_)
   go_wp2;go_ret;exact⟨vF (by rw[k.o];rfl),by rw[k.o];exact HL0.o _ jD,jB.of H.o⟩
 have I:fB (R=if zG t.M mk c.ml<=(sI cE t.Z mk:Nat) then(L.map (·.1),4) else(iC (·.N) (zI t key b) (L.map (·.1)),2)):=by show _=_;rw[r.o,Ja (by simp),Ja (by rintro(e|e);exact O e;obtain h|⟨h,O⟩:=G;rw[h]at e;simp at e;rw[O]at e;simp at e)]
 clear r;have E:=U.o;have O:=mC.there W;clear U;generalize sI cE t.Z mk=U at *;generalize zG t.M mk c.ml=W at *;obtain rfl|⟨rfl,rfl⟩:=G
 all_goals
  go_wp2_with fail;refine tD c0.o ?_;try (go_wp2_with fail;with_reducible refine tD V.o ?_)
  clear c0 V l2 x2;go_wp2_with fail;refine bC (by kernel_rfl) (by kernel_rfl) ?_;repeat (go_big_quiet_step (first|(go_at_call 242;exact dD (C.o _))|fail))
  refine wpQuiet_nil ?_;rintro _ ⟨y,rfl⟩;have h:fB _:=y.h;clear E d3 O C x6;generalize y.w'=J at *;clear y;by_cases O:W<=(U:Int)
  .have k:fB (R=(L.map (·.1),4)):=by show _=_;rw[I.o,Ma O]
   clear I;go_wp2;go_ret;exact⟨vF (by rw[k.o];rfl),by rw[k.o];exact HL0.o _ h.o,jB.of (xB H.o h.o)⟩
  have k:fB (R=(iC (·.N) (zI t key b) (L.map (·.1)),2)):=by show _=_;rw[I.o,Ja O]
  clear I;have x6:gD J l 6 (dB b):=(HLB.o.z h.o).cell 6;go_wp2_with fail;apply oC (z.o J h.o);rintro w4 ⟨I,G⟩;have s:=u.o.led.keep λg o _=>h.o.block g o;have J:=gB I;have O:=gB G;have U:fB _:=((jB.of H.o).trans' (jB.of h.o)).trans' (G.mono λi _ e=>u.o.sB i e);have o:gD w4 l 7 (.map (fA m)):=(G.blk s.blk u.o.sl).cell 7;obtain⟨o,o,P,o⟩:=(G.map s.ten u.o.sm).store pL underlying167 (by unfold maxLen;omega) HK.o (yW x);have a0:=gB (u.o.put 1 h.o O.o J.o u.o.nm (jB.mapped o) P);have g0:fB _:=U.o.trans' ((jB.mapped o).mono λi _ e=>(show i=m from e) ▸ HMB.o.1);clear P o I G z s;go_wp2;go_ret;exact⟨vF (by rw[k.o];rfl),by rw[k.o];exact a0.o,g0.o⟩
theorem RA(l m:Nat)(a b:ByteArray)(d:Int)(c:kC)(n:Int)(B:Nat->Prop)(j:List kB)(M:Nat)(w:World)(h:jE w B l m c n j M)(hB:∀g,w.1.size<=g->B g)(o:iH w)(G:a.size<=1400000)(G:b.size<=1400000)(a0:∀t∈j,t.M.length<=1000000000)(Z:j.length<=1000000000):
 Calls prog 251 #[.pointer (cC l),.string a,.string b,dB d] w λe w'=>e=.returned (.bool (wR j a b d).2)/\jE w' B l m c n (wR j a b d).1 M/\jB B w w':=by
 have P:=gB h;have O:fB _:=λW=>jM a W (by unfold maxLen;omega);have U:=gB (wS b w (by omega) o);have Q:fB _:=λW=>tT d W;have I:fB (wR j a b d=if (xC a&&(b.toList.isEmpty||dF b) &&dC d (-1) 1000000)=false then(j,false) else if eF (xH (eC j a) b d)=true then(yE (·.N) a j,true) else if ((eD (·.N) a j).isNone&&decide (10000<=j.length))=true then(j,false) else(iC (·.N) (xH (eC j a) b d) j,true)):=rfl;have J:fB (dC d (-1) 1000000=true->-1<=d/\d<=1000000):=λh=>gL h;clear o;generalize xC a=o at *;generalize (b.toList.isEmpty||dF b)=Y at *;generalize dC d (-1) 1000000=b3 at *;generalize wR j a b d=R at *;have G:fB (∀W,(o&&Y&&b3)=false->Below w.1.size w W->(Ending.returned (.bool false)=.returned (.bool R.2))/\jE W B l m c n R.1 M/\jB B w W):=λW h hb=>by
  rw[I.o,Ma h];exact⟨rfl,P.o.z hb,jB.of hb⟩
 go_enter func251,ntmps251;go_wp2_with fail;refine tD (O.o _) ?_;clear O;cases o
 .go_wp2;go_ret;exact G.o _ rfl jD
 go_wp2_with fail;refine U.o.mono ?_;rintro e w2 ⟨rfl,V⟩;have o:=gB V;clear V U;cases Y
 .go_wp2;go_ret;exact G.o _ rfl o.o
 go_wp2_with fail;refine tD (Q.o _) ?_;clear Q;cases b3
 .go_wp2;go_ret;exact G.o _ rfl o.o
 obtain⟨O,hl1⟩:=J.o rfl;obtain⟨T,L,h,rfl⟩:=h;have H2:fB _:=h.keep λg hg _=>o.o.block g hg;have HF:=gB (NW l m a c n B T L M w2 H2.o (by unfold maxLen;omega));have U:fB (B m/\B l):=⟨h.mB,h.lB⟩
 have HK:fB (keyOf prog 9 (.string a)=some (kL a)):=zM (by unfold maxLen;omega);rw[Xa]at Z;clear h G;go_wp2_with fail;refine HF.o.mono ?_;intro e W Y;obtain⟨x,N,h,t,S,rfl,F⟩:=aAl H2.o (λg hg=>hB g (Ua o.o.size hg)) Y;have u:=gB F;have Z:=gB (aDt x b d t S N W F.ix (by unfold maxLen;omega) O hl1 (by obtain⟨e,_⟩|⟨_,e⟩:=F.mem;exact a0 _ e;rw[e];simp));have k:fB (R=if eF (xH t b d)=true then(yE (·.N) a (L.map (·.1)),true) else if ((!h) &&decide (10000<=L.length))=true then(L.map (·.1),false) else(iC (·.N) (xH t b d) (L.map (·.1)),true)):=by show _=_;rw[I.o,F.tn,F.no,Xa,Ja (by simp)]
 have HN:fB ((xH t b d).N=a):=by show _=_;rw[nP];exact F.nm
 have W:fB _:=xB o.o F.bw;clear HF I Y F H2 a0 J P;generalize xH t b d=t' at *;go_wp2_with fail;refine Z.o.mono ?_;rintro e I ⟨rfl,G,r⟩;have K:=gB G;have p:=gB r;have O:=gB (OD x t' S N I G);have y:=gB (r.map u.o.led.ten u.o.sm);have X:=r.blk u.o.led.blk u.o.sl;have o:I.cell? (iB l 7)=some (.map (some m)):=X.cell 7;have E:fB (jB B w I):=(jB.of W.o).trans' (r.mono λi _ e=>u.o.sB i e);clear G r Z X;go_wp2_with fail;refine tD O.o ?_;clear O;cases hidl:eF t'
 case true=>
  have z:fB (R=(yE (·.N) a (L.map (·.1)),true)):=by show _=_;rw[k.o,Ma hidl]
  clear hidl k;go_wp2_with(at_delete;refine wpList_delete_own _ rfl _ _ 167 9 rfl 174 pL underlying167 wE m _ _ rfl y.o _ _ rfl HK.o ?_;intro G q f);have C:=gB (u.o.del p.o (jB.mapped f) q);have D:fB _:=E.o.trans' ((jB.mapped f).mono λi _ e=>(show i=m from e) ▸ U.o.1);clear q f;go_ret;exact⟨tB (by rw[z.o]),by rw[z.o];exact C.o,D.o⟩
 by_cases s:((!h) &&decide (10000<=L.length))=true
 .have z:fB (R=(L.map (·.1),false)):=by show _=_;rw[k.o,Ja (by rw[hidl];simp),Ma s]
  simp only[Sa,Bool.not_eq_true']at s;have o:=gB (u.o.kp s.1 p.o);have v:=gB (OC l m c n B T L M I o.o);rw[s.2]at v;rw[s.1];clear hidl k s;go_wp2_with fail;refine tD v.o ?_;go_wp2;go_ret;exact⟨tB (by rw[z.o]),by rw[z.o];exact⟨T,L,o.o,rfl⟩,E.o⟩
 have z:fB (R=(iC (·.N) t' (L.map (·.1)),true)):=by show _=_;rw[k.o,Ja (by rw[hidl];simp),Ja s]
 have v:fB (h=false->Calls prog 282 #[.pointer (cC l)] I λe w'=>e=.returned (.bool false)/\w'=I):=λe=>by
  have:=OC l m c n B T L M I (u.o.kp e p.o);rwa [show decide (10000<=L.length)=false by rw[e]at s;simpa using s]at this
 obtain⟨G,o,A,H⟩:=y.o.store pL underlying167 (by unfold maxLen;omega) HK.o (yW x);have C:=gB (u.o.put 0 jD p.o (K.o.keep λg _ hs=>⟨rfl,Ca hs⟩) HN.o (jB.mapped H) A);have D:fB _:=E.o.trans' ((jB.mapped H).mono λi _ e=>(show i=m from e) ▸ U.o.1);clear A H hidl k s K p u;cases h
 all_goals
  try (go_wp2_with fail;with_reducible refine tD (v.o trivial) ?_)
  go_wp2;go_ret;exact⟨tB (by rw[z.o]),by rw[z.o];exact C.o,D.o⟩
end
def dG(a b:nC)(c d:Nat)(N:vC):∀(j:Nat)(s:vB),(sC a c b d N)[j]?≠fA (mA.string s):=λj s=>by
 unfold sC;match j with
 |0|1|2|3|4|5|6|7|8|9|10|11|12|13=>simp
 |j+14=>simp
section
variable {w W:jA} {P:Nat} {cs:Array mA} {t:TypeId}
theorem CG(g:rB w P cs t)(f:∀(j:Nat)(s:vB),cs[j]?≠fA (mA.string s))(d:jB (·=P) w W){b o:Nat}{s:vB}(c:b<w.1.size)(h:w.cell? (iB b o)=fA (tA s)):b<W.1.size/\∀j,W.cell? (iB b j)=w.cell? (iB b j):=by
 have a:b≠P:=λe=>by subst e;rw[g.cell]at h;exact f _ _ h
 exact⟨Bb c d.size,λj=>jA.cell?_of_block (d.block b c a)⟩
theorem wB.store(m:rB w P cs t)(k:∀(j:Nat)(s:vB),cs[j]?≠fA (mA.string s))(l:jB (·=P) w W){a:nC}{c:List nB}(h:wB w a c):wB W a c:=by
 obtain h|⟨b,o,e,d,h⟩:=h;exact Ca h
 cases c with
 |nil=>exact Ca rfl
 |cons f r=>
  obtain⟨n,p⟩:=CG m k l d (h 0 (by simp)).1;exact La ⟨b,o,e,n,λi g=>by simp only[p];exact h i g⟩
theorem jC.store(m:rB w P cs t)(k:∀(j:Nat)(s:vB),cs[j]?≠fA (mA.string s))(l:jB (·=P) w W){a:nC}{c:List pB}(h:jC w a c):jC W a c:=by
 obtain h|⟨b,o,e,d,h⟩:=h;exact Ca h
 cases c with
 |nil=>exact Ca rfl
 |cons f r=>
  obtain⟨n,p⟩:=CG m k l d (h 0 (by simp)).1;exact La ⟨b,o,e,n,λi g=>by simp only[p];exact h i g⟩
theorem uC.store(l:rB w P cs t)(g:∀(j:Nat)(s:vB),cs[j]?≠fA (mA.string s))(k:jB (·=P) w W){a:nC}{m:List kB}(h:uC w a m):uC W a m:=by
 obtain h|⟨b,o,e,B,h⟩:=h;exact Ca h
 cases m with
 |nil=>exact Ca rfl
 |cons f r=>
  obtain⟨_,_,_,_,d,_⟩:=h 0 (by simp);obtain⟨D,c⟩:=CG l g k B d;refine La ⟨b,o,e,D,λi C=>?_⟩;obtain⟨n,q,p,u,v,d,x,y,z,A⟩:=h i C;exact⟨n,q,p,u,(c _).trans v,(c _).trans d,(c _).trans x,(c _).trans y,z.store l g k,A.store l g k⟩
end
def cw:(prog.info? 107).map (λi=>(i.zero,i.size,i.bytes))=fA (fA (.agg #[tA ⟨#[]⟩,dB 0]),2,24):=by kernel_rfl
def da:(prog.info? 109).map (λi=>(i.zero,i.size,i.bytes))=fA (fA (.agg #[tA ⟨#[]⟩,dB 0]),2,24):=by kernel_rfl
def ji(a:nC)(g:Nat)(c:List pB)(w:jA)(q:jC w a c)(A:cB c<=2000000):
 Calls prog 161 #[uA a (cB c) g] w λe n=>∃v,e=zA v/\n.ownsRow w.1.size 107 2 v (cB c) (flatK c)/\zB w n:=by
 have p:=λn=>Lib.run_eql_slice_nil (P:=prog) n 102 107 a (cB c) g 0 0 underlying102;cases a with
 |none=>
  have E:c=[]:=by
   obtain h|⟨b,o,e,_⟩:=q;exact h;exact absurd e (by simp)
  subst E;have y:=λn=>Lib.run_eql_slice_nil (P:=prog) n 102 107 eA 0 g 0 0 underlying102;clear p;go_enter func161,ntmps161;go_wp2;go_ret;exact⟨_,rfl,⟨rfl,Ca ⟨rfl,rfl⟩⟩,jD⟩
 |some x=>
  obtain⟨i,z,r,s,t⟩:=info_parts cw;have l:(w.alloc (aB #[] 107)).ownsRow w.1.size 107 2 (uA (cC w.1.size) 0 0) 0 []:=jA.ownsRow_made w #[] 0 (Ia _) (by simp[maxLen]) (by simp);have D:=gB l;have d:∀j u,(flatK c)[j]?=fA u->(w.alloc (aB #[] 107)).cell? (x.add j)=fA u:=by
   rcases q.z (uF w (aB #[] 107)) with rfl|⟨b,o,e,_,h⟩;intro j u h;simp[flatK]at h;simp only[Qa]at e;subst e;exact qN h
  have C:fB _:=d;have B:fB _:=z;clear q l d z;go_enter func161,ntmps161;go_wp2_with(at_builtin;refine wpList_append_own_at _ rfl _ _ _ rfl w.1.size 107 i _ 2 24 underlying102 B.o r s t rfl (by omega) (uA (cC w.1.size) 0 0) 0 [] rfl D.o x (cB c) g (flatK c) rfl (dM c) C.o (lP c) (by simp[maxLen];omega) (by omega) (by simp) ?_;intro G H f m _ _);go_ret;simp only[Ya,Mb]at f;refine⟨G,rfl,f,aC.grown m (by simp) (λk F=>?_)⟩;simp[mA.ownBlock]at F;omega
def jk(a:nC)(g:Nat)(c:List pB)(w:jA)(q:jC w a c)(A:cB c<=2000000):
 Calls prog 162 #[uA a (cB c) g] w λe n=>∃v,e=zA v/\n.ownsRow w.1.size 109 2 v (cB c) (flatK c)/\zB w n:=by
 have p:=λn=>Lib.run_eql_slice_nil (P:=prog) n 103 109 a (cB c) g 0 0 underlying103;cases a with
 |none=>
  have E:c=[]:=by
   obtain h|⟨b,o,e,_⟩:=q;exact h;exact absurd e (by simp)
  subst E;have y:=λn=>Lib.run_eql_slice_nil (P:=prog) n 103 109 eA 0 g 0 0 underlying103;clear p;go_enter func162,ntmps162;go_wp2;go_ret;exact⟨_,rfl,⟨rfl,Ca ⟨rfl,rfl⟩⟩,jD⟩
 |some x=>
  obtain⟨i,z,r,s,t⟩:=info_parts da;have l:(w.alloc (aB #[] 109)).ownsRow w.1.size 109 2 (uA (cC w.1.size) 0 0) 0 []:=jA.ownsRow_made w #[] 0 (Ia _) (by simp[maxLen]) (by simp);have D:=gB l;have d:∀j u,(flatK c)[j]?=fA u->(w.alloc (aB #[] 109)).cell? (x.add j)=fA u:=by
   rcases q.z (uF w (aB #[] 109)) with rfl|⟨b,o,e,_,h⟩;intro j u h;simp[flatK]at h;simp only[Qa]at e;subst e;exact qN h
  have C:fB _:=d;have B:fB _:=z;clear q l d z;go_enter func162,ntmps162;go_wp2_with(at_builtin;refine wpList_append_own_at _ rfl _ _ _ rfl w.1.size 109 i _ 2 24 underlying103 B.o r s t rfl (by omega) (uA (cC w.1.size) 0 0) 0 [] rfl D.o x (cB c) g (flatK c) rfl (dM c) C.o (lP c) (by simp[maxLen];omega) (by omega) (by simp) ?_;intro G H f m _ _);go_ret;simp only[Ya,Mb]at f;refine⟨G,rfl,f,aC.grown m (by simp) (λk F=>?_)⟩;simp[mA.ownBlock]at F;omega
def IF{W:jA}{B:Nat}{e:TypeId}{b:Nat}{v:mA}{n:Nat}{i:List mA}(h:W.ownsRow B e b v n i):∃a c,v=uA a n c:=by
 obtain⟨rfl,rfl⟩|⟨g,d,f,rfl,_⟩:=h.2;exact ⟨eA,0,rfl⟩;exact ⟨_,_,rfl⟩
def aIg{C:jA->Prop}{w:jA}{cs a:Array mA}{t b:TypeId}(k:∀W,zB w W->rB W w.1.size cs t->rB W (w.1.size+1) a b->W.1.size=w.1.size+1+1->C W):C ((w.alloc (aB cs t)).alloc (aB a b)):=
 k _ (xB aC aC) ((rB.new w _ _).alloc _) (by have:=rB.new (w.alloc (aB cs t)) a b;simpa using this) (by simp)
def sd(W:jA)(a:nC)(m:Nat)(d:List nB)(x:wB W a d)(z:cB d<=2000000):
 ∃l c r,(Builtin.append_ #[33,33] 33 #[uA (cC W.1.size) 0 0,uA a (cB d) m]).run prog (W.alloc (aB #[] 115))=.ok (uA l (cB d) c) r/\
  tN r W.1.size l d/\zB W r/\∀g o,l=fA (iB g o)->g<r.1.size:=by
 obtain⟨i,y,s,t,v⟩:=mL;cases a with
 |none=>
  have B:d=[]:=by
   obtain h|⟨b,o,e,_⟩:=x;exact h;exact absurd e (by simp)
  subst B;refine⟨cC W.1.size,0,W.alloc (aB #[] 115),?_,Ca rfl,aC,λg o e=>by simp only[Qa,Addr.mk.injEq]at e;simp;omega⟩;simp[Builtin.append_,run_underlying underlying33,sizeOf,typeInfo,y,Builtin.lenOf,Builtin.firstCells,storeCells]
 |some w=>
  have p:=jA.ownsRow_made W (e:=115) (size:=3) #[] 0 (Ia _) (by simp[maxLen]) (by simp);have f:∀j u,(flat d)[j]?=fA u->(W.alloc (aB #[] 115)).cell? (w.add j)=fA u:=by
   rcases x.z (uF W (aB #[] 115)) with rfl|⟨b,o,e,_,h⟩;intro j u h;simp[flat]at h;simp only[Qa]at e;subst e;exact jO h
  obtain⟨I,A,F,q,C,_,_⟩:=run_append_own_at (P:=prog) (W.alloc (aB #[] 115)) W.1.size 33 33 115 i _ 3 40 underlying33 y s t v rfl (by omega) (uA (cC W.1.size) 0 0) 0 [] p w (cB d) m (flat d) (zE d) f (uG d) (by simp[maxLen];omega) (by omega) (by simp);simp only[Ya,Mb]at q;have n:zB W A:=aC.grown C (by simp) (λk D=>by
   simp[mA.ownBlock]at D;omega)
  obtain⟨l,c,rfl⟩:=IF q;exact⟨l,c,A,F,(by obtain⟨G,H,e,E⟩:=pH q;simp only[mA.slice.injEq]at e;obtain⟨rfl,_,_⟩:=e;exact E),n,λg o e=>(q.lt g (by rw[e];rfl)).2⟩
def se(W:jA)(a:nC)(m:Nat)(d:List pB)(x:jC W a d)(z:cB d<=2000000):
 ∃l c r,(Builtin.append_ #[102,102] 102 #[uA (cC W.1.size) 0 0,uA a (cB d) m]).run prog (W.alloc (aB #[] 107))=.ok (uA l (cB d) c) r/\
  kD r W.1.size l d/\zB W r/\∀g o,l=fA (iB g o)->g<r.1.size:=by
 obtain⟨i,y,s,t,v⟩:=info_parts cw;cases a with
 |none=>
  have B:d=[]:=by
   obtain h|⟨b,o,e,_⟩:=x;exact h;exact absurd e (by simp)
  subst B;refine⟨cC W.1.size,0,W.alloc (aB #[] 107),?_,Ca rfl,aC,λg o e=>by simp only[Qa,Addr.mk.injEq]at e;simp;omega⟩;simp[Builtin.append_,run_underlying underlying102,sizeOf,typeInfo,y,Builtin.lenOf,Builtin.firstCells,storeCells]
 |some w=>
  have p:=jA.ownsRow_made W (e:=107) (size:=2) #[] 0 (Ia _) (by simp[maxLen]) (by simp);have f:∀j u,(flatK d)[j]?=fA u->(W.alloc (aB #[] 107)).cell? (w.add j)=fA u:=by
   rcases x.z (uF W (aB #[] 107)) with rfl|⟨b,o,e,_,h⟩;intro j u h;simp[flatK]at h;simp only[Qa]at e;subst e;exact qN h
  obtain⟨F,A,E,q,C,_,_⟩:=run_append_own_at (P:=prog) (W.alloc (aB #[] 107)) W.1.size 102 102 107 i _ 2 24 underlying102 y s t v rfl (by omega) (uA (cC W.1.size) 0 0) 0 [] p w (cB d) m (flatK d) (dM d) f (lP d) (by simp[maxLen];omega) (by omega) (by simp);simp only[Ya,Mb]at q;have n:zB W A:=aC.grown C (by simp) (λk D=>by
   simp[mA.ownBlock]at D;omega)
  obtain⟨l,c,rfl⟩:=IF q;exact⟨l,c,A,E,rD q,n,λg o e=>(q.lt g (by rw[e];rfl)).2⟩
def sf(W:jA)(a:nC)(m:Nat)(d:List pB)(x:jC W a d)(z:cB d<=2000000):
 ∃l c r,(Builtin.append_ #[103,103] 103 #[uA (cC W.1.size) 0 0,uA a (cB d) m]).run prog (W.alloc (aB #[] 109))=.ok (uA l (cB d) c) r/\
  kD r W.1.size l d/\zB W r/\∀g o,l=fA (iB g o)->g<r.1.size:=by
 obtain⟨i,y,s,t,v⟩:=info_parts da;cases a with
 |none=>
  have B:d=[]:=by
   obtain h|⟨b,o,e,_⟩:=x;exact h;exact absurd e (by simp)
  subst B;refine⟨cC W.1.size,0,W.alloc (aB #[] 109),?_,Ca rfl,aC,λg o e=>by simp only[Qa,Addr.mk.injEq]at e;simp;omega⟩;simp[Builtin.append_,run_underlying underlying103,sizeOf,typeInfo,y,Builtin.lenOf,Builtin.firstCells,storeCells]
 |some w=>
  have p:=jA.ownsRow_made W (e:=109) (size:=2) #[] 0 (Ia _) (by simp[maxLen]) (by simp);have f:∀j u,(flatK d)[j]?=fA u->(W.alloc (aB #[] 109)).cell? (w.add j)=fA u:=by
   rcases x.z (uF W (aB #[] 109)) with rfl|⟨b,o,e,_,h⟩;intro j u h;simp[flatK]at h;simp only[Qa]at e;subst e;exact qN h
  obtain⟨F,A,E,q,C,_,_⟩:=run_append_own_at (P:=prog) (W.alloc (aB #[] 109)) W.1.size 103 103 109 i _ 2 24 underlying103 y s t v rfl (by omega) (uA (cC W.1.size) 0 0) 0 [] p w (cB d) m (flatK d) (dM d) f (lP d) (by simp[maxLen];omega) (by omega) (by simp);simp only[Ya,Mb]at q;have n:zB W A:=aC.grown C (by simp) (λk D=>by
   simp[mA.ownBlock]at D;omega)
  obtain⟨l,c,rfl⟩:=IF q;exact⟨l,c,A,E,rD q,n,λg o e=>(q.lt g (by rw[e];rfl)).2⟩
def ON(a:nC)(y:Nat)(K:eE)(w:jA)(G:wB w a K.fs)(c:cB K.fs<=1048576):
 Calls prog 55 #[.agg #[uA a (cB K.fs) y,dB K.c,dB K.k,dB K.cr,dB K.fl,vA K.dn]] w λe z=>∃s o,e=zA (.agg #[uA s (cB K.fs) o,dB K.c,dB K.k,dB K.cr,dB K.fl,vA K.dn])/\fJ z (λx=>w.1.size<=x/\x<z.1.size) s K.fs/\zB w z:=by
 go_enter func55,ntmps55;go_upto_region 1 with fail;refine aIg (C:=λW=>Code.wp prog _ _ _ W) ?_;intro A p t D q;obtain⟨E,F,w2,n,H,j,_⟩:=sd A a y K.fs (G.z p) (by omega);have r:=gB n;have l:=t.z j;have m:=D.z j;have Q:=gB (H.toA (Ia _));have B:=gB (xB p j);have c:gD A w.1.size 0 (uA a (cB K.fs) y):=t.cell 0;have R:w.1.size<A.1.size:=by omega
 have V:=l.cell 0;have X:=l.cell 1;have Y:=l.cell 2;have Z:=l.cell 3;have c:=l.cell 4;have h:=l.cell 5;have I:=m.cell 0;have J:=m.cell 1;have L:=m.cell 2;have M:=m.cell 3;have N:=m.cell 4;have O:=m.cell 5;simp only[Xb,Ob,Ga]at V X Y Z c h I J L M N O;obtain⟨b,d,f,g,h,i,_⟩:=l.frees;obtain⟨c,c,c,c,c,c,_⟩:=m.frees;have P:=gB q;clear p t D n H j l m G q;go_wp2_with(at_builtin;refine Lib.wpList_append_run _ rfl _ _ _ _ rfl _ _ rfl rfl _ _ r.o ?_);refine bodyPost_ret (v:=.agg #[uA E (cB K.fs) F,dB K.c,dB K.k,dB K.cr,dB K.fl,vA K.dn]) (by simp[results,results55,go_sem,I,J,L,M,N,O]) rfl ?_;refine jB.end2 (S:=λx=>x=w.1.size\/x=w.1.size+1) (C:=λW=>∃s o,Ending.returned (.agg #[uA E (cB K.fs) F,dB K.c,dB K.k,dB K.cr,dB K.fl,vA K.dn])=Ending.returned (.agg #[uA s (cB K.fs) o,dB K.c,dB K.k,dB K.cr,dB K.fl,vA K.dn])/\fJ W (λx=>w.1.size<=x/\x<W.1.size) s K.fs/\zB w W) w2 (by
  repeat (with_reducible first|exact jB.refl _ _|refine jB.setCell ?_ (Ca (by first|exact Ca rfl|exact La rfl)) _ _)) ?_
 intro c u;have U:=u.size;have q:=P.o;exact⟨_,_,rfl,(Q.o.turned u (λx T _ e=>by omega)).mono (λx T=>by omega),B.o.trans (u.below (by have:=B.o.size;omega) (λk c e=>by omega))⟩
def db:(prog.info? 105).map (λi=>(i.zero,i.size,i.bytes))=fA (fA (.agg #[tA ⟨#[]⟩,dB 0,uA eA 0 0,uA eA 0 0]),4,72):=by kernel_rfl
def XE(a:List TV):cB (mF a)=cB a*4:=by
 induction a with
 |nil=>rfl
 |cons x r b=>simp only[mF,Xc,Kb,Zb,List.length_nil]at b |-;omega
def kg(b:List TV):∀u∈mF b,u.oneCell'=iA:=by
 intro u a;simp only[mF,Ig]at a;obtain⟨x,_,a⟩:=a;simp only[Lb,List.mem_nil_iff,Bf]at a;rcases a with rfl|rfl|rfl|rfl<;>rfl
def VI{w:jA}{b:Nat}:∀(n:List kB)(o:Nat),(∀i(h:i<cB n),RU w b (o+i*4) n[i])->∃c:List TV,c.map (·.t)=n/\QN w c/\∀j u,(mF c)[j]?=fA u->w.cell? (iB b (o+j))=fA u
 |[],_,_=>⟨[],rfl,λy d=>(by cases d),λj u h=>(by simp[mF]at h)⟩
 |t::r,o,h=>by
  obtain⟨c,A,B,C⟩:=VI r (o+4) (λi D=>by
   have:=h (i+1) (by simpa using D);rw[show o+(i+1)*4=o+4+i*4 by omega]at this;simpa using this)
  obtain⟨f,k,g,l,p,q,s,v,x,z⟩:=h 0 (by simp);simp only[Nat.zero_mul,Bg,Eg]at p q s v x z;refine⟨⟨t,f,k,g,l⟩:: c,by rw[Fc,A],λy d=>?_,λj u a=>?_⟩
  .rcases Lb.1 d with rfl|d
   .exact ⟨x,z⟩
   exact B y d
  have e:mF (⟨t,f,k,g,l⟩:: c)=[tA t.N,dB t.L,uA f (cB t.M) k,uA g (cB t.Z) l]++mF c:=by simp[mF]
  rw[e]at a;match j,a with
  |0,a=>simp at a;rw[<-a];exact p
  |1,a=>simp at a;rw[<-a];exact q
  |2,a=>simp at a;rw[<-a];exact s
  |3,a=>simp at a;rw[<-a];exact v
  |j+4,a=>
   have m:(mF c)[j]?=fA u:=by simpa using a
   have:=C j u m;rw[show o+(j+4)=o+4+j by omega];exact this
def jj(a:nC)(l:Nat)(f:List kB)(z w:jA)(E:uC z a f)(s:zB z w)(N:cB f<=2000000):
 Calls prog 160 #[uA a (cB f) l] w λe r=>∃v c,e=zA v/\r.ownsRow w.1.size 105 4 v (cB f) (mF c)/\c.map (·.t)=f/\QN z c/\zB w r:=by
 have D:=λr=>Lib.run_eql_slice_nil (P:=prog) r 38 105 a (cB f) l 0 0 underlying38;cases a with
 |none=>
  have S:f=[]:=by
   obtain h|⟨b,o,e,_⟩:=E;exact h;exact absurd e (by simp)
  subst S;have L:=λr=>Lib.run_eql_slice_nil (P:=prog) r 38 105 eA 0 l 0 0 underlying38;clear D;go_enter func160,ntmps160;go_wp2;go_ret;exact⟨_,[],rfl,⟨rfl,Ca ⟨rfl,rfl⟩⟩,rfl,λy F=>(by cases F),jD⟩
 |some J=>
  obtain⟨i,M,G,H,I⟩:=info_parts db;obtain⟨c,q,m,d⟩:∃c:List TV,c.map (·.t)=f/\QN z c/\∀j u,(mF c)[j]?=fA u->(w.alloc (aB #[] 105)).cell? (J.add j)=fA u:=by
   obtain rfl|⟨b,o,e,K,h⟩:=E;exact ⟨[],rfl,λy F=>(by cases F),λj u h=>by simp[mF]at h⟩;simp only[Qa]at e;subst e;obtain⟨c,V,W,X⟩:=VI f o h;refine⟨c,V,W,λj u U=>?_⟩;rw[MK];exact((uF w _).cell (Bb K s.size)).trans ((s.cell K).trans (X j u U))
  have x:cB c=cB f:=by rw[<-q,Xa]
  have n:(w.alloc (aB #[] 105)).ownsRow w.1.size 105 4 (uA (cC w.1.size) 0 0) 0 []:=jA.ownsRow_made w #[] 0 (Ia _) (by simp[maxLen]) (by simp);have R:=gB n;have Q:=gB d;have O:fB (prog.info? 105=fA i):=M;have A:fB (cB (mF c)=cB f*4):=by show _=_;rw[XE,x]
  have C:=gB q;have B:=gB m;clear E n d M q m x;go_enter func160,ntmps160;go_wp2_with(at_builtin;refine wpList_append_own_at _ rfl _ _ _ rfl w.1.size 105 i _ 4 72 underlying38 O.o G H I rfl (by omega) (uA (cC w.1.size) 0 0) 0 [] rfl R.o J (cB f) l (mF c) rfl A.o Q.o (kg c) (by simp[maxLen];omega) (by omega) (by simp) ?_;intro Y Z g p _ _);go_ret;simp only[Ya,Mb]at g;refine⟨Y,c,rfl,g,C.o,B.o,aC.grown p (by simp) (λk T=>?_)⟩;simp[mA.ownBlock]at T;omega
def jF{P:Program}{w:jA}{b:Array Oper}{o:Oper}{a:Act}{K:Act->jA->Prop}{Q:Exit->Act->jA->Prop}{E:Prop}{f:FuncId}{args:Array mA}(c:o.guard=eA)(i:(execOp a.eval o).run P w=.ok (.enter f args) w)
(h:Calls P f args w (λe d=>∃v,e=zA v/\K (a.put o.dst v) d)):if Region.wanted o (yielded b a.tmps)=iA then Oper.wp P o a w K Q else E:=by
 have j:Region.wanted o (yielded b a.tmps)=iA:=by simp[Region.wanted,c]
 rw[Ma j];unfold Oper.wp;rw[i];refine h.mono ?_;rintro e d ⟨v,rfl,g⟩;exact g
structure qy(w wr:World)(B g n cap:Nat)(T:Nat→Nat)(ys:List TV)(k:Nat)(m:Bool):Prop where
 row:wr.ownsRow B 105 4 (uA (cC g) n cap) n (mF ys)
 len:cB ys=n
 tg:T g=0
 own:∀i(h:i<cB ys),i<k→cF wr B T (2*i+1) ys[i].a1 ys[i].t.M∧cF wr B T (2*i+2) ys[i].a2 ys[i].t.Z
 half:m=iA→∀h:k<cB ys,cF wr B T (2*k+1) ys[k].a1 ys[k].t.M
 old:∀i(h:i<cB ys),k≤i→jC w ys[i].a2 ys[i].t.Z∧(m=gA∨k<i→jC w ys[i].a1 ys[i].t.M)
def kh(l:List TV)(i:Nat)(d:i<cB l)(a:nC)(c:Nat):mF (l.set i ⟨l[i].t,a,c,l[i].a2,l[i].c2⟩)=(mF l).set (i*4+2) (.slice a (cB l[i].t.M) c):=by
 induction l generalizing i with
 |nil=>simp at d
 |cons p r e=>
  cases i with
  |zero=>rfl
  |succ i=>
   have b:i<cB r:=by simpa using d
   have:=e i b;simp only[mF,Jd,Xc,Ec]at this |-
   rw[this,show(i+1)*4+2=(i*4+2)+4 by omega];rfl
def kj(l:List TV)(i:Nat)(d:i<cB l)(a:nC)(c:Nat):mF (l.set i ⟨l[i].t,l[i].a1,l[i].c1,a,c⟩)=(mF l).set (i*4+3) (.slice a (cB l[i].t.Z) c):=by
 induction l generalizing i with
 |nil=>simp at d
 |cons p r e=>
  cases i with
  |zero=>rfl
  |succ i=>
   have b:i<cB r:=by simpa using d
   have:=e i b;simp only[mF,Jd,Xc,Ec]at this |-
   rw[this,show(i+1)*4+3=(i*4+3)+4 by omega];rfl
def ga{w:jA}{M g n a:Nat}{f:List mA}{j:Nat}{v:mA}(h:w.ownsRow M 105 4 (uA (cC g) n a) n f):(w.setCell (iB g j) v).ownsRow M 105 4 (uA (cC g) n a) n (f.set j v):=by
 refine⟨by rw[Pd];exact h.1,?_⟩;obtain⟨e,_⟩|⟨q,d,b,e,o,p,i,k,l,m⟩:=h.2
 .cases e
 simp only[mA.slice.injEq,Qa,Addr.mk.injEq,Cc]at e;obtain⟨rfl,_,rfl⟩:=e;have c:rB w g b 105:=p;refine La ⟨g,a,b.setIfInBounds j v,rfl,o,c.set j v,i,k,by simp[l],?_⟩;rw[Jf,List.take_set,m]
def UM{w:jA}{B b n:Nat}{T:Nat->Nat}{a:nC}{c:List pB}(h:kD w B a c)(e:b<=B)(d:∀g,B<=g->g<w.1.size->T g=n):cF w b T n a c:=by grind [kD,cF]
def qy.limits{w wr j:jA}{B g n u k:Nat}{T:Nat->Nat}{d:List TV}{a:nC}{c:Nat}(h:qy w wr B g n u T d k gA)(H:k<cB d)(z:zB wr j)(G:B<=wr.1.size)(I:j.ownsRow wr.1.size 107 2 (.slice a (cB d[k].t.M) c) (cB d[k].t.M) (flatK d[k].t.M)):
 qy w (j.setCell (iB g (k*4+2)) (.slice a (cB d[k].t.M) c)) B g n u (λg=>if g<wr.1.size then T g else 2*k+1) (d.set k ⟨d[k].t,a,c,d[k].a2,d[k].c2⟩) k iA:=by
 have x:=(h.row.lt g rfl).2;have D:jB (·=g) j (j.setCell (iB g (k*4+2)) (.slice a (cB d[k].t.M) c)):=(jB.refl (·=g) j).setCell (Ca rfl) _ _;have r:∀q,q<wr.1.size->q≠g->(j.setCell (iB g (k*4+2)) (.slice a (cB d[k].t.M) c)).heap[q]?=wr.heap[q]?:=λq s A=>by
  rw[D.block q (by have:=z.size;omega) A,z.block q s]
 have f:∀{q:nC}{F:List pB}{m:Nat},0<m->cF wr B T m q F->cF (j.setCell (iB g (k*4+2)) (.slice a (cB d[k].t.M) c)) B (λg=>if g<wr.1.size then T g else 2*k+1) m q F:=λM C=>C.keep λq s _ v=>⟨r q s (λe=>by rw[e,h.tg]at v;omega),by simp only[Ma s];exact v⟩
 exact {
  row:=by rw[kh d k H];exact ga (lC h.row z)
  len:=by rw[Pd];exact h.len
  tg:=by simp only[Ma x];exact h.tg
  own:=λi y p=>by
   have o:i<cB d:=by simpa using y
   rw[Of (by omega)];obtain⟨K,L⟩:=h.own i o p;exact⟨f (by omega) K,f (by omega) L⟩
  half:=λ_ y=>by
   rw[Oe];have:=rD (l:=d[k].t.M) I;have C:=UM (b:=B) (n:=2*k+1) (T:=λg=>if g<wr.1.size then T g else 2*k+1) this G (λq s _=>by simp only[Ja (show ¬q<wr.1.size by omega)]);refine C.keep λq s _ v=>⟨D.block q s (λe=>?_),v⟩
   subst e;simp only[Ma x,h.tg]at v;omega
  old:=λi y p=>by
   have o:i<cB d:=by simpa using y
   obtain⟨E,J⟩:=h.old i o p;by_cases e:i=k
   .subst e;rw[Oe];exact⟨E,λh=>by obtain h|h:=h;cases h;omega⟩
   rw[Of (by omega)];exact⟨E,λ_=>J (Ca rfl)⟩ }
def qy.series{w wr j:jA}{B g n s k:Nat}{T:Nat->Nat}{d:List TV}{a:nC}{c:Nat}(h:qy w wr B g n s T d k iA)(D:k<cB d)(x:zB wr j)(G:B<=wr.1.size)(H:j.ownsRow wr.1.size 109 2 (.slice a (cB d[k].t.Z) c) (cB d[k].t.Z) (flatK d[k].t.Z)):
 qy w (j.setCell (iB g (k*4+3)) (.slice a (cB d[k].t.Z) c)) B g n s (λg=>if g<wr.1.size then T g else 2*k+2) (d.set k ⟨d[k].t,d[k].a1,d[k].c1,a,c⟩) (k+1) gA:=by
 have v:=(h.row.lt g rfl).2;have E:jB (·=g) j (j.setCell (iB g (k*4+3)) (.slice a (cB d[k].t.Z) c)):=(jB.refl (·=g) j).setCell (Ca rfl) _ _;have p:∀q,q<wr.1.size->q≠g->(j.setCell (iB g (k*4+3)) (.slice a (cB d[k].t.Z) c)).heap[q]?=wr.heap[q]?:=λq r A=>by
  rw[E.block q (by have:=x.size;omega) A,x.block q r]
 have f:∀{q:nC}{F:List pB}{m:Nat},0<m->cF wr B T m q F->cF (j.setCell (iB g (k*4+3)) (.slice a (cB d[k].t.Z) c)) B (λg=>if g<wr.1.size then T g else 2*k+2) m q F:=λM C=>C.keep λq r _ u=>⟨p q r (λe=>by rw[e,h.tg]at u;omega),by simp only[Ma r];exact u⟩
 exact {
  row:=by rw[kj d k D];exact ga (lC h.row x)
  len:=by rw[Pd];exact h.len
  tg:=by simp only[Ma v];exact h.tg
  own:=λi y z=>by
   have o:i<cB d:=by simpa using y
   by_cases e:i=k
   .subst e;rw[Oe];refine⟨f (by omega) (h.half rfl D),?_⟩;have:=rD (l:=d[i].t.Z) H;have C:=UM (b:=B) (n:=2*i+2) (T:=λg=>if g<wr.1.size then T g else 2*i+2) this G (λq r _=>by simp only[Ja (show ¬q<wr.1.size by omega)]);refine C.keep λq r _ u=>⟨E.block q r (λe=>?_),u⟩
    subst e;simp only[Ma v,h.tg]at u;omega
   rw[Of (by omega)];obtain⟨K,L⟩:=h.own i o (by omega);exact⟨f (by omega) K,f (by omega) L⟩
  half:=λh=>by cases h
  old:=λi y z=>by
   have o:i<cB d:=by simpa using y
   obtain⟨I,J⟩:=h.old i o (by omega);rw[Of (by omega)];exact⟨I,λ_=>J (La (by omega))⟩ }
def qy.keep{w wr w':jA}{S:Nat->Prop}{B g n c k:Nat}{T:Nat->Nat}{r:List TV}{m:Bool}(h:qy w wr B g n c T r k m)(p:jB S wr w')(o:∀q,S q->q<B):qy w w' B g n c T r k m:=by
 have l:∀q,q<wr.1.size->B<=q->w'.heap[q]?=wr.heap[q]?:=λq a b=>p.block q a (λe=>by have:=o q e;omega);exact { h with
  row:=p.row h.row (λq a e=>by have:=(h.row.lt q a).1;have:=o q e;omega)
  own:=λi j f=>⟨(h.own i j f).1.keep λq a b d=>⟨l q a b,d⟩,(h.own i j f).2.keep λq a b d=>⟨l q a b,d⟩⟩
  half:=λs j=>(h.half s j).keep λq a b d=>⟨l q a b,d⟩ }
def qy.done{w wr:jA}{B g n a:Nat}{T:Nat->Nat}{d:List TV}{j:List kB}(h:qy w wr B g n a T d n gA)(b:d.map (·.t)=j):cD wr B (cC g) j:=
 jQ.own (e:=105) (n:=n) (cap:=a) ⟨T,d,h.row,b,λq f=>by simp only[mA.ownBlock,Qa]at f;rw[<-f];exact h.tg,λi c=>h.own i c (by rw[h.len]at c;exact c)⟩ (by rw[<-b,Xa];exact h.len)
section
open Go.Extern.Stop Go.Stop Go.Extern
def tm2(x:Int):(x.tmod 2 != 0)=decide (x % 2=1):=by
 have h:x.tmod 2=0 ↔ (2:Int) ∣ x:=(Int.dvd_iff_tmod_eq_zero ..).symm;by_cases e:x.tmod 2=0
 .have:=h.1 e;simp only[e,bne_self_eq_false];symm;simp;omega
 have:=λq=>e (h.2 q);rw[bne_iff_ne.2 e];symm;simp;omega
def zz{b:Int}(h:wrap64 b=b):∀k,WP k b=wrap64 (b*2 ^ k)
 |0=>by simp[WP,h]
 |k+1=>by
  rw[WP,zz h k,Int.pow_succ,<-Int.mul_assoc];generalize b*2 ^ k=y;unfold wrap64;omega
def aJl{b:Int}(h:wrap64 b=b):cZ b=decide (9218868437227405312<b % 9223372036854775808):=by
 unfold cZ;rw[zz h 12];simp only[YC,shK,tm2];unfold wrap64 at *;rw[Qb];simp only[Sa,Ab,bne_iff_ne,Oc,Int.reducePow];constructor;rintro ⟨a,c⟩;omega;intro a;refine⟨?_,?_⟩<;>omega
def aCe(n:Nat):(Ieee.double.order n n==fA .eq)=decide (¬9218868437227405312<n % 9223372036854775808):=by
 unfold Ieee.Format.order Ieee.Format.read;rw[show Ieee.double.signWeight=9223372036854775808 from by decide,show Ieee.double.infRung=9218868437227405312 from by decide,show Ieee.double.binade=4503599627370496 from by decide];dsimp only;(repeat' split)<;>(simp[Ieee.Datum.order];omega)
def aEm(n:Int)(w:jA):(callFunc 281 #[.int .u64 n]).run prog w=.ok (.value (.float .f64 n.toNat)) w:=by
 rw[@run_callFunc_extern prog 281 _ Extern.MathFloatBits.float64frombits func281 (by kernel_rfl) (by kernel_rfl) (by kernel_rfl) (by kernel_rfl)];rfl
def XS(b:Int)(w:jA)(c : -9223372036854775808<=b)(d:b<=9223372036854775807):bM 239 #[dB b] w (vA (!cZ b)):=by
 have g:=aEm;have a:fB ((FloatKind.f64.format.order (IntKind.u64.wrap b).toNat (IntKind.u64.wrap b).toNat==fA .eq)=!cZ b):=by
  show(Ieee.double.order (b % 18446744073709551616).toNat (b % 18446744073709551616).toNat==fA .eq)=!cZ b;rw[aCe,aJl (by unfold wrap64;omega)];rw[Qb];simp;omega
 clear c d;go_enter func239,ntmps239;go_wp2;go_ret;exact⟨by simp[a.o],rfl⟩
end
section
open Go.Maps
structure WQ(w W:World)(B K:Nat→Prop)(v3 v4:Value)(ps:List vB)(rs:List tE)(l m:Nat)(c:kC)(now:Int)(ts:List kB)(M:Nat):Prop where
 led:jE W K l m c now ts M
 new:∀g,W.1.size≤g→K g
 sub:∀g,K g→B g
 row3:W.ownsRow w.1.size 9 1 v3 (cB ps) (ps.map mA.string)
 row4:W.ownsRow w.1.size 56 4 v4 (cB rs) (EE rs)
 off3:∀g,v3.ownBlock=fA g→¬K g∧v4.ownBlock≠fA g
 off4:∀g,v4.ownBlock=fA g→¬K g
 turn:jB B w W
section
variable {w W W':jA} {B K:Nat→Prop} {v3 v4:mA} {ps:List vB} {rs:List tE} {l m:Nat} {c:kC} {now:Int} {ts ts':List kB} {M M' g n cap:Nat}
theorem WQ.z(h:WQ w W B K v3 v4 ps rs l m c now ts M)(a:zB W W'):WQ w W' B K v3 v4 ps rs l m c now ts M:=
 ⟨h.led.z a,λg b=>h.new g (Ua a.size b),h.sub,lC h.row3 a,lC h.row4 a,h.off3,h.off4,h.turn.trans' (jB.of a)⟩
theorem WQ.judged(h:WQ w W B K v3 v4 ps rs l m c now ts M)(b:jE W' K l m c now ts' M')(a:jB K W W'):WQ w W' B K v3 v4 ps rs l m c now ts' M':=
 ⟨b,λg d=>h.new g (Ua a.size d),h.sub,a.row h.row3 λg e=>(h.off3 g e).1,a.row h.row4 h.off4,h.off3,h.off4,h.turn.trans' (a.mono λi _ e=>h.sub i e)⟩
theorem WQ.led'(h:WQ w W B K v3 v4 ps rs l m c now ts M){v:mA}(f:∀g,v.ownBlock=fA g->¬K g)(d:jB (λi=>w.1.size<=i/\v.ownBlock=fA i) W W'):jE W' (λg=>K g/\g<W.1.size\/W'.1.size<=g) l m c now ts M:=
 h.led.re λg b a=>⟨d.block g b λe=>f g e.2 a,Ca ⟨a,b⟩⟩
theorem WQ.app3(h:WQ w W B K v3 v4 ps rs l m c now ts M){x:vB}(p:W'.ownsRow w.1.size 9 1 (uA (cC g) (cB ps+1) cap) (cB ps+1) (ps.map mA.string++[tA x]))(j:jB (λi=>w.1.size<=i/\v3.ownBlock=fA i) W W')(a:v3.ownBlock=fA g\/W.1.size<=g)(o:∀g,w.1.size<=g->B g):WQ w W' B (λg=>K g/\g<W.1.size\/W'.1.size<=g) (.slice (cC g) (cB (ps++[x])) cap) v4 (ps++[x]) rs l m c now ts M:=by
 have r:=j.size;have n:=h.turn.size;have f:=aH p g rfl;have k:=λq e=>aH h.row4 q e;refine⟨h.led' (λg e=>(h.off3 g e).1) j,λg f=>La f,λg f=>f.elim (λe=>h.sub g e.1) λe=>o g (by omega),by rw[show(ps++[x]).length=cB ps+1 by simp,Ld];exact p,j.row h.row4 λq e d=>(h.off3 q d.2).2 e,λq e=>?_,λq e b=>?_,h.turn.trans' (j.mono λi _ e=>o i e.1)⟩
 .obtain rfl:g=q:=by simpa[mA.ownBlock]using e
  obtain a|a:=a;exact ⟨λb=>b.elim (λe=>(h.off3 _ a).1 e.1) λe=>by omega,(h.off3 _ a).2⟩;exact ⟨λb=>b.elim (λe=>by omega) λe=>by omega,λe=>by have:=k _ e;omega⟩
 exact b.elim (λd=>h.off4 q e d.1) λd=>by have:=k _ e;omega
theorem WQ.app4(h:WQ w W B K v3 v4 ps rs l m c now ts M){x:tE}(p:W'.ownsRow w.1.size 56 4 (uA (cC g) (cB rs+1) cap) (cB rs+1) (EE rs++[dB x.K,tA x.T,tA x.X,dB x.U]))(j:jB (λi=>w.1.size<=i/\v4.ownBlock=fA i) W W')(a:v4.ownBlock=fA g\/W.1.size<=g)(o:∀g,w.1.size<=g->B g):WQ w W' B (λg=>K g/\g<W.1.size\/W'.1.size<=g) v3 (.slice (cC g) (cB (rs++[x])) cap) ps (rs++[x]) l m c now ts M:=by
 have s:=j.size;have n:=h.turn.size;have d:=aH p g rfl;have k:=λq e=>aH h.row3 q e;have r:EE (rs++[x])=EE rs++[dB x.K,tA x.T,tA x.X,dB x.U]:=by simp[EE]
 refine⟨h.led' h.off4 j,λg d=>La d,λg d=>d.elim (λe=>h.sub g e.1) λe=>o g (by omega),j.row h.row3 λq e b=>(h.off3 q e).2 b.2,by rw[show(rs++[x]).length=cB rs+1 by simp,r];exact p,λq e=>⟨λf=>f.elim (λb=>(h.off3 q e).1 b.1) λb=>by have:=k _ e;omega,λb=>?_⟩,λq e f=>?_,h.turn.trans' (j.mono λi _ e=>o i e.1)⟩
 .obtain rfl:g=q:=by simpa[mA.ownBlock]using b
  obtain a|a:=a;exact (h.off3 _ e).2 a;have:=k _ e;omega
 obtain rfl:g=q:=by simpa[mA.ownBlock]using e
 obtain a|a:=a
 .exact f.elim (λe=>h.off4 _ a e.1) λe=>by omega
 exact f.elim (λe=>by omega) λe=>by omega
end
end
