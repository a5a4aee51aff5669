import Derived.Test.YtbfnhppoecdnoaaGreatDoorJ31
set_option maxRecDepth 100000
set_option maxHeartbeats 16000000
set_option linter.defProp false
open Option renaming some->bA,none->aA
open Bool renaming true->dA,false->cA
open ByteArray renaming empty->kA
open List renaming length->vA
namespace Go.Proofs.YtbfnhppoecdnoaaGreatDoor
open Go renaming World->eA
open Value renaming string->nA,int->lA,pointer->qA,slice->oA
open IntKind renaming i64->mA
open Obj renaming cells->tA
open Go.RowKit Tryz
section
open Go.Maps
def eS.seen{w y:eA}{S:Nat->Prop}{x:Nat}{t:aB}{M C E z:Nat}{B:Value}{Q:List (dB×Nat)}{A:List tI}{D:DataW Unit}{q:dB×Nat}{b:Int}(h:eS w S x t M C E z B Q A D)(j:q∈Q)(H:q.1.n<=b)(l:bB (·=q.2) w y)
(F:iB y q.2 #[nA q.1.s,lA mA b] 88):uD y S x (mK t q.1.s b) M:=by
 have u:wC (fun q:dB×Nat=>q.1.s) Q:=by
  rw[<-nY (key':=fun p:dB=>p.s) (fun q:dB×Nat=>q.1) (fun _=>rfl),h.q1];exact h.rs
 have d:∀{β:Type}(f:dB×Nat->β),f q=f ((⟨q.1.s,b⟩:dB),q.2)->(gC (fun q:dB×Nat=>q.1.s) ((⟨q.1.s,b⟩:dB),q.2) Q).map f=Q.map f:=fun f G=>
  IS (key:=fun q:dB×Nat=>q.1.s) (a:=((⟨q.1.s,b⟩:dB),q.2)) f u j rfl G
 have o:vA (gC (fun q:dB×Nat=>q.1.s) ((⟨q.1.s,b⟩:dB),q.2) Q)=vA Q:=by
  have:=Kd List.length (d (fun q=>q.2) rfl);simpa using this
 have i:∀p,p∈gC (fun q:dB×Nat=>q.1.s) ((⟨q.1.s,b⟩:dB),q.2) Q->p=((⟨q.1.s,b⟩:dB),q.2)\/(p∈Q/\p.2≠q.2):=fun p c=>by
  rcases fv u c with e|⟨c,k⟩;exact Ca e;refine La ⟨c,fun e=>?_⟩;have:=yS h.nd c j e;rw[this]at k;exact k rfl
 have r:(gC (fun q:dB×Nat=>q.1.s) ((⟨q.1.s,b⟩:dB),q.2) Q).map (·.1)=(mK t q.1.s b).Z:=by
  rw[uS (key':=fun p:dB=>p.s) (fun q:dB×Nat=>q.1) (fun _=>rfl),h.q1];rfl
 refine⟨C,E,z,B,gC (fun q:dB×Nat=>q.1.s) ((⟨q.1.s,b⟩:dB),q.2) Q,A,D,?_⟩;exact { h with
  blk:=l.blk h.blk (h.dx q j).symm
  lims:=l.map h.lims (aD h.lims (h.cells q j))
  Z:=by
   rw[o,d (fun q=>(q.1.s,eF q.2)) rfl];exact l.map h.Z (aD h.Z (h.cells q j))
  cnts:=l.map h.cnts (aD h.cnts (h.cells q j))
  cnt:=fun m=>by
   rw[h.cnt m];have:t.Z.map (·.s)=(mK t q.1.s b).Z.map (·.s):=by
    rw[<-r,<-h.q1,Vd,Vd];exact(d ((fun p:dB=>p.s) ∘ fun q:dB×Nat=>q.1) rfl).symm
   rw[vr this m]
  q1:=r
  cells:=fun p c=>by
   rcases i p c with rfl|⟨c,k⟩;exact F;exact l.blk (h.cells p c) k
  row:=l.row h.row (fun g n e=>(h.di g n).2 q j e.symm)
  perm:=by rw[d (fun q=>q.2) rfl];exact h.perm
  early:=fun s v p c e=>by
   rcases i p c with rfl|⟨c,_⟩;exact Int.le_trans (h.early s v q j e) H;exact h.early s v p c e
  rs:=gK h.rs
  sq:=fun p c=>by
   rcases i p c with rfl|⟨c,_⟩;exact h.sq q j;exact h.sq p c
  nd:=by rw[d (fun q=>q.2) rfl];exact h.nd
  dx:=fun p c=>by
   rcases i p c with rfl|⟨c,_⟩;exact h.dx q j;exact h.dx p c
  di:=fun g n=>⟨(h.di g n).1,fun p c=>by
   rcases i p c with rfl|⟨c,_⟩;exact (h.di g n).2 q j;exact (h.di g n).2 p c⟩ }
def aKk{w j:eA}{B:Nat->Prop}{T:Nat->Option Nat}{l m:Nat}{c:lC}{i:Int}{L:List (aB×Nat)}{M M':Nat}{p:aB×Nat}{t':aB}(h:iL w B T l m c i L M)(q:∀g,w.1.size<=g->B g)(o:p∈L)(k:t'.N=p.1.N)
(b:bB (fun g=>B g/\T g=bA p.2) w j)(s:uD j (fun g=>(B g/\T g=bA p.2)\/w.1.size<=g) p.2 t' M')(r:M<=M'):
 nE j B l m c i ((gC (fun p:aB×Nat=>p.1.N) (t',p.2) L).map (·.1)) M':=by
 refine aBp (n:=vA L) h q o k b s r (bB.refl _ j) ?_;have f:DataW.put (eE (L.map fun p=>(p.1.N,eF p.2))) (kL t'.N) (eF p.2)=eE ((gC (fun p:aB×Nat=>p.1.N) (t',p.2) L).map fun p=>(p.1.N,eF p.2)):=
  LG (key:=fun p:aB×Nat=>p.1.N) (fun p=>eF p.2) (t',p.2) h.rise
 have d:(gC (fun p:aB×Nat=>p.1.N) (t',p.2) L).map (fun p=>(p.1.N,eF p.2))=L.map fun p=>(p.1.N,eF p.2):=
  IS (key:=fun p:aB×Nat=>p.1.N) (a:=(t',p.2)) (fun p:aB×Nat=>(p.1.N,eF p.2)) h.rise o k.symm (by simp[k])
 rw[f,d];exact b.map h.ten (fun e=>by rw[h.tm]at e;cases e.2)
def nE.mono{w:eA}{B:Nat->Prop}{l m:Nat}{c:lC}{a:Int}{d:List aB}{M b:Nat}(h:nE w B l m c a d M)(f:M<=b):nE w B l m c a d b:=by
 obtain⟨T,L,h,e⟩:=h;exact⟨T,L,{ h with idx:=fun p g=>(h.idx p g).mono f},e⟩
def aMy(w:eA):(zeroValue 260).run prog w=.ok (qA aA) w:=by kernel_rfl
def aFv{w:eA}{d:Nat}{Q:List (dB×Nat)}(h:w.ownsMap prog 9 oE d (vA Q) (eE (Q.map fun q=>(q.1.s,eF q.2)))){key:gB}(e:key.size<=maxLen):
 (∃q,zC (fun q:dB×Nat=>q.1.s) key Q=bA q/\(Instr.lookup 227 (.map (bA d)) (nA key) dA).run prog w=.ok (.tuple #[qA (bA ⟨q.2,0,aA⟩),.bool dA]) w)\/
 (zC (fun q:dB×Nat=>q.1.s) key Q=aA/\(Instr.lookup 227 (.map (bA d)) (nA key) dA).run prog w=.ok (.tuple #[qA aA,.bool cA]) w):=by
 obtain⟨v,f,a,c⟩:=h.look_ok dM underlying227 (aMy w) (zd:=.nil) (zp:=[]) rfl (qN e);rw[ed (key:=fun q:dB×Nat=>q.1.s) (val:=fun q=>eF q.2)]at a;rw[iT (key:=fun q:dB×Nat=>q.1.s) (fun q=>eF q.2)]at c;cases hg:zC (fun q:dB×Nat=>q.1.s) key Q with
 |some q=>
  rw[hg]at a c;have b:=mR c;subst b;exact Ca ⟨q,rfl,a⟩
 |none=>
  rw[hg]at a c;have b:=NI c;subst b;exact La ⟨rfl,a⟩
end
section
open Go.Maps
structure Fnd(w W:World)(B:Nat→Prop)(T:Nat→Option Nat)(l m:Nat)(c:lC)(now:Int)(L:List (aB×Nat))(M:Nat)(tenant:gB)(x N:Nat)(th:Bool)(t:aB)(S:Nat→Prop):Prop where
 ix:uD W S x t N
 tn:bC (L.map (·.1)) tenant=t
 nm:t.N=tenant
 no:(zC (·.N) tenant (L.map (·.1))).isNone=!th
 led:iL W B T l m c now L M
 bw:kB w W
 sB:∀g,S g→B g
 sl:¬S l
 sm:¬S m
 mem:t∈L.map (·.1)∧th=dA∨t.Z=[]∧t.M=[]
 nM:N≤M
 put:∀k{w2 w4 w6:eA}{t':aB}{n:Nat},kB W w2→bB S w2 w4→uD w4 (fun g=>S g∨w2.1.size≤g) x t' (N+k)→t'.N=tenant→bB (·=m) w4 w6→w6.ownsMap prog 9 oE m n (DataW.put (eE (L.map fun p=>(p.1.N,eF p.2))) (kL tenant) (eF x))→nE w6 B l m c now (gC (·.N) t' (L.map (·.1))) (M+k)
 turn:th=dA→∀{w4:eA}{t':aB},bB S W w4→uD w4 S x t' N→t'.N=tenant→nE w4 B l m c now (gC (·.N) t' (L.map (·.1))) M
 kp:th=cA→∀{w4:eA},bB S W w4→iL w4 B T l m c now L M
 del:∀{w4 w6:eA}{n:Nat},bB S W w4→bB (·=m) w4 w6→w6.ownsMap prog 9 oE m n (DataW.del (eE (L.map fun p=>(p.1.N,eF p.2))) (kL tenant))→nE w6 B l m c now (xE (·.N) tenant (L.map (·.1))) M
def aJl{w W:eA}{B:Nat->Prop}{l m:Nat}{T:Nat->Option Nat}{c:lC}{C:Int}{L:List (aB×Nat)}{M:Nat}{d:gB}{e:Ending}(h:iL w B T l m c C L M)(G:∀g,w.1.size<=g->B g)(Q:aAr L d w e W):∃x N O t S,e=.returned (.tuple #[qA (bA ⟨x,0,aA⟩),.bool O])/\Fnd w W B T l m c C L M d x N O t S:=by
 have o:zC (·.N) d (L.map (·.1))=(zC (fun p:aB×Nat=>p.1.N) d L).map (·.1):=xp;have y:=fun(u:aB)(x:Nat)=>uS (key:=fun p:aB×Nat=>p.1.N) (key':=fun t:aB=>t.N) (fun p:aB×Nat=>p.1) (fun _=>rfl) (u,x) L;have E:=BN (key:=fun p:aB×Nat=>p.1.N) (key':=fun t:aB=>t.N) (fun p:aB×Nat=>p.1) (fun _=>rfl) d L;rcases Q with⟨p,j,rfl,rfl⟩|⟨j,x,rfl,U,J,D⟩
 .obtain ⟨z,H⟩:=yM j;rw[j]at o;refine⟨p.2,M,dA,p.1,fun g=>B g/\T g=bA p.2,rfl,h.idx p z,by unfold bC;rw[o];rfl,H,by rw[o];rfl,h,eD,fun g e=>e.1,fun e=>(by rw[h.tl]at e;cases e.2),fun e=>(by rw[h.tm]at e;cases e.2),Ca ⟨Tc z,rfl⟩,Ia _,?_,?_,(nomatch ·),?_⟩
  .intro k X v I u n r a s A b O;have:=aBp (p:=p) (t':=u) (M':=M+k) (h.keep fun g j _=>r.block g j) (fun g j=>G g (Ua r.size j)) z (A.trans H.symm) a s (by omega) b (by rw[A];exact O);rwa [y]at this
  .intro _ v u a s A;have:=aKk (p:=p) (t':=u) (M':=M) h G z (A.trans H.symm) a (s.keep fun g _ f=>⟨rfl,Ca f⟩) (Ia _);rwa [y]at this
  intro v I n a b O;have:=aBo (k:=d) h (fun g f q R K e=>by
   rw[f.2]at e;exact K ((yS h.nd R z (Lc e).symm) ▸ H)) (fun g _ f e=>by rw[e]at f;cases f.2) a b O
  rwa [E]at this
 rw[j]at o;have Y:=zA h.blk;have Z:=h.ten.lt;have F:∀{v},bB (fun g=>w.1.size<=g) W v->iL v B T l m c C L M:=fun a=>h.keep fun g j _=>(D.trans (a.below (by have:=D.size;omega) fun i J e=>by omega)).block g j;refine⟨x,0,cA,⟨d,-1,[],[]⟩,fun g=>w.1.size<=g,rfl,J,by unfold bC;rw[o];rfl,rfl,by rw[o];rfl,h.keep fun g j _=>D.block g j,D,fun g e=>G g e,by omega,by omega,La ⟨rfl,rfl⟩,Oa _,?_,(nomatch ·),fun _ v a=>F a,?_⟩
 .intro k X v I u n r a s A b O;have V:=(oB D r).size;have P:=(oB D r).trans (a.below (by omega) fun i J e=>by omega);have:=pr (x:=x) (t:=u) (M':=0+k) (M:=M+k) { h with idx:=fun p z=>(h.idx p z).mono (by omega) } G (by rw[A];exact j) eD P U b (by rw[A];exact O) (bB.refl _ I) (s.keep fun g j f=>⟨b.block g j (fun e=>by rcases f with f|f<;>omega),by rcases f with f|f<;>omega⟩) (by omega);rwa [y]at this
 intro v I n a b O;have:=aBo (k:=d) (S:=fun _=>False) (F a) (fun g f=>f.elim) (fun g _ f=>f.elim) (bB.refl _ v) b O;rwa [E]at this
end
section
open Go.Maps
def TU(l m:Nat)(a key:gB)(c:lC)(b:Int)(B:Nat->Prop)(d:List aB)(M:Nat)(w:eA)(h:nE w B l m c b d M)(hB:∀g,w.1.size<=g->B g)(hU:vH w)(o:a.size<=1400000)(o:key.size<=1400000)(o:1<=M)(o:M<=1000000000)(G:∀t∈d,vA t.Z<=1000000000)(I:∀t∈d,∀y∈t.Z,y.n<=b)(J:vA d<=1000000000):
 Calls prog 176 #[qA (bA ⟨l,0,aA⟩),nA a,nA key] w fun e w'=>e=.returned (lA mA ((qL c b d a key).2:Nat))/\nE w' B l m c b (qL c b d a key).1 (M+1)/\bB B w w':=by
 have O:=yA (h.mono (Gf M));have o:xA (qD 163 #[nA key] w (nA (aE key))):=AI key w (by omega) hU;have HT:xA _:=fun W=>dN a W (by unfold maxLen;omega);have U:xA (qL c b d a key=if (tC a&&!(aE key).toList.isEmpty)=cA then(d,5) else if (zC (·.s) key (bC d a).Z).isSome=dA then(gC (·.N) (mK (bC d a) key b) d,1) else if (if (bC d a).L = -1 then c.tl else(bC d a).L)<=(vA (bC d a).Z:Nat)\/((zC (·.N) a d).isNone&&decide (10000<=vA d))=dA then(d,3) else if mG (bC d a).M (aE key) c.ml<=(uI aE (bC d a).Z (aE key):Nat) then(d,4) else(gC (·.N) (mK (bC d a) key b) d,2)):=rfl;have v:xA _:=fun S x t s W f Y Z hl=>aAv x t key b S s W f Y (by unfold maxLen;omega) (xS key) Z hl;have Z:xA _:=fun S x t s W hl f=>yU l m x c b t S s (aE key) W hl f (xS key);have b0:xA _:=fun(W:eA)(cm:Nat)(s:Nat)(D:DataW Unit)(n:Nat)(Y:W.ownsMap prog 9 (plainElem prog 3) cm s D)(s:D.atKey (kL (aE key)) (xI 0)=xI n)=>UF Y s (xS key);clear hU;generalize aE key=mk at *;generalize tC a=Y at *;generalize qL c b d a key=R at *;go_enter func176,ntmps176;go_wp2_with fail;apply aC o.o;intro w1 s;have A:=yA s;clear s o;go_wp2_with fail;refine wE (HT.o _) ?_;clear HT;have o:(Y=cA\/Y=dA/\mk.toList.isEmpty=dA)\/Y=dA/\mk.toList.isEmpty=cA:=by cases Y<;>cases mk.toList.isEmpty<;>simp
 rcases o with o|⟨rfl,s⟩
 .have k:xA (R=(d,5)):=by show _=_;rw[U.o,Ma (by rcases o with e|⟨_,e⟩<;>rw[e]<;>simp)]
  clear U v Z b0 h;rcases o with rfl|⟨rfl,s⟩
  all_goals
   go_wp2;go_ret;exact⟨fD (by rw[k.o];rfl),by rw[k.o];exact O.o.z A.o,bB.of A.o⟩
 obtain⟨T,L,h,rfl⟩:=h;rw[s]at U;have H1:xA _:=h.keep fun g o _=>A.o.block g o;have HF:=yA (SF l m a c b B T L M w1 H1.o (by unfold maxLen;omega));have HMB:xA (B m/\B l):=⟨h.mB,h.lB⟩
 have HK:xA (keyOf prog 9 (nA a)=bA (kL a)):=qN (by unfold maxLen;omega);rw[Xa]at J;clear h;go_wp2_with fail;refine HF.o.mono ?_;intro e W Y;obtain⟨x,N,th,t,S,rfl,F⟩:=aJl H1.o (fun g o=>hB g (Ua A.o.size o)) Y;have H:xA _:=oB A.o F.bw;have J:=F.nM;have r:xA (R=if (zC (·.s) key t.Z).isSome=dA then(gC (·.N) (mK t key b) (L.map (·.1)),1) else if (if t.L = -1 then c.tl else t.L)<=(vA t.Z:Nat)\/((!th) &&decide (10000<=vA L))=dA then(L.map (·.1),3) else if mG t.M mk c.ml<=(uI aE t.Z mk:Nat) then(L.map (·.1),4) else(gC (·.N) (mK t key b) (L.map (·.1)),2)):=by show _=_;rw[U.o,F.tn,F.no,Xa,Ja (by simp)]
 have hpl:vA t.Z<=1000000000:=by rcases F.mem with⟨e,_⟩|⟨e,_⟩;exact G _ e;rw[e];simp
 have HNW:xA (∀y∈t.Z,y.n<=b):=by refine yA ?_;rcases F.mem with⟨e,_⟩|⟨e,_⟩;exact I _ e;rw[e];simp
 have HLB:=yA F.led.blk;have x6:cC W l 6 (lA mA b):=F.led.blk.cell 6;have c0:=yA (ND l m x c b t S N W F.led.blk F.ix);have V:=yA (SQ l m c b B T L M W F.led);have HL0:xA (∀J,kB W J->nE J B l m c b (L.map (·.1)) (M+1)):=fun J hb=>nE.mono ⟨T,L,F.led.keep fun g o _=>hb.block g o,rfl⟩ (Gf M);have C:xA _:=fun(y:tB W)=>Z.o _ x t N y.w' (F.led.blk.z y.h) (F.ix.z y.h);have u:=yA F;clear HF U Z Y G I s F H1 O;obtain⟨I,G,cm,O,Q,hs,D,f⟩:=u.o.ix;have Z:=yA f;have x2:cC W x 2 (.map (bA G)):=f.blk.cell 2;have l2:=f.Z.len underlying227 3;rw[kN,show vA Q=vA t.Z by rw[<-f.q1,Xa]]at l2;have Y:xA (zC (·.s) key t.Z=(zC (fun q:dB×Nat=>q.1.s) key Q).map (·.1)):=by
  show _=_;rw[<-f.q1];exact lW (key:=fun q:dB×Nat=>q.1.s) (key':=fun p:dB=>p.s) (fun q=>q.1) (fun _=>rfl) key Q
 have d0:=yA (aFv f.Z (key:=key) (by unfold maxLen;omega));have d3:=tB.cells (show cC W x 3 (.map (bA cm)) from f.blk.cell 3);have U:xA (∀y:tB W,(Instr.lookup 226 (.map (bA cm)) (nA mk) cA).run prog y.w'=.ok (lA mA (uI aE t.Z mk)) y.w'):=fun y=>by
  obtain⟨I,G,G,O,Q,hs,D,f⟩:=u.o.ix.z y.h;have G:=f.blk.cell 3;rw[d3 y]at G;cases G
  exact b0.o _ cm _ D _ f.cnts (f.cnt mk)
 clear b0 f;rcases d0.o with⟨q,hq,E⟩|⟨hq,E⟩
 .have k:xA (R=(gC (·.N) (mK t key b) (L.map (·.1)),1)):=by show _=_;rw[r.o,Ma (by rw[Y.o,hq];rfl)]
  obtain⟨j,hqk⟩:=yM hq;have K:=Z.o.cells q j;have G:cC W q.2 1 (lA mA q.1.n):=K.cell 1;have G:=K.free 1;have G:bB (·=q.2) W (W.setCell ⟨q.2,1,aA⟩ (lA mA b)):=(bB.refl (·=q.2) W).setCell (Ca rfl) 1 _;have I:=Z.o.seen j (HNW.o q.1 (by rw[<-Z.o.q1];exact Tc j)) G (by have:=K.set 1 (lA mA b);simpa using this);rw[show q.1.s=key from hqk]at I;have O:bB S W (W.setCell ⟨q.2,1,aA⟩ (lA mA b)):=G.mono fun i _ e=>by subst e;exact Z.o.sq q j
  have hth:th=dA:=by
   rcases u.o.mem with⟨_,e⟩|⟨e,_⟩;exact e;rw[<-Z.o.q1]at e;rw[List.map_eq_nil_iff.1 e]at j;cases j
  have a0:=yA ((u.o.turn hth O I u.o.nm).mono (Gf M));have g0:xA _:=(bB.of H.o).trans' (O.mono fun i _ e=>u.o.sB i e);clear K G I O j hqk hq Z d0 l2;go_wp2;go_ret;exact⟨fD (by rw[k.o];rfl),by rw[k.o];exact a0.o,g0.o⟩
 have X:xA (zC (·.s) key t.Z=aA):=by show _=_;rw[Y.o,hq];rfl
 have z:xA _:=fun J(G:kB W J)=>v.o S x t N J (u.o.ix.z G) X.o (by omega) hpl;rw[X.o]at r;clear v hq d0 Y X HNW Z;generalize (if t.L = -1 then c.tl else t.L)=I at *;generalize vA t.Z=O at *;generalize decide (10000<=vA L)=Y at *;have G:(I<=(O:Int)\/¬I<=(O:Int)/\th=cA/\Y=dA)\/¬I<=(O:Int)/\(th=dA\/th=cA/\Y=cA):=by cases th<;>cases Y<;>simp<;>omega
 rcases G with G|⟨O,G⟩
 .have k:xA (R=(L.map (·.1),3)):=by show _=_;rw[r.o,Ja (by simp),Ma (by rcases G with e|⟨_,e,I⟩;exact Ca e;rw[e,I];simp)]
  clear r U d3 C z;rcases G with O|⟨O,rfl,rfl⟩
  all_goals
   go_wp2_with fail;refine wE c0.o ?_;try (go_wp2_with fail;with_reducible refine wE V.o ?_)
   go_wp2;go_ret;exact⟨fD (by rw[k.o];rfl),by rw[k.o];exact HL0.o _ eD,bB.of H.o⟩
 have I:xA (R=if mG t.M mk c.ml<=(uI aE t.Z mk:Nat) then(L.map (·.1),4) else(gC (·.N) (mK t key b) (L.map (·.1)),2)):=by show _=_;rw[r.o,Ja (by simp),Ja (by rintro(e|e);exact O e;rcases G with h|⟨h,O⟩;rw[h]at e;simp at e;rw[O]at e;simp at e)]
 clear r;have E:=U.o;have O:=tB.there W;clear U;generalize uI aE t.Z mk=U at *;generalize mG t.M mk c.ml=W at *;rcases G with rfl|⟨rfl,rfl⟩
 all_goals
  go_wp2_with fail;refine wE c0.o ?_;try (go_wp2_with fail;with_reducible refine wE V.o ?_)
  clear c0 V l2 x2;go_wp2_with fail;refine jB (by kernel_rfl) (by kernel_rfl) ?_;repeat (go_big_quiet_step (first|(go_at_call 189;exact yC (C.o _))|fail))
  refine wpQuiet_nil ?_;rintro _ ⟨y,rfl⟩;have h:xA _:=y.h;clear E d3 O C x6;generalize y.w'=J at *;clear y;by_cases O:W<=(U:Int)
  .have k:xA (R=(L.map (·.1),4)):=by show _=_;rw[I.o,Ma O]
   clear I;go_wp2;go_ret;exact⟨fD (by rw[k.o];rfl),by rw[k.o];exact HL0.o _ h.o,bB.of (oB H.o h.o)⟩
  have k:xA (R=(gC (·.N) (mK t key b) (L.map (·.1)),2)):=by show _=_;rw[I.o,Ja O]
  clear I;have x6:cC J l 6 (lA mA b):=(HLB.o.z h.o).cell 6;go_wp2_with fail;apply aC (z.o J h.o);rintro w4 ⟨I,G⟩;have s:=u.o.led.keep fun g o _=>h.o.block g o;have J:=yA I;have O:=yA G;have U:xA _:=((bB.of H.o).trans' (bB.of h.o)).trans' (G.mono fun i _ e=>u.o.sB i e);have o:cC w4 l 7 (.map (bA m)):=(G.blk s.blk u.o.sl).cell 7;obtain⟨o,o,P,o⟩:=(G.map s.ten u.o.sm).store dM underlying152 (by unfold maxLen;omega) HK.o (lY x);have a0:=yA (u.o.put 1 h.o O.o J.o u.o.nm (bB.mapped o) P);have g0:xA _:=U.o.trans' ((bB.mapped o).mono fun i _ e=>(show i=m from e) ▸ HMB.o.1);clear P o I G z s;go_wp2;go_ret;exact⟨fD (by rw[k.o];rfl),by rw[k.o];exact a0.o,g0.o⟩
theorem WN(l m:Nat)(a b:ByteArray)(d:Int)(c:lC)(n:Int)(B:Nat->Prop)(j:List aB)(M:Nat)(w:World)(h:nE w B l m c n j M)(hB:∀g,w.1.size<=g->B g)(o:vH w)(G:a.size<=1400000)(G:b.size<=1400000)(a0:∀t∈j,t.M.length<=1000000000)(Z:j.length<=1000000000):
 Calls prog 314 #[.pointer (some ⟨l,0,none⟩),.string a,.string b,.int .i64 d] w fun e w'=>e=.returned (.bool (iU j a b d).2)/\nE w' B l m c n (iU j a b d).1 M/\bB B w w':=by
 have P:=yA h;have O:xA _:=fun W=>dN a W (by unfold maxLen;omega);have U:=yA (uT b w (by omega) o);have Q:xA _:=fun W=>wU d W;have I:xA (iU j a b d=if (tC a&&(b.toList.isEmpty||yE b) &&wB d (-1) 1000000)=false then(j,false) else if aF (vI (bC j a) b d)=true then(xE (·.N) a j,true) else if ((zC (·.N) a j).isNone&&decide (10000<=j.length))=true then(j,false) else(gC (·.N) (vI (bC j a) b d) j,true)):=rfl;have J:xA (wB d (-1) 1000000=true->-1<=d/\d<=1000000):=fun h=>uL h;clear o;generalize tC a=o at *;generalize (b.toList.isEmpty||yE b)=Y at *;generalize wB d (-1) 1000000=b3 at *;generalize iU j a b d=R at *;have G:xA (∀W,(o&&Y&&b3)=false->Below w.1.size w W->(Ending.returned (.bool false)=.returned (.bool R.2))/\nE W B l m c n R.1 M/\bB B w W):=fun W h hb=>by
  rw[I.o,Ma h];exact⟨rfl,P.o.z hb,bB.of hb⟩
 go_enter func314,ntmps314;go_wp2_with fail;refine wE (O.o _) ?_;clear O;cases o
 .go_wp2;go_ret;exact G.o _ rfl eD
 go_wp2_with fail;refine U.o.mono ?_;rintro e w2 ⟨rfl,V⟩;have o:=yA V;clear V U;cases Y
 .go_wp2;go_ret;exact G.o _ rfl o.o
 go_wp2_with fail;refine wE (Q.o _) ?_;clear Q;cases b3
 .go_wp2;go_ret;exact G.o _ rfl o.o
 obtain⟨O,hl1⟩:=J.o rfl;obtain⟨T,L,h,rfl⟩:=h;have H2:xA _:=h.keep fun g hg _=>o.o.block g hg;have HF:=yA (SF l m a c n B T L M w2 H2.o (by unfold maxLen;omega));have U:xA (B m/\B l):=⟨h.mB,h.lB⟩
 have HK:xA (keyOf prog 9 (.string a)=some (kL a)):=qN (by unfold maxLen;omega);rw[Xa]at Z;clear h G;go_wp2_with fail;refine HF.o.mono ?_;intro e W Y;obtain⟨x,N,h,t,S,rfl,F⟩:=aJl H2.o (fun g hg=>hB g (Ua o.o.size hg)) Y;have u:=yA F;have Z:=yA (aMx x b d t S N W F.ix (by unfold maxLen;omega) O hl1 (by rcases F.mem with⟨e,_⟩|⟨_,e⟩;exact a0 _ e;rw[e];simp));have k:xA (R=if aF (vI t b d)=true then(xE (·.N) a (L.map (·.1)),true) else if ((!h) &&decide (10000<=L.length))=true then(L.map (·.1),false) else(gC (·.N) (vI t b d) (L.map (·.1)),true)):=by show _=_;rw[I.o,F.tn,F.no,Xa,Ja (by simp)]
 have HN:xA ((vI t b d).N=a):=by show _=_;rw[pW];exact F.nm
 have W:xA _:=oB o.o F.bw;clear HF I Y F H2 a0 J P;generalize vI t b d=t' at *;go_wp2_with fail;refine Z.o.mono ?_;rintro e I ⟨rfl,G,r⟩;have K:=yA G;have p:=yA r;have O:=yA (SR x t' S N I G);have y:=yA (r.map u.o.led.ten u.o.sm);have X:=r.blk u.o.led.blk u.o.sl;have o:I.cell? ⟨l,7,none⟩=some (.map (some m)):=X.cell 7;have E:xA (bB B w I):=(bB.of W.o).trans' (r.mono fun i _ e=>u.o.sB i e);clear G r Z X;go_wp2_with fail;refine wE O.o ?_;clear O;cases hidl:aF t'
 case true=>
  have z:xA (R=(xE (·.N) a (L.map (·.1)),true)):=by show _=_;rw[k.o,Ma hidl]
  clear hidl k;go_wp2_with(at_delete;refine wpList_delete_own _ rfl _ _ 152 9 rfl 192 dM underlying152 oE m _ _ rfl y.o _ _ rfl HK.o ?_;intro G q f);have C:=yA (u.o.del p.o (bB.mapped f) q);have D:xA _:=E.o.trans' ((bB.mapped f).mono fun i _ e=>(show i=m from e) ▸ U.o.1);clear q f;go_ret;exact⟨fB (by rw[z.o]),by rw[z.o];exact C.o,D.o⟩
 by_cases s:((!h) &&decide (10000<=L.length))=true
 .have z:xA (R=(L.map (·.1),false)):=by show _=_;rw[k.o,Ja (by rw[hidl];simp),Ma s]
  simp only[Sa,Bool.not_eq_true']at s;have o:=yA (u.o.kp s.1 p.o);have v:=yA (SQ l m c n B T L M I o.o);rw[s.2]at v;rw[s.1];clear hidl k s;go_wp2_with fail;refine wE v.o ?_;go_wp2;go_ret;exact⟨fB (by rw[z.o]),by rw[z.o];exact⟨T,L,o.o,rfl⟩,E.o⟩
 have z:xA (R=(gC (·.N) t' (L.map (·.1)),true)):=by show _=_;rw[k.o,Ja (by rw[hidl];simp),Ja s]
 have v:xA (h=false->Calls prog 212 #[.pointer (some ⟨l,0,none⟩)] I fun e w'=>e=.returned (.bool false)/\w'=I):=fun e=>by
  have:=SQ l m c n B T L M I (u.o.kp e p.o);rwa [show decide (10000<=L.length)=false by rw[e]at s;simpa using s]at this
 obtain⟨G,o,A,H⟩:=y.o.store dM underlying152 (by unfold maxLen;omega) HK.o (lY x);have C:=yA (u.o.put 0 eD p.o (K.o.keep fun g _ hs=>⟨rfl,Ca hs⟩) HN.o (bB.mapped H) A);have D:xA _:=E.o.trans' ((bB.mapped H).mono fun i _ e=>(show i=m from e) ▸ U.o.1);clear A H hidl k s K p u;cases h
 all_goals
  try (go_wp2_with fail;with_reducible refine wE (v.o trivial) ?_)
  go_wp2;go_ret;exact⟨fB (by rw[z.o]),by rw[z.o];exact C.o,D.o⟩
end
def fR(v:Int)(w:eA):qD 145 #[lA mA v] w (nA (pB 4 v)):=by
 have c:=yA (aH 4 v w (by omega));generalize pB 4 v=N at *;go_enter func145,ntmps145;go_wp2_with fail;apply aC c.o;intro f a;have b:=yA a;clear a;go_wp2;go_ret;exact⟨rfl,b.o⟩
def gP(v:Int)(w:eA):qD 142 #[lA mA v] w (nA (pB 8 v)):=by
 have c:=yA (aH 8 v w (by omega));generalize pB 8 v=N at *;go_enter func142,ntmps142;go_wp2_with fail;apply aC c.o;intro f a;have b:=yA a;clear a;go_wp2;go_ret;exact⟨rfl,b.o⟩
def kP(ps:List dB):List gB:=ps.flatMap fun p=>[qF p.s,pB 8 p.n]
def NH(ps:List dB)(k:Nat)(h:k<vA ps):kP (ps.take (k+1))=kP (ps.take k)++[qF ps[k].s,pB 8 ps[k].n]:=by
 unfold kP;rw[Pa h,He];rfl
def mX:∀(ps:List dB),lF (kP ps)=qG ps
 |[]=>rfl
 |p::q=>by
  have e:kP (p::q)=[qF p.s,pB 8 p.n]++kP q:=rfl;rw[e,zF,mX q,qG];simp[lF,VZ]
def aUn(t:aB):Decidable (aL t):=by unfold aL br;infer_instance
def XE(t:aB):gB:=haveI:=aUn t;if aL t then kW t else kA
def PY{t:aB}(h:¬aL t):XE t=kA:=by unfold XE;rw[Ja h]
def aCm{t:aB}(h:aL t):XE t=kW t:=by unfold XE;rw[Ma h]
structure TR(ps:List gB)(ms:List dB)(k:Nat)(HD:List gB):Prop where
 eq:ps=HD++kP (ms.take k)
 all:∀j(h:j<vA ms),j<k→ms[j].s.size≤65535
structure TE(w W:World)(g cv:Nat)(ps:List gB):Prop where
 row:W.ownsRow w.1.size 9 1 (oA (bA ⟨g,0,aA⟩) (vA ps) cv) (vA ps) (ps.map Value.string)
 bel:kB w W
section
variable {w W W':eA} {g cv k:Nat} {ps HD:List gB} {ms:List dB}
theorem TR.next(h:TR ps ms k HD)(d:k<vA ms)(e:ms[k].s.size<=65535):TR (ps++[qF ms[k].s,pB 8 ms[k].n]) ms (k+1) HD:=
 ⟨by rw[NH ms k d,h.eq,Nd],fun j b c=>by
  rcases Gc j k with a|a;exact h.all j b a;obtain rfl:j=k:=by omega
  exact e⟩
theorem TR.fin(h:TR ps ms k HD)(b:¬k<vA ms):ps=HD++kP ms/\br ms:=⟨by rw[h.eq,Ra (by omega)],fun j a=>h.all j a (by omega)⟩
theorem TE.z(h:TE w W g cv ps)(a:kB W W'):TE w W' g cv ps:=⟨jC h.row a,oB h.bel a⟩
theorem VE{H:Array Oper}{o:Oper}{a:Act}{K:Act->eA->Prop}{Q:Exit->Act->eA->Prop}{E:Prop}{p:Nat}{x y:gB}(h:TE w W g cv ps)(f:o.guard=aA)(s z:Operand)(B:o.op=.call { callee:=.builtin .append,args:=#[s,z],argTypes:=#[204,204] })(D:a.eval s=oA (bA ⟨g,0,aA⟩) (vA ps) cv)(F:a.eval z=oA (bA ⟨p,0,aA⟩) 2 2)(C:W.1.size=p)(L:vA ps<=100000000)
(k:∀d b c,TE w c d b (ps++[x,y])->(∀j,j<W.1.size->j≠g->c.heap[j]?=W.heap[j]?)->K (a.put o.dst (.slice (bA ⟨d,0,aA⟩) (vA (ps++[x,y])) b)) c):
 if Region.wanted o (yielded H a.tmps)=dA then Oper.wp prog o a (W.alloc (tA #[nA x,nA y] 9)) K Q else E:=by
 subst C;obtain⟨I,q,l,m,n⟩:=BQ;have J:=h.bel.size;have G:W.1.size<(W.alloc (tA #[nA x,nA y] 9)).1.size:=by simp
 refine tK _ f s z _ B w.1.size 9 I _ 1 16 underlying204 q l m n rfl (by omega) g (vA ps) cv _ D (jC h.row vB) _ 2 2 [nA x,nA y] F rfl (La ⟨_,rfl,eA.news_of_block (cs:=#[nA x,nA y]) (heap_alloc_new _ _)⟩) (by simp[Value.oneCell']) (by simp[maxLen];omega) (by omega) (by omega) fun d b c r t u _ _ _=>?_;have A:=fun j v i=>(u j (by omega) i).trans (vB.block j v);have e:vA ps+2=vA (ps++[x,y]):=by simp
 rw[e]at r |-
 exact k d b c ⟨by rw[Ld];exact r,(oB h.bel vB).trans (t.mono (by omega))⟩ A
theorem YS:(prog.info? 9).map (fun i=>(i.zero,i.size,i.bytes))=bA (bA (nA kA),1,16):=by kernel_rfl
theorem TE.one{b a:Nat}{x:gB}(h:TE w W g cv ps)(c:W'.ownsRow w.1.size 9 1 (oA (bA ⟨b,0,aA⟩) (vA ps+1) a) (vA ps+1) (ps.map Value.string++[nA x]))(d:bB (fun i=>w.1.size<=i/\(Value.slice (bA ⟨g,0,aA⟩) (vA ps) cv).ownBlock=bA i) W W'):TE w W' b a (ps++[x]):=by
 rw[show vA ps+1=vA (ps++[x]) by simp]at c;exact⟨by rw[Ld];exact c,h.bel.trans (d.below (by have:=h.bel.size;omega) fun i f e=>by omega)⟩
end
def ob(t:aB)(O S:iC)(T Y:Nat)(w:eA)(hm:yB w O t.M)(hs:yB w S t.Z)(hn:t.N.size<=1000000000)(hl1:vA t.M<=2000000)(hl2:vA t.Z<=2000000)(P:∀j(h:j<vA t.M),t.M[j].s.size<=1000000000)(m:∀j(h:j<vA t.Z),t.Z[j].s.size<=1000000000):
 qD 219 #[.agg #[nA t.N,lA mA t.L,oA O (vA t.M) T,oA S (vA t.Z) Y]] w (nA (XE t)):=by
 obtain⟨p,y,ms,ss⟩:=t;simp only at hm hs hn hl1 hl2 P m |-
 by_cases z1:p.size > 255
 .have E:xA (XE ⟨p,y,ms,ss⟩=kA):=PY fun h=>by have:=h.1;simp only at this;omega
  have z1':(p.size:Int) > 255:=by omega
  rw[E.o];clear hm hs P m;go_enter func219,ntmps219;go_wp2;go_ret;exact⟨rfl,vB⟩
 have z1':¬(p.size:Int) > 255:=by omega
 have HM:=yA hm;have HS:=yA hs;have HBM:=yA P;have HBS:=yA m;have HU1:=yA (fun W=>pT p W hn);have HU2:=yA (fun W=>gP y W);have HU3:=yA (fun W=>fR (vA ms:Nat) W);have HU4:=yA (fun W=>fR (vA ss:Nat) W);have hz1:=lH p;have hz2:=qB 8 y;have hz3:=qB 4 (vA ms:Nat);have hz4:=qB 4 (vA ss:Nat);have HKB:xA (br ms->br ss->XE ⟨p,y,ms,ss⟩=kO p++pB 8 y++pB 4 (vA ms:Nat)++qG ms++pB 4 (vA ss:Nat)++qG ss):=fun h1 Z=>aCm ⟨by simp only;omega,h1,Z⟩;have HN1:xA (∀k(h:k<vA ms),¬ms[k].s.size<=65535->XE ⟨p,y,ms,ss⟩=kA):=fun k h Z=>PY fun hh=>Z (hh.2.1 k h);have HN2:xA (∀k(h:k<vA ss),¬ss[k].s.size<=65535->XE ⟨p,y,ms,ss⟩=kA):=fun k h Z=>PY fun hh=>Z (hh.2.2 k h);generalize kO p=N1 at *;generalize pB 8 y=N2 at *;generalize pB 4 (vA ms:Nat)=N3 at *;generalize pB 4 (vA ss:Nat)=V at *;generalize XE ⟨p,y,ms,ss⟩=TV at *;clear hm hs P m;go_enter func219,ntmps219;go_upto_region 3 with fail;have X6:xA (iB (w.alloc (tA #[nA p,lA mA y,oA O (vA ms) T,oA S (vA ss) Y] 85)) w.1.size #[nA p,lA mA y,oA O (vA ms) T,oA S (vA ss) Y] 85):=iB.new _ _ _;have B0:xA (kB w (w.alloc (tA #[nA p,lA mA y,oA O (vA ms) T,oA S (vA ss) Y] 85))):=vB;generalize w.alloc (tA #[nA p,lA mA y,oA O (vA ms) T,oA S (vA ss) Y] 85)=D at *;have HK:xA (∀d,kB D d->d.cell? ⟨w.1.size,0,aA⟩=bA (nA p)/\d.cell? ⟨w.1.size,1,aA⟩=bA (lA mA y)/\d.cell? ⟨w.1.size,2,aA⟩=bA (oA O (vA ms) T)):=fun d h=>⟨(X6.o.z h).cell 0,(X6.o.z h).cell 1,(X6.o.z h).cell 2⟩
 obtain⟨x0,x1,x2⟩:=HK.o D eD;go_cut [3] (fun s wx=>∃g,s=oA (bA ⟨g,0,aA⟩) 3 3/\TE D wx g 3 [N1,N2,N3])
 case first=>
  go_region_held3 (fun d=>d.cell? ⟨w.1.size,0,aA⟩=bA (nA p)/\d.cell? ⟨w.1.size,1,aA⟩=bA (lA mA y)/\d.cell? ⟨w.1.size,2,aA⟩=bA (oA O (vA ms) T))
   (first|go_keep|exact HK.o _ k4|exact HK.o _ k3|exact HK.o _ k2)
   (first
    |(go_at_call 171;apply aC (HU1.o _);intro w2 m;have k2:kB D w2:=(by exact oB eD.drew m))
    |(go_at_call 142;apply aC (HU2.o _);intro w3 G;have k3:kB D w3:=(by exact oB k2 G))
    |(go_at_call 145;apply aC (HU3.o _);intro w4 r;have k4:kB D w4:=(by exact oB k3 r)))
  all_goals(go_wp2_with fail;go_meet)
  all_goals exact⟨_,rfl,⟨rfl,La ⟨_,3,_,rfl,k4.size,heap_alloc_new _ _,Ia _,by simp[maxLen],rfl,rfl⟩⟩,oB k4 vB⟩
 obtain⟨g0,rfl,b0⟩:=hcut;rename eA=>Q;have L:=yA b0;have y2:Q.cell? ⟨w.1.size,2,aA⟩=bA (oA O (vA ms) T):=(X6.o.z b0.bel).cell 2;clear x0 x1 x2 HK b0 HU1 HU2 HU3;go_wp2;go_loopw [3,5,26] (fun d0 _ i wr=>∃(k:Nat)(ps:List gB)(g cv:Nat),k<=vA ms/\i=lA mA k/\d0=oA (bA ⟨g,0,aA⟩) (vA ps) cv/\vA ps<=3+2*k/\wF ps<=2000000000+k*70000/\xA (TR ps ms k [N1,N2,N3])/\xA (TE D wr g cv ps)) (fun _ _ i _=>vA ms-(intOf i).toNat)
 case atStart=>exact⟨0,[N1,N2,N3],_,_,Oa _,rfl,rfl,by simp,by simp[wF];omega,⟨by simp[kP],fun j _ h=>absurd h (by omega)⟩,L.o⟩
 case round=>
  obtain⟨k,ps,g,cv,hk,rfl,rfl,hpl,hps,R,H⟩:=hrel;have a:=oB B0.o H.o.bel;by_cases f:k<vA ms
  .obtain ⟨b,o,rfl,hb,c0,X⟩:=(HM.o.z a).at f;have F:=yA (fun W=>yL ms[k].s W (HBM.o k f));have U:=yA (fun W=>gP ms[k].n W);have HX:=yA (R.o.next f);have E:=yA (HN1.o k f);have hq3:=uF ms[k].s;have hq4:=qB 8 ms[k].n;generalize qF ms[k].s=M at *;generalize pB 8 ms[k].n=N at *;generalize ms[k].s=z at *;generalize ms[k].n=C at *;by_cases hgt:(z.size:Int) > 65535
   .replace E:=yA (E.o (by omega));go_wp2;go_ret;exact⟨by rw[E.o];rfl,oB a vB⟩
   have x:=yA (iB.new wr #[nA z,lA mA C] 111);have H1:=yA (H.o.z (yG wr (tA #[nA z,lA mA C] 111)));have hgB:=(oG H.o.row).2.1;clear R E H;go_upto_region 9 with fail;generalize wr.alloc (tA #[nA z,lA mA C] 111)=W at *;have hBX:=zA x.o;clear hb c0 X a;generalize wr.1.size=v at *;clear wr;have l:xA (∀d,kB W d->d.cell? ⟨v,0,aA⟩=bA (nA z)/\d.cell? ⟨v,1,aA⟩=bA (lA mA C)):=fun d h=>⟨(x.o.z h).cell 0,(x.o.z h).cell 1⟩
   obtain⟨x0,x1⟩:=l.o W eD;go_region_held3 (fun d=>d.cell? ⟨v,0,aA⟩=bA (nA z)/\d.cell? ⟨v,1,aA⟩=bA (lA mA C))
    (first|go_keep|exact u|exact l.o _ (c.alloc c.size _)|exact l.o _ c|exact l.o _ I)
    (first
     |(go_at_call 146;apply aC (F.o _);intro w3 G;have I:kB W w3:=(Below.refl _ W).drew.trans G)
     |(go_at_call 142;apply aC (U.o _);intro w4 r;have c:kB W w4:=oB I r)
     |(refine VE (by exact H1.o.z c) (by rfl) _ _ (by rfl) (by rfl) (by rfl) (by rfl) (by omega) ?_;intro g5 A Q L J;have u:Q.cell? ⟨v,0,aA⟩=bA (nA z)/\Q.cell? ⟨v,1,aA⟩=bA (lA mA C):=(by have q:=l.o _ c;have K:=J v (by have:=c.size;omega) (by omega);exact⟨(eA.cell?_of_block K).trans q.1,(eA.cell?_of_block K).trans q.2⟩)))
   have B:vA (ps++[M,N])=vA ps+2:=by simp
   have a0:wF (ps++[M,N])=wF ps+(M.size+N.size):=by rw[nH];simp[wF]
   replace L:=yA L;rw[<-B];clear u J;generalize ps++[M,N]=e0 at *;go_wp2;exact⟨⟨k+1,e0,g5,A,by omega,by go_num,rfl,by omega,by omega,HX.o (by omega),L.o⟩,by simp[intOf];omega⟩
  have HE:=yA (R.o.fin f);have y3:wr.cell? ⟨w.1.size,3,aA⟩=bA (oA S (vA ss) Y):=(X6.o.z H.o.bel).cell 3;clear R HM HBM HN1 L;go_wp2_with fail;apply aC (HU4.o _);intro w4 r;replace H:=yA (H.o.z r);have hww:=H.o.bel.size;clear r a y3 HU4;go_wp2_with(at_builtin;refine vQ rfl _ _ rfl underlying204 YS rfl (by omega) (by omega) rfl H.o.row rfl rfl (cs:=#[nA V]) rfl (by simp[Value.oneCell']) (by omega) hww ?_;intro g5 A Q O5 T5;have H6:=yA (H.o.one O5.o T5.o);have y3:Q.cell? ⟨w.1.size,3,aA⟩=bA (oA S (vA ss) Y):=(X6.o.z H6.o.bel).cell 3);have B:vA (ps++[V])=vA ps+1:=by simp
  have a0:wF (ps++[V])=wF ps+V.size:=by rw[nH];simp[wF]
  rw[<-B];have HPP:xA (ps++[V]=[N1,N2,N3]++kP ms++[V]):=by show _=_;rw[HE.o.1]
  clear O5 T5 H;generalize hPP:ps++[V]=PP at *;clear hPP;go_loopw [3,7,54] (fun d0 _ i wr=>∃(k:Nat)(ps:List gB)(g cv:Nat),k<=vA ss/\i=lA mA k/\d0=oA (bA ⟨g,0,aA⟩) (vA ps) cv/\vA ps<=4000010+2*k/\wF ps<=200000000000+k*70000/\xA (TR ps ss k PP)/\xA (TE D wr g cv ps)) (fun _ _ i _=>vA ss-(intOf i).toNat)
  case atStart=>exact⟨0,PP,_,_,Oa _,rfl,rfl,by omega,by omega,⟨by simp[kP],fun j _ h=>absurd h (by omega)⟩,H6.o⟩
  case round=>
   clear hpl hps B a0 f hk y3 H6;obtain⟨k,ps,g,cv,hk,rfl,rfl,hpl,hps,R,H⟩:=hrel;have a:=oB B0.o H.o.bel;by_cases f:k<vA ss
   .obtain ⟨b,o,rfl,hb,c0,X⟩:=(HS.o.z a).at f;have F:=yA (fun W=>yL ss[k].s W (HBS.o k f));have U:=yA (fun W=>gP ss[k].n W);have HX:=yA (R.o.next f);have E:=yA (HN2.o k f);have hq3:=uF ss[k].s;have hq4:=qB 8 ss[k].n;generalize qF ss[k].s=M at *;generalize pB 8 ss[k].n=N at *;generalize ss[k].s=z at *;generalize ss[k].n=C at *;by_cases hgt:(z.size:Int) > 65535
    .replace E:=yA (E.o (by omega));go_wp2;go_ret;exact⟨by rw[E.o];rfl,oB a vB⟩
    have x:=yA (iB.new wr #[nA z,lA mA C] 88);have H1:=yA (H.o.z (yG wr (tA #[nA z,lA mA C] 88)));have hgB:=(oG H.o.row).2.1;clear R E H;go_upto_region 17 with fail;generalize wr.alloc (tA #[nA z,lA mA C] 88)=W at *;have hBX:=zA x.o;clear hb c0 X a;generalize wr.1.size=v at *;clear wr;have l:xA (∀d,kB W d->d.cell? ⟨v,0,aA⟩=bA (nA z)/\d.cell? ⟨v,1,aA⟩=bA (lA mA C)):=fun d h=>⟨(x.o.z h).cell 0,(x.o.z h).cell 1⟩
    obtain⟨x0,x1⟩:=l.o W eD;go_region_held3 (fun d=>d.cell? ⟨v,0,aA⟩=bA (nA z)/\d.cell? ⟨v,1,aA⟩=bA (lA mA C))
     (first|go_keep|exact u|exact l.o _ (c.alloc c.size _)|exact l.o _ c|exact l.o _ I)
     (first
      |(go_at_call 146;apply aC (F.o _);intro w3 G;have I:kB W w3:=(Below.refl _ W).drew.trans G)
      |(go_at_call 142;apply aC (U.o _);intro w4 r;have c:kB W w4:=oB I r)
      |(refine VE (by exact H1.o.z c) (by rfl) _ _ (by rfl) (by rfl) (by rfl) (by rfl) (by omega) ?_;intro g5 A Q L J;have u:Q.cell? ⟨v,0,aA⟩=bA (nA z)/\Q.cell? ⟨v,1,aA⟩=bA (lA mA C):=(by have q:=l.o _ c;have K:=J v (by have:=c.size;omega) (by omega);exact⟨(eA.cell?_of_block K).trans q.1,(eA.cell?_of_block K).trans q.2⟩)))
    have B:vA (ps++[M,N])=vA ps+2:=by simp
    have a0:wF (ps++[M,N])=wF ps+(M.size+N.size):=by rw[nH];simp[wF]
    replace L:=yA L;rw[<-B];clear u J;generalize ps++[M,N]=e0 at *;go_wp2;exact⟨⟨k+1,e0,g5,A,by omega,by go_num,rfl,by omega,by omega,HX.o (by omega),L.o⟩,by simp[intOf];omega⟩
   have E2:xA (lF ps=TV):=by
    show _=_;obtain⟨h1,Z⟩:=R.o.fin f;rw[h1,zF,mX,HPP.o,zF,zF,mX,HKB.o HE.o.2 Z];simp[lF,Wa]
   obtain⟨hcv,hg,hcs⟩:=oG H.o.row;have HJ:=yA (lI g (vA ps) cv ps wr rfl hcs hg hcv (by omega) (by omega));rw[E2.o]at HJ;clear hcs;go_wp2_with fail;apply aC HJ.o;intro w2 m;have B2:=yA (oB a m);clear m;go_wp2;go_ret;exact⟨rfl,B2.o⟩
