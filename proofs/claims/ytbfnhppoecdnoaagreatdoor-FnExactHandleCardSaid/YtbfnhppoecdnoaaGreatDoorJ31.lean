import Derived.Test.YtbfnhppoecdnoaaGreatDoorJ29
import Derived.Test.YtbfnhppoecdnoaaGreatDoorJ27
set_option maxRecDepth 100000
set_option maxHeartbeats 8000000
set_option linter.defProp false
open Option renaming some->bA,none->aA
open Bool renaming true->dA,false->cA
open List renaming length->vA
namespace Go.Proofs.YtbfnhppoecdnoaaGreatDoor
open Go renaming World->eA,Calls->gA
open Value renaming pointer->qA,string->nA,int->lA,slice->oA,bool->pA,tuple->uA
open IntKind renaming i64->mA
open Ending renaming returned->sA
open Obj renaming cells->tA
open Go.RowKit Tryz
section
open Go.Maps
structure iL(w:World)(B:Nat→Prop)(T:Nat→Option Nat)(l m:Nat)(c:lC)(now:Int)(L:List (aB×Nat))(M:Nat):Prop where
 blk:iB w l (oW c now m) 154
 ten:w.ownsMap prog 9 oE m (vA L) (eE (L.map fun p=>(p.1.N,eF p.2)))
 rise:wC (fun p:aB×Nat=>p.1.N) L
 idx:∀p∈L,uD w (fun g=>B g∧T g=bA p.2) p.2 p.1 M
 nd:(L.map (·.2)).Nodup
 tl:T l=aA
 tm:T m=aA
 lB:B l
 mB:B m
def nE(w:eA)(B:Nat->Prop)(l m:Nat)(c:lC)(a:Int)(b:List aB)(M:Nat):Prop:=∃T L,iL w B T l m c a L M/\L.map (·.1)=b
def iL.lm{w:eA}{B:Nat->Prop}{T:Nat->Option Nat}{l m:Nat}{c:lC}{a:Int}{L:List (aB×Nat)}{M:Nat}(h:iL w B T l m c a L M):m≠l:=aD h.ten h.blk
def iL.keep{w w':eA}{B:Nat->Prop}{T:Nat->Option Nat}{l m:Nat}{c:lC}{b:Int}{L:List (aB×Nat)}{M:Nat}(h:iL w B T l m c b L M)(d:∀g,g<w.1.size->B g->w'.heap[g]?=w.heap[g]?):iL w' B T l m c b L M:=
 { h with
  blk:=(d l (zA h.blk) h.lB).trans h.blk
  ten:=by
   have e:=h.ten.lt;obtain⟨i,a,j,r⟩:=h.ten;exact⟨i,a,(d m e h.mB).trans j,r⟩
  idx:=fun p n=>(h.idx p n).keep fun g k f=>⟨d g k f.1,f⟩ }
def nE.z{w d:eA}{B:Nat->Prop}{l m:Nat}{c:lC}{a:Int}{b:List aB}{M:Nat}(h:nE w B l m c a b M)(f:kB w d):nE d B l m c a b M:=by
 obtain⟨T,L,h,e⟩:=h;exact⟨T,L,h.keep fun g i _=>f.block g i,e⟩
def pr{w k H D z:eA}{B:Nat->Prop}{T:Nat->Option Nat}{l m x n:Nat}{c:lC}{u:Int}{L:List (aB×Nat)}{M M':Nat}{t:aB}(h:iL w B T l m c u L M)(I:∀g,w.1.size<=g->B g)(q:zC (fun p:aB×Nat=>p.1.N) t.N L=aA)
(E:kB w k)(F:kB k H)(R:k.1.size<=x)(b:bB (·=m) H D)(v:D.ownsMap prog 9 oE m n (DataW.put (eE (L.map fun p=>(p.1.N,eF p.2))) (kL t.N) (eF x)))
(d:bB (fun g=>k.1.size<=g) D z)(A:uD z (fun g=>k.1.size<=g) x t M')(J:M'<=M):
 nE z B l m c u ((gC (fun p:aB×Nat=>p.1.N) (t,x) L).map (·.1)) M:=by
 have G:=zA h.blk;have K:=h.ten.lt;have O:=E.size;have P:=F.size;have Q:=b.size;have o:∀p,p∈gC (fun p:aB×Nat=>p.1.N) (t,x) L->p=(t,x)\/p∈L:=fun p i=>yK i;have j:=KW (key:=fun p:aB×Nat=>p.1.N) (a:=(t,x)) q;have f:∀g,g<w.1.size->g≠m->z.heap[g]?=w.heap[g]?:=fun g y C=>by
  rw[d.block g (by omega) (by omega),b.block g (by omega) C,F.block g (by omega),E.block g y]
 have r:DataW.put (eE (L.map fun p=>(p.1.N,eF p.2))) (kL t.N) (eF x)=eE ((gC (fun p:aB×Nat=>p.1.N) (t,x) L).map fun p=>(p.1.N,eF p.2)):=
  LG (key:=fun p:aB×Nat=>p.1.N) (fun p=>eF p.2) (t,x) h.rise
 refine⟨fun g=>if g<w.1.size then T g else bA x,_,?_,rfl⟩;exact {
  blk:=(f l G h.lm.symm).trans h.blk
  ten:=by
   have:=VQ (d.map v (by omega));rw[r,kN]at this;exact this
  rise:=gK h.rise
  idx:=fun p i=>by
   rcases o p i with rfl|i
   .refine (A.mono J).keep fun g _ s=>⟨rfl,I g (by omega),?_⟩
    show(if g<w.1.size then T g else bA x)=bA x;rw[Ja (by omega)]
   refine (h.idx p i).keep fun g y s=>⟨f g y (fun e=>by rw[e,h.tm]at s;cases s.2),s.1,?_⟩
   show(if g<w.1.size then T g else bA x)=_;rw[Ma y];exact s.2
  nd:=by
   rw[(j.map _).nodup_iff,Fc,List.nodup_cons];refine⟨fun N=>?_,h.nd⟩;obtain⟨p,i,e⟩:=Md.1 N;have:=(h.idx p i).lt;simp only at e;omega
  tl:=by show(if l<w.1.size then T l else _)=aA;rw[Ma G];exact h.tl
  tm:=by show(if m<w.1.size then T m else _)=aA;rw[Ma K];exact h.tm
  lB:=h.lB
  mB:=h.mB}
def aEu{L:List (aB×Nat)}{k:gB}(h:zC (·.N) k (L.map (·.1))=aA):zC (fun p:aB×Nat=>p.1.N) k L=aA:=by grind [zC]
def aKn(l m:Nat)(t:aB)(u v:iC)(B C:Nat)(c:lC)(n:Int)(Y:List aB)(M:Nat)(q w:eA)(h:nE w (q.1.size<=·) l m c n Y M)(h0:kB q w)(hU:vH q)(p1:yB q u t.M)(p2:yB q v t.Z)
(I:zC (·.N) t.N Y=aA)(hn:t.N.size<=maxLen)(s:∀i(h:i<vA t.M),t.M[i].s.size<=1000000000)(o:∀i(h:i<vA t.Z),t.Z[i].s.size<=1000000000)(hl1:vA t.M<=500000000)(G:vA t.Z<=500000000)(J:vA Y<=1000000000)(hM:vA t.Z<=M)
(hn0:0<=n)(hn1:n<=1000000000000)(hw0:1<=c.w)(hw1:c.w<=1000000000):
 gA prog 78 #[qA (bA ⟨l,0,aA⟩),.agg #[nA t.N,lA mA t.L,oA u (vA t.M) B,oA v (vA t.Z) C]] w fun e E=>e=sA (pA (yP c.w n t))/\
  (yP c.w n t=dA->nE E (q.1.size<=·) l m c n (gC (·.N) t Y) M)/\bB (·=m) w E:=by
 obtain⟨T,L,h,Z⟩:=h;have j:xA (yP c.w n t=(tC t.N&&wB t.L (-1) 1000000&&jM t.M&&fL c.w n t.Z&&!aF t)):=rfl;have r:xA _:=fun W=>dN t.N W hn;by_cases O:tC t.N=cA
 .rw[O]at r j;clear h;go_enter func78,ntmps78;go_wp2_with fail;apply lK (r.o _);go_wp2;go_ret;exact⟨fB (by rw[j.o];simp),fun h=>absurd h (by rw[j.o];simp),bB.of vB⟩
 have J:tC t.N=dA:=by simpa using O
 rw[J]at r j;clear O J;have D:xA _:=fun W=>wU t.L W;by_cases O:wB t.L (-1) 1000000=cA
 .rw[O]at D j;clear h;go_enter func78,ntmps78;go_wp2_with fail;apply lK (r.o _);go_wp2_with fail;apply lK (D.o _);go_wp2;go_ret;exact⟨fB (by rw[j.o];simp),fun h=>absurd h (by rw[j.o];simp),bB.of vB⟩
 have J:wB t.L (-1) 1000000=dA:=by simpa using O
 rw[J]at D j;clear O J;have X:xA _:=h;have J:=h.ten.lt;have J:=zA h.blk;have J:=h0.size;have HLE:xA _:=Z;have O:vA L=vA Y:=by rw[<-Z,Xa]
 have HGN:xA _:=aEu (by rw[Z];exact I);have HK:xA _:=qN hn;have O:xA _:=fun W=>IZ t.L t.N W;have U:xA (∀(S:Nat->Prop)(x:Nat)(W:eA),uD W S x ⟨t.N,t.L,[],[]⟩ 0->kB q W->(∀g,S g->q.1.size<=g)->gA prog 121 #[qA (bA ⟨x,0,aA⟩),oA u (vA t.M) B] W fun e E=>e=sA (pA (jM t.M))/\(jM t.M=dA->uD E (fun g=>S g\/W.1.size<=g) x ⟨t.N,t.L,t.M,[]⟩ 0)/\bB S W E):=
  fun S x W hi hb A=>UA x u B t.M ⟨t.N,t.L,[],[]⟩ S 0 q W hi hb hU p1 A s (by omega)
 have HSS:xA (∀(S:Nat->Prop)(x:Nat)(W:eA),uD W S x ⟨t.N,t.L,t.M,[]⟩ 0->kB q W->(∀g,S g->q.1.size<=g)->iB W l (oW c n m) 154->¬S l->gA prog 122 #[qA (bA ⟨l,0,aA⟩),qA (bA ⟨x,0,aA⟩),oA v (vA t.Z) C] W fun e E=>e=sA (pA (fL c.w n t.Z))/\(fL c.w n t.Z=dA->uD E (fun g=>S g\/W.1.size<=g) x ⟨t.N,t.L,t.M,t.Z⟩ (0+vA t.Z))/\bB S W E):=
  fun S x W hi hb A hbl hsl=>UC l m x v C t.Z ⟨t.N,t.L,t.M,[]⟩ c n S 0 q W hbl hsl hi hb hU p2 A o G (by omega) hn0 hn1 hw0 hw1
 have H0:xA _:=h0;clear h p1 p2 I hn s o hl1 G Z h0 hU;go_enter func78,ntmps78;go_wp2_with fail;apply lK (r.o _);go_wp2_with fail;apply lK (D.o _);go_wp2_with fail;have B1:xA (kB w (w.alloc (tA #[nA t.N,lA mA t.L,oA u (vA t.M) B,oA v (vA t.Z) C] 85))):=vB;have X1:xA (iB (w.alloc (tA #[nA t.N,lA mA t.L,oA u (vA t.M) B,oA v (vA t.Z) C] 85)) w.1.size #[nA t.N,lA mA t.L,oA u (vA t.M) B,oA v (vA t.Z) C] 85):=iB.new _ _ _;have s:w.1.size<(w.alloc (tA #[nA t.N,lA mA t.L,oA u (vA t.M) B,oA v (vA t.Z) C] 85)).1.size:=by simp
 generalize w.alloc (tA #[nA t.N,lA mA t.L,oA u (vA t.M) B,oA v (vA t.Z) C] 85)=F at *;refine(O.o F).mono ?_;rintro e Z ⟨x,rfl,hx,G,o⟩;have B2:xA _:=o;have y:=oB B1.o o;have X2:xA (iB Z w.1.size #[nA t.N,lA mA t.L,oA u (vA t.M) B,oA v (vA t.Z) C] 85):=X1.o.z o;have L2:xA (iB Z l (oW c n m) 154):=X.o.blk.z y;have N:=(bB.of (S:=fun _=>False) y).map X.o.ten (fun e=>e);obtain⟨s,I,K,z⟩:=N.drew.update dM underlying152 (by unfold maxLen;omega) HK.o (lY x);have b:bB (·=m) Z s:=(bB.grown (a:=Z) ⟨z.os,z.tape,z.output,z.size,z.block⟩).mono fun i _ e=>by simp only[Qa]at e;exact e.symm
 have T3:xA _:=b;have H:xA (s.ownsMap prog 9 oE m (vA L+1) (DataW.put (eE (L.map fun p=>(p.1.N,eF p.2))) (kL t.N) (eF x))):=K;have W:xA (uD s (fun g=>F.1.size<=g) x ⟨t.N,t.L,[],[]⟩ 0):=G.keep fun g hg A=>⟨b.block g hg (by omega),A⟩
 have hmb:q.1.size<=m:=X.o.mB;have B3:xA _:=(H0.o.trans (y.mono J)).trans (b.below (by have:=y.size;omega) (fun k hk=>by omega));have X3:xA (iB s w.1.size #[nA t.N,lA mA t.L,oA u (vA t.M) B,oA v (vA t.Z) C] 85):=b.blk X2.o (by omega);have L3:xA (iB s l (oW c n m) 154):=b.blk L2.o X.o.lm.symm;have x0:cC Z l 7 (.map (bA m)):=L2.o.cell 7;have x1:cC Z w.1.size 0 (nA t.N):=X2.o.cell 0;have Z:=o.size;have Z:=b.size;have Z:xA _:=(bB.of y).trans' b;clear o y N K z b G X1 X2 L2 O r D;go_upto_region 4 with fail;go_cut [25] (fun _ o=>o=s)
 case first=>
  go_region
  go_wp2_with fail;go_meet;exact rfl
 subst hcut;clear I x0 x1;have G:cC wc w.1.size 2 (oA u (vA t.M) B):=X3.o.cell 2;go_wp2_with fail;refine aC (U.o _ x wc W.o B3.o (fun g hg=>by omega)) ?_;rintro w4 ⟨o,d⟩;have s:xA _:=o;have T4:xA _:=d;have P:xA _:=Z.o.trans (d.mono fun i _ e=>La (by omega));have X4:xA (iB w4 w.1.size #[nA t.N,lA mA t.L,oA u (vA t.M) B,oA v (vA t.Z) C] 85):=d.blk X3.o (by omega);have L4:xA (iB w4 l (oW c n m) 154):=d.blk L3.o (by omega);have B4:xA _:=B3.o.trans (d.below (by omega) (fun k hk=>by omega));clear o d G U X3 L3 W B3 Z;by_cases o:jM t.M=cA
 .rw[o]at j |-
  go_wp2;go_ret;exact⟨fB (by rw[j.o];simp),fun h=>absurd h (by rw[j.o];simp),P.o⟩
 have R:jM t.M=dA:=by simpa using o
 have G:xA (uD w4 (fun g=>F.1.size<=g) x ⟨t.N,t.L,t.M,[]⟩ 0):=(s.o R).keep fun g _ A=>⟨rfl,by rcases A with A|A<;>omega⟩
 rw[R]at j |-
 clear o R s;have Z:cC w4 w.1.size 3 (oA v (vA t.Z) C):=X4.o.cell 3;go_wp2_with fail;refine aC (HSS.o _ x w4 G.o B4.o (fun g hg=>by omega) L4.o (by omega)) ?_;rintro o ⟨V,f⟩;have Q:xA _:=P.o.trans (f.mono fun i _ e=>La (by omega));have s:=T4.o.size;by_cases W:fL c.w n t.Z=cA
 .rw[W]at j |-
  clear V f;go_wp2;go_ret;exact⟨fB (by rw[j.o];simp),fun h=>absurd h (by rw[j.o];simp),Q.o⟩
 have U:fL c.w n t.Z=dA:=by simpa using W
 have O:xA (uD o (fun g=>F.1.size<=g) x t (vA t.Z)):=by
  have:=(V U).keep (w':=o) (S':=fun g=>F.1.size<=g) fun g _ A=>⟨rfl,by rcases A with A|A<;>omega⟩
  rw[Ya]at this;exact this
 have s:xA _:=T4.o.trans' f;rw[U]at j |-
 have I:xA (nE o (q.1.size<=·) l m c n (gC (·.N) t Y) M):=by
  have:=pr X.o (fun g hg=>Ua J hg) HGN.o B1.o B2.o hx T3.o H.o s.o O.o hM;rw[uS (key':=fun t:aB=>t.N) (fun p:aB×Nat=>p.1) (fun _=>rfl),HLE.o]at this;exact this
 clear W U V f s T4 HSS G B4 L4 X4 P Z H T3 X;have m:xA (dI 123 #[qA (bA ⟨x,0,aA⟩)] o (pA (aF t))):=SR x t _ _ o O.o;go_wp2_with fail;apply lK m.o;clear m O;cases yA:aF t with
 |true=>
  rw[yA]at j;go_wp2;go_ret;exact⟨fB (by rw[j.o];rfl),fun h=>absurd h (by rw[j.o];simp),Q.o⟩
 |false=>
  rw[yA]at j;go_wp2;go_ret;exact⟨fB (by rw[j.o];rfl),fun _=>I.o,Q.o⟩
end
section
open Go.Maps
def nE.re{w q:eA}{B i:Nat->Prop}{l m:Nat}{c:lC}{b:Int}{o:List aB}{M:Nat}(h:nE w B l m c b o M)(d:∀g,g<w.1.size->B g->q.heap[g]?=w.heap[g]?/\i g):nE q i l m c b o M:=by
 obtain⟨T,L,h,e⟩:=h;have k:=d l (zA h.blk) h.lB;have n:=d m h.ten.lt h.mB;refine⟨T,L,{ h with blk:=k.1.trans h.blk,ten:=?_,idx:=fun p u=>(h.idx p u).keep fun g j f=>⟨(d g j f.1).1,(d g j f.1).2,f.2⟩,lB:=k.2,mB:=n.2},e⟩;obtain⟨s,a,t,r⟩:=h.ten;exact⟨s,a,n.1.trans t,r⟩
def aRc(a:List aB)(M:Nat):Prop:=∀i(h:i<vA a),a[i].N.size<=maxLen/\(∀j(b:j<vA a[i].M),a[i].M[j].s.size<=1000000000)/\(∀j(b:j<vA a[i].Z),a[i].Z[j].s.size<=1000000000)/\vA a[i].M<=500000000/\vA a[i].Z<=500000000/\vA a[i].Z<=M
def bm(c:lC)(a:Int)(b:List aB)(M:Nat)(w:eA)(e:Ending)(d:eA):Prop:=
 (kC c a b=cA/\e=sA (uA #[qA aA,pA cA])/\kB w d)\/
 (kC c a b=dA/\∃l m,e=sA (uA #[qA (bA ⟨l,0,aA⟩),pA dA])/\w.1.size<=l/\nE d (w.1.size<=·) l m c a b M/\kB w d)
def qp(c:lC)(r:Int)(a:iC)(H:Nat)(u:List aB)(M:Nat)(w:eA)(hf:nC w a u)(hfit:aRc u M)(hlen:vA u<=1000000000)(hU:vH w):
 gA prog 34 #[oF c,.agg #[lA mA r,oA a (vA u) H]] w fun e y=>bm c r u M w e y:=by
 have HC:xA _:=fun W=>AH c W;have z:xA (kC c r u=(pH c&&wB r 0 1000000000000&&decide (vA u<=10000) &&mN c.w r u)):=rfl;have HF:xA (nC w a u):=hf;have HB:xA (aRc u M):=hfit;have HU:xA (vH w):=hU;have HWI:xA _:=fun W=>mF r 1000000000000 W;have HCW:xA (pH c=dA->1<=c.w/\c.w<=1000000000):=fun h=>by
  have:wB c.w 1 1000000000=dA:=by
   cases hb:wB c.w 1 1000000000 with
   |true=>rfl
   |false=>rw[pH,hb]at h;simp at h
  exact uL this
 clear hf hfit hU;unfold oF at *;go_enter func34,ntmps34;go_wp2_with fail;apply aC (HC.o _);intro v S;have U:xA _:=oB (oB vB vB) S;have C1:xA (iB v w.1.size #[lA mA c.w,lA mA c.tl,lA mA c.ml,lA mA c.sh,lA mA c.ha,lA mA c.sg] 46):=yA (((iB.new _ _ _).alloc _).z S);have S1:xA _:=yA (by have:=(iB.new (w.alloc (tA #[lA mA c.w,lA mA c.tl,lA mA c.ml,lA mA c.sh,lA mA c.ha,lA mA c.sg] 46)) #[lA mA r,oA a (vA u) H] 41).z S;simpa using this);have s0:v.cell? ⟨w.1.size+1,0,aA⟩=bA (lA mA r):=S1.o.cell 0;have s1:v.cell? ⟨w.1.size+1,1,aA⟩=bA (oA a (vA u) H):=S1.o.cell 1;have k0:v.cell? ⟨w.1.size,0,aA⟩=bA (lA mA c.w):=C1.o.cell 0;have k1:v.cell? ⟨w.1.size,1,aA⟩=bA (lA mA c.tl):=C1.o.cell 1;have k2:v.cell? ⟨w.1.size,2,aA⟩=bA (lA mA c.ml):=C1.o.cell 2;have k3:v.cell? ⟨w.1.size,3,aA⟩=bA (lA mA c.sh):=C1.o.cell 3;have k4:v.cell? ⟨w.1.size,4,aA⟩=bA (lA mA c.ha):=C1.o.cell 4;have k5:v.cell? ⟨w.1.size,5,aA⟩=bA (lA mA c.sg):=C1.o.cell 5;have hs1l:=zA S1.o;clear S HC;cases g0:pH c
 .rw[g0]at z;go_wp2;go_ret2;exact Ca ⟨by rw[z.o];simp,rfl,U.o⟩
 obtain⟨hw0,hw1⟩:=HCW.o g0;rw[g0]at z;clear g0 HCW;go_wp2_with fail;refine wE (HWI.o _) ?_;clear HWI;cases g1:wB r 0 1000000000000
 .rw[g1]at z;go_wp2;go_ret2;exact Ca ⟨by rw[z.o];simp,rfl,U.o⟩
 obtain⟨hn0,hn1⟩:=uL g1;rw[g1]at z;clear g1;by_cases g2:(10000:Int)<vA u
 .rw[show decide (vA u<=10000)=cA by simp;omega]at z;go_wp2;go_ret2;exact Ca ⟨by rw[z.o];simp,rfl,U.o⟩
 have Z:xA (kC c r u=mN c.w r u):=by show _=_;rw[z.o,show decide (vA u<=10000)=dA by simp;omega];simp
 clear z;have hmm:=@run_makeMap prog;go_upto_region 3 with fail;go_cut [6] (fun s wx=>s=qA (bA ⟨v.1.size+1,0,aA⟩)/\wx=(v.alloc (.map #[] 0)).alloc (tA (oW c r v.1.size) 154))
 case first=>
  go_wp2;go_meet;exact⟨rfl,rfl⟩
 obtain⟨rfl,hwc⟩:=hcut;have L0:xA (nE wc (v.1.size<=·) (v.1.size+1) v.1.size c r (u.take 0) M):=by
  rw[hwc];refine⟨fun _=>aA,[],?_,rfl⟩;exact {
   blk:=by have:=iB.new (v.alloc (.map #[] 0)) (oW c r v.1.size) 154;simpa using this
   ten:=(eA.ownsMap_made v _ _ _).alloc _
   rise:=Gd
   idx:=fun p L=>by cases L
   nd:=List.nodup_nil
   tl:=rfl
   tm:=rfl
   lB:=Gf _
   mB:=Ia _}
 have BC:xA (kB v wc):=by rw[hwc];exact oB vB vB
 have s2:=(BC.o.cell hs1l).trans s1;have HU1:xA (vH v):=HU.o.z U.o;have HF1:xA (nC v a u):=HF.o.z U.o;clear hwc hmm s0 s1 k0 k1 k2 k3 k4 k5 C1 HU HF;go_wp2;clear s2;go_loopw [7,8,33] (fun _ _ i wr=>∃k:Nat,k<=vA u/\i=lA mA k/\eI (xN c.w r u) k=dA/\nE wr (v.1.size<=·) (v.1.size+1) v.1.size c r (u.take k) M/\kB v wr) (fun _ _ i _=>vA u-(intOf i).toNat)
 case atStart=>exact⟨0,Oa _,rfl,rfl,L0.o,BC.o⟩
 case round=>
  obtain⟨k,hk,rfl,hok,hled,hbel⟩:=hrel;have HOK:xA _:=hok;have E:xA (nE wr (v.1.size<=·) (v.1.size+1) v.1.size c r (u.take k) M):=hled;have x:xA _:=hbel;clear hok hled hbel L0 BC;by_cases C:k<vA u
  .obtain ⟨b,o,N,P,O,Q,rfl,K,f,l,m,n,p1,p2⟩:=HF1.o.at C;obtain⟨n1,n2,n3,n4,n5,n6⟩:=HB.o k C;have HAT:xA (xN c.w r u k=(qO u k&&yP c.w r u[k])):=zW C;have HFAIL:xA (xN c.w r u k=cA->kC c r u=cA):=fun h=>by rw[Z.o];exact fQ h C
   have Y:xA (0<k->∃I:gB,qO u k=aK I u[k].N/\v.cell? ⟨b,o+(k-1)*4,aA⟩=bA (nA I)):=fun h0=>by
    refine⟨_,rW h0 C,?_⟩;obtain⟨b',o',_,_,_,_,e,_,u0,_⟩:=HF1.o.at (i:=k-1) (by omega)
    simp only[Qa,Addr.mk.injEq,Cc]at e;rw[e.1,e.2];exact u0
   have HPZ:xA (k=0->qO u k=dA):=fun h0=>by subst h0;rfl
   have HTK:xA (qO u k=dA->gC (·.N) u[k] (u.take k)=u.take (k+1)/\zC (·.N) u[k].N (u.take k)=aA):=fun h=>SW (key:=fun t:aB=>t.N) C (by
    apply fU;intro j hj;simp only[Hb]at hj;by_cases e:j+1=k
    .subst e;rw[rW (by omega) C]at h;simpa using h
    have:=yO HOK.o (k:=j+1) (by omega);rw[zW (by omega),Sa]at this;have h1:=this.1;rw[rW (by omega) (by omega)]at h1;simpa using h1)
   have HTL:xA (vA (u.take k)<=1000000000):=by show _<=_;rw[Hb];omega
   have z0:=(x.o.cell K).trans f;have z1:=(x.o.cell K).trans l;have z2:=(x.o.cell K).trans m;have z3:=(x.o.cell K).trans n;generalize u[k]=T at *;have X:xA (∀W,nE W (v.1.size<=·) (v.1.size+1) v.1.size c r (u.take k) M->kB v W->qO u k=dA->gA prog 78 #[qA (bA ⟨v.1.size+1,0,aA⟩),.agg #[nA T.N,lA mA T.L,oA N (vA T.M) P,oA O (vA T.Z) Q]] W fun e y=>e=sA (pA (yP c.w r T))/\(yP c.w r T=dA->nE y (v.1.size<=·) (v.1.size+1) v.1.size c r (u.take (k+1)) M)/\bB (·=v.1.size) W y):=fun W hW hb L=>by
    refine(aKn (v.1.size+1) v.1.size T N O P Q c r (u.take k) M v W hW hb HU1.o p1 p2 (HTK.o L).2 n1 n2 n3 n4 n5 HTL.o n6 hn0 hn1 hw0 hw1).mono ?_;rintro e y ⟨h1,h2,h3⟩;rw[(HTK.o L).1]at h2;exact⟨h1,h2,h3⟩
   have hTBG:v.1.size+1<wr.1.size:=by obtain⟨_,_,hz,_⟩:=E.o;exact zA hz.blk
   go_upto_region 7 with fail;have G:xA (iB (wr.alloc (tA #[nA T.N,lA mA T.L,oA N (vA T.M) P,oA O (vA T.Z) Q] 85)) wr.1.size #[nA T.N,lA mA T.L,oA N (vA T.M) P,oA O (vA T.Z) Q] 85):=iB.new _ _ _;have A:xA (kB v (wr.alloc (tA #[nA T.N,lA mA T.L,oA N (vA T.M) P,oA O (vA T.Z) Q] 85))):=x.o.trans (vB.mono x.o.size);have HL2:xA (nE (wr.alloc (tA #[nA T.N,lA mA T.L,oA N (vA T.M) P,oA O (vA T.Z) Q] 85)) (v.1.size<=·) (v.1.size+1) v.1.size c r (u.take k) M):=E.o.z vB;generalize wr.alloc (tA #[nA T.N,lA mA T.L,oA N (vA T.M) P,oA O (vA T.Z) Q] 85)=W at *;generalize wr.1.size=J at *;have x0:W.cell? ⟨w.1.size+1,1,aA⟩=bA (oA (bA ⟨b,o,aA⟩) (vA u) H):=(A.o.cell hs1l).trans (S1.o.cell 1);have x1:W.cell? ⟨J,0,aA⟩=bA (nA T.N):=G.o.cell 0;have x2:W.cell? ⟨J,1,aA⟩=bA (lA mA T.L):=G.o.cell 1;have x3:W.cell? ⟨J,2,aA⟩=bA (oA N (vA T.M) P):=G.o.cell 2;have x4:W.cell? ⟨J,3,aA⟩=bA (oA O (vA T.Z) Q):=G.o.cell 3;have HPR2:xA (0<k->∃I:gB,qO u k=aK I T.N/\W.cell? ⟨b,o+(k-1)*4,aA⟩=bA (nA I)):=fun h0=>by
    obtain⟨I,e1,e2⟩:=Y.o h0;exact⟨I,e1,(A.o.cell K).trans e2⟩
   have V:xA _:=fun L W' hW=>X.o W' (HL2.o.z hW) (A.o.trans (hW.mono A.o.size)) L;have F:=zA G.o;have hWs:=A.o.size;have HBT:xA _:=fun y(hw:bB (·=v.1.size) W y)=>A.o.trans (hw.below hWs (fun k hk=>by omega));clear z0 z1 z2 z3 f l m n p1 p2 Y X E x G wr;go_cut [57] (fun s wx=>s=pA (!(xN c.w r u k))/\(xN c.w r u k=dA->nE wx (v.1.size<=·) (v.1.size+1) v.1.size c r (u.take (k+1)) M)/\kB v wx)
   case first=>
    by_cases h0:(0:Int)<k
    .have h0':0<k:=by omega
     obtain⟨I,L,cp⟩:=HPR2.o h0';obtain⟨j,hj⟩:∃j,j=k-1:=⟨_,rfl⟩
     rw[<-hj]at cp;have hi0:IntKind.i64.wrap ((k:Int)-1)=(j:Int):=by
      have:(k:Int)-1=(j:Int):=by omega
      rw[this];simp only[IntKind.wrap,IntKind.bits,IntKind.signed];simp;omega
     have hi1:(j:Int)<vA u:=by omega
     clear hj;by_cases hb:Op.bytesLess I.toList T.N.toList=dA
     .have D:qO u k=dA:=by rw[L];exact hb
      have HLD:=yA (V.o D);have HV:xA (xN c.w r u k=yP c.w r T):=by show _=_;rw[HAT.o,D,Oc]
      clear L D;have HKS:xA (∀y,bB (·=v.1.size) W y->y.cell? ⟨w.1.size+1,1,aA⟩=bA (oA (bA ⟨b,o,aA⟩) (vA u) H)/\y.cell? ⟨b,o+j*4,aA⟩=bA (nA I)/\y.cell? ⟨J,0,aA⟩=bA (nA T.N)/\y.cell? ⟨J,1,aA⟩=bA (lA mA T.L)/\y.cell? ⟨J,2,aA⟩=bA (oA N (vA T.M) P)/\y.cell? ⟨J,3,aA⟩=bA (oA O (vA T.Z) Q)):=fun y hw=>by
       have hg:∀g,g<W.1.size->g≠v.1.size->∀q,y.cell? ⟨g,q,aA⟩=W.cell? ⟨g,q,aA⟩:=fun g h1 h2 q=>eA.cell?_of_block (hw.block g h1 h2);exact⟨(hg _ (by omega) (by omega) _).trans x0,(hg _ (by omega) (by omega) _).trans cp,(hg _ F (by omega) _).trans x1,(hg _ F (by omega) _).trans x2,(hg _ F (by omega) _).trans x3,(hg _ F (by omega) _).trans x4⟩
      go_region_held3 (fun y=>y.cell? ⟨w.1.size+1,1,aA⟩=bA (oA (bA ⟨b,o,aA⟩) (vA u) H)/\y.cell? ⟨b,o+j*4,aA⟩=bA (nA I)/\y.cell? ⟨J,0,aA⟩=bA (nA T.N)/\y.cell? ⟨J,1,aA⟩=bA (lA mA T.L)/\y.cell? ⟨J,2,aA⟩=bA (oA N (vA T.M) P)/\y.cell? ⟨J,3,aA⟩=bA (oA O (vA T.Z) Q))
       (first|go_keep|exact HKS.o _ hs8)
       (first|(go_at_call 78;refine aC (HLD.o _ (by repeat (first|with_reducible exact eD|exact eD.drew|with_reducible refine Below.drew ?_))) ?_;rintro w8 ⟨B,ht8⟩;have hs8:bB (·=v.1.size) W w8:=(bB.refl _ _).drew.trans' ht8))
      all_goals(go_wp2_with fail;go_meet)
      all_goals exact⟨by rw[HV.o],fun h=>by rw[HV.o]at h;exact B h,HBT.o _ hs8⟩
     have hb':Op.bytesLess I.toList T.N.toList=cA:=by simpa using hb
     have HV:xA (xN c.w r u k=cA):=by show _=_;rw[HAT.o,L,aK,hb'];rfl
     clear L hb;go_quiet (fail)
     go_wp2_with fail;go_meet;exact⟨by rw[HV.o];rfl,fun h=>absurd h (by rw[HV.o];simp),below_drewN A.o _⟩
    have hd':decide (0<k)=cA:=by simp;omega
    have hnk:¬0<k:=by omega
    have D:=HPZ.o (by omega);have HLD:=yA (V.o D);have HV:xA (xN c.w r u k=yP c.w r T):=by show _=_;rw[HAT.o,D,Oc]
    clear D;refine pR 17 (by kernel_rfl) (by kernel_rfl) ?_;simp only[Rg,List.take_zero,Sg,Kf];have hnel:Nonempty Unit:=⟨()⟩
    repeat (go_big_quiet_step (fail))
    refine wpQuiet_nil ?_;go_wp2_with(first|(go_at_call 78;apply aC (HLD.o _ eD.drew);rintro w8 ⟨B,ht8⟩));go_meet;exact⟨by rw[HV.o],fun h=>by rw[HV.o]at h;exact B h,HBT.o _ ((bB.refl _ _).drew.trans' ht8)⟩
   obtain⟨rfl,B,hb8⟩:=hcut;rename eA=>w8;have HB8:xA _:=hb8;by_cases d:xN c.w r u k=cA
   .have HF4:xA _:=HFAIL.o d;rw[d];clear d B hb8;go_wp2;go_ret2;exact Ca ⟨HF4.o,rfl,oB U.o HB8.o⟩
   have R:xN c.w r u k=dA:=by simpa using d
   have HF4:xA (eI (xN c.w r u) (k+1)=dA):=by show _=_;rw[sL,HOK.o,R];rfl
   have HL8:xA (nE w8 (v.1.size<=·) (v.1.size+1) v.1.size c r (u.take (k+1)) M):=B R;rw[R];clear d R B hb8;go_wp2;exact⟨⟨k+1,by omega,by go_num,HF4.o,HL8.o,HB8.o⟩,by simp[intOf];omega⟩
  have ek:k=vA u:=by omega
  have HEND:xA (kC c r u=dA):=by show _=_;rw[Z.o];have:=HOK.o;rw[ek]at this;exact this
  have HLE:xA (nE wr (v.1.size<=·) (v.1.size+1) v.1.size c r u M):=by have:=E.o;rw[ek,Rb]at this;exact this
  have hz:=U.o.size;go_wp2;go_ret2;exact La ⟨HEND.o,_,_,rfl,by omega,HLE.o.re (fun g _ hg=>⟨rfl,Ua hz hg⟩),oB U.o x.o⟩
end
section
open Go.Maps
def mR{v:Value}{g:Nat}{ps:List MemPlace}(h:oE v=bA (eF g,ps)):v=qA (bA ⟨g,0,aA⟩):=by
 unfold oE at h;split at h
 .rename_i a;simp only[Qa,Dc,eF,DataW.lit.injEq,Lit.int.injEq,true_and]at h;have:=h.1;have:a=g:=by omega
  rw[this]
 .simp[eF]at h
 cases h
def NI{v:Value}{a:List MemPlace}(h:oE v=bA (DataW.nil,a)):v=qA aA:=by
 unfold oE at h;split at h;simp[eF]at h;rfl
 cases h
def aQn(w:eA):(zeroValue 192).run prog w=.ok (qA aA) w:=by kernel_rfl
def aAr(L:List (aB×Nat))(a:gB)(w:eA)(e:Ending)(b:eA):Prop:=
 (∃p,zC (fun p:aB×Nat=>p.1.N) a L=bA p/\e=sA (uA #[qA (bA ⟨p.2,0,aA⟩),pA dA])/\b=w)\/
 (zC (fun p:aB×Nat=>p.1.N) a L=aA/\∃x,e=sA (uA #[qA (bA ⟨x,0,aA⟩),pA cA])/\w.1.size<=x/\uD b (fun g=>w.1.size<=g) x ⟨a,-1,[],[]⟩ 0/\kB w b)
def SF(l m:Nat)(a:gB)(c:lC)(j:Int)(B:Nat->Prop)(T:Nat->Option Nat)(L:List (aB×Nat))(M:Nat)(w:eA)(h:iL w B T l m c j L M)(q:a.size<=maxLen):
 gA prog 143 #[qA (bA ⟨l,0,aA⟩),nA a] w fun e s=>aAr L a w e s:=by
 have y:cC w l 7 (.map (bA m)):=h.blk.cell 7;obtain⟨v,t,b,f⟩:=h.ten.look_ok dM underlying152 (aQn w) (zd:=.nil) (zp:=[]) rfl (qN q);rw[ed,iT (key:=fun p:aB×Nat=>p.1.N) (fun p=>eF p.2)]at *;clear h;cases hg:zC (fun p:aB×Nat=>p.1.N) a L with
 |some p=>
  rw[hg]at b f;have d:=mR f;subst d;have i:xA _:=hg;clear hg f;simp only[Wf]at b;go_enter func143,ntmps143;go_wp2;go_ret2;exact Ca ⟨p,i.o,rfl,rfl⟩
 |none=>
  rw[hg]at b f;have d:=NI f;subst d;have i:xA _:=hg;clear hg f;simp only[Xf]at b;have g:xA _:=fun W=>IZ (-1) a W;go_enter func143,ntmps143;go_wp2_with fail;refine(g.o _).mono ?_;rintro e u ⟨x,rfl,r,k,o⟩;have n:=yA k;clear k g;go_wp2;go_ret2;exact La ⟨i.o,x,rfl,r,n.o,o⟩
def ND(l m x:Nat)(c:lC)(a:Int)(t:aB)(S:Nat->Prop)(M:Nat)(w:eA)(d:iB w l (oW c a m) 154)(h:uD w S x t M):
 dI 188 #[qA (bA ⟨l,0,aA⟩),qA (bA ⟨x,0,aA⟩)] w (lA mA (if t.L = -1 then c.tl else t.L)):=by
 obtain⟨o,p,j,n,Q,k,D,h⟩:=h;have g:cC w x 0 (lA mA t.L):=h.blk.cell 0;have i:cC w l 1 (lA mA c.tl):=d.cell 1;clear h d;by_cases b:t.L = -1
 .rw[Ma b];go_enter func188,ntmps188;go_wp2;go_ret;exact⟨rfl,rfl⟩
 rw[Ja b];go_enter func188,ntmps188;go_wp2;go_ret;exact⟨rfl,rfl⟩
def aKp{w:eA}{e:Nat}{c:List dB}(h:w.ownsMap prog 9 (plainElem prog 3) e (vA c) (eE (c.map fun p=>(p.s,xI p.n)))){m:gB}(f:m.size<=maxLen):
 ∃v:Int,(Instr.lookup 226 (.map (bA e)) (nA m) dA).run prog w=.ok (uA #[lA mA v,pA (zC (·.s) m c).isSome]) w/\∀p,zC (·.s) m c=bA p->v=p.n:=by
 obtain⟨v,j,b,i⟩:=h.look_ok dM underlying226 (PZ w) (zd:=xI 0) (zp:=[]) (plainElem_int underlying3 (by decide)) (qN f);rw[ed (key:=fun p:dB=>p.s) (val:=fun p=>xI p.n)]at b;obtain⟨a,rfl,d,_⟩:=plainElem_int_inv underlying3 i;refine⟨a,b,fun p g=>?_⟩;rw[iT (key:=fun p:dB=>p.s) (fun p=>xI p.n),g]at d;simp[xI]at d;exact d.1.symm
def yU(l m x:Nat)(c:lC)(g:Int)(t:aB)(S:Nat->Prop)(M:Nat)(met:gB)(w:eA)(i:iB w l (oW c g m) 154)(h:uD w S x t M)(j:met.size<=maxLen):
 dI 189 #[qA (bA ⟨l,0,aA⟩),qA (bA ⟨x,0,aA⟩),nA met] w (lA mA (mG t.M met c.ml)):=by
 obtain⟨k,z,r,y,Q,u,D,h⟩:=h;have o:cC w x 1 (.map (bA k)):=h.blk.cell 1;have q:cC w l 2 (lA mA c.ml):=i.cell 2;obtain⟨v,a,d⟩:=aKp h.lims j;have b:xA _:=ZJ h.rm met c.ml;clear h i;cases hg:zC (fun p:dB=>p.s) met t.M with
 |some p=>
  rw[hg]at a b;have f:=d p hg;subst f;simp only[Wf]at a;clear d hg;go_enter func189,ntmps189;go_wp2;go_ret;exact⟨fD (by rw[b.o];rfl),rfl⟩
 |none=>
  rw[hg]at a b;simp only[Xf]at a;clear d hg;go_enter func189,ntmps189;go_wp2;go_ret;exact⟨fD (by rw[b.o];rfl),rfl⟩
end
section
open Go.Maps
def ji{L:List (aB×Nat)}{a:List aB}(e:L.map (·.1)=a)(k:gB):zC (·.N) k a=(zC (fun p:aB×Nat=>p.1.N) k L).map (·.1):=by grind [zC,lW]
def bp(c:lC)(d:Int)(h:List aB)(l m:Nat)(a:gB)(w:eA)(e:Ending)(f:eA):Prop:=
 ∃x b S g,e=sA (uA #[qA (bA ⟨x,0,aA⟩),pA b])/\uD f S x (bC h a) g/\iB f l (oW c d m) 154/\kB w f
def mx(l m:Nat)(a:gB)(c:lC)(b:Int)(B:Nat->Prop)(f:List aB)(M:Nat)(w:eA)(h:nE w B l m c b f M)(n:a.size<=maxLen):
 gA prog 143 #[qA (bA ⟨l,0,aA⟩),nA a] w fun e o=>bp c b f l m a w e o:=by
 obtain⟨T,L,h,e⟩:=h;refine(SF l m a c b B T L M w h n).mono ?_;rintro q s (⟨p,d,rfl,rfl⟩|⟨d,x,rfl,r,k,j⟩)
 .have i:bC f a=p.1:=by rw[bC,ji e,d];rfl
  refine⟨p.2,dA,(fun g=>B g/\T g=bA p.2),M,rfl,?_,h.blk,eD⟩;rw[i];exact h.idx p (yM d).1
 have i:bC f a=⟨a,-1,[],[]⟩:=by rw[bC,ji e,d];rfl
 refine⟨x,cA,(fun g=>w.1.size<=g),0,rfl,?_,h.blk.z j,j⟩;rw[i];exact k
def UF{w:eA}{c M:Nat}{D:DataW Unit}{m:gB}{n:Nat}(h:w.ownsMap prog 9 (plainElem prog 3) c M D)(d:D.atKey (kL m) (xI 0)=xI n)(e:m.size<=maxLen):
 (Instr.lookup 226 (.map (bA c)) (nA m) cA).run prog w=.ok (lA mA n) w:=by
 obtain⟨v,a,b,_⟩:=h.lookup_int dM underlying226 underlying3 (PZ _) (qN e);rw[a];have:(xI v:DataW Unit)=xI n:=b.symm.trans d;simp[xI]at this;rw[this]
end
section
open Go.Maps
def uT(s:gB)(w:eA)(j:s.size<=1000000000)(d:vH w):qD 140 #[nA s] w (pA (s.toList.isEmpty||yE s)):=by
 have h:xA (qD 162 #[nA s] w (pA (yE s))):=mW s w j d;clear d;by_cases b:s.toList.isEmpty=dA
 .have a:xA ((s.toList.isEmpty||yE s)=dA):=by show _=_;rw[b];rfl
  go_enter func140,ntmps140;go_wp2;go_ret;exact⟨fB (by rw[a.o]),eD⟩
 have i:s.toList.isEmpty=cA:=by simpa using b
 have a:xA ((s.toList.isEmpty||yE s)=yE s):=by show _=_;rw[i];rfl
 clear b;go_enter func140,ntmps140;go_wp2_with fail;apply aC h.o;intro k f;have g:=yA f;clear f;go_wp2;go_ret;exact⟨fB (by rw[a.o]),g.o⟩
def aRy{c:lC}{a:Int}{b:List aB}(h:kC c a b=dA)(k:gB): -1<=(bC b k).L:=by
 have j:mN c.w a b=dA:=by
  rw[kC,Sa]at h;exact h.2
 unfold bC;cases hg:zC (·.N) k b with
 |none=>exact Xd _
 |some t=>
  obtain⟨i,f,e⟩:=Ib (yM hg).1;have d:=yO j f;rw[xN,Va f,e]at d;have g:wB t.L (-1) 1000000=dA:=by
   cases hb:wB t.L (-1) 1000000 with
   |true=>rfl
   |false=>simp[yP,hb]at d
  exact(uL g).1
end
section
open Go.Maps
def bB.mapped{w a:eA}{b:Nat}(h:w.mapTurned a b):bB (·=b) w a:=(bB.grown h.grown).mono fun i _ e=>by simp only[Qa]at e;exact e.symm
def eS.newLimit{w j:eA}{S:Nat->Prop}{x:Nat}{t:aB}{M f i c:Nat}{d:Value}{Q:List (dB×Nat)}{l:List tI}{D:DataW Unit}{a:Int}(h:eS w S x t M f i c d Q l D)(b:bB (·=x) w j)
(m:iB j x #[lA mA a,.map (bA f),.map (bA i),.map (bA c),d] 232):uD j S x ⟨t.N,a,t.M,t.Z⟩ M:=by
 refine⟨f,i,c,d,Q,l,D,?_⟩;exact { h with
  blk:=m
  lims:=b.map h.lims (aD h.lims h.blk)
  Z:=b.map h.Z (aD h.Z h.blk)
  cnts:=b.map h.cnts (aD h.cnts h.blk)
  cells:=fun q k=>b.blk (h.cells q k) (h.dx q k)
  row:=b.row h.row (fun g n e=>(h.di g n).1 e) }
def aMx(x:Nat)(c:gB)(b:Int)(t:aB)(S:Nat->Prop)(M:Nat)(w:eA)(h:uD w S x t M)(I:c.size<=maxLen)(G : -1<=b)(H:b<=1000000)(z:vA t.M<=1000000000):
 gA prog 324 #[qA (bA ⟨x,0,aA⟩),nA c,lA mA b] w fun e B=>e=sA (uA #[])/\uD B S x (vI t c b) M/\bB S w B:=by
 obtain⟨u,K,C,J,Q,O,D,h⟩:=h;by_cases l:c.toList.isEmpty=dA
 .have k:xA (vI t c b=⟨t.N,b,t.M,t.Z⟩):=by show _=_;unfold vI;rw[Ma l]
  have L:cC w x 0 (lA mA t.L):=h.blk.cell 0;have a:=h.blk.free 0;have g:bB (·=x) w (w.setCell ⟨x,0,aA⟩ (lA mA b)):=(bB.refl (·=x) w).setCell (Ca rfl) 0 _;have y:iB (w.setCell ⟨x,0,aA⟩ (lA mA b)) x #[lA mA b,.map (bA u),.map (bA K),.map (bA C),J] 232:=by have:=h.blk.set 0 (lA mA b);simpa using this
  have n:xA (uD (w.setCell ⟨x,0,aA⟩ (lA mA b)) S x (vI t c b) M):=by
   refine yA ?_;rw[k.o];exact h.newLimit g y
  have m:xA (bB S w (w.setCell ⟨x,0,aA⟩ (lA mA b))):=g.mono fun i _ e=>by subst e;exact h.sx
  clear h g y k;go_enter func324,ntmps324;go_wp2;go_end0;exact⟨rfl,n.o,m.o⟩
 have E:c.toList.isEmpty=cA:=by simpa using l
 have N:cC w x 1 (.map (bA u)):=h.blk.cell 1;have v:xA _:=qN I;by_cases F:b = -1
 .have k:xA (vI t c b={ t with M:=xE (·.s) c t.M}):=by show _=_;unfold vI;rw[Ja l,Ma (by omega)]
  have r:=yA h;clear l h;subst F;go_enter func324,ntmps324;go_wp2_with(at_delete;refine wpList_delete_own _ rfl _ _ 226 9 rfl 3 dM underlying226 (plainElem prog 3) u _ _ rfl r.o.lims _ _ rfl v.o ?_;intro q f d);have g:=bB.mapped d;have n:xA (uD q S x (vI t c (-1)) M):=by
   refine yA ?_;rw[k.o];exact r.o.newLims g f (dj (key:=fun p:dB=>p.s) (fun p=>xI p.n) c t.M) (iQ r.o.rm)
  have m:xA (bB S w q):=g.mono fun i _ e=>by subst e;exact r.o.sl
  clear f d g;go_end0;exact⟨rfl,n.o,m.o⟩
 have k:xA (vI t c b={ t with M:=gC (·.s) ⟨c,b⟩ t.M}):=by show _=_;unfold vI;rw[Ja l,Ja (by omega)]
 obtain⟨q,A,j,o⟩:=h.lims.store dM underlying226 (by unfold maxLen;omega) (val:=lA mA b) v.o (plainElem_int underlying3 (WalkArith.wf_i64 (by omega)));have g:=bB.mapped o;have n:xA (uD q S x (vI t c b) M):=by
  refine yA ?_;rw[k.o];exact h.newLims g j (LG (key:=fun p:dB=>p.s) (fun p=>xI p.n) ⟨c,b⟩ h.rm) (gK h.rm)
 have m:xA (bB S w q):=g.mono fun i _ e=>by subst e;exact h.sl
 clear h j o g k l;go_enter func324,ntmps324;go_wp2;go_end0;exact⟨rfl,n.o,m.o⟩
def SQ(l m:Nat)(c:lC)(b:Int)(B:Nat->Prop)(T:Nat->Option Nat)(L:List (aB×Nat))(M:Nat)(w:eA)(h:iL w B T l m c b L M):
 dI 212 #[qA (bA ⟨l,0,aA⟩)] w (pA (decide (10000<=vA L))):=by
 have j:cC w l 7 (.map (bA m)):=h.blk.cell 7;have g:=h.ten.len underlying152 3;rw[kN]at g;clear h;by_cases d:10000<=vA L
 .have a:xA (decide (10000<=vA L)=dA):=by show _=_;simpa using d
  generalize vA L=z at *;have f:¬((z:Int)<10000):=by omega
  go_enter func212,ntmps212;go_wp2;go_ret;exact⟨fB (by first|(rw[a.o];simp;omega)|(simp;omega)|simp),rfl⟩
 have a:xA (decide (10000<=vA L)=cA):=by show _=_;simpa using d
 generalize vA L=z at *;have f:(z:Int)<10000:=by omega
 go_enter func212,ntmps212;go_wp2;go_ret;exact⟨fB (by first|(rw[a.o];simp;omega)|(simp;omega)|simp),rfl⟩
def yS{α β:Type}{f:α->β}{l:List α}(h:(l.map f).Nodup){p q:α}(a:p∈l)(b:q∈l)(e:f p=f q):p=q:=by induction l<;>grind
def aBp{w y v:eA}{B:Nat->Prop}{T:Nat->Option Nat}{l m n:Nat}{c:lC}{t:Int}{L:List (aB×Nat)}{M M':Nat}{p:aB×Nat}{t':aB}(h:iL w B T l m c t L M)(F:∀g,w.1.size<=g->B g)(C:p∈L)(A:t'.N=p.1.N)
(b:bB (fun g=>B g/\T g=bA p.2) w y)(H:uD y (fun g=>(B g/\T g=bA p.2)\/w.1.size<=g) p.2 t' M')(G:M<=M')(d:bB (·=m) y v)
(u:v.ownsMap prog 9 oE m n (DataW.put (eE (L.map fun p=>(p.1.N,eF p.2))) (kL t'.N) (eF p.2))):
 nE v B l m c t ((gC (fun p:aB×Nat=>p.1.N) (t',p.2) L).map (·.1)) M':=by
 have z:=zA h.blk;have I:=h.ten.lt;have J:=b.size;have s:DataW.put (eE (L.map fun p=>(p.1.N,eF p.2))) (kL t'.N) (eF p.2)=eE ((gC (fun p:aB×Nat=>p.1.N) (t',p.2) L).map fun p=>(p.1.N,eF p.2)):=
  LG (key:=fun p:aB×Nat=>p.1.N) (fun p=>eF p.2) (t',p.2) h.rise
 have x:∀q∈L,q.1.N≠t'.N->q.2≠p.2:=fun q o j e=>by
  have:=yS h.nd o C e;rw[this,A]at j;exact j rfl
 have i:∀g,g<w.1.size->¬(B g/\T g=bA p.2)->g≠m->v.heap[g]?=w.heap[g]?:=fun g k D E=>by
  rw[d.block g (by omega) E,b.block g k D]
 refine⟨fun g=>if g<w.1.size then T g else bA p.2,_,?_,rfl⟩;exact {
  blk:=(i l z (fun e=>by rw[h.tl]at e;cases e.2) h.lm.symm).trans h.blk
  ten:=by
   have:=VQ u;rw[s,kN]at this;exact this
  rise:=gK h.rise
  idx:=fun q o=>by
   rcases fv h.rise o with rfl|⟨o,j⟩
   .refine H.keep fun g k f=>⟨d.block g k (fun e=>?_),?_,?_⟩
    .subst e;rcases f with f|f
     .rw[h.tm]at f;cases f.2
     omega
    .exact f.elim And.left (F g)
    show (if g<w.1.size then T g else bA p.2)=bA p.2;by_cases r:g<w.1.size
    .rw[Ma r];rcases f with f|f
     .exact f.2
     omega
    rw[Ja r]
   refine ((h.idx q o).mono G).keep fun g k f=>⟨i g k (fun e=>?_) (fun e=>by rw[e,h.tm]at f;cases f.2),f.1,?_⟩
   .have:=x q o j;rw[e.2]at f;exact this (Lc f.2).symm
   show (if g<w.1.size then T g else bA p.2)=_;rw[Ma k];exact f.2
  nd:=by
   rw[IS (key:=fun p:aB×Nat=>p.1.N) (a:=(t',p.2)) (·.2) h.rise C A.symm rfl];exact h.nd
  tl:=by show(if l<w.1.size then T l else _)=aA;rw[Ma z];exact h.tl
  tm:=by show(if m<w.1.size then T m else _)=aA;rw[Ma I];exact h.tm
  lB:=h.lB
  mB:=h.mB}
def aBo{w y s:eA}{B:Nat->Prop}{T:Nat->Option Nat}{l m n:Nat}{c:lC}{i:Int}{L:List (aB×Nat)}{M:Nat}{k:gB}{S:Nat->Prop}(h:iL w B T l m c i L M)(C:∀g,S g->∀q∈L,q.1.N≠k->T g≠bA q.2)(t:∀g,g<w.1.size->S g->T g≠aA)
(a:bB S w y)(b:bB (·=m) y s)(j:s.ownsMap prog 9 oE m n (DataW.del (eE (L.map fun p=>(p.1.N,eF p.2))) (kL k))):
 nE s B l m c i ((xE (fun p:aB×Nat=>p.1.N) k L).map (·.1)) M:=by
 have x:=zA h.blk;have D:=a.size;have f:DataW.del (eE (L.map fun p=>(p.1.N,eF p.2))) (kL k)=eE ((xE (fun p:aB×Nat=>p.1.N) k L).map fun p=>(p.1.N,eF p.2)):=
  dj (key:=fun p:aB×Nat=>p.1.N) (fun p=>eF p.2) k L
 have d:∀g,g<w.1.size->¬S g->g≠m->s.heap[g]?=w.heap[g]?:=fun g u z A=>by
  rw[b.block g (by omega) A,a.block g u z]
 refine⟨T,_,?_,rfl⟩;exact {
  blk:=(d l x (fun e=>t l x e h.tl) h.lm.symm).trans h.blk
  ten:=by
   have:=VQ j;rw[f,kN]at this;exact this
  rise:=iQ h.rise
  idx:=fun q o=>by
   obtain⟨o,v⟩:=wS.1 o;exact(h.idx q o).keep fun g u r=>⟨d g u (fun e=>C g e q o v r.2) (fun e=>by rw[e,h.tm]at r;cases r.2),r⟩
  nd:=h.nd.sublist (List.Sublist.map _ Pf)
  tl:=h.tl
  tm:=h.tm
  lB:=h.lB
  mB:=h.mB}
def xp{L:List (aB×Nat)}{k:gB}:zC (·.N) k (L.map (·.1))=(zC (fun p:aB×Nat=>p.1.N) k L).map (·.1):=ji rfl k
end
