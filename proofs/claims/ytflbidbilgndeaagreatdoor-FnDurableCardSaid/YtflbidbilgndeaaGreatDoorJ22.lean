import Derived.Test.YtflbidbilgndeaaGreatDoorJ20
set_option maxRecDepth 100000
set_option maxHeartbeats 8000000
set_option linter.defProp false
open Bool renaming true->dA,false->cA
open Option renaming some->bA,none->aA
open List renaming length->yA
namespace Go.Proofs.YtflbidbilgndeaaGreatDoor
open Go renaming World->eA,Calls->gA
open Value renaming slice->pA,bool->qA,string->oA,tuple->xA,pointer->sA,int->lA
open Ending renaming returned->uA
open Obj renaming cells->vA
open IntKind renaming i64->mA
open Go.RowKit Tryz
section
open Go.Maps
def ri(a:List kB)(k:Nat)(d:k<yA a)(b:zC (·.s) (a.take (k+1))):
 DataW.put (fE ((a.take k).map λp=>(p.s,eJ p.n))) (kL a[k].s) (eJ a[k].n)=fE ((a.take (k+1)).map λp=>(p.s,eJ p.n)):=by
 obtain⟨c,_⟩:=QY d b;have:=KE (key:=λp:kB=>p.s) (λp=>eJ p.n) a[k] (aCb k (l:=a.take (k+1)) b);rw[List.take_take,Nat.min_eq_left (by omega)]at this;rw[this,c]
def RP(x:Nat)(a:mC)(cap:Nat)(f:List kB)(t:fB)(S:Nat->Prop)(M:Nat)(Y w:eA)(h:vD w S x { t with M:=[] } M)(m:uB Y w)(n:uG Y)(I:jC Y a f)(G:∀g,S g->Y.1.size<=g)(v:∀i(h:i<yA f),f[i].s.size<=1000000000)(J:yA f<=1000000000):
 gA prog 144 #[.pointer (yB x),pA a (yA f) cap] w λe w'=>e=uA (qA (dM f))/\(dM f=dA->vD w' (λg=>S g\/w.1.size<=g) x { t with M:=f} M)/\eB S w w':=by
 have U:cB (vD w S x { t with M:=[] } M):=h;have W:cB _:=m;have Z:cB (uG Y):=n;have n:cB (jC Y a f):=I;have J:cB _:=G;have O:cB _:=v;go_enter func144,ntmps144;go_wp2;go_loopw [5,6,9] (λ_ _ j wr=>∃k:Nat,k<=yA f/\j=zA k/\lI (cM f) k=dA/\vD wr (λg=>S g\/w.1.size<=g) x { t with M:=f.take k} M/\eB S w wr) (λ_ _ j _=>yA f-(intOf j).toNat)
 case atStart=>exact⟨0,Oa _,rfl,rfl,U.o.keep (λg _ hs=>⟨rfl,Ca hs⟩),eB.refl _ _⟩
 case round=>
  obtain⟨k,hk,rfl,U,G,X⟩:=hrel;have Y:cB _:=U;have K:cB (vD wr (λg=>S g\/w.1.size<=g) x { t with M:=f.take k} M):=G;have R:cB _:=X;have G:cB _:=W.o.trans (X.below W.o.size (λk hk hs=>by have:=J.o k hs;omega));by_cases p:k<yA f
  .obtain ⟨pb,po,rfl,hpl,c0,c1⟩:=(n.o.z G.o).at p;have U:cB (cM f k=cA->dM f=cA):=λh=>wP h p;have q:cB _:=AJ p;have J:=O.o k p;have E:cB (0<k->∃l:jB,iM f k=eK l f[k].s/\tC wr pb (po+(k-1)*2) (oA l)):=λm=>by
    refine⟨_,jU m p,?_⟩;obtain⟨b',O,e,_,O,_⟩:=(n.o.z G.o).at (i:=k-1) (by omega)
    simp only[Qa,Addr.mk.injEq,Cc]at e;rw[e.1,e.2];exact O
   have O:cB (k=0->iM f k=dA):=λm=>by subst m;rfl
   have n:=ri f k p;have HTK:cB (cM f k=dA->lI (cM f) (k+1)=dA/\zC (·.s) (f.take (k+1))):=λh=>by
    have W:lI (cM f) (k+1)=dA:=by rw[sL,Y.o,h];rfl
    exact⟨W,KC W (by omega)⟩
   have C:cB _:=n;have N:cB _:=λW n=>mW f[k].s W J n;generalize f[k]=P at *;go_upto_region 4 with fail;have z:cB (nB (wr.alloc (vA #[oA P.s,zA P.n] 96)) wr.1.size #[oA P.s,zA P.n] 96):=nB.new _ _ _;have y:cB (uB wr (wr.alloc (vA #[oA P.s,zA P.n] 96))):=zB;have u:cB (0<k->∃l:jB,iM f k=eK l P.s/\(wr.alloc (vA #[oA P.s,zA P.n] 96)).cell? (dB pb (po+(k-1)*2))=bA (oA l)):=λm=>by
    obtain⟨l,n,J⟩:=E.o m;exact⟨l,n,(zB.cell hpl).trans J⟩
   generalize wr.alloc (vA #[oA P.s,zA P.n] 96)=W at *;have HIW:cB (vD W (λg=>S g\/w.1.size<=g) x { t with M:=f.take k} M):=K.o.z y.o;have HTW:cB _:=R.o.trans' (eB.of y.o);have J:cB _:=G.o.trans (y.o.mono G.o.size);generalize wr.1.size=n at *;go_cut [38] (λs G=>s=qA (!(cM f k))/\uB W G)
   case first=>
    have G:=kC.cells (show tC W n 0 (oA P.s) from z.o.cell 0);have G:=kC.cells (show tC W n 1 (zA P.n) from z.o.cell 1);have G:=kC.there W;have r:cB _:=fun(x:kC W)=>N.o _ (Z.o.z (J.o.trans (x.h.mono J.o.size)));have L:cB _:=λW=>nG P.n W;have T:(∃l:jB,(0:Int)<k/\0<k/\tC W pb (po+(k-1)*2) (oA l)/\Op.bytesLess l.toList P.s.toList=cA/\cB (cM f k=cA))\/iM f k=dA/\(decide ((0:Int)<k)=cA/\decide (0<k)=cA\/∃l:jB,(0:Int)<k/\0<k/\tC W pb (po+(k-1)*2) (oA l)/\Op.bytesLess l.toList P.s.toList=dA):=by
     by_cases m:0<k
     .obtain ⟨l,I,F⟩:=u.o m;cases v:Op.bytesLess l.toList P.s.toList
      .exact Ca ⟨l,by omega,m,F,v,by show _=_;rw[q.o,I,eK,v];simp⟩
      exact La ⟨I.trans v,La ⟨l,by omega,m,F,v⟩⟩
     exact La ⟨O.o (by omega),Ca ⟨by simp;omega,by simp;omega⟩⟩
    obtain⟨l,m,G,F,v,I⟩|⟨J,T⟩:=T
    .have Z:=kC.cells F;refine wB (by kernel_rfl) (by kernel_rfl) ?_;repeat (go_big_quiet_step (first|(go_at_call 209;exact oC (r.o _))|(go_at_call 63;exact uC (L.o _))))
     refine wpQuiet_nil ?_;rintro _ ⟨x,rfl⟩;go_wp2_with fail;go_meet;exact⟨by rw[I.o];rfl,x.h⟩
    have O:∃V,cB (cM f k=V)/\(bF P.s=cA/\V=cA\/bF P.s=dA/\bC P.n 0 1000000=V):=by
     have W:=q.o;rw[J]at W;cases b:bF P.s
     .exact ⟨cA,by show _=_;rw[W,b];simp,Ca ⟨rfl,rfl⟩⟩
     exact ⟨_,rfl,La ⟨rfl,by rw[W,b];simp⟩⟩
    obtain⟨V,I,O⟩:=O;obtain⟨J,J⟩|⟨l,m,G,F,v⟩:=T
    rotate_left;have Z:=kC.cells F;all_goals
     obtain⟨b,rfl⟩|⟨b,d⟩:=O
     rotate_left;rw[d]at L;cases V
     all_goals
      rw[b]at r;try clear d
      refine wB (by kernel_rfl) (by kernel_rfl) ?_;repeat (go_big_quiet_step (first|(go_at_call 209;exact oC (r.o _))|(go_at_call 63;exact uC (L.o _))))
      refine wpQuiet_nil ?_;rintro _ ⟨x,rfl⟩;go_wp2_with fail;go_meet;exact⟨by rw[I.o];rfl,x.h⟩
   obtain⟨rfl,B⟩:=hcut;rename eA=>Z;have G:cB (nB Z n #[oA P.s,zA P.n] 96):=z.o.z B;have I:cB (vD Z (λg=>S g\/w.1.size<=g) x { t with M:=f.take k} M):=HIW.o.z B;have J:cB _:=HTW.o.trans' (eB.of B);by_cases c:cM f k=cA
   .have HF4:cB _:=U.o c;rw[c];go_wp2;go_ret;exact⟨oB HF4.o.symm,λh=>absurd h (by rw[HF4.o];simp),J.o⟩
   have A:cM f k=dA:=by simpa using c
   obtain⟨U,W⟩:=HTK.o A;have h:bC P.n 0 1000000=dA:=by
    have:=q.o;rw[A]at this;cases v:bC P.n 0 1000000 with
    |true=>rfl
    |false=>rw[v]at this;simp at this
   have O:=xJ h;have G1:cB _:=U;have H:=C.o W;rw[A];obtain⟨lm,h,h,h,Q,hs,D,O⟩:=I.o;have h:keyOf prog 9 (oA P.s)=bA (kL P.s):=lN (by unfold maxLen;omega);obtain⟨w8,I,I,o⟩:=O.lims.drew.update aM underlying222 (by simp only[Hb];unfold maxLen;omega) (val:=zA P.n) h (plainElem_int underlying3 (WalkArith.wf_i64 (by omega)));have h:tC Z x 1 (.map (bA lm)):=O.blk.cell 1;have h:tC Z n 0 (oA P.s):=G.o.cell 0;have h:tC Z n 1 (zA P.n):=G.o.cell 1;go_wp2_with fail;go_region
   have U:eB (·=lm) Z w8:=(eB.grown (a:=Z) ⟨o.os,o.tape,o.output,o.size,o.block⟩).mono λi _ e=>by simp only[Qa]at e;exact e.symm
   have n:cB (vD w8 (λg=>S g\/w.1.size<=g) x { t with M:=f.take (k+1) } M):=O.newLims U I H W;have h:cB _:=J.o.trans (U.mono λi _ e=>by subst e;exact O.sl);go_wp2;exact⟨⟨k+1,by omega,by go_num,G1.o,n.o,h.o⟩,by simp[intOf];omega⟩
  .have ek:k=yA f:=by omega
   have h:cB (dM f=dA):=by have:=Y.o;rw[ek]at this;exact this
   have n:cB (vD wr (λg=>S g\/w.1.size<=g) x { t with M:=f} M):=by have:=K.o;rw[ek,Rb]at this;exact this
   go_wp2;go_ret;exact⟨oB h.o.symm,λ_=>n.o,R.o⟩
end
section
open Go.Maps
def aBi(a:List dC)(h:∀l∈a,l.V.size<=1000000):(oL a).size<=1000000:=by
 induction a with
 |nil=>simp[oL]
 |cons l r c=>
  rw[oL];split;exact h l (Kc ..);exact c λq b=>h q (Sb _ b)
def zS(s:jB):(cE s).size<=maxLen:=by
 have h:∀l∈(pG s).1,l.V.size<=1000000:=λl a=>by
  cases hd:(pG s).2 with
  |false=>rw[(NY hd).1]at a;simp at a
  |true=>
   obtain⟨i,b,rfl⟩:=Ib a;have:=(BL (ZT hd).1 i b).2;omega
 have:=aBi _ h;unfold cE maxLen;omega
def oW(c:iC)(a:Int)(m:Nat):Array Value:=#[zA c.w,zA c.tl,zA c.ml,zA c.sh,zA c.ha,zA c.sg,zA a,.map (bA m)]
def LF(l m:Nat)(c:iC)(a:Int)(w:eA)(h:nB w l (oW c a m) 160)(g:0<=a)(i:a<=1000000000000)(b:1<=c.w)(d:c.w<=1000000000):
 dF 211 #[.pointer (yB l)] w (zA (a-c.w)):=by
 have j:tC w l 6 (zA a):=h.cell 6;have k:tC w l 0 (zA c.w):=h.cell 0;go_enter func211,ntmps211;go_wp2_with fail;go_quiet (fail)
 go_wp2;go_ret;exact⟨rfl,below_drewN iD _⟩
def RQ(l m x:Nat)(a:mC)(cap:Nat)(r:List kB)(t:fB)(c:iC)(q:Int)(S:Nat->Prop)(M:Nat)(n w:eA)(W:nB w l (oW c q m) 160)(I:¬S l)(h:vD w S x { t with Z:=[] } M)(v:uB n w)(hU:uG n)(Y:jC n a r)(hS:∀g,S g->n.1.size<=g)
(G:∀i(h:i<yA r),r[i].s.size<=1000000000)(J:yA r<=500000000)(J:M<=500000000)(h1:0<=q)(h2:q<=1000000000000)(hw0:1<=c.w)(hw1:c.w<=1000000000):
 gA prog 145 #[.pointer (yB l),.pointer (yB x),pA a (yA r) cap] w λe O=>e=uA (qA (gL c.w q r))/\(gL c.w q r=dA->vD O (λg=>S g\/w.1.size<=g) x { t with Z:=r} (M+yA r))/\eB S w O:=by
 have U:cB (nB w l (oW c q m) 160):=W;have W:cB (¬S l):=I;have HI:cB (vD w S x { t with Z:=[] } M):=h;have H0:cB _:=v;have HU:cB (uG n):=hU;have I:cB (jC n a r):=Y;have J:cB _:=hS;have HBB:cB _:=G;go_enter func145,ntmps145;go_wp2;go_loopw [7,8,9,12] (λ_ _ _ j wr=>∃k:Nat,k<=yA r/\j=zA k/\lI (mJ c.w q r) k=dA/\vD wr (λg=>S g\/w.1.size<=g) x { t with Z:=r.take k} (M+k)/\eB S w wr) (λ_ _ _ j _=>yA r-(intOf j).toNat)
 case atStart=>exact⟨0,Oa _,rfl,rfl,HI.o.keep (λg _ N=>⟨rfl,Ca N⟩),eB.refl _ _⟩
 case round=>
  obtain⟨k,hk,rfl,n,L,b0⟩:=hrel;have HOK:cB _:=n;have R:cB (vD wr (λg=>S g\/w.1.size<=g) x { t with Z:=r.take k} (M+k)):=L;have E:cB _:=b0;have n:cB _:=H0.o.trans (b0.below H0.o.size (λk hk N=>by have:=J.o k N;omega));by_cases A:k<yA r
  .obtain ⟨pb,po,rfl,hpl,c0,c1⟩:=(I.o.z n.o).at A;have HMF:cB (mJ c.w q r k=cA->gL c.w q r=cA):=λh=>wP h A;have C:cB (mJ c.w q r k=(iM r k&&rK r[k].s&&bC r[k].n 0 q&&decide (q-r[k].n<c.w))):=uW A;have hsz:=HBB.o k A;have J:cB (0<k->∃u:jB,iM r k=eK u r[k].s/\tC wr pb (po+(k-1)*2) (oA u)):=λv=>by
    refine⟨_,jU v A,?_⟩;obtain⟨b',o',e,_,u0,_⟩:=(I.o.z n.o).at (i:=k-1) (by omega)
    simp only[Qa,Addr.mk.injEq,Cc]at e;rw[e.1,e.2];exact u0
   have V:cB (k=0->iM r k=dA):=λv=>by subst v;rfl
   have HTK:cB (mJ c.w q r k=dA->lI (mJ c.w q r) (k+1)=dA/\fC (·.s) r[k] (r.take k)=r.take (k+1)/\dD (·.s) r[k].s (r.take k)=aA):=λh=>by
    have h1:lI (mJ c.w q r) (k+1)=dA:=by rw[sL,HOK.o,h];rfl
    exact⟨h1,QY (key:=λp:kB=>p.s) A (KI h1 (by omega))⟩
   have I:cB (nB wr l (oW c q m) 160):=E.o.blk U.o W.o;have U:cB (∀W,uG W->dF 210 #[oA r[k].s] W (oA (cE r[k].s))):=λW hW=>AA r[k].s W hsz hW;have hms:=zS r[k].s;have HTL:cB (yA (r.take k)<=1000000000):=by show _<=_;rw[Hb];omega
   generalize r[k]=P at *;go_upto_region 4 with fail;have X:cB (nB (wr.alloc (vA #[oA P.s,zA P.n] 98)) wr.1.size #[oA P.s,zA P.n] 98):=nB.new _ _ _;have y:cB (uB wr (wr.alloc (vA #[oA P.s,zA P.n] 98))):=zB;have x0:(wr.alloc (vA #[oA P.s,zA P.n] 98)).cell? (dB wr.1.size 0)=bA (oA P.s):=X.o.cell 0;generalize wr.alloc (vA #[oA P.s,zA P.n] 98)=W0 at *;go_wp2_with fail;apply lC (U.o _ (HU.o.z (n.o.trans (y.o.mono n.o.size))));intro W z;have B:cB (0<k->∃u:jB,iM r k=eK u P.s/\tC W pb (po+(k-1)*2) (oA u)):=λv=>by
    obtain⟨u,n,U⟩:=J.o v;exact⟨u,n,((vB y.o z).cell hpl).trans U⟩
   have F:cB (nB W wr.1.size #[oA P.s,zA P.n] 98):=X.o.z z;have HIW:cB (vD W (λg=>S g\/w.1.size<=g) x { t with Z:=r.take k} (M+k)):=R.o.z (vB y.o z);have HTW:cB _:=E.o.trans' (eB.of (vB y.o z));have U:cB (nB W l (oW c q m) 160):=I.o.z (vB y.o z);generalize wr.1.size=J at *;go_upto_region 5 with fail;go_cut [53] (λs n=>s=qA (!(mJ c.w q r k))/\uB W n)
   case first=>
    have n:=kC.cells (show tC W J 0 (oA P.s) from F.o.cell 0);have n:=kC.cells (show tC W J 1 (zA P.n) from F.o.cell 1);have n:=kC.cells (show tC W l 6 (zA q) from U.o.cell 6);have n:=kC.there W;have T:cB _:=λW=>zF P.n q W;have I:cB _:=fun(x:kC W)=>LF l m c q x.w' (U.o.z x.h) h1 h2 hw0 hw1;have U:(∃u:jB,(0:Int)<k/\0<k/\tC W pb (po+(k-1)*2) (oA u)/\Op.bytesLess u.toList P.s.toList=cA/\cB (mJ c.w q r k=cA))\/iM r k=dA/\(decide ((0:Int)<k)=cA/\decide (0<k)=cA\/∃u:jB,(0:Int)<k/\0<k/\tC W pb (po+(k-1)*2) (oA u)/\Op.bytesLess u.toList P.s.toList=dA):=by
     by_cases v:0<k
     .obtain ⟨u,Y,K⟩:=B.o v;cases G:Op.bytesLess u.toList P.s.toList
      .exact Ca ⟨u,by omega,v,K,G,by show _=_;rw[C.o,Y,eK,G];simp⟩
      exact La ⟨Y.trans G,La ⟨u,by omega,v,K,G⟩⟩
     exact La ⟨V.o (by omega),Ca ⟨by simp;omega,by simp;omega⟩⟩
    obtain⟨u,v,W,K,G,n⟩|⟨Y,U⟩:=U
    .have d3:=kC.cells K;refine wB (by kernel_rfl) (by kernel_rfl) ?_;repeat (go_big_quiet_step (first|(go_at_call 64;exact uC (T.o _))|(go_at_call 211;exact oC (I.o _))))
     refine wpQuiet_nil ?_;rintro _ ⟨x,rfl⟩;go_wp2_with fail;go_meet;exact⟨by rw[n.o];rfl,x.h⟩
    have hf:(cE P.s).toList.isEmpty=dA/\cB (mJ c.w q r k=cA)\/(cE P.s).toList.isEmpty=cA/\(bC P.n 0 q=cA/\cB (mJ c.w q r k=cA)\/(bC P.n 0 q=dA/\0<=P.n/\P.n<=q)/\(P.n<=q-c.w/\cB (mJ c.w q r k=cA)\/¬P.n<=q-c.w/\decide (P.n<=q-c.w)=cA/\cB (mJ c.w q r k=dA))):=by
     have Z:=C.o;rw[Y,rK]at Z;cases o:(cE P.s).toList.isEmpty
     .rw[o]at Z;refine La ⟨rfl,?_⟩;cases b:bC P.n 0 q
      .exact Ca ⟨rfl,by show _=_;rw[Z,b];simp⟩
      refine La ⟨⟨rfl,xJ b⟩,?_⟩;rw[b]at Z;by_cases d:P.n<=q-c.w
      .exact Ca ⟨d,by show _=_;rw[Z];simp;omega⟩
      exact La ⟨d,by simpa using d,by show _=_;rw[Z];simp;omega⟩
     exact Ca ⟨rfl,by show _=_;rw[Z,o];simp⟩
    obtain⟨U,U⟩|⟨u,v,W,K,G⟩:=U
    rotate_left;have d3:=kC.cells K;all_goals
     obtain⟨o,n⟩|⟨o,⟨b,n⟩|⟨⟨b,G,G⟩,⟨d,n⟩|⟨d,G,n⟩⟩⟩:=hf
     all_goals
      try rw[b]at T
      try clear b
      refine wB (by kernel_rfl) (by kernel_rfl) ?_;repeat (go_big_quiet_step (first|(go_at_call 64;exact uC (T.o _))|(go_at_call 211;exact oC (I.o _))))
      refine wpQuiet_nil ?_;rintro _ ⟨x,rfl⟩;go_wp2_with fail;go_meet;exact⟨by rw[n.o];rfl,x.h⟩
   obtain⟨rfl,H⟩:=hcut;rename eA=>Q;have n:cB (nB Q J #[oA P.s,zA P.n] 98):=F.o.z H;have G:cB (vD Q (λg=>S g\/w.1.size<=g) x { t with Z:=r.take k} (M+k)):=HIW.o.z H;have D:cB _:=HTW.o.trans' (eB.of H);by_cases f:mJ c.w q r k=cA
   .have HF4:cB _:=HMF.o f;rw[f];go_wp2;go_ret;exact⟨oB HF4.o.symm,λh=>absurd h (by rw[HF4.o];simp),D.o⟩
   have Y:mJ c.w q r k=dA:=by simpa using f
   obtain⟨h,I,U⟩:=HTK.o Y;have W:cB _:=h;have G2:cB _:=I;have I:cB (gA prog 212 #[.pointer (yB x),oA P.s,oA (cE P.s),zA P.n] Q λe O=>e=uA (xA #[])/\vD O (λg=>(S g\/w.1.size<=g)\/Q.1.size<=g) x { t with Z:=fC (·.s) ⟨P.s,P.n⟩ (r.take k) } (M+k+1)/\eB (λg=>S g\/w.1.size<=g) Q O):=
    uq x { t with Z:=r.take k} P.s P.n _ (M+k) Q G.o U (by unfold maxLen;omega) hms (by omega) HTL.o
   have h:tC Q J 0 (oA P.s):=n.o.cell 0;have h:tC Q J 1 (zA P.n):=n.o.cell 1;rw[Y];go_wp2_with fail;apply lC I.o;rintro G ⟨h,n⟩;have I:cB (vD G (λg=>S g\/w.1.size<=g) x { t with Z:=r.take (k+1) } (M+(k+1))):=by
    have:=h.keep (w':=G) (S':=λg=>S g\/w.1.size<=g) (λg _ N=>⟨rfl,by obtain N|N:=N;exact N;exact La (by have:=D.o.size;omega)⟩);rw[show(⟨P.s,P.n⟩:kB)=P from rfl,G2.o]at this;exact this
   have h:cB _:=D.o.trans n;go_wp2;exact⟨⟨k+1,by omega,by go_num,W.o,I.o,h.o⟩,by simp[intOf];omega⟩
  .have ek:k=yA r:=by omega
   have h:cB (gL c.w q r=dA):=by have:=HOK.o;rw[ek]at this;exact this
   have n:cB (vD wr (λg=>S g\/w.1.size<=g) x { t with Z:=r} (M+yA r)):=by have:=R.o;rw[ek,Rb]at this;exact this
   go_wp2;go_ret;exact⟨oB h.o.symm,λ_=>n.o,E.o⟩
end
section
open Go.Maps
structure mL(w:World)(B:Nat→Prop)(T:Nat→Option Nat)(l m:Nat)(c:iC)(now:Int)(L:List (fB×Nat))(M:Nat):Prop where
 blk:nB w l (oW c now m) 160
 ten:w.ownsMap prog 9 tE m (yA L) (fE (L.map λp=>(p.1.N,mF p.2)))
 rise:zC (λp:fB×Nat=>p.1.N) L
 idx:∀p∈L,vD w (λg=>B g∧T g=bA p.2) p.2 p.1 M
 nd:(L.map (·.2)).Nodup
 tl:T l=aA
 tm:T m=aA
 lB:B l
 mB:B m
def jE(w:eA)(B:Nat->Prop)(l m:Nat)(c:iC)(a:Int)(b:List fB)(M:Nat):Prop:=∃T L,mL w B T l m c a L M/\L.map (·.1)=b
def mL.lm{w:eA}{B:Nat->Prop}{T:Nat->Option Nat}{l m:Nat}{c:iC}{a:Int}{L:List (fB×Nat)}{M:Nat}(h:mL w B T l m c a L M):m≠l:=eD h.ten h.blk
def mL.keep{w w':eA}{B:Nat->Prop}{T:Nat->Option Nat}{l m:Nat}{c:iC}{b:Int}{L:List (fB×Nat)}{M:Nat}(h:mL w B T l m c b L M)(d:∀g,g<w.1.size->B g->w'.heap[g]?=w.heap[g]?):mL w' B T l m c b L M:=
 { h with
  blk:=(d l (aB h.blk) h.lB).trans h.blk
  ten:=by
   have e:=h.ten.lt;obtain⟨i,a,j,r⟩:=h.ten;exact⟨i,a,(d m e h.mB).trans j,r⟩
  idx:=λp n=>(h.idx p n).keep λg k f=>⟨d g k f.1,f⟩ }
def jE.z{w d:eA}{B:Nat->Prop}{l m:Nat}{c:iC}{a:Int}{b:List fB}{M:Nat}(h:jE w B l m c a b M)(f:uB w d):jE d B l m c a b M:=by
 obtain⟨T,L,h,e⟩:=h;exact⟨T,L,h.keep λg i _=>f.block g i,e⟩
def jr{w k H D z:eA}{B:Nat->Prop}{T:Nat->Option Nat}{l m x n:Nat}{c:iC}{u:Int}{L:List (fB×Nat)}{M M':Nat}{t:fB}(h:mL w B T l m c u L M)(I:∀g,w.1.size<=g->B g)(q:dD (λp:fB×Nat=>p.1.N) t.N L=aA)
(E:uB w k)(F:uB k H)(R:k.1.size<=x)(b:eB (·=m) H D)(v:D.ownsMap prog 9 tE m n (DataW.put (fE (L.map λp=>(p.1.N,mF p.2))) (kL t.N) (mF x)))
(d:eB (λg=>k.1.size<=g) D z)(A:vD z (λg=>k.1.size<=g) x t M')(J:M'<=M):
 jE z B l m c u ((fC (λp:fB×Nat=>p.1.N) (t,x) L).map (·.1)) M:=by
 have G:=aB h.blk;have K:=h.ten.lt;have O:=E.size;have P:=F.size;have Q:=b.size;have o:∀p,p∈fC (λp:fB×Nat=>p.1.N) (t,x) L->p=(t,x)\/p∈L:=λp i=>yK i;have j:=JX (key:=λp:fB×Nat=>p.1.N) (a:=(t,x)) q;have f:∀g,g<w.1.size->g≠m->z.heap[g]?=w.heap[g]?:=λg y C=>by
  rw[d.block g (by omega) (by omega),b.block g (by omega) C,F.block g (by omega),E.block g y]
 have r:DataW.put (fE (L.map λp=>(p.1.N,mF p.2))) (kL t.N) (mF x)=fE ((fC (λp:fB×Nat=>p.1.N) (t,x) L).map λp=>(p.1.N,mF p.2)):=
  KE (key:=λp:fB×Nat=>p.1.N) (λp=>mF p.2) (t,x) h.rise
 refine⟨λg=>if g<w.1.size then T g else bA x,_,?_,rfl⟩;exact {
  blk:=(f l G h.lm.symm).trans h.blk
  ten:=by
   have:=TM (d.map v (by omega));rw[r,bN]at this;exact this
  rise:=kK h.rise
  idx:=λp i=>by
   rcases o p i with rfl|i
   .refine (A.mono J).keep λg _ s=>⟨rfl,I g (by omega),?_⟩
    show(if g<w.1.size then T g else bA x)=bA x;rw[Ja (by omega)]
   refine (h.idx p i).keep λg y s=>⟨f g y (λe=>by rw[e,h.tm]at s;cases s.2),s.1,?_⟩
   show(if g<w.1.size then T g else bA x)=_;rw[Ma y];exact s.2
  nd:=by
   rw[(j.map _).nodup_iff,Fc,List.nodup_cons];refine⟨λN=>?_,h.nd⟩;obtain⟨p,i,e⟩:=Md.1 N;have:=(h.idx p i).lt;simp only at e;omega
  tl:=by show(if l<w.1.size then T l else _)=aA;rw[Ma G];exact h.tl
  tm:=by show(if m<w.1.size then T m else _)=aA;rw[Ma K];exact h.tm
  lB:=h.lB
  mB:=h.mB}
def aAf{L:List (fB×Nat)}{k:jB}(h:dD (·.N) k (L.map (·.1))=aA):dD (λp:fB×Nat=>p.1.N) k L=aA:=by grind [dD]
def aFw(l m:Nat)(t:fB)(u v:mC)(B C:Nat)(c:iC)(n:Int)(Y:List fB)(M:Nat)(q w:eA)(h:jE w (q.1.size<=·) l m c n Y M)(h0:uB q w)(hU:uG q)(p1:jC q u t.M)(p2:jC q v t.Z)
(I:dD (·.N) t.N Y=aA)(hn:t.N.size<=maxLen)(s:∀i(h:i<yA t.M),t.M[i].s.size<=1000000000)(o:∀i(h:i<yA t.Z),t.Z[i].s.size<=1000000000)(G:yA t.M<=500000000)(G:yA t.Z<=500000000)(J:yA Y<=1000000000)(hM:yA t.Z<=M)
(O:0<=n)(U:n<=1000000000000)(Z:1<=c.w)(hw1:c.w<=1000000000):
 gA prog 78 #[.pointer (yB l),.agg #[oA t.N,zA t.L,pA u (yA t.M) B,pA v (yA t.Z) C]] w λe E=>e=uA (qA (oP c.w n t))/\
  (oP c.w n t=dA->jE E (q.1.size<=·) l m c n (fC (·.N) t Y) M)/\eB (·=m) w E:=by
 obtain⟨T,L,h,hL⟩:=h;have j:cB (oP c.w n t=(bD t.N&&bC t.L (-1) 1000000&&dM t.M&&gL c.w n t.Z&&!cF t)):=rfl;have r:cB _:=λW=>wM t.N W hn;by_cases e1:bD t.N=cA
 .rw[e1]at r j;go_enter func78,ntmps78;go_wp2_with fail;apply dR (r.o _);go_wp2;go_ret;exact⟨oB (by rw[j.o];simp),λh=>absurd h (by rw[j.o];simp),eB.of zB⟩
 have J:bD t.N=dA:=by simpa using e1
 rw[J]at r j;have D:cB _:=λW=>bV t.L W;by_cases e2:bC t.L (-1) 1000000=cA
 .rw[e2]at D j;go_enter func78,ntmps78;go_wp2_with fail;apply dR (r.o _);go_wp2_with fail;apply dR (D.o _);go_wp2;go_ret;exact⟨oB (by rw[j.o];simp),λh=>absurd h (by rw[j.o];simp),eB.of zB⟩
 have J:bC t.L (-1) 1000000=dA:=by simpa using e2
 rw[J]at D j;have X:cB _:=h;have J:=h.ten.lt;have J:=aB h.blk;have J:=h0.size;have HLE:cB _:=hL;have hLn:yA L=yA Y:=by rw[<-hL,Xa]
 have HGN:cB _:=aAf (by rw[hL];exact I);have HK:cB _:=lN hn;have I:cB _:=λW=>IC t.L t.N W;have HLL:cB (∀(S:Nat->Prop)(x:Nat)(W:eA),vD W S x ⟨t.N,t.L,[],[]⟩ 0->uB q W->(∀g,S g->q.1.size<=g)->gA prog 144 #[.pointer (yB x),pA u (yA t.M) B] W λe E=>e=uA (qA (dM t.M))/\(dM t.M=dA->vD E (λg=>S g\/W.1.size<=g) x ⟨t.N,t.L,t.M,[]⟩ 0)/\eB S W E):=
  λS x W hi hb A=>RP x u B t.M ⟨t.N,t.L,[],[]⟩ S 0 q W hi hb hU p1 A s (by omega)
 have HSS:cB (∀(S:Nat->Prop)(x:Nat)(W:eA),vD W S x ⟨t.N,t.L,t.M,[]⟩ 0->uB q W->(∀g,S g->q.1.size<=g)->nB W l (oW c n m) 160->¬S l->gA prog 145 #[.pointer (yB l),.pointer (yB x),pA v (yA t.Z) C] W λe E=>e=uA (qA (gL c.w n t.Z))/\(gL c.w n t.Z=dA->vD E (λg=>S g\/W.1.size<=g) x ⟨t.N,t.L,t.M,t.Z⟩ (0+yA t.Z))/\eB S W E):=
  λS x W hi hb A s hsl=>RQ l m x v C t.Z ⟨t.N,t.L,t.M,[]⟩ c n S 0 q W s hsl hi hb hU p2 A o G (by omega) O U Z hw1
 have H0:cB _:=h0;go_enter func78,ntmps78;go_wp2_with fail;apply dR (r.o _);go_wp2_with fail;apply dR (D.o _);go_wp2_with fail;have B1:cB (uB w (w.alloc (vA #[oA t.N,zA t.L,pA u (yA t.M) B,pA v (yA t.Z) C] 94))):=zB;have s:cB (nB (w.alloc (vA #[oA t.N,zA t.L,pA u (yA t.M) B,pA v (yA t.Z) C] 94)) w.1.size #[oA t.N,zA t.L,pA u (yA t.M) B,pA v (yA t.Z) C] 94):=nB.new _ _ _;have G:w.1.size<(w.alloc (vA #[oA t.N,zA t.L,pA u (yA t.M) B,pA v (yA t.Z) C] 94)).1.size:=by simp
 generalize w.alloc (vA #[oA t.N,zA t.L,pA u (yA t.M) B,pA v (yA t.Z) C] 94)=F at *;refine(I.o F).mono ?_;rintro e Z ⟨x,rfl,hx,G,o⟩;have B2:cB _:=o;have y:=vB B1.o o;have U:cB (nB Z w.1.size #[oA t.N,zA t.L,pA u (yA t.M) B,pA v (yA t.Z) C] 94):=s.o.z o;have W:cB (nB Z l (oW c n m) 160):=X.o.blk.z y;have N:=(eB.of (S:=λ_=>False) y).map X.o.ten (λe=>e);obtain⟨s,I,K,z⟩:=N.drew.update aM underlying158 (by unfold maxLen;omega) HK.o (eY x);have b:eB (·=m) Z s:=(eB.grown (a:=Z) ⟨z.os,z.tape,z.output,z.size,z.block⟩).mono λi _ e=>by simp only[Qa]at e;exact e.symm
 have T3:cB _:=b;have H:cB (s.ownsMap prog 9 tE m (yA L+1) (DataW.put (fE (L.map λp=>(p.1.N,mF p.2))) (kL t.N) (mF x))):=K;have O:cB (vD s (λg=>F.1.size<=g) x ⟨t.N,t.L,[],[]⟩ 0):=G.keep λg I A=>⟨b.block g I (by omega),A⟩
 have G:q.1.size<=m:=X.o.mB;have B3:cB _:=(H0.o.trans (y.mono J)).trans (b.below (by have:=y.size;omega) (λk hk=>by omega));have X3:cB (nB s w.1.size #[oA t.N,zA t.L,pA u (yA t.M) B,pA v (yA t.Z) C] 94):=b.blk U.o (by omega);have L3:cB (nB s l (oW c n m) 160):=b.blk W.o X.o.lm.symm;have G:tC Z l 7 (.map (bA m)):=W.o.cell 7;have G:tC Z w.1.size 0 (oA t.N):=U.o.cell 0;have G:=o.size;have G:=b.size;have G:cB _:=(eB.of y).trans' b;go_upto_region 4 with fail;go_cut [25] (λ_ U=>U=s)
 case first=>
  go_region
  go_wp2_with fail;go_meet;exact rfl
 subst hcut;have s:tC wc w.1.size 2 (pA u (yA t.M) B):=X3.o.cell 2;go_wp2_with fail;refine lC (HLL.o _ x wc O.o B3.o (λg I=>by omega)) ?_;rintro w4 ⟨s,d⟩;have O:cB _:=s;have Z:cB _:=d;have P:cB _:=G.o.trans (d.mono λi _ e=>La (by omega));have U:cB (nB w4 w.1.size #[oA t.N,zA t.L,pA u (yA t.M) B,pA v (yA t.Z) C] 94):=d.blk X3.o (by omega);have W:cB (nB w4 l (oW c n m) 160):=d.blk L3.o (by omega);have B4:cB _:=B3.o.trans (d.below (by omega) (λk hk=>by omega));by_cases s:dM t.M=cA
 .rw[s]at j |-
  go_wp2;go_ret;exact⟨oB (by rw[j.o];simp),λh=>absurd h (by rw[j.o];simp),P.o⟩
 have R:dM t.M=dA:=by simpa using s
 have G:cB (vD w4 (λg=>F.1.size<=g) x ⟨t.N,t.L,t.M,[]⟩ 0):=(O.o R).keep λg _ A=>⟨rfl,by rcases A with A|A<;>omega⟩
 rw[R]at j |-
 have s:tC w4 w.1.size 3 (pA v (yA t.Z) C):=U.o.cell 3;go_wp2_with fail;refine lC (HSS.o _ x w4 G.o B4.o (λg I=>by omega) W.o (by omega)) ?_;rintro s ⟨V,f⟩;have Q:cB _:=P.o.trans (f.mono λi _ e=>La (by omega));have G:=Z.o.size;by_cases G:gL c.w n t.Z=cA
 .rw[G]at j |-
  go_wp2;go_ret;exact⟨oB (by rw[j.o];simp),λh=>absurd h (by rw[j.o];simp),Q.o⟩
 have U:gL c.w n t.Z=dA:=by simpa using G
 have O:cB (vD s (λg=>F.1.size<=g) x t (yA t.Z)):=by
  have:=(V U).keep (w':=s) (S':=λg=>F.1.size<=g) λg _ A=>⟨rfl,by rcases A with A|A<;>omega⟩
  rw[Ya]at this;exact this
 have W:cB _:=Z.o.trans' f;rw[U]at j |-
 have G:cB (jE s (q.1.size<=·) l m c n (fC (·.N) t Y) M):=by
  have:=jr X.o (λg I=>Ua J I) HGN.o B1.o B2.o hx T3.o H.o W.o O.o hM;rw[xS (key':=λt:fB=>t.N) (λp:fB×Nat=>p.1) (λ_=>rfl),HLE.o]at this;exact this
 have I:cB (rL 146 #[.pointer (yB x)] s (qA (cF t))):=QS x t _ _ s O.o;go_wp2_with fail;apply dR I.o;cases bB:cF t with
 |true=>
  rw[bB]at j;go_wp2;go_ret;exact⟨oB (by rw[j.o];rfl),λh=>absurd h (by rw[j.o];simp),Q.o⟩
 |false=>
  rw[bB]at j;go_wp2;go_ret;exact⟨oB (by rw[j.o];rfl),λ_=>G.o,Q.o⟩
end
section
open Go.Maps
def jE.re{w o:eA}{B B':Nat->Prop}{l m:Nat}{c:iC}{b:Int}{n:List fB}{M:Nat}(h:jE w B l m c b n M)(d:∀g,g<w.1.size->B g->o.heap[g]?=w.heap[g]?/\B' g):jE o B' l m c b n M:=by
 obtain⟨T,L,h,e⟩:=h;have j:=d l (aB h.blk) h.lB;have k:=d m h.ten.lt h.mB;refine⟨T,L,{ h with blk:=j.1.trans h.blk,ten:=?_,idx:=λp t=>(h.idx p t).keep λg i f=>⟨(d g i f.1).1,(d g i f.1).2,f.2⟩,lB:=j.2,mB:=k.2},e⟩;obtain⟨q,a,s,r⟩:=h.ten;exact⟨q,a,k.1.trans s,r⟩
def aMa(a:List fB)(M:Nat):Prop:=∀i(h:i<yA a),a[i].N.size<=maxLen/\(∀j(b:j<yA a[i].M),a[i].M[j].s.size<=1000000000)/\(∀j(b:j<yA a[i].Z),a[i].Z[j].s.size<=1000000000)/\yA a[i].M<=500000000/\yA a[i].Z<=500000000/\yA a[i].Z<=M
def BG(c:iC)(a:Int)(b:List fB)(M:Nat)(w:eA)(e:Ending)(d:eA):Prop:=
 (nC c a b=cA/\e=uA (xA #[sA aA,qA cA])/\uB w d)\/
 (nC c a b=dA/\∃l m,e=uA (xA #[.pointer (yB l),qA dA])/\w.1.size<=l/\jE d (w.1.size<=·) l m c a b M/\uB w d)
def AP(c:iC)(r:Int)(a:mC)(H:Nat)(u:List fB)(M:Nat)(w:eA)(hf:xC w a u)(hfit:aMa u M)(hlen:yA u<=1000000000)(hU:uG w):
 gA prog 25 #[rE c,.agg #[lA mA r,pA a (yA u) H]] w λe y=>BG c r u M w e y:=by
 have HC:cB _:=λW=>aV c W;have z:cB (nC c r u=(lH c&&bC r 0 1000000000000&&decide (yA u<=10000) &&eN c.w r u)):=rfl;have HF:cB (xC w a u):=hf;have HB:cB (aMa u M):=hfit;have HU:cB (uG w):=hU;have HWI:cB _:=λW=>zF r 1000000000000 W;have HCW:cB (lH c=dA->1<=c.w/\c.w<=1000000000):=λh=>by
  have:bC c.w 1 1000000000=dA:=by
   cases hb:bC c.w 1 1000000000 with
   |true=>rfl
   |false=>rw[lH,hb]at h;simp at h
  exact xJ this
 unfold rE at *;go_enter func25,ntmps25;go_wp2_with fail;apply lC (HC.o _);intro v S;have U:cB _:=vB (vB zB zB) S;have C1:cB (nB v w.1.size #[lA mA c.w,lA mA c.tl,lA mA c.ml,lA mA c.sh,lA mA c.ha,lA mA c.sg] 24):=bB (((nB.new _ _ _).alloc _).z S);have S1:cB _:=bB (by have:=(nB.new (w.alloc (vA #[lA mA c.w,lA mA c.tl,lA mA c.ml,lA mA c.sh,lA mA c.ha,lA mA c.sg] 24)) #[lA mA r,pA a (yA u) H] 40).z S;simpa using this);have s0:v.cell? ⟨w.1.size+1,0,aA⟩=bA (lA mA r):=S1.o.cell 0;have s1:v.cell? ⟨w.1.size+1,1,aA⟩=bA (pA a (yA u) H):=S1.o.cell 1;have k0:v.cell? ⟨w.1.size,0,aA⟩=bA (lA mA c.w):=C1.o.cell 0;have k1:v.cell? ⟨w.1.size,1,aA⟩=bA (lA mA c.tl):=C1.o.cell 1;have k2:v.cell? ⟨w.1.size,2,aA⟩=bA (lA mA c.ml):=C1.o.cell 2;have k3:v.cell? ⟨w.1.size,3,aA⟩=bA (lA mA c.sh):=C1.o.cell 3;have k4:v.cell? ⟨w.1.size,4,aA⟩=bA (lA mA c.ha):=C1.o.cell 4;have k5:v.cell? ⟨w.1.size,5,aA⟩=bA (lA mA c.sg):=C1.o.cell 5;have hs1l:=aB S1.o;cases g0:lH c
 .rw[g0]at z;go_wp2;go_ret2;exact Ca ⟨by rw[z.o];simp,rfl,U.o⟩
 obtain⟨hw0,hw1⟩:=HCW.o g0;rw[g0]at z;go_wp2_with fail;refine tD (HWI.o _) ?_;cases g1:bC r 0 1000000000000
 .rw[g1]at z;go_wp2;go_ret2;exact Ca ⟨by rw[z.o];simp,rfl,U.o⟩
 obtain⟨hn0,hn1⟩:=xJ g1;rw[g1]at z;by_cases g2:(10000:Int)<yA u
 .rw[show decide (yA u<=10000)=cA by simp;omega]at z;go_wp2;go_ret2;exact Ca ⟨by rw[z.o];simp,rfl,U.o⟩
 have Z:cB (nC c r u=eN c.w r u):=by show _=_;rw[z.o,show decide (yA u<=10000)=dA by simp;omega];simp
 have hmm:=@run_makeMap prog;go_upto_region 3 with fail;go_cut [6] (λs wx=>s=sA (bA ⟨v.1.size+1,0,aA⟩)/\wx=(v.alloc (.map #[] 0)).alloc (vA (oW c r v.1.size) 160))
 case first=>
  go_wp2;go_meet;exact⟨rfl,rfl⟩
 obtain⟨rfl,hwc⟩:=hcut;have L0:cB (jE wc (v.1.size<=·) (v.1.size+1) v.1.size c r (u.take 0) M):=by
  rw[hwc];refine⟨λ_=>aA,[],?_,rfl⟩;exact {
   blk:=by have:=nB.new (v.alloc (.map #[] 0)) (oW c r v.1.size) 160;simpa using this
   ten:=(eA.ownsMap_made v _ _ _).alloc _
   rise:=Gd
   idx:=λp L=>by cases L
   nd:=List.nodup_nil
   tl:=rfl
   tm:=rfl
   lB:=Gf _
   mB:=Ia _}
 have BC:cB (uB v wc):=by rw[hwc];exact vB zB zB
 have s2:=(BC.o.cell hs1l).trans s1;have HU1:cB (uG v):=HU.o.z U.o;have HF1:cB (xC v a u):=HF.o.z U.o;clear hwc hmm s0 s1 k0 k1 k2 k3 k4 k5 C1 HU HF;go_wp2;go_loopw [7,8,33] (λ_ _ i wr=>∃k:Nat,k<=yA u/\i=lA mA k/\lI (pN c.w r u) k=dA/\jE wr (v.1.size<=·) (v.1.size+1) v.1.size c r (u.take k) M/\uB v wr) (λ_ _ i _=>yA u-(intOf i).toNat)
 case atStart=>exact⟨0,Oa _,rfl,rfl,L0.o,BC.o⟩
 case round=>
  obtain⟨k,hk,rfl,hok,hled,hbel⟩:=hrel;have HOK:cB _:=hok;have E:cB (jE wr (v.1.size<=·) (v.1.size+1) v.1.size c r (u.take k) M):=hled;have x:cB _:=hbel;by_cases C:k<yA u
  .obtain ⟨b,o,N,P,O,Q,rfl,K,f,l,m,n,p1,p2⟩:=HF1.o.at C;obtain⟨n1,n2,n3,n4,n5,n6⟩:=HB.o k C;have HAT:cB (pN c.w r u k=(qO u k&&oP c.w r u[k])):=aX C;have HFAIL:cB (pN c.w r u k=cA->nC c r u=cA):=λh=>by rw[Z.o];exact wP h C
   have Y:cB (0<k->∃I:jB,qO u k=eK I u[k].N/\v.cell? ⟨b,o+(k-1)*4,aA⟩=bA (oA I)):=λh0=>by
    refine⟨_,rW h0 C,?_⟩;obtain⟨b',o',_,_,_,_,e,_,u0,_⟩:=HF1.o.at (i:=k-1) (by omega)
    simp only[Qa,Addr.mk.injEq,Cc]at e;rw[e.1,e.2];exact u0
   have HPZ:cB (k=0->qO u k=dA):=λh0=>by subst h0;rfl
   have HTK:cB (qO u k=dA->fC (·.N) u[k] (u.take k)=u.take (k+1)/\dD (·.N) u[k].N (u.take k)=aA):=λh=>QY (key:=λt:fB=>t.N) C (by
    apply lU;intro j hj;simp only[Hb]at hj;by_cases e:j+1=k
    .subst e;rw[rW (by omega) C]at h;simpa using h
    have:=yO HOK.o (k:=j+1) (by omega);rw[aX (by omega),Sa]at this;have h1:=this.1;rw[rW (by omega) (by omega)]at h1;simpa using h1)
   have HTL:cB (yA (u.take k)<=1000000000):=by show _<=_;rw[Hb];omega
   have z0:=(x.o.cell K).trans f;have z1:=(x.o.cell K).trans l;have z2:=(x.o.cell K).trans m;have z3:=(x.o.cell K).trans n;generalize u[k]=T at *;have X:cB (∀W,jE W (v.1.size<=·) (v.1.size+1) v.1.size c r (u.take k) M->uB v W->qO u k=dA->gA prog 78 #[sA (bA ⟨v.1.size+1,0,aA⟩),.agg #[oA T.N,lA mA T.L,pA N (yA T.M) P,pA O (yA T.Z) Q]] W λe y=>e=uA (qA (oP c.w r T))/\(oP c.w r T=dA->jE y (v.1.size<=·) (v.1.size+1) v.1.size c r (u.take (k+1)) M)/\eB (·=v.1.size) W y):=λW hW hb L=>by
    refine(aFw (v.1.size+1) v.1.size T N O P Q c r (u.take k) M v W hW hb HU1.o p1 p2 (HTK.o L).2 n1 n2 n3 n4 n5 HTL.o n6 hn0 hn1 hw0 hw1).mono ?_;rintro e y ⟨h1,h2,h3⟩;rw[(HTK.o L).1]at h2;exact⟨h1,h2,h3⟩
   have hTBG:v.1.size+1<wr.1.size:=by obtain⟨_,_,hz,_⟩:=E.o;exact aB hz.blk
   go_upto_region 7 with fail;have G:cB (nB (wr.alloc (vA #[oA T.N,lA mA T.L,pA N (yA T.M) P,pA O (yA T.Z) Q] 94)) wr.1.size #[oA T.N,lA mA T.L,pA N (yA T.M) P,pA O (yA T.Z) Q] 94):=nB.new _ _ _;have A:cB (uB v (wr.alloc (vA #[oA T.N,lA mA T.L,pA N (yA T.M) P,pA O (yA T.Z) Q] 94))):=x.o.trans (zB.mono x.o.size);have HL2:cB (jE (wr.alloc (vA #[oA T.N,lA mA T.L,pA N (yA T.M) P,pA O (yA T.Z) Q] 94)) (v.1.size<=·) (v.1.size+1) v.1.size c r (u.take k) M):=E.o.z zB;generalize wr.alloc (vA #[oA T.N,lA mA T.L,pA N (yA T.M) P,pA O (yA T.Z) Q] 94)=W at *;generalize wr.1.size=J at *;have x0:W.cell? ⟨w.1.size+1,1,aA⟩=bA (pA (bA ⟨b,o,aA⟩) (yA u) H):=(A.o.cell hs1l).trans (S1.o.cell 1);have x1:W.cell? ⟨J,0,aA⟩=bA (oA T.N):=G.o.cell 0;have x2:W.cell? ⟨J,1,aA⟩=bA (lA mA T.L):=G.o.cell 1;have x3:W.cell? ⟨J,2,aA⟩=bA (pA N (yA T.M) P):=G.o.cell 2;have x4:W.cell? ⟨J,3,aA⟩=bA (pA O (yA T.Z) Q):=G.o.cell 3;have HPR2:cB (0<k->∃I:jB,qO u k=eK I T.N/\W.cell? ⟨b,o+(k-1)*4,aA⟩=bA (oA I)):=λh0=>by
    obtain⟨I,e1,e2⟩:=Y.o h0;exact⟨I,e1,(A.o.cell K).trans e2⟩
   have V:cB _:=λL W' hW=>X.o W' (HL2.o.z hW) (A.o.trans (hW.mono A.o.size)) L;have F:=aB G.o;have hWs:=A.o.size;have HBT:cB _:=λy(hw:eB (·=v.1.size) W y)=>A.o.trans (hw.below hWs (λk hk=>by omega));go_cut [57] (λs wx=>s=qA (!(pN c.w r u k))/\(pN c.w r u k=dA->jE wx (v.1.size<=·) (v.1.size+1) v.1.size c r (u.take (k+1)) M)/\uB v wx)
   case first=>
    by_cases h0:(0:Int)<k
    .have h0':0<k:=by omega
     obtain⟨I,L,cp⟩:=HPR2.o h0';obtain⟨j,hj⟩:∃j,j=k-1:=⟨_,rfl⟩
     rw[<-hj]at cp;have hi0:IntKind.i64.wrap ((k:Int)-1)=(j:Int):=by
      have:(k:Int)-1=(j:Int):=by omega
      rw[this];simp only[IntKind.wrap,IntKind.bits,IntKind.signed];simp;omega
     have hi1:(j:Int)<yA u:=by omega
     clear hj;by_cases hb:Op.bytesLess I.toList T.N.toList=dA
     .have D:qO u k=dA:=by rw[L];exact hb
      have HLD:=bB (V.o D);have HV:cB (pN c.w r u k=oP c.w r T):=by show _=_;rw[HAT.o,D,Oc]
      have HKS:cB (∀y,eB (·=v.1.size) W y->y.cell? ⟨w.1.size+1,1,aA⟩=bA (pA (bA ⟨b,o,aA⟩) (yA u) H)/\y.cell? ⟨b,o+j*4,aA⟩=bA (oA I)/\y.cell? ⟨J,0,aA⟩=bA (oA T.N)/\y.cell? ⟨J,1,aA⟩=bA (lA mA T.L)/\y.cell? ⟨J,2,aA⟩=bA (pA N (yA T.M) P)/\y.cell? ⟨J,3,aA⟩=bA (pA O (yA T.Z) Q)):=λy hw=>by
       have hg:∀g,g<W.1.size->g≠v.1.size->∀q,y.cell? ⟨g,q,aA⟩=W.cell? ⟨g,q,aA⟩:=λg h1 h2 q=>eA.cell?_of_block (hw.block g h1 h2);exact⟨(hg _ (by omega) (by omega) _).trans x0,(hg _ (by omega) (by omega) _).trans cp,(hg _ F (by omega) _).trans x1,(hg _ F (by omega) _).trans x2,(hg _ F (by omega) _).trans x3,(hg _ F (by omega) _).trans x4⟩
      go_region_held3 (λy=>y.cell? ⟨w.1.size+1,1,aA⟩=bA (pA (bA ⟨b,o,aA⟩) (yA u) H)/\y.cell? ⟨b,o+j*4,aA⟩=bA (oA I)/\y.cell? ⟨J,0,aA⟩=bA (oA T.N)/\y.cell? ⟨J,1,aA⟩=bA (lA mA T.L)/\y.cell? ⟨J,2,aA⟩=bA (pA N (yA T.M) P)/\y.cell? ⟨J,3,aA⟩=bA (pA O (yA T.Z) Q))
       (first|go_keep|exact HKS.o _ hs8)
       (first|(go_at_call 78;refine lC (HLD.o _ (by repeat (first|with_reducible exact iD|exact iD.drew|with_reducible refine Below.drew ?_))) ?_;rintro w8 ⟨B,ht8⟩;have hs8:eB (·=v.1.size) W w8:=(eB.refl _ _).drew.trans' ht8))
      all_goals(go_wp2_with fail;go_meet)
      all_goals exact⟨by rw[HV.o],λh=>by rw[HV.o]at h;exact B h,HBT.o _ hs8⟩
     have hb':Op.bytesLess I.toList T.N.toList=cA:=by simpa using hb
     have HV:cB (pN c.w r u k=cA):=by show _=_;rw[HAT.o,L,eK,hb'];rfl
     clear L hb;go_quiet (fail)
     go_wp2_with fail;go_meet;exact⟨by rw[HV.o];rfl,λh=>absurd h (by rw[HV.o];simp),below_drewN A.o _⟩
    have hd':decide (0<k)=cA:=by simp;omega
    have hnk:¬0<k:=by omega
    have D:=HPZ.o (by omega);have HLD:=bB (V.o D);have HV:cB (pN c.w r u k=oP c.w r T):=by show _=_;rw[HAT.o,D,Oc]
    clear D;refine pM 17 (by kernel_rfl) (by kernel_rfl) ?_;simp only[Rg,List.take_zero,Sg,Kf];have hnel:Nonempty Unit:=⟨()⟩
    repeat (go_big_quiet_step (fail))
    refine wpQuiet_nil ?_;go_wp2_with(first|(go_at_call 78;apply lC (HLD.o _ iD.drew);rintro w8 ⟨B,ht8⟩));go_meet;exact⟨by rw[HV.o],λh=>by rw[HV.o]at h;exact B h,HBT.o _ ((eB.refl _ _).drew.trans' ht8)⟩
   obtain⟨rfl,B,hb8⟩:=hcut;rename eA=>w8;have HB8:cB _:=hb8;by_cases d:pN c.w r u k=cA
   .have HF4:cB _:=HFAIL.o d;rw[d];clear d B hb8;go_wp2;go_ret2;exact Ca ⟨HF4.o,rfl,vB U.o HB8.o⟩
   have R:pN c.w r u k=dA:=by simpa using d
   have HF4:cB (lI (pN c.w r u) (k+1)=dA):=by show _=_;rw[sL,HOK.o,R];rfl
   have HL8:cB (jE w8 (v.1.size<=·) (v.1.size+1) v.1.size c r (u.take (k+1)) M):=B R;rw[R];clear d R B hb8;go_wp2;exact⟨⟨k+1,by omega,by go_num,HF4.o,HL8.o,HB8.o⟩,by simp[intOf];omega⟩
  have ek:k=yA u:=by omega
  have HEND:cB (nC c r u=dA):=by show _=_;rw[Z.o];have:=HOK.o;rw[ek]at this;exact this
  have HLE:cB (jE wr (v.1.size<=·) (v.1.size+1) v.1.size c r u M):=by have:=E.o;rw[ek,Rb]at this;exact this
  have hz:=U.o.size;go_wp2;go_ret2;exact La ⟨HEND.o,_,_,rfl,by omega,HLE.o.re (λg _ hg=>⟨rfl,Ua hz hg⟩),vB U.o x.o⟩
end
section
open Go.Maps
def pR{v:Value}{g:Nat}{ps:List MemPlace}(h:tE v=bA (mF g,ps)):v=.pointer (yB g):=by
 unfold tE at h;split at h
 .rename_i a;simp only[Qa,Dc,mF,DataW.lit.injEq,Lit.int.injEq,true_and]at h;have:=h.1;have:a=g:=by omega
  rw[this]
 .simp[mF]at h
 cases h
def MF{v:Value}{a:List MemPlace}(h:tE v=bA (DataW.nil,a)):v=sA aA:=by
 unfold tE at h;split at h;simp[mF]at h;rfl
 cases h
def aLn(w:eA):(zeroValue 165).run prog w=.ok (sA aA) w:=by kernel_rfl
def uf(L:List (fB×Nat))(a:jB)(w:eA)(e:Ending)(b:eA):Prop:=
 (∃p,dD (λp:fB×Nat=>p.1.N) a L=bA p/\e=uA (xA #[.pointer (yB p.2),qA dA])/\b=w)\/
 (dD (λp:fB×Nat=>p.1.N) a L=aA/\∃x,e=uA (xA #[.pointer (yB x),qA cA])/\w.1.size<=x/\vD b (λg=>w.1.size<=g) x ⟨a,-1,[],[]⟩ 0/\uB w b)
def QK(l m:Nat)(a:jB)(c:iC)(j:Int)(B:Nat->Prop)(T:Nat->Option Nat)(L:List (fB×Nat))(M:Nat)(w:eA)(h:mL w B T l m c j L M)(q:a.size<=maxLen):
 gA prog 166 #[.pointer (yB l),oA a] w λe s=>uf L a w e s:=by
 have y:tC w l 7 (.map (bA m)):=h.blk.cell 7;obtain⟨v,t,b,f⟩:=h.ten.look_ok aM underlying158 (aLn w) (zd:=.nil) (zp:=[]) rfl (lN q);rw[af,iT (key:=λp:fB×Nat=>p.1.N) (λp=>mF p.2)]at *;clear h;cases hg:dD (λp:fB×Nat=>p.1.N) a L with
 |some p=>
  rw[hg]at b f;have d:=pR f;subst d;have i:cB _:=hg;clear hg f;simp only[Wf]at b;go_enter func166,ntmps166;go_wp2;go_ret2;exact Ca ⟨p,i.o,rfl,rfl⟩
 |none=>
  rw[hg]at b f;have d:=MF f;subst d;have i:cB _:=hg;clear hg f;simp only[Xf]at b;have g:cB _:=λW=>IC (-1) a W;go_enter func166,ntmps166;go_wp2_with fail;refine(g.o _).mono ?_;rintro e u ⟨x,rfl,r,k,o⟩;have n:=bB k;clear k g;go_wp2;go_ret2;exact La ⟨i.o,x,rfl,r,n.o,o⟩
def LZ(l m x:Nat)(c:iC)(a:Int)(t:fB)(S:Nat->Prop)(M:Nat)(w:eA)(d:nB w l (oW c a m) 160)(h:vD w S x t M):
 rL 230 #[.pointer (yB l),.pointer (yB x)] w (zA (if t.L = -1 then c.tl else t.L)):=by
 obtain⟨o,p,j,n,Q,k,D,h⟩:=h;have g:tC w x 0 (zA t.L):=h.blk.cell 0;have i:tC w l 1 (zA c.tl):=d.cell 1;clear h d;by_cases b:t.L = -1
 .rw[Ma b];go_enter func230,ntmps230;go_wp2;go_ret;exact⟨rfl,rfl⟩
 rw[Ja b];go_enter func230,ntmps230;go_wp2;go_ret;exact⟨rfl,rfl⟩
def aFy{w:eA}{e:Nat}{c:List kB}(h:w.ownsMap prog 9 (plainElem prog 3) e (yA c) (fE (c.map λp=>(p.s,eJ p.n)))){m:jB}(f:m.size<=maxLen):
 ∃v:Int,(Instr.lookup 222 (.map (bA e)) (oA m) dA).run prog w=.ok (xA #[zA v,qA (dD (·.s) m c).isSome]) w/\∀p,dD (·.s) m c=bA p->v=p.n:=by
 obtain⟨v,j,b,i⟩:=h.look_ok aM underlying222 (OK w) (zd:=eJ 0) (zp:=[]) (plainElem_int underlying3 (by decide)) (lN f);rw[af (key:=λp:kB=>p.s) (val:=λp=>eJ p.n)]at b;obtain⟨a,rfl,d,_⟩:=plainElem_int_inv underlying3 i;refine⟨a,b,λp g=>?_⟩;rw[iT (key:=λp:kB=>p.s) (λp=>eJ p.n),g]at d;simp[eJ]at d;exact d.1.symm
def dV(l m x:Nat)(c:iC)(g:Int)(t:fB)(S:Nat->Prop)(M:Nat)(met:jB)(w:eA)(i:nB w l (oW c g m) 160)(h:vD w S x t M)(j:met.size<=maxLen):
 rL 231 #[.pointer (yB l),.pointer (yB x),oA met] w (zA (xG t.M met c.ml)):=by
 obtain⟨k,z,r,y,Q,u,D,h⟩:=h;have o:tC w x 1 (.map (bA k)):=h.blk.cell 1;have q:tC w l 2 (zA c.ml):=i.cell 2;obtain⟨v,a,d⟩:=aFy h.lims j;have b:cB _:=XI h.rm met c.ml;clear h i;cases hg:dD (λp:kB=>p.s) met t.M with
 |some p=>
  rw[hg]at a b;have f:=d p hg;subst f;simp only[Wf]at a;clear d hg;go_enter func231,ntmps231;go_wp2;go_ret;exact⟨uF (by rw[b.o];rfl),rfl⟩
 |none=>
  rw[hg]at a b;simp only[Xf]at a;clear d hg;go_enter func231,ntmps231;go_wp2;go_ret;exact⟨uF (by rw[b.o];rfl),rfl⟩
end
section
open Go.Maps
def eb{L:List (fB×Nat)}{a:List fB}(e:L.map (·.1)=a)(k:jB):dD (·.N) k a=(dD (λp:fB×Nat=>p.1.N) k L).map (·.1):=by grind [dD,jW]
def ZE(c:iC)(d:Int)(h:List fB)(l m:Nat)(a:jB)(w:eA)(e:Ending)(f:eA):Prop:=
 ∃x b S g,e=uA (xA #[.pointer (yB x),qA b])/\vD f S x (aC h a) g/\nB f l (oW c d m) 160/\uB w f
def gw(l m:Nat)(a:jB)(c:iC)(b:Int)(B:Nat->Prop)(f:List fB)(M:Nat)(w:eA)(h:jE w B l m c b f M)(n:a.size<=maxLen):
 gA prog 166 #[.pointer (yB l),oA a] w λe o=>ZE c b f l m a w e o:=by
 obtain⟨T,L,h,e⟩:=h;refine(QK l m a c b B T L M w h n).mono ?_;rintro q s (⟨p,d,rfl,rfl⟩|⟨d,x,rfl,r,k,j⟩)
 .have i:aC f a=p.1:=by rw[aC,eb e,d];rfl
  refine⟨p.2,dA,(λg=>B g/\T g=bA p.2),M,rfl,?_,h.blk,iD⟩;rw[i];exact h.idx p (uM d).1
 have i:aC f a=⟨a,-1,[],[]⟩:=by rw[aC,eb e,d];rfl
 refine⟨x,cA,(λg=>w.1.size<=g),0,rfl,?_,h.blk.z j,j⟩;rw[i];exact k
def RR{w:eA}{c M:Nat}{D:DataW Unit}{m:jB}{n:Nat}(h:w.ownsMap prog 9 (plainElem prog 3) c M D)(d:D.atKey (kL m) (eJ 0)=eJ n)(e:m.size<=maxLen):
 (Instr.lookup 222 (.map (bA c)) (oA m) cA).run prog w=.ok (zA n) w:=by
 obtain⟨v,a,b,_⟩:=h.lookup_int aM underlying222 underlying3 (OK _) (lN e);rw[a];have:(eJ v:DataW Unit)=eJ n:=b.symm.trans d;simp[eJ]at this;rw[this]
end
section
open Go.Maps
def xT(s:jB)(w:eA)(j:s.size<=1000000000)(d:uG w):dF 163 #[oA s] w (qA (s.toList.isEmpty||bF s)):=by
 have h:cB (dF 209 #[oA s] w (qA (bF s))):=mW s w j d;clear d;by_cases b:s.toList.isEmpty=dA
 .have a:cB ((s.toList.isEmpty||bF s)=dA):=by show _=_;rw[b];rfl
  go_enter func163,ntmps163;go_wp2;go_ret;exact⟨oB (by rw[a.o]),iD⟩
 have i:s.toList.isEmpty=cA:=by simpa using b
 have a:cB ((s.toList.isEmpty||bF s)=bF s):=by show _=_;rw[i];rfl
 clear b;go_enter func163,ntmps163;go_wp2_with fail;apply lC h.o;intro k f;have g:=bB f;clear f;go_wp2;go_ret;exact⟨oB (by rw[a.o]),g.o⟩
def aNf{c:iC}{a:Int}{b:List fB}(h:nC c a b=dA)(k:jB): -1<=(aC b k).L:=by
 have j:eN c.w a b=dA:=by
  rw[nC,Sa]at h;exact h.2
 unfold aC;cases hg:dD (·.N) k b with
 |none=>exact Xd _
 |some t=>
  obtain⟨i,f,e⟩:=Ib (uM hg).1;have d:=yO j f;rw[pN,Va f,e]at d;have g:bC t.L (-1) 1000000=dA:=by
   cases hb:bC t.L (-1) 1000000 with
   |true=>rfl
   |false=>simp[oP,hb]at d
  exact(xJ g).1
end
section
open Go.Maps
def eB.mapped{w a:eA}{b:Nat}(h:w.mapTurned a b):eB (·=b) w a:=(eB.grown h.grown).mono λi _ e=>by simp only[Qa]at e;exact e.symm
def jS.newLimit{w j:eA}{S:Nat->Prop}{x:Nat}{t:fB}{M f i c:Nat}{d:Value}{Q:List (kB×Nat)}{l:List zI}{D:DataW Unit}{a:Int}(h:jS w S x t M f i c d Q l D)(b:eB (·=x) w j)
(m:nB j x #[zA a,.map (bA f),.map (bA i),.map (bA c),d] 228):vD j S x ⟨t.N,a,t.M,t.Z⟩ M:=by
 refine⟨f,i,c,d,Q,l,D,?_⟩;exact { h with
  blk:=m
  lims:=b.map h.lims (eD h.lims h.blk)
  Z:=b.map h.Z (eD h.Z h.blk)
  cnts:=b.map h.cnts (eD h.cnts h.blk)
  cells:=λq k=>b.blk (h.cells q k) (h.dx q k)
  row:=b.row h.row (λg n e=>(h.di g n).1 e) }
def aHs(x:Nat)(c:jB)(b:Int)(t:fB)(S:Nat->Prop)(M:Nat)(w:eA)(h:vD w S x t M)(J:c.size<=maxLen)(H : -1<=b)(I:b<=1000000)(A:yA t.M<=1000000000):
 gA prog 288 #[.pointer (yB x),oA c,zA b] w λe C=>e=uA (xA #[])/\vD C S x (sH t c b) M/\eB S w C:=by
 obtain⟨v,L,E,K,Q,P,D,h⟩:=h;by_cases l:c.toList.isEmpty=dA
 .have k:cB (sH t c b=⟨t.N,b,t.M,t.Z⟩):=by show _=_;unfold sH;rw[Ma l]
  have N:tC w x 0 (zA t.L):=h.blk.cell 0;have a:=h.blk.free 0;have g:eB (·=x) w (w.setCell (dB x 0) (zA b)):=(eB.refl (·=x) w).setCell (Ca rfl) 0 _;have z:nB (w.setCell (dB x 0) (zA b)) x #[zA b,.map (bA v),.map (bA L),.map (bA E),K] 228:=by have:=h.blk.set 0 (zA b);simpa using this
  have m:cB (vD (w.setCell (dB x 0) (zA b)) S x (sH t c b) M):=by
   refine bB ?_;rw[k.o];exact h.newLimit g z
  have o:cB (eB S w (w.setCell (dB x 0) (zA b))):=g.mono λi _ e=>by subst e;exact h.sx
  clear h g z k;go_enter func288,ntmps288;go_wp2;go_end0;exact⟨rfl,m.o,o.o⟩
 have F:c.toList.isEmpty=cA:=by simpa using l
 have O:tC w x 1 (.map (bA v)):=h.blk.cell 1;have y:cB _:=lN J;by_cases G:b = -1
 .have k:cB (sH t c b={ t with M:=vE (·.s) c t.M}):=by show _=_;unfold sH;rw[Ja l,Ma (by omega)]
  have u:=bB h;clear l h;subst G;go_enter func288,ntmps288;go_wp2_with(at_delete;refine wpList_delete_own _ rfl _ _ 222 9 rfl 3 aM underlying222 (plainElem prog 3) v _ _ rfl u.o.lims _ _ rfl y.o ?_;intro r f d);have g:=eB.mapped d;have m:cB (vD r S x (sH t c (-1)) M):=by
   refine bB ?_;rw[k.o];exact u.o.newLims g f (ZU (key:=λp:kB=>p.s) (λp=>eJ p.n) c t.M) (yP u.o.rm)
  have o:cB (eB S w r):=g.mono λi _ e=>by subst e;exact u.o.sl
  clear f d g;go_end0;exact⟨rfl,m.o,o.o⟩
 have k:cB (sH t c b={ t with M:=fC (·.s) ⟨c,b⟩ t.M}):=by show _=_;unfold sH;rw[Ja l,Ja (by omega)]
 obtain⟨r,B,j,q⟩:=h.lims.store aM underlying222 (by unfold maxLen;omega) (val:=zA b) y.o (plainElem_int underlying3 (WalkArith.wf_i64 (by omega)));have g:=eB.mapped q;have m:cB (vD r S x (sH t c b) M):=by
  refine bB ?_;rw[k.o];exact h.newLims g j (KE (key:=λp:kB=>p.s) (λp=>eJ p.n) ⟨c,b⟩ h.rm) (kK h.rm)
 have o:cB (eB S w r):=g.mono λi _ e=>by subst e;exact h.sl
 clear h j q g k l;go_enter func288,ntmps288;go_wp2;go_end0;exact⟨rfl,m.o,o.o⟩
def QQ(l m:Nat)(c:iC)(b:Int)(B:Nat->Prop)(T:Nat->Option Nat)(L:List (fB×Nat))(M:Nat)(w:eA)(h:mL w B T l m c b L M):
 rL 271 #[.pointer (yB l)] w (qA (decide (10000<=yA L))):=by
 have j:tC w l 7 (.map (bA m)):=h.blk.cell 7;have g:=h.ten.len underlying158 3;rw[bN]at g;clear h;by_cases d:10000<=yA L
 .have a:cB (decide (10000<=yA L)=dA):=by show _=_;simpa using d
  generalize yA L=z at *;have f:¬((z:Int)<10000):=by omega
  go_enter func271,ntmps271;go_wp2;go_ret;exact⟨oB (by first|(rw[a.o];simp;omega)|(simp;omega)|simp),rfl⟩
 have a:cB (decide (10000<=yA L)=cA):=by show _=_;simpa using d
 generalize yA L=z at *;have f:(z:Int)<10000:=by omega
 go_enter func271,ntmps271;go_wp2;go_ret;exact⟨oB (by first|(rw[a.o];simp;omega)|(simp;omega)|simp),rfl⟩
def aT{α β:Type}{f:α->β}{l:List α}(h:(l.map f).Nodup){p q:α}(a:p∈l)(b:q∈l)(e:f p=f q):p=q:=by induction l<;>grind
def vm{w y v:eA}{B:Nat->Prop}{T:Nat->Option Nat}{l m n:Nat}{c:iC}{t:Int}{L:List (fB×Nat)}{M M':Nat}{p:fB×Nat}{t':fB}(h:mL w B T l m c t L M)(F:∀g,w.1.size<=g->B g)(C:p∈L)(A:t'.N=p.1.N)
(b:eB (λg=>B g/\T g=bA p.2) w y)(H:vD y (λg=>(B g/\T g=bA p.2)\/w.1.size<=g) p.2 t' M')(G:M<=M')(d:eB (·=m) y v)
(u:v.ownsMap prog 9 tE m n (DataW.put (fE (L.map λp=>(p.1.N,mF p.2))) (kL t'.N) (mF p.2))):
 jE v B l m c t ((fC (λp:fB×Nat=>p.1.N) (t',p.2) L).map (·.1)) M':=by
 have z:=aB h.blk;have I:=h.ten.lt;have J:=b.size;have s:DataW.put (fE (L.map λp=>(p.1.N,mF p.2))) (kL t'.N) (mF p.2)=fE ((fC (λp:fB×Nat=>p.1.N) (t',p.2) L).map λp=>(p.1.N,mF p.2)):=
  KE (key:=λp:fB×Nat=>p.1.N) (λp=>mF p.2) (t',p.2) h.rise
 have x:∀q∈L,q.1.N≠t'.N->q.2≠p.2:=λq o j e=>by
  have:=aT h.nd o C e;rw[this,A]at j;exact j rfl
 have i:∀g,g<w.1.size->¬(B g/\T g=bA p.2)->g≠m->v.heap[g]?=w.heap[g]?:=λg k D E=>by
  rw[d.block g (by omega) E,b.block g k D]
 refine⟨λg=>if g<w.1.size then T g else bA p.2,_,?_,rfl⟩;exact {
  blk:=(i l z (λe=>by rw[h.tl]at e;cases e.2) h.lm.symm).trans h.blk
  ten:=by
   have:=TM u;rw[s,bN]at this;exact this
  rise:=kK h.rise
  idx:=λq o=>by
   rcases bg h.rise o with rfl|⟨o,j⟩
   .refine H.keep λg k f=>⟨d.block g k (λe=>?_),?_,?_⟩
    .subst e;obtain f|f:=f
     .rw[h.tm]at f;cases f.2
     omega
    .exact f.elim And.left (F g)
    show (if g<w.1.size then T g else bA p.2)=bA p.2;by_cases r:g<w.1.size
    .rw[Ma r];obtain f|f:=f
     .exact f.2
     omega
    rw[Ja r]
   refine ((h.idx q o).mono G).keep λg k f=>⟨i g k (λe=>?_) (λe=>by rw[e,h.tm]at f;cases f.2),f.1,?_⟩
   .have:=x q o j;rw[e.2]at f;exact this (Lc f.2).symm
   show (if g<w.1.size then T g else bA p.2)=_;rw[Ma k];exact f.2
  nd:=by
   rw[GY (key:=λp:fB×Nat=>p.1.N) (a:=(t',p.2)) (·.2) h.rise C A.symm rfl];exact h.nd
  tl:=by show(if l<w.1.size then T l else _)=aA;rw[Ma z];exact h.tl
  tm:=by show(if m<w.1.size then T m else _)=aA;rw[Ma I];exact h.tm
  lB:=h.lB
  mB:=h.mB}
def vl{w y s:eA}{B:Nat->Prop}{T:Nat->Option Nat}{l m n:Nat}{c:iC}{i:Int}{L:List (fB×Nat)}{M:Nat}{k:jB}{S:Nat->Prop}(h:mL w B T l m c i L M)(C:∀g,S g->∀q∈L,q.1.N≠k->T g≠bA q.2)(t:∀g,g<w.1.size->S g->T g≠aA)
(a:eB S w y)(b:eB (·=m) y s)(j:s.ownsMap prog 9 tE m n (DataW.del (fE (L.map λp=>(p.1.N,mF p.2))) (kL k))):
 jE s B l m c i ((vE (λp:fB×Nat=>p.1.N) k L).map (·.1)) M:=by
 have x:=aB h.blk;have D:=a.size;have f:DataW.del (fE (L.map λp=>(p.1.N,mF p.2))) (kL k)=fE ((vE (λp:fB×Nat=>p.1.N) k L).map λp=>(p.1.N,mF p.2)):=
  ZU (key:=λp:fB×Nat=>p.1.N) (λp=>mF p.2) k L
 have d:∀g,g<w.1.size->¬S g->g≠m->s.heap[g]?=w.heap[g]?:=λg u z A=>by
  rw[b.block g (by omega) A,a.block g u z]
 refine⟨T,_,?_,rfl⟩;exact {
  blk:=(d l x (λe=>t l x e h.tl) h.lm.symm).trans h.blk
  ten:=by
   have:=TM j;rw[f,bN]at this;exact this
  rise:=yP h.rise
  idx:=λq o=>by
   obtain⟨o,v⟩:=yS.1 o;exact(h.idx q o).keep λg u r=>⟨d g u (λe=>C g e q o v r.2) (λe=>by rw[e,h.tm]at r;cases r.2),r⟩
  nd:=h.nd.sublist (List.Sublist.map _ Pf)
  tl:=h.tl
  tm:=h.tm
  lB:=h.lB
  mB:=h.mB}
def qm{L:List (fB×Nat)}{k:jB}:dD (·.N) k (L.map (·.1))=(dD (λp:fB×Nat=>p.1.N) k L).map (·.1):=eb rfl k
end
