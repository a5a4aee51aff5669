import Derived.Test.YtiegonaogehghaaGreatDoorJ22
set_option maxRecDepth 100000
set_option maxHeartbeats 8000000
set_option linter.defProp false
open Bool renaming true->dA,false->cA
open Option renaming some->bA,none->aA
open List renaming length->yA
namespace Go.Proofs.YtiegonaogehghaaGreatDoor
open Go renaming World->eA,Calls->gA
open Value renaming slice->pA,bool->qA,string->oA,tuple->xA,pointer->sA,int->lA
open Ending renaming returned->uA
open Obj renaming cells->vA
open IntKind renaming i64->mA
open Go.RowKit Tryz
section
open Go.Maps
def ou(a:List iB)(k:Nat)(d:k<yA a)(b:sC (·.s) (a.take (k+1))):
 DataW.put (aE ((a.take k).map λp=>(p.s,qI p.n))) (kL a[k].s) (qI a[k].n)=aE ((a.take (k+1)).map λp=>(p.s,qI p.n)):=by
 obtain⟨c,_⟩:=OS d b;have:=IM (key:=λp:iB=>p.s) (λp=>qI p.n) a[k] (zr k (l:=a.take (k+1)) b);rw[List.take_take,Nat.min_eq_left (by omega)]at this;rw[this,c]
def PJ(x:Nat)(a:jC)(cap:Nat)(f:List iB)(t:fB)(S:Nat->Prop)(M:Nat)(Y w:eA)(h:mD w S x { t with M:=[] } M)(m:tB Y w)(G:bH Y)(n:lC Y a f)(I:∀g,S g->Y.1.size<=g)(v:∀i(h:i<yA f),f[i].s.size<=1000000000)(o:yA f<=1000000000):
 gA prog 144 #[.pointer (pB x),pA a (yA f) cap] w λe w'=>e=uA (qA (tL f))/\(tL f=dA->mD w' (λg=>S g\/w.1.size<=g) x { t with M:=f} M)/\eB S w w':=by
 have U:bB (mD w S x { t with M:=[] } M):=h;have W:bB _:=m;have Z:bB (bH Y):=G;have o:bB (lC Y a f):=n;have J:bB _:=I;have O:bB _:=v;clear h m G n I v;go_enter func144,ntmps144;go_wp2;go_loopw [5,6,9] (λ_ _ j wr=>∃k:Nat,k<=yA f/\j=zA k/\dI (sL f) k=dA/\mD wr (λg=>S g\/w.1.size<=g) x { t with M:=f.take k} M/\eB S w wr) (λ_ _ j _=>yA f-(intOf j).toNat)
 case atStart=>exact⟨0,Oa _,rfl,rfl,U.o.keep (λg _ hs=>⟨rfl,Ca hs⟩),eB.refl _ _⟩
 case round=>
  obtain⟨k,hk,rfl,I,G,X⟩:=hrel;have Y:bB _:=I;have K:bB (mD wr (λg=>S g\/w.1.size<=g) x { t with M:=f.take k} M):=G;have R:bB _:=X;have U:bB _:=W.o.trans (X.below W.o.size (λk hk hs=>by have:=J.o k hs;omega));clear I G X;by_cases p:k<yA f
  .obtain ⟨pb,po,rfl,hpl,c0,c1⟩:=(o.o.z U.o).at p;have G:bB (sL f k=cA->tL f=cA):=λh=>mP h p;have q:bB _:=xY p;have J:=O.o k p;have E:bB (0<k->∃l:nB,wL f k=uJ l f[k].s/\tC wr pb (po+(k-1)*2) (oA l)):=λm=>by
    refine⟨_,xS m p,?_⟩;obtain⟨b',I,e,_,I,_⟩:=(o.o.z U.o).at (i:=k-1) (by omega)
    simp only[Qa,Addr.mk.injEq,Cc]at e;rw[e.1,e.2];exact I
   have O:bB (k=0->wL f k=dA):=λm=>by subst m;rfl
   have o:=ou f k p;have I:bB (sL f k=dA->dI (sL f) (k+1)=dA/\sC (·.s) (f.take (k+1))):=λh=>by
    have W:dI (sL f) (k+1)=dA:=by rw[gL,Y.o,h];rfl
    exact⟨W,IG W (by omega)⟩
   have C:bB _:=o;clear o;have N:bB _:=λW o=>iV f[k].s W J o;generalize f[k]=P at *;go_upto_region 4 with fail;have z:bB (gB (wr.alloc (vA #[oA P.s,zA P.n] 203)) wr.1.size #[oA P.s,zA P.n] 203):=gB.new _ _ _;have y:bB (tB wr (wr.alloc (vA #[oA P.s,zA P.n] 203))):=yB;have u:bB (0<k->∃l:nB,wL f k=uJ l P.s/\(wr.alloc (vA #[oA P.s,zA P.n] 203)).cell? (dB pb (po+(k-1)*2))=bA (oA l)):=λm=>by
    obtain⟨l,o,J⟩:=E.o m;exact⟨l,o,(yB.cell hpl).trans J⟩
   generalize wr.alloc (vA #[oA P.s,zA P.n] 203)=W at *;have o:bB (mD W (λg=>S g\/w.1.size<=g) x { t with M:=f.take k} M):=K.o.z y.o;have HTW:bB _:=R.o.trans' (eB.of y.o);have J:bB _:=U.o.trans (y.o.mono U.o.size);generalize wr.1.size=mb at *;clear c0 c1 E hpl K R U y wr;go_cut [38] (λs U=>s=qA (!(sL f k))/\tB W U)
   case first=>
    have U:=iC.cells (show tC W mb 0 (oA P.s) from z.o.cell 0);have U:=iC.cells (show tC W mb 1 (zA P.n) from z.o.cell 1);have U:=iC.there W;have r:bB _:=fun(x:iC W)=>N.o _ (Z.o.z (J.o.trans (x.h.mono J.o.size)));have L:bB _:=λW=>gG P.n W;clear N;have T:(∃l:nB,(0:Int)<k/\0<k/\tC W pb (po+(k-1)*2) (oA l)/\Op.bytesLess l.toList P.s.toList=cA/\bB (sL f k=cA))\/wL f k=dA/\(decide ((0:Int)<k)=cA/\decide (0<k)=cA\/∃l:nB,(0:Int)<k/\0<k/\tC W pb (po+(k-1)*2) (oA l)/\Op.bytesLess l.toList P.s.toList=dA):=by
     by_cases m:0<k
     .obtain ⟨l,n,F⟩:=u.o m;cases v:Op.bytesLess l.toList P.s.toList
      .exact Ca ⟨l,by omega,m,F,v,by show _=_;rw[q.o,n,uJ,v];simp⟩
      exact La ⟨n.trans v,La ⟨l,by omega,m,F,v⟩⟩
     exact La ⟨O.o (by omega),Ca ⟨by simp;omega,by simp;omega⟩⟩
    obtain⟨l,m,U,F,v,W⟩|⟨n,T⟩:=T
    .have d3:=iC.cells F;clear F;refine wB (by kernel_rfl) (by kernel_rfl) ?_;repeat (go_big_quiet_step (first|(go_at_call 209;exact mC (r.o _))|(go_at_call 63;exact wC (L.o _))))
     refine wpQuiet_nil ?_;rintro _ ⟨x,rfl⟩;go_wp2_with fail;go_meet;exact⟨by rw[W.o];rfl,x.h⟩
    have Z:∃V,bB (sL f k=V)/\(xE P.s=cA/\V=cA\/xE P.s=dA/\zB P.n 0 1000000=V):=by
     have hm:=q.o;rw[n]at hm;cases b:xE P.s
     .exact ⟨cA,by show _=_;rw[hm,b];simp,Ca ⟨rfl,rfl⟩⟩
     exact ⟨_,rfl,La ⟨rfl,by rw[hm,b];simp⟩⟩
    clear u O q n;obtain⟨V,W,Z⟩:=Z;obtain⟨n,n⟩|⟨l,m,U,F,v⟩:=T
    rotate_left;have d3:=iC.cells F;clear F;all_goals
     obtain⟨b,rfl⟩|⟨b,d⟩:=Z
     rotate_left;rw[d]at L;cases V
     all_goals
      rw[b]at r;clear b;try clear d
      refine wB (by kernel_rfl) (by kernel_rfl) ?_;repeat (go_big_quiet_step (first|(go_at_call 209;exact mC (r.o _))|(go_at_call 63;exact wC (L.o _))))
      refine wpQuiet_nil ?_;rintro _ ⟨x,rfl⟩;go_wp2_with fail;go_meet;exact⟨by rw[W.o];rfl,x.h⟩
   obtain⟨rfl,B⟩:=hcut;rename eA=>Z;have m:bB (gB Z mb #[oA P.s,zA P.n] 203):=z.o.z B;have U:bB (mD Z (λg=>S g\/w.1.size<=g) x { t with M:=f.take k} M):=o.o.z B;have n:bB _:=HTW.o.trans' (eB.of B);clear B z o HTW J u N;by_cases c:sL f k=cA
   .have HF4:bB _:=G.o c;rw[c];clear c;go_wp2;go_ret;exact⟨oB HF4.o.symm,λh=>absurd h (by rw[HF4.o];simp),n.o⟩
   have A:sL f k=dA:=by simpa using c
   obtain⟨o,W⟩:=I.o A;have h:zB P.n 0 1000000=dA:=by
    have:=q.o;rw[A]at this;cases v:zB P.n 0 1000000 with
    |true=>rfl
    |false=>rw[v]at this;simp at this
   obtain⟨J,J⟩:=zJ h;have G1:bB _:=o;have H:=C.o W;rw[A];clear c A o G q O I C;obtain⟨lm,o,o,o,Q,hs,D,G⟩:=U.o;have J:keyOf prog 9 (oA P.s)=bA (kL P.s):=wM (by unfold maxLen;omega);obtain⟨w8,O,I,o⟩:=G.lims.drew.update qL underlying187 (by simp only[Hb];unfold maxLen;omega) (val:=zA P.n) J (plainElem_int underlying3 (WalkArith.wf_i64 (by omega)));have x0:tC Z x 1 (.map (bA lm)):=G.blk.cell 1;have x1:tC Z mb 0 (oA P.s):=m.o.cell 0;have x2:tC Z mb 1 (zA P.n):=m.o.cell 1;go_wp2_with fail;go_region
   have U:eB (·=lm) Z w8:=(eB.grown (a:=Z) ⟨o.os,o.tape,o.output,o.size,o.block⟩).mono λi _ e=>by simp only[Qa]at e;exact e.symm
   have J:bB (mD w8 (λg=>S g\/w.1.size<=g) x { t with M:=f.take (k+1) } M):=G.newLims U I H W;have m:bB _:=n.o.trans (U.mono λi _ e=>by subst e;exact G.sl);clear G I o U H W x0 x1 x2 O h;go_wp2;exact⟨⟨k+1,by omega,by go_num,G1.o,J.o,m.o⟩,by simp[intOf];omega⟩
  .have ek:k=yA f:=by omega
   have h:bB (tL f=dA):=by have:=Y.o;rw[ek]at this;exact this
   have m:bB (mD wr (λg=>S g\/w.1.size<=g) x { t with M:=f} M):=by have:=K.o;rw[ek,Rb]at this;exact this
   clear ek;go_wp2;go_ret;exact⟨oB h.o.symm,λ_=>m.o,R.o⟩
end
section
open Go.Maps
def yu(a:List bC)(h:∀l∈a,l.V.size<=1000000):(eL a).size<=1000000:=by
 induction a with
 |nil=>simp[eL]
 |cons l r c=>
  rw[eL];split;exact h l (Kc ..);exact c λq b=>h q (Sb _ b)
def yR(s:nB):(wD s).size<=maxLen:=by
 have h:∀l∈(nG s).1,l.V.size<=1000000:=λl a=>by
  cases hd:(nG s).2 with
  |false=>rw[(LV hd).1]at a;simp at a
  |true=>
   obtain⟨i,b,rfl⟩:=Ib a;have:=(pZ (XS hd).1 i b).2;omega
 have:=yu _ h;unfold wD maxLen;omega
def kV(c:gC)(a:Int)(m:Nat):Array Value:=#[zA c.w,zA c.tl,zA c.ml,zA c.sh,zA c.ha,zA c.sg,zA a,.map (bA m)]
def JQ(l m:Nat)(c:gC)(a:Int)(w:eA)(h:gB w l (kV c a m) 161)(g:0<=a)(i:a<=1000000000000)(b:1<=c.w)(d:c.w<=1000000000):
 vE 211 #[.pointer (pB l)] w (zA (a-c.w)):=by
 have j:tC w l 6 (zA a):=h.cell 6;have k:tC w l 0 (zA c.w):=h.cell 0;clear h;go_enter func211,ntmps211;go_wp2_with fail;go_quiet (fail)
 go_wp2;go_ret;exact⟨rfl,below_drewN bD _⟩
def PK(l m x:Nat)(a:jC)(cap:Nat)(r:List iB)(t:fB)(c:gC)(q:Int)(S:Nat->Prop)(M:Nat)(n w:eA)(hl:gB w l (kV c q m) 161)(o:¬S l)(h:mD w S x { t with Z:=[] } M)(v:tB n w)(hU:bH n)(I:lC n a r)(hS:∀g,S g->n.1.size<=g)
(G:∀i(h:i<yA r),r[i].s.size<=1000000000)(J:yA r<=500000000)(J:M<=500000000)(h1:0<=q)(h2:q<=1000000000000)(hw0:1<=c.w)(hw1:c.w<=1000000000):
 gA prog 145 #[.pointer (pB l),.pointer (pB x),pA a (yA r) cap] w λe O=>e=uA (qA (bL c.w q r))/\(bL c.w q r=dA->mD O (λg=>S g\/w.1.size<=g) x { t with Z:=r} (M+yA r))/\eB S w O:=by
 have W:bB (gB w l (kV c q m) 161):=hl;have HSL:bB (¬S l):=o;have HI:bB (mD w S x { t with Z:=[] } M):=h;have H0:bB _:=v;have HU:bB (bH n):=hU;have U:bB (lC n a r):=I;have J:bB _:=hS;have Y:bB _:=G;clear h v hU I hS G hl o;go_enter func145,ntmps145;go_wp2;go_loopw [7,8,9,12] (λ_ _ _ j wr=>∃k:Nat,k<=yA r/\j=zA k/\dI (yI c.w q r) k=dA/\mD wr (λg=>S g\/w.1.size<=g) x { t with Z:=r.take k} (M+k)/\eB S w wr) (λ_ _ _ j _=>yA r-(intOf j).toNat)
 case atStart=>exact⟨0,Oa _,rfl,rfl,HI.o.keep (λg _ N=>⟨rfl,Ca N⟩),eB.refl _ _⟩
 case round=>
  obtain⟨k,hk,rfl,n,L,b0⟩:=hrel;have HOK:bB _:=n;have R:bB (mD wr (λg=>S g\/w.1.size<=g) x { t with Z:=r.take k} (M+k)):=L;have E:bB _:=b0;have o:bB _:=H0.o.trans (b0.below H0.o.size (λk hk N=>by have:=J.o k N;omega));clear n L b0;by_cases A:k<yA r
  .obtain ⟨pb,po,rfl,hpl,c0,c1⟩:=(U.o.z o.o).at A;have n:bB (yI c.w q r k=cA->bL c.w q r=cA):=λh=>mP h A;have C:bB (yI c.w q r k=(wL r k&&kK r[k].s&&zB r[k].n 0 q&&decide (q-r[k].n<c.w))):=pV A;have hsz:=Y.o k A;have J:bB (0<k->∃u:nB,wL r k=uJ u r[k].s/\tC wr pb (po+(k-1)*2) (oA u)):=λv=>by
    refine⟨_,xS v A,?_⟩;obtain⟨b',Y,e,_,Y,_⟩:=(U.o.z o.o).at (i:=k-1) (by omega)
    simp only[Qa,Addr.mk.injEq,Cc]at e;rw[e.1,e.2];exact Y
   have V:bB (k=0->wL r k=dA):=λv=>by subst v;rfl
   have HTK:bB (yI c.w q r k=dA->dI (yI c.w q r) (k+1)=dA/\cC (·.s) r[k] (r.take k)=r.take (k+1)/\xC (·.s) r[k].s (r.take k)=aA):=λh=>by
    have h1:dI (yI c.w q r) (k+1)=dA:=by rw[gL,HOK.o,h];rfl
    exact⟨h1,OS (key:=λp:iB=>p.s) A (IU h1 (by omega))⟩
   have Y:bB (gB wr l (kV c q m) 161):=E.o.blk W.o HSL.o;have HMT:bB (∀W,bH W->vE 210 #[oA r[k].s] W (oA (wD r[k].s))):=λW U=>rY r[k].s W hsz U;have hms:=yR r[k].s;have HTL:bB (yA (r.take k)<=1000000000):=by show _<=_;rw[Hb];omega
   generalize r[k]=P at *;go_upto_region 4 with fail;have X:bB (gB (wr.alloc (vA #[oA P.s,zA P.n] 58)) wr.1.size #[oA P.s,zA P.n] 58):=gB.new _ _ _;have y:bB (tB wr (wr.alloc (vA #[oA P.s,zA P.n] 58))):=yB;have x0:(wr.alloc (vA #[oA P.s,zA P.n] 58)).cell? (dB wr.1.size 0)=bA (oA P.s):=X.o.cell 0;generalize wr.alloc (vA #[oA P.s,zA P.n] 58)=W0 at *;go_wp2_with fail;apply hC (HMT.o _ (HU.o.z (o.o.trans (y.o.mono o.o.size))));intro W z;have B:bB (0<k->∃u:nB,wL r k=uJ u P.s/\tC W pb (po+(k-1)*2) (oA u)):=λv=>by
    obtain⟨u,U,e2⟩:=J.o v;exact⟨u,U,((vB y.o z).cell hpl).trans e2⟩
   have F:bB (gB W wr.1.size #[oA P.s,zA P.n] 58):=X.o.z z;have HIW:bB (mD W (λg=>S g\/w.1.size<=g) x { t with Z:=r.take k} (M+k)):=R.o.z (vB y.o z);have HTW:bB _:=E.o.trans' (eB.of (vB y.o z));have U:bB (gB W l (kV c q m) 161):=Y.o.z (vB y.o z);generalize wr.1.size=mb at *;clear c0 c1 J hpl R E o y z x0 X Y HMT wr W0;go_upto_region 5 with fail;go_cut [53] (λs o=>s=qA (!(yI c.w q r k))/\tB W o)
   case first=>
    have o:=iC.cells (show tC W mb 0 (oA P.s) from F.o.cell 0);have o:=iC.cells (show tC W mb 1 (zA P.n) from F.o.cell 1);have o:=iC.cells (show tC W l 6 (zA q) from U.o.cell 6);have o:=iC.there W;have T:bB _:=λW=>tF P.n q W;have J:bB _:=fun(x:iC W)=>JQ l m c q x.w' (U.o.z x.h) h1 h2 hw0 hw1;have Y:(∃u:nB,(0:Int)<k/\0<k/\tC W pb (po+(k-1)*2) (oA u)/\Op.bytesLess u.toList P.s.toList=cA/\bB (yI c.w q r k=cA))\/wL r k=dA/\(decide ((0:Int)<k)=cA/\decide (0<k)=cA\/∃u:nB,(0:Int)<k/\0<k/\tC W pb (po+(k-1)*2) (oA u)/\Op.bytesLess u.toList P.s.toList=dA):=by
     by_cases v:0<k
     .obtain ⟨u,I,K⟩:=B.o v;cases G:Op.bytesLess u.toList P.s.toList
      .exact Ca ⟨u,by omega,v,K,G,by show _=_;rw[C.o,I,uJ,G];simp⟩
      exact La ⟨I.trans G,La ⟨u,by omega,v,K,G⟩⟩
     exact La ⟨V.o (by omega),Ca ⟨by simp;omega,by simp;omega⟩⟩
    obtain⟨u,v,W,K,G,m⟩|⟨I,Y⟩:=Y
    .have d3:=iC.cells K;clear K;refine wB (by kernel_rfl) (by kernel_rfl) ?_;repeat (go_big_quiet_step (first|(go_at_call 64;exact wC (T.o _))|(go_at_call 211;exact mC (J.o _))))
     refine wpQuiet_nil ?_;rintro _ ⟨x,rfl⟩;go_wp2_with fail;go_meet;exact⟨by rw[m.o];rfl,x.h⟩
    have hf:(wD P.s).toList.isEmpty=dA/\bB (yI c.w q r k=cA)\/(wD P.s).toList.isEmpty=cA/\(zB P.n 0 q=cA/\bB (yI c.w q r k=cA)\/(zB P.n 0 q=dA/\0<=P.n/\P.n<=q)/\(P.n<=q-c.w/\bB (yI c.w q r k=cA)\/¬P.n<=q-c.w/\decide (P.n<=q-c.w)=cA/\bB (yI c.w q r k=dA))):=by
     have Z:=C.o;rw[I,kK]at Z;cases o:(wD P.s).toList.isEmpty
     .rw[o]at Z;refine La ⟨rfl,?_⟩;cases b:zB P.n 0 q
      .exact Ca ⟨rfl,by show _=_;rw[Z,b];simp⟩
      refine La ⟨⟨rfl,zJ b⟩,?_⟩;rw[b]at Z;by_cases d:P.n<=q-c.w
      .exact Ca ⟨d,by show _=_;rw[Z];simp;omega⟩
      exact La ⟨d,by simpa using d,by show _=_;rw[Z];simp;omega⟩
     exact Ca ⟨rfl,by show _=_;rw[Z,o];simp⟩
    clear B V C I;obtain⟨I,I⟩|⟨u,v,W,K,G⟩:=Y
    rotate_left;have d3:=iC.cells K;clear K;all_goals
     obtain⟨o,m⟩|⟨o,⟨b,m⟩|⟨⟨b,o,o⟩,⟨d,m⟩|⟨d,o,m⟩⟩⟩:=hf
     all_goals
      try rw[b]at T
      try clear b
      refine wB (by kernel_rfl) (by kernel_rfl) ?_;repeat (go_big_quiet_step (first|(go_at_call 64;exact wC (T.o _))|(go_at_call 211;exact mC (J.o _))))
      refine wpQuiet_nil ?_;rintro _ ⟨x,rfl⟩;go_wp2_with fail;go_meet;exact⟨by rw[m.o];rfl,x.h⟩
   obtain⟨rfl,H⟩:=hcut;rename eA=>Q;have m:bB (gB Q mb #[oA P.s,zA P.n] 58):=F.o.z H;have o:bB (mD Q (λg=>S g\/w.1.size<=g) x { t with Z:=r.take k} (M+k)):=HIW.o.z H;have D:bB _:=HTW.o.trans' (eB.of H);clear H F HIW HTW B U;by_cases f:yI c.w q r k=cA
   .have HF4:bB _:=n.o f;rw[f];clear f;go_wp2;go_ret;exact⟨oB HF4.o.symm,λh=>absurd h (by rw[HF4.o];simp),D.o⟩
   have Y:yI c.w q r k=dA:=by simpa using f
   obtain⟨h,G,J⟩:=HTK.o Y;have U:bB _:=h;have W:bB _:=G;have I:bB (gA prog 212 #[.pointer (pB x),oA P.s,oA (wD P.s),zA P.n] Q λe O=>e=uA (xA #[])/\mD O (λg=>(S g\/w.1.size<=g)\/Q.1.size<=g) x { t with Z:=cC (·.s) ⟨P.s,P.n⟩ (r.take k) } (M+k+1)/\eB (λg=>S g\/w.1.size<=g) Q O):=
    qw x { t with Z:=r.take k} P.s P.n _ (M+k) Q o.o J (by unfold maxLen;omega) hms (by omega) HTL.o
   have x1:tC Q mb 0 (oA P.s):=m.o.cell 0;have x2:tC Q mb 1 (zA P.n):=m.o.cell 1;rw[Y];clear f Y h G J n C V HTK;go_wp2_with fail;apply hC I.o;rintro n ⟨h,m⟩;have G:bB (mD n (λg=>S g\/w.1.size<=g) x { t with Z:=r.take (k+1) } (M+(k+1))):=by
    have:=h.keep (w':=n) (S':=λg=>S g\/w.1.size<=g) (λg _ N=>⟨rfl,by obtain N|N:=N;exact N;exact La (by have:=D.o.size;omega)⟩);rw[show(⟨P.s,P.n⟩:iB)=P from rfl,W.o]at this;exact this
   have n:bB _:=D.o.trans m;clear h m I x1 x2 o D;go_wp2;exact⟨⟨k+1,by omega,by go_num,U.o,G.o,n.o⟩,by simp[intOf];omega⟩
  .have ek:k=yA r:=by omega
   have h:bB (bL c.w q r=dA):=by have:=HOK.o;rw[ek]at this;exact this
   have m:bB (mD wr (λg=>S g\/w.1.size<=g) x { t with Z:=r} (M+yA r)):=by have:=R.o;rw[ek,Rb]at this;exact this
   clear ek;go_wp2;go_ret;exact⟨oB h.o.symm,λ_=>m.o,E.o⟩
end
section
open Go.Maps
structure cL(w:World)(B:Nat→Prop)(T:Nat→Option Nat)(l m:Nat)(c:gC)(now:Int)(L:List (fB×Nat))(M:Nat):Prop where
 blk:gB w l (kV c now m) 161
 ten:w.ownsMap prog 9 nE m (yA L) (aE (L.map λp=>(p.1.N,fF p.2)))
 rise:sC (λp:fB×Nat=>p.1.N) L
 idx:∀p∈L,mD w (λg=>B g∧T g=bA p.2) p.2 p.1 M
 nd:(L.map (·.2)).Nodup
 tl:T l=aA
 tm:T m=aA
 lB:B l
 mB:B m
def eE(w:eA)(B:Nat->Prop)(l m:Nat)(c:gC)(a:Int)(b:List fB)(M:Nat):Prop:=∃T L,cL w B T l m c a L M/\L.map (·.1)=b
def cL.lm{w:eA}{B:Nat->Prop}{T:Nat->Option Nat}{l m:Nat}{c:gC}{a:Int}{L:List (fB×Nat)}{M:Nat}(h:cL w B T l m c a L M):m≠l:=yC h.ten h.blk
def cL.keep{w w':eA}{B:Nat->Prop}{T:Nat->Option Nat}{l m:Nat}{c:gC}{b:Int}{L:List (fB×Nat)}{M:Nat}(h:cL w B T l m c b L M)(d:∀g,g<w.1.size->B g->w'.heap[g]?=w.heap[g]?):cL w' B T l m c b L M:=
 { h with
  blk:=(d l (aB h.blk) h.lB).trans h.blk
  ten:=by
   have e:=h.ten.lt;obtain⟨i,a,j,r⟩:=h.ten;exact⟨i,a,(d m e h.mB).trans j,r⟩
  idx:=λp n=>(h.idx p n).keep λg k f=>⟨d g k f.1,f⟩ }
def eE.z{w d:eA}{B:Nat->Prop}{l m:Nat}{c:gC}{a:Int}{b:List fB}{M:Nat}(h:eE w B l m c a b M)(f:tB w d):eE d B l m c a b M:=by
 obtain⟨T,L,h,e⟩:=h;exact⟨T,L,h.keep λg i _=>f.block g i,e⟩
def fv{w k H D z:eA}{B:Nat->Prop}{T:Nat->Option Nat}{l m x n:Nat}{c:gC}{u:Int}{L:List (fB×Nat)}{M M':Nat}{t:fB}(h:cL w B T l m c u L M)(I:∀g,w.1.size<=g->B g)(q:xC (λp:fB×Nat=>p.1.N) t.N L=aA)
(E:tB w k)(F:tB k H)(R:k.1.size<=x)(b:eB (·=m) H D)(v:D.ownsMap prog 9 nE m n (DataW.put (aE (L.map λp=>(p.1.N,fF p.2))) (kL t.N) (fF x)))
(d:eB (λg=>k.1.size<=g) D z)(A:mD z (λg=>k.1.size<=g) x t M')(J:M'<=M):
 eE z B l m c u ((cC (λp:fB×Nat=>p.1.N) (t,x) L).map (·.1)) M:=by
 have G:=aB h.blk;have K:=h.ten.lt;have O:=E.size;have P:=F.size;have Q:=b.size;have o:∀p,p∈cC (λp:fB×Nat=>p.1.N) (t,x) L->p=(t,x)\/p∈L:=λp i=>sK i;have j:=IA (key:=λp:fB×Nat=>p.1.N) (a:=(t,x)) q;have f:∀g,g<w.1.size->g≠m->z.heap[g]?=w.heap[g]?:=λg y C=>by
  rw[d.block g (by omega) (by omega),b.block g (by omega) C,F.block g (by omega),E.block g y]
 have r:DataW.put (aE (L.map λp=>(p.1.N,fF p.2))) (kL t.N) (fF x)=aE ((cC (λp:fB×Nat=>p.1.N) (t,x) L).map λp=>(p.1.N,fF p.2)):=
  IM (key:=λp:fB×Nat=>p.1.N) (λp=>fF p.2) (t,x) h.rise
 refine⟨λg=>if g<w.1.size then T g else bA x,_,?_,rfl⟩;exact {
  blk:=(f l G h.lm.symm).trans h.blk
  ten:=by
   have:=RF (d.map v (by omega));rw[r,kM]at this;exact this
  rise:=dK h.rise
  idx:=λp i=>by
   rcases o p i with rfl|i
   .refine (A.mono J).keep λg _ s=>⟨rfl,I g (by omega),?_⟩
    show(if g<w.1.size then T g else bA x)=bA x;rw[Ja (by omega)]
   refine (h.idx p i).keep λg y s=>⟨f g y (λe=>by rw[e,h.tm]at s;cases s.2),s.1,?_⟩
   show(if g<w.1.size then T g else bA x)=_;rw[Ma y];exact s.2
  nd:=by
   rw[(j.map _).nodup_iff,Fc,List.nodup_cons];refine⟨λN=>?_,h.nd⟩;obtain⟨p,i,e⟩:=Md.1 N;have:=(h.idx p i).lt;simp only at e;omega
  tl:=by show(if l<w.1.size then T l else _)=aA;rw[Ma G];exact h.tl
  tm:=by show(if m<w.1.size then T m else _)=aA;rw[Ma K];exact h.tm
  lB:=h.lB
  mB:=h.mB}
def xf{L:List (fB×Nat)}{k:nB}(h:xC (·.N) k (L.map (·.1))=aA):xC (λp:fB×Nat=>p.1.N) k L=aA:=by grind [xC]
def aDt(l m:Nat)(t:fB)(u v:jC)(B C:Nat)(c:gC)(n:Int)(Y:List fB)(M:Nat)(q w:eA)(h:eE w (q.1.size<=·) l m c n Y M)(h0:tB q w)(hU:bH q)(p1:lC q u t.M)(p2:lC q v t.Z)
(I:xC (·.N) t.N Y=aA)(hn:t.N.size<=maxLen)(s:∀i(h:i<yA t.M),t.M[i].s.size<=1000000000)(o:∀i(h:i<yA t.Z),t.Z[i].s.size<=1000000000)(hl1:yA t.M<=500000000)(G:yA t.Z<=500000000)(J:yA Y<=1000000000)(hM:yA t.Z<=M)
(hn0:0<=n)(hn1:n<=1000000000000)(hw0:1<=c.w)(hw1:c.w<=1000000000):
 gA prog 78 #[.pointer (pB l),.agg #[oA t.N,zA t.L,pA u (yA t.M) B,pA v (yA t.Z) C]] w λe E=>e=uA (qA (fO c.w n t))/\
  (fO c.w n t=dA->eE E (q.1.size<=·) l m c n (cC (·.N) t Y) M)/\eB (·=m) w E:=by
 obtain⟨T,L,h,Z⟩:=h;have j:bB (fO c.w n t=(oC t.N&&zB t.L (-1) 1000000&&tL t.M&&bL c.w n t.Z&&!yE t)):=rfl;have r:bB _:=λW=>qJ t.N W hn;by_cases O:oC t.N=cA
 .rw[O]at r j;clear h;go_enter func78,ntmps78;go_wp2_with fail;apply cO (r.o _);go_wp2;go_ret;exact⟨oB (by rw[j.o];simp),λh=>absurd h (by rw[j.o];simp),eB.of yB⟩
 have J:oC t.N=dA:=by simpa using O
 rw[J]at r j;clear O J;have D:bB _:=λW=>tT t.L W;by_cases O:zB t.L (-1) 1000000=cA
 .rw[O]at D j;clear h;go_enter func78,ntmps78;go_wp2_with fail;apply cO (r.o _);go_wp2_with fail;apply cO (D.o _);go_wp2;go_ret;exact⟨oB (by rw[j.o];simp),λh=>absurd h (by rw[j.o];simp),eB.of yB⟩
 have J:zB t.L (-1) 1000000=dA:=by simpa using O
 rw[J]at D j;clear O J;have X:bB _:=h;have J:=h.ten.lt;have J:=aB h.blk;have J:=h0.size;have HLE:bB _:=Z;have O:yA L=yA Y:=by rw[<-Z,Xa]
 have HGN:bB _:=xf (by rw[Z];exact I);have HK:bB _:=wM hn;have O:bB _:=λW=>FE t.L t.N W;have U:bB (∀(S:Nat->Prop)(x:Nat)(W:eA),mD W S x ⟨t.N,t.L,[],[]⟩ 0->tB q W->(∀g,S g->q.1.size<=g)->gA prog 144 #[.pointer (pB x),pA u (yA t.M) B] W λe E=>e=uA (qA (tL t.M))/\(tL t.M=dA->mD E (λg=>S g\/W.1.size<=g) x ⟨t.N,t.L,t.M,[]⟩ 0)/\eB S W E):=
  λS x W hi hb A=>PJ x u B t.M ⟨t.N,t.L,[],[]⟩ S 0 q W hi hb hU p1 A s (by omega)
 have HSS:bB (∀(S:Nat->Prop)(x:Nat)(W:eA),mD W S x ⟨t.N,t.L,t.M,[]⟩ 0->tB q W->(∀g,S g->q.1.size<=g)->gB W l (kV c n m) 161->¬S l->gA prog 145 #[.pointer (pB l),.pointer (pB x),pA v (yA t.Z) C] W λe E=>e=uA (qA (bL c.w n t.Z))/\(bL c.w n t.Z=dA->mD E (λg=>S g\/W.1.size<=g) x ⟨t.N,t.L,t.M,t.Z⟩ (0+yA t.Z))/\eB S W E):=
  λS x W hi hb A hbl hsl=>PK l m x v C t.Z ⟨t.N,t.L,t.M,[]⟩ c n S 0 q W hbl hsl hi hb hU p2 A o G (by omega) hn0 hn1 hw0 hw1
 have H0:bB _:=h0;clear h p1 p2 I hn s o hl1 G Z h0 hU;go_enter func78,ntmps78;go_wp2_with fail;apply cO (r.o _);go_wp2_with fail;apply cO (D.o _);go_wp2_with fail;have B1:bB (tB w (w.alloc (vA #[oA t.N,zA t.L,pA u (yA t.M) B,pA v (yA t.Z) C] 54))):=yB;have X1:bB (gB (w.alloc (vA #[oA t.N,zA t.L,pA u (yA t.M) B,pA v (yA t.Z) C] 54)) w.1.size #[oA t.N,zA t.L,pA u (yA t.M) B,pA v (yA t.Z) C] 54):=gB.new _ _ _;have s:w.1.size<(w.alloc (vA #[oA t.N,zA t.L,pA u (yA t.M) B,pA v (yA t.Z) C] 54)).1.size:=by simp
 generalize w.alloc (vA #[oA t.N,zA t.L,pA u (yA t.M) B,pA v (yA t.Z) C] 54)=F at *;refine(O.o F).mono ?_;rintro e Z ⟨x,rfl,hx,G,o⟩;have B2:bB _:=o;have y:=vB B1.o o;have X2:bB (gB Z w.1.size #[oA t.N,zA t.L,pA u (yA t.M) B,pA v (yA t.Z) C] 54):=X1.o.z o;have L2:bB (gB Z l (kV c n m) 161):=X.o.blk.z y;have N:=(eB.of (S:=λ_=>False) y).map X.o.ten (λe=>e);obtain⟨s,I,K,z⟩:=N.drew.update qL underlying159 (by unfold maxLen;omega) HK.o (wW x);have b:eB (·=m) Z s:=(eB.grown (a:=Z) ⟨z.os,z.tape,z.output,z.size,z.block⟩).mono λi _ e=>by simp only[Qa]at e;exact e.symm
 have T3:bB _:=b;have H:bB (s.ownsMap prog 9 nE m (yA L+1) (DataW.put (aE (L.map λp=>(p.1.N,fF p.2))) (kL t.N) (fF x))):=K;have W:bB (mD s (λg=>F.1.size<=g) x ⟨t.N,t.L,[],[]⟩ 0):=G.keep λg hg A=>⟨b.block g hg (by omega),A⟩
 have hmb:q.1.size<=m:=X.o.mB;have B3:bB _:=(H0.o.trans (y.mono J)).trans (b.below (by have:=y.size;omega) (λk hk=>by omega));have X3:bB (gB s w.1.size #[oA t.N,zA t.L,pA u (yA t.M) B,pA v (yA t.Z) C] 54):=b.blk X2.o (by omega);have L3:bB (gB s l (kV c n m) 161):=b.blk L2.o X.o.lm.symm;have x0:tC Z l 7 (.map (bA m)):=L2.o.cell 7;have x1:tC Z w.1.size 0 (oA t.N):=X2.o.cell 0;have Z:=o.size;have Z:=b.size;have Z:bB _:=(eB.of y).trans' b;clear o y N K z b G X1 X2 L2 O r D;go_upto_region 4 with fail;go_cut [25] (λ_ o=>o=s)
 case first=>
  go_region
  go_wp2_with fail;go_meet;exact rfl
 subst hcut;clear I x0 x1;have G:tC wc w.1.size 2 (pA u (yA t.M) B):=X3.o.cell 2;go_wp2_with fail;refine hC (U.o _ x wc W.o B3.o (λg hg=>by omega)) ?_;rintro w4 ⟨o,d⟩;have s:bB _:=o;have T4:bB _:=d;have P:bB _:=Z.o.trans (d.mono λi _ e=>La (by omega));have X4:bB (gB w4 w.1.size #[oA t.N,zA t.L,pA u (yA t.M) B,pA v (yA t.Z) C] 54):=d.blk X3.o (by omega);have L4:bB (gB w4 l (kV c n m) 161):=d.blk L3.o (by omega);have B4:bB _:=B3.o.trans (d.below (by omega) (λk hk=>by omega));clear o d G U X3 L3 W B3 Z;by_cases o:tL t.M=cA
 .rw[o]at j |-
  go_wp2;go_ret;exact⟨oB (by rw[j.o];simp),λh=>absurd h (by rw[j.o];simp),P.o⟩
 have R:tL t.M=dA:=by simpa using o
 have G:bB (mD w4 (λg=>F.1.size<=g) x ⟨t.N,t.L,t.M,[]⟩ 0):=(s.o R).keep λg _ A=>⟨rfl,by rcases A with A|A<;>omega⟩
 rw[R]at j |-
 clear o R s;have Z:tC w4 w.1.size 3 (pA v (yA t.Z) C):=X4.o.cell 3;go_wp2_with fail;refine hC (HSS.o _ x w4 G.o B4.o (λg hg=>by omega) L4.o (by omega)) ?_;rintro o ⟨V,f⟩;have Q:bB _:=P.o.trans (f.mono λi _ e=>La (by omega));have s:=T4.o.size;by_cases W:bL c.w n t.Z=cA
 .rw[W]at j |-
  clear V f;go_wp2;go_ret;exact⟨oB (by rw[j.o];simp),λh=>absurd h (by rw[j.o];simp),Q.o⟩
 have U:bL c.w n t.Z=dA:=by simpa using W
 have O:bB (mD o (λg=>F.1.size<=g) x t (yA t.Z)):=by
  have:=(V U).keep (w':=o) (S':=λg=>F.1.size<=g) λg _ A=>⟨rfl,by rcases A with A|A<;>omega⟩
  rw[Ya]at this;exact this
 have s:bB _:=T4.o.trans' f;rw[U]at j |-
 have I:bB (eE o (q.1.size<=·) l m c n (cC (·.N) t Y) M):=by
  have:=fv X.o (λg hg=>Ua J hg) HGN.o B1.o B2.o hx T3.o H.o s.o O.o hM;rw[wR (key':=λt:fB=>t.N) (λp:fB×Nat=>p.1) (λ_=>rfl),HLE.o]at this;exact this
 clear W U V f s T4 HSS G B4 L4 X4 P Z H T3 X;have m:bB (hI 146 #[.pointer (pB x)] o (qA (yE t))):=OO x t _ _ o O.o;go_wp2_with fail;apply cO m.o;clear m O;cases cB:yE t with
 |true=>
  rw[cB]at j;go_wp2;go_ret;exact⟨oB (by rw[j.o];rfl),λh=>absurd h (by rw[j.o];simp),Q.o⟩
 |false=>
  rw[cB]at j;go_wp2;go_ret;exact⟨oB (by rw[j.o];rfl),λ_=>I.o,Q.o⟩
end
section
open Go.Maps
def eE.re{w o:eA}{B B':Nat->Prop}{l m:Nat}{c:gC}{b:Int}{n:List fB}{M:Nat}(h:eE w B l m c b n M)(d:∀g,g<w.1.size->B g->o.heap[g]?=w.heap[g]?/\B' g):eE o B' l m c b n M:=by
 obtain⟨T,L,h,e⟩:=h;have j:=d l (aB h.blk) h.lB;have k:=d m h.ten.lt h.mB;refine⟨T,L,{ h with blk:=j.1.trans h.blk,ten:=?_,idx:=λp t=>(h.idx p t).keep λg i f=>⟨(d g i f.1).1,(d g i f.1).2,f.2⟩,lB:=j.2,mB:=k.2},e⟩;obtain⟨q,a,s,r⟩:=h.ten;exact⟨q,a,k.1.trans s,r⟩
def aFz(a:List fB)(M:Nat):Prop:=∀i(h:i<yA a),a[i].N.size<=maxLen/\(∀j(b:j<yA a[i].M),a[i].M[j].s.size<=1000000000)/\(∀j(b:j<yA a[i].Z),a[i].Z[j].s.size<=1000000000)/\yA a[i].M<=500000000/\yA a[i].Z<=500000000/\yA a[i].Z<=M
def mZ(c:gC)(a:Int)(b:List fB)(M:Nat)(w:eA)(e:Ending)(d:eA):Prop:=
 (kC c a b=cA/\e=uA (xA #[sA aA,qA cA])/\tB w d)\/
 (kC c a b=dA/\∃l m,e=uA (xA #[.pointer (pB l),qA dA])/\w.1.size<=l/\eE d (w.1.size<=·) l m c a b M/\tB w d)
def FH(c:gC)(r:Int)(a:jC)(H:Nat)(u:List fB)(M:Nat)(w:eA)(hf:uC w a u)(hfit:aFz u M)(hlen:yA u<=1000000000)(hU:bH w):
 gA prog 23 #[jE c,.agg #[lA mA r,pA a (yA u) H]] w λe y=>mZ c r u M w e y:=by
 have HC:bB _:=λW=>sT c W;have z:bB (kC c r u=(cF c&&zB r 0 1000000000000&&decide (yA u<=10000) &&tM c.w r u)):=rfl;have HF:bB (uC w a u):=hf;have HB:bB (aFz u M):=hfit;have HU:bB (bH w):=hU;have HWI:bB _:=λW=>tF r 1000000000000 W;have HCW:bB (cF c=dA->1<=c.w/\c.w<=1000000000):=λh=>by
  have:zB c.w 1 1000000000=dA:=by
   cases hb:zB c.w 1 1000000000 with
   |true=>rfl
   |false=>rw[cF,hb]at h;simp at h
  exact zJ this
 clear hf hfit hU;unfold jE at *;go_enter func23,ntmps23;go_wp2_with fail;apply hC (HC.o _);intro v S;have U:bB _:=vB (vB yB yB) S;have C1:bB (gB v w.1.size #[lA mA c.w,lA mA c.tl,lA mA c.ml,lA mA c.sh,lA mA c.ha,lA mA c.sg] 24):=cB (((gB.new _ _ _).alloc _).z S);have S1:bB _:=cB (by have:=(gB.new (w.alloc (vA #[lA mA c.w,lA mA c.tl,lA mA c.ml,lA mA c.sh,lA mA c.ha,lA mA c.sg] 24)) #[lA mA r,pA a (yA u) H] 40).z S;simpa using this);have s0:v.cell? ⟨w.1.size+1,0,aA⟩=bA (lA mA r):=S1.o.cell 0;have s1:v.cell? ⟨w.1.size+1,1,aA⟩=bA (pA a (yA u) H):=S1.o.cell 1;have k0:v.cell? ⟨w.1.size,0,aA⟩=bA (lA mA c.w):=C1.o.cell 0;have k1:v.cell? ⟨w.1.size,1,aA⟩=bA (lA mA c.tl):=C1.o.cell 1;have k2:v.cell? ⟨w.1.size,2,aA⟩=bA (lA mA c.ml):=C1.o.cell 2;have k3:v.cell? ⟨w.1.size,3,aA⟩=bA (lA mA c.sh):=C1.o.cell 3;have k4:v.cell? ⟨w.1.size,4,aA⟩=bA (lA mA c.ha):=C1.o.cell 4;have k5:v.cell? ⟨w.1.size,5,aA⟩=bA (lA mA c.sg):=C1.o.cell 5;have hs1l:=aB S1.o;clear S HC;cases g0:cF c
 .rw[g0]at z;go_wp2;go_ret2;exact Ca ⟨by rw[z.o];simp,rfl,U.o⟩
 obtain⟨hw0,hw1⟩:=HCW.o g0;rw[g0]at z;clear g0 HCW;go_wp2_with fail;refine oD (HWI.o _) ?_;clear HWI;cases g1:zB r 0 1000000000000
 .rw[g1]at z;go_wp2;go_ret2;exact Ca ⟨by rw[z.o];simp,rfl,U.o⟩
 obtain⟨hn0,hn1⟩:=zJ g1;rw[g1]at z;clear g1;by_cases g2:(10000:Int)<yA u
 .rw[show decide (yA u<=10000)=cA by simp;omega]at z;go_wp2;go_ret2;exact Ca ⟨by rw[z.o];simp,rfl,U.o⟩
 have Z:bB (kC c r u=tM c.w r u):=by show _=_;rw[z.o,show decide (yA u<=10000)=dA by simp;omega];simp
 clear z;have hmm:=@run_makeMap prog;go_upto_region 3 with fail;go_cut [6] (λs wx=>s=sA (bA ⟨v.1.size+1,0,aA⟩)/\wx=(v.alloc (.map #[] 0)).alloc (vA (kV c r v.1.size) 161))
 case first=>
  go_wp2;go_meet;exact⟨rfl,rfl⟩
 obtain⟨rfl,hwc⟩:=hcut;have L0:bB (eE wc (v.1.size<=·) (v.1.size+1) v.1.size c r (u.take 0) M):=by
  rw[hwc];refine⟨λ_=>aA,[],?_,rfl⟩;exact {
   blk:=by have:=gB.new (v.alloc (.map #[] 0)) (kV c r v.1.size) 161;simpa using this
   ten:=(eA.ownsMap_made v _ _ _).alloc _
   rise:=Gd
   idx:=λp L=>by cases L
   nd:=List.nodup_nil
   tl:=rfl
   tm:=rfl
   lB:=Gf _
   mB:=Ia _}
 have BC:bB (tB v wc):=by rw[hwc];exact vB yB yB
 have s2:=(BC.o.cell hs1l).trans s1;have HU1:bB (bH v):=HU.o.z U.o;have HF1:bB (uC v a u):=HF.o.z U.o;clear hwc hmm s0 s1 k0 k1 k2 k3 k4 k5 C1 HU HF;go_wp2;clear s2;go_loopw [7,8,33] (λ_ _ i wr=>∃k:Nat,k<=yA u/\i=lA mA k/\dI (dN c.w r u) k=dA/\eE wr (v.1.size<=·) (v.1.size+1) v.1.size c r (u.take k) M/\tB v wr) (λ_ _ i _=>yA u-(intOf i).toNat)
 case atStart=>exact⟨0,Oa _,rfl,rfl,L0.o,BC.o⟩
 case round=>
  obtain⟨k,hk,rfl,hok,hled,hbel⟩:=hrel;have HOK:bB _:=hok;have E:bB (eE wr (v.1.size<=·) (v.1.size+1) v.1.size c r (u.take k) M):=hled;have x:bB _:=hbel;clear hok hled hbel L0 BC;by_cases C:k<yA u
  .obtain ⟨b,o,N,P,O,Q,rfl,K,f,l,m,n,p1,p2⟩:=HF1.o.at C;obtain⟨n1,n2,n3,n4,n5,n6⟩:=HB.o k C;have HAT:bB (dN c.w r u k=(yN u k&&fO c.w r u[k])):=fT C;have HFAIL:bB (dN c.w r u k=cA->kC c r u=cA):=λh=>by rw[Z.o];exact mP h C
   have Y:bB (0<k->∃I:nB,yN u k=uJ I u[k].N/\v.cell? ⟨b,o+(k-1)*4,aA⟩=bA (oA I)):=λh0=>by
    refine⟨_,nV h0 C,?_⟩;obtain⟨b',o',_,_,_,_,e,_,u0,_⟩:=HF1.o.at (i:=k-1) (by omega)
    simp only[Qa,Addr.mk.injEq,Cc]at e;rw[e.1,e.2];exact u0
   have HPZ:bB (k=0->yN u k=dA):=λh0=>by subst h0;rfl
   have HTK:bB (yN u k=dA->cC (·.N) u[k] (u.take k)=u.take (k+1)/\xC (·.N) u[k].N (u.take k)=aA):=λh=>OS (key:=λt:fB=>t.N) C (by
    apply zS;intro j hj;simp only[Hb]at hj;by_cases e:j+1=k
    .subst e;rw[nV (by omega) C]at h;simpa using h
    have:=zM HOK.o (k:=j+1) (by omega);rw[fT (by omega),Sa]at this;have h1:=this.1;rw[nV (by omega) (by omega)]at h1;simpa using h1)
   have HTL:bB (yA (u.take k)<=1000000000):=by show _<=_;rw[Hb];omega
   have z0:=(x.o.cell K).trans f;have z1:=(x.o.cell K).trans l;have z2:=(x.o.cell K).trans m;have z3:=(x.o.cell K).trans n;generalize u[k]=T at *;have X:bB (∀W,eE W (v.1.size<=·) (v.1.size+1) v.1.size c r (u.take k) M->tB v W->yN u k=dA->gA prog 78 #[sA (bA ⟨v.1.size+1,0,aA⟩),.agg #[oA T.N,lA mA T.L,pA N (yA T.M) P,pA O (yA T.Z) Q]] W λe y=>e=uA (qA (fO c.w r T))/\(fO c.w r T=dA->eE y (v.1.size<=·) (v.1.size+1) v.1.size c r (u.take (k+1)) M)/\eB (·=v.1.size) W y):=λW hW hb L=>by
    refine(aDt (v.1.size+1) v.1.size T N O P Q c r (u.take k) M v W hW hb HU1.o p1 p2 (HTK.o L).2 n1 n2 n3 n4 n5 HTL.o n6 hn0 hn1 hw0 hw1).mono ?_;rintro e y ⟨h1,h2,h3⟩;rw[(HTK.o L).1]at h2;exact⟨h1,h2,h3⟩
   have hTBG:v.1.size+1<wr.1.size:=by obtain⟨_,_,hz,_⟩:=E.o;exact aB hz.blk
   go_upto_region 7 with fail;have G:bB (gB (wr.alloc (vA #[oA T.N,lA mA T.L,pA N (yA T.M) P,pA O (yA T.Z) Q] 54)) wr.1.size #[oA T.N,lA mA T.L,pA N (yA T.M) P,pA O (yA T.Z) Q] 54):=gB.new _ _ _;have A:bB (tB v (wr.alloc (vA #[oA T.N,lA mA T.L,pA N (yA T.M) P,pA O (yA T.Z) Q] 54))):=x.o.trans (yB.mono x.o.size);have HL2:bB (eE (wr.alloc (vA #[oA T.N,lA mA T.L,pA N (yA T.M) P,pA O (yA T.Z) Q] 54)) (v.1.size<=·) (v.1.size+1) v.1.size c r (u.take k) M):=E.o.z yB;generalize wr.alloc (vA #[oA T.N,lA mA T.L,pA N (yA T.M) P,pA O (yA T.Z) Q] 54)=W at *;generalize wr.1.size=J at *;have x0:W.cell? ⟨w.1.size+1,1,aA⟩=bA (pA (bA ⟨b,o,aA⟩) (yA u) H):=(A.o.cell hs1l).trans (S1.o.cell 1);have x1:W.cell? ⟨J,0,aA⟩=bA (oA T.N):=G.o.cell 0;have x2:W.cell? ⟨J,1,aA⟩=bA (lA mA T.L):=G.o.cell 1;have x3:W.cell? ⟨J,2,aA⟩=bA (pA N (yA T.M) P):=G.o.cell 2;have x4:W.cell? ⟨J,3,aA⟩=bA (pA O (yA T.Z) Q):=G.o.cell 3;have HPR2:bB (0<k->∃I:nB,yN u k=uJ I T.N/\W.cell? ⟨b,o+(k-1)*4,aA⟩=bA (oA I)):=λh0=>by
    obtain⟨I,e1,e2⟩:=Y.o h0;exact⟨I,e1,(A.o.cell K).trans e2⟩
   have V:bB _:=λL W' hW=>X.o W' (HL2.o.z hW) (A.o.trans (hW.mono A.o.size)) L;have F:=aB G.o;have hWs:=A.o.size;have HBT:bB _:=λy(hw:eB (·=v.1.size) W y)=>A.o.trans (hw.below hWs (λk hk=>by omega));clear z0 z1 z2 z3 f l m n p1 p2 Y X E x G wr;go_cut [57] (λs wx=>s=qA (!(dN c.w r u k))/\(dN c.w r u k=dA->eE wx (v.1.size<=·) (v.1.size+1) v.1.size c r (u.take (k+1)) M)/\tB v wx)
   case first=>
    by_cases h0:(0:Int)<k
    .have h0':0<k:=by omega
     obtain⟨I,L,cp⟩:=HPR2.o h0';obtain⟨j,hj⟩:∃j,j=k-1:=⟨_,rfl⟩
     rw[<-hj]at cp;have hi0:IntKind.i64.wrap ((k:Int)-1)=(j:Int):=by
      have:(k:Int)-1=(j:Int):=by omega
      rw[this];simp only[IntKind.wrap,IntKind.bits,IntKind.signed];simp;omega
     have hi1:(j:Int)<yA u:=by omega
     clear hj;by_cases hb:Op.bytesLess I.toList T.N.toList=dA
     .have D:yN u k=dA:=by rw[L];exact hb
      have HLD:=cB (V.o D);have HV:bB (dN c.w r u k=fO c.w r T):=by show _=_;rw[HAT.o,D,Oc]
      clear L D;have HKS:bB (∀y,eB (·=v.1.size) W y->y.cell? ⟨w.1.size+1,1,aA⟩=bA (pA (bA ⟨b,o,aA⟩) (yA u) H)/\y.cell? ⟨b,o+j*4,aA⟩=bA (oA I)/\y.cell? ⟨J,0,aA⟩=bA (oA T.N)/\y.cell? ⟨J,1,aA⟩=bA (lA mA T.L)/\y.cell? ⟨J,2,aA⟩=bA (pA N (yA T.M) P)/\y.cell? ⟨J,3,aA⟩=bA (pA O (yA T.Z) Q)):=λy hw=>by
       have hg:∀g,g<W.1.size->g≠v.1.size->∀q,y.cell? ⟨g,q,aA⟩=W.cell? ⟨g,q,aA⟩:=λg h1 h2 q=>eA.cell?_of_block (hw.block g h1 h2);exact⟨(hg _ (by omega) (by omega) _).trans x0,(hg _ (by omega) (by omega) _).trans cp,(hg _ F (by omega) _).trans x1,(hg _ F (by omega) _).trans x2,(hg _ F (by omega) _).trans x3,(hg _ F (by omega) _).trans x4⟩
      go_region_held3 (λy=>y.cell? ⟨w.1.size+1,1,aA⟩=bA (pA (bA ⟨b,o,aA⟩) (yA u) H)/\y.cell? ⟨b,o+j*4,aA⟩=bA (oA I)/\y.cell? ⟨J,0,aA⟩=bA (oA T.N)/\y.cell? ⟨J,1,aA⟩=bA (lA mA T.L)/\y.cell? ⟨J,2,aA⟩=bA (pA N (yA T.M) P)/\y.cell? ⟨J,3,aA⟩=bA (pA O (yA T.Z) Q))
       (first|go_keep|exact HKS.o _ hs8)
       (first|(go_at_call 78;refine hC (HLD.o _ (by repeat (first|with_reducible exact bD|exact bD.drew|with_reducible refine Below.drew ?_))) ?_;rintro w8 ⟨B,ht8⟩;have hs8:eB (·=v.1.size) W w8:=(eB.refl _ _).drew.trans' ht8))
      all_goals(go_wp2_with fail;go_meet)
      all_goals exact⟨by rw[HV.o],λh=>by rw[HV.o]at h;exact B h,HBT.o _ hs8⟩
     have hb':Op.bytesLess I.toList T.N.toList=cA:=by simpa using hb
     have HV:bB (dN c.w r u k=cA):=by show _=_;rw[HAT.o,L,uJ,hb'];rfl
     clear L hb;go_quiet (fail)
     go_wp2_with fail;go_meet;exact⟨by rw[HV.o];rfl,λh=>absurd h (by rw[HV.o];simp),below_drewN A.o _⟩
    have hd':decide (0<k)=cA:=by simp;omega
    have hnk:¬0<k:=by omega
    have D:=HPZ.o (by omega);have HLD:=cB (V.o D);have HV:bB (dN c.w r u k=fO c.w r T):=by show _=_;rw[HAT.o,D,Oc]
    clear D;refine aR 17 (by kernel_rfl) (by kernel_rfl) ?_;simp only[Rg,List.take_zero,Sg,Kf];have hnel:Nonempty Unit:=⟨()⟩
    repeat (go_big_quiet_step (fail))
    refine wpQuiet_nil ?_;go_wp2_with(first|(go_at_call 78;apply hC (HLD.o _ bD.drew);rintro w8 ⟨B,ht8⟩));go_meet;exact⟨by rw[HV.o],λh=>by rw[HV.o]at h;exact B h,HBT.o _ ((eB.refl _ _).drew.trans' ht8)⟩
   obtain⟨rfl,B,hb8⟩:=hcut;rename eA=>w8;have HB8:bB _:=hb8;by_cases d:dN c.w r u k=cA
   .have HF4:bB _:=HFAIL.o d;rw[d];clear d B hb8;go_wp2;go_ret2;exact Ca ⟨HF4.o,rfl,vB U.o HB8.o⟩
   have R:dN c.w r u k=dA:=by simpa using d
   have HF4:bB (dI (dN c.w r u) (k+1)=dA):=by show _=_;rw[gL,HOK.o,R];rfl
   have HL8:bB (eE w8 (v.1.size<=·) (v.1.size+1) v.1.size c r (u.take (k+1)) M):=B R;rw[R];clear d R B hb8;go_wp2;exact⟨⟨k+1,by omega,by go_num,HF4.o,HL8.o,HB8.o⟩,by simp[intOf];omega⟩
  have ek:k=yA u:=by omega
  have HEND:bB (kC c r u=dA):=by show _=_;rw[Z.o];have:=HOK.o;rw[ek]at this;exact this
  have HLE:bB (eE wr (v.1.size<=·) (v.1.size+1) v.1.size c r u M):=by have:=E.o;rw[ek,Rb]at this;exact this
  have hz:=U.o.size;go_wp2;go_ret2;exact La ⟨HEND.o,_,_,rfl,by omega,HLE.o.re (λg _ hg=>⟨rfl,Ua hz hg⟩),vB U.o x.o⟩
end
section
open Go.Maps
def wQ{v:Value}{g:Nat}{ps:List MemPlace}(h:nE v=bA (fF g,ps)):v=.pointer (pB g):=by
 unfold nE at h;split at h
 .rename_i a;simp only[Qa,Dc,fF,DataW.lit.injEq,Lit.int.injEq,true_and]at h;have:=h.1;have:a=g:=by omega
  rw[this]
 .simp[fF]at h
 cases h
def KJ{v:Value}{a:List MemPlace}(h:nE v=bA (DataW.nil,a)):v=sA aA:=by
 unfold nE at h;split at h;simp[fF]at h;rfl
 cases h
def aJk(w:eA):(zeroValue 97).run prog w=.ok (sA aA) w:=by kernel_rfl
def qt(L:List (fB×Nat))(a:nB)(w:eA)(e:Ending)(b:eA):Prop:=
 (∃p,xC (λp:fB×Nat=>p.1.N) a L=bA p/\e=uA (xA #[.pointer (pB p.2),qA dA])/\b=w)\/
 (xC (λp:fB×Nat=>p.1.N) a L=aA/\∃x,e=uA (xA #[.pointer (pB x),qA cA])/\w.1.size<=x/\mD b (λg=>w.1.size<=g) x ⟨a,-1,[],[]⟩ 0/\tB w b)
def OF(l m:Nat)(a:nB)(c:gC)(j:Int)(B:Nat->Prop)(T:Nat->Option Nat)(L:List (fB×Nat))(M:Nat)(w:eA)(h:cL w B T l m c j L M)(q:a.size<=maxLen):
 gA prog 29 #[.pointer (pB l),oA a] w λe s=>qt L a w e s:=by
 have y:tC w l 7 (.map (bA m)):=h.blk.cell 7;obtain⟨v,t,b,f⟩:=h.ten.look_ok qL underlying159 (aJk w) (zd:=.nil) (zp:=[]) rfl (wM q);rw[YE,gS (key:=λp:fB×Nat=>p.1.N) (λp=>fF p.2)]at *;clear h;cases hg:xC (λp:fB×Nat=>p.1.N) a L with
 |some p=>
  rw[hg]at b f;have d:=wQ f;subst d;have i:bB _:=hg;clear hg f;simp only[Wf]at b;go_enter func29,ntmps29;go_wp2;go_ret2;exact Ca ⟨p,i.o,rfl,rfl⟩
 |none=>
  rw[hg]at b f;have d:=KJ f;subst d;have i:bB _:=hg;clear hg f;simp only[Xf]at b;have g:bB _:=λW=>FE (-1) a W;go_enter func29,ntmps29;go_wp2_with fail;refine(g.o _).mono ?_;rintro e u ⟨x,rfl,r,k,o⟩;have n:=cB k;clear k g;go_wp2;go_ret2;exact La ⟨i.o,x,rfl,r,n.o,o⟩
def KF(l m x:Nat)(c:gC)(a:Int)(t:fB)(S:Nat->Prop)(M:Nat)(w:eA)(d:gB w l (kV c a m) 161)(h:mD w S x t M):
 hI 229 #[.pointer (pB l),.pointer (pB x)] w (zA (if t.L = -1 then c.tl else t.L)):=by
 obtain⟨o,p,j,n,Q,k,D,h⟩:=h;have g:tC w x 0 (zA t.L):=h.blk.cell 0;have i:tC w l 1 (zA c.tl):=d.cell 1;clear h d;by_cases b:t.L = -1
 .rw[Ma b];go_enter func229,ntmps229;go_wp2;go_ret;exact⟨rfl,rfl⟩
 rw[Ja b];go_enter func229,ntmps229;go_wp2;go_ret;exact⟨rfl,rfl⟩
def aDv{w:eA}{e:Nat}{c:List iB}(h:w.ownsMap prog 9 (plainElem prog 3) e (yA c) (aE (c.map λp=>(p.s,qI p.n)))){m:nB}(f:m.size<=maxLen):
 ∃v:Int,(Instr.lookup 187 (.map (bA e)) (oA m) dA).run prog w=.ok (xA #[zA v,qA (xC (·.s) m c).isSome]) w/\∀p,xC (·.s) m c=bA p->v=p.n:=by
 obtain⟨v,j,b,i⟩:=h.look_ok qL underlying187 (MI w) (zd:=qI 0) (zp:=[]) (plainElem_int underlying3 (by decide)) (wM f);rw[YE (key:=λp:iB=>p.s) (val:=λp=>qI p.n)]at b;obtain⟨a,rfl,d,_⟩:=plainElem_int_inv underlying3 i;refine⟨a,b,λp g=>?_⟩;rw[gS (key:=λp:iB=>p.s) (λp=>qI p.n),g]at d;simp[qI]at d;exact d.1.symm
def vT(l m x:Nat)(c:gC)(g:Int)(t:fB)(S:Nat->Prop)(M:Nat)(met:nB)(w:eA)(i:gB w l (kV c g m) 161)(h:mD w S x t M)(j:met.size<=maxLen):
 hI 230 #[.pointer (pB l),.pointer (pB x),oA met] w (zA (tG t.M met c.ml)):=by
 obtain⟨k,z,r,y,Q,u,D,h⟩:=h;have o:tC w x 1 (.map (bA k)):=h.blk.cell 1;have q:tC w l 2 (zA c.ml):=i.cell 2;obtain⟨v,a,d⟩:=aDv h.lims j;have b:bB _:=VD h.rm met c.ml;clear h i;cases hg:xC (λp:iB=>p.s) met t.M with
 |some p=>
  rw[hg]at a b;have f:=d p hg;subst f;simp only[Wf]at a;clear d hg;go_enter func230,ntmps230;go_wp2;go_ret;exact⟨zE (by rw[b.o];rfl),rfl⟩
 |none=>
  rw[hg]at a b;simp only[Xf]at a;clear d hg;go_enter func230,ntmps230;go_wp2;go_ret;exact⟨zE (by rw[b.o];rfl),rfl⟩
end
section
open Go.Maps
def aq{L:List (fB×Nat)}{a:List fB}(e:L.map (·.1)=a)(k:nB):xC (·.N) k a=(xC (λp:fB×Nat=>p.1.N) k L).map (·.1):=by grind [xC,fV]
def GL(c:gC)(d:Int)(h:List fB)(l m:Nat)(a:nB)(w:eA)(e:Ending)(f:eA):Prop:=
 ∃x b S g,e=uA (xA #[.pointer (pB x),qA b])/\mD f S x (xB h a) g/\gB f l (kV c d m) 161/\tB w f
def OI(l m:Nat)(a:nB)(c:gC)(b:Int)(B:Nat->Prop)(f:List fB)(M:Nat)(w:eA)(h:eE w B l m c b f M)(n:a.size<=maxLen):
 gA prog 29 #[.pointer (pB l),oA a] w λe o=>GL c b f l m a w e o:=by
 obtain⟨T,L,h,e⟩:=h;refine(OF l m a c b B T L M w h n).mono ?_;rintro q s (⟨p,d,rfl,rfl⟩|⟨d,x,rfl,r,k,j⟩)
 .have i:xB f a=p.1:=by rw[xB,aq e,d];rfl
  refine⟨p.2,dA,(λg=>B g/\T g=bA p.2),M,rfl,?_,h.blk,bD⟩;rw[i];exact h.idx p (bM d).1
 have i:xB f a=⟨a,-1,[],[]⟩:=by rw[xB,aq e,d];rfl
 refine⟨x,cA,(λg=>w.1.size<=g),0,rfl,?_,h.blk.z j,j⟩;rw[i];exact k
def PN{w:eA}{c M:Nat}{D:DataW Unit}{m:nB}{n:Nat}(h:w.ownsMap prog 9 (plainElem prog 3) c M D)(d:D.atKey (kL m) (qI 0)=qI n)(e:m.size<=maxLen):
 (Instr.lookup 187 (.map (bA c)) (oA m) cA).run prog w=.ok (zA n) w:=by
 obtain⟨v,a,b,_⟩:=h.lookup_int qL underlying187 underlying3 (MI _) (wM e);rw[a];have:(qI v:DataW Unit)=qI n:=b.symm.trans d;simp[qI]at this;rw[this]
end
section
open Go.Maps
def qS(s:nB)(w:eA)(j:s.size<=1000000000)(d:bH w):vE 162 #[oA s] w (qA (s.toList.isEmpty||xE s)):=by
 have h:bB (vE 209 #[oA s] w (qA (xE s))):=iV s w j d;clear d;by_cases b:s.toList.isEmpty=dA
 .have a:bB ((s.toList.isEmpty||xE s)=dA):=by show _=_;rw[b];rfl
  go_enter func162,ntmps162;go_wp2;go_ret;exact⟨oB (by rw[a.o]),bD⟩
 have i:s.toList.isEmpty=cA:=by simpa using b
 have a:bB ((s.toList.isEmpty||xE s)=xE s):=by show _=_;rw[i];rfl
 clear b;go_enter func162,ntmps162;go_wp2_with fail;apply hC h.o;intro k f;have g:=cB f;clear f;go_wp2;go_ret;exact⟨oB (by rw[a.o]),g.o⟩
def aLi{c:gC}{a:Int}{b:List fB}(h:kC c a b=dA)(k:nB): -1<=(xB b k).L:=by
 have j:tM c.w a b=dA:=by
  rw[kC,Sa]at h;exact h.2
 unfold xB;cases hg:xC (·.N) k b with
 |none=>exact Xd _
 |some t=>
  obtain⟨i,f,e⟩:=Ib (bM hg).1;have d:=zM j f;rw[dN,Va f,e]at d;have g:zB t.L (-1) 1000000=dA:=by
   cases hb:zB t.L (-1) 1000000 with
   |true=>rfl
   |false=>simp[fO,hb]at d
  exact(zJ g).1
end
section
open Go.Maps
def eB.mapped{w a:eA}{b:Nat}(h:w.mapTurned a b):eB (·=b) w a:=(eB.grown h.grown).mono λi _ e=>by simp only[Qa]at e;exact e.symm
def nR.newLimit{w j:eA}{S:Nat->Prop}{x:Nat}{t:fB}{M f i c:Nat}{d:Value}{Q:List (iB×Nat)}{l:List mI}{D:DataW Unit}{a:Int}(h:nR w S x t M f i c d Q l D)(b:eB (·=x) w j)
(m:gB j x #[zA a,.map (bA f),.map (bA i),.map (bA c),d] 192):mD j S x ⟨t.N,a,t.M,t.Z⟩ M:=by
 refine⟨f,i,c,d,Q,l,D,?_⟩;exact { h with
  blk:=m
  lims:=b.map h.lims (yC h.lims h.blk)
  Z:=b.map h.Z (yC h.Z h.blk)
  cnts:=b.map h.cnts (yC h.cnts h.blk)
  cells:=λq k=>b.blk (h.cells q k) (h.dx q k)
  row:=b.row h.row (λg n e=>(h.di g n).1 e) }
def aFv(x:Nat)(c:nB)(b:Int)(t:fB)(S:Nat->Prop)(M:Nat)(w:eA)(h:mD w S x t M)(J:c.size<=maxLen)(H : -1<=b)(I:b<=1000000)(A:yA t.M<=1000000000):
 gA prog 287 #[.pointer (pB x),oA c,zA b] w λe C=>e=uA (xA #[])/\mD C S x (qH t c b) M/\eB S w C:=by
 obtain⟨v,L,E,K,Q,P,D,h⟩:=h;by_cases l:c.toList.isEmpty=dA
 .have k:bB (qH t c b=⟨t.N,b,t.M,t.Z⟩):=by show _=_;unfold qH;rw[Ma l]
  have N:tC w x 0 (zA t.L):=h.blk.cell 0;have a:=h.blk.free 0;have g:eB (·=x) w (w.setCell (dB x 0) (zA b)):=(eB.refl (·=x) w).setCell (Ca rfl) 0 _;have z:gB (w.setCell (dB x 0) (zA b)) x #[zA b,.map (bA v),.map (bA L),.map (bA E),K] 192:=by have:=h.blk.set 0 (zA b);simpa using this
  have m:bB (mD (w.setCell (dB x 0) (zA b)) S x (qH t c b) M):=by
   refine cB ?_;rw[k.o];exact h.newLimit g z
  have o:bB (eB S w (w.setCell (dB x 0) (zA b))):=g.mono λi _ e=>by subst e;exact h.sx
  clear h g z k;go_enter func287,ntmps287;go_wp2;go_end0;exact⟨rfl,m.o,o.o⟩
 have F:c.toList.isEmpty=cA:=by simpa using l
 have O:tC w x 1 (.map (bA v)):=h.blk.cell 1;have y:bB _:=wM J;by_cases G:b = -1
 .have k:bB (qH t c b={ t with M:=rE (·.s) c t.M}):=by show _=_;unfold qH;rw[Ja l,Ma (by omega)]
  have u:=cB h;clear l h;subst G;go_enter func287,ntmps287;go_wp2_with(at_delete;refine wpList_delete_own _ rfl _ _ 187 9 rfl 3 qL underlying187 (plainElem prog 3) v _ _ rfl u.o.lims _ _ rfl y.o ?_;intro r f d);have g:=eB.mapped d;have m:bB (mD r S x (qH t c (-1)) M):=by
   refine cB ?_;rw[k.o];exact u.o.newLims g f (XT (key:=λp:iB=>p.s) (λp=>qI p.n) c t.M) (nP u.o.rm)
  have o:bB (eB S w r):=g.mono λi _ e=>by subst e;exact u.o.sl
  clear f d g;go_end0;exact⟨rfl,m.o,o.o⟩
 have k:bB (qH t c b={ t with M:=cC (·.s) ⟨c,b⟩ t.M}):=by show _=_;unfold qH;rw[Ja l,Ja (by omega)]
 obtain⟨r,B,j,q⟩:=h.lims.store qL underlying187 (by unfold maxLen;omega) (val:=zA b) y.o (plainElem_int underlying3 (WalkArith.wf_i64 (by omega)));have g:=eB.mapped q;have m:bB (mD r S x (qH t c b) M):=by
  refine cB ?_;rw[k.o];exact h.newLims g j (IM (key:=λp:iB=>p.s) (λp=>qI p.n) ⟨c,b⟩ h.rm) (dK h.rm)
 have o:bB (eB S w r):=g.mono λi _ e=>by subst e;exact h.sl
 clear h j q g k l;go_enter func287,ntmps287;go_wp2;go_end0;exact⟨rfl,m.o,o.o⟩
def OM(l m:Nat)(c:gC)(b:Int)(B:Nat->Prop)(T:Nat->Option Nat)(L:List (fB×Nat))(M:Nat)(w:eA)(h:cL w B T l m c b L M):
 hI 269 #[.pointer (pB l)] w (qA (decide (10000<=yA L))):=by
 have j:tC w l 7 (.map (bA m)):=h.blk.cell 7;have g:=h.ten.len underlying159 3;rw[kM]at g;clear h;by_cases d:10000<=yA L
 .have a:bB (decide (10000<=yA L)=dA):=by show _=_;simpa using d
  generalize yA L=z at *;have f:¬((z:Int)<10000):=by omega
  go_enter func269,ntmps269;go_wp2;go_ret;exact⟨oB (by first|(rw[a.o];simp;omega)|(simp;omega)|simp),rfl⟩
 have a:bB (decide (10000<=yA L)=cA):=by show _=_;simpa using d
 generalize yA L=z at *;have f:(z:Int)<10000:=by omega
 go_enter func269,ntmps269;go_wp2;go_ret;exact⟨oB (by first|(rw[a.o];simp;omega)|(simp;omega)|simp),rfl⟩
def zR{α β:Type}{f:α->β}{l:List α}(h:(l.map f).Nodup){p q:α}(a:p∈l)(b:q∈l)(e:f p=f q):p=q:=by induction l<;>grind
def ry{w y v:eA}{B:Nat->Prop}{T:Nat->Option Nat}{l m n:Nat}{c:gC}{t:Int}{L:List (fB×Nat)}{M M':Nat}{p:fB×Nat}{t':fB}(h:cL w B T l m c t L M)(F:∀g,w.1.size<=g->B g)(C:p∈L)(A:t'.N=p.1.N)
(b:eB (λg=>B g/\T g=bA p.2) w y)(H:mD y (λg=>(B g/\T g=bA p.2)\/w.1.size<=g) p.2 t' M')(G:M<=M')(d:eB (·=m) y v)
(u:v.ownsMap prog 9 nE m n (DataW.put (aE (L.map λp=>(p.1.N,fF p.2))) (kL t'.N) (fF p.2))):
 eE v B l m c t ((cC (λp:fB×Nat=>p.1.N) (t',p.2) L).map (·.1)) M':=by
 have z:=aB h.blk;have I:=h.ten.lt;have J:=b.size;have s:DataW.put (aE (L.map λp=>(p.1.N,fF p.2))) (kL t'.N) (fF p.2)=aE ((cC (λp:fB×Nat=>p.1.N) (t',p.2) L).map λp=>(p.1.N,fF p.2)):=
  IM (key:=λp:fB×Nat=>p.1.N) (λp=>fF p.2) (t',p.2) h.rise
 have x:∀q∈L,q.1.N≠t'.N->q.2≠p.2:=λq o j e=>by
  have:=zR h.nd o C e;rw[this,A]at j;exact j rfl
 have i:∀g,g<w.1.size->¬(B g/\T g=bA p.2)->g≠m->v.heap[g]?=w.heap[g]?:=λg k D E=>by
  rw[d.block g (by omega) E,b.block g k D]
 refine⟨λg=>if g<w.1.size then T g else bA p.2,_,?_,rfl⟩;exact {
  blk:=(i l z (λe=>by rw[h.tl]at e;cases e.2) h.lm.symm).trans h.blk
  ten:=by
   have:=RF u;rw[s,kM]at this;exact this
  rise:=dK h.rise
  idx:=λq o=>by
   rcases YV h.rise o with rfl|⟨o,j⟩
   .refine H.keep λg k f=>⟨d.block g k (λe=>?_),?_,?_⟩
    .subst e;obtain f|f:=f
     .rw[h.tm]at f;cases f.2
     omega
    .exact f.elim And.left (F g)
    show (if g<w.1.size then T g else bA p.2)=bA p.2;by_cases r:g<w.1.size
    .rw[Ma r];obtain f|f:=f
     .exact f.2
     omega
    rw[Ja r]
   refine ((h.idx q o).mono G).keep λg k f=>⟨i g k (λe=>?_) (λe=>by rw[e,h.tm]at f;cases f.2),f.1,?_⟩
   .have:=x q o j;rw[e.2]at f;exact this (Lc f.2).symm
   show (if g<w.1.size then T g else bA p.2)=_;rw[Ma k];exact f.2
  nd:=by
   rw[FB (key:=λp:fB×Nat=>p.1.N) (a:=(t',p.2)) (·.2) h.rise C A.symm rfl];exact h.nd
  tl:=by show(if l<w.1.size then T l else _)=aA;rw[Ma z];exact h.tl
  tm:=by show(if m<w.1.size then T m else _)=aA;rw[Ma I];exact h.tm
  lB:=h.lB
  mB:=h.mB}
def rx{w y s:eA}{B:Nat->Prop}{T:Nat->Option Nat}{l m n:Nat}{c:gC}{i:Int}{L:List (fB×Nat)}{M:Nat}{k:nB}{S:Nat->Prop}(h:cL w B T l m c i L M)(C:∀g,S g->∀q∈L,q.1.N≠k->T g≠bA q.2)(t:∀g,g<w.1.size->S g->T g≠aA)
(a:eB S w y)(b:eB (·=m) y s)(j:s.ownsMap prog 9 nE m n (DataW.del (aE (L.map λp=>(p.1.N,fF p.2))) (kL k))):
 eE s B l m c i ((rE (λp:fB×Nat=>p.1.N) k L).map (·.1)) M:=by
 have x:=aB h.blk;have D:=a.size;have f:DataW.del (aE (L.map λp=>(p.1.N,fF p.2))) (kL k)=aE ((rE (λp:fB×Nat=>p.1.N) k L).map λp=>(p.1.N,fF p.2)):=
  XT (key:=λp:fB×Nat=>p.1.N) (λp=>fF p.2) k L
 have d:∀g,g<w.1.size->¬S g->g≠m->s.heap[g]?=w.heap[g]?:=λg u z A=>by
  rw[b.block g (by omega) A,a.block g u z]
 refine⟨T,_,?_,rfl⟩;exact {
  blk:=(d l x (λe=>t l x e h.tl) h.lm.symm).trans h.blk
  ten:=by
   have:=RF j;rw[f,kM]at this;exact this
  rise:=nP h.rise
  idx:=λq o=>by
   obtain⟨o,v⟩:=xR.1 o;exact(h.idx q o).keep λg u r=>⟨d g u (λe=>C g e q o v r.2) (λe=>by rw[e,h.tm]at r;cases r.2),r⟩
  nd:=h.nd.sublist (List.Sublist.map _ Pf)
  tl:=h.tl
  tm:=h.tm
  lB:=h.lB
  mB:=h.mB}
def nx{L:List (fB×Nat)}{k:nB}:xC (·.N) k (L.map (·.1))=(xC (λp:fB×Nat=>p.1.N) k L).map (·.1):=aq rfl k
end
