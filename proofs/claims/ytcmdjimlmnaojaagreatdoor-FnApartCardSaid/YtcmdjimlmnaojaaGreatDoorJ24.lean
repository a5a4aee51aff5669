import Derived.Test.YtcmdjimlmnaojaaGreatDoorJ22
set_option maxRecDepth 100000
set_option maxHeartbeats 8000000
set_option linter.defProp false
open Bool renaming true->eA,false->dA
open Option renaming some->cA,none->aA
open List renaming length->zA
namespace Go.Proofs.YtcmdjimlmnaojaaGreatDoor
open Go renaming World->fA,Calls->iA
open Value renaming slice->qA,bool->sA,string->pA,tuple->yA,pointer->tA,int->mA
open Ending renaming returned->vA
open Obj renaming cells->xA
open IntKind renaming i64->oA
open Go.RowKit Tryz
section
open Go.Maps
def ov(a:List kB)(k:Nat)(d:k<zA a)(b:tC (·.s) (a.take (k+1))):
 DataW.put (jE ((a.take k).map λp=>(p.s,aJ p.n))) (kL a[k].s) (aJ a[k].n)=jE ((a.take (k+1)).map λp=>(p.s,aJ p.n)):=by
 obtain⟨c,_⟩:=OW d b;have:=IT (key:=λp:kB=>p.s) (λp=>aJ p.n) a[k] (zk k (l:=a.take (k+1)) b);rw[List.take_take,Nat.min_eq_left (by omega)]at this;rw[this,c]
def PO(x:Nat)(a:nC)(cap:Nat)(f:List kB)(t:gB)(S:Nat->Prop)(M:Nat)(Y w:fA)(h:tD w S x { t with M:=[] } M)(m:xB Y w)(G:kH Y)(n:mC Y a f)(I:∀g,S g->Y.1.size<=g)(v:∀i(h:i<zA f),f[i].s.size<=1000000000)(o:zA f<=1000000000):
 iA prog 138 #[.pointer (vB x),qA a (zA f) cap] w λe w'=>e=vA (sA (yL f))/\(yL f=eA->tD w' (λg=>S g\/w.1.size<=g) x { t with M:=f} M)/\fB S w w':=by
 have Z:cB (tD w S x { t with M:=[] } M):=h;have W:cB _:=m;have HU:cB (kH Y):=G;have o:cB (mC Y a f):=n;have J:cB _:=I;have O:cB _:=v;clear h m G n I v;go_enter func138,ntmps138;go_wp2;go_loopw [5,6,9] (λ_ _ j wr=>∃k:Nat,k<=zA f/\j=aB k/\iI (xL f) k=eA/\tD wr (λg=>S g\/w.1.size<=g) x { t with M:=f.take k} M/\fB S w wr) (λ_ _ j _=>zA f-(intOf j).toNat)
 case atStart=>exact⟨0,Oa _,rfl,rfl,Z.o.keep (λg _ hs=>⟨rfl,Ca hs⟩),fB.refl _ _⟩
 case round=>
  obtain⟨k,hk,rfl,I,G,X⟩:=hrel;have Y:cB _:=I;have K:cB (tD wr (λg=>S g\/w.1.size<=g) x { t with M:=f.take k} M):=G;have R:cB _:=X;have Z:cB _:=W.o.trans (X.below W.o.size (λk hk hs=>by have:=J.o k hs;omega));clear I G X;by_cases p:k<zA f
  .obtain ⟨pb,po,rfl,hpl,c0,c1⟩:=(o.o.z Z.o).at p;have G:cB (xL f k=dA->yL f=dA):=λh=>oP h p;have q:cB _:=zY p;have J:=O.o k p;have E:cB (0<k->∃l:pB,bM f k=bK l f[k].s/\yC wr pb (po+(k-1)*2) (pA l)):=λm=>by
    refine⟨_,zS m p,?_⟩;obtain⟨b',I,e,_,I,_⟩:=(o.o.z Z.o).at (i:=k-1) (by omega)
    simp only[Qa,Addr.mk.injEq,Cc]at e;rw[e.1,e.2];exact I
   have O:cB (k=0->bM f k=eA):=λm=>by subst m;rfl
   have o:=ov f k p;have I:cB (xL f k=eA->iI (xL f) (k+1)=eA/\tC (·.s) (f.take (k+1))):=λh=>by
    have W:iI (xL f) (k+1)=eA:=by rw[lL,Y.o,h];rfl
    exact⟨W,IN W (by omega)⟩
   have C:cB _:=o;clear o;have N:cB _:=λW o=>fV f[k].s W J o;generalize f[k]=P at *;go_upto_region 4 with fail;have z:cB (jB (wr.alloc (xA #[pA P.s,aB P.n] 184)) wr.1.size #[pA P.s,aB P.n] 184):=jB.new _ _ _;have y:cB (xB wr (wr.alloc (xA #[pA P.s,aB P.n] 184))):=bC;have u:cB (0<k->∃l:pB,bM f k=bK l P.s/\(wr.alloc (xA #[pA P.s,aB P.n] 184)).cell? (eB pb (po+(k-1)*2))=cA (pA l)):=λm=>by
    obtain⟨l,o,J⟩:=E.o m;exact⟨l,o,(bC.cell hpl).trans J⟩
   generalize wr.alloc (xA #[pA P.s,aB P.n] 184)=W at *;have o:cB (tD W (λg=>S g\/w.1.size<=g) x { t with M:=f.take k} M):=K.o.z y.o;have HTW:cB _:=R.o.trans' (fB.of y.o);have J:cB _:=Z.o.trans (y.o.mono Z.o.size);generalize wr.1.size=mb at *;clear c0 c1 E hpl K R Z y wr;go_cut [38] (λs Z=>s=sA (!(xL f k))/\xB W Z)
   case first=>
    have Z:=kC.cells (show yC W mb 0 (pA P.s) from z.o.cell 0);have Z:=kC.cells (show yC W mb 1 (aB P.n) from z.o.cell 1);have Z:=kC.there W;have r:cB _:=fun(x:kC W)=>N.o _ (HU.o.z (J.o.trans (x.h.mono J.o.size)));have L:cB _:=λW=>qG P.n W;clear N;have T:(∃l:pB,(0:Int)<k/\0<k/\yC W pb (po+(k-1)*2) (pA l)/\Op.bytesLess l.toList P.s.toList=dA/\cB (xL f k=dA))\/bM f k=eA/\(decide ((0:Int)<k)=dA/\decide (0<k)=dA\/∃l:pB,(0:Int)<k/\0<k/\yC W pb (po+(k-1)*2) (pA l)/\Op.bytesLess l.toList P.s.toList=eA):=by
     by_cases m:0<k
     .obtain ⟨l,n,F⟩:=u.o m;cases v:Op.bytesLess l.toList P.s.toList
      .exact Ca ⟨l,by omega,m,F,v,by show _=_;rw[q.o,n,bK,v];simp⟩
      exact La ⟨n.trans v,La ⟨l,by omega,m,F,v⟩⟩
     exact La ⟨O.o (by omega),Ca ⟨by simp;omega,by simp;omega⟩⟩
    obtain⟨l,m,W,F,v,Z⟩|⟨n,T⟩:=T
    .have d3:=kC.cells F;clear F;refine zB (by kernel_rfl) (by kernel_rfl) ?_;repeat (go_big_quiet_step (first|(go_at_call 204;exact oC (r.o _))|(go_at_call 58;exact bD (L.o _))))
     refine wpQuiet_nil ?_;rintro _ ⟨x,rfl⟩;go_wp2_with fail;go_meet;exact⟨by rw[Z.o];rfl,x.h⟩
    have hf:∃V,cB (xL f k=V)/\(aF P.s=dA/\V=dA\/aF P.s=eA/\yB P.n 0 1000000=V):=by
     have hm:=q.o;rw[n]at hm;cases b:aF P.s
     .exact ⟨dA,by show _=_;rw[hm,b];simp,Ca ⟨rfl,rfl⟩⟩
     exact ⟨_,rfl,La ⟨rfl,by rw[hm,b];simp⟩⟩
    clear u O q n;obtain⟨V,Z,hf⟩:=hf;obtain⟨n,n⟩|⟨l,m,W,F,v⟩:=T
    rotate_left;have d3:=kC.cells F;clear F;all_goals
     obtain⟨b,rfl⟩|⟨b,d⟩:=hf
     rotate_left;rw[d]at L;cases V
     all_goals
      rw[b]at r;clear b;try clear d
      refine zB (by kernel_rfl) (by kernel_rfl) ?_;repeat (go_big_quiet_step (first|(go_at_call 204;exact oC (r.o _))|(go_at_call 58;exact bD (L.o _))))
      refine wpQuiet_nil ?_;rintro _ ⟨x,rfl⟩;go_wp2_with fail;go_meet;exact⟨by rw[Z.o];rfl,x.h⟩
   obtain⟨rfl,B⟩:=hcut;rename fA=>Z;have m:cB (jB Z mb #[pA P.s,aB P.n] 184):=z.o.z B;have W:cB (tD Z (λg=>S g\/w.1.size<=g) x { t with M:=f.take k} M):=o.o.z B;have n:cB _:=HTW.o.trans' (fB.of B);clear B z o HTW J u N;by_cases c:xL f k=dA
   .have HF4:cB _:=G.o c;rw[c];clear c;go_wp2;go_ret;exact⟨oB HF4.o.symm,λh=>absurd h (by rw[HF4.o];simp),n.o⟩
   have A:xL f k=eA:=by simpa using c
   obtain⟨o,g2⟩:=I.o A;have h:yB P.n 0 1000000=eA:=by
    have:=q.o;rw[A]at this;cases v:yB P.n 0 1000000 with
    |true=>rfl
    |false=>rw[v]at this;simp at this
   obtain⟨J,J⟩:=nL h;have G1:cB _:=o;have H:=C.o g2;rw[A];clear c A o G q O I C;obtain⟨lm,o,o,o,Q,hs,D,G⟩:=W.o;have J:keyOf prog 9 (pA P.s)=cA (kL P.s):=eN (by unfold maxLen;omega);obtain⟨W,O,I,o⟩:=G.lims.drew.update vL underlying216 (by simp only[Hb];unfold maxLen;omega) (val:=aB P.n) J (plainElem_int underlying3 (WalkArith.wf_i64 (by omega)));have x0:yC Z x 1 (.map (cA lm)):=G.blk.cell 1;have x1:yC Z mb 0 (pA P.s):=m.o.cell 0;have x2:yC Z mb 1 (aB P.n):=m.o.cell 1;go_wp2_with fail;go_region
   have U:fB (·=lm) Z W:=(fB.grown (a:=Z) ⟨o.os,o.tape,o.output,o.size,o.block⟩).mono λi _ e=>by simp only[Qa]at e;exact e.symm
   have J:cB (tD W (λg=>S g\/w.1.size<=g) x { t with M:=f.take (k+1) } M):=G.newLims U I H g2;have m:cB _:=n.o.trans (U.mono λi _ e=>by subst e;exact G.sl);clear G I o U H g2 x0 x1 x2 O h;go_wp2;exact⟨⟨k+1,by omega,by go_num,G1.o,J.o,m.o⟩,by simp[intOf];omega⟩
  .have ek:k=zA f:=by omega
   have h:cB (yL f=eA):=by have:=Y.o;rw[ek]at this;exact this
   have m:cB (tD wr (λg=>S g\/w.1.size<=g) x { t with M:=f} M):=by have:=K.o;rw[ek,Rb]at this;exact this
   clear ek;go_wp2;go_ret;exact⟨oB h.o.symm,λ_=>m.o,R.o⟩
end
section
open Go.Maps
def yn(a:List cC)(h:∀l∈a,l.V.size<=1000000):(jL a).size<=1000000:=by
 induction a with
 |nil=>simp[jL]
 |cons l r c=>
  rw[jL];split;exact h l (Kc ..);exact c λq b=>h q (Sb _ b)
def dS(s:pB):(dE s).size<=maxLen:=by
 have h:∀l∈(wG s).1,l.V.size<=1000000:=λl a=>by
  cases hd:(wG s).2 with
  |false=>rw[(MG hd).1]at a;simp at a
  |true=>
   obtain⟨i,b,rfl⟩:=Ib a;have:=(pZ (XR hd).1 i b).2;omega
 have:=yn _ h;unfold dE maxLen;omega
def iV(c:lC)(a:Int)(m:Nat):Array Value:=#[aB c.w,aB c.tl,aB c.ml,aB c.sh,aB c.ha,aB c.sg,aB a,.map (cA m)]
def JW(l m:Nat)(c:lC)(a:Int)(w:fA)(h:jB w l (iV c a m) 154)(g:0<=a)(i:a<=1000000000000)(b:1<=c.w)(d:c.w<=1000000000):
 cF 206 #[.pointer (vB l)] w (aB (a-c.w)):=by
 have j:yC w l 6 (aB a):=h.cell 6;have k:yC w l 0 (aB c.w):=h.cell 0;clear h;go_enter func206,ntmps206;go_wp2_with fail;go_quiet (fail)
 go_wp2;go_ret;exact⟨rfl,below_drewN gD _⟩
def PR(l m x:Nat)(a:nC)(cap:Nat)(r:List kB)(t:gB)(c:lC)(q:Int)(S:Nat->Prop)(M:Nat)(n w:fA)(hl:jB w l (iV c q m) 154)(o:¬S l)(h:tD w S x { t with Z:=[] } M)(v:xB n w)(hU:kH n)(I:mC n a r)(hS:∀g,S g->n.1.size<=g)
(G:∀i(h:i<zA r),r[i].s.size<=1000000000)(J:zA r<=500000000)(J:M<=500000000)(h1:0<=q)(h2:q<=1000000000000)(hw0:1<=c.w)(hw1:c.w<=1000000000):
 iA prog 139 #[.pointer (vB l),.pointer (vB x),qA a (zA r) cap] w λe O=>e=vA (sA (fL c.w q r))/\(fL c.w q r=eA->tD O (λg=>S g\/w.1.size<=g) x { t with Z:=r} (M+zA r))/\fB S w O:=by
 have HLB:cB (jB w l (iV c q m) 154):=hl;have HSL:cB (¬S l):=o;have HI:cB (tD w S x { t with Z:=[] } M):=h;have H0:cB _:=v;have HU:cB (kH n):=hU;have W:cB (mC n a r):=I;have J:cB _:=hS;have Y:cB _:=G;clear h v hU I hS G hl o;go_enter func139,ntmps139;go_wp2;go_loopw [7,8,9,12] (λ_ _ _ j wr=>∃k:Nat,k<=zA r/\j=aB k/\iI (jJ c.w q r) k=eA/\tD wr (λg=>S g\/w.1.size<=g) x { t with Z:=r.take k} (M+k)/\fB S w wr) (λ_ _ _ j _=>zA r-(intOf j).toNat)
 case atStart=>exact⟨0,Oa _,rfl,rfl,HI.o.keep (λg _ N=>⟨rfl,Ca N⟩),fB.refl _ _⟩
 case round=>
  obtain⟨k,hk,rfl,n,L,b0⟩:=hrel;have HOK:cB _:=n;have R:cB (tD wr (λg=>S g\/w.1.size<=g) x { t with Z:=r.take k} (M+k)):=L;have E:cB _:=b0;have o:cB _:=H0.o.trans (b0.below H0.o.size (λk hk N=>by have:=J.o k N;omega));clear n L b0;by_cases A:k<zA r
  .obtain ⟨pb,po,rfl,hpl,c0,c1⟩:=(W.o.z o.o).at A;have n:cB (jJ c.w q r k=dA->fL c.w q r=dA):=λh=>oP h A;have C:cB (jJ c.w q r k=(bM r k&&qK r[k].s&&yB r[k].n 0 q&&decide (q-r[k].n<c.w))):=oV A;have hsz:=Y.o k A;have J:cB (0<k->∃u:pB,bM r k=bK u r[k].s/\yC wr pb (po+(k-1)*2) (pA u)):=λv=>by
    refine⟨_,zS v A,?_⟩;obtain⟨b',Y,e,_,Y,_⟩:=(W.o.z o.o).at (i:=k-1) (by omega)
    simp only[Qa,Addr.mk.injEq,Cc]at e;rw[e.1,e.2];exact Y
   have V:cB (k=0->bM r k=eA):=λv=>by subst v;rfl
   have HTK:cB (jJ c.w q r k=eA->iI (jJ c.w q r) (k+1)=eA/\fC (·.s) r[k] (r.take k)=r.take (k+1)/\xC (·.s) r[k].s (r.take k)=aA):=λh=>by
    have h1:iI (jJ c.w q r) (k+1)=eA:=by rw[lL,HOK.o,h];rfl
    exact⟨h1,OW (key:=λp:kB=>p.s) A (JA h1 (by omega))⟩
   have Y:cB (jB wr l (iV c q m) 154):=E.o.blk HLB.o HSL.o;have HMT:cB (∀W,kH W->cF 205 #[pA r[k].s] W (pA (dE r[k].s))):=λW hW=>tY r[k].s W hsz hW;have hms:=dS r[k].s;have HTL:cB (zA (r.take k)<=1000000000):=by show _<=_;rw[Hb];omega
   generalize r[k]=P at *;go_upto_region 4 with fail;have X:cB (jB (wr.alloc (xA #[pA P.s,aB P.n] 134)) wr.1.size #[pA P.s,aB P.n] 134):=jB.new _ _ _;have y:cB (xB wr (wr.alloc (xA #[pA P.s,aB P.n] 134))):=bC;have x0:(wr.alloc (xA #[pA P.s,aB P.n] 134)).cell? (eB wr.1.size 0)=cA (pA P.s):=X.o.cell 0;generalize wr.alloc (xA #[pA P.s,aB P.n] 134)=W0 at *;go_wp2_with fail;apply jC (HMT.o _ (HU.o.z (o.o.trans (y.o.mono o.o.size))));intro W z;have B:cB (0<k->∃u:pB,bM r k=bK u P.s/\yC W pb (po+(k-1)*2) (pA u)):=λv=>by
    obtain⟨u,e1,e2⟩:=J.o v;exact⟨u,e1,((aC y.o z).cell hpl).trans e2⟩
   have F:cB (jB W wr.1.size #[pA P.s,aB P.n] 134):=X.o.z z;have HIW:cB (tD W (λg=>S g\/w.1.size<=g) x { t with Z:=r.take k} (M+k)):=R.o.z (aC y.o z);have HTW:cB _:=E.o.trans' (fB.of (aC y.o z));have U:cB (jB W l (iV c q m) 154):=Y.o.z (aC y.o z);generalize wr.1.size=mb at *;clear c0 c1 J hpl R E o y z x0 X Y HMT wr W0;go_upto_region 5 with fail;go_cut [53] (λs o=>s=sA (!(jJ c.w q r k))/\xB W o)
   case first=>
    have o:=kC.cells (show yC W mb 0 (pA P.s) from F.o.cell 0);have o:=kC.cells (show yC W mb 1 (aB P.n) from F.o.cell 1);have o:=kC.cells (show yC W l 6 (aB q) from U.o.cell 6);have o:=kC.there W;have T:cB _:=λW=>yF P.n q W;have J:cB _:=fun(x:kC W)=>JW l m c q x.w' (U.o.z x.h) h1 h2 hw0 hw1;have Y:(∃u:pB,(0:Int)<k/\0<k/\yC W pb (po+(k-1)*2) (pA u)/\Op.bytesLess u.toList P.s.toList=dA/\cB (jJ c.w q r k=dA))\/bM r k=eA/\(decide ((0:Int)<k)=dA/\decide (0<k)=dA\/∃u:pB,(0:Int)<k/\0<k/\yC W pb (po+(k-1)*2) (pA u)/\Op.bytesLess u.toList P.s.toList=eA):=by
     by_cases v:0<k
     .obtain ⟨u,I,K⟩:=B.o v;cases G:Op.bytesLess u.toList P.s.toList
      .exact Ca ⟨u,by omega,v,K,G,by show _=_;rw[C.o,I,bK,G];simp⟩
      exact La ⟨I.trans G,La ⟨u,by omega,v,K,G⟩⟩
     exact La ⟨V.o (by omega),Ca ⟨by simp;omega,by simp;omega⟩⟩
    obtain⟨u,v,W,K,G,m⟩|⟨I,Y⟩:=Y
    .have d3:=kC.cells K;clear K;refine zB (by kernel_rfl) (by kernel_rfl) ?_;repeat (go_big_quiet_step (first|(go_at_call 59;exact bD (T.o _))|(go_at_call 206;exact oC (J.o _))))
     refine wpQuiet_nil ?_;rintro _ ⟨x,rfl⟩;go_wp2_with fail;go_meet;exact⟨by rw[m.o];rfl,x.h⟩
    have hf:(dE P.s).toList.isEmpty=eA/\cB (jJ c.w q r k=dA)\/(dE P.s).toList.isEmpty=dA/\(yB P.n 0 q=dA/\cB (jJ c.w q r k=dA)\/(yB P.n 0 q=eA/\0<=P.n/\P.n<=q)/\(P.n<=q-c.w/\cB (jJ c.w q r k=dA)\/¬P.n<=q-c.w/\decide (P.n<=q-c.w)=dA/\cB (jJ c.w q r k=eA))):=by
     have Z:=C.o;rw[I,qK]at Z;cases o:(dE P.s).toList.isEmpty
     .rw[o]at Z;refine La ⟨rfl,?_⟩;cases b:yB P.n 0 q
      .exact Ca ⟨rfl,by show _=_;rw[Z,b];simp⟩
      refine La ⟨⟨rfl,nL b⟩,?_⟩;rw[b]at Z;by_cases d:P.n<=q-c.w
      .exact Ca ⟨d,by show _=_;rw[Z];simp;omega⟩
      exact La ⟨d,by simpa using d,by show _=_;rw[Z];simp;omega⟩
     exact Ca ⟨rfl,by show _=_;rw[Z,o];simp⟩
    clear B V C I;obtain⟨I,I⟩|⟨u,v,W,K,G⟩:=Y
    rotate_left;have d3:=kC.cells K;clear K;all_goals
     obtain⟨o,m⟩|⟨o,⟨b,m⟩|⟨⟨b,o,o⟩,⟨d,m⟩|⟨d,o,m⟩⟩⟩:=hf
     all_goals
      try rw[b]at T
      try clear b
      refine zB (by kernel_rfl) (by kernel_rfl) ?_;repeat (go_big_quiet_step (first|(go_at_call 59;exact bD (T.o _))|(go_at_call 206;exact oC (J.o _))))
      refine wpQuiet_nil ?_;rintro _ ⟨x,rfl⟩;go_wp2_with fail;go_meet;exact⟨by rw[m.o];rfl,x.h⟩
   obtain⟨rfl,H⟩:=hcut;rename fA=>Q;have m:cB (jB Q mb #[pA P.s,aB P.n] 134):=F.o.z H;have o:cB (tD Q (λg=>S g\/w.1.size<=g) x { t with Z:=r.take k} (M+k)):=HIW.o.z H;have D:cB _:=HTW.o.trans' (fB.of H);clear H F HIW HTW B U;by_cases f:jJ c.w q r k=dA
   .have HF4:cB _:=n.o f;rw[f];clear f;go_wp2;go_ret;exact⟨oB HF4.o.symm,λh=>absurd h (by rw[HF4.o];simp),D.o⟩
   have Y:jJ c.w q r k=eA:=by simpa using f
   obtain⟨h,G,J⟩:=HTK.o Y;have W:cB _:=h;have G2:cB _:=G;have I:cB (iA prog 207 #[.pointer (vB x),pA P.s,pA (dE P.s),aB P.n] Q λe O=>e=vA (yA #[])/\tD O (λg=>(S g\/w.1.size<=g)\/Q.1.size<=g) x { t with Z:=fC (·.s) ⟨P.s,P.n⟩ (r.take k) } (M+k+1)/\fB (λg=>S g\/w.1.size<=g) Q O):=
    qw x { t with Z:=r.take k} P.s P.n _ (M+k) Q o.o J (by unfold maxLen;omega) hms (by omega) HTL.o
   have x1:yC Q mb 0 (pA P.s):=m.o.cell 0;have x2:yC Q mb 1 (aB P.n):=m.o.cell 1;rw[Y];clear f Y h G J n C V HTK;go_wp2_with fail;apply jC I.o;rintro n ⟨h,m⟩;have G:cB (tD n (λg=>S g\/w.1.size<=g) x { t with Z:=r.take (k+1) } (M+(k+1))):=by
    have:=h.keep (w':=n) (S':=λg=>S g\/w.1.size<=g) (λg _ N=>⟨rfl,by obtain N|N:=N;exact N;exact La (by have:=D.o.size;omega)⟩);rw[show(⟨P.s,P.n⟩:kB)=P from rfl,G2.o]at this;exact this
   have n:cB _:=D.o.trans m;clear h m I x1 x2 o D;go_wp2;exact⟨⟨k+1,by omega,by go_num,W.o,G.o,n.o⟩,by simp[intOf];omega⟩
  .have ek:k=zA r:=by omega
   have h:cB (fL c.w q r=eA):=by have:=HOK.o;rw[ek]at this;exact this
   have m:cB (tD wr (λg=>S g\/w.1.size<=g) x { t with Z:=r} (M+zA r)):=by have:=R.o;rw[ek,Rb]at this;exact this
   clear ek;go_wp2;go_ret;exact⟨oB h.o.symm,λ_=>m.o,E.o⟩
end
section
open Go.Maps
structure iL(w:World)(B:Nat→Prop)(T:Nat→Option Nat)(l m:Nat)(c:lC)(now:Int)(L:List (gB×Nat))(M:Nat):Prop where
 blk:jB w l (iV c now m) 154
 ten:w.ownsMap prog 9 tE m (zA L) (jE (L.map λp=>(p.1.N,kF p.2)))
 rise:tC (λp:gB×Nat=>p.1.N) L
 idx:∀p∈L,tD w (λg=>B g∧T g=cA p.2) p.2 p.1 M
 nd:(L.map (·.2)).Nodup
 tl:T l=aA
 tm:T m=aA
 lB:B l
 mB:B m
def lE(w:fA)(B:Nat->Prop)(l m:Nat)(c:lC)(a:Int)(b:List gB)(M:Nat):Prop:=∃T L,iL w B T l m c a L M/\L.map (·.1)=b
def iL.lm{w:fA}{B:Nat->Prop}{T:Nat->Option Nat}{l m:Nat}{c:lC}{a:Int}{L:List (gB×Nat)}{M:Nat}(h:iL w B T l m c a L M):m≠l:=cD h.ten h.blk
def iL.keep{w w':fA}{B:Nat->Prop}{T:Nat->Option Nat}{l m:Nat}{c:lC}{b:Int}{L:List (gB×Nat)}{M:Nat}(h:iL w B T l m c b L M)(d:∀g,g<w.1.size->B g->w'.heap[g]?=w.heap[g]?):iL w' B T l m c b L M:=
 { h with
  blk:=(d l (bB h.blk) h.lB).trans h.blk
  ten:=by
   have e:=h.ten.lt;obtain⟨i,a,j,r⟩:=h.ten;exact⟨i,a,(d m e h.mB).trans j,r⟩
  idx:=λp n=>(h.idx p n).keep λg k f=>⟨d g k f.1,f⟩ }
def lE.z{w d:fA}{B:Nat->Prop}{l m:Nat}{c:lC}{a:Int}{b:List gB}{M:Nat}(h:lE w B l m c a b M)(f:xB w d):lE d B l m c a b M:=by
 obtain⟨T,L,h,e⟩:=h;exact⟨T,L,h.keep λg i _=>f.block g i,e⟩
def gb{w k H D z:fA}{B:Nat->Prop}{T:Nat->Option Nat}{l m x n:Nat}{c:lC}{u:Int}{L:List (gB×Nat)}{M M':Nat}{t:gB}(h:iL w B T l m c u L M)(I:∀g,w.1.size<=g->B g)(q:xC (λp:gB×Nat=>p.1.N) t.N L=aA)
(E:xB w k)(F:xB k H)(R:k.1.size<=x)(b:fB (·=m) H D)(v:D.ownsMap prog 9 tE m n (DataW.put (jE (L.map λp=>(p.1.N,kF p.2))) (kL t.N) (kF x)))
(d:fB (λg=>k.1.size<=g) D z)(A:tD z (λg=>k.1.size<=g) x t M')(J:M'<=M):
 lE z B l m c u ((fC (λp:gB×Nat=>p.1.N) (t,x) L).map (·.1)) M:=by
 have G:=bB h.blk;have K:=h.ten.lt;have O:=E.size;have P:=F.size;have Q:=b.size;have o:∀p,p∈fC (λp:gB×Nat=>p.1.N) (t,x) L->p=(t,x)\/p∈L:=λp i=>uK i;have j:=IJ (key:=λp:gB×Nat=>p.1.N) (a:=(t,x)) q;have f:∀g,g<w.1.size->g≠m->z.heap[g]?=w.heap[g]?:=λg y C=>by
  rw[d.block g (by omega) (by omega),b.block g (by omega) C,F.block g (by omega),E.block g y]
 have r:DataW.put (jE (L.map λp=>(p.1.N,kF p.2))) (kL t.N) (kF x)=jE ((fC (λp:gB×Nat=>p.1.N) (t,x) L).map λp=>(p.1.N,kF p.2)):=
  IT (key:=λp:gB×Nat=>p.1.N) (λp=>kF p.2) (t,x) h.rise
 refine⟨λg=>if g<w.1.size then T g else cA x,_,?_,rfl⟩;exact {
  blk:=(f l G h.lm.symm).trans h.blk
  ten:=by
   have:=RP (d.map v (by omega));rw[r,vM]at this;exact this
  rise:=jK h.rise
  idx:=λp i=>by
   rcases o p i with rfl|i
   .refine (A.mono J).keep λg _ s=>⟨rfl,I g (by omega),?_⟩
    show(if g<w.1.size then T g else cA x)=cA x;rw[Ja (by omega)]
   refine (h.idx p i).keep λg y s=>⟨f g y (λe=>by rw[e,h.tm]at s;cases s.2),s.1,?_⟩
   show(if g<w.1.size then T g else cA x)=_;rw[Ma y];exact s.2
  nd:=by
   rw[(j.map _).nodup_iff,Fc,List.nodup_cons];refine⟨λN=>?_,h.nd⟩;obtain⟨p,i,e⟩:=Md.1 N;have:=(h.idx p i).lt;simp only at e;omega
  tl:=by show(if l<w.1.size then T l else _)=aA;rw[Ma G];exact h.tl
  tm:=by show(if m<w.1.size then T m else _)=aA;rw[Ma K];exact h.tm
  lB:=h.lB
  mB:=h.mB}
def xe{L:List (gB×Nat)}{k:pB}(h:xC (·.N) k (L.map (·.1))=aA):xC (λp:gB×Nat=>p.1.N) k L=aA:=by grind [xC]
def aDq(l m:Nat)(t:gB)(u v:nC)(B C:Nat)(c:lC)(n:Int)(Y:List gB)(M:Nat)(q w:fA)(h:lE w (q.1.size<=·) l m c n Y M)(h0:xB q w)(hU:kH q)(p1:mC q u t.M)(p2:mC q v t.Z)
(I:xC (·.N) t.N Y=aA)(hn:t.N.size<=maxLen)(s:∀i(h:i<zA t.M),t.M[i].s.size<=1000000000)(o:∀i(h:i<zA t.Z),t.Z[i].s.size<=1000000000)(hl1:zA t.M<=500000000)(G:zA t.Z<=500000000)(J:zA Y<=1000000000)(hM:zA t.Z<=M)
(hn0:0<=n)(hn1:n<=1000000000000)(hw0:1<=c.w)(hw1:c.w<=1000000000):
 iA prog 73 #[.pointer (vB l),.agg #[pA t.N,aB t.L,qA u (zA t.M) B,qA v (zA t.Z) C]] w λe E=>e=vA (sA (cP c.w n t))/\
  (cP c.w n t=eA->lE E (q.1.size<=·) l m c n (fC (·.N) t Y) M)/\fB (·=m) w E:=by
 obtain⟨T,L,h,Z⟩:=h;have j:cB (cP c.w n t=(uC t.N&&yB t.L (-1) 1000000&&yL t.M&&fL c.w n t.Z&&!xE t)):=rfl;have r:cB _:=λW=>pM t.N W hn;by_cases O:uC t.N=dA
 .rw[O]at r j;clear h;go_enter func73,ntmps73;go_wp2_with fail;apply kO (r.o _);go_wp2;go_ret;exact⟨oB (by rw[j.o];simp),λh=>absurd h (by rw[j.o];simp),fB.of bC⟩
 have J:uC t.N=eA:=by simpa using O
 rw[J]at r j;clear O J;have D:cB _:=λW=>uT t.L W;by_cases O:yB t.L (-1) 1000000=dA
 .rw[O]at D j;clear h;go_enter func73,ntmps73;go_wp2_with fail;apply kO (r.o _);go_wp2_with fail;apply kO (D.o _);go_wp2;go_ret;exact⟨oB (by rw[j.o];simp),λh=>absurd h (by rw[j.o];simp),fB.of bC⟩
 have J:yB t.L (-1) 1000000=eA:=by simpa using O
 rw[J]at D j;clear O J;have X:cB _:=h;have J:=h.ten.lt;have J:=bB h.blk;have J:=h0.size;have HLE:cB _:=Z;have O:zA L=zA Y:=by rw[<-Z,Xa]
 have HGN:cB _:=xe (by rw[Z];exact I);have HK:cB _:=eN hn;have O:cB _:=λW=>FI t.L t.N W;have HLL:cB (∀(S:Nat->Prop)(x:Nat)(W:fA),tD W S x ⟨t.N,t.L,[],[]⟩ 0->xB q W->(∀g,S g->q.1.size<=g)->iA prog 138 #[.pointer (vB x),qA u (zA t.M) B] W λe E=>e=vA (sA (yL t.M))/\(yL t.M=eA->tD E (λg=>S g\/W.1.size<=g) x ⟨t.N,t.L,t.M,[]⟩ 0)/\fB S W E):=
  λS x W hi hb A=>PO x u B t.M ⟨t.N,t.L,[],[]⟩ S 0 q W hi hb hU p1 A s (by omega)
 have HSS:cB (∀(S:Nat->Prop)(x:Nat)(W:fA),tD W S x ⟨t.N,t.L,t.M,[]⟩ 0->xB q W->(∀g,S g->q.1.size<=g)->jB W l (iV c n m) 154->¬S l->iA prog 139 #[.pointer (vB l),.pointer (vB x),qA v (zA t.Z) C] W λe E=>e=vA (sA (fL c.w n t.Z))/\(fL c.w n t.Z=eA->tD E (λg=>S g\/W.1.size<=g) x ⟨t.N,t.L,t.M,t.Z⟩ (0+zA t.Z))/\fB S W E):=
  λS x W hi hb A hbl hsl=>PR l m x v C t.Z ⟨t.N,t.L,t.M,[]⟩ c n S 0 q W hbl hsl hi hb hU p2 A o G (by omega) hn0 hn1 hw0 hw1
 have H0:cB _:=h0;clear h p1 p2 I hn s o hl1 G Z h0 hU;go_enter func73,ntmps73;go_wp2_with fail;apply kO (r.o _);go_wp2_with fail;apply kO (D.o _);go_wp2_with fail;have B1:cB (xB w (w.alloc (xA #[pA t.N,aB t.L,qA u (zA t.M) B,qA v (zA t.Z) C] 131))):=bC;have X1:cB (jB (w.alloc (xA #[pA t.N,aB t.L,qA u (zA t.M) B,qA v (zA t.Z) C] 131)) w.1.size #[pA t.N,aB t.L,qA u (zA t.M) B,qA v (zA t.Z) C] 131):=jB.new _ _ _;have s:w.1.size<(w.alloc (xA #[pA t.N,aB t.L,qA u (zA t.M) B,qA v (zA t.Z) C] 131)).1.size:=by simp
 generalize w.alloc (xA #[pA t.N,aB t.L,qA u (zA t.M) B,qA v (zA t.Z) C] 131)=F at *;refine(O.o F).mono ?_;rintro e Z ⟨x,rfl,hx,G,o⟩;have B2:cB _:=o;have y:=aC B1.o o;have X2:cB (jB Z w.1.size #[pA t.N,aB t.L,qA u (zA t.M) B,qA v (zA t.Z) C] 131):=X1.o.z o;have L2:cB (jB Z l (iV c n m) 154):=X.o.blk.z y;have N:=(fB.of (S:=λ_=>False) y).map X.o.ten (λe=>e);obtain⟨s,I,K,z⟩:=N.drew.update vL underlying152 (by unfold maxLen;omega) HK.o (wW x);have b:fB (·=m) Z s:=(fB.grown (a:=Z) ⟨z.os,z.tape,z.output,z.size,z.block⟩).mono λi _ e=>by simp only[Qa]at e;exact e.symm
 have T3:cB _:=b;have H:cB (s.ownsMap prog 9 tE m (zA L+1) (DataW.put (jE (L.map λp=>(p.1.N,kF p.2))) (kL t.N) (kF x))):=K;have W:cB (tD s (λg=>F.1.size<=g) x ⟨t.N,t.L,[],[]⟩ 0):=G.keep λg hg A=>⟨b.block g hg (by omega),A⟩
 have hmb:q.1.size<=m:=X.o.mB;have B3:cB _:=(H0.o.trans (y.mono J)).trans (b.below (by have:=y.size;omega) (λk hk=>by omega));have X3:cB (jB s w.1.size #[pA t.N,aB t.L,qA u (zA t.M) B,qA v (zA t.Z) C] 131):=b.blk X2.o (by omega);have L3:cB (jB s l (iV c n m) 154):=b.blk L2.o X.o.lm.symm;have x0:yC Z l 7 (.map (cA m)):=L2.o.cell 7;have x1:yC Z w.1.size 0 (pA t.N):=X2.o.cell 0;have Z:=o.size;have Z:=b.size;have Z:cB _:=(fB.of y).trans' b;clear o y N K z b G X1 X2 L2 O r D;go_upto_region 4 with fail;go_cut [25] (λ_ o=>o=s)
 case first=>
  go_region
  go_wp2_with fail;go_meet;exact rfl
 subst hcut;clear I x0 x1;have G:yC wc w.1.size 2 (qA u (zA t.M) B):=X3.o.cell 2;go_wp2_with fail;refine jC (HLL.o _ x wc W.o B3.o (λg hg=>by omega)) ?_;rintro w4 ⟨o,d⟩;have s:cB _:=o;have T4:cB _:=d;have P:cB _:=Z.o.trans (d.mono λi _ e=>La (by omega));have X4:cB (jB w4 w.1.size #[pA t.N,aB t.L,qA u (zA t.M) B,qA v (zA t.Z) C] 131):=d.blk X3.o (by omega);have L4:cB (jB w4 l (iV c n m) 154):=d.blk L3.o (by omega);have B4:cB _:=B3.o.trans (d.below (by omega) (λk hk=>by omega));clear o d G HLL X3 L3 W B3 Z;by_cases o:yL t.M=dA
 .rw[o]at j |-
  go_wp2;go_ret;exact⟨oB (by rw[j.o];simp),λh=>absurd h (by rw[j.o];simp),P.o⟩
 have R:yL t.M=eA:=by simpa using o
 have G:cB (tD w4 (λg=>F.1.size<=g) x ⟨t.N,t.L,t.M,[]⟩ 0):=(s.o R).keep λg _ A=>⟨rfl,by rcases A with A|A<;>omega⟩
 rw[R]at j |-
 clear o R s;have Z:yC w4 w.1.size 3 (qA v (zA t.Z) C):=X4.o.cell 3;go_wp2_with fail;refine jC (HSS.o _ x w4 G.o B4.o (λg hg=>by omega) L4.o (by omega)) ?_;rintro o ⟨V,f⟩;have Q:cB _:=P.o.trans (f.mono λi _ e=>La (by omega));have s:=T4.o.size;by_cases W:fL c.w n t.Z=dA
 .rw[W]at j |-
  clear V f;go_wp2;go_ret;exact⟨oB (by rw[j.o];simp),λh=>absurd h (by rw[j.o];simp),Q.o⟩
 have U:fL c.w n t.Z=eA:=by simpa using W
 have O:cB (tD o (λg=>F.1.size<=g) x t (zA t.Z)):=by
  have:=(V U).keep (w':=o) (S':=λg=>F.1.size<=g) λg _ A=>⟨rfl,by rcases A with A|A<;>omega⟩
  rw[Ya]at this;exact this
 have s:cB _:=T4.o.trans' f;rw[U]at j |-
 have I:cB (lE o (q.1.size<=·) l m c n (fC (·.N) t Y) M):=by
  have:=gb X.o (λg hg=>Ua J hg) HGN.o B1.o B2.o hx T3.o H.o s.o O.o hM;rw[cS (key':=λt:gB=>t.N) (λp:gB×Nat=>p.1) (λ_=>rfl),HLE.o]at this;exact this
 clear W U V f s T4 HSS G B4 L4 X4 P Z H T3 X;have m:cB (rI 140 #[.pointer (vB x)] o (sA (xE t))):=OU x t _ _ o O.o;go_wp2_with fail;apply kO m.o;clear m O;cases dB:xE t with
 |true=>
  rw[dB]at j;go_wp2;go_ret;exact⟨oB (by rw[j.o];rfl),λh=>absurd h (by rw[j.o];simp),Q.o⟩
 |false=>
  rw[dB]at j;go_wp2;go_ret;exact⟨oB (by rw[j.o];rfl),λ_=>I.o,Q.o⟩
end
section
open Go.Maps
def lE.re{w o:fA}{B B':Nat->Prop}{l m:Nat}{c:lC}{b:Int}{n:List gB}{M:Nat}(h:lE w B l m c b n M)(d:∀g,g<w.1.size->B g->o.heap[g]?=w.heap[g]?/\B' g):lE o B' l m c b n M:=by
 obtain⟨T,L,h,e⟩:=h;have j:=d l (bB h.blk) h.lB;have k:=d m h.ten.lt h.mB;refine⟨T,L,{ h with blk:=j.1.trans h.blk,ten:=?_,idx:=λp t=>(h.idx p t).keep λg i f=>⟨(d g i f.1).1,(d g i f.1).2,f.2⟩,lB:=j.2,mB:=k.2},e⟩;obtain⟨q,a,s,r⟩:=h.ten;exact⟨q,a,k.1.trans s,r⟩
def aJy(a:List gB)(M:Nat):Prop:=∀i(h:i<zA a),a[i].N.size<=maxLen/\(∀j(b:j<zA a[i].M),a[i].M[j].s.size<=1000000000)/\(∀j(b:j<zA a[i].Z),a[i].Z[j].s.size<=1000000000)/\zA a[i].M<=500000000/\zA a[i].Z<=500000000/\zA a[i].Z<=M
def LX(c:lC)(a:Int)(b:List gB)(M:Nat)(w:fA)(e:Ending)(d:fA):Prop:=
 (iC c a b=dA/\e=vA (yA #[tA aA,sA dA])/\xB w d)\/
 (iC c a b=eA/\∃l m,e=vA (yA #[.pointer (vB l),sA eA])/\w.1.size<=l/\lE d (w.1.size<=·) l m c a b M/\xB w d)
def QJ(c:lC)(r:Int)(a:nC)(H:Nat)(u:List gB)(M:Nat)(w:fA)(hf:aD w a u)(hfit:aJy u M)(hlen:zA u<=1000000000)(hU:kH w):
 iA prog 22 #[uE c,.agg #[mA oA r,qA a (zA u) H]] w λe y=>LX c r u M w e y:=by
 have HC:cB _:=λW=>tT c W;have z:cB (iC c r u=(lG c&&yB r 0 1000000000000&&decide (zA u<=10000) &&bN c.w r u)):=rfl;have HF:cB (aD w a u):=hf;have HB:cB (aJy u M):=hfit;have HU:cB (kH w):=hU;have HWI:cB _:=λW=>yF r 1000000000000 W;have HCW:cB (lG c=eA->1<=c.w/\c.w<=1000000000):=λh=>by
  have:yB c.w 1 1000000000=eA:=by
   cases hb:yB c.w 1 1000000000 with
   |true=>rfl
   |false=>rw[lG,hb]at h;simp at h
  exact nL this
 clear hf hfit hU;unfold uE at *;go_enter func22,ntmps22;go_wp2_with fail;apply jC (HC.o _);intro v S;have U:cB _:=aC (aC bC bC) S;have C1:cB (jB v w.1.size #[mA oA c.w,mA oA c.tl,mA oA c.ml,mA oA c.sh,mA oA c.ha,mA oA c.sg] 24):=dB (((jB.new _ _ _).alloc _).z S);have S1:cB _:=dB (by have:=(jB.new (w.alloc (xA #[mA oA c.w,mA oA c.tl,mA oA c.ml,mA oA c.sh,mA oA c.ha,mA oA c.sg] 24)) #[mA oA r,qA a (zA u) H] 40).z S;simpa using this);have s0:v.cell? ⟨w.1.size+1,0,aA⟩=cA (mA oA r):=S1.o.cell 0;have s1:v.cell? ⟨w.1.size+1,1,aA⟩=cA (qA a (zA u) H):=S1.o.cell 1;have k0:v.cell? ⟨w.1.size,0,aA⟩=cA (mA oA c.w):=C1.o.cell 0;have k1:v.cell? ⟨w.1.size,1,aA⟩=cA (mA oA c.tl):=C1.o.cell 1;have k2:v.cell? ⟨w.1.size,2,aA⟩=cA (mA oA c.ml):=C1.o.cell 2;have k3:v.cell? ⟨w.1.size,3,aA⟩=cA (mA oA c.sh):=C1.o.cell 3;have k4:v.cell? ⟨w.1.size,4,aA⟩=cA (mA oA c.ha):=C1.o.cell 4;have k5:v.cell? ⟨w.1.size,5,aA⟩=cA (mA oA c.sg):=C1.o.cell 5;have hs1l:=bB S1.o;clear S HC;cases g0:lG c
 .rw[g0]at z;go_wp2;go_ret2;exact Ca ⟨by rw[z.o];simp,rfl,U.o⟩
 obtain⟨hw0,hw1⟩:=HCW.o g0;rw[g0]at z;clear g0 HCW;go_wp2_with fail;refine rD (HWI.o _) ?_;clear HWI;cases g1:yB r 0 1000000000000
 .rw[g1]at z;go_wp2;go_ret2;exact Ca ⟨by rw[z.o];simp,rfl,U.o⟩
 obtain⟨hn0,hn1⟩:=nL g1;rw[g1]at z;clear g1;by_cases g2:(10000:Int)<zA u
 .rw[show decide (zA u<=10000)=dA by simp;omega]at z;go_wp2;go_ret2;exact Ca ⟨by rw[z.o];simp,rfl,U.o⟩
 have Z:cB (iC c r u=bN c.w r u):=by show _=_;rw[z.o,show decide (zA u<=10000)=eA by simp;omega];simp
 clear z;have hmm:=@run_makeMap prog;go_upto_region 3 with fail;go_cut [6] (λs wx=>s=tA (cA ⟨v.1.size+1,0,aA⟩)/\wx=(v.alloc (.map #[] 0)).alloc (xA (iV c r v.1.size) 154))
 case first=>
  go_wp2;go_meet;exact⟨rfl,rfl⟩
 obtain⟨rfl,hwc⟩:=hcut;have L0:cB (lE wc (v.1.size<=·) (v.1.size+1) v.1.size c r (u.take 0) M):=by
  rw[hwc];refine⟨λ_=>aA,[],?_,rfl⟩;exact {
   blk:=by have:=jB.new (v.alloc (.map #[] 0)) (iV c r v.1.size) 154;simpa using this
   ten:=(fA.ownsMap_made v _ _ _).alloc _
   rise:=Gd
   idx:=λp L=>by cases L
   nd:=List.nodup_nil
   tl:=rfl
   tm:=rfl
   lB:=Gf _
   mB:=Ia _}
 have BC:cB (xB v wc):=by rw[hwc];exact aC bC bC
 have s2:=(BC.o.cell hs1l).trans s1;have HU1:cB (kH v):=HU.o.z U.o;have HF1:cB (aD v a u):=HF.o.z U.o;clear hwc hmm s0 s1 k0 k1 k2 k3 k4 k5 C1 HU HF;go_wp2;clear s2;go_loopw [7,8,33] (λ_ _ i wr=>∃k:Nat,k<=zA u/\i=mA oA k/\iI (lN c.w r u) k=eA/\lE wr (v.1.size<=·) (v.1.size+1) v.1.size c r (u.take k) M/\xB v wr) (λ_ _ i _=>zA u-(intOf i).toNat)
 case atStart=>exact⟨0,Oa _,rfl,rfl,L0.o,BC.o⟩
 case round=>
  obtain⟨k,hk,rfl,hok,hled,hbel⟩:=hrel;have HOK:cB _:=hok;have E:cB (lE wr (v.1.size<=·) (v.1.size+1) v.1.size c r (u.take k) M):=hled;have x:cB _:=hbel;clear hok hled hbel L0 BC;by_cases C:k<zA u
  .obtain ⟨b,o,N,P,O,Q,rfl,K,f,l,m,n,p1,p2⟩:=HF1.o.at C;obtain⟨n1,n2,n3,n4,n5,n6⟩:=HB.o k C;have HAT:cB (lN c.w r u k=(eO u k&&cP c.w r u[k])):=tV C;have HFAIL:cB (lN c.w r u k=dA->iC c r u=dA):=λh=>by rw[Z.o];exact oP h C
   have Y:cB (0<k->∃I:pB,eO u k=bK I u[k].N/\v.cell? ⟨b,o+(k-1)*4,aA⟩=cA (pA I)):=λh0=>by
    refine⟨_,lV h0 C,?_⟩;obtain⟨b',o',_,_,_,_,e,_,u0,_⟩:=HF1.o.at (i:=k-1) (by omega)
    simp only[Qa,Addr.mk.injEq,Cc]at e;rw[e.1,e.2];exact u0
   have HPZ:cB (k=0->eO u k=eA):=λh0=>by subst h0;rfl
   have HTK:cB (eO u k=eA->fC (·.N) u[k] (u.take k)=u.take (k+1)/\xC (·.N) u[k].N (u.take k)=aA):=λh=>OW (key:=λt:gB=>t.N) C (by
    apply bT;intro j hj;simp only[Hb]at hj;by_cases e:j+1=k
    .subst e;rw[lV (by omega) C]at h;simpa using h
    have:=nO HOK.o (k:=j+1) (by omega);rw[tV (by omega),Sa]at this;have h1:=this.1;rw[lV (by omega) (by omega)]at h1;simpa using h1)
   have HTL:cB (zA (u.take k)<=1000000000):=by show _<=_;rw[Hb];omega
   have z0:=(x.o.cell K).trans f;have z1:=(x.o.cell K).trans l;have z2:=(x.o.cell K).trans m;have z3:=(x.o.cell K).trans n;generalize u[k]=T at *;have X:cB (∀W,lE W (v.1.size<=·) (v.1.size+1) v.1.size c r (u.take k) M->xB v W->eO u k=eA->iA prog 73 #[tA (cA ⟨v.1.size+1,0,aA⟩),.agg #[pA T.N,mA oA T.L,qA N (zA T.M) P,qA O (zA T.Z) Q]] W λe y=>e=vA (sA (cP c.w r T))/\(cP c.w r T=eA->lE y (v.1.size<=·) (v.1.size+1) v.1.size c r (u.take (k+1)) M)/\fB (·=v.1.size) W y):=λW hW hb L=>by
    refine(aDq (v.1.size+1) v.1.size T N O P Q c r (u.take k) M v W hW hb HU1.o p1 p2 (HTK.o L).2 n1 n2 n3 n4 n5 HTL.o n6 hn0 hn1 hw0 hw1).mono ?_;rintro e y ⟨h1,h2,h3⟩;rw[(HTK.o L).1]at h2;exact⟨h1,h2,h3⟩
   have hTBG:v.1.size+1<wr.1.size:=by obtain⟨_,_,hz,_⟩:=E.o;exact bB hz.blk
   go_upto_region 7 with fail;have G:cB (jB (wr.alloc (xA #[pA T.N,mA oA T.L,qA N (zA T.M) P,qA O (zA T.Z) Q] 131)) wr.1.size #[pA T.N,mA oA T.L,qA N (zA T.M) P,qA O (zA T.Z) Q] 131):=jB.new _ _ _;have A:cB (xB v (wr.alloc (xA #[pA T.N,mA oA T.L,qA N (zA T.M) P,qA O (zA T.Z) Q] 131))):=x.o.trans (bC.mono x.o.size);have HL2:cB (lE (wr.alloc (xA #[pA T.N,mA oA T.L,qA N (zA T.M) P,qA O (zA T.Z) Q] 131)) (v.1.size<=·) (v.1.size+1) v.1.size c r (u.take k) M):=E.o.z bC;generalize wr.alloc (xA #[pA T.N,mA oA T.L,qA N (zA T.M) P,qA O (zA T.Z) Q] 131)=W at *;generalize wr.1.size=J at *;have x0:W.cell? ⟨w.1.size+1,1,aA⟩=cA (qA (cA ⟨b,o,aA⟩) (zA u) H):=(A.o.cell hs1l).trans (S1.o.cell 1);have x1:W.cell? ⟨J,0,aA⟩=cA (pA T.N):=G.o.cell 0;have x2:W.cell? ⟨J,1,aA⟩=cA (mA oA T.L):=G.o.cell 1;have x3:W.cell? ⟨J,2,aA⟩=cA (qA N (zA T.M) P):=G.o.cell 2;have x4:W.cell? ⟨J,3,aA⟩=cA (qA O (zA T.Z) Q):=G.o.cell 3;have HPR2:cB (0<k->∃I:pB,eO u k=bK I T.N/\W.cell? ⟨b,o+(k-1)*4,aA⟩=cA (pA I)):=λh0=>by
    obtain⟨I,e1,e2⟩:=Y.o h0;exact⟨I,e1,(A.o.cell K).trans e2⟩
   have V:cB _:=λL W' hW=>X.o W' (HL2.o.z hW) (A.o.trans (hW.mono A.o.size)) L;have F:=bB G.o;have hWs:=A.o.size;have HBT:cB _:=λy(hw:fB (·=v.1.size) W y)=>A.o.trans (hw.below hWs (λk hk=>by omega));clear z0 z1 z2 z3 f l m n p1 p2 Y X E x G wr;go_cut [57] (λs wx=>s=sA (!(lN c.w r u k))/\(lN c.w r u k=eA->lE wx (v.1.size<=·) (v.1.size+1) v.1.size c r (u.take (k+1)) M)/\xB v wx)
   case first=>
    by_cases h0:(0:Int)<k
    .have h0':0<k:=by omega
     obtain⟨I,L,cp⟩:=HPR2.o h0';obtain⟨j,hj⟩:∃j,j=k-1:=⟨_,rfl⟩
     rw[<-hj]at cp;have hi0:IntKind.i64.wrap ((k:Int)-1)=(j:Int):=by
      have:(k:Int)-1=(j:Int):=by omega
      rw[this];simp only[IntKind.wrap,IntKind.bits,IntKind.signed];simp;omega
     have hi1:(j:Int)<zA u:=by omega
     clear hj;by_cases hb:Op.bytesLess I.toList T.N.toList=eA
     .have D:eO u k=eA:=by rw[L];exact hb
      have HLD:=dB (V.o D);have HV:cB (lN c.w r u k=cP c.w r T):=by show _=_;rw[HAT.o,D,Oc]
      clear L D;have HKS:cB (∀y,fB (·=v.1.size) W y->y.cell? ⟨w.1.size+1,1,aA⟩=cA (qA (cA ⟨b,o,aA⟩) (zA u) H)/\y.cell? ⟨b,o+j*4,aA⟩=cA (pA I)/\y.cell? ⟨J,0,aA⟩=cA (pA T.N)/\y.cell? ⟨J,1,aA⟩=cA (mA oA T.L)/\y.cell? ⟨J,2,aA⟩=cA (qA N (zA T.M) P)/\y.cell? ⟨J,3,aA⟩=cA (qA O (zA T.Z) Q)):=λy hw=>by
       have hg:∀g,g<W.1.size->g≠v.1.size->∀q,y.cell? ⟨g,q,aA⟩=W.cell? ⟨g,q,aA⟩:=λg h1 h2 q=>fA.cell?_of_block (hw.block g h1 h2);exact⟨(hg _ (by omega) (by omega) _).trans x0,(hg _ (by omega) (by omega) _).trans cp,(hg _ F (by omega) _).trans x1,(hg _ F (by omega) _).trans x2,(hg _ F (by omega) _).trans x3,(hg _ F (by omega) _).trans x4⟩
      go_region_held3 (λy=>y.cell? ⟨w.1.size+1,1,aA⟩=cA (qA (cA ⟨b,o,aA⟩) (zA u) H)/\y.cell? ⟨b,o+j*4,aA⟩=cA (pA I)/\y.cell? ⟨J,0,aA⟩=cA (pA T.N)/\y.cell? ⟨J,1,aA⟩=cA (mA oA T.L)/\y.cell? ⟨J,2,aA⟩=cA (qA N (zA T.M) P)/\y.cell? ⟨J,3,aA⟩=cA (qA O (zA T.Z) Q))
       (first|go_keep|exact HKS.o _ hs8)
       (first|(go_at_call 73;refine jC (HLD.o _ (by repeat (first|with_reducible exact gD|exact gD.drew|with_reducible refine Below.drew ?_))) ?_;rintro w8 ⟨B,ht8⟩;have hs8:fB (·=v.1.size) W w8:=(fB.refl _ _).drew.trans' ht8))
      all_goals(go_wp2_with fail;go_meet)
      all_goals exact⟨by rw[HV.o],λh=>by rw[HV.o]at h;exact B h,HBT.o _ hs8⟩
     have hb':Op.bytesLess I.toList T.N.toList=dA:=by simpa using hb
     have HV:cB (lN c.w r u k=dA):=by show _=_;rw[HAT.o,L,bK,hb'];rfl
     clear L hb;go_quiet (fail)
     go_wp2_with fail;go_meet;exact⟨by rw[HV.o];rfl,λh=>absurd h (by rw[HV.o];simp),below_drewN A.o _⟩
    have hd':decide (0<k)=dA:=by simp;omega
    have hnk:¬0<k:=by omega
    have D:=HPZ.o (by omega);have HLD:=dB (V.o D);have HV:cB (lN c.w r u k=cP c.w r T):=by show _=_;rw[HAT.o,D,Oc]
    clear D;refine eR 17 (by kernel_rfl) (by kernel_rfl) ?_;simp only[Rg,List.take_zero,Sg,Kf];have hnel:Nonempty Unit:=⟨()⟩
    repeat (go_big_quiet_step (fail))
    refine wpQuiet_nil ?_;go_wp2_with(first|(go_at_call 73;apply jC (HLD.o _ gD.drew);rintro w8 ⟨B,ht8⟩));go_meet;exact⟨by rw[HV.o],λh=>by rw[HV.o]at h;exact B h,HBT.o _ ((fB.refl _ _).drew.trans' ht8)⟩
   obtain⟨rfl,B,hb8⟩:=hcut;rename fA=>w8;have HB8:cB _:=hb8;by_cases d:lN c.w r u k=dA
   .have HF4:cB _:=HFAIL.o d;rw[d];clear d B hb8;go_wp2;go_ret2;exact Ca ⟨HF4.o,rfl,aC U.o HB8.o⟩
   have R:lN c.w r u k=eA:=by simpa using d
   have HF4:cB (iI (lN c.w r u) (k+1)=eA):=by show _=_;rw[lL,HOK.o,R];rfl
   have HL8:cB (lE w8 (v.1.size<=·) (v.1.size+1) v.1.size c r (u.take (k+1)) M):=B R;rw[R];clear d R B hb8;go_wp2;exact⟨⟨k+1,by omega,by go_num,HF4.o,HL8.o,HB8.o⟩,by simp[intOf];omega⟩
  have ek:k=zA u:=by omega
  have HEND:cB (iC c r u=eA):=by show _=_;rw[Z.o];have:=HOK.o;rw[ek]at this;exact this
  have HLE:cB (lE wr (v.1.size<=·) (v.1.size+1) v.1.size c r u M):=by have:=E.o;rw[ek,Rb]at this;exact this
  have hz:=U.o.size;go_wp2;go_ret2;exact La ⟨HEND.o,_,_,rfl,by omega,HLE.o.re (λg _ hg=>⟨rfl,Ua hz hg⟩),aC U.o x.o⟩
end
section
open Go.Maps
def aR{v:Value}{g:Nat}{ps:List MemPlace}(h:tE v=cA (kF g,ps)):v=.pointer (vB g):=by
 unfold tE at h;split at h
 .rename_i a;simp only[Qa,Dc,kF,DataW.lit.injEq,Lit.int.injEq,true_and]at h;have:=h.1;have:a=g:=by omega
  rw[this]
 .simp[kF]at h
 cases h
def KQ{v:Value}{a:List MemPlace}(h:tE v=cA (DataW.nil,a)):v=tA aA:=by
 unfold tE at h;split at h;simp[kF]at h;rfl
 cases h
def aJf(w:fA):(zeroValue 159).run prog w=.ok (tA aA) w:=by kernel_rfl
def qt(L:List (gB×Nat))(a:pB)(w:fA)(e:Ending)(b:fA):Prop:=
 (∃p,xC (λp:gB×Nat=>p.1.N) a L=cA p/\e=vA (yA #[.pointer (vB p.2),sA eA])/\b=w)\/
 (xC (λp:gB×Nat=>p.1.N) a L=aA/\∃x,e=vA (yA #[.pointer (vB x),sA dA])/\w.1.size<=x/\tD b (λg=>w.1.size<=g) x ⟨a,-1,[],[]⟩ 0/\xB w b)
def ON(l m:Nat)(a:pB)(c:lC)(j:Int)(B:Nat->Prop)(T:Nat->Option Nat)(L:List (gB×Nat))(M:Nat)(w:fA)(h:iL w B T l m c j L M)(q:a.size<=maxLen):
 iA prog 160 #[.pointer (vB l),pA a] w λe s=>qt L a w e s:=by
 have y:yC w l 7 (.map (cA m)):=h.blk.cell 7;obtain⟨v,t,b,f⟩:=h.ten.look_ok vL underlying152 (aJf w) (zd:=.nil) (zp:=[]) rfl (eN q);rw[YE,lS (key:=λp:gB×Nat=>p.1.N) (λp=>kF p.2)]at *;clear h;cases hg:xC (λp:gB×Nat=>p.1.N) a L with
 |some p=>
  rw[hg]at b f;have d:=aR f;subst d;have i:cB _:=hg;clear hg f;simp only[Wf]at b;go_enter func160,ntmps160;go_wp2;go_ret2;exact Ca ⟨p,i.o,rfl,rfl⟩
 |none=>
  rw[hg]at b f;have d:=KQ f;subst d;have i:cB _:=hg;clear hg f;simp only[Xf]at b;have g:cB _:=λW=>FI (-1) a W;go_enter func160,ntmps160;go_wp2_with fail;refine(g.o _).mono ?_;rintro e u ⟨x,rfl,r,k,o⟩;have n:=dB k;clear k g;go_wp2;go_ret2;exact La ⟨i.o,x,rfl,r,n.o,o⟩
def KL(l m x:Nat)(c:lC)(a:Int)(t:gB)(S:Nat->Prop)(M:Nat)(w:fA)(d:jB w l (iV c a m) 154)(h:tD w S x t M):
 rI 225 #[.pointer (vB l),.pointer (vB x)] w (aB (if t.L = -1 then c.tl else t.L)):=by
 obtain⟨o,p,j,n,Q,k,D,h⟩:=h;have g:yC w x 0 (aB t.L):=h.blk.cell 0;have i:yC w l 1 (aB c.tl):=d.cell 1;clear h d;by_cases b:t.L = -1
 .rw[Ma b];go_enter func225,ntmps225;go_wp2;go_ret;exact⟨rfl,rfl⟩
 rw[Ja b];go_enter func225,ntmps225;go_wp2;go_ret;exact⟨rfl,rfl⟩
def aDs{w:fA}{e:Nat}{c:List kB}(h:w.ownsMap prog 9 (plainElem prog 3) e (zA c) (jE (c.map λp=>(p.s,aJ p.n)))){m:pB}(f:m.size<=maxLen):
 ∃v:Int,(Instr.lookup 216 (.map (cA e)) (pA m) eA).run prog w=.ok (yA #[aB v,sA (xC (·.s) m c).isSome]) w/\∀p,xC (·.s) m c=cA p->v=p.n:=by
 obtain⟨v,j,b,i⟩:=h.look_ok vL underlying216 (MT w) (zd:=aJ 0) (zp:=[]) (plainElem_int underlying3 (by decide)) (eN f);rw[YE (key:=λp:kB=>p.s) (val:=λp=>aJ p.n)]at b;obtain⟨a,rfl,d,_⟩:=plainElem_int_inv underlying3 i;refine⟨a,b,λp g=>?_⟩;rw[lS (key:=λp:kB=>p.s) (λp=>aJ p.n),g]at d;simp[aJ]at d;exact d.1.symm
def wT(l m x:Nat)(c:lC)(g:Int)(t:gB)(S:Nat->Prop)(M:Nat)(met:pB)(w:fA)(i:jB w l (iV c g m) 154)(h:tD w S x t M)(j:met.size<=maxLen):
 rI 226 #[.pointer (vB l),.pointer (vB x),pA met] w (aB (cH t.M met c.ml)):=by
 obtain⟨k,z,r,y,Q,u,D,h⟩:=h;have o:yC w x 1 (.map (cA k)):=h.blk.cell 1;have q:yC w l 2 (aB c.ml):=i.cell 2;obtain⟨v,a,d⟩:=aDs h.lims j;have b:cB _:=VH h.rm met c.ml;clear h i;cases hg:xC (λp:kB=>p.s) met t.M with
 |some p=>
  rw[hg]at a b;have f:=d p hg;subst f;simp only[Wf]at a;clear d hg;go_enter func226,ntmps226;go_wp2;go_ret;exact⟨uF (by rw[b.o];rfl),rfl⟩
 |none=>
  rw[hg]at a b;simp only[Xf]at a;clear d hg;go_enter func226,ntmps226;go_wp2;go_ret;exact⟨uF (by rw[b.o];rfl),rfl⟩
end
section
open Go.Maps
def an{L:List (gB×Nat)}{a:List gB}(e:L.map (·.1)=a)(k:pB):xC (·.N) k a=(xC (λp:gB×Nat=>p.1.N) k L).map (·.1):=by grind [xC,eV]
def WX(c:lC)(d:Int)(h:List gB)(l m:Nat)(a:pB)(w:fA)(e:Ending)(f:fA):Prop:=
 ∃x b S g,e=vA (yA #[.pointer (vB x),sA b])/\tD f S x (rB h a) g/\jB f l (iV c d m) 154/\xB w f
def dr(l m:Nat)(a:pB)(c:lC)(b:Int)(B:Nat->Prop)(f:List gB)(M:Nat)(w:fA)(h:lE w B l m c b f M)(n:a.size<=maxLen):
 iA prog 160 #[.pointer (vB l),pA a] w λe o=>WX c b f l m a w e o:=by
 obtain⟨T,L,h,e⟩:=h;refine(ON l m a c b B T L M w h n).mono ?_;rintro q s (⟨p,d,rfl,rfl⟩|⟨d,x,rfl,r,k,j⟩)
 .have i:rB f a=p.1:=by rw[rB,an e,d];rfl
  refine⟨p.2,eA,(λg=>B g/\T g=cA p.2),M,rfl,?_,h.blk,gD⟩;rw[i];exact h.idx p (jM d).1
 have i:rB f a=⟨a,-1,[],[]⟩:=by rw[rB,an e,d];rfl
 refine⟨x,dA,(λg=>w.1.size<=g),0,rfl,?_,h.blk.z j,j⟩;rw[i];exact k
def PY{w:fA}{c M:Nat}{D:DataW Unit}{m:pB}{n:Nat}(h:w.ownsMap prog 9 (plainElem prog 3) c M D)(d:D.atKey (kL m) (aJ 0)=aJ n)(e:m.size<=maxLen):
 (Instr.lookup 216 (.map (cA c)) (pA m) dA).run prog w=.ok (aB n) w:=by
 obtain⟨v,a,b,_⟩:=h.lookup_int vL underlying216 underlying3 (MT _) (eN e);rw[a];have:(aJ v:DataW Unit)=aJ n:=b.symm.trans d;simp[aJ]at this;rw[this]
end
section
open Go.Maps
def tS(s:pB)(w:fA)(j:s.size<=1000000000)(d:kH w):cF 157 #[pA s] w (sA (s.toList.isEmpty||aF s)):=by
 have h:cB (cF 204 #[pA s] w (sA (aF s))):=fV s w j d;clear d;by_cases b:s.toList.isEmpty=eA
 .have a:cB ((s.toList.isEmpty||aF s)=eA):=by show _=_;rw[b];rfl
  go_enter func157,ntmps157;go_wp2;go_ret;exact⟨oB (by rw[a.o]),gD⟩
 have i:s.toList.isEmpty=dA:=by simpa using b
 have a:cB ((s.toList.isEmpty||aF s)=aF s):=by show _=_;rw[i];rfl
 clear b;go_enter func157,ntmps157;go_wp2_with fail;apply jC h.o;intro k f;have g:=dB f;clear f;go_wp2;go_ret;exact⟨oB (by rw[a.o]),g.o⟩
def aLh{c:lC}{a:Int}{b:List gB}(h:iC c a b=eA)(k:pB): -1<=(rB b k).L:=by
 have j:bN c.w a b=eA:=by
  rw[iC,Sa]at h;exact h.2
 unfold rB;cases hg:xC (·.N) k b with
 |none=>exact Xd _
 |some t=>
  obtain⟨i,f,e⟩:=Ib (jM hg).1;have d:=nO j f;rw[lN,Va f,e]at d;have g:yB t.L (-1) 1000000=eA:=by
   cases hb:yB t.L (-1) 1000000 with
   |true=>rfl
   |false=>simp[cP,hb]at d
  exact(nL g).1
end
section
open Go.Maps
def fB.mapped{w a:fA}{b:Nat}(h:w.mapTurned a b):fB (·=b) w a:=(fB.grown h.grown).mono λi _ e=>by simp only[Qa]at e;exact e.symm
def sR.newLimit{w j:fA}{S:Nat->Prop}{x:Nat}{t:gB}{M f i c:Nat}{d:Value}{Q:List (kB×Nat)}{l:List qI}{D:DataW Unit}{a:Int}(h:sR w S x t M f i c d Q l D)(b:fB (·=x) w j)
(m:jB j x #[aB a,.map (cA f),.map (cA i),.map (cA c),d] 222):tD j S x ⟨t.N,a,t.M,t.Z⟩ M:=by
 refine⟨f,i,c,d,Q,l,D,?_⟩;exact { h with
  blk:=m
  lims:=b.map h.lims (cD h.lims h.blk)
  Z:=b.map h.Z (cD h.Z h.blk)
  cnts:=b.map h.cnts (cD h.cnts h.blk)
  cells:=λq k=>b.blk (h.cells q k) (h.dx q k)
  row:=b.row h.row (λg n e=>(h.di g n).1 e) }
def aFr(x:Nat)(c:pB)(b:Int)(t:gB)(S:Nat->Prop)(M:Nat)(w:fA)(h:tD w S x t M)(J:c.size<=maxLen)(H : -1<=b)(I:b<=1000000)(A:zA t.M<=1000000000):
 iA prog 283 #[.pointer (vB x),pA c,aB b] w λe C=>e=vA (yA #[])/\tD C S x (pH t c b) M/\fB S w C:=by
 obtain⟨v,L,E,K,Q,P,D,h⟩:=h;by_cases l:c.toList.isEmpty=eA
 .have k:cB (pH t c b=⟨t.N,b,t.M,t.Z⟩):=by show _=_;unfold pH;rw[Ma l]
  have N:yC w x 0 (aB t.L):=h.blk.cell 0;have a:=h.blk.free 0;have g:fB (·=x) w (w.setCell (eB x 0) (aB b)):=(fB.refl (·=x) w).setCell (Ca rfl) 0 _;have z:jB (w.setCell (eB x 0) (aB b)) x #[aB b,.map (cA v),.map (cA L),.map (cA E),K] 222:=by have:=h.blk.set 0 (aB b);simpa using this
  have m:cB (tD (w.setCell (eB x 0) (aB b)) S x (pH t c b) M):=by
   refine dB ?_;rw[k.o];exact h.newLimit g z
  have o:cB (fB S w (w.setCell (eB x 0) (aB b))):=g.mono λi _ e=>by subst e;exact h.sx
  clear h g z k;go_enter func283,ntmps283;go_wp2;go_end0;exact⟨rfl,m.o,o.o⟩
 have F:c.toList.isEmpty=dA:=by simpa using l
 have O:yC w x 1 (.map (cA v)):=h.blk.cell 1;have y:cB _:=eN J;by_cases G:b = -1
 .have k:cB (pH t c b={ t with M:=sE (·.s) c t.M}):=by show _=_;unfold pH;rw[Ja l,Ma (by omega)]
  have u:=dB h;clear l h;subst G;go_enter func283,ntmps283;go_wp2_with(at_delete;refine wpList_delete_own _ rfl _ _ 216 9 rfl 3 vL underlying216 (plainElem prog 3) v _ _ rfl u.o.lims _ _ rfl y.o ?_;intro r f d);have g:=fB.mapped d;have m:cB (tD r S x (pH t c (-1)) M):=by
   refine dB ?_;rw[k.o];exact u.o.newLims g f (XS (key:=λp:kB=>p.s) (λp=>aJ p.n) c t.M) (pP u.o.rm)
  have o:cB (fB S w r):=g.mono λi _ e=>by subst e;exact u.o.sl
  clear f d g;go_end0;exact⟨rfl,m.o,o.o⟩
 have k:cB (pH t c b={ t with M:=fC (·.s) ⟨c,b⟩ t.M}):=by show _=_;unfold pH;rw[Ja l,Ja (by omega)]
 obtain⟨r,B,j,q⟩:=h.lims.store vL underlying216 (by unfold maxLen;omega) (val:=aB b) y.o (plainElem_int underlying3 (WalkArith.wf_i64 (by omega)));have g:=fB.mapped q;have m:cB (tD r S x (pH t c b) M):=by
  refine dB ?_;rw[k.o];exact h.newLims g j (IT (key:=λp:kB=>p.s) (λp=>aJ p.n) ⟨c,b⟩ h.rm) (jK h.rm)
 have o:cB (fB S w r):=g.mono λi _ e=>by subst e;exact h.sl
 clear h j q g k l;go_enter func283,ntmps283;go_wp2;go_end0;exact⟨rfl,m.o,o.o⟩
def OT(l m:Nat)(c:lC)(b:Int)(B:Nat->Prop)(T:Nat->Option Nat)(L:List (gB×Nat))(M:Nat)(w:fA)(h:iL w B T l m c b L M):
 rI 266 #[.pointer (vB l)] w (sA (decide (10000<=zA L))):=by
 have j:yC w l 7 (.map (cA m)):=h.blk.cell 7;have g:=h.ten.len underlying152 3;rw[vM]at g;clear h;by_cases d:10000<=zA L
 .have a:cB (decide (10000<=zA L)=eA):=by show _=_;simpa using d
  generalize zA L=z at *;have f:¬((z:Int)<10000):=by omega
  go_enter func266,ntmps266;go_wp2;go_ret;exact⟨oB (by first|(rw[a.o];simp;omega)|(simp;omega)|simp),rfl⟩
 have a:cB (decide (10000<=zA L)=dA):=by show _=_;simpa using d
 generalize zA L=z at *;have f:(z:Int)<10000:=by omega
 go_enter func266,ntmps266;go_wp2;go_ret;exact⟨oB (by first|(rw[a.o];simp;omega)|(simp;omega)|simp),rfl⟩
def eS{α β:Type}{f:α->β}{l:List α}(h:(l.map f).Nodup){p q:α}(a:p∈l)(b:q∈l)(e:f p=f q):p=q:=by induction l<;>grind
def rz{w y v:fA}{B:Nat->Prop}{T:Nat->Option Nat}{l m n:Nat}{c:lC}{t:Int}{L:List (gB×Nat)}{M M':Nat}{p:gB×Nat}{t':gB}(h:iL w B T l m c t L M)(F:∀g,w.1.size<=g->B g)(C:p∈L)(A:t'.N=p.1.N)
(b:fB (λg=>B g/\T g=cA p.2) w y)(H:tD y (λg=>(B g/\T g=cA p.2)\/w.1.size<=g) p.2 t' M')(G:M<=M')(d:fB (·=m) y v)
(u:v.ownsMap prog 9 tE m n (DataW.put (jE (L.map λp=>(p.1.N,kF p.2))) (kL t'.N) (kF p.2))):
 lE v B l m c t ((fC (λp:gB×Nat=>p.1.N) (t',p.2) L).map (·.1)) M':=by
 have z:=bB h.blk;have I:=h.ten.lt;have J:=b.size;have s:DataW.put (jE (L.map λp=>(p.1.N,kF p.2))) (kL t'.N) (kF p.2)=jE ((fC (λp:gB×Nat=>p.1.N) (t',p.2) L).map λp=>(p.1.N,kF p.2)):=
  IT (key:=λp:gB×Nat=>p.1.N) (λp=>kF p.2) (t',p.2) h.rise
 have x:∀q∈L,q.1.N≠t'.N->q.2≠p.2:=λq o j e=>by
  have:=eS h.nd o C e;rw[this,A]at j;exact j rfl
 have i:∀g,g<w.1.size->¬(B g/\T g=cA p.2)->g≠m->v.heap[g]?=w.heap[g]?:=λg k D E=>by
  rw[d.block g (by omega) E,b.block g k D]
 refine⟨λg=>if g<w.1.size then T g else cA p.2,_,?_,rfl⟩;exact {
  blk:=(i l z (λe=>by rw[h.tl]at e;cases e.2) h.lm.symm).trans h.blk
  ten:=by
   have:=RP u;rw[s,vM]at this;exact this
  rise:=jK h.rise
  idx:=λq o=>by
   rcases YT h.rise o with rfl|⟨o,j⟩
   .refine H.keep λg k f=>⟨d.block g k (λe=>?_),?_,?_⟩
    .subst e;obtain f|f:=f
     .rw[h.tm]at f;cases f.2
     omega
    .exact f.elim And.left (F g)
    show (if g<w.1.size then T g else cA p.2)=cA p.2;by_cases r:g<w.1.size
    .rw[Ma r];obtain f|f:=f
     .exact f.2
     omega
    rw[Ja r]
   refine ((h.idx q o).mono G).keep λg k f=>⟨i g k (λe=>?_) (λe=>by rw[e,h.tm]at f;cases f.2),f.1,?_⟩
   .have:=x q o j;rw[e.2]at f;exact this (Lc f.2).symm
   show (if g<w.1.size then T g else cA p.2)=_;rw[Ma k];exact f.2
  nd:=by
   rw[FG (key:=λp:gB×Nat=>p.1.N) (a:=(t',p.2)) (·.2) h.rise C A.symm rfl];exact h.nd
  tl:=by show(if l<w.1.size then T l else _)=aA;rw[Ma z];exact h.tl
  tm:=by show(if m<w.1.size then T m else _)=aA;rw[Ma I];exact h.tm
  lB:=h.lB
  mB:=h.mB}
def ry{w y s:fA}{B:Nat->Prop}{T:Nat->Option Nat}{l m n:Nat}{c:lC}{i:Int}{L:List (gB×Nat)}{M:Nat}{k:pB}{S:Nat->Prop}(h:iL w B T l m c i L M)(C:∀g,S g->∀q∈L,q.1.N≠k->T g≠cA q.2)(t:∀g,g<w.1.size->S g->T g≠aA)
(a:fB S w y)(b:fB (·=m) y s)(j:s.ownsMap prog 9 tE m n (DataW.del (jE (L.map λp=>(p.1.N,kF p.2))) (kL k))):
 lE s B l m c i ((sE (λp:gB×Nat=>p.1.N) k L).map (·.1)) M:=by
 have x:=bB h.blk;have D:=a.size;have f:DataW.del (jE (L.map λp=>(p.1.N,kF p.2))) (kL k)=jE ((sE (λp:gB×Nat=>p.1.N) k L).map λp=>(p.1.N,kF p.2)):=
  XS (key:=λp:gB×Nat=>p.1.N) (λp=>kF p.2) k L
 have d:∀g,g<w.1.size->¬S g->g≠m->s.heap[g]?=w.heap[g]?:=λg u z A=>by
  rw[b.block g (by omega) A,a.block g u z]
 refine⟨T,_,?_,rfl⟩;exact {
  blk:=(d l x (λe=>t l x e h.tl) h.lm.symm).trans h.blk
  ten:=by
   have:=RP j;rw[f,vM]at this;exact this
  rise:=pP h.rise
  idx:=λq o=>by
   obtain⟨o,v⟩:=vP.1 o;exact(h.idx q o).keep λg u r=>⟨d g u (λe=>C g e q o v r.2) (λe=>by rw[e,h.tm]at r;cases r.2),r⟩
  nd:=h.nd.sublist (List.Sublist.map _ Pf)
  tl:=h.tl
  tm:=h.tm
  lB:=h.lB
  mB:=h.mB}
def ny{L:List (gB×Nat)}{k:pB}:xC (·.N) k (L.map (·.1))=(xC (λp:gB×Nat=>p.1.N) k L).map (·.1):=an rfl k
end
