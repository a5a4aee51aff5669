import Derived.Test.YtejebmgbenmimaaGreatDoorJ21
set_option maxRecDepth 100000
set_option maxHeartbeats 8000000
set_option linter.defProp false
open Bool renaming true->iA,false->gA
open Option renaming some->fA,none->eA
open List renaming length->cB
namespace Go.Proofs.YtejebmgbenmimaaGreatDoor
open Go renaming World->jA,Calls->lA
open Value renaming slice->uA,bool->vA,string->tA,tuple->bB,pointer->xA,int->qA
open Ending renaming returned->zA
open Obj renaming cells->aB
open IntKind renaming i64->sA
open Go.RowKit Tryz
section
open Go.Maps
def mf(a:List pB)(k:Nat)(d:k<cB a)(b:zC (·.s) (a.take (k+1))):
 DataW.put (fE ((a.take k).map λp=>(p.s,vI p.n))) (kL a[k].s) (vI a[k].n)=fE ((a.take (k+1)).map λp=>(p.s,vI p.n)):=by
 obtain⟨c,_⟩:=OG d b;have:=IE (key:=λp:pB=>p.s) (λp=>vI p.n) a[k] (wm k (l:=a.take (k+1)) b);rw[List.take_take,Nat.min_eq_left (by omega)]at this;rw[this,c]
def OU(x:Nat)(a:nC)(cap:Nat)(f:List pB)(t:kB)(S:Nat->Prop)(M:Nat)(Y w:jA)(h:yD w S x { t with M:=[] } M)(m:zB Y w)(G:iH Y)(n:jC Y a f)(I:∀g,S g->Y.1.size<=g)(v:∀i(h:i<cB f),f[i].s.size<=1000000000)(o:cB f<=1000000000):
 lA prog 165 #[.pointer (cC x),uA a (cB f) cap] w λe w'=>e=zA (vA (tL f))/\(tL f=iA->yD w' (λg=>S g\/w.1.size<=g) x { t with M:=f} M)/\jB S w w':=by
 have U:fB (yD w S x { t with M:=[] } M):=h;have W:fB _:=m;have Z:fB (iH Y):=G;have o:fB (jC Y a f):=n;have J:fB _:=I;have O:fB _:=v;clear h m G n I v;go_enter func165,ntmps165;go_wp2;go_loopw [5,6,9] (λ_ _ j wr=>∃k:Nat,k<=cB f/\j=dB k/\hI (sL f) k=iA/\yD wr (λg=>S g\/w.1.size<=g) x { t with M:=f.take k} M/\jB S w wr) (λ_ _ j _=>cB f-(intOf j).toNat)
 case atStart=>exact⟨0,Oa _,rfl,rfl,U.o.keep (λg _ hs=>⟨rfl,Ca hs⟩),jB.refl _ _⟩
 case round=>
  obtain⟨k,hk,rfl,I,G,X⟩:=hrel;have Y:fB _:=I;have K:fB (yD wr (λg=>S g\/w.1.size<=g) x { t with M:=f.take k} M):=G;have R:fB _:=X;have U:fB _:=W.o.trans (X.below W.o.size (λk hk hs=>by have:=J.o k hs;omega));clear I G X;by_cases p:k<cB f
  .obtain ⟨pb,po,rfl,hpl,c0,c1⟩:=(o.o.z U.o).at p;have G:fB (sL f k=gA->tL f=gA):=λh=>fP h p;have q:fB _:=bZ p;have J:=O.o k p;have E:fB (0<k->∃l:vB,wL f k=vJ l f[k].s/\gD wr pb (po+(k-1)*2) (tA l)):=λm=>by
    refine⟨_,dT m p,?_⟩;obtain⟨b',I,e,_,I,_⟩:=(o.o.z U.o).at (i:=k-1) (by omega)
    simp only[Qa,Addr.mk.injEq,Cc]at e;rw[e.1,e.2];exact I
   have O:fB (k=0->wL f k=iA):=λm=>by subst m;rfl
   have o:=mf f k p;have I:fB (sL f k=iA->hI (sL f) (k+1)=iA/\zC (·.s) (f.take (k+1))):=λh=>by
    have W:hI (sL f) (k+1)=iA:=by rw[fL,Y.o,h];rfl
    exact⟨W,GY W (by omega)⟩
   have C:fB _:=o;clear o;have N:fB _:=λW o=>dV f[k].s W J o;generalize f[k]=P at *;go_upto_region 4 with fail;have z:fB (rB (wr.alloc (aB #[tA P.s,dB P.n] 107)) wr.1.size #[tA P.s,dB P.n] 107):=rB.new _ _ _;have y:fB (zB wr (wr.alloc (aB #[tA P.s,dB P.n] 107))):=aC;have u:fB (0<k->∃l:vB,wL f k=vJ l P.s/\(wr.alloc (aB #[tA P.s,dB P.n] 107)).cell? (iB pb (po+(k-1)*2))=fA (tA l)):=λm=>by
    obtain⟨l,o,J⟩:=E.o m;exact⟨l,o,(aC.cell hpl).trans J⟩
   generalize wr.alloc (aB #[tA P.s,dB P.n] 107)=W at *;have o:fB (yD W (λg=>S g\/w.1.size<=g) x { t with M:=f.take k} M):=K.o.z y.o;have HTW:fB _:=R.o.trans' (jB.of y.o);have J:fB _:=U.o.trans (y.o.mono U.o.size);generalize wr.1.size=mb at *;clear c0 c1 E hpl K R U y wr;go_cut [38] (λs U=>s=vA (!(sL f k))/\zB W U)
   case first=>
    have U:=mC.cells (show gD W mb 0 (tA P.s) from z.o.cell 0);have U:=mC.cells (show gD W mb 1 (dB P.n) from z.o.cell 1);have U:=mC.there W;have r:fB _:=fun(x:mC W)=>N.o _ (Z.o.z (J.o.trans (x.h.mono J.o.size)));have L:fB _:=λW=>pG P.n W;clear N;have T:(∃l:vB,(0:Int)<k/\0<k/\gD W pb (po+(k-1)*2) (tA l)/\Op.bytesLess l.toList P.s.toList=gA/\fB (sL f k=gA))\/wL f k=iA/\(decide ((0:Int)<k)=gA/\decide (0<k)=gA\/∃l:vB,(0:Int)<k/\0<k/\gD W pb (po+(k-1)*2) (tA l)/\Op.bytesLess l.toList P.s.toList=iA):=by
     by_cases m:0<k
     .obtain ⟨l,n,F⟩:=u.o m;cases v:Op.bytesLess l.toList P.s.toList
      .exact Ca ⟨l,by omega,m,F,v,by show _=_;rw[q.o,n,vJ,v];simp⟩
      exact La ⟨n.trans v,La ⟨l,by omega,m,F,v⟩⟩
     exact La ⟨O.o (by omega),Ca ⟨by simp;omega,by simp;omega⟩⟩
    obtain⟨l,m,U,F,v,W⟩|⟨n,T⟩:=T
    .have d3:=mC.cells F;clear F;refine bC (by kernel_rfl) (by kernel_rfl) ?_;repeat (go_big_quiet_step (first|(go_at_call 227;exact rC (r.o _))|(go_at_call 76;exact dD (L.o _))))
     refine wpQuiet_nil ?_;rintro _ ⟨x,rfl⟩;go_wp2_with fail;go_meet;exact⟨by rw[W.o];rfl,x.h⟩
    have Z:∃V,fB (sL f k=V)/\(dF P.s=gA/\V=gA\/dF P.s=iA/\dC P.n 0 1000000=V):=by
     have hm:=q.o;rw[n]at hm;cases b:dF P.s
     .exact ⟨gA,by show _=_;rw[hm,b];simp,Ca ⟨rfl,rfl⟩⟩
     exact ⟨_,rfl,La ⟨rfl,by rw[hm,b];simp⟩⟩
    clear u O q n;obtain⟨V,W,Z⟩:=Z;obtain⟨n,n⟩|⟨l,m,U,F,v⟩:=T
    rotate_left;have d3:=mC.cells F;clear F;all_goals
     obtain⟨b,rfl⟩|⟨b,d⟩:=Z
     rotate_left;rw[d]at L;cases V
     all_goals
      rw[b]at r;clear b;try clear d
      refine bC (by kernel_rfl) (by kernel_rfl) ?_;repeat (go_big_quiet_step (first|(go_at_call 227;exact rC (r.o _))|(go_at_call 76;exact dD (L.o _))))
      refine wpQuiet_nil ?_;rintro _ ⟨x,rfl⟩;go_wp2_with fail;go_meet;exact⟨by rw[W.o];rfl,x.h⟩
   obtain⟨rfl,B⟩:=hcut;rename jA=>Z;have m:fB (rB Z mb #[tA P.s,dB P.n] 107):=z.o.z B;have U:fB (yD Z (λg=>S g\/w.1.size<=g) x { t with M:=f.take k} M):=o.o.z B;have n:fB _:=HTW.o.trans' (jB.of B);clear B z o HTW J u N;by_cases c:sL f k=gA
   .have HF4:fB _:=G.o c;rw[c];clear c;go_wp2;go_ret;exact⟨tB HF4.o.symm,λh=>absurd h (by rw[HF4.o];simp),n.o⟩
   have A:sL f k=iA:=by simpa using c
   obtain⟨o,W⟩:=I.o A;have h:dC P.n 0 1000000=iA:=by
    have:=q.o;rw[A]at this;cases v:dC P.n 0 1000000 with
    |true=>rfl
    |false=>rw[v]at this;simp at this
   obtain⟨J,J⟩:=gL h;have G1:fB _:=o;have H:=C.o W;rw[A];clear c A o G q O I C;obtain⟨lm,o,o,o,Q,hs,D,G⟩:=U.o;have J:keyOf prog 9 (tA P.s)=fA (kL P.s):=zM (by unfold maxLen;omega);obtain⟨w8,O,I,o⟩:=G.lims.drew.update pL underlying227 (by simp only[Hb];unfold maxLen;omega) (val:=dB P.n) J (plainElem_int underlying3 (WalkArith.wf_i64 (by omega)));have J:gD Z x 1 (.map (fA lm)):=G.blk.cell 1;have x1:gD Z mb 0 (tA P.s):=m.o.cell 0;have x2:gD Z mb 1 (dB P.n):=m.o.cell 1;go_wp2_with fail;go_region
   have U:jB (·=lm) Z w8:=(jB.grown (a:=Z) ⟨o.os,o.tape,o.output,o.size,o.block⟩).mono λi _ e=>by simp only[Qa]at e;exact e.symm
   have Z:fB (yD w8 (λg=>S g\/w.1.size<=g) x { t with M:=f.take (k+1) } M):=G.newLims U I H W;have m:fB _:=n.o.trans (U.mono λi _ e=>by subst e;exact G.sl);clear G I o U H W J x1 x2 O h;go_wp2;exact⟨⟨k+1,by omega,by go_num,G1.o,Z.o,m.o⟩,by simp[intOf];omega⟩
  .have ek:k=cB f:=by omega
   have h:fB (tL f=iA):=by have:=Y.o;rw[ek]at this;exact this
   have m:fB (yD wr (λg=>S g\/w.1.size<=g) x { t with M:=f} M):=by have:=K.o;rw[ek,Rb]at this;exact this
   clear ek;go_wp2;go_ret;exact⟨tB h.o.symm,λ_=>m.o,R.o⟩
end
section
open Go.Maps
def vq(a:List hC)(h:∀l∈a,l.V.size<=1000000):(aL a).size<=1000000:=by
 induction a with
 |nil=>simp[aL]
 |cons l r c=>
  rw[aL];split;exact h l (Kc ..);exact c λq b=>h q (Sb _ b)
def bS(s:vB):(cE s).size<=maxLen:=by
 have h:∀l∈(sG s).1,l.V.size<=1000000:=λl a=>by
  cases hd:(sG s).2 with
  |false=>rw[(LP hd).1]at a;simp at a
  |true=>
   obtain⟨i,b,rfl⟩:=Ib a;have:=(uZ (WR hd).1 i b).2;omega
 have:=vq _ h;unfold cE maxLen;omega
def fV(c:kC)(a:Int)(m:Nat):Array Value:=#[dB c.w,dB c.tl,dB c.ml,dB c.sh,dB c.ha,dB c.sg,dB a,.map (fA m)]
def JC(l m:Nat)(c:kC)(a:Int)(w:jA)(h:rB w l (fV c a m) 169)(g:0<=a)(i:a<=1000000000000)(b:1<=c.w)(d:c.w<=1000000000):
 gF 229 #[.pointer (cC l)] w (dB (a-c.w)):=by
 have j:gD w l 6 (dB a):=h.cell 6;have k:gD w l 0 (dB c.w):=h.cell 0;clear h;go_enter func229,ntmps229;go_wp2_with fail;go_quiet (fail)
 go_wp2;go_ret;exact⟨rfl,below_drewN jD _⟩
def OV(l m x:Nat)(a:nC)(cap:Nat)(r:List pB)(t:kB)(c:kC)(q:Int)(S:Nat->Prop)(M:Nat)(n w:jA)(hl:rB w l (fV c q m) 169)(o:¬S l)(h:yD w S x { t with Z:=[] } M)(v:zB n w)(hU:iH n)(I:jC n a r)(hS:∀g,S g->n.1.size<=g)
(G:∀i(h:i<cB r),r[i].s.size<=1000000000)(J:cB r<=500000000)(J:M<=500000000)(h1:0<=q)(h2:q<=1000000000000)(hw0:1<=c.w)(hw1:c.w<=1000000000):
 lA prog 166 #[.pointer (cC l),.pointer (cC x),uA a (cB r) cap] w λe O=>e=zA (vA (vK c.w q r))/\(vK c.w q r=iA->yD O (λg=>S g\/w.1.size<=g) x { t with Z:=r} (M+cB r))/\jB S w O:=by
 have W:fB (rB w l (fV c q m) 169):=hl;have HSL:fB (¬S l):=o;have HI:fB (yD w S x { t with Z:=[] } M):=h;have H0:fB _:=v;have HU:fB (iH n):=hU;have U:fB (jC n a r):=I;have J:fB _:=hS;have Y:fB _:=G;clear h v hU I hS G hl o;go_enter func166,ntmps166;go_wp2;go_loopw [7,8,9,12] (λ_ _ _ j wr=>∃k:Nat,k<=cB r/\j=dB k/\hI (cJ c.w q r) k=iA/\yD wr (λg=>S g\/w.1.size<=g) x { t with Z:=r.take k} (M+k)/\jB S w wr) (λ_ _ _ j _=>cB r-(intOf j).toNat)
 case atStart=>exact⟨0,Oa _,rfl,rfl,HI.o.keep (λg _ N=>⟨rfl,Ca N⟩),jB.refl _ _⟩
 case round=>
  obtain⟨k,hk,rfl,n,L,b0⟩:=hrel;have HOK:fB _:=n;have R:fB (yD wr (λg=>S g\/w.1.size<=g) x { t with Z:=r.take k} (M+k)):=L;have E:fB _:=b0;have o:fB _:=H0.o.trans (b0.below H0.o.size (λk hk N=>by have:=J.o k N;omega));clear n L b0;by_cases A:k<cB r
  .obtain ⟨pb,po,rfl,hpl,c0,c1⟩:=(U.o.z o.o).at A;have n:fB (cJ c.w q r k=gA->vK c.w q r=gA):=λh=>fP h A;have C:fB (cJ c.w q r k=(wL r k&&gK r[k].s&&dC r[k].n 0 q&&decide (q-r[k].n<c.w))):=nV A;have hsz:=Y.o k A;have J:fB (0<k->∃u:vB,wL r k=vJ u r[k].s/\gD wr pb (po+(k-1)*2) (tA u)):=λv=>by
    refine⟨_,dT v A,?_⟩;obtain⟨b',Y,e,_,Y,_⟩:=(U.o.z o.o).at (i:=k-1) (by omega)
    simp only[Qa,Addr.mk.injEq,Cc]at e;rw[e.1,e.2];exact Y
   have V:fB (k=0->wL r k=iA):=λv=>by subst v;rfl
   have HTK:fB (cJ c.w q r k=iA->hI (cJ c.w q r) (k+1)=iA/\iC (·.s) r[k] (r.take k)=r.take (k+1)/\eD (·.s) r[k].s (r.take k)=eA):=λh=>by
    have h1:hI (cJ c.w q r) (k+1)=iA:=by rw[fL,HOK.o,h];rfl
    exact⟨h1,OG (key:=λp:pB=>p.s) A (II h1 (by omega))⟩
   have Y:fB (rB wr l (fV c q m) 169):=E.o.blk W.o HSL.o;have HMT:fB (∀W,iH W->gF 228 #[tA r[k].s] W (tA (cE r[k].s))):=λW U=>uY r[k].s W hsz U;have hms:=bS r[k].s;have HTL:fB (cB (r.take k)<=1000000000):=by show _<=_;rw[Hb];omega
   generalize r[k]=P at *;go_upto_region 4 with fail;have X:fB (rB (wr.alloc (aB #[tA P.s,dB P.n] 109)) wr.1.size #[tA P.s,dB P.n] 109):=rB.new _ _ _;have y:fB (zB wr (wr.alloc (aB #[tA P.s,dB P.n] 109))):=aC;have x0:(wr.alloc (aB #[tA P.s,dB P.n] 109)).cell? (iB wr.1.size 0)=fA (tA P.s):=X.o.cell 0;generalize wr.alloc (aB #[tA P.s,dB P.n] 109)=W0 at *;go_wp2_with fail;apply oC (HMT.o _ (HU.o.z (o.o.trans (y.o.mono o.o.size))));intro W z;have B:fB (0<k->∃u:vB,wL r k=vJ u P.s/\gD W pb (po+(k-1)*2) (tA u)):=λv=>by
    obtain⟨u,U,e2⟩:=J.o v;exact⟨u,U,((xB y.o z).cell hpl).trans e2⟩
   have F:fB (rB W wr.1.size #[tA P.s,dB P.n] 109):=X.o.z z;have HIW:fB (yD W (λg=>S g\/w.1.size<=g) x { t with Z:=r.take k} (M+k)):=R.o.z (xB y.o z);have HTW:fB _:=E.o.trans' (jB.of (xB y.o z));have U:fB (rB W l (fV c q m) 169):=Y.o.z (xB y.o z);generalize wr.1.size=mb at *;clear c0 c1 J hpl R E o y z x0 X Y HMT wr W0;go_upto_region 5 with fail;go_cut [53] (λs o=>s=vA (!(cJ c.w q r k))/\zB W o)
   case first=>
    have o:=mC.cells (show gD W mb 0 (tA P.s) from F.o.cell 0);have o:=mC.cells (show gD W mb 1 (dB P.n) from F.o.cell 1);have o:=mC.cells (show gD W l 6 (dB q) from U.o.cell 6);have o:=mC.there W;have T:fB _:=λW=>zF P.n q W;have J:fB _:=fun(x:mC W)=>JC l m c q x.w' (U.o.z x.h) h1 h2 hw0 hw1;have Y:(∃u:vB,(0:Int)<k/\0<k/\gD W pb (po+(k-1)*2) (tA u)/\Op.bytesLess u.toList P.s.toList=gA/\fB (cJ c.w q r k=gA))\/wL r k=iA/\(decide ((0:Int)<k)=gA/\decide (0<k)=gA\/∃u:vB,(0:Int)<k/\0<k/\gD W pb (po+(k-1)*2) (tA u)/\Op.bytesLess u.toList P.s.toList=iA):=by
     by_cases v:0<k
     .obtain ⟨u,I,K⟩:=B.o v;cases G:Op.bytesLess u.toList P.s.toList
      .exact Ca ⟨u,by omega,v,K,G,by show _=_;rw[C.o,I,vJ,G];simp⟩
      exact La ⟨I.trans G,La ⟨u,by omega,v,K,G⟩⟩
     exact La ⟨V.o (by omega),Ca ⟨by simp;omega,by simp;omega⟩⟩
    obtain⟨u,v,W,K,G,m⟩|⟨I,Y⟩:=Y
    .have d3:=mC.cells K;clear K;refine bC (by kernel_rfl) (by kernel_rfl) ?_;repeat (go_big_quiet_step (first|(go_at_call 41;exact dD (T.o _))|(go_at_call 229;exact rC (J.o _))))
     refine wpQuiet_nil ?_;rintro _ ⟨x,rfl⟩;go_wp2_with fail;go_meet;exact⟨by rw[m.o];rfl,x.h⟩
    have hf:(cE P.s).toList.isEmpty=iA/\fB (cJ c.w q r k=gA)\/(cE P.s).toList.isEmpty=gA/\(dC P.n 0 q=gA/\fB (cJ c.w q r k=gA)\/(dC P.n 0 q=iA/\0<=P.n/\P.n<=q)/\(P.n<=q-c.w/\fB (cJ c.w q r k=gA)\/¬P.n<=q-c.w/\decide (P.n<=q-c.w)=gA/\fB (cJ c.w q r k=iA))):=by
     have Z:=C.o;rw[I,gK]at Z;cases o:(cE P.s).toList.isEmpty
     .rw[o]at Z;refine La ⟨rfl,?_⟩;cases b:dC P.n 0 q
      .exact Ca ⟨rfl,by show _=_;rw[Z,b];simp⟩
      refine La ⟨⟨rfl,gL b⟩,?_⟩;rw[b]at Z;by_cases d:P.n<=q-c.w
      .exact Ca ⟨d,by show _=_;rw[Z];simp;omega⟩
      exact La ⟨d,by simpa using d,by show _=_;rw[Z];simp;omega⟩
     exact Ca ⟨rfl,by show _=_;rw[Z,o];simp⟩
    clear B V C I;obtain⟨I,I⟩|⟨u,v,W,K,G⟩:=Y
    rotate_left;have d3:=mC.cells K;clear K;all_goals
     obtain⟨o,m⟩|⟨o,⟨b,m⟩|⟨⟨b,o,o⟩,⟨d,m⟩|⟨d,o,m⟩⟩⟩:=hf
     all_goals
      try rw[b]at T
      try clear b
      refine bC (by kernel_rfl) (by kernel_rfl) ?_;repeat (go_big_quiet_step (first|(go_at_call 41;exact dD (T.o _))|(go_at_call 229;exact rC (J.o _))))
      refine wpQuiet_nil ?_;rintro _ ⟨x,rfl⟩;go_wp2_with fail;go_meet;exact⟨by rw[m.o];rfl,x.h⟩
   obtain⟨rfl,H⟩:=hcut;rename jA=>Q;have m:fB (rB Q mb #[tA P.s,dB P.n] 109):=F.o.z H;have o:fB (yD Q (λg=>S g\/w.1.size<=g) x { t with Z:=r.take k} (M+k)):=HIW.o.z H;have D:fB _:=HTW.o.trans' (jB.of H);clear H F HIW HTW B U;by_cases f:cJ c.w q r k=gA
   .have HF4:fB _:=n.o f;rw[f];clear f;go_wp2;go_ret;exact⟨tB HF4.o.symm,λh=>absurd h (by rw[HF4.o];simp),D.o⟩
   have Y:cJ c.w q r k=iA:=by simpa using f
   obtain⟨h,G,J⟩:=HTK.o Y;have U:fB _:=h;have W:fB _:=G;have I:fB (lA prog 230 #[.pointer (cC x),tA P.s,tA (cE P.s),dB P.n] Q λe O=>e=zA (bB #[])/\yD O (λg=>(S g\/w.1.size<=g)\/Q.1.size<=g) x { t with Z:=iC (·.s) ⟨P.s,P.n⟩ (r.take k) } (M+k+1)/\jB (λg=>S g\/w.1.size<=g) Q O):=
    om x { t with Z:=r.take k} P.s P.n _ (M+k) Q o.o J (by unfold maxLen;omega) hms (by omega) HTL.o
   have O:gD Q mb 0 (tA P.s):=m.o.cell 0;have x2:gD Q mb 1 (dB P.n):=m.o.cell 1;rw[Y];clear f Y h G J n C V HTK;go_wp2_with fail;apply oC I.o;rintro n ⟨h,m⟩;have G:fB (yD n (λg=>S g\/w.1.size<=g) x { t with Z:=r.take (k+1) } (M+(k+1))):=by
    have:=h.keep (w':=n) (S':=λg=>S g\/w.1.size<=g) (λg _ N=>⟨rfl,by obtain N|N:=N;exact N;exact La (by have:=D.o.size;omega)⟩);rw[show(⟨P.s,P.n⟩:pB)=P from rfl,W.o]at this;exact this
   have n:fB _:=D.o.trans m;clear h m I O x2 o D;go_wp2;exact⟨⟨k+1,by omega,by go_num,U.o,G.o,n.o⟩,by simp[intOf];omega⟩
  .have ek:k=cB r:=by omega
   have h:fB (vK c.w q r=iA):=by have:=HOK.o;rw[ek]at this;exact this
   have m:fB (yD wr (λg=>S g\/w.1.size<=g) x { t with Z:=r} (M+cB r)):=by have:=R.o;rw[ek,Rb]at this;exact this
   clear ek;go_wp2;go_ret;exact⟨tB h.o.symm,λ_=>m.o,E.o⟩
end
section
open Go.Maps
structure xK(w:World)(B:Nat→Prop)(T:Nat→Option Nat)(l m:Nat)(c:kC)(now:Int)(L:List (kB×Nat))(M:Nat):Prop where
 blk:rB w l (fV c now m) 169
 ten:w.ownsMap prog 9 wE m (cB L) (fE (L.map λp=>(p.1.N,nF p.2)))
 rise:zC (λp:kB×Nat=>p.1.N) L
 idx:∀p∈L,yD w (λg=>B g∧T g=fA p.2) p.2 p.1 M
 nd:(L.map (·.2)).Nodup
 tl:T l=eA
 tm:T m=eA
 lB:B l
 mB:B m
def jE(w:jA)(B:Nat->Prop)(l m:Nat)(c:kC)(a:Int)(b:List kB)(M:Nat):Prop:=∃T L,xK w B T l m c a L M/\L.map (·.1)=b
def xK.lm{w:jA}{B:Nat->Prop}{T:Nat->Option Nat}{l m:Nat}{c:kC}{a:Int}{L:List (kB×Nat)}{M:Nat}(h:xK w B T l m c a L M):m≠l:=fD h.ten h.blk
def xK.keep{w w':jA}{B:Nat->Prop}{T:Nat->Option Nat}{l m:Nat}{c:kC}{b:Int}{L:List (kB×Nat)}{M:Nat}(h:xK w B T l m c b L M)(d:∀g,g<w.1.size->B g->w'.heap[g]?=w.heap[g]?):xK w' B T l m c b L M:=
 { h with
  blk:=(d l (eB h.blk) h.lB).trans h.blk
  ten:=by
   have e:=h.ten.lt;obtain⟨i,a,j,r⟩:=h.ten;exact⟨i,a,(d m e h.mB).trans j,r⟩
  idx:=λp n=>(h.idx p n).keep λg k f=>⟨d g k f.1,f⟩ }
def jE.z{w d:jA}{B:Nat->Prop}{l m:Nat}{c:kC}{a:Int}{b:List kB}{M:Nat}(h:jE w B l m c a b M)(f:zB w d):jE d B l m c a b M:=by
 obtain⟨T,L,h,e⟩:=h;exact⟨T,L,h.keep λg i _=>f.block g i,e⟩
def dz{w k H D z:jA}{B:Nat->Prop}{T:Nat->Option Nat}{l m x n:Nat}{c:kC}{u:Int}{L:List (kB×Nat)}{M M':Nat}{t:kB}(h:xK w B T l m c u L M)(I:∀g,w.1.size<=g->B g)(q:eD (λp:kB×Nat=>p.1.N) t.N L=eA)
(E:zB w k)(F:zB k H)(R:k.1.size<=x)(b:jB (·=m) H D)(v:D.ownsMap prog 9 wE m n (DataW.put (fE (L.map λp=>(p.1.N,nF p.2))) (kL t.N) (nF x)))
(d:jB (λg=>k.1.size<=g) D z)(A:yD z (λg=>k.1.size<=g) x t M')(J:M'<=M):
 jE z B l m c u ((iC (λp:kB×Nat=>p.1.N) (t,x) L).map (·.1)) M:=by
 have G:=eB h.blk;have K:=h.ten.lt;have O:=E.size;have P:=F.size;have Q:=b.size;have o:∀p,p∈iC (λp:kB×Nat=>p.1.N) (t,x) L->p=(t,x)\/p∈L:=λp i=>lK i;have j:=GT (key:=λp:kB×Nat=>p.1.N) (a:=(t,x)) q;have f:∀g,g<w.1.size->g≠m->z.heap[g]?=w.heap[g]?:=λg y C=>by
  rw[d.block g (by omega) (by omega),b.block g (by omega) C,F.block g (by omega),E.block g y]
 have r:DataW.put (fE (L.map λp=>(p.1.N,nF p.2))) (kL t.N) (nF x)=fE ((iC (λp:kB×Nat=>p.1.N) (t,x) L).map λp=>(p.1.N,nF p.2)):=
  IE (key:=λp:kB×Nat=>p.1.N) (λp=>nF p.2) (t,x) h.rise
 refine⟨λg=>if g<w.1.size then T g else fA x,_,?_,rfl⟩;exact {
  blk:=(f l G h.lm.symm).trans h.blk
  ten:=by
   have:=QJ (d.map v (by omega));rw[r,pM]at this;exact this
  rise:=bK h.rise
  idx:=λp i=>by
   rcases o p i with rfl|i
   .refine (A.mono J).keep λg _ s=>⟨rfl,I g (by omega),?_⟩
    show(if g<w.1.size then T g else fA x)=fA x;rw[Ja (by omega)]
   refine (h.idx p i).keep λg y s=>⟨f g y (λe=>by rw[e,h.tm]at s;cases s.2),s.1,?_⟩
   show(if g<w.1.size then T g else fA x)=_;rw[Ma y];exact s.2
  nd:=by
   rw[(j.map _).nodup_iff,Fc,List.nodup_cons];refine⟨λN=>?_,h.nd⟩;obtain⟨p,i,e⟩:=Md.1 N;have:=(h.idx p i).lt;simp only at e;omega
  tl:=by show(if l<w.1.size then T l else _)=eA;rw[Ma G];exact h.tl
  tm:=by show(if m<w.1.size then T m else _)=eA;rw[Ma K];exact h.tm
  lB:=h.lB
  mB:=h.mB}
def uj{L:List (kB×Nat)}{k:vB}(h:eD (·.N) k (L.map (·.1))=eA):eD (λp:kB×Nat=>p.1.N) k L=eA:=by grind [eD]
def aBq(l m:Nat)(t:kB)(u v:nC)(B C:Nat)(c:kC)(n:Int)(Y:List kB)(M:Nat)(q w:jA)(h:jE w (q.1.size<=·) l m c n Y M)(h0:zB q w)(hU:iH q)(p1:jC q u t.M)(p2:jC q v t.Z)
(I:eD (·.N) t.N Y=eA)(hn:t.N.size<=maxLen)(s:∀i(h:i<cB t.M),t.M[i].s.size<=1000000000)(o:∀i(h:i<cB t.Z),t.Z[i].s.size<=1000000000)(hl1:cB t.M<=500000000)(G:cB t.Z<=500000000)(J:cB Y<=1000000000)(hM:cB t.Z<=M)
(hn0:0<=n)(hn1:n<=1000000000000)(hw0:1<=c.w)(hw1:c.w<=1000000000):
 lA prog 90 #[.pointer (cC l),.agg #[tA t.N,dB t.L,uA u (cB t.M) B,uA v (cB t.Z) C]] w λe E=>e=zA (vA (wO c.w n t))/\
  (wO c.w n t=iA->jE E (q.1.size<=·) l m c n (iC (·.N) t Y) M)/\jB (·=m) w E:=by
 obtain⟨T,L,h,Z⟩:=h;have j:fB (wO c.w n t=(xC t.N&&dC t.L (-1) 1000000&&tL t.M&&vK c.w n t.Z&&!eF t)):=rfl;have r:fB _:=λW=>jM t.N W hn;by_cases O:xC t.N=gA
 .rw[O]at r j;clear h;go_enter func90,ntmps90;go_wp2_with fail;apply dR (r.o _);go_wp2;go_ret;exact⟨tB (by rw[j.o];simp),λh=>absurd h (by rw[j.o];simp),jB.of aC⟩
 have J:xC t.N=iA:=by simpa using O
 rw[J]at r j;clear O J;have D:fB _:=λW=>tT t.L W;by_cases O:dC t.L (-1) 1000000=gA
 .rw[O]at D j;clear h;go_enter func90,ntmps90;go_wp2_with fail;apply dR (r.o _);go_wp2_with fail;apply dR (D.o _);go_wp2;go_ret;exact⟨tB (by rw[j.o];simp),λh=>absurd h (by rw[j.o];simp),jB.of aC⟩
 have J:dC t.L (-1) 1000000=iA:=by simpa using O
 rw[J]at D j;clear O J;have X:fB _:=h;have J:=h.ten.lt;have J:=eB h.blk;have J:=h0.size;have HLE:fB _:=Z;have O:cB L=cB Y:=by rw[<-Z,Xa]
 have HGN:fB _:=uj (by rw[Z];exact I);have HK:fB _:=zM hn;have O:fB _:=λW=>EW t.L t.N W;have U:fB (∀(S:Nat->Prop)(x:Nat)(W:jA),yD W S x ⟨t.N,t.L,[],[]⟩ 0->zB q W->(∀g,S g->q.1.size<=g)->lA prog 165 #[.pointer (cC x),uA u (cB t.M) B] W λe E=>e=zA (vA (tL t.M))/\(tL t.M=iA->yD E (λg=>S g\/W.1.size<=g) x ⟨t.N,t.L,t.M,[]⟩ 0)/\jB S W E):=
  λS x W hi hb A=>OU x u B t.M ⟨t.N,t.L,[],[]⟩ S 0 q W hi hb hU p1 A s (by omega)
 have HSS:fB (∀(S:Nat->Prop)(x:Nat)(W:jA),yD W S x ⟨t.N,t.L,t.M,[]⟩ 0->zB q W->(∀g,S g->q.1.size<=g)->rB W l (fV c n m) 169->¬S l->lA prog 166 #[.pointer (cC l),.pointer (cC x),uA v (cB t.Z) C] W λe E=>e=zA (vA (vK c.w n t.Z))/\(vK c.w n t.Z=iA->yD E (λg=>S g\/W.1.size<=g) x ⟨t.N,t.L,t.M,t.Z⟩ (0+cB t.Z))/\jB S W E):=
  λS x W hi hb A hbl hsl=>OV l m x v C t.Z ⟨t.N,t.L,t.M,[]⟩ c n S 0 q W hbl hsl hi hb hU p2 A o G (by omega) hn0 hn1 hw0 hw1
 have H0:fB _:=h0;clear h p1 p2 I hn s o hl1 G Z h0 hU;go_enter func90,ntmps90;go_wp2_with fail;apply dR (r.o _);go_wp2_with fail;apply dR (D.o _);go_wp2_with fail;have B1:fB (zB w (w.alloc (aB #[tA t.N,dB t.L,uA u (cB t.M) B,uA v (cB t.Z) C] 105))):=aC;have X1:fB (rB (w.alloc (aB #[tA t.N,dB t.L,uA u (cB t.M) B,uA v (cB t.Z) C] 105)) w.1.size #[tA t.N,dB t.L,uA u (cB t.M) B,uA v (cB t.Z) C] 105):=rB.new _ _ _;have s:w.1.size<(w.alloc (aB #[tA t.N,dB t.L,uA u (cB t.M) B,uA v (cB t.Z) C] 105)).1.size:=by simp
 generalize w.alloc (aB #[tA t.N,dB t.L,uA u (cB t.M) B,uA v (cB t.Z) C] 105)=F at *;refine(O.o F).mono ?_;rintro e Z ⟨x,rfl,hx,G,o⟩;have B2:fB _:=o;have y:=xB B1.o o;have X2:fB (rB Z w.1.size #[tA t.N,dB t.L,uA u (cB t.M) B,uA v (cB t.Z) C] 105):=X1.o.z o;have L2:fB (rB Z l (fV c n m) 169):=X.o.blk.z y;have N:=(jB.of (S:=λ_=>False) y).map X.o.ten (λe=>e);obtain⟨s,I,K,z⟩:=N.drew.update pL underlying167 (by unfold maxLen;omega) HK.o (yW x);have b:jB (·=m) Z s:=(jB.grown (a:=Z) ⟨z.os,z.tape,z.output,z.size,z.block⟩).mono λi _ e=>by simp only[Qa]at e;exact e.symm
 have T3:fB _:=b;have H:fB (s.ownsMap prog 9 wE m (cB L+1) (DataW.put (fE (L.map λp=>(p.1.N,nF p.2))) (kL t.N) (nF x))):=K;have W:fB (yD s (λg=>F.1.size<=g) x ⟨t.N,t.L,[],[]⟩ 0):=G.keep λg hg A=>⟨b.block g hg (by omega),A⟩
 have hmb:q.1.size<=m:=X.o.mB;have B3:fB _:=(H0.o.trans (y.mono J)).trans (b.below (by have:=y.size;omega) (λk hk=>by omega));have X3:fB (rB s w.1.size #[tA t.N,dB t.L,uA u (cB t.M) B,uA v (cB t.Z) C] 105):=b.blk X2.o (by omega);have L3:fB (rB s l (fV c n m) 169):=b.blk L2.o X.o.lm.symm;have x0:gD Z l 7 (.map (fA m)):=L2.o.cell 7;have x1:gD Z w.1.size 0 (tA t.N):=X2.o.cell 0;have Z:=o.size;have Z:=b.size;have Z:fB _:=(jB.of y).trans' b;clear o y N K z b G X1 X2 L2 O r D;go_upto_region 4 with fail;go_cut [25] (λ_ o=>o=s)
 case first=>
  go_region
  go_wp2_with fail;go_meet;exact rfl
 subst hcut;clear I x0 x1;have G:gD wc w.1.size 2 (uA u (cB t.M) B):=X3.o.cell 2;go_wp2_with fail;refine oC (U.o _ x wc W.o B3.o (λg hg=>by omega)) ?_;rintro w4 ⟨o,d⟩;have s:fB _:=o;have T4:fB _:=d;have P:fB _:=Z.o.trans (d.mono λi _ e=>La (by omega));have X4:fB (rB w4 w.1.size #[tA t.N,dB t.L,uA u (cB t.M) B,uA v (cB t.Z) C] 105):=d.blk X3.o (by omega);have L4:fB (rB w4 l (fV c n m) 169):=d.blk L3.o (by omega);have B4:fB _:=B3.o.trans (d.below (by omega) (λk hk=>by omega));clear o d G U X3 L3 W B3 Z;by_cases o:tL t.M=gA
 .rw[o]at j |-
  go_wp2;go_ret;exact⟨tB (by rw[j.o];simp),λh=>absurd h (by rw[j.o];simp),P.o⟩
 have R:tL t.M=iA:=by simpa using o
 have G:fB (yD w4 (λg=>F.1.size<=g) x ⟨t.N,t.L,t.M,[]⟩ 0):=(s.o R).keep λg _ A=>⟨rfl,by rcases A with A|A<;>omega⟩
 rw[R]at j |-
 clear o R s;have Z:gD w4 w.1.size 3 (uA v (cB t.Z) C):=X4.o.cell 3;go_wp2_with fail;refine oC (HSS.o _ x w4 G.o B4.o (λg hg=>by omega) L4.o (by omega)) ?_;rintro o ⟨V,f⟩;have Q:fB _:=P.o.trans (f.mono λi _ e=>La (by omega));have s:=T4.o.size;by_cases W:vK c.w n t.Z=gA
 .rw[W]at j |-
  clear V f;go_wp2;go_ret;exact⟨tB (by rw[j.o];simp),λh=>absurd h (by rw[j.o];simp),Q.o⟩
 have U:vK c.w n t.Z=iA:=by simpa using W
 have O:fB (yD o (λg=>F.1.size<=g) x t (cB t.Z)):=by
  have:=(V U).keep (w':=o) (S':=λg=>F.1.size<=g) λg _ A=>⟨rfl,by rcases A with A|A<;>omega⟩
  rw[Ya]at this;exact this
 have s:fB _:=T4.o.trans' f;rw[U]at j |-
 have I:fB (jE o (q.1.size<=·) l m c n (iC (·.N) t Y) M):=by
  have:=dz X.o (λg hg=>Ua J hg) HGN.o B1.o B2.o hx T3.o H.o s.o O.o hM;rw[zR (key':=λt:kB=>t.N) (λp:kB×Nat=>p.1) (λ_=>rfl),HLE.o]at this;exact this
 clear W U V f s T4 HSS G B4 L4 X4 P Z H T3 X;have m:fB (bM 167 #[.pointer (cC x)] o (vA (eF t))):=OD x t _ _ o O.o;go_wp2_with fail;apply dR m.o;clear m O;cases gB:eF t with
 |true=>
  rw[gB]at j;go_wp2;go_ret;exact⟨tB (by rw[j.o];rfl),λh=>absurd h (by rw[j.o];simp),Q.o⟩
 |false=>
  rw[gB]at j;go_wp2;go_ret;exact⟨tB (by rw[j.o];rfl),λ_=>I.o,Q.o⟩
end
section
open Go.Maps
def jE.re{w o:jA}{B B':Nat->Prop}{l m:Nat}{c:kC}{b:Int}{n:List kB}{M:Nat}(h:jE w B l m c b n M)(d:∀g,g<w.1.size->B g->o.heap[g]?=w.heap[g]?/\B' g):jE o B' l m c b n M:=by
 obtain⟨T,L,h,e⟩:=h;have j:=d l (eB h.blk) h.lB;have k:=d m h.ten.lt h.mB;refine⟨T,L,{ h with blk:=j.1.trans h.blk,ten:=?_,idx:=λp t=>(h.idx p t).keep λg i f=>⟨(d g i f.1).1,(d g i f.1).2,f.2⟩,lB:=j.2,mB:=k.2},e⟩;obtain⟨q,a,s,r⟩:=h.ten;exact⟨q,a,k.1.trans s,r⟩
def aHx(a:List kB)(M:Nat):Prop:=∀i(h:i<cB a),a[i].N.size<=maxLen/\(∀j(b:j<cB a[i].M),a[i].M[j].s.size<=1000000000)/\(∀j(b:j<cB a[i].Z),a[i].Z[j].s.size<=1000000000)/\cB a[i].M<=500000000/\cB a[i].Z<=500000000/\cB a[i].Z<=M
def sZ(c:kC)(a:Int)(b:List kB)(M:Nat)(w:jA)(e:Ending)(d:jA):Prop:=
 (pC c a b=gA/\e=zA (bB #[xA eA,vA gA])/\zB w d)\/
 (pC c a b=iA/\∃l m,e=zA (bB #[.pointer (cC l),vA iA])/\w.1.size<=l/\jE d (w.1.size<=·) l m c a b M/\zB w d)
def fZ(c:kC)(r:Int)(a:nC)(H:Nat)(u:List kB)(M:Nat)(w:jA)(hf:uC w a u)(hfit:aHx u M)(hlen:cB u<=1000000000)(hU:iH w):
 lA prog 27 #[oE c,.agg #[qA sA r,uA a (cB u) H]] w λe y=>sZ c r u M w e y:=by
 have HC:fB _:=λW=>sT c W;have z:fB (pC c r u=(mH c&&dC r 0 1000000000000&&decide (cB u<=10000) &&wM c.w r u)):=rfl;have HF:fB (uC w a u):=hf;have HB:fB (aHx u M):=hfit;have HU:fB (iH w):=hU;have HWI:fB _:=λW=>zF r 1000000000000 W;have HCW:fB (mH c=iA->1<=c.w/\c.w<=1000000000):=λh=>by
  have:dC c.w 1 1000000000=iA:=by
   cases hb:dC c.w 1 1000000000 with
   |true=>rfl
   |false=>rw[mH,hb]at h;simp at h
  exact gL this
 clear hf hfit hU;unfold oE at *;go_enter func27,ntmps27;go_wp2_with fail;apply oC (HC.o _);intro v S;have U:fB _:=xB (xB aC aC) S;have C1:fB (rB v w.1.size #[qA sA c.w,qA sA c.tl,qA sA c.ml,qA sA c.sh,qA sA c.ha,qA sA c.sg] 24):=gB (((rB.new _ _ _).alloc _).z S);have S1:fB _:=gB (by have:=(rB.new (w.alloc (aB #[qA sA c.w,qA sA c.tl,qA sA c.ml,qA sA c.sh,qA sA c.ha,qA sA c.sg] 24)) #[qA sA r,uA a (cB u) H] 40).z S;simpa using this);have s0:v.cell? ⟨w.1.size+1,0,eA⟩=fA (qA sA r):=S1.o.cell 0;have s1:v.cell? ⟨w.1.size+1,1,eA⟩=fA (uA a (cB u) H):=S1.o.cell 1;have k0:v.cell? ⟨w.1.size,0,eA⟩=fA (qA sA c.w):=C1.o.cell 0;have k1:v.cell? ⟨w.1.size,1,eA⟩=fA (qA sA c.tl):=C1.o.cell 1;have k2:v.cell? ⟨w.1.size,2,eA⟩=fA (qA sA c.ml):=C1.o.cell 2;have k3:v.cell? ⟨w.1.size,3,eA⟩=fA (qA sA c.sh):=C1.o.cell 3;have k4:v.cell? ⟨w.1.size,4,eA⟩=fA (qA sA c.ha):=C1.o.cell 4;have k5:v.cell? ⟨w.1.size,5,eA⟩=fA (qA sA c.sg):=C1.o.cell 5;have hs1l:=eB S1.o;clear S HC;cases g0:mH c
 .rw[g0]at z;go_wp2;go_ret2;exact Ca ⟨by rw[z.o];simp,rfl,U.o⟩
 obtain⟨hw0,hw1⟩:=HCW.o g0;rw[g0]at z;clear g0 HCW;go_wp2_with fail;refine tD (HWI.o _) ?_;clear HWI;cases g1:dC r 0 1000000000000
 .rw[g1]at z;go_wp2;go_ret2;exact Ca ⟨by rw[z.o];simp,rfl,U.o⟩
 obtain⟨hn0,hn1⟩:=gL g1;rw[g1]at z;clear g1;by_cases g2:(10000:Int)<cB u
 .rw[show decide (cB u<=10000)=gA by simp;omega]at z;go_wp2;go_ret2;exact Ca ⟨by rw[z.o];simp,rfl,U.o⟩
 have Z:fB (pC c r u=wM c.w r u):=by show _=_;rw[z.o,show decide (cB u<=10000)=iA by simp;omega];simp
 clear z;have hmm:=@run_makeMap prog;go_upto_region 3 with fail;go_cut [6] (λs wx=>s=xA (fA ⟨v.1.size+1,0,eA⟩)/\wx=(v.alloc (.map #[] 0)).alloc (aB (fV c r v.1.size) 169))
 case first=>
  go_wp2;go_meet;exact⟨rfl,rfl⟩
 obtain⟨rfl,hwc⟩:=hcut;have L0:fB (jE wc (v.1.size<=·) (v.1.size+1) v.1.size c r (u.take 0) M):=by
  rw[hwc];refine⟨λ_=>eA,[],?_,rfl⟩;exact {
   blk:=by have:=rB.new (v.alloc (.map #[] 0)) (fV c r v.1.size) 169;simpa using this
   ten:=(jA.ownsMap_made v _ _ _).alloc _
   rise:=Gd
   idx:=λp L=>by cases L
   nd:=List.nodup_nil
   tl:=rfl
   tm:=rfl
   lB:=Gf _
   mB:=Ia _}
 have BC:fB (zB v wc):=by rw[hwc];exact xB aC aC
 have s2:=(BC.o.cell hs1l).trans s1;have HU1:fB (iH v):=HU.o.z U.o;have HF1:fB (uC v a u):=HF.o.z U.o;clear hwc hmm s0 s1 k0 k1 k2 k3 k4 k5 C1 HU HF;go_wp2;clear s2;go_loopw [7,8,33] (λ_ _ i wr=>∃k:Nat,k<=cB u/\i=qA sA k/\hI (eN c.w r u) k=iA/\jE wr (v.1.size<=·) (v.1.size+1) v.1.size c r (u.take k) M/\zB v wr) (λ_ _ i _=>cB u-(intOf i).toNat)
 case atStart=>exact⟨0,Oa _,rfl,rfl,L0.o,BC.o⟩
 case round=>
  obtain⟨k,hk,rfl,hok,hled,hbel⟩:=hrel;have HOK:fB _:=hok;have E:fB (jE wr (v.1.size<=·) (v.1.size+1) v.1.size c r (u.take k) M):=hled;have x:fB _:=hbel;clear hok hled hbel L0 BC;by_cases C:k<cB u
  .obtain ⟨b,o,N,P,O,Q,rfl,K,f,l,m,n,p1,p2⟩:=HF1.o.at C;obtain⟨n1,n2,n3,n4,n5,n6⟩:=HB.o k C;have HAT:fB (eN c.w r u k=(aO u k&&wO c.w r u[k])):=sV C;have HFAIL:fB (eN c.w r u k=gA->pC c r u=gA):=λh=>by rw[Z.o];exact fP h C
   have Y:fB (0<k->∃I:vB,aO u k=vJ I u[k].N/\v.cell? ⟨b,o+(k-1)*4,eA⟩=fA (tA I)):=λh0=>by
    refine⟨_,kV h0 C,?_⟩;obtain⟨b',o',_,_,_,_,e,_,u0,_⟩:=HF1.o.at (i:=k-1) (by omega)
    simp only[Qa,Addr.mk.injEq,Cc]at e;rw[e.1,e.2];exact u0
   have HPZ:fB (k=0->aO u k=iA):=λh0=>by subst h0;rfl
   have HTK:fB (aO u k=iA->iC (·.N) u[k] (u.take k)=u.take (k+1)/\eD (·.N) u[k].N (u.take k)=eA):=λh=>OG (key:=λt:kB=>t.N) C (by
    apply fT;intro j hj;simp only[Hb]at hj;by_cases e:j+1=k
    .subst e;rw[kV (by omega) C]at h;simpa using h
    have:=iO HOK.o (k:=j+1) (by omega);rw[sV (by omega),Sa]at this;have h1:=this.1;rw[kV (by omega) (by omega)]at h1;simpa using h1)
   have HTL:fB (cB (u.take k)<=1000000000):=by show _<=_;rw[Hb];omega
   have z0:=(x.o.cell K).trans f;have z1:=(x.o.cell K).trans l;have z2:=(x.o.cell K).trans m;have z3:=(x.o.cell K).trans n;generalize u[k]=T at *;have X:fB (∀W,jE W (v.1.size<=·) (v.1.size+1) v.1.size c r (u.take k) M->zB v W->aO u k=iA->lA prog 90 #[xA (fA ⟨v.1.size+1,0,eA⟩),.agg #[tA T.N,qA sA T.L,uA N (cB T.M) P,uA O (cB T.Z) Q]] W λe y=>e=zA (vA (wO c.w r T))/\(wO c.w r T=iA->jE y (v.1.size<=·) (v.1.size+1) v.1.size c r (u.take (k+1)) M)/\jB (·=v.1.size) W y):=λW hW hb L=>by
    refine(aBq (v.1.size+1) v.1.size T N O P Q c r (u.take k) M v W hW hb HU1.o p1 p2 (HTK.o L).2 n1 n2 n3 n4 n5 HTL.o n6 hn0 hn1 hw0 hw1).mono ?_;rintro e y ⟨h1,h2,h3⟩;rw[(HTK.o L).1]at h2;exact⟨h1,h2,h3⟩
   have hTBG:v.1.size+1<wr.1.size:=by obtain⟨_,_,hz,_⟩:=E.o;exact eB hz.blk
   go_upto_region 7 with fail;have G:fB (rB (wr.alloc (aB #[tA T.N,qA sA T.L,uA N (cB T.M) P,uA O (cB T.Z) Q] 105)) wr.1.size #[tA T.N,qA sA T.L,uA N (cB T.M) P,uA O (cB T.Z) Q] 105):=rB.new _ _ _;have A:fB (zB v (wr.alloc (aB #[tA T.N,qA sA T.L,uA N (cB T.M) P,uA O (cB T.Z) Q] 105))):=x.o.trans (aC.mono x.o.size);have HL2:fB (jE (wr.alloc (aB #[tA T.N,qA sA T.L,uA N (cB T.M) P,uA O (cB T.Z) Q] 105)) (v.1.size<=·) (v.1.size+1) v.1.size c r (u.take k) M):=E.o.z aC;generalize wr.alloc (aB #[tA T.N,qA sA T.L,uA N (cB T.M) P,uA O (cB T.Z) Q] 105)=W at *;generalize wr.1.size=J at *;have x0:W.cell? ⟨w.1.size+1,1,eA⟩=fA (uA (fA ⟨b,o,eA⟩) (cB u) H):=(A.o.cell hs1l).trans (S1.o.cell 1);have x1:W.cell? ⟨J,0,eA⟩=fA (tA T.N):=G.o.cell 0;have x2:W.cell? ⟨J,1,eA⟩=fA (qA sA T.L):=G.o.cell 1;have x3:W.cell? ⟨J,2,eA⟩=fA (uA N (cB T.M) P):=G.o.cell 2;have x4:W.cell? ⟨J,3,eA⟩=fA (uA O (cB T.Z) Q):=G.o.cell 3;have HPR2:fB (0<k->∃I:vB,aO u k=vJ I T.N/\W.cell? ⟨b,o+(k-1)*4,eA⟩=fA (tA I)):=λh0=>by
    obtain⟨I,e1,e2⟩:=Y.o h0;exact⟨I,e1,(A.o.cell K).trans e2⟩
   have V:fB _:=λL W' hW=>X.o W' (HL2.o.z hW) (A.o.trans (hW.mono A.o.size)) L;have F:=eB G.o;have hWs:=A.o.size;have HBT:fB _:=λy(hw:jB (·=v.1.size) W y)=>A.o.trans (hw.below hWs (λk hk=>by omega));clear z0 z1 z2 z3 f l m n p1 p2 Y X E x G wr;go_cut [57] (λs wx=>s=vA (!(eN c.w r u k))/\(eN c.w r u k=iA->jE wx (v.1.size<=·) (v.1.size+1) v.1.size c r (u.take (k+1)) M)/\zB v wx)
   case first=>
    by_cases h0:(0:Int)<k
    .have h0':0<k:=by omega
     obtain⟨I,L,cp⟩:=HPR2.o h0';obtain⟨j,hj⟩:∃j,j=k-1:=⟨_,rfl⟩
     rw[<-hj]at cp;have hi0:IntKind.i64.wrap ((k:Int)-1)=(j:Int):=by
      have:(k:Int)-1=(j:Int):=by omega
      rw[this];simp only[IntKind.wrap,IntKind.bits,IntKind.signed];simp;omega
     have hi1:(j:Int)<cB u:=by omega
     clear hj;by_cases hb:Op.bytesLess I.toList T.N.toList=iA
     .have D:aO u k=iA:=by rw[L];exact hb
      have HLD:=gB (V.o D);have HV:fB (eN c.w r u k=wO c.w r T):=by show _=_;rw[HAT.o,D,Oc]
      clear L D;have HKS:fB (∀y,jB (·=v.1.size) W y->y.cell? ⟨w.1.size+1,1,eA⟩=fA (uA (fA ⟨b,o,eA⟩) (cB u) H)/\y.cell? ⟨b,o+j*4,eA⟩=fA (tA I)/\y.cell? ⟨J,0,eA⟩=fA (tA T.N)/\y.cell? ⟨J,1,eA⟩=fA (qA sA T.L)/\y.cell? ⟨J,2,eA⟩=fA (uA N (cB T.M) P)/\y.cell? ⟨J,3,eA⟩=fA (uA O (cB T.Z) Q)):=λy hw=>by
       have hg:∀g,g<W.1.size->g≠v.1.size->∀q,y.cell? ⟨g,q,eA⟩=W.cell? ⟨g,q,eA⟩:=λg h1 h2 q=>jA.cell?_of_block (hw.block g h1 h2);exact⟨(hg _ (by omega) (by omega) _).trans x0,(hg _ (by omega) (by omega) _).trans cp,(hg _ F (by omega) _).trans x1,(hg _ F (by omega) _).trans x2,(hg _ F (by omega) _).trans x3,(hg _ F (by omega) _).trans x4⟩
      go_region_held3 (λy=>y.cell? ⟨w.1.size+1,1,eA⟩=fA (uA (fA ⟨b,o,eA⟩) (cB u) H)/\y.cell? ⟨b,o+j*4,eA⟩=fA (tA I)/\y.cell? ⟨J,0,eA⟩=fA (tA T.N)/\y.cell? ⟨J,1,eA⟩=fA (qA sA T.L)/\y.cell? ⟨J,2,eA⟩=fA (uA N (cB T.M) P)/\y.cell? ⟨J,3,eA⟩=fA (uA O (cB T.Z) Q))
       (first|go_keep|exact HKS.o _ hs8)
       (first|(go_at_call 90;refine oC (HLD.o _ (by repeat (first|with_reducible exact jD|exact jD.drew|with_reducible refine Below.drew ?_))) ?_;rintro w8 ⟨B,ht8⟩;have hs8:jB (·=v.1.size) W w8:=(jB.refl _ _).drew.trans' ht8))
      all_goals(go_wp2_with fail;go_meet)
      all_goals exact⟨by rw[HV.o],λh=>by rw[HV.o]at h;exact B h,HBT.o _ hs8⟩
     have hb':Op.bytesLess I.toList T.N.toList=gA:=by simpa using hb
     have HV:fB (eN c.w r u k=gA):=by show _=_;rw[HAT.o,L,vJ,hb'];rfl
     clear L hb;go_quiet (fail)
     go_wp2_with fail;go_meet;exact⟨by rw[HV.o];rfl,λh=>absurd h (by rw[HV.o];simp),below_drewN A.o _⟩
    have hd':decide (0<k)=gA:=by simp;omega
    have hnk:¬0<k:=by omega
    have D:=HPZ.o (by omega);have HLD:=gB (V.o D);have HV:fB (eN c.w r u k=wO c.w r T):=by show _=_;rw[HAT.o,D,Oc]
    clear D;refine uQ 17 (by kernel_rfl) (by kernel_rfl) ?_;simp only[Rg,List.take_zero,Sg,Kf];have hnel:Nonempty Unit:=⟨()⟩
    repeat (go_big_quiet_step (fail))
    refine wpQuiet_nil ?_;go_wp2_with(first|(go_at_call 90;apply oC (HLD.o _ jD.drew);rintro w8 ⟨B,ht8⟩));go_meet;exact⟨by rw[HV.o],λh=>by rw[HV.o]at h;exact B h,HBT.o _ ((jB.refl _ _).drew.trans' ht8)⟩
   obtain⟨rfl,B,hb8⟩:=hcut;rename jA=>w8;have HB8:fB _:=hb8;by_cases d:eN c.w r u k=gA
   .have HF4:fB _:=HFAIL.o d;rw[d];clear d B hb8;go_wp2;go_ret2;exact Ca ⟨HF4.o,rfl,xB U.o HB8.o⟩
   have R:eN c.w r u k=iA:=by simpa using d
   have HF4:fB (hI (eN c.w r u) (k+1)=iA):=by show _=_;rw[fL,HOK.o,R];rfl
   have HL8:fB (jE w8 (v.1.size<=·) (v.1.size+1) v.1.size c r (u.take (k+1)) M):=B R;rw[R];clear d R B hb8;go_wp2;exact⟨⟨k+1,by omega,by go_num,HF4.o,HL8.o,HB8.o⟩,by simp[intOf];omega⟩
  have ek:k=cB u:=by omega
  have HEND:fB (pC c r u=iA):=by show _=_;rw[Z.o];have:=HOK.o;rw[ek]at this;exact this
  have HLE:fB (jE wr (v.1.size<=·) (v.1.size+1) v.1.size c r u M):=by have:=E.o;rw[ek,Rb]at this;exact this
  have hz:=U.o.size;go_wp2;go_ret2;exact La ⟨HEND.o,_,_,rfl,by omega,HLE.o.re (λg _ hg=>⟨rfl,Ua hz hg⟩),xB U.o x.o⟩
end
section
open Go.Maps
def rQ{v:Value}{g:Nat}{ps:List MemPlace}(h:wE v=fA (nF g,ps)):v=.pointer (cC g):=by
 unfold wE at h;split at h
 .rename_i a;simp only[Qa,Dc,nF,DataW.lit.injEq,Lit.int.injEq,true_and]at h;have:=h.1;have:a=g:=by omega
  rw[this]
 .simp[nF]at h
 cases h
def KB{v:Value}{a:List MemPlace}(h:wE v=fA (DataW.nil,a)):v=xA eA:=by
 unfold wE at h;split at h;simp[nF]at h;rfl
 cases h
def aHi(w:jA):(zeroValue 174).run prog w=.ok (xA eA) w:=by kernel_rfl
def oe(L:List (kB×Nat))(a:vB)(w:jA)(e:Ending)(b:jA):Prop:=
 (∃p,eD (λp:kB×Nat=>p.1.N) a L=fA p/\e=zA (bB #[.pointer (cC p.2),vA iA])/\b=w)\/
 (eD (λp:kB×Nat=>p.1.N) a L=eA/\∃x,e=zA (bB #[.pointer (cC x),vA gA])/\w.1.size<=x/\yD b (λg=>w.1.size<=g) x ⟨a,-1,[],[]⟩ 0/\zB w b)
def NW(l m:Nat)(a:vB)(c:kC)(j:Int)(B:Nat->Prop)(T:Nat->Option Nat)(L:List (kB×Nat))(M:Nat)(w:jA)(h:xK w B T l m c j L M)(q:a.size<=maxLen):
 lA prog 183 #[.pointer (cC l),tA a] w λe s=>oe L a w e s:=by
 have y:gD w l 7 (.map (fA m)):=h.blk.cell 7;obtain⟨v,t,b,f⟩:=h.ten.look_ok pL underlying167 (aHi w) (zd:=.nil) (zp:=[]) rfl (zM q);rw[XH,lS (key:=λp:kB×Nat=>p.1.N) (λp=>nF p.2)]at *;clear h;cases hg:eD (λp:kB×Nat=>p.1.N) a L with
 |some p=>
  rw[hg]at b f;have d:=rQ f;subst d;have i:fB _:=hg;clear hg f;simp only[Wf]at b;go_enter func183,ntmps183;go_wp2;go_ret2;exact Ca ⟨p,i.o,rfl,rfl⟩
 |none=>
  rw[hg]at b f;have d:=KB f;subst d;have i:fB _:=hg;clear hg f;simp only[Xf]at b;have g:fB _:=λW=>EW (-1) a W;go_enter func183,ntmps183;go_wp2_with fail;refine(g.o _).mono ?_;rintro e u ⟨x,rfl,r,k,o⟩;have n:=gB k;clear k g;go_wp2;go_ret2;exact La ⟨i.o,x,rfl,r,n.o,o⟩
def JW(l m x:Nat)(c:kC)(a:Int)(t:kB)(S:Nat->Prop)(M:Nat)(w:jA)(d:rB w l (fV c a m) 169)(h:yD w S x t M):
 bM 241 #[.pointer (cC l),.pointer (cC x)] w (dB (if t.L = -1 then c.tl else t.L)):=by
 obtain⟨o,p,j,n,Q,k,D,h⟩:=h;have g:gD w x 0 (dB t.L):=h.blk.cell 0;have i:gD w l 1 (dB c.tl):=d.cell 1;clear h d;by_cases b:t.L = -1
 .rw[Ma b];go_enter func241,ntmps241;go_wp2;go_ret;exact⟨rfl,rfl⟩
 rw[Ja b];go_enter func241,ntmps241;go_wp2;go_ret;exact⟨rfl,rfl⟩
def aBs{w:jA}{e:Nat}{c:List pB}(h:w.ownsMap prog 9 (plainElem prog 3) e (cB c) (fE (c.map λp=>(p.s,vI p.n)))){m:vB}(f:m.size<=maxLen):
 ∃v:Int,(Instr.lookup 227 (.map (fA e)) (tA m) iA).run prog w=.ok (bB #[dB v,vA (eD (·.s) m c).isSome]) w/\∀p,eD (·.s) m c=fA p->v=p.n:=by
 obtain⟨v,j,b,i⟩:=h.look_ok pL underlying227 (MA w) (zd:=vI 0) (zp:=[]) (plainElem_int underlying3 (by decide)) (zM f);rw[XH (key:=λp:pB=>p.s) (val:=λp=>vI p.n)]at b;obtain⟨a,rfl,d,_⟩:=plainElem_int_inv underlying3 i;refine⟨a,b,λp g=>?_⟩;rw[lS (key:=λp:pB=>p.s) (λp=>vI p.n),g]at d;simp[vI]at d;exact d.1.symm
def vT(l m x:Nat)(c:kC)(g:Int)(t:kB)(S:Nat->Prop)(M:Nat)(met:vB)(w:jA)(i:rB w l (fV c g m) 169)(h:yD w S x t M)(j:met.size<=maxLen):
 bM 242 #[.pointer (cC l),.pointer (cC x),tA met] w (dB (zG t.M met c.ml)):=by
 obtain⟨k,z,r,y,Q,u,D,h⟩:=h;have o:gD w x 1 (.map (fA k)):=h.blk.cell 1;have q:gD w l 2 (dB c.ml):=i.cell 2;obtain⟨v,a,d⟩:=aBs h.lims j;have b:fB _:=UE h.rm met c.ml;clear h i;cases hg:eD (λp:pB=>p.s) met t.M with
 |some p=>
  rw[hg]at a b;have f:=d p hg;subst f;simp only[Wf]at a;clear d hg;go_enter func242,ntmps242;go_wp2;go_ret;exact⟨vF (by rw[b.o];rfl),rfl⟩
 |none=>
  rw[hg]at a b;simp only[Xf]at a;clear d hg;go_enter func242,ntmps242;go_wp2;go_ret;exact⟨vF (by rw[b.o];rfl),rfl⟩
end
section
open Go.Maps
def ZM{L:List (kB×Nat)}{a:List kB}(e:L.map (·.1)=a)(k:vB):eD (·.N) k a=(eD (λp:kB×Nat=>p.1.N) k L).map (·.1):=by grind [eD,bV]
def VU(c:kC)(d:Int)(h:List kB)(l m:Nat)(a:vB)(w:jA)(e:Ending)(f:jA):Prop:=
 ∃x b S g,e=zA (bB #[.pointer (cC x),vA b])/\yD f S x (eC h a) g/\rB f l (fV c d m) 169/\zB w f
def bp(l m:Nat)(a:vB)(c:kC)(b:Int)(B:Nat->Prop)(f:List kB)(M:Nat)(w:jA)(h:jE w B l m c b f M)(n:a.size<=maxLen):
 lA prog 183 #[.pointer (cC l),tA a] w λe o=>VU c b f l m a w e o:=by
 obtain⟨T,L,h,e⟩:=h;refine(NW l m a c b B T L M w h n).mono ?_;rintro q s (⟨p,d,rfl,rfl⟩|⟨d,x,rfl,r,k,j⟩)
 .have i:eC f a=p.1:=by rw[eC,ZM e,d];rfl
  refine⟨p.2,iA,(λg=>B g/\T g=fA p.2),M,rfl,?_,h.blk,jD⟩;rw[i];exact h.idx p (eM d).1
 have i:eC f a=⟨a,-1,[],[]⟩:=by rw[eC,ZM e,d];rfl
 refine⟨x,gA,(λg=>w.1.size<=g),0,rfl,?_,h.blk.z j,j⟩;rw[i];exact k
def OW{w:jA}{c M:Nat}{D:DataW Unit}{m:vB}{n:Nat}(h:w.ownsMap prog 9 (plainElem prog 3) c M D)(d:D.atKey (kL m) (vI 0)=vI n)(e:m.size<=maxLen):
 (Instr.lookup 227 (.map (fA c)) (tA m) gA).run prog w=.ok (dB n) w:=by
 obtain⟨v,a,b,_⟩:=h.lookup_int pL underlying227 underlying3 (MA _) (zM e);rw[a];have:(vI v:DataW Unit)=vI n:=b.symm.trans d;simp[vI]at this;rw[this]
end
section
open Go.Maps
def wS(s:vB)(w:jA)(j:s.size<=1000000000)(d:iH w):gF 181 #[tA s] w (vA (s.toList.isEmpty||dF s)):=by
 have h:fB (gF 227 #[tA s] w (vA (dF s))):=dV s w j d;clear d;by_cases b:s.toList.isEmpty=iA
 .have a:fB ((s.toList.isEmpty||dF s)=iA):=by show _=_;rw[b];rfl
  go_enter func181,ntmps181;go_wp2;go_ret;exact⟨tB (by rw[a.o]),jD⟩
 have i:s.toList.isEmpty=gA:=by simpa using b
 have a:fB ((s.toList.isEmpty||dF s)=dF s):=by show _=_;rw[i];rfl
 clear b;go_enter func181,ntmps181;go_wp2_with fail;apply oC h.o;intro k f;have g:=gB f;clear f;go_wp2;go_ret;exact⟨tB (by rw[a.o]),g.o⟩
def aJg{c:kC}{a:Int}{b:List kB}(h:pC c a b=iA)(k:vB): -1<=(eC b k).L:=by
 have j:wM c.w a b=iA:=by
  rw[pC,Sa]at h;exact h.2
 unfold eC;cases hg:eD (·.N) k b with
 |none=>exact Xd _
 |some t=>
  obtain⟨i,f,e⟩:=Ib (eM hg).1;have d:=iO j f;rw[eN,Va f,e]at d;have g:dC t.L (-1) 1000000=iA:=by
   cases hb:dC t.L (-1) 1000000 with
   |true=>rfl
   |false=>simp[wO,hb]at d
  exact(gL g).1
end
section
open Go.Maps
def jB.mapped{w a:jA}{b:Nat}(h:w.mapTurned a b):jB (·=b) w a:=(jB.grown h.grown).mono λi _ e=>by simp only[Qa]at e;exact e.symm
def kR.newLimit{w j:jA}{S:Nat->Prop}{x:Nat}{t:kB}{M f i c:Nat}{d:Value}{Q:List (pB×Nat)}{l:List rI}{D:DataW Unit}{a:Int}(h:kR w S x t M f i c d Q l D)(b:jB (·=x) w j)
(m:rB j x #[dB a,.map (fA f),.map (fA i),.map (fA c),d] 233):yD j S x ⟨t.N,a,t.M,t.Z⟩ M:=by
 refine⟨f,i,c,d,Q,l,D,?_⟩;exact { h with
  blk:=m
  lims:=b.map h.lims (fD h.lims h.blk)
  Z:=b.map h.Z (fD h.Z h.blk)
  cnts:=b.map h.cnts (fD h.cnts h.blk)
  cells:=λq k=>b.blk (h.cells q k) (h.dx q k)
  row:=b.row h.row (λg n e=>(h.di g n).1 e) }
def aDt(x:Nat)(c:vB)(b:Int)(t:kB)(S:Nat->Prop)(M:Nat)(w:jA)(h:yD w S x t M)(J:c.size<=maxLen)(H : -1<=b)(I:b<=1000000)(A:cB t.M<=1000000000):
 lA prog 289 #[.pointer (cC x),tA c,dB b] w λe C=>e=zA (bB #[])/\yD C S x (xH t c b) M/\jB S w C:=by
 obtain⟨v,L,E,K,Q,P,D,h⟩:=h;by_cases l:c.toList.isEmpty=iA
 .have k:fB (xH t c b=⟨t.N,b,t.M,t.Z⟩):=by show _=_;unfold xH;rw[Ma l]
  have N:gD w x 0 (dB t.L):=h.blk.cell 0;have a:=h.blk.free 0;have g:jB (·=x) w (w.setCell (iB x 0) (dB b)):=(jB.refl (·=x) w).setCell (Ca rfl) 0 _;have z:rB (w.setCell (iB x 0) (dB b)) x #[dB b,.map (fA v),.map (fA L),.map (fA E),K] 233:=by have:=h.blk.set 0 (dB b);simpa using this
  have m:fB (yD (w.setCell (iB x 0) (dB b)) S x (xH t c b) M):=by
   refine gB ?_;rw[k.o];exact h.newLimit g z
  have o:fB (jB S w (w.setCell (iB x 0) (dB b))):=g.mono λi _ e=>by subst e;exact h.sx
  clear h g z k;go_enter func289,ntmps289;go_wp2;go_end0;exact⟨rfl,m.o,o.o⟩
 have F:c.toList.isEmpty=gA:=by simpa using l
 have O:gD w x 1 (.map (fA v)):=h.blk.cell 1;have y:fB _:=zM J;by_cases G:b = -1
 .have k:fB (xH t c b={ t with M:=yE (·.s) c t.M}):=by show _=_;unfold xH;rw[Ja l,Ma (by omega)]
  have u:=gB h;clear l h;subst G;go_enter func289,ntmps289;go_wp2_with(at_delete;refine wpList_delete_own _ rfl _ _ 227 9 rfl 3 pL underlying227 (plainElem prog 3) v _ _ rfl u.o.lims _ _ rfl y.o ?_;intro r f d);have g:=jB.mapped d;have m:fB (yD r S x (xH t c (-1)) M):=by
   refine gB ?_;rw[k.o];exact u.o.newLims g f (WS (key:=λp:pB=>p.s) (λp=>vI p.n) c t.M) (gP u.o.rm)
  have o:fB (jB S w r):=g.mono λi _ e=>by subst e;exact u.o.sl
  clear f d g;go_end0;exact⟨rfl,m.o,o.o⟩
 have k:fB (xH t c b={ t with M:=iC (·.s) ⟨c,b⟩ t.M}):=by show _=_;unfold xH;rw[Ja l,Ja (by omega)]
 obtain⟨r,B,j,q⟩:=h.lims.store pL underlying227 (by unfold maxLen;omega) (val:=dB b) y.o (plainElem_int underlying3 (WalkArith.wf_i64 (by omega)));have g:=jB.mapped q;have m:fB (yD r S x (xH t c b) M):=by
  refine gB ?_;rw[k.o];exact h.newLims g j (IE (key:=λp:pB=>p.s) (λp=>vI p.n) ⟨c,b⟩ h.rm) (bK h.rm)
 have o:fB (jB S w r):=g.mono λi _ e=>by subst e;exact h.sl
 clear h j q g k l;go_enter func289,ntmps289;go_wp2;go_end0;exact⟨rfl,m.o,o.o⟩
def OC(l m:Nat)(c:kC)(b:Int)(B:Nat->Prop)(T:Nat->Option Nat)(L:List (kB×Nat))(M:Nat)(w:jA)(h:xK w B T l m c b L M):
 bM 282 #[.pointer (cC l)] w (vA (decide (10000<=cB L))):=by
 have j:gD w l 7 (.map (fA m)):=h.blk.cell 7;have g:=h.ten.len underlying167 3;rw[pM]at g;clear h;by_cases d:10000<=cB L
 .have a:fB (decide (10000<=cB L)=iA):=by show _=_;simpa using d
  generalize cB L=z at *;have f:¬((z:Int)<10000):=by omega
  go_enter func282,ntmps282;go_wp2;go_ret;exact⟨tB (by first|(rw[a.o];simp;omega)|(simp;omega)|simp),rfl⟩
 have a:fB (decide (10000<=cB L)=gA):=by show _=_;simpa using d
 generalize cB L=z at *;have f:(z:Int)<10000:=by omega
 go_enter func282,ntmps282;go_wp2;go_ret;exact⟨tB (by first|(rw[a.o];simp;omega)|(simp;omega)|simp),rfl⟩
def cS{α β:Type}{f:α->β}{l:List α}(h:(l.map f).Nodup){p q:α}(a:p∈l)(b:q∈l)(e:f p=f q):p=q:=by induction l<;>grind
def pn{w y v:jA}{B:Nat->Prop}{T:Nat->Option Nat}{l m n:Nat}{c:kC}{t:Int}{L:List (kB×Nat)}{M M':Nat}{p:kB×Nat}{t':kB}(h:xK w B T l m c t L M)(F:∀g,w.1.size<=g->B g)(C:p∈L)(A:t'.N=p.1.N)
(b:jB (λg=>B g/\T g=fA p.2) w y)(H:yD y (λg=>(B g/\T g=fA p.2)\/w.1.size<=g) p.2 t' M')(G:M<=M')(d:jB (·=m) y v)
(u:v.ownsMap prog 9 wE m n (DataW.put (fE (L.map λp=>(p.1.N,nF p.2))) (kL t'.N) (nF p.2))):
 jE v B l m c t ((iC (λp:kB×Nat=>p.1.N) (t',p.2) L).map (·.1)) M':=by
 have z:=eB h.blk;have I:=h.ten.lt;have J:=b.size;have s:DataW.put (fE (L.map λp=>(p.1.N,nF p.2))) (kL t'.N) (nF p.2)=fE ((iC (λp:kB×Nat=>p.1.N) (t',p.2) L).map λp=>(p.1.N,nF p.2)):=
  IE (key:=λp:kB×Nat=>p.1.N) (λp=>nF p.2) (t',p.2) h.rise
 have x:∀q∈L,q.1.N≠t'.N->q.2≠p.2:=λq o j e=>by
  have:=cS h.nd o C e;rw[this,A]at j;exact j rfl
 have i:∀g,g<w.1.size->¬(B g/\T g=fA p.2)->g≠m->v.heap[g]?=w.heap[g]?:=λg k D E=>by
  rw[d.block g (by omega) E,b.block g k D]
 refine⟨λg=>if g<w.1.size then T g else fA p.2,_,?_,rfl⟩;exact {
  blk:=(i l z (λe=>by rw[h.tl]at e;cases e.2) h.lm.symm).trans h.blk
  ten:=by
   have:=QJ u;rw[s,pM]at this;exact this
  rise:=bK h.rise
  idx:=λq o=>by
   rcases XX h.rise o with rfl|⟨o,j⟩
   .refine H.keep λg k f=>⟨d.block g k (λe=>?_),?_,?_⟩
    .subst e;obtain f|f:=f
     .rw[h.tm]at f;cases f.2
     omega
    .exact f.elim And.left (F g)
    show (if g<w.1.size then T g else fA p.2)=fA p.2;by_cases r:g<w.1.size
    .rw[Ma r];obtain f|f:=f
     .exact f.2
     omega
    rw[Ja r]
   refine ((h.idx q o).mono G).keep λg k f=>⟨i g k (λe=>?_) (λe=>by rw[e,h.tm]at f;cases f.2),f.1,?_⟩
   .have:=x q o j;rw[e.2]at f;exact this (Lc f.2).symm
   show (if g<w.1.size then T g else fA p.2)=_;rw[Ma k];exact f.2
  nd:=by
   rw[EP (key:=λp:kB×Nat=>p.1.N) (a:=(t',p.2)) (·.2) h.rise C A.symm rfl];exact h.nd
  tl:=by show(if l<w.1.size then T l else _)=eA;rw[Ma z];exact h.tl
  tm:=by show(if m<w.1.size then T m else _)=eA;rw[Ma I];exact h.tm
  lB:=h.lB
  mB:=h.mB}
def pm{w y s:jA}{B:Nat->Prop}{T:Nat->Option Nat}{l m n:Nat}{c:kC}{i:Int}{L:List (kB×Nat)}{M:Nat}{k:vB}{S:Nat->Prop}(h:xK w B T l m c i L M)(C:∀g,S g->∀q∈L,q.1.N≠k->T g≠fA q.2)(t:∀g,g<w.1.size->S g->T g≠eA)
(a:jB S w y)(b:jB (·=m) y s)(j:s.ownsMap prog 9 wE m n (DataW.del (fE (L.map λp=>(p.1.N,nF p.2))) (kL k))):
 jE s B l m c i ((yE (λp:kB×Nat=>p.1.N) k L).map (·.1)) M:=by
 have x:=eB h.blk;have D:=a.size;have f:DataW.del (fE (L.map λp=>(p.1.N,nF p.2))) (kL k)=fE ((yE (λp:kB×Nat=>p.1.N) k L).map λp=>(p.1.N,nF p.2)):=
  WS (key:=λp:kB×Nat=>p.1.N) (λp=>nF p.2) k L
 have d:∀g,g<w.1.size->¬S g->g≠m->s.heap[g]?=w.heap[g]?:=λg u z A=>by
  rw[b.block g (by omega) A,a.block g u z]
 refine⟨T,_,?_,rfl⟩;exact {
  blk:=(d l x (λe=>t l x e h.tl) h.lm.symm).trans h.blk
  ten:=by
   have:=QJ j;rw[f,pM]at this;exact this
  rise:=gP h.rise
  idx:=λq o=>by
   obtain⟨o,v⟩:=aS.1 o;exact(h.idx q o).keep λg u r=>⟨d g u (λe=>C g e q o v r.2) (λe=>by rw[e,h.tm]at r;cases r.2),r⟩
  nd:=h.nd.sublist (List.Sublist.map _ Pf)
  tl:=h.tl
  tm:=h.tm
  lB:=h.lB
  mB:=h.mB}
def lg{L:List (kB×Nat)}{k:vB}:eD (·.N) k (L.map (·.1))=(eD (λp:kB×Nat=>p.1.N) k L).map (·.1):=ZM rfl k
end
