import Derived.Test.YtbfnhppoecdnoaaGreatDoorJ45
import Derived.Test.YtbfnhppoecdnoaaGreatDoorJ43
import Derived.Test.YtbfnhppoecdnoaaGreatDoorJ44
set_option maxRecDepth 100000
set_option maxHeartbeats 8000000
set_option linter.defProp false
open Bool renaming true->dA,false->cA
open ByteArray renaming empty->kA
open Option renaming some->bA,none->aA
open List renaming length->vA
namespace Go.Proofs.YtbfnhppoecdnoaaGreatDoor
open Go renaming World->eA,Value->iA
open Ending renaming returned->sA
open Value renaming string->nA,agg->rA,slice->oA,bool->pA,int->lA
open IntKind renaming i64->mA
open Obj renaming cells->tA
open Go.RowKit Tryz
def aGz(r:Rd)(k:Nat):∀x∈(dG r k).1,GA x.bits:=by
 induction k with
 |zero=>intro x h;cases h
 |succ k a=>
  intro x h;rw[sW]at h;rcases Ee.1 h with h|h;exact a x h;rw[Uf.1 h];exact CM _
def aEb(s:gB):∀x∈(aG s).1.P,GA x.bits:=by
 unfold aG;split
 .show ∀x∈(qR s).1,_;unfold qR;split
  .exact aGz _ _
  intro x h;cases h
 intro x h;cases h
def aSv{r:xG}(a:r.K=1)(h:(dW r).size<=60000):(sE r.P).size<=60000:=by grind [dW,sE]
def aBq{M:oC}{x:Int}{a:gB}:uN M x a=if oS M x=0 then a else pB 1 (oS M x):=by
 unfold uN oS;repeat' split
 all_goals first|rfl|simp_all
theorem aKs{M:oC}{x:Int}:uN M x (pB 1 0)=pB 1 (oS M x):=by
 rw[aBq];split<;>simp_all
theorem aSc{c:lC}{N:oC}{a:List vE}(d:kC c N.now N.ts=dA)(b:N.deg=cA)(e:N.up=dA)(h:(eG c N.now N.ts a).2.2=cA):pF c N a=(N,62):=by grind [kC,eG,pF,upB,cI]
theorem aCz{c:lC}{a:Int}{b:List aB}{x:vE}(d:kC c a b=dA):(eG c a b [x]).2.2=(zE c a b x).2.2:=by
 unfold eG;simp[d,sH];split<;>simp_all
def aIh{c:lC}{N:oC}{r:xG}{x:vE}(b:kC c N.now N.ts=dA)(a:N.deg=cA)(d:N.up=dA)(e:r.K=2/\x=⟨2,kA,kA,r.U⟩\/r.K=3/\tC r.T=dA/\x=⟨3,r.T,r.R,r.U⟩):dK c N r=((pF c N [x]).1,pB 1 (oS (pF c N [x]).1 (pF c N [x]).2)):=by grind [kC,tC,dK,pF,pB,oS,zE,aSc,aCz,uf,aKs,aCf]
def aTp{c:lC}{N:oC}{r:xG}(a:N.deg=cA)(b:r.K=4):dK c N r=((GN c N).1,pB 1 (oS (GN c N).1 (GN c N).2)):=by
 unfold dK;simp[a,b,aKs]
def aTq{c:lC}{N:oC}{r:xG}(d:kC c N.now N.ts=dA)(a:r.K=5)(e:tC r.T=dA)(b:0<=(kE c (bC N.ts r.T) r.R).1):dK c N r=if (r.R.toList.isEmpty||yE r.R)=dA then(N,pB 1 0++pB 8 (kE c (bC N.ts r.T) r.R).1++pB 8 (kE c (bC N.ts r.T) r.R).2) else(N,pB 1 2):=by grind [kC,tC,kE,bC,dK,yE,pB,fH]
def aTr{c:lC}{N:oC}{r:xG}(a:r.K=6)(b:tC r.T=dA):dK c N r=(N,pB 1 0++pB 8 N.now++pB 4 (vA (bC N.ts r.T).Z:Nat)++qG (bC N.ts r.T).Z):=by
 unfold dK;simp[a,b]
def aTo{c:lC}{N:oC}{r:xG}(a:N.deg=cA)(b:r.K=1)(d:tC r.T=dA):dK c N r=if (vM c N.now r.T N.ts r.P).2.2=[] then(N,pB 1 0++pB 2 (vA r.P:Nat)++(vM c N.now r.T N.ts r.P).2.1)
 else((pF c N (vM c N.now r.T N.ts r.P).2.2).1,if oS (pF c N (vM c N.now r.T N.ts r.P).2.2).1 (pF c N (vM c N.now r.T N.ts r.P).2.2).2=0 then pB 1 0++pB 2 (vA r.P:Nat)++(vM c N.now r.T N.ts r.P).2.1 else pB 1 (oS (pF c N (vM c N.now r.T N.ts r.P).2.2).1 (pF c N (vM c N.now r.T N.ts r.P).2.2).2)):=by
 unfold dK;simp[a,b,d,aBq]
section
open Go.Maps
structure oV(Lo:Nat)(w0 w:World)(D:Nat)(r:xG)(sa:iC)(sc:Nat)(c:lC)(a:iC)(ca:Nat)(b:iC)(cb:Nat)(N:oC)(l m M:Nat)(B A:Nat→Prop):Prop where
 dsk:iB w D (OK r sa sc c a ca b cb N l) 98
 led:nE w B l m c N.now N.ts M
 new:∀g,w.1.size≤g→B g
 off:¬B D
 old:∀g,B g∨g=D→w0.1.size≤g
 node:iI w A a b N
 apart:∀g,A g→(¬B g∧g≠D)∧Lo≤g∧g<w.1.size
 lo:Lo≤w0.1.size
 base:kB w0 w
 utab:vH w0
 pow:oL w0
 fit:CO N.d.fs
 bulk:vA N.ts+nB N.ts≤1048576
 rng:jz N.ts
 lsn:nU N.lsn
 now:nU N.now
 st:kC c N.now N.ts=dA
 req:nS r∧(dW r).size≤60000∧GA r.U
 bit:∀x∈r.P,GA x.bits
 smp:∀W,bB (fun g=>B g∨g=D) w W→jI W sa r.P
 hM:1≤M∧M≤900000000
def GF(V:oC×gB)(D:Nat)(r:xG)(sa:iC)(sc:Nat)(c:lC)(l Lo:Nat)(w0:eA)(e:Ending)(d:eA):Prop:=
 ∃a ca b cb,e=sA (nA V.2)/\iB d D (OK r sa sc c a ca b cb V.1 l) 98/\iI d (fun x=>Lo<=x/\x<d.1.size) a b V.1/\kB w0 d
section
variable {w0 w W:eA} {D Lo:Nat} {r:xG} {sa:iC} {sc:Nat} {c:lC} {a:iC} {ca:Nat} {b:iC} {cb:Nat} {N:oC} {l m M:Nat} {B A:Nat→Prop}
theorem oV.same(h:oV Lo w0 w D r sa sc c a ca b cb N l m M B A)(d:bB B w W){s:gB}:GF (N,s) D r sa sc c l Lo w0 (sA (nA s)) W:=
 ⟨a,ca,b,cb,rfl,d.blk h.dsk h.off,(h.node.turned d fun g f _=>(h.apart g f).1.1).mono fun g f=>⟨(h.apart g f).2.1,Bb (h.apart g f).2.2 d.size⟩,h.base.trans (d.below h.base.size fun k i e=>by have:=h.old k (Ca e);omega)⟩
end
end
section
open Go.Maps
attribute [local go_sem] zG tH cO iB.drewI fO.drewI fO.new fO.alloc fO.alloc2
def ny(c:lC)(a b:iC)(n m:Nat)(N:oC)(Z:iC)(capr:Nat)(o:List vE)(w:eA)(h:aNb w a b N Z o)(d:vH w)(Q:oL w):
 Calls prog 177 #[oF c,rA (dC a n b m N),oA Z (vA o) capr] w fun e t=>jw (pF c N o) w e t:=by
 have g:=h.bulk;have z:=yA (fun W=>AH c W);have G:xA (∀W,kB w W->Calls prog 33 #[rA (dC a n b m N)] W fun e t=>∃a n b m,e=sA (rA (dC a n b m N))/\iI t (fun x=>W.1.size<=x/\x<t.1.size) a b N/\kB W t):=fun W s=>oX a b n m N W (h.files.z s) h.fit.len (h.tens.z s) (by omega) (tP (by omega));have D:xA (∀W a n b m,qD 179 #[rA (dC a n b m N)] W (pA (upB N))):=fun W a n b m=>sZ a b n m N W;have v:=yA (fun W b m(s:kB w W)(k:nC W b N.ts)=>WH c N.now b m N.ts Z capr o W k (h.recs.z s) (by omega) g (d.z s));have l:=yA (fun W=>mF N.lsn 999999999999999 W);have B:=yA (fun W(s:kB w W)=>nr (N.lsn+1) Z capr o W (h.recs.z s) (kt (by omega)) (by omega));have y:=yA (fun W a n(s:kB w W)(I:eB W a N.d.fs)=>np a n N.d N.l (dR (N.lsn+1) o) c.sg W (Q.z s) I h.fit (aBd (by omega)));have Z:xA (∀W a n b m Y r K L,qD 183 #[rA (dC a n b m N),rA #[oA Y (vA K.fs) r,lA mA K.c,lA mA K.k,lA mA K.cr,lA mA K.fl,pA K.dn],rA #[lA mA L.first,lA mA L.last,lA mA L.size]] W (rA (dC Y r b m ⟨K,L,N.now,N.ts,N.lsn,dA,!K.dn⟩))):=fun W a n b m Y r K L=>RY a b Y n m r N K L W;have I:=yA (fun h=>aQv (c:=c) (N:=N) (rs:=o) h);have q:=yA (fun h=>aQx (c:=c) (N:=N) (rs:=o) h);have J:=yA (aQw (N:=N) (R:=rE N.d N.l (dR (N.lsn+1) o) c.sg) (S:=eG c N.now N.ts o));clear h d Q g;unfold tU at v;unfold oF at *;generalize pF c N o=V at *;generalize eG c N.now N.ts o=A at *;generalize dR (N.lsn+1) o=d at *;generalize rE N.d N.l d c.sg=R at *;obtain⟨Y,f,d⟩:=A;obtain⟨K,L,x⟩:=R;have fz:=jP;dsimp only at v y q J;go_enter func177,ntmps177;go_wp2_with fail;apply aC (z.o _);intro w1 g;have P:=yA ((NP.new (w:=w) (c:=c) (cs:=dC a n b m N)).z g);clear g z;have i:=P.o.cells rfl;cases hc:pH c with
 |false=>
  have E:=yA (I.o hc);go_wp2;exact bO (H:=0) (ca:=0) (cb:=0) rfl rfl rfl rfl P.o E.o ⟨⟨fun _=>False,fun _=>False,Ca rfl,Ca rfl,fun _ h=>h.elim,fun _ h=>h.elim,fun _ h=>h.elim⟩⟩ (Oa _)
 |true=>
  replace q:=yA (q.o hc);have o:=tF a n b m N 43;have O:=iF a n b m N;go_wp2_with fail;refine(G.o _ P.o.B).mono ?_;rintro e w2 ⟨a2,c2,m,U,rfl,j,g⟩;have d:=P.o.lt;replace P:=yA (P.o.z g);replace j:=yA j;clear g o O G I hc i;have i:=P.o.cells rfl;go_upto_region 4 with fail;refine nZ (C:=fun W=>Code.wp prog _ _ _ W) P.o.N ?_;intro d G d;replace P:=yA (P.o.put G d);replace j:=yA ((j.o.turned d (fun x u _ e=>by omega)).mono (A':=fun x=>w.1.size+1+1<x/\x<w2.1.size) (fun x u=>by omega));have p:=d.size;clear G d i;have i:=P.o.cells rfl;have o:=tF a2 c2 m U N 43;have O:=iF a2 c2 m U N;go_wp2_with fail;apply aC (D.o _ _ _ _ _);intro w4 g;replace P:=yA (P.o.z g);replace j:=yA (j.o.z g);replace p:=Ua p g.size;clear g D i;have i:=P.o.cells rfl;rcases q.o with⟨d,E⟩|⟨d,⟨rfl,E⟩|⟨rfl,⟨G,E⟩|⟨G,⟨rfl,E⟩|⟨m,E⟩⟩⟩⟩
  rotate_left 4;rcases J.o with⟨O,m,o,I,U⟩|⟨O,O,⟨m|⟨m,o|⟨o,I⟩⟩,U⟩|⟨m,o,I,U⟩⟩
  all_goals(try replace E:=E.trans U)
  all_goals
   replace E:=yA E;rw[d];clear J q d;(try clear U);(try (have d:=uz G;obtain⟨m,m⟩:=d));go_wp2_with(first
    |(go_at_call 213;refine(v.o _ _ _ P.o.B j.o.tens).mono ?_;rintro e d ⟨m,o,rfl,O,g⟩;have J:=yA (O.toA (Ia _));have G:=P.o.lt;replace P:=yA (P.o.z g);replace j:=yA (j.o.z g);replace p:=Ua p g.size;have G:=zA P.o.R;clear O g i;have i:=P.o.cells rfl)
    |(go_at_call 77;apply aC (l.o _);rintro l rfl)
    |(go_at_call 214;apply aC (B.o _ (P.o.z vB).B);intro l g;have M:=(iB.new d _ _).z g;replace g:=oB vB g;replace P:=yA (P.o.z g);replace j:=yA (j.o.z g);replace p:=Ua p g.size;replace J:=yA (J.o.z g);have d:=g.size;clear g i;have i:=P.o.cells rfl)
    |(go_at_call 215;refine(y.o _ _ _ P.o.B j.o.files).mono ?_;rintro e d ⟨l,B,rfl,O,g⟩;have X:=yA (O.toA (Ia _));have G:=p;replace P:=yA (P.o.z g);replace j:=yA (j.o.z g);replace p:=Ua p g.size;replace J:=yA (J.o.z g);have G:=g.size;replace M:=M.z g;obtain⟨G,I⟩:=M.c2;have U:=zA M;have W:=Nat.ne_of_lt U;have U:=iF l B m o ⟨K,L,Y,f,N.lsn+1,cA,dA⟩;dsimp only at U;clear fz O g M i;have i:=P.o.cells rfl)
    |(go_at_call 183;apply aC (Z.o _ _ _ _ _ _ _ _ _);intro l g;replace g:=oB (oB vB vB) g;replace P:=yA (P.o.z g);replace j:=yA (j.o.z g);replace p:=Ua p g.size;replace X:=yA (X.o.z g);have l:=g.size;clear g G I i;have i:=P.o.cells rfl))
  .exact bO (H:=d.1.size) rfl rfl rfl rfl ((P.o.z vB).z vB) E.o ⟨⟨_,_,(X.o.z vB).z vB,(J.o.z vB).z vB,fun x u=>by omega,fun x u=>by omega,fun x u h=>by omega⟩⟩ (by simp only[eA.size_alloc];omega)
  iterate 3 exact bO rfl rfl rfl rfl ((P.o.z vB).z vB) E.o ((j.o.z vB).z vB) (by simp only[eA.size_alloc];omega)
  .obtain ⟨F,T,-,k,-,k1,-⟩:=j.o.parts;exact bO (H:=d.1.size) rfl rfl rfl rfl P.o E.o ⟨⟨_,T,X.o,k,fun x u=>by omega,fun x u=>by have:=k1 x u;omega,fun x u h=>by have:=k1 x h;omega⟩⟩ l
  .exact bO rfl rfl rfl rfl P.o E.o j.o p
  iterate 2 exact bO rfl rfl rfl rfl (P.o.z vB) E.o (j.o.z vB) (by simp only[eA.size_alloc];omega)
  exact bO rfl rfl rfl rfl P.o E.o j.o p
end
section
open Go.Maps
attribute [local go_sem] zG tH cO iB.drewI fO.drewI fO.new fO.alloc fO.alloc2
structure dS(w:World)(a b:iC)(N:oC):Prop where
 files:eB w a N.d.fs
 fit:CO N.d.fs
 tens:nC w b N.ts
 bulk:vA N.ts+nB N.ts≤1048576
 rng:jz N.ts
 lsn:nU N.lsn
 now:nU N.now
def dS.z{w W:eA}{a b:iC}{N:oC}(h:dS w a b N)(c:kB w W):dS W a b N:=⟨h.files.z c,h.fit,h.tens.z c,h.bulk,h.rng,h.lsn,h.now⟩
def NP.held{w W:eA}{c:lC}{cs:Array iA}(h:NP w W c cs)(M:Array iA)(a:eA)(b:kB W a):iB a (w.1.size+1) cs 43/\iB (a.setRow (w.1.size+1+1) M) (w.1.size+1) cs 43:=
 ⟨(h.z b).N,(sI a (w.1.size+1+1) M).blk (h.z b).N (by omega)⟩
def oJ{d:Func}{t:Act}{w W:eA}{i j:Nat}{c:lC}{cs:Array iA}{M:oC}{x:iA}{a b:iC}{f g:Nat}(h:d.results=#[.cell i 43,.tmp j])(k:t.tmps.getD i undef=.pointer (bA ⟨w.1.size+1+1,0,aA⟩))(l:t.tmps.getD j undef=x)(m:t.defers=[])(P:NP w W c cs)(I:dS W a b M):bodyPost prog d (fun e n=>SaV M x w e n) .ret t (W.setRow (w.1.size+1+1) (dC a f b g M)):=
 iV h k l m P.R (bH _ _ _ _ _) (by omega) P.B I.files I.tens
def cc{C:eA->Prop}{w:eA}{a cs:Array iA}{T:TypeId}(k:∀W,kB w W->iB W w.1.size cs T->C W):C ((w.alloc (tA a T)).setRow w.1.size cs):=
 k _ (vB.trans ((sI _ _ _).below (by simp) fun i b e=>by omega)) (iB.new _ _ _).row
def aTu{C:eA->Prop}{w:eA}{O:Nat}{f g a b:iA}{t:TypeId}(h:iB w O #[f,g] t)(k:∀W,iB W O #[a,b] t->bB (·=O) w W->(∀{B:Nat}{e:TypeId}{z:Nat}{v:iA}{n:Nat}{d:List iA},w.ownsRow B e z v n d->O<B->W.ownsRow B e z v n d)->C W):C ((w.setCell ⟨O,0,aA⟩ a).setCell ⟨O,1,aA⟩ b):=
 k _ (by have:=(h.set 0 a).set 1 b;simpa using this) (((bB.refl (·=O) w).setCell (Ca rfl) 0 a).setCell (Ca rfl) 1 b) fun h c=>DP (DP h c _) c _
def UO{W:eA}{g:Nat}{k n:Int}{t x:gB}{T:TypeId}(h:iB W g #[lA mA k,nA t,nA x,lA mA n] T):wI W (bA ⟨g,0,aA⟩) [⟨k,t,x,n⟩]:=
 La ⟨g,0,rfl,zA h,fun i a=>by obtain rfl:i=0:=by simp at a;exact a
                              exact h.c4⟩
def gc(c:lC){a b:iC}{ca cb:Nat}{N:oC}{W:eA}(h:dS W a b N){f:iC}{capr:Nat}{d:List vE}(i:wI W f d)(k:vA d+sD d<=240000)(g:bn d):
 Calls prog 22 #[oF c,rA (dC a ca b cb N),oA f (vA d) capr] W fun e j=>SaV (pF c N d).1 (lA mA (pF c N d).2) W e j:=
 sr c a b ca cb N f capr d W ⟨h.files,h.fit,h.tens,i,by have:=h.bulk;omega,g,h.lsn⟩
def gr{k n:Int}{t x:gB}(a:0<=k/\k<=9)(b:GA n):bn [⟨k,t,x,n⟩]:=by grind [GA,bn]
def aNt{c:lC}{d:Int}{a:List aB}(h:kC c d a=dA)(b f:gB)(j:vA a+nB a<=1900000): -1<=(fH c d a b f).1/\(fH c d a b f).1<=2000000/\-1<=(fH c d a b f).2/\(fH c d a b f).2<=1000000:=by
 obtain⟨k,_,_,_,m⟩:=cI h;obtain⟨n,i,_⟩:=kV m (name:=b);have p:vA (bC a b).Z<=1900000:=by
  rcases yN (ts:=a) (name:=b) with⟨g,_⟩|⟨e,_⟩;exact (wX j _ g).2.2.2.2;rw[e];exact Oa _
 have l:(0<=c.tl/\c.tl<=1000000)/\(0<=c.ml/\c.ml<=1000000):=by
  simp only[pH,wB,Sa,Ab]at k;omega
 have g : -1<=mG (bC a b).M f c.ml/\mG (bC a b).M f c.ml<=1000000:=by
  rw[ZJ (fw i).2];cases hg:zC (·.s) f (bC a b).M with
  |none=>exact⟨by simp;omega,by simp;omega⟩
  |some q=>
   have:=((fw i).1 q (yM hg).1).2;simp only[wB,Sa,Ab]at this;exact⟨by simp;omega,by simp;omega⟩
 have o:uI aE (bC a b).Z f<=vA (bC a b).Z:=Pc _ _;simp only[wB,Sa,Ab]at n;unfold fH kE;split
 .split
  .refine ⟨by dsimp only;omega,by dsimp only;omega,?_,?_⟩<;>(dsimp only;split<;>omega)
  exact ⟨by dsimp only;omega,by dsimp only;omega,g.1,g.2⟩
 exact ⟨by simp,by simp,by simp,by simp⟩
def gd(v:Int)(W:eA)(a : -9223372036854775808<=v)(b:v<=9223372036854775807):qD 21 #[lA mA 8,lA mA v] W (nA (pB 8 v)):=lD 8 v W (by omega) a b
def aSg(v:Int)(W:eA)(a : -9223372036854775808<=v)(b:v<=9223372036854775807):qD 21 #[lA mA 4,lA mA v] W (nA (pB 4 v)):=lD 4 v W (by omega) a b
def aSf(v:Int)(W:eA)(a : -9223372036854775808<=v)(b:v<=9223372036854775807):qD 21 #[lA mA 2,lA mA v] W (nA (pB 2 v)):=lD 2 v W (by omega) a b
def aMn{c:lC}{g:Int}{a:List aB}(h:kC c g a=dA)(b:gB)(o:vA a+nB a<=1900000):vA (bC a b).Z+pC (bC a b).Z<=1900000/\QF (bC a b).Z:=by
 obtain⟨_,m,d,_,k⟩:=cI h;obtain⟨_,_,l⟩:=kV k (name:=b);refine⟨?_,fun i f=>?_⟩
 .rcases yN (ts:=a) (name:=b) with⟨j,_⟩|⟨e,_⟩
  .obtain ⟨i,f,e⟩:=Ib j;have d:=rI a i f;have n:=zJ a (i+1);rw[e]at d;unfold iE at d;omega
  rw[e];exact Oa _
 have:=((UX l).1 _ (Gb f)).2.1;simp only[wB,Sa,Ab]at this;exact⟨by omega,by omega⟩
def SA(a b d e:iA)(W:eA):(Instr.field 85 (rA #[a,b,d,e]) 3).run prog W=.ok e W:=by kernel_rfl
def aMw{c:lC}{a:Int}{e:List aB}(h:kC c a e=dA)(d:gB)(b:List cF)(r:(sE b).size<=60000)(v:vA b<=500)(q:d.size<=255)(k:Nat)(p:k<=vA b):kC c a (vM c a d e (b.take k)).1=dA/\vA (vM c a d e (b.take k)).1+nB (vM c a d e (b.take k)).1<=vA e+nB e+190000/\(vM c a d e (b.take k)).2.1.size=k/\vA (vM c a d e (b.take k)).2.2<=k/\sD (vM c a d e (b.take k)).2.2<=190000/\bn (vM c a d e (b.take k)).2.2:=by
 obtain⟨j,s,l,m,t,n⟩:=aTh h d b k p;have u:(sE (b.take k)).size<=60000:=by
  have:=wM (b.take k) (b.drop k);rw[Za]at this;rw[this,Ka]at r;omega
 have w:k*(d.size+2)<=500*257:=Hf (by omega) (by omega);have x:k*d.size<=500*255:=Hf (by omega) q;refine⟨j,by omega,l,m,by omega,fun i o=>?_⟩;obtain⟨f,g⟩:=n _ (Gb o);rw[f,g];exact⟨⟨by omega,by omega⟩,⟨by omega,by omega⟩⟩
def nQ(k:Int):Bool:=k != 2&&k != 4
def ni(c:lC)(N:oC)(s:gB)(a:List Int):Prop:=pH c=dA/\N.up=dA/\kC c N.now N.ts=dA/\(aG s).2=dA/\(aG s).1.K∈a
def ni.ans{c:lC}{N:oC}{s:gB}{a:List Int}(h:ni c N s a):rJ c N s=dK c N (aG s).1:=by grind [ni,rJ,dK,aG]
end
section
open Go.Extern.Stop Go.Stop Go.Extern
def tm2(x:Int):(x.tmod 2 != 0)=decide (x % 2=1):=by grind
def aJa{b:Int}(h:wrap64 b=b):∀k,de k b=wrap64 (b*2 ^ k)
 |0=>by simp[de,h]
 |k+1=>by
  rw[de,aJa h k,Int.pow_succ,<-Int.mul_assoc];generalize b*2 ^ k=y;unfold wrap64;omega
def aSb{b:Int}(h:wrap64 b=b):AQ b=decide (9218868437227405312<b % 9223372036854775808):=by
 unfold AQ;rw[aJa h 12];simp only[gh,shK,tm2];unfold wrap64 at *;rw[Qb];simp only[Sa,Ab,bne_iff_ne,Oc,Int.reducePow];constructor;rintro ⟨a,c⟩;omega;intro a;refine⟨?_,?_⟩<;>omega
def aLe(n:Nat):(Ieee.double.order n n==bA .eq)=decide (¬9218868437227405312<n % 9223372036854775808):=by
 unfold Ieee.Format.order Ieee.Format.read;rw[show Ieee.double.signWeight=9223372036854775808 from by decide,show Ieee.double.infRung=9218868437227405312 from by decide,show Ieee.double.binade=4503599627370496 from by decide];dsimp only;(repeat' split)<;>(simp[Ieee.Datum.order];omega)
def aNq(n:Int)(w:eA):(callFunc 211 #[.int .u64 n]).run prog w=.ok (.value (.float .f64 n.toNat)) w:=by
 rw[@run_callFunc_extern prog 211 _ Extern.MathFloatBits.float64frombits func211 (by kernel_rfl) (by kernel_rfl) (by kernel_rfl) (by kernel_rfl)];rfl
def fc(b:Int)(w:eA)(c : -9223372036854775808<=b)(d:b<=9223372036854775807):dI 175 #[lA mA b] w (pA (!AQ b)):=by
 have g:=aNq;have a:xA ((FloatKind.f64.format.order (IntKind.u64.wrap b).toNat (IntKind.u64.wrap b).toNat==bA .eq)=!AQ b):=by
  show(Ieee.double.order (b % 18446744073709551616).toNat (b % 18446744073709551616).toNat==bA .eq)=!AQ b;rw[aLe,aSb (by unfold wrap64;omega)];rw[Qb];simp;omega
 clear c d;go_enter func175,ntmps175;go_wp2;go_ret;exact⟨by simp[a.o],rfl⟩
end
section
open Go.Maps
def wd:ByteArray.empty.toList.isEmpty=dA:=by simp
def aDd(b:List eC):(uB b).2.1=0\/40<=(uB b).2.1:=by
 have d:∀(l:List eC)(i c j:Nat),cD l i=bA (c,j)->40<=c:=by
  intro l;induction l with
  |nil=>intro i c j h;cases h
  |cons x r e=>
   intro i c j h;rw[cD]at h;split at h;exact e _ _ _ h
   cases h
   rename_i a;unfold iR zP WB at a |-
   revert a;repeat' split
   all_goals simp
 unfold uB;split;simp;split
 .rename_i h;exact La (d _ _ _ _ h)
 split;simp;split<;>simp
def aIq{a:List eC}(h:(uB a).2.1=0):vA (uB a).1<=16:=by grind [uB,BM]
def aNf{c:lC}{a:Int}{b:List aB}{d k:gB}(h:(qL c a b d k).2≠1/\(qL c a b d k).2≠2):(qL c a b d k).1=b:=by
 unfold qL at h |-
 revert h;repeat' split
 all_goals simp
def aOg{c:lC}{a:Int}{b:List aB}{te:gB}{x:cF}(h:kC c a b=dA):
 (uB x.B).2.1≠0/\mI c a b te x=((uB x.B).2.1,b,kA)\/(uB x.B).2.1=0/\(AQ x.bits=dA/\mI c a b te x=(6,b,kA)\/AQ x.bits=cA/\(mI c a b te x).1=(qL c a b te (bI (uB x.B).1)).2/\(mI c a b te x).2.1=(qL c a b te (bI (uB x.B).1)).1/\((mI c a b te x).2.2.toList.isEmpty=cA->bI (uB x.B).1=(mI c a b te x).2.2)):=by
 unfold mI;by_cases d:(uB x.B).2.1=0
 .refine La ⟨d,?_⟩;rw[Ja (by simp[d]),(nf d).1,bq h];cases AQ x.bits
  .refine La ⟨rfl,?_⟩;rw[Ja (by simp)];dsimp only;split
   .exact ⟨rfl,rfl,fun _=>rfl⟩
   rename_i f;exact⟨rfl,(aNf ⟨fun e=>f (Ca e),fun e=>f (La e)⟩).symm,fun h=>by simp at h⟩
  exact Ca ⟨rfl,Ma rfl⟩
 exact Ca ⟨d,Ma d⟩
def aOf{c:lC}{now:Int}{ts:List aB}{te:gB}{x:cF}:((mI c now ts te x).1=1\/(mI c now ts te x).1=2)/\(mI c now ts te x).2.2.toList.isEmpty=cA\/¬((mI c now ts te x).1=1\/(mI c now ts te x).1=2)/\(mI c now ts te x).2.2.toList.isEmpty=dA:=by
 have:=aDd x.B;unfold mI;by_cases b:(uB x.B).2.1=0
 .rw[Ja (by simp[b])];split
  .exact La ⟨by simp,wd⟩
  split
  .rename_i a;refine Ca ⟨a,?_⟩;rw[(nf b).1];exact BE.2 fun e=>by have:=Kd ByteArray.size e;rw[bI,Ka,qB]at this;simp at this
  rename_i a;exact La ⟨a,wd⟩
 rw[Ma b];exact La ⟨by dsimp only;omega,wd⟩
def aFj{D l m:Nat}{r:xG}{o a b:iC}{G ca cb:Nat}{c:lC}{N:oC}{k:Int}{n:List aB}{M:Nat}{B:Nat->Prop}{w:eA}(x:cF)(E:iC)(F:Nat)
(h:iB w D (OK r o G c a ca b cb N l) 98)(H:nE w B l m c k n M)(G:∀g,w.1.size<=g->B g)(O:yD w E x.B)(C:vA x.B<=F)(I:vH w)(hn:r.T.size<=1048576)(hx:eH x<=300000)(o:GA x.bits)(s:kC c k n=dA)(J:vA n+nB n<=1900000)(hM:1<=M)(z:M<=1000000000):
 Calls prog 134 #[.pointer (bA ⟨D,0,aA⟩),rA #[oA E (vA x.B) F,lA mA x.bits]] w fun e w'=>∃K,e=sA (.tuple #[lA mA ((mI c k n r.T x).1:Nat),nA K])/\((mI c k n r.T x).2.2.toList.isEmpty=cA->K=(mI c k n r.T x).2.2)/\nE w' B l m c k (mI c k n r.T x).2.1 (M+1)/\bB B w w':=by
 have L:eH x=vA x.B+nD x.B:=rfl;have q:bk x.B:=fun i o=>by have:=TN x.B i o;exact⟨by omega,by omega⟩
 have A:bk (uB x.B).1:=fun i o=>by
  obtain⟨j,U,e⟩:=Ib (XR _ (Gb o));rw[<-e];exact q j U
 have hz:(bI (uB x.B).1).size<=1048576:=by have:=EC x.B;have:=BM (ls:=x.B);rw[bI,Ka,qB,kK];omega
 have HV:=yA (aOg (te:=r.T) (x:=x) s);have U:=yA (fun W(p:kB w W)=>DG E F x.B W (O.z p) q (by omega) C (I.z p));have HN:=yA (fun W=>fc x.bits W o.1 o.2);have Y:=yA (fun W Z k3(h:yD W Z (uB x.B).1)(hq:(uB x.B).2.1=0)=>aFn Z k3 (uB x.B).1 W h A (aIq hq));obtain⟨_,_,_,_,ht⟩:=cI s;have s1:∀t∈n,vA t.Z<=1000000000:=fun t Q=>by
  obtain⟨i,o,rfl⟩:=Ib Q;have:=kU n i o;unfold iE at this;omega
 have T:=yA (fun W(p:kB w W)=>TU l m r.T (bI (uB x.B).1) c k B n M W (H.z p) (fun g m=>G g (by have:=p.size;omega)) (I.z p) (by omega) (by omega) hM z s1 (fun t Q y m=>(CG (yJ (pJ ht t Q)).2.2.1 y m).2.2) (by omega));have Z:=yA (fun W(p:kB w W)=>(H.z p).mono (Gf M));have m:=yA h;clear h H G O C I hn hx o s J hM z L q A hz s1 ht;generalize mI c k n r.T x=V at *;generalize bI (uB x.B).1=o at *;generalize AQ x.bits=h at *;generalize x.bits=bi at *;generalize uB x.B=h at *;generalize x.B=R at *;obtain⟨G,G,G⟩:=h;obtain⟨v1,v2,v3⟩:=V;dsimp only at *;have P:=yA (yG w (tA #[oA E (vA R) F,lA mA bi] 67));have X:=yA (iB.new w #[oA E (vA R) F,lA mA bi] 67);go_enter func134,ntmps134;go_wp2_with fail;refine(U.o _ P.o).mono ?_;rintro e w1 ⟨a1,I,rfl,O,h,u⟩;have J:=yA h.B;replace X:=yA (X.o.z u);replace P:=yA (oB P.o u);clear u h U O;have h:=X.o.c2;rcases HV.o with⟨G,v⟩|⟨rfl,⟨rfl,v⟩|⟨rfl,v,O,G⟩⟩
 .obtain ⟨rfl,rfl,rfl⟩:=v;clear HV Y T;go_wp2;go_ret2;exact⟨_,rfl,fun _=>rfl,Z.o _ P.o,bB.of P.o⟩
 .obtain ⟨rfl,rfl,rfl⟩:=v;go_wp2_with(first|(go_at_call 175;apply lK (HN.o _)));go_ret2;exact⟨_,rfl,fun _=>rfl,Z.o _ P.o,bB.of P.o⟩
 subst v O;replace G:=yA G;go_upto_region 7 with(first
  |(go_at_call 175;apply lK (HN.o _))
  |(go_at_call 172;refine aC (Y.o _ a1 I J.o (by first|rfl|trivial)) ?_;intro w2 u;replace P:=yA (oB P.o u);clear u h))
 have h:=fI (m.o.z P.o);go_region_law (refine bD (f:=176) (args:=#[.pointer (bA ⟨l,0,aA⟩),nA r.T,nA o]) rfl (by go_simp) ?_;apply aC (T.o _ P.o.drew);rintro h ⟨h,d⟩;have S:=yA (Vc h d);clear h d;refine⟨_,rfl,?_⟩)
 all_goals
  go_wp2;go_ret2;exact⟨_,rfl,G.o,S.o.1,(bB.of P.o.drew).trans' S.o.2⟩
end
def wO.at{w:eA}(h:wO w){k:Int}(b:1<=k/\k<=6):w.cell? ⟨0,k.toNat*5,aA⟩=bA (pA (qU k))/\w.cell? ⟨0,k.toNat*5+1,aA⟩=bA (pA (k==1))/\w.cell? ⟨0,k.toNat*5+2,aA⟩=bA (pA (oU k))/\w.cell? ⟨0,k.toNat*5+3,aA⟩=bA (pA (zU k))/\w.cell? ⟨0,k.toNat*5+4,aA⟩=bA (pA (k==1||k==2||k==3||k==4)):=by
 obtain⟨i,rfl⟩:∃i:Nat,k=(i:Int):=⟨k.toNat,by omega⟩
 have a:i<7:=by omega
 exact⟨h.2 i 0 a (by omega),h.2 i 1 a (by omega),h.2 i 2 a (by omega),h.2 i 3 a (by omega),h.2 i 4 a (by omega)⟩
def oa(r:xG)(a:iC)(k:Nat)(w:eA)(V:jI w a r.P)(Y:cJ r<=1048576)(I:wO w):
 qD 83 #[rA #[lA mA r.K,nA r.T,nA r.R,lA mA r.U,oA a (vA r.P) k]] w (nA (vN r)):=by
 have hb:cJ r=r.T.size+r.R.size+vA r.P+fE r.P:=rfl;have M:∀i(h:i<vA r.P),vA r.P[i].B<=2000000:=fun i m=>by
  have h1:=rY r.P i m;have h2:eH r.P[i]=vA r.P[i].B+nD r.P[i].B:=rfl;omega
 have U:xA (iB (w.alloc (tA #[lA mA r.K,nA r.T,nA r.R,lA mA r.U,oA a (vA r.P) k] 60)) w.1.size #[lA mA r.K,nA r.T,nA r.R,lA mA r.U,oA a (vA r.P) k] 60):=iB.new _ _ _;have A:xA (kB w (w.alloc (tA #[lA mA r.K,nA r.T,nA r.R,lA mA r.U,oA a (vA r.P) k] 60))):=vB;have F:xA (∀W,qD 125 #[lA mA r.K] W (pA (decide (1<=r.K/\r.K<=6)))):=fun W=>TF _ W;have K:xA (cJ r<=1048576):=Y;have C:xA (¬nS r->vN r=kA):=fun h=>PN h;have Z:xA (60000<(dW r).size->vN r=kA):=fun h=>JF h;have O:xA (nS r->(dW r).size<=60000->vN r=dW r):=fun h h2=>gq h h2;have Q:xA (60000<r.T.size+r.R.size+mO r.P->vN r=kA):=fun h=>by
  by_cases m:nS r
  .exact JF (aQh m h)
  exact PN m
 have o:xA (∀(b:gB),vN r=b->(Ending.returned (iA.string b))=Ending.returned (nA (vN r))):=fun b h=>by rw[h]
 generalize vN r=N at *;have T:xA (∀W,1<=r.K/\r.K<=6->aTm r a k W):=fun W h=>aHb r a k W h;have G:xA (∀W,kB w W->jI W a r.P):=fun W h=>V.z h;have a0:xA (∀W,kB w W->wO W):=fun W h=>I.z h;go_enter func83,ntmps83;go_upto_region 1 with fail;generalize w.alloc (tA #[lA mA r.K,nA r.T,nA r.R,lA mA r.U,oA a (vA r.P) k] 60)=p at *;have X:=tB.there p;have x0:=tB.cells (show cC p w.1.size 0 (lA mA r.K) from U.o.cell 0);have x1:=tB.cells (show cC p w.1.size 1 (nA r.T) from U.o.cell 1);have x2:=tB.cells (show cC p w.1.size 2 (nA r.R) from U.o.cell 2);have x3:=tB.cells (show cC p w.1.size 3 (lA mA r.U) from U.o.cell 3);have x4:=tB.cells (show cC p w.1.size 4 (oA a (vA r.P) k) from U.o.cell 4);by_cases J:1<=r.K/\r.K<=6;rotate_left
 .have E:xA (N=kA):=C.o fun h=>J h.1;have m:xA (∀x:tB p,qD 125 #[lA mA r.K] x.w' (pA cA)):=fun x=>by have:=F.o x.w';rw[Ub J]at this;exact this
  clear V I M J F;go_wp2_with fail;refine jB (by kernel_rfl) (by kernel_rfl) ?_;repeat (go_big_quiet_step (exact xB (m.o _)))
  refine wpQuiet_nil ?_;rintro _ ⟨x,rfl⟩;go_wp2;go_ret;exact⟨o.o _ E.o,oB A.o x.h⟩
 have m:xA (∀x:tB p,qD 125 #[lA mA r.K] x.w' (pA dA)):=fun x=>by have:=F.o x.w';rw[Ac J]at this;exact this
 clear F;obtain⟨c,d,f,g,j⟩:=(a0.o p A.o).at J;have U:0<=r.K/\r.K<7:=⟨by omega,by omega⟩
 have D:∀B:Bool,(B=dA ↔ YM r)->xA (∀x:tB p,qD 128 #[shV r.K,rA #[lA mA r.K,nA r.T,nA r.R,lA mA r.U,oA a (vA r.P) k]] x.w' (pA B)):=fun B U x=>(T.o x.w' J).mono fun e l ⟨b,h1,h2,h3⟩=>⟨by rw[h1];cases b<;>cases B<;>simp_all,h3⟩
 have s:∀B:Bool,(B=dA ↔ xY r)->xA (∀x:tB p,qD 129 #[rA #[lA mA r.K,nA r.T,nA r.R,lA mA r.U,oA a (vA r.P) k]] x.w' (pA B)):=fun B U x=>VY r a k x.w' (G.o _ (oB A.o x.h)) (by omega) M (by omega) B U;have v:xA (∀x:tB p,qD 130 #[rA #[lA mA r.K,nA r.T,nA r.R,lA mA r.U,oA a (vA r.P) k]] x.w' (lA mA ((r.T.size+r.R.size+mO r.P:Nat):Int))):=fun x=>jj r a k x.w' (G.o _ (oB A.o x.h)) K.o;have t:nS r->xA (∀W,kB w W->qD 131 #[shV r.K,rA #[lA mA r.K,nA r.T,nA r.R,lA mA r.U,oA a (vA r.P) k]] W (nA (dW r))):=fun z W h=>wk r a k W (G.o W h) K.o z;have u:=fun V U W=>yA (aUi (r:=r) J V U W);clear V I M J T G K;unfold shV at *;by_cases I:YM r;rotate_left
 .have E:xA (N=kA):=C.o fun h=>I (aSw h);have n:=D cA ⟨fun h=>(Bool.false_ne_true h).elim,fun h=>absurd h I⟩;clear D s v t u I;replace c:=tB.cells c;replace d:=tB.cells d;replace f:=tB.cells f;replace g:=tB.cells g;replace j:=tB.cells j;go_wp2_with fail;refine jB (by kernel_rfl) (by kernel_rfl) ?_;repeat (go_big_quiet_step (first|exact xB (m.o _)|exact xB (n.o _)))
  refine wpQuiet_nil ?_;rintro _ ⟨x,rfl⟩;go_wp2;go_ret;exact⟨o.o _ E.o,oB A.o x.h⟩
 have n:=D dA ⟨fun _=>I,fun _=>rfl⟩;clear D;by_cases L:xY r;rotate_left
 .have E:xA (N=kA):=C.o fun h=>L (aSu h);have q:=s cA ⟨fun h=>(Bool.false_ne_true h).elim,fun h=>absurd h L⟩;clear s v t u I L;replace c:=tB.cells c;replace d:=tB.cells d;replace f:=tB.cells f;replace g:=tB.cells g;replace j:=tB.cells j;go_wp2_with fail;refine jB (by kernel_rfl) (by kernel_rfl) ?_;repeat (go_big_quiet_step (first|exact xB (m.o _)|exact xB (n.o _)|exact xB (q.o _)))
  refine wpQuiet_nil ?_;rintro _ ⟨x,rfl⟩;go_wp2;go_ret;exact⟨o.o _ E.o,oB A.o x.h⟩
 have q:=s dA ⟨fun _=>L,fun _=>rfl⟩;clear s;by_cases h:((r.T.size+r.R.size+mO r.P:Nat):Int) > 60000
 .have E:xA (N=kA):=Q.o (by omega);clear t u I L hb Y;generalize ((r.T.size+r.R.size+mO r.P:Nat):Int)=h at *;replace c:=tB.cells c;replace d:=tB.cells d;replace f:=tB.cells f;replace g:=tB.cells g;replace j:=tB.cells j;go_wp2_with fail;refine jB (by kernel_rfl) (by kernel_rfl) ?_;repeat (go_big_quiet_step (first|exact xB (m.o _)|exact xB (n.o _)|exact xB (q.o _)|exact xB (v.o _)))
  refine wpQuiet_nil ?_;rintro _ ⟨x,rfl⟩;go_wp2;go_ret;exact⟨o.o _ E.o,oB A.o x.h⟩
 have z:=(u I L (by omega)).o;have H:=t z;have P:=yA (O.o z);clear t u O C Q I L z hb Y;generalize ((r.T.size+r.R.size+mO r.P:Nat):Int)=h at *;generalize dW r=Y at *;replace c:=tB.cells c;replace d:=tB.cells d;replace f:=tB.cells f;replace g:=tB.cells g;replace j:=tB.cells j;have R:xA (∀x:tB p,qD 131 #[rA #[pA (qU r.K),pA (r.K==1),pA (oU r.K),pA (zU r.K),pA (r.K==1||r.K==2||r.K==3||r.K==4)],rA #[lA mA r.K,nA r.T,nA r.R,lA mA r.U,oA a (vA r.P) k]] x.w' (nA Y)):=fun x=>H.o x.w' (oB A.o x.h);clear H;go_wp2_with fail;refine jB (by kernel_rfl) (by kernel_rfl) ?_;repeat (go_big_quiet_step (first|exact xB (m.o _)|exact xB (n.o _)|exact xB (q.o _)|exact xB (v.o _)))
 refine wpQuiet_nil ?_;rintro _ ⟨x,rfl⟩;have h:xA (kB w x.w'):=oB A.o x.h;have G:=tB.cells (x0 x);have G:=tB.cells (x1 x);have G:=tB.cells (x2 x);have G:=tB.cells (x3 x);have G:=tB.cells (x4 x);have G:=tB.cells (c x);have G:=tB.cells (d x);have G:=tB.cells (f x);have G:=tB.cells (g x);have G:=tB.cells (j x);have S:xA (∀y:tB x.w',qD 131 #[rA #[pA (qU r.K),pA (r.K==1),pA (oU r.K),pA (zU r.K),pA (r.K==1||r.K==2||r.K==3||r.K==4)],rA #[lA mA r.K,nA r.T,nA r.R,lA mA r.U,oA a (vA r.P) k]] y.w' (nA Y)):=fun y=>R.o ⟨y.w',oB x.h y.h⟩;clear R m n q v x0 x1 x2 x3 x4 c d f g j X;generalize x.w'=m at *;have X:=tB.there m;go_wp2_with fail;refine jB (by kernel_rfl) (by kernel_rfl) ?_;repeat (go_big_quiet_step (exact xB (S.o _)))
 refine wpQuiet_nil ?_;rintro _ ⟨y,rfl⟩;by_cases m:(Y.size:Int) > 60000
 .have E:xA (N=kA):=Z.o (by omega);go_wp2;go_ret;exact⟨o.o _ E.o,oB h.o y.h⟩
 have E:xA (N=Y):=P.o (by omega);go_wp2;go_ret;exact⟨o.o _ E.o,oB h.o y.h⟩
