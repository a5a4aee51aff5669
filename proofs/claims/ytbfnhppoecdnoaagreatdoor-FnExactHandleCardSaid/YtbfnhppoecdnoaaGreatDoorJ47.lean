import Derived.Test.YtbfnhppoecdnoaaGreatDoorJ46
set_option maxRecDepth 100000
set_option maxHeartbeats 8000000
set_option linter.defProp false
open Option renaming some->bA,none->aA
open Bool renaming true->dA,false->cA
open ByteArray renaming empty->kA
open List renaming length->vA
namespace Go.Proofs.YtbfnhppoecdnoaaGreatDoor
open Go renaming World->eA,Calls->gA,Value->iA
open Value renaming pointer->qA,string->nA,int->lA,slice->oA,agg->rA,bool->pA
open IntKind renaming i64->mA
open Ending renaming returned->sA
open Obj renaming cells->tA
open Go.RowKit Tryz
section
open Go.Maps
def aDt(l m:Nat)(a met:gB)(c:lC)(g:Int)(B:Nat->Prop)(k:List aB)(M:Nat)(w:eA)(h:nE w B l m c g k M)(W:a.size<=maxLen)(H:met.size<=maxLen)(G : -1<=(bC k a).L):
 qD 141 #[qA (bA ⟨l,0,aA⟩),nA a,nA met] w (.tuple #[lA mA (kE c (bC k a) met).1,lA mA (kE c (bC k a) met).2]):=by
 have f:xA (gA prog 143 #[qA (bA ⟨l,0,aA⟩),nA a] w λe n=>bp c g k l m a w e n):=mx l m a c g B k M w h W;clear h;unfold bp at f;generalize bC k a=t at *;by_cases s:met.toList.isEmpty=dA
 .have o:xA (kE c t met=(((vA t.Z:Nat):Int),if t.L = -1 then c.tl else t.L)):=by
   show _=_;unfold kE;rw[Ma s];by_cases p:t.L = -1
   .rw[Ma p,Ma (by omega)]
   rw[Ja p,Ja (by omega)]
  go_enter func141,ntmps141;go_wp2_with fail;refine f.o.mono ?_;rintro e i ⟨x,b,S,A,rfl,d,r,q⟩;have v:xA (dI 188 #[qA (bA ⟨l,0,aA⟩),qA (bA ⟨x,0,aA⟩)] i (lA mA (if t.L = -1 then c.tl else t.L))):=ND l m x c g t S A i r d;obtain⟨P,C,j,N,Q,L,D,d⟩:=d;have c2:cC i x 2 (.map (bA C)):=d.blk.cell 2;have O:=d.Z.len underlying227 3;rw[kN]at O;have J:vA Q=vA t.Z:=by rw[<-d.q1,Xa]
  rw[J]at O;have u:=yA q;clear d r J q f;generalize (if t.L = -1 then c.tl else t.L)=X at *;generalize vA t.Z=NS at *;go_wp2_with fail;apply lK v.o;go_wp2;go_ret2;exact⟨dL (by rw[o.o]) (by rw[o.o]),u.o⟩
 .have V:met.toList.isEmpty=cA:=by simpa using s
  have o:xA (kE c t met=(((uI aE t.Z met:Nat):Int),mG t.M met c.ml)):=by show _=_;unfold kE;rw[Ja s]
  go_enter func141,ntmps141;clear s;go_wp2_with fail;refine f.o.mono ?_;rintro e i ⟨x,b,S,A,rfl,d,r,q⟩;have z:xA (∀y:tB i,dI 189 #[qA (bA ⟨l,0,aA⟩),qA (bA ⟨x,0,aA⟩),nA met] y.w' (lA mA (mG t.M met c.ml))):=λy=>yU l m x c g t S A met y.w' (r.z y.h) (d.z y.h) H;have E:xA (∀y:tB i,∃j,y.w'.cell? ⟨x,3,aA⟩=bA (.map (bA j))/\(Instr.lookup 226 (.map (bA j)) (nA met) cA).run prog y.w'=.ok (lA mA (uI aE t.Z met)) y.w'):=λy=>by
   obtain⟨P,C,j,N,Q,L,D,d⟩:=d.z y.h;exact⟨j,d.blk.cell 3,UF d.cnts (d.cnt met) H⟩
  obtain⟨P,C,j,N,Q,L,D,d⟩:=d;have F:cC i x 3 (.map (bA j)):=d.blk.cell 3;have T:=tB.cells F;have K:∀y:tB i,(Instr.lookup 226 (.map (bA j)) (nA met) cA).run prog y.w'=.ok (lA mA (uI aE t.Z met)) y.w':=λy=>by
   obtain⟨R,p,U⟩:=E.o y;rw[T y]at p;cases p
   exact U
  have u:=yA q;have I:=tB.there i;clear d r q f E F;generalize uI aE t.Z met=Y at *;generalize mG t.M met c.ml=Z at *;go_wp2_with fail;refine jB (by kernel_rfl) (by kernel_rfl) ?_;repeat (go_big_quiet_step (first|(go_at_call 189;exact yC (z.o _))|fail))
  refine wpQuiet_nil ?_;rintro _ ⟨y,rfl⟩;go_wp2;go_ret2;exact⟨dL (by rw[o.o]) (by rw[o.o]),oB u.o y.h⟩
end
section
open Go.Maps
def aHx(V:oC×Int)(D:Nat)(r:xG)(h:iC)(sc:Nat)(c:lC)(l:Nat)(w:eA)(v:iA)(e:Ending)(d:eA):Prop:=
 ∃a f b g,e=sA v/\iB d D (OK r h sc c a f b g V.1 l) 98/\iI d (λx=>w.1.size<=x/\x<d.1.size) a b V.1/\bB (·=D) w d
def mi{D l:Nat}{r:xG}{s a b:iC}{sc i j:Nat}{c:lC}{N:oC}{w:eA}{p:iC}{capr:Nat}{rs:List vE}(h:iB w D (OK r s sc c a i b j N l) 98)(I:aNb w a b N p rs)(A:vH w)(n:oL w):
 gA prog 136 #[qA (bA ⟨D,0,aA⟩),oA p (vA rs) capr] w λe L=>aHx (pF c N rs) D r s sc c l w (lA mA (oS (pF c N rs).1 (pF c N rs).2)) e L:=by
 have HN:=yA (λi j capr=>ny c a b i j N p capr rs w.drew ⟨I.files,I.fit,I.tens,I.recs,I.bulk,I.rng,I.lsn⟩ A n);have E:=yA (λW u k v m M x(h:iB W D (OK r s sc c a i b j N l) 98)=>UY (a':=u) (ca':=k) (b':=v) (cb':=m) (M:=M) (x:=x) h);have Q:=zA h;have T:=fI h;have H:=yA h;have P:=iF a i b j N;clear h I A n;unfold jw NaV oF at HN;generalize pF c N rs=V at *;go_enter func136,ntmps136;go_upto_region 1 with fail;go_region_law (first
  |(refine bD (f:=177) (args:=#[rA #[lA mA c.w,lA mA c.tl,lA mA c.ml,lA mA c.sh,lA mA c.ha,lA mA c.sg],rA (dC a i b j N),oA p (vA rs) capr]) rfl (by go_simp) ?_;refine(HN.o _ _ _).mono ?_;rintro e O ⟨F,J,G,K,rfl,z,B⟩;have C:=yA z;have t:xA (kB w O):=oB eD.drew B;clear z B;refine⟨_,rfl,?_⟩)
  |(refine bD (f:=138) (args:=#[qA (bA ⟨D,0,aA⟩),rA (dC F J G K V.1),lA mA V.2]) rfl (by go_simp) ?_;apply aC (E.o _ _ _ _ _ _ _ (H.o.z t.o));rintro S ⟨y,d⟩;have o:=yA (Vc y d);clear y d;refine⟨_,rfl,?_⟩))
 all_goals
  go_wp2;go_ret;have R:=o.o.2.size;exact⟨_,_,_,_,rfl,o.o.1,(C.o.turned o.o.2 (λg q _ e=>by have:=(show w.1.size<=g from q.1);omega)).mono λg q=>⟨q.1,by omega⟩,(bB.of t.o).trans' o.o.2⟩
end
section
open Go.Maps
section
variable {w0 w W:eA} {D Lo:Nat} {r:xG} {sa:iC} {sc:Nat} {c:lC} {a:iC} {ca:Nat} {b:iC} {cb:Nat} {N:oC} {l m M:Nat} {B A:Nat→Prop}
theorem oV.made(h:oV Lo w0 w D r sa sc c a ca b cb N l m M B A)(f:bB B w W){V:oC×Int}{v:iA}{s:gB}{e:Ending}{w1 w2:eA}(o:aHx V D r sa sc c l W v e w1)(d:kB w1 w2):GF (V.1,s) D r sa sc c l Lo w0 (sA (nA s)) w2:=by
 obtain⟨j,p,n,q,_,u,x,i⟩:=o;have z:=d.size;have y:=h.base.size;have F:=h.lo;have E:=f.size;exact⟨j,p,n,q,rfl,u.z d,(x.z d).mono λg C=>by omega,((h.base.trans (f.below y λk t e=>by have:=h.old k (Ca e);omega)).trans (i.below (by omega) λk t e=>by have:=h.old k (La e);omega)).trans (d.mono (by have:=i.size;omega))⟩
theorem oV.nap(h:oV Lo w0 w D r sa sc c a ca b cb N l m M B A)(j:bB B w W){f:iC}{d:List vE}(k:wI W f d)(n:vA d+sD d<=240000)(e:bn d):aNb W a b N f d:=
 have i:=h.node.turned j λg e _=>(h.apart g e).1.1
 ⟨i.files,h.fit,i.tens,k,by have:=h.bulk;omega,e,h.lsn⟩
theorem oV.tabs(h:oV Lo w0 w D r sa sc c a ca b cb N l m M B A)(d:bB B w W):vH W/\oL W:=
 have q:=h.base.trans (d.below h.base.size λk f e=>by have:=h.old k (Ca e);omega)
 ⟨h.utab.z q,h.pow.z q⟩
theorem oV.log1(h:oV Lo w0 w D r sa sc c a ca b cb N l m M B A)(x:vE)(n:x.T.size+x.X.size<=200000)(i:0<=x.K/\x.K<=9)(j:GA x.U){g:Nat}{T:TypeId}(d:kB w W)(f:iB W g #[lA mA x.K,nA x.T,nA x.X,lA mA x.U] T):
 gA prog 136 #[qA (bA ⟨D,0,aA⟩),oA (bA ⟨g,0,aA⟩) 1 1] W λe k=>aHx (pF c N [x]) D r sa sc c l W (lA mA (oS (pF c N [x]).1 (pF c N [x]).2)) e k:=
 mi (rs:=[x]) (h.dsk.z d) (h.nap (bB.of d) (UO f) (by simp[sD];omega) (gr i j)) (h.tabs (bB.of d)).1 (h.tabs (bB.of d)).2
theorem tQ(v:Int)(W:eA):qD 35 #[lA mA v] W (nA (pB 1 v)):=gO (k:=1) (Ca ⟨rfl,rfl⟩) v W
theorem aEh(h:oV Lo w0 w D r sa sc c a ca b cb N l m M B A)(k:N.deg=cA)(o:N.up=dA)(n:r.K=2):
 gA prog 86 #[qA (bA ⟨D,0,aA⟩)] w λe q=>GF (dK c N r) D r sa sc c l Lo w0 e q:=by
 rw[aIh (x:=⟨2,kA,kA,r.U⟩) h.st k o (Ca ⟨n,rfl⟩)];have p:=yA (λW e f g V v s(d:kB w W)=>h.made (bB.of d) (V:=V) (v:=v) (s:=s) (e:=e) (w1:=f) (w2:=g));have i:=yA (h.log1 ⟨2,kA,kA,r.U⟩ (by simp) (by simp) h.req.2.2 (yG w _) (iB.new w _ 71));have t:=fI h.dsk;clear h k o n;generalize pF c N _=V at *;dsimp only at i;go_enter func86,ntmps86;go_wp2_with(first
  |(go_at_call 136;refine i.o.mono ?_;rintro e f j;have O:=yA j;obtain⟨_,_,_,_,rfl,_⟩:=j;clear t)
  |(go_at_call 35;apply aC (tQ _ _);intro g d;replace d:=yA d))
 go_ret;exact p.o _ _ _ _ _ _ _ vB O.o d.o
theorem vy(h:oV Lo w0 w D r sa sc c a ca b cb N l m M B A)(o:N.deg=cA)(t:N.up=dA)(p:r.K=3)(q:tC r.T=dA)(u:r.T.size+r.R.size<=200000):
 gA prog 87 #[qA (bA ⟨D,0,aA⟩)] w λe C=>GF (dK c N r) D r sa sc c l Lo w0 e C:=by
 rw[aIh (x:=⟨3,r.T,r.R,r.U⟩) h.st o t (La ⟨p,q,rfl⟩)];have y:=yA (λW e i j V v s(d:kB w W)=>h.made (bB.of d) (V:=V) (v:=v) (s:=s) (e:=e) (w1:=i) (w2:=j));have k:=yA (λW g(d:kB w W)(z:iB W g _ 71)=>h.log1 ⟨3,r.T,r.R,r.U⟩ u (by simp) h.req.2.2 d z);have E:=fI h.dsk;clear h o t p q u;generalize pF c N _=V at *;dsimp only at k;go_enter func87,ntmps87;go_upto_region 1 with fail;go_region_law (first
  |(refine bD (f:=136) (args:=#[qA (bA ⟨D,0,aA⟩),oA (bA ⟨w.1.size,0,aA⟩) 1 1]) rfl (by go_simp) ?_;refine(k.o _ _ (oB eD.drew vB) (iB.new _ _ _)).mono ?_;rintro e i n;have O:=yA n;obtain⟨_,_,_,_,rfl,_⟩:=n;refine⟨_,rfl,?_⟩)
  |(refine bD (f:=35) (args:=#[lA mA (oS V.1 V.2)]) rfl (by go_simp) ?_;apply aC (tQ _ _);intro j d;replace d:=yA d;refine⟨_,rfl,?_⟩))
 all_goals
  go_wp2;go_ret;exact y.o _ _ _ _ _ _ _ (oB eD.drew vB) O.o d.o
theorem aDz(h:oV Lo w0 w D r sa sc c a ca b cb N l m M B A)(F:N.deg=cA)(G:r.K=4):
 gA prog 88 #[qA (bA ⟨D,0,aA⟩)] w λe Q=>GF (dK c N r) D r sa sc c l Lo w0 e Q:=by
 rw[aTp F G];have u:=yA (xk c a b ca cb N w.drew ⟨h.node.files,h.fit,h.node.tens,h.bulk,h.rng,h.lsn,h.now⟩ (h.pow.z h.base.drew));have J:=yA (λW y j z k M x(i:kB w W)=>UY (a':=y) (ca':=j) (b':=z) (cb':=k) (M:=M) (x:=x) (h.dsk.z i));have I:=yA (λW e o q V v s(i:kB w W)=>h.made (bB.of i) (V:=V) (v:=v) (s:=s) (e:=e) (w1:=o) (w2:=q));have U:=fI h.dsk;have R:=iF a ca b cb N;clear h F G;unfold jw NaV oF at u;generalize GN c N=V at *;go_enter func88,ntmps88;go_upto_region 1 with fail;go_region_law (first
  |(refine bD (f:=139) (args:=#[rA #[lA mA c.w,lA mA c.tl,lA mA c.ml,lA mA c.sh,lA mA c.ha,lA mA c.sg],rA (dC a ca b cb N)]) rfl (by go_simp) ?_;refine u.o.mono ?_;rintro e o ⟨K,O,L,P,rfl,E,i⟩;have H:=yA E;have t:xA (kB w o):=oB eD.drew i;clear E i;refine⟨_,rfl,?_⟩)
  |(refine bD (f:=138) (args:=#[qA (bA ⟨D,0,aA⟩),rA (dC K O L P V.1),lA mA V.2]) rfl (by go_simp) ?_;apply aC (J.o _ _ _ _ _ _ _ t.o);rintro q ⟨C,d⟩;have n:=yA (Vc C d);clear C d;refine⟨_,rfl,?_⟩)
  |(refine bD (f:=35) (args:=#[lA mA (oS V.1 V.2)]) rfl (by go_simp) ?_;apply aC (tQ _ _);intro T i;replace i:=yA i;refine⟨_,rfl,?_⟩))
 all_goals
  go_wp2;go_ret;have S:=n.o.2.size;exact I.o w (sA undef) _ _ _ undef _ eD ⟨_,_,_,_,rfl,n.o.1,(H.o.turned n.o.2 (λg p _ e=>by have:=(show w.1.size<=g from p.1);omega)).mono λg p=>⟨p.1,by omega⟩,(bB.of t.o).trans' n.o.2⟩ i.o
end
end
section
open Go.Maps
section
variable {w0 w W:eA} {D Lo:Nat} {r:xG} {sa:iC} {sc:Nat} {c:lC} {a:iC} {ca:Nat} {b:iC} {cb:Nat} {N:oC} {l m M:Nat} {B A:Nat→Prop}
theorem jo(v:Int)(W:eA):qD 142 #[lA mA v] W (nA (pB 8 v)):=gO (k:=8) (La (La ⟨rfl,rfl⟩)) v W
theorem aNs{c:lC}{t:aB}{d:gB}:0<=(kE c t d).1:=by
 unfold kE;split<;>simp
theorem aUb{W:eA}{x y z:gB}(h:x.size+y.size+z.size<=100000):gA prog 137 #[oA (bA ⟨W.1.size,0,aA⟩) 3 3] (W.alloc (tA #[nA x,nA y,nA z] 9)) λe f=>e=sA (nA (x++y++z))/\kB W f:=by
 have i:=iB.new W #[nA x,nA y,nA z] 9;refine(lI W.1.size 3 3 [x,y,z] _ rfl (λj q d=>?_) (by simp) (by simp) (by simp) (by simp[wF];omega)).mono ?_
 .rw[Ya,i.cell];match j,d with
  |0,d|1,d|2,d=>simp at d;subst d;rfl
 rintro e f ⟨rfl,g⟩;exact⟨by simp[lF,Wa],oB vB g⟩
theorem vv(h:oV Lo w0 w D r sa sc c a ca b cb N l m M B A)(t:r.K=5)(u:tC r.T=dA)(x:r.T.size+r.R.size<=200000):
 gA prog 89 #[qA (bA ⟨D,0,aA⟩)] w λe F=>GF (dK c N r) D r sa sc c l Lo w0 e F:=by
 rw[aTq h.st t u aNs];have p:=h.tabs (bB.of (Below.refl _ w));have o:=yA (λW s(d:kB w W)=>h.same (bB.of d) (s:=s));have n:=yA (uT r.R w (by omega) p.1);have v:=yA (λW(d:kB w W)=>aDt l m r.T r.R c N.now B N.ts M W (h.led.z d) (by unfold maxLen;omega) (by unfold maxLen;omega) (aRy h.st _));have k:=yA (λW(d:kB w W)=>fI (h.dsk.z d));have y:=qB 1 0;have z:=qB 8 (kE c (bC N.ts r.T) r.R).1;have E:=qB 8 (kE c (bC N.ts r.T) r.R).2;clear h t u x p;generalize kE c (bC N.ts r.T) r.R=C at *;generalize (r.R.toList.isEmpty||yE r.R)=q at *;have j:=k.o _ eD;go_enter func89,ntmps89;go_wp2_with fail;apply aC n.o;intro H d;have i:=yA d;clear d j n;have j:=k.o _ i.o;cases q
 .go_wp2_with (first|(go_at_call 35;apply aC (tQ _ _);intro G d;replace d:=yA d));go_ret;exact o.o _ _ (oB i.o d.o)
 go_upto_region 3 with fail;go_region_law (refine bD (f:=141) (args:=#[qA (bA ⟨l,0,aA⟩),nA r.T,nA r.R]) rfl (by go_simp) ?_;apply aC (v.o _ i.o.drew);intro G d;have g:=yA (oB i.o.drew d);clear d;refine⟨_,rfl,?_⟩)
 all_goals
  clear j;go_wp2_with(first
   |(go_at_call 35;apply aC (tQ _ _);intro I d;replace g:=yA (oB g.o d);clear d)
   |(go_at_call 142;apply aC (jo _ _);intro J d;replace g:=yA (oB g.o d);clear d)
   |(go_at_call 137;refine aC (aUb (by omega)) ?_;intro K d;replace d:=yA d))
  go_ret;exact o.o _ _ (oB g.o d.o)
end
end
section
open Go.Maps
section
variable {w0 w W:eA} {D Lo:Nat} {r:xG} {sa:iC} {sc:Nat} {c:lC} {a:iC} {ca:Nat} {b:iC} {cb:Nat} {N:oC} {l m M:Nat} {B A:Nat→Prop}
theorem aEa(h:oV Lo w0 w D r sa sc c a ca b cb N l m M B A)(hk:r.K=6)(ht:tC r.T=dA)(hz:r.T.size<=200000):
 gA prog 90 #[qA (bA ⟨D,0,aA⟩)] w λe I=>GF (dK c N r) D r sa sc c l Lo w0 e I:=by
 rw[aTr hk ht];obtain⟨z1,z2⟩:(vA (bC N.ts r.T).M<=2000000/\∀i(h:i<vA (bC N.ts r.T).M),(bC N.ts r.T).M[i].s.size<=1900000)/\(vA (bC N.ts r.T).Z<=2000000/\∀i(h:i<vA (bC N.ts r.T).Z),(bC N.ts r.T).Z[i].s.size<=1900000):=by
  have d:=h.bulk;obtain⟨_,q1,q2,q3,q4⟩:=LV (tenant:=r.T) (wX (ts:=N.ts) (by omega)) (by omega);exact⟨⟨by omega,λi E=>q1 _ (Gb E)⟩,by omega,λi E=>q2 _ (Gb E)⟩
 have HS:=yA (λW s(d:kB w W)=>h.same (bB.of d) (s:=s));have HF:=yA (λW(d:kB w W)=>mx l m r.T c N.now B N.ts M W (h.led.z d) (by unfold maxLen;omega));have HT:=yA (λW x S P(E:uD W S x (bC N.ts r.T) P)=>ub x r.T (bC N.ts r.T) S P W E (λi h=>by have:=z1.2 i h;unfold maxLen;omega) (λi h=>by have:=z2.2 i h;unfold maxLen;omega) z1.1 z2.1);have V:=yA (λW(d:kB w W)=>fI (h.dsk.z d));have HZ:=yA z2.2;have hl:=z2.1;clear h hk ht hz z1 z2;unfold bp at HF;generalize bC N.ts r.T=t at *;generalize N.now=j at *;obtain⟨VV,EV⟩:∃v,v=pB 1 0++pB 8 j++pB 4 (vA t.Z:Nat)++qG t.Z:=⟨_,rfl⟩
 rw[<-EV];replace EV:=yA EV;have T:=V.o _ eD;go_enter func90,ntmps90;go_upto_region 1 with fail;go_cut [3,4] (λx y wx=>∃x' b S P,x=qA (bA ⟨x',0,aA⟩)/\y=pA b/\uD wx S x' t P/\iB wx l (oW c j m) 154/\kB w wx)
 case first=>
  go_region_law (refine bD (f:=143) (args:=#[qA (bA ⟨l,0,aA⟩),nA r.T]) rfl (by go_simp) ?_;refine(HF.o _ eD.drew).mono ?_;rintro e w1 ⟨x,y,S,P,rfl,E,Z,d⟩;have E1:=yA (Vc E (Vc Z (oB eD.drew d)));clear E Z d;refine⟨_,rfl,?_⟩)
  all_goals(go_wp2;go_meet)
  all_goals exact⟨_,_,_,_,rfl,rfl,E1.o⟩
 obtain⟨x,y,S,P,rfl,rfl,E,Z,d⟩:=hcut;rename eA=>w1;have HI:=yA E;have L1:=yA Z;have B1:=yA d;clear E Z d T HF;have T:=V.o _ B1.o;have fs:=SA;go_wp2_with fail;refine(HT.o _ _ _ _ HI.o).mono ?_;rintro e F ⟨v1,v2,M2,rfl,_,_,_,_,ho,d⟩;obtain⟨a2,d2,rfl⟩:=pQ ho;have PS:=yA (zD ho).pairs;have L2:=yA (L1.o.z d);have B2:=yA (oB B1.o d);clear ho d T HI L1 B1 HT;have T:=V.o _ B2.o;go_upto_region 3 with fail;have hz1:=qB 1 0;have hz2:=qB 8 j;have hz3:=qB 4 (vA t.Z:Nat);have u:=yA (λW(d:kB F W)=>(⟨(V.o W (oB B2.o d)).1.2.2.2.2.2.2.2.2.2.2.2.2.2.2.2.2.2.2.2.2.2.2.2.2.2,(L2.o.z d).cell 6⟩:cC W D 25 (qA (bA ⟨l,0,aA⟩))/\cC W l 6 (lA mA j)));have xy:=(u.o _ eD).2;go_cut [6] (λs wx=>∃g,s=oA (bA ⟨g,0,aA⟩) 3 3/\TE F wx g 3 [pB 1 0,pB 8 j,pB 4 (vA t.Z:Nat)])
 case first=>
  go_region_held3 (λW=>W.cell? ⟨D,25,aA⟩=bA (qA (bA ⟨l,0,aA⟩))/\W.cell? ⟨l,6,aA⟩=bA (lA mA j))
   (first|go_keep|with_reducible exact u.o _ k4|with_reducible exact u.o _ k3|with_reducible exact u.o _ k2|with_reducible exact u.o _ eD.drew)
   (first
    |(go_at_call 35;apply aC (tQ _ _);intro w3 L;have k2:kB F w3:=(by exact oB eD.drew L))
    |(go_at_call 142;apply aC (jo _ _);intro w4 O;have k3:kB F w4:=(by exact oB k2 O))
    |(go_at_call 145;apply aC (fR _ _);intro w5 hb5;have k4:kB F w5:=(by exact oB k3 hb5)))
  all_goals(go_wp2_with fail;go_meet)
  all_goals exact⟨_,rfl,⟨rfl,La ⟨_,3,_,rfl,k4.size,heap_alloc_new _ _,Ia _,by simp[maxLen],rfl,rfl⟩⟩,oB k4 vB⟩
 obtain⟨g0,rfl,h0⟩:=hcut;rename eA=>w3;have H3:=yA h0;clear T xy h0 u V fs L2;generalize pB 1 0=N1 at *;generalize pB 8 j=N2 at *;generalize pB 4 (vA t.Z:Nat)=N3 at *;generalize t.Z=ss at *;go_wp2;go_loopw [6,8,45] (λout _ i wr=>∃(k:Nat)(p:List gB)(g cv:Nat),k<=vA ss/\i=lA mA k/\out=oA (bA ⟨g,0,aA⟩) (vA p) cv/\vA p<=3+2*k/\wF p<=100+k*2000000/\xA (p=[N1,N2,N3]++kP (ss.take k))/\xA (TE F wr g cv p)) (λ_ _ i _=>vA ss-(intOf i).toNat)
 case atStart=>exact⟨0,[N1,N2,N3],_,_,Oa _,rfl,rfl,by simp,by simp[wF];omega,by refine yA ?_;simp[kP],H3.o⟩
 case round=>
  clear H3;obtain⟨k,p,g,cv,hk,rfl,rfl,hpl,hps,HR,H⟩:=hrel;by_cases G:k<vA ss
  .obtain ⟨b,o,rfl,d,c0,c1'⟩:=(PS.o.z H.o.bel).at G;have X:=yA (λW=>yL ss[k].s W (by have:=HZ.o k G;omega));have HX:=yA (show p++[qF ss[k].s,pB 8 ss[k].n]=[N1,N2,N3]++kP (ss.take (k+1)) by rw[NH ss k G,HR.o,Nd]);have hq3:=uF ss[k].s;have hq4:=qB 8 ss[k].n;have hq5:=HZ.o k G;have HN8:=yA (λW=>jo ss[k].n W);generalize qF ss[k].s=S3 at *;generalize pB 8 ss[k].n=S4 at *;generalize ss[k].s=R at *;generalize ss[k].n=Q at *;have U:=yA (iB.new wr #[nA R,lA mA Q] 88);have H1:=yA (H.o.z (yG wr (tA #[nA R,lA mA Q] 88)));have hgB:=(oG H.o.row).2.1;clear HR H;go_upto_region 7 with fail;generalize wr.alloc (tA #[nA R,lA mA Q] 88)=W at *;have hBX:=zA U.o;clear d c0 c1';generalize wr.1.size=K at *;clear wr;have C:xA (∀I,kB W I->cC I K 0 (nA R)/\cC I K 1 (lA mA Q)):=λI h=>(U.o.z h).c2;have T:=C.o W eD;go_region_held3 (λI=>I.cell? ⟨K,0,aA⟩=bA (nA R)/\I.cell? ⟨K,1,aA⟩=bA (lA mA Q))
    (first|go_keep|exact J|exact C.o _ (z.alloc z.size _)|exact C.o _ z|exact C.o _ a0)
    (first
     |(go_at_call 146;apply aC (X.o _);intro w3 L;have a0:kB W w3:=(Below.refl _ W).drew.trans L)
     |(go_at_call 142;apply aC (HN8.o _);intro w4 O;have z:kB W w4:=oB a0 O)
     |(refine VE (by exact H1.o.z z) (by rfl) _ _ (by rfl) (by rfl) (by rfl) (by rfl) (by omega) ?_;intro g5 Y w5 H5 d0;have J:cC w5 K 0 (nA R)/\cC w5 K 1 (lA mA Q):=(by have q:=C.o _ z;have e0:=d0 K (by have:=z.size;omega) (by omega);exact⟨(eA.cell?_of_block e0).trans q.1,(eA.cell?_of_block e0).trans q.2⟩)))
   have hle:vA (p++[S3,S4])=vA p+2:=by simp
   have hsm:wF (p++[S3,S4])=wF p+(S3.size+S4.size):=by rw[nH];simp[wF]
   replace H5:=yA H5;rw[<-hle];clear J d0;generalize p++[S3,S4]=ps5 at *;go_wp2;exact⟨⟨k+1,ps5,g5,Y,by omega,by go_num,rfl,by omega,by omega,HX,H5⟩,by simp[intOf];omega⟩
  have E2:xA (lF p=VV):=by
   show _=_;rw[EV.o,HR.o,zF,mX,Ra (by omega)];simp[lF,Wa]
  obtain⟨hcv,hg,b0⟩:=oG H.o.row;have HJ:=yA (lI g (vA p) cv p wr rfl b0 hg hcv (by omega) (by omega));rw[E2.o]at HJ;clear b0;go_wp2_with fail;apply aC HJ.o;intro w4 d;replace d:=yA d;go_wp2;go_ret;exact HS.o _ _ (oB (oB B2.o H.o.bel) d.o)
end
end
def aBv(k:Nat)(r:Rd):(kD k r).2.rest.size<=r.rest.size:=by rw[kD];exact(sP k r).2.2
def RT.laterD{w w':eA}{B:Nat}{r:Rd}(h:RT w B r)(a:kB w w'):RT w' B r:=h.imp λ_ h=>h.z a
def tD.upToD{g:Nat}{w c d:eA}(h:tD g w c)(a:Below w.1.size c d):tD g w d:=
 ⟨a.os.trans h.os,a.tape.trans h.tape,a.output.trans h.output,Ua h.size a.size,λk b e=>(a.block k b).trans (h.block k b e)⟩
def qj(B:Nat)(r:Rd)(k:Nat)(w:eA)(a:RT w B r)(b:k<=8)(c:r.rest.size<=1000000000):
 gA prog 124 #[qA (bA ⟨B,0,aA⟩),lA mA (k:Nat)] w λe w'=>(e=sA (lA mA (nF (kD k r).1))/\(kD k r).2.H=cA/\RT w' B (kD k r).2/\tD B w w')\/(e=.panicked pX/\(kD k r).2.H=dA/\tD B w w'):=by
 cases h:(kD k r).2.H with
 |true=>exact(qk B r k w a b c h).mono λe w' q=>La ⟨q.1,rfl,q.2⟩
 |false=>exact(aBs B r k w a b c h).mono λe w' q=>Ca ⟨q.1,rfl,q.2⟩
def tp(B:Nat)(r:Rd)(k:Nat)(w:eA)(a:RT w B r)(b:k<=2)(c:r.rest.size<=1000000000):
 gA prog 126 #[qA (bA ⟨B,0,aA⟩),lA mA (k:Nat)] w λe w'=>(e=sA (nA (sC k r).1)/\(sC k r).2.H=cA/\RT w' B (sC k r).2/\tD B w w')\/(e=.panicked pX/\(sC k r).2.H=dA/\tD B w w'):=by grind [RT,sC,pX,aMj,aQd]
structure TG(w0 w':World)(B R1:Nat)(zs:Array Value)(t:TypeId)(r:Rd):Prop where
 Z:iB w' R1 zs t
 N:tD B w0 w'
 T:RT w' B r
section
variable {w0 w' w'':eA} {B R1:Nat} {zs:Array iA} {t:TypeId} {r r':Rd}
end
structure QG(w W:World)(B R Q:Nat)(cs sh:Array Value)(r:Rd):Prop where
 Z:iB W w.1.size #[lA mA 0,nA kA,nA kA,lA mA 0,oA aA 0 0] 60
 R:iB W R cs 60
 H:iB W Q sh 162
 T:RT W B r
 N:tD B w W
section
variable {w W W':eA} {B R Q:Nat} {cs sh:Array iA} {r r':Rd}
theorem QG.call(h:QG w W B R Q cs sh r)(c:B<w.1.size)(e:w.1.size<R)(d:R<Q)(a:tD B W W')(b:RT W' B r'):QG w W' B R Q cs sh r':=
 ⟨h.Z.but a (by omega),h.R.but a (by omega),h.H.but a (by omega),b,h.N.trans a⟩
theorem QG.set(h:QG w W B R Q cs sh r)(c:B<w.1.size)(b:w.1.size<R)(d:R<Q)(i:Nat)(v:iA):QG w (W.setCell ⟨R,i,aA⟩ v) B R Q (cs.setIfInBounds i v) sh r:=by
 have a:tD R W (W.setCell ⟨R,i,aA⟩ v):=(tD.refl R W).setCell i v;exact⟨h.Z.but a (by omega),h.R.set i v,h.H.but a (by omega),h.T.imp λ_ h=>h.but a (by omega),h.N.upToD (eD.setCell (by simpa using Vg b) v)⟩
end
def QH(B:Nat)(s:gB)(w:eA)(e:Ending)(b:eA):Prop:=
 (((1<=(uM s).1/\(uM s).1<=6)/\(bS s).2.H=cA)/\∃c a,e=sA (rA #[lA mA ((uM s).1:Nat),nA (mU s).1,nA (gU s).1,lA mA (bS s).1,.slice c (vA (qR s).1) a])/\rF b w.1.size c (qR s).1/\tD B w b)\/
 (¬((1<=(uM s).1/\(uM s).1<=6)/\(bS s).2.H=cA)/\e=.panicked pX/\tD B w b)
def aLv(B:Nat)(s:gB)(w:eA)(hB:RT w B ⟨s,cA⟩)(hs:s.size<=1000000000)(hT:wO w)(hBG:0≠B):
 gA prog 81 #[qA (bA ⟨B,0,aA⟩)] w λe o=>QH B s w e o:=by
 have A:B<w.1.size:=by obtain⟨t,h⟩:=hB;exact zA h
 have sM:(gU s).2.H=dA->(bS s).2.H=dA:=λh=>by rw[bS];split;exact aT h;exact h
 have sS:(qR s).2.H=dA->(bS s).2.H=dA:=λh=>sM (by rw[gU];split;exact vY h;exact h);have sT:(mU s).2.H=dA->(bS s).2.H=dA:=λh=>sS (by rw[qR];split;exact dU (k:=0) (by rw[iN,uu];exact aT h) _ (Oa _);exact h);have sK:(uM s).2.H=dA->(bS s).2.H=dA:=λh=>sT (by rw[mU];split;exact vY h;exact h);have zK:(uM s).2.rest.size<=1000000000:=by rw[uM];exact Ua (aBv 1 _) hs
 have zT:(mU s).2.rest.size<=1000000000:=by rw[mU];split;exact Ua (JT 1 _).2 zK;exact zK
 have zS:(qR s).2.rest.size<=1000000000:=by rw[qR];split;exact Ua (aCc _ _) (by rw[uu];exact Ua (aBv 2 _) zT);exact zT
 have zM:(gU s).2.rest.size<=1000000000:=by rw[gU];split;exact Ua (JT 2 _).2 zS;exact zS
 have hk:(uM s).1<256:=by rw[uM];exact FG 1 _
 have H0:=yA (λW h=>qj B ⟨s,cA⟩ 1 W h (by omega) hs);rw[show kD 1 ⟨s,cA⟩=uM s by rw[uM],tG (by omega)]at H0;have A1:xA (qU ((uM s).1:Nat)=dA/\(∀W,RT W B (uM s).2->gA prog 126 #[qA (bA ⟨B,0,aA⟩),lA mA 1] W λe o=>(e=sA (nA (mU s).1)/\(mU s).2.H=cA/\RT o B (mU s).2/\tD B W o)\/(e=.panicked pX/\(bS s).2.H=dA/\tD B W o))\/qU ((uM s).1:Nat)=cA/\(mU s).1=kA/\(mU s).2=(uM s).2):=by
  by_cases h:qU ((uM s).1:Nat)=dA
  .have e:mU s=sC 1 (uM s).2:=by rw[mU];exact Ma h
   exact Ca ⟨h,λW P=>by rw[e]at sT |-;exact(tp B _ 1 W P (by omega) zK).mono λe o q=>q.imp_right fun⟨a,b,c⟩=>⟨a,sT b,c⟩⟩
  have e:mU s=(kA,(uM s).2):=by rw[mU];exact Ja h
  exact La ⟨by simpa using h,by rw[e],by rw[e]⟩
 have A2:xA ((((uM s).1:Nat):Int)=1/\(∀W,RT W B (mU s).2->gA prog 127 #[qA (bA ⟨B,0,aA⟩)] W λe o=>(∃u n,e=sA (.slice u (vA (qR s).1) n)/\(qR s).2.H=cA/\rF o W.1.size u (qR s).1/\RT o B (qR s).2/\tD B W o)\/(e=.panicked pX/\(bS s).2.H=dA/\tD B W o))\/¬(((uM s).1:Nat):Int)=1/\(qR s).1=[]/\(qR s).2=(mU s).2):=by
  by_cases h:(uM s).1=1
  .have e:qR s=ur (mU s).2:=by rw[qR,Ma h,uu,ur,OH]
   exact Ca ⟨by omega,λW P=>by rw[e]at sS |-;exact(gx B _ W P zT).mono λe o q=>q.imp (fun⟨a,u,n,b,c⟩=>⟨u,n,b,a,c⟩) fun⟨a,b,c⟩=>⟨b,sS a,c⟩⟩
  have e:qR s=([],(mU s).2):=by rw[qR];exact Ja h
  exact La ⟨by omega,by rw[e],by rw[e]⟩
 have A3:xA (oU ((uM s).1:Nat)=dA/\(∀W,RT W B (qR s).2->gA prog 126 #[qA (bA ⟨B,0,aA⟩),lA mA 2] W λe o=>(e=sA (nA (gU s).1)/\(gU s).2.H=cA/\RT o B (gU s).2/\tD B W o)\/(e=.panicked pX/\(bS s).2.H=dA/\tD B W o))\/oU ((uM s).1:Nat)=cA/\(gU s).1=kA/\(gU s).2=(qR s).2):=by
  by_cases h:oU ((uM s).1:Nat)=dA
  .have e:gU s=sC 2 (qR s).2:=by rw[gU];exact Ma h
   exact Ca ⟨h,λW P=>by rw[e]at sM |-;exact(tp B _ 2 W P (by omega) zS).mono λe o q=>q.imp_right fun⟨a,b,c⟩=>⟨a,sM b,c⟩⟩
  have e:gU s=(kA,(qR s).2):=by rw[gU];exact Ja h
  exact La ⟨by simpa using h,by rw[e],by rw[e]⟩
 have A4:xA (zU ((uM s).1:Nat)=dA/\(∀W,RT W B (gU s).2->gA prog 124 #[qA (bA ⟨B,0,aA⟩),lA mA 8] W λe o=>(e=sA (lA mA (bS s).1)/\(bS s).2.H=cA/\RT o B (bS s).2/\tD B W o)\/(e=.panicked pX/\(bS s).2.H=dA/\tD B W o))\/zU ((uM s).1:Nat)=cA/\(bS s).1=0/\(bS s).2=(gU s).2):=by
  by_cases h:zU ((uM s).1:Nat)=dA
  .have e:bS s=(nF (kD 8 (gU s).2).1,(kD 8 (gU s).2).2):=by rw[bS];exact Ma h
   exact Ca ⟨h,λW P=>by rw[e];exact qj B _ 8 W P (by omega) zM⟩
  have e:bS s=(0,(gU s).2):=by rw[bS];exact Ja h
  exact La ⟨by simpa using h,by rw[e],by rw[e]⟩
 have HOK:=yA (λu n o(hk:1<=(uM s).1/\(uM s).1<=6)(h1:(bS s).2.H=cA) h2 h3=>show QH B s w (sA (rA #[lA mA ((uM s).1:Nat),nA (mU s).1,nA (gU s).1,lA mA (bS s).1,.slice u (vA (qR s).1) n])) o from Ca ⟨⟨hk,h1⟩,u,n,rfl,h2,h3⟩);have J:=yA (λo(h:(bS s).2.H=dA) h3=>show QH B s w (.panicked pX) o from La ⟨λq=>absurd (q.2.symm.trans h) (by decide),rfl,h3⟩);have BAK:=yA (λo(h:¬(1<=(uM s).1/\(uM s).1<=6)) h3=>show QH B s w (.panicked pX) o from La ⟨λq=>h q.1,rfl,h3⟩);have SK:=yA sK;generalize QH B s w=Post at *;clear sM sS sT sK zK zT zS zM hs;generalize uM s=X0 at *;generalize mU s=X1 at *;generalize qR s=X2 at *;generalize gU s=X3 at *;generalize bS s=X4 at *;obtain⟨k,r0⟩:=X0;obtain⟨T,r1⟩:=X1;obtain⟨S,r2⟩:=X2;obtain⟨M,r3⟩:=X3;obtain⟨N,r4⟩:=X4;dsimp only at *;have HB:=yA hB;have HT:=yA hT;clear hB hT;go_enter func81,ntmps81;go_wp2_with fail;refine(H0.o _ (HB.o.laterD vB)).mono ?_;rintro e w1 (⟨rfl,hs1,L,p⟩|⟨rfl,y,p⟩);rotate_left
 .exact ⟨rfl,J.o _ (SK.o y) ((tD.of vB).trans p)⟩
 have b1:=(tD.of (yG w (tA #[lA mA 0,nA kA,nA kA,lA mA 0,oA aA 0 0] 60))).trans p;have Z:=yA (iB.but (iB.new w #[lA mA 0,nA kA,nA kA,lA mA 0,oA aA 0 0] 60) p (by omega));have Y:=zA Z.o;go_wp2_with fail;apply aC (TF _ _);intro O K;have X:=yA ((iB.new w1 #[lA mA k,nA kA,nA kA,lA mA 0,oA aA 0 0] 60).z K);have N2:=b1.trans (tD.of (oB vB K));by_cases h6:1<=k/\k<=6;rotate_left
 .rw[Ub (by omega)];go_wp2_with fail;refine(IY _ _).mono ?_;rintro e I ⟨rfl,rfl⟩;exact⟨rfl,BAK.o _ h6 N2⟩
 rw[Ac (by omega)];go_wp2_with fail;apply lK (PK _ _);have t:=λj hj=>(HT.o.but N2 hBG).2 k j (by omega) hj;have f:cC O 0 (k*5) (pA (qU k)):=t 0 (by omega);have g:cC O 0 (k*5+1) (pA ((k:Int)==1)):=t 1 (by omega);have i:cC O 0 (k*5+2) (pA (oU k)):=t 2 (by omega);have l:cC O 0 (k*5+3) (pA (zU k)):=t 3 (by omega);have m:cC O 0 (k*5+4) (pA (shB k 4)):=t 4 (by omega);have x0:=X.o.cell 0;have U:=zA X.o;clear t;go_upto_region 4 with fail;have G:xA (QG w (O.alloc (tA #[pA (qU k),pA ((k:Int)==1),pA (oU k),pA (zU k),pA (shB k 4)] 162)) B w1.1.size O.1.size #[lA mA k,nA kA,nA kA,lA mA 0,oA aA 0 0] #[pA (qU k),pA ((k:Int)==1),pA (oU k),pA (zU k),pA (shB k 4)] r0):=
  ⟨(Z.o.z (oB vB K)).alloc _,X.o.alloc _,iB.new _ _ _,(L.laterD (oB vB K)).laterD vB,N2.trans (tD.of vB)⟩
 have z:=yA hs1;clear f g i l m x0 X Z N2 b1 p K L hs1 H0 HB HT SK BAK hk;generalize O.alloc (tA #[pA (qU k),pA ((k:Int)==1),pA (oU k),pA (zU k),pA (shB k 4)] 162)=W at *;generalize O.1.size=Q at *;generalize w1.1.size=R at *;clear w1 O;generalize shB k 4=b5 at *;obtain⟨y0,y1,y2,y3,y4⟩:=G.o.H.c5;go_upto_if 18 with fail;go_cut [] (λI=>QG w I B R Q #[lA mA k,nA T,nA kA,lA mA 0,oA aA 0 0] #[pA (qU k),pA ((k:Int)==1),pA (oU k),pA (zU k),pA b5] r1/\r1.H=cA)
 case first=>
  obtain⟨D,C⟩|⟨D,rfl,rfl⟩:=A1.o
  .rw[D]at y0 |-
   replace C:=yA C;go_wp2_with fail;refine(C.o _ G.o.T).mono ?_;rintro e x (⟨rfl,E,L,p⟩|⟨rfl,y,p⟩);rotate_left
   .exact ⟨rfl,J.o _ y (G.o.N.trans p)⟩
   replace G:=yA (G.o.call A Y U p L);have c0:=G.o.R.cell 1;have c1:=G.o.R.free 1;go_wp2;go_meet;exact⟨G.o.set A Y U 1 (nA T),E⟩
  rw[D]at y0 |-
  go_wp2;go_meet;exact⟨G.o,z.o⟩
 clear y0 y1 y2 y3 y4 G z A1 W;obtain⟨G,z⟩:=hcut;replace G:=yA G;replace z:=yA z;rename eA=>W;obtain⟨y0,y1,y2,y3,y4⟩:=G.o.H.c5;have P:=zA G.o.H;go_upto_if 23 with fail;go_cut [] (λI=>∃u n,QG w I B R Q #[lA mA k,nA T,nA kA,lA mA 0,oA u (vA S) n] #[pA (qU k),pA ((k:Int)==1),pA (oU k),pA (zU k),pA b5] r2/\r2.H=cA/\rF I (Q+1) u S)
 case first=>
  obtain⟨D,C⟩|⟨D,rfl,rfl⟩:=A2.o
  .rw[Lg.2 D]at y1 |-
   replace C:=yA C;go_wp2_with fail;refine(C.o _ G.o.T).mono ?_;rintro e x (⟨u,n,rfl,E,ho,L,p⟩|⟨rfl,y,p⟩);rotate_left
   .exact ⟨rfl,J.o _ y (G.o.N.trans p)⟩
   replace G:=yA (G.o.call A Y U p L);have c0:=G.o.R.cell 4;have c1:=G.o.R.free 4;go_wp2;go_meet;exact⟨u,n,G.o.set A Y U 4 (oA u (vA S) n),E,(ho.mono (by omega)).but ((tD.refl R x).setCell 4 _) (by omega)⟩
  rw[beq_false_of_ne D]at y1 |-
  go_wp2;go_meet;exact⟨aA,0,G.o,z.o,Ca rfl⟩
 clear y0 y1 y2 y3 y4 G z A2 W P;obtain⟨u,n,G,z,F⟩:=hcut;replace G:=yA G;replace z:=yA z;replace F:=yA F;rename eA=>W;obtain⟨y0,y1,y2,y3,y4⟩:=G.o.H.c5;go_upto_if 28 with fail;go_cut [] (λI=>QG w I B R Q #[lA mA k,nA T,nA M,lA mA 0,oA u (vA S) n] #[pA (qU k),pA ((k:Int)==1),pA (oU k),pA (zU k),pA b5] r3/\r3.H=cA/\rF I (Q+1) u S)
 case first=>
  obtain⟨D,C⟩|⟨D,rfl,rfl⟩:=A3.o
  .rw[D]at y2 |-
   replace C:=yA C;go_wp2_with fail;refine(C.o _ G.o.T).mono ?_;rintro e x (⟨rfl,E,L,p⟩|⟨rfl,y,p⟩);rotate_left
   .exact ⟨rfl,J.o _ y (G.o.N.trans p)⟩
   replace G:=yA (G.o.call A Y U p L);have c0:=G.o.R.cell 2;have c1:=G.o.R.free 2;go_wp2;go_meet;exact⟨G.o.set A Y U 2 (nA M),E,(F.o.but p (by omega)).but ((tD.refl R x).setCell 2 _) (by omega)⟩
  rw[D]at y2 |-
  go_wp2;go_meet;exact⟨G.o,z.o,F.o⟩
 clear y0 y1 y2 y3 y4 G z F A3 W;obtain⟨G,z,F⟩:=hcut;replace G:=yA G;replace z:=yA z;replace F:=yA F;rename eA=>W;obtain⟨y0,y1,y2,y3,y4⟩:=G.o.H.c5;go_upto_if 33 with fail;go_cut [] (λI=>QG w I B R Q #[lA mA k,nA T,nA M,lA mA N,oA u (vA S) n] #[pA (qU k),pA ((k:Int)==1),pA (oU k),pA (zU k),pA b5] r4/\r4.H=cA/\rF I (Q+1) u S)
 case first=>
  obtain⟨D,C⟩|⟨D,rfl,rfl⟩:=A4.o
  .rw[D]at y3 |-
   replace C:=yA C;go_wp2_with fail;refine(C.o _ G.o.T).mono ?_;rintro e x (⟨rfl,E,L,p⟩|⟨rfl,y,p⟩);rotate_left
   .exact ⟨rfl,J.o _ y (G.o.N.trans p)⟩
   replace G:=yA (G.o.call A Y U p L);have c0:=G.o.R.cell 3;have c1:=G.o.R.free 3;go_wp2;go_meet;exact⟨G.o.set A Y U 3 (lA mA N),E,(F.o.but p (by omega)).but ((tD.refl R x).setCell 3 _) (by omega)⟩
  rw[D]at y3 |-
  go_wp2;go_meet;exact⟨G.o,z.o,F.o⟩
 obtain⟨G,z,F⟩:=hcut;replace G:=yA G;rename eA=>V;obtain⟨x0,x1,x2,x3,x4⟩:=G.o.R.c5;obtain⟨z0,z1,z2,z3,z4⟩:=G.o.Z.c5;have zf:=G.o.Z.free;go_wp2;have HTE:=λa b c d e=>((((((bB.refl (·=w.1.size) V).setCell (Ca rfl) 0 a).setCell (Ca rfl) 1 b).setCell (Ca rfl) 2 c).setCell (Ca rfl) 3 d).setCell (Ca rfl) 4 e)
 refine bodyPost_ret (v:=?_) (by simp[results,results81,go_sem,z0,z1,z2,z3,z4];rfl) rfl (HOK.o u n _ h6 z ((F.but ((((((tD.refl w.1.size V).setCell 0 _).setCell 1 _).setCell 2 _).setCell 3 _).setCell 4 _) (by omega)).mono (by omega)) (G.o.N.upToD ((HTE _ _ _ _ _).below G.o.N.size λq hq e=>by omega)))
def GK(a c:Nat)(f g h i j k:iA)(u:TypeId)(d:iA)(b:List PanicEntry)(w:eA)(l:w.cell? ⟨a,0,aA⟩=bA f)(m:w.cell? ⟨a,1,aA⟩=bA g)(n:w.cell? ⟨a,2,aA⟩=bA h)(o:w.cell? ⟨a,3,aA⟩=bA i)(p:w.cell? ⟨a,4,aA⟩=bA j)(q:w.cell? ⟨c,0,aA⟩=bA k)(z:w.frozen? ⟨a,0,aA⟩=cA)(A:w.frozen? ⟨a,1,aA⟩=cA)(B:w.frozen? ⟨a,2,aA⟩=cA)(C:w.frozen? ⟨a,3,aA⟩=cA)(D:w.frozen? ⟨a,4,aA⟩=cA)(E:w.frozen? ⟨c,0,aA⟩=cA)(r:¬c=a):
 CallsD prog 80 #[qA (bA ⟨a,0,aA⟩),qA (bA ⟨c,0,aA⟩)] (.panicking ({ v:=.iface u d,recovered:=cA}:: b)) w λe x y=>
  e=sA (.tuple #[])/\x=.panicking ({ v:=.iface u d,recovered:=dA}:: b)/\y=(((((w.setCell ⟨a,0,aA⟩ (lA mA 0)).setCell ⟨a,1,aA⟩ (nA kA)).setCell ⟨a,2,aA⟩ (nA kA)).setCell ⟨a,3,aA⟩ (lA mA 0)).setCell ⟨a,4,aA⟩ (oA aA 0 0)).setCell ⟨c,0,aA⟩ (pA cA):=by
 refine callsD_of_wpS func80 rfl λF cs s=>?_;apply wpS_seq;apply wpS_region;simp[wpOpsS,go_sem,recoverD,s,ntmps80,Exit.thenS];refine wpS_cond (t:=dA) (by simp[Act.eval,Array.replicate]) ?_;simp only[Td];apply wpS_region;simp[wpOpsS,go_sem,l,m,n,o,p,q,z,A,B,C,D,E,bodyPostS,results,results80];rfl
def ld(p q:iA)(w:eA):
 CallsD prog 80 #[p,q] .returning w λe c d=>e=sA (.tuple #[])/\c=.returning/\d=w:=by
 refine callsD_of_wpS func80 rfl λa cs b=>?_;apply wpS_seq;apply wpS_region;simp[wpOpsS,go_sem,recoverD,b,ntmps80,Exit.thenS];refine wpS_cond (t:=cA) (by simp[Act.eval,Array.replicate]) ?_;simp only[Bd,Cf];refine wpS_of_wp (wp_skip ?_);cases a
 simp_all[bodyPostS,results,results80]
def eg(s:gB)(w:eA)(hs:s.size<=1048576)(hT:wO w):gA prog 36 #[nA s] w λe C=>tO s w e C:=by
 have N:xA (kB w (((w.alloc (tA #[lA mA 0,nA kA,nA kA,lA mA 0,oA aA 0 0] 60)).alloc (tA #[pA cA] 4)).alloc (tA #[nA s,pA cA] 158))):=(vB.trans (vB.mono (by simp))).trans (vB.mono (by simp;omega));have z:xA (gA prog 81 #[qA (bA ⟨w.1.size+1+1,0,aA⟩)] (((w.alloc (tA #[lA mA 0,nA kA,nA kA,lA mA 0,oA aA 0 0] 60)).alloc (tA #[pA cA] 4)).alloc (tA #[nA s,pA cA] 158)) λe C=>QH (w.1.size+1+1) s (((w.alloc (tA #[lA mA 0,nA kA,nA kA,lA mA 0,oA aA 0 0] 60)).alloc (tA #[pA cA] 4)).alloc (tA #[nA s,pA cA] 158)) e C):=
  aLv _ s _ ⟨_,by have:=iB.new ((w.alloc (tA #[lA mA 0,nA kA,nA kA,lA mA 0,oA aA 0 0] 60)).alloc (tA #[pA cA] 4)) #[nA s,pA cA] 158;simpa using this⟩ (by omega) (hT.z N.o) (by have:=hT.1;omega)
 have H:xA (∀l,tD (w.1.size+1+1) (((w.alloc (tA #[lA mA 0,nA kA,nA kA,lA mA 0,oA aA 0 0] 60)).alloc (tA #[pA cA] 4)).alloc (tA #[nA s,pA cA] 158)) l->iB l w.1.size #[lA mA 0,nA kA,nA kA,lA mA 0,oA aA 0 0] 60/\iB l (w.1.size+1) #[pA cA] 4/\kB w l):=λl n=>
  ⟨iB.but (((iB.new _ _ _).alloc _).alloc _) n (by omega),iB.but (by have:=(iB.new (w.alloc (tA #[lA mA 0,nA kA,nA kA,lA mA 0,oA aA 0 0] 60)) #[pA cA] 4).alloc (tA #[nA s,pA cA] 158);simpa using this) n (by omega),N.o.trans (n.below (by omega) (by simp;omega))⟩
 have hsz:(((w.alloc (tA #[lA mA 0,nA kA,nA kA,lA mA 0,oA aA 0 0] 60)).alloc (tA #[pA cA] 4)).alloc (tA #[nA s,pA cA] 158)).1.size=w.1.size+1+1+1:=by simp
 unfold QH at z;rw[hsz]at z;clear hsz;by_cases t:(1<=(uM s).1/\(uM s).1<=6)/\(bS s).2.H=cA;rotate_left
 .have E:xA (aG s=(⟨0,kA,kA,0,[]⟩,cA)):=df λh=>t ⟨h.1,h.2.1⟩;unfold tO;rw[E.o];go_enter_defers func36,ntmps36;go_wp2_with fail;refine z.o.mono ?_;rintro e l (⟨h,_⟩|⟨_,rfl,n⟩)
  .exact absurd h t
  obtain⟨k,O,U⟩:=H.o l n;refine leaves_cons (f:=80) (args:=#[qA (bA ⟨w.1.size,0,aA⟩),qA (bA ⟨w.1.size+1,0,aA⟩)]) (by simp) (by simp[go_sem]) ?_;refine(GK w.1.size (w.1.size+1) _ _ _ _ _ _ _ _ [] _ (k.cell 0) (k.cell 1) (k.cell 2) (k.cell 3) (k.cell 4) (O.cell 0) (k.free 0) (k.free 1) (k.free 2) (k.free 3) (k.free 4) (O.free 0) (by omega)).mono ?_;rintro e u' w'' ⟨rfl,rfl,rfl⟩;have y0:cC l w.1.size 0 (lA mA 0):=k.cell 0;have y1:cC l w.1.size 1 (nA kA):=k.cell 1;have y2:cC l w.1.size 2 (nA kA):=k.cell 2;have y3:cC l w.1.size 3 (lA mA 0):=k.cell 3;have y4:cC l w.1.size 4 (oA aA 0 0):=k.cell 4;have y5:cC l (w.1.size+1) 0 (pA cA):=O.cell 0;simp[Leaves,settle,results,results36,go_sem,y0,y1,y2,y3,y4,y5];exact⟨Ca rfl,((((((U.setCell (by simp) _).setCell (by simp) _).setCell (by simp) _).setCell (by simp) _).setCell (by simp) _).setCell (by simp) _)⟩
 have G:xA (∀W m j,jI W m (qR s).1->wO W->qD 83 #[rA #[lA mA ((uM s).1:Nat),nA (mU s).1,nA (gU s).1,lA mA (bS s).1,.slice m (vA (qR s).1) j]] W (nA (vN (af s)))):=λW m j h h2=>oa (af s) m j W h (Ua (aPs t.2) hs) h2;have Y:xA (∀W,kB w W->wO W):=λW h=>hT.z h;by_cases B:vN (af s)=s
 .have E:xA (aG s=(af s,dA)):=aJb ⟨t.1,t.2,B⟩;unfold tO;rw[E.o];rw[B]at G;clear B;unfold af;simp only;have y:xA (gA prog 81 #[qA (bA ⟨w.1.size+1+1,0,aA⟩)] (((w.alloc (tA #[lA mA 0,nA kA,nA kA,lA mA 0,oA aA 0 0] 60)).alloc (tA #[pA cA] 4)).alloc (tA #[nA s,pA cA] 158)) λe C=>∃m j,e=sA (rA #[lA mA ((uM s).1:Nat),nA (mU s).1,nA (gU s).1,lA mA (bS s).1,.slice m (vA (qR s).1) j])/\rF C (w.1.size+1+1+1) m (qR s).1/\tD (w.1.size+1+1) (((w.alloc (tA #[lA mA 0,nA kA,nA kA,lA mA 0,oA aA 0 0] 60)).alloc (tA #[pA cA] 4)).alloc (tA #[nA s,pA cA] 158)) C):=z.o.mono λe C h=>h.elim (λq=>q.2) (λq=>absurd t q.1);clear z t E;generalize (((uM s).1:Nat):Int)=K at *;generalize (mU s).1=x at *;generalize (gU s).1=u at *;generalize (bS s).1=v at *;generalize (qR s).1=r at *;go_enter_defers func36,ntmps36;go_wp2_with fail;refine y.o.mono ?_;rintro e l ⟨m,j,rfl,M,n⟩;obtain⟨J,L,F⟩:=H.o l n;have k:=yA J;have O:=yA L;have U:=yA F;have Z:=yA M;clear J L F M n y H N;have y0:cC l w.1.size 0 (lA mA 0):=k.o.cell 0;have a:=k.o.free 0;have y1:cC l w.1.size 1 (nA kA):=k.o.cell 1;have b:=k.o.free 1;have y2:cC l w.1.size 2 (nA kA):=k.o.cell 2;have c:=k.o.free 2;have y3:cC l w.1.size 3 (lA mA 0):=k.o.cell 3;have d:=k.o.free 3;have y4:cC l w.1.size 4 (oA aA 0 0):=k.o.cell 4;have g:=k.o.free 4;go_wp2_with fail;have A:xA (iB ((((((l.setCell ⟨w.1.size,0,aA⟩ (lA mA K)).setCell ⟨w.1.size,1,aA⟩ (nA x)).setCell ⟨w.1.size,2,aA⟩ (nA u)).setCell ⟨w.1.size,3,aA⟩ (lA mA v)).setCell ⟨w.1.size,4,aA⟩ (oA m (vA r) j))) w.1.size #[lA mA K,nA x,nA u,lA mA v,oA m (vA r) j] 60):=yA (by have:=(((((k.o.set 0 (lA mA K)).set 1 (nA x)).set 2 (nA u)).set 3 (lA mA v)).set 4 (oA m (vA r) j));simpa using this);have Y3:xA (iB ((((((l.setCell ⟨w.1.size,0,aA⟩ (lA mA K)).setCell ⟨w.1.size,1,aA⟩ (nA x)).setCell ⟨w.1.size,2,aA⟩ (nA u)).setCell ⟨w.1.size,3,aA⟩ (lA mA v)).setCell ⟨w.1.size,4,aA⟩ (oA m (vA r) j))) (w.1.size+1) #[pA cA] 4):=yA (((((O.o.but ((tD.refl w.1.size _).setCell 0 _) (by omega)).but ((tD.refl w.1.size _).setCell 1 _) (by omega)).but ((tD.refl w.1.size _).setCell 2 _) (by omega)).but ((tD.refl w.1.size _).setCell 3 _) (by omega)).but ((tD.refl w.1.size _).setCell 4 _) (by omega));have V:xA (kB w ((((((l.setCell ⟨w.1.size,0,aA⟩ (lA mA K)).setCell ⟨w.1.size,1,aA⟩ (nA x)).setCell ⟨w.1.size,2,aA⟩ (nA u)).setCell ⟨w.1.size,3,aA⟩ (lA mA v)).setCell ⟨w.1.size,4,aA⟩ (oA m (vA r) j)))):=yA (((((U.o.setCell (by simp) _).setCell (by simp) _).setCell (by simp) _).setCell (by simp) _).setCell (by simp) _);have X:xA (rF ((((((l.setCell ⟨w.1.size,0,aA⟩ (lA mA K)).setCell ⟨w.1.size,1,aA⟩ (nA x)).setCell ⟨w.1.size,2,aA⟩ (nA u)).setCell ⟨w.1.size,3,aA⟩ (lA mA v)).setCell ⟨w.1.size,4,aA⟩ (oA m (vA r) j))) (w.1.size+1+1+1) m r):=yA (((((Z.o.but ((tD.refl w.1.size _).setCell 0 _) (by omega)).but ((tD.refl w.1.size _).setCell 1 _) (by omega)).but ((tD.refl w.1.size _).setCell 2 _) (by omega)).but ((tD.refl w.1.size _).setCell 3 _) (by omega)).but ((tD.refl w.1.size _).setCell 4 _) (by omega));clear k O U Z y0 y1 y2 y3 y4 a b c d g;generalize (((((l.setCell ⟨w.1.size,0,aA⟩ (lA mA K)).setCell ⟨w.1.size,1,aA⟩ (nA x)).setCell ⟨w.1.size,2,aA⟩ (nA u)).setCell ⟨w.1.size,3,aA⟩ (lA mA v)).setCell ⟨w.1.size,4,aA⟩ (oA m (vA r) j))=I at *;have P:cC I w.1.size 0 (lA mA K):=A.o.cell 0;have Q:cC I w.1.size 1 (nA x):=A.o.cell 1;have R:cC I w.1.size 2 (nA u):=A.o.cell 2;have S:cC I w.1.size 3 (lA mA v):=A.o.cell 3;have T:cC I w.1.size 4 (oA m (vA r) j):=A.o.cell 4;try go_wp2_with fail
  apply aC (G.o _ _ _ X.o.P (Y.o _ V.o));intro D o;have p:=yA (A.o.z o);have Y4:=yA (Y3.o.z o);have B4:=yA (oB V.o o);have O4:=yA (X.o.z o);clear A Y3 V X o G P Q R S T;have P:cC D w.1.size 0 (lA mA K):=p.o.cell 0;have a:=p.o.free 0;have Q:cC D w.1.size 1 (nA x):=p.o.cell 1;have b:=p.o.free 1;have R:cC D w.1.size 2 (nA u):=p.o.cell 2;have c:=p.o.free 2;have S:cC D w.1.size 3 (lA mA v):=p.o.cell 3;have d:=p.o.free 3;have T:cC D w.1.size 4 (oA m (vA r) j):=p.o.cell 4;have g:=p.o.free 4;have x5:cC D (w.1.size+1) 0 (pA cA):=Y4.o.cell 0;have i:=Y4.o.free 0;go_wp2_with fail;apply lK (PK _ _);go_wp2;refine leaves_cons (f:=80) (args:=#[qA (bA ⟨w.1.size,0,aA⟩),qA (bA ⟨w.1.size+1,0,aA⟩)]) (by simp) (by simp[go_sem]) ?_;refine(ld _ _ _).mono ?_;rintro e u' w'' ⟨rfl,rfl,rfl⟩;simp[Leaves,settle,results,results36,go_sem,P,Q,R,S,T,x5];exact⟨((((((O4.o.but ((tD.refl w.1.size _).setCell 0 _) (by omega)).but ((tD.refl w.1.size _).setCell 1 _) (by omega)).but ((tD.refl w.1.size _).setCell 2 _) (by omega)).but ((tD.refl w.1.size _).setCell 3 _) (by omega)).but ((tD.refl w.1.size _).setCell 4 _) (by omega)).but ((tD.refl (w.1.size+1) _).setCell 0 _) (by omega)).mono (by omega),((((((B4.o.setCell (by simp) _).setCell (by simp) _).setCell (by simp) _).setCell (by simp) _).setCell (by simp) _).setCell (by simp) _)⟩
 have E:xA (aG s=(⟨0,kA,kA,0,[]⟩,cA)):=df λh=>B h.2.2;unfold tO;rw[E.o];have hne:((vN (af s)).toList==s.toList)=cA:=by
  apply Yc.2;intro h;apply B;apply iZ;have:=eq_of_beq h;rw[ByteArray.toList_eq,ByteArray.toList_eq]at this;exact this
 clear B;generalize vN (af s)=EB at *;have y:xA (gA prog 81 #[qA (bA ⟨w.1.size+1+1,0,aA⟩)] (((w.alloc (tA #[lA mA 0,nA kA,nA kA,lA mA 0,oA aA 0 0] 60)).alloc (tA #[pA cA] 4)).alloc (tA #[nA s,pA cA] 158)) λe C=>∃m j,e=sA (rA #[lA mA ((uM s).1:Nat),nA (mU s).1,nA (gU s).1,lA mA (bS s).1,.slice m (vA (qR s).1) j])/\rF C (w.1.size+1+1+1) m (qR s).1/\tD (w.1.size+1+1) (((w.alloc (tA #[lA mA 0,nA kA,nA kA,lA mA 0,oA aA 0 0] 60)).alloc (tA #[pA cA] 4)).alloc (tA #[nA s,pA cA] 158)) C):=z.o.mono λe C h=>h.elim (λq=>q.2) (λq=>absurd t q.1);clear z t E;generalize (((uM s).1:Nat):Int)=K at *;generalize (mU s).1=x at *;generalize (gU s).1=u at *;generalize (bS s).1=v at *;generalize (qR s).1=r at *;go_enter_defers func36,ntmps36;go_wp2_with fail;refine y.o.mono ?_;rintro e l ⟨m,j,rfl,M,n⟩;obtain⟨J,L,F⟩:=H.o l n;have k:=yA J;have O:=yA L;have U:=yA F;have Z:=yA M;clear J L F M n y H N;have y0:cC l w.1.size 0 (lA mA 0):=k.o.cell 0;have a:=k.o.free 0;have y1:cC l w.1.size 1 (nA kA):=k.o.cell 1;have b:=k.o.free 1;have y2:cC l w.1.size 2 (nA kA):=k.o.cell 2;have c:=k.o.free 2;have y3:cC l w.1.size 3 (lA mA 0):=k.o.cell 3;have d:=k.o.free 3;have y4:cC l w.1.size 4 (oA aA 0 0):=k.o.cell 4;have g:=k.o.free 4;go_wp2_with fail;have A:xA (iB ((((((l.setCell ⟨w.1.size,0,aA⟩ (lA mA K)).setCell ⟨w.1.size,1,aA⟩ (nA x)).setCell ⟨w.1.size,2,aA⟩ (nA u)).setCell ⟨w.1.size,3,aA⟩ (lA mA v)).setCell ⟨w.1.size,4,aA⟩ (oA m (vA r) j))) w.1.size #[lA mA K,nA x,nA u,lA mA v,oA m (vA r) j] 60):=yA (by have:=(((((k.o.set 0 (lA mA K)).set 1 (nA x)).set 2 (nA u)).set 3 (lA mA v)).set 4 (oA m (vA r) j));simpa using this);have Y3:xA (iB ((((((l.setCell ⟨w.1.size,0,aA⟩ (lA mA K)).setCell ⟨w.1.size,1,aA⟩ (nA x)).setCell ⟨w.1.size,2,aA⟩ (nA u)).setCell ⟨w.1.size,3,aA⟩ (lA mA v)).setCell ⟨w.1.size,4,aA⟩ (oA m (vA r) j))) (w.1.size+1) #[pA cA] 4):=yA (((((O.o.but ((tD.refl w.1.size _).setCell 0 _) (by omega)).but ((tD.refl w.1.size _).setCell 1 _) (by omega)).but ((tD.refl w.1.size _).setCell 2 _) (by omega)).but ((tD.refl w.1.size _).setCell 3 _) (by omega)).but ((tD.refl w.1.size _).setCell 4 _) (by omega));have V:xA (kB w ((((((l.setCell ⟨w.1.size,0,aA⟩ (lA mA K)).setCell ⟨w.1.size,1,aA⟩ (nA x)).setCell ⟨w.1.size,2,aA⟩ (nA u)).setCell ⟨w.1.size,3,aA⟩ (lA mA v)).setCell ⟨w.1.size,4,aA⟩ (oA m (vA r) j)))):=yA (((((U.o.setCell (by simp) _).setCell (by simp) _).setCell (by simp) _).setCell (by simp) _).setCell (by simp) _);have X:xA (rF ((((((l.setCell ⟨w.1.size,0,aA⟩ (lA mA K)).setCell ⟨w.1.size,1,aA⟩ (nA x)).setCell ⟨w.1.size,2,aA⟩ (nA u)).setCell ⟨w.1.size,3,aA⟩ (lA mA v)).setCell ⟨w.1.size,4,aA⟩ (oA m (vA r) j))) (w.1.size+1+1+1) m r):=yA (((((Z.o.but ((tD.refl w.1.size _).setCell 0 _) (by omega)).but ((tD.refl w.1.size _).setCell 1 _) (by omega)).but ((tD.refl w.1.size _).setCell 2 _) (by omega)).but ((tD.refl w.1.size _).setCell 3 _) (by omega)).but ((tD.refl w.1.size _).setCell 4 _) (by omega));clear k O U Z y0 y1 y2 y3 y4 a b c d g;generalize (((((l.setCell ⟨w.1.size,0,aA⟩ (lA mA K)).setCell ⟨w.1.size,1,aA⟩ (nA x)).setCell ⟨w.1.size,2,aA⟩ (nA u)).setCell ⟨w.1.size,3,aA⟩ (lA mA v)).setCell ⟨w.1.size,4,aA⟩ (oA m (vA r) j))=I at *;have P:cC I w.1.size 0 (lA mA K):=A.o.cell 0;have Q:cC I w.1.size 1 (nA x):=A.o.cell 1;have R:cC I w.1.size 2 (nA u):=A.o.cell 2;have S:cC I w.1.size 3 (lA mA v):=A.o.cell 3;have T:cC I w.1.size 4 (oA m (vA r) j):=A.o.cell 4;try go_wp2_with fail
 apply aC (G.o _ _ _ X.o.P (Y.o _ V.o));intro D o;have p:=yA (A.o.z o);have Y4:=yA (Y3.o.z o);have B4:=yA (oB V.o o);have O4:=yA (X.o.z o);clear A Y3 V X o G P Q R S T;have P:cC D w.1.size 0 (lA mA K):=p.o.cell 0;have a:=p.o.free 0;have Q:cC D w.1.size 1 (nA x):=p.o.cell 1;have b:=p.o.free 1;have R:cC D w.1.size 2 (nA u):=p.o.cell 2;have c:=p.o.free 2;have S:cC D w.1.size 3 (lA mA v):=p.o.cell 3;have d:=p.o.free 3;have T:cC D w.1.size 4 (oA m (vA r) j):=p.o.cell 4;have g:=p.o.free 4;have x5:cC D (w.1.size+1) 0 (pA cA):=Y4.o.cell 0;have i:=Y4.o.free 0;go_wp2_with fail;refine(IY _ _).mono ?_;rintro e w4 ⟨rfl,hw⟩;replace hw:=hw.symm;subst hw;refine leaves_cons (f:=80) (args:=#[qA (bA ⟨w.1.size,0,aA⟩),qA (bA ⟨w.1.size+1,0,aA⟩)]) (by simp) (by simp[go_sem]) ?_;refine(GK w.1.size (w.1.size+1) _ _ _ _ _ _ _ _ [] _ P Q R S T x5 a b c d g i (by omega)).mono ?_;rintro e u' w'' ⟨rfl,rfl,rfl⟩;simp[Leaves,settle,results,results36,go_sem,P,Q,R,S,T,x5];exact⟨Ca rfl,((((((B4.o.setCell (by simp) _).setCell (by simp) _).setCell (by simp) _).setCell (by simp) _).setCell (by simp) _).setCell (by simp) _)⟩
