import Derived.Test.YtflbidbilgndeaaGreatDoorJ31
import Derived.Test.YtflbidbilgndeaaGreatDoorJ29
import Derived.Test.YtflbidbilgndeaaGreatDoorJ30
import Derived.Test.YtflbidbilgndeaaGreatDoorJ38
set_option maxRecDepth 100000
set_option maxHeartbeats 8000000
set_option linter.defProp false
open Bool renaming true->dA,false->cA
open ByteArray renaming empty->kA
open Option renaming some->bA,none->aA
open List renaming length->yA
namespace Go.Proofs.YtflbidbilgndeaaGreatDoor
open Go renaming Value->iA,World->eA,TypeId->jA,Calls->gA
open Value renaming slice->pA,string->oA,agg->tA,bool->qA,pointer->sA,int->lA,tuple->xA
open Obj renaming cells->vA
open Ending renaming returned->uA
open IntKind renaming i64->mA
open Go.RowKit Tryz
def nsn(h:jB)(r:xD):List xD:=if h.toList.isEmpty=dA then [] else [r]
def wrS(c:iC)(a:Int)(b:jB)(S:List fB×jB×List xD)(x:sF):List fB×jB×List xD:=
 ((vI c a S.1 b x).2.1,S.2.1++pB 1 ((vI c a S.1 b x).1:Nat),S.2.2++nsn (vI c a S.1 b x).2.2 ⟨1,b,(vI c a S.1 b x).2.2,0⟩)
def jL(c:iC)(a:Int)(b:jB)(d:List fB)(e:List sF):List fB×jB×List xD:=e.foldl (wrS c a b) (d,kA,[])
def TN{c:iC}{now:Int}{te:jB}{ts:List fB}(a:List sF)(k:Nat)(h:k<yA a):jL c now te ts (a.take (k+1))=wrS c now te (jL c now te ts (a.take k)) a[k]:=by
 rw[jL,Pa h,Dg];rfl
def aJp(l:dC):yR l<=255:=by
 unfold yR qP UJ;repeat' split
 all_goals simp
def oi(d:List dC):(xB d).2.1<=255:=by
 have a:∀(l:List dC)(i c j:Nat),jD l i=bA (c,j)->c<=255:=by
  intro l;induction l with
  |nil=>intro i c j h;cases h
  |cons x r b=>
   intro i c j h;rw[jD]at h;split at h;exact b _ _ _ h
   cases h
   exact aJp x
 unfold xB;split;simp;split
 .rename_i h;exact a _ _ _ _ h
 split;simp;split<;>simp
def qn{c:iC}{a:Int}{b:List fB}(h:nC c a b=dA)(d:jB)(x:sF):nC c a (vI c a b d x).2.1=dA/\yA (vI c a b d x).2.1+cC (vI c a b d x).2.1<=yA b+cC b+2+d.size+(qX x).size/\(vI c a b d x).2.2.size<=(qX x).size/\(vI c a b d x).1<=255:=by
 have j:(fJ (xB x.B).1).size<=(qX x).size:=by have:=XD (xB x.B).1;have:=DV x.B;have:=BN (ls:=x.B);have:=zP x;omega
 have k:ByteArray.empty.size=0:=rfl;have i:(xB x.B).2.1<=255:=oi _;have g:(cI c a b d (fJ (xB x.B).1)).2.2<=5:=by unfold cI;(repeat' split)<;>simp
 unfold vI;split;exact ⟨h,by dsimp only;omega,by dsimp only;omega,i⟩;split;exact ⟨h,by dsimp only;omega,by dsimp only;omega,by simp⟩;split
 .rename_i f;have e:=kY h ⟨1,d,fJ (xB x.B).1,0⟩;rw[ZG h]at f g |-
  exact⟨ur h f,by dsimp only[pE,Td]at e |-;rw[Ma rfl]at e;dsimp only at e;omega,j,by omega⟩
 exact ⟨h,by dsimp only;omega,by dsimp only;omega,by omega⟩
def aHr{c:iC}{a:Int}{f:List fB}(h:nC c a f=dA)(b:jB)(d:List sF)(k:Nat)(n:k<=yA d):nC c a (jL c a b f (d.take k)).1=dA/\yA (jL c a b f (d.take k)).1+cC (jL c a b f (d.take k)).1<=yA f+cC f+(iE (d.take k)).size+k*(b.size+2)/\(jL c a b f (d.take k)).2.1.size=k/\yA (jL c a b f (d.take k)).2.2<=k/\gD (jL c a b f (d.take k)).2.2<=(iE (d.take k)).size+k*b.size/\∀r∈(jL c a b f (d.take k)).2.2,r.K=1/\r.U=0:=by
 induction k with
 |zero=>exact⟨h,by simp[jL,iE],rfl,Ia _,by simp[jL,gD],λr e=>by cases e⟩
 |succ k i=>
  have g:k<yA d:=n;obtain⟨j,q,l,s,t,m⟩:=i (by omega);clear i;rw[TN d k g,aQ d k g,Ka];generalize jL c a b f (d.take k)=S at *;obtain⟨p,u,v,_⟩:=qn j b d[k];unfold wrS;generalize vI c a S.1 b d[k]=J at *;have o:yA (nsn J.2.2 ⟨1,b,J.2.2,0⟩)<=1/\gD (nsn J.2.2 ⟨1,b,J.2.2,0⟩)<=b.size+J.2.2.size/\∀r∈nsn J.2.2 ⟨1,b,J.2.2,0⟩,r.K=1/\r.U=0:=by
   unfold nsn;split;exact ⟨by simp,by simp[gD],λr e=>by cases e⟩;exact ⟨by simp,by simp[gD],λr e=>by rw[Uf.1 e];exact⟨rfl,rfl⟩⟩
  generalize nsn J.2.2 ⟨1,b,J.2.2,0⟩=Z at *;dsimp only;rw[Nat.succ_mul,Nat.succ_mul];refine⟨p,by omega,by rw[Ka,gB,l],by rw[Kb];omega,by rw[kU];omega,λr e=>?_⟩;rcases Ee.1 e with e|e;exact m r e;exact o.2.2 r e
def xP(c:iC)(N:wC)(r:gG):wC×jB:=
 if N.deg=dA/\r.K<=4 then(N,pB 1 3)
 else if (r.K≠2/\r.K≠4)/\bD r.T=cA then(N,pB 1 2)
 else if r.K=1 then
  if (jL c N.now r.T N.ts r.P).2.2=[] then(N,pB 1 0++pB 2 (yA r.P:Nat)++(jL c N.now r.T N.ts r.P).2.1)
  else((eG c N (jL c N.now r.T N.ts r.P).2.2).1,nN (eG c N (jL c N.now r.T N.ts r.P).2.2).1 (eG c N (jL c N.now r.T N.ts r.P).2.2).2 (pB 1 0++pB 2 (yA r.P:Nat)++(jL c N.now r.T N.ts r.P).2.1))
 else if r.K=2 then
  if (DN c N.now N.ts r.U).2.2=cA then(N,pB 1 2)
  else((eG c N [⟨2,kA,kA,r.U⟩]).1,nN (eG c N [⟨2,kA,kA,r.U⟩]).1 (eG c N [⟨2,kA,kA,r.U⟩]).2 (pB 1 0))
 else if r.K=3 then
  if (vS c N.now N.ts r.T r.R r.U).2.2=cA then(N,pB 1 2)
  else((eG c N [⟨3,r.T,r.R,r.U⟩]).1,nN (eG c N [⟨3,r.T,r.R,r.U⟩]).1 (eG c N [⟨3,r.T,r.R,r.U⟩]).2 (pB 1 0))
 else if r.K=4 then((NA c N).1,nN (NA c N).1 (NA c N).2 (pB 1 0))
 else if r.K=5 then
  if (oH c N.now N.ts r.T r.R).1<0 then(N,pB 1 2)
  else(N,pB 1 0++pB 8 (oH c N.now N.ts r.T r.R).1++pB 8 (oH c N.now N.ts r.T r.R).2)
 else(N,pB 1 0++pB 8 N.now++pB 4 (yA (aC N.ts r.T).Z:Nat)++mE (aC N.ts r.T).Z)
def aZ(c:iC)(N:wC)(r:gG):wC×jB:=if N.up=cA then(N,pB 1 4) else xP c N r
structure NdI(c:iC)(m:Nat)(N:wC):Prop where
 fit:JH N.d.fs
 st:nC c N.now N.ts=dA
 w:dG N.ts≤m
 lsn:0≤N.lsn∧N.lsn≤1000000000000000
section
variable {c:iC} {m k:Nat} {N:wC} {rs:List xD}
theorem NdI.mono(h:NdI c m N)(a:m<=k):NdI c k N:=⟨h.fit,h.st,Ua h.w a,h.lsn⟩
theorem aJz(i:lH c=dA)(h:NdI c m N)(o:yA rs<=500)(n:27*yA rs+gD rs<=k)(l:k<=65535):NdI c (m+k) (eG c N rs).1:=by
 have b:NdI c (m+k) N:=h.mono (by omega);rcases aPu (N:=N) (rs:=rs) i with⟨_,e⟩|⟨_,⟨_,e⟩|⟨a,⟨_,e⟩|⟨f,⟨_,e⟩|⟨_,e⟩⟩⟩⟩;rw[e];exact b;rw[e];exact b;rw[e];exact b;rw[e];exact b;rw[e];obtain⟨p,j⟩:=aHb (rs:=rs) h.st (by omega);have d:vF c N.now N.ts rs=nF c N.now N.ts rs:=by
  unfold vF at a |-
  rw[Ja (by rw[h.st];decide),Ja (by omega)]at a |-
  by_cases g:(nF c N.now N.ts rs).2.2=dA
  .rw[Ma g]
  rw[Ja g]at a;cases a
 rw[d]at a |-
 have q:=h.w;simp only[bC,Sa,Ab]at f;unfold ro;split;exact ⟨LJ h.fit,j a,by show dG (nF c N.now N.ts rs).2.1<=_;omega,by show 0<=N.lsn+1/\N.lsn+1<=1000000000000000;omega⟩;split;exact b;exact ⟨LJ h.fit,h.st,b.w,h.lsn⟩
theorem aMo(b:lH c=dA)(h:NdI c m N)(e:m<=1000000):NdI c m (NA c N).1:=by
 have f:=(IY (lsn:=N.lsn) h.st (Ua h.w e) h.lsn.1 h.lsn.2).2.1;have d:=h.w;have a:=vg _ _ h.fit (VO (K:=N.d) (L:=N.l) (text:=rI N.lsn N.now N.ts) (by omega));unfold NA;rw[Ja (by rw[b];decide)];split;exact h;split;exact h;split;exact h;split;exact h;split;exact ⟨a,h.st,h.w,h.lsn⟩;exact ⟨a,h.st,h.w,h.lsn⟩
end
def JJ(p:iA->Prop)(w:eA)(B:Nat)(T:jA)(sz:Nat)(v:iA)(n:Nat)(xs:List iA):Prop:=
 w.ownsRow B T sz v n xs/\v.ownBlock≠aA/\∀g j u,v.ownBlock=bA g->w.cell? (dB g j)=bA u->p u
section
variable {p:iA→Prop} {w w':eA} {B n:Nat} {T:jA} {sz:Nat} {v:iA} {xs:List iA}
theorem JJ.turn{S:Nat->Prop}(h:JJ p w B T sz v n xs)(c:eB S w w')(b:∀g,v.ownBlock=bA g->¬S g):JJ p w' B T sz v n xs:=
 ⟨c.row h.1 b,h.2.1,λg j u a d=>h.2.2 g j u a (by rw[<-eA.cell?_of_block (c.block g (h.1.lt g a).2 (b g a))];exact d)⟩
theorem JJ.z(h:JJ p w B T sz v n xs)(a:uB w w'):JJ p w' B T sz v n xs:=h.turn (eB.of a (S:=λ_=>False)) λ_ _ e=>e
theorem aHc{P:Program}{t L:jA}{i:TypeInfo}{z:iA}(N:P.underlying t=bA (.slice T))(M:P.info? T=bA i)(I:i.zero=bA z)(G:i.size=sz)(h:z.cells.size=sz)(h:JJ p w B T sz v n xs)
{C:Addr}{c:Nat}{a:List iA}(J:yA a=1*sz)(l:∀j u,a[j]?=bA u->w.cell? (C.add j)=bA u)(U:∀u∈a,u.oneCell'=dA)(V:n+1<=5000001)(F:(n+1)*i.bytes<=140737488355328)
{g E:Nat}(D:(Builtin.append_ #[t,t] L #[v,pA (bA C) 1 c]).run P w=.ok (pA (yB g) (n+1) E) w')(O:∀u∈a,p u)(S:∀u∈z.cells.toList,p u):∀j u,w'.cell? (dB g j)=bA u->p u:=by
 subst G;obtain⟨m,R,W⟩:=h;obtain⟨rfl,rfl⟩|⟨q,d,f,rfl,X,H,h,Y,G,s⟩:=m.2;exact absurd rfl R;have K:∀u∈f.toList,p u:=λu x=>by
  obtain⟨j,Z,e⟩:=Ib x;refine W q j u rfl ?_;rw[cell_of_row w q j f T (0,0) H,<-Yd,Va Z,e]
 by_cases o:n+1<=d
 .have y:n*i.size+yA a<=f.size:=by rw[J,G,<-Nat.add_mul];exact Nat.mul_le_mul_right _ o
  rw[run_append_room (P:=P) w t L T i N M q n d f H C 1 c a J l U o y]at D;injection D with e1 e2;obtain rfl:q=g:=by injection e1 with e1;injection e1 with e1;injection e1
  subst e2;intro j u x;rw[cell_of_row _ q j _ T (0,0) (setRow_heap w q f _ T _ H)]at x;have b:=Array.mem_of_getElem? x;simp only[List.mem_toArray,Ee]at b;rcases b with(b|b)|b;exact K u (Ce b);exact O u b;exact K u (Ng b)
 have r:∀j u,xs[j]?=bA u->w.cell? (((dB q 0):Addr).add j)=bA u:=m.cells (g:=q) rfl;rw[run_append_grow (P:=P) w t L T i z N M I (dB q 0) n d xs m.1 r C 1 c a J l (by omega) (by omega) (growslice_fits (by omega) F)]at D;injection D with e1 e2;obtain rfl:w.1.size=g:=by injection e1 with e1;injection e1 with e1;injection e1
 subst e2;intro j u x;rw[cell_of_row _ w.1.size j _ T (0,0) (heap_alloc_new w.drew _)]at x;have b:=Array.mem_of_getElem? x;simp only[Array.mem_append,List.mem_toArray]at b;rcases b with(b|b)|b;rw[<-s]at b;exact K u (Ce b);exact O u b;unfold Builtin.zeroCells at b;obtain⟨k,h,e⟩:=Array.mem_map.1 b;have I:=Array.mem_range.1 h;have A:0<z.cells.size:=Nat.pos_of_ne_zero λQ=>by rw[Q,Nat.mul_zero]at I;omega
 rw[getElem!_pos z.cells _ (Nat.mod_lt k A)]at e;exact S u (by rw[<-e];simp)
end
def xi{p:iA->Prop}{K:Array Oper}{f:List Oper}{o:Oper}{a:Act}{Q:Exit->Act->eA->Prop}{w:eA}(y:o.guard=aA)(s x:Operand){m T:jA}{z:iA}{sz b:Nat}
(V:o.op=.call { callee:=.builtin .append,args:=#[s,x],argTypes:=#[m,m] })(F:prog.underlying m=bA (.slice T))(r:(prog.info? T).map (λi=>(i.zero,i.size,i.bytes))=bA (bA z,sz,b))(G:z.cells.size=sz)(L:0<sz)(R:b<=100)
{B n:Nat}{v:iA}{xs:List iA}{cs:Array iA}(Z:a.eval s=v)(Y:JJ p w B T sz v n xs){q:Nat}(S:a.eval x=pA (yB q) 1 1)(X:w.1.size=q)(D:cs.size=sz)(A:∀u∈cs.toList,u.oneCell'=dA)(U:n<=5000000)(h:B<=w.1.size)(W:∀u∈cs.toList,p u)(pz:∀u∈z.cells.toList,p u)
(h:∀g c w',cB (JJ p w' B T sz (pA (yB g) (n+1) c) (n+1) (xs++cs.toList))->cB (eB (λi=>v.ownBlock=bA i) w w')->wpList prog K Q f (a.put o.dst (pA (yB g) (n+1) c)) w'):
 wpList prog K Q (o::f) a (w.alloc (vA cs T)):=by
 subst X;obtain⟨i,r,H,I,J⟩:=info_parts r;have E:(n+1)*b<=140737488355328:=Ua (Hf (Nat.add_le_add_right U 1) R) (by decide);have l:=Y.z (wF w (vA cs T));have k:∀j u,cs.toList[j]?=bA u->(w.alloc (vA cs T)).cell? (((dB w.1.size 0):Addr).add j)=bA u:=by
  have:=eA.news_of_block (cs:=cs) (t:=T) (fr:=(0,0)) (heap_alloc_new w (vA cs T));simpa using this
 obtain⟨g,c,w',d,M,N,O,O⟩:=run_append_lies (P:=prog) (w.alloc (vA cs T)) m o.type B T i z sz b F r H I J G L v n xs l.1 (dB w.1.size 0) 1 1 cs.toList (by simpa using D) k A (by omega) (by simp[maxLen];omega) E (by simp;omega) (w.1.size+1) (by simp);refine wpList_plain y λ_ O=>?_;unfold Oper.wp execOp;simp only[V,resolve,invoke,builtin,Sem.run_bind,Sem.run_pure,Result.andThen_ok,Hg,Fc,Ag,Z,S,d];refine O _ _ (h g c w' ⟨M,by simp[iA.ownBlock],λh j u C h=>?_⟩ ((eB.of (wF w (vA cs T))).trans' ((eB.grown N).mono λi _ e=>e)));simp only[iA.ownBlock,Qa]at C;subst C;exact aHc F r H I G l (by simpa using D) k A (by omega) (by rw[J];exact E) d W pz j u h
section
variable {w W:eA} {S:Nat→Prop} {p:iA→Prop}
def xp(p:iA->Prop):Prop:=(∀s,¬p (oA s))\/∀n,¬p (zA n)
theorem KA(i:∀g j u,S g->w.cell? (dB g j)=bA u->p u)(f:eB S w W)(a:xp p){b o k:Nat}{s:jB}{n:Int}(d:b<w.1.size)(h:w.cell? (dB b o)=bA (oA s))(l:w.cell? (dB b k)=bA (zA n)):b<W.1.size/\∀j,W.cell? (dB b j)=w.cell? (dB b j):=by
 have c:¬S b:=λe=>by
  obtain a|a:=a;exact a _ (i b o _ e h);exact a _ (i b k _ e l)
 exact⟨Bb d f.size,λj=>eA.cell?_of_block (f.block b d c)⟩
theorem tB.keptP(q:∀g j u,S g->w.cell? (dB g j)=bA u->p u)(m:eB S w W)(l:xp p){a:mC}{c:List iB}(h:tB w a c):tB W a c:=by
 obtain h|⟨b,o,e,d,h⟩:=h;exact Ca h
 cases c with
 |nil=>exact Ca rfl
 |cons f r=>
  obtain⟨s,t⟩:=KA q m l d (h 0 (by simp)).1 (h 0 (by simp)).2.2;exact La ⟨b,o,e,s,λi k=>by simp only[t];exact h i k⟩
theorem jC.keptP(q:∀g j u,S g->w.cell? (dB g j)=bA u->p u)(m:eB S w W)(l:xp p){a:mC}{c:List kB}(h:jC w a c):jC W a c:=by
 obtain h|⟨b,o,e,d,h⟩:=h;exact Ca h
 cases c with
 |nil=>exact Ca rfl
 |cons f r=>
  obtain⟨s,t⟩:=KA q m l d (h 0 (by simp)).1 (h 0 (by simp)).2;exact La ⟨b,o,e,s,λi k=>by simp only[t];exact h i k⟩
theorem xC.keptP(q:∀g j u,S g->w.cell? (dB g j)=bA u->p u)(m:eB S w W)(l:xp p){a:mC}{s:List fB}(h:xC w a s):xC W a s:=by
 obtain h|⟨b,o,e,F,h⟩:=h;exact Ca h
 cases s with
 |nil=>exact Ca rfl
 |cons f r=>
  obtain⟨_,_,_,_,d,k,_⟩:=h 0 (by simp);obtain⟨H,c⟩:=KA q m l F d k;refine La ⟨b,o,e,H,λi G=>?_⟩;obtain⟨t,y,x,z,A,d,k,C,D,E⟩:=h i G;exact⟨t,y,x,z,(c _).trans A,(c _).trans d,(c _).trans k,(c _).trans C,D.keptP q m l,E.keptP q m l⟩
end
def pZ(a b:mC)(f g:Nat)(N:wC)(w:eA):
 dF 226 #[tA (sC a f b g N)] w (qA (N.up&&!N.deg)):=by
 unfold sC;obtain⟨d,l,i,m,h,c,j⟩:=N;cases j<;>cases c
 all_goals(
  go_enter func226,ntmps226
  go_wp2
  go_ret
  exact⟨rfl,zB⟩)
def mX(a b:mC)(ca cb:Nat)(N:wC)(w:eA)(f:tB w a N.d.fs)(g:yA N.d.fs<=1048576)(h:xC w b N.ts)(c:yA N.ts<=2000000)(E:∀t∈N.ts,yA t.M<=2000000/\yA t.Z<=2000000):
 gA prog 24 #[tA (sC a ca b cb N)] w λe w'=>∃H B I D,e=uA (tA (sC H B I D N))/\wJ w' (λx=>w.1.size<=x/\x<w'.1.size) H I N/\uB w w':=by
 unfold sC;have i:=bB (λW(d:uB w W)=>VP a ca N.d.fs W (f.z d) g);have f:=bB (λW(d:uB w W)=>CO N.now b cb N.ts W (h.z d) c E);go_enter func24,ntmps24;go_wp2_with fail;refine(i.o _ (vB zB zB)).mono ?_;rintro e w1 ⟨v,rfl,J,A⟩;obtain⟨H,B,rfl,F⟩:=mH J;have R:=bB (((nB.new w _ _).alloc _).z A);have Y:=bB ((nB.new (w.alloc _) _ _).z A);simp only[eA.size_alloc]at Y F;have d:=bB (F.toA (Ia _));have U:=bB (vB (vB zB zB) A);have c:=A.size;simp only[eA.size_alloc]at c;have c:=R.o.n14;have j:=R.o.frees;go_wp2_with fail;refine aIi (C:=λW=>gA prog _ _ W _) R.o ?_;intro w2 X G;have Z:=bB (G.blk Y.o (by omega));have g:=bB (d.o.turned G (λx L _ e=>by omega));have d:=G.size;have V:=bB (U.o.trans (G.below (by have:=U.o.size;omega) (λk i e=>by omega)));refine(f.o _ V.o).mono ?_;rintro e l ⟨I,D,rfl,K,z⟩;have m:=bB (g.o.z z);have n:=bB (K.toA (Ia _));have h:=bB (vB V.o z);have d:=z.size;have c:=(X.z z).n14;have j:=(X.z z).frees;obtain⟨o,p,q,r,s,u,y,G,J,M,c,d,f,g⟩:=(Z.o.z z).n14;have O:=(Z.o.z z).frees;go_wp2;refine bodyPost_ret (v:=tA #[pA H (yA N.d.fs) B,zA N.d.c,zA N.d.k,zA N.d.cr,zA N.d.fl,qA N.d.dn,zA N.l.first,zA N.l.last,zA N.l.size,zA N.now,pA I (yA N.ts) D,zA N.lsn,qA N.deg,qA N.up]) (by simp[results,results24,go_sem,o,p,q,r,s,u,y,G,J,M,c,d,f,g]) rfl ?_;refine eB.end2 (S:=λx=>x=w.1.size\/x=w.1.size+1) (C:=λW=>∃a1 c1 c d,Ending.returned (tA #[pA H (yA N.d.fs) B,zA N.d.c,zA N.d.k,zA N.d.cr,zA N.d.fl,qA N.d.dn,zA N.l.first,zA N.l.last,zA N.l.size,zA N.now,pA I (yA N.ts) D,zA N.lsn,qA N.deg,qA N.up])=Ending.returned (tA #[pA a1 (yA N.d.fs) c1,zA N.d.c,zA N.d.k,zA N.d.cr,zA N.d.fl,qA N.d.dn,zA N.l.first,zA N.l.last,zA N.l.size,zA N.now,pA c (yA N.ts) d,zA N.lsn,qA N.deg,qA N.up])/\wJ W (λx=>w.1.size<=x/\x<W.1.size) a1 c N/\uB w W) l (by
  repeat (with_reducible first|exact eB.refl _ _|refine eB.setCell ?_ (Ca (by first|exact Ca rfl|exact La rfl)) _ _)) ?_
 intro c T;have c:=T.size;exact⟨_,_,_,_,rfl,⟨_,_,m.o.turned T (λx L _ e=>by omega),n.o.turned T (λx L _ e=>by omega),λx L=>by omega,λx L=>by omega,λx L e=>by omega⟩,h.o.trans (T.below (by have:=h.o.size;omega) (λk i e=>by omega))⟩
section
open Go.Maps
def aGb{win now:Int}{left:Lit->Bool}{a:List fB}(c:zC (·.N) a){t:fB}(d:t∈a)(b:left (kL t.N)=dA):
 wI win now (λs=>(λz=>left z&&!z.sameKey (kL t.N)) (kL s)) a=if cF (xE win now t)=dA then vE (·.N) t.N (wI win now (λs=>left (kL s)) a) else fC (·.N) (xE win now t) (wI win now (λs=>left (kL s)) a):=by grind [zC,kL,wI,cF,xE,vE,fC,rk,EX]
def aBe(l m:Nat)(j:Int)(c:iC)(f:Int)(o:List fB)(M:Nat)(B:Nat->Prop)(w0 w:eA)(h:jE w B l m c f o M)(h0:uB w0 w)(hA:∀g,w.1.size<=g->B g)(hA0:∀g,B g->w0.1.size<=g)(hU:uG w0)(hn0:0<=f)(hn1:f<=1000000000000)(hw0:1<=c.w)(hw1:c.w<=1000000000)(hM:M<=1000000000)(hsl:∀t∈o,yA t.Z<=1000000000)(hks:∀t∈o,∀p∈t.Z,p.s.size<=1000000000):
 gA prog 246 #[sA (bA ⟨l,0,aA⟩),lA mA j] w λe w'=>e=uA (qA (jK c.w f o j).2.2)/\jE w' B l m c (jK c.w f o j).1 (jK c.w f o j).2.1 M/\eB B w w':=by
 have b0:=bB h;have HA:=bB hA;have HA0:=bB hA0;obtain⟨T,L,h,hL⟩:=h;have C:cB (jK c.w f o j=if j<1\/1000000000000-f<j then(f,o,cA) else(f+j,aE c.w (f+j) o,dA)):=rfl;have x6:w.cell? ⟨l,6,aA⟩=bA (lA mA f):=h.blk.cell 6;generalize jK c.w f o j=R at *;by_cases h1:j<1
 .have P:cB (R=(f,o,cA)):=by show _=_;rw[C.o,Ma (Ca h1)]
  go_enter func246,ntmps246;go_wp2;go_ret;exact⟨oB (by rw[P.o]),by rw[P.o];exact b0.o,eB.refl _ _⟩
 by_cases h2:1000000000000-f<j
 .have P:cB (R=(f,o,cA)):=by show _=_;rw[C.o,Ma (La h2)]
  go_enter func246,ntmps246;go_wp2;go_ret;exact⟨oB (by rw[P.o]),by rw[P.o];exact b0.o,eB.refl _ _⟩
 have P:cB (R=(f+j,aE c.w (f+j) o,dA)):=by show _=_;rw[C.o,Ja (λe=>by obtain e|e:=e;exact h1 e;exact h2 e)]
 obtain⟨d,hnd⟩:∃d,d=f+j:=⟨_,rfl⟩
 rw[<-hnd]at P;have hb2:j<=1000000000000:=by omega
 have hnn:=hnd.symm;have hm0:0<=d:=by omega
 have hm1:d<=1000000000000:=by omega
 have hll:=aB h.blk;have hml:=h.ten.lt;have hB:=h0.size;have hlB:=h.lB;have HMB:=bB h.mB;have K:zC (·.N) o:=by rw[<-hL];exact(fY (key':=λt:fB=>t.N) (λp:fB×Nat=>p.1) (λ_=>rfl)).2 h.rise
 have ht1:eB (·=l) w (w.setCell ⟨l,6,aA⟩ (lA mA d)):=(eB.refl (·=l) w).setCell (Ca rfl) 6 _;have Z:cB (nB (w.setCell ⟨l,6,aA⟩ (lA mA d)) l (oW c d m) 160):=bB (by have:=h.blk.set 6 (lA mA d);simpa[oW]using this);have hsz:(w.setCell ⟨l,6,aA⟩ (lA mA d)).1.size=w.1.size:=by simp
 have H1:cB _:=(h.moved ht1 Z.o).trim;have HT1:cB (eB B w (w.setCell ⟨l,6,aA⟩ (lA mA d))):=ht1.mono λi _ e=>by rw[e];exact hlB
 have y7:(w.setCell ⟨l,6,aA⟩ (lA mA d)).cell? ⟨l,7,aA⟩=bA (.map (bA m)):=Z.o.cell 7;have b:=h.blk.free 6;have c0:cB _:=hL;have HUT:cB (∀W,eB B w W->uB w0 W):=λW hW=>h0.trans (hW.below hB λk hk hs=>by have:=HA0.o k hs;omega);have HR:=bB K;have HSL:=bB hsl;have HKS:=bB hks;have HUU:=bB hU;have HEX:cB _:=λW hb=>LF l m c d W hb hm0 hm1 hw0 hw1;clear h hL K ht1 hsl hks hU h0 hnd;go_enter func246,ntmps246;go_wp2_with(first|(at_range;refine wpList_range_own _ rfl _ 158 rfl 9 165 aM underlying158 tE m _ _ rfl H1.o.ten ?_;intro w2 I hg0 hs0)|go_in);try rw[hsz]at I
 have V:=bB I;have HT2:cB _:=HT1.o.trans' ((eB.grown hg0).mono λi _ e=>by cases e);have K0:cB (TkR c d o M B l m w.1.size (Maps.has (fE (L.map λp=>(p.1.N,mF p.2)))) w2):=by
  refine bB ⟨_,L,H1.o.keep λg hg _=>hg0.block g hg (by simp),?_,?_⟩;rw[aBj λt ht=>?_,c0.o];rw[af (key:=λp:fB×Nat=>p.1.N) (val:=λp=>mF p.2)];rw[<-c0.o]at ht;obtain⟨p,hp,rfl⟩:=Md.1 ht;rw[vM H1.o.rise hp];rfl;show (if w.1.size<(w.setCell ⟨l,6,aA⟩ (lA mA d)).1.size then T w.1.size else aA)=aA;rw[Ja (by omega)]
 generalize hnL:yA L=nL at *;generalize fE (L.map λp=>(p.1.N,mF p.2))=D0 at *;have hrl:l≠w.1.size:=by omega
 have hrm:m≠w.1.size:=by omega
 go_loopw [31] (λ_ wr=>∃(left:Lit->Bool)(cnt:Nat)(D:DataW Unit),cB (wr.ranges prog 9 tE m w.1.size nL D left cnt)/\cB (TkR c d o M B l m w.1.size left wr)/\cB (eB B w wr)) (λ_ wr=>wr.rangeLeft m w.1.size)
 case atStart=>exact⟨_,_,_,V.o,K0.o,HT2.o⟩
 case round=>
  obtain⟨left,cnt,D,E,HK,HT⟩:=hrel;go_wp2_with(first
   |(at_next;refine wpList_next_ranges _ rfl _ rfl 9 aM tE iA.string (λv:iA=>v) (λkey kl hk=>by obtain⟨x,hx,_⟩:=wy hk;exact⟨x,hx⟩) (λv y _=>⟨v,rfl⟩) m w.1.size nL _ _ _ rfl E.o ?_ ?_)
   |go_in)
  .intro hc0 hl0;have HEND:cB (jE wr B l m c d (aE c.w d o) M):=by
    obtain⟨X,L',k1,k2,_⟩:=HK.o;refine bB ⟨X,L',k1,?_⟩;rw[k2,rj λn=>hl0 _]
   go_wp2;go_ret;exact⟨oB (by rw[P.o]),by rw[P.o];exact HEND.o,HT.o⟩
  .intro s v kl yd yp w3 F H hlk hv hat J hlt hg3 hs3 hen;obtain⟨s',es,rfl,hss⟩:=wy H;obtain rfl:s=s':=by simpa using es
   obtain⟨X,L',k1,k2,k3⟩:=HK.o;obtain⟨p,hp,U,hpt,rfl⟩:=aHl (y:=(yd,yp)) k1 k2 E.o.owns hlk hv hat;have a:eB (·=w.1.size) wr w3:=(eB.grown hg3).mono λi _ e=>by simp only[Qa]at e;exact e.symm
   have k1':=k1.aside a k3 hrl hrm;have K1:=bB k1';have K2:=bB k2;have K3:=bB k3;have HP:=bB hp;have HPN:=bB U;have HPT:=bB hpt;have RG3:=bB J;have HKEY:=bB H;have T3:cB _:=HT.o.trans (a.mono λi _ e=>La (by omega));have HLB:cB (nB w3 l (oW c d m) 160):=k1'.blk;have HCN:cB _:=E.o.left_eq;have HDM:cB _:=vv E.o.owns k1.ten;have A:cB (wI c.w d (λs_1=>(λz=>left z&&!z.sameKey (kL s)) (kL s_1)) o=if cF (xE c.w d p.1)=dA then vE (·.N) s (wI c.w d (λs=>left (kL s)) o) else fC (·.N) (xE c.w d p.1) (wI c.w d (λs=>left (kL s)) o)):=by
    have:=aGb (win:=c.w) (now:=d) (left:=left) HR.o hpt (by rw[U];exact hlk);rw[U]at this;exact bB this
   have HRR:cB _:=J.lt;go_wp2_with fail;apply lC (HEX.o _ HLB.o);intro w4 G;have K4:cB _:=K1.o.keep λg hg _=>G.block g hg;have hs4:=G.size;have T4:cB _:=T3.o.trans' (eB.of G);have RG4:cB (w4.ranges prog 9 tE m w.1.size nL D (λz=>left z&&!z.sameKey (kL s)) F):=MG RG3.o (eB.of (S:=λ_=>False) G) (λe=>e) (λe=>e);have HXP:cB (gA prog 287 #[sA (bA ⟨p.2,0,aA⟩),lA mA (d-c.w)] w4 λe w'=>e=uA (xA #[])/\vD w' (λg=>(λg=>B g/\X g=bA p.2) g\/w4.1.size<=g) p.2 (xE c.w d p.1) M/\eB (λg=>B g/\X g=bA p.2) w4 w'):=pq p.2 p.1 c.w d (d-c.w) (λg=>B g/\X g=bA p.2) M w0 w4 (K4.o.idx p HP.o) (HUT.o w4 T4.o) HUU.o (λg hg=>HA0.o g hg.1) rfl (HSL.o p.1 HPT.o) hM (HKS.o p.1 HPT.o);go_wp2_with fail;apply lC HXP.o;rintro w5 ⟨hi5,N⟩;have HI5:=bB hi5;have HT5:=bB N;have O:cB (rL 146 #[sA (bA ⟨p.2,0,aA⟩)] w5 (qA (cF (xE c.w d p.1)))):=QS p.2 _ _ M w5 hi5;have Q:cB (w5.ranges prog 9 tE m w.1.size nL D (λz=>left z&&!z.sameKey (kL s)) F):=MG RG4.o N (λe=>by rw[K4.o.tm]at e;cases e.2) (λe=>by rw[K3.o]at e;cases e.2);have T5:cB _:=T4.o.trans' (N.mono λi _ e=>e.1);have x7:w5.cell? ⟨l,7,aA⟩=bA (.map (bA m)):=(N.blk K4.o.blk (λe=>by rw[K4.o.tl]at e;cases e.2)).cell 7;cases hidl:cF (xE c.w d p.1) with
   |true=>
    rw[hidl]at O A;rw[Ma rfl]at A;go_wp2_with fail;apply dR O.o;go_wp2_with(at_delete;refine wpList_delete_ranges _ rfl _ _ 158 9 rfl 165 aM underlying158 tE m w.1.size nL _ _ _ rfl Q.o _ _ rfl HKEY.o ?_;intro w6 cnt6 r hle6 u);rw[Maps.strike_twice]at r;have ht6:=eB.mapped u;have a0:cB (TkR c d o M B l m w.1.size (λz=>left z&&!z.sameKey (kL s)) w6):=by
     have Y:=r.owns;rw[HDM.o]at Y;refine bB ⟨X,_,mL.left (k:=s) (S:=(λg=>B g/\X g=bA p.2)) K4.o (λg hs q hq hne e=>?_) (λg _ hs e=>by rw[e]at hs;cases hs.2) HT5.o ht6 Y,?_,K3.o⟩;rw[hs.2]at e;have:=aT K4.o.nd hq HP.o (Lc e).symm;rw[this]at hne;exact hne HPN.o;rw[BO (key':=λt:fB=>t.N) (λp:fB×Nat=>p.1) (λ_=>rfl),K2.o];exact A.o.symm
    have HT6:cB _:=T5.o.trans' (ht6.mono λi _ e=>(show i=m from e) ▸ HMB.o);have RG6:=bB r;go_wp2;refine⟨⟨_,_,_,_,_,_,_,_,_,_,_,_,_,_,_,_,_,_,⟨_,cnt6,_,RG6.o,a0.o,HT6.o⟩,rfl⟩,by rw[RG6.o.left_eq,HCN.o];omega⟩
   |false=>
    rw[hidl]at O A;rw[Ja (by simp)]at A;have a0:cB (TkR c d o M B l m w.1.size (λz=>left z&&!z.sameKey (kL s)) w5):=by
     refine bB ⟨_,_,mL.turned (p:=p) (t':=xE c.w d p.1) K4.o (λg hg=>HA.o g (Ua T4.o.size hg)) HP.o rfl HT5.o HI5.o,?_,?_⟩;rw[xS (key':=λt:fB=>t.N) (λp:fB×Nat=>p.1) (λ_=>rfl),K2.o];exact A.o.symm;show (if w.1.size<w4.1.size then X w.1.size else bA p.2)=aA;rw[Ma (by have:=Q.o.lt;have:=HRR.o;omega)];exact K3.o
    go_wp2_with fail;apply dR O.o;go_wp2;exact⟨⟨_,F,_,Q.o,a0.o,T5.o⟩,by rw[Q.o.left_eq,HCN.o];exact hlt⟩
end
section
open Go.Maps
def AD(n:Nat)(w:eA):rL 158 #[zA n] w (qA (decide (n=1) ||decide (n=2))):=by
 by_cases a:n=1
 .subst a;go_enter func158,ntmps158;go_wp2;go_ret;exact⟨oB (by simp),rfl⟩
 have d:¬((n:Int)=1):=by omega
 by_cases b:n=2
 .subst b;go_enter func158,ntmps158;go_wp2;go_ret;exact⟨oB (by simp),rfl⟩
 have f:¬((n:Int)=2):=by omega
 have c:cB ((decide (n=1) ||decide (n=2))=cA):=by show _=_;simp[a,b]
 go_enter func158,ntmps158;go_wp2;go_ret;exact⟨oB (by rw[c.o];simp;omega),rfl⟩
def aQt(x:iA)(w:eA):(Instr.typeAssert (.iface 314 x) 271 314 dA).run prog w=.ok (xA #[x,qA dA]) w:=by kernel_rfl
def aQu(x:iA)(w:eA):(Instr.typeAssert (.iface 316 x) 271 314 dA).run prog w=.ok (xA #[tA #[zA 0,oA ⟨#[]⟩,oA ⟨#[]⟩],qA cA]) w:=by kernel_rfl
def aQv(x:iA)(w:eA):(Instr.typeAssert (.iface 316 x) 271 316 dA).run prog w=.ok (xA #[x,qA dA]) w:=by kernel_rfl
def aQw(x:iA)(w:eA):(Instr.typeAssert (.iface 318 x) 271 314 dA).run prog w=.ok (xA #[tA #[zA 0,oA ⟨#[]⟩,oA ⟨#[]⟩],qA cA]) w:=by kernel_rfl
def aQx(x:iA)(w:eA):(Instr.typeAssert (.iface 318 x) 271 316 dA).run prog w=.ok (xA #[tA #[zA 0,oA ⟨#[]⟩,zA 0],qA cA]) w:=by kernel_rfl
def aQy(x:iA)(w:eA):(Instr.typeAssert (.iface 318 x) 271 318 dA).run prog w=.ok (xA #[x,qA dA]) w:=by kernel_rfl
def qz(l m:Nat)(r:xD)(c:iC)(f:Int)(k:List fB)(M:Nat)(B:Nat->Prop)(K w:eA)(h:jE w B l m c f k M)(Y:uB K w)(S:∀g,w.1.size<=g->B g)(O:∀g,B g->K.1.size<=g)(T:uG K)(Q:nC c f k=dA)(a0:yA k+cC k<=1900000)(Z:1<=M)(hM:M<=1000000000)(hn:r.T.size<=1400000)(hx:r.X.size<=1400000)(hk:nW r=dA):
 gA prog 203 #[.pointer (yB l),wV r] w λe R=>e=uA (qA (pE c f k r).2.2)/\jE R B l m c (pE c f k r).1 (pE c f k r).2.1 (M+1)/\eB B w R:=by
 obtain⟨hc,q0,q1,G,ht⟩:=gH Q;obtain⟨v0,v1⟩:=xh hc;have G:=Y.size;have hb:∀i(U:i<yA k),jF k[i]<=1900000:=λi U=>by have:=mY k i U;omega
 have E:∀t∈k,yA t.Z<=1000000000/\yA t.M<=1000000000/\gE t.Z<=1900000:=λt D=>by
  obtain⟨i,U,rfl⟩:=Ib D;have:=hb i U;unfold jF at this;omega
 have F:∀W,uB w W->uB K W:=λW s=>Y.trans (s.mono G);have J:cB (∀W,uB w W->eB B w W):=λW s=>eB.of s;have G:cB _:=λW s=>RM l m r.T r.X c f B k M W (h.z s) (λg P=>S g (Ua (Below.size s) P)) (T.z (F W s)) hn hx Z hM (λt D=>(E t D).1) (λt D y I=>(CE (dK (nJ ht t D)).2.2.1 y I).2.2) (by omega);have I:cB (∀W,uB w W->gA prog 246 #[.pointer (yB l),zA r.U] W λe R=>e=uA (qA (jK c.w f k r.U).2.2)/\jE R B l m c (jK c.w f k r.U).1 (jK c.w f k r.U).2.1 M/\eB B W R):=λW s=>aBe l m r.U c f k M B K W (h.z s) (F W s) (λg P=>S g (Ua s.size P)) O T q0 q1 v0 v1 hM (λt D=>(E t D).1) (λt D p U=>by
  obtain⟨j,Z,rfl⟩:=Ib U;have U:=eU t.Z j Z;have U:=fQ t.Z (j+1);have:=(E t D).2.2;omega)
 have H:cB _:=λW s=>UQ l m r.T r.X r.U c f B k M W (h.z s) (λg P=>S g (Ua (Below.size s) P)) (T.z (F W s)) hn hx (λt D=>(E t D).2.1) (by omega);clear S O h Y T Q a0 hb E F ht hc;have L:cB (pE c f k r=if r.K=1 then(f,(nL c f k r.T r.X).1,decide ((nL c f k r.T r.X).2=1) ||decide ((nL c f k r.T r.X).2=2)) else if r.K=2 then jK c.w f k r.U else if r.K=3 then(f,(uS k r.T r.X r.U).1,(uS k r.T r.X r.U).2) else(f,k,cA)):=rfl;have u:cB (wV r=if r.K=1 then .iface 314 (tA #[zA 1,oA r.T,oA r.X]) else if r.K=2 then .iface 316 (tA #[zA 2,oA kA,zA r.U]) else if r.K=3 then .iface 318 (tA #[zA 3,oA r.T,oA r.X,zA r.U]) else .nilIface):=rfl;generalize pE c f k r=X at *;generalize wV r=V at *;have h:r.K=1\/r.K=2\/r.K=3:=by simpa[nW]using hk
 clear hk;obtain⟨O,v,x,z⟩:=r;simp only at *;obtain rfl|rfl|rfl:=h
 .have n:cB (X=(f,(nL c f k v x).1,decide ((nL c f k v x).2=1) ||decide ((nL c f k v x).2=2))):=by show _=_;rw[L.o,Ma rfl]
  have N:V=.iface 314 (tA #[zA 1,oA v,oA x]):=by rw[u.o,Ma rfl]
  clear L u I H;subst N;generalize nL c f k v x=h at *;have a:=aQt (tA #[zA 1,oA v,oA x]);go_enter func203,ntmps203;go_wp2_with fail;apply lC (G.o _ zB);rintro w1 ⟨o,q⟩;have A:=bB o;have C:cB _:=(J.o _ zB).trans' q;clear o q;go_wp2_with fail;apply dR (AD _ _);go_wp2;go_ret;exact⟨oB (by rw[n.o]),by rw[n.o];exact A.o,C.o⟩
 .have n:cB (X=jK c.w f k z):=by show _=_;rw[L.o,Ja (by decide),Ma rfl]
  have N:V=.iface 316 (tA #[zA 2,oA kA,zA z]):=by rw[u.o,Ja (by decide),Ma rfl]
  clear L u G H;subst N;generalize jK c.w f k z=h at *;have a:=aQu (tA #[zA 2,oA kA,zA z]);have b:=aQv (tA #[zA 2,oA kA,zA z]);go_enter func203,ntmps203;go_wp2_with fail;apply lC (I.o _ zB);rintro w1 ⟨o,q⟩;have A:=bB o;have C:cB _:=(J.o _ zB).trans' q;clear o q;go_wp2;go_ret;exact⟨oB (by rw[n.o]),by rw[n.o];exact A.o.mono (by omega),C.o⟩
 have n:cB (X=(f,(uS k v x z).1,(uS k v x z).2)):=by show _=_;rw[L.o,Ja (by decide),Ja (by decide),Ma rfl]
 have N:V=.iface 318 (tA #[zA 3,oA v,oA x,zA z]):=by rw[u.o,Ja (by decide),Ja (by decide),Ma rfl]
 clear L u G I;subst N;generalize uS k v x z=h at *;have a:=aQw (tA #[zA 3,oA v,oA x,zA z]);have b:=aQx (tA #[zA 3,oA v,oA x,zA z]);have d:=aQy (tA #[zA 3,oA v,oA x,zA z]);go_enter func203,ntmps203;go_wp2_with fail;apply lC (H.o _ zB);rintro w1 ⟨o,q⟩;have A:=bB o;have C:cB _:=(J.o _ zB).trans' q;clear o q;go_wp2;go_ret;exact⟨oB (by rw[n.o]),by rw[n.o];exact A.o.mono (by omega),C.o⟩
end
section
open Go.Maps
def tv{c:iC}{a:Int}{b:List fB}{r:xD}(h:nW r=cA):pE c a b r=(a,b,cA):=by grind [nW,pE]
def FV(l m:Nat)(a:mC)(cap:Nat)(f:List xD)(c:iC)(p:Int)(q:List fB)(M:Nat)(B:Nat->Prop)(A w:eA)(h:jE w B l m c p q M)(h0:uB A w)(hA:∀g,w.1.size<=g->B g)(z:∀g,B g->A.1.size<=g)(X:∀W,eB B w W->tI W a f)(hU:uG A)(R:nC c p q=dA)(hlen:yA f<=500)(P:yA q+cC q+2*yA f+gD f<=1900000)(U:∀r∈f,r.T.size<=1400000/\r.X.size<=1400000)(hM1:1<=M)(hM:M<=900000000):
 gA prog 130 #[sA (bA ⟨l,0,aA⟩),pA a (yA f) cap] w λe y=>e=uA (qA (nF c p q f).2.2)/\((nF c p q f).2.2=dA->jE y B l m c (nF c p q f).1 (nF c p q f).2.1 (M+yA f))/\eB B w y:=by
 have HF:=bB X;have HU:=bB hU;have HSZ:=bB U;have G:=bB h;have b0:cB (∀W,eB B w W->uB A W):=λW D=>h0.trans (D.below h0.size λk hk hs=>by have:=z k hs;omega);have Y:=bB hA;have Z:=bB z;have L:=bB R;have F:=bB P;clear X hU U h h0 R P hA z;go_enter func130,ntmps130;go_wp2;go_loopw [11] (λi wr=>∃(k:Nat)(n:Int)(j:List fB),k<=yA f/\i=lA mA k/\cB (jE wr B l m c n j (M+k))/\cB (eB B w wr)/\cB (nC c n j=dA)/\cB (yA j+cC j+2*(yA f-k)+gD (f.drop k)<=1900000)/\cB (nF c n j (f.drop k)=nF c p q f)) (λi _=>yA f-(intOf i).toNat)
 case atStart=>exact⟨0,p,q,Oa _,rfl,G.o,eB.refl _ _,L.o,bB (by simpa using F.o),rfl⟩
 case round=>
  obtain⟨k,n,j,hk,rfl,HL,C,V,HK,H⟩:=hrel;clear G L F;by_cases s:k<yA f
  .obtain ⟨b,o,rfl,hbw,r0,r1,r2,r3⟩:=(HF.o _ C.o).at s;obtain⟨hn,hx⟩:=HSZ.o _ (Gb s);have hkb:=HK.o;have hdr:=IJ f s;have T:=kY V.o f[k];have HRS:cB ((pE c n j f[k]).2.2=dA->nF c n j (f.drop k)=nF c (pE c n j f[k]).1 (pE c n j f[k]).2.1 (f.drop (k+1))):=λh=>YD s h;have J:cB ((pE c n j f[k]).2.2=cA->(nF c p q f).2.2=cA):=λh=>by rw[<-H.o,YE s h]
   have HRE:cB ((pE c n j f[k]).2.2=dA->nF c n j (f.drop k)=nF c p q f):=λ_=>H.o;have HOK:cB ((pE c n j f[k]).2.2=dA->nC c (pE c n j f[k]).1 (pE c n j f[k]).2.1=dA):=λh=>IZ V.o h;have c0:cB (yA (pE c n j f[k]).2.1+cC (pE c n j f[k]).2.1+2*(yA f-(k+1))+gD (f.drop (k+1))<=1900000):=by show _<=_;omega
   have d0:cB (nW f[k]=cA->(pE c n j f[k]).2.2=cA):=λh=>by rw[tv h]
   have K:cB (∀W,dF 202 #[tA #[lA mA f[k].K,oA f[k].T,oA f[k].X,lA mA f[k].U]] W (xA #[wV f[k],qA (nW f[k])])):=λW=>gP f[k] W;have a0:cB (nW f[k]=dA->∀W,uB wr W->gA prog 203 #[sA (bA ⟨l,0,aA⟩),wV f[k]] W λe y=>e=uA (qA (pE c n j f[k]).2.2)/\jE y B l m c (pE c n j f[k]).1 (pE c n j f[k]).2.1 (M+k+1)/\eB B w y):=λu W D=>(qz l m f[k] c n j (M+k) B A W (HL.o.z D) (b0.o _ (C.o.trans' (eB.of D))) (λg hg=>Y.o g (Ua (Ua C.o.size D.size) hg)) Z.o HU.o V.o (by omega) (by omega) (by omega) hn hx u).mono λe y ⟨h1,h2,h3⟩=>⟨h1,h2,(C.o.trans' (eB.of D)).trans' h3⟩
   clear hkb hdr T HL V HK H hn hx;generalize pE c n j f[k]=S at *;obtain⟨n1,d,b1⟩:=S;go_wp2_with fail;apply lC (K.o _);intro w1 N;have x:=vB zB N;have v:=bB x;clear N x K r0 r1 r2 r3;cases u:nW f[k]with
   |false=>
    have X:=d0.o u;subst X;have t:=J.o rfl;go_wp2;go_ret;exact⟨oB (by rw[t]),λe=>(by rw[t]at e;cases e),C.o.trans' (eB.of v.o)⟩
   |true=>
    have Y:=bB (a0.o u);go_wp2_with fail;apply lC (Y.o _ v.o);rintro w2 ⟨Q,O⟩;have HL2:=bB Q;have E:=bB O;clear Q O;cases b1 with
    |false=>
     have t:=J.o rfl;go_wp2;go_ret;exact⟨oB (by rw[t]),λe=>(by rw[t]at e;cases e),E.o⟩
    |true=>
     have HO2:=bB (HOK.o rfl);have HR3:cB _:=(HRS.o rfl).symm.trans (HRE.o rfl);go_wp2;exact⟨⟨k+1,n1,d,by omega,by go_num,HL2.o,E.o,HO2.o,c0.o,HR3.o⟩,by simp[intOf];omega⟩
  obtain rfl:k=yA f:=by omega
  have I:cB (nF c p q f=(n,j,dA)):=by show _=_;rw[<-H.o,Kg];rfl
  clear H;go_wp2;go_ret;exact⟨oB (by rw[I.o]),λ_=>(by rw[I.o];exact HL.o),C.o⟩
end
section
open Go.Maps
def UL(c:iC)(o:Int)(a:mC)(s:Nat)(p:List fB)(ar:mC)(capr:Nat)(q:List xD)(w:eA)(hf:xC w a p)(hr:tI w ar q)(hlr:yA q<=2000000)(hbk:yA p+cC p+yA q+gD q<=1400000)(hU:uG w):
 gA prog 272 #[rE c,tA #[lA mA o,pA a (yA p) s],pA ar (yA q) capr] w λe Y=>xU (vF c o p q) w e Y:=by
 have hbt:yA p+cC p<=1900000:=by omega
 obtain⟨b,f,j,n⟩:=wR hbt;have hfs:=nS hbt;have HO:cB _:=λW J=>AP c o a s p 1900000 W (hf.z J) b (by omega) (hU.z J);have b0:cB _:=λW J=>CO o a s p W (hf.z J) (by omega) (λt ht=>by have:=hfs t ht;omega);have d0:cB (∀l m K W,yA q<=500->nC c o p=dA->uB w K->uB K W->jE W (K.1.size<=·) l m c o p 1900000->gA prog 130 #[sA (bA ⟨l,0,aA⟩),pA ar (yA q) capr] W λe Y=>e=uA (qA (nF c o p q).2.2)/\((nF c o p q).2.2=dA->jE Y (K.1.size<=·) l m c (nF c o p q).1 (nF c o p q).2.1 (1900000+yA q))/\uB K Y):=λl m K W I T hW0 J h=>(FV l m ar capr q c o p 1900000 (K.1.size<=·) K W h J (λg hg=>Ua J.size hg) (λg hg=>hg) (λW' ht=>hr.z (vB hW0 (J.trans (ht.below J.size λk hk e=>by omega)))) (hU.z hW0) T I (by omega) (λr hm=>by
  have h1:r.T.size+r.X.size<=gD q:=by
   obtain⟨i,hi,rfl⟩:=Ib hm;have h2:=iV q i hi;have h3:=vY q (i+1);omega
  omega) (by omega) (by omega)).mono λe Y ⟨h1,h2,h3⟩=>⟨h1,h2,J.trans (h3.below J.size λk hk e=>by omega)⟩
 have e0:cB (∀l m B W M,yA q<=500->nC c o p=dA->jE W B l m c (nF c o p q).1 (nF c o p q).2.1 M->gA prog 23 #[sA (bA ⟨l,0,aA⟩)] W λe Y=>∃a s,e=uA (tA #[lA mA (nF c o p q).1,.slice a (yA (nF c o p q).2.1) s])/\cD Y W.1.size a (nF c o p q).2.1/\uB W Y):=λl m B W M I T h=>by
  have L:=YC (rs:=q) T;exact XH l m c _ B _ M W h (vf λx hx=>by
   obtain⟨k1,k2,k3,k4,k5⟩:=nS (ts:=(nF c o p q).2.1) (by omega) x hx;exact⟨k1,k2,k3,by omega,by omega⟩) (by omega)
 have HV0:cB (nC c o p=cA->vF c o p q=(0,[],cA)):=λh=>by unfold vF;rw[Ma h]
 have N:cB (nC c o p=dA->500<yA q->vF c o p q=(o,p,cA)):=λh I=>by unfold vF;rw[Ja (by rw[h];decide),Ma I]
 have O:cB (nC c o p=dA->yA q<=500->(nF c o p q).2.2=cA->vF c o p q=(o,p,cA)):=λh I h6=>by unfold vF;rw[Ja (by rw[h];decide),Ja (by omega),Ja (by rw[h6];decide)]
 have P:cB (nC c o p=dA->yA q<=500->(nF c o p q).2.2=dA->vF c o p q=nF c o p q):=λh I h6=>by unfold vF;rw[Ja (by rw[h];decide),Ja (by omega),Ma h6]
 clear hf b f j n hfs hU hr;unfold BG at HO;unfold xU;generalize vF c o p q=V at *;generalize nF c o p q=R at *;unfold rE at *;go_enter func272,ntmps272;have B1:cB (uB w (((w.alloc (vA #[lA mA c.w,lA mA c.tl,lA mA c.ml,lA mA c.sh,lA mA c.ha,lA mA c.sg] 24)).alloc (vA #[lA mA o,pA a (yA p) s] 40)).alloc (vA #[lA mA 0,pA aA 0 0] 40))):=vB (vB zB zB) zB;have R1:cB _:=bB (by have:=nB.new ((w.alloc (vA #[lA mA c.w,lA mA c.tl,lA mA c.ml,lA mA c.sh,lA mA c.ha,lA mA c.sg] 24)).alloc (vA #[lA mA o,pA a (yA p) s] 40)) #[lA mA 0,pA aA 0 0] 40;simpa using this);have S1:cB _:=bB (by have:=(nB.new (w.alloc (vA #[lA mA c.w,lA mA c.tl,lA mA c.ml,lA mA c.sh,lA mA c.ha,lA mA c.sg] 24)) #[lA mA o,pA a (yA p) s] 40).alloc (vA #[lA mA 0,pA aA 0 0] 40);simpa using this);go_wp2_with fail;refine(HO.o _ B1.o).mono ?_;intro e Z hx;have HX:=bB hx;clear hx;obtain⟨T,rfl,L⟩|⟨T,l,m,rfl,hlo,U,L⟩:=HX.o
 .have HB:cB _:=vB B1.o L;have RB:cB (nB Z (w.1.size+1+1) #[lA mA 0,pA aA 0 0] 40):=R1.o.z L;have HV:cB _:=HV0.o T;have y0:Z.cell? ⟨w.1.size+1+1,0,aA⟩=bA (lA mA 0):=RB.o.cell 0;have y1:Z.cell? ⟨w.1.size+1+1,1,aA⟩=bA (pA aA 0 0):=RB.o.cell 1;have d:=RB.o.free 0;have b:=RB.o.free 1;clear HX L T;go_wp2;refine bodyPost_ret (v:=xA #[tA #[lA mA 0,pA aA 0 0],qA cA]) (by simp[results,results272,go_sem,y0,y1]) rfl ?_;rw[HV.o];refine⟨aA,0,rfl,Ca rfl,?_⟩;first
   |exact(HB.o.setCell (by show w.1.size<=w.1.size+1+1;omega) _).setCell (by show w.1.size<=w.1.size+1+1;omega) _
   |exact HB.o
 have HB:cB _:=vB B1.o L;have RB:cB (nB Z (w.1.size+1+1) #[lA mA 0,pA aA 0 0] 40):=R1.o.z L;have SB:cB (nB Z (w.1.size+1) #[lA mA o,pA a (yA p) s] 40):=S1.o.z L;have H:=bB T;have HL:=bB U;have a0:=bB L;have hs0:=aB R1.o;generalize (((w.alloc (vA #[lA mA c.w,lA mA c.tl,lA mA c.ml,lA mA c.sh,lA mA c.ha,lA mA c.sg] 24)).alloc (vA #[lA mA o,pA a (yA p) s] 40)).alloc (vA #[lA mA 0,pA aA 0 0] 40))=w0 at *;clear HX L T U HO HV0 R1 S1;by_cases I:yA q<=500
 .have h5':¬(500<yA q):=by omega
  go_wp2_with fail;apply lC (d0.o l m _ _ I H.o B1.o a0.o HL.o);rintro w2 ⟨hl2,Q⟩;have c0:=bB hl2;have R2:cB (nB w2 (w.1.size+1+1) #[lA mA 0,pA aA 0 0] 40):=bB ((Q.block _ hs0).trans (((a0.o.block _ hs0).symm).trans RB.o));have S2:cB (nB w2 (w.1.size+1) #[lA mA o,pA a (yA p) s] 40):=bB ((Q.block _ (by omega)).trans (((a0.o.block _ (by omega)).symm).trans SB.o));have B2:cB _:=vB B1.o Q;clear hl2 Q d0;rcases hbv:R.2.2 with _|_
  .have HV:cB _:=O.o H.o I hbv;clear c0 e0 N O P;have s0:w2.cell? ⟨w.1.size+1,0,aA⟩=bA (lA mA o):=S2.o.cell 0;have s1:w2.cell? ⟨w.1.size+1,1,aA⟩=bA (pA a (yA p) s):=S2.o.cell 1;go_wp2_with fail;refine(b0.o _ B2.o).mono ?_;rintro e u ⟨z,E,rfl,D,y⟩;have G:cB (cD u w2.1.size z p):=D;have F:cB (nB u (w.1.size+1+1) #[lA mA 0,pA aA 0 0] 40):=R2.o.z y;have B3:cB _:=vB B2.o y;clear D y s0 s1;have y0:u.cell? ⟨w.1.size+1+1,0,aA⟩=bA (lA mA 0):=F.o.cell 0;have y1:u.cell? ⟨w.1.size+1+1,1,aA⟩=bA (pA aA 0 0):=F.o.cell 1;have d:=F.o.free 0;have b:=F.o.free 1;have hw2:=aB R2.o;go_wp2;have A:eB (·=w.1.size+1+1) u ((u.setCell ⟨w.1.size+1+1,0,aA⟩ (lA mA o)).setCell ⟨w.1.size+1+1,1,aA⟩ (pA z (yA p) E)):=((eB.refl (·=w.1.size+1+1) u).setCell (Ca rfl) 0 _).setCell (Ca rfl) 1 _;refine bodyPost_ret (v:=xA #[tA #[lA mA o,pA z (yA p) E],qA cA]) (by simp[results,results272,go_sem,y0,y1]) rfl ?_;rw[HV.o];have X:cD ((u.setCell ⟨w.1.size+1+1,0,aA⟩ (lA mA o)).setCell ⟨w.1.size+1+1,1,aA⟩ (pA z (yA p) E)) w.1.size z p:=(cD.turned G.o A (λg h1 h2 e=>by omega)).mono (by omega);have C:=((eB.of (S:=λi=>w.1.size<=i) B3.o).trans' (A.mono λi _ e=>by omega)).below (Ia _) λi hi h=>by omega
   first
    |exact⟨z,⟨E,rfl⟩,X,C⟩
    |exact⟨z,E,rfl,X,C⟩
  have HV:cB _:=P.o H.o I hbv;have HL3:=bB (c0.o hbv);clear c0 b0 N O P;go_wp2_with fail;refine(e0.o l m _ _ _ I H.o HL3.o).mono ?_;rintro e u ⟨z,E,rfl,D,y⟩;have G:cB (cD u w2.1.size z R.2.1):=D;have F:cB (nB u (w.1.size+1+1) #[lA mA 0,pA aA 0 0] 40):=R2.o.z y;have B3:cB _:=vB B2.o y;clear D y;have y0:u.cell? ⟨w.1.size+1+1,0,aA⟩=bA (lA mA 0):=F.o.cell 0;have y1:u.cell? ⟨w.1.size+1+1,1,aA⟩=bA (pA aA 0 0):=F.o.cell 1;have d:=F.o.free 0;have b:=F.o.free 1;have hw2:=aB R2.o;go_wp2;have A:eB (·=w.1.size+1+1) u ((u.setCell ⟨w.1.size+1+1,0,aA⟩ (lA mA R.1)).setCell ⟨w.1.size+1+1,1,aA⟩ (pA z (yA R.2.1) E)):=((eB.refl (·=w.1.size+1+1) u).setCell (Ca rfl) 0 _).setCell (Ca rfl) 1 _;refine bodyPost_ret (v:=xA #[tA #[lA mA R.1,pA z (yA R.2.1) E],qA dA]) (by simp[results,results272,go_sem,y0,y1]) rfl ?_;rw[HV.o,hbv];have X:cD ((u.setCell ⟨w.1.size+1+1,0,aA⟩ (lA mA R.1)).setCell ⟨w.1.size+1+1,1,aA⟩ (pA z (yA R.2.1) E)) w.1.size z R.2.1:=(cD.turned G.o A (λg h1 h2 e=>by omega)).mono (by omega);have C:=((eB.of (S:=λi=>w.1.size<=i) B3.o).trans' (A.mono λi _ e=>by omega)).below (Ia _) λi hi h=>by omega
  first
   |exact⟨z,⟨E,rfl⟩,X,C⟩
   |exact⟨z,E,rfl,X,C⟩
 have h5':500<yA q:=by omega
 have HV:cB _:=N.o H.o h5';have R2:=RB;have S2:=SB;have B2:=HB;clear d0 e0 N O P;have s0:Z.cell? ⟨w.1.size+1,0,aA⟩=bA (lA mA o):=S2.o.cell 0;have s1:Z.cell? ⟨w.1.size+1,1,aA⟩=bA (pA a (yA p) s):=S2.o.cell 1;go_wp2_with fail;refine(b0.o _ B2.o).mono ?_;rintro e u ⟨z,E,rfl,D,y⟩;have G:cB (cD u Z.1.size z p):=D;have F:cB (nB u (w.1.size+1+1) #[lA mA 0,pA aA 0 0] 40):=R2.o.z y;have B3:cB _:=vB B2.o y;clear D y s0 s1;have y0:u.cell? ⟨w.1.size+1+1,0,aA⟩=bA (lA mA 0):=F.o.cell 0;have y1:u.cell? ⟨w.1.size+1+1,1,aA⟩=bA (pA aA 0 0):=F.o.cell 1;have d:=F.o.free 0;have b:=F.o.free 1;have hw2:=aB R2.o;go_wp2;have A:eB (·=w.1.size+1+1) u ((u.setCell ⟨w.1.size+1+1,0,aA⟩ (lA mA o)).setCell ⟨w.1.size+1+1,1,aA⟩ (pA z (yA p) E)):=((eB.refl (·=w.1.size+1+1) u).setCell (Ca rfl) 0 _).setCell (Ca rfl) 1 _;refine bodyPost_ret (v:=xA #[tA #[lA mA o,pA z (yA p) E],qA cA]) (by simp[results,results272,go_sem,y0,y1]) rfl ?_;rw[HV.o];have X:cD ((u.setCell ⟨w.1.size+1+1,0,aA⟩ (lA mA o)).setCell ⟨w.1.size+1+1,1,aA⟩ (pA z (yA p) E)) w.1.size z p:=(cD.turned G.o A (λg h1 h2 e=>by omega)).mono (by omega);have C:=((eB.of (S:=λi=>w.1.size<=i) B3.o).trans' (A.mono λi _ e=>by omega)).below (Ia _) λi hi h=>by omega
 first
  |exact⟨z,⟨E,rfl⟩,X,C⟩
  |exact⟨z,E,rfl,X,C⟩
end
def nB.keepS{w:eA}{g h j:Nat}{a:Array iA}{t:jA}(c:nB w g a t)(b:g≠h)(v:iA):nB (w.setCell (dB h j) v) g a t:=
 (((qD.refl h w).setCell j v).block g (aB c) b).trans c
def uj(c:iC)(N:wC)(a:List xD):Prop:=(vF c N.now N.ts a).2.2=dA->(eG c N a).2=0
structure GdH(c:iC)(N:wC)(r:gG):Prop where
 cf:lH c=dA
 up:N.up=dA
 dg:N.deg=cA
 ck:(NA c N).2=0
 tk:uj c N [⟨2,kA,kA,r.U⟩]
 lm:uj c N [⟨3,r.T,r.R,r.U⟩]
 wr:(jL c N.now r.T N.ts r.P).2.2≠[]→uj c N (jL c N.now r.T N.ts r.P).2.2
def GdH.b{c:iC}{N:wC}{r:gG}(h:GdH c N r):ee N=dA:=by simp[ee,h.up,h.dg]
section
open Go.Maps
attribute [local go_sem] jH xH xN nB.drewI qN.drewI qN.new qN.alloc qN.alloc2
def aLx{c:iC}{N:wC}{a:List xD}(i:lH c=dA)(j:ee N=dA)(g:uj c N a):(vF c N.now N.ts a).2.2=cA/\eG c N a=(N,62)\/(vF c N.now N.ts a).2.2=dA/\bC N.lsn 0 999999999999999=dA/\(lJ (N.lsn+1) a).toList.isEmpty=cA/\∃K L,dI N.d N.l (lJ (N.lsn+1) a) c.sg=(K,L,0)/\eG c N a=(⟨K,L,(vF c N.now N.ts a).1,(vF c N.now N.ts a).2.1,N.lsn+1,cA,dA⟩,0):=by
 unfold uj at g;unfold eG at g |-
 rw[Ja (by simp[i]),Ja (by simp[j])]at g |-
 cases ho:(vF c N.now N.ts a).2.2
 .exact Ca ⟨rfl,Ma (Ca rfl)⟩
 have h:=g ho;rw[ho]at h;refine La ⟨rfl,?_⟩;by_cases b:dA=cA\/bC N.lsn 0 999999999999999=cA\/lJ (N.lsn+1) a=kA
 .rw[Ma b]at h;cases h
 rw[Ja b]at h |-
 simp only[not_or,Bool.not_eq_false]at b;rcases aPt (N:=N) (R:=dI N.d N.l (lJ (N.lsn+1) a) c.sg) (S:=vF c N.now N.ts a) with⟨f,-,-,-,e⟩|⟨-,f,⟨-,e⟩|⟨-,-,-,e⟩⟩;exact ⟨b.2.1,nP.2 b.2.2,_,_,Prod.ext rfl (Prod.ext rfl (by simpa using f)),e⟩;rw[e]at h;exact absurd h f;rw[e]at h;exact absurd h f
def tj(c:iC)(a b:mC)(j k:Nat)(N:wC)(z:mC)(capr:Nat)(m:List xD)(w:eA)(h:aHw w a b N z m)(F:lH c=dA)(G:ee N=dA)(H:uj c N m):
 gA prog 55 #[rE c,tA (sC a j b k N),pA z (yA m) capr] w λe r=>ui (eG c N m) w e r:=by
 have g:=h.bulk;have E:=bB (aLx F G H);obtain⟨I,J⟩:N.up=dA/\N.deg=cA:=by simpa[ee]using G
 have q:=bB (λW=>qR c W);have p:=bB (λW(n:uB w W)=>UX c N.now b k N.ts z capr m W (h.tens.z n) (h.recs.z n) g);have t:=bB (λW=>dE N.lsn 0 999999999999999 W);have D:cB (∀W,uB w W->gA prog 48 #[tA (sC a j b k N)] W λe r=>∃a j b k,e=uA (tA (sC a j b k N))/\tB r a N.d.fs/\xC r b N.ts/\uB W r):=λW n=>(EK a b j k N W (h.files.z n) h.fit.len (h.tens.z n) (by omega) (CH (by omega))).mono λe r ⟨a,j,b,k,d,l,B,O⟩=>⟨a,j,b,k,d,l.files,B.tens,O⟩
 have C:=bB (fun(x:bC N.lsn 0 999999999999999=dA) W(n:uB w W)=>mo (N.lsn+1) z capr m W (h.recs.z n) (fj (by omega)) h.rng (by have:=xJ x;constructor<;>omega) (by omega));have i:=bB (λd W(n:uB w W)=>tf a j N.d N.l (lJ (N.lsn+1) m) c.sg W (h.files.z n) h.fit (aIl (by omega)) d);rw[F]at q;unfold xU at p;unfold aId at i;clear h g F G H;unfold rE at *;generalize eG c N m=V at *;generalize vF c N.now N.ts m=A at *;generalize lJ (N.lsn+1) m=O at *;generalize dI N.d N.l O c.sg=R at *;obtain⟨d,f,h⟩:=A;have Z:=vN;dsimp only at p E;have s:=bB (NP.new (w:=w) (c:=c) (cs:=sC a j b k N));go_enter func55,ntmps55;go_wp2_with fail;apply lC (q.o _);intro w1 g;have P:=bB (s.o.z g);clear g q s;have o:=P.o.cells rfl;have h:=yG a j b k N 42;have Y:=qF a j b k N;rw[I,J]at h Y;clear I J;obtain⟨rfl,rfl⟩|⟨rfl,x,h,K,L,rfl,rfl⟩:=E.o
 all_goals
  (try (replace i:=bB (i.o rfl);dsimp only at i));clear E;(try (have h:=xJ x;obtain⟨l,l⟩:=h;rw[x]at t));go_wp2_with(first
   |(go_at_call 48;refine(D.o _ (P.o.z zB).B).mono ?_;rintro e h ⟨h,h,h,h,rfl,h,l,g⟩;replace g:=vB zB g;replace P:=bB (P.o.z g);clear g o;have o:=P.o.cells rfl)
   |(go_at_call 47;refine(p.o _ P.o.B).mono ?_;rintro e B ⟨Q,T,rfl,y,g⟩;have u:=bB y.tens;replace P:=bB (P.o.z g);clear y g o;have o:=P.o.cells rfl)
   |(go_at_call 91;apply lC (t.o _);rintro G rfl)
   |(go_at_call 106;apply lC (C.o x _ (P.o.z zB).B);intro G g;have v:=(nB.new B _ _).z g;replace g:=vB zB g;replace P:=bB (P.o.z g);replace u:=bB (u.o.z g);clear g o;have o:=P.o.cells rfl)
   |(go_at_call 115;refine(i.o _ P.o.B).mono ?_;rintro e B ⟨S,U,rfl,y,g⟩;have M:=bB y;replace P:=bB (P.o.z g);replace u:=bB (u.o.z g);replace v:=v.z g;obtain⟨B,B⟩:=v.c2;have B:=aB v;have G:=Nat.ne_of_lt B;have X:=qF S U Q T ⟨K,L,d,f,N.lsn+1,cA,dA⟩;dsimp only at X;clear Z y g v o;have o:=P.o.cells rfl))
 .exact cz rfl rfl rfl rfl P.o rfl h l
 exact cz rfl rfl rfl rfl ((P.o.z zB).z zB) rfl ((M.o.z zB).z zB) ((u.o.z zB).z zB)
end
