import Derived.Test.YtejebmgbenmimaaGreatDoorJ32
import Derived.Test.YtejebmgbenmimaaGreatDoorJ30
import Derived.Test.YtejebmgbenmimaaGreatDoorJ31
set_option maxRecDepth 100000
set_option maxHeartbeats 8000000
set_option linter.defProp false
open Bool renaming true->iA,false->gA
open ByteArray renaming empty->pA
open Option renaming some->fA,none->eA
open List renaming length->cB
namespace Go.Proofs.YtejebmgbenmimaaGreatDoor
open Go renaming Value->mA,World->jA,Calls->lA
open Value renaming slice->uA,string->tA,agg->yA,bool->vA,tuple->bB,pointer->xA,int->qA
open Obj renaming cells->aB
open Ending renaming returned->zA
open IntKind renaming i64->sA
open Go.RowKit Tryz
def yb(h:vB)(r:tE):List tE:=if h.toList.isEmpty=iA then [] else [r]
def wrS(c:kC)(a:Int)(b:vB)(S:List kB×vB×List tE)(x:wF):List kB×vB×List tE:=
 ((nI c a S.1 b x).2.1,S.2.1++uB 1 ((nI c a S.1 b x).1:Nat),S.2.2++yb (nI c a S.1 b x).2.2 ⟨1,b,(nI c a S.1 b x).2.2,0⟩)
def wK(c:kC)(a:Int)(b:vB)(d:List kB)(e:List wF):List kB×vB×List tE:=e.foldl (wrS c a b) (d,pA,[])
def QK{c:kC}{now:Int}{te:vB}{ts:List kB}(a:List wF)(k:Nat)(h:k<cB a):wK c now te ts (a.take (k+1))=wrS c now te (wK c now te ts (a.take k)) a[k]:=by
 rw[wK,Pa h,Dg];rfl
def aFl(l:hC):pQ l<=255:=by
 unfold pQ zO QT;repeat' split
 all_goals simp
def je(d:List hC):(yB d).2.1<=255:=by
 have a:∀(l:List hC)(i c j:Nat),lD l i=fA (c,j)->c<=255:=by
  intro l;induction l with
  |nil=>intro i c j h;cases h
  |cons x r b=>
   intro i c j h;rw[lD]at h;split at h;exact b _ _ _ h
   cases h
   exact aFl x
 unfold yB;split;simp;split
 .rename_i h;exact a _ _ _ _ h
 split;simp;split<;>simp
def lh{c:kC}{a:Int}{b:List kB}(h:pC c a b=iA)(d:vB)(x:wF):pC c a (nI c a b d x).2.1=iA/\cB (nI c a b d x).2.1+fC (nI c a b d x).2.1<=cB b+fC b+2+d.size+(jW x).size/\(nI c a b d x).2.2.size<=(jW x).size/\(nI c a b d x).1<=255:=by
 have j:(wI (yB x.B).1).size<=(jW x).size:=by have:=TY (yB x.B).1;have:=BP x.B;have:=wZ (ls:=x.B);have:=iP x;omega
 have k:ByteArray.empty.size=0:=rfl;have i:(yB x.B).2.1<=255:=je _;have g:(cI c a b d (wI (yB x.B).1)).2.2<=5:=by unfold cI;(repeat' split)<;>simp
 unfold nI;split;exact ⟨h,by dsimp only;omega,by dsimp only;omega,i⟩;split;exact ⟨h,by dsimp only;omega,by dsimp only;omega,by simp⟩;split
 .rename_i f;have e:=eX h ⟨1,d,wI (yB x.B).1,0⟩;rw[VX h]at f g |-
  exact⟨oq h f,by dsimp only[pE,Td]at e |-;rw[Ma rfl]at e;dsimp only at e;omega,j,by omega⟩
 exact ⟨h,by dsimp only;omega,by dsimp only;omega,by omega⟩
def aDs{c:kC}{a:Int}{f:List kB}(h:pC c a f=iA)(b:vB)(d:List wF)(k:Nat)(n:k<=cB d):pC c a (wK c a b f (d.take k)).1=iA/\cB (wK c a b f (d.take k)).1+fC (wK c a b f (d.take k)).1<=cB f+fC f+(kE (d.take k)).size+k*(b.size+2)/\(wK c a b f (d.take k)).2.1.size=k/\cB (wK c a b f (d.take k)).2.2<=k/\iD (wK c a b f (d.take k)).2.2<=(kE (d.take k)).size+k*b.size/\∀r∈(wK c a b f (d.take k)).2.2,r.K=1/\r.U=0:=by
 induction k with
 |zero=>exact⟨h,by simp[wK,kE],rfl,Ia _,by simp[wK,iD],λr e=>by cases e⟩
 |succ k i=>
  have g:k<cB d:=n;obtain⟨j,q,l,s,t,m⟩:=i (by omega);clear i;rw[QK d k g,jP d k g,Ka];generalize wK c a b f (d.take k)=S at *;obtain⟨p,u,v,_⟩:=lh j b d[k];unfold wrS;generalize nI c a S.1 b d[k]=J at *;have o:cB (yb J.2.2 ⟨1,b,J.2.2,0⟩)<=1/\iD (yb J.2.2 ⟨1,b,J.2.2,0⟩)<=b.size+J.2.2.size/\∀r∈yb J.2.2 ⟨1,b,J.2.2,0⟩,r.K=1/\r.U=0:=by
   unfold yb;split;exact ⟨by simp,by simp[iD],λr e=>by cases e⟩;exact ⟨by simp,by simp[iD],λr e=>by rw[Uf.1 e];exact⟨rfl,rfl⟩⟩
  generalize yb J.2.2 ⟨1,b,J.2.2,0⟩=Z at *;dsimp only;rw[Nat.succ_mul,Nat.succ_mul];refine⟨p,by omega,by rw[Ka,oB,l],by rw[Kb];omega,by rw[eT];omega,λr e=>?_⟩;rcases Ee.1 e with e|e;exact m r e;exact o.2.2 r e
def lJ(c:kC)(N:vC)(r:fH):vC×vB:=
 if N.deg=iA/\r.K<=4 then(N,uB 1 3)
 else if (r.K≠2/\r.K≠4)/\xC r.T=gA then(N,uB 1 2)
 else if r.K=1 then
  if (wK c N.now r.T N.ts r.P).2.2=[] then(N,uB 1 0++uB 2 (cB r.P:Nat)++(wK c N.now r.T N.ts r.P).2.1)
  else((fG c N (wK c N.now r.T N.ts r.P).2.2).1,cN (fG c N (wK c N.now r.T N.ts r.P).2.2).1 (fG c N (wK c N.now r.T N.ts r.P).2.2).2 (uB 1 0++uB 2 (cB r.P:Nat)++(wK c N.now r.T N.ts r.P).2.1))
 else if r.K=2 then
  if (pZ c N.now N.ts r.U).2.2=gA then(N,uB 1 2)
  else((fG c N [⟨2,pA,pA,r.U⟩]).1,cN (fG c N [⟨2,pA,pA,r.U⟩]).1 (fG c N [⟨2,pA,pA,r.U⟩]).2 (uB 1 0))
 else if r.K=3 then
  if (xR c N.now N.ts r.T r.R r.U).2.2=gA then(N,uB 1 2)
  else((fG c N [⟨3,r.T,r.R,r.U⟩]).1,cN (fG c N [⟨3,r.T,r.R,r.U⟩]).1 (fG c N [⟨3,r.T,r.R,r.U⟩]).2 (uB 1 0))
 else if r.K=4 then((IV c N).1,cN (IV c N).1 (IV c N).2 (uB 1 0))
 else if r.K=5 then
  if (sH c N.now N.ts r.T r.R).1<0 then(N,uB 1 2)
  else(N,uB 1 0++uB 8 (sH c N.now N.ts r.T r.R).1++uB 8 (sH c N.now N.ts r.T r.R).2)
 else(N,uB 1 0++uB 8 N.now++uB 4 (cB (eC N.ts r.T).Z:Nat)++nE (eC N.ts r.T).Z)
def CC(c:kC)(N:vC)(r:fH):vC×vB:=if N.up=gA then(N,uB 1 4) else lJ c N r
structure rb(c:kC)(m:Nat)(N:vC):Prop where
 fit:DG N.d.fs
 st:pC c N.now N.ts=iA
 w:iG N.ts≤m
 lsn:0≤N.lsn∧N.lsn≤1000000000000000
section
variable {c:kC} {m k:Nat} {N:vC} {rs:List tE}
theorem rb.mono(h:rb c m N)(a:m<=k):rb c k N:=⟨h.fit,h.st,Ua h.w a,h.lsn⟩
theorem aFt(i:mH c=iA)(h:rb c m N)(o:cB rs<=500)(n:27*cB rs+iD rs<=k)(l:k<=65535):rb c (m+k) (fG c N rs).1:=by
 have b:rb c (m+k) N:=h.mono (by omega);rcases aLp (N:=N) (rs:=rs) i with⟨_,e⟩|⟨_,⟨_,e⟩|⟨a,⟨_,e⟩|⟨f,⟨_,e⟩|⟨_,e⟩⟩⟩⟩;rw[e];exact b;rw[e];exact b;rw[e];exact b;rw[e];exact b;rw[e];obtain⟨p,j⟩:=aCz (rs:=rs) h.st (by omega);have d:oF c N.now N.ts rs=aG c N.now N.ts rs:=by
  unfold oF at a |-
  rw[Ja (by rw[h.st];decide),Ja (by omega)]at a |-
  by_cases g:(aG c N.now N.ts rs).2.2=iA
  .rw[Ma g]
  rw[Ja g]at a;cases a
 rw[d]at a |-
 have o:=h.w;simp only[dC,Sa,Ab]at f;unfold mj;split;exact ⟨JG h.fit,j a,by show iG (aG c N.now N.ts rs).2.1<=_;omega,by show 0<=N.lsn+1/\N.lsn+1<=1000000000000000;omega⟩;split;exact b;exact ⟨JG h.fit,h.st,b.w,h.lsn⟩
theorem aIj(b:mH c=iA)(h:rb c m N)(e:m<=1000000):rb c m (IV c N).1:=by
 have f:=(oZ (lsn:=N.lsn) h.st (Ua h.w e) h.lsn.1 h.lsn.2).2.1;have d:=h.w;have a:=pg _ _ h.fit (SG (K:=N.d) (L:=N.l) (text:=bH N.lsn N.now N.ts) (by omega));unfold IV;rw[Ja (by rw[b];decide)];split;exact h;split;exact h;split;exact h;split;exact h;split;exact ⟨a,h.st,h.w,h.lsn⟩;exact ⟨a,h.st,h.w,h.lsn⟩
end
def GC(p:mA->Prop)(w:jA)(B:Nat)(T:TypeId)(sz:Nat)(v:mA)(n:Nat)(xs:List mA):Prop:=
 w.ownsRow B T sz v n xs/\v.ownBlock≠eA/\∀g j u,v.ownBlock=fA g->w.cell? (iB g j)=fA u->p u
section
variable {p:mA→Prop} {w w':jA} {B n:Nat} {T:TypeId} {sz:Nat} {v:mA} {xs:List mA}
theorem GC.turn{S:Nat->Prop}(h:GC p w B T sz v n xs)(c:jB S w w')(b:∀g,v.ownBlock=fA g->¬S g):GC p w' B T sz v n xs:=
 ⟨c.row h.1 b,h.2.1,λg j u a d=>h.2.2 g j u a (by rw[<-jA.cell?_of_block (c.block g (h.1.lt g a).2 (b g a))];exact d)⟩
theorem GC.z(h:GC p w B T sz v n xs)(a:zB w w'):GC p w' B T sz v n xs:=h.turn (jB.of a (S:=λ_=>False)) λ_ _ e=>e
theorem aDa{P:Program}{t L:TypeId}{i:TypeInfo}{z:mA}(N:P.underlying t=fA (.slice T))(M:P.info? T=fA i)(I:i.zero=fA z)(m:i.size=sz)(h:z.cells.size=sz)(h:GC p w B T sz v n xs)
{C:Addr}{c:Nat}{a:List mA}(J:cB a=1*sz)(l:∀j u,a[j]?=fA u->w.cell? (C.add j)=fA u)(U:∀u∈a,u.oneCell'=iA)(V:n+1<=5000001)(F:(n+1)*i.bytes<=140737488355328)
{g E:Nat}(D:(Builtin.append_ #[t,t] L #[v,uA (fA C) 1 c]).run P w=.ok (uA (cC g) (n+1) E) w')(O:∀u∈a,p u)(S:∀u∈z.cells.toList,p u):∀j u,w'.cell? (iB g j)=fA u->p u:=by
 subst m;obtain⟨m,R,o⟩:=h;obtain⟨rfl,rfl⟩|⟨q,d,f,rfl,X,H,h,Y,G,s⟩:=m.2;exact absurd rfl R;have K:∀u∈f.toList,p u:=λu x=>by
  obtain⟨j,Z,e⟩:=Ib x;refine o q j u rfl ?_;rw[cell_of_row w q j f T (0,0) H,<-Yd,Va Z,e]
 by_cases o:n+1<=d
 .have y:n*i.size+cB a<=f.size:=by rw[J,G,<-Nat.add_mul];exact Nat.mul_le_mul_right _ o
  rw[run_append_room (P:=P) w t L T i N M q n d f H C 1 c a J l U o y]at D;injection D with e1 e2;obtain rfl:q=g:=by injection e1 with e1;injection e1 with e1;injection e1
  subst e2;intro j u x;rw[cell_of_row _ q j _ T (0,0) (setRow_heap w q f _ T _ H)]at x;have b:=Array.mem_of_getElem? x;simp only[List.mem_toArray,Ee]at b;rcases b with(b|b)|b;exact K u (Ce b);exact O u b;exact K u (Ng b)
 have r:∀j u,xs[j]?=fA u->w.cell? (((iB q 0):Addr).add j)=fA u:=m.cells (g:=q) rfl;rw[run_append_grow (P:=P) w t L T i z N M I (iB q 0) n d xs m.1 r C 1 c a J l (by omega) (by omega) (growslice_fits (by omega) F)]at D;injection D with e1 e2;obtain rfl:w.1.size=g:=by injection e1 with e1;injection e1 with e1;injection e1
 subst e2;intro j u x;rw[cell_of_row _ w.1.size j _ T (0,0) (heap_alloc_new w.drew _)]at x;have b:=Array.mem_of_getElem? x;simp only[Array.mem_append,List.mem_toArray]at b;rcases b with(b|b)|b;rw[<-s]at b;exact K u (Ce b);exact O u b;unfold Builtin.zeroCells at b;obtain⟨k,h,e⟩:=Array.mem_map.1 b;have I:=Array.mem_range.1 h;have A:0<z.cells.size:=Nat.pos_of_ne_zero λQ=>by rw[Q,Nat.mul_zero]at I;omega
 rw[getElem!_pos z.cells _ (Nat.mod_lt k A)]at e;exact S u (by rw[<-e];simp)
end
def qv{p:mA->Prop}{K:Array Oper}{f:List Oper}{o:Oper}{a:Act}{Q:Exit->Act->jA->Prop}{w:jA}(y:o.guard=eA)(s x:Operand){m T:TypeId}{z:mA}{sz b:Nat}
(V:o.op=.call { callee:=.builtin .append,args:=#[s,x],argTypes:=#[m,m] })(F:prog.underlying m=fA (.slice T))(r:(prog.info? T).map (λi=>(i.zero,i.size,i.bytes))=fA (fA z,sz,b))(G:z.cells.size=sz)(L:0<sz)(R:b<=100)
{B n:Nat}{v:mA}{xs:List mA}{cs:Array mA}(Z:a.eval s=v)(Y:GC p w B T sz v n xs){q:Nat}(S:a.eval x=uA (cC q) 1 1)(X:w.1.size=q)(D:cs.size=sz)(A:∀u∈cs.toList,u.oneCell'=iA)(U:n<=5000000)(h:B<=w.1.size)(W:∀u∈cs.toList,p u)(pz:∀u∈z.cells.toList,p u)
(h:∀g c w',fB (GC p w' B T sz (uA (cC g) (n+1) c) (n+1) (xs++cs.toList))->fB (jB (λi=>v.ownBlock=fA i) w w')->wpList prog K Q f (a.put o.dst (uA (cC g) (n+1) c)) w'):
 wpList prog K Q (o::f) a (w.alloc (aB cs T)):=by
 subst X;obtain⟨i,r,H,I,J⟩:=info_parts r;have E:(n+1)*b<=140737488355328:=Ua (Hf (Nat.add_le_add_right U 1) R) (by decide);have l:=Y.z (uF w (aB cs T));have k:∀j u,cs.toList[j]?=fA u->(w.alloc (aB cs T)).cell? (((iB w.1.size 0):Addr).add j)=fA u:=by
  have:=jA.news_of_block (cs:=cs) (t:=T) (fr:=(0,0)) (heap_alloc_new w (aB cs T));simpa using this
 obtain⟨g,c,w',d,M,N,O,O⟩:=run_append_lies (P:=prog) (w.alloc (aB cs T)) m o.type B T i z sz b F r H I J G L v n xs l.1 (iB w.1.size 0) 1 1 cs.toList (by simpa using D) k A (by omega) (by simp[maxLen];omega) E (by simp;omega) (w.1.size+1) (by simp);refine wpList_plain y λ_ O=>?_;unfold Oper.wp execOp;simp only[V,resolve,invoke,builtin,Sem.run_bind,Sem.run_pure,Result.andThen_ok,Hg,Fc,Ag,Z,S,d];refine O _ _ (h g c w' ⟨M,by simp[mA.ownBlock],λh j u C h=>?_⟩ ((jB.of (uF w (aB cs T))).trans' ((jB.grown N).mono λi _ e=>e)));simp only[mA.ownBlock,Qa]at C;subst C;exact aDa F r H I G l (by simpa using D) k A (by omega) (by rw[J];exact E) d W pz j u h
section
variable {w W:jA} {S:Nat→Prop} {p:mA→Prop}
def rf(p:mA->Prop):Prop:=(∀s,¬p (tA s))\/∀n,¬p (dB n)
theorem GV(i:∀g j u,S g->w.cell? (iB g j)=fA u->p u)(f:jB S w W)(a:rf p){b o k:Nat}{s:vB}{n:Int}(d:b<w.1.size)(h:w.cell? (iB b o)=fA (tA s))(l:w.cell? (iB b k)=fA (dB n)):b<W.1.size/\∀j,W.cell? (iB b j)=w.cell? (iB b j):=by
 have c:¬S b:=λe=>by
  obtain a|a:=a;exact a _ (i b o _ e h);exact a _ (i b k _ e l)
 exact⟨Bb d f.size,λj=>jA.cell?_of_block (f.block b d c)⟩
theorem wB.keptP(q:∀g j u,S g->w.cell? (iB g j)=fA u->p u)(m:jB S w W)(l:rf p){a:nC}{c:List nB}(h:wB w a c):wB W a c:=by
 obtain h|⟨b,o,e,d,h⟩:=h;exact Ca h
 cases c with
 |nil=>exact Ca rfl
 |cons f r=>
  obtain⟨s,t⟩:=GV q m l d (h 0 (by simp)).1 (h 0 (by simp)).2.2;exact La ⟨b,o,e,s,λi k=>by simp only[t];exact h i k⟩
theorem jC.keptP(q:∀g j u,S g->w.cell? (iB g j)=fA u->p u)(m:jB S w W)(l:rf p){a:nC}{c:List pB}(h:jC w a c):jC W a c:=by
 obtain h|⟨b,o,e,d,h⟩:=h;exact Ca h
 cases c with
 |nil=>exact Ca rfl
 |cons f r=>
  obtain⟨s,t⟩:=GV q m l d (h 0 (by simp)).1 (h 0 (by simp)).2;exact La ⟨b,o,e,s,λi k=>by simp only[t];exact h i k⟩
theorem uC.keptP(q:∀g j u,S g->w.cell? (iB g j)=fA u->p u)(m:jB S w W)(l:rf p){a:nC}{s:List kB}(h:uC w a s):uC W a s:=by
 obtain h|⟨b,o,e,F,h⟩:=h;exact Ca h
 cases s with
 |nil=>exact Ca rfl
 |cons f r=>
  obtain⟨_,_,_,_,d,k,_⟩:=h 0 (by simp);obtain⟨H,c⟩:=GV q m l F d k;refine La ⟨b,o,e,H,λi G=>?_⟩;obtain⟨t,y,x,z,A,d,k,C,D,E⟩:=h i G;exact⟨t,y,x,z,(c _).trans A,(c _).trans d,(c _).trans k,(c _).trans C,D.keptP q m l,E.keptP q m l⟩
end
def kY(a b:nC)(f g:Nat)(N:vC)(w:jA):
 gF 32 #[yA (sC a f b g N)] w (vA (N.up&&!N.deg)):=by
 unfold sC;obtain⟨d,l,i,m,h,c,j⟩:=N;cases j<;>cases c
 all_goals(
  go_enter func32,ntmps32
  go_wp2
  go_ret
  exact⟨rfl,aC⟩)
def fW(a b:nC)(ca cb:Nat)(N:vC)(w:jA)(h:wB w a N.d.fs)(m:cB N.d.fs<=1048576)(l:uC w b N.ts)(c:cB N.ts<=2000000)(E:∀t∈N.ts,cB t.M<=2000000/\cB t.Z<=2000000):
 lA prog 26 #[yA (sC a ca b cb N)] w λe w'=>∃H B I D,e=zA (yA (sC H B I D N))/\pJ w' (λx=>w.1.size<=x/\x<w'.1.size) H I N/\zB w w':=by
 unfold sC;have G:=gB (λW(d:zB w W)=>SH a ca N.d.fs W (h.z d) m);have HS:=gB (λW(d:zB w W)=>AR N.now b cb N.ts W (l.z d) c E);clear h l E;go_enter func26,ntmps26;go_wp2_with fail;refine(G.o _ (xB aC aC)).mono ?_;rintro e w1 ⟨v,rfl,J,A⟩;obtain⟨H,B,rfl,F⟩:=pH J;have R:=gB (((rB.new w _ _).alloc _).z A);have Y:=gB ((rB.new (w.alloc _) _ _).z A);simp only[jA.size_alloc]at Y F;have d:=gB (F.toA (Ia _));have U:=gB (xB (xB aC aC) A);have c:=A.size;simp only[jA.size_alloc]at c;obtain⟨c,l,o2,o3,o4,o5,o6,o7,o8,o9,M,O,P,Q⟩:=R.o.n14;obtain⟨j,m,n,o,p,q,r,s,u,y,f,g,h,i⟩:=R.o.frees;clear A J F G;go_wp2_with fail;refine aEh (C:=λW=>lA prog _ _ W _) R.o ?_;intro w2 X G;have Z:=gB (G.blk Y.o (by omega));have J:=gB (d.o.turned G (λx L _ e=>by omega));have hz2:=G.size;have V:=gB (U.o.trans (G.below (by have:=U.o.size;omega) (λk hk e=>by omega)));clear c l o2 o3 o4 o5 o6 o7 o8 o9 M O P Q j m n o p q r s u y f g h i R Y d U G;refine(HS.o _ V.o).mono ?_;rintro e U ⟨I,D,rfl,K,z⟩;have Y:=gB (J.o.z z);have X3:=gB (K.toA (Ia _));have G:=gB (xB V.o z);have d:=z.size;obtain⟨c,l,o2,o3,o4,o5,o6,o7,o8,o9,M,O,P,Q⟩:=(X.z z).n14;obtain⟨j,m,n,o,p,q,r,s,u,y,f,g,h,i⟩:=(X.z z).frees;obtain⟨m,o,O,r3,r4,r5,r6,r7,r8,r9,c,d,h,l⟩:=(Z.o.z z).n14;obtain⟨g0,g1,g2,g3,g4,g5,g6,g7,g8,g9,g10,g11,g12,g13⟩:=(Z.o.z z).frees;clear z K X Z J V HS;go_wp2;refine bodyPost_ret (v:=yA #[uA H (cB N.d.fs) B,dB N.d.c,dB N.d.k,dB N.d.cr,dB N.d.fl,vA N.d.dn,dB N.l.first,dB N.l.last,dB N.l.size,dB N.now,uA I (cB N.ts) D,dB N.lsn,vA N.deg,vA N.up]) (by simp[results,results26,go_sem,m,o,O,r3,r4,r5,r6,r7,r8,r9,c,d,h,l]) rfl ?_;refine jB.end2 (S:=λx=>x=w.1.size\/x=w.1.size+1) (C:=λW=>∃a1 c1 c d,Ending.returned (yA #[uA H (cB N.d.fs) B,dB N.d.c,dB N.d.k,dB N.d.cr,dB N.d.fl,vA N.d.dn,dB N.l.first,dB N.l.last,dB N.l.size,dB N.now,uA I (cB N.ts) D,dB N.lsn,vA N.deg,vA N.up])=Ending.returned (yA #[uA a1 (cB N.d.fs) c1,dB N.d.c,dB N.d.k,dB N.d.cr,dB N.d.fl,vA N.d.dn,dB N.l.first,dB N.l.last,dB N.l.size,dB N.now,uA c (cB N.ts) d,dB N.lsn,vA N.deg,vA N.up])/\pJ W (λx=>w.1.size<=x/\x<W.1.size) a1 c N/\zB w W) U (by
  repeat (with_reducible first|exact jB.refl _ _|refine jB.setCell ?_ (Ca (by first|exact Ca rfl|exact La rfl)) _ _)) ?_
 intro c T;have c:=T.size;exact⟨_,_,_,_,rfl,⟨_,_,Y.o.turned T (λx L _ e=>by omega),X3.o.turned T (λx L _ e=>by omega),λx L=>by omega,λx L=>by omega,λx L e=>by omega⟩,G.o.trans (T.below (by have:=G.o.size;omega) (λk hk e=>by omega))⟩
section
open Go.Maps
def aBv{win now:Int}{left:Lit->Bool}{a:List kB}(c:zC (·.N) a){t:kB}(d:t∈a)(b:left (kL t.N)=iA):
 oI win now (λs=>(λz=>left z&&!z.sameKey (kL t.N)) (kL s)) a=if eF (aF win now t)=iA then yE (·.N) t.N (oI win now (λs=>left (kL s)) a) else iC (·.N) (aF win now t) (oI win now (λs=>left (kL s)) a):=by grind [zC,kL,oI,eF,aF,yE,iC,mh,CU]
def vm(l m:Nat)(j:Int)(c:kC)(f:Int)(o:List kB)(M:Nat)(B:Nat->Prop)(O w:jA)(h:jE w B l m c f o M)(h0:zB O w)(W:∀g,w.1.size<=g->B g)(G:∀g,B g->O.1.size<=g)(hU:iH O)(I:0<=f)(I:f<=1000000000000)(hw0:1<=c.w)(hw1:c.w<=1000000000)(hM:M<=1000000000)(U:∀t∈o,cB t.Z<=1000000000)(Y:∀t∈o,∀p∈t.Z,p.s.size<=1000000000):
 lA prog 250 #[.pointer (cC l),dB j] w λe w'=>e=zA (vA (uJ c.w f o j).2.2)/\jE w' B l m c (uJ c.w f o j).1 (uJ c.w f o j).2.1 M/\jB B w w':=by
 have I:=gB h;have HA:=gB W;have HA0:=gB G;clear W G;obtain⟨T,L,h,hL⟩:=h;have C:fB (uJ c.w f o j=if j<1\/1000000000000-f<j then(f,o,gA) else(f+j,xD c.w (f+j) o,iA)):=rfl;have x6:gD w l 6 (dB f):=h.blk.cell 6;generalize uJ c.w f o j=R at *;by_cases G:j<1
 .have P:fB (R=(f,o,gA)):=by show _=_;rw[C.o,Ma (Ca G)]
  clear h C;go_enter func250,ntmps250;go_wp2;go_ret;exact⟨tB (by rw[P.o]),by rw[P.o];exact I.o,jB.refl _ _⟩
 by_cases W:1000000000000-f<j
 .have P:fB (R=(f,o,gA)):=by show _=_;rw[C.o,Ma (La W)]
  clear h C;go_enter func250,ntmps250;go_wp2;go_ret;exact⟨tB (by rw[P.o]),by rw[P.o];exact I.o,jB.refl _ _⟩
 have P:fB (R=(f+j,xD c.w (f+j) o,iA)):=by show _=_;rw[C.o,Ja (λe=>by obtain e|e:=e;exact G e;exact W e)]
 clear C I;obtain⟨d,G⟩:∃d,d=f+j:=⟨_,rfl⟩
 rw[<-G]at P;have I:j<=1000000000000:=by omega
 have I:=G.symm;have hm0:0<=d:=by omega
 have hm1:d<=1000000000000:=by omega
 have I:=eB h.blk;have I:=h.ten.lt;have hB:=h0.size;have W:=h.lB;have HMB:=gB h.mB;have K:zC (·.N) o:=by rw[<-hL];exact(zW (key':=λt:kB=>t.N) (λp:kB×Nat=>p.1) (λ_=>rfl)).2 h.rise
 have I:jB (·=l) w (w.setCell (iB l 6) (dB d)):=(jB.refl (·=l) w).setCell (Ca rfl) 6 _;have Z:fB (rB (w.setCell (iB l 6) (dB d)) l (fV c d m) 169):=gB (by have:=h.blk.set 6 (dB d);simpa[fV]using this);have hsz:(w.setCell (iB l 6) (dB d)).1.size=w.1.size:=by simp
 have H1:fB _:=(h.moved I Z.o).trim;have HT1:fB (jB B w (w.setCell (iB l 6) (dB d))):=I.mono λi _ e=>by rw[e];exact W
 have y7:(w.setCell (iB l 6) (dB d)).cell? (iB l 7)=fA (.map (fA m)):=Z.o.cell 7;have b:=h.blk.free 6;have c0:fB _:=hL;have HUT:fB (∀W,jB B w W->zB O W):=λW hW=>h0.trans (hW.below hB λk hk hs=>by have:=HA0.o k hs;omega);have HR:=gB K;have HSL:=gB U;have HKS:=gB Y;have HUU:=gB hU;have HEX:fB _:=λW hb=>JC l m c d W hb hm0 hm1 hw0 hw1;clear h hL K I U Y hU h0 G;go_enter func250,ntmps250;go_wp2_with(first|(at_range;refine wpList_range_own _ rfl _ 167 rfl 9 174 pL underlying167 wE m _ _ rfl H1.o.ten ?_;intro w2 I h G)|go_in);try rw[hsz]at I
 have V:=gB I;have G:fB _:=HT1.o.trans' ((jB.grown h).mono λi _ e=>by cases e);have U:fB (TkR c d o M B l m w.1.size (Maps.has (fE (L.map λp=>(p.1.N,nF p.2)))) w2):=by
  refine gB ⟨_,L,H1.o.keep λg W _=>h.block g W (by simp),?_,?_⟩;rw[vr λt Y=>?_,c0.o];rw[XH (key:=λp:kB×Nat=>p.1.N) (val:=λp=>nF p.2)];rw[<-c0.o]at Y;obtain⟨p,hp,rfl⟩:=Md.1 Y;rw[gM H1.o.rise hp];rfl;show (if w.1.size<(w.setCell (iB l 6) (dB d)).1.size then T w.1.size else eA)=eA;rw[Ja (by omega)]
 clear I h H1 Z y7 b x6 HT1 c0;generalize h:cB L=Y at *;generalize fE (L.map λp=>(p.1.N,nF p.2))=I at *;have hrl:l≠w.1.size:=by omega
 have hrm:m≠w.1.size:=by omega
 clear h;go_loopw [31] (λ_ wr=>∃(left:Lit->Bool)(h:Nat)(D:DataW Unit),fB (wr.ranges prog 9 wE m w.1.size Y D left h)/\fB (TkR c d o M B l m w.1.size left wr)/\fB (jB B w wr)) (λ_ wr=>wr.rangeLeft m w.1.size)
 case atStart=>exact⟨_,_,_,V.o,U.o,G.o⟩
 case round=>
  obtain⟨left,h,D,E,HK,HT⟩:=hrel;clear V U G;go_wp2_with(first
   |(at_next;refine wpList_next_ranges _ rfl _ rfl 9 pL wE mA.string (λv:mA=>v) (λkey G hk=>by obtain⟨x,h,_⟩:=qo hk;exact⟨x,h⟩) (λv y _=>⟨v,rfl⟩) m w.1.size Y _ _ _ rfl E.o ?_ ?_)
   |go_in)
  .intro hc0 hl0;have h:fB (jE wr B l m c d (xD c.w d o) M):=by
    obtain⟨X,L',I,Z,_⟩:=HK.o;refine gB ⟨X,L',I,?_⟩;rw[Z,mg λn=>hl0 _]
   clear hc0 hl0;go_wp2;go_ret;exact⟨tB (by rw[P.o]),by rw[P.o];exact h.o,HT.o⟩
  .intro s v G yd yp w3 F H hlk hv hat J hlt hg3 hs3 hen;obtain⟨h,es,rfl,hss⟩:=qo H;obtain rfl:s=h:=by simpa using es
   obtain⟨X,L',I,Z,k3⟩:=HK.o;obtain⟨p,hp,U,h,rfl⟩:=aDn (y:=(yd,yp)) I Z E.o.owns hlk hv hat;have a:jB (·=w.1.size) wr w3:=(jB.grown hg3).mono λi _ e=>by simp only[Qa]at e;exact e.symm
   have G:=I.aside a k3 hrl hrm;have K1:=gB G;have K2:=gB Z;have K3:=gB k3;have HP:=gB hp;have HPN:=gB U;have HPT:=gB h;have RG3:=gB J;have HKEY:=gB H;have T3:fB _:=HT.o.trans (a.mono λi _ e=>La (by omega));have HLB:fB (rB w3 l (fV c d m) 169):=G.blk;have HCN:fB _:=E.o.left_eq;have HDM:fB _:=qb E.o.owns I.ten;have A:fB (oI c.w d (λs_1=>(λz=>left z&&!z.sameKey (kL s)) (kL s_1)) o=if eF (aF c.w d p.1)=iA then yE (·.N) s (oI c.w d (λs=>left (kL s)) o) else iC (·.N) (aF c.w d p.1) (oI c.w d (λs=>left (kL s)) o)):=by
    have:=aBv (win:=c.w) (now:=d) (left:=left) HR.o h (by rw[U];exact hlk);rw[U]at this;exact gB this
   have HRR:fB _:=J.lt;clear I Z k3 G a hp U h J H hlk hv hat hg3 hs3 HK E hss es;go_wp2_with fail;apply oC (HEX.o _ HLB.o);intro w4 G;have h:fB _:=K1.o.keep λg W _=>G.block g W;have I:=G.size;have T4:fB _:=T3.o.trans' (jB.of G);have I:fB (w4.ranges prog 9 wE m w.1.size Y D (λz=>left z&&!z.sameKey (kL s)) F):=KC RG3.o (jB.of (S:=λ_=>False) G) (λe=>e) (λe=>e);have U:fB (lA prog 288 #[.pointer (cC p.2),dB (d-c.w)] w4 λe w'=>e=zA (bB #[])/\yD w' (λg=>(λg=>B g/\X g=fA p.2) g\/w4.1.size<=g) p.2 (aF c.w d p.1) M/\jB (λg=>B g/\X g=fA p.2) w4 w'):=jy p.2 p.1 c.w d (d-c.w) (λg=>B g/\X g=fA p.2) M O w4 (h.o.idx p HP.o) (HUT.o w4 T4.o) HUU.o (λg W=>HA0.o g W.1) rfl (HSL.o p.1 HPT.o) hM (HKS.o p.1 HPT.o);clear G RG3 K1 HLB T3;go_wp2_with fail;apply oC U.o;rintro Z ⟨G,N⟩;have HI5:=gB G;have HT5:=gB N;have O:fB (bM 167 #[.pointer (cC p.2)] Z (vA (eF (aF c.w d p.1)))):=OD p.2 _ _ M Z G;have Q:fB (Z.ranges prog 9 wE m w.1.size Y D (λz=>left z&&!z.sameKey (kL s)) F):=KC I.o N (λe=>by rw[h.o.tm]at e;cases e.2) (λe=>by rw[K3.o]at e;cases e.2);have T5:fB _:=T4.o.trans' (N.mono λi _ e=>e.1);have x7:gD Z l 7 (.map (fA m)):=(N.blk h.o.blk (λe=>by rw[h.o.tl]at e;cases e.2)).cell 7;clear G N U I;cases hidl:eF (aF c.w d p.1) with
   |true=>
    rw[hidl]at O A;rw[Ma rfl]at A;clear hidl;go_wp2_with fail;apply dR O.o;go_wp2_with(at_delete;refine wpList_delete_ranges _ rfl _ _ 167 9 rfl 174 pL underlying167 wE m w.1.size Y _ _ _ rfl Q.o _ _ rfl HKEY.o ?_;intro U I r G u);rw[Maps.strike_twice]at r;have G:=jB.mapped u;have a0:fB (TkR c d o M B l m w.1.size (λz=>left z&&!z.sameKey (kL s)) U):=by
     have Y:=r.owns;rw[HDM.o]at Y;refine gB ⟨X,_,xK.left (k:=s) (S:=(λg=>B g/\X g=fA p.2)) h.o (λg hs q hq U e=>?_) (λg _ hs e=>by rw[e]at hs;cases hs.2) HT5.o G Y,?_,K3.o⟩;rw[hs.2]at e;have:=cS h.o.nd hq HP.o (Lc e).symm;rw[this]at U;exact U HPN.o;rw[xZ (key':=λt:kB=>t.N) (λp:kB×Nat=>p.1) (λ_=>rfl),K2.o];exact A.o.symm
    have Y:fB _:=T5.o.trans' (G.mono λi _ e=>(show i=m from e) ▸ HMB.o);have U:=gB r;clear r u G;go_wp2;refine⟨⟨_,_,_,_,_,_,_,_,_,_,_,_,_,_,_,_,_,_,⟨_,I,_,U.o,a0.o,Y.o⟩,rfl⟩,by rw[U.o.left_eq,HCN.o];omega⟩
   |false=>
    rw[hidl]at O A;rw[Ja (by simp)]at A;clear hidl;have a0:fB (TkR c d o M B l m w.1.size (λz=>left z&&!z.sameKey (kL s)) Z):=by
     refine gB ⟨_,_,xK.turned (p:=p) (t':=aF c.w d p.1) h.o (λg W=>HA.o g (Ua T4.o.size W)) HP.o rfl HT5.o HI5.o,?_,?_⟩;rw[zR (key':=λt:kB=>t.N) (λp:kB×Nat=>p.1) (λ_=>rfl),K2.o];exact A.o.symm;show (if w.1.size<w4.1.size then X w.1.size else fA p.2)=eA;rw[Ma (by have:=Q.o.lt;have:=HRR.o;omega)];exact K3.o
    go_wp2_with fail;apply dR O.o;go_wp2;exact⟨⟨_,F,_,Q.o,a0.o,T5.o⟩,by rw[Q.o.left_eq,HCN.o];exact hlt⟩
end
section
open Go.Maps
def xY(n:Nat)(w:jA):bM 178 #[dB n] w (vA (decide (n=1) ||decide (n=2))):=by
 by_cases a:n=1
 .subst a;go_enter func178,ntmps178;go_wp2;go_ret;exact⟨tB (by simp),rfl⟩
 have d:¬((n:Int)=1):=by omega
 by_cases b:n=2
 .subst b;go_enter func178,ntmps178;go_wp2;go_ret;exact⟨tB (by simp),rfl⟩
 have f:¬((n:Int)=2):=by omega
 have c:fB ((decide (n=1) ||decide (n=2))=gA):=by show _=_;simp[a,b]
 go_enter func178,ntmps178;go_wp2;go_ret;exact⟨tB (by rw[c.o];simp;omega),rfl⟩
def aMt(x:mA)(w:jA):(Instr.typeAssert (.iface 317 x) 262 317 iA).run prog w=.ok (bB #[x,vA iA]) w:=by kernel_rfl
def aMu(x:mA)(w:jA):(Instr.typeAssert (.iface 319 x) 262 317 iA).run prog w=.ok (bB #[yA #[dB 0,tA ⟨#[]⟩,tA ⟨#[]⟩],vA gA]) w:=by kernel_rfl
def aMv(x:mA)(w:jA):(Instr.typeAssert (.iface 319 x) 262 319 iA).run prog w=.ok (bB #[x,vA iA]) w:=by kernel_rfl
def aMw(x:mA)(w:jA):(Instr.typeAssert (.iface 321 x) 262 317 iA).run prog w=.ok (bB #[yA #[dB 0,tA ⟨#[]⟩,tA ⟨#[]⟩],vA gA]) w:=by kernel_rfl
def aMx(x:mA)(w:jA):(Instr.typeAssert (.iface 321 x) 262 319 iA).run prog w=.ok (bB #[yA #[dB 0,tA ⟨#[]⟩,dB 0],vA gA]) w:=by kernel_rfl
def aMy(x:mA)(w:jA):(Instr.typeAssert (.iface 321 x) 262 321 iA).run prog w=.ok (bB #[x,vA iA]) w:=by kernel_rfl
def ly(l m:Nat)(r:tE)(c:kC)(f:Int)(k:List kB)(M:Nat)(B:Nat->Prop)(K w:jA)(h:jE w B l m c f k M)(Y:zB K w)(S:∀g,w.1.size<=g->B g)(O:∀g,B g->K.1.size<=g)(T:iH K)(Q:pC c f k=iA)(a0:cB k+fC k<=1900000)(Z:1<=M)(o:M<=1000000000)(hn:r.T.size<=1400000)(hx:r.X.size<=1400000)(hk:eV r=iA):
 lA prog 195 #[.pointer (cC l),nU r] w λe R=>e=zA (vA (pE c f k r).2.2)/\jE R B l m c (pE c f k r).1 (pE c f k r).2.1 (M+1)/\jB B w R:=by
 obtain⟨hc,q0,q1,G,ht⟩:=dH Q;obtain⟨v0,v1⟩:=qu hc;have G:=Y.size;have hb:∀i(U:i<cB k),lF k[i]<=1900000:=λi U=>by have:=gX k i U;omega
 have E:∀t∈k,cB t.Z<=1000000000/\cB t.M<=1000000000/\dE t.Z<=1900000:=λt D=>by
  obtain⟨i,U,rfl⟩:=Ib D;have:=hb i U;unfold lF at this;omega
 have F:∀W,zB w W->zB K W:=λW s=>Y.trans (s.mono G);have J:fB (∀W,zB w W->jB B w W):=λW s=>jB.of s;have G:fB _:=λW s=>OQ l m r.T r.X c f B k M W (h.z s) (λg P=>S g (Ua (Below.size s) P)) (T.z (F W s)) hn hx Z o (λt D=>(E t D).1) (λt D y I=>(AJ (tJ (dJ ht t D)).2.2.1 y I).2.2) (by omega);have I:fB (∀W,zB w W->lA prog 250 #[.pointer (cC l),dB r.U] W λe R=>e=zA (vA (uJ c.w f k r.U).2.2)/\jE R B l m c (uJ c.w f k r.U).1 (uJ c.w f k r.U).2.1 M/\jB B W R):=λW s=>vm l m r.U c f k M B K W (h.z s) (F W s) (λg P=>S g (Ua s.size P)) O T q0 q1 v0 v1 o (λt D=>(E t D).1) (λt D p o=>by
  obtain⟨j,U,rfl⟩:=Ib o;have o:=pN t.Z j U;have o:=lM t.Z (j+1);have:=(E t D).2.2;omega)
 have H:fB _:=λW s=>RA l m r.T r.X r.U c f B k M W (h.z s) (λg P=>S g (Ua (Below.size s) P)) (T.z (F W s)) hn hx (λt D=>(E t D).2.1) (by omega);clear S O h Y T Q a0 hb E F ht hc;have L:fB (pE c f k r=if r.K=1 then(f,(zK c f k r.T r.X).1,decide ((zK c f k r.T r.X).2=1) ||decide ((zK c f k r.T r.X).2=2)) else if r.K=2 then uJ c.w f k r.U else if r.K=3 then(f,(wR k r.T r.X r.U).1,(wR k r.T r.X r.U).2) else(f,k,gA)):=rfl;have u:fB (nU r=if r.K=1 then .iface 317 (yA #[dB 1,tA r.T,tA r.X]) else if r.K=2 then .iface 319 (yA #[dB 2,tA pA,dB r.U]) else if r.K=3 then .iface 321 (yA #[dB 3,tA r.T,tA r.X,dB r.U]) else .nilIface):=rfl;generalize pE c f k r=X at *;generalize nU r=V at *;have h:r.K=1\/r.K=2\/r.K=3:=by simpa[eV]using hk
 clear hk;obtain⟨m,v,x,z⟩:=r;simp only at *;obtain rfl|rfl|rfl:=h
 .have n:fB (X=(f,(zK c f k v x).1,decide ((zK c f k v x).2=1) ||decide ((zK c f k v x).2=2))):=by show _=_;rw[L.o,Ma rfl]
  have N:V=.iface 317 (yA #[dB 1,tA v,tA x]):=by rw[u.o,Ma rfl]
  clear L u I H;subst N;generalize zK c f k v x=h at *;have a:=aMt (yA #[dB 1,tA v,tA x]);go_enter func195,ntmps195;go_wp2_with fail;apply oC (G.o _ aC);rintro w1 ⟨o,q⟩;have A:=gB o;have C:fB _:=(J.o _ aC).trans' q;clear o q;go_wp2_with fail;apply dR (xY _ _);go_wp2;go_ret;exact⟨tB (by rw[n.o]),by rw[n.o];exact A.o,C.o⟩
 .have n:fB (X=uJ c.w f k z):=by show _=_;rw[L.o,Ja (by decide),Ma rfl]
  have N:V=.iface 319 (yA #[dB 2,tA pA,dB z]):=by rw[u.o,Ja (by decide),Ma rfl]
  clear L u G H;subst N;generalize uJ c.w f k z=h at *;have a:=aMu (yA #[dB 2,tA pA,dB z]);have b:=aMv (yA #[dB 2,tA pA,dB z]);go_enter func195,ntmps195;go_wp2_with fail;apply oC (I.o _ aC);rintro w1 ⟨o,q⟩;have A:=gB o;have C:fB _:=(J.o _ aC).trans' q;clear o q;go_wp2;go_ret;exact⟨tB (by rw[n.o]),by rw[n.o];exact A.o.mono (by omega),C.o⟩
 have n:fB (X=(f,(wR k v x z).1,(wR k v x z).2)):=by show _=_;rw[L.o,Ja (by decide),Ja (by decide),Ma rfl]
 have N:V=.iface 321 (yA #[dB 3,tA v,tA x,dB z]):=by rw[u.o,Ja (by decide),Ja (by decide),Ma rfl]
 clear L u G I;subst N;generalize wR k v x z=h at *;have a:=aMw (yA #[dB 3,tA v,tA x,dB z]);have b:=aMx (yA #[dB 3,tA v,tA x,dB z]);have d:=aMy (yA #[dB 3,tA v,tA x,dB z]);go_enter func195,ntmps195;go_wp2_with fail;apply oC (H.o _ aC);rintro w1 ⟨o,q⟩;have A:=gB o;have C:fB _:=(J.o _ aC).trans' q;clear o q;go_wp2;go_ret;exact⟨tB (by rw[n.o]),by rw[n.o];exact A.o.mono (by omega),C.o⟩
end
section
open Go.Maps
def ns{c:kC}{a:Int}{b:List kB}{r:tE}(h:eV r=gA):pE c a b r=(a,b,gA):=by grind [eV,pE]
def VZ(l m:Nat)(a:nC)(cap:Nat)(f:List tE)(c:kC)(p:Int)(q:List kB)(M:Nat)(B:Nat->Prop)(A w:jA)(h:jE w B l m c p q M)(h0:zB A w)(hA:∀g,w.1.size<=g->B g)(z:∀g,B g->A.1.size<=g)(X:∀W,jB B w W->lI W a f)(hU:iH A)(R:pC c p q=iA)(hlen:cB f<=500)(P:cB q+fC q+2*cB f+iD f<=1900000)(U:∀r∈f,r.T.size<=1400000/\r.X.size<=1400000)(hM1:1<=M)(hM:M<=900000000):
 lA prog 113 #[xA (fA ⟨l,0,eA⟩),uA a (cB f) cap] w λe y=>e=zA (vA (aG c p q f).2.2)/\((aG c p q f).2.2=iA->jE y B l m c (aG c p q f).1 (aG c p q f).2.1 (M+cB f))/\jB B w y:=by
 have HF:=gB X;have HU:=gB hU;have HSZ:=gB U;have G:=gB h;have b0:fB (∀W,jB B w W->zB A W):=λW D=>h0.trans (D.below h0.size λk hk hs=>by have:=z k hs;omega);have Y:=gB hA;have Z:=gB z;have L:=gB R;have F:=gB P;clear X hU U h h0 R P hA z;go_enter func113,ntmps113;go_wp2;go_loopw [11] (λi wr=>∃(k:Nat)(n:Int)(j:List kB),k<=cB f/\i=qA sA k/\fB (jE wr B l m c n j (M+k))/\fB (jB B w wr)/\fB (pC c n j=iA)/\fB (cB j+fC j+2*(cB f-k)+iD (f.drop k)<=1900000)/\fB (aG c n j (f.drop k)=aG c p q f)) (λi _=>cB f-(intOf i).toNat)
 case atStart=>exact⟨0,p,q,Oa _,rfl,G.o,jB.refl _ _,L.o,gB (by simpa using F.o),rfl⟩
 case round=>
  obtain⟨k,n,j,hk,rfl,HL,C,V,HK,H⟩:=hrel;clear G L F;by_cases s:k<cB f
  .obtain ⟨b,o,rfl,hbw,r0,r1,r2,r3⟩:=(HF.o _ C.o).at s;obtain⟨hn,hx⟩:=HSZ.o _ (Gb s);have hkb:=HK.o;have hdr:=FC f s;have T:=eX V.o f[k];have HRS:fB ((pE c n j f[k]).2.2=iA->aG c n j (f.drop k)=aG c (pE c n j f[k]).1 (pE c n j f[k]).2.1 (f.drop (k+1))):=λh=>UW s h;have J:fB ((pE c n j f[k]).2.2=gA->(aG c p q f).2.2=gA):=λh=>by rw[<-H.o,UX s h]
   have HRE:fB ((pE c n j f[k]).2.2=iA->aG c n j (f.drop k)=aG c p q f):=λ_=>H.o;have HOK:fB ((pE c n j f[k]).2.2=iA->pC c (pE c n j f[k]).1 (pE c n j f[k]).2.1=iA):=λh=>FP V.o h;have c0:fB (cB (pE c n j f[k]).2.1+fC (pE c n j f[k]).2.1+2*(cB f-(k+1))+iD (f.drop (k+1))<=1900000):=by show _<=_;omega
   have d0:fB (eV f[k]=gA->(pE c n j f[k]).2.2=gA):=λh=>by rw[ns h]
   have K:fB (∀W,gF 194 #[yA #[qA sA f[k].K,tA f[k].T,tA f[k].X,qA sA f[k].U]] W (bB #[nU f[k],vA (eV f[k])])):=λW=>rO f[k] W;have a0:fB (eV f[k]=iA->∀W,zB wr W->lA prog 195 #[xA (fA ⟨l,0,eA⟩),nU f[k]] W λe y=>e=zA (vA (pE c n j f[k]).2.2)/\jE y B l m c (pE c n j f[k]).1 (pE c n j f[k]).2.1 (M+k+1)/\jB B w y):=λu W D=>(ly l m f[k] c n j (M+k) B A W (HL.o.z D) (b0.o _ (C.o.trans' (jB.of D))) (λg hg=>Y.o g (Ua (Ua C.o.size D.size) hg)) Z.o HU.o V.o (by omega) (by omega) (by omega) hn hx u).mono λe y ⟨h1,h2,h3⟩=>⟨h1,h2,(C.o.trans' (jB.of D)).trans' h3⟩
   clear hkb hdr T HL V HK H hn hx;generalize pE c n j f[k]=S at *;obtain⟨n1,d,b1⟩:=S;go_wp2_with fail;apply oC (K.o _);intro w1 N;have x:=xB aC N;have v:=gB x;clear N x K r0 r1 r2 r3;cases u:eV f[k]with
   |false=>
    have X:=d0.o u;subst X;have t:=J.o rfl;go_wp2;go_ret;exact⟨tB (by rw[t]),λe=>(by rw[t]at e;cases e),C.o.trans' (jB.of v.o)⟩
   |true=>
    have Y:=gB (a0.o u);go_wp2_with fail;apply oC (Y.o _ v.o);rintro w2 ⟨Q,O⟩;have HL2:=gB Q;have E:=gB O;clear Q O;cases b1 with
    |false=>
     have t:=J.o rfl;go_wp2;go_ret;exact⟨tB (by rw[t]),λe=>(by rw[t]at e;cases e),E.o⟩
    |true=>
     have HO2:=gB (HOK.o rfl);have HR3:fB _:=(HRS.o rfl).symm.trans (HRE.o rfl);go_wp2;exact⟨⟨k+1,n1,d,by omega,by go_num,HL2.o,E.o,HO2.o,c0.o,HR3.o⟩,by simp[intOf];omega⟩
  obtain rfl:k=cB f:=by omega
  have I:fB (aG c p q f=(n,j,iA)):=by show _=_;rw[<-H.o,Kg];rfl
  clear H;go_wp2;go_ret;exact⟨tB (by rw[I.o]),λ_=>(by rw[I.o];exact HL.o),C.o⟩
end
section
open Go.Maps
def QU(c:kC)(o:Int)(a:nC)(s:Nat)(p:List kB)(ar:nC)(capr:Nat)(q:List tE)(w:jA)(hf:uC w a p)(hr:lI w ar q)(hlr:cB q<=2000000)(hbk:cB p+fC p+cB q+iD q<=1400000)(hU:iH w):
 lA prog 40 #[oE c,yA #[qA sA o,uA a (cB p) s],uA ar (cB q) capr] w λe Y=>iS (oF c o p q) w e Y:=by
 have hbt:cB p+fC p<=1900000:=by omega
 obtain⟨b,f,j,n⟩:=nO hbt;have hfs:=nR hbt;have HO:fB _:=λW J=>fZ c o a s p 1900000 W (hf.z J) b (by omega) (hU.z J);have b0:fB _:=λW J=>AR o a s p W (hf.z J) (by omega) (λt ht=>by have:=hfs t ht;omega);have d0:fB (∀l m K W,cB q<=500->pC c o p=iA->zB w K->zB K W->jE W (K.1.size<=·) l m c o p 1900000->lA prog 113 #[xA (fA ⟨l,0,eA⟩),uA ar (cB q) capr] W λe Y=>e=zA (vA (aG c o p q).2.2)/\((aG c o p q).2.2=iA->jE Y (K.1.size<=·) l m c (aG c o p q).1 (aG c o p q).2.1 (1900000+cB q))/\zB K Y):=λl m K W I T hW0 J h=>(VZ l m ar capr q c o p 1900000 (K.1.size<=·) K W h J (λg hg=>Ua J.size hg) (λg hg=>hg) (λW' ht=>hr.z (xB hW0 (J.trans (ht.below J.size λk hk e=>by omega)))) (hU.z hW0) T I (by omega) (λr hm=>by
  have h1:r.T.size+r.X.size<=iD q:=by
   obtain⟨i,hi,rfl⟩:=Ib hm;have h2:=yT q i hi;have h3:=oX q (i+1);omega
  omega) (by omega) (by omega)).mono λe Y ⟨h1,h2,h3⟩=>⟨h1,h2,J.trans (h3.below J.size λk hk e=>by omega)⟩
 have e0:fB (∀l m B W M,cB q<=500->pC c o p=iA->jE W B l m c (aG c o p q).1 (aG c o p q).2.1 M->lA prog 25 #[xA (fA ⟨l,0,eA⟩)] W λe Y=>∃a s,e=zA (yA #[qA sA (aG c o p q).1,.slice a (cB (aG c o p q).2.1) s])/\cD Y W.1.size a (aG c o p q).2.1/\zB W Y):=λl m B W M I T h=>by
  have L:=UV (rs:=q) T;exact UD l m c _ B _ M W h (pf λx hx=>by
   obtain⟨k1,k2,k3,k4,k5⟩:=nR (ts:=(aG c o p q).2.1) (by omega) x hx;exact⟨k1,k2,k3,by omega,by omega⟩) (by omega)
 have HV0:fB (pC c o p=gA->oF c o p q=(0,[],gA)):=λh=>by unfold oF;rw[Ma h]
 have N:fB (pC c o p=iA->500<cB q->oF c o p q=(o,p,gA)):=λh I=>by unfold oF;rw[Ja (by rw[h];decide),Ma I]
 have O:fB (pC c o p=iA->cB q<=500->(aG c o p q).2.2=gA->oF c o p q=(o,p,gA)):=λh I h6=>by unfold oF;rw[Ja (by rw[h];decide),Ja (by omega),Ja (by rw[h6];decide)]
 have P:fB (pC c o p=iA->cB q<=500->(aG c o p q).2.2=iA->oF c o p q=aG c o p q):=λh I h6=>by unfold oF;rw[Ja (by rw[h];decide),Ja (by omega),Ma h6]
 clear hf b f j n hfs hU hr;unfold sZ at HO;unfold iS;generalize oF c o p q=V at *;generalize aG c o p q=R at *;unfold oE at *;go_enter func40,ntmps40;have B1:fB (zB w (((w.alloc (aB #[qA sA c.w,qA sA c.tl,qA sA c.ml,qA sA c.sh,qA sA c.ha,qA sA c.sg] 24)).alloc (aB #[qA sA o,uA a (cB p) s] 40)).alloc (aB #[qA sA 0,uA eA 0 0] 40))):=xB (xB aC aC) aC;have R1:fB _:=gB (by have:=rB.new ((w.alloc (aB #[qA sA c.w,qA sA c.tl,qA sA c.ml,qA sA c.sh,qA sA c.ha,qA sA c.sg] 24)).alloc (aB #[qA sA o,uA a (cB p) s] 40)) #[qA sA 0,uA eA 0 0] 40;simpa using this);have S1:fB _:=gB (by have:=(rB.new (w.alloc (aB #[qA sA c.w,qA sA c.tl,qA sA c.ml,qA sA c.sh,qA sA c.ha,qA sA c.sg] 24)) #[qA sA o,uA a (cB p) s] 40).alloc (aB #[qA sA 0,uA eA 0 0] 40);simpa using this);go_wp2_with fail;refine(HO.o _ B1.o).mono ?_;intro e Z hx;have HX:=gB hx;clear hx;obtain⟨T,rfl,L⟩|⟨T,l,m,rfl,hlo,U,L⟩:=HX.o
 .have HB:fB _:=xB B1.o L;have RB:fB (rB Z (w.1.size+1+1) #[qA sA 0,uA eA 0 0] 40):=R1.o.z L;have HV:fB _:=HV0.o T;have y0:Z.cell? ⟨w.1.size+1+1,0,eA⟩=fA (qA sA 0):=RB.o.cell 0;have y1:Z.cell? ⟨w.1.size+1+1,1,eA⟩=fA (uA eA 0 0):=RB.o.cell 1;have d:=RB.o.free 0;have b:=RB.o.free 1;clear HX L T;go_wp2;refine bodyPost_ret (v:=bB #[yA #[qA sA 0,uA eA 0 0],vA gA]) (by simp[results,results40,go_sem,y0,y1]) rfl ?_;rw[HV.o];refine⟨eA,0,rfl,Ca rfl,?_⟩;first
   |exact(HB.o.setCell (by show w.1.size<=w.1.size+1+1;omega) _).setCell (by show w.1.size<=w.1.size+1+1;omega) _
   |exact HB.o
 have HB:fB _:=xB B1.o L;have RB:fB (rB Z (w.1.size+1+1) #[qA sA 0,uA eA 0 0] 40):=R1.o.z L;have SB:fB (rB Z (w.1.size+1) #[qA sA o,uA a (cB p) s] 40):=S1.o.z L;have H:=gB T;have HL:=gB U;have a0:=gB L;have hs0:=eB R1.o;generalize (((w.alloc (aB #[qA sA c.w,qA sA c.tl,qA sA c.ml,qA sA c.sh,qA sA c.ha,qA sA c.sg] 24)).alloc (aB #[qA sA o,uA a (cB p) s] 40)).alloc (aB #[qA sA 0,uA eA 0 0] 40))=w0 at *;clear HX L T U HO HV0 R1 S1;by_cases I:cB q<=500
 .have h5':¬(500<cB q):=by omega
  go_wp2_with fail;apply oC (d0.o l m _ _ I H.o B1.o a0.o HL.o);rintro w2 ⟨hl2,Q⟩;have c0:=gB hl2;have R2:fB (rB w2 (w.1.size+1+1) #[qA sA 0,uA eA 0 0] 40):=gB ((Q.block _ hs0).trans (((a0.o.block _ hs0).symm).trans RB.o));have S2:fB (rB w2 (w.1.size+1) #[qA sA o,uA a (cB p) s] 40):=gB ((Q.block _ (by omega)).trans (((a0.o.block _ (by omega)).symm).trans SB.o));have B2:fB _:=xB B1.o Q;clear hl2 Q d0;rcases hbv:R.2.2 with _|_
  .have HV:fB _:=O.o H.o I hbv;clear c0 e0 N O P;have s0:w2.cell? ⟨w.1.size+1,0,eA⟩=fA (qA sA o):=S2.o.cell 0;have s1:w2.cell? ⟨w.1.size+1,1,eA⟩=fA (uA a (cB p) s):=S2.o.cell 1;go_wp2_with fail;refine(b0.o _ B2.o).mono ?_;rintro e u ⟨z,E,rfl,D,y⟩;have G:fB (cD u w2.1.size z p):=D;have F:fB (rB u (w.1.size+1+1) #[qA sA 0,uA eA 0 0] 40):=R2.o.z y;have B3:fB _:=xB B2.o y;clear D y s0 s1;have y0:u.cell? ⟨w.1.size+1+1,0,eA⟩=fA (qA sA 0):=F.o.cell 0;have y1:u.cell? ⟨w.1.size+1+1,1,eA⟩=fA (uA eA 0 0):=F.o.cell 1;have d:=F.o.free 0;have b:=F.o.free 1;have hw2:=eB R2.o;go_wp2;have A:jB (·=w.1.size+1+1) u ((u.setCell ⟨w.1.size+1+1,0,eA⟩ (qA sA o)).setCell ⟨w.1.size+1+1,1,eA⟩ (uA z (cB p) E)):=((jB.refl (·=w.1.size+1+1) u).setCell (Ca rfl) 0 _).setCell (Ca rfl) 1 _;refine bodyPost_ret (v:=bB #[yA #[qA sA o,uA z (cB p) E],vA gA]) (by simp[results,results40,go_sem,y0,y1]) rfl ?_;rw[HV.o];have X:cD ((u.setCell ⟨w.1.size+1+1,0,eA⟩ (qA sA o)).setCell ⟨w.1.size+1+1,1,eA⟩ (uA z (cB p) E)) w.1.size z p:=(cD.turned G.o A (λg h1 h2 e=>by omega)).mono (by omega);have C:=((jB.of (S:=λi=>w.1.size<=i) B3.o).trans' (A.mono λi _ e=>by omega)).below (Ia _) λi hi h=>by omega
   first
    |exact⟨z,⟨E,rfl⟩,X,C⟩
    |exact⟨z,E,rfl,X,C⟩
  have HV:fB _:=P.o H.o I hbv;have HL3:=gB (c0.o hbv);clear c0 b0 N O P;go_wp2_with fail;refine(e0.o l m _ _ _ I H.o HL3.o).mono ?_;rintro e u ⟨z,E,rfl,D,y⟩;have G:fB (cD u w2.1.size z R.2.1):=D;have F:fB (rB u (w.1.size+1+1) #[qA sA 0,uA eA 0 0] 40):=R2.o.z y;have B3:fB _:=xB B2.o y;clear D y;have y0:u.cell? ⟨w.1.size+1+1,0,eA⟩=fA (qA sA 0):=F.o.cell 0;have y1:u.cell? ⟨w.1.size+1+1,1,eA⟩=fA (uA eA 0 0):=F.o.cell 1;have d:=F.o.free 0;have b:=F.o.free 1;have hw2:=eB R2.o;go_wp2;have A:jB (·=w.1.size+1+1) u ((u.setCell ⟨w.1.size+1+1,0,eA⟩ (qA sA R.1)).setCell ⟨w.1.size+1+1,1,eA⟩ (uA z (cB R.2.1) E)):=((jB.refl (·=w.1.size+1+1) u).setCell (Ca rfl) 0 _).setCell (Ca rfl) 1 _;refine bodyPost_ret (v:=bB #[yA #[qA sA R.1,uA z (cB R.2.1) E],vA iA]) (by simp[results,results40,go_sem,y0,y1]) rfl ?_;rw[HV.o,hbv];have X:cD ((u.setCell ⟨w.1.size+1+1,0,eA⟩ (qA sA R.1)).setCell ⟨w.1.size+1+1,1,eA⟩ (uA z (cB R.2.1) E)) w.1.size z R.2.1:=(cD.turned G.o A (λg h1 h2 e=>by omega)).mono (by omega);have C:=((jB.of (S:=λi=>w.1.size<=i) B3.o).trans' (A.mono λi _ e=>by omega)).below (Ia _) λi hi h=>by omega
  first
   |exact⟨z,⟨E,rfl⟩,X,C⟩
   |exact⟨z,E,rfl,X,C⟩
 have h5':500<cB q:=by omega
 have HV:fB _:=N.o H.o h5';have R2:=RB;have S2:=SB;have B2:=HB;clear d0 e0 N O P;have s0:Z.cell? ⟨w.1.size+1,0,eA⟩=fA (qA sA o):=S2.o.cell 0;have s1:Z.cell? ⟨w.1.size+1,1,eA⟩=fA (uA a (cB p) s):=S2.o.cell 1;go_wp2_with fail;refine(b0.o _ B2.o).mono ?_;rintro e u ⟨z,E,rfl,D,y⟩;have G:fB (cD u Z.1.size z p):=D;have F:fB (rB u (w.1.size+1+1) #[qA sA 0,uA eA 0 0] 40):=R2.o.z y;have B3:fB _:=xB B2.o y;clear D y s0 s1;have y0:u.cell? ⟨w.1.size+1+1,0,eA⟩=fA (qA sA 0):=F.o.cell 0;have y1:u.cell? ⟨w.1.size+1+1,1,eA⟩=fA (uA eA 0 0):=F.o.cell 1;have d:=F.o.free 0;have b:=F.o.free 1;have hw2:=eB R2.o;go_wp2;have A:jB (·=w.1.size+1+1) u ((u.setCell ⟨w.1.size+1+1,0,eA⟩ (qA sA o)).setCell ⟨w.1.size+1+1,1,eA⟩ (uA z (cB p) E)):=((jB.refl (·=w.1.size+1+1) u).setCell (Ca rfl) 0 _).setCell (Ca rfl) 1 _;refine bodyPost_ret (v:=bB #[yA #[qA sA o,uA z (cB p) E],vA gA]) (by simp[results,results40,go_sem,y0,y1]) rfl ?_;rw[HV.o];have X:cD ((u.setCell ⟨w.1.size+1+1,0,eA⟩ (qA sA o)).setCell ⟨w.1.size+1+1,1,eA⟩ (uA z (cB p) E)) w.1.size z p:=(cD.turned G.o A (λg h1 h2 e=>by omega)).mono (by omega);have C:=((jB.of (S:=λi=>w.1.size<=i) B3.o).trans' (A.mono λi _ e=>by omega)).below (Ia _) λi hi h=>by omega
 first
  |exact⟨z,⟨E,rfl⟩,X,C⟩
  |exact⟨z,E,rfl,X,C⟩
end
