import Derived.Test.YtbfnhppoecdnoaaGreatDoorJ11
import Derived.Test.YtbfnhppoecdnoaaGreatDoorJ09
set_option maxRecDepth 100000
set_option maxHeartbeats 4000000
set_option linter.defProp false
open Bool renaming true->dA,false->cA
open Option renaming some->bA,none->aA
open ByteArray renaming empty->kA
open List renaming length->vA
namespace Go.Proofs.YtbfnhppoecdnoaaGreatDoor
open Go renaming World->eA,TypeId->jA,Value->iA
open Value renaming string->nA,int->lA,bool->pA,slice->oA
open IntKind renaming i64->mA
open Obj renaming cells->tA
open Go.RowKit Tryz
def EI(b:gB)(a:Int)(w:eA):
 qD 231 #[.agg #[nA b,lA mA a],.agg #[nA b,lA mA a]] w (pA dA):=by
 go_enter func231,ntmps231;go_wp2;go_ret;exact⟨rfl,(eD.alloc (Ia _) _).alloc (by simp) _⟩
def CT(a q:iC)(r j:Nat)(d:List dB)(w:eA)(u:yB w a d)(l:yB w q d)(m:vA d<=maxLen):
 qD 193 #[oA a (vA d) r,oA q (vA d) j] w (pA dA):=by
 unfold maxLen at m;have v:xA (yB w a d):=u;have p:xA (yB w q d):=l;clear u l;go_enter func193,ntmps193;go_wp2;go_loopw [5] (fun i wr=>∃k:Nat,k<=vA d/\i=lA mA k/\kB w wr) (fun i _=>vA d-(intOf i).toNat)
 case atStart=>exact⟨0,Oa _,rfl,eD⟩
 case round=>
  obtain⟨k,H,rfl,c⟩:=hrel;by_cases n:k<vA d
  .obtain ⟨b,o,rfl,G,s,t⟩:=(v.o.z c).at n;obtain⟨D,I,rfl,A,f,g⟩:=(p.o.z c).at n;have E:=tB.cells s;have F:=tB.cells t;have y:=tB.cells f;have z:=tB.cells g;clear s t f g;have B:=tB.there wr;go_wp2_with fail;refine jB (by kernel_rfl) (by kernel_rfl) ?_;repeat (go_big_quiet_step (refine xB (EI _ _ _)))
   refine wpQuiet_nil ?_;rintro _ ⟨x,rfl⟩;go_wp2;exact⟨⟨k+1,by omega,by go_num,c.trans (x.h.mono c.size)⟩,by simp[intOf];omega⟩
  go_wp2;go_ret;exact⟨rfl,c⟩
def WC(b:gB)(a:Int)(w:eA):
 qD 232 #[.agg #[nA b,lA mA a],.agg #[nA b,lA mA a]] w (pA dA):=by
 go_enter func232,ntmps232;go_wp2;go_ret;exact⟨rfl,(eD.alloc (Ia _) _).alloc (by simp) _⟩
def RU(a q:iC)(r j:Nat)(d:List dB)(w:eA)(u:yB w a d)(l:yB w q d)(m:vA d<=maxLen):
 qD 194 #[oA a (vA d) r,oA q (vA d) j] w (pA dA):=by
 unfold maxLen at m;have v:xA (yB w a d):=u;have p:xA (yB w q d):=l;clear u l;go_enter func194,ntmps194;go_wp2;go_loopw [5] (fun i wr=>∃k:Nat,k<=vA d/\i=lA mA k/\kB w wr) (fun i _=>vA d-(intOf i).toNat)
 case atStart=>exact⟨0,Oa _,rfl,eD⟩
 case round=>
  obtain⟨k,H,rfl,c⟩:=hrel;by_cases n:k<vA d
  .obtain ⟨b,o,rfl,G,s,t⟩:=(v.o.z c).at n;obtain⟨D,I,rfl,A,f,g⟩:=(p.o.z c).at n;have E:=tB.cells s;have F:=tB.cells t;have y:=tB.cells f;have z:=tB.cells g;clear s t f g;have B:=tB.there wr;go_wp2_with fail;refine jB (by kernel_rfl) (by kernel_rfl) ?_;repeat (go_big_quiet_step (refine xB (WC _ _ _)))
   refine wpQuiet_nil ?_;rintro _ ⟨x,rfl⟩;go_wp2;exact⟨⟨k+1,by omega,by go_num,c.trans (x.h.mono c.size)⟩,by simp[intOf];omega⟩
  go_wp2;go_ret;exact⟨rfl,c⟩
def nV.tail{f:cB}{r:List cB}(h:nV (f::r)):nV r:=fun i j a b=>by
 have:=h (i+1) (j+1) (by omega) (by simp;omega);simpa using this
def nV.head{f:cB}{r:List cB}(h:nV (f::r))(j:Nat)(a:j<vA r):Op.bytesLess f.N.toList r[j].N.toList=dA:=by
 have:=h 0 (j+1) (by omega) (by simp;omega);simpa using this
theorem rK:∀{c:List cB}(t:gB),nV c->rU c t (fC t c)
 |[],t,_=>⟨Ia _,fun j h=>absurd h (by simp),fun j h=>absurd h (by simp)⟩
 |f::r,t,g=>by
  have e:=rK t g.tail;unfold fC;by_cases b:Op.bytesLess f.N.toList t.toList=dA
  .rw[Ma b];refine⟨by simp;exact e.1,fun j a k=>?_,fun j a i=>?_⟩
   .cases j with
    |zero=>exact b
    |succ j=>simpa using e.2.1 j (by simpa using a) (by omega)
   cases j with
   |zero=>omega
   |succ j=>simpa using e.2.2 j (by simpa using a) (by omega)
  rw[Ja b];refine⟨Oa _,fun j _ h=>absurd h (by omega),fun j a _=>?_⟩;cases j with
  |zero=>simpa using b
  |succ j=>
   have d:j<vA r:=by simpa using a
   show Op.bytesLess r[j].N.toList t.toList=cA;rw[Yc];intro h;exact b (gJ _ _ _ (g.head j d) h)
def zZ(a:iC)(d:Nat)(b:List cB)(t:gB)(w:eA)(j:eB w a b)(c:nV b)(f:vA b<=1048576):
 qD 256 #[oA a (vA b) d,nA t] w (.tuple #[lA mA (fC t b),pA (kI b t (fC t b))]):=by
 refine(uX a d b t w j c f).mono ?_;rintro e g ⟨i,k,rfl,h⟩;obtain rfl:=k.uniq (rK t c);exact⟨rfl,h⟩
theorem PH{a:List cB}{t:gB}{i:Nat}(h:kI a t i=dA):∃b:i<vA a,a[i].N=t:=by grind [kI,toList_inj]
def pD(a:List cB)(t:gB):List cB:=a.filter fun f=>!(f.N.toList==t.toList)
def kH:List cB->cB->List cB
 |[],f=>[f]
 |g::r,f=>if Op.bytesLess f.N.toList g.N.toList=dA then f::g::r else g::kH r f
def JV{a:List cB}{t:gB}(h:∀j(b:j<vA a),a[j].N≠t):pD a t=a:=by
 unfold pD;rw[Jc];intro f c;obtain⟨j,b,rfl⟩:=Ib c;simp only[Bool.not_eq_true',Ug,ne_eq];exact fun e=>h j b (toList_inj e)
theorem bW:∀{a:List cB}{i:Nat}(_:nV a)(g:i<vA a),pD a a[i].N=a.eraseIdx i
 |f::r,0,c,_=>by
  have e:pD (f::r) f.N=pD r f.N:=by simp[pD]
  show pD (f::r) f.N=r;rw[e];exact JV fun j h e=>by
   have:=c.head j h;rw[e,iH]at this;exact absurd this (by simp)
 |f::r,i+1,c,g=>by
  have b:i<vA r:=by simpa using g
  have k:=bW c.tail b;have d:(f.N.toList==(r[i]).N.toList)=cA:=by
   rw[Ug];intro e;have:=c.head i b;rw[e,iH]at this;exact absurd this (by simp)
  show pD (f::r) r[i].N=f::r.eraseIdx i;rw[<-k];simp[pD,d]
def nV.erase{a:List cB}(h:nV a)(i:Nat):nV (a.eraseIdx i):=by grind [nV]
def YQ{a:List cB}{t:gB}(f:nV a)(g:kI a t (fC t a)=cA):∀j(b:j<vA a),a[j].N≠t:=by
 intro j b e;have i:=rK t f;rcases Nat.lt_trichotomy j (fC t a) with h|h|h;have:=i.2.1 j b h;rw[e,iH]at this;exact absurd this (by simp)
 .have:kI a t j=dA:=by simp[kI,Va b,e]
  rw[<-h,this]at g;exact absurd g (by simp)
 have c:=i.2.2 (fC t a) (by omega) (Ia _);have d:=f (fC t a) j h b;rw[e]at d;rw[d]at c;exact absurd c (by simp)
theorem LF:∀{a:List cB}(f:cB),nV a->(∀j(k:j<vA a),a[j].N≠f.N)->kH a f=bN a (fC f.N a) f
 |[],f,_,_=>rfl
 |g::r,f,i,h=>by
  have l:=LF f i.tail (fun j k=>by have:=h (j+1) (by simp;omega);simpa using this);unfold kH fC;by_cases b:Op.bytesLess g.N.toList f.N.toList=dA
  .rw[Ja (by rw[mQ b];simp),Ma b,l];simp[bN]
  have d:g.N.toList≠f.N.toList:=fun e=>h 0 (by simp) (toList_inj e);have c:=gM _ _ (by simpa using b) d;rw[Ma c,Ja b];rfl
theorem aFg{a:List cB}{i:Nat}(b:i<vA a)(f:cB):bN (a.eraseIdx i) i f=a.set i f:=by
 rw[bN,List.eraseIdx_eq_take_drop_succ,List.set_eq_take_append_cons_drop,Ma b];have c:vA (a.take i)=i:=by rw[Hb];omega
 rw[List.take_append_of_le_length (by omega),Ra (by omega),List.drop_append_of_le_length (by omega),Ie (by omega),Mb]
theorem aGw{b:List cB}{i:Nat}(c:nV b)(d:i<vA b):fC b[i].N (b.eraseIdx i)=i:=by
 refine(rK _ (c.erase i)).uniq ⟨by rw[Ad,Ma d];omega,fun j e a=>?_,fun j e f=>?_⟩;rw[List.getElem_eraseIdx,dif_pos a];exact c j i a d;rw[List.getElem_eraseIdx,dif_neg (by omega)];rw[Ad,Ma d]at e;exact mQ (c i (j+1) (by omega) (by omega))
def uH(a:List cB)(f:cB):List cB:=kH (pD a f.N) f
def VS{a:List cB}{f:cB}(b:nV a)(d:kI a f.N (fC f.N a)=cA):uH a f=bN a (fC f.N a) f:=by
 have c:=YQ b d;unfold uH;rw[JV c];exact LF f b c
theorem VT{a:List cB}{f:cB}{i:Nat}(b:nV a)(d:i<vA a)(c:a[i].N=f.N):uH a f=a.set i f:=by grind [nV,uH,bW,iH,LF,aGw,aFg]
def mD(k a b:Int)(c:Bool):Nat×Int×Bool:=
 if c=dA then(1,k,dA) else if k=1000000000000000 then(2,k,cA) else if a≠0/\k+1=a then(1,k+1,dA) else if b≠0/\k+1=b then(2,k+1,cA) else(0,k+1,cA)
def nX(D:Nat)(t:jA)(o p:iA)(k b c:Int)(g:Bool)(w:eA)(i:iB w D #[lA mA k,lA mA b,lA mA c,pA g,o,p] t)(C:0<=k)(F:k<=1000000000000000):
 Calls prog 258 #[.pointer (bA ⟨D,0,aA⟩)] w fun e s=>e=.returned (gH (mD k b c g).1)/\tD D w s/\iB s D #[lA mA (mD k b c g).2.1,lA mA b,lA mA c,pA (mD k b c g).2.2,o,p] t:=by
 have v:=i.cell 0;have x:=i.cell 3;simp only[Xb,Ob,Ga]at v x;have a:=i.free 0;have n:(g=dA/\mD k b c g=(1,k,dA)\/(g=cA/\k=1000000000000000)/\mD k b c g=(2,k,cA))\/g=cA/\¬k=1000000000000000:=by
  cases g<;>by_cases h:k=1000000000000000<;>simp[mD,h]
 rcases n with(⟨rfl,E⟩|⟨⟨rfl,rfl⟩,E⟩)|⟨rfl,M⟩
 iterate 2
  .have E:=yA E
   have u:=yA i;clear i
   go_enter func258,ntmps258
   go_wp2
   go_ret
   rw[E.o];exact⟨rfl,tD.refl _ _,u.o⟩
 have j:=i.set 0 (lA mA (k+1));have d:xA (iB (w.setCell ⟨D,0,aA⟩ (lA mA (k+1))) D #[lA mA (k+1),lA mA b,lA mA c,pA cA,o,p] t):=by show iB _ _ _ _;simpa using j
 clear i j;have y:=d.o.cell 0;have z:=d.o.cell 1;have A:=d.o.cell 2;have B:=d.o.cell 3;simp only[Xb,Ob,Ga]at y z A B;have H:=d.o.free 3;have f:=yA ((tD.refl D w).setCell 0 (lA mA (k+1)));have G:IntKind.i64.wrap (k+1)=k+1:=by rw[IntKind.wrap_i64];omega
 have n:(¬b=0/\k+1=b)/\mD k b c cA=(1,k+1,dA)\/(b=0\/¬b=0/\¬k+1=b)/\((¬c=0/\k+1=c)/\mD k b c cA=(2,k+1,cA)\/(c=0\/¬c=0/\¬k+1=c)/\mD k b c cA=(0,k+1,cA)):=by
  by_cases l:b=0<;>by_cases q:k+1=b<;>by_cases m:c=0<;>by_cases r:k+1=c<;>simp_all[mD]
 rcases n with⟨⟨l,rfl⟩,E⟩|⟨rfl|⟨l,q⟩,⟨⟨m,rfl⟩,E⟩|⟨rfl|⟨m,r⟩,E⟩⟩
 all_goals
  have E:=yA E;try have I:=Ub l
  try have J:=beq_false_of_ne q
  try have K:=Ub m
  try have L:=beq_false_of_ne r
  go_enter func258,ntmps258;go_wp2_with fail;go_quiet (fail)
  go_wp2_with fail;try (go_quiet (fail);go_wp2)
  go_ret;rw[E.o];first
   |exact⟨rfl,f.o.trans (tD.of (below_drewN (below_drewN eD _) _)),d.o.z (below_drewN (below_drewN eD _) _)⟩
   |exact⟨rfl,f.o.trans (tD.of (below_drewN eD _)),d.o.z (below_drewN eD _)⟩
   |exact⟨rfl,(f.o.trans (tD.of (below_drewN eD _))).setCell _ _,by simpa using (d.o.z (below_drewN eD nq)).set 3 (pA dA)⟩
structure vK where
 K:Int
 N:gB
 tq:gB
 data:gB
 size:Int
def LD(a:vK):Bool:=wB a.K 1 6&&uG a.N&&(decide (a.K≠5) ||uG a.tq)
def uP(a:List cB)(c:Int)(b:vK):Nat×List cB:=
 let i:=fC b.N a
 if b.K=1 then(if kI a b.N i=dA then(5,a) else if 1000<=vA a then(3,a) else(0,bN a i ⟨b.N,kA,0⟩))
 else match a[i]? with
  |none=>(4,a)
  |some f=>
   if kI a b.N i=cA then(4,a)
   else if b.K=2 then(if c<rC a+b.data.size then(3,a) else(0,a.set i ⟨f.N,f.data++b.data,f.Y⟩))
   else if b.K=3 then(0,a.set i ⟨f.N,f.data,f.data.size⟩)
   else if b.K=4 then(if wB b.size 0 f.data.size=dA then(0,a.set i ⟨f.N,f.data.extract 0 b.size.toNat,b.size⟩) else(6,a))
   else if b.K=5 then(0,uH (a.eraseIdx i) ⟨b.tq,f.data,f.Y⟩)
   else(0,a.eraseIdx i)
def jx(w:eA)(b:Nat)(a:vK)(t:jA):Prop:=iB w b #[lA mA a.K,nA a.N,nA a.tq,nA a.data,lA mA a.size] t
def jx.cells{w:eA}{b:Nat}{a:vK}{t:jA}(h:jx w b a t):w.cell? ⟨b,0,aA⟩=bA (lA mA a.K)/\w.cell? ⟨b,1,aA⟩=bA (nA a.N)/\w.cell? ⟨b,2,aA⟩=bA (nA a.tq)/\w.cell? ⟨b,3,aA⟩=bA (nA a.data)/\w.cell? ⟨b,4,aA⟩=bA (lA mA a.size):=by
 refine⟨?_,?_,?_,?_,?_⟩<;>rw[iB.cell h]<;>rfl
def nh{W w c:eA}{B:Nat}{e:jA}{size:Nat}{v:iA}{n:Nat}{j:List iA}(h:w.ownsRow B e size v n j)(i:Below B W w)(b:B<=w.1.size)(a:w.grownBy c v.ownBlock):Below B W c:=
 i.trans ((gE.grown (S:=fun k=>v.ownBlock=bA k) a (fun _ h=>h)).below (fun g a=>by
  rcases h.2 with⟨rfl,_⟩|⟨l,d,f,rfl,m,_⟩;simp[iA.ownBlock]at a;simp[iA.ownBlock]at a;omega) b)
def aKw(W:eA)(x:Obj)(cs:Array iA)(t:jA):∀j u,cs.toList[j]?=bA u->((W.alloc x).alloc (tA cs t)).cell? ((⟨W.1.size+1,0,aA⟩:Addr).add j)=bA u:=
 eA.news_of_block (fr:=(0,0)) (by have h:=heap_alloc_new (W.alloc x) (tA cs t);simpa using h)
def jr(l:List cB)(f:cB)(t:gB):pD (l++[f]) t=pD l t++(if (f.N.toList==t.toList)=dA then [] else [f]):=by grind [pD]
def lU(l:List cB)(t:gB):vA (pD l t)<=vA l:=Pc _ _
def DJ(a:iC)(A:Nat)(c:List cB)(t:gB)(w:eA)(G:eB w a c)(H:vA c<=1048576):
 Calls prog 159 #[oA a (vA c) A,nA t] w fun e J=>∃v,e=.returned v/\J.ownsRow w.1.size 149 3 v (vA (pD c t)) (flat (pD c t))/\kB w J:=by
 have K:xA (eB w a c):=G;clear G;obtain⟨P,s,B,C,D⟩:=aM;have L:xA _:=s;clear s;go_enter func159,ntmps159;go_wp2;go_loopw [5,7,11] (fun o _ i wr=>∃(j:Nat)(m:iC)(n p:Nat),j<=vA c/\i=lA mA j/\o=oA m n p/\n=vA (pD (c.take j) t)/\wr.ownsRow w.1.size 149 3 (oA m n p) n (flat (pD (c.take j) t))/\kB w wr) (fun _ _ i _=>vA c-(intOf i).toNat)
 case atStart=>exact⟨0,_,0,0,Oa _,rfl,rfl,rfl,⟨rfl,La ⟨w.1.size,0,#[],rfl,Ia _,heap_alloc_new _ _,Ia _,Oa _,rfl,rfl⟩⟩,vB⟩
 case round=>
  obtain⟨j,m,n,p,V,rfl,rfl,r,k,d⟩:=hrel;have u:xA (wr.ownsRow w.1.size 149 3 (oA m n p) n (flat (pD (c.take j) t))):=k;have HN:xA _:=r;have O:n<=1048576:=by have:=lU (c.take j) t;rw[Hb]at this;omega
  clear k r;by_cases q:j<vA c
  .obtain ⟨b,o,rfl,U,Q,R,S⟩:=(K.o.z d).at q;have y:xA (pD (c.take (j+1)) t=pD (c.take j) t++(if (c[j].N.toList==t.toList)=dA then [] else [c[j]])):=by
    show _=_;rw[Pa q,jr]
   by_cases x:(c[j].N.toList==t.toList)=dA
   .have f:xA (pD (c.take (j+1)) t=pD (c.take j) t):=by show _=_;rw[y.o,Ma x];simp
    go_wp2;exact⟨⟨j+1,m,n,p,by omega,by go_num,rfl,by rw[f.o];exact HN.o,by rw[f.o];exact jC u.o vB,oB d vB⟩,by simp[intOf];omega⟩
   have N:(c[j].N.toList==t.toList)=cA:=by simpa using x
   have f:xA (pD (c.take (j+1)) t=pD (c.take j) t++[c[j]]):=by show _=_;rw[y.o,Ja x]
   have z:xA (kB wr ((wr.alloc (tA #[nA c[j].N,nA c[j].data,lA mA c[j].Y] 149)).alloc (tA #[nA c[j].N,nA c[j].data,lA mA c[j].Y] 149))):=oB vB vB;clear x y;go_wp2_with(at_builtin;refine wpList_append_lies _ rfl _ _ _ rfl w.1.size 149 P _ 3 40 underlying35 L.o B C D rfl (by omega) (oA m n p) n (flat (pD (c.take j) t)) rfl (by exact jC u.o z.o) ⟨wr.1.size+1,0,aA⟩ 1 1 [nA c[j].N,nA c[j].data,lA mA c[j].Y] rfl rfl (by exact aKw _ _ #[nA c[j].N,nA c[j].data,lA mA c[j].Y] _) (by simp[iA.oneCell']) (by omega) (by simp[maxLen];omega) (by omega) (by have:=d.size;simp;omega) (wr.1.size+1+1) (by simp) ?_;intro T E W l g F I);refine⟨⟨j+1,_,n+1,_,by omega,by go_num,rfl,by rw[f.o,Kb,<-HN.o];rfl,?_,?_⟩,by simp[intOf];omega⟩
   .rw[f.o,xL,AF];exact l
   exact nh (jC u.o z.o) (oB d z.o) (by have:=d.size;simp;omega) g
  .go_wp2;go_ret;have M:j=vA c:=by omega
   have h:=u.o;have r:=HN.o;rw[M,Rb]at h r;subst r;exact⟨_,rfl,h,d⟩
def cV:∀{l:List cB}{f:cB}(r:List cB),(l.any fun g=>Op.bytesLess f.N.toList g.N.toList)=dA->kH (l++r) f=kH l f++r
 |[],_,_,h=>by simp at h
 |g::l,f,r,h=>by
  show kH (g::(l++r)) f=_;unfold kH;by_cases a:Op.bytesLess f.N.toList g.N.toList=dA
  .rw[Ma a,Ma a];rfl
  rw[Ja a,Ja a,cV r (by simpa[a]using h)];rfl
def vR:∀{l:List cB}{f:cB}(r:List cB),(l.any fun g=>Op.bytesLess f.N.toList g.N.toList)=cA->kH (l++r) f=l++kH r f
 |[],_,_,_=>rfl
 |g::l,f,r,h=>by
  simp only[List.any_cons,Bool.or_eq_false_iff]at h;show kH (g::(l++r)) f=_;rw[kH,Ja (by rw[h.1];simp),vR r h.2];rfl
def dH(a:List cB)(f:cB)(j:Nat):Bool:=(a.take j).any fun g=>Op.bytesLess f.N.toList g.N.toList
def lM(a:List cB)(f:cB)(j:Nat):List cB:=if dH a f j=dA then kH (a.take j) f else a.take j
def gN{a:List cB}{f:cB}{j:Nat}(h:j<vA a):dH a f (j+1)=(dH a f j||Op.bytesLess f.N.toList a[j].N.toList):=by
 unfold dH;rw[Pa h,Tf];simp only[List.any_cons,List.any_nil,Bool.or_false]
def qy{a:List cB}{f:cB}{j:Nat}(h:j<vA a)(b:dH a f j=dA):lM a f (j+1)=lM a f j++[a[j]]:=by
 unfold lM;rw[Ma b,Ma (by rw[gN h,b];rfl),Pa h];exact cV _ b
def aLm{a:List cB}{f:cB}{j:Nat}(h:j<vA a)(c:dH a f j=cA)(b:Op.bytesLess f.N.toList a[j].N.toList=dA):lM a f (j+1)=lM a f j++[f]++[a[j]]:=by
 have d:dH a f (j+1)=dA:=by rw[gN h,b];simp
 have e:lM a f (j+1)=kH (a.take (j+1)) f:=Ma d;have g:lM a f j=a.take j:=Ja (by rw[c];simp);rw[e,g,Pa h,vR _ c];simp[kH,b]
def aLl{a:List cB}{f:cB}{j:Nat}(h:j<vA a)(b:dH a f j=cA)(g:Op.bytesLess f.N.toList a[j].N.toList=cA):lM a f (j+1)=lM a f j++[a[j]]:=by
 have c:dH a f (j+1)=cA:=by rw[gN h,b,g];rfl
 have d:lM a f (j+1)=a.take (j+1):=Ja (by rw[c];simp);have e:lM a f j=a.take j:=Ja (by rw[b];simp);rw[d,e,Pa h]
def aLk{a:List cB}{f:cB}(b:dH a f (vA a)=cA):kH a f=lM a f (vA a)++[f]:=by
 unfold lM;rw[Ja (by rw[b];simp)];unfold dH at b;rw[Rb]at b |-
 have:=vR (f:=f) [] b;rw[Cd]at this;rw[this];rfl
def aLi{a:List cB}{f:cB}(b:dH a f (vA a)=dA):kH a f=lM a f (vA a):=by
 unfold lM;rw[Ma b,Rb]
def qx(b:List cB)(f:cB)(j:Nat):vA (lM b f j)<=j+1:=by
 have a:∀(l:List cB),vA (kH l f)=vA l+1:=fun l=>by
  induction l with
  |nil=>rfl
  |cons g r c=>unfold kH;split<;>simp[c]
 unfold lM;split;rw[a,Hb];omega;rw[Hb];omega
def aHd{w:eA}{B:Nat}{e:jA}{size:Nat}{v:iA}{n:Nat}{xs:List iA}(h:w.ownsRow B e size v n xs):∀g,v.ownBlock=bA g->B<=g:=by
 intro g a;rcases h.2 with⟨rfl,_⟩|⟨d,cap,b,rfl,c,_⟩;simp[iA.ownBlock]at a;simp[iA.ownBlock]at a;subst a;exact c
def bY:(prog.info? 149).map (fun i=>(i.zero,i.size,i.bytes))=bA (bA (.agg #[nA kA,nA kA,lA mA 0]),3,40):=by kernel_rfl
structure WI(w wr:World)(C:Nat)(a1:iC)(es:List cB)(f:cB)(av:iC)(n cv:Nat)(xs:List Value):Prop where
 row:wr.ownsRow (w.1.size+1) 149 3 (oA av n cv) n xs
 ap:∀b o,a1=bA ⟨b,o,aA⟩→bA b≠(iA.slice av n cv).ownBlock∧b<C
 sz:C≤wr.1.size
 fi:eB wr a1 es
 fb:iB wr w.1.size #[nA f.N,nA f.data,lA mA f.Y] 149
 bel:kB w wr
section
variable {w wr w':eA} {C n cv g cap:Nat} {a1 av:iC} {es:List cB} {f:cB} {xs ys:List iA}
theorem WI.z(h:WI w wr C a1 es f av n cv xs)(a:kB wr w'):WI w w' C a1 es f av n cv xs:=⟨jC h.row a,h.ap,Ua h.sz a.size,h.fi.z a,h.fb.z a,oB h.bel a⟩
theorem WI.app(h:WI w wr C a1 es f av n cv xs)(O:xA (w'.ownsRow (w.1.size+1) 149 3 (oA (bA ⟨g,0,aA⟩) (n+1) cap) (n+1) ys))(T:xA (bB (fun i=>w.1.size+1<=i/\(iA.slice av n cv).ownBlock=bA i) wr w'))(c:xA ((iA.slice av n cv).ownBlock=bA g\/wr.1.size<=g)):WI w w' C a1 es f (bA ⟨g,0,aA⟩) (n+1) cap ys:=by
 have r:=zA h.fb;refine⟨O.o,fun b o e=>⟨fun k=>?_,(h.ap b o e).2⟩,Ua h.sz T.o.size,?_,T.o.blk h.fb (by omega),h.bel.trans (T.o.below (by omega) fun i m e=>by omega)⟩
 .have:=(h.ap b o e).2;have:=h.sz;simp only[iA.ownBlock,Qa]at k;subst k;rcases c.o with l|l
  .exact (h.ap b o e).1 l.symm
  omega
 rcases h.fi with d|⟨b,o,rfl,a,d⟩;exact Ca d;have p:=T.o.block b a fun e=>(h.ap b o rfl).1 e.2.symm;have q:∀j,w'.cell? ⟨b,j,aA⟩=wr.cell? ⟨b,j,aA⟩:=fun j=>eA.cell?_of_block p;exact La ⟨b,o,rfl,Bb a T.o.size,fun i m=>by simp only[q];exact d i m⟩
end
def xz(a:iC)(cap:Nat)(k:List cB)(f:cB)(w:eA)(V:eB w a k)(K:vA k<=1048576):
 Calls prog 158 #[oA a (vA k) cap,.agg #[nA f.N,nA f.data,lA mA f.Y]] w fun e w'=>∃v,e=.returned v/\w'.ownsRow w.1.size 149 3 v (vA (uH k f)) (flat (uH k f))/\kB w w':=by
 have Z:=yA V;clear V;go_enter func158,ntmps158;go_wp2_with fail;refine(DJ a cap k f.N _ ((Z.o.z vB).z vB) K).mono ?_;rintro e R ⟨v1,rfl,c,u⟩;obtain⟨a1,S,rfl,q⟩:=cH c;have hes:=lU k f.N;have H:xA (uH k f=kH (pD k f.N) f):=rfl;generalize pD k f.N=es at *;have G:xA (WI w R R.1.size a1 es f (bA ⟨w.1.size+1,0,aA⟩) 0 0 []):=by
  have h:=iB.z (w:=(w.alloc (tA #[nA f.N,nA f.data,lA mA f.Y] 149)).alloc (tA #[] 149)) (g:=(w.alloc (tA #[nA f.N,nA f.data,lA mA f.Y] 149)).1.size) (heap_alloc_new _ _) u;refine⟨⟨rfl,La ⟨w.1.size+1,0,#[],rfl,Ia _,by show iB _ _ _ _;simpa using h,Ia _,Oa _,rfl,rfl⟩⟩,fun b o e=>?_,Ia _,q.files,(iB.z (iB.z (g:=w.1.size) (heap_alloc_new w (tA #[nA f.N,nA f.data,lA mA f.Y] 149)) eD) vB).z u,oB (oB vB vB) u⟩;have h1:=(aHd c) b (by rw[e];rfl);have h2:=(nG c) b (by rw[e];rfl);simp at h1;exact⟨by simp[iA.ownBlock];omega,h2⟩
 clear c q u;go_wp2;go_loopw [5,6,8,15] (fun o p _ i wr=>∃(j:Nat)(av:iC)(n cv:Nat),j<=vA es/\i=lA mA j/\o=oA av n cv/\p=pA (dH es f j)/\n=vA (lM es f j)/\xA (WI w wr R.1.size a1 es f av n cv (flat (lM es f j)))) (fun _ _ _ i _=>vA es-(intOf i).toNat)
 case atStart=>exact⟨0,_,0,0,Oa _,rfl,rfl,rfl,rfl,G.o⟩
 case round=>
  obtain⟨j,av,n,cv,hj,rfl,rfl,rfl,W,m⟩:=hrel;have HN:=yA W;have hn2:n<=1048577:=by have:=qx es f j;omega
  have Q:=zA m.o.fb;have x0:cC wr w.1.size 0 (nA f.N):=m.o.fb.cell 0;have x1:cC wr w.1.size 1 (nA f.data):=m.o.fb.cell 1;have x2:cC wr w.1.size 2 (lA mA f.Y):=m.o.fb.cell 2;clear W G;by_cases d:j<vA es
  .obtain ⟨b,o,rfl,hb,c0,c1,c2⟩:=m.o.fi.at d;have t:=yA (m.o.z (yG wr (tA #[nA es[j].N,nA es[j].data,lA mA es[j].Y] 149)));have O:xA (iB (wr.alloc (tA #[nA es[j].N,nA es[j].data,lA mA es[j].Y] 149)) wr.1.size #[nA es[j].N,nA es[j].data,lA mA es[j].Y] 149):=heap_alloc_new _ _;have J:w.1.size+1<=(wr.alloc (tA #[nA es[j].N,nA es[j].data,lA mA es[j].Y] 149)).1.size:=by simp;omega
   have A:(dH es f j=cA/\Op.bytesLess f.N.toList es[j].N.toList=dA/\Op.bytesLess es[j].N.toList f.N.toList=cA/\(es[j].N.toList==f.N.toList)=cA)\/dH es f (j+1)=dH es f j/\lM es f (j+1)=lM es f j++[es[j]]/\(dH es f j=dA\/dH es f j=cA/\Op.bytesLess f.N.toList es[j].N.toList=cA/\(Op.bytesLess es[j].N.toList f.N.toList=dA\/(es[j].N.toList==f.N.toList)=dA)):=by
    cases l:dH es f j
    .cases r:Op.bytesLess f.N.toList es[j].N.toList
     .refine La ⟨by rw[gN d,l,r];rfl,aLl d l r,La ⟨rfl,rfl,?_⟩⟩;by_cases e:es[j].N.toList=f.N.toList
      .right;simpa using e
      left;exact gM _ _ r (Ne.symm e)
     exact Ca ⟨rfl,rfl,mQ r,by rw[Ug];intro e;rw[e,iH]at r;exact absurd r (by simp)⟩
    exact La ⟨by rw[gN d,l];rfl,qy d l,Ca rfl⟩
   rcases A with⟨l,r,hg1,hg2⟩|⟨L,X,A⟩
   .have F:=yA (aLm d l r);have M:xA (dH es f (j+1)=dA):=by show _=_;rw[gN d,r];simp
    go_wp2_with(first
     |(at_builtin;refine eO rfl _ _ rfl underlying35 bY rfl (by omega) (by omega) rfl t.o.row rfl (by simp) (cs:=#[nA f.N,nA f.data,lA mA f.Y]) rfl (by simp[iA.oneCell']) (by omega) (by exact J) ?_;intro U y D I B E;have z:=yA (t.o.app I B E);have x:=B.o.blk O.o (fun e=>absurd (nG m.o.row _ e.2) (by omega));have k0:cC D wr.1.size 0 (nA es[j].N):=x.cell 0;have k1:cC D wr.1.size 1 (nA es[j].data):=x.cell 1;have k2:cC D wr.1.size 2 (lA mA es[j].Y):=x.cell 2;have P:w.1.size+1<=D.1.size:=zA z.o.fb;clear x)
     |(at_builtin;refine eO rfl _ _ rfl underlying35 bY rfl (by omega) (by omega) rfl z.o.row rfl rfl (cs:=#[nA es[j].N,nA es[j].data,lA mA es[j].Y]) rfl (by simp[iA.oneCell']) (by omega) (by exact P) ?_;intro g6 T w6 O6 T6 Y))
    refine⟨⟨j+1,_,n+1+1,_,by omega,by go_num,rfl,by rw[M.o],by rw[F.o,Kb,Kb,<-HN.o];rfl,?_⟩,by simp[intOf];omega⟩;rw[F.o,xL,xL,AF,AF];exact yA (z.o.app O6 T6 Y)
   have F:=yA X;have M:=yA L;clear X L;rcases A with l|⟨l,r,hg|hg⟩
   all_goals
    rw[l]at M;go_wp2_with(at_builtin;refine eO rfl _ _ rfl underlying35 bY rfl (by omega) (by omega) rfl t.o.row rfl (by simp) (cs:=#[nA es[j].N,nA es[j].data,lA mA es[j].Y]) rfl (by simp[iA.oneCell']) (by omega) (by exact J) ?_;intro U y D I B E);refine⟨⟨j+1,_,n+1,_,by omega,by go_num,rfl,by rw[M.o],by rw[F.o,Kb,<-HN.o];rfl,?_⟩,by simp[intOf];omega⟩;rw[F.o,xL,AF];exact yA (t.o.app I B E)
  have s:xA (j=vA es):=by show _=_;omega
  cases l:dH es f j
  .have N:xA (uH k f=lM es f j++[f]):=by show _=_;rw[H.o,s.o];exact aLk (by rw[<-s.o];exact l)
   go_wp2_with(at_builtin;refine eO rfl _ _ rfl underlying35 bY rfl (by omega) (by omega) rfl m.o.row rfl rfl (cs:=#[nA f.N,nA f.data,lA mA f.Y]) rfl (by simp[iA.oneCell']) (by omega) (by exact Q) ?_;intro U y D I B E);go_ret;rw[N.o,Kb,<-HN.o,xL,AF];have h:=m.o.app I B E;exact⟨_,rfl,US (B':=w.1.size) h.row (by omega),h.bel⟩
  have N:xA (uH k f=lM es f j):=by show _=_;rw[H.o,s.o];exact aLi (by rw[<-s.o];exact l)
  go_wp2;go_ret;rw[N.o,<-HN.o];exact⟨_,rfl,US (B':=w.1.size) m.o.row (by omega),m.o.bel⟩
