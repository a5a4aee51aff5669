import Derived.Test.YtbfnhppoecdnoaaGreatDoorJ25
set_option maxRecDepth 100000
set_option maxHeartbeats 8000000
set_option linter.defProp false
open Bool renaming false->cA,true->dA
open ByteArray renaming empty->kA
open Option renaming none->aA,some->bA
open List renaming length->vA
namespace Go.Proofs.YtbfnhppoecdnoaaGreatDoor
open Go renaming World->eA,Value->iA,TypeId->jA
open Value renaming slice->oA,int->lA,string->nA,tuple->uA
open Obj renaming cells->tA
open IntKind renaming i64->mA
open Ending renaming returned->sA
open RowKit renaming Below->fA
open Go.RowKit Tryz
def mK(t:aB)(key:gB)(a:Int):aB:=⟨t.N,t.L,t.M,gC (·.s) ⟨key,a⟩ t.Z⟩
def wH(c:lC)(b:Int)(d:List aB)(a key:gB):Int×List aB×Nat:=
 if kC c b d=cA then(0,[],5)
 else if (tC a&&pK key)=cA then(b,d,5)
 else if (zC (·.s) key (bC d a).Z).isSome=dA then(b,gC (·.N) (mK (bC d a) key b) d,1)
 else if (kE c (bC d a) kA).2<=(kE c (bC d a) kA).1\/(aF (bC d a)=dA/\vA d=10000) then(b,d,3)
 else if (kE c (bC d a) (aE key)).2<=(kE c (bC d a) (aE key)).1 then(b,d,4)
 else(b,gC (·.N) (mK (bC d a) key b) d,2)
theorem yN{ts:List aB}{name:gB}:(bC ts name∈ts/\(zC (·.N) name ts).isSome=dA)\/(bC ts name=⟨name,-1,[],[]⟩/\zC (·.N) name ts=aA):=by
 unfold bC;cases h:zC (·.N) name ts with
 |none=>exact La ⟨rfl,rfl⟩
 |some t=>exact Ca ⟨(yM h).1,rfl⟩
theorem kJ{a:List aB}{name:gB}:(bC a name).N=name:=by
 unfold bC;cases h:zC (·.N) name a with
 |none=>rfl
 |some t=>exact(yM h).2
def aAj{e d:Int}{a:List aB}(h:mN e d a=dA){name:gB}:aF (bC a name)=!(zC (·.N) name a).isSome:=by
 rcases yN (ts:=a) (name:=name) with⟨b,c⟩|⟨b,c⟩;rw[(yJ (pJ h _ b)).2.2.2,c];rfl;rw[b,c];rfl
def FW{b a:Int}{c:List aB}(h:mN b a c=dA){name:gB}:∀x∈(bC c name).Z,a-x.n<b:=by
 rcases yN (ts:=c) (name:=name) with⟨d,_⟩|⟨d,_⟩
 .exact fun x e=>(CG (yJ (pJ h _ d)).2.2.1 x e).1
 rw[d];exact fun x e=>by simp at e
theorem er{α:Type}{key:α->gB}{a:α}{l:List α}:vA (gC key a l)≠0:=by unfold gC;grind
def aCv{b a:Int}{t:aB}{key:gB}(hw:1<=b)(h:∀x∈t.Z,a-x.n<b):∀x∈(mK t key a).Z,a-x.n<b:=by grind [mK,gC,yK]
def XM{t:aB}{key:gB}{a:Int}:aF (mK t key a)=cA:=by grind [aF,mK,gC,er]
def xv{c b:Int}{d:List aB}(h:mN c b d=dA)(e:wC (·.N) d)(hw:1<=c){a key:gB}:
 dE c b (gC (·.N) (mK (bC d a) key b) d)=gC (·.N) (mK (bC d a) key b) d:=by
 rw[TH h e (aCv hw (FW h)),XM];rfl
def YT{l:List dB}{k:gB}{n:Int}{j:Nat}(f:j<=vA l)(c:∀i(h:i<vA l),i<j->aK l[i].s k=dA)(d:∀h:j<vA l,aK l[j].s k=cA)(e:zC (·.s) k l=aA):
 gC (·.s) ⟨k,n⟩ l=l.take j++⟨k,n⟩:: l.drop j:=by
 induction l generalizing j with
 |nil=>simp[gC]
 |cons p r o=>
  have g:p.s≠k:=aY e p (Kc ..);rw[gC];cases j with
  |zero=>
   have b:aK p.s k=cA:=d (by simp);rw[Ja (by rw[b];simp),Ja (by rw[cE g];simp)];rfl
  |succ j=>
   have b:aK p.s k=dA:=c 0 (by simp) (by omega);have a:zC (·.s) k r=aA:=tN fun q m=>aY e q (Sb _ m);rw[Ma b,o (j:=j) (by simpa using f) (fun i h t=>by have:=c (i+1) (by simpa using h) (by omega);simpa using this) (fun h=>by have:=d (by simpa using h);simpa using this) a];rfl
def iU(d:List aB)(a b:gB)(c:Int):List aB×Bool:=
 if (tC a&&(b.toList.isEmpty||yE b) &&wB c (-1) 1000000)=cA then(d,cA)
 else if aF (vI (bC d a) b c)=dA then(xE (·.N) a d,dA)
 else if ((zC (·.N) a d).isNone&&decide (10000<=vA d))=dA then(d,cA)
 else(gC (·.N) (vI (bC d a) b c) d,dA)
theorem pW(t:aB)(a:gB)(b:Int):(vI t a b).N=t.N:=by unfold vI;split<;>rfl
def ZE(t:aB)(a:gB)(b:Int):(vI t a b).Z=t.Z:=by unfold vI;split<;>rfl
theorem cI{c:lC}{a:Int}{b:List aB}(h:kC c a b=dA):pH c=dA/\0<=a/\a<=1000000000000/\vA b<=10000/\mN c.w a b=dA:=by
 simp only[kC,Sa,Ab]at h;obtain⟨⟨⟨d,e⟩,f⟩,g⟩:=h;have:=uL e;exact⟨d,this.1,this.2,f,g⟩
theorem lV{c a:Int}{b:List aB}(h:mN c a b=dA):wC (·.N) b:=by
 have:=aHp (n:=vA b) h (Ia _);rwa [Rb]at this
theorem aCf{c:lC}{i:Int}{f:List aB}(h:kC c i f=dA)(b d:gB)(e:Int):pS c i f b d e=(i,(iU f b d e).1,(iU f b d e).2):=by
 obtain⟨_,_,_,r,o⟩:=cI h;have s:=lV o;unfold pS iU;rw[Ja (by rw[h];simp)];by_cases k:(tC b&&(d.toList.isEmpty||yE d) &&wB e (-1) 1000000)=cA
 .rw[Ma k,Ma k]
 rw[Ja k,Ja k];have j:(vI (bC f b) d e).N=b:=by rw[pW,kJ]
 have m:∀x∈(vI (bC f b) d e).Z,i-x.n<c.w:=by rw[ZE];exact FW o
 have u:=TH o s (t:=vI (bC f b) d e) m;rw[u,j];by_cases l:aF (vI (bC f b) d e)=dA
 .have v:vA (xE (·.N) b f)<=vA f:=Pc _ _;rw[Ma l,Ma l,Ja (by omega)]
 have g:=IK (a:=vI (bC f b) d e) s;simp only[j]at g;rw[Ja l,Ja l];cases hg:zC (·.N) b f with
 |some q=>
  rw[hg]at g;simp only[Wf,Td]at g;rw[Ja (by omega),Ja (by simp)]
 |none=>
  rw[hg]at g;simp only[Xf,Bd,Cf]at g;by_cases p:10000<=vA f
  .rw[Ma (by omega),Ma (by simp[p])]
  rw[Ja (by omega),Ja (by simp[p])]
def fv{α:Type}{key:α->gB}{a q:α}{l:List α}(g:wC key l)(h:q∈gC key a l):q=a\/(q∈l/\key q≠key a):=by
 induction l with
 |nil=>exact Ca (by simpa[gC]using h)
 |cons p r j=>
  rw[gC]at h;by_cases c:aK (key p) (key a)=dA
  .rw[Ma c]at h;rcases Lb.1 h with h|h
   .exact La ⟨by rw[h];exact Kc ..,by rw[h];exact eJ c⟩
   rcases j g.tail h with h|h;exact Ca h;exact La ⟨Sb _ h.1,h.2⟩
  rw[Ja c]at h;have b:∀q∈r,key q≠key a:=fun q i e=>by
   have f:=g.head q i;rw[e]at f;exact c f
  by_cases d:key p=key a
  .rw[Ma ((jE _ _).2 d)]at h;rcases Lb.1 h with h|h
   .exact Ca h
   exact La ⟨Sb _ h,b q h⟩
  rw[Ja (by rw[cE d];simp)]at h;rcases Lb.1 h with h|h;exact Ca h;rcases Lb.1 h with h|h;exact La ⟨by rw[h];exact Kc ..,by rw[h];exact d⟩;exact La ⟨Sb _ h,b q h⟩
def IS{α β:Type}{key:α->gB}{a p:α}{l:List α}(f:α->β)(e:wC key l)(b:p∈l)(c:key p=key a)(g:f p=f a):(gC key a l).map f=l.map f:=by
 induction l with
 |nil=>cases b
 |cons q r h=>
  rw[gC];rcases Lb.1 b with rfl|b;rw[Ja (by rw[c,gQ];simp),Ma ((jE _ _).2 c)];simp[g];have d:=e.head p b;rw[c]at d;rw[Ma d,Fc,Fc,h e.tail b]
def qL(c:lC)(d:Int)(b:List aB)(a key:gB):List aB×Nat:=
 if (tC a&&pK key)=cA then(b,5)
 else if (zC (·.s) key (bC b a).Z).isSome=dA then(gC (·.N) (mK (bC b a) key d) b,1)
 else if (if (bC b a).L = -1 then c.tl else(bC b a).L)<=(vA (bC b a).Z:Nat)\/((zC (·.N) a b).isNone&&decide (10000<=vA b))=dA then(b,3)
 else if mG (bC b a).M (aE key) c.ml<=(uI aE (bC b a).Z (aE key):Nat) then(b,4)
 else(gC (·.N) (mK (bC b a) key d) b,2)
def aHo{d c:Int}{a:List aB}(h:mN d c a=dA){name:gB}: -1<=(bC a name).L/\(bC a name).L<=1000000:=by
 rcases yN (ts:=a) (name:=name) with⟨b,_⟩|⟨b,_⟩;have:=pJ h _ b;simp only[yP,Sa]at this;exact uL this.1.1.1.2;rw[b];exact⟨by simp,by simp⟩
def bq{c:lC}{d:Int}{b:List aB}(h:kC c d b=dA)(a key:gB):wH c d b a key=(d,(qL c d b a key).1,(qL c d b a key).2):=by
 obtain⟨_,_,_,l,m⟩:=cI h;unfold wH qL;rw[Ja (by rw[h];simp)];by_cases e:(tC a&&pK key)=cA
 .rw[Ma e,Ma e]
 rw[Ja e,Ja e];by_cases g:(zC (·.s) key (bC b a).Z).isSome=dA
 .rw[Ma g,Ma g]
 rw[Ja g,Ja g];have n:(aE key).toList.isEmpty=cA:=by
  have:(tC a&&pK key)=dA:=by simpa using e
  simp only[Sa,pK]at this;simpa using this.2
 have i:kE c (bC b a) kA=(((vA (bC b a).Z:Nat):Int),if (bC b a).L = -1 then c.tl else(bC b a).L):=by
  unfold kE;rw[Ma (show ByteArray.empty.toList.isEmpty=dA by rw[ByteArray.toList_eq];rfl)];have:=(aHo m (name:=a)).1;by_cases k:(bC b a).L = -1
  .rw[Ma k,Ma (by omega)]
  rw[Ja k,Ja (by omega)]
 have j:kE c (bC b a) (aE key)=(((uI aE (bC b a).Z (aE key):Nat):Int),mG (bC b a).M (aE key) c.ml):=by
  unfold kE;rw[Ja (by rw[n];simp)]
 have yA:=aAj m (name:=a);rw[i,j];simp only;have f:(aF (bC b a)=dA/\vA b=10000) ↔ ((zC (·.N) a b).isNone&&decide (10000<=vA b))=dA:=by
  rw[yA,Sa,Ab];cases zC (·.N) a b with
  |none=>simp;omega
  |some q=>simp
 simp only[f];generalize (if (bC b a).L = -1 then c.tl else(bC b a).L)=o;split;rfl;split<;>rfl
def vr{met:gB->gB}{l a:List dB}(h:l.map (·.s)=a.map (·.s))(m:gB):uI met l m=uI met a m:=by
 have:∀l:List dB,uI met l m=vA ((l.map (·.s)).filter fun s=>(met s).toList==m.toList):=fun l=>by
  unfold uI;rw[List.filter_map,Xa];rfl
 rw[this,this,h]
def nI(b a:Int)(left:gB->Bool)(c:List aB):List aB:=(c.map fun t=>if left t.N=dA then t else bF b a t).filter fun t=>left t.N||!aF t
def qh{win now:Int}{left:gB->Bool}(t:aB):(if left t.N=dA then t else bF win now t).N=t.N:=by split<;>rfl
def aGg{b a:Int}{left:gB->Bool}{c:List aB}(h:∀t∈c,left t.N=dA):nI b a left c=c:=by
 have e:c.map (fun t=>if left t.N=dA then t else bF b a t)=c:=by
  have:∀t∈c,(if left t.N=dA then t else bF b a t)=id t:=fun t d=>by rw[Ma (h t d)];rfl
  rw[Ge this,List.map_id]
 unfold nI;rw[e];exact Jc.2 fun t d=>by rw[h t d];rfl
def yu{b a:Int}{left:gB->Bool}{c:List aB}(h:∀n,left n=cA):nI b a left c=dE b a c:=by
 unfold nI dE;simp only[h,Rf,Bd,Cf]
theorem wT{b a:Int}{left:gB->Bool}{p:aB}{r:List aB}:nI b a left (p::r)=if (left p.N||!aF (if left p.N=dA then p else bF b a p))=dA then(if left p.N=dA then p else bF b a p):: nI b a left r else nI b a left r:=by
 unfold nI;rw[Fc,List.filter_cons,qh]
def ZL{b a:Int}{left:gB->Bool}{c:List aB}{q:aB}(h:q∈nI b a left c):∃t∈c,q=(if left t.N=dA then t else bF b a t)/\q.N=t.N:=by grind [nI,bF]
def qg{c b:Int}{left a:gB->Bool}{d:List aB}(h:∀t∈d,left t.N=a t.N):nI c b left d=nI c b a d:=by induction d<;>grind [nI,wT]
theorem yv{b a:Int}{left c:gB->Bool}{j:List aB}(v:wC (·.N) j){t:aB}(o:t∈j)(C:left t.N=dA)(k:∀n,c n=(left n&&!(n.toList==t.N.toList))):
 nI b a c j=if aF (bF b a t)=dA then xE (·.N) t.N (nI b a left j) else gC (·.N) (bF b a t) (nI b a left j):=by
 induction j with
 |nil=>cases o
 |cons p r E=>
  have i:c t.N=cA:=by rw[k,(jE t.N t.N).2 rfl];simp
  have f:∀n,n≠t.N->c n=left n:=fun n g=>by rw[k,cE g];simp
  rcases Lb.1 o with rfl|o
  .have h:nI b a c r=nI b a left r:=qg fun q m=>f q.N (fun e=>eJ (v.head q m) e.symm);have g:∀q∈nI b a left r,q.N≠t.N:=fun q m=>by
    obtain⟨s,D,_,e⟩:=ZL m;rw[e];exact fun B=>eJ (v.head s D) B.symm
   rw[wT,wT,i,C,h];simp only[Bd,Cf,Rf,Td,Bool.true_or];by_cases d:aF (bF b a t)=dA
   .rw[Ma d,d];have z:xE (·.N) t.N (nI b a left r)=nI b a left r:=Jc.2 fun q m=>by rw[cE (g q m)];rfl
    unfold xE at z |-
    rw[A7 (by simp),z];simp
   have w:aF (bF b a t)=cA:=by simpa using d
   rw[Ja d,w,Ma (by rfl),gC,Ja (by show ¬aK t.N t.N=dA;rw[gQ];simp),Ma (by exact(jE t.N t.N).2 rfl)]
  .have y:=v.head t o;have l:=eJ y;have x:=E v.tail o;rw[wT,wT,f p.N l,x];by_cases u:(left p.N||!aF (if left p.N=dA then p else bF b a p))=dA
   .rw[Ma u,Ma u];have A:=qh (win:=b) (now:=a) (left:=left) p;generalize (if left p.N=dA then p else bF b a p)=q at *;by_cases d:aF (bF b a t)=dA
    .rw[Ma d,Ma d];unfold xE;rw[Wc (by show(!(q.N.toList==t.N.toList))=dA;rw[A,cE l];rfl)]
    rw[Ja d,Ja d,gC,Ma (by show aK q.N t.N=dA;rw[A];exact y)]
   rw[Ja u,Ja u]
def gL(c b:Int)(d:List aB)(a:Int):Int×List aB×Bool:=if a<1\/1000000000000-b<a then(b,d,cA) else(b+a,dE c (b+a) d,dA)
theorem uf{c:lC}{a:Int}{d:List aB}(h:kC c a d=dA)(b:Int):DU c a d b=gL c.w a d b:=by
 unfold DU gL;rw[Ja (by rw[h];simp)]
def aFl{b a u:Int}{t:aB}{c:List dB}(h:u=a-b)(f:c.filter (fun p=>decide (u<p.n))=t.Z.filter (fun p=>decide (u<p.n)))(d:∀p∈c,u<p.n):bF b a t=⟨t.N,t.L,t.M,c⟩:=by
 unfold bF;have e:(fun p:dB=>decide (a-p.n<b))=fun p=>decide (u<p.n):=by
  funext p;rw[decide_eq_decide];omega
 rw[e,<-f,Jc.2 fun p g=>Ac (d p g)]
def RE{α:Type}{key:α->gB}{l:List α}(b:wC key l){a:α}(h:a∈l):(a::xE key (key a) l).Perm l:=by
 induction l with
 |nil=>cases h
 |cons p r c=>
  unfold xE at c |-
  rcases Lb.1 h with rfl|h
  .rw[A7 (by simp)];have:r.filter (fun q=>!((key q).toList==(key a).toList))=r:=Jc.2 fun q d=>by rw[cE (fun e=>eJ (b.head q d) e.symm)];rfl
   rw[this]
  rw[Wc (by rw[cE (eJ (b.head a h))];rfl)];exact(List.Perm.swap _ _ _).trans ((c b.tail h).cons p)
def lr{met:gB->gB}{l:List dB}(a:wC (·.s) l){p:dB}(h:p∈l)(m:gB):uI met l m=uI met (xE (·.s) p.s l) m+if met p.s=m then 1 else 0:=by
 rw[<-XY];exact XZ (RE a h).symm m
def lz(W:eA)(a:iC)(l:Nat)(d:List cB)(v:eB W a d)(x:vA d<=1048576):
 ∃g c s,(Builtin.append_ #[35,35] 35 #[oA (bA ⟨W.1.size,0,aA⟩) 0 0,oA a (vA d) l]).run prog (W.alloc (tA #[] 149))=.ok (oA g (vA d) c) s/\
  eB s g d/\kB W s/\∀b o,g=bA ⟨b,o,aA⟩->W.1.size<=b:=by
 obtain⟨i,w,p,q,r⟩:=aM;cases a with
 |none=>
  have y:d=[]:=by
   rcases v with h|⟨b,o,e,_⟩;exact h;exact absurd e (by simp)
  subst y;refine⟨bA ⟨W.1.size,0,aA⟩,0,W.alloc (tA #[] 149),?_,Ca rfl,vB,fun b o e=>by simp at e;omega⟩;simp[Builtin.append_,run_underlying underlying35,sizeOf,typeInfo,w,Builtin.lenOf,Builtin.firstCells,storeCells]
 |some t=>
  have m:(W.alloc (tA #[] 149)).ownsRow W.1.size 149 3 (oA (bA ⟨W.1.size,0,aA⟩) 0 0) 0 []:=
   ⟨rfl,La ⟨W.1.size,0,#[],rfl,Ia _,heap_alloc_new _ _,Ia _,Oa _,rfl,rfl⟩⟩
  have f:∀j u,(flat d)[j]?=bA u->(W.alloc (tA #[] 149)).cell? (t.add j)=bA u:=by
   rcases v.z (yG W (tA #[] 149)) with rfl|⟨b,o,e,_,h⟩;intro j u h;simp[flat]at h;simp only[Qa]at e;subst e;exact zO h
  obtain⟨E,D,C,n,z,_,_⟩:=run_append_own_at (P:=prog) (W.alloc (tA #[] 149)) W.1.size 35 35 149 i _ 3 40 underlying35 w p q r rfl (by omega) (oA (bA ⟨W.1.size,0,aA⟩) 0 0) 0 [] m t (vA d) l (flat d) (tE d) f (iG d) (by simp[maxLen];omega) (by omega) (by simp);simp only[Ya,Mb]at n;obtain⟨g,c,rfl,B⟩:=cH n;refine⟨g,c,D,C,B.files,vB.grown z (by simp) (fun k A=>?_),fun b o e=>qI n b (by rw[e];rfl)⟩;simp[iA.ownBlock]at A;omega
def XL(w:eA)(a:iC)(f:Nat)(j:List cB)(c k g i:Int)(h:Bool)(b:vK):Prop:=
 Calls prog 70 #[.agg #[oA a (vA j) f,lA mA c,lA mA k,lA mA g,lA mA i,.bool h],.agg #[lA mA b.K,nA b.N,nA b.tq,nA b.data,lA mA b.size]] w fun e m=>
  ∃l d,e=sA (aUy (kR j c k g i h b) l d)/\eB m l (kR j c k g i h b).2.1/\kB w m
structure aHz(w:World)(a:iC)(fs:List cB)(op:vK):Prop where
 files:eB w a fs
 H:pL fs
 len:vA fs≤1048576
 sum:rC fs≤1000000000
 N:op.N.size≤maxLen
 tq:op.tq.size≤maxLen
 data:op.data.size≤200000000
def KR{w:eA}{a:iC}{d:List cB}(h:eB w a d){p:Addr}(k:∀b o,a=bA ⟨b,o,aA⟩->p.block<b)(v:iA):eB (w.setCell p v) a d:=by
 rcases h with h|⟨b,o,rfl,c,h⟩;exact Ca h;have e:=fA.heap_setCell w p v b (by have:=k b o rfl;omega);have g:∀j,(w.setCell p v).cell? ⟨b,j,aA⟩=w.cell? ⟨b,j,aA⟩:=fun j=>eA.cell?_of_block e;exact La ⟨b,o,rfl,by simpa[eA.setCell]using c,fun i f=>by simp only[g];exact h i f⟩
def qt{f:List cB}{c k d e:Int}{g:Bool}{i:vK}{a:Nat}{h:Int}{b:Bool}(n:fF f c k d e=dA)(m:LD i=dA)(l:mD k d e g=(a,h,b))(j:a≠0):kR f c k d e g i=(a,f,c,h,d,e,b):=by grind [fF,LD,mD,kR,mJ]
def aLf{e:List cB}{c k b d:Int}{g:Bool}{f:vK}{h:Int}{a:Bool}(l:fF e c k b d=dA)(j:LD f=dA)(i:mD k b d g=(0,h,a)):kR e c k b d g f=((uP e c f).1,(uP e c f).2,c,h,b,d,a):=by grind [fF,LD,mD,kR,uP,mJ]
def aSe(a:iC)(n b:Nat)(c k d f:Int)(e:Bool)(j:Nat)(s:gB):(#[oA a n b,lA mA c,lA mA k,lA mA d,lA mA f,.bool e]:Array iA)[j]?≠bA (nA s):=by
 rcases j with _|_|_|_|_|_|j<;>simp
def YL{w:eA}{D:Nat}{a:iC}{i:List cB}(h:eB w a i){p:iC}{n f:Nat}{c k q s:Int}{r:Bool}(t:aHy w D p n f c k q s r):i=[]\/∀b o,a=bA ⟨b,o,aA⟩->b≠D:=by
 by_cases m:i=[]
 .exact Ca m
 right;intro b o e j;have d:=Tg.2 m;obtain⟨u,v,g,_,l,_,_⟩:=h.at d;rw[e]at g;simp only[Qa,Addr.mk.injEq,Cc]at g;obtain⟨rfl,rfl⟩:=g;subst j;rw[iB.cell t]at l;exact aSe _ _ _ _ _ _ _ _ _ _ l
def xb{w:eA}{a:iC}{d:List cB}(h:eB w a d){p:Addr}(c:d=[]\/∀b o,a=bA ⟨b,o,aA⟩->b≠p.block)(v:iA):eB (w.setCell p v) a d:=by
 rcases h with h|⟨b,o,rfl,e,h⟩;exact Ca h;rcases c with c|c;exact Ca c;have f:=fA.heap_setCell w p v b (c b o rfl);have k:∀j,(w.setCell p v).cell? ⟨b,j,aA⟩=w.cell? ⟨b,j,aA⟩:=fun j=>eA.cell?_of_block f;exact La ⟨b,o,rfl,by simpa[eA.setCell]using e,fun i g=>by simp only[k];exact h i g⟩
theorem aVd(w:eA)(a:iC)(p:Nat)(b:List cB)(c k f g:Int)(y:Bool)(n:vK)(h:aHz w a b n)(i:(fF b c k f g&&LD n)=cA):XL w a p b c k f g y n:=by
 have B:xA (kR b c k f g y n=(6,[],0,0,0,0,cA)):=by show _=_;unfold kR;rw[Ja (by rw[i];simp)]
 unfold XL;obtain⟨o,x,Q,E,sz⟩:=n;obtain⟨z,H,T,m,G,I,-⟩:=h;have D:=yA z;have t:vA b<=maxLen:=by simp[maxLen];omega
 have F:fF b c k f g=cA\/fF b c k f g=dA/\(wB o 1 6=cA\/wB o 1 6=dA/\(uG x=cA\/uG x=dA/\o=5/\uG Q=cA)):=by
  simp only[LD]at i;cases e1:fF b c k f g<;>cases e2:wB o 1 6<;>cases e3:uG x<;>simp_all
 clear i z;dsimp only at G I |-
 rcases F with A|⟨A,i|⟨i,u|⟨u,rfl,J⟩⟩⟩
 all_goals
  go_enter func70,ntmps70;go_wp2_with fail;apply aC (JN A _ (((D.o.z vB).z vB).z vB) H t m);intro U j;obtain⟨s,l,r,d⟩:=OG j;have C:=yA d;have S:=l.c5;obtain⟨K,L,M,N,O,P⟩:=r.c6;have q:=r.free;clear s l r d j;go_wp2_with(first
   |(go_at_call 48;refine aC (bE (by assumption) _) ?_;rintro R rfl)
   |(go_at_call 111;refine aC (fJ (by assumption) _ (by assumption)) ?_;rintro R rfl))
  refine bodyPost_ret (v:=uA #[.agg #[oA aA 0 0,lA mA 0,lA mA 0,lA mA 0,lA mA 0,.bool cA],lA mA 6]) (by simp[results,results70,go_sem,K,L,M,N,O,P]) rfl ?_;rw[B.o];refine⟨aA,0,rfl,Ca rfl,?_⟩;have h:=C.o;iterate 6 (refine fA.setCell ?_ (by first|(simp;done)|(simp;omega)) _)
  exact h
theorem aUj(w:eA)(a:iC)(P:Nat)(f:List cB)(c k d g:Int)(l:Bool)(i:vK)(h:aHz w a f i)(hq:fF f c k d g=dA)(H:LD i=dA):XL w a P f c k d g l i:=by
 obtain⟨Z,x,-,s,hsc,hk0,hk1,-⟩:=xK hq;have Y:l=dA/\kR f c k d g l i=(1,f,c,k,d,g,dA)\/l=cA/\(k=1000000000000000/\kR f c k d g l i=(2,f,c,k,d,g,cA)\/(k==1000000000000000)=cA/\
  (d=k+1/\decide (k+1=0)=cA/\kR f c k d g l i=(1,f,c,k+1,d,g,dA)\/(d=0\/decide (d=0)=cA/\(k+1==d)=cA)/\
   (g=k+1/\decide (k+1=0)=cA/\kR f c k d g l i=(2,f,c,k+1,d,g,cA)\/(g=0\/decide (g=0)=cA/\(k+1==g)=cA)/\kR f c k d g l i=((uP f c i).1,(uP f c i).2,c,k+1,d,g,cA)))):=by
  have K:k+1≠0:=by omega
  have hr:=fun c' k' d'=>@qt f c k d g l i c' k' d' hq H;have hd:=fun k' d'=>@aLf f c k d g l i k' d' hq H;cases l
  .refine La ⟨rfl,?_⟩;by_cases J:k=1000000000000000
   .exact Ca ⟨J,hr _ _ _ (by simp[mD,J]) (by decide)⟩
   refine La ⟨by simpa using J,?_⟩;by_cases T:k+1=d
   .exact Ca ⟨T.symm,by simpa using K,hr _ _ _ (by subst T;simp[mD,J,K]) (by decide)⟩
   have h2':d=0\/decide (d=0)=cA/\(k+1==d)=cA:=by by_cases h:d=0<;>simp[h,T]
   refine La ⟨h2',?_⟩;by_cases h3:k+1=g
   .exact Ca ⟨h3.symm,by simpa using K,hr _ _ _ (by subst h3;simp[mD,J,T,K]) (by decide)⟩
   exact La ⟨by by_cases h:g=0<;>simp[h,h3],hd _ _ (by simp[mD,J,T,h3])⟩
  exact Ca ⟨rfl,hr _ _ _ (by simp[mD]) (by decide)⟩
 unfold XL;have p:=h.data;have A:=KI Z;obtain⟨hf,hs,hl,hsum,hn,ht,-⟩:=h;have U:wB i.K 1 6=dA/\uG i.N=dA/\(i.K=5/\uG i.tq=dA\/(i.K==5)=cA):=by
  simp only[LD,Sa,Fe,Ab]at H;exact⟨H.1.1,H.1.2,(Decidable.em (i.K=5)).elim (fun h=>Ca ⟨h,H.2.resolve_left (fun e=>e h)⟩) fun h=>La (by simpa using h)⟩
 obtain⟨kd,nm,tq,S,sz⟩:=i;dsimp only at hn ht p U |-
 obtain⟨hb,hnm,U⟩:=U;have HF:=yA hf;have M:=yA Y;have hml:vA f<=maxLen:=by simp[maxLen];omega
 have hw1:IntKind.i64.wrap (k+1)=k+1:=by rw[IntKind.wrap_i64];omega
 have HAS:=yA (fun W b(hF:eB W b f)=>(⟨hF,A,x,hsc,s,p⟩:XK W b f c ⟨kd,nm,tq,S,sz⟩));clear hf Y H Z A s hsc p;rcases U with⟨rfl,hto⟩|U
 all_goals
  go_enter func70,ntmps70;go_wp2_with fail;apply aC (JN hq _ (((HF.o.z vB).z vB).z vB) hs hml hsum);intro w1 X;obtain⟨G,I,hR,n⟩:=OG X;have x1x:=I.c5;obtain⟨x0,-,-,-,-,-⟩:=G.c6;have hRlt:=zA hR;have hn1:w.1.size<w1.1.size:=by omega
  have hn2:¬w.1.size=w1.1.size:=by omega
  obtain⟨a1,j,W2,B,a0,m,V⟩:=lz w1 a P f (HF.o.z n) hl;have O:=yA B;have N:=yA a0;have D:=yA V;have E:=yA (G.z m);have F:=yA (hR.z m);have L:=yA (oB n m);have x2x:=E.o.c6;obtain⟨z0,z1,z2,z3,z4⟩:=(I.z m).c5;have y:=E.o.free;obtain⟨r0,r1,r2,r3,r4,r5⟩:=F.o.c6;have q:=F.o.free;clear X G I hR n B a0 m V;go_upto_region 4 with(first
   |(go_at_call 48;refine aC (bE (by assumption) _) ?_;rintro w3 rfl)
   |(go_at_call 111;refine aC (fJ (by assumption) _ (by assumption)) ?_;rintro w3 rfl)
   |(at_builtin;refine Lib.wpList_append_run _ rfl _ _ _ _ rfl _ _ rfl rfl _ _ O.o ?_))
  clear x0 hq x1x;rcases M.o with⟨rfl,C⟩|⟨rfl,⟨rfl,C⟩|⟨hm,⟨rfl,K,C⟩|⟨rfl|⟨s,hc2⟩,⟨rfl,K,C⟩|⟨rfl|⟨hf1,hf2⟩,C⟩⟩⟩⟩
  all_goals
   have C:=yA C;clear M;try have hc3:(d != 0)=dA:=by simpa using s
   try have hf3:(g != 0)=dA:=by simpa using hf1
   go_wp2_with(go_at_call 112;refine Calls.mono (aJx _ a1 j f c (k+1) _ _ cA ⟨_,nm,tq,S,sz⟩ (HAS.o _ _ (KR (KR N.o (fun b o e=>by have:=D.o b o e;show w.1.size<b;omega) _) (fun b o e=>by have:=D.o b o e;show w.1.size<b;omega) _)) hb) ?_;rintro e w5 ⟨a5,Q,rfl,u,r⟩;have t:=((E.o.set 0 (oA a1 (vA f) j)).set 2 (lA mA (k+1))).z r;have z:=(F.o.but (((tD.refl w.1.size W2).setCell 0 (oA a1 (vA f) j)).setCell 2 (lA mA (k+1))) (by omega)).z r;have HX1:=yA (YL u (by simpa[aHy]using t));have HX2:=yA (YL u z);have HF5:=yA u;have HB5:=yA (oB ((L.o.setCell (by simp) _).setCell (by simp) _) r);clear y z0 z1 z2 z3 z4 r0 r1 r2 r3 r4 r5 q u r x2x;have x2x:=iB.c6 (by simpa using t);obtain⟨r0,r1,r2,r3,r4,r5⟩:=z.c6;have y:=t.free;have q:=z.free;clear t z;generalize uP f c _=R at *;obtain⟨code,fs'⟩:=R);refine bodyPost_ret (v:=?_) (by simp[results,results70,go_sem,r0,r1,r2,r3,r4,r5];rfl) rfl ?_;rw[C.o];first
    |refine⟨a5,Q,rfl,?_,?_⟩
     .have h:=HF5.o
      repeat (refine xb ?_ (by first|exact HX2.o|exact HX1.o) _)
      exact h
     have h:=HB5.o
     repeat (refine fA.setCell ?_ (by first|(simp;done)|(simp;omega)) _)
     exact h
    |refine⟨a1,j,rfl,?_,?_⟩
     .have h:=N.o
      repeat (refine KR ?_ (fun b o e=>by have:=D.o b o e;simp;omega) _)
      exact h
     have h:=L.o
     repeat (refine fA.setCell ?_ (by first|(simp;done)|(simp;omega)) _)
     exact h
def ij(w:eA)(a:iC)(b:Nat)(d:List cB)(c k f i:Int)(g:Bool)(e:vK)(h:aHz w a d e):XL w a b d c k f i g e:=by grind [XL,fF,LD,aUj,aVd]
def lX(w:eA)(cs:Array iA)(t:jA):iB (w.alloc (tA cs t)) w.1.size cs t:=heap_alloc_new _ _
def GC(a:iC)(c:List cB)(P:Nat):Prop:=c=[]\/∃b o,a=bA ⟨b,o,aA⟩/\b≠P
def GJ{w a:eA}{cs:Array iA}{t:jA}(h:fA (w.alloc (tA cs t)).1.size (w.alloc (tA cs t)) a):iB a w.1.size cs t:=(lX w cs t).z h
def GI{w:eA}{P:Nat}{i j k l m n a b c d e f:iA}{t:jA}(h:iB w P #[i,j,k,l,m,n] t):
 iB ((((((w.setCell ⟨P,0,aA⟩ a).setCell ⟨P,1,aA⟩ b).setCell ⟨P,2,aA⟩ c).setCell ⟨P,3,aA⟩ d).setCell ⟨P,4,aA⟩ e).setCell ⟨P,5,aA⟩ f) P #[a,b,c,d,e,f] t:=by
 have g:=(((((h.set 0 a).set 1 b).set 2 c).set 3 d).set 4 e).set 5 f;simpa using g
def vU{w a:eA}{cs:Array iA}{t:jA}(h:fA (w.alloc (tA cs t)).drew.1.size (w.alloc (tA cs t)).drew a):iB a w.1.size cs t:=(lX w cs t).z ⟨h.os,h.tape,h.output,h.size,h.block⟩
def ux{w:eA}{a:iC}{d:List cB}{P:Nat}{t:jA}(h:eB w a d)(j:iB w P #[oA aA 0 0,lA mA 0,lA mA 0,lA mA 0,lA mA 0,.bool cA] t):GC a d P:=by
 rcases h with h|⟨b,o,e,_,h⟩;exact Ca h
 by_cases f:d=[]
 .exact Ca f
 refine La ⟨b,o,e,fun g=>?_⟩;subst g;have i:0<vA d:=by
  cases d with
  |nil=>exact absurd rfl f
  |cons _ _=>simp
 have c:=(h 0 i).1;rw[j.cell]at c;simp only[Nat.zero_mul,Bg]at c;match o,c with
 |0,c=>simp at c
 |1,c=>simp at c
 |2,c=>simp at c
 |3,c=>simp at c
 |4,c=>simp at c
 |5,c=>simp at c
 |n+6,c=>simp at c
def nK{w:eA}{P:Nat}(a b c d e f:iA):
 tD P w ((((((w.setCell ⟨P,0,aA⟩ a).setCell ⟨P,1,aA⟩ b).setCell ⟨P,2,aA⟩ c).setCell ⟨P,3,aA⟩ d).setCell ⟨P,4,aA⟩ e).setCell ⟨P,5,aA⟩ f):=
 ((((((tD.refl P w).setCell 0 a).setCell 1 b).setCell 2 c).setCell 3 d).setCell 4 e).setCell 5 f
def eB.apart{w e:eA}{P:Nat}{a:iC}{c:List cB}(h:eB w a c)(f:GC a c P)(g:tD P w e):eB e a c:=by
 rcases f with i|⟨b,o,rfl,d⟩;exact Ca i;exact h.but g d
def aDb{C:eA->Prop}{w:eA}{O:Nat}{r s u v x y z A B D E F G H a b c d e f g i j l m n o p:iA}{t:jA}(h:iB w O #[r,s,u,v,x,y,z,A,B,D,E,F,G,H] t)
(k:∀q,iB q O #[a,b,c,d,e,f,g,i,j,l,m,n,o,p] t->bB (·=O) w q->C q):C ((((((((((((((w.setCell ⟨O,0,aA⟩ a).setCell ⟨O,1,aA⟩ b).setCell ⟨O,2,aA⟩ c).setCell ⟨O,3,aA⟩ d).setCell ⟨O,4,aA⟩ e).setCell ⟨O,5,aA⟩ f).setCell ⟨O,6,aA⟩ g).setCell ⟨O,7,aA⟩ i).setCell ⟨O,8,aA⟩ j).setCell ⟨O,9,aA⟩ l).setCell ⟨O,10,aA⟩ m).setCell ⟨O,11,aA⟩ n).setCell ⟨O,12,aA⟩ o).setCell ⟨O,13,aA⟩ p):=
 k _ (by have:=((((((((((((((h.set 0 a).set 1 b).set 2 c).set 3 d).set 4 e).set 5 f).set 6 g).set 7 i).set 8 j).set 9 l).set 10 m).set 11 n).set 12 o).set 13 p);simpa using this) (((((((((((((((bB.refl (·=O) w).setCell (Ca rfl) 0 a).setCell (Ca rfl) 1 b).setCell (Ca rfl) 2 c).setCell (Ca rfl) 3 d).setCell (Ca rfl) 4 e).setCell (Ca rfl) 5 f).setCell (Ca rfl) 6 g).setCell (Ca rfl) 7 i).setCell (Ca rfl) 8 j).setCell (Ca rfl) 9 l).setCell (Ca rfl) 10 m).setCell (Ca rfl) 11 n).setCell (Ca rfl) 12 o).setCell (Ca rfl) 13 p)
def aIi{C:eA->Prop}{w:eA}{O:Nat}{r s u v x y z A B m n o p q a b c d e f g i j:iA}{t:jA}(h:iB w O #[r,s,u,v,x,y,z,A,B,m,n,o,p,q] t)
(k:∀l,iB l O #[a,b,c,d,e,f,g,i,j,m,n,o,p,q] t->bB (·=O) w l->C l):C (((((((((w.setCell ⟨O,0,aA⟩ a).setCell ⟨O,1,aA⟩ b).setCell ⟨O,2,aA⟩ c).setCell ⟨O,3,aA⟩ d).setCell ⟨O,4,aA⟩ e).setCell ⟨O,5,aA⟩ f).setCell ⟨O,6,aA⟩ g).setCell ⟨O,7,aA⟩ i).setCell ⟨O,8,aA⟩ j):=
 k _ (by have:=(((((((((h.set 0 a).set 1 b).set 2 c).set 3 d).set 4 e).set 5 f).set 6 g).set 7 i).set 8 j);simpa using this) ((((((((((bB.refl (·=O) w).setCell (Ca rfl) 0 a).setCell (Ca rfl) 1 b).setCell (Ca rfl) 2 c).setCell (Ca rfl) 3 d).setCell (Ca rfl) 4 e).setCell (Ca rfl) 5 f).setCell (Ca rfl) 6 g).setCell (Ca rfl) 7 i).setCell (Ca rfl) 8 j)
def aHu(X b:Nat):wrap64 (wrap64 ((X:Int)*256)+(b:Int))=nF (X*256+b):=by
 rw[JW];unfold wrap64;split<;>omega
def ic(s:gB)(p n:Nat)(w:eA)(m:s.size<=maxLen)(h:p+n<=s.size)(u:n<=8):
 dI 102 #[nA s,lA mA p,lA mA n] w (lA mA (nF (rS (eL s p n)))):=by
 unfold maxLen at m;go_enter func102,ntmps102;go_wp2;go_loop [7,8] (fun v i=>∃(k V:Nat)(Z:Int),k<=n/\i=lA mA k/\v=lA mA Z/\xA (Z=nF V)/\xA (V=rS (eL s p k))) (fun _ i=>n-(intOf i).toNat)
 case atStart=>exact⟨0,0,0,Oa _,rfl,rfl,by show _=_;rw[tG (by omega)];rfl,rfl⟩
 case round=>
  obtain⟨k,V,Z,t,rfl,rfl,c,a⟩:=hrel;by_cases l:k<n
  .have f:V<72057594037927936:=by
    have d:=DY (eL s p k);rw[nP (by omega),<-a.o]at d;have q:256 ^ k<=256 ^ 7:=Sc (by omega) (by omega);omega
   obtain rfl:Z=(V:Int):=by rw[c.o,tG (by omega)]
   have g:(0:Int)<=(p:Int)+(k:Int):=by omega
   have j:(p:Int)+(k:Int)<(s.size:Int):=by omega
   have b:p+k<s.size:=by omega
   have r:=s[p+k].toNat_lt;have hw:=aHu V s[p+k].toNat;go_wp2;refine⟨⟨k+1,V*256+s[p+k].toNat,nF (V*256+s[p+k].toNat),by omega,by go_num,?_,rfl,by show _=_;rw[UW b,oZ,a.o]⟩,by simp[intOf];omega⟩;exact Kd (iA.int .i64) hw
  .go_wp2;go_ret;have e:k=n:=by omega
   subst e;exact⟨fD (by rw[c.o,a.o]),rfl⟩
def aLw{a b:Int}{c d:Int}(e:a=b)(f:c=d):Ending.returned (uA #[lA mA a,lA mA c])=sA (uA #[lA mA b,lA mA d]):=by rw[e,f]
def pP(s:gB)(n:Nat)(p:Option Nat)(w:eA)(j:s.size<=1000000000)(c:∀q,p=bA q->q<=1000000000)(g:n<=8):
 dI 52 #[nA s,lA mA (lR p),lA mA (n:Nat)] w (uA #[lA mA (nF (gY s n p).1),lA mA (lR (gY s n p).2)]):=by
 have b:nF 0=0:=tG (by omega);cases p with
 |none=>
  show Calls _ _ #[nA s,lA mA (-1),lA mA (n:Nat)] w fun e a=>e=sA (uA #[lA mA (nF 0),lA mA (-1)])/\a=w;rw[b];go_enter func52,ntmps52;go_wp2;go_ret2;exact⟨rfl,rfl⟩
 |some q=>
  have i:=c q rfl;rw[vS];show Calls _ _ #[nA s,lA mA (q:Nat),lA mA (n:Nat)] w fun e a=>e=sA (uA #[lA mA (nF (if q+n<=s.size then(rS (eL s q n),bA (q+n)) else(0,aA)).1),lA mA (lR (if q+n<=s.size then(rS (eL s q n),bA (q+n)) else(0,aA)).2)])/\a=w;clear c;by_cases h:q+n<=s.size
  .rw[Ma h];have d:xA _:=fun W=>ic s q n W (by unfold maxLen;omega) h g;show Calls _ _ #[nA s,lA mA (q:Nat),lA mA (n:Nat)] w fun e a=>e=sA (uA #[lA mA (nF (rS (eL s q n))),lA mA ((q+n:Nat):Int)])/\a=w;generalize nF (rS (eL s q n))=V at *;have f:¬((q:Int)+(n:Int) > (s.size:Int)):=by omega
   go_enter func52,ntmps52;go_wp2_with fail;apply lK (d.o _);go_wp2;go_ret2;exact⟨aLw rfl (by omega),rfl⟩
  rw[Ja h];show Calls _ _ #[nA s,lA mA (q:Nat),lA mA (n:Nat)] w fun e a=>e=sA (uA #[lA mA (nF 0),lA mA (-1)])/\a=w;rw[b];have f:(q:Int)+(n:Int) > (s.size:Int):=by omega
  go_enter func52,ntmps52;go_wp2;go_ret2;exact⟨rfl,rfl⟩
def aR(s:gB)(n:Nat)(p:Option Nat)(w:eA)(b:s.size<=1000000000)(c:∀q,p=bA q->q<=1000000000)(a:n<=2):
 dI 53 #[nA s,lA mA (lR p),lA mA (n:Nat)] w (uA #[nA (lJ s n p).1,lA mA (lR (lJ s n p).2)]):=by
 cases p with
 |none=>exact JL s n w
 |some q=>
  cases h:pI s q n with
  |none=>rw[BV h];exact yV s q n w b (c q rfl) a h
  |some d=>
   obtain⟨t,r⟩:=d;rw[AO h];exact bR s q n t r w b a h
def iY{s:gB}{n:Nat}{p:Option Nat}{q:Nat}(h:(gY s n p).2=bA q):q<=s.size:=by
 cases p with
 |none=>exact absurd h (by simp[gY])
 |some p=>
  rw[vS]at h;split at h;simp at h;omega;simp at h
def IN{s:gB}{n:Nat}{p:Option Nat}{q:Nat}(h:(lJ s n p).2=bA q):q<=s.size:=by
 cases p with
 |none=>exact absurd h (by simp[lJ])
 |some p=>
  cases hh:pI s p n with
  |none=>rw[BV hh]at h;simp at h
  |some a=>
   obtain⟨t,r⟩:=a;rw[AO hh]at h;simp at h;have:=(PM hh).1;omega
def aLj{s:gB}{p n:Nat}{t:gB}{q:Nat}(h:pI s p n=bA (t,q)):q=p+n+t.size:=by
 unfold pI at h;split at h
 .rename_i a;simp only[Qa,Dc]at h;obtain⟨rfl,rfl⟩:=h;rw[Je];omega
 exact absurd h (by simp)
def ZC{s:gB}{n:Nat}{p:Option Nat}{q:Nat}(h:(lJ s n p).2=bA q):∃a,p=bA a/\q=a+n+(lJ s n p).1.size:=by
 cases p with
 |none=>exact absurd h (by simp[lJ])
 |some a=>
  refine⟨a,rfl,?_⟩;cases hh:pI s a n with
  |none=>rw[BV hh]at h;simp at h
  |some b=>
   obtain⟨t,r⟩:=b;rw[AO hh]at h |-
   simp only[Qa]at h;have:=aLj hh;simp only;omega
def pg{s:gB}{n:Nat}{p:Option Nat}{q:Nat}(h:(gY s n p).2=bA q):∃a,p=bA a/\q=a+n:=by
 cases p with
 |none=>exact absurd h (by simp[gY])
 |some p=>
  rw[vS]at h;split at h;simp at h;exact⟨p,rfl,by omega⟩;simp at h
theorem FC(s:gB)(n:Nat)(p:Option Nat):(lJ s n p).1.size<=s.size:=by
 cases p with
 |none=>simp[lJ]
 |some p=>
  cases hh:pI s p n with
  |none=>rw[BV hh];simp
  |some a=>
   obtain⟨t,r⟩:=a;rw[AO hh];exact(PM hh).2.1
def TL(s:gB)(n:Nat)(p:Option Nat):(gY s n p).1<256 ^ n:=by
 cases p with
 |none=>exact Zf (by omega)
 |some p=>
  rw[vS];split
  .rename_i a;have:=DY (eL s p n);rw[nP a]at this;exact this
  exact Zf (by omega)
def aKa{α:Type}{g:Option Nat->α×Option Nat}{a:Option Nat}{k n:Nat}(h:¬(k<n/\∃q,(lL g a k).2=bA q))(f:k<=n):lL g a k=lL g a n/\(¬k<n\/k<n/\lR (lL g a n).2 = -1):=by
 rcases Gc k n with c|c
 .have d:(lL g a k).2=aA:=by
   cases hh:(lL g a k).2 with
   |none=>rfl
   |some b=>exact absurd ⟨c,b,hh⟩ h
  have e:=aOm d f;exact⟨e.symm,La ⟨c,by rw[e,d];rfl⟩⟩
 .obtain rfl:k=n:=by omega
  exact⟨rfl,Ca (by omega)⟩
theorem kY{k:Nat}{r:Rd}(h:(kD k r).2.H=cA):r.H=cA/\(kD k r).2.rest.size+k=r.rest.size:=by grind [kD,iD,jJ]
theorem VP{k:Nat}{r:Rd}(h:(sC k r).2.H=cA):r.H=cA/\(sC k r).1.size+(sC k r).2.rest.size+k=r.rest.size:=by grind [sC,iD,kD,jJ,kY]
theorem aOq{r:Rd}(h:(uR r).2.H=cA):r.H=cA/\(uR r).1.N.size+(uR r).1.V.size+(uR r).2.rest.size+3=r.rest.size:=by grind [uR,sC,CA,VP]
def aPi{r:Rd}(k:Nat):(tM r k).2.H=cA->r.H=cA/\k+nD (tM r k).1+(tM r k).2.rest.size<=r.rest.size:=by induction k<;>grind [tM,nD,uR,cU,aOq,iP]
theorem aQa{r:Rd}(h:(sY r).2.H=cA):r.H=cA/\eH (sY r).1+(sY r).2.rest.size+9<=r.rest.size:=by
 rw[jU,NW]at h;obtain⟨a,b⟩:=kY h;rw[vW]at a;obtain⟨c,d⟩:=aPi _ a;rw[JK]at c;obtain⟨e,i⟩:=kY c;refine⟨e,?_⟩;rw[VA,jU];have f:eH ⟨(vW r).1,nF (NW r).1⟩=vA (vW r).1+nD (vW r).1:=rfl;have g:vA (vW r).1=(JK r).1:=by rw[vW,mY]
 rw[f,g,NW];rw[vW]at b |-
 rw[JK]at d b |-
 omega
def aLt{r:Rd}(k:Nat):(dG r k).2.H=cA->r.H=cA/\k+fE (dG r k).1+(dG r k).2.rest.size<=r.rest.size:=by induction k<;>grind [dG,fE,sY,eH,iN,sW,aQa,xR]
theorem aPr{s:gB}(h:(mU s).2.H=cA):(mU s).1.size+(mU s).2.rest.size<=s.size:=by
 unfold mU at h |-
 split
 .rename_i a;rw[Ma a]at h;obtain⟨b,c⟩:=VP h;rw[uM]at b c |-
  obtain⟨d,e⟩:=kY b;have:(⟨s,cA⟩:Rd).rest.size=s.size:=rfl;omega
 rename_i a;rw[Ja a]at h;simp only at h |-
 rw[uM]at h |-
 obtain⟨d,e⟩:=kY h;have:(⟨s,cA⟩:Rd).rest.size=s.size:=rfl;have:ByteArray.empty.size=0:=rfl;omega
theorem aPq{s:gB}(h:(qR s).2.H=cA):(mU s).2.H=cA/\vA (qR s).1+fE (qR s).1+(qR s).2.rest.size<=(mU s).2.rest.size:=by
 unfold qR at h |-
 split
 .rename_i a;rw[Ma a]at h;obtain⟨b,c⟩:=aLt _ h;have e:=dV (uu s).2 (uu s).1;rw[e];rw[uu]at b;obtain⟨d,g⟩:=kY b;have f:(uu s).2=(kD 2 (mU s).2).2:=by rw[uu]
  rw[f]at c |-
  exact⟨d,by omega⟩
 rename_i a;rw[Ja a]at h;exact⟨h,by simp[fE]⟩
theorem aPo{s:gB}(h:(gU s).2.H=cA):(qR s).2.H=cA/\(gU s).1.size+(gU s).2.rest.size<=(qR s).2.rest.size:=by
 unfold gU at h |-
 split
 .rename_i a;rw[Ma a]at h;obtain⟨b,c⟩:=VP h;exact⟨b,by omega⟩
 rename_i a;rw[Ja a]at h;have:ByteArray.empty.size=0:=rfl;exact⟨h,by simp only;omega⟩
theorem aPp{s:gB}(h:(bS s).2.H=cA):(gU s).2.H=cA:=by
 unfold bS at h;split at h;exact (kY h).1;exact h
def aPs{s:gB}(h:(bS s).2.H=cA):cJ (af s)<=s.size:=by grind [bS,cJ,af,mU,gU,qR,fE,aPp,aPo,aPq,aPr]
