import Derived.Test.YtbfnhppoecdnoaaGreatDoorJ34
import Derived.Test.YtbfnhppoecdnoaaGreatDoorJ31
set_option maxRecDepth 100000
set_option maxHeartbeats 8000000
set_option linter.defProp false
open Option renaming some->bA,none->aA
open Bool renaming true->dA
open List renaming length->vA
namespace Go.Proofs.YtbfnhppoecdnoaaGreatDoor
open Value renaming string->nA,int->lA,slice->oA,pointer->qA
open IntKind renaming i64->mA
open Go renaming World->eA,Calls->gA,Value->iA
open Ending renaming returned->sA
open Go.RowKit Tryz
def oj:(prog.info? 85).map (fun i=>(i.zero,i.size,i.bytes))=bA (bA (.agg #[nA ⟨#[]⟩,lA mA 0,oA aA 0 0,oA aA 0 0]),4,72):=by kernel_rfl
def eb(a:List TV):vA (dF a)=vA a*4:=by
 induction a with
 |nil=>rfl
 |cons x r b=>simp only[dF,Xc,Kb,Zb,List.length_nil]at b |-;omega
def xg(b:List TV):∀u∈dF b,u.oneCell'=dA:=by
 intro u a;simp only[dF,Ig]at a;obtain⟨x,_,a⟩:=a;simp only[Lb,List.mem_nil_iff,Bf]at a;rcases a with rfl|rfl|rfl|rfl<;>rfl
def bd{w:eA}{b:Nat}:∀(n:List aB)(o:Nat),(∀i(h:i<vA n),QI w b (o+i*4) n[i])->∃c:List TV,c.map (·.t)=n/\VX w c/\∀j u,(dF c)[j]?=bA u->w.cell? ⟨b,o+j,aA⟩=bA u
 |[],_,_=>⟨[],rfl,fun y d=>(by cases d),fun j u h=>(by simp[dF]at h)⟩
 |t::r,o,h=>by
  obtain⟨c,A,B,C⟩:=bd r (o+4) (fun i D=>by
   have:=h (i+1) (by simpa using D);rw[show o+(i+1)*4=o+4+i*4 by omega]at this;simpa using this)
  obtain⟨f,k,g,l,p,q,s,v,x,z⟩:=h 0 (by simp);simp only[Nat.zero_mul,Bg,Eg]at p q s v x z;refine⟨⟨t,f,k,g,l⟩:: c,by rw[Fc,A],fun y d=>?_,fun j u a=>?_⟩
  .rcases Lb.1 d with rfl|d
   .exact ⟨x,z⟩
   exact B y d
  have e:dF (⟨t,f,k,g,l⟩:: c)=[nA t.N,lA mA t.L,oA f (vA t.M) k,oA g (vA t.Z) l]++dF c:=by simp[dF]
  rw[e]at a;match j,a with
  |0,a=>simp at a;rw[<-a];exact p
  |1,a=>simp at a;rw[<-a];exact q
  |2,a=>simp at a;rw[<-a];exact s
  |3,a=>simp at a;rw[<-a];exact v
  |j+4,a=>
   have m:(dF c)[j]?=bA u:=by simpa using a
   have:=C j u m;rw[show o+(j+4)=o+4+j by omega];exact this
def vp(a:iC)(l:Nat)(f:List aB)(z w:eA)(E:nC z a f)(s:kB z w)(N:vA f<=2000000):
 gA prog 115 #[oA a (vA f) l] w fun e r=>∃v c,e=sA v/\r.ownsRow w.1.size 85 4 v (vA f) (dF c)/\c.map (·.t)=f/\VX z c/\kB w r:=by
 have D:=fun r=>Lib.run_eql_slice_nil (P:=prog) r 39 85 a (vA f) l 0 0 underlying39;cases a with
 |none=>
  have R:f=[]:=by
   rcases E with h|⟨b,o,e,_⟩;exact h;exact absurd e (by simp)
  subst R;have L:=fun r=>Lib.run_eql_slice_nil (P:=prog) r 39 85 aA 0 l 0 0 underlying39;clear D;go_enter func115,ntmps115;go_wp2;go_ret;exact⟨_,[],rfl,⟨rfl,Ca ⟨rfl,rfl⟩⟩,rfl,fun y F=>(by cases F),eD⟩
 |some J=>
  obtain⟨i,M,G,H,I⟩:=info_parts oj;obtain⟨c,q,m,d⟩:∃c:List TV,c.map (·.t)=f/\VX z c/\∀j u,(dF c)[j]?=bA u->(w.alloc (.cells #[] 85)).cell? (J.add j)=bA u:=by
   rcases E with rfl|⟨b,o,e,K,h⟩;exact ⟨[],rfl,fun y F=>(by cases F),fun j u h=>by simp[dF]at h⟩;simp only[Qa]at e;subst e;obtain⟨c,U,V,W⟩:=bd f o h;refine⟨c,U,V,fun j u T=>?_⟩;rw[QJ];exact((yG w _).cell (Bb K s.size)).trans ((s.cell K).trans (W j u T))
  have x:vA c=vA f:=by rw[<-q,Xa]
  have n:(w.alloc (.cells #[] 85)).ownsRow w.1.size 85 4 (oA (bA ⟨w.1.size,0,aA⟩) 0 0) 0 []:=eA.ownsRow_made w #[] 0 (Ia _) (by simp[maxLen]) (by simp);have Q:=yA n;have h:=yA d;have O:xA (prog.info? 85=bA i):=M;have A:xA (vA (dF c)=vA f*4):=by show _=_;rw[eb,x]
  have C:=yA q;have B:=yA m;clear E n d M q m x;go_enter func115,ntmps115;go_wp2_with(at_builtin;refine wpList_append_own_at _ rfl _ _ _ rfl w.1.size 85 i _ 4 72 underlying39 O.o G H I rfl (by omega) (oA (bA ⟨w.1.size,0,aA⟩) 0 0) 0 [] rfl Q.o J (vA f) l (dF c) rfl A.o h.o (xg c) (by simp[maxLen];omega) (by omega) (by simp) ?_;intro X Y g p _ _);go_ret;simp only[Ya,Mb]at g;refine⟨X,c,rfl,g,C.o,B.o,vB.grown p (by simp) (fun k S=>?_)⟩;simp[iA.ownBlock]at S;omega
def bD{P:Program}{w:eA}{b:Array Oper}{o:Oper}{a:Act}{K:Act->eA->Prop}{Q:Exit->Act->eA->Prop}{E:Prop}{f:FuncId}{args:Array iA}(c:o.guard=aA)(i:(execOp a.eval o).run P w=.ok (.enter f args) w)
(h:gA P f args w (fun e d=>∃v,e=sA v/\K (a.put o.dst v) d)):if Region.wanted o (yielded b a.tmps)=dA then Oper.wp P o a w K Q else E:=by
 have j:Region.wanted o (yielded b a.tmps)=dA:=by simp[Region.wanted,c]
 rw[Ma j];unfold Oper.wp;rw[i];refine h.mono ?_;rintro e d ⟨v,rfl,g⟩;exact g
structure CpR(w wr:World)(B g n cap:Nat)(T:Nat→Nat)(ys:List TV)(k:Nat)(m:Bool):Prop where
 row:wr.ownsRow B 85 4 (oA (bA ⟨g,0,aA⟩) n cap) n (dF ys)
 len:vA ys=n
 tg:T g=0
 own:∀i(h:i<vA ys),i<k→gD wr B T (2*i+1) ys[i].a1 ys[i].t.M∧gD wr B T (2*i+2) ys[i].a2 ys[i].t.Z
 half:m=dA→∀h:k<vA ys,gD wr B T (2*k+1) ys[k].a1 ys[k].t.M
 old:∀i(h:i<vA ys),k≤i→yB w ys[i].a2 ys[i].t.Z∧(m=false∨k<i→yB w ys[i].a1 ys[i].t.M)
def xh(l:List TV)(i:Nat)(d:i<vA l)(a:iC)(c:Nat):dF (l.set i ⟨l[i].t,a,c,l[i].a2,l[i].c2⟩)=(dF l).set (i*4+2) (.slice a (vA l[i].t.M) c):=by
 induction l generalizing i with
 |nil=>simp at d
 |cons p r e=>
  cases i with
  |zero=>rfl
  |succ i=>
   have b:i<vA r:=by simpa using d
   have:=e i b;simp only[dF,Jd,Xc,Ec]at this |-
   rw[this,show(i+1)*4+2=(i*4+2)+4 by omega];rfl
def xi(l:List TV)(i:Nat)(d:i<vA l)(a:iC)(c:Nat):dF (l.set i ⟨l[i].t,l[i].a1,l[i].c1,a,c⟩)=(dF l).set (i*4+3) (.slice a (vA l[i].t.Z) c):=by
 induction l generalizing i with
 |nil=>simp at d
 |cons p r e=>
  cases i with
  |zero=>rfl
  |succ i=>
   have b:i<vA r:=by simpa using d
   have:=e i b;simp only[dF,Jd,Xc,Ec]at this |-
   rw[this,show(i+1)*4+3=(i*4+3)+4 by omega];rfl
def rn{w:eA}{M g n a:Nat}{f:List iA}{j:Nat}{v:iA}(h:w.ownsRow M 85 4 (oA (bA ⟨g,0,aA⟩) n a) n f):(w.setCell ⟨g,j,aA⟩ v).ownsRow M 85 4 (oA (bA ⟨g,0,aA⟩) n a) n (f.set j v):=by
 refine⟨by rw[Pd];exact h.1,?_⟩;rcases h.2 with⟨e,_⟩|⟨q,d,b,e,o,p,i,k,l,m⟩
 .cases e
 simp only[iA.slice.injEq,Qa,Addr.mk.injEq,Cc]at e;obtain⟨rfl,_,rfl⟩:=e;have c:iB w g b 85:=p;refine La ⟨g,a,b.setIfInBounds j v,rfl,o,c.set j v,i,k,by simp[l],?_⟩;rw[Jf,List.take_set,m]
def ZU{w:eA}{B b n:Nat}{T:Nat->Nat}{a:iC}{c:List dB}(h:mC w B a c)(e:b<=B)(d:∀g,B<=g->g<w.1.size->T g=n):gD w b T n a c:=by grind [mC,gD]
def CpR.limits{w wr j:eA}{B g n u k:Nat}{T:Nat->Nat}{d:List TV}{a:iC}{c:Nat}(h:CpR w wr B g n u T d k false)(H:k<vA d)(z:kB wr j)(G:B<=wr.1.size)(I:j.ownsRow wr.1.size 111 2 (.slice a (vA d[k].t.M) c) (vA d[k].t.M) (flatK d[k].t.M)):
 CpR w (j.setCell ⟨g,k*4+2,aA⟩ (.slice a (vA d[k].t.M) c)) B g n u (fun g=>if g<wr.1.size then T g else 2*k+1) (d.set k ⟨d[k].t,a,c,d[k].a2,d[k].c2⟩) k dA:=by
 have x:=(h.row.lt g rfl).2;have D:bB (·=g) j (j.setCell ⟨g,k*4+2,aA⟩ (.slice a (vA d[k].t.M) c)):=(bB.refl (·=g) j).setCell (Ca rfl) _ _;have r:∀q,q<wr.1.size->q≠g->(j.setCell ⟨g,k*4+2,aA⟩ (.slice a (vA d[k].t.M) c)).heap[q]?=wr.heap[q]?:=fun q s A=>by
  rw[D.block q (by have:=z.size;omega) A,z.block q s]
 have f:∀{q:iC}{F:List dB}{m:Nat},0<m->gD wr B T m q F->gD (j.setCell ⟨g,k*4+2,aA⟩ (.slice a (vA d[k].t.M) c)) B (fun g=>if g<wr.1.size then T g else 2*k+1) m q F:=fun M C=>C.keep fun q s _ v=>⟨r q s (fun e=>by rw[e,h.tg]at v;omega),by simp only[Ma s];exact v⟩
 exact {
  row:=by rw[xh d k H];exact rn (jC h.row z)
  len:=by rw[Pd];exact h.len
  tg:=by simp only[Ma x];exact h.tg
  own:=fun i y p=>by
   have o:i<vA d:=by simpa using y
   rw[Of (by omega)];obtain⟨K,L⟩:=h.own i o p;exact⟨f (by omega) K,f (by omega) L⟩
  half:=fun _ y=>by
   rw[Oe];have:=zD (l:=d[k].t.M) I;have C:=ZU (b:=B) (n:=2*k+1) (T:=fun g=>if g<wr.1.size then T g else 2*k+1) this G (fun q s _=>by simp only[Ja (show ¬q<wr.1.size by omega)]);refine C.keep fun q s _ v=>⟨D.block q s (fun e=>?_),v⟩
   subst e;simp only[Ma x,h.tg]at v;omega
  old:=fun i y p=>by
   have o:i<vA d:=by simpa using y
   obtain⟨E,J⟩:=h.old i o p;by_cases e:i=k
   .subst e;rw[Oe];exact⟨E,fun h=>by rcases h with h|h;cases h;omega⟩
   rw[Of (by omega)];exact⟨E,fun _=>J (Ca rfl)⟩ }
def CpR.series{w wr j:eA}{B g n s k:Nat}{T:Nat->Nat}{d:List TV}{a:iC}{c:Nat}(h:CpR w wr B g n s T d k dA)(D:k<vA d)(x:kB wr j)(G:B<=wr.1.size)(H:j.ownsRow wr.1.size 88 2 (.slice a (vA d[k].t.Z) c) (vA d[k].t.Z) (flatK d[k].t.Z)):
 CpR w (j.setCell ⟨g,k*4+3,aA⟩ (.slice a (vA d[k].t.Z) c)) B g n s (fun g=>if g<wr.1.size then T g else 2*k+2) (d.set k ⟨d[k].t,d[k].a1,d[k].c1,a,c⟩) (k+1) false:=by
 have v:=(h.row.lt g rfl).2;have E:bB (·=g) j (j.setCell ⟨g,k*4+3,aA⟩ (.slice a (vA d[k].t.Z) c)):=(bB.refl (·=g) j).setCell (Ca rfl) _ _;have p:∀q,q<wr.1.size->q≠g->(j.setCell ⟨g,k*4+3,aA⟩ (.slice a (vA d[k].t.Z) c)).heap[q]?=wr.heap[q]?:=fun q r A=>by
  rw[E.block q (by have:=x.size;omega) A,x.block q r]
 have f:∀{q:iC}{F:List dB}{m:Nat},0<m->gD wr B T m q F->gD (j.setCell ⟨g,k*4+3,aA⟩ (.slice a (vA d[k].t.Z) c)) B (fun g=>if g<wr.1.size then T g else 2*k+2) m q F:=fun M C=>C.keep fun q r _ u=>⟨p q r (fun e=>by rw[e,h.tg]at u;omega),by simp only[Ma r];exact u⟩
 exact {
  row:=by rw[xi d k D];exact rn (jC h.row x)
  len:=by rw[Pd];exact h.len
  tg:=by simp only[Ma v];exact h.tg
  own:=fun i y z=>by
   have o:i<vA d:=by simpa using y
   by_cases e:i=k
   .subst e;rw[Oe];refine⟨f (by omega) (h.half rfl D),?_⟩;have:=zD (l:=d[i].t.Z) H;have C:=ZU (b:=B) (n:=2*i+2) (T:=fun g=>if g<wr.1.size then T g else 2*i+2) this G (fun q r _=>by simp only[Ja (show ¬q<wr.1.size by omega)]);refine C.keep fun q r _ u=>⟨E.block q r (fun e=>?_),u⟩
    subst e;simp only[Ma v,h.tg]at u;omega
   rw[Of (by omega)];obtain⟨K,L⟩:=h.own i o (by omega);exact⟨f (by omega) K,f (by omega) L⟩
  half:=fun h=>by cases h
  old:=fun i y z=>by
   have o:i<vA d:=by simpa using y
   obtain⟨I,J⟩:=h.old i o (by omega);rw[Of (by omega)];exact⟨I,fun _=>J (La (by omega))⟩ }
def CpR.keep{w wr w':eA}{S:Nat->Prop}{B g n c k:Nat}{T:Nat->Nat}{r:List TV}{m:Bool}(h:CpR w wr B g n c T r k m)(p:bB S wr w')(o:∀q,S q->q<B):CpR w w' B g n c T r k m:=by
 have l:∀q,q<wr.1.size->B<=q->w'.heap[q]?=wr.heap[q]?:=fun q a b=>p.block q a (fun e=>by have:=o q e;omega);exact { h with
  row:=p.row h.row (fun q a e=>by have:=(h.row.lt q a).1;have:=o q e;omega)
  own:=fun i j f=>⟨(h.own i j f).1.keep fun q a b d=>⟨l q a b,d⟩,(h.own i j f).2.keep fun q a b d=>⟨l q a b,d⟩⟩
  half:=fun s j=>(h.half s j).keep fun q a b d=>⟨l q a b,d⟩ }
def CpR.done{w wr:eA}{B g n a:Nat}{T:Nat->Nat}{d:List TV}{j:List aB}(h:CpR w wr B g n a T d n false)(b:d.map (·.t)=j):vC wr B (bA ⟨g,0,aA⟩) j:=
 gT.own (e:=85) (n:=n) (cap:=a) ⟨T,d,h.row,b,fun q f=>by simp only[iA.ownBlock,Qa]at f;rw[<-f];exact h.tg,fun i c=>h.own i c (by rw[h.len]at c;exact c)⟩ (by rw[<-b,Xa];exact h.len)
section
open Go.Maps
def aLh{H:Type}{P:Program}{w:eA}{k:TypeId}{R:iA->Option (DataW H×List MemPlace)}{b n:Nat}{D:DataW H}(h:w.ownsMap P k R b n D):Maps.size D<=n:=by
 obtain⟨d,a,e,F,c,rfl⟩:=h;rw[size_eq,length_sorted,Xa,Qg];exact c
def aBy{H:Type}{P:Program}{w:eA}{k:TypeId}{R:iA->Option (DataW H×List MemPlace)}{b n l:Nat}{D e:DataW H}(h:w.ownsMap P k R b n D)(g:w.ownsMap P k R b l e):D=e:=by
 obtain⟨o,d,i,F,p,rfl⟩:=h;obtain⟨f,c,a,m,j,rfl⟩:=g;rw[i]at a;simp only[Qa,Obj.map.injEq]at a;rw[a.1]
def aLg{w:eA}{b n M:Nat}{D:DataW Unit}{m:gB}{c d:Int}(h:w.ownsMap prog 9 (plainElem prog 3) b n (D.put (kL m) (xI d)))(g:Tidy D)(f:Maps.size D<=M)(a:D.atKey (kL m) (xI 0)=xI c)(i:c≠0):w.ownsMap prog 9 (plainElem prog 3) b M (D.put (kL m) (xI d)):=by
 have j:has D (kL m)=dA:=by
  cases e:has D (kL m) with
  |true=>rfl
  |false=>
   rw[atKey_of_not_has e]at a;simp[xI]at a;exact absurd a.symm i
 have:=VQ h;rw[Maps.size_put g,j,Ma rfl]at this;exact this.mono f
structure QE(w w1:World)(x:Nat)(lim:Int)(lm sm cm:Nat)(iv iv':Value)(hs:List tI):Prop where
 blk:iB w1 x #[lA mA lim,.map (bA lm),.map (bA sm),.map (bA cm),iv'] 232
 row:w1.ownsRow 0 271 2 iv' (vA hs-1) (oK (wP hs))
 same:iv'.ownBlock=iv.ownBlock
 turn:bB (fun k=>k=x∨iv.ownBlock=bA k) w w1
def eS.top{w:eA}{S:Nat->Prop}{x:Nat}{t:aB}{M i j d:Nat}{g:iA}{Q:List (dB×Nat)}{a:List tI}{D:DataW Unit}(h:eS w S x t M i j d g Q a D)(c:0<vA a):∃q∈Q,q.2=(oD a 0).b:=by
 have:(oD a 0).b∈Q.map (·.2):=h.perm.mem_iff.1 (Md.2 ⟨oD a 0,by rw[IG c];exact Gb c,rfl⟩);obtain⟨q,f,e⟩:=Md.1 this;exact⟨q,f,e⟩
def aGu{a:List tI}{Q:List (dB×Nat)}{q:dB×Nat}(h:qJ a)(d:0<vA a)(i:(a.map (·.b)).Perm (Q.map (·.2)))(c:wC (fun q:dB×Nat=>q.1.s) Q)(j:q∈Q)(g:q.2=(oD a 0).b):
 ((wP a).map (·.b)).Perm ((xE (fun q:dB×Nat=>q.1.s) q.1.s Q).map (·.2)):=by
 obtain⟨_,k,_⟩:=oQ h d;have e:(q.2::(wP a).map (·.b)).Perm (Q.map (·.2)):=by
  rw[g];exact(k.map (·.b)).trans i
 have f:(q.2::(xE (fun q:dB×Nat=>q.1.s) q.1.s Q).map (·.2)).Perm (Q.map (·.2)):=(RE c j).map (fun q:dB×Nat=>q.2);exact(List.perm_cons _).1 (e.trans f.symm)
def eS.dropped {w V v:eA} {S:Nat->Prop} {x:Nat} {t:aB} {M J u r n:Nat} {I A:iA} {Q:List (dB×Nat)} {z:List tI} {D:DataW Unit} {q:dB×Nat} {c:Nat} (h:eS w S x t M J u r I Q z D) (T:0<vA z) (U:q∈Q) (Z:q.2=(oD z 0).b)
 (j:QE w V x t.L J u r I A z) (a:bB (fun k=>k=u\/k=r) V v) (B:v.ownsMap prog 9 oE u n (DataW.del (eE (Q.map fun q=>(q.1.s,eF q.2))) (kL q.1.s)))
 (C:v.ownsMap prog 9 (plainElem prog 3) r M (D.put (kL (aE q.1.s)) (xI c))) (b:uI aE t.Z (aE q.1.s)=c+1):
 eS v S x ⟨t.N,t.L,t.M,xE (·.s) q.1.s t.Z⟩ M J u r A (xE (fun q:dB×Nat=>q.1.s) q.1.s Q) (wP z) (D.put (kL (aE q.1.s)) (xI c))/\bB S w v:=by
 have P:=aD h.Z h.blk;have R:=aD h.cnts h.blk;have O:=aD h.lims h.blk;have K:=lG h.lims h.row;have L:=lG h.Z h.row;have N:=lG h.cnts h.row;have G:wC (fun q:dB×Nat=>q.1.s) Q:=by
  rw[<-nY (key':=fun p:dB=>p.s) (fun q:dB×Nat=>q.1) (fun _=>rfl),h.q1];exact h.rs
 obtain⟨b,J,p3⟩:=oQ h.heap T;have F:q.1∈t.Z:=by rw[<-h.q1];exact List.mem_map_of_mem U
 have f:∀p∈xE (fun q:dB×Nat=>q.1.s) q.1.s Q,p∈Q:=fun p j=>(wS.1 j).1
 have y:DataW.del (eE (Q.map fun q=>(q.1.s,eF q.2))) (kL q.1.s)=eE ((xE (fun q:dB×Nat=>q.1.s) q.1.s Q).map fun q=>(q.1.s,eF q.2)):=
  dj (key:=fun q:dB×Nat=>q.1.s) (fun q=>eF q.2) q.1.s Q
 have o:∀g,¬(g=x\/I.ownBlock=bA g)->¬(g=u\/g=r)->g<w.1.size->v.heap[g]?=w.heap[g]?:=fun g X Y l=>by
  rw[a.block g (by have:=j.turn.size;omega) Y,j.turn.block g l X]
 refine⟨?_,?_⟩
 ·exact {
   blk:=a.blk j.blk (fun e=>by rcases e with e|e;exact P e.symm;exact R e.symm)
   lims:=a.map (j.turn.map h.lims (fun e=>by rcases e with e|e;exact O e;exact K e)) (fun e=>by rcases e with e|e;exact h.d1 e;exact h.d2 e)
   Z:=by
    have:=VQ B;rw[y,kN]at this;exact this
   cnts:=C
   cnt:=fun m=>by
    have E:=lr (met:=aE) h.rs F m
    by_cases e:aE q.1.s=m
    ·rw[if_pos e]at E
     rw[<-e,atKey_put_same (k:=kL (aE q.1.s)) h.cnts.isMap trivial];rw[<-e]at E;have:uI aE (xE (·.s) q.1.s t.Z) (aE q.1.s)=c:=by omega
     rw[this]
    ·rw[if_neg e]at E
     rw[atKey_put_other (fun W=>e (aJt W).symm),h.cnt m,E];rfl
   q1:=by rw[BN (key':=fun p:dB=>p.s) (fun q:dB×Nat=>q.1) (fun _=>rfl),h.q1]
   cells:=fun p d=>by
    have i:=f p d;refine(o p.2 (fun e=>?_) (fun e=>?_) (zA (h.cells p i))).trans (h.cells p i)
    ·rcases e with e|e
     ·exact h.dx p i e
     ·exact(h.di _ e).2 p i rfl
    ·rcases e with e|e
     ·exact aD h.Z (h.cells p i) e.symm
     ·exact aD h.cnts (h.cells p i) e.symm
   row:=by
    rw[p3];exact a.row j.row (fun g l e=>by
     rw[j.same]at l;rcases e with rfl|rfl
     ·exact L l
     ·exact N l)
   heap:=b
   perm:=aGu h.heap T h.perm G U Z
   early:=fun s H p d e=>h.early s (J.mem_iff.1 (List.mem_cons_of_mem _ H)) p (f p d) e
   rm:=h.rm
   rs:=iQ h.rs
   sx:=h.sx
   sl:=h.sl
   ss:=h.ss
   sc:=h.sc
   sq:=fun p d=>h.sq p (f p d)
   si:=fun g l=>h.si g (by rw[<-j.same];exact l)
   d1:=h.d1
   d2:=h.d2
   d3:=h.d3
   nd:=h.nd.sublist (List.Sublist.map _ List.filter_sublist)
   dx:=fun p d=>h.dx p (f p d)
   di:=fun g l=>⟨(h.di g (by rw[<-j.same];exact l)).1,fun p d=>(h.di g (by rw[<-j.same];exact l)).2 p (f p d)⟩ }
 ·refine(j.turn.mono fun k _ e=>by rcases e with rfl|e;exact h.sx;exact h.si _ e).trans' (a.mono fun k _ e=>?_)
  rcases e with rfl|rfl
  ·exact h.ss
  ·exact h.sc
def eS.again{w O r:eA}{S:Nat->Prop}{x:Nat}{t:aB}{M y z u:Nat}{F n:iA}{Q:List (dB×Nat)}{j:List tI}{D:DataW Unit}{q:dB×Nat}{g l B:Nat}(h:eS w S x t M y z u F Q j D)(U:0<vA j)(C:q∈Q)(W:q.2=(oD j 0).b)
(v:QE w O x t.L y z u F n j)
(A:iB r x #[lA mA t.L,.map (bA y),.map (bA z),.map (bA u),oA (bA ⟨g,0,aA⟩) (vA (wP j)+1) l] 232)
(E:r.ownsRow 0 271 2 (oA (bA ⟨g,0,aA⟩) (vA (wP j)+1) l) (vA (wP j)+1) (oK (aS (wP j) ⟨q.2,q.1.n⟩)))(o:n.ownBlock=bA g\/O.1.size<=g)(c:bB (fun k=>k=x\/n.ownBlock=bA k) O r)(b:B<=w.1.size)(V:∀g,B<=g->w.1.size<=g->S g):
 eS r S x t M y z u (oA (bA ⟨g,0,aA⟩) (vA (wP j)+1) l) Q (aS (wP j) ⟨q.2,q.1.n⟩) D/\bB S w r:=by
 have K:=aD h.Z h.blk;have L:=aD h.cnts h.blk;have J:=aD h.lims h.blk;have G:=lG h.lims h.row;have H:=lG h.Z h.row;have I:=lG h.cnts h.row;obtain⟨Z,P,b⟩:=oQ h.heap U;obtain⟨b,R,m⟩:=FI Z ⟨q.2,q.1.n⟩;have X:=v.turn.size;have a:=v.turn.trans' (c.mono fun k _ e=>by rw[<-v.same];exact e);have N:=fun q C=>zA (h.cells q C);have Y:=zA h.blk;have i:F.ownBlock=bA g\/w.1.size<=g:=by
  rcases o with e|e;exact Ca (by rw[<-v.same];exact e);exact La (by omega)
 refine⟨?_,?_⟩
 .exact { h with
   blk:=A
   lims:=a.map h.lims (fun e=>by rcases e with e|e;exact J e;exact G e)
   Z:=a.map h.Z (fun e=>by rcases e with e|e;exact K e;exact H e)
   cnts:=a.map h.cnts (fun e=>by rcases e with e|e;exact L e;exact I e)
   cells:=fun p d=>a.blk (h.cells p d) (fun e=>by
    rcases e with e|e;exact h.dx p d e;exact (h.di _ e).2 p d rfl)
   row:=by rw[m];exact E
   heap:=b
   perm:=by
    refine(R.map _).trans ?_;rw[Fc];show(q.2::(wP j).map (·.b)).Perm _;rw[W];exact(P.map (·.b)).trans h.perm
   early:=fun s m p d e=>by
    rcases Lb.1 (R.mem_iff.1 m) with rfl|m;have:=yS h.nd d C e;rw[this];exact Xd _;exact h.early s (P.mem_iff.1 (Sb _ m)) p d e
   si:=fun T f=>by
    simp only[iA.ownBlock,Qa]at f;subst f;rcases i with e|e;exact h.si g e;exact V g (by omega) e
   di:=fun T f=>by
    simp only[iA.ownBlock,Qa]at f;subst f;rcases i with e|e;exact h.di g e;exact ⟨by omega,fun p d=>by have:=N p d;omega⟩ }
 exact a.mono fun k _ e=>by
  rcases e with rfl|e;exact h.sx;exact h.si _ e
def pn{a:List tI}{u:Int}(c:qJ a)(b:0<vA a)(d:(oD a 0).t<=u):(wP a).countP (fun s=>decide (s.t<=u))+1=a.countP (fun s=>decide (s.t<=u)):=by
 obtain⟨_,e,_⟩:=oQ c b;rw[<-e.countP_eq,List.countP_cons_of_pos (by simpa using d)]
def aFr{a:List tI}{u:Int}{s:tI}(b:qJ a)(c:u<s.t):(aS a s).countP (fun s=>decide (s.t<=u))=a.countP (fun s=>decide (s.t<=u)):=by
 obtain⟨_,d,_⟩:=FI b s;rw[d.countP_eq,List.countP_cons_of_neg (by simp;omega)]
def aKi{R:Nat->Prop}(h:∃n,R n):∃m,R m/\∀k,R k->m<=k:=by
 obtain⟨n,d⟩:=h;induction n using Nat.strongRecOn with
 |_ n e=>
  by_cases a:∃k,k<n/\R k
  .obtain ⟨k,a,c⟩:=a;exact e k a c
  exact ⟨n,d,fun k c=>Nat.le_of_not_lt fun b=>a ⟨k,b,c⟩⟩
end
section
open Go.Maps
def tj{P:Program}{w:eA}{b:Array Oper}{o:Oper}{a:Act}{K:Act->eA->Prop}{Q:Exit->Act->eA->Prop}{E:Prop}{f:FuncId}{args:Array iA}(c:o.guard=aA)(i:(execOp a.eval o).run P w=.ok (.enter f args) w)
(h:gA P f args w (fun e d=>∃v,e=sA v/\K (a.put o.dst v) d)):if Region.wanted o (yielded b a.tmps)=dA then Oper.wp P o a w K Q else E:=by
 have j:Region.wanted o (yielded b a.tmps)=dA:=by simp[Region.wanted,c]
 rw[Ma j];unfold Oper.wp;rw[i];refine h.mono ?_;rintro e d ⟨v,rfl,g⟩;exact g
def aJg(x Y m a:Nat)(t:Int)(X:iA)(key:gB)(Q:List (dB×Nat))(D:DataW Unit)(M c:Nat)(w:eA)(z:iB w x #[lA mA t,.map (bA Y),.map (bA m),.map (bA a),X] 232)
(I:w.ownsMap prog 9 oE m (vA Q) (eE (Q.map fun q=>(q.1.s,eF q.2))))(U:w.ownsMap prog 9 (plainElem prog 3) a M D)(l:D.atKey (kL (aE key)) (xI 0)=xI ((c+1:Nat):Int))(V:m≠a)(h:key.size<=1000000000)(o:M<=1000000000)(o:c<=1000000000)(T:∀W,bB (·=m) w W->vH W):
 gA prog 332 #[qA (bA ⟨x,0,aA⟩),nA key] w fun e v=>e=sA (.tuple #[])/\v.ownsMap prog 9 oE m (vA Q) (DataW.del (eE (Q.map fun q=>(q.1.s,eF q.2))) (kL key))/\v.ownsMap prog 9 (plainElem prog 3) a M (D.put (kL (aE key)) (xI c))/\bB (fun k=>k=m\/k=a) w v:=by
 have o:xA (keyOf prog 9 (nA key)=bA (kL key)):=qN (by unfold maxLen;omega);have C:xA _:=qN (xS key);have F:xA (∀W,vH W->qD 163 #[nA key] W (nA (aE key))):=fun W G=>AI key W h G;obtain⟨u,s⟩:∃u,u=c+1:=⟨_,rfl⟩
 rw[<-s]at l;have h:(u:Int)-1=(c:Nat):=by omega
 have H:(u:Int)≠0:=by omega
 have h:IntKind.i64.wrap ((c:Nat):Int)=(c:Nat):=by
  simp only[IntKind.wrap,IntKind.bits,IntKind.signed];simp;omega
 have E:xA (∀W,W.ownsMap prog 9 (plainElem prog 3) a M D->(Instr.lookup 226 (.map (bA a)) (nA (aE key)) false).run prog W=.ok (lA mA (u:Int)) W):=fun W h=>UF h l (xS key);have P:=yA z;have N:=yA I;have L:=yA U;have O:=yA T;have J:=aD I z;have x2:cC w x 2 (.map (bA m)):=z.cell 2;have B:xA (∀W,W.ownsMap prog 9 (plainElem prog 3) a M D->∃r,(Instr.mapUpdate 226 (.map (bA a)) (nA (aE key)) (lA mA (c:Nat))).run prog W=.ok () r/\r.ownsMap prog 9 (plainElem prog 3) a M (D.put (kL (aE key)) (xI c))/\bB (·=a) W r):=fun W h=>by
  obtain⟨r,p,j,n⟩:=h.store dM underlying226 (by unfold maxLen;omega) (val:=lA mA (c:Nat)) C.o (plainElem_int underlying3 (WalkArith.wf_i64 (by omega)));exact⟨r,p,aLg j (h.tidy dM) (aLh h) l H,bB.mapped n⟩
 clear z I U l T s;generalize aE key=mk at *;go_enter func332,ntmps332;go_upto_region 1 with(at_delete;refine wpList_delete_own _ rfl _ _ 227 9 rfl 260 dM underlying227 oE m _ _ rfl N.o _ _ rfl o.o ?_;intro o d b)
 have g:=bB.mapped b;have h:=yA d;have I:=yA g;have R:xA (iB o x #[lA mA t,.map (bA Y),.map (bA m),.map (bA a),X] 232):=g.blk P.o J.symm;have Z:xA (o.ownsMap prog 9 (plainElem prog 3) a M D):=g.map L.o V.symm;have m:xA (vH o):=O.o o g;have G:cC o x 3 (.map (bA a)):=R.o.cell 3;clear d b g P N L O x2;go_region_law (refine tj (f:=163) (args:=#[nA key]) rfl (by go_simp) ?_;apply aC (F.o _ (m.o.z eD.drew));intro A G;have y:kB o A:=(oB (Below.refl o.1.size o).drew G);have K:=(bB.of (S:=fun _=>False) y).map Z.o (fun e=>e);have m:=E.o A K;obtain⟨r,p,j,n⟩:=B.o A K;have m:cC A x 3 (.map (bA a)):=(R.o.z y).cell 3;refine⟨_,rfl,?_⟩)
 all_goals(go_wp2;go_end0)
 all_goals exact⟨rfl,n.map ((bB.of (S:=fun _=>False) y).map h.o (fun e=>e)) V,j,((I.o.mono fun i _ e=>Ca e).trans' (bB.of y)).trans' (n.mono fun i _ e=>La e)⟩
end
section
open Go.Maps
def aEl(p q:iA)(w:eA):(Instr.field 271 (.agg #[p,q]) 0).run prog w=.ok p w:=by kernel_rfl
def uv(S:Nat->Prop)(x:Nat)(t:aB)(M:Nat)(u:Int)(wr:eA)(n:Nat):Prop:=
 ∃a e f c d Q b D,eS wr S x ⟨t.N,t.L,t.M,a⟩ M e f c d Q b D/\a.filter (fun p=>decide (u<p.n))=t.Z.filter (fun p=>decide (u<p.n))/\(∀p∈a,p∈t.Z)/\vA a<=vA t.Z/\b.countP (fun s=>decide (s.t<=u))=n
def FE{R:Nat->Prop}(h:∃n,R n):R (Classical.epsilon fun m=>R m/\∀k,R k->m<=k)/\∀k,R k->(Classical.epsilon fun m=>R m/\∀k,R k->m<=k)<=k:=Classical.epsilon_spec (aKi h)
def aKj{R a:Nat->Prop}{n:Nat}(h:a n)(b:n<Classical.epsilon fun m=>R m/\∀k,R k->m<=k):(Classical.epsilon fun m=>a m/\∀k,a k->m<=k)<Classical.epsilon fun m=>R m/\∀k,R k->m<=k:=
 Nat.lt_of_le_of_lt ((FE ⟨n,h⟩).2 n h) b
def aJj{w:eA}{S:Nat->Prop}{x:Nat}{t:aB}{M m o j:Nat}{l:iA}{Q:List (dB×Nat)}{b:List tI}{D:DataW Unit}{i:List dB}{u d c:Int}(h:eS w S x ⟨t.N,t.L,t.M,i⟩ M m o j l Q b D)(C:u=c-d)(A:i.filter (fun p=>decide (u<p.n))=t.Z.filter (fun p=>decide (u<p.n)))(f:¬(0<vA b/\(oD b 0).t<=u)):
 uD w S x (bF d c t) M:=by
 have y:∀p∈i,u<p.n:=fun p B=>by
  have g:p∈Q.map (·.1):=by rw[h.q1];exact B
  obtain⟨q,k,rfl⟩:=Md.1 g;have z:=h.perm.mem_iff.2 (Tc k);obtain⟨s,a,e⟩:=Md.1 z;have E:=h.early s a q k e.symm;have F:=aTf h.heap a;have v:=List.length_pos_of_mem a;have G:¬(oD b 0).t<=u:=fun r=>f ⟨v,r⟩;omega
 rw[aFl C A y];exact⟨m,o,j,l,Q,b,D,h⟩
def aOc{w F y:eA}{S:Nat->Prop}{x:Nat}{t:aB}{M A v j n:Nat}{E m:iA}{Q:List (dB×Nat)}{i:List tI}{D:DataW Unit}{d:List dB}{u:Int}{q:dB×Nat}{c:Nat}(h:eS w S x ⟨t.N,t.L,t.M,d⟩ M A v j E Q i D)(O:d.filter (fun p=>decide (u<p.n))=t.Z.filter (fun p=>decide (u<p.n)))(l:∀p∈d,p∈t.Z)(P:vA d<=vA t.Z)
(B:0<vA i)(T:(oD i 0).t<=u)(C:q∈Q)(L:q.2=(oD i 0).b)(U:q.1.n<=u)(R:QE w F x t.L A v j E m i)(a:bB (fun k=>k=v\/k=j) F y)(o:y.ownsMap prog 9 oE v n (DataW.del (eE (Q.map fun q=>(q.1.s,eF q.2))) (kL q.1.s)))
(r:y.ownsMap prog 9 (plainElem prog 3) j M (D.put (kL (aE q.1.s)) (xI c)))(N:uI aE d (aE q.1.s)=c+1):
 (∃k,uv S x t M u y k/\k<i.countP (fun s=>decide (s.t<=u)))/\bB S w y:=by
 obtain⟨J,K⟩:=h.dropped (c:=c) B C L R a o r N;refine⟨⟨_,⟨_,A,v,j,m,_,_,_,J,?_,fun p g=>l p (wS.1 g).1,?_,rfl⟩,?_⟩,K⟩
 .rw[<-O];unfold xE;rw[List.filter_filter];apply List.filter_congr;intro p g;by_cases e:p.s=q.1.s
  .have z:q.1∈d:=by have:=Tc (f:=(·.1)) C;rw[h.q1]at this;exact this
   have G:=aN h.rs g;have H:=aN h.rs z;have:p=q.1:=by
    have I:bA p=bA q.1:=by rw[<-G,<-H];show zC (fun p:dB=>p.s) p.s d=zC (fun p:dB=>p.s) q.1.s d;rw[e]
    exact Lc I
   rw[this,Ub (by omega)];simp
  rw[cE e];simp
 .have:vA (xE (·.s) q.1.s d)<=vA d:=Pc _ _;exact Ua this P
 have:=pn h.heap B T;omega
def aJi{w A j:eA}{S:Nat->Prop}{x:Nat}{t:aB}{M o r m:Nat}{C d:iA}{Q:List (dB×Nat)}{c:List tI}{D:DataW Unit}{l:List dB}{u:Int}{q:dB×Nat}{g e B:Nat}(h:eS w S x ⟨t.N,t.L,t.M,l⟩ M o r m C Q c D)(K:l.filter (fun p=>decide (u<p.n))=t.Z.filter (fun p=>decide (u<p.n)))(i:∀p∈l,p∈t.Z)(L:vA l<=vA t.Z)
(v:0<vA c)(P:(oD c 0).t<=u)(O:q∈Q)(J:q.2=(oD c 0).b)(H:u<q.1.n)(N:QE w A x t.L o r m C d c)
(y:iB j x #[lA mA t.L,.map (bA o),.map (bA r),.map (bA m),oA (bA ⟨g,0,aA⟩) (vA (wP c)+1) e] 232)
(z:j.ownsRow 0 271 2 (oA (bA ⟨g,0,aA⟩) (vA (wP c)+1) e) (vA (wP c)+1) (oK (aS (wP c) ⟨q.2,q.1.n⟩)))(f:d.ownBlock=bA g\/A.1.size<=g)(a:bB (fun k=>k=x\/d.ownBlock=bA k) A j)(G:B<=w.1.size)(I:∀g,B<=g->w.1.size<=g->S g):
 (∃k,uv S x t M u j k/\k<c.countP (fun s=>decide (s.t<=u)))/\bB S w j:=by
 obtain⟨E,F⟩:=h.again v O J N y z f a G I;refine⟨⟨_,⟨l,o,r,m,_,_,_,_,E,K,i,L,rfl⟩,?_⟩,F⟩;have R:=pn h.heap v P;rw[aFr (oQ h.heap v).1 (by exact H)];omega
def wy(x:Nat)(t:aB)(J I u:Int)(S:Nat->Prop)(M:Nat)(b w:eA)(h:uD w S x t M)(r:kB b w)(Z:vH b)(hS:∀g,S g->b.1.size<=g)(hu:u=I-J)(hl:vA t.Z<=1000000000)(hM:M<=1000000000)(Y:∀p∈t.Z,p.s.size<=1000000000):
 gA prog 323 #[qA (bA ⟨x,0,aA⟩),lA mA u] w fun e o=>e=sA (.tuple #[])/\uD o (fun g=>S g\/w.1.size<=g) x (bF J I t) M/\bB S w o:=by
 have G:xA (uv (fun g=>S g\/w.1.size<=g) x t M u w ((Classical.epsilon fun m=>uv (fun g=>S g\/w.1.size<=g) x t M u w m/\∀k,uv (fun g=>S g\/w.1.size<=g) x t M u w k->m<=k))):=by
  refine(FE ?_).1;obtain⟨b,U,K,iv,Q,i,D,h⟩:=h;exact⟨_,t.Z,b,U,K,iv,Q,i,D,h.keep fun g _ i=>⟨rfl,Ca i⟩,rfl,fun p s=>s,Ia _,rfl⟩
 have HUT:xA (∀W,bB S w W->vH W):=fun W s=>Z.z (r.trans (s.below r.size fun k Y i=>by have:=hS k i;omega));have HKS:xA _:=Y;have HEU:xA _:=hu;have O:xA _:=hl;clear h r Z hS Y hu hl;go_enter func323,ntmps323;go_wp2;go_loopw [4] (fun _ wr=>xA (∃n,uv (fun g=>S g\/w.1.size<=g) x t M u wr n)/\xA (bB S w wr)) (fun _ wr=>Classical.epsilon fun m=>uv (fun g=>S g\/w.1.size<=g) x t M u wr m/\∀k,uv (fun g=>S g\/w.1.size<=g) x t M u wr k->m<=k)
 case atStart=>exact⟨⟨_,G.o⟩,bB.refl _ _⟩
 case round=>
  obtain⟨HN,Y⟩:=hrel;obtain⟨Z,_⟩:=FE HN.o;have HLT:xA (∀W k,uv (fun g=>S g\/w.1.size<=g) x t M u W k->k<(Classical.epsilon fun m=>uv (fun g=>S g\/w.1.size<=g) x t M u wr m/\∀k,uv (fun g=>S g\/w.1.size<=g) x t M u wr k->m<=k)->(Classical.epsilon fun m=>uv (fun g=>S g\/w.1.size<=g) x t M u W m/\∀k,uv (fun g=>S g\/w.1.size<=g) x t M u W k->m<=k)<(Classical.epsilon fun m=>uv (fun g=>S g\/w.1.size<=g) x t M u wr m/\∀k,uv (fun g=>S g\/w.1.size<=g) x t M u wr k->m<=k)):=fun W k h1 h2=>aKj h1 h2;obtain⟨xs,b,U,K,iv,Q,i,D,d,hf,P,N,L⟩:=Z;have HI:=yA d;have HF:=yA hf;have X:=yA P;have F:=yA N;have m:=yA L;have hwr:=Y.o.size;clear G hf P N L HN;by_cases r:0<vA i
  .obtain ⟨g,a,hiv⟩:∃g a,iv=oA (bA ⟨g,0,aA⟩) (vA i) a:=by
    rcases d.row.2 with⟨_,e⟩|⟨g,a,cur,e,_⟩;exact absurd e (by omega);exact ⟨g,a,e⟩
   subst hiv;obtain⟨G,_⟩:=IF d.row rfl;have H:=(d.di g rfl).1;have Z:=yA G;have x4:cC wr x 4 (oA (bA ⟨g,0,aA⟩) (vA i) a):=d.blk.cell 4;have c1:cC wr g 1 (lA mA (oD i 0).t):=by have:=(G.cells (k:=0) r).2.1;simpa using this
   by_cases ht:(oD i 0).t<=u
   .have hhl:vA i=vA xs:=by
     have h1:=d.perm.length_eq;have h2:=Kd List.length d.q1;simp only[Xa]at h1 h2;omega
    have hh9:vA i<=1000000000:=by have:=F.o;have:=O.o;omega
    obtain⟨q,Z,a0⟩:=d.top r;have HQ:=yA Z;have HQB:=yA a0;have V:xA (gA prog 331 #[qA (bA ⟨x,4,aA⟩)] wr fun e o=>e=sA (.agg #[qA (bA ⟨(oD i 0).b,0,aA⟩),lA mA (oD i 0).t])/\iB o x (#[lA mA t.L,.map (bA b),.map (bA U),.map (bA K),oA (bA ⟨g,0,aA⟩) (vA i) a].setIfInBounds 4 (oA (bA ⟨g,0,aA⟩) (vA i-1) a)) 232/\qH o g a (wP i)/\bB (fun k=>k=x\/k=g) wr o):=aPh x 4 g a i wr _ _ d.blk rfl G H r hh9;have HTL:=yA ht;clear hhl G;rw[<-a0]at V;clear a0;generalize G:(oD i 0).t=TT at *;have HTT:xA _:=G;clear G;go_wp2_with fail;apply aC V.o;rintro y ⟨G,hm1,j⟩;have hp3:=(oQ d.heap r).2.2;have PP:xA (QE wr y x t.L b U K (oA (bA ⟨g,0,aA⟩) (vA i) a) (oA (bA ⟨g,0,aA⟩) (vA i-1) a) i):=yA {
     blk:=by simpa using G
     row:=by have:=oY (B:=0) hm1 (Oa _);rw[hp3]at this;exact this
     same:=rfl
     turn:=j.mono fun k _ e=>by rcases e with e|e;exact Ca e;exact La (by rw[e];rfl) }
    have hqc:=d.cells q Z;have hqg:=(d.di g rfl).2 q Z;have hqx:=d.dx q Z;have Q1:xA (iB y q.2 #[nA q.1.s,lA mA q.1.n] 88):=j.blk hqc (fun e=>by rcases e with e|e;exact hqx e;exact hqg e);have hfd:=aEl (qA (bA ⟨q.2,0,aA⟩)) (lA mA TT);have v0:cC y q.2 0 (nA q.1.s):=Q1.o.cell 0;have v1:cC y q.2 1 (lA mA q.1.n):=Q1.o.cell 1;have TS1:xA (bB S w y):=Y.o.trans (j.mono fun k _ e=>by
     rcases e with rfl|rfl;exact d.sx;exact d.si _ rfl)
    have hqs:q.1∈xs:=by have:=Tc (f:=(·.1)) Z;rw[d.q1]at this;exact this
    have Z:=HKS.o q.1 (X.o q.1 hqs);clear G hm1 hqc x4 c1 V H hp3;by_cases hL:q.1.n<=u
    .obtain ⟨c,hc⟩:∃c,uI aE xs (aE q.1.s)=c+1:=⟨uI aE (xE (·.s) q.1.s xs) (aE q.1.s),by have:=lr (met:=aE) d.rs hqs (aE q.1.s);rw[Ma rfl]at this;exact this⟩
     have hc9:c<=1000000000:=by have:=db aE xs (aE q.1.s);have:=F.o;have:=O.o;omega
     have G:xA (gA prog 332 #[qA (bA ⟨x,0,aA⟩),nA q.1.s] y fun e o=>e=sA (.tuple #[])/\o.ownsMap prog 9 oE U (vA Q) (DataW.del (eE (Q.map fun q=>(q.1.s,eF q.2))) (kL q.1.s))/\o.ownsMap prog 9 (plainElem prog 3) K M (D.put (kL (aE q.1.s)) (xI c))/\bB (fun k=>k=U\/k=K) y o):=
      aJg x b U K t.L _ q.1.s Q D M c y PP.o.blk (j.map d.Z (fun e=>by rcases e with e|e;exact aD d.Z d.blk e;exact lG d.Z d.row (by rw[e];rfl))) (j.map d.cnts (fun e=>by rcases e with e|e;exact aD d.cnts d.blk e;exact lG d.cnts d.row (by rw[e];rfl))) (by rw[d.cnt,hc]) d.d3 Z hM hc9 (fun W s=>HUT.o W (TS1.o.trans (s.mono fun k _ e=>by rw[e];exact d.ss)))
     have O:=yA hc;clear hc d j;go_wp2_with fail;apply aC G.o;rintro w4 ⟨R,T,E⟩;have HE:=yA (aOc HI.o HF.o X.o F.o r (by rw[HTT.o];exact HTL.o) HQ.o HQB.o hL PP.o E R T O.o);clear R T E G;go_wp2;obtain⟨⟨k,A,C⟩,Z⟩:=HE.o;exact⟨⟨⟨k,A⟩,Y.o.trans Z⟩,HLT.o _ k A (by rw[m.o]at C;exact C)⟩
    have hL':u<q.1.n:=by omega
    have hpl:=(oQ d.heap r).2.2;have G:xA (∀W,kB y W->gA prog 202 #[qA (bA ⟨x,4,aA⟩),.agg #[qA (bA ⟨q.2,0,aA⟩),lA mA q.1.n]] W fun e o=>e=sA (.tuple #[])/\∃O z,iB o x (#[lA mA t.L,.map (bA b),.map (bA U),.map (bA K),oA (bA ⟨g,0,aA⟩) (vA i-1) a].setIfInBounds 4 (oA (bA ⟨O,0,aA⟩) (vA (wP i)+1) z)) 232/\
     o.ownsRow 0 271 2 (oA (bA ⟨O,0,aA⟩) (vA (wP i)+1) z) (vA (wP i)+1) (oK (aS (wP i) ⟨q.2,q.1.n⟩))/\((iA.slice (bA ⟨g,0,aA⟩) (vA i-1) a).ownBlock=bA O\/W.1.size<=O)/\bB (fun k=>k=x\/(iA.slice (bA ⟨g,0,aA⟩) (vA i-1) a).ownBlock=bA k) W o):=fun W s=>by
     have H:=(d.di g rfl).1;exact rg x 4 0 (oA (bA ⟨g,0,aA⟩) (vA i-1) a) (wP i) ⟨q.2,q.1.n⟩ W _ _ (PP.o.blk.z s) rfl (by rw[hpl];exact(bB.of (S:=fun _=>False) s).row PP.o.row (fun _ _ e=>e)) (fun e=>H (by simpa[iA.ownBlock]using e)) (Oa _) (by omega)
    clear d j v0;go_upto_region 4 with fail;refine pR 9 (by kernel_rfl) (by kernel_rfl) ?_;simp only[Rg,List.take_zero,Sg,Kf];have b:Nonempty Unit:=⟨()⟩
    repeat (go_big_quiet_step (fail))
    refine wpQuiet_nil ?_;go_wp2_with(first|(go_at_call 202;apply aC (G.o _ eD.drew);rintro w4 ⟨O,z,b,o,O,E⟩));have HE:=yA (aJi (B:=w.1.size) HI.o HF.o X.o F.o r (by rw[HTT.o];exact HTL.o) HQ.o HQB.o hL' PP.o (by simpa using b) o O ((bB.of (S:=fun k=>k=x\/(iA.slice (bA ⟨g,0,aA⟩) (vA i-1) a).ownBlock=bA k) ((Below.refl y.1.size y).drew)).trans' E) hwr (fun g s _=>La s));clear b o O E G;obtain⟨⟨k,A,C⟩,Z⟩:=HE.o;exact⟨⟨⟨k,A⟩,Y.o.trans Z⟩,HLT.o _ k A (by rw[m.o]at C;exact C)⟩
   .have l:xA (uD wr (fun g=>S g\/w.1.size<=g) x (bF J I t) M):=aJj d HEU.o HF.o (fun h=>ht h.2);clear d;generalize (oD i 0).t=TT at *;go_wp2;go_end0;exact⟨rfl,l.o,Y.o⟩
  .have l:xA (uD wr (fun g=>S g\/w.1.size<=g) x (bF J I t) M):=aJj d HEU.o HF.o (fun h=>r h.1);have b:vA i=0:=by omega
   have x4:∃v,cC wr x 4 v/\(v=oA aA 0 0\/∃g a,v=oA (bA ⟨g,0,aA⟩) 0 a):=by
    refine⟨iv,d.blk.cell 4,?_⟩;rcases d.row.2 with⟨e,_⟩|⟨g,a,cur,e,_⟩;exact Ca e;rw[b]at e;exact La ⟨g,a,e⟩
   clear d b;obtain⟨v,x4,b⟩:=x4;rcases b with rfl|⟨g,a,rfl⟩
   .go_wp2;go_end0;exact⟨rfl,l.o,Y.o⟩
   go_wp2;go_end0;exact⟨rfl,l.o,Y.o⟩
end
section
open Go.Maps
def NJ{H:Type}{P:Program}{k:TypeId}{R:iA->Option (DataW H×List MemPlace)}{w g:eA}{b r n:Nat}{D:DataW H}{left:Lit->Bool}{m:Nat}{S:Nat->Prop}(h:w.ranges P k R b r n D left m)(f:bB S w g)(s:¬S b)(t:¬S r):g.ranges P k R b r n D left m:=by
 have o:=h.owns.lt;have p:=h.lt;obtain⟨m,a,c,e,i,j,F,u,q,l,d⟩:=h;exact⟨m,a,c,e,i,(f.block b o s).trans j,F,u,q,(f.block r p t).trans l,d⟩
def aCj{key:iA}{a:Lit}(h:keyOf prog 9 key=bA a):∃s,key=nA s/\a=kL s/\s.size<=maxLen:=WideMaps.string_of_keyOf underlying9 h
def iL.trim{w:eA}{B:Nat->Prop}{T:Nat->Option Nat}{l m:Nat}{c:lC}{a:Int}{L:List (aB×Nat)}{M:Nat}(h:iL w B T l m c a L M):iL w B (fun g=>if g<w.1.size then T g else aA) l m c a L M:=
 { h with
  idx:=fun p e=>(h.idx p e).keep fun g d b=>⟨rfl,b.1,by show(if g<w.1.size then T g else aA)=_;rw[Ma d];exact b.2⟩
  tl:=by show(if l<w.1.size then T l else aA)=aA;rw[Ma (zA h.blk)];exact h.tl
  tm:=by show(if m<w.1.size then T m else aA)=aA;rw[Ma h.ten.lt];exact h.tm}
def iL.aside{w f:eA}{B:Nat->Prop}{T:Nat->Option Nat}{l m r:Nat}{c:lC}{a:Int}{L:List (aB×Nat)}{M:Nat}(h:iL w B T l m c a L M)(d:bB (·=r) w f)(o:T r=aA)(j:l≠r)(k:m≠r):iL f B T l m c a L M:=
 { h with
  blk:=d.blk h.blk j
  ten:=d.map h.ten k
  idx:=fun p n=>(h.idx p n).keep fun g i b=>⟨d.block g i (fun e=>by rw[e,o]at b;cases b.2),b⟩ }
def iL.moved{w f:eA}{B:Nat->Prop}{T:Nat->Option Nat}{l m:Nat}{c:lC}{d a:Int}{L:List (aB×Nat)}{M:Nat}(h:iL w B T l m c d L M)(i:bB (·=l) w f)(j:iB f l (oW c a m) 154):iL f B T l m c a L M:=
 { h with
  blk:=j
  ten:=i.map h.ten h.lm
  idx:=fun p n=>(h.idx p n).keep fun g k b=>⟨i.block g k (fun e=>by rw[e,h.tl]at b;cases b.2),b⟩ }
def iL.turned{w v:eA}{B:Nat->Prop}{T:Nat->Option Nat}{l m:Nat}{c:lC}{o:Int}{L:List (aB×Nat)}{M:Nat}{p:aB×Nat}{t':aB}(h:iL w B T l m c o L M)(x:∀g,w.1.size<=g->B g)(u:p∈L)(r:t'.N=p.1.N)
(b:bB (fun g=>B g/\T g=bA p.2) w v)(y:uD v (fun g=>(B g/\T g=bA p.2)\/w.1.size<=g) p.2 t' M):
 iL v B (fun g=>if g<w.1.size then T g else bA p.2) l m c o (gC (fun p:aB×Nat=>p.1.N) (t',p.2) L) M:=by
 have z:=zA h.blk;have A:=h.ten.lt;have i:(gC (fun p:aB×Nat=>p.1.N) (t',p.2) L).map (fun p=>(p.1.N,eF p.2))=L.map fun p=>(p.1.N,eF p.2):=
  IS (key:=fun p:aB×Nat=>p.1.N) (a:=(t',p.2)) (fun p:aB×Nat=>(p.1.N,eF p.2)) h.rise u r.symm (by simp[r])
 have n:vA (gC (fun p:aB×Nat=>p.1.N) (t',p.2) L)=vA L:=by
  have:=Kd List.length i;simpa using this
 have t:∀q∈L,q.1.N≠t'.N->q.2≠p.2:=fun q j f e=>by
  have:=yS h.nd j u e;rw[this,r]at f;exact f rfl
 exact {
  blk:=b.blk h.blk (fun e=>by rw[h.tl]at e;cases e.2)
  ten:=by rw[i,n];exact b.map h.ten (fun e=>by rw[h.tm]at e;cases e.2)
  rise:=gK h.rise
  idx:=fun q j=>by
   rcases fv h.rise j with rfl|⟨j,f⟩
   .refine y.keep fun g s d=>⟨rfl,?_,?_⟩
    .rcases d with d|d
     .exact d.1
     exact x g d
    show (if g<w.1.size then T g else bA p.2)=bA p.2;by_cases k:g<w.1.size
    .rw[Ma k];rcases d with d|d
     .exact d.2
     omega
    rw[Ja k]
   refine (h.idx q j).keep fun g s d=>⟨b.block g s (fun e=>?_),d.1,?_⟩
   .have:=t q j f;rw[e.2]at d;exact this (Lc d.2).symm
   show (if g<w.1.size then T g else bA p.2)=_;rw[Ma s];exact d.2
  nd:=by
   rw[IS (key:=fun p:aB×Nat=>p.1.N) (a:=(t',p.2)) (·.2) h.rise u r.symm rfl];exact h.nd
  tl:=by show(if l<w.1.size then T l else _)=aA;rw[Ma z];exact h.tl
  tm:=by show(if m<w.1.size then T m else _)=aA;rw[Ma A];exact h.tm
  lB:=h.lB
  mB:=h.mB}
def iL.left{w y s:eA}{B:Nat->Prop}{T:Nat->Option Nat}{l m n:Nat}{c:lC}{i:Int}{L:List (aB×Nat)}{M:Nat}{k:gB}{S:Nat->Prop}(h:iL w B T l m c i L M)(C:∀g,S g->∀q∈L,q.1.N≠k->T g≠bA q.2)(t:∀g,g<w.1.size->S g->T g≠aA)
(a:bB S w y)(b:bB (·=m) y s)(j:s.ownsMap prog 9 oE m n (DataW.del (eE (L.map fun p=>(p.1.N,eF p.2))) (kL k))):
 iL s B T l m c i (xE (fun p:aB×Nat=>p.1.N) k L) M:=by
 have x:=zA h.blk;have D:=a.size;have f:DataW.del (eE (L.map fun p=>(p.1.N,eF p.2))) (kL k)=eE ((xE (fun p:aB×Nat=>p.1.N) k L).map fun p=>(p.1.N,eF p.2)):=
  dj (key:=fun p:aB×Nat=>p.1.N) (fun p=>eF p.2) k L
 have d:∀g,g<w.1.size->¬S g->g≠m->s.heap[g]?=w.heap[g]?:=fun g u z A=>by
  rw[b.block g (by omega) A,a.block g u z]
 exact {
  blk:=(d l x (fun e=>t l x e h.tl) h.lm.symm).trans h.blk
  ten:=by
   have:=VQ j;rw[f,kN]at this;exact this
  rise:=iQ h.rise
  idx:=fun q o=>by
   obtain⟨o,v⟩:=wS.1 o;exact(h.idx q o).keep fun g u r=>⟨d g u (fun e=>C g e q o v r.2) (fun e=>by rw[e,h.tm]at r;cases r.2),r⟩
  nd:=h.nd.sublist (List.Sublist.map _ Pf)
  tl:=h.tl
  tm:=h.tm
  lB:=h.lB
  mB:=h.mB}
def TkR(c:lC)(a:Int)(b:List aB)(M:Nat)(B:Nat->Prop)(l m r:Nat)(left:Lit->Bool)(wr:eA):Prop:=
 ∃T L,iL wr B T l m c a L M/\L.map (·.1)=nI c.w a (fun s=>left (kL s)) b/\T r=aA
def aMr{c:lC}{a:Int}{o:List aB}{M l m n:Nat}{B:Nat->Prop}{left:Lit->Bool}{wr:eA}{T:Nat->Option Nat}{L:List (aB×Nat)}{D:DataW Unit}{s:gB}{v:iA}{y:DataW Unit×List MemPlace}(h:iL wr B T l m c a L M)(u:L.map (·.1)=nI c.w a (fun s=>left (kL s)) o)(g:wr.ownsMap prog 9 oE m n D)(x:left (kL s)=dA)(C:oE v=bA y)(f:∀zd,D.atKey (kL s) zd=y.1):
 ∃p∈L,p.1.N=s/\p.1∈o/\v=qA (bA ⟨p.2,0,aA⟩):=by
 rw[aBy g h.ten]at f;have d:∀zd:DataW Unit,((zC (fun p:aB×Nat=>p.1.N) s L).map fun p=>eF p.2).getD zd=y.1:=fun zd=>by
  rw[<-iT (key:=fun p:aB×Nat=>p.1.N) (fun p=>eF p.2)];exact f zd
 cases hg:zC (fun p:aB×Nat=>p.1.N) s L with
 |none=>
  rw[hg]at d;have b:=d (xI 0);have j:=d (xI 1);simp only[Option.map_none,Option.getD_none]at b j;rw[<-b]at j;simp[xI]at j
 |some p=>
  rw[hg]at d;have b:=d .nil;simp only[Option.map_some,Option.getD_some]at b;obtain⟨q,i⟩:=yM hg;have z:p.1∈nI c.w a (fun s=>left (kL s)) o:=by rw[<-u];exact Tc q
  obtain⟨t,A,e,r⟩:=ZL z;have k:left (kL t.N)=dA:=by rw[<-r,i];exact x
  rw[Ma k]at e;refine⟨p,q,i,by rw[e];exact A,mR (ps:=y.2) (by rw[C,b])⟩
end
