import Derived.Test.YtbfnhppoecdnoaaGreatDoorJ26
import Derived.Test.YtbfnhppoecdnoaaGreatDoorJ28
import Derived.Test.YtbfnhppoecdnoaaGreatDoorJ27
set_option maxRecDepth 100000
set_option maxHeartbeats 4000000
set_option linter.defProp false
open Option renaming none->aA,some->bA
open Bool renaming true->dA,false->cA
open List renaming length->vA
namespace Go.Proofs.YtbfnhppoecdnoaaGreatDoor
open Go renaming World->eA,TypeId->jA,Value->iA,Calls->gA
open Value renaming slice->oA,agg->rA,int->lA,bool->pA,string->nA,pointer->qA
open Obj renaming cells->tA
open IntKind renaming i64->mA
open Ending renaming returned->sA
open Go.RowKit Tryz
def LI{W:eA}{B:Nat}{e:jA}{size:Nat}{v:iA}{n:Nat}{f:List iA}(h:W.ownsRow B e size v n f):∃a c,v=oA a n c:=by
 rcases h.2 with⟨rfl,rfl⟩|⟨g,b,d,rfl,_⟩;exact ⟨aA,0,rfl⟩;exact ⟨_,_,rfl⟩
def aIj{C:eA->Prop}{w:eA}{cs a:Array iA}{t b:jA}(k:∀W,kB w W->iB W w.1.size cs t->iB W (w.1.size+1) a b->W.1.size=w.1.size+1+1->C W):C ((w.alloc (tA cs t)).alloc (tA a b)):=
 k _ (oB vB vB) ((iB.new w _ _).alloc _) (by have:=iB.new (w.alloc (tA cs t)) a b;simpa using this) (by simp)
def aDq(W:eA)(a:iC)(m:Nat)(d:List cB)(x:eB W a d)(z:vA d<=2000000):
 ∃l c r,(Builtin.append_ #[35,35] 35 #[oA (bA ⟨W.1.size,0,aA⟩) 0 0,oA a (vA d) m]).run prog (W.alloc (tA #[] 149))=.ok (oA l (vA d) c) r/\
  pG r W.1.size l d/\kB W r/\∀g o,l=bA ⟨g,o,aA⟩->g<r.1.size:=by
 obtain⟨i,y,s,t,v⟩:=aM;cases a with
 |none=>
  have B:d=[]:=by
   rcases x with h|⟨b,o,e,_⟩;exact h;exact absurd e (by simp)
  subst B;refine⟨bA ⟨W.1.size,0,aA⟩,0,W.alloc (tA #[] 149),?_,Ca rfl,vB,fun g o e=>by simp only[Qa,Addr.mk.injEq]at e;simp;omega⟩;simp[Builtin.append_,run_underlying underlying35,sizeOf,typeInfo,y,Builtin.lenOf,Builtin.firstCells,storeCells]
 |some w=>
  have p:=eA.ownsRow_made W (e:=149) (size:=3) #[] 0 (Ia _) (by simp[maxLen]) (by simp);have f:∀j u,(flat d)[j]?=bA u->(W.alloc (tA #[] 149)).cell? (w.add j)=bA u:=by
   rcases x.z (yG W (tA #[] 149)) with rfl|⟨b,o,e,_,h⟩;intro j u h;simp[flat]at h;simp only[Qa]at e;subst e;exact zO h
  obtain⟨I,A,F,q,C,_,_⟩:=run_append_own_at (P:=prog) (W.alloc (tA #[] 149)) W.1.size 35 35 149 i _ 3 40 underlying35 y s t v rfl (by omega) (oA (bA ⟨W.1.size,0,aA⟩) 0 0) 0 [] p w (vA d) m (flat d) (tE d) f (iG d) (by simp[maxLen];omega) (by omega) (by simp);simp only[Ya,Mb]at q;have n:kB W A:=vB.grown C (by simp) (fun k D=>by
   simp[iA.ownBlock]at D;omega)
  obtain⟨l,c,rfl⟩:=LI q;exact⟨l,c,A,F,(by obtain⟨G,H,e,E⟩:=cH q;simp only[iA.slice.injEq]at e;obtain⟨rfl,_,_⟩:=e;exact E),n,fun g o e=>(q.lt g (by rw[e];rfl)).2⟩
def aDr(W:eA)(a:iC)(m:Nat)(d:List dB)(x:yB W a d)(z:vA d<=2000000):
 ∃l c r,(Builtin.append_ #[82,82] 82 #[oA (bA ⟨W.1.size,0,aA⟩) 0 0,oA a (vA d) m]).run prog (W.alloc (tA #[] 111))=.ok (oA l (vA d) c) r/\
  mC r W.1.size l d/\kB W r/\∀g o,l=bA ⟨g,o,aA⟩->g<r.1.size:=by
 obtain⟨i,y,s,t,v⟩:=info_parts oe;cases a with
 |none=>
  have B:d=[]:=by
   rcases x with h|⟨b,o,e,_⟩;exact h;exact absurd e (by simp)
  subst B;refine⟨bA ⟨W.1.size,0,aA⟩,0,W.alloc (tA #[] 111),?_,Ca rfl,vB,fun g o e=>by simp only[Qa,Addr.mk.injEq]at e;simp;omega⟩;simp[Builtin.append_,run_underlying underlying82,sizeOf,typeInfo,y,Builtin.lenOf,Builtin.firstCells,storeCells]
 |some w=>
  have p:=eA.ownsRow_made W (e:=111) (size:=2) #[] 0 (Ia _) (by simp[maxLen]) (by simp);have f:∀j u,(flatK d)[j]?=bA u->(W.alloc (tA #[] 111)).cell? (w.add j)=bA u:=by
   rcases x.z (yG W (tA #[] 111)) with rfl|⟨b,o,e,_,h⟩;intro j u h;simp[flatK]at h;simp only[Qa]at e;subst e;exact jO h
  obtain⟨F,A,E,q,C,_,_⟩:=run_append_own_at (P:=prog) (W.alloc (tA #[] 111)) W.1.size 82 82 111 i _ 2 24 underlying82 y s t v rfl (by omega) (oA (bA ⟨W.1.size,0,aA⟩) 0 0) 0 [] p w (vA d) m (flatK d) (xM d) f (lQ d) (by simp[maxLen];omega) (by omega) (by simp);simp only[Ya,Mb]at q;have n:kB W A:=vB.grown C (by simp) (fun k D=>by
   simp[iA.ownBlock]at D;omega)
  obtain⟨l,c,rfl⟩:=LI q;exact⟨l,c,A,E,zD q,n,fun g o e=>(q.lt g (by rw[e];rfl)).2⟩
def aDs(W:eA)(a:iC)(m:Nat)(d:List dB)(x:yB W a d)(z:vA d<=2000000):
 ∃l c r,(Builtin.append_ #[83,83] 83 #[oA (bA ⟨W.1.size,0,aA⟩) 0 0,oA a (vA d) m]).run prog (W.alloc (tA #[] 88))=.ok (oA l (vA d) c) r/\
  mC r W.1.size l d/\kB W r/\∀g o,l=bA ⟨g,o,aA⟩->g<r.1.size:=by
 obtain⟨i,y,s,t,v⟩:=info_parts oi;cases a with
 |none=>
  have B:d=[]:=by
   rcases x with h|⟨b,o,e,_⟩;exact h;exact absurd e (by simp)
  subst B;refine⟨bA ⟨W.1.size,0,aA⟩,0,W.alloc (tA #[] 88),?_,Ca rfl,vB,fun g o e=>by simp only[Qa,Addr.mk.injEq]at e;simp;omega⟩;simp[Builtin.append_,run_underlying underlying83,sizeOf,typeInfo,y,Builtin.lenOf,Builtin.firstCells,storeCells]
 |some w=>
  have p:=eA.ownsRow_made W (e:=88) (size:=2) #[] 0 (Ia _) (by simp[maxLen]) (by simp);have f:∀j u,(flatK d)[j]?=bA u->(W.alloc (tA #[] 88)).cell? (w.add j)=bA u:=by
   rcases x.z (yG W (tA #[] 88)) with rfl|⟨b,o,e,_,h⟩;intro j u h;simp[flatK]at h;simp only[Qa]at e;subst e;exact jO h
  obtain⟨F,A,E,q,C,_,_⟩:=run_append_own_at (P:=prog) (W.alloc (tA #[] 88)) W.1.size 83 83 88 i _ 2 24 underlying83 y s t v rfl (by omega) (oA (bA ⟨W.1.size,0,aA⟩) 0 0) 0 [] p w (vA d) m (flatK d) (xM d) f (lQ d) (by simp[maxLen];omega) (by omega) (by simp);simp only[Ya,Mb]at q;have n:kB W A:=vB.grown C (by simp) (fun k D=>by
   simp[iA.ownBlock]at D;omega)
  obtain⟨l,c,rfl⟩:=LI q;exact⟨l,c,A,E,zD q,n,fun g o e=>(q.lt g (by rw[e];rfl)).2⟩
def ye(a:iC)(y:Nat)(K:mE)(w:eA)(G:eB w a K.fs)(hl:vA K.fs<=1048576):
 gA prog 47 #[rA #[oA a (vA K.fs) y,lA mA K.c,lA mA K.k,lA mA K.cr,lA mA K.fl,pA K.dn]] w fun e z=>∃s o,e=sA (rA #[oA s (vA K.fs) o,lA mA K.c,lA mA K.k,lA mA K.cr,lA mA K.fl,pA K.dn])/\wG z (fun x=>w.1.size<=x/\x<z.1.size) s K.fs/\kB w z:=by
 go_enter func47,ntmps47;go_upto_region 1 with fail;refine aIj (C:=fun W=>Code.wp prog _ _ _ W) ?_;intro A p t D q;obtain⟨E,F,w2,n,H,j,_⟩:=aDq A a y K.fs (G.z p) (by omega);have r:=yA n;have l:=t.z j;have m:=D.z j;have Q:=yA (H.toA (Ia _));have B:=yA (oB p j);have q0:cC A w.1.size 0 (oA a (vA K.fs) y):=t.cell 0;have R:w.1.size<A.1.size:=by omega
 have V:=l.cell 0;have X:=l.cell 1;have Y:=l.cell 2;have Z:=l.cell 3;have p4:=l.cell 4;have p5:=l.cell 5;have I:=m.cell 0;have J:=m.cell 1;have L:=m.cell 2;have M:=m.cell 3;have N:=m.cell 4;have O:=m.cell 5;simp only[Xb,Ob,Ga]at V X Y Z p4 p5 I J L M N O;obtain⟨b,d,f,g,h,i,_⟩:=l.frees;obtain⟨g0,g1,g2,g3,g4,g5,_⟩:=m.frees;have P:=yA q;clear p t D n H j l m G q;go_wp2_with(at_builtin;refine Lib.wpList_append_run _ rfl _ _ _ _ rfl _ _ rfl rfl _ _ r.o ?_);refine bodyPost_ret (v:=rA #[oA E (vA K.fs) F,lA mA K.c,lA mA K.k,lA mA K.cr,lA mA K.fl,pA K.dn]) (by simp[results,results47,go_sem,I,J,L,M,N,O]) rfl ?_;refine bB.end2 (S:=fun x=>x=w.1.size\/x=w.1.size+1) (C:=fun W=>∃s o,Ending.returned (rA #[oA E (vA K.fs) F,lA mA K.c,lA mA K.k,lA mA K.cr,lA mA K.fl,pA K.dn])=Ending.returned (rA #[oA s (vA K.fs) o,lA mA K.c,lA mA K.k,lA mA K.cr,lA mA K.fl,pA K.dn])/\wG W (fun x=>w.1.size<=x/\x<W.1.size) s K.fs/\kB w W) w2 (by
  repeat (with_reducible first|exact bB.refl _ _|refine bB.setCell ?_ (Ca (by first|exact Ca rfl|exact La rfl)) _ _)) ?_
 intro w6 u;have U:=u.size;have q:=P.o;exact⟨_,_,rfl,(Q.o.turned u (fun x T _ e=>by omega)).mono (fun x T=>by omega),B.o.trans (u.below (by have:=B.o.size;omega) (fun k hk e=>by omega))⟩
def de:Nat->Int->Int
 |0,x=>x
 |k+1,x=>wrap64 (de k x+de k x)
def shK:Nat->Int->Int
 |0,e=>e
 |k+1,e=>shK k e / 2
def gh:Nat->Int->Bool
 |0,_=>dA
 |k+1,e=>gh k e&&(shK k e).tmod 2 != 0
def AQ(b:Int):Bool:=gh 11 (b / 4503599627370496) &&de 12 b != 0
def aOv(b:Int)(w:eA):dI 56 #[lA mA b] w (pA (AQ b)):=by
 have HN:xA (AQ b=(gh 11 (b / 4503599627370496) &&de 12 b != 0)):=rfl;generalize AQ b=V at *;go_enter func56,ntmps56;go_wp2;go_loopw [3,5] (fun f i wr=>∃k:Nat,k<=12/\i=lA mA k/\f=lA mA (de k b)/\wr=w) (fun _ i _=>12-(intOf i).toNat)
 case atStart=>exact⟨0,by omega,rfl,rfl,rfl⟩
 case round=>
  obtain⟨k,d,rfl,rfl,rfl⟩:=hrel;by_cases h:k<12
  .go_wp2;exact⟨⟨k+1,by omega,by go_num,rfl,trivial⟩,by simp[intOf];omega⟩
  obtain rfl:k=12:=by omega
  generalize de 12 b=D at *;go_wp2;generalize b / 4503599627370496=E at *;go_loopw [4,6,7] (fun e a i j=>∃k:Nat,k<=11/\i=lA mA k/\e=lA mA (shK k E)/\a=pA (gh k E)/\j=wr) (fun _ _ i _=>11-(intOf i).toNat)
  case atStart=>exact⟨0,by omega,rfl,rfl,rfl,rfl⟩
  case round=>
   obtain⟨k,d,rfl,rfl,rfl,rfl⟩:=hrel;by_cases h:k<11
   .have c:gh (k+1) E=(gh k E&&(shK k E).tmod 2 != 0):=rfl;generalize gh k E=y at *;cases y
    all_goals
     replace c:=yA c;go_wp2;exact⟨⟨k+1,by omega,by go_num,rfl,by rw[c.o];simp,trivial⟩,by simp[intOf];omega⟩
   obtain rfl:k=11:=by omega
   generalize gh 11 E=y at *;cases y
   all_goals
    go_wp2;go_ret;exact⟨by rw[HN.o];rfl,rfl⟩
def aNd(w:eA)(e:Ending)(t:aB):Prop:=∃a c b d,e=sA (rA #[nA t.N,lA mA t.L,oA a (vA t.M) c,oA b (vA t.Z) d])/\yB w a t.M/\yB w b t.Z
def dY(q:Int)(a:iC)(p:Nat)(l:List aB)(name:gB)(w:eA)(M:nC w a l)(N:vA l<=1000000000):
 gA prog 28 #[rA #[lA mA q,oA a (vA l) p],nA name] w fun e V=>aNd V e (bC l name)/\kB w V:=by
 have HF:xA (nC w a l):=M;have x:xA (bC l name=(zC (·.N) name l).getD ⟨name,-1,[],[]⟩):=rfl;clear M;go_enter func28,ntmps28;go_wp2;have L:xA _:=yA (by have:=iB.new (w.alloc (tA #[lA mA q,oA a (vA l) p] 41)) #[nA ⟨#[]⟩,lA mA 0,oA aA 0 0,oA aA 0 0] 85;simpa using this);have K:xA (kB w ((w.alloc (tA #[lA mA q,oA a (vA l) p] 41)).alloc (tA #[nA ⟨#[]⟩,lA mA 0,oA aA 0 0,oA aA 0 0] 85))):=oB vB vB;generalize hW:(w.alloc (tA #[lA mA q,oA a (vA l) p] 41)).alloc (tA #[nA ⟨#[]⟩,lA mA 0,oA aA 0 0,oA aA 0 0] 85)=W at *;clear hW;go_loopw [6,10] (fun _ i wr=>∃k:Nat,k<=vA l/\i=lA mA k/\xA (∀j(h:j<k)(h':j<vA l),l[j].N≠name)/\kB W wr) (fun _ i _=>vA l-(intOf i).toNat)
 case atStart=>exact⟨0,Oa _,rfl,(fun j h=>absurd h (by omega)),eD⟩
 case round=>
  obtain⟨k,hk,rfl,HN,m⟩:=hrel;have E:xA _:=m;have n:xA (iB wr (w.1.size+1) #[nA ⟨#[]⟩,lA mA 0,oA aA 0 0,oA aA 0 0] 85):=L.o.z m;have hrl:=zA n.o;have Q:cC wr (w.1.size+1) 0 (nA ⟨#[]⟩):=n.o.cell 0;have R:cC wr (w.1.size+1) 1 (lA mA 0):=n.o.cell 1;have S:cC wr (w.1.size+1) 2 (oA aA 0 0):=n.o.cell 2;have U:cC wr (w.1.size+1) 3 (oA aA 0 0):=n.o.cell 3;have u0:=n.o.free 0;have u1:=n.o.free 1;have u2:=n.o.free 2;have u3:=n.o.free 3;clear m L;by_cases A:k<vA l
  .obtain ⟨b,o,y,C,z,D,rfl,B,X,Y,Z,z3,O,P⟩:=HF.o.at A;have r:xA _:=oB K.o E.o;have c:=(r.o.cell B).trans X;have d:=(r.o.cell B).trans Y;have f:=(r.o.cell B).trans Z;have g:=(r.o.cell B).trans z3;clear X Y Z z3;have HG:xA (zC (·.N) name l=if l[k].N=name then bA l[k] else zC (·.N) name (l.drop (k+1))):=by
    show _=_;rw[EO k HN.o,Cb A,oT]
   have u:xA (l[k].N≠name->∀j(h:j<k+1)(h':j<vA l),l[j].N≠name):=fun J j hj I=>by
    by_cases e:j=k
    .subst e;exact J
    exact HN.o j (by omega) I
   have P1:xA (yB w y l[k].M):=O;have P2:xA (yB w z l[k].Z):=P;clear O P;generalize l[k]=T at *;by_cases t:T.N=name
   .have H:=(jE _ _).2 t;have G:xA (bC l name=T):=by show _=_;rw[x.o,HG.o,Ma t];rfl
    clear t;go_wp2;have s:kB w (((((wr.setCell ⟨w.1.size+1,0,aA⟩ (nA T.N)).setCell ⟨w.1.size+1,1,aA⟩ (lA mA T.L)).setCell ⟨w.1.size+1,2,aA⟩ (oA y (vA T.M) C)).setCell ⟨w.1.size+1,3,aA⟩ (oA z (vA T.Z) D)).alloc (tA #[nA T.N,lA mA T.L,oA y (vA T.M) C,oA z (vA T.Z) D] 85)):=oB (((((r.o.setCell (by simp) _).setCell (by simp) _).setCell (by simp) _).setCell (by simp) _)) vB;refine bodyPost_ret (v:=rA #[nA T.N,lA mA T.L,oA y (vA T.M) C,oA z (vA T.Z) D]) (by simp[results,results28,go_sem,Q,R,S,U,hrl]) rfl ⟨?_,s⟩;rw[G.o];exact⟨y,C,z,D,rfl,P1.o.z s,P2.o.z s⟩
   have H:=cE t;have F:xA _:=u.o t;clear t;go_wp2;exact⟨⟨k+1,by omega,by go_num,F,oB E.o vB⟩,by simp[intOf];omega⟩
  .have G:xA (bC l name=⟨name,-1,[],[]⟩):=by
    show _=_;rw[x.o,EO k HN.o,Yb (by omega)];rfl
   have r:xA _:=oB K.o E.o;go_wp2;refine bodyPost_ret (v:=rA #[nA name,lA mA (-1),oA aA 0 0,oA aA 0 0]) (by simp[results,results28,go_sem,Q,R,S,U]) rfl ⟨?_,(((((r.o.setCell (by simp) _).setCell (by simp) _).setCell (by simp) _).setCell (by simp) _))⟩;rw[G.o];exact⟨aA,0,aA,0,rfl,Ca rfl,Ca rfl⟩
def NA(c:lC)(t:aB)(q o:iC)(v r:Nat)(m:gB)(w:eA)(G:yB w q t.M)(H:yB w o t.Z)(C:aHw t.Z)(l1:vA t.M<=1000000000)(l2:vA t.Z<=1000000000):
 qD 71 #[oF c,rA #[nA t.N,lA mA t.L,oA q (vA t.M) v,oA o (vA t.Z) r],nA m] w (.tuple #[lA mA (kE c t m).1,lA mA (kE c t m).2]):=by
 unfold oF;by_cases z:m.toList.isEmpty=dA
 .have p:xA (kE c t m=(((vA t.Z:Nat):Int),if t.L<0 then c.tl else t.L)):=by show _=_;unfold kE;rw[Ma z]
  clear G H C;by_cases R:t.L<0
  .go_enter func71,ntmps71;go_wp2;go_ret2;exact⟨dL (by rw[p.o]) (by rw[p.o];exact(Ma R).symm),oB vB vB⟩
  have f:xA (¬t.L<0):=R;go_enter func71,ntmps71;go_wp2;go_ret2;exact⟨dL (by rw[p.o]) (by rw[p.o];have h0:=f.o;exact(Ja (by omega)).symm),oB vB vB⟩
 have Y:m.toList.isEmpty=cA:=by simpa using z
 have p:xA (kE c t m=(((uI aE t.Z m:Nat):Int),mG t.M m c.ml)):=by show _=_;unfold kE;rw[Ja z]
 have U:xA (yB w q t.M):=G;have V:xA (yB w o t.Z):=H;have B:xA (aHw t.Z):=C;clear G H C z;go_enter func71,ntmps71;go_wp2;have M:xA _:=yA (by have:=iB.new (w.alloc (tA #[lA mA c.w,lA mA c.tl,lA mA c.ml,lA mA c.sh,lA mA c.ha,lA mA c.sg] 46)) #[nA t.N,lA mA t.L,oA q (vA t.M) v,oA o (vA t.Z) r] 85;simpa using this);have A:xA (kB w ((w.alloc (tA #[lA mA c.w,lA mA c.tl,lA mA c.ml,lA mA c.sh,lA mA c.ha,lA mA c.sg] 46)).alloc (tA #[nA t.N,lA mA t.L,oA q (vA t.M) v,oA o (vA t.Z) r] 85))):=oB vB vB;generalize (w.alloc (tA #[lA mA c.w,lA mA c.tl,lA mA c.ml,lA mA c.sh,lA mA c.ha,lA mA c.sg] 46)).alloc (tA #[nA t.N,lA mA t.L,oA q (vA t.M) v,oA o (vA t.Z) r] 85)=W at *;go_loopw [9,11,32] (fun l _ i wr=>∃k:Nat,k<=vA t.M/\i=lA mA k/\l=lA mA (mG (t.M.take k) m c.ml)/\kB W wr) (fun _ _ i _=>vA t.M-(intOf i).toNat)
 case atStart=>exact⟨0,Oa _,rfl,rfl,eD⟩
 case round=>
  obtain⟨k,hk,rfl,rfl,a⟩:=hrel;have d:xA _:=a;clear a;by_cases y:k<vA t.M
  .obtain ⟨Z,po,rfl,E,z0,z1⟩:=(U.o.z (oB A.o d.o)).at y;have g:xA (mG (t.M.take (k+1)) m c.ml=if t.M[k].s.toList==m.toList then t.M[k].n else mG (t.M.take k) m c.ml):=qd _ _ _ _ y;generalize t.M[k]=P at *;generalize mG (t.M.take k) m c.ml=T at *;by_cases h:(P.s.toList==m.toList)=dA
   .have f:xA (mG (t.M.take (k+1)) m c.ml=P.n):=by show _=_;rw[g.o,Ma h]
    clear g;go_wp2;exact⟨⟨k+1,by omega,by go_num,by rw[f.o],oB d.o vB⟩,by simp[intOf];omega⟩
   have D:(P.s.toList==m.toList)=cA:=by simpa using h
   have f:xA (mG (t.M.take (k+1)) m c.ml=T):=by show _=_;rw[g.o,Ja h]
   clear g h;go_wp2;exact⟨⟨k+1,by omega,by go_num,by rw[f.o],oB d.o vB⟩,by simp[intOf];omega⟩
  have Q:t.M.take k=t.M:=Ra (by omega);rw[Q];clear Q;generalize mG t.M m c.ml=ML at *;have N:xA (iB wr (w.1.size+1) #[nA t.N,lA mA t.L,oA q (vA t.M) v,oA o (vA t.Z) r] 85):=M.o.z d.o;have J:xA _:=oB A.o d.o;have y3:cC wr (w.1.size+1) 3 (oA o (vA t.Z) r):=N.o.cell 3;clear M A d;generalize F:wr=S at *;clear F;go_wp2;clear y3 N;go_loopw [12,14,46] (fun n _ i wr=>∃k:Nat,k<=vA t.Z/\i=lA mA k/\n=lA mA (uI aE (t.Z.take k) m:Nat)/\kB S wr) (fun _ _ i _=>vA t.Z-(intOf i).toNat)
  case atStart=>exact⟨0,Oa _,rfl,rfl,eD⟩
  case round=>
   obtain⟨j,hj,rfl,rfl,a⟩:=hrel;have d:xA _:=a;clear a;by_cases b:j<vA t.Z
   .obtain ⟨Z,po,rfl,E,z0,z1⟩:=(V.o.z (oB J.o d.o)).at b;have g:xA (uI aE (t.Z.take (j+1)) m=uI aE (t.Z.take j) m+if (aE t.Z[j].s).toList==m.toList then 1 else 0):=aDn _ _ _ b;have K:xA (∀W,qD 101 #[nA t.Z[j].s] W (nA (aE t.Z[j].s))):=fun W=>BD t.Z[j].s W (B.o j b);have X:uI aE (t.Z.take j) m<=1000000000:=by have:=db aE (t.Z.take j) m;rw[Hb]at this;omega
    generalize t.Z[j]=P at *;generalize aE P.s=mk at *;generalize uI aE (t.Z.take j) m=L at *;go_wp2_with fail;apply aC (K.o _);intro w5 x;have u:xA _:=oB d.o (oB vB x);clear x K;by_cases h:(mk.toList==m.toList)=dA
    .have f:xA (uI aE (t.Z.take (j+1)) m=L+1):=by show _=_;rw[g.o,Ma h]
     clear g;go_wp2;exact⟨⟨j+1,by omega,by go_num,by rw[f.o];go_num,u.o⟩,by simp[intOf];omega⟩
    have D:(mk.toList==m.toList)=cA:=by simpa using h
    have f:xA (uI aE (t.Z.take (j+1)) m=L):=by show _=_;rw[g.o,Ja h];rfl
    clear g h;go_wp2;exact⟨⟨j+1,by omega,by go_num,by rw[f.o],u.o⟩,by simp[intOf];omega⟩
   have O:t.Z.take j=t.Z:=Ra (by omega);rw[O];clear O;go_wp2;go_ret2;exact⟨dL (by rw[p.o]) (by rw[p.o]),oB J.o d.o⟩
def qM(t:aB)(s:List aB×Bool)(p:aB):List aB×Bool:=
 (s.1++(if s.2=dA then [] else if aK p.N t.N=dA then [] else [t])++(if (p.N.toList==t.N.toList)=dA then [] else [p]),if s.2=dA then dA else !aK p.N t.N)
def aX(t:aB)(b:Bool)(a:List aB):List aB×Bool:=a.foldl (qM t) ([],b)
def FY(t:aB)(b:Bool)(a:List aB):List aB:=(aX t b a).1++if (aX t b a).2=dA then [] else [t]
def aAq(t:aB)(b:Bool)(a:List aB)(k:Nat)(h:k<vA a):aX t b (a.take (k+1))=qM t (aX t b (a.take k)) a[k]:=by
 rw[Pa h,aX,Dg];rfl
theorem aHs(t:aB)(c:List aB):∀(a:List aB)(b:Bool),c.foldl (qM t) (a,b)=(a++(c.foldl (qM t) ([],b)).1,(c.foldl (qM t) ([],b)).2):=by induction c<;>grind [qM]
def LW(t p:aB)(r:List aB)(b:Bool):FY t b (p::r)=(qM t ([],b) p).1++FY t (qM t ([],b) p).2 r:=by grind [FY,qM,aX,aHs]
theorem mV{t:aB}{a:List aB}(h:∀p∈a,p.N≠t.N):FY t dA a=a:=by
 induction a with
 |nil=>rfl
 |cons p r d=>
  rw[LW];have b:=cE (h p (Kc ..));simp only[qM,b,Td,Mb];simp[d fun q c=>h q (Sb _ c)]
def aMt{t:aB}{f:List aB}(j:wC (·.N) f):FY t cA f=gC (·.N) t f:=by
 induction f with
 |nil=>rfl
 |cons p r l=>
  have h:=l j.tail;rw[LW,gC];by_cases c:aK p.N t.N=dA
  .have d:=cE (eJ c);simp only[qM,c,d,Td];simp[h]
  have b:aK p.N t.N=cA:=by simpa using c
  have a:∀q∈r,q.N≠t.N:=fun q k e=>by
   have i:=j.head q k;rw[e]at i;exact c i
  by_cases d:p.N=t.N
  .have g:=(jE _ _).2 d;simp only[qM,b,g,Td];simp[mV a]
  have g:=cE d;simp only[qM,b,g];simp[mV a]
def aJv(b a:Int)(c:List aB)(k:Nat)(h:k<vA c):dE b a (c.take (k+1))=dE b a (c.take k)++if aF (bF b a c[k])=dA then [] else [bF b a c[k]]:=by
 rw[Pa h,dE,Ld,Vf];congr 1;by_cases e:aF (bF b a c[k])=dA
 .rw[Ma e];simp[e]
 rw[Ja e];simp[e]
def aRs(b a:Int)(c:List aB)(k:Nat):vA (dE b a (c.take k))<=vA c:=by grind [dE]
def aMu{t:aB}{b:Bool}{c:List aB}{q:aB}(h:q∈FY t b c):q=t\/q∈c:=by
 induction c generalizing b with
 |nil=>
  unfold FY aX at h;simp only[List.foldl_nil,Mb]at h;cases b with
  |true=>cases h
  |false=>exact Ca (by simpa using h)
 |cons p r e=>
  rw[LW,Ee]at h;rcases h with h|h
  .unfold qM at h;simp only[Mb,Ee]at h;rcases h with h|h
   .by_cases d:b=dA
    .rw[Ma d]at h;cases h
    rw[Ja d]at h;by_cases a:aK p.N t.N=dA
    .rw[Ma a]at h;cases h
    rw[Ja a]at h;exact Ca (by simpa using h)
   by_cases a:(p.N.toList==t.N.toList)=dA
   .rw[Ma a]at h;cases h
   rw[Ja a]at h;exact La (by simp at h;simp[h])
  rcases e h with h|h;exact Ca h;exact La (Sb _ h)
def za(k:Nat)(h:k<10):FH (48+UInt8.ofNat k)=dA:=by
 rcases(show k=0\/k=1\/k=2\/k=3\/k=4\/k=5\/k=6\/k=7\/k=8\/k=9 by omega) with rfl|rfl|rfl|rfl|rfl|rfl|rfl|rfl|rfl|rfl<;>decide
def NG(n:Nat):∀i,cL (FM n i)=dA
 |0=>rfl
 |i+1=>by
  have a:=NG n i;simp only[cL,FM,List.all_cons,Sa]at a |-
  exact⟨za _ (by omega),a⟩
def aPw(n:Int)(a:1<=n)(b:n<=999999):jN n=gy n.toNat:=Ma ⟨a,b⟩
theorem LC(n:Int)(b:1<=n)(c:n<=999999):uG (jN n)=dA:=by
 rw[aPw n b c];have e:(gy n.toNat).size=10:=by
  show(119::97::108::45::FM n.toNat 6).toArray.size=10;simp[BA]
 have d:(gy n.toNat).data.toList=119::97::108::45::FM n.toNat 6:=rfl;have a:=NG n.toNat 6;unfold uG;rw[e,d];simp only[cL,List.all_cons]at a |-
 rw[a];decide
def UM{k:Int}{n:Int}{d:gB}{z:Int}(c:1<=k/\k<=4)(a:1<=n)(b:n<=999999):LD ⟨k,jN n,⟨#[]⟩,d,z⟩=dA:=by grind [LD,jN,wB,LC]
structure qV(w0 w:World)(B P D:Nat)(K:mE)(L:kG):Prop where
 pow:oL w0
 below:kB w0 w
 hB:w0.1.size≤B
 hP:w0.1.size≤P
 wr:KH w P D L
 drive:∃v,uC w B D K.fs K.c K.k K.cr K.fl K.dn v
 valid:fF K.fs K.c K.k K.cr K.fl=dA
def qV.z{c w b:eA}{B P D:Nat}{K:mE}{L:kG}(h:qV c w B P D K L)(a:kB w b):qV c b B P D K L:=
 ⟨h.pow,oB h.below a,h.hB,h.hP,h.wr.z a,by obtain⟨v,d⟩:=h.drive;exact⟨v,d.z a⟩,h.valid⟩
def qV.tab{a w:eA}{B P D:Nat}{K:mE}{L:kG}(h:qV a w B P D K L):oL w:=h.pow.z h.below
def qV.set{c w:eA}{B P D:Nat}{K:mE}{L L':kG}(h:qV c w B P D K L)(j:Nat)(x:iA)(n:#[iA.pointer (bA ⟨D,0,aA⟩),lA mA L'.first,lA mA L'.last,lA mA L'.size]=(#[iA.pointer (bA ⟨D,0,aA⟩),lA mA L.first,lA mA L.last,lA mA L.size]:Array iA).setIfInBounds j x):qV c (w.setCell ⟨P,j,aA⟩ x) B P D K L':=by
 refine⟨h.pow,h.below.setCell (by show c.1.size<=P;exact h.hP) _,h.hB,h.hP,?_,?_,h.valid⟩;show iB _ _ _ _;rw[n];exact iB.set h.wr j x;obtain ⟨v,a⟩:=h.drive;refine⟨v,a.from',?_,?_,a.apart⟩;refine (Below.heap_setCell _ _ _ D (fun e=>?_)).trans a.blk;have l:D=P:=e;have d:=a.blk;rw[l]at d;have b:=(show w.heap[P]?=_ from d).symm.trans h.wr;simp at b;refine LJ (S:=fun k=>k=P) a.row ((gE.refl (fun k=>k=P) w).setCell (g:=P) rfl j x) (fun g m e=>?_);obtain⟨i,f⟩:=UN a.row g m;rw[e]at f;have b:=(show w.heap[P]?=_ from f).symm.trans h.wr;simp at b
def ta{K:mE}{a:vK}(h:fF K.fs K.c K.k K.cr K.fl=dA)(b:LD a=dA):
 lE K a=(⟨(mJ K.fs K.c K.k K.cr K.fl K.dn a).2.1,K.c,(mJ K.fs K.c K.k K.cr K.fl K.dn a).2.2.1,K.cr,K.fl,(mJ K.fs K.c K.k K.cr K.fl K.dn a).2.2.2⟩,(mJ K.fs K.c K.k K.cr K.fl K.dn a).1):=by
 unfold lE kR;rw[Ma (by simp[h,b])]
def aUm{r w:eA}{B P D:Nat}{K:mE}{L:kG}(l:vK)(h:qV r w B P D K L)(m:LD l=dA)(z:l.K<=4):
 gA prog 225 #[qA (bA ⟨D,0,aA⟩),rA #[lA mA l.K,nA l.N,nA l.tq,nA l.data,lA mA l.size]] w fun e q=>
  e=sA (gH (lE K l).2)/\(lE K l).2<=6/\qV r q B P D (lE K l).1 L:=by
 obtain⟨v,x⟩:=h.drive;obtain⟨a,b,j,d,f,g,i,_⟩:=xK h.valid;have p:wB l.K 1 6=dA:=by simp only[LD,Sa]at m;exact m.1.1
 rw[ta h.valid m];apply aC (td w B D K.fs K.c K.k K.cr K.fl K.dn v l ⟨x,KI a,b,f,d,g,i⟩ p);rintro q ⟨s,o,y,n,u⟩;have t:=Exists.intro y n;exact⟨rfl,VC _ _ _ _ _ _ _,h.pow,h.below.trans (s.mono h.hB),h.hB,h.hP,(o (by omega)).blk h.wr (by decide) (by decide),t,RJ h.valid m⟩
def xO(K:mE)(L:kG)(f:gB)(a:Int):mE×kG×Nat:=
 if bQ L f.size a=dA then
  if (lE K (tJ (L.last+1))).2≠0 then((lE K (tJ (L.last+1))).1,L,(lE K (tJ (L.last+1))).2)
  else xH (lE K (tJ (L.last+1))).1 ⟨L.first,L.last+1,0⟩ f
 else xH K L f
def eK{x:Nat}(a:¬x=0)(_:x<=6):∃t,gH x=.iface 200 (nA t):=by grind [gH]
def VB{c w:eA}{B P D:Nat}{K b:mE}{L:kG}{x:Nat}(a:vK)(h:qV c w B P D K L)(f:LD a=dA)(d:a.K<=4)(e:lE K a=(b,x)):
 gA prog 225 #[qA (bA ⟨D,0,aA⟩),rA #[lA mA a.K,nA a.N,nA a.tq,nA a.data,lA mA a.size]] w fun e g=>
  e=sA (gH x)/\x<=6/\qV c g B P D b L:=by
 have:=aUm a h f d;rw[e]at this;exact this
def aCw{y w:eA}{B P D:Nat}{K:mE}{L:kG}(f:gB)(a:Int)(h:qV y w B P D K L)(T:iJ L=dA)(hf:f.size<=60008)(M:bQ L f.size a=cA):
 gA prog 249 #[qA (bA ⟨P,0,aA⟩),nA f,lA mA a] w fun e c=>
  e=sA (gH (xO K L f a).2.2)/\(xO K L f a).2.2<=6/\qV y c B P D (xO K L f a).1 (xO K L f a).2.1:=by
 obtain⟨N,O,_,_,W,X⟩:=UE T;have F:xA (xO K L f a=xH K L f):=by show _=_;rw[xO,Ja (by rw[M];simp)]
 have p:xA (dI 288 #[qA (bA ⟨P,0,aA⟩),lA mA (f.size:Int),lA mA a] w (pA cA)):=by
  have:=BP P D L (f.size:Int) a w h.wr ⟨N,O⟩ (by omega);rw[M]at this;exact this
 have z:xA _:=h;clear h T M;obtain⟨s,U,V,S⟩:=z.o.wr.cells;go_enter func249,ntmps249;go_wp2_with fail;apply lK p.o;go_wp2_with fail;apply aC (eR L.last _ z.o.tab);intro Z u;have r:xA _:=z.o.z u;clear u s U V S p z;obtain⟨s,_,_,_⟩:=r.o.wr.cells;obtain⟨⟨J,C⟩,g⟩:∃R,lE K (oI L.last f)=R:=⟨_,rfl⟩
 have q:xA _:=g;have n:xA (gA prog 225 #[qA (bA ⟨D,0,aA⟩),rA #[lA mA 2,nA (jN L.last),nA ⟨#[]⟩,nA f,lA mA 0]] Z fun e c=>e=sA (gH C)/\C<=6/\qV y c B P D J L):=VB (oI L.last f) r.o (UM (by omega) (by omega) (by omega)) (by show(2:Int)<=4;omega) g;clear g;go_wp2_with fail;apply aC n.o;rintro w2 ⟨l,v⟩;have d:xA _:=v;clear v s n;by_cases k:C=0
 .subst k;simp only[gH];obtain⟨s,_,_,_⟩:=d.o.wr.cells;obtain⟨⟨A,E⟩,i⟩:∃R,lE J (yT L.last)=R:=⟨_,rfl⟩
  have G:xA _:=i;have o:xA (gA prog 225 #[qA (bA ⟨D,0,aA⟩),rA #[lA mA 3,nA (jN L.last),nA ⟨#[]⟩,nA ⟨#[]⟩,lA mA 0]] w2 fun e c=>e=sA (gH E)/\E<=6/\qV y c B P D A L):=VB (yT L.last) d.o (UM (by omega) (by omega) (by omega)) (by show(3:Int)<=4;omega) i;clear i l;go_wp2_with fail;apply aC o.o;rintro w3 ⟨l,x⟩;have b:xA _:=x;have Q:xA _:=jX (L:=L) q.o rfl G.o;clear x s o;by_cases k:E=0
  .subst k;simp only[gH];have m:xA (xO K L f a=(A,⟨L.first,L.last,L.size+f.size⟩,0)):=by show _=_;rw[F.o,Q.o,Ja (by simp)]
   have I:xA (qV y (w3.setCell ⟨P,3,aA⟩ (lA mA (L.size+(f.size:Int)))) B P D A ⟨L.first,L.last,L.size+f.size⟩):=b.o.set 3 _ (by simp);obtain⟨_,_,_,S⟩:=b.o.wr.cells;have q3:=iB.free b.o.wr 3;have Y:IntKind.i64.wrap (L.size+(f.size:Int))=L.size+(f.size:Int):=by rw[IntKind.wrap_i64];omega
   go_wp2;go_ret;rw[m.o];exact⟨rfl,by omega,I.o⟩
  obtain ⟨t,j⟩:=eK k l;have m:xA (xO K L f a=(A,L,E)):=by show _=_;rw[F.o,Q.o,Ma k]
  have H:xA _:=j;rw[j];clear j;go_wp2;go_ret;rw[m.o];exact⟨by rw[H.o];rfl,l,b.o⟩
 obtain ⟨t,j⟩:=eK k l;have m:xA (xO K L f a=(J,L,C)):=by show _=_;rw[F.o,iX (L:=L) q.o k]
 have H:xA _:=j;rw[j];clear j;go_wp2;go_ret;rw[m.o];exact⟨by rw[H.o];rfl,l,d.o⟩
def aIf{g w:eA}{B P D:Nat}{K:mE}{L:kG}(f:gB)(a:Int)(h:qV g w B P D K L)(hl:iJ L=dA)(hf:f.size<=60008)(hn:bQ L f.size a=dA)(h9:L.last≠999999):
 gA prog 249 #[qA (bA ⟨P,0,aA⟩),nA f,lA mA a] w fun e d=>
  e=sA (gH (xO K L f a).2.2)/\(xO K L f a).2.2<=6/\qV g d B P D (xO K L f a).1 (xO K L f a).2.1:=by
 obtain⟨hs0,hs1,_,_,hl1,hl2⟩:=UE hl;have F:xA (dI 288 #[qA (bA ⟨P,0,aA⟩),lA mA (f.size:Int),lA mA a] w (pA dA)):=by
  have:=BP P D L (f.size:Int) a w h.wr ⟨hs0,hs1⟩ (by omega);rw[hn]at this;exact this
 obtain⟨⟨j,y⟩,q⟩:∃R,lE K (tJ (L.last+1))=R:=⟨_,rfl⟩
 have E0:xA (xO K L f a=if y≠0 then(j,L,y) else xH j ⟨L.first,L.last+1,0⟩ f):=by show _=_;rw[xO,Ma hn,q]
 have A:xA (∀W,qV g W B P D K L->gA prog 225 #[qA (bA ⟨D,0,aA⟩),rA #[lA mA 1,nA (jN (L.last+1)),nA ⟨#[]⟩,nA ⟨#[]⟩,lA mA 0]] W fun e d=>e=sA (gH y)/\y<=6/\qV g d B P D j L):=fun W hW=>VB (tJ (L.last+1)) hW (UM (by omega) (by omega) (by omega)) (by show(1:Int)<=4;omega) q;have I:xA _:=h;have hwl:IntKind.i64.wrap (L.last+1)=L.last+1:=by rw[IntKind.wrap_i64];omega
 clear h hl hn q;obtain⟨M,c1,c2,V⟩:=I.o.wr.cells;have U:xA (∀W K',qV g W B P D K' L->cC W P 0 (qA (bA ⟨D,0,aA⟩))/\cC W P 2 (lA mA L.last)):=fun W K' h=>⟨h.wr.cells.1,h.wr.cells.2.2.1⟩
 go_enter func249,ntmps249;go_wp2_with fail;apply lK F.o;go_wp2_with fail;go_region_held3 (fun d=>cC d P 0 (qA (bA ⟨D,0,aA⟩))/\cC d P 2 (lA mA L.last))
  (first|exact U.o _ _ c.o|exact U.o _ _ p.o|exact U.o _ _ (I.o.z eD.drew))
  (first
  |(go_at_call 224;apply aC (eR (L.last+1) _ (I.o.z eD.drew).tab);intro w7 N;have p:xA (qV g w7 B P D K L):=(I.o.z eD.drew).z N)
  |(go_at_call 225;apply aC (A.o _ p.o);rintro w8 ⟨m,T⟩;have c:xA (qV g w8 B P D j L):=T))
 clear M c1 c2 V U A F I p N T;by_cases v:y=0
 .subst v;simp only[gH];have Y:xA (xO K L f a=xH j ⟨L.first,L.last+1,0⟩ f):=by show _=_;rw[E0.o,Ja (by simp)]
  obtain⟨_,_,c2,V⟩:=c.o.wr.cells;have q2:=iB.free c.o.wr 2;have l:xA (qV g (w8.setCell ⟨P,2,aA⟩ (lA mA (L.last+1))) B P D j ⟨L.first,L.last+1,L.size⟩):=c.o.set 2 _ (by simp);have c3':=l.o.wr.cells.2.2.2;have q3:=iB.free l.o.wr 3;have b:xA (qV g ((w8.setCell ⟨P,2,aA⟩ (lA mA (L.last+1))).setCell ⟨P,3,aA⟩ (lA mA 0)) B P D j ⟨L.first,L.last+1,0⟩):=l.o.set 3 _ (by simp);have c2':=b.o.wr.cells.2.2.1;go_wp2_with fail;apply aC (eR (L.last+1) _ b.o.tab);intro w9 O;have J:xA _:=b.o.z O;clear O b l c c2 V c3' q2 q3 c2';obtain⟨M,_,_,_⟩:=J.o.wr.cells;obtain⟨⟨K1,X⟩,r⟩:∃R,lE j (oI (L.last+1) f)=R:=⟨_,rfl⟩
  have G:xA _:=r;have C:xA (gA prog 225 #[qA (bA ⟨D,0,aA⟩),rA #[lA mA 2,nA (jN (L.last+1)),nA ⟨#[]⟩,nA f,lA mA 0]] w9 fun e d=>e=sA (gH X)/\X<=6/\qV g d B P D K1 ⟨L.first,L.last+1,0⟩):=VB (oI (L.last+1) f) J.o (UM (by omega) (by omega) (by omega)) (by show(2:Int)<=4;omega) r;clear r;go_wp2_with fail;apply aC C.o;rintro w2 ⟨m,Q⟩;have o:xA _:=Q;clear Q M C;by_cases u:X=0
  .subst u;simp only[gH];obtain⟨M,_,_,_⟩:=o.o.wr.cells;obtain⟨⟨x,z⟩,s⟩:∃R,lE K1 (yT (L.last+1))=R:=⟨_,rfl⟩
   have Z:xA _:=s;have E:xA (gA prog 225 #[qA (bA ⟨D,0,aA⟩),rA #[lA mA 3,nA (jN (L.last+1)),nA ⟨#[]⟩,nA ⟨#[]⟩,lA mA 0]] w2 fun e d=>e=sA (gH z)/\z<=6/\qV g d B P D x ⟨L.first,L.last+1,0⟩):=VB (yT (L.last+1)) o.o (UM (by omega) (by omega) (by omega)) (by show(3:Int)<=4;omega) s;clear s m;go_wp2_with fail;apply aC E.o;rintro w3 ⟨m,S⟩;have k:xA _:=S;have EA:xA (xH j ⟨L.first,L.last+1,0⟩ f=if z≠0 then(x,⟨L.first,L.last+1,0⟩,z) else(x,⟨L.first,(L.last+1),0+f.size⟩,0)):=jX (L:=⟨L.first,L.last+1,0⟩) G.o rfl Z.o;clear S M E;by_cases u:z=0
   .subst u;simp only[gH];have n:xA (xO K L f a=(x,⟨L.first,(L.last+1),0+f.size⟩,0)):=by show _=_;rw[Y.o,EA.o,Ja (by simp)]
    have a0:xA (qV g (w3.setCell ⟨P,3,aA⟩ (lA mA (f.size:Int))) B P D x ⟨L.first,(L.last+1),0+f.size⟩):=k.o.set 3 _ (by simp);obtain⟨_,_,_,V⟩:=k.o.wr.cells;have q3:=iB.free k.o.wr 3;have hwz:IntKind.i64.wrap ((0:Int)+(f.size:Int))=(0:Int)+(f.size:Int):=by rw[IntKind.wrap_i64];omega
    go_wp2;go_ret;rw[n.o];exact⟨rfl,by omega,a0.o⟩
   obtain ⟨t,i⟩:=eK u m;have n:xA (xO K L f a=(x,⟨L.first,L.last+1,0⟩,z)):=by show _=_;rw[Y.o,EA.o,Ma u]
   have H:xA _:=i;rw[i];clear i;go_wp2;go_ret;rw[n.o];exact⟨by rw[H.o];rfl,m,k.o⟩
  obtain ⟨t,i⟩:=eK u m;have n:xA (xO K L f a=(K1,⟨L.first,L.last+1,0⟩,X)):=by show _=_;rw[Y.o,iX (L:=⟨L.first,L.last+1,0⟩) G.o u]
  have H:xA _:=i;rw[i];clear i;go_wp2;go_ret;rw[n.o];exact⟨by rw[H.o];rfl,m,o.o⟩
 obtain ⟨t,i⟩:=eK v m;have n:xA (xO K L f a=(j,L,y)):=by show _=_;rw[E0.o,Ma v]
 have H:xA _:=i;rw[i];clear i;go_wp2;go_ret;rw[n.o];exact⟨by rw[H.o];rfl,m,c.o⟩
def KE(D:mE)(g:vK)(b:mE)(f:Nat):Prop:=
 ∀a h W,eB W a D.fs->gA prog 70 #[rA #[oA a (vA D.fs) h,lA mA D.c,lA mA D.k,lA mA D.cr,lA mA D.fl,pA D.dn],rA #[lA mA g.K,nA g.N,nA g.tq,nA g.data,lA mA g.size]] W fun e j=>
  ∃i d,e=sA (.tuple #[rA #[oA i (vA b.fs) d,lA mA b.c,lA mA b.k,lA mA b.cr,lA mA b.fl,pA b.dn],lA mA f])/\eB j i b.fs/\kB W j
theorem aMi{D:mE}{b:vK}(h:CO D.fs)(g:b.N.size<=maxLen)(i:b.tq.size<=maxLen)(e:b.data.size<=200000000):KE D b (lE D b).1 (lE D b).2:=fun a d W f=>
 ij W a d D.fs D.c D.k D.cr D.fl D.dn b ⟨f,h.H,h.len,h.sum,g,i,e⟩
theorem LZ{w:eA}{a:iC}{d:List cB}{P:Nat}{cs:Array iA}{t:jA}(h:eB w a d)(l:iB w P cs t)(k:∀(j:Nat)(s:gB),cs[j]?≠bA (iA.string s)):GC a d P:=by
 rcases h with h|⟨b,o,e,_,h⟩;exact Ca h
 by_cases c:d=[]
 .exact Ca c
 refine La ⟨b,o,e,fun g=>?_⟩;subst g;have i:0<vA d:=Tg.2 c;have f:=(h 0 i).1;rw[l.cell]at f;exact k _ _ f
def gX{w:eA}{a:iC}{c:List cB}{P:Nat}{x:iC}{n d:Nat}{e f g i:Int}{j k l m:IntKind}{b:Bool}{t:jA}(h:eB w a c)(o:iB w P #[oA x n d,.int j e,.int k f,.int l g,.int m i,pA b] t):GC a c P:=by grind [eB,iB,GC,LZ]
def XN{w:eA}{a:iC}{b:List cB}{P:Nat}{c d e:Int}{f g i:IntKind}{t:jA}(h:eB w a b)(j:iB w P #[.int f c,.int g d,.int i e] t):GC a b P:=by grind [eB,iB,GC,LZ]
def iB.three{w:eA}{b:Nat}{a c d:iA}{t:jA}(h:iB w b #[a,c,d] t):w.cell? ⟨b,0,aA⟩=bA a/\w.cell? ⟨b,1,aA⟩=bA c/\w.cell? ⟨b,2,aA⟩=bA d:=by
 simp[h.cell]
def YP{w a:eA}{x y z u:Array iA}{tx ty tz tu:jA}(b:Below ((((w.alloc (tA x tx)).alloc (tA y ty)).alloc (tA z tz)).alloc (tA u tu)).1.size ((((w.alloc (tA x tx)).alloc (tA y ty)).alloc (tA z tz)).alloc (tA u tu)) a):
 iB a w.1.size x tx/\iB a (w.1.size+1) y ty/\iB a (w.1.size+1+1) z tz/\iB a (w.1.size+1+1+1) u tu/\kB w a:=by
 refine⟨?_,?_,?_,?_,oB (oB (oB (oB vB vB) vB) vB) b⟩;exact ((((lX w x tx).z vB).z vB).z vB).z b;have h:=(((lX (w.alloc (tA x tx)) y ty).z (yG _ (tA z tz))).z (yG _ (tA u tu))).z b;simpa using h;have h:=((lX ((w.alloc (tA x tx)).alloc (tA y ty)) z tz).z (yG _ (tA u tu))).z b;simpa using h;have h:=(lX (((w.alloc (tA x tx)).alloc (tA y ty)).alloc (tA z tz)) u tu).z b;simpa using h
def aLb{b:Int}{text:gB}(g:0<=b)(h:b<999999):∀c∈AD b text,LD c=dA:=by
 have d:uG wY=dA:=by decide
 have e:uG ckN=dA:=by decide
 have f:uG (jN (b+1))=dA:=LC _ (by omega) (by omega);intro c a;simp only[AD,Lb,Ed,Bf]at a;rcases a with a|a|a|a|a<;>(subst a;simp[LD,wB,d,e,f])
def aPd:LD ZR=dA:=by
 have a:uG wY=dA:=by decide
 simp[LD,ZR,wB,a]
def aPc{n:Int}(a:1<=n)(b:n<=999999):LD (JB n)=dA:=by grind [LD,JB,uG,jN,wB,LC]
def aUv{L:kG}(h:iJ L=dA):0<=L.size/\L.size<=1000000000/\1<=L.first/\L.first<=L.last/\1<=L.last/\L.last<=999999:=by
 simp only[iJ,wB,Sa,Ab]at h;omega
def aMh{s w:eA}{B P D:Nat}{K:mE}{L:kG}(l:vK)(h:qV s w B P D K L)(o:LD l=dA):
 gA prog 225 #[qA (bA ⟨D,0,aA⟩),rA #[lA mA l.K,nA l.N,nA l.tq,nA l.data,lA mA l.size]] w fun e q=>
  e=sA (gH (lE K l).2)/\qV s q B P D (lE K l).1 L/\mL w q:=by
 obtain⟨v,u⟩:=h.drive;obtain⟨a,b,j,d,f,g,i,_⟩:=xK h.valid;have m:wB l.K 1 6=dA:=by simp only[LD,Sa]at o;exact o.1.1
 have r:l.K<=6:=by simp only[wB,Sa,Ab]at m;exact m.2
 rw[ta h.valid o];apply aC (td w B D K.fs K.c K.k K.cr K.fl K.dn v l ⟨u,KI a,b,f,d,g,i⟩ m);rintro q ⟨t,n,x,p,_⟩;exact⟨rfl,⟨h.pow,h.below.trans (t.mono h.hB),h.hB,h.hP,(n r).blk h.wr (by decide) (by decide),⟨x,p⟩,RJ h.valid o⟩,n r⟩
section
variable {w W W':eA} {P Q:Nat} {a a':iC} {cap cap':Nat} {fs fs':List cB} {c k cr fl c' k' cr' fl':Int} {dn dn':Bool} {lf ll ls:Int}
theorem xc{S:Nat->Prop}(h:eB W a fs)(f:bB S W W')(m:∀b o,a=bA ⟨b,o,aA⟩->S b->fs=[]):eB W' a fs:=by
 rcases h with h|⟨b,o,rfl,d,h⟩;exact Ca h
 by_cases e:S b
 .exact Ca (m b o rfl e)
 have l:∀j,W'.cell? ⟨b,j,aA⟩=W.cell? ⟨b,j,aA⟩:=fun j=>eA.cell?_of_block (f.block b d e);exact La ⟨b,o,rfl,by have:=f.size;omega,fun i g=>by simp only[l];exact h i g⟩
theorem kg(h:GC a fs P){b o:Nat}(e:a=bA ⟨b,o,aA⟩)(d:b=P):fs=[]:=by grind [GC]
def PX(b:eA)(P:Nat)(fs:List cB)(c k cr fl:Int)(dn:Bool)(d:eA):Prop:=∃a cap,b.1.size<=P/\iB d P #[oA a (vA fs) cap,lA mA c,lA mA k,lA mA cr,lA mA fl,pA dn] 37/\eB d a fs/\kB b d
theorem aPx{B P:Nat}{d e f g i j:iA}(h:Below B w W)(b:B<=P):Below B w ((((((W.setCell ⟨P,0,aA⟩ d).setCell ⟨P,1,aA⟩ e).setCell ⟨P,2,aA⟩ f).setCell ⟨P,3,aA⟩ g).setCell ⟨P,4,aA⟩ i).setCell ⟨P,5,aA⟩ j):=(((((h.setCell b _).setCell b _).setCell b _).setCell b _).setCell b _).setCell b _
theorem aLo{b:eA}(e:eB W a fs)(d:kB b W):PX b W.1.size fs c k cr fl dn (W.alloc (tA #[oA a (vA fs) cap,lA mA c,lA mA k,lA mA cr,lA mA fl,pA dn] 37)):=⟨a,cap,d.size,lX _ _ _,e.z vB,oB d vB⟩
theorem aLp{b:eA}(f:eB W a fs)(d:kB b W)(h:b.1.size<=P)(g:iB W P #[oA aA 0 0,lA mA 0,lA mA 0,lA mA 0,lA mA 0,pA cA] 37):PX b P fs c k cr fl dn ((((((W.setCell ⟨P,0,aA⟩ (oA a (vA fs) cap)).setCell ⟨P,1,aA⟩ (lA mA c)).setCell ⟨P,2,aA⟩ (lA mA k)).setCell ⟨P,3,aA⟩ (lA mA cr)).setCell ⟨P,4,aA⟩ (lA mA fl)).setCell ⟨P,5,aA⟩ (pA dn)):=
 ⟨a,cap,h,GI g,f.apart (ux f g) (nK _ _ _ _ _ _),d.trans ((bB.but (nK _ _ _ _ _ _)).below d.size fun i j e=>by omega)⟩
theorem ir{D:mE}{op:vK}(h:CO D.fs)(d:op.N.size<=maxLen)(e:op.tq.size<=maxLen)(b:op.data.size<=1048576):∃fs c k cr fl dn x,lE D op=(⟨fs,c,k,cr,fl,dn⟩,x)/\CO fs/\KE D op ⟨fs,c,k,cr,fl,dn⟩ x:=by grind [lE,KE,AA,aMi]
end
