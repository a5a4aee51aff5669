import Derived.Test.YtbfnhppoecdnoaaGreatDoorJ40
import Derived.Test.YtbfnhppoecdnoaaGreatDoorJ39
import Derived.Test.YtbfnhppoecdnoaaGreatDoorJ37
set_option maxRecDepth 100000
set_option maxHeartbeats 8000000
set_option linter.defProp false
open Option renaming some->bA,none->aA
open Bool renaming false->cA,true->dA
open List renaming length->vA
namespace Go.Proofs.YtbfnhppoecdnoaaGreatDoor
open Go renaming World->eA,Value->iA,TypeId->jA,Calls->gA
open Ending renaming returned->sA
open Value renaming tuple->uA,agg->rA,int->lA,pointer->qA,slice->oA,string->nA,bool->pA
open IntKind renaming i64->mA
open Obj renaming cells->tA
open Go.RowKit Tryz
def FN(w:eA)(N:oC)(cs:Array iA):Prop:=∃a c b e,cs=dC a c b e N/\eB w a N.d.fs/\nC w b N.ts
def AN(w:eA)(A:Nat->Prop)(N:oC)(cs:Array iA):Prop:=∃a c b d,cs=dC a c b d N/\iI w A a b N
def HN(w:eA)(N:oC)(cs:Array iA):Prop:=∃a c b e,cs=dC a c b e N/\eB w a (zR 1 (vA N.d.fs))/\nC w b (jH (1+3*vA N.d.fs) N.ts)
section
variable {w w':eA} {N:oC} {cs:Array iA} {A S:Nat→Prop}
theorem AN.fn(h:AN w A N cs):FN w N cs:=by
 obtain⟨a,c,b,d,e,h⟩:=h;exact⟨a,c,b,d,e,h.files,h.tens⟩
theorem FN.z(h:FN w N cs)(c:kB w w'):FN w' N cs:=by
 obtain⟨a,d,b,f,e,g,i⟩:=h;exact⟨a,d,b,f,e,g.z c,i.z c⟩
theorem FN.store{X:Nat}{g:Array iA}{T:jA}(h:FN w N cs)(f:iB w X g T)(c:∀(j:Nat)(s:gB),g[j]?≠bA (iA.string s))(d:bB (·=X) w w'):FN w' N cs:=by
 obtain⟨a,i,b,k,e,l,m⟩:=h;exact⟨a,i,b,k,e,l.store f c d,m.store f c d⟩
theorem AN.turned(h:AN w A N cs)(i:bB S w w')(f:∀g,A g->g<w.1.size->¬S g):AN w' A N cs:=by
 obtain⟨a,c,b,d,e,h⟩:=h;exact⟨a,c,b,d,e,h.turned i f⟩
theorem AN.z(h:AN w A N cs)(a:kB w w'):AN w' A N cs:=h.turned (bB.of (S:=fun _=>False) a) fun _ _ _ e=>e
theorem FN.c14(h:FN w N cs):C14 cs:=by
 obtain⟨a,c,b,d,rfl,-⟩:=h;exact tH _ _ _ _ _
theorem FN.r(h:FN w N cs)(T:jA):∃g i j k l m n o p q c d e f,#[g,i,j,k,l,m,n,o,p,q,c,d,e,f]=cs/\∀W X,iB W X cs T->W.cell? ⟨X,0,aA⟩=bA g/\W.cell? ⟨X,1,aA⟩=bA i/\W.cell? ⟨X,2,aA⟩=bA j/\W.cell? ⟨X,3,aA⟩=bA k/\W.cell? ⟨X,4,aA⟩=bA l/\W.cell? ⟨X,5,aA⟩=bA m/\W.cell? ⟨X,6,aA⟩=bA n/\W.cell? ⟨X,7,aA⟩=bA o/\W.cell? ⟨X,8,aA⟩=bA p/\W.cell? ⟨X,9,aA⟩=bA q/\W.cell? ⟨X,10,aA⟩=bA c/\W.cell? ⟨X,11,aA⟩=bA d/\W.cell? ⟨X,12,aA⟩=bA e/\W.cell? ⟨X,13,aA⟩=bA f:=by
 obtain⟨a,s,b,t,rfl,-⟩:=h;exact⟨_,_,_,_,_,_,_,_,_,_,_,_,_,_,rfl,fun _ _ h=>h.n14⟩
end
def SaV(M:oC)(x:iA)(w:eA)(e:Ending)(c:eA):Prop:=
 ∃a f b g,e=sA (uA #[rA (dC a f b g M),x])/\eB c a M.d.fs/\nC c b M.ts/\kB w c
def aAs(V:oC×Int)(w:eA)(e:Ending)(a:eA):Prop:=SaV V.1 (lA mA V.2) w e a
def aMk{b:Func}{a:Act}{W:eA}{R i j:Nat}{cs:Array iA}{T:jA}{x:iA}(h:b.results=#[.cell i 43,.tmp j])(c:a.tmps.getD i undef=qA (bA ⟨R,0,aA⟩))(d:a.tmps.getD j undef=x)(e:iB W R cs T)(f:C14 cs):(results b a.tmps).run prog W=.ok (uA #[rA cs,x]) W:=by
 have:=run_loadVar_row (P:=prog) W R T 43 cs (0,0) _ e underlying43 rfl (by rw[aFb,f.size]);simp at c d;simp[results,h,c,d,asAddr,this]
def iV{l:Func}{t:Act}{w W:eA}{R i j:Nat}{cs:Array iA}{T:jA}{M:oC}{x:iA}{a b:iC}{f g:Nat}(h:l.results=#[.cell i 43,.tmp j])(o:t.tmps.getD i undef=qA (bA ⟨R,0,aA⟩))(p:t.tmps.getD j undef=x)(u:t.defers=[])(c:iB W R cs T)(n:∀(j:Nat)(s:gB),cs[j]?≠bA (iA.string s))(z:w.1.size<=R)(m:kB w W)(q:eB W a M.d.fs)(r:nC W b M.ts):bodyPost prog l (fun e v=>SaV M x w e v) .ret t (W.setRow R (dC a f b g M)):=
 bodyPost_ret (aMk h o p c.row (tH _ _ _ _ _)) u ⟨a,f,b,g,rfl,q.store c n (sI _ _ _),r.store c n (sI _ _ _),m.trans ((sI _ _ _).below m.size fun k y e=>by omega)⟩
def pY{g:Func}{t:Act}{w W:eA}{i j:Nat}{c:lC}{cs:Array iA}{V:oC×Int}{M:oC}{f:Int}{a b:iC}{ca cb:Nat}(h:g.results=#[.cell i 43,.tmp j])(k:t.tmps.getD i undef=qA (bA ⟨w.1.size+1+1,0,aA⟩))(l:t.tmps.getD j undef=lA mA f)(o:t.defers=[])(P:NP w W c cs)(E:V=(M,f))(m:eB W a M.d.fs)(n:nC W b M.ts):bodyPost prog g (fun e p=>aAs V w e p) .ret t (W.setRow (w.1.size+1+1) (dC a ca b cb M)):=by
 subst E;exact iV h k l o P.R (bH _ _ _ _ _) (by omega) P.B m n
def aUo{N:oC}{b:Bool}(h:upB N=b):b=cA/\N.up=cA\/b=cA/\N.up=dA/\N.deg=dA\/b=dA/\N.up=dA/\N.deg=cA:=by
 subst h;unfold upB;cases N.up<;>cases N.deg<;>simp
section
open Go.Maps
attribute [local go_sem] zG tH iB.drewI
def UY{D l:Nat}{r:xG}{n a b a' b':iC}{sc v y ca' cb':Nat}{c:lC}{N M:oC}{x:Int}{w:eA}(h:iB w D (OK r n sc c a v b y N l) 98):
 gA prog 138 #[qA (bA ⟨D,0,aA⟩),rA (dC a' ca' b' cb' M),lA mA x] w fun e o=>e=sA (lA mA (oS M x))/\iB o D (OK r n sc c a' ca' b' cb' M l) 98/\bB (·=D) w o:=by
 have q:=yA (aSx M x);have A:=tF a' ca' b' cb' M 43;have B:=yA (bB.of (S:=(·=D)) (yG w (tA (dC a' ca' b' cb' M) 43)));have H:=yA (h.alloc (tA (dC a' ca' b' cb' M) 43));have X:=yA (iB.new w (dC a' ca' b' cb' M) 43);have G:=zA h;generalize oS M x=V at *;clear h;go_enter func138,ntmps138;go_upto_region 1 with fail;generalize w.alloc (tA (dC a' ca' b' cb' M) 43)=W at *;have F:=fI H.o;have E:=fun j=>H.o.free j;have p:=X.o;go_upto_region 2 with fail;refine aNp (C:=fun W=>Code.wp prog _ _ _ W) H.o ?_;intro s k d;have I:iB s w.1.size (dC a' ca' b' cb' M) 43:=d.blk p (by omega);have z:=yA (Vc k (B.o.trans' d));clear F E p k d H X B;rcases q.o with⟨t,rfl⟩|⟨t,⟨f|⟨f,g|⟨g,i|⟨i,u⟩⟩⟩,rfl⟩|⟨f,g,i,u,⟨m,rfl⟩|⟨m,rfl⟩⟩⟩
 all_goals
  (try rw[m]at A);go_wp2;go_ret;exact⟨rfl,z.o⟩
end
def FJ{k:eA}{B g n o:Nat}{e:jA}{f:List TV}(h:k.ownsRow B e 4 (oA (bA ⟨g,0,aA⟩) n o) n (dF f))(x:vA f=n):
 ∀i(v:i<vA f),k.cell? ⟨g,i*4,aA⟩=bA (nA f[i].t.N)/\k.cell? ⟨g,i*4+1,aA⟩=bA (lA mA f[i].t.L)/\k.cell? ⟨g,i*4+2,aA⟩=bA (.slice f[i].a1 (vA f[i].t.M) f[i].c1)/\k.cell? ⟨g,i*4+3,aA⟩=bA (.slice f[i].a2 (vA f[i].t.Z) f[i].c2)/\k.frozen? ⟨g,i*4+2,aA⟩=cA/\k.frozen? ⟨g,i*4+3,aA⟩=cA:=by
 intro i v;rcases h.2 with⟨m,_⟩|⟨z,s,p,m,A,u,_,_,y,r⟩
 .cases m
 simp only[iA.slice.injEq,Qa,Addr.mk.injEq,Cc]at m;rw[<-m.1]at u;have q:iB k g p e:=u;obtain⟨a,b,c,d⟩:=YO f i v;have l:∀j,j<vA f*4->k.cell? ⟨g,j,aA⟩=(dF f)[j]?:=fun j w=>by
  rw[q.cell j,<-Yd,<-r,Jb (by rw[<-x];exact w)]
 refine⟨?_,?_,?_,?_,q.free _,q.free _⟩;rw[l _ (by omega)];exact a;rw[l _ (by omega)];exact b;rw[l _ (by omega)];exact c;rw[l _ (by omega)];exact d
def aa{w:eA}{B n size:Nat}{e:jA}{v:iA}{i:List iA}(h:w.ownsRow B e size v n i):∃a c,v=oA a n c:=by
 rcases h.2 with⟨b,f⟩|⟨g,d,_,b,_⟩;exact ⟨aA,0,by rw[b,f]⟩;exact ⟨_,_,b⟩
def ae{w:eA}{B c:Nat}{e:jA}{size:Nat}{v:iA}{n:Nat}{d:List iA}(h:w.ownsRow B e size v n d)(f:c<=B):w.ownsRow c e size v n d:=
 ⟨h.1,h.2.imp id (fun⟨g,a,b,e,i,r⟩=>⟨g,a,b,e,Ua f i,r⟩)⟩
def aFz(l:List TV)(k:Nat)(d:k<vA l)(Y:TV)(a:Y.t=l[k].t):(l.set k Y).map (·.t)=l.map (·.t):=by
 refine List.ext_getElem (by simp) (fun i b c=>?_);simp only[List.getElem_map,List.getElem_set];split
 .rename_i e;subst e;exact a
 rfl
def DB(o:Int)(a:iC)(p:Nat)(n:List aB)(w:eA)(hf:nC w a n)(hlen:vA n<=2000000)(P:∀t∈n,vA t.M<=2000000/\vA t.Z<=2000000):
 gA prog 75 #[rA #[lA mA o,oA a (vA n) p]] w fun e F=>∃a' cap',e=sA (rA #[lA mA o,oA a' (vA n) cap'])/\vC F w.1.size a' n/\kB w F:=by
 have HCL:xA _:=fun W M=>vp a p n w W hf M hlen;have HFT:=yA P;clear hf P;have B0:xA (kB w ((w.alloc (tA #[lA mA o,oA a (vA n) p] 41)).alloc (tA #[lA mA 0,oA aA 0 0] 41))):=oB vB vB;have P0:xA (iB ((w.alloc (tA #[lA mA o,oA a (vA n) p] 41)).alloc (tA #[lA mA 0,oA aA 0 0] 41)) w.1.size #[lA mA o,oA a (vA n) p] 41):=(iB.new _ _ _).alloc _;have Q0:xA _:=yA (by have:=iB.new (w.alloc (tA #[lA mA o,oA a (vA n) p] 41)) #[lA mA 0,oA aA 0 0] 41;simpa using this);have hs0:w.1.size+1<((w.alloc (tA #[lA mA o,oA a (vA n) p] 41)).alloc (tA #[lA mA 0,oA aA 0 0] 41)).1.size:=by simp
 go_enter func75,ntmps75;go_wp2_with fail;refine(HCL.o _ B0.o).mono ?_;rintro e x ⟨v,E,rfl,ho1,hys,R,A⟩;have P1:xA (iB x w.1.size #[lA mA o,oA a (vA n) p] 41):=P0.o.z A;have Q1:xA (iB x (w.1.size+1) #[lA mA 0,oA aA 0 0] 41):=Q0.o.z A;have H:xA _:=oB B0.o A;have O1:=yA ho1;have Z:=yA hys;have HOL:=yA R;have y0:cC x w.1.size 1 (oA a (vA n) p):=P1.o.cell 1;have fy:=P1.o.free 1;have hs1:=A.size;clear ho1 hys R A P0 Q0 B0 HCL;generalize ((w.alloc (tA #[lA mA o,oA a (vA n) p] 41)).alloc (tA #[lA mA 0,oA aA 0 0] 41))=U at *;have TP:xA (bB (·=w.1.size) x (x.setCell ⟨w.1.size,1,aA⟩ v)):=(bB.refl (·=w.1.size) x).setCell (Ca rfl) 1 _;have P2:xA _:=yA (by have:=P1.o.set 1 v;simpa using this);have Q2:xA (iB (x.setCell ⟨w.1.size,1,aA⟩ v) (w.1.size+1) #[lA mA 0,oA aA 0 0] 41):=TP.o.blk Q1.o (by omega);have V:xA _:=H.o.trans (TP.o.below (by have:=H.o.size;omega) fun i hi e=>by omega);have O2:xA ((x.setCell ⟨w.1.size,1,aA⟩ v).ownsRow U.1.size 85 4 v (vA n) (dF E)):=TP.o.row O1.o (fun q hq e=>by have:=(O1.o.lt q hq).1;omega);rcases O1.o.2 with⟨hv,hn0⟩|⟨g,s,cur,hv,hBg,_⟩
 .subst hv;have hts:=Nb.1 hn0;have x1:(x.setCell ⟨w.1.size,1,aA⟩ (oA aA 0 0)).cell? ⟨w.1.size,1,aA⟩=bA (oA aA 0 0):=P2.o.cell 1;subst hts;go_wp2;clear y0 fy x1 TP P1 Q1 H O1 O2;generalize (x.setCell ⟨w.1.size,1,aA⟩ (oA aA 0 0))=G at *;go_loopw [12] (fun i wr=>i=lA mA 0/\G=wr) (fun _ _=>0)
  case atStart=>exact⟨rfl,rfl⟩
  case round=>
   obtain⟨rfl,hw⟩:=hrel;subst hw;have z:=Q2;have O:=P2;have BW:=V;have z0:cC G (w.1.size+1) 0 (lA mA 0):=z.o.cell 0;have z1:cC G (w.1.size+1) 1 (oA aA 0 0):=z.o.cell 1;have fz0:=z.o.free 0;have fz1:=z.o.free 1;have s0:cC G w.1.size 0 (lA mA o):=O.o.cell 0;have s1:cC G w.1.size 1 (oA aA 0 0):=O.o.cell 1;go_wp2;have I:bB (·=w.1.size+1) G ((G.setCell ⟨w.1.size+1,0,aA⟩ (lA mA o)).setCell ⟨w.1.size+1,1,aA⟩ (oA aA 0 0)):=((bB.refl (·=w.1.size+1) G).setCell (Ca rfl) 0 _).setCell (Ca rfl) 1 _;refine bodyPost_ret (v:=rA #[lA mA o,oA aA 0 0]) (by simp[results,results75,go_sem,z0,z1]) rfl ?_;have ho:vC ((G.setCell ⟨w.1.size+1,0,aA⟩ (lA mA o)).setCell ⟨w.1.size+1,1,aA⟩ (oA aA 0 0)) w.1.size aA []:=Ca rfl;have D:=((bB.of (S:=fun i=>w.1.size<=i) BW.o).trans' (I.mono fun i _ e=>by omega)).below (Ia _) fun i hi h=>by omega
   first
    |exact⟨aA,⟨0,rfl⟩,ho,D⟩
    |exact⟨aA,0,rfl,ho,D⟩
 subst hv;have x1:(x.setCell ⟨w.1.size,1,aA⟩ (oA (bA ⟨g,0,aA⟩) (vA n) s)).cell? ⟨w.1.size,1,aA⟩=bA (oA (bA ⟨g,0,aA⟩) (vA n) s):=P2.o.cell 1;have HC0:xA (CpR w (x.setCell ⟨w.1.size,1,aA⟩ (oA (bA ⟨g,0,aA⟩) (vA n) s)) U.1.size g (vA n) s (fun _=>0) E 0 cA):=by
  have hyl:vA E=vA n:=by rw[<-Z.o,Xa]
  refine yA { row:=O2.o,len:=hyl,tg:=rfl,own:=fun i _ h=>absurd h (by omega),half:=fun h=>(by cases h),old:=fun i hi _=>?_};obtain⟨p1,p2⟩:=HOL.o E[i] (Gb hi);exact⟨p2,fun _=>p1⟩
 go_wp2;clear y0 fy x1 TP P1 Q1 H O1 O2 HOL;have hs2:U.1.size<=(x.setCell ⟨w.1.size,1,aA⟩ (oA (bA ⟨g,0,aA⟩) (vA n) s)).1.size:=by simp;exact hs1
 generalize (x.setCell ⟨w.1.size,1,aA⟩ (oA (bA ⟨g,0,aA⟩) (vA n) s))=G at *;go_loopw [12] (fun i wr=>∃(k:Nat)(T:Nat->Nat)(m:List TV),k<=vA n/\i=lA mA k/\xA (CpR w wr U.1.size g (vA n) s T m k cA)/\xA (m.map (·.t)=n)/\xA (iB wr w.1.size #[lA mA o,oA (bA ⟨g,0,aA⟩) (vA n) s] 41)/\xA (iB wr (w.1.size+1) #[lA mA 0,oA aA 0 0] 41)/\xA (kB w wr)/\U.1.size<=wr.1.size) (fun i _=>vA n-(intOf i).toNat)
 case atStart=>exact⟨0,_,E,Oa _,rfl,HC0.o,Z.o,P2.o,Q2.o,V.o,hs2⟩
 case round=>
  obtain⟨k,T,m,hk,rfl,N,HY,O,z,BW,hsr⟩:=hrel;clear HC0 Z P2 Q2 V;have hyl:vA m=vA n:=by rw[<-HY.o,Xa]
  by_cases hlt:k<vA n
  .have r:k<vA m:=by omega
   obtain⟨c0,c1,c2,c3,j,l⟩:=FJ N.o.row N.o.len k r;have s1:cC wr w.1.size 1 (oA (bA ⟨g,0,aA⟩) (vA n) s):=O.o.cell 1;go_wp2;have y:=yG wr (tA #[nA m[k].t.N,lA mA m[k].t.L,.slice m[k].a1 (vA m[k].t.M) m[k].c1,.slice m[k].a2 (vA m[k].t.Z) m[k].c2] 85);have BX:xA (iB (wr.alloc (tA #[nA m[k].t.N,lA mA m[k].t.L,.slice m[k].a1 (vA m[k].t.M) m[k].c1,.slice m[k].a2 (vA m[k].t.Z) m[k].c2] 85)) wr.1.size #[nA m[k].t.N,lA mA m[k].t.L,.slice m[k].a1 (vA m[k].t.M) m[k].c1,.slice m[k].a2 (vA m[k].t.Z) m[k].c2] 85):=iB.new _ _ _;have CB:xA _:=N.o.keep (S:=fun _=>False) (bB.of y) (fun _ e=>e.elim);have K:=yA (O.o.z y);have RQb:=yA (z.o.z y);have Y:xA _:=oB BW.o y;have hsb:U.1.size<=(wr.alloc (tA #[nA m[k].t.N,lA mA m[k].t.L,.slice m[k].a1 (vA m[k].t.M) m[k].c1,.slice m[k].a2 (vA m[k].t.Z) m[k].c2] 85)).1.size:=by have:=y.size;omega
   have hgw:=(N.o.row.lt g rfl).2;have hwb:wr.1.size<(wr.alloc (tA #[nA m[k].t.N,lA mA m[k].t.L,.slice m[k].a1 (vA m[k].t.M) m[k].c1,.slice m[k].a2 (vA m[k].t.Z) m[k].c2] 85)).1.size:=by simp
   obtain⟨hO2,L⟩:=N.o.old k r (Ia _);have L:=L (Ca rfl);have Q:m[k].t∈n:=by rw[<-HY.o];exact Md.2 ⟨m[k],Gb r,rfl⟩
   obtain⟨hl1,hl2⟩:=HFT.o _ Q;have HM:xA (∀u W,kB w u->kB u W->gA prog 116 #[.slice m[k].a1 (vA m[k].t.M) m[k].c1] W fun e F=>∃v,e=sA v/\F.ownsRow u.1.size 111 2 v (vA m[k].t.M) (flatK m[k].t.M)/\kB u F):=fun u W h0 M=>(vo m[k].a1 m[k].c1 m[k].t.M W (L.z (oB h0 M)) hl1).mono fun e F ⟨v,h1,h2,h3⟩=>⟨v,h1,ae h2 M.size,oB M h3⟩
   have HS:xA (∀u W,kB w u->kB u W->gA prog 117 #[.slice m[k].a2 (vA m[k].t.Z) m[k].c2] W fun e F=>∃v,e=sA v/\F.ownsRow u.1.size 88 2 v (vA m[k].t.Z) (flatK m[k].t.Z)/\kB u F):=fun u W h0 M=>(vq m[k].a2 m[k].c2 m[k].t.Z W (hO2.z (oB h0 M)) hl2).mono fun e F ⟨v,h1,h2,h3⟩=>⟨v,h1,ae h2 M.size,oB M h3⟩
   clear c0 c1 c2 c3 j l s1 L hO2 Q hl1 hl2 N O z BW;generalize (wr.alloc (tA #[nA m[k].t.N,lA mA m[k].t.L,.slice m[k].a1 (vA m[k].t.M) m[k].c1,.slice m[k].a2 (vA m[k].t.Z) m[k].c2] 85))=wb at *;have s1:cC wb w.1.size 1 (oA (bA ⟨g,0,aA⟩) (vA n) s):=K.o.cell 1;have b2:cC wb wr.1.size 2 (.slice m[k].a1 (vA m[k].t.M) m[k].c1):=BX.o.cell 2;clear y;go_region_law
    (refine bD (f:=116) (args:=#[.slice m[k].a1 (vA m[k].t.M) m[k].c1]) rfl (by go_simp) ?_;refine(HM.o wb _ Y.o eD.drew).mono ?_;rintro e w5 ⟨v5,rfl,a0,B⟩;obtain⟨a5,d5,rfl⟩:=aa a0;obtain⟨_,_,c25,_,b,_⟩:=FJ (jC CB.o.row B) CB.o.len k r;have s15:=(K.o.z B).cell 1;have O5:=yA a0;have hsz5:=B.size;have B5:=yA B;clear a0 B;refine⟨_,rfl,?_⟩)
   all_goals(
    have TG:bB (·=g) w5 (w5.setCell ⟨g,k*4+2,aA⟩ (.slice a5 (vA m[k].t.M) d5)):=(bB.refl (·=g) w5).setCell (Ca rfl) _ _;have C6:=yA (CB.o.limits r B5.o hsb O5.o);have J:=yA (TG.blk (K.o.z B5.o) (show ¬w.1.size=g by omega));have RQ6:=yA (TG.blk (RQb.o.z B5.o) (show ¬w.1.size+1=g by omega));have BX6:=yA (TG.blk (BX.o.z B5.o) (show ¬wr.1.size=g by omega));have X:xA _:=(oB Y.o B5.o).trans (TG.below (by omega) fun i hi e=>by omega);have hs6:U.1.size<=(w5.setCell ⟨g,k*4+2,aA⟩ (.slice a5 (vA m[k].t.M) d5)).1.size:=by simp;omega
    have hw6:wr.1.size<(w5.setCell ⟨g,k*4+2,aA⟩ (.slice a5 (vA m[k].t.M) d5)).1.size:=by simp;omega
    clear c25 b s15 TG s1 b2 CB K RQb BX Y;generalize (w5.setCell ⟨g,k*4+2,aA⟩ (.slice a5 (vA m[k].t.M) d5))=w6 at *;generalize (fun g=>if g<wb.1.size then T g else 2*k+1)=T6 at *)
   all_goals(
    have s1:cC w6 w.1.size 1 (oA (bA ⟨g,0,aA⟩) (vA n) s):=J.o.cell 1;have b3:cC w6 wr.1.size 3 (.slice m[k].a2 (vA m[k].t.Z) m[k].c2):=BX6.o.cell 3)
   all_goals go_wp2_with fail
   all_goals go_region_law
    (refine bD (f:=117) (args:=#[.slice m[k].a2 (vA m[k].t.Z) m[k].c2]) rfl (by go_simp) ?_;refine(HS.o w6 _ X.o eD.drew).mono ?_;rintro e w7 ⟨v7,rfl,b0,C⟩;obtain⟨a7,d7,rfl⟩:=aa b0;obtain⟨_,_,_,c37,_,d⟩:=FJ (jC C6.o.row C) C6.o.len k (by simpa using r);have s17:=(J.o.z C).cell 1;have O7:=yA b0;have hsz7:=C.size;have B7:=yA C;clear b0 C;refine⟨_,rfl,?_⟩)
   all_goals(
    have TG:bB (·=g) w7 (w7.setCell ⟨g,k*4+3,aA⟩ (.slice a7 (vA m[k].t.Z) d7)):=(bB.refl (·=g) w7).setCell (Ca rfl) _ _;have hk6:k<vA (m.set k ⟨m[k].t,a5,d5,m[k].a2,m[k].c2⟩):=by simpa using r
    have C8:=C6.o.series (a:=a7) (c:=d7) hk6 B7.o hs6 (by simp only[Oe];exact O7.o);simp only[Oe,List.set_set]at C8;have C8:=yA C8;have RP8:=yA (TG.blk (J.o.z B7.o) (show ¬w.1.size=g by omega));have RQ8:=yA (TG.blk (RQ6.o.z B7.o) (show ¬w.1.size+1=g by omega));have BW8:xA _:=(oB X.o B7.o).trans (TG.below (by omega) fun i hi e=>by omega);have hs8:U.1.size<=(w7.setCell ⟨g,k*4+3,aA⟩ (.slice a7 (vA m[k].t.Z) d7)).1.size:=by simp;omega
    have HY8:xA _:=(aFz m k r ⟨m[k].t,a5,d5,a7,d7⟩ rfl).trans HY.o;clear c37 d s17 TG s1 b3 C6 J RQ6 BX6 X;generalize (w7.setCell ⟨g,k*4+3,aA⟩ (.slice a7 (vA m[k].t.Z) d7))=w8 at *
    go_wp2
    exact⟨⟨k+1,_,_,by omega,by go_num,C8.o,HY8.o,RP8.o,RQ8.o,BW8.o,hs8⟩,by simp[intOf];omega⟩)
  have ek:k=vA n:=by omega
  subst ek;have HCK:=N;clear N;have z0:cC wr (w.1.size+1) 0 (lA mA 0):=z.o.cell 0;have z1:cC wr (w.1.size+1) 1 (oA aA 0 0):=z.o.cell 1;have fz0:=z.o.free 0;have fz1:=z.o.free 1;have s0:cC wr w.1.size 0 (lA mA o):=O.o.cell 0;have s1:cC wr w.1.size 1 (oA (bA ⟨g,0,aA⟩) (vA n) s):=O.o.cell 1;go_wp2;have I:bB (·=w.1.size+1) wr ((wr.setCell ⟨w.1.size+1,0,aA⟩ (lA mA o)).setCell ⟨w.1.size+1,1,aA⟩ (oA (bA ⟨g,0,aA⟩) (vA n) s)):=((bB.refl (·=w.1.size+1) wr).setCell (Ca rfl) 0 _).setCell (Ca rfl) 1 _;refine bodyPost_ret (v:=rA #[lA mA o,oA (bA ⟨g,0,aA⟩) (vA n) s]) (by simp[results,results75,go_sem,z0,z1]) rfl ?_;have ho:vC ((wr.setCell ⟨w.1.size+1,0,aA⟩ (lA mA o)).setCell ⟨w.1.size+1,1,aA⟩ (oA (bA ⟨g,0,aA⟩) (vA n) s)) w.1.size (bA ⟨g,0,aA⟩) n:=(vC.mono (vC.turned (HCK.o.done HY.o) I (fun q h1 h2 e=>by omega)) (by omega))
  have D:=((bB.of (S:=fun i=>w.1.size<=i) BW.o).trans' (I.mono fun i _ e=>by omega)).below (Ia _) fun i hi h=>by omega
  first
   |exact⟨(bA ⟨g,0,aA⟩),⟨s,rfl⟩,ho,D⟩
   |exact⟨(bA ⟨g,0,aA⟩),s,rfl,ho,D⟩
def sZ(a b:iC)(f g:Nat)(N:oC)(w:eA):
 qD 179 #[rA (dC a f b g N)] w (pA (N.up&&!N.deg)):=by
 unfold dC;obtain⟨d,l,i,m,h,c,j⟩:=N;cases j<;>cases c
 all_goals(
  go_enter func179,ntmps179
  go_wp2
  go_ret
  exact⟨rfl,vB⟩)
def RY(a b f:iC)(h g d:Nat)(N:oC)(K:mE)(L:kG)(w:eA):
 qD 183 #[rA (dC a h b g N),rA #[oA f (vA K.fs) d,lA mA K.c,lA mA K.k,lA mA K.cr,lA mA K.fl,pA K.dn],rA #[lA mA L.first,lA mA L.last,lA mA L.size]] w (rA #[oA f (vA K.fs) d,lA mA K.c,lA mA K.k,lA mA K.cr,lA mA K.fl,pA K.dn,lA mA L.first,lA mA L.last,lA mA L.size,lA mA N.now,oA b (vA N.ts) g,lA mA N.lsn,pA dA,pA (!K.dn)]):=by
 unfold dC;go_enter func183,ntmps183;go_wp2;refine bodyPost_ret (v:=rA #[oA f (vA K.fs) d,lA mA K.c,lA mA K.k,lA mA K.cr,lA mA K.fl,pA K.dn,lA mA L.first,lA mA L.last,lA mA L.size,lA mA N.now,oA b (vA N.ts) g,lA mA N.lsn,pA dA,pA (!K.dn)]) (by simp[results,results183,go_sem]) rfl ⟨rfl,?_⟩;exact oB (oB (oB vB vB) vB) vB
def oX(a b:iC)(Z cb:Nat)(N:oC)(w:eA)(hf:eB w a N.d.fs)(hl:vA N.d.fs<=1048576)(ht:nC w b N.ts)(I:vA N.ts<=2000000)(j:∀t∈N.ts,vA t.M<=2000000/\vA t.Z<=2000000):
 gA prog 33 #[rA (dC a Z b cb N)] w fun e P=>∃o h p i,e=sA (rA (dC o h p i N))/\iI P (fun x=>w.1.size<=x/\x<P.1.size) o p N/\kB w P:=by
 unfold dC;have R:=yA (fun W(H:kB w W)=>XX a Z N.d.fs W (hf.z H) hl);have T:=yA (fun W(H:kB w W)=>DB N.now b cb N.ts W (ht.z H) I j);clear hf ht j;go_enter func33,ntmps33;go_wp2_with fail;refine(R.o _ (oB vB vB)).mono ?_;rintro e w1 ⟨v,rfl,q,g⟩;obtain⟨o,h,rfl,m⟩:=cH q;have z:=yA (((iB.new w _ _).alloc _).z g);have F:=yA ((iB.new (w.alloc _) _ _).z g);simp only[eA.size_alloc]at F m;have U:=yA (m.toA (Ia _));have B:=yA (oB (oB vB vB) g);have J:=g.size;simp only[eA.size_alloc]at J;have u:=z.o.n14;have y:=z.o.frees;clear g q m R;go_wp2_with fail;refine aNm (C:=fun W=>gA prog _ _ W _) z.o ?_;intro w2 E n;have G:=yA (n.blk F.o (by omega));have V:=yA (U.o.turned n (fun x s _ e=>by omega));have hz2:=n.size;have D:=yA (B.o.trans (n.below (by have:=B.o.size;omega) (fun k hk e=>by omega)));clear z F U B n u y;refine(T.o _ D.o).mono ?_;rintro e w3 ⟨p,i,rfl,r,f⟩;have W3:=yA (V.o.z f);have X3:=yA (r.toA (Ia _));have Q:=yA (oB D.o f);have hz3:=f.size;have u:=(E.z f).n14;have y:=(E.z f).frees;obtain⟨r0,r1,r2,r3,r4,r5,r6,r7,r8,r9,K,L,M,O⟩:=(G.o.z f).n14;obtain⟨g0,g1,g2,g3,g4,g5,g6,g7,g8,g9,g10,g11,g12,g13⟩:=(G.o.z f).frees;clear f r E G V D T;go_wp2;refine bodyPost_ret (v:=rA #[oA o (vA N.d.fs) h,lA mA N.d.c,lA mA N.d.k,lA mA N.d.cr,lA mA N.d.fl,pA N.d.dn,lA mA N.l.first,lA mA N.l.last,lA mA N.l.size,lA mA N.now,oA p (vA N.ts) i,lA mA N.lsn,pA N.deg,pA N.up]) (by simp[results,results33,go_sem,r0,r1,r2,r3,r4,r5,r6,r7,r8,r9,K,L,M,O]) rfl ?_;refine bB.end2 (S:=fun x=>x=w.1.size\/x=w.1.size+1) (C:=fun W=>∃X c1 Y d1,Ending.returned (rA #[oA o (vA N.d.fs) h,lA mA N.d.c,lA mA N.d.k,lA mA N.d.cr,lA mA N.d.fl,pA N.d.dn,lA mA N.l.first,lA mA N.l.last,lA mA N.l.size,lA mA N.now,oA p (vA N.ts) i,lA mA N.lsn,pA N.deg,pA N.up])=Ending.returned (rA #[oA X (vA N.d.fs) c1,lA mA N.d.c,lA mA N.d.k,lA mA N.d.cr,lA mA N.d.fl,pA N.d.dn,lA mA N.l.first,lA mA N.l.last,lA mA N.l.size,lA mA N.now,oA Y (vA N.ts) d1,lA mA N.lsn,pA N.deg,pA N.up])/\iI W (fun x=>w.1.size<=x/\x<W.1.size) X Y N/\kB w W) w3 (by
  repeat (with_reducible first|exact bB.refl _ _|refine bB.setCell ?_ (Ca (by first|exact Ca rfl|exact La rfl)) _ _)) ?_
 intro w6 A;have hz6:=A.size;exact⟨_,_,_,_,rfl,⟨_,_,W3.o.turned A (fun x s _ e=>by omega),X3.o.turned A (fun x s _ e=>by omega),fun x s=>by omega,fun x s=>by omega,fun x s e=>by omega⟩,Q.o.trans (A.below (by have:=Q.o.size;omega) (fun k hk e=>by omega))⟩
def NaV(M:oC)(x:iA)(w:eA)(e:Ending)(c:eA):Prop:=
 ∃a d b f,e=sA (uA #[rA (dC a d b f M),x])/\iI c (fun x=>w.1.size<=x/\x<c.1.size) a b M/\kB w c
def jw(V:oC×Int)(w:eA)(e:Ending)(a:eA):Prop:=NaV V.1 (lA mA V.2) w e a
def JA{l:Func}{t:Act}{w W:eA}{c:lC}{cs:Array iA}{M:oC}{x:iA}{a b:iC}{d f H i j:Nat}(h:l.results=#[.cell i 43,.tmp j])(m:t.tmps.getD i undef=qA (bA ⟨w.1.size+1+1,0,aA⟩))(n:t.tmps.getD j undef=x)(p:t.defers=[])(P:NP w W c cs)(o:iI W (fun x=>w.1.size+1+1<x/\x<H) a b M)(s:H<=W.1.size):bodyPost prog l (fun e r=>NaV M x w e r) .ret t (W.setRow (w.1.size+1+1) (dC a d b f M)):=by
 have g:=sI W (w.1.size+1+1) (dC a d b f M);have v:=g.size;exact bodyPost_ret (aMk h m n P.R.row (tH _ _ _ _ _)) p ⟨a,d,b,f,rfl,(o.turned g (fun x q _ e=>by omega)).mono (fun x q=>by omega),P.B.trans (g.below P.B.size (fun k u e=>by omega))⟩
def bO{f:Func}{t:Act}{w W:eA}{c:lC}{cs:Array iA}{V:oC×Int}{M:oC}{d:Int}{a b:iC}{ca cb H i j:Nat}(h:f.results=#[.cell i 43,.tmp j])(g:t.tmps.getD i undef=qA (bA ⟨w.1.size+1+1,0,aA⟩))(k:t.tmps.getD j undef=lA mA d)(n:t.defers=[])(P:NP w W c cs)(E:V=(M,d))(l:iI W (fun x=>w.1.size+1+1<x/\x<H) a b M)(m:H<=W.1.size):bodyPost prog f (fun e o=>jw V w e o) .ret t (W.setRow (w.1.size+1+1) (dC a ca b cb M)):=by
 subst E;exact JA h g k n P l m
def aMq{c:lC}{b a:Int}{d:List aB}(h:kC c b d=dA):dE c.w a (FY ⟨⟨#[]⟩,0,[],[]⟩ dA d)=dE c.w a d:=by
 rw[mV (t:=⟨⟨#[]⟩,0,[],[]⟩) (qi h)]
def aOe:bl ⟨⟨#[]⟩,0,[],[]⟩:=⟨Oa _,Oa _,fun i h=>absurd h (by simp)⟩
def JM(c:lC)(h:Int)(a:iC)(l:Nat)(k:List aB)(i:Int)(w:eA)(C:nC w a k)(m:vA k+nB k<=1900000)(r:kC c h k=dA):
 gA prog 24 #[oF c,rA #[lA mA h,oA a (vA k) l],lA mA i] w fun e D=>tU (DU c h k i) w e D:=by
 obtain⟨d,b,f,g⟩:=fP m;obtain⟨-,hn0,hn1,y,-⟩:=cI r;have F:=yA (fun W(u:kB w W)=>jG c h a l k W (C.z u) b (by omega));have q:=yA (fun W(u:kB w W)=>vT c h a l k W (C.z u) r m);have G:xA (∀W j,kB w W->0<=j->j<=1000000000000->gA prog 64 #[oF c,rA #[lA mA h,oA a (vA k) l],lA mA j,rA #[nA ⟨#[]⟩,lA mA 0,oA aA 0 0,oA aA 0 0]] W fun e D=>∃M t,e=sA (rA #[lA mA j,.slice M (vA (dE c.w j k)) t])/\vC D W.1.size M (dE c.w j k)/\kB W D):=fun W j u q0 q1=>by
  have:=FB c h j a l k ⟨⟨#[]⟩,0,[],[]⟩ aA aA 0 0 W (C.z u) (Ca rfl) (Ca rfl) (by omega) (fun x hx=>hx.elim (fun e=>e ▸ aOe) (PG r m x)) q0 (by omega);rw[show(⟨⟨#[]⟩,0,[],[]⟩:aB).N.toList.isEmpty=dA from by kernel_rfl,aMq r]at this;exact this
 have I:(i<1\/¬i<1/\1000000000000-h<i)/\DU c h k i=(h,k,cA)\/¬i<1/\¬1000000000000-h<i/\DU c h k i=(h+i,dE c.w (h+i) k,dA):=by
  unfold DU;rw[Ja (by rw[r];simp)];by_cases A:i<1<;>by_cases H:1000000000000-h<i<;>simp[A,H]
 rw[r]at F;clear C m d b f g r y;unfold tU;unfold oF at *;have P:=yA (CP.new (w:=w) (c:=c) (now:=h) (a:=a) (n:=vA k) (cap:=l));generalize DU c h k i=V at *;rcases I with⟨A|⟨A,H⟩,E⟩|⟨A,H,E⟩
 all_goals
  have E:=yA E;go_enter func24,ntmps24;go_wp2_with(first
   |(go_at_call 16;apply aC (F.o _ P.o.B);intro wv o;replace P:=yA (P.o.z o);clear o F;obtain⟨O,Q,R,S,T,U,X,Y,-,-,-,-,N⟩:=P.o.cells)
   |(go_at_call 63;refine(q.o _ P.o.B).mono ?_;rintro e w9 ⟨K,L,rfl,z,o⟩;have s:=yA (P.o.z o);have p:=yA z;clear z o O Q R S T U X Y q;obtain⟨-,-,-,-,-,-,-,-,Z,z1,g0,g1,J⟩:=s.o.cells)
   |(go_at_call 64;refine(G.o _ (h+i) P.o.B (by omega) (by omega)).mono ?_;rintro e w9 ⟨K,L,rfl,z,o⟩;have s:=yA (P.o.z o);have p:=yA z;clear z o O Q R S T U X Y q;obtain⟨-,-,-,-,-,-,-,-,Z,z1,g0,g1,J⟩:=s.o.cells))
  refine bodyPost_ret (v:=?_) (by simp[results,results24,go_sem,Z,z1];rfl) rfl ?_;rw[E.o];first
   |exact⟨K,⟨L,rfl⟩,s.o.done p.o N⟩
   |exact⟨K,L,rfl,s.o.done p.o N⟩
section
open Go.Maps
def aBh{w:eA}{N:Nat}{x y p q:iA}{t:jA}(h:iB w N #[x,y] t):iB ((w.setCell ⟨N,0,aA⟩ p).setCell ⟨N,1,aA⟩ q) N #[p,q] t:=by
 have:=(h.set 0 p).set 1 q;simpa using this
def ApR(w:eA)(c:lC)(now:Int)(a:iC)(n cap N:Nat)(nv:iA)(sv:iA)(X:Nat)(SV:Int×List aB×Bool)(b:eA):Prop:=
 ∃a5 c5,CP w b c now a n cap/\iB b N #[nv,sv] 41/\(SV.2.2=dA->iB b X #[lA mA SV.1,oA a5 (vA SV.2.1) c5] 41/\vC b (X+1) a5 SV.2.1)
section
variable {w w5 W:eA} {c:lC} {now:Int} {a a5:iC} {n cap N X B c5:Nat} {nv sv:iA} {SV:Int×List aB×Bool} {n5:Int} {t5:List aB} {b5:Bool}
theorem aBa(P:CP w w5 c now a n cap)(d:iB w5 N #[nv,sv] 41)(f:iB w5 X #[lA mA 0,oA aA 0 0] 41)(O:vC w5 B a5 t5)(i:w.1.size+1+1<X)(h:N≠X)(l:X<B):ApR w c now a n cap N nv sv X (n5,t5,b5) ((w5.setCell ⟨X,0,aA⟩ (lA mA n5)).setCell ⟨X,1,aA⟩ (oA a5 (vA t5) c5)):=by
 have b:bB (·=X) w5 ((w5.setCell ⟨X,0,aA⟩ (lA mA n5)).setCell ⟨X,1,aA⟩ (oA a5 (vA t5) c5)):=((bB.refl (·=X) w5).setCell (Ca rfl) 0 _).setCell (Ca rfl) 1 _;exact⟨a5,c5,P.turn b i,b.blk d h,fun _=>⟨aBh f,(vC.turned O b (fun g j k e=>by omega)).mono (by omega)⟩⟩
theorem ApR.alloc(h:ApR w c now a n cap N nv sv X SV W)(o:Obj):ApR w c now a n cap N nv sv X SV (W.alloc o):=by
 obtain⟨a5,c5,d,f,b⟩:=h;exact⟨a5,c5,d.z vB,f.alloc _,fun e=>⟨(b e).1.alloc _,(b e).2.z vB⟩⟩
end
def WU(c:lC)(now:Int)(a:iC)(cap:Nat)(u:List aB)(ar:iC)(capr:Nat)(r:List vE)(w:eA)(hf:nC w a u)(hr:wI w ar r)(hbk:vA u+nB u+vA r+sD r<=1400000):
 gA prog 59 #[oF c,rA #[lA mA now,oA a (vA u) cap],oA ar (vA r) capr] w fun e D=>tU (eG c now u r) w e D:=by
 have U:vA u+nB u<=1900000:=by omega
 obtain⟨f,d,j,l⟩:=fP U;have HST:=yA (fun W(I:kB w W)=>jG c now a cap u W (hf.z I) d (by omega));have L:=yA (fun(h:kC c now u=dA) W(I:kB w W)=>vT c now a cap u W (hf.z I) h U);have T:xA (eG c now u r=if kC c now u=cA then(0,[],cA) else if 500<vA r then(now,u,cA) else if (sH c now u r).2.2=dA then sH c now u r else(now,u,cA)):=rfl;have HF:=yA hr;have HBK:=yA hbk;have P:=yA (CP.new (w:=w) (c:=c) (now:=now) (a:=a) (n:=vA u) (cap:=cap));clear hf hr f d j l hbk U;unfold tU;unfold oF at *;generalize eG c now u r=V at *;go_enter func59,ntmps59;go_wp2_with fail;apply aC (HST.o _ P.o.B);intro w1 x;replace P:=yA (P.o.z x);clear x HST;obtain⟨Z,x1,x2,x3,x4,x5,y0,y1,Q,R,g0,g1,hz⟩:=P.o.cells;cases hst:kC c now u with
 |false=>
  have E:xA (V=(0,[],cA)):=by show _=_;rw[T.o,Ma hst]
  go_wp2;refine bodyPost_ret (v:=?_) (by simp[results,results59,go_sem,Q,R];rfl) rfl ?_;rw[E.o];refine⟨aA,0,rfl,Ca rfl,?_⟩;first
   |exact(P.o.B.setCell (by show w.1.size<=w.1.size+1+1;omega) _).setCell (by show w.1.size<=w.1.size+1+1;omega) _
   |exact P.o.B
 |true=>
  have HSM:=yA (L.o hst);have G:xA (V=if 500<vA r then(now,u,cA) else if (sH c now u r).2.2=dA then sH c now u r else(now,u,cA)):=by show _=_;rw[T.o,Ja (by rw[hst];simp)]
  have HS0:=yA hst;clear T L Q R g0 g1;go_wp2_with fail;refine(HSM.o _ P.o.B).mono ?_;rintro e w2 ⟨M,O,rfl,ho2,x⟩;clear Z x1 x2 x3 x4 x5 y0 y1;have O4:=yA ((ho2.mono (B':=w.1.size+1+1+1) (by omega)).z (yG w2 (tA #[lA mA now,oA M (vA u) O] 41)));have P4:=yA ((P.o.z x).z (yG w2 (tA #[lA mA now,oA M (vA u) O] 41)));have N4:=yA (iB.new w2 #[lA mA now,oA M (vA u) O] 41);have hNp:=(P.o.z x).lt;obtain⟨n0,n1⟩:=N4.o.c2;clear x ho2 P;by_cases h5:500<vA r
  .have E:xA (V=(now,u,cA)):=by show _=_;rw[G.o,Ma h5]
   go_upto_region 5 with fail;generalize w2.alloc (tA #[lA mA now,oA M (vA u) O] 41)=w4 at *;obtain⟨-,-,-,-,-,-,-,-,Q,R,g0,g1,hz4⟩:=P4.o.cells;go_wp2;refine bodyPost_ret (v:=?_) (by simp[results,results59,go_sem,Q,R];rfl) rfl ?_;rw[E.o];first
    |exact⟨M,⟨O,rfl⟩,P4.o.done O4.o (by omega)⟩
    |exact⟨M,O,rfl,P4.o.done O4.o (by omega)⟩
  have HVF:xA ((sH c now u r).2.2=cA->V=(now,u,cA)):=fun h6=>by rw[G.o,Ja h5,Ja (by rw[h6];simp)]
  have HVT:xA ((sH c now u r).2.2=dA->V=sH c now u r):=fun h6=>by rw[G.o,Ja h5,Ma h6]
  go_wp2;generalize w2.alloc (tA #[lA mA now,oA M (vA u) O] 41)=w4 at *;generalize w2.1.size=N at *;clear n0 n1 G;go_loopw [29] (fun i wr=>∃(k:Nat)(t:Int)(s:List aB)(z:iC)(A:Nat),k<=vA r/\i=lA mA k/\xA (CP w wr c now a (vA u) cap)/\xA (iB wr N #[lA mA t,oA z (vA s) A] 41)/\xA (vC wr (w.1.size+1+1+1) z s)/\xA (kC c t s=dA)/\xA (vA s+nB s+2*(vA r-k)+sD (r.drop k)<=1900000)/\xA (sH c t s (r.drop k)=sH c now u r)) (fun i _=>vA r-(intOf i).toNat)
  case atStart=>exact⟨0,now,u,M,O,Oa _,rfl,P4.o,N4.o,O4.o,HS0.o,yA (by have:=HBK.o;simp only[Nat.sub_zero,Kf];omega),rfl⟩
  case round=>
   obtain⟨k,t,s,z,A,hk,rfl,P,C,OB,F,HK,HR⟩:=hrel;clear P4 N4 O4 HS0;by_cases J:k<vA r
   .obtain ⟨b,o,har,hbw,q0,q1,q2,q3⟩:=(HF.o.z P.o.B).at J;subst har;have hkb:=HK.o;have hdr:=JE r J;have hstb:=tY F.o r[k];have HVQ0:xA _:=fun h=>HVF.o (by rw[<-HR.o,ai J h]);have K:xA ((zE c t s r[k]).2.2=dA->sH c (zE c t s r[k]).1 (zE c t s r[k]).2.1 (r.drop (k+1))=sH c now u r/\kC c (zE c t s r[k]).1 (zE c t s r[k]).2.1=dA):=fun h=>⟨(ah J h).symm.trans HR.o,VD F.o h⟩
    have HBN:xA (vA (zE c t s r[k]).2.1+nB (zE c t s r[k]).2.1+2*(vA r-(k+1))+sD (r.drop (k+1))<=1900000):=by show _<=_;omega
    have S:xA (zE c t s r[k]=if r[k].K=1 then(t,(qL c t s r[k].T r[k].X).1,decide ((qL c t s r[k].T r[k].X).2=1) ||decide ((qL c t s r[k].T r[k].X).2=2)) else if r[k].K=2 then gL c.w t s r[k].U else if r[k].K=3 then(t,(iU s r[k].T r[k].X r[k].U).1,(iU s r[k].T r[k].X r[k].U).2) else(t,s,cA)):=rfl;have HAD:xA (∀W,kB wr W->gA prog 58 #[rA #[lA mA c.w,lA mA c.tl,lA mA c.ml,lA mA c.sh,lA mA c.ha,lA mA c.sg],rA #[lA mA t,oA z (vA s) A],nA r[k].T,nA r[k].X] W fun e D=>∃a cap,e=sA (uA #[rA #[lA mA t,.slice a (vA (qL c t s r[k].T r[k].X).1) cap],lA mA ((qL c t s r[k].T r[k].X).2:Nat)])/\vC D W.1.size a (qL c t s r[k].T r[k].X).1/\kB W D):=fun W I=>by
     have:=DQ c t z A s r[k].T r[k].X W (OB.o.tens.z I) (by omega) (by omega) (by omega) F.o;rw[bq F.o]at this;exact this
    have HTK:xA (∀W,kB wr W->gA prog 24 #[rA #[lA mA c.w,lA mA c.tl,lA mA c.ml,lA mA c.sh,lA mA c.ha,lA mA c.sg],rA #[lA mA t,oA z (vA s) A],lA mA r[k].U] W fun e D=>∃a cap,e=sA (uA #[rA #[lA mA (gL c.w t s r[k].U).1,.slice a (vA (gL c.w t s r[k].U).2.1) cap],pA (gL c.w t s r[k].U).2.2])/\vC D W.1.size a (gL c.w t s r[k].U).2.1/\kB W D):=fun W I=>by
     have:=JM c t z A s r[k].U W (OB.o.tens.z I) (by omega) F.o;rw[uf F.o]at this;exact this
    have HSE:xA (∀W,kB wr W->gA prog 25 #[rA #[lA mA c.w,lA mA c.tl,lA mA c.ml,lA mA c.sh,lA mA c.ha,lA mA c.sg],rA #[lA mA t,oA z (vA s) A],nA r[k].T,nA r[k].X,lA mA r[k].U] W fun e D=>∃a cap,e=sA (uA #[rA #[lA mA t,.slice a (vA (iU s r[k].T r[k].X r[k].U).1) cap],pA (iU s r[k].T r[k].X r[k].U).2])/\vC D W.1.size a (iU s r[k].T r[k].X r[k].U).1/\kB W D):=fun W I=>by
     have:=xW c t z A s r[k].T r[k].X r[k].U W (OB.o.tens.z I) (by omega) (by omega) (by omega) F.o;rw[aCf F.o]at this;exact this
    clear hkb hdr hstb F HK HR;have hNr:=zA C.o;have hRr:=P.o.lt;have y:xA (kB wr ((wr.alloc (tA #[lA mA r[k].K,nA r[k].T,nA r[k].X,lA mA r[k].U] 71)).alloc (tA #[lA mA 0,oA aA 0 0] 41))):=oB vB vB;have XB:xA _:=yA (by have:=iB.new (wr.alloc (tA #[lA mA r[k].K,nA r[k].T,nA r[k].X,lA mA r[k].U] 71)) #[lA mA 0,oA aA 0 0] 41;simpa using this);have UB:=yA ((iB.new wr #[lA mA r[k].K,nA r[k].T,nA r[k].X,lA mA r[k].U] 71).alloc (tA #[lA mA 0,oA aA 0 0] 41));generalize zE c t s r[k]=SV at *;go_upto_region 11 with fail;clear q0 q1 q2 q3;generalize ((wr.alloc (tA #[lA mA r[k].K,nA r[k].T,nA r[k].X,lA mA r[k].U] 71)).alloc (tA #[lA mA 0,oA aA 0 0] 41))=wb at *;replace P:=yA (P.o.z y.o);replace C:=yA (C.o.z y.o);have hwb:=zA XB.o;clear OB;obtain⟨Z,x1,x2,x3,x4,x5,y0,y1,-,-,-,-,-⟩:=P.o.cells;obtain⟨n0,n1⟩:=C.o.c2;obtain⟨q0,q1,q2,q3⟩:=UB.o.c4;generalize r[k].K=H at *;generalize r[k].T=TE at *;generalize r[k].X=TX at *;generalize r[k].U=NU at *;go_upto_block 2 with fail;go_cut [11,14] (fun ok _ wx=>ok=pA SV.2.2/\ApR w c now a (vA u) cap N (lA mA t) (oA z (vA s) A) (wr.1.size+1) SV wx)
    case first=>
     generalize qL c t s TE TX=R1 at *;generalize gL c.w t s NU=R2 at *;generalize iU s TE TX NU=R3 at *;obtain⟨t5,v5⟩:=R1;obtain⟨n6,m,b6⟩:=R2;obtain⟨p,b7⟩:=R3;have hks:H=1/\(((v5:Int)==1)=dA/\SV=(t,t5,dA)\/((v5:Int)==1)=cA/\(((v5:Int)==2)=dA/\SV=(t,t5,dA)\/((v5:Int)==2)=cA/\SV=(t,t5,cA)))\/(H==1)=cA/\(H=2/\SV=(n6,m,b6)\/(H==2)=cA/\(H=3/\SV=(t,p,b7)\/(H==3)=cA/\SV=(t,s,cA))):=by
      rw[S.o];by_cases k1:H=1
      .refine Ca ⟨k1,?_⟩;rw[Ma k1];by_cases v1:v5=1
       .exact Ca ⟨by simp[v1],by simp[v1]⟩
       refine La ⟨by simp;omega,?_⟩;by_cases v2:v5=2
       .exact Ca ⟨by simp[v2],by simp[v2]⟩
       exact La ⟨by simp;omega,by simp[v1,v2]⟩
      refine La ⟨by simpa using k1,?_⟩;rw[Ja k1];by_cases k2:H=2
      .exact Ca ⟨k2,by rw[Ma k2]⟩
      refine La ⟨by simpa using k2,?_⟩;rw[Ja k2];by_cases k3:H=3
      .exact Ca ⟨k3,by rw[Ma k3]⟩
      exact La ⟨by simpa using k3,by rw[Ja k3]⟩
     clear S;rcases hks with⟨rfl,⟨h1,rfl⟩|⟨h1,⟨h2,rfl⟩|⟨h2,rfl⟩⟩⟩|⟨k1,⟨rfl,rfl⟩|⟨k2,⟨rfl,rfl⟩|⟨k3,rfl⟩⟩⟩
     all_goals
      go_wp2_with((first
       |(go_at_call 58;refine(HAD.o _ y.o).mono ?_)
       |(go_at_call 24;refine(HTK.o _ y.o).mono ?_)
       |(go_at_call 25;refine(HSE.o _ y.o).mono ?_));rintro e w5 ⟨a5,c5,rfl,ho,x⟩;have O5:=yA ho;have P5:=yA (P.o.z x);have N5:=yA (C.o.z x);have X5:=yA (XB.o.z x);have hx5:=zA X5.o;clear ho x q0 q1 q2 q3 n0 n1 Z x1 x2 x3 x4 x5 y0 y1;obtain⟨Z,x1⟩:=X5.o.c2;have fx:=X5.o.free)
      go_meet;first
       |(have q:=k3;exact⟨rfl,aA,0,P.o,C.o,fun e=>by cases e⟩)
       |exact⟨rfl,aBa P5.o N5.o X5.o O5.o (by omega) (by omega) hwb⟩
       |exact⟨rfl,(aBa P5.o N5.o X5.o O5.o (by omega) (by omega) hwb).alloc _⟩
    clear HAD HTK HSE S UB XB y P C Z x1 x2 x3 x4 x5 y0 y1 n0 n1 q0 q1 q2 q3;obtain⟨rfl,a5,c5,hP,hN,hX⟩:=hcut;rename eA=>w6;have P:=yA hP;have C:=yA hN;obtain⟨Z,x1,x2,x3,x4,x5,y0,y1,-,-,-,-,hz⟩:=hP.cells;obtain⟨n5,t5,b5⟩:=SV;cases b5 with
    |false=>
     have E:=yA (HVQ0.o rfl);clear hX hN hP;go_wp2_with(go_at_call 63;refine(HSM.o _ P.o.B).mono ?_;rintro e w9 ⟨ra,rc,rfl,ho,x⟩;have P9:=yA (P.o.z x);have HO9:=yA ho;clear ho x Z x1 x2 x3 x4 x5 y0 y1;obtain⟨-,-,-,-,-,-,-,-,Q,R,g0,g1,hz9⟩:=P9.o.cells);refine bodyPost_ret (v:=?_) (by simp[results,results59,go_sem,Q,R];rfl) rfl ?_;rw[E.o];first
      |exact⟨ra,⟨rc,rfl⟩,P9.o.done HO9.o hz⟩
      |exact⟨ra,rc,rfl,P9.o.done HO9.o hz⟩
    |true=>
     have HX:=yA (hX rfl);obtain⟨m0,m1⟩:=HX.o.1.c2;obtain⟨n0,n1⟩:=hN.c2;have fn:=hN.free;clear hX hN hP;go_wp2;have hT:bB (·=N) w6 ((w6.setCell ⟨N,0,aA⟩ (lA mA n5)).setCell ⟨N,1,aA⟩ (oA a5 (vA t5) c5)):=((bB.refl (·=N) w6).setCell (Ca rfl) 0 _).setCell (Ca rfl) 1 _;exact⟨⟨k+1,n5,t5,a5,c5,by omega,by go_num,yA (P.o.turn hT hNp),yA (aBh C.o),yA ((vC.turned HX.o.2 hT (fun g h1 h2 e=>by omega)).mono (by omega)),(K.o rfl).2,HBN.o,(K.o rfl).1⟩,by simp[intOf];omega⟩
   have Y:sH c now u r=(t,s,dA):=by rw[<-HR.o,Ie (by omega)];rfl
   have E:xA (V=(t,s,dA)):=by show _=_;rw[HVT.o (by rw[Y]),Y]
   have hkl:¬((k:Int)<vA r):=by omega
   obtain⟨n0,n1⟩:=C.o.c2;obtain⟨-,-,-,-,-,-,-,-,Q,R,g0,g1,hz⟩:=P.o.cells;clear Y;go_wp2;refine bodyPost_ret (v:=?_) (by simp[results,results59,go_sem,Q,R];rfl) rfl ?_;rw[E.o];first
    |exact⟨z,⟨A,rfl⟩,P.o.done OB.o (by omega)⟩
    |exact⟨z,A,rfl,P.o.done OB.o (by omega)⟩
end
section
open Go.Maps
attribute [local go_sem] zG tH cO iB.drewI fO.drewI fO.new fO.alloc fO.alloc2
def sr(c:lC)(a b:iC)(n j:Nat)(N:oC)(J:iC)(capr:Nat)(m:List vE)(w:eA)(h:aNb w a b N J m):
 gA prog 22 #[oF c,rA (dC a n b j N),oA J (vA m) capr] w fun e q=>aAs (pF c N m) w e q:=by
 have g:=h.bulk;have y:=yA (fun W=>pM c W);have O:xA (∀W,kB w W->gA prog 14 #[rA (dC a n b j N)] W fun e q=>∃a n b j,e=sA (rA (dC a n b j N))/\eB q a N.d.fs/\nC q b N.ts/\kB W q):=fun W o=>(iO a b n j N W (h.files.z o) h.fit.len (h.tens.z o) (by omega) (tP (by omega))).mono fun e q ⟨a,n,b,j,he,h1,h2,h3⟩=>⟨a,n,b,j,he,h1.files,h2.tens,h3⟩
 have t:=yA (fun W(o:kB w W)=>WU c N.now b j N.ts J capr m W (h.tens.z o) (h.recs.z o) g);have X:=yA (fun W=>vD N.lsn 0 999999999999999 W);have M:=yA (fun(D:wB N.lsn 0 999999999999999=dA) W(o:kB w W)=>sk (N.lsn+1) J capr m W (h.recs.z o) (kt (by omega)) h.rng (by have:=uz D;constructor<;>omega) (by omega));have r:=yA (fun W(o:kB w W)=>sj a n N.d.fs N.d.c N.d.k N.d.cr N.d.fl N.d.dn N.l.first N.l.last N.l.size (dR (N.lsn+1) m) c.sg W (h.files.z o) h.fit (aBd (by omega)));have Q:xA (∀W I s K L,N.up=dA->kB w W->gA prog 62 #[rA (dC a n b j N),rA #[oA I (vA K.fs) s,lA mA K.c,lA mA K.k,lA mA K.cr,lA mA K.fl,pA K.dn],rA #[lA mA L.first,lA mA L.last,lA mA L.size]] W fun e q=>∃b j,e=sA (rA (dC I s b j ⟨K,L,N.now,N.ts,N.lsn,dA,!K.dn⟩))/\nC q b N.ts/\kB W q):=fun W I s K L G o=>(IL a b I n j s N K L W (h.files.z o) h.fit.len (h.tens.z o) (by omega) (tP (by omega)) G).mono fun e q ⟨b,j,he,h2,h3⟩=>⟨b,j,he,h2.tens,h3⟩
 have U:=yA (fun h=>aQv (c:=c) (N:=N) (rs:=m) h);have p:=yA (fun h=>aQx (c:=c) (N:=N) (rs:=m) h);have T:=yA (aQw (N:=N) (R:=rE N.d N.l (dR (N.lsn+1) m) c.sg) (S:=eG c N.now N.ts m));clear h g;unfold tU at t;unfold aTs at r;unfold oF at *;generalize pF c N m=V at *;generalize eG c N.now N.ts m=A at *;generalize dR (N.lsn+1) m=Y at *;have hR:xA (rE N.d N.l Y c.sg=rE ⟨N.d.fs,N.d.c,N.d.k,N.d.cr,N.d.fl,N.d.dn⟩ ⟨N.l.first,N.l.last,N.l.size⟩ Y c.sg):=rfl;rw[<-hR.o]at r;clear hR;generalize rE N.d N.l Y c.sg=R at *;obtain⟨n5,f,o5⟩:=A;obtain⟨K,L,x⟩:=R;have fz:=jP;dsimp only at t r p T;have v:=yA (NP.new (w:=w) (c:=c) (cs:=dC a n b j N));go_enter func22,ntmps22;go_wp2_with fail;apply aC (y.o _);intro w1 g;have P:=yA (v.o.z g);clear g y v;have i:=P.o.cells rfl;cases hc:pH c with
 |false=>
  have E:=yA (U.o hc);go_wp2;exact pY (ca:=0) (cb:=0) rfl rfl rfl rfl P.o E.o (Ca rfl) (Ca rfl)
 |true=>
  replace p:=yA (p.o hc);rcases p.o with⟨G,E⟩|⟨G,⟨rfl,E⟩|⟨rfl,⟨D,E⟩|⟨D,⟨rfl,E⟩|⟨hp,E⟩⟩⟩⟩
  rotate_left 4;rcases T.o with⟨e0,Z,e2,e3,H⟩|⟨e0,e4,⟨Z|⟨Z,e2|⟨e2,e3⟩⟩,H⟩|⟨Z,e2,e3,H⟩⟩
  all_goals(try replace E:=E.trans H)
  all_goals
   rcases aUo G with⟨k0,u⟩|⟨k0,u,k2⟩|⟨k0,u,k2⟩
  all_goals cases k0
  all_goals
   replace E:=yA E;clear T p G;(try clear H);(try (have hq:=uz D;obtain⟨l0,l1⟩:=hq));have rN:=tF a n b j N 43;have fN:=iF a n b j N;rw[u]at rN fN;(try (rw[k2]at rN fN;clear k2));replace u:=yA u;go_wp2_with(first
    |(go_at_call 14;refine(O.o _ (by with_reducible first|exact P.o.B|exact(P.o.z vB).B|exact((P.o.z vB).z vB).B)).mono ?_;rintro e w9 ⟨a9,c9,b9,d9,rfl,hF,hT,g⟩;(first|replace P:=yA (P.o.z g)|replace P:=yA ((P.o.z vB).z g)|replace P:=yA (((P.o.z vB).z vB).z g));clear g i;have i:=P.o.cells rfl)
    |(go_at_call 59;refine(t.o _ P.o.B).mono ?_;rintro e w5 ⟨a5,c5,rfl,F,g⟩;have z:=yA F.tens;replace P:=yA (P.o.z g);clear F g i;have i:=P.o.cells rfl)
    |(go_at_call 48;apply aC (X.o _);rintro w6 rfl)
    |(go_at_call 60;apply aC (M.o D _ (P.o.z vB).B);intro w7 g;have C:=(iB.new w5 _ _).z g;replace g:=oB vB g;replace P:=yA (P.o.z g);replace z:=yA (z.o.z g);clear g i;have i:=P.o.cells rfl)
    |(go_at_call 61;refine(r.o _ P.o.B).mono ?_;rintro e w8 ⟨a8,c8,rfl,F,g⟩;have O8:=yA F;replace P:=yA (P.o.z g);replace z:=yA (z.o.z g);replace C:=C.z g;obtain⟨z0,z1⟩:=C.c2;have z2:=zA C;have z3:=Nat.ne_of_lt z2;have fM:=iF a8 c8 a5 c5 ⟨K,L,n5,f,N.lsn+1,cA,dA⟩;dsimp only at fM;clear fz F g C i;have i:=P.o.cells rfl)
    |(go_at_call 62;refine(Q.o _ _ _ _ _ u.o ((P.o.z vB).z vB).B).mono ?_;rintro e w9 ⟨b9,d9,rfl,hT,g⟩;replace g:=oB (oB vB vB) g;replace P:=yA (P.o.z g);have hF:=O8.o.z g;clear g z0 z1 i;have i:=P.o.cells rfl))
  .exact pY rfl rfl rfl rfl ((P.o.z vB).z vB) E.o ((O8.o.z vB).z vB) ((z.o.z vB).z vB)
  all_goals exact pY rfl rfl rfl rfl P.o E.o hF hT
end
def aTk(a:List eC):Prop:=∀i(h:i<vA a),a[i].N.size<=1000000000/\a[i].V.size<=1000000000
def AU(a:List eC):List gB:=a.flatMap fun l=>[kO l.N,qF l.V]
def qz(a:List eC)(k:Nat)(h:k<vA a):AU (a.take (k+1))=AU (a.take k)++[kO a[k].N,qF a[k].V]:=by
 unfold AU;rw[Pa h,He];rfl
def QU:∀(a:List eC),lF (AU a)=jD a
 |[]=>rfl
 |l::r=>by
  have e:AU (l::r)=[kO l.N,qF l.V]++AU r:=rfl;rw[e,zF,QU r,jD];simp[lF]
def xw(a:iC)(Z:Nat)(c:List eC)(w:eA)(hf:yD w a c)(hB:aTk c)(hlen:vA c<=255):
 qD 172 #[oA a (vA c) Z] w (nA (bI c)):=by
 have HF:xA (yD w a c):=hf;have HB:xA (aTk c):=hB;have HU:xA (∀W,qD 35 #[lA mA (vA c:Nat)] W (nA (pB 1 (vA c:Nat)))):=fun W=>EP (vA c) W;have hz1:=qB 1 (vA c:Nat);have V:xA (bI c=pB 1 (vA c:Nat)++jD c):=rfl;generalize pB 1 (vA c:Nat)=Y at *;obtain⟨ti,O,g0,h0,i0⟩:=BQ;have HI:xA (prog.info? 9=bA ti):=O;clear hf hB O;go_enter func172,ntmps172;go_wp2_with fail;apply aC (HU.o _);intro Q r;have B1:xA (kB w Q):=r;have e0:w.1.size<=Q.1.size:=r.size;clear r;go_wp2;go_loopw [3,5,12] (fun k0 _ i wr=>∃(k:Nat)(f:List gB)(g C:Nat),k<=vA c/\i=lA mA k/\k0=oA (bA ⟨g,0,aA⟩) (vA f) C/\vA f<=1+2*k/\wF f<=1+k*3000000000/\xA (f=Y::AU (c.take k))/\xA (wr.ownsRow w.1.size 9 1 (oA (bA ⟨g,0,aA⟩) (vA f) C) (vA f) (f.map iA.string))/\kB w wr) (fun _ _ i _=>vA c-(intOf i).toNat)
 case atStart=>
  exact⟨0,[Y],_,_,Oa _,rfl,rfl,by simp,by simp[wF];omega,rfl,⟨rfl,La ⟨Q.1.size,1,_,rfl,e0,heap_alloc_new _ _,Ia _,by simp[maxLen],rfl,rfl⟩⟩,oB B1.o vB⟩
 case round=>
  obtain⟨k,f,g,C,hk,rfl,rfl,hpl,hps,I,j,n⟩:=hrel;by_cases E:k<vA c
  .obtain ⟨b,o,rfl,hb,c0,c1⟩:=(HF.o.z n).at E;obtain⟨b0,d0⟩:=HB.o k E;have X:xA (∀W,qD 171 #[nA c[k].N] W (nA (kO c[k].N))):=fun W=>pT c[k].N W b0;have J:xA (∀W,qD 146 #[nA c[k].V] W (nA (qF c[k].V))):=fun W=>yL c[k].V W d0;have hz8:=lH c[k].N;have hz16:=uF c[k].V;have HT:=qz c k E;have U:xA (f++[kO c[k].N,qF c[k].V]=Y::AU (c.take (k+1))):=by show _=_;rw[HT,I.o];rfl
   clear HT;generalize kO c[k].N=q at *;generalize qF c[k].V=h at *;generalize c[k].N=F at *;generalize c[k].V=G at *;have s:xA (iB (wr.alloc (tA #[nA F,nA G] 116)) wr.1.size #[nA F,nA G] 116/\kB wr (wr.alloc (tA #[nA F,nA G] 116))):=⟨heap_alloc_new _ _,vB⟩
   have B:xA ((wr.alloc (tA #[nA F,nA G] 116)).ownsRow w.1.size 9 1 (oA (bA ⟨g,0,aA⟩) (vA f) C) (vA f) (f.map iA.string)/\kB w (wr.alloc (tA #[nA F,nA G] 116))):=⟨jC j.o vB,oB n vB⟩
   go_wp2_with fail;generalize wr.alloc (tA #[nA F,nA G] 116)=W at *;have S:=s.o.1.cell 0;have T:=s.o.1.cell 1;simp only[Xb,Ob,Ga]at S T;have l:wr.1.size<W.1.size:=zA s.o.1;have j0:w.1.size<=W.1.size:=B.o.2.size;have hgB:g<wr.1.size:=(oG j.o).2.1;clear j s hb c0 c1 n;generalize wr.1.size=v at *;clear wr;go_region_held3 (fun p=>p.cell? ⟨v,0,aA⟩=bA (nA F)/\p.cell? ⟨v,1,aA⟩=bA (nA G))
    (first
     |go_keep
     |exact⟨z.trans S,A.trans T⟩
     |exact⟨((d.alloc d.size _).cell l).trans S,((d.alloc d.size _).cell l).trans T⟩
     |exact⟨(d.cell l).trans S,(d.cell l).trans T⟩
     |exact⟨(u.cell l).trans S,(u.cell l).trans T⟩)
    ((first
      |(go_at_call 171;apply aC (X.o _);intro Q r;have u:kB W Q:=(Below.refl _ W).drew.trans r)
      |(go_at_call 146;apply aC (J.o _);intro w2 t;have d:kB W w2:=u.trans (t.mono u.size))
      |(refine tK _ (by rfl) _ _ _ (by rfl) w.1.size 9 ti _ 1 16 underlying204 HI.o g0 h0 i0 rfl (by omega) g (vA f) C _ (by rfl) (by exact jC (jC B.o.1 d) vB) _ 2 2 [nA q,nA h] (by rfl) rfl (by exact La ⟨_,rfl,eA.news_of_block (cs:=#[nA q,nA h]) (heap_alloc_new _ _)⟩) (by simp[iA.oneCell']) (by simp[maxLen];omega) (by omega) (by have:=d.size;simp;omega) ?_;intro g5 x R m K D hg5 L hlt5;have z:R.cell? ⟨v,0,aA⟩=W.cell? ⟨v,0,aA⟩:=(eA.cell?_of_block (D v (by have:=d.size;simp;omega) (by omega))).trans ((d.alloc d.size _).cell l);have A:R.cell? ⟨v,1,aA⟩=W.cell? ⟨v,1,aA⟩:=(eA.cell?_of_block (D v (by have:=d.size;simp;omega) (by omega))).trans ((d.alloc d.size _).cell l);have y:kB w R:=((oB B.o.2 d).alloc (Ua j0 d.size) _).trans K)))
   have P:f.map iA.string++[iA.string q,nA h]=(f++[q,h]).map iA.string:=by simp
   have N:vA (f++[q,h])=vA f+2:=by simp
   have hsm:wF (f++[q,h])=wF f+(q.size+h.size):=by rw[nH];simp[wF]
   rw[P,<-N]at m;rw[<-N];have H:xA (R.ownsRow w.1.size 9 1 (.slice (bA ⟨g5,0,aA⟩) (vA (f++[q,h])) x) (vA (f++[q,h])) ((f++[q,h]).map iA.string)/\kB w R):=⟨m,y⟩
   clear m K y D L z A P;generalize f++[q,h]=l0 at *;go_wp2;exact⟨⟨k+1,l0,g5,x,by omega,by go_num,rfl,by omega,by omega,U.o,H.o.1,H.o.2⟩,by simp[intOf];omega⟩
  have U:xA (lF f=bI c):=by
   show _=_;rw[I.o,Ra (by omega),lF,QU,V.o]
  obtain⟨a0,hg,M⟩:=oG j.o;have HJ:xA (qD 137 #[oA (bA ⟨g,0,aA⟩) (vA f) C] wr (nA (lF f))):=lI g (vA f) C f wr rfl M hg a0 (by omega) (by omega);rw[U.o]at HJ;clear j M;go_wp2_with fail;apply aC HJ.o;intro w2 t;have B2:xA (kB w w2):=oB n t;clear t;go_wp2;go_ret;exact⟨rfl,B2.o⟩
