import Derived.Test.YtbfnhppoecdnoaaGreatDoorJ32
import Derived.Test.YtbfnhppoecdnoaaGreatDoorJ30
set_option maxRecDepth 100000
set_option maxHeartbeats 16000000
set_option linter.defProp false
open Option renaming some->bA,none->aA
open Bool renaming false->cA,true->dA
open ByteArray renaming empty->kA
open List renaming length->vA
namespace Go.Proofs.YtbfnhppoecdnoaaGreatDoor
open Go renaming World->eA,TypeId->jA,Value->iA,Calls->gA
open Value renaming string->nA,int->lA,slice->oA,bool->pA,pointer->qA,agg->rA
open IntKind renaming i64->mA
open Obj renaming cells->tA
open Ending renaming returned->sA
open Go.RowKit Tryz
def VX(w:eA)(a:List TV):Prop:=∀y∈a,yB w y.a1 y.t.M/\yB w y.a2 y.t.Z
def VX.snoc{w:eA}{ys:List TV}(h:VX w ys){y:TV}(a:yB w y.a1 y.t.M)(b:yB w y.a2 y.t.Z):VX w (ys++[y]):=by grind [VX,yB]
def YO:∀(l:List TV)(i:Nat)(a:i<vA l),(dF l)[i*4]?=bA (nA l[i].t.N)/\(dF l)[i*4+1]?=bA (lA mA l[i].t.L)/\(dF l)[i*4+2]?=bA (.slice l[i].a1 (vA l[i].t.M) l[i].c1)/\(dF l)[i*4+3]?=bA (.slice l[i].a2 (vA l[i].t.Z) l[i].c2):=by
 intro l;unfold dF;induction l with
 |nil=>intro i a;exact absurd a (by simp)
 |cons x r b=>
  intro i a;cases i with
  |zero=>simp
  |succ i=>
   have:=b i (by simpa using a);simp only[Xc,Sd,Mb,Ec];refine⟨?_,?_,?_,?_⟩;rw[show(i+1)*4=i*4+1+1+1+1 by omega,Ga,Ga,Ga,Ga];exact this.1;rw[show(i+1)*4+1=i*4+1+1+1+1+1 by omega,Ga,Ga,Ga,Ga];exact this.2.1;rw[show(i+1)*4+2=i*4+2+1+1+1+1 by omega,Ga,Ga,Ga,Ga];exact this.2.2.1;rw[show(i+1)*4+3=i*4+3+1+1+1+1 by omega,Ga,Ga,Ga,Ga];exact this.2.2.2
def aPn{w m:eA}{B:Nat}{e:jA}{a:iC}{o:Nat}{l:List TV}(h:m.ownsRow B e 4 (oA a (vA l) o) (vA l) (dF l))(y:VX w l):
 ∀i(q:i<vA l),∃b,a=bA ⟨b,0,aA⟩/\b<m.1.size/\m.cell? ⟨b,i*4,aA⟩=bA (nA l[i].t.N)/\m.cell? ⟨b,i*4+1,aA⟩=bA (lA mA l[i].t.L)/\m.cell? ⟨b,i*4+2,aA⟩=bA (.slice l[i].a1 (vA l[i].t.M) l[i].c1)/\m.cell? ⟨b,i*4+3,aA⟩=bA (.slice l[i].a2 (vA l[i].t.Z) l[i].c2)/\yB w l[i].a1 l[i].t.M/\yB w l[i].a2 l[i].t.Z:=by
 intro i q;rcases h.2 with⟨_,E⟩|⟨g,s,p,u,D,v,_,_,z,r⟩;omega;simp only[iA.slice.injEq]at u;obtain⟨c,d,f,k⟩:=YO l i q;have n:∀j,j<vA l*4->m.cell? ⟨g,j,aA⟩=(dF l)[j]?:=fun j x=>by
  rw[iB.cell (show iB m g p e from v) j,<-Yd,<-r,Jb x]
 obtain⟨A,C⟩:=y l[i] (Gb q);refine⟨g,u.1,zA v,?_,?_,?_,?_,A,C⟩;rw[n _ (by omega)];exact c;rw[n _ (by omega)];exact d;rw[n _ (by omega)];exact f;rw[n _ (by omega)];exact k
def OK(r:xG)(g:iC)(sc:Nat)(c:lC)(a:iC)(e:Nat)(b:iC)(f:Nat)(N:oC)(l:Nat):Array iA:=#[lA mA r.K,nA r.T,nA r.R,lA mA r.U,oA g (vA r.P) sc,lA mA c.w,lA mA c.tl,lA mA c.ml,lA mA c.sh,lA mA c.ha,lA mA c.sg,oA a (vA N.d.fs) e,lA mA N.d.c,lA mA N.d.k,lA mA N.d.cr,lA mA N.d.fl,pA N.d.dn,lA mA N.l.first,lA mA N.l.last,lA mA N.l.size,lA mA N.now,oA b (vA N.ts) f,lA mA N.lsn,pA N.deg,pA N.up,qA (bA ⟨l,0,aA⟩)]
def aUa{r:xG}{g:iC}{sc:Nat}{c:lC}{a:iC}{e:Nat}{b:iC}{f:Nat}{N:oC}{l:Nat}{T:jA}:∀W D,iB W D (OK r g sc c a e b f N l) T->W.cell? ⟨D,0,aA⟩=bA (lA mA r.K)/\W.cell? ⟨D,1,aA⟩=bA (nA r.T)/\W.cell? ⟨D,2,aA⟩=bA (nA r.R)/\W.cell? ⟨D,3,aA⟩=bA (lA mA r.U)/\W.cell? ⟨D,4,aA⟩=bA (oA g (vA r.P) sc)/\W.cell? ⟨D,5,aA⟩=bA (lA mA c.w)/\W.cell? ⟨D,6,aA⟩=bA (lA mA c.tl)/\W.cell? ⟨D,7,aA⟩=bA (lA mA c.ml)/\W.cell? ⟨D,8,aA⟩=bA (lA mA c.sh)/\W.cell? ⟨D,9,aA⟩=bA (lA mA c.ha)/\W.cell? ⟨D,10,aA⟩=bA (lA mA c.sg)/\W.cell? ⟨D,11,aA⟩=bA (oA a (vA N.d.fs) e)/\W.cell? ⟨D,12,aA⟩=bA (lA mA N.d.c)/\W.cell? ⟨D,13,aA⟩=bA (lA mA N.d.k)/\W.cell? ⟨D,14,aA⟩=bA (lA mA N.d.cr)/\W.cell? ⟨D,15,aA⟩=bA (lA mA N.d.fl)/\W.cell? ⟨D,16,aA⟩=bA (pA N.d.dn)/\W.cell? ⟨D,17,aA⟩=bA (lA mA N.l.first)/\W.cell? ⟨D,18,aA⟩=bA (lA mA N.l.last)/\W.cell? ⟨D,19,aA⟩=bA (lA mA N.l.size)/\W.cell? ⟨D,20,aA⟩=bA (lA mA N.now)/\W.cell? ⟨D,21,aA⟩=bA (oA b (vA N.ts) f)/\W.cell? ⟨D,22,aA⟩=bA (lA mA N.lsn)/\W.cell? ⟨D,23,aA⟩=bA (pA N.deg)/\W.cell? ⟨D,24,aA⟩=bA (pA N.up)/\W.cell? ⟨D,25,aA⟩=bA (qA (bA ⟨l,0,aA⟩)):=
 fun _ _ h=>⟨h.cell 0,h.cell 1,h.cell 2,h.cell 3,h.cell 4,h.cell 5,h.cell 6,h.cell 7,h.cell 8,h.cell 9,h.cell 10,h.cell 11,h.cell 12,h.cell 13,h.cell 14,h.cell 15,h.cell 16,h.cell 17,h.cell 18,h.cell 19,h.cell 20,h.cell 21,h.cell 22,h.cell 23,h.cell 24,h.cell 25⟩
def fI{W:eA}{D:Nat}{T:jA}{r:xG}{g:iC}{sc:Nat}{c:lC}{a:iC}{e:Nat}{b:iC}{f:Nat}{N:oC}{l:Nat}(h:iB W D (OK r g sc c a e b f N l) T):(W.cell? ⟨D,0,aA⟩=bA (lA mA r.K)/\W.cell? ⟨D,1,aA⟩=bA (nA r.T)/\W.cell? ⟨D,2,aA⟩=bA (nA r.R)/\W.cell? ⟨D,3,aA⟩=bA (lA mA r.U)/\W.cell? ⟨D,4,aA⟩=bA (oA g (vA r.P) sc)/\W.cell? ⟨D,5,aA⟩=bA (lA mA c.w)/\W.cell? ⟨D,6,aA⟩=bA (lA mA c.tl)/\W.cell? ⟨D,7,aA⟩=bA (lA mA c.ml)/\W.cell? ⟨D,8,aA⟩=bA (lA mA c.sh)/\W.cell? ⟨D,9,aA⟩=bA (lA mA c.ha)/\W.cell? ⟨D,10,aA⟩=bA (lA mA c.sg)/\W.cell? ⟨D,11,aA⟩=bA (oA a (vA N.d.fs) e)/\W.cell? ⟨D,12,aA⟩=bA (lA mA N.d.c)/\W.cell? ⟨D,13,aA⟩=bA (lA mA N.d.k)/\W.cell? ⟨D,14,aA⟩=bA (lA mA N.d.cr)/\W.cell? ⟨D,15,aA⟩=bA (lA mA N.d.fl)/\W.cell? ⟨D,16,aA⟩=bA (pA N.d.dn)/\W.cell? ⟨D,17,aA⟩=bA (lA mA N.l.first)/\W.cell? ⟨D,18,aA⟩=bA (lA mA N.l.last)/\W.cell? ⟨D,19,aA⟩=bA (lA mA N.l.size)/\W.cell? ⟨D,20,aA⟩=bA (lA mA N.now)/\W.cell? ⟨D,21,aA⟩=bA (oA b (vA N.ts) f)/\W.cell? ⟨D,22,aA⟩=bA (lA mA N.lsn)/\W.cell? ⟨D,23,aA⟩=bA (pA N.deg)/\W.cell? ⟨D,24,aA⟩=bA (pA N.up)/\W.cell? ⟨D,25,aA⟩=bA (qA (bA ⟨l,0,aA⟩)))/\D<W.1.size/\¬D=W.1.size:=
 have:=zA h
 ⟨aUa _ _ h,this,by omega⟩
def aNp{C:eA->Prop}{w:eA}{D:Nat}{y z A B E F G H I J e K L M N O P Q R S T s u v x f g i j l m n o q r a b c d p:iA}{t:jA}(h:iB w D #[y,z,A,B,E,F,G,H,I,J,e,K,L,M,N,O,P,Q,R,S,T,s,u,v,x,p] t)(k:∀W,iB W D #[y,z,A,B,E,F,G,H,I,J,e,f,g,i,j,l,m,n,o,q,r,a,b,c,d,p] t->bB (·=D) w W->C W):C ((((((((((((((w.setCell ⟨D,11,aA⟩ f).setCell ⟨D,12,aA⟩ g).setCell ⟨D,13,aA⟩ i).setCell ⟨D,14,aA⟩ j).setCell ⟨D,15,aA⟩ l).setCell ⟨D,16,aA⟩ m).setCell ⟨D,17,aA⟩ n).setCell ⟨D,18,aA⟩ o).setCell ⟨D,19,aA⟩ q).setCell ⟨D,20,aA⟩ r).setCell ⟨D,21,aA⟩ a).setCell ⟨D,22,aA⟩ b).setCell ⟨D,23,aA⟩ c).setCell ⟨D,24,aA⟩ d):=
 k _ (by have:=((((((((((((((h.set 11 f).set 12 g).set 13 i).set 14 j).set 15 l).set 16 m).set 17 n).set 18 o).set 19 q).set 20 r).set 21 a).set 22 b).set 23 c).set 24 d);simpa using this) (((((((((((((((bB.refl (·=D) w).setCell (Ca rfl) 11 f).setCell (Ca rfl) 12 g).setCell (Ca rfl) 13 i).setCell (Ca rfl) 14 j).setCell (Ca rfl) 15 l).setCell (Ca rfl) 16 m).setCell (Ca rfl) 17 n).setCell (Ca rfl) 18 o).setCell (Ca rfl) 19 q).setCell (Ca rfl) 20 r).setCell (Ca rfl) 21 a).setCell (Ca rfl) 22 b).setCell (Ca rfl) 23 c).setCell (Ca rfl) 24 d)
def oS(M:oC)(x:Int):Int:=if x=0 then 0 else if x=22\/x=23\/x=21\/x=62 then 2 else if M.up=cA then 4 else 3
def aSx(M:oC)(x:Int):(x==0)=dA/\oS M x=0\/(x==0)=cA/\(((x==22)=dA\/(x==22)=cA/\((x==23)=dA\/(x==23)=cA/\((x==21)=dA\/(x==21)=cA/\(x==62)=dA)))/\oS M x=2\/(x==22)=cA/\(x==23)=cA/\(x==21)=cA/\(x==62)=cA/\(M.up=cA/\oS M x=4\/M.up=dA/\oS M x=3)):=by
 unfold oS;cases M.up<;>grind
def bl(x:aB):Prop:=vA x.M<=2000000/\vA x.Z<=2000000/\∀i(h:i<vA x.Z),0<=x.Z[i].n/\x.Z[i].n<=2000000000000
def aQj(t p:aB)(l:List aB)(b:Bool):b=dA/\(p.N.toList==t.N.toList)=dA/\qM t (l,b) p=(l,dA)\/b=dA/\(p.N.toList==t.N.toList)=cA/\qM t (l,b) p=(l++[p],dA)\/
 b=cA/\(p.N.toList==t.N.toList)=cA/\(t.N.toList==p.N.toList)=cA/\Op.bytesLess t.N.toList p.N.toList=cA/\qM t (l,b) p=(l++[p],cA)\/b=cA/\(p.N.toList==t.N.toList)=cA/\Op.bytesLess t.N.toList p.N.toList=dA/\qM t (l,b) p=(l++[t]++[p],dA)\/
 b=cA/\(p.N.toList==t.N.toList)=dA/\(t.N.toList==p.N.toList)=dA/\Op.bytesLess t.N.toList p.N.toList=cA/\qM t (l,b) p=(l++[t],dA):=by
 cases b with
 |true=>cases h:(p.N.toList==t.N.toList)<;>simp[qM,h]
 |false=>
  by_cases f:aK p.N t.N=dA
  .have d:=cE (eJ f);exact La (La (Ca ⟨rfl,d,cE (eJ f).symm,BJ f,by simp[qM,f,d]⟩))
  have e:aK p.N t.N=cA:=by simpa using f
  by_cases g:aK t.N p.N=dA
  .have d:=cE (eJ g).symm;exact La (La (La (Ca ⟨rfl,d,g,by simp[qM,e,d]⟩)))
  have j:=Decidable.byContradiction fun i=>g (gW e i);have d:=(jE _ _).2 j;exact La (La (La (La ⟨rfl,d,(jE _ _).2 j.symm,by simpa[aK]using g,by simp[qM,e,d]⟩)))
structure PW(w W:World)(c:lC)(now:Int)(a:iC)(n cap:Nat)(t:aB)(a1:iC)(c1:Nat)(a2:iC)(c2:Nat):Prop where
 C:iB W w.1.size #[lA mA c.w,lA mA c.tl,lA mA c.ml,lA mA c.sh,lA mA c.ha,lA mA c.sg] 46
 S:iB W (w.1.size+1) #[lA mA now,oA a n cap] 41
 T:iB W (w.1.size+1+1) #[nA t.N,lA mA t.L,oA a1 (vA t.M) c1,oA a2 (vA t.Z) c2] 85
 R:iB W (w.1.size+1+1+1) #[lA mA 0,oA aA 0 0] 41
 B:kB w W
section
variable {w W W':eA} {c:lC} {now:Int} {a:iC} {n cap:Nat} {t:aB} {a1:iC} {c1:Nat} {a2:iC} {c2:Nat}
theorem PW.new(h:W=((((w.alloc (tA #[lA mA c.w,lA mA c.tl,lA mA c.ml,lA mA c.sh,lA mA c.ha,lA mA c.sg] 46)).alloc (tA #[lA mA now,oA a n cap] 41)).alloc (tA #[nA t.N,lA mA t.L,oA a1 (vA t.M) c1,oA a2 (vA t.Z) c2] 85)).alloc (tA #[lA mA 0,oA aA 0 0] 41))):
 PW w (W.alloc (tA #[] 85)) c now a n cap t a1 c1 a2 c2/\(W.alloc (tA #[] 85)).ownsRow (w.1.size+4) 85 4 (oA (bA ⟨w.1.size+1+1+1+1,0,aA⟩) 0 0) 0 []/\w.1.size+4<(W.alloc (tA #[] 85)).1.size:=by
 subst h;refine⟨⟨((((iB.new _ _ _).alloc _).alloc _).alloc _).alloc _,?_,?_,?_,oB (oB (oB (oB vB vB) vB) vB) vB⟩,?_,by simp⟩;have:=(((iB.new (w.alloc (tA #[lA mA c.w,lA mA c.tl,lA mA c.ml,lA mA c.sh,lA mA c.ha,lA mA c.sg] 46)) #[lA mA now,oA a n cap] 41).alloc (tA #[nA t.N,lA mA t.L,oA a1 (vA t.M) c1,oA a2 (vA t.Z) c2] 85)).alloc (tA #[lA mA 0,oA aA 0 0] 41)).alloc (tA #[] 85);simpa using this;have:=((iB.new ((w.alloc (tA #[lA mA c.w,lA mA c.tl,lA mA c.ml,lA mA c.sh,lA mA c.ha,lA mA c.sg] 46)).alloc (tA #[lA mA now,oA a n cap] 41)) #[nA t.N,lA mA t.L,oA a1 (vA t.M) c1,oA a2 (vA t.Z) c2] 85).alloc (tA #[lA mA 0,oA aA 0 0] 41)).alloc (tA #[] 85);simpa using this;have:=(iB.new (((w.alloc (tA #[lA mA c.w,lA mA c.tl,lA mA c.ml,lA mA c.sh,lA mA c.ha,lA mA c.sg] 46)).alloc (tA #[lA mA now,oA a n cap] 41)).alloc (tA #[nA t.N,lA mA t.L,oA a1 (vA t.M) c1,oA a2 (vA t.Z) c2] 85)) #[lA mA 0,oA aA 0 0] 41).alloc (tA #[] 85);simpa using this;have:=eA.ownsRow_made (e:=85) (size:=4) (base:=w.1.size+4) ((((w.alloc (tA #[lA mA c.w,lA mA c.tl,lA mA c.ml,lA mA c.sh,lA mA c.ha,lA mA c.sg] 46)).alloc (tA #[lA mA now,oA a n cap] 41)).alloc (tA #[nA t.N,lA mA t.L,oA a1 (vA t.M) c1,oA a2 (vA t.Z) c2] 85)).alloc (tA #[lA mA 0,oA aA 0 0] 41)) #[] 0 (by simp) (by simp[maxLen]) (by simp);simpa using this
theorem PW.keep(h:PW w W c now a n cap t a1 c1 a2 c2)(b:Below (w.1.size+4) W W'):PW w W' c now a n cap t a1 c1 a2 c2:=
 ⟨(b.block _ (by omega)).trans h.C,(b.block _ (by omega)).trans h.S,(b.block _ (by omega)).trans h.T,(b.block _ (by omega)).trans h.R,h.B.trans (b.mono (by omega))⟩
end
def FB(c:lC)(Q now:Int)(a:iC)(cap:Nat)(p:List aB)(t:aB)(a1 a2:iC)(c1 c2:Nat)(w:eA)(hf:nC w a p)(p1:yB w a1 t.M)(p2:yB w a2 t.Z)(hlen:vA p<=2000000)(hfit:∀x,x=t\/x∈p->bl x)(hn0:0<=now)(hn1:now<=2000000000000):
 gA prog 64 #[oF c,rA #[lA mA Q,oA a (vA p) cap],lA mA now,rA #[nA t.N,lA mA t.L,oA a1 (vA t.M) c1,oA a2 (vA t.Z) c2]] w fun e w'=>∃a' cap',e=sA (rA #[lA mA now,.slice a' (vA (dE c.w now (FY t t.N.toList.isEmpty p))) cap'])/\vC w' w.1.size a' (dE c.w now (FY t t.N.toList.isEmpty p))/\kB w w':=by
 have HF:=yA hf;have HP:=yA (Vc p1 p2);have HFT:=yA hfit;clear hf p1 p2 hfit;obtain⟨RES,L⟩:∃R,R=dE c.w now (FY t t.N.toList.isEmpty p):=⟨_,rfl⟩
 rw[<-L];have HRES:=yA L;clear L;have HW:=yA (PW.new (w:=w) (c:=c) (now:=Q) (a:=a) (n:=vA p) (cap:=cap) (t:=t) (a1:=a1) (c1:=c1) (a2:=a2) (c2:=c2) rfl);unfold oF;go_enter func64,ntmps64;go_upto_region 3 with fail;generalize (((((w.alloc (tA #[lA mA c.w,lA mA c.tl,lA mA c.ml,lA mA c.sh,lA mA c.ha,lA mA c.sg] 46)).alloc (tA #[lA mA Q,oA a (vA p) cap] 41)).alloc (tA #[nA t.N,lA mA t.L,oA a1 (vA t.M) c1,oA a2 (vA t.Z) c2] 85)).alloc (tA #[lA mA 0,oA aA 0 0] 41)).alloc (tA #[] 85))=w1 at *;generalize t.N.toList.isEmpty=b0 at *;obtain⟨hP,hL,hw1⟩:=HW.o;have P1:=yA hP;have L1:=yA hL;obtain⟨-,y1⟩:=hP.S.c2;clear hP hL HW;go_wp2;clear y1;go_loopw [9,10,12,24] (fun al pl _ i wr=>∃(k:Nat)(V:iC)(X:Nat)(o:List TV),k<=vA p/\i=lA mA k/\al=oA V (vA o) X/\pl=pA (aX t b0 (p.take k)).2/\vA o<=2*k/\xA (wr.ownsRow (w.1.size+4) 85 4 (oA V (vA o) X) (vA o) (dF o))/\xA (o.map (·.t)=(aX t b0 (p.take k)).1)/\xA (VX w o)/\xA (Below (w.1.size+4) w1 wr)) (fun _ _ _ i _=>vA p-(intOf i).toNat)
 case atStart=>exact⟨0,_,_,[],Oa _,rfl,rfl,rfl,Oa _,L1.o,rfl,fun y hy=>(by cases hy),eD⟩
 case round=>
  obtain⟨k,V,X,o,hk,rfl,rfl,rfl,hyl,HR,J,D,r⟩:=hrel;have hsr:=r.o.size;have Pr:=yA (P1.o.keep r.o);by_cases G:k<vA p
  .obtain ⟨pb,po,q1,d1,q2,d2,rfl,hpl,z0,z1,z2,z3,o1,o2⟩:=HF.o.at G;have HO:=yA (Vc o1 o2);have HU:=yA (aAq t b0 p k G);have v0:=(Pr.o.B.cell hpl).trans z0;have v1:=(Pr.o.B.cell hpl).trans z1;have v2:=(Pr.o.B.cell hpl).trans z2;have v3:=(Pr.o.B.cell hpl).trans z3;clear z0 z1 z2 z3 o1 o2;generalize aX t b0 (p.take k)=U at *;generalize p[k]=P at *;obtain⟨LU,PU⟩:=U;have hy:o.map (·.t)=LU:=J.o;subst hy;obtain⟨u0,u1,u2,u3⟩:=Pr.o.T.c4;have hlr:w.1.size+1+1<wr.1.size:=by omega
   rcases aQj t P (o.map (·.t)) PU with⟨rfl,hs,hU⟩|⟨rfl,hs,hU⟩|⟨rfl,hs,h1,h2,hU⟩|⟨rfl,hs,h2,hU⟩|⟨rfl,hs,h1,h2,hU⟩
   all_goals
    have z:=yA (HU.o.trans hU);clear J HU hU;go_wp2_with(at_builtin;first
     |(refine vQ rfl _ _ rfl underlying39 pO rfl (by omega) (by omega) (v:=oA (bA ⟨g7,0,aA⟩) (vA o+1) A) rfl s.o rfl rfl rfl (by simp[iA.oneCell']) (by omega) hs7 ?_;intro g8 cap8 H HR8 HT8)
     |(refine vQ rfl _ _ rfl underlying39 pO rfl (by omega) (by omega) (v:=oA V (vA o) X) rfl (jC HR.o vB) rfl (by simp) rfl (by simp[iA.oneCell']) (by omega) (by simp;omega) ?_;intro g7 A w7 s u;have hs7:w.1.size+4<=w7.1.size:=(by have:=u.o.size;simp at this;omega);clear u0 u1 u2 u3;obtain⟨u0,u1,u2,u3⟩:=(u.o.blk (Pr.o.T.alloc _) (fun e=>by omega)).c4;obtain⟨r0,r1,r2,r3⟩:=(u.o.blk (iB.new wr #[nA P.N,lA mA P.L,oA q1 (vA P.M) d1,oA q2 (vA P.Z) d2] 85) (fun e=>by have:=(HR.o.lt _ e.2).2;omega)).c4))
    first
     |(have q:=HR8;exact⟨⟨k+1,bA ⟨g8,0,aA⟩,cap8,o++[⟨t,a1,c1,a2,c2⟩]++[⟨P,q1,d1,q2,d2⟩],by omega,by go_num,by simp,by rw[z.o],by simp;omega,yA (by simpa[dF]using HR8.o),yA (by rw[z.o];simp),(D.o.snoc HP.o.1 HP.o.2).snoc HO.o.1 HO.o.2,yA ((r.o.trans ((vB.mono (by omega)).trans (u.o.below (by simp;omega) fun i hi e=>by omega))).trans (HT8.o.below hs7 fun i hi e=>by omega))⟩,by simp[intOf];omega⟩)
     |(have q:=s;have q:(P.N.toList==t.N.toList)=cA:=hs;exact⟨⟨k+1,bA ⟨g7,0,aA⟩,A,o++[⟨P,q1,d1,q2,d2⟩],by omega,by go_num,by simp,by rw[z.o],by simp;omega,yA (by simpa[dF]using s.o),yA (by rw[z.o];simp),D.o.snoc HO.o.1 HO.o.2,yA (r.o.trans ((vB.mono (by omega)).trans (u.o.below (by simp;omega) fun i hi e=>by omega)))⟩,by simp[intOf];omega⟩)
     |(have q:=s;exact⟨⟨k+1,bA ⟨g7,0,aA⟩,A,o++[⟨t,a1,c1,a2,c2⟩],by omega,by go_num,by simp,by rw[z.o],by simp;omega,yA (by simpa[dF]using s.o),yA (by rw[z.o];simp),D.o.snoc HP.o.1 HP.o.2,yA (r.o.trans ((vB.mono (by omega)).trans (u.o.below (by simp;omega) fun i hi e=>by omega)))⟩,by simp[intOf];omega⟩)
     |exact⟨⟨k+1,V,X,o,by omega,by go_num,rfl,by rw[z.o],by omega,jC HR.o vB,yA (by rw[z.o]),D.o,r.o.trans (vB.mono (by omega))⟩,by simp[intOf];omega⟩
  have ek:p.take k=p:=Ra (by omega);rw[ek]at J |-
  have HWA:xA (FY t b0 p=(aX t b0 p).1++if (aX t b0 p).2=dA then [] else [t]):=rfl;generalize aX t b0 p=U at *;obtain⟨LU,PU⟩:=U;have hy:o.map (·.t)=LU:=J.o;subst hy;have hyl2:vA o<=4000000:=by omega
  obtain⟨u0,u1,u2,u3⟩:=Pr.o.T.c4;clear ek hyl J;go_upto_if 52 with fail;go_cut [9] (fun al wx=>∃(V:iC)(X:Nat)(o:List TV),al=oA V (vA o) X/\vA o<=4000001/\wx.ownsRow (w.1.size+4) 85 4 (oA V (vA o) X) (vA o) (dF o)/\o.map (·.t)=FY t b0 p/\VX w o/\Below (w.1.size+4) w1 wx)
  case first=>
   cases PU
   all_goals
    go_wp2_with(at_builtin;refine vQ rfl _ _ rfl underlying39 pO rfl (by omega) (by omega) (v:=oA V (vA o) X) rfl HR.o rfl rfl rfl (by simp[iA.oneCell']) (by omega) (by omega) ?_;intro g7 A w7 s u);go_meet;first
     |(have q:=s;exact⟨bA ⟨g7,0,aA⟩,A,o++[⟨t,a1,c1,a2,c2⟩],by simp,by simp;omega,by simpa[dF]using s.o,by rw[HWA.o];simp,D.o.snoc HP.o.1 HP.o.2,r.o.trans (u.o.below (by omega) fun i hi e=>by omega)⟩)
     |exact⟨_,_,o,rfl,by omega,HR.o,by rw[HWA.o];simp,D.o,r.o⟩
  clear HR D r Pr HWA u0 u1 u2 u3 hyl2;obtain⟨V,X,o,rfl,hyl2,hR,hY,hO,hB⟩:=hcut;rename eA=>H;have HTA:=yA (aPn hR hO);have P8:=yA (P1.o.keep hB);have hs8:=hB.size;have HRL:xA (RES=dE c.w now (o.map (·.t))):=by show _=_;rw[HRES.o,hY]
  have HFY:xA (∀i(h:i<vA o),bl o[i].t):=fun i h=>HFT.o _ (by
   have hm:o[i].t∈o.map (·.t):=Tc (Gb h);rw[hY]at hm;exact aMu hm)
  clear hR hY hO hB HRES HFT P1 L1;go_wp2;have HX9:=yA (iB.new H #[lA mA now,oA aA 0 0] 41);have B9:=yA (yG H (tA #[lA mA now,oA aA 0 0] 41));have hs9:H.1.size<(H.alloc (tA #[lA mA now,oA aA 0 0] 41)).1.size:=by simp
  generalize H.alloc (tA #[lA mA now,oA aA 0 0] 41)=w9 at *;go_loopw [15,16,61] (fun _ _ i wr=>∃(k:Nat)(v:iA),k<=vA o/\i=lA mA k/\xA (iB wr H.1.size #[lA mA now,v] 41)/\xA (gT wr w9.1.size 85 v (vA (dE c.w now ((o.map (·.t)).take k))) (dE c.w now ((o.map (·.t)).take k)))/\xA (bB (·=H.1.size) w9 wr)) (fun _ _ i _=>vA o-(intOf i).toNat)
  case atStart=>exact⟨0,oA aA 0 0,Oa _,rfl,HX9.o,gT.nil _ _ _,bB.refl _ _⟩
  case round=>
   obtain⟨k,v,hk,rfl,HX,I,F⟩:=hrel;have hs9r:=F.o.size;have BWr:=yA ((oB P8.o.B B9.o).trans (F.o.below (by omega) fun i hi e=>by omega));by_cases G:k<vA o
   .obtain ⟨b,hbe,hb8,z0,z1,z2,z3,o1,o2⟩:=HTA.o k G;have N:∀j,wr.cell? ⟨b,j,aA⟩=H.cell? ⟨b,j,aA⟩:=fun j=>eA.cell?_of_block ((F.o.block b (by omega) (by omega)).trans (B9.o.block b hb8));have v0:=(N _).trans z0;have v1:=(N _).trans z1;have v2:=(N _).trans z2;have v3:=(N _).trans z3;clear N z0 z1 z2 z3;cases hbe
    have HT:xA (dE c.w now ((o.map (·.t)).take (k+1))=dE c.w now ((o.map (·.t)).take k)++if aF (bF c.w now o[k].t)=dA then [] else [bF c.w now o[k].t]):=by
     show _=_;rw[aJv _ _ _ _ (by rw[Xa];exact G)];simp
    have hkl:vA (dE c.w now ((o.map (·.t)).take k))<=4000001:=by
     have:=aRs c.w now (o.map (·.t)) k;rw[Xa]at this;omega
    obtain⟨d,f,l⟩:=HFY.o k G;have HKT:xA (∀W,kB w W->gA prog 65 #[rA #[nA o[k].t.N,lA mA o[k].t.L,.slice o[k].a1 (vA o[k].t.M) o[k].c1,.slice o[k].a2 (vA o[k].t.Z) o[k].c2],lA mA now,lA mA c.w] W fun e w'=>KF W (bF c.w now o[k].t).N (bF c.w now o[k].t) e w'):=fun W hW=>yc o[k].t _ _ _ _ now c.w W (o1.z hW) (o2.z hW) d f hn0 hn1 l;unfold KF at HKT;clear o1 o2 d f l;generalize dE c.w now ((o.map (·.t)).take k)=KL at *;generalize bF c.w now o[k].t=K at *;generalize o[k]=Y at *;obtain⟨x0,-⟩:=((F.o.blk (P8.o.C.z B9.o) (by omega)).alloc (tA #[nA Y.t.N,lA mA Y.t.L,oA Y.a1 (vA Y.t.M) Y.c1,oA Y.a2 (vA Y.t.Z) Y.c2] 85)).c6;go_wp2_with fail;refine(HKT.o _ (oB BWr.o vB)).mono ?_;rintro e w4 ⟨M,x1,e1,x2,e2,rfl,hM,h1,h1M,h2,hM4,hb4⟩;have hM':wr.1.size<=M:=by simp at hM;omega
    have HH1:xA (mC w4 wr.1.size x1 K.M):=h1.mono (by simp);have HH2:=yA (Vc h1M h2);have B4:=yA (oB vB hb4);have hs4:=B4.o.size;clear hM h1 h1M h2 hb4 x0 v0 v1 v2 v3;go_wp2_with fail;apply aC (EZ K _ _ _ _ _);intro w5 hb5;have B45:xA _:=oB vB hb5;have B5:=yA (oB B4.o B45.o);have X5:=yA ((iB.new w4 #[nA K.N,lA mA K.L,oA x1 (vA K.M) e1,oA x2 (vA K.Z) e2] 85).z hb5);have O5:=yA (HX.o.z B5.o);have T5:xA _:=F.o.trans (bB.of B5.o);have hs5:=zA X5.o;clear hb5 HKT;cases hidl:aF K with
    |true=>
     have HTT:xA (dE c.w now ((o.map (·.t)).take (k+1))=KL):=by show _=_;rw[HT.o,Ma hidl,Cd]
     clear hidl;go_wp2;refine⟨⟨k+1,v,by omega,by go_num,O5.o,?_,T5.o⟩,by simp[intOf];omega⟩;rw[HTT.o];exact I.o.turn (bB.of (S:=fun _=>False) B5.o) (fun _ e=>e.elim)
    |false=>
     have HTT:xA (dE c.w now ((o.map (·.t)).take (k+1))=KL++[K]):=by show _=_;rw[HT.o,Ja (by rw[hidl];simp)]
     clear hidl;obtain⟨TG,zs,hV1,hV2,hV3,hV4⟩:=I.o;have HV1:=yA (jC hV1 B5.o);have a0:=yA (⟨hV2,hV3,hV4⟩:_/\_/\_);have HOB:=yA (fun q(hq:v.ownBlock=bA q)=>hV1.lt q hq);clear hV1 hV2 hV3 hV4;obtain⟨-,s1⟩:=O5.o.c2;obtain⟨r0,r1,r2,r3⟩:=X5.o.c4;go_wp2_with(at_builtin;refine eO rfl _ _ rfl underlying39 pO rfl (by omega) (by omega) (v:=v) rfl HV1.o rfl rfl rfl (by simp[iA.oneCell']) (by omega) (by omega) ?_;intro gg E w6 HO6 Z HAT6;have BX6:=yA (Z.o.blk O5.o (fun e=>by omega));obtain⟨-,s2⟩:=BX6.o.c2;have s3:=BX6.o.free);have hgg:(v.ownBlock=bA gg/\gg<wr.1.size)\/w4.1.size<=gg:=HAT6.o.elim (fun h=>Ca ⟨h,(HOB.o _ h).2⟩) fun h=>La (by omega);have hgb:=hgg.elim (fun h=>(HOB.o _ h.1).1) fun h=>by omega
     have O:bB (·=H.1.size) w6 (w6.setCell ⟨H.1.size,1,aA⟩ (oA (bA ⟨gg,0,aA⟩) (vA KL+1) E)):=(bB.refl (·=H.1.size) w6).setCell (Ca rfl) 1 _;have hgs:=Z.o.size;have hk5:∀g,g<w5.1.size->w9.1.size<=g->v.ownBlock≠bA g->(w6.setCell ⟨H.1.size,1,aA⟩ (oA (bA ⟨gg,0,aA⟩) (vA KL+1) E)).heap[g]?=w5.heap[g]?:=fun g hg hgR2 hne=>by
      rw[O.block g (by omega) (by omega),Z.o.block g hg (fun e=>hne e.2)]
     refine⟨⟨k+1,oA (bA ⟨gg,0,aA⟩) (vA KL+1) E,by omega,by go_num,yA (by have:=BX6.o.set 1 (oA (bA ⟨gg,0,aA⟩) (vA KL+1) E);simpa using this),?_,(T5.o.trans (Z.o.mono fun i _ e=>La e.1)).trans' O⟩,by simp[intOf];omega⟩;rw[HTT.o,Kb];have hyk:vA zs=vA KL:=by rw[<-a0.o.1,Xa]
     exact gT.snoc (wr:=wr) (w4:=w4) (M:=M) (v:=v) (T:=TG) (ys:=zs) (O.row HO6.o (fun q hq e=>by simp[iA.ownBlock]at hq;omega)) a0.o.1 hyk a0.o.2.1 a0.o.2.2 (by omega) hM'
      (fun g hg hgR2 hne=>(hk5 g (by omega) hgR2 hne).trans (B5.o.block g hg))
      (fun g hg hg4=>(hk5 g (by omega) (by omega) (fun e=>by have:=(HOB.o _ e).2;omega)).trans (B45.o.block g hg4))
      HH1.o HH2.o.1 HH2.o.2 hgg hs4 hM4
   have ek:(o.map (·.t)).take k=o.map (·.t):=Ra (by rw[Xa];omega);rw[ek,<-HRL.o]at I;obtain⟨ra,rc,rfl⟩:=I.o.row;have Yr:=yA (F.o.blk (P8.o.R.z B9.o) (by omega));obtain⟨x0,x1⟩:=HX.o.c2;obtain⟨y0,y1⟩:=Yr.o.c2;have m:=Yr.o.free;go_wp2;have HTE:bB (·=w.1.size+1+1+1) wr ((wr.setCell ⟨w.1.size+1+1+1,0,aA⟩ (lA mA now)).setCell ⟨w.1.size+1+1+1,1,aA⟩ (oA ra (vA RES) rc)):=((bB.refl (·=w.1.size+1+1+1) wr).setCell (Ca rfl) 0 _).setCell (Ca rfl) 1 _;refine bodyPost_ret (v:=rA #[lA mA now,oA ra (vA RES) rc]) (by simp[results,results64,go_sem,y0,y1]) rfl ⟨ra,⟨rc,rfl⟩,((I.o.turn HTE (fun g e=>by omega)).own rfl).mono (by omega),((bB.of (S:=fun i=>w.1.size<=i) BWr.o).trans' (HTE.mono fun i _ e=>by omega)).below (Ia _) fun i hi h=>by omega⟩
def du{P:Program}(ρ:Operand->iA)(o:Oper)(r:Operand)(name:String)(a:o.op=.call { callee:=.invoke r name,args:=#[],argTypes:=#[] }){u:iA}(b:ρ r=u){n:Next}{w:eA}
(h:(invoke (.fn (.method name) #[]) #[u]).run P w=.ok n w):(execOp ρ o).run P w=.ok n w:=by
 unfold execOp;simp only[a,resolve];simp[b,h]
def js{P:Program}{c:Array Oper}{C:eA->Prop}{Q:Act->Prop}{a:Act}{o:Oper}{b:List Oper}{f:FuncId}{args:Array iA}{v:iA}(hw:Region.wanted o (yielded c a.tmps)=dA)
(j:∀w,(execOp a.eval o).run P w=.ok (.enter f args) w)(i:∀w,C w->gA P f args w (fun e d=>e=sA v/\C d))(h:wpQuiet P c C Q b (a.put o.dst v)):wpQuiet P c C Q (o::b) a:=
 BigFrame.wpQuiet_want hw fun K g=>⟨v,fun w hw=>by unfold Oper.quietAt;rw[j];exact⟨rfl,i w hw⟩,g _ h⟩
def uq{P:Program}{c:Array Oper}{C:eA->Prop}{Q:Act->Prop}{a:Act}{o:Oper}{b:List Oper}{v:iA}(hw:Region.wanted o (yielded c a.tmps)=dA)
(e:∀w,(execOp a.eval o).run P w=.ok (.value v) w)(h:wpQuiet P c C Q b (a.put o.dst v)):wpQuiet P c C Q (o::b) a:=
 BigFrame.wpQuiet_want hw fun K d=>⟨v,fun w hw=>by unfold Oper.quietAt;rw[e];exact⟨rfl,rfl⟩,d _ h⟩
def aRj(k a n b:Int)(t c x d:gB)(W:eA):(binOp .eql 71 (rA #[lA mA k,nA t,nA x,lA mA n]) (rA #[lA mA a,nA c,nA d,lA mA b])).run prog W=.ok (pA (k==a&&(t.toList==c.toList&&(x.toList==d.toList&&n==b)))) W:=by
 rw[run_eql_struct,run_equalIn_agg W _ _ _ _ (by kernel_rfl) (by kernel_rfl)];unfold Program.fieldsOf;rw[underlying71];simp[Op.eqFields,go_sem,underlying3,underlying9];repeat' split
 all_goals simp_all
def mu(ρ:Operand->iA)(o:Oper)(p q:Operand)(g:o.op=.binOp .eql 71 p q 71){k a n c:Int}{t d x e:gB}
(h:ρ p=rA #[lA mA k,nA t,nA x,lA mA n])(i:ρ q=rA #[lA mA a,nA d,nA e,lA mA c]){b:Bool}(f:(k==a&&(t.toList==d.toList&&(x.toList==e.toList&&n==c)))=b)(W:eA):
 (execOp ρ o).run prog W=.ok (.value (pA b)) W:=by
 unfold execOp;simp only[g,h,i,Sem.run_bind,run_eqGuard_agg W _ _ _ _ _ _ (show prog.eqGuardType prog.depth 71=cA by kernel_rfl),Result.andThen_ok,aRj,f,Sem.run_pure]
def aIl{x:gB}:x.toList=ByteArray.empty.toList ↔ x.size=0:=by
 rw[ByteArray.toList_eq,ByteArray.toList_eq];constructor;intro h;show x.data.size=0;rw[<-Qg,h];rfl;intro h;have:vA x.data.toList=0:=by simpa using h
 rw[Nb.1 this];rfl
def TA{k i r j:Int}{a c l m:gB}{p:jA}{s:iA}{f:FuncId}{args:Array iA}{b:Bool}(w:eA)(_h1:a.size<=1000000000)(_h2:c.size<=1000000000)
(B:xA (∀W,qD 284 #[rA #[lA mA k,nA a,nA c,lA mA i]] W (.tuple #[.iface p s,pA dA])))
(A : xA (∀ W, (invoke (.fn (.method "loop.example/s02176/impl.flat") #[]) #[.iface p s]).run prog W = .ok (.enter f args) W))(y : xA (∀ W, Calls prog f args W fun e n => e = .returned (.agg #[.int .i64 r, .string l, .string m, .int .i64 j]) /\ kB W n))
(z:xA ((r==k&&(l.toList==a.toList&&(m.toList==c.toList&&j==i)))=b))(E:xA (jv ⟨k,a,c,i⟩=(b&&(decide ((a.size:Int)<=255) &&decide ((c.size:Int)<=65535))))):
 qD 246 #[rA #[lA mA k,nA a,nA c,lA mA i]] w (pA (jv ⟨k,a,c,i⟩)):=by
 have o:b=cA\/b=dA/\decide ((a.size:Int)<=255)=cA\/b=dA/\decide ((a.size:Int)<=255)=dA:=by cases b<;>cases decide ((a.size:Int)<=255)<;>simp
 rcases o with rfl|⟨rfl,q⟩|⟨rfl,q⟩
 all_goals
  try rw[q]at E
  go_enter func246,ntmps246;go_wp2_with fail;apply aC (B.o _);intro t g;have u:xA _:=oB vB g;have d:=fun x:tB t=>(((iB.new w #[lA mA k,nA a,nA c,lA mA i] 71).z g).z x.h).c4;simp only[forall_and]at d;obtain⟨D,F,G,H⟩:=d;have C:=tB.there t;clear g;go_wp2_with fail;refine jB (by kernel_rfl) (by kernel_rfl) ?_;repeat (go_big_quiet_step (fail))
  refine js (by rfl) (fun W=>du _ _ _ _ rfl rfl (A.o W)) (by rintro _ ⟨x,rfl⟩;exact xB (y.o _)) ?_;simp only[Act.put,Ud,Jd,Ze];repeat (go_big_quiet_step (fail))
  first
   |(refine uq (by rfl) (mu _ _ _ _ rfl rfl rfl z.o) ?_;simp only[Act.put,Ud,Jd,Ze];repeat (go_big_quiet_step (fail)))
   |skip
  refine wpQuiet_nil ?_;rintro _ ⟨x,rfl⟩;have v:=yA (oB u.o x.h);go_wp2;go_ret;exact⟨fB (by rw[E.o];simp),v.o⟩
def aLq{r:vE}{b:Bool}(h:(r.K=1/\r.U=0)\/(r.K=2/\r.T.size=0/\r.X.size=0)\/r.K=3 ↔ b=dA):jv r=(b&&(decide ((r.T.size:Int)<=255) &&decide ((r.X.size:Int)<=65535))):=by grind [jv,lP,ZY,DN]
def aFi(r:vE)(w:eA)(m:r.T.size<=1000000000)(n:r.X.size<=1000000000):
 qD 246 #[aPj r] w (pA (jv r)):=by
 obtain⟨f,c,d,b⟩:=r;by_cases j:f=1
 .subst j;exact TA w m n (fun W=>mP ⟨1,c,d,b⟩ W) (fun W=>ov _ W) (fun W=>aEr 1 c d W) rfl (aLq (by simp;exact eq_comm))
 by_cases k:f=2
 .subst k;exact TA w m n (fun W=>mP ⟨2,c,d,b⟩ W) (fun W=>ow _ W) (fun W=>aEs 2 b kA W) rfl (aLq (by simp only[Sa,Lg,beq_self_eq_true,true_and,Cc];rw[eq_comm (a:=ByteArray.empty.toList),eq_comm (a:=ByteArray.empty.toList),aIl,aIl];simp))
 by_cases l:f=3
 .subst l;exact TA w m n (fun W=>mP ⟨3,c,d,b⟩ W) (fun W=>ox _ W) (fun W=>aEo 3 b c d W) rfl (aLq (by simp))
 have s:xA (∀W,qD 284 #[rA #[lA mA f,nA c,nA d,lA mA b]] W (.tuple #[.nilIface,pA cA])):=fun W=>by
  have:=mP ⟨f,c,d,b⟩ W;have t:vV ⟨f,c,d,b⟩=.nilIface:=by unfold vV;simp[j,k,l]
  have u:nW ⟨f,c,d,b⟩=cA:=by unfold nW;simp[j,k,l]
  rw[t,u]at this;exact this
 have E:xA (jv ⟨f,c,d,b⟩=cA):=yA (DN (fun v=>by rcases v.2.2 with g|g|g;exact j g.1;exact k g.1;exact l g));unfold aPj;clear j k l;go_enter func246,ntmps246;go_wp2_with fail;apply aC (s.o _);intro z i;have p:xA _:=oB vB i;have y:=tB.there z;clear i;go_wp2_with fail;refine jB (by kernel_rfl) (by kernel_rfl) ?_;repeat (go_big_quiet_step (fail))
 refine wpQuiet_nil ?_;rintro _ ⟨x,rfl⟩;have q:xA _:=oB p.o x.h;go_wp2;go_ret;exact⟨fB E.o.symm,q.o⟩
def aRb(a:List vE):Prop:=∀i(h:i<vA a),a[i].T.size<=1000000000/\a[i].X.size<=1000000000
def od(v:Int)(w:eA):qD 35 #[lA mA v] w (nA (pB 1 v)):=by
 have c:=yA (aH 1 v w (by omega));generalize pB 1 v=N at *;go_enter func35,ntmps35;go_wp2_with fail;apply aC c.o;intro f a;have b:=yA a;clear a;go_wp2;go_ret;exact⟨rfl,b.o⟩
def oc(v:Int)(w:eA):qD 133 #[lA mA v] w (nA (pB 2 v)):=by
 have c:=yA (aH 2 v w (by omega));generalize pB 2 v=N at *;go_enter func133,ntmps133;go_wp2_with fail;apply aC c.o;intro f a;have b:=yA a;clear a;go_wp2;go_ret;exact⟨rfl,b.o⟩
def MW(v:Int)(w:eA):qD 142 #[lA mA v] w (nA (pB 8 v)):=by
 have c:=yA (aH 8 v w (by omega));generalize pB 8 v=N at *;go_enter func142,ntmps142;go_wp2_with fail;apply aC c.o;intro f a;have b:=yA a;clear a;go_wp2;go_ret;exact⟨rfl,b.o⟩
def aFc:(prog.info? 9).map (fun i=>(i.zero,i.size,i.bytes))=bA (bA (nA kA),1,16):=by kernel_rfl
def AX(a:List vE):List gB:=a.flatMap fun r=>[pB 1 r.K,kO r.T,qF r.X,pB 8 r.U]
def rd(a:List vE)(k:Nat)(h:k<vA a):AX (a.take (k+1))=AX (a.take k)++[pB 1 a[k].K,kO a[k].T,qF a[k].X,pB 8 a[k].U]:=by
 unfold AX;rw[Pa h,He];rfl
def QV:∀(a:List vE),lF (AX a)=lN a
 |[]=>rfl
 |r::q=>by
  have e:AX (r::q)=[pB 1 r.K,kO r.T,qF r.X,pB 8 r.U]++AX q:=rfl;rw[e,zF,QV q,lN];simp[lF,dq,Wa]
theorem nr(d:Int)(a:Option Addr)(t:Nat)(c:List vE)(w:World)(hf:wI w a c)(hB:aRb c)(hlen:c.length<=2000000):
 Calls prog 214 #[.agg #[.int .i64 d,.slice a c.length t]] w fun e f=>e=.returned (.string (dR d c))/\Below w.1.size w f:=by
 have z:(d<1\/¬d<1/\d > 1000000000000000\/(¬d<1/\¬d > 1000000000000000)/\(c.length:Int)<1\/(¬d<1/\¬d > 1000000000000000)/\¬(c.length:Int)<1/\(c.length:Int) > 500)\/(¬d<1/\¬d > 1000000000000000)/\¬(c.length:Int)<1/\¬(c.length:Int) > 500:=by omega
 rcases z with z|⟨⟨Z,c2⟩,c3,c4⟩
 .have E:=yA (PA (lsn:=d) (rs:=c) fun h=>by obtain⟨h1,h2,h3,h4,-⟩:=h;omega);rw[E.o];clear hf hB;rcases z with Z|⟨Z,c2⟩|⟨⟨Z,c2⟩,c3⟩|⟨⟨Z,c2⟩,c3,c4⟩
  all_goals
   go_enter func214,ntmps214;go_wp2;go_ret;exact⟨rfl,vB⟩
 have HF:xA (wI w a c):=hf;have HB:xA (aRb c):=hB;have O:xA _:=fun W=>MW d W;have N:xA _:=fun W=>oc (c.length:Nat) W;have hz8:=qB 8 d;have hz2:=qB 2 (c.length:Nat);have HKB:xA (DA d c->dR d c=pB 8 d++pB 2 (c.length:Nat)++lN c):=fun h=>cf h;have HOK:xA (aCx c->DA d c):=fun h=>⟨by omega,by omega,by omega,by omega,h⟩
 generalize pB 8 d=N8 at *;generalize pB 2 (c.length:Nat)=N2 at *;clear hf hB;go_enter func214,ntmps214;go_upto_region 3 with fail;have X6:xA (iB (w.alloc (.cells #[.int .i64 d,.slice a c.length t] 129)) w.1.size #[.int .i64 d,.slice a c.length t] 129):=iB.new _ _ _;have B0:xA (Below w.1.size w (w.alloc (.cells #[.int .i64 d,.slice a c.length t] 129))):=vB;generalize w.alloc (.cells #[.int .i64 d,.slice a c.length t] 129)=J at *;have D:xA (∀f,Below J.1.size J f->f.cell? ⟨w.1.size,0,none⟩=some (.int .i64 d)/\f.cell? ⟨w.1.size,1,none⟩=some (.slice a c.length t)):=fun f h=>by
  have q:=X6.o.z h;exact⟨q.cell 0,q.cell 1⟩
 obtain⟨x0,x1⟩:=D.o J eD;go_cut [3] (fun s wx=>∃g,s=.slice (some ⟨g,0,none⟩) 2 2/\J.1.size<=g/\wx.heap[g]?=some (.cells #[.string N8,.string N2] 9 (0,0))/\Below J.1.size J wx)
 case first=>
  go_region_held3 (fun f=>f.cell? ⟨w.1.size,0,none⟩=some (.int .i64 d)/\f.cell? ⟨w.1.size,1,none⟩=some (.slice a c.length t))
   (first|go_keep|exact D.o _ k4|exact D.o _ k3)
   (first
    |(go_at_call 142;refine(O.o _).mono ?_;rintro e w3 ⟨rfl,U⟩;have k3:Below J.1.size J w3:=(by exact oB eD.drew U))
    |(go_at_call 133;refine(N.o _).mono ?_;rintro e w4 ⟨rfl,V⟩;have k4:Below J.1.size J w4:=(by exact oB k3 V)))
  all_goals(go_wp2_with fail;go_meet)
  all_goals exact⟨_,rfl,k4.size,heap_alloc_new _ _,oB k4 vB⟩
 obtain⟨g0,rfl,hg0,C,Y⟩:=hcut;rename World=>w5;have B5:xA _:=oB B0.o Y;have HBL:xA (w5.heap[g0]?=some (.cells #[.string N8,.string N2] 9 (0,0))/\w.1.size<=g0):=⟨C,Ua B0.o.size hg0⟩
 have HK5:xA _:=fun f h=>D.o f (oB Y h);obtain⟨y0,y1⟩:=HK5.o w5 eD;clear x0 x1 D X6 C hg0 Y B0 O N HK5;go_wp2;go_loopw [3,5,37] (fun out _ i wr=>∃(k:Nat)(l:List ByteArray)(g cv:Nat),k<=c.length/\i=.int .i64 k/\out=.slice (some ⟨g,0,none⟩) l.length cv/\l.length<=2+4*k/\wF l<=10+k*3000000000/\xA (l=N8::N2::AX (c.take k))/\xA (∀j(h:j<c.length),j<k->lP c[j])/\xA (wr.ownsRow w.1.size 9 1 (.slice (some ⟨g,0,none⟩) l.length cv) l.length (l.map Value.string))/\Below w.1.size w wr) (fun _ _ i _=>c.length-(intOf i).toNat)
 case atStart=>
  exact⟨0,[N8,N2],_,_,Oa _,rfl,rfl,by simp,by simp[wF];omega,rfl,fun j _ h=>absurd h (by omega),⟨rfl,La ⟨g0,2,_,rfl,HBL.o.2,HBL.o.1,Ia _,by simp[maxLen],rfl,rfl⟩⟩,B5.o⟩
 case round=>
  obtain⟨k,l,g,cv,hk,rfl,rfl,hpl,hps,HPS,x,n,p⟩:=hrel;by_cases M:k<c.length
  .obtain ⟨b,o,rfl,hb,c0,Z,c2,c3⟩:=(HF.o.z p).at M;obtain⟨hn1,hn2⟩:=HB.o k M;have y:xA (∀W,Calls prog 246 #[.agg #[.int .i64 c[k].K,.string c[k].T,.string c[k].X,.int .i64 c[k].U]] W fun e f=>e=.returned (.bool (jv c[k]))/\Below W.1.size W f):=fun W=>aFi c[k] W hn1 hn2;by_cases A:lP c[k]
   .rw[ZY A]at y;have HK1:xA (∀W,Calls prog 35 #[.int .i64 c[k].K] W fun e f=>e=.returned (.string (pB 1 c[k].K))/\Below W.1.size W f):=fun W=>od _ W;have HS8:xA _:=fun W=>pT c[k].T W hn1;have HS16:xA _:=fun W=>yL c[k].X W hn2;have HN8:xA (∀W,Calls prog 142 #[.int .i64 c[k].U] W fun e f=>e=.returned (.string (pB 8 c[k].U))/\Below W.1.size W f):=fun W=>MW _ W;have hq1:=qB 1 c[k].K;have hq2:=lH c[k].T;have hq3:=uF c[k].X;have hq4:=qB 8 c[k].U;have HA2:xA (∀j(h:j<c.length),j<k+1->lP c[j]):=fun j h hj=>by
     rcases Gc j k with h1|h1
     .exact x.o j h h1
     .obtain rfl:j=k:=by omega
      exact A
    have HT:=rd c k M;have E2:xA (l++[pB 1 c[k].K,kO c[k].T,qF c[k].X,pB 8 c[k].U]=N8::N2::AX (c.take (k+1))):=by show _=_;rw[HT,HPS.o];rfl
    clear HT A x;generalize pB 1 c[k].K=F at *;generalize kO c[k].T=G at *;generalize qF c[k].X=H at *;generalize pB 8 c[k].U=I at *;generalize c[k].K=ki at *;generalize c[k].T=te at *;generalize c[k].X=tx at *;generalize c[k].U=nu at *;have S:=yA (iB.new wr #[.int .i64 ki,.string te,.string tx,.int .i64 nu] 71);have hgB:=(oG n.o).2.1;have HBW:=yA (yG wr (.cells #[.int .i64 ki,.string te,.string tx,.int .i64 nu] 71));go_wp2_with fail;refine(y.o _).mono ?_;rintro e W ⟨rfl,u⟩;have D:=yA (fun f(h:Below W.1.size W f)=>(S.o.z u).z h);have X:=oB HBW.o u;have T:=yA (show W.ownsRow w.1.size 9 1 (.slice (some ⟨g,0,none⟩) l.length cv) l.length (l.map Value.string)/\Below w.1.size w W from⟨jC n.o X,oB p X⟩);have hBX:=zA (S.o.z u);have hww:=T.o.2.size;clear n S hb c0 Z c2 c3 p u y X HBW;go_wp2_with fail;generalize wr.1.size=K at *;clear wr;have r:xA (∀f,Below W.1.size W f->f.cell? ⟨K,0,none⟩=some (.int .i64 ki)/\f.cell? ⟨K,1,none⟩=some (.string te)/\f.cell? ⟨K,2,none⟩=some (.string tx)/\f.cell? ⟨K,3,none⟩=some (.int .i64 nu)):=fun f h=>⟨(D.o f h).cell 0,(D.o f h).cell 1,(D.o f h).cell 2,(D.o f h).cell 3⟩
    obtain⟨x0,x1,x2,x3⟩:=r.o W eD;go_region_held3 (fun f=>f.cell? ⟨K,0,none⟩=some (.int .i64 ki)/\f.cell? ⟨K,1,none⟩=some (.string te)/\f.cell? ⟨K,2,none⟩=some (.string tx)/\f.cell? ⟨K,3,none⟩=some (.int .i64 nu))
     (first|go_keep|exact R|exact r.o _ (m.alloc m.size _)|exact r.o _ m|exact r.o _ hc3|exact r.o _ hc2|exact r.o _ hc1)
     ((first
       |(go_at_call 35;refine(HK1.o _).mono ?_;rintro e w1 ⟨rfl,hb1⟩;have hc1:Below W.1.size W w1:=(Below.refl _ W).drew.trans hb1)
       |(go_at_call 171;refine(HS8.o _).mono ?_;rintro e w2 ⟨rfl,L⟩;have hc2:=oB hc1 L)
       |(go_at_call 146;refine(HS16.o _).mono ?_;rintro e w3 ⟨rfl,U⟩;have hc3:=oB hc2 U)
       |(go_at_call 142;refine(HN8.o _).mono ?_;rintro e w4 ⟨rfl,V⟩;have m:=oB hc3 V)
       |(refine dT (by rfl) _ _ (by rfl) underlying204 aFc rfl (by omega) (by omega) (B:=w.1.size) (by rfl) (by exact jC (jC T.o.1 m) vB) [.string F,.string G,.string H,.string I] (by rfl) rfl (by exact La ⟨_,rfl,World.news_of_block (cs:=#[.string F,.string G,.string H,.string I]) (heap_alloc_new _ _)⟩) (by simp[Value.oneCell']) (by omega) (by have:=m.size;simp;omega) ?_;intro g5 P w5 v hB5 hk5 _;have R:=(XT (hk5 K (by have:=m.size;simp;omega) (by omega)) (r.o _ (m.alloc m.size (.cells #[.string F,.string G,.string H,.string I] 9)))))))
    have hle:(l++[F,G,H,I]).length=l.length+4:=by simp
    have hsm:wF (l++[F,G,H,I])=wF l+(F.size+(G.size+(H.size+I.size))):=by rw[nH];simp[wF]
    rw[<-hle]at v |-
    have HO5:=yA (show w5.ownsRow w.1.size 9 1 (.slice (some ⟨g5,0,none⟩) (l++[F,G,H,I]).length P) (l++[F,G,H,I]).length ((l++[F,G,H,I]).map Value.string)/\Below w.1.size w w5 from⟨by rw[Ld];exact v,((oB T.o.2 m).alloc (Ua hww m.size) _).trans hB5⟩);clear v hB5 hk5 R;generalize l++[F,G,H,I]=ps5 at *;go_wp2;exact⟨⟨k+1,ps5,g5,P,by omega,by go_num,rfl,by omega,by omega,E2.o,HA2.o,HO5.o.1,HO5.o.2⟩,by simp[intOf];omega⟩
   .have E:xA _:=aAy M A d;rw[DN A]at y;generalize c[k].K=ki at *;generalize c[k].T=te at *;generalize c[k].X=tx at *;generalize c[k].U=nu at *;clear A x n;go_wp2_with fail;refine(y.o _).mono ?_;rintro e W ⟨rfl,u⟩;have BW:xA _:=oB (oB p vB) u;clear u y;go_wp2;go_ret;exact⟨by rw[E.o];rfl,BW.o⟩
  .have Q:aCx c:=fun j h=>x.o j h (by omega);have E2:xA (lF l=dR d c):=by
    show _=_;rw[HPS.o,Ra (by omega),lF,lF,QV,HKB.o (HOK.o Q),Wa]
   obtain⟨hcv,hg,z⟩:=oG n.o;have HJ:xA (Calls prog 137 #[.slice (some ⟨g,0,none⟩) l.length cv] wr fun e f=>e=.returned (.string (lF l))/\Below wr.1.size wr f):=lI g l.length cv l wr rfl z hg hcv (by omega) (by omega);rw[E2.o]at HJ;clear n z Q;go_wp2_with fail;refine HJ.o.mono ?_;rintro e w2 ⟨rfl,L⟩;have B2:xA _:=oB p L;clear L;go_wp2;go_ret;exact⟨rfl,B2.o⟩
def uz{x b a:Int}(h:wB x b a=dA):b<=x/\x<=a:=by simpa[wB]using h
structure NP(w W:World)(c:lC)(cs:Array Value):Prop where
 C:iB W w.1.size #[lA mA c.w,lA mA c.tl,lA mA c.ml,lA mA c.sh,lA mA c.ha,lA mA c.sg] 46
 N:iB W (w.1.size+1) cs 43
 R:iB W (w.1.size+1+1) (dC aA 0 aA 0 qK) 43
 B:kB w W
section
variable {w W W':eA} {c:lC} {cs cs':Array iA}
theorem NP.new:NP w (((w.alloc (tA #[lA mA c.w,lA mA c.tl,lA mA c.ml,lA mA c.sh,lA mA c.ha,lA mA c.sg] 46)).alloc (tA cs 43)).alloc (tA (dC aA 0 aA 0 qK) 43)) c cs:=
 ⟨((iB.new _ _ _).alloc _).alloc _,by have:=(iB.new (w.alloc (tA #[lA mA c.w,lA mA c.tl,lA mA c.ml,lA mA c.sh,lA mA c.ha,lA mA c.sg] 46)) cs 43).alloc (tA (dC aA 0 aA 0 qK) 43);simpa using this,
   by have:=iB.new ((w.alloc (tA #[lA mA c.w,lA mA c.tl,lA mA c.ml,lA mA c.sh,lA mA c.ha,lA mA c.sg] 46)).alloc (tA cs 43)) (dC aA 0 aA 0 qK) 43;simpa using this,oB (oB vB vB) vB⟩
theorem NP.z(h:NP w W c cs)(a:kB W W'):NP w W' c cs:=⟨h.C.z a,h.N.z a,h.R.z a,oB h.B a⟩
theorem NP.put(h:NP w W c cs)(b:iB W' (w.1.size+1) cs' 43)(a:bB (·=w.1.size+1) W W'):NP w W' c cs':=
 ⟨a.blk h.C (by omega),b,a.blk h.R (by omega),h.B.trans (a.below h.B.size fun k d e=>by omega)⟩
theorem NP.lt(h:NP w W c cs):w.1.size+1+1<W.1.size:=zA h.R
theorem NP.cells(h:NP w W c cs)(a:cs.size=14):W.cell? ⟨w.1.size,0,aA⟩=bA (lA mA c.w)/\W.cell? ⟨w.1.size,1,aA⟩=bA (lA mA c.tl)/\W.cell? ⟨w.1.size,2,aA⟩=bA (lA mA c.ml)/\W.cell? ⟨w.1.size,3,aA⟩=bA (lA mA c.sh)/\W.cell? ⟨w.1.size,4,aA⟩=bA (lA mA c.ha)/\W.cell? ⟨w.1.size,5,aA⟩=bA (lA mA c.sg)/\iB W (w.1.size+1) cs 43/\fO W (w.1.size+1)/\fO W (w.1.size+1+1)/\w.1.size<W.1.size/\w.1.size+1<W.1.size/\w.1.size+1+1<W.1.size/\¬w.1.size=W.1.size/\¬w.1.size+1=W.1.size/\¬w.1.size+1+1=W.1.size:=
 have:=h.lt
 ⟨h.C.cell 0,h.C.cell 1,h.C.cell 2,h.C.cell 3,h.C.cell 4,h.C.cell 5,h.N,h.N.box a,h.R.box rfl,by omega,by omega,this,by omega,by omega,by omega⟩
end
def kt{a:List vE}(h:sD a<=1400000):aRb a:=fun i b=>by
 have d:=eV a i b;have e:=dZ a (i+1);omega
def aFb:(prog.info? 43).map (·.size)=bA 14:=by kernel_rfl
def aPe(a b:Nat)(g:b<256)(f:a<72057594037927936):bits .or mA (IntKind.i64.wrap ((a:Int)*256)) (b:Int)=nF (a*256+b):=by
 have d:a*256||| b=a*256+b:=by
  have:=Ef (i:=8) (b:=b) (by omega) a;rw[show 2 ^ 8*a=a*256 by omega]at this;exact this.symm
 have c:BitVec.ofInt 64 (IntKind.i64.wrap ((a:Int)*256))=BitVec.ofNat 64 (a*256):=by
  have e:((a:Int)*256)=((a*256:Nat):Int):=by omega
  rw[e];apply BitVec.eq_of_toNat_eq;rw[BitVec.toNat_ofInt,Hc];unfold IntKind.wrap;simp only[IntKind.bits,IntKind.signed];simp;omega
 show IntKind.i64.wrap ((BitVec.ofInt 64 (IntKind.i64.wrap ((a:Int)*256)) ||| BitVec.ofInt 64 (b:Int)).toNat:Int)=_;rw[c,BitVec.toNat_or,Nc,Hc,Hc,Ic (by omega),Ic (by omega),d];rfl
def el(s:gB)(w:eA)(o:s.size<=8):
 dI 203 #[nA s] w (lA mA (nF (rS s.data.toList))):=by
 go_enter func203,ntmps203;go_wp2;go_loopw [3,4,7] (fun x _ c wr=>∃(k X:Nat)(Z:Int),k<=s.size/\c=lA mA k/\x=lA mA Z/\X<256 ^ k/\xA (X=rS (s.data.toList.take k))/\xA (Z=nF X)/\wr=w) (fun _ _ c _=>s.size-(intOf c).toNat)
 case atStart=>exact⟨0,0,0,by omega,rfl,rfl,by simp,by show _=_;simp[rS],by show _=_;rw[tG (by omega)];rfl,rfl⟩
 case round=>
  obtain⟨k,X,Z,m,rfl,rfl,g,f,d,rfl⟩:=hrel;by_cases b:k<s.size
  .have l:=(s[k]).toNat_lt;have h:X<72057594037927936:=Bb g (Sc (n:=256) (by omega) (show k<=7 by omega));have a:Z=(X:Int):=by rw[d.o,tG (by omega)]
   subst a;have i:=aPe X (s[k]).toNat (by omega) (by omega);go_wp2;refine⟨⟨k+1,X*256+(s[k]).toNat,nF (X*256+(s[k]).toNat),by omega,by go_num,?_,?_,?_,rfl,trivial⟩,by simp[intOf];omega⟩
   .exact Kd (iA.int .i64) (by rw[<-i,IntKind.wrap_i64,wrap64])
   .rw[Od];omega
   show _=_;rw[eT s k b,oZ,<-f.o]
  have e:k=s.size:=by omega
  subst e;go_wp2;go_ret;refine⟨?_,rfl⟩;show Ending.returned (lA mA Z)=_;rw[d.o,f.o,Ra (by simp)]
def RT(w:eA)(B:Nat)(r:Rd):Prop:=∃t,iB w B #[nA r.rest,pA r.H] t
def az(B:Nat)(r:Rd)(n:Nat)(w:eA)(f:RT w B r)(p:n<=70000)(m:r.rest.size<=1000000000):
 gA prog 204 #[qA (bA ⟨B,0,aA⟩),lA mA (n:Nat)] w fun e j=>e=sA (nA (iD n r).1)/\RT j B (iD n r).2/\tD B w j:=by
 obtain⟨g,f⟩:=f;have i:xA (iB w B #[nA r.rest,pA r.H] g):=f;have k:=iB.cell f 0;have l:=iB.cell f 1;simp only[Xb,Ob,Ga]at k l;have a:=iB.free f 0;have b:=iB.free f 1;obtain⟨c,d⟩:=r;simp only at k l m;clear f;by_cases h:c.size<n
 .have E:xA (iD n ⟨c,d⟩=(kA,⟨c,dA⟩)):=by show _=_;unfold iD;rw[Ma h]
  rw[E.o];go_enter func204,ntmps204;go_wp2;go_ret;exact⟨rfl,⟨g,iB.set i.o 1 (pA dA)⟩,(tD.refl _ _).setCell _ _⟩
 have E:xA (iD n ⟨c,d⟩=(c.extract 0 n,⟨c.extract n c.size,d⟩)):=by show _=_;unfold iD;rw[Ja h]
 have o:¬((c.size:Int)<(n:Int)):=by omega
 rw[E.o];go_enter func204,ntmps204;go_wp2;go_ret;exact⟨rfl,⟨g,iB.set i.o 0 (nA (c.extract n c.size))⟩,(tD.refl _ _).setCell _ _⟩
def aV(B:Nat)(r:Rd)(k:Nat)(w:eA)(f:RT w B r)(l:k<=8)(i:r.rest.size<=1000000000):
 gA prog 166 #[qA (bA ⟨B,0,aA⟩),lA mA (k:Nat)] w fun e a=>e=sA (lA mA (nF (kD k r).1))/\RT a B (kD k r).2/\tD B w a:=by
 have d:xA (gA prog 204 #[qA (bA ⟨B,0,aA⟩),lA mA (k:Nat)] w fun e a=>e=sA (nA (iD k r).1)/\RT a B (iD k r).2/\tD B w a):=az B r k w f (by omega) i;have HN:xA (∀W,dI 203 #[nA (iD k r).1] W (lA mA (nF (rS (iD k r).1.data.toList)))):=fun W=>el _ W (by have:=(sP k r).1;omega);show gA _ _ _ _ fun e a=>e=sA (lA mA (nF (rS (iD k r).1.data.toList)))/\RT a B (iD k r).2/\tD B w a;clear f;generalize rS (iD k r).1.data.toList=N at *;generalize (iD k r).1=T at *;generalize (iD k r).2=j at *;go_enter func166,ntmps166;go_wp2_with fail;apply aC d.o;rintro g ⟨c,b⟩;have h:xA (RT g B j/\tD B w g):=⟨c,b⟩
 clear c b d;go_wp2_with fail;apply lK (HN.o _);go_wp2;go_ret;exact⟨rfl,h.o⟩
def CI(B:Nat)(r:Rd)(k:Nat)(w:eA)(l:RT w B r)(q:k<=2)(t:r.rest.size<=1000000000):
 gA prog 167 #[qA (bA ⟨B,0,aA⟩),lA mA (k:Nat)] w fun e a=>e=sA (nA (sC k r).1)/\RT a B (sC k r).2/\tD B w a:=by
 have g:xA (gA prog 166 #[qA (bA ⟨B,0,aA⟩),lA mA (k:Nat)] w fun e a=>e=sA (lA mA (nF (kD k r).1))/\RT a B (kD k r).2/\tD B w a):=aV B r k w l (by omega) t;have s:(kD k r).1<65536:=by
  have x:=FG k r;have y:256 ^ k<=256 ^ 2:=Sc (by omega) q;omega
 have i:(kD k r).2.rest.size<=1000000000:=by
  have:=(sP k r).2.2;show(iD k r).2.rest.size<=_;omega
 have p:xA (∀W,RT W B (kD k r).2->gA prog 204 #[qA (bA ⟨B,0,aA⟩),lA mA ((kD k r).1:Nat)] W fun e a=>e=sA (nA (sC k r).1)/\RT a B (sC k r).2/\tD B W a):=fun W h=>az B _ _ W h (by omega) i;rw[tG (by omega)]at g;clear l;generalize (sC k r).1=T at *;generalize (sC k r).2=u at *;generalize (kD k r).1=N at *;generalize (kD k r).2=v at *;go_enter func167,ntmps167;go_wp2_with fail;apply aC g.o;rintro m ⟨d,b⟩;have j:xA (RT m B v/\tD B w m):=⟨d,b⟩
 clear d b g;go_wp2_with fail;apply aC (p.o _ j.o.1);rintro n ⟨f,c⟩;have o:xA (RT n B u/\tD B w n):=⟨f,j.o.2.trans c⟩
 clear f c;go_wp2;go_ret;exact⟨rfl,o.o⟩
def pX:List PanicEntry:=[{ v:=.iface 200 (nA ⟨#[116,104,101,32,116,101,120,116,32,105,115,32,110,111,32,101,110,99,111,100,105,110,103]⟩),recovered:=cA}]
def PK(p:iA)(w:eA):dI 82 #[p,pA dA] w (.tuple #[]):=by
 go_enter func82,ntmps82;go_wp2;go_end0;exact⟨rfl,rfl⟩
def IY(p:iA)(w:eA):gA prog 82 #[p,pA cA] w fun e a=>e=.panicked pX/\a=w:=by
 go_enter func82,ntmps82;go_wp2;exact⟨rfl,rfl,rfl⟩
theorem aBs(B:Nat)(r:Rd)(k:Nat)(w:eA)(i:RT w B r)(l:k<=8)(m:r.rest.size<=1000000000)(d:(kD k r).2.H=cA):
 gA prog 124 #[qA (bA ⟨B,0,aA⟩),lA mA (k:Nat)] w fun e f=>e=sA (lA mA (nF (kD k r).1))/\RT f B (kD k r).2/\tD B w f:=by
 have h:xA (gA prog 166 #[qA (bA ⟨B,0,aA⟩),lA mA (k:Nat)] w fun e f=>e=sA (lA mA (nF (kD k r).1))/\RT f B (kD k r).2/\tD B w f):=aV B r k w i l m;clear i;generalize nF (kD k r).1=N at *;generalize (kD k r).2=n at *;go_enter func124,ntmps124;go_wp2_with fail;apply aC h.o;rintro g ⟨c,b⟩;have j:xA (RT g B n/\tD B w g):=⟨c,b⟩
 obtain⟨o,a⟩:=c;have q:cC g B 1 (pA cA):=(a.cell 1).trans (by rw[d];rfl);clear b a h d;go_wp2_with fail;apply lK (PK _ _);go_wp2;go_ret;exact⟨rfl,j.o⟩
theorem qk(B:Nat)(r:Rd)(k:Nat)(w:World)(i:RT w B r)(l:k<=8)(m:r.rest.size<=1000000000)(d:(kD k r).2.H=true):
 Calls prog 124 #[.pointer (some ⟨B,0,none⟩),.int .i64 (k:Nat)] w fun e f=>e=.panicked pX/\tD B w f:=by
 have h:xA (Calls prog 166 #[.pointer (some ⟨B,0,none⟩),.int .i64 (k:Nat)] w fun e f=>e=.returned (.int .i64 (nF (kD k r).1))/\RT f B (kD k r).2/\tD B w f):=aV B r k w i l m;clear i;generalize nF (kD k r).1=N at *;generalize (kD k r).2=n at *;go_enter func124,ntmps124;go_wp2_with fail;refine h.o.mono ?_;rintro e g ⟨rfl,c,b⟩;have j:xA (RT g B n/\tD B w g):=⟨c,b⟩
 obtain⟨o,a⟩:=c;have q:g.cell? ⟨B,1,none⟩=some (.bool true):=(a.cell 1).trans (by rw[d];rfl);clear b a h d;go_wp2_with fail;refine(IY _ _).mono ?_;rintro e p ⟨rfl,hw⟩;replace hw:=hw.symm;subst hw;exact⟨rfl,rfl,j.o.2⟩
theorem aQd(B:Nat)(r:Rd)(k:Nat)(w:eA)(i:RT w B r)(l:k<=2)(m:r.rest.size<=1000000000)(d:(sC k r).2.H=cA):
 gA prog 126 #[qA (bA ⟨B,0,aA⟩),lA mA (k:Nat)] w fun e f=>e=sA (nA (sC k r).1)/\RT f B (sC k r).2/\tD B w f:=by
 have h:xA (gA prog 167 #[qA (bA ⟨B,0,aA⟩),lA mA (k:Nat)] w fun e f=>e=sA (nA (sC k r).1)/\RT f B (sC k r).2/\tD B w f):=CI B r k w i l m;clear i;generalize (sC k r).1=N at *;generalize (sC k r).2=n at *;go_enter func126,ntmps126;go_wp2_with fail;apply aC h.o;rintro g ⟨c,b⟩;have j:xA (RT g B n/\tD B w g):=⟨c,b⟩
 obtain⟨o,a⟩:=c;have q:cC g B 1 (pA cA):=(a.cell 1).trans (by rw[d];rfl);clear b a h d;go_wp2_with fail;apply lK (PK _ _);go_wp2;go_ret;exact⟨rfl,j.o⟩
theorem aMj(B:Nat)(r:Rd)(k:Nat)(w:World)(i:RT w B r)(l:k<=2)(m:r.rest.size<=1000000000)(d:(sC k r).2.H=true):
 Calls prog 126 #[.pointer (some ⟨B,0,none⟩),.int .i64 (k:Nat)] w fun e f=>e=.panicked pX/\tD B w f:=by
 have h:xA (Calls prog 167 #[.pointer (some ⟨B,0,none⟩),.int .i64 (k:Nat)] w fun e f=>e=.returned (.string (sC k r).1)/\RT f B (sC k r).2/\tD B w f):=CI B r k w i l m;clear i;generalize (sC k r).1=N at *;generalize (sC k r).2=n at *;go_enter func126,ntmps126;go_wp2_with fail;refine h.o.mono ?_;rintro e g ⟨rfl,c,b⟩;have j:xA (RT g B n/\tD B w g):=⟨c,b⟩
 obtain⟨o,a⟩:=c;have q:g.cell? ⟨B,1,none⟩=some (.bool true):=(a.cell 1).trans (by rw[d];rfl);clear b a h d;go_wp2_with fail;refine(IY _ _).mono ?_;rintro e p ⟨rfl,hw⟩;replace hw:=hw.symm;subst hw;exact⟨rfl,rfl,j.o.2⟩
