import Derived.Test.YtbfnhppoecdnoaaGreatDoorJ06
import Derived.Shelf.Spec.SlicesInsert
import Derived.Lib.AppendZerosOnto
set_option maxRecDepth 100000
set_option maxHeartbeats 4000000
set_option linter.defProp false
open Option renaming some->bA,none->aA
open ByteArray renaming empty->kA
open Bool renaming true->dA
open List renaming length->vA
namespace Go.Proofs.YtbfnhppoecdnoaaGreatDoor
open Go renaming World->eA,Value->iA,TypeId->jA
open Value renaming string->nA,int->lA,slice->oA
open IntKind renaming i64->mA
open Obj renaming cells->tA
open Ending renaming returned->sA
open Go.RowKit Tryz
def mC.but{g b o B:Nat}{w d:eA}{f:List dB}(h:mC w B (bA ⟨b,o,aA⟩) f)(m:tD g w d)(p:b≠g):mC d B (bA ⟨b,o,aA⟩) f:=by
 rcases h with h|⟨r,s,c,t,e,l,a,h⟩;exact Ca h;simp only[Qa,Addr.mk.injEq,Cc]at e;obtain⟨rfl,rfl⟩:=e;have k:=m.block b (zA a) p;have n:∀j,d.cell? ⟨b,j,aA⟩=w.cell? ⟨b,j,aA⟩:=fun j=>eA.cell?_of_block k;exact La ⟨b,o,c,t,rfl,l,k.trans a,fun i q=>by simp only[n];exact h i q⟩
structure aB where
 N:gB
 L:Int
 M:List dB
 Z:List dB
def QI(w:eA)(b o:Nat)(t:aB):Prop:=
 ∃a d c e,w.cell? ⟨b,o,aA⟩=bA (nA t.N)/\w.cell? ⟨b,o+1,aA⟩=bA (lA mA t.L)/\w.cell? ⟨b,o+2,aA⟩=bA (oA a (vA t.M) d)/\w.cell? ⟨b,o+3,aA⟩=bA (oA c (vA t.Z) e)/\
  yB w a t.M/\yB w c t.Z
def aRe(w:eA)(b o:Nat)(a:List aB):Prop:=∀i(h:i<vA a),QI w b (o+i*4) a[i]
def nC(w:eA)(a:iC)(c:List aB):Prop:=c=[]\/∃b o,a=bA ⟨b,o,aA⟩/\b<w.1.size/\aRe w b o c
def QI.z{w d:eA}{b o:Nat}{t:aB}(h:QI w b o t)(a:b<w.1.size)(c:kB w d):QI d b o t:=by
 obtain⟨e,g,f,i,j,k,l,m,n,p⟩:=h;exact⟨e,g,f,i,(c.cell a).trans j,(c.cell a).trans k,(c.cell a).trans l,(c.cell a).trans m,n.z c,p.z c⟩
def nC.z{w f:eA}{a:iC}{e:List aB}(h:nC w a e)(d:kB w f):nC f a e:=by
 rcases h with h|⟨b,o,rfl,c,h⟩;exact Ca h;exact La ⟨b,o,rfl,Bb c d.size,fun i g=>(h i g).z c d⟩
def nC.at{w:eA}{a:iC}{c:List aB}(h:nC w a c){i:Nat}(k:i<vA c):
 ∃b o d f e g,a=bA ⟨b,o,aA⟩/\b<w.1.size/\w.cell? ⟨b,o+i*4,aA⟩=bA (nA c[i].N)/\w.cell? ⟨b,o+i*4+1,aA⟩=bA (lA mA c[i].L)/\
  w.cell? ⟨b,o+i*4+2,aA⟩=bA (.slice d (vA c[i].M) f)/\w.cell? ⟨b,o+i*4+3,aA⟩=bA (.slice e (vA c[i].Z) g)/\yB w d c[i].M/\yB w e c[i].Z:=by
 rcases h with rfl|⟨b,o,rfl,j,h⟩;exact absurd k (by simp);obtain ⟨d,f,e,g,h⟩:=h i k;exact⟨b,o,d,f,e,g,rfl,j,h⟩
def gD(w:eA)(B:Nat)(T:Nat->Nat)(n:Nat)(a:iC)(c:List dB):Prop:=
 c=[]\/∃g o b t,a=bA ⟨g,o,aA⟩/\B<=g/\T g=n/\w.heap[g]?=bA (tA b t (0,0))/\dX w g o c
def gD.pairs{w:eA}{B n:Nat}{T:Nat->Nat}{a:iC}{b:List dB}(h:gD w B T n a b):yB w a b:=by grind [gD,yB]
def gD.own{w:eA}{B n:Nat}{T:Nat->Nat}{a:iC}{b:List dB}(h:gD w B T n a b):mC w B a b:=by grind [gD,mC]
def gD.keep{w w':eA}{B n:Nat}{T c:Nat->Nat}{a:iC}{l:List dB}(h:gD w B T n a l)
(s:∀g,g<w.1.size->B<=g->T g=n->w'.heap[g]?=w.heap[g]?/\c g=n):gD w' B c n a l:=by
 rcases h with h|⟨g,o,b,t,e,f,p,k,h⟩;exact Ca h;obtain ⟨d,m⟩:=s g (zA k) f p;have q:∀j,w'.cell? ⟨g,j,aA⟩=w.cell? ⟨g,j,aA⟩:=fun j=>eA.cell?_of_block d;exact La ⟨g,o,b,t,e,f,m,d.trans k,fun i r=>by simp only[q];exact h i r⟩
def mC.tag{w:eA}{B n:Nat}{T:Nat->Nat}{a:iC}{b:List dB}(h:mC w B a b)(c:∀g o,a=bA ⟨g,o,aA⟩->T g=n):gD w B T n a b:=by grind [mC,gD]
def eQ(w:eA)(B:Nat)(T:Nat->Nat)(i b o:Nat)(t:aB):Prop:=
 ∃a d c e,w.cell? ⟨b,o,aA⟩=bA (nA t.N)/\w.cell? ⟨b,o+1,aA⟩=bA (lA mA t.L)/\w.cell? ⟨b,o+2,aA⟩=bA (oA a (vA t.M) d)/\w.cell? ⟨b,o+3,aA⟩=bA (oA c (vA t.Z) e)/\
  gD w B T (2*i+1) a t.M/\gD w B T (2*i+2) c t.Z
def vC(w:eA)(B:Nat)(a:iC)(c:List aB):Prop:=
 c=[]\/∃g o b t T,a=bA ⟨g,o,aA⟩/\B<=g/\w.heap[g]?=bA (tA b t (0,0))/\T g=0/\∀i(h:i<vA c),eQ w B T i g (o+i*4) c[i]
def eQ.at{w:eA}{B i b o:Nat}{T:Nat->Nat}{t:aB}(h:eQ w B T i b o t):QI w b o t:=by
 obtain⟨a,d,c,e,f,g,j,k,l,m⟩:=h;exact⟨a,d,c,e,f,g,j,k,l.pairs,m.pairs⟩
def vC.tens{w:eA}{B:Nat}{a:iC}{b:List aB}(h:vC w B a b):nC w a b:=by
 rcases h with h|⟨g,o,c,t,T,rfl,_,d,_,h⟩;exact Ca h;exact La ⟨g,o,rfl,zA d,fun i e=>(h i e).at⟩
def eQ.keep{w w':eA}{B i b o:Nat}{T l:Nat->Nat}{t:aB}(h:eQ w B T i b o t)(c:∀j,j<4->w'.cell? ⟨b,o+j,aA⟩=w.cell? ⟨b,o+j,aA⟩)
(m:∀g,g<w.1.size->B<=g->(T g=2*i+1\/T g=2*i+2)->w'.heap[g]?=w.heap[g]?/\l g=T g):eQ w' B l i b o t:=by
 obtain⟨n,q,p,r,s,u,v,x,y,z⟩:=h;refine⟨n,q,p,r,(c 0 (by omega)).trans s,(c 1 (by omega)).trans u,(c 2 (by omega)).trans v,(c 3 (by omega)).trans x,y.keep fun g e d a=>?_,z.keep fun g e d a=>?_⟩;obtain ⟨f,k⟩:=m g e d (Ca a);exact⟨f,k.trans a⟩;obtain ⟨f,k⟩:=m g e d (La a);exact⟨f,k.trans a⟩
def vC.z{w l:eA}{B:Nat}{a:iC}{k:List aB}(h:vC w B a k)(d:kB w l):vC l B a k:=by
 rcases h with h|⟨g,o,c,t,T,rfl,n,f,p,h⟩;exact Ca h;have b:=zA f;exact La ⟨g,o,c,t,T,rfl,n,(d.block g b).trans f,p,fun i q=>(h i q).keep (fun j _=>eA.cell?_of_block (d.block g b)) fun m e _ _=>⟨d.block m e,rfl⟩⟩
def iE(t:aB):Nat:=t.N.size+(vA t.M+pC t.M)+(vA t.Z+pC t.Z)
def nB:List aB->Nat
 |[]=>0
 |f::r=>iE f+nB r
def gZ(a b:List aB):nB (a++b)=nB a+nB b:=by induction a<;>grind [nB]
def rI(a:List aB)(k:Nat)(h:k<vA a):nB (a.take (k+1))=nB (a.take k)+iE a[k]:=by
 rw[Pa h,gZ];simp[nB]
def zJ(a:List aB)(k:Nat):nB (a.take k)<=nB a:=by
 have:=gZ (a.take k) (a.drop k);rw[Za]at this;omega
def jV(left:Int)(f:aB):Int:=if (iE f:Int)<=left then left-iE f else -1
def xJ(left:Int)(a:List aB):Int:=if (vA a+nB a:Int)<=left then left-vA a-nB a else -1
def GH(t:aB):Prop:=t.N.size<=maxLen/\KB t.M/\vA t.M<=maxLen/\KB t.Z/\vA t.Z<=maxLen
def DW(a:List aB):Prop:=∀i(h:i<vA a),GH a[i]
def kU(a:List aB)(k:Nat)(h:k<vA a):iE a[k]<=nB a:=by
 have b:=rI a k h;have c:=zJ a (k+1);omega
structure TV where
 t:aB
 a1:iC
 c1:Nat
 a2:iC
 c2:Nat
def dF(a:List TV):List iA:=a.flatMap fun y=>[nA y.t.N,lA mA y.t.L,oA y.a1 (vA y.t.M) y.c1,oA y.a2 (vA y.t.Z) y.c2]
def ea(a b:List TV):dF (a++b)=dF a++dF b:=by simp[dF]
def aIa(w:eA)(b:Nat)(T:Nat->Nat)(a:List TV):Prop:=
 ∀i(h:i<vA a),gD w b T (2*i+1) a[i].a1 a[i].t.M/\gD w b T (2*i+2) a[i].a2 a[i].t.Z
def gT(w:eA)(b:Nat)(e:jA)(v:iA)(n:Nat)(a:List aB):Prop:=
 ∃T ys,w.ownsRow b e 4 v n (dF ys)/\ys.map (·.t)=a/\(∀g,v.ownBlock=bA g->T g=0)/\aIa w b T ys
def gT.nil(w:eA)(b:Nat)(e:jA):gT w b e (oA aA 0 0) 0 []:=
 ⟨fun _=>0,[],eA.ownsRow_nil _ _ _ _,rfl,fun _ _=>rfl,fun i h=>absurd h (by simp)⟩
def gT.row{w:eA}{b:Nat}{e:jA}{v:iA}{n:Nat}{i:List aB}(h:gT w b e v n i):∃a c,v=oA a n c:=by
 obtain⟨_,_,h,_⟩:=h;rcases h.2 with⟨rfl,rfl⟩|⟨g,d,f,rfl,_⟩;exact ⟨aA,0,rfl⟩;exact ⟨_,_,rfl⟩
def gT.turn{w f:eA}{S:Nat->Prop}{b:Nat}{e:jA}{v:iA}{n:Nat}{q:List aB}(h:gT w b e v n q)(p:bB S w f)(l:∀g,S g->g<b):gT f b e v n q:=by
 obtain⟨T,t,j,r,s,k⟩:=h;refine⟨T,t,p.row j (fun g a e=>by have:=(j.lt g a).1;have:=l g e;omega),r,s,fun i m=>?_⟩;have o:∀g,g<w.1.size->b<=g->f.heap[g]?=w.heap[g]?:=fun g a c=>p.block g a (fun e=>by have:=l g e;omega);exact⟨(k i m).1.keep fun g a c d=>⟨o g a c,d⟩,(k i m).2.keep fun g a c d=>⟨o g a c,d⟩⟩
def gT.snoc{wr w4 p:eA}{b M d q k:Nat}{e:jA}{v:iA}{T:Nat->Nat}{ys:List TV}{U:List aB}{t:aB}{z C:iC}{Q R:Nat}
(y:p.ownsRow b e 4 (oA (bA ⟨d,0,aA⟩) (k+1) q) (k+1) (dF ys++[nA t.N,lA mA t.L,oA z (vA t.M) Q,oA C (vA t.Z) R]))
(O:ys.map (·.t)=U)(N:vA ys=k)(L:∀g,v.ownBlock=bA g->T g=0)(hp:aIa wr b T ys)(hb:b<=wr.1.size)(Y:wr.1.size<=M)
(u:∀g,g<wr.1.size->b<=g->v.ownBlock≠bA g->p.heap[g]?=wr.heap[g]?)(J:∀g,wr.1.size<=g->g<w4.1.size->p.heap[g]?=w4.heap[g]?)
(V:mC w4 wr.1.size z t.M)(E:∀g o,z=bA ⟨g,o,aA⟩->g<M)(W:mC w4 M C t.Z)
(H:(v.ownBlock=bA d/\d<wr.1.size)\/w4.1.size<=d)(X:wr.1.size<=w4.1.size)(Z:M<=w4.1.size):gT p b e (oA (bA ⟨d,0,aA⟩) (k+1) q) (k+1) (U++[t]):=by
 have l:∀{B n:Nat}{A:Nat->Nat}{a:iC}{P:List dB},wr.1.size<=B->mC w4 B a P->(∀g o,a=bA ⟨g,o,aA⟩->B<=g->g<w4.1.size->A g=n)->gD p b A n a P:=by
  intro B n A a P hB h r;rcases h with h|⟨g,o,D,ty,rfl,F,f,G⟩;exact Ca h;have x:=zA f;have w:=J g (by omega) x;have hc:∀j,p.cell? ⟨g,j,aA⟩=w4.cell? ⟨g,j,aA⟩:=fun j=>eA.cell?_of_block w;exact La ⟨g,o,D,ty,rfl,by omega,r g o rfl F x,w.trans f,fun i I=>by simp only[hc];exact G i I⟩
 refine⟨fun g=>if g<wr.1.size then T g else if g<M then 2*k+1 else if g<w4.1.size then 2*k+2 else 0,ys++[⟨t,z,Q,C,R⟩],?_,?_,?_,?_⟩;rw[ea];exact y;rw[Ld,O];rfl
 .intro g c;simp only[iA.ownBlock,Qa]at c;subst c;rcases H with⟨h,K⟩|h
  .simp only[Ma K];exact L _ h
  simp only[Ja (show ¬d<wr.1.size by omega),Ja (show ¬d<M by omega),Ja (show ¬d<w4.1.size by omega)]
 intro i I;by_cases s:i<vA ys
 .rw[Ve s];obtain⟨p1,p2⟩:=hp i s;refine⟨p1.keep fun g c m r=>⟨u g c m (fun e=>by have:=L g e;omega),by simp only[Ma c];exact r⟩,p2.keep fun g c m r=>⟨u g c m (fun e=>by have:=L g e;omega),by simp only[Ma c];exact r⟩⟩
 have e:i=k:=by simp at I;omega
 subst e;rw[Re (by omega)];simp only[N,Nat.sub_self,Eg];refine⟨l (Ia _) V fun g o S c _=>?_,l Y W fun g o S c K=>?_⟩;simp only[Ja (show ¬g<wr.1.size by omega),Ma (E g o S)];simp only[Ja (show ¬g<wr.1.size by omega),Ja (show ¬g<M by omega),Ma K]
def gT.own{w:eA}{b:Nat}{e:jA}{a:iC}{n cap:Nat}{u:List aB}(h:gT w b e (oA a n cap) n u)(K:vA u=n):vC w b a u:=by
 obtain⟨T,m,E,A,F,B⟩:=h;have M:vA m=n:=by rw[<-K,<-A,Xa]
 rcases E.2 with⟨_,O⟩|⟨g,z,p,v,G,C,_,_,L,y⟩;exact Ca (Nb.1 (by omega));simp only[iA.slice.injEq]at v;have H:=F g (by rw[v.1];rfl);have I:∀(l:List TV) i(q:i<vA l),(dF l)[i*4]?=bA (nA l[i].t.N)/\(dF l)[i*4+1]?=bA (lA mA l[i].t.L)/\(dF l)[i*4+2]?=bA (.slice l[i].a1 (vA l[i].t.M) l[i].c1)/\(dF l)[i*4+3]?=bA (.slice l[i].a2 (vA l[i].t.Z) l[i].c2):=by
  intro l;unfold dF;induction l with
  |nil=>intro i q;exact absurd q (by simp)
  |cons x r N=>
   intro i q;cases i with
   |zero=>simp
   |succ i=>
    have:=N i (by simpa using q);simp only[Xc,Sd,Mb,Ec];refine⟨?_,?_,?_,?_⟩;rw[show(i+1)*4=i*4+1+1+1+1 by omega,Ga,Ga,Ga,Ga];exact this.1;rw[show(i+1)*4+1=i*4+1+1+1+1+1 by omega,Ga,Ga,Ga,Ga];exact this.2.1;rw[show(i+1)*4+2=i*4+2+1+1+1+1 by omega,Ga,Ga,Ga,Ga];exact this.2.2.1;rw[show(i+1)*4+3=i*4+3+1+1+1+1 by omega,Ga,Ga,Ga,Ga];exact this.2.2.2
 have s:∀j,j<n*4->w.cell? ⟨g,j,aA⟩=(dF m)[j]?:=fun j J=>by
  rw[iB.cell (show iB w g p e from C) j,<-Yd,<-y,Jb J]
 refine La ⟨g,0,p,e,T,v.1,G,C,H,fun i q=>?_⟩;have o:i<vA m:=by omega
 have D:u[i]=m[i].t:=by simp only[<-A,List.getElem_map]
 obtain⟨c,d,f,k⟩:=I m i o;rw[D];refine⟨m[i].a1,m[i].c1,m[i].a2,m[i].c2,?_,?_,?_,?_,(B i o).1,(B i o).2⟩;rw[Ya,s _ (by omega)];exact c;rw[Ya,s _ (by omega)];exact d;rw[Ya,s _ (by omega)];exact f;rw[Ya,s _ (by omega)];exact k
def rS(l:List UInt8):Nat:=l.foldl (fun v c=>v*256+c.toNat) 0
def oZ(l:List UInt8)(c:UInt8):rS (l++[c])=rS l*256+c.toNat:=by simp[rS]
def DY(l:List UInt8):rS l<256 ^ vA l:=by
 have b:∀(n:Nat)(l:List UInt8),vA l=n->rS l<256 ^ n:=fun n=>by
  induction n with
  |zero=>intro l h;rw[Nb.1 h];decide
  |succ n c=>
   intro l h;have a:l≠[]:=by intro e;rw[e]at h;simp at h
   rw[<-List.dropLast_concat_getLast a,oZ];have d:=c l.dropLast (by simp[h]);have f:=(l.getLast a).toNat_lt;rw[Od];omega
 exact b _ l rfl
def eL(s:gB)(p n:Nat):List UInt8:=(s.data.toList.drop p).take n
def nP{s:gB}{p n:Nat}(h:p+n<=s.size):vA (eL s p n)=n:=by
 have:vA s.data.toList=s.size:=by simp
 simp only[eL,Hb,Rc];omega
def UW{s:gB}{p k:Nat}(h:p+k<s.size):eL s p (k+1)=eL s p k++[s[p+k]]:=by
 have a:vA s.data.toList=s.size:=by simp
 unfold eL;rw[Pa (by rw[Rc,a];omega),Cg];rfl
def qT:(prog.info? 116).map (fun i=>(i.zero,i.size,i.bytes))=bA (bA (.agg #[nA kA,nA kA]),2,32):=by kernel_rfl
abbrev aOo:Inhabited eC:=⟨⟨kA,kA⟩⟩
def xD(a:List eC):List iA:=a.flatMap fun x=>[nA x.N,nA x.V]
def aI(a b:List eC):xD (a++b)=xD a++xD b:=by simp[xD]
def jS(a:List eC):vA (xD a)=vA a*2:=by
 induction a with
 |nil=>rfl
 |cons f r b=>simp[xD]at *;omega
def SU:∃i,prog.info? 116=bA i/\i.zero=bA (.agg #[nA kA,nA kA])/\i.size=2/\i.bytes=32:=by
 obtain⟨i,b,a⟩:=Wb.1 qT;simp only[Dc]at a;exact⟨i,b,a.1,a.2.1,a.2.2⟩
def aGi(W:eA)(x:Obj)(cs:Array iA)(t:jA):∀j u,cs.toList[j]?=bA u->((W.alloc x).alloc (tA cs t)).cell? ((⟨W.1.size+1,0,aA⟩:Addr).add j)=bA u:=
 eA.news_of_block (fr:=(0,0)) (by have h:=heap_alloc_new (W.alloc x) (tA cs t);simpa using h)
def oy(l:eC):tT l=l.V.toList.isEmpty:=by simp_all[tT]
def SO(b:List eC):∀u∈xD b,u.oneCell'=dA:=by
 intro u a;simp only[xD,Ig,Lb,Ed,Bf]at a;obtain⟨f,_,rfl|rfl⟩:=a<;>rfl
theorem aJk{w:eA}{g:Nat}{a:List eC}(h:∀j u,(xD a)[j]?=bA u->w.cell? ⟨g,j,aA⟩=bA u)(p:Nat):∀j u,(xD (a.drop p))[j]?=bA u->w.cell? ⟨g,p*2+j,aA⟩=bA u:=by
 intro j u b;refine h _ _ ?_;by_cases d:p<=vA a
 .have e:xD a=xD (a.take p)++xD (a.drop p):=by rw[<-aI,Za]
  have c:vA (xD (a.take p))=p*2:=by rw[jS,Hb];omega
  rw[e,Uc (by omega),c,Nat.add_sub_cancel_left];exact b
 rw[Yb (by omega)]at b;simp[xD]at b
theorem xe{a:List eC}{p:Nat}:∀(j:Nat)(u:iA),(xD (a.take p))[j]?=bA u->(xD a)[j]?=bA u:=by
 intro j u b;have e:xD a=xD (a.take p)++xD (a.drop p):=by rw[<-aI,Za]
 have c:j<vA (xD (a.take p)):=(Pb.1 b).1;rw[e,Pe c];exact b
def bT{w:eA}{B:Nat}{e:jA}{g i:Nat}{a:List eC}(h:w.ownsRow B e 2 (oA (bA ⟨g,0,aA⟩) (vA a) i) (vA a) (xD a)):vA a<=i/\g<w.1.size/\B<=g/\∀j u,(xD a)[j]?=bA u->w.cell? ⟨g,j,aA⟩=bA u:=by
 rcases h.2 with⟨b,_⟩|⟨p,f,d,b,l,k,m,_,_,o⟩;simp at b;simp only[iA.slice.injEq,Qa,Addr.mk.injEq,Cc]at b;obtain⟨rfl,_,rfl⟩:=b;refine⟨m,zA k,l,fun j u c=>?_⟩;rw[cell_of_row w g j d _ _ k,<-Yd];rw[<-o]at c;have n:=(Pb.1 c).1;rw[Hb]at n;rw[Jb (by omega)]at c;exact c
def sy{w:eA}{g:Nat}{a:List eC}(h:∀j u,(xD a)[j]?=bA u->w.cell? ⟨g,j,aA⟩=bA u)(p:Nat):sU w (bA ⟨g,0,aA⟩) p (xD (a.take p)):=by grind [xD,sU,QJ,xe]
def aMg{w:eA}{g b:Nat}{a:List eC}(h:∀j u,(xD a)[j]?=bA u->w.cell? ⟨g,j,aA⟩=bA u)(p:Nat)(c:vA a<=b):sU w (if b=p then bA ⟨g,0,aA⟩ else bA ⟨g,p*2,aA⟩) (vA a-p) (xD (a.drop p)):=by grind [xD,sU,QJ,aJk]
def ik{w:eA}{g:Nat}{x y:iA}{t:jA}(h:w.heap[g]?=bA (tA #[x,y] t (0,0))):sU w (bA ⟨g,0,aA⟩) 1 [x,y]:=
 La ⟨_,rfl,eA.news_of_block (cs:=#[x,y]) h⟩
def rZ{W w:eA}{g:Nat}{a:List eC}(h:∀j u,(xD a)[j]?=bA u->W.cell? ⟨g,j,aA⟩=bA u)(c:g<W.1.size)(b:kB W w):∀j u,(xD a)[j]?=bA u->w.cell? ⟨g,j,aA⟩=bA u:=
 fun j u d=>(b.cell c).trans (h j u d)
def aCn(W:eA)(x y:Obj):((W.alloc x).alloc y).drew.heap[W.1.size+1]?=bA y:=by
 have h:=heap_alloc_new (W.alloc x) y;have e:(W.alloc x).1.size=W.1.size+1:=by simp
 rw[e]at h;exact h
def aCo(W:eA)(x y:Obj):((W.alloc x).alloc y).drew.heap[W.1.size]?=bA x:=by
 have h:=heap_alloc_new W x;have a:=(yG (W.alloc x) y).block W.1.size (by simp);exact a.trans h
def aSq(W:eA)(t:jA):(W.alloc (tA #[] t)).drew.ownsRow W.1.size t 2 (oA (bA ⟨W.1.size,0,aA⟩) 0 0) 0 []:=
 ⟨rfl,La ⟨W.1.size,0,#[],rfl,Ia _,heap_alloc_new _ _,Ia _,Oa _,rfl,rfl⟩⟩
def aSr(W:eA)(t:jA)(x:Obj):((W.alloc (tA #[] t)).alloc x).drew.ownsRow W.1.size t 2 (oA (bA ⟨W.1.size,0,aA⟩) 0 0) 0 []:=
 ⟨rfl,La ⟨W.1.size,0,#[],rfl,Ia _,aCo _ _ _,Ia _,Oa _,rfl,rfl⟩⟩
def aSs(W:eA)(t:jA)(x:Obj):((W.alloc x).alloc (tA #[] t)).drew.ownsRow W.1.size t 2 (oA (bA ⟨W.1.size+1,0,aA⟩) 0 0) 0 []:=
 ⟨rfl,La ⟨W.1.size+1,0,#[],rfl,by omega,aCn _ _ _,Ia _,Oa _,rfl,rfl⟩⟩
def XI{P:Program}(w:eA){o:Oper}{a:Act}{K:Act->eA->Prop}{Q:Exit->Act->eA->Prop}(r:o.guard=aA)(s x:Operand)(t:jA)
(N:o.op=.call { callee:=.builtin .append,args:=#[s,x],argTypes:=#[t,t] })
(base:Nat)(e:jA)(i:TypeInfo)(z:iA)(size d:Nat)(R:P.underlying t=bA (.slice e))(L:P.info? e=bA i)(T:i.zero=bA z)
(l:i.size=size)(F:i.bytes=d)(H:z.cells.size=size)(G:0<size)
(q n C:Nat)(I:List iA)(O:a.eval s=oA (bA ⟨q,0,aA⟩) n C)(v:w.ownsRow base e size (oA (bA ⟨q,0,aA⟩) n C) n I)
(B:iC)(m c:Nat)(b:List iA)(S:a.eval x=oA B m c)(M:vA b=m*size)(y:sU w B m b)(J:∀u∈b,u.oneCell'=dA)
(D:n+m<=maxLen)(f:(n+m)*d<=140737488355328)(j:base<=w.1.size)
(h:∀g p A,A.ownsRow base e size (oA (bA ⟨g,0,aA⟩) (n+m) p) (n+m) (I++b)->Below base w A->(∀k,k<w.1.size->k≠q->A.heap[k]?=w.heap[k]?)->base<=g->(g=q\/g=w.1.size)->g<A.1.size->K (a.put o.dst (oA (bA ⟨g,0,aA⟩) (n+m) p)) A):
 Oper.wp P o a w K Q:=by
 have hw:Region.wanted o (yielded #[] a.tmps)=dA:=by simp[Region.wanted,r]
 have:=tK (P:=P) w (ops:=#[]) (E:=False) (Q:=Q) r s x t N base e i z size d R L T l F H G q n C I O v B m c b S M y J D f j h;rwa [Ma hw]at this
theorem eO{C:Array Oper}{d:List Oper}{o:Oper}{a:Act}{Q:Exit->Act->eA->Prop}{w:eA}(q:o.guard=aA)(s x:Operand){l T:jA}{z:iA}{sz b:Nat}
(J:o.op=.call { callee:=.builtin .append,args:=#[s,x],argTypes:=#[l,l] })(M:prog.underlying l=bA (.slice T))(r:(prog.info? T).map (fun i=>(i.zero,i.size,i.bytes))=bA (bA z,sz,b))(O:z.cells.size=sz)(D:0<sz)(F:b<=100)
{B n:Nat}{v:iA}{y:List iA}{cs:Array iA}(L:a.eval s=v)(A:w.ownsRow B T sz v n y){p:Nat}(N:a.eval x=oA (bA ⟨p,0,aA⟩) 1 1)(K:w.1.size=p)(G:cs.size=sz)(E:∀u∈cs.toList,u.oneCell'=dA)(I:n<=5000000)(U:B<=w.1.size)
(h:∀g c k,xA (k.ownsRow B T sz (oA (bA ⟨g,0,aA⟩) (n+1) c) (n+1) (y++cs.toList))->xA (bB (fun i=>B<=i/\v.ownBlock=bA i) w k)->xA (v.ownBlock=bA g\/w.1.size<=g)->wpList prog C Q d (a.put o.dst (oA (bA ⟨g,0,aA⟩) (n+1) c)) k):
 wpList prog C Q (o::d) a (w.alloc (tA cs T)):=by
 subst K;obtain⟨i,r,P,R,S⟩:=info_parts r;have H:(n+1)*b<=140737488355328:=Ua (Hf (Nat.add_le_add_right I 1) F) (by decide);refine wpList_append_lies _ q s x _ J B T i z sz b M r P R S O D v n y L (eA.ownsRow.alloc A _) ⟨w.1.size,0,aA⟩ 1 1 cs.toList N (by simpa using G) (by
  have:=eA.news_of_block (cs:=cs) (t:=T) (fr:=(0,0)) (heap_alloc_new w (tA cs T));simpa using this) E (by omega) (by simp[maxLen];omega) H (by simp;omega) (w.1.size+1) (by simp) ?_
 intro g c k j f m _;exact h g c k j ((bB.of (yG w (tA cs T))).trans' ((bB.grown f).mono fun i _ e=>⟨(A.lt i e).1,e⟩)) (m.imp_right fun e=>by rw[e];simp)
def vQ{j:Array Oper}{b:List Oper}{o:Oper}{a:Act}{Q:Exit->Act->eA->Prop}{w:eA}(l:o.guard=aA)(s x:Operand){e T:jA}{z:iA}{sz c:Nat}
(D:o.op=.call { callee:=.builtin .append,args:=#[s,x],argTypes:=#[e,e] })(H:prog.underlying e=bA (.slice T))(y:(prog.info? T).map (fun i=>(i.zero,i.size,i.bytes))=bA (bA z,sz,c))(J:z.cells.size=sz)(m:0<sz)(t:c<=100)
{B n:Nat}{v:iA}{k:List iA}{cs:Array iA}(G:a.eval s=v)(F:w.ownsRow B T sz v n k){p:Nat}(I:a.eval x=oA (bA ⟨p,0,aA⟩) 1 1)(E:w.1.size=p)(A:cs.size=sz)(q:∀u∈cs.toList,u.oneCell'=dA)(C:n<=5000000)(r:B<=w.1.size)
(h:∀g d f,xA (f.ownsRow B T sz (oA (bA ⟨g,0,aA⟩) (n+1) d) (n+1) (k++cs.toList))->xA (bB (fun i=>B<=i/\v.ownBlock=bA i) w f)->wpList prog j Q b (a.put o.dst (oA (bA ⟨g,0,aA⟩) (n+1) d)) f):
 wpList prog j Q (o::b) a (w.alloc (tA cs T)):=by grind [eO]
structure gE(S:Nat→Prop)(w w':World):Prop where
 os:w'.os=w.os
 tape:w'.tape=w.tape
 output:w'.output=w.output
 size:w.1.size≤w'.1.size
 block:∀k,k<w.1.size→¬S k→w'.heap[k]?=w.heap[k]?
def gE.refl(S:Nat->Prop)(w:eA):gE S w w:=⟨rfl,rfl,rfl,Ia _,fun _ _ _=>rfl⟩
def gE.trans{S:Nat->Prop}{a b c:eA}(h:gE S a b)(k:gE S b c):gE S a c:=
 ⟨k.os.trans h.os,k.tape.trans h.tape,k.output.trans h.output,Ua h.size k.size,fun i e d=>(k.block i (Bb e h.size) d).trans (h.block i e d)⟩
def gE.of{S:Nat->Prop}{w a:eA}(h:kB w a):gE S w a:=⟨h.os,h.tape,h.output,h.size,fun k b _=>h.block k b⟩
def gE.mono{S T:Nat->Prop}{w a:eA}(h:gE S w a)(c:∀k,S k->T k):gE T w a:=⟨h.os,h.tape,h.output,h.size,fun k b d=>h.block k b (fun x=>d (c k x))⟩
def gE.below{S:Nat->Prop}{B:Nat}{w a:eA}(h:gE S w a)(b:∀k,S k->B<=k)(d:B<=w.1.size):Below B w a:=
 ⟨h.os,h.tape,h.output,h.size,fun k c=>h.block k (by omega) (fun x=>by have:=b k x;omega)⟩
def gE.but{g:Nat}{w a:eA}(h:tD g w a):gE (fun k=>k=g) w a:=⟨h.os,h.tape,h.output,h.size,h.block⟩
def gE.setCell{S:Nat->Prop}{a w:eA}(h:gE S a w){g:Nat}(b:S g)(o:Nat)(v:iA):gE S a (w.setCell ⟨g,o,aA⟩ v):=
 h.trans ⟨rfl,rfl,rfl,by simp[eA.setCell],fun k _ c=>Below.heap_setCell _ _ _ _ (fun e=>c (by rw[e];exact b))⟩
def gE.setCells{S:Nat->Prop}{g:Nat}(b:S g):∀(c:List iA)(o:Nat){a w:eA},gE S a w->gE S a (w.setCells g o c)
 |[],_,_,_,h=>h
 |v::r,o,_,_,h=>gE.setCells b r (o+1) (h.setCell b o v)
def gE.drew{S:Nat->Prop}{a w:eA}(h:gE S a w):gE S a w.drew:=⟨h.os,h.tape,h.output,h.size,h.block⟩
def gE.grown{S:Nat->Prop}{w a:eA}{row:Option Nat}(h:w.grownBy a row)(d:∀g,row=bA g->S g):gE S w a:=
 ⟨h.os,h.tape,h.output,h.size,fun k c b=>h.block k c (fun e=>b (d k e.symm))⟩
def iB.keeps{S:Nat->Prop}{w c:eA}{g:Nat}{a:Array iA}{t:jA}(h:iB w g a t)(d:gE S w c)(b:¬S g):iB c g a t:=(d.block g (zA h) b).trans h
def iB.setCells{g:Nat}{t:jA}:∀(f:List iA)(o:Nat){w:eA}{a:Array iA},iB w g a t->∃b,iB (w.setCells g o f) g b t/\b.size=a.size
 |[],_,_,a,h=>⟨a,h,rfl⟩
 |v::r,o,_,a,h=>by
  obtain⟨c,d,e⟩:=iB.setCells r (o+1) (h.set o v);exact⟨c,d,by rw[e];simp⟩
def mS{w:eA}{B g n a:Nat}{b:Array iA}{e:jA}{c:List iA}(f:B<=g)(h:iB w g b e)(m:n<=a)(l:a<=maxLen)(o:b.size=a*3)(p:vA c=n*3)
(i:∀j u,c[j]?=bA u->w.cell? ⟨g,j,aA⟩=bA u):w.ownsRow B e 3 (oA (bA ⟨g,0,aA⟩) n a) n c:=by
 refine⟨p,La ⟨g,a,b,rfl,f,h,m,l,o,?_⟩⟩;apply List.ext_getElem?;intro j;by_cases k:j<n*3
 .rw[Jb k];have d:=i j c[j] (Va (by omega));rw[h.cell]at d;rw[Yd,d,Va (by omega)]
 rw[Fd (by simp;omega),Fd (by omega)]
def gS{w:eA}{B g n m a:Nat}{e:jA}{l:List iA}(h:w.ownsRow B e 3 (oA (bA ⟨g,0,aA⟩) m a) n l):
 ∃b,B<=g/\m=n/\iB w g b e/\n<=a/\a<=maxLen/\b.size=a*3/\∀j u,l[j]?=bA u->w.cell? ⟨g,j,aA⟩=bA u:=by
 rcases h.2 with⟨d,_⟩|⟨t,i,b,d,o,k,q,p,r,s⟩;exact absurd d (by simp);simp only[iA.slice.injEq,Qa,Addr.mk.injEq,Cc]at d;obtain⟨rfl,rfl,rfl⟩:=d;refine⟨b,o,rfl,k,q,p,r,fun j u c=>?_⟩;rw[iB.cell k];rw[<-s]at c;have f:=(Pb.1 c).1;rw[Hb]at f;rw[Jb (by omega)]at c;simpa using c
def zQ{P:Program}(w:eA)(m A B d:jA)(b o c f:Nat)(a:Addr)(e h k size:Nat)(cs:List iA)
(z:P.underlying m=bA (.slice d))(y:(P.info? d).map (·.size)=bA size)(s:Nat.min e c=k)(u:vA cs=k*size)
(g:∀j v,cs[j]?=bA v->w.cell? (a.add j)=bA v)(p:∀j,j<vA cs->(w.cell? ⟨b,o+j,aA⟩).isSome=dA)(q:∀j,j<vA cs->w.frozen? ⟨b,o+j,aA⟩=false)(n:∀v∈cs,v.oneCell'=dA):
 (Builtin.copy_ #[m,A] B #[oA (bA ⟨b,o,aA⟩) c f,oA (bA a) e h]).run P w=.ok (goInt k) (w.setCells b o cs):=by
 have t:=run_loadCells_list (P:=P) w a cs g;have l:=run_storeCells_cells (P:=P) b o cs 0 w (by simpa using p) (by simpa using q) n;obtain⟨i,x,r⟩:=Wb.1 y;simp[Builtin.copy_,run_underlying z,Builtin.lenOf,Builtin.firstCells,sizeOf,typeInfo,x,r,s,<-u,t,l]
def BI:List iA:=[nA kA,nA kA,lA mA 0]
def WR{P:Program}(w:eA)(t m e:jA)(i:TypeInfo)(k:P.underlying t=bA (.slice e))(h:P.info? e=bA i)(l:i.zero=bA (.agg #[nA kA,nA kA,lA mA 0]))
(b o c:Nat)(f:∀j,j<3->(w.cell? ⟨b,o+j,aA⟩).isSome=dA)(g:∀j,j<3->w.frozen? ⟨b,o+j,aA⟩=false):
 (Builtin.clear_ #[t] m #[oA (bA ⟨b,o,aA⟩) 1 c]).run P w=.ok (.tuple #[]) (w.setCells b o BI):=by
 have a:=run_storeCells_cells (P:=P) b o BI 0 w (by simpa[BI]using f) (by simpa[BI]using g) (by simp[BI,iA.oneCell']);have d:(Builtin.zeroCells (iA.agg #[nA kA,nA kA,lA mA 0]).cells 1).toList=BI:=by kernel_rfl
 simp[Builtin.clear_,run_underlying k,zeroValue,typeInfo,h,l,d,a]
def wu(a:List cB)(i:Nat):flat (a.eraseIdx i)=flat (a.take i)++flat (a.drop (i+1)):=by
 rw[List.eraseIdx_eq_take_drop_succ,xL]
theorem SP(a:List cB)(i:Nat):flat a=flat (a.take i)++flat (a.drop i):=by
 rw[<-xL,Za]
def tV(a:List cB)(i j:Nat)(h:i<=vA a):(flat (a.drop i))[j]?=(flat a)[i*3+j]?:=by
 have b:vA (flat (a.take i))=i*3:=by rw[tE,Hb];omega
 rw[SP a i,Uc (by omega),b];congr 1;omega
def xQ(a:List cB)(i j:Nat)(h:i<=vA a)(b:j<i*3):(flat (a.take i))[j]?=(flat a)[j]?:=by grind [flat,tE,SP]
def bN(a:List cB)(i:Nat)(f:cB):List cB:=a.take i++f::a.drop i
def gR(a:List cB)(i:Nat)(f:cB)(h:i<=vA a):vA (bN a i f)=vA a+1:=by simp[bN];omega
def YU(a:List cB)(i:Nat)(f:cB):flat (bN a i f)=flat (a.take i)++(flat [f]++flat (a.drop i)):=by grind [flat,bN]
def GG(w:eA)(a:Nat)(f:cB):Prop:=iB w a #[nA f.N,nA f.data,lA mA f.Y] 149
def GG.cells{w:eA}{a:Nat}{f:cB}(h:GG w a f):∀j u,(flat [f])[j]?=bA u->w.cell? ⟨a,j,aA⟩=bA u:=fun j u b=>by
 rw[iB.cell h,<-b];simp[flat]
def YV{w:eA}{g i n:Nat}{b:List cB}{f:cB}(p:vA b=n)(o:i<=n)(e:∀j u,j<i*3->(flat b)[j]?=bA u->w.cell? ⟨g,j,aA⟩=bA u)(h:∀j u,(flat [f])[j]?=bA u->w.cell? ⟨g,i*3+j,aA⟩=bA u)
(k:∀j u,(flat (b.drop i))[j]?=bA u->w.cell? ⟨g,(i+1)*3+j,aA⟩=bA u):∀j u,(flat (bN b i f))[j]?=bA u->w.cell? ⟨g,j,aA⟩=bA u:=by
 intro j u a;have c:vA (flat (b.take i))=i*3:=by rw[tE,Hb];omega
 have l:vA (flat [f])=3:=rfl;rw[YU]at a;by_cases d:j<i*3
 .rw[Pe (by omega),xQ b i j (by omega) d]at a;exact e j u d a
 rw[Uc (by omega),c]at a;by_cases m:j-i*3<3
 .rw[Pe (by omega)]at a;have:=h _ _ a;rwa [show i*3+(j-i*3)=j by omega]at this
 rw[Uc (by omega),l]at a;have:=k _ _ a;rwa [show(i+1)*3+(j-i*3-3)=j by omega]at this
def ey(B g a i F:Nat)(d:List cB)(f:cB)(w:eA)(D:w.ownsRow B 149 3 (oA (bA ⟨g,0,aA⟩) (vA d) a) (vA d) (flat d))(p:GG w F f)(Q:F≠g)(hi:i<vA d)(s:vA d+1<=a)(N:vA d<=1048576):
 Calls prog 295 #[oA (bA ⟨g,0,aA⟩) (vA d) a,lA mA i,oA (bA ⟨F,0,aA⟩) 1 1] w fun e w'=>
  e=sA (oA (bA ⟨g,0,aA⟩) (vA d+1) a)/\w'.ownsRow B 149 3 (oA (bA ⟨g,0,aA⟩) (vA d+1) a) (vA d+1) (flat (bN d i f))/\gE (fun k=>k=g) w w':=by
 obtain⟨K,hB,_,b,W,H,y,I⟩:=gS D;obtain⟨i0,M,Y,R,Z⟩:=aM;obtain⟨n,T⟩:∃n,vA d=n:=⟨_,rfl⟩
 rw[T]at hi s N W |-
 have l:(prog.info? 149).map (·.size)=bA 3:=by rw[M];simp[R]
 have t:∀w,(Go.sizeOf 149).run prog w=.ok 3 w:=fun w=>by simp[sizeOf,typeInfo,M,R]
 have c:∀j,j<a*3->(w.cell? ⟨g,j,aA⟩).isSome=dA:=fun j h=>by obtain⟨v,p⟩:=b.there (j:=j) (by omega);rw[p];rfl
 have X:∀lb U,(callFunc 317 #[oA (bA ⟨F,0,aA⟩) 1 1,oA (bA ⟨g,(i+1)*3,aA⟩) lb U]).run prog w=.ok (.value (.bool false)) w:=fun lb U=>by
  rw[run_callFunc_extern func317 (by kernel_rfl) (by kernel_rfl) (by kernel_rfl) (e:=Extern.SlicesOverlaps.overlaps #[35,35] #[4]) (by kernel_rfl),
   Lib.run_overlaps_apart w 35 4 149 underlying35 3 t ⟨F,0,aA⟩ ⟨g,(i+1)*3,aA⟩ 1 1 lb U Q 149 149 3 K.size (by unfold GG iB at p;simp[eA.shape?,p]) (by unfold iB at b;simp[eA.shape?,b]) (by omega) (iB.free p _) (iB.free p _)]
  rfl
 obtain⟨z,r⟩:∃z,z=flat (d.drop i):=⟨_,rfl⟩
 have C:vA z=(n-i)*3:=by rw[r,tE,Rc,T]
 have A:∀J G sc,(Builtin.copy_ #[35,35] J #[oA (bA ⟨g,(i+1)*3,aA⟩) (n-i) G,oA (bA ⟨g,i*3,aA⟩) (n+1-i) sc]).run prog w.drew=.ok (goInt ((n-i:Nat):Int)) (w.drew.setCells g ((i+1)*3) z):=fun J G sc=>
  zQ w.drew _ _ J 149 g ((i+1)*3) (n-i) G ⟨g,i*3,aA⟩ (n+1-i) sc (n-i) 3 z underlying35 l (by simp only[Nat.min_def];split<;>omega) C
   (fun j v h=>by rw[Addr.add_lit];exact I _ v (by rwa [r,tV d i j (by omega)]at h))
   (fun j h=>c _ (by omega)) (fun j h=>b.free _) (by rw[r];exact iG _)
 obtain⟨q,m⟩:∃q,q=w.drew.setCells g ((i+1)*3) z:=⟨_,rfl⟩
 obtain⟨cur1,o,x⟩:=iB.setCells z ((i+1)*3) (show iB w.drew g K 149 from b);rw[<-m]at o A;have P:GG q F f:=by rw[m];exact iB.keeps (S:=fun k=>k=g) p (gE.setCells (S:=fun k=>k=g) rfl _ _ (gE.refl _ _).drew) Q
 have L:∀J G,(Builtin.copy_ #[35,35] J #[oA (bA ⟨g,i*3,aA⟩) (n+1-i) G,oA (bA ⟨F,0,aA⟩) 1 1]).run prog q=.ok (goInt 1) (q.setCells g (i*3) (flat [f])):=fun J G=>
  zQ q _ _ J 149 g (i*3) (n+1-i) G ⟨F,0,aA⟩ 1 1 1 3 (flat [f]) underlying35 l (by simp only[Nat.min_def];split<;>omega) rfl
   (fun j v h=>by rw[Addr.add_lit,Ya];exact P.cells j v h)
   (fun j h=>by obtain⟨v,p⟩:=o.there (j:=i*3+j) (by rw[x,y];simp[flat]at h;omega);rw[p];rfl) (fun j h=>o.free _) (iG _)
 obtain⟨cur2,V,O⟩:=iB.setCells (flat [f]) (i*3) o;have HK:xA (gE (fun k=>k=g) w (q.setCells g (i*3) (flat [f]))):=by
  show gE _ _ _;rw[m];exact gE.setCells (S:=fun k=>k=g) rfl _ _ (gE.setCells (S:=fun k=>k=g) rfl _ _ (gE.refl _ _).drew)
 have HO:xA ((q.setCells g (i*3) (flat [f])).ownsRow B 149 3 (oA (bA ⟨g,0,aA⟩) (n+1) a) (n+1) (flat (bN d i f))):=by
  refine mS hB V s H (by rw[O,x,y]) (by rw[tE,gR _ _ _ (by omega),T]) (YV T (by omega) ?_ ?_ ?_);intro j u h E;rw[eA.cell?_setCells_out g (flat [f]) (i*3) q _ (fun _ _=>Ca h),m,eA.cell?_setCells_out g z ((i+1)*3) _ _ (fun _ _=>Ca (by show j<_;omega))];exact I j u E;intro j u E;have h:=(Pb.1 E).1;rw[eA.cell?_setCells_in g (flat [f]) (i*3) q (fun k hk=>by obtain⟨v,p⟩:=o.there (j:=i*3+k) (by rw[x,y];simp[flat]at hk;omega);rw[p];rfl) j h,<-E,Va];intro j u E;rw[<-r]at E;have h:=(Pb.1 E).1;rw[eA.cell?_setCells_out g (flat [f]) (i*3) q _ (fun _ _=>La (by simp[flat];omega)),m,
   eA.cell?_setCells_in g z ((i+1)*3) w.drew (fun k hk=>c _ (by omega)) j h,<-E,Va]
 have Z:¬((i:Int)=(n:Int)):=by omega
 have hz3:¬((a:Int)<(n:Int)+1):=by omega
 have hw1:IntKind.i64.wrap ((i:Int)+1)=(i:Int)+1:=by rw[IntKind.wrap_i64];omega
 have hbd:(0:Int)<=(i:Int)+1:=by omega
 have hin:i<=n:=by omega
 have htn:((i:Int)+1).toNat=i+1:=by omega
 have hbe:¬(a=i+1):=by omega
 have hb3:(i:Int)+1<=(n:Int)+1:=by omega
 have hb4:¬(a=i):=by omega
 have hb5:(i:Int)<=(n:Int)+1:=by omega
 have hb6:((n:Int)+1).toNat=n+1:=by omega
 have hcm2:(a:Int)<=9223372036854775807:=by unfold maxLen at H;omega
 clear D b o I c p P y x O r C m Y t l H;go_enter func295,ntmps295;go_wp2_with(simp only[X]);go_region_law (refine step_copy_runI rfl _ _ 35 35 rfl _ _ (by simp[Act.eval,Act.put]) (by simp[Act.eval,Act.put]) (A _ _ _) ?_)
 go_wp2_with(at_builtin;refine wpList_copy_runI _ rfl _ _ 35 35 rfl _ _ rfl rfl (L _ _) ?_);go_ret;exact⟨rfl,HO.o,HK.o⟩
def ou(B g a i vb:Nat)(c:List cB)(f:cB)(w:eA)(R:w.ownsRow B 149 3 (oA (bA ⟨g,0,aA⟩) (vA c) a) (vA c) (flat c))(F:GG w vb f)(hi:i<vA c)(C:a<vA c+1)(h0:vA c<=1048576)(hBs:B<=w.1.size):
 Calls prog 295 #[oA (bA ⟨g,0,aA⟩) (vA c) a,lA mA i,oA (bA ⟨vb,0,aA⟩) 1 1] w fun e w'=>
  ∃L,e=sA (oA (bA ⟨w.1.size,0,aA⟩) (vA c+1) L)/\w'.ownsRow B 149 3 (oA (bA ⟨w.1.size,0,aA⟩) (vA c+1) L) (vA c+1) (flat (bN c i f))/\kB w w':=by
 obtain⟨cur,hB,_,r,hnc,b0,hsz,V⟩:=gS R;obtain⟨i0,e0,l0,m0,n0⟩:=aM;obtain⟨n,hn⟩:∃n,vA c=n:=⟨_,rfl⟩
 rw[hn]at hi C h0 hnc |-
 have m:(prog.info? 149).map (·.size)=bA 3:=by rw[e0];simp[m0]
 have hgw:=zA r;have g0:(n:Int)+1-(i:Int)=((n+1-i:Nat):Int):=by omega
 have W:i+(n+1-i)=n+1:=by omega
 have K:vA (flat (c.take i))=i*3:=by rw[tE,Hb];omega
 have Q:(Builtin.firstCells i0.size i (oA (bA ⟨g,0,aA⟩) i a)).run prog w.drew=.ok (flat (c.take i)).toArray w.drew:=by
  rw[m0];exact run_firstCells_some w.drew 3 i ⟨g,0,aA⟩ i a (flat (c.take i)) K (fun j v d=>by
   rw[Addr.add_lit,Ya];have hlt:=(Pb.1 d).1;rw[xQ c i j (by omega) (by omega)]at d;exact V j v d)
 obtain⟨G,hG⟩:∃G,G=grownCap w (n+1) a 149:=⟨_,rfl⟩
 obtain⟨z,q⟩:∃z:Array iA,z=(flat (c.take i)).toArray++Builtin.zeroCells (iA.agg #[nA kA,nA kA,lA mA 0]).cells (n+1-i)++Builtin.zeroCells (iA.agg #[nA kA,nA kA,lA mA 0]).cells (G-(n+1)):=⟨_,rfl⟩
 obtain⟨o,I⟩:∃o,o=w.drew.alloc (tA z 149):=⟨_,rfl⟩
 have hrz:∀E,(Builtin.append_ #[35,3] E #[oA (bA ⟨g,0,aA⟩) i a,lA mA ((n:Int)+1-(i:Int))]).run prog w=.ok (oA (bA ⟨w.1.size,0,aA⟩) (n+1) G) o:=fun E=>by
  have h:=Lib.run_append_grow_zeros w 35 3 E 149 i0 _ .i64 mA underlying35 underlying3 e0 l0 (bA ⟨g,0,aA⟩) i a _ Q (n+1-i) (by omega) (by omega) (by omega) (by omega) (by rw[n0];omega) (by rw[n0,W];exact growslice_fits C (by omega));rw[W,<-hG,<-q,<-I]at h;rw[g0];exact h
 have hGn:n+1<=G:=by rw[hG];exact grownCap_ge w _ _ _
 have a0:G<=maxLen:=by rw[hG];exact grownCap_le_maxLen w (n+1) a 149 (by unfold maxLen;omega)
 have o0:(iA.agg #[nA kA,nA kA,lA mA 0]).cells.size=3:=rfl;have s:z.size=G*3:=by
  rw[q];simp only[Array.size_append,List.size_toArray,size_zeroCells,o0,K];omega
 have x:iB o w.1.size z 149:=by rw[I];exact heap_alloc_new w.drew _
 have b:kB w o:=by rw[I];exact oB eD.drew vB
 have k0:GG o vb f:=iB.z F b;have c0:=r.z b;have M:∀E T,(Builtin.copy_ #[35,35] E #[oA (bA ⟨w.1.size,i*3,aA⟩) (n+1-i) T,oA (bA ⟨vb,0,aA⟩) 1 1]).run prog o=.ok (goInt 1) (o.setCells w.1.size (i*3) (flat [f])):=fun E T=>
  zQ o _ _ E 149 w.1.size (i*3) (n+1-i) T ⟨vb,0,aA⟩ 1 1 1 3 (flat [f]) underlying35 m (by simp only[Nat.min_def];split<;>omega) rfl
   (fun j v d=>by rw[Addr.add_lit,Ya];exact k0.cells j v d)
   (fun j d=>by obtain⟨v,F⟩:=x.there (j:=i*3+j) (by rw[s];simp[flat]at d;omega);rw[F];rfl) (fun j d=>x.free _) (iG _)
 obtain⟨p,t⟩:∃p,p=o.setCells w.1.size (i*3) (flat [f]):=⟨_,rfl⟩
 rw[<-t]at M;obtain⟨Z,y,J⟩:=iB.setCells (flat [f]) (i*3) x;rw[<-t]at y;have X:gE (fun k=>k=w.1.size) o p:=by rw[t];exact gE.setCells (S:=fun k=>k=w.1.size) rfl _ _ (gE.refl _ _)
 have d0:=c0.keeps X (by omega);obtain⟨H,A⟩:∃H,H=flat (c.drop i):=⟨_,rfl⟩
 have P:vA H=(n-i)*3:=by rw[A,tE,Rc,hn]
 have O:∀j u,(flat c)[j]?=bA u->cur[j]?=bA u:=fun j u D=>by rw[<-r.cell];exact V j u D
 have N:∀E T sc,(Builtin.copy_ #[35,35] E #[oA (bA ⟨w.1.size,(i+1)*3,aA⟩) (n-i) T,oA (bA ⟨g,i*3,aA⟩) (n-i) sc]).run prog p.drew=.ok (goInt ((n-i:Nat):Int)) (p.drew.setCells w.1.size ((i+1)*3) H):=fun E T sc=>
  zQ p.drew _ _ E 149 w.1.size ((i+1)*3) (n-i) T ⟨g,i*3,aA⟩ (n-i) sc (n-i) 3 H underlying35 m (by simp only[Nat.min_def];split<;>omega) P
   (fun j v d=>by
    rw[Addr.add_lit];show p.cell? _=_;rw[d0.cell];exact O _ v (by rwa [A,tV c i j (by omega)]at d))
   (fun j d=>by obtain⟨v,F⟩:=y.there (j:=(i+1)*3+j) (by rw[J,s];omega);show(p.cell? _).isSome=dA;rw[F];rfl) (fun j d=>y.free _) (by rw[A];exact iG _)
 obtain⟨Y,l⟩:∃Y,Y=p.drew.setCells w.1.size ((i+1)*3) H:=⟨_,rfl⟩
 rw[<-l]at N;obtain⟨cur3,U,j0⟩:=iB.setCells H ((i+1)*3) (show iB p.drew w.1.size Z 149 from y);rw[<-l]at U;have HB:xA (kB w Y):=by
  have k3:gE (fun k=>k=w.1.size) o Y:=by rw[l];exact gE.setCells (S:=fun k=>k=w.1.size) rfl _ _ X.drew
  exact b.trans (k3.below (fun k e=>by omega) b.size)
 have HO:xA (Y.ownsRow B 149 3 (oA (bA ⟨w.1.size,0,aA⟩) (n+1) G) (n+1) (flat (bN c i f))):=by
  refine mS hBs U hGn a0 (by rw[j0,J,s]) (by rw[tE,gR _ _ _ (by omega),hn]) (YV hn (by omega) ?_ ?_ ?_);intro j u d D;rw[l,eA.cell?_setCells_out w.1.size H ((i+1)*3) _ _ (fun _ _=>Ca (by show j<_;omega))];show p.cell? _=_;rw[t,eA.cell?_setCells_out w.1.size (flat [f]) (i*3) o _ (fun _ _=>Ca d),x.cell,q];rw[<-xQ c i j (by omega) d]at D;rw[Array.append_assoc,Array.getElem?_append_left (by simp[K];omega)];simpa using D;intro j u D;have d:=(Pb.1 D).1;have hj3:j<3:=d;rw[l,eA.cell?_setCells_out w.1.size H ((i+1)*3) _ _ (fun _ _=>Ca (by show i*3+j<_;omega))];show p.cell? _=_;rw[t,eA.cell?_setCells_in w.1.size (flat [f]) (i*3) o (fun k hk=>by obtain⟨v,F⟩:=x.there (j:=i*3+k) (by rw[s];simp[flat]at hk;omega);rw[F];rfl) j d,<-D,Va];intro j u D;rw[<-A]at D;have d:=(Pb.1 D).1;rw[l,eA.cell?_setCells_in w.1.size H ((i+1)*3) p.drew (fun k hk=>by obtain⟨v,F⟩:=y.there (j:=(i+1)*3+k) (by rw[J,s];omega);show(p.cell? _).isSome=dA;rw[F];rfl) j d,<-D,Va]
 have hq3:(a:Int)<(n:Int)+1:=by omega
 have hw1:IntKind.i64.wrap ((i:Int)+1)=(i:Int)+1:=by rw[IntKind.wrap_i64];omega
 have hbd:(0:Int)<=(i:Int)+1:=by omega
 have hin:i<=n:=by omega
 have htn:((i:Int)+1).toNat=i+1:=by omega
 have hb5:(i:Int)<=(n:Int)+1:=by omega
 have hb6:(i:Int)+1<=(n:Int)+1:=by omega
 have hGi:¬(G=i):=by omega
 have hGim:¬(G=i+1):=by omega
 have hci:¬(a=i):=by omega
 have hic:(i:Int)<=(a:Int):=by omega
 have hcm2:(a:Int)<=9223372036854775807:=by unfold maxLen at b0;omega
 clear R r V O F k0 hsz J j0 A P I t l l0 m b0 x y U c0 d0 X b s q hG a0 Q g0 W K hgw;go_enter func295,ntmps295;go_wp2_with(first
  |(at_builtin;refine Lib.wpList_append_run _ rfl _ _ _ _ rfl _ _ rfl rfl _ _ (hrz _) ?_)
  |(at_builtin;refine wpList_copy_runI _ rfl _ _ 35 35 rfl _ _ rfl rfl (M _ _) ?_))
 go_region_law (refine step_copy_runI rfl _ _ 35 35 rfl _ _ (by simp[Act.eval,Act.put]) (by simp[Act.eval,Act.put]) (N _ _ _) ?_)
 go_wp2;go_ret;exact⟨G,rfl,HO.o,HB.o⟩
def xo(B t:Nat)(v:iA)(a:List cB)(f:cB)(w:eA)(d:w.ownsRow B 149 3 v (vA a) (flat a))(G:GG w t f)(F:vA a<=1048576)(o:B<=w.1.size):
 Calls prog 295 #[v,lA mA (vA a),oA (bA ⟨t,0,aA⟩) 1 1] w fun e I=>
  ∃x,e=sA x/\I.ownsRow B 149 3 x (vA a+1) (flat (bN a (vA a) f))/\gE (fun k=>v.ownBlock=bA k) w I/\(x.ownBlock=v.ownBlock\/x.ownBlock=bA w.1.size):=by
 obtain⟨H,p,q,r,s⟩:=aM;have i:xA (∀j u,(flat [f])[j]?=bA u->w.cell? ((⟨t,0,aA⟩:Addr).add j)=bA u):=fun j u N=>by
  rw[Addr.add_lit,Ya];exact G.cells j u N
 have z:xA (flat (bN a (vA a) f)=flat a++flat [f]):=by
  show _=_;rw[YU];simp[flat]
 have D:xA (w.ownsRow B 149 3 v (vA a) (flat a)):=d;have C:xA _:=p;clear G p;rcases d.2 with⟨rfl,K⟩|⟨g,m,J,rfl,P,L,M,y,_⟩
 .obtain rfl:a=[]:=Nb.1 K;clear d;go_enter func295,ntmps295;go_wp2_with(at_builtin;refine wpList_append_own_at _ rfl _ _ _ rfl B 149 H _ 3 40 underlying35 C.o q r s rfl (by omega) (oA aA 0 0) 0 [] rfl D.o ⟨t,0,aA⟩ 1 1 (flat [f]) rfl rfl i.o (iG _) (by simp[maxLen]) (by omega) o ?_;intro A O c b _ l);go_ret;exact⟨A,rfl,c,gE.grown b fun g h=>h,l⟩
 have E:(m:Int)<=9223372036854775807:=by unfold maxLen at y;omega
 clear d L;generalize Q:vA a=n at *;go_enter func295,ntmps295;go_wp2_with(at_builtin;refine wpList_append_own_at _ rfl _ _ _ rfl B 149 H _ 3 40 underlying35 C.o q r s rfl (by omega) (oA (bA ⟨g,0,aA⟩) n m) n (flat a) rfl D.o ⟨t,0,aA⟩ 1 1 (flat [f]) rfl rfl i.o (iG _) (by simp[maxLen];omega) (by omega) o ?_;intro A O c b _ l);all_goals(go_ret;rw[z.o];exact⟨A,rfl,c,gE.grown b fun g h=>h,l⟩)
def SZ(B h i:Nat)(v:iA)(b:List cB)(f:cB)(w:eA)(a:w.ownsRow B 149 3 v (vA b) (flat b))(p:GG w h f)(q:v.ownBlock≠bA h)(D:i<=vA b)(c:vA b<=1048576)(j:B<=w.1.size):
 Calls prog 295 #[v,lA mA i,oA (bA ⟨h,0,aA⟩) 1 1] w fun e m=>
  ∃l,e=sA l/\m.ownsRow B 149 3 l (vA b+1) (flat (bN b i f))/\gE (fun k=>v.ownBlock=bA k) w m/\(l.ownBlock=v.ownBlock\/l.ownBlock=bA w.1.size):=by
 by_cases u:i=vA b
 .subst u;exact xo B h v b f w a p c j
 rcases a.2 with⟨rfl,z⟩|⟨g,d,s,rfl,A,C,x,t,_⟩;omega
 by_cases y:vA b+1<=d
 .refine (ey B g d i h b f w a p (fun e=>q (by rw[e];rfl)) (by omega) y c).mono ?_;rintro e m ⟨rfl,n,o⟩;exact⟨_,rfl,n,o.mono (fun k e=>by subst e;rfl),Ca rfl⟩
 refine (ou B g d i h b f w a p (by omega) (by omega) c j).mono ?_;rintro e m ⟨r,rfl,n,o⟩;exact⟨_,rfl,n,gE.of o,La rfl⟩
def uZ(a x:Nat):Nat:=if (a+x) % 2=1 then(a / 2) ^^^ 2197175160 else a / 2
def wQ(a b:Nat):Nat->Nat
 |0=>a
 |k+1=>uZ (wQ a b k) (b / 2 ^ k)
def GQ(a:Nat)(c:UInt8):Nat:=wQ a c.toNat 8
def ma(l:List UInt8):Nat:=l.foldl GQ 4294967295
def wL(s:gB):Nat:=4294967295-ma s.data.toList
def aDu{a x:Nat}(h:a<4294967296):uZ a x<4294967296:=by
 unfold uZ;split;exact Qd (n:=32) (by omega) (by omega);omega
def EG{a b:Nat}(h:a<4294967296):∀k,wQ a b k<4294967296
 |0=>h
 |k+1=>aDu (EG h k)
def aNv(l:List UInt8):ma l<4294967296:=by
 have a:∀(l:List UInt8)(r:Nat),r<4294967296->l.foldl GQ r<4294967296:=fun l=>by
  induction l with
  |nil=>exact fun r h=>h
  |cons c l b=>exact fun r h=>b _ (EG h 8)
 exact a l _ (by omega)
def YA(l:List UInt8)(c:UInt8):ma (l++[c])=GQ (ma l) c:=by simp[ma]
def aBj(s:gB):wL s<4294967296:=by unfold wL;omega
def aQm(a b:Nat)(c:a<4611686018427387904)(d:b<4611686018427387904):bits .xor mA (a:Int) (b:Int)=((a ^^^ b:Nat):Int):=by
 have e:a ^^^ b<2 ^ 62:=Qd (by omega) (by omega);show IntKind.i64.wrap ((BitVec.ofInt 64 (a:Int) ^^^ BitVec.ofInt 64 (b:Int)).toNat:Int)=_;rw[Jg,Nc,Nc,Hc,Hc,Ic (by omega),Ic (by omega)];simp only[IntKind.wrap,IntKind.bits,IntKind.signed];simp;omega
def BQ:∃i,prog.info? 9=bA i/\i.zero=bA (nA kA)/\i.size=1/\i.bytes=16:=by
 have h:(prog.info? 9).map (fun i=>(i.zero,i.size,i.bytes))=bA (bA (nA kA),1,16):=by kernel_rfl
 obtain⟨i,b,a⟩:=Wb.1 h;simp only[Dc]at a;exact⟨i,b,a.1,a.2.1,a.2.2⟩
def oG{w:eA}{B:Nat}{e:jA}{g i:Nat}{a:List gB}(h:w.ownsRow B e 1 (oA (bA ⟨g,0,aA⟩) (vA a) i) (vA a) (a.map iA.string)):
 vA a<=i/\g<w.1.size/\∀(j:Nat) x,a[j]?=bA x->w.cell? ⟨g,0+j,aA⟩=bA (nA x):=by
 rcases h.2 with⟨c,_⟩|⟨p,f,d,c,q,k,l,_,_,n⟩;simp at c;simp only[iA.slice.injEq,Qa,Addr.mk.injEq,Cc]at c;obtain⟨rfl,_,rfl⟩:=c;refine⟨l,zA k,fun j x o=>?_⟩;rw[cell_of_row w g _ d _ _ k,Ya,<-Yd];have b:(a.map iA.string)[j]?=bA (nA x):=by rw[Se,o];rfl
 rw[<-n]at b;have m:=(Pb.1 b).1;rw[Hb]at m;rw[Jb (by omega)]at b;exact b
def NZ(s:gB)(w:eA)(u:s.size<=maxLen):
 dI 109 #[nA s] w (lA mA (wL s:Nat)):=by
 unfold maxLen at u;go_enter func109,ntmps109;go_wp2;go_loop [3,4,5,6,7,8] (fun r i _ _ _ _=>∃(j R:Nat),j<=s.size/\i=lA mA j/\r=lA mA R/\xA (R=ma (s.data.toList.take j))) (fun _ i _ _ _ _=>s.size-(intOf i).toNat)
 case atStart=>exact⟨0,4294967295,Oa _,rfl,rfl,rfl⟩
 case round=>
  obtain⟨j,R,A,rfl,rfl,f⟩:=hrel;have b:R<4294967296:=by rw[f.o];exact aNv _
  by_cases g:j<s.size
  .have z:s[j].toNat<256:=s[j].toNat_lt;go_wp2;go_loop [3,5,6,7,8] (fun r k _ _ _=>∃(m S:Nat),m<=8/\k=lA mA m/\r=lA mA S/\xA (S=wQ R s[j].toNat m)) (fun _ k _ _ _=>8-(intOf k).toNat)
   case atStart=>exact⟨0,R,by omega,rfl,rfl,rfl⟩
   case round=>
    obtain⟨m,S,B,rfl,rfl,c⟩:=hrel;have h:S<4294967296:=by rw[c.o];exact EG b _
    by_cases p:m<8
    .go_wp2;go_loop [6,7] (fun x q=>∃(t X:Nat),t<=m/\q=lA mA t/\x=lA mA X/\xA (X=s[j].toNat / 2 ^ t)) (fun _ q=>m-(intOf q).toNat)
     case atStart=>exact⟨0,s[j].toNat,by omega,rfl,rfl,by show _=_;simp⟩
     case round=>
      obtain⟨t,X,C,rfl,rfl,d⟩:=hrel;have n:X<256:=by
       have:X<=s[j].toNat:=by rw[d.o];exact Nat.div_le_self _ _
       omega
      by_cases v:t<m
      .go_wp2;exact⟨⟨t+1,X / 2,by omega,by go_num,by go_num,by show _=_;rw[d.o,Fg,Od]⟩,by simp[intOf];omega⟩
      have e:t=m:=by omega
      subst e;by_cases a:(S+X) % 2=1
      .go_wp2;have o:bits BinOp.xor IntKind.i64 ((S:Int) / 2) 2197175160=(((S / 2) ^^^ 2197175160:Nat):Int):=aQm (S / 2) 2197175160 (by omega) (by omega);rw[o];exact⟨⟨t+1,_,by omega,by go_num,rfl,by show _=_;rw[wQ,uZ,<-c.o,<-d.o,Ma a]⟩,by simp[intOf];omega⟩
      go_wp2;exact⟨⟨t+1,S / 2,by omega,by go_num,by go_num,by show _=_;rw[wQ,uZ,<-c.o,<-d.o,Ja a]⟩,by simp[intOf];omega⟩
    go_wp2;have e:m=8:=by omega
    subst e;exact⟨⟨j+1,S,by omega,by go_num,rfl,by show _=_;rw[eT s j g,YA,<-f.o,GQ,c.o]⟩,by simp[intOf];omega⟩
  go_wp2;go_ret;refine⟨fD ?_,rfl⟩;rw[wL,<-Ra (l:=s.data.toList) (i:=j) (by simp;omega),<-f.o];omega
