import Derived.Test.YtbfnhppoecdnoaaGreatDoorJ25
set_option maxRecDepth 100000
set_option maxHeartbeats 8000000
set_option linter.defProp false
open Option renaming some->bA,none->aA
open ByteArray renaming empty->kA
open Bool renaming true->dA,false->cA
open List renaming length->vA
namespace Go.Proofs.YtbfnhppoecdnoaaGreatDoor
open Go renaming World->eA,Value->iA,TypeId->jA
open Value renaming string->nA,int->lA,slice->oA,agg->rA,pointer->qA
open IntKind renaming i64->mA
open Obj renaming cells->tA
open Go.RowKit Tryz
def uO(w:eA)(A:Nat->Prop)(a:iC)(b:List dB):Prop:=b=[]\/∃g o,a=bA ⟨g,o,aA⟩/\A g/\g<w.1.size/\dX w g o b
def uO.pairs{w:eA}{A:Nat->Prop}{a:iC}{b:List dB}(h:uO w A a b):yB w a b:=by grind [uO,yB]
def mC.toN{w:eA}{C:Nat}{A:Nat->Prop}{a:iC}{b:List dB}(h:mC w C a b)(c:∀g,C<=g->A g):uO w A a b:=by grind [mC,uO]
def aUs(w:eA)(A:Nat->Prop)(b o:Nat)(t:aB):Prop:=
 ∃a d c e,w.cell? ⟨b,o,aA⟩=bA (nA t.N)/\w.cell? ⟨b,o+1,aA⟩=bA (lA mA t.L)/\w.cell? ⟨b,o+2,aA⟩=bA (oA a (vA t.M) d)/\w.cell? ⟨b,o+3,aA⟩=bA (oA c (vA t.Z) e)/\
  uO w A a t.M/\uO w A c t.Z
def bL(w:eA)(A:Nat->Prop)(a:iC)(c:List aB):Prop:=c=[]\/∃b o,a=bA ⟨b,o,aA⟩/\A b/\b<w.1.size/\∀i(h:i<vA c),aUs w A b (o+i*4) c[i]
def uO.keep{w w':eA}{A:Nat->Prop}{a:iC}{d:List dB}(h:uO w A a d)(l:w.1.size<=w'.1.size)(k:∀g,A g->g<w.1.size->w'.heap[g]?=w.heap[g]?):uO w' A a d:=by
 rcases h with h|⟨g,o,rfl,c,b,h⟩;exact Ca h;have e:∀j,w'.cell? ⟨g,j,aA⟩=w.cell? ⟨g,j,aA⟩:=fun j=>eA.cell?_of_block (k g c b);exact La ⟨g,o,rfl,c,by omega,fun i f=>by simp only[e];exact h i f⟩
def bL.keep{w w':eA}{A:Nat->Prop}{a:iC}{l:List aB}(h:bL w A a l)(k:w.1.size<=w'.1.size)(d:∀g,A g->g<w.1.size->w'.heap[g]?=w.heap[g]?):bL w' A a l:=by
 rcases h with h|⟨b,o,rfl,f,e,h⟩;exact Ca h;refine La ⟨b,o,rfl,f,by omega,fun i y=>?_⟩;obtain⟨m,p,n,q,r,s,t,u,v,x⟩:=h i y;have c:∀j,w'.cell? ⟨b,j,aA⟩=w.cell? ⟨b,j,aA⟩:=fun j=>eA.cell?_of_block (d b f e);exact⟨m,p,n,q,(c _).trans r,(c _).trans s,(c _).trans t,(c _).trans u,v.keep k d,x.keep k d⟩
def bL.z{w d:eA}{A:Nat->Prop}{a:iC}{c:List aB}(h:bL w A a c)(b:kB w d):bL d A a c:=h.keep b.size fun g _ e=>b.block g e
def uO.mono{w:eA}{A A':Nat->Prop}{a:iC}{b:List dB}(h:uO w A a b)(c:∀g,A g->A' g):uO w A' a b:=by grind [uO]
def bL.mono{w:eA}{A A':Nat->Prop}{a:iC}{f:List aB}(h:bL w A a f)(c:∀g,A g->A' g):bL w A' a f:=by
 rcases h with h|⟨b,o,e,q,d,h⟩;exact Ca h;refine La ⟨b,o,e,c b q,d,fun i v=>?_⟩;obtain⟨j,l,k,m,n,p,r,s,t,u⟩:=h i v;exact⟨j,l,k,m,n,p,r,s,t.mono c,u.mono c⟩
def bL.tens{w:eA}{A:Nat->Prop}{a:iC}{d:List aB}(h:bL w A a d):nC w a d:=by
 rcases h with h|⟨b,o,rfl,_,c,h⟩;exact Ca h;refine La ⟨b,o,rfl,c,fun i r=>?_⟩;obtain⟨e,g,f,j,k,l,m,n,p,q⟩:=h i r;exact⟨e,g,f,j,k,l,m,n,p.pairs,q.pairs⟩
def vC.toN{w:eA}{C:Nat}{A:Nat->Prop}{a:iC}{c:List aB}(h:vC w C a c)(b:∀g,C<=g->A g):bL w A a c:=by
 rcases h with h|⟨g,o,k,t,T,rfl,s,u,_,h⟩;exact Ca h;refine La ⟨g,o,rfl,b g s,zA u,fun i v=>?_⟩;obtain⟨d,f,e,j,l,m,n,p,q,r⟩:=h i v;exact⟨d,f,e,j,l,m,n,p,q.own.toN b,r.own.toN b⟩
def nC.toN{w:eA}{a:iC}{d:List aB}(h:nC w a d):bL w (fun g=>g<w.1.size) a d:=by
 rcases h with h|⟨b,o,e,c,h⟩;exact Ca h;refine La ⟨b,o,e,c,c,fun i v=>?_⟩;obtain⟨f,m,j,n,p,q,r,s,t,u⟩:=h i v;exact⟨f,m,j,n,p,q,r,s,t.elim Ca fun⟨g,o,e,l,k⟩=>La ⟨g,o,e,l,l,k⟩,u.elim Ca fun⟨g,o,e,l,k⟩=>La ⟨g,o,e,l,l,k⟩⟩
def bL.lt{w:eA}{A:Nat->Prop}{a:iC}{d:List aB}(h:bL w A a d):bL w (fun g=>A g/\g<w.1.size) a d:=by
 rcases h with h|⟨b,o,e,x,c,h⟩;exact Ca h;refine La ⟨b,o,e,⟨x,c⟩,c,fun i y=>?_⟩;obtain⟨f,n,j,p,q,r,s,t,u,v⟩:=h i y;exact⟨f,n,j,p,q,r,s,t,u.elim Ca fun⟨g,o,e,l,m,k⟩=>La ⟨g,o,e,⟨l,m⟩,m,k⟩,v.elim Ca fun⟨g,o,e,l,m,k⟩=>La ⟨g,o,e,⟨l,m⟩,m,k⟩⟩
def bL.turn{w W:eA}{A S:Nat->Prop}{a:iC}{c:List aB}(h:bL w A a c)(b:bB S w W)(d:∀g,A g->¬S g):bL W A a c:=h.keep b.size fun g e f=>b.block g f (d g e)
def zX(a b:Int)(c d:gB)(w:eA):
 qD 372 #[rA #[lA mA a,nA c],nA d,lA mA b] w (rA #[lA mA a,nA c,nA d,lA mA b]):=by
 go_enter func372,ntmps372;go_wp2;exact bodyPost_ret (v:=rA #[lA mA a,nA c,nA d,lA mA b]) (by simp[results,results372,go_sem]) rfl ⟨rfl,oB vB vB⟩
def aEr(d:Int)(f g:gB)(w:eA):
 qD 373 #[rA #[lA mA d,nA f,nA g]] w (rA #[lA mA d,nA f,nA g,lA mA 0]):=by
 go_enter func373,ntmps373;go_wp2_with fail;apply aC (zX _ _ _ _ _);intro c b;have h:xA _:=oB (oB vB vB) b;have a:xA (iB c (w.1.size+1) #[lA mA 0,nA kA,nA kA,lA mA 0] 71):=by have:=(iB.new (w.alloc (tA #[lA mA d,nA f,nA g] 384)) #[lA mA 0,nA kA,nA kA,lA mA 0] 71).z b;exact yA (by simpa using this)
 have i:cC c (w.1.size+1) 0 (lA mA 0):=a.o.cell 0;have j:cC c (w.1.size+1) 1 (nA kA):=a.o.cell 1;have k:cC c (w.1.size+1) 2 (nA kA):=a.o.cell 2;have l:cC c (w.1.size+1) 3 (lA mA 0):=a.o.cell 3;have n:=a.o.free 0;have o:=a.o.free 1;have p:=a.o.free 2;have q:=a.o.free 3;clear b;go_wp2;refine bodyPost_ret (v:=rA #[lA mA d,nA f,nA g,lA mA 0]) (by simp[results,results373,go_sem,i,j,k,l]) rfl ⟨rfl,?_⟩;exact(((h.o.setCell (by simp) _).setCell (by simp) _).setCell (by simp) _).setCell (by simp) _
def aEs(d f:Int)(g:gB)(w:eA):
 qD 374 #[rA #[lA mA d,nA g,lA mA f]] w (rA #[lA mA d,nA g,nA kA,lA mA f]):=by
 go_enter func374,ntmps374;go_wp2_with fail;apply aC (zX _ _ _ _ _);intro c b;have h:xA _:=oB (oB vB vB) b;have a:xA (iB c (w.1.size+1) #[lA mA 0,nA kA,nA kA,lA mA 0] 71):=by have:=(iB.new (w.alloc (tA #[lA mA d,nA g,lA mA f] 386)) #[lA mA 0,nA kA,nA kA,lA mA 0] 71).z b;exact yA (by simpa using this)
 have i:cC c (w.1.size+1) 0 (lA mA 0):=a.o.cell 0;have j:cC c (w.1.size+1) 1 (nA kA):=a.o.cell 1;have k:cC c (w.1.size+1) 2 (nA kA):=a.o.cell 2;have l:cC c (w.1.size+1) 3 (lA mA 0):=a.o.cell 3;have n:=a.o.free 0;have o:=a.o.free 1;have p:=a.o.free 2;have q:=a.o.free 3;clear b;go_wp2;refine bodyPost_ret (v:=rA #[lA mA d,nA g,nA kA,lA mA f]) (by simp[results,results374,go_sem,i,j,k,l];rfl) rfl ⟨rfl,?_⟩;exact(((h.o.setCell (by simp) _).setCell (by simp) _).setCell (by simp) _).setCell (by simp) _
def aEo(d f:Int)(g h:gB)(w:eA):
 qD 375 #[rA #[lA mA d,nA g,nA h,lA mA f]] w (rA #[lA mA d,nA g,nA h,lA mA f]):=by
 go_enter func375,ntmps375;go_wp2_with fail;apply aC (zX _ _ _ _ _);intro c b;have i:xA _:=oB (oB vB vB) b;have a:xA (iB c (w.1.size+1) #[lA mA 0,nA kA,nA kA,lA mA 0] 71):=by have:=(iB.new (w.alloc (tA #[lA mA d,nA g,nA h,lA mA f] 388)) #[lA mA 0,nA kA,nA kA,lA mA 0] 71).z b;exact yA (by simpa using this)
 have j:cC c (w.1.size+1) 0 (lA mA 0):=a.o.cell 0;have k:cC c (w.1.size+1) 1 (nA kA):=a.o.cell 1;have l:cC c (w.1.size+1) 2 (nA kA):=a.o.cell 2;have m:cC c (w.1.size+1) 3 (lA mA 0):=a.o.cell 3;have o:=a.o.free 0;have p:=a.o.free 1;have q:=a.o.free 2;have r:=a.o.free 3;clear b;go_wp2;refine bodyPost_ret (v:=rA #[lA mA d,nA g,nA h,lA mA f]) (by simp[results,results375,go_sem,j,k,l,m]) rfl ⟨rfl,?_⟩;exact(((i.o.setCell (by simp) _).setCell (by simp) _).setCell (by simp) _).setCell (by simp) _
def ov(x : Value)(w : World) : (invoke (.fn (.method "loop.example/s02176/impl.flat") #[]) #[.iface 384 x]).run prog w = .ok (.enter 373 #[x]) w := by kernel_rfl
def ow(x : Value)(w : World) : (invoke (.fn (.method "loop.example/s02176/impl.flat") #[]) #[.iface 386 x]).run prog w = .ok (.enter 374 #[x]) w := by kernel_rfl
def ox(x : Value)(w : World) : (invoke (.fn (.method "loop.example/s02176/impl.flat") #[]) #[.iface 388 x]).run prog w = .ok (.enter 375 #[x]) w := by kernel_rfl
def kQ{a:List cB}(c:∀f∈a,cP f=dA)(d:nV a):zH a=dA:=by
 simp only[zH,xT,Ke,Xg];intro i b;unfold pU;rw[Va b];simp only[c _ (Gb b),Oc];cases i with
 |zero=>rfl
 |succ j=>
  simp only[Va (show j<vA a by omega)];exact d j (j+1) (by omega) b
def GW{a:List cB}(h:zH a=dA):∀f∈a,cP f=dA:=by
 intro f c;obtain⟨i,b,rfl⟩:=Ib c;simp only[zH,xT,Ke,Xg]at h;have:=h i b;unfold pU at this;rw[Va b]at this;simp only[Sa]at this;exact this.1
def ltF(a b:cB):Prop:=Op.bytesLess a.N.toList b.N.toList=dA
def km{c:List cB}:nV c ↔ c.Pairwise ltF:=by
 rw[Qe];exact⟨fun h i j _ b a=>h i j a b,fun h i j a b=>h i j (by omega) b a⟩
def aBb{c:List cB}{f:cB}(h:nV c)(l:kI c f.N (fC f.N c)=cA):nV (bN c (fC f.N c) f):=by
 have n:=rK f.N h;have k:=YQ h l;have g:=km.1 h;rw[<-Za (fC f.N c) c,Ae]at g;rw[km,bN,Ae,Bc];refine⟨g.1,⟨fun b d=>?_,g.2.1⟩,fun a m b d=>?_⟩;obtain ⟨j,i,rfl⟩:=Ib d;rw[Rc]at i;rw[Cg];have o:=n.2.2 (fC f.N c+j) (by omega) (by omega);exact gM _ _ o (fun e=>k _ (by omega) (toList_inj e));rcases Lb.1 d with rfl|d;obtain ⟨j,i,rfl⟩:=Ib m;rw[Hb]at i;rw[Ue];exact n.2.1 j (by omega) (by omega);exact g.2.2 a m b d
def OZ{a:List cB}{i:Nat}{f:cB}(h:nV a)(b:i<vA a)(c:f.N=a[i].N):nV (a.set i f):=by grind [nV]
def yZ{n d:gB}{s:Int}(c:uG n=dA)(a:0<=s)(b:s<=d.size):cP ⟨n,d,s⟩=dA:=by
 simp[cP,wB,c,a,b]
def jY{a:List cB}{i:Nat}{f g:cB}(h:g∈a.set i f):g=f\/g∈a:=(List.mem_or_eq_of_mem_set h).symm
def mh{a:List cB}{c k b d:Int}(e:vA a<=1000)(f:zH a=dA)(g:0<=c/\c<=1000000000)(h:(rC a:Int)<=c)(i:0<=k/\k<=1000000000000000)(j:0<=b/\b<=1000000000000000)(l:0<=d/\d<=1000000000000000):fF a c k b d=dA:=by
 simp[fF,wB,e,f,g,h,i,j,l]
def aJf{a:List cB}{c:Int}{op:vK}(m:zH a=dA)(l:vA a<=1000)(p:(rC a:Int)<=c)(B:uG op.N=dA)(E:op.K=5->uG op.tq=dA):
 zH (uP a c op).2=dA/\vA (uP a c op).2<=1000/\(rC (uP a c op).2:Int)<=c:=by
 have j:=KI m;have o:=GW m;unfold uP;simp only;split
 .split
  .exact ⟨m,l,p⟩
  rename_i x;split
  .exact ⟨m,l,p⟩
  rename_i A;have C:=rK op.N j;refine⟨kQ (fun f i=>?_) (aBb (f:=⟨op.N,kA,0⟩) j (by simpa using x)),?_,?_⟩
  .simp only[bN,Ee,Lb]at i;rcases i with i|rfl|i
   .exact o _ (Ce i)
   .exact yZ B (by omega) (by simp)
   exact o _ (Ng i)
  .rw[gR _ _ _ C.1];omega
  rw[FT];simpa using p
 split;exact ⟨m,l,p⟩
 rename_i f v;obtain⟨k,rfl⟩:=Pb.1 v;have h:=o _ (Gb k);simp only[cP,wB,Sa,Ab]at h;split
 .exact ⟨m,l,p⟩
 split
 .split
  .exact ⟨m,l,p⟩
  rename_i G;have b:=lO a (fC op.N a) ⟨a[fC op.N a].N,a[fC op.N a].data++op.data,a[fC op.N a].Y⟩ k;simp only[Ka]at b;refine⟨kQ (fun g e=>?_) (OZ j k rfl),by simpa using l,by simp only;omega⟩;rcases jY e with rfl|e
  .exact yZ h.1 h.2.1 (by rw[Ka];omega)
  exact o _ e
 split
 .have b:=lO a (fC op.N a) ⟨a[fC op.N a].N,a[fC op.N a].data,a[fC op.N a].data.size⟩ k;simp only at b;refine⟨kQ (fun g e=>?_) (OZ j k rfl),by simpa using l,by simp only;omega⟩;rcases jY e with rfl|e
  .exact yZ h.1 (by omega) (by omega)
  exact o _ e
 split
 .split
  .rename_i u;simp only[wB,Sa,Ab]at u;have b:=lO a (fC op.N a) ⟨a[fC op.N a].N,a[fC op.N a].data.extract 0 op.size.toNat,op.size⟩ k;simp only at b;have F:(a[fC op.N a].data.extract 0 op.size.toNat).size=op.size.toNat:=by rw[Je];omega
   refine⟨kQ (fun g e=>?_) (OZ j k rfl),by simpa using l,by simp only;omega⟩;rcases jY e with rfl|e;exact yZ h.1 u.1 (by rw[F];omega);exact o _ e
  exact ⟨m,l,p⟩
 have t:zH (a.eraseIdx (fC op.N a))=dA:=kQ (fun g e=>o _ (Sf e)) (j.erase _);have z:vA (a.eraseIdx (fC op.N a))=vA a-1:=by rw[Ad,Ma k]
 have D:=fZ a _ k;split
 .rename_i y;have u:=(rK op.tq (j.erase (fC op.N a)))
  have q:=yZ (n:=op.tq) (d:=a[fC op.N a].data) (s:=a[fC op.N a].Y) (E y) h.2.1 h.2.2;cases hq:kI (a.eraseIdx (fC op.N a)) op.tq (fC op.tq (a.eraseIdx (fC op.N a))) with
  |true=>
   obtain⟨w,r⟩:=PH hq;have b:=lO (a.eraseIdx (fC op.N a)) (fC op.tq (a.eraseIdx (fC op.N a))) ⟨op.tq,a[fC op.N a].data,a[fC op.N a].Y⟩ w;simp only at b;rw[VT (f:=⟨op.tq,a[fC op.N a].data,a[fC op.N a].Y⟩) (j.erase _) w r];refine⟨kQ (fun g e=>?_) (OZ (j.erase _) w r.symm),by simp only[Pd];omega,by simp only;omega⟩;rcases jY e with rfl|e;exact q;exact GW t _ e
  |false=>
   rw[VS (f:=⟨op.tq,a[fC op.N a].data,a[fC op.N a].Y⟩) (j.erase _) hq];refine⟨kQ (fun f i=>?_) (aBb (f:=⟨op.tq,a[fC op.N a].data,a[fC op.N a].Y⟩) (j.erase _) hq),?_,?_⟩
   .simp only[bN,Ee,Lb]at i;rcases i with i|rfl|i
    .exact GW t _ (Ce i)
    .exact q
    exact GW t _ (Ng i)
   .rw[gR _ _ _ u.1];omega
   rw[FT];simp only;omega
 exact ⟨t,by simp only;omega,by simp only;omega⟩
def cz{k cr fl:Int}{dn:Bool}(a:0<=k)(b:k<=1000000000000000):0<=(mD k cr fl dn).2.1/\(mD k cr fl dn).2.1<=1000000000000000:=by grind [mD]
def RJ{j:List cB}{c k b d:Int}{i:Bool}{a:vK}(h:fF j c k b d=dA)(l:LD a=dA):
 fF (mJ j c k b d i a).2.1 c (mJ j c k b d i a).2.2.1 b d=dA:=by
 obtain⟨m,n,o,p,q,x,y,r,s,e,f⟩:=xK h;have g:uG a.N=dA/\(a.K=5->uG a.tq=dA):=by
  simp only[LD,wB,Sa,Fe,Ab]at l;exact⟨l.1.2,fun h=>l.2.resolve_left (fun k=>k h)⟩
 have t:=cz (cr:=b) (fl:=d) (dn:=i) x y;unfold mJ;split;obtain ⟨u,v,w⟩:=aJf (op:=a) m n q g.1 g.2;exact mh v u ⟨o,p⟩ w t ⟨r,s⟩ ⟨e,f⟩;exact mh n m ⟨o,p⟩ q t ⟨r,s⟩ ⟨e,f⟩
def wY:gB:=⟨#[99,107,112,116,46,116,109,112]⟩
def ckN:gB:=⟨#[99,107,112,116]⟩
def nJ:mE->List vK->mE×Nat
 |K,[]=>(K,0)
 |K,a::r=>if (lE K a).2=0 then nJ (lE K a).1 r else lE K a
def JB(n:Int):vK:=⟨6,jN n,⟨#[]⟩,⟨#[]⟩,0⟩
def ZR:vK:=⟨6,wY,⟨#[]⟩,⟨#[]⟩,0⟩
def AD(a:Int)(b:gB):List vK:=
 [⟨1,wY,⟨#[]⟩,⟨#[]⟩,0⟩,⟨2,wY,⟨#[]⟩,b,0⟩,⟨3,wY,⟨#[]⟩,⟨#[]⟩,0⟩,⟨5,wY,ckN,⟨#[]⟩,0⟩,⟨1,jN (a+1),⟨#[]⟩,⟨#[]⟩,0⟩]
def yR(first:Int)(k:Nat):List vK:=(List.range k).map fun(i:Nat)=>JB (first+(i:Int))
def eP(a:List cB):List vK:=if 0<=vF wY a 0 then [ZR] else []
def aP(K:mE)(L:kG)(a:gB):List vK:=eP K.fs++(AD L.last a++yR L.first (L.last+1-L.first).toNat)
def aQt(N:oC)(K:mE):oC:=⟨K,N.l,N.now,N.ts,N.lsn,dA,!K.dn⟩
def GN(c:lC)(N:oC):oC×Int:=
 if pH c=cA then(qK,61)
 else if upB N=cA then(N,60)
 else if iJ N.l=cA then(N,21)
 else if N.l.last=999999 then(N,23)
 else if xP N.lsn N.now N.ts=⟨#[]⟩ then(N,62)
 else if (nJ N.d (aP N.d N.l (xP N.lsn N.now N.ts))).2=0 then(⟨(nJ N.d (aP N.d N.l (xP N.lsn N.now N.ts))).1,⟨N.l.last+1,N.l.last+1,0⟩,N.now,N.ts,N.lsn,N.deg,N.up⟩,0)
 else(aQt N (nJ N.d (aP N.d N.l (xP N.lsn N.now N.ts))).1,((nJ N.d (aP N.d N.l (xP N.lsn N.now N.ts))).2:Int))
theorem fV(a b:List vK):∀K:mE,nJ K (a++b)=if (nJ K a).2=0 then nJ (nJ K a).1 b else nJ K a:=by induction a<;>grind [nJ]
def CF{K:mE}{xs:List vK}(a:vK)(h:(nJ K xs).2=0):nJ K (xs++[a])=lE (nJ K xs).1 a:=by grind [nJ,lE,fV]
def LL{K:mE}{a d:List vK}(b:vK)(h:(nJ K a).2=0)(c:(lE (nJ K a).1 b).2≠0):nJ K (a++b::d)=lE (nJ K a).1 b:=by
 rw[fV,Ma h];simp only[nJ];rw[Ja c]
def RG(f:Int)(k:Nat):yR f (k+1)=yR f k++[JB (f+k)]:=by simp[yR,List.range_succ]
def mg(f:Int)(j k:Nat)(h:j<k):∃r,yR f k=yR f j++JB (f+j):: r:=by
 obtain⟨m,rfl⟩:∃m,k=j+1+m:=⟨k-j-1,by omega⟩
 refine⟨((List.range m).map fun i=>JB (f+(j+1+i:Nat))),?_⟩;simp only[yR,List.range_add,Ld,Vd,List.range_one,Nd,Fc,Ag];simp only[Bg,Sd,Mb,List.append_cancel_left_eq,List.cons.injEq,true_and];refine Ge fun i _=>?_;simp only[Function.comp_apply]
def aQr(a:vK):Prop:=a.N.size<=maxLen/\a.tq.size<=maxLen/\a.data.size<=200000000
def XW{K:mE}{L:kG}{b:gB}(j:b.size<=200000000):∀g∈aP K L b,aQr g:=by
 intro g a;have f:∀n,(jN n).size<=maxLen:=fun n=>by have:=cT n;unfold maxLen;omega
 have e:wY.size<=maxLen:=by unfold maxLen;decide
 have h:ckN.size<=maxLen:=by unfold maxLen;decide
 have c:(⟨#[]⟩:gB).size<=maxLen:=Oa _;have d:(⟨#[]⟩:gB).size<=200000000:=Oa _;simp only[aP,eP,AD,yR,Ee,Md,Lb,Ed,Bf]at a;rcases a with a|(a|a|a|a|a)|⟨i,_,a⟩
 .split at a
  .simp only[Lb,Ed,Bf]at a;subst a;exact⟨e,c,d⟩
  cases a
 .subst a;exact⟨e,c,d⟩
 .subst a;exact⟨e,c,j⟩
 .subst a;exact⟨e,c,d⟩
 .subst a;exact⟨e,h,d⟩
 .subst a;exact⟨f _,c,d⟩
 subst a;exact⟨f _,c,d⟩
def dy:∀(d:List vK)(K:mE),CO K.fs->(∀a∈d,aQr a)->CO (nJ K d).1.fs
 |[],K,h,_=>h
 |a::r,K,h,c=>by
  obtain⟨e,f,_⟩:=c a (by simp);have b:=AA h e f;simp only[nJ];split;exact dy r _ b (fun o g=>c o (Sb _ g));exact b
def FR(K:mE)(a:vK):(lE K a).2<=6:=by grind [lE,kR,VC]
def LK:∀(b:List vK)(K:mE),(nJ K b).2<=6
 |[],_=>Oa _
 |a::r,K=>by
  simp only[nJ];split;exact LK r _;exact FR K a
theorem aHm{K:mE}(a:vK)(h:fF K.fs K.c K.k K.cr K.fl=cA):lE K a=(⟨[],0,0,0,0,cA⟩,6):=by
 unfold lE kR;rw[Ja (by simp[h])]
def aPu{K:mE}{L:kG}{a:gB}(h:fF K.fs K.c K.k K.cr K.fl=cA):nJ K (aP K L a)=(⟨[],0,0,0,0,cA⟩,6):=by grind [fF,nJ,aP,eP,AD,aHm]
def aNr{c:lC}{N:oC}(a:CO N.d.fs)(e:(xP N.lsn N.now N.ts).size<=200000000):CO (GN c N).1.d.fs/\((GN c N).1.ts=N.ts\/(GN c N).1.ts=[]):=by
 have b:=dy (aP N.d N.l (xP N.lsn N.now N.ts)) N.d a (XW e);unfold GN;repeat' split
 all_goals first|exact⟨dw,La rfl⟩|exact⟨a,Ca rfl⟩|exact⟨b,Ca rfl⟩
def aEt{a:List cB}{t:gB}(b:nV a):(0<=vF t a 0) ↔ kI a t (fC t a)=dA:=by grind [nV,vF,kI,fC,SH,rK]
def qH.take{w:eA}{g cap n:Nat}{hs:List tI}(h:qH w g cap hs)(m:n<=vA hs):qH w g cap (hs.take n):=by
 obtain⟨a,b,c,j,d,f⟩:=h;refine⟨a,b,c,by rw[Hb];omega,d,fun k i=>?_⟩;rw[Hb]at i;have e:oD (hs.take n) k=oD hs k:=by simp[oD,List.getD,Jb (show k<n by omega)]
 rw[e];exact f k (by omega)
def SI(x o g n cap k:Nat)(a:List tI)(w:eA)(s:w.cell? ⟨x,o,aA⟩=bA (oA (bA ⟨g,0,aA⟩) n cap))(m:n=vA a)(j:qH w g cap a)(P:k<=1000000000):
 qD 338 #[qA (bA ⟨x,o,aA⟩),lA mA k] w (lA mA (pE a k:Nat)):=by
 have f:xA (pE a k=if 2*k+2<vA a/\(oD a (2*k+2)).t<(oD a (2*k+1)).t then 2*k+2 else 2*k+1):=rfl;obtain⟨r,d⟩:∃r,r=2*k+2:=⟨_,rfl⟩
 obtain⟨q,c⟩:∃q,q=2*k+1:=⟨_,rfl⟩
 rw[<-d,<-c]at f;have R:2*(k:Int)+2=(r:Nat):=by omega
 have Q:2*(k:Int)+1=(q:Nat):=by omega
 have N:r<=2000000002:=by omega
 have L:q<=2000000001:=by omega
 have E:=tB.cells s;have b:=tB.there w;clear d c;by_cases F:r<n
 .obtain ⟨v,z,_,_⟩:=j.cells (k:=r) (by omega);obtain⟨B,D,_,_⟩:=j.cells (k:=q) (by omega);have H:=tB.cells v;have I:=tB.cells z;have J:=tB.cells B;have K:=tB.cells D;have HN:xA _:=m;clear v z B D s j m;generalize pE a k=u at *;generalize oD a r=A at *;generalize oD a q=C at *;have M:q<n:=by omega
  go_enter func338,ntmps338;go_wp2_with fail;refine jB (by kernel_rfl) (by kernel_rfl) ?_;repeat (go_big_quiet_step (fail))
  refine cW (by rfl) (fun W=>xZ _ _ _ _ _ _ rfl rfl rfl (cY _ _ W)) (by rintro _ ⟨x,rfl⟩;exact xB (DZ _ _ _ _ _)) ?_;simp only[Act.put,Ud,Jd,Ze];repeat (go_big_quiet_step (fail))
  refine wpQuiet_nil ?_;rintro _ ⟨y,rfl⟩;have p:xA _:=y.h;clear E H I J K b;generalize y.w'=G at *;clear y;have i:xA (u=if decide (A.t<C.t)=dA then r else q):=by show _=_;rw[f.o];simp only[Ab,<-HN.o,F,true_and]
  cases hd:decide (A.t<C.t)
  all_goals
   rw[hd]at i;go_wp2;go_ret;exact⟨fD (by rw[i.o];rfl),p.o⟩
 have i:xA (pE a k=q):=by show _=_;rw[f.o,Ja (fun h=>F (by rw[m];exact h.1))]
 clear s j m f;generalize pE a k=u at *;go_enter func338,ntmps338;go_wp2_with fail;refine jB (by kernel_rfl) (by kernel_rfl) ?_;repeat (go_big_quiet_step (fail))
 refine wpQuiet_nil ?_;rintro _ ⟨y,rfl⟩;have p:xA _:=y.h;clear E b;generalize y.w'=G at *;clear y;go_wp2;go_ret;exact⟨fD (by rw[i.o]),p.o⟩
structure PI(w W:World)(x g cap q:Nat)(cx:Array Value)(tx:TypeId)(l:List tI)(TP:tI):Prop where
 X:iB W x cx tx
 M:qH W g cap l
 P:iB W w.1.size #[qA aA,lA mA 0] 271
 Q:iB W q #[qA (bA ⟨TP.b,0,aA⟩),lA mA TP.t] 271
 T:bB (fun k=>k=x∨k=g) w W
section
variable {w W W':eA} {x g cap q:Nat} {cx:Array iA} {tx:jA} {l l':List tI} {TP:tI}
theorem PI.z(h:PI w W x g cap q cx tx l TP)(a:kB W W'):PI w W' x g cap q cx tx l TP:=⟨h.X.z a,h.M.z a,h.P.z a,h.Q.z a,h.T.trans' (bB.of a)⟩
theorem PI.but(h:PI w W x g cap q cx tx l TP)(c:qH W' g cap l')(a:tD g W W')(b:g≠x)(d:g<w.1.size)(f:g<q):PI w W' x g cap q cx tx l' TP:=⟨h.X.but a b.symm,c,h.P.but a (by omega),h.Q.but a (by omega),h.T.trans' ((bB.but a).mono fun i _ e=>La e)⟩
end
def aPh(x o g cap:Nat)(f:List tI)(w:eA)(cx:Array iA)(tx:jA)(hX:iB w x cx tx)(ho:cx[o]?=bA (oA (bA ⟨g,0,aA⟩) (vA f) cap))(hM:qH w g cap f)(hne:g≠x)(h0:0<vA f)(hn:vA f<=1000000000):
 Calls prog 331 #[qA (bA ⟨x,o,aA⟩)] w fun e w'=>e=.returned (rA #[qA (bA ⟨(oD f 0).b,0,aA⟩),lA mA (oD f 0).t])/\iB w' x (cx.setIfInBounds o (oA (bA ⟨g,0,aA⟩) (vA f-1) cap)) tx/\qH w' g cap (wP f)/\bB (fun k=>k=x\/k=g) w w':=by
 obtain⟨d,I⟩:∃d,d=vA f-1:=⟨_,rfl⟩
 have hla:(vA f:Int)-1=(d:Nat):=by omega
 have hl1:d<vA f:=by omega
 have hln:vA f=d+1:=by omega
 have hcl:vA f<=cap:=by obtain⟨N,_,_,h3,_⟩:=hM;exact h3
 have hlc:d<=cap:=by omega
 have hgl:=hM.lt;have hxl:=zA hX;have HPOP:xA (wP f=oP ((sG f 0 d).take d) 0):=by show _=_;rw[I];rfl
 have U:xA (oD (sG f 0 d) d=oD f 0):=by show _=_;rw[zI h0 hl1,Ma rfl]
 have S:xA (∀W,kB w W->Calls prog 237 #[qA (bA ⟨x,o,aA⟩),lA mA 0,lA mA d] W fun e w'=>e=.returned (.tuple #[])/\qH w' g cap (sG f 0 d)/\tD g W w'):=fun W hW=>by
  have:=VH x o g (vA f) cap 0 d f W (by rw[(hX.z hW).cell];exact ho) rfl (hM.z hW) h0 hl1;simpa using this
 have c0:w.cell? ⟨x,o,aA⟩=bA (oA (bA ⟨g,0,aA⟩) (vA f) cap):=by rw[hX.cell];exact ho
 have hoc:=(Vb.1 ho).1;obtain⟨F,O⟩:∃c,c=cx.setIfInBounds o (oA (bA ⟨g,0,aA⟩) d cap):=⟨_,rfl⟩
 have i0:F[o]?=bA (oA (bA ⟨g,0,aA⟩) d cap):=by rw[O];simp[hoc]
 have HX:=yA hX;have HO:xA _:=ho;rw[<-I,<-O];have HCD:xA _:=O;have HFC:xA _:=fun(k:Nat)(l:List tI)(W:eA)(hb:iB W x F tx)(hm:qH W g cap l)(hl:vA l=d)(hk:k<=1000000000)=>SI x o g d cap k l W (by rw[hb.cell];exact i0) hl.symm hm hk;have HSW:xA _:=fun(i:Nat)(j:Nat)(l:List tI)(W:eA)(hb:iB W x F tx)(hm:qH W g cap l)(hl:vA l=d)(hi:i<d)(hj:j<d)=>VH x o g d cap i j l W (by rw[hb.cell];exact i0) hl.symm hm hi hj;generalize hpl:wP f=PL at *;generalize htp:oD f 0=TP at *;clear hX ho hM O I hpl htp;have B0:xA (kB w (w.alloc (tA #[qA aA,lA mA 0] 271))):=vB;have P0:xA (iB (w.alloc (tA #[qA aA,lA mA 0] 271)) w.1.size #[qA aA,lA mA 0] 271):=iB.new _ _ _;have e0:=(B0.o.cell hxl).trans c0;go_enter func331,ntmps331;go_wp2_with fail;apply aC (S.o _ B0.o);rintro n ⟨g0,G⟩;have HM1:=yA g0;have hs1:=G.size;have hsa:(w.alloc (tA #[qA aA,lA mA 0] 271)).1.size=w.1.size+1:=by simp
 have X1:xA (iB n x cx tx):=(HX.o.z B0.o).but G hne.symm;have P1:xA (iB n w.1.size #[qA aA,lA mA 0] 271):=P0.o.but G (by omega);have T1:xA (bB (fun k=>k=x\/k=g) w n):=(bB.of B0.o).trans' ((bB.but G).mono fun i _ e=>La e);have hs1':w.1.size+1<=n.1.size:=by omega
 obtain⟨a0,a1,_,_⟩:=g0.cells (k:=d) (by rw[rD];exact hl1);rw[U.o]at a0 a1;have x0:n.cell? ⟨x,o,aA⟩=bA (oA (bA ⟨g,0,aA⟩) (vA f) cap):=by rw[X1.o.cell];exact HO.o
 clear g0 G S B0 P0 e0 c0 HX hsa hs1;obtain⟨wa,J⟩:∃wa,wa=n.alloc (tA #[qA (bA ⟨TP.b,0,aA⟩),lA mA TP.t] 271):=⟨_,rfl⟩
 have m:kB n wa:=by rw[J];exact vB
 have hw1:n.1.size<wa.1.size:=by rw[J];simp
 have xa:=((X1.o.z m).cell o).trans HO.o;have fa:=(X1.o.z m).free o;have D:bB (·=x) wa (wa.setCell ⟨x,o,aA⟩ (oA (bA ⟨g,0,aA⟩) d cap)):=(bB.refl (·=x) _).setCell (Ca rfl) o _;have HPI:xA (PI w (wa.setCell ⟨x,o,aA⟩ (oA (bA ⟨g,0,aA⟩) d cap)) x g cap n.1.size F tx ((sG f 0 d).take d) TP):=by
  obtain⟨N,m1,m2⟩:=HM1.o.z m;exact⟨by rw[HCD.o];exact(X1.o.z m).set o _,qH.take (hs:=sG f 0 d) ⟨N,D.blk m1 hne,m2⟩ (by rw[rD];omega),D.blk (P1.o.z m) (by omega),D.blk (by rw[J];exact iB.new _ _ _) (by omega),(T1.o.trans' (bB.of m)).trans' (D.mono fun i _ e=>Ca e)⟩
 have HLT:xA (vA ((sG f 0 d).take d)=d):=by show _=_;rw[Hb,rD];omega
 clear D HM1 X1 P1 T1 HO U m;generalize (sG f 0 d).take d=l0 at *;rw[J]at xa fa hw1 HPI;clear J;go_wp2;clear xa fa a0 a1 x0 hw1;generalize ((n.alloc (tA #[qA (bA ⟨TP.b,0,aA⟩),lA mA TP.t] 271)).setCell ⟨x,o,aA⟩ (oA (bA ⟨g,0,aA⟩) d cap))=w2 at *;go_loopw [5] (fun a wr=>∃(k:Nat)(l:List tI),a=lA mA k/\k<=d/\vA l=d/\xA (PL=oP l k)/\xA (PI w wr x g cap n.1.size F tx l TP)) (fun a _=>d-(intOf a).toNat)
 case atStart=>exact⟨0,l0,rfl,Oa _,HLT.o,HPOP.o,HPI.o⟩
 case round=>
  obtain⟨k,l,rfl,hk,hl,B,H2⟩:=hrel;have HL:=yA hl;have h2:=vL l k;have K:xA (pE l k<vA l->(oD l (pE l k)).t<(oD l k).t->oP l k=oP (sG l k (pE l k)) (pE l k)):=fun a b=>an ⟨a,b⟩;have s:=yA (FP (l:=l) (k:=k));have R:=yA (HFC.o k l wr H2.o.X H2.o.M hl (by omega));clear hl;generalize hch:pE l k=E at *;clear hch;go_wp2_with fail;apply aC R.o;intro w3 hb3;have Z:=yA (H2.o.z hb3);clear hb3 R H2;have k1:w3.cell? ⟨x,o,aA⟩=bA (oA (bA ⟨g,0,aA⟩) d cap):=by rw[Z.o.X.cell];exact i0
  have d0:=tB.cells k1;have Y:=tB.there w3;by_cases hge:d<=E
  case' pos=>
   have L:xA (PL=l):=by show _=_;rw[B.o];exact s.o (fun h=>by have:=HL.o;omega)
   have hgi:¬((E:Int)<d):=by omega
   clear K s HSW;go_wp2_with fail;refine jB (by kernel_rfl) (by kernel_rfl) ?_;repeat (go_big_quiet_step (fail))
   refine wpQuiet_nil ?_;rintro _ ⟨y,rfl⟩;have p:=yA (Z.o.z y.h);clear d0 Y k1 Z;generalize y.w'=V at *;clear y
  case' neg=>
   have H:E<d:=by omega
   have hkl:k<d:=by omega
   obtain⟨a0,a1,_,_⟩:=Z.o.M.cells (k:=E) (by rw[HL.o];exact H);obtain⟨b0,b1,_,_⟩:=Z.o.M.cells (k:=k) (by rw[HL.o];exact hkl);have d1:=tB.cells a0;have d2:=tB.cells a1;have d3:=tB.cells b0;have d4:=tB.cells b1;have u:=yA (fun W h1 h2=>HSW.o k E l W h1 h2 HL.o hkl H);clear a0 a1 b0 b1 k1;generalize oD l E=A at *;generalize oD l k=C at *;go_wp2_with fail;refine jB (by kernel_rfl) (by kernel_rfl) ?_;repeat (go_big_quiet_step (fail))
   refine cW (by rfl) (fun W=>xZ _ _ _ _ _ _ rfl rfl rfl (cY _ _ W)) (by rintro _ ⟨x,rfl⟩;exact xB (DZ _ _ _ _ _)) ?_;simp only[Act.put,Ud,Jd,Ze];repeat (go_big_quiet_step (fail))
   refine wpQuiet_nil ?_;rintro _ ⟨y,rfl⟩;have p:=yA (Z.o.z y.h);clear d0 d1 d2 d3 d4 Y Z;generalize y.w'=V at *;clear y;by_cases r:A.t<C.t
   .have hd:decide (A.t<C.t)=dA:=by simpa using r
    rw[hd];have L:xA (PL=oP (sG l k E) E):=by show _=_;rw[B.o];exact K.o (by rw[HL.o];exact H) r
    have hkc:k<E:=by omega
    clear K s B r hd h2;go_wp2_with fail;apply aC (u.o _ p.o.X p.o.M);rintro w4 ⟨hM4,hb4⟩;have H4:=yA (p.o.but hM4 hb4 hne hgl (by omega));clear hM4 hb4 u;go_wp2;exact⟨⟨E,sG l k E,rfl,by omega,by rw[rD];exact HL.o,L.o,H4.o⟩,by simp[intOf];omega⟩
   have hd:decide (A.t<C.t)=cA:=by simpa using r
   rw[hd];have L:xA (PL=l):=by show _=_;rw[B.o];exact s.o (fun h=>r h.2)
   clear K s B r hd h2 u
  all_goals
   have z0:V.cell? ⟨w.1.size,0,aA⟩=bA (qA aA):=p.o.P.cell 0;have z1:V.cell? ⟨w.1.size,1,aA⟩=bA (lA mA 0):=p.o.P.cell 1;have fz0:=p.o.P.free 0;have fz1:=p.o.P.free 1;have q0:V.cell? ⟨n.1.size,0,aA⟩=bA (qA (bA ⟨TP.b,0,aA⟩)):=p.o.Q.cell 0;have q1:V.cell? ⟨n.1.size,1,aA⟩=bA (lA mA TP.t):=p.o.Q.cell 1;go_wp2;have z:bB (·=w.1.size) V ((V.setCell ⟨w.1.size,0,aA⟩ (qA (bA ⟨TP.b,0,aA⟩))).setCell ⟨w.1.size,1,aA⟩ (lA mA TP.t)):=((bB.refl (·=w.1.size) V).setCell (Ca rfl) 0 _).setCell (Ca rfl) 1 _;refine bodyPost_ret (v:=rA #[qA (bA ⟨TP.b,0,aA⟩),lA mA TP.t]) (by simp[results,results331,go_sem,z0,z1]) rfl ⟨rfl,z.blk p.o.X (by omega),?_,p.o.T.trans (z.mono fun i _ e=>La (by omega))⟩;rw[L.o];obtain⟨N,h1,h2⟩:=p.o.M;exact⟨N,z.blk h1 (by omega),h2⟩
def nR(L:kG)(p:gB)(a:Int):Nat:=
 if (iJ L&&wB a 1 1000000000)=cA then 21
 else if wB p.size 1 60000=cA then 22
 else if L.last=999999/\bQ L (8+p.size) a=dA then 23 else 0
def UE{L:kG}(h:iJ L=dA):0<=L.size/\L.size<=1000000000/\1<=L.first/\L.first<=L.last/\1<=L.last/\L.last<=999999:=by
 simp only[iJ,wB,Sa,Ab]at h;omega
def zm(P D:Nat)(L:kG)(p:gB)(a:Int)(w:eA)(h:KH w P D L)(G:p.size<=1900000):
 qD 247 #[qA (bA ⟨P,0,aA⟩),nA p,lA mA a] w (aOb (nR L p a)):=by
 obtain⟨t,u,v,x⟩:=h.cells;have s:xA (KH w P D L):=h;clear h t;have j:xA _:=fun W=>YX L W;have o:xA (∀W,dI 287 #[lA mA (p.size:Int)] W (.bool (wB p.size 1 60000))):=fun W=>mz _ W;cases hl:iJ L with
 |false=>
  have E:xA (nR L p a=21):=by show _=_;rw[nR,hl];rfl
  rw[hl]at j;clear hl;go_enter func247,ntmps247;go_wp2_with fail;apply aC (j.o _);intro g b;have d:xA _:=b;clear b;go_wp2;go_ret;rw[E.o];exact⟨rfl,d.o⟩
 |true=>
  obtain⟨m,n,_,_,y,z⟩:=UE hl;rw[hl]at j;by_cases A:1<=a/\a<=1000000000
  .have c:wB a 1 1000000000=dA:=by simp[wB];omega
   cases hf:wB p.size 1 60000 with
   |false=>
    have E:xA (nR L p a=22):=by show _=_;simp[nR,hl,c,hf]
    rw[hf]at o;clear hf hl c;go_enter func247,ntmps247;go_wp2_with fail;apply aC (j.o _);intro g b;have d:xA _:=b;clear b;go_wp2_with fail;apply lK (o.o _);go_wp2;go_ret;rw[E.o];exact⟨rfl,d.o⟩
   |true=>
    have H:1<=p.size/\p.size<=60000:=by
     simp only[wB,Sa,Ab]at hf;omega
    have q:xA (nR L p a=if L.last=999999/\bQ L (8+p.size) a=dA then 23 else 0):=by show _=_;simp[nR,hl,c,hf]
    rw[hf]at o;clear hf hl c;go_enter func247,ntmps247;go_wp2_with fail;apply aC (j.o _);intro g b;have d:xA _:=b;have k:xA (KH g P D L):=s.o.z b;obtain⟨_,_,F,_⟩:=k.o.cells;clear b u v x;go_wp2_with fail;apply lK (o.o _);by_cases l:L.last=999999
    .have r:(L.last==999999)=dA:=by simpa using l
     cases hfu:bQ L (8+p.size) a with
     |true=>
      have E:xA (nR L p a=23):=by show _=_;rw[q.o,Ma ⟨l,hfu⟩]
      have i:xA (dI 288 #[qA (bA ⟨P,0,aA⟩),lA mA (8+(p.size:Int)),lA mA a] g (.bool dA)):=by
       have:=BP P D L (8+(p.size:Int)) a g k.o ⟨m,n⟩ (by omega);rw[hfu]at this;exact this
      clear hfu l;go_wp2_with fail;apply lK i.o;go_wp2;go_ret;rw[E.o];exact⟨rfl,d.o⟩
     |false=>
      have E:xA (nR L p a=0):=by show _=_;rw[q.o,Ja (fun h=>by rw[hfu]at h;cases h.2)]
      have i:xA (dI 288 #[qA (bA ⟨P,0,aA⟩),lA mA (8+(p.size:Int)),lA mA a] g (.bool cA)):=by
       have:=BP P D L (8+(p.size:Int)) a g k.o ⟨m,n⟩ (by omega);rw[hfu]at this;exact this
      clear hfu l;go_wp2_with fail;apply lK i.o;go_wp2;go_ret;rw[E.o];exact⟨rfl,d.o⟩
    have r:(L.last==999999)=cA:=by simpa using l
    have E:xA (nR L p a=0):=by show _=_;rw[q.o,Ja (fun h=>l h.1)]
    clear l;go_wp2;go_ret;rw[E.o];exact⟨rfl,d.o⟩
  have E:xA (nR L p a=21):=by
   show _=_;have c:wB a 1 1000000000=cA:=by simp[wB];omega
   simp[nR,c]
  by_cases B:a<1
  .go_enter func247,ntmps247;go_wp2_with fail;apply aC (j.o _);intro g b;have d:xA _:=b;clear b;go_wp2;go_ret;rw[E.o];exact⟨rfl,d.o⟩
  have C:1000000000<a:=by omega
  clear A;go_enter func247,ntmps247;go_wp2_with fail;apply aC (j.o _);intro g b;have d:xA _:=b;clear b;go_wp2;go_ret;rw[E.o];exact⟨rfl,d.o⟩
def WJ(p:gB)(w:eA)(i:p.size<=maxLen):
 qD 250 #[nA p] w (nA (jF p)):=by
 have m:xA _:=i;unfold maxLen at i;have f:xA (∀W,dI 287 #[lA mA (p.size:Int)] W (.bool (wB p.size 1 60000))):=fun W=>mz _ W;by_cases h:1<=p.size/\p.size<=60000
 .have g:wB p.size 1 60000=dA:=by simp[wB];omega
  rw[g]at f;have E:xA (jF p=pB 4 p.size++pB 4 (wL p:Nat)++p):=Ma h;have o:=qB 4 (p.size:Int);have n:=qB 4 ((wL p:Nat):Int);have j:xA (∀W,qD 79 #[lA mA (p.size:Int),lA mA 4] W (nA (pB 4 p.size))):=fun W=>aH 4 _ W (by omega);have k:xA (∀W,qD 79 #[lA mA (wL p:Nat),lA mA 4] W (nA (pB 4 (wL p:Nat)))):=fun W=>aH 4 _ W (by omega);generalize pB 4 (p.size:Int)=A at *;generalize pB 4 ((wL p:Nat):Int)=B at *;go_enter func250,ntmps250;go_wp2_with(go_at_call 287;apply lK (f.o _));apply aC (j.o _);intro q b;go_wp2_with fail;apply aC (MV p _ m.o);intro r c;go_wp2_with fail;apply aC (k.o _);intro s d;have l:xA _:=oB (oB b c) d;clear b c d;go_wp2;go_ret;exact⟨PO E.o.symm,l.o⟩
 have g:wB p.size 1 60000=cA:=by simp[wB];omega
 rw[g]at f;have E:xA (jF p=kA):=Ja h;go_enter func250,ntmps250;go_wp2_with(go_at_call 287;apply lK (f.o _));go_ret;exact⟨PO E.o.symm,eD⟩
def gV(n:Int)(w:eA):
 qD 69 #[lA mA n] w (nA (jN n)):=by
 by_cases h:1<=n/\n<=999999
 .have k:wB n 1 999999=dA:=by unfold wB;simp;omega
  have E:xA (jN n=gy n.toNat):=Ma h;obtain⟨N,rfl⟩:=Yf (show 0<=n by omega);have o:N<=999999:=by omega
  have p:=ly;clear h;go_enter func69,ntmps69;go_wp2_with(go_at_call 48;apply lK (vD _ _ _ _));go_loopw [0,3,4] (fun m s i wr=>∃(j M:Nat)(c:gB),j<=6/\i=lA mA j/\m=lA mA M/\s=nA c/\xA (M=N / 10 ^ j)/\M<=999999/\c.size=j/\xA (c.data.toList=FM N j)/\kB w wr) (fun _ _ i _=>6-(intOf i).toNat)
  case atStart=>exact⟨0,N,kA,by omega,rfl,rfl,rfl,by show _=_;simp,o,rfl,rfl,eD⟩
  case round=>
   obtain⟨j,M,c,r,rfl,rfl,rfl,g,l,d,b,a⟩:=hrel;by_cases q:j<6
   .go_wp2;refine⟨⟨j+1,M / 10,_,by omega,by go_num,by go_num,rfl,?_,by omega,?_,?_,oB a vB⟩,by simp[intOf];omega⟩
    .show _=_;rw[g.o,Fg,Od]
    .rw[JQ,d]
    show _=_;rw[iu,b.o,FM,g.o]
   go_wp2;go_ret;have e:j=6:=by omega
   subst e;refine⟨Kd (fun x=>Ending.returned (nA x)) ?_,a⟩;rw[E.o,gy];refine ZM _ _ ?_;rw[Hd,<-b.o];simp
 have k:wB n 1 999999=cA:=by unfold wB;simp;omega
 have E:xA (jN n=kA):=Ja h;go_enter func69,ntmps69;go_wp2_with(go_at_call 48;apply lK (vD _ _ _ _));go_ret;exact⟨Kd (fun x=>Ending.returned (nA x)) E.o.symm,eD⟩
structure XV where
 x:cF
 a:iC
 c:Nat
def AE(b:List XV):List iA:=b.flatMap fun y=>[oA y.a (vA y.x.B) y.c,lA mA y.x.bits]
def ec(a b:List XV):AE (a++b)=AE a++AE b:=by simp[AE]
def aIb(w:eA)(b:Nat)(T:Nat->Nat)(d:List XV):Prop:=∀i(h:i<vA d),zN w b T (i+1) d[i].a d[i].x.B/\vA d[i].x.B<=d[i].c
def CS(w:eA)(b:Nat)(e:jA)(v:iA)(n:Nat)(a:List cF):Prop:=
 ∃T ys,w.ownsRow b e 2 v n (AE ys)/\ys.map (·.x)=a/\(∀g,v.ownBlock=bA g->T g=0)/\aIb w b T ys
def rl{w:eA}{B:Nat}{e:jA}{m:Nat}{a:iC}{n c:Nat}{i:List iA}(h:w.ownsRow B e m (oA a n c) n i):n<=c:=by
 rcases h.2 with⟨_,j⟩|⟨g,b,d,e,_,_,f,_⟩;omega
 cases e;exact f
def CS.nil(w:eA)(b:Nat)(e:jA):CS w b e (oA aA 0 0) 0 []:=
 ⟨fun _=>0,[],eA.ownsRow_nil _ _ _ _,rfl,fun _ _=>rfl,fun i h=>absurd h (by simp)⟩
def CS.row{w:eA}{b:Nat}{e:jA}{v:iA}{n:Nat}{i:List cF}(h:CS w b e v n i):∃a c,v=oA a n c:=by
 obtain⟨_,_,h,_⟩:=h;rcases h.2 with⟨rfl,rfl⟩|⟨g,d,f,rfl,_⟩;exact ⟨aA,0,rfl⟩;exact ⟨_,_,rfl⟩
def CS.snoc{wr w4 q:eA}{b c f k:Nat}{e:jA}{v:iA}{T:Nat->Nat}{ys:List XV}{H:List cF}{x:cF}{r:iC}{s:Nat}
(p:q.ownsRow b e 2 (oA (bA ⟨c,0,aA⟩) (k+1) f) (k+1) (AE ys++[oA r (vA x.B) s,lA mA x.bits]))
(E:ys.map (·.x)=H)(D:vA ys=k)(G:∀g,v.ownBlock=bA g->T g=0)(F:aIb wr b T ys)(P:b<=wr.1.size)
(B:∀g,g<wr.1.size->b<=g->v.ownBlock≠bA g->q.heap[g]?=wr.heap[g]?)(C:∀g,wr.1.size<=g->g<w4.1.size->q.heap[g]?=w4.heap[g]?)
(I:uE w4 wr.1.size r x.B)(y:vA x.B<=s)
(z:(v.ownBlock=bA c/\c<wr.1.size)\/w4.1.size<=c)(J:wr.1.size<=w4.1.size):CS q b e (oA (bA ⟨c,0,aA⟩) (k+1) f) (k+1) (H++[x]):=by
 refine⟨fun g=>if g<wr.1.size then T g else if g<w4.1.size then k+1 else 0,ys++[⟨x,r,s⟩],?_,?_,?_,?_⟩;rw[ec];exact p;rw[Ld,E];rfl
 .intro g l;simp only[iA.ownBlock,Qa]at l;subst l;rcases z with⟨h,N⟩|h
  .simp only[Ma N];exact G _ h
  simp only[Ja (show ¬c<wr.1.size by omega),Ja (show ¬c<w4.1.size by omega)]
 intro i A;by_cases d:i<vA ys
 .rw[Ve d];exact⟨(F i d).1.keep fun g l w L=>⟨B g l w (fun e=>by have:=G g e;omega),by simp only[Ma l];exact L⟩,(F i d).2⟩
 have e:i=k:=by simp at A;omega
 subst e;rw[Re (by omega)];simp only[D,Nat.sub_self,Eg];refine⟨?_,y⟩;rcases I with h|⟨g,o,t,O,rfl,K,a,u⟩;exact Ca h;have n:=zA a;have m:=C g (by omega) n;have M:∀j,q.cell? ⟨g,j,aA⟩=w4.cell? ⟨g,j,aA⟩:=fun j=>eA.cell?_of_block m;exact La ⟨g,o,t,O,rfl,by omega,by simp only[Ja (show ¬g<wr.1.size by omega),Ma n],m.trans a,fun i A=>by simp only[M];exact u i A⟩
def CS.own{w:eA}{b:Nat}{e:jA}{a:iC}{n cap:Nat}{q:List cF}(h:CS w b e (oA a n cap) n q)(I:vA q=n):rF w b a q:=by
 obtain⟨T,m,C,v,D,y⟩:=h;have K:vA m=n:=by rw[<-I,<-v,Xa]
 rcases C.2 with⟨_,M⟩|⟨g,u,o,s,E,A,_,_,J,t⟩;exact Ca (Nb.1 (by omega));simp only[iA.slice.injEq]at s;have F:T g=0:=D g (by rw[s.1];rfl);have G:∀(l:List XV) i(p:i<vA l),(AE l)[i*2]?=bA (.slice l[i].a (vA l[i].x.B) l[i].c)/\(AE l)[i*2+1]?=bA (lA mA l[i].x.bits):=by
  intro l;unfold AE;induction l with
  |nil=>intro i p;exact absurd p (by simp)
  |cons x r L=>
   intro i p;cases i with
   |zero=>simp
   |succ i=>
    have:=L i (by simpa using p);simp only[Xc,Sd,Mb,Ec];refine⟨?_,?_⟩;rw[show(i+1)*2=i*2+1+1 by omega,Ga,Ga];exact this.1;rw[show(i+1)*2+1=i*2+1+1+1 by omega,Ga,Ga];exact this.2
 have z:∀j,j<n*2->w.cell? ⟨g,j,aA⟩=(AE m)[j]?:=fun j H=>by
  rw[iB.cell (show iB w g o e from A) j,<-Yd,<-t,Jb H]
 refine La ⟨g,0,o,e,T,s.1,E,A,F,fun i p=>?_⟩;have k:i<vA m:=by omega
 have B:q[i]=m[i].x:=by simp only[<-v,List.getElem_map]
 obtain⟨d,f⟩:=G m i k;rw[B];refine⟨m[i].a,m[i].c,?_,?_,(y i k).1,(y i k).2⟩;rw[Ya,z _ (by omega)];exact d;rw[Ya,z _ (by omega)];exact f
