import Derived.Test.YtbfnhppoecdnoaaGreatDoorJ26
set_option maxRecDepth 100000
set_option maxHeartbeats 8000000
set_option linter.defProp false
open Option renaming some->bA,none->aA
open Bool renaming true->dA,false->cA
open List renaming length->vA
namespace Go.Proofs.YtbfnhppoecdnoaaGreatDoor
open IntKind renaming i64->mA
open Go renaming Value->iA,World->eA,TypeId->jA
open Value renaming pointer->qA,string->nA,int->lA,slice->oA
open Ending renaming returned->sA
open Obj renaming cells->tA
open Go.RowKit Tryz
section
open Go.Maps Go.ChangeMaps
def xI(n:Int):DataW Unit:=.lit (.int mA n)
def eF(g:Nat):DataW Unit:=.lit (.int mA (g:Int))
def oE:iA->Option (DataW Unit×List MemPlace)
 |qA (bA ⟨g,0,aA⟩)=>bA (eF g,[])
 |qA aA=>bA (.nil,[])
 |_=>aA
def lY(g:Nat):oE (qA (bA ⟨g,0,aA⟩))=bA (eF g,[]):=rfl
def dM:Keyed prog 9:=string_keyed underlying9
def qN{s:gB}(h:s.size<=maxLen):keyOf prog 9 (nA s)=bA (kL s):=WideMaps.keyOf_string_mk underlying9 h
def VQ{H:Type}{P:Program}{w:eA}{k:jA}{R:iA->Option (DataW H×List MemPlace)}{b n:Nat}{D:DataW H}(h:w.ownsMap P k R b n D):w.ownsMap P k R b (Maps.size D) D:=by
 obtain⟨c,a,d,F,e,rfl⟩:=h;refine⟨c,a,d,F,?_,rfl⟩;rw[size_eq,length_sorted,Xa,Qg];exact Ia _
structure eS(w:World)(S:Nat→Prop)(x:Nat)(t:aB)(M lm sm cm:Nat)(iv:Value)(Q:List (dB×Nat))(hs:List tI)(D:DataW Unit):Prop where
 blk:iB w x #[lA mA t.L,.map (bA lm),.map (bA sm),.map (bA cm),iv] 232
 lims:w.ownsMap prog 9 (plainElem prog 3) lm (vA t.M) (eE (t.M.map fun p=>(p.s,xI p.n)))
 Z:w.ownsMap prog 9 oE sm (vA Q) (eE (Q.map fun q=>(q.1.s,eF q.2)))
 cnts:w.ownsMap prog 9 (plainElem prog 3) cm M D
 cnt:∀m:gB,D.atKey (kL m) (xI 0)=xI (uI aE t.Z m)
 q1:Q.map (·.1)=t.Z
 cells:∀q∈Q,iB w q.2 #[nA q.1.s,lA mA q.1.n] 88
 row:w.ownsRow 0 271 2 iv (vA hs) (oK hs)
 heap:qJ hs
 perm:(hs.map (·.b)).Perm (Q.map (·.2))
 early:∀h∈hs,∀q∈Q,q.2=h.b→h.t≤q.1.n
 rm:wC (·.s) t.M
 rs:wC (·.s) t.Z
 sx:S x
 sl:S lm
 ss:S sm
 sc:S cm
 sq:∀q∈Q,S q.2
 si:∀g,iv.ownBlock=bA g→S g
 d1:lm≠sm
 d2:lm≠cm
 d3:sm≠cm
 nd:(Q.map (·.2)).Nodup
 dx:∀q∈Q,q.2≠x
 di:∀g,iv.ownBlock=bA g→g≠x∧∀q∈Q,q.2≠g
def uD(w:eA)(S:Nat->Prop)(x:Nat)(t:aB)(M:Nat):Prop:=∃d e a c Q b D,eS w S x t M d e a c Q b D
def zq{w:eA}{B:Nat}{e:jA}{size:Nat}{v:iA}{n:Nat}{f:List iA}(h:w.ownsRow B e size v n f):∀g,v.ownBlock=bA g->g<w.1.size:=by
 intro g a;rcases h.2 with⟨rfl,_⟩|⟨i,b,c,rfl,_,d,_⟩
 .cases a
 simp only[iA.ownBlock,Qa]at a;subst a;exact zA d
def eS.keep{w w':eA}{S S':Nat->Prop}{x:Nat}{t:aB}{M u v m:Nat}{s:iA}{Q:List (dB×Nat)}{f:List tI}{D:DataW Unit}(h:eS w S x t M u v m s Q f D)
(c:∀g,g<w.1.size->S g->w'.heap[g]?=w.heap[g]?/\S' g):eS w' S' x t M u v m s Q f D:=by
 have p:∀{R:iA->Option (DataW Unit×List MemPlace)}{b n:Nat}{E:DataW Unit},w.ownsMap prog 9 R b n E->S b->w'.ownsMap prog 9 R b n E:=fun{R b n E} h f=>by
  have o:=h.lt;obtain⟨A,d,i,r⟩:=h;exact⟨A,d,(c b o f).1.trans i,r⟩
 have i:∀{g:Nat}{a:Array iA}{y:jA},iB w g a y->S g->iB w' g a y:=fun{g a y} h f=>(c g (zA h) f).1.trans h;exact { h with
  blk:=i h.blk h.sx
  lims:=p h.lims h.sl
  Z:=p h.Z h.ss
  cnts:=p h.cnts h.sc
  cells:=fun q k=>i (h.cells q k) (h.sq q k)
  row:=by
   refine⟨h.row.1,?_⟩;rcases h.row.2 with B|⟨g,l,a,e,C,j,r⟩;exact Ca B;have:s.ownBlock=bA g:=by rw[e];rfl
   exact La ⟨g,l,a,e,C,i j (h.si g this),r⟩
  sx:=(c x (zA h.blk) h.sx).2
  sl:=(c u h.lims.lt h.sl).2
  ss:=(c v h.Z.lt h.ss).2
  sc:=(c m h.cnts.lt h.sc).2
  sq:=fun q k=>(c q.2 (zA (h.cells q k)) (h.sq q k)).2
  si:=fun g z=>(c g (zq h.row g z) (h.si g z)).2}
def uD.keep{w w':eA}{S S':Nat->Prop}{x:Nat}{t:aB}{M:Nat}(h:uD w S x t M)(b:∀g,g<w.1.size->S g->w'.heap[g]?=w.heap[g]?/\S' g):uD w' S' x t M:=by
 obtain⟨e,f,a,d,Q,c,D,h⟩:=h;exact⟨e,f,a,d,Q,c,D,h.keep b⟩
def uD.z{w a:eA}{S:Nat->Prop}{x:Nat}{t:aB}{M:Nat}(h:uD w S x t M)(b:kB w a):uD a S x t M:=h.keep fun g c d=>⟨b.block g c,d⟩
def uD.lt{w:eA}{S:Nat->Prop}{x:Nat}{t:aB}{M:Nat}(h:uD w S x t M):x<w.1.size:=by
 obtain⟨d,e,a,c,Q,b,D,h⟩:=h;exact zA h.blk
def uD.mono{w:eA}{S:Nat->Prop}{x:Nat}{t:aB}{M a:Nat}(h:uD w S x t M)(c:M<=a):uD w S x t a:=by
 obtain⟨f,g,b,e,Q,d,D,h⟩:=h;exact⟨f,g,b,e,Q,d,D,{ h with cnts:=h.cnts.mono c}⟩
def IZ(a:Int)(o:gB)(w:eA):
 Calls prog 120 #[lA mA a] w fun e d=>∃x,e=sA (qA (bA ⟨x,0,aA⟩))/\w.1.size<=x/\uD d (fun g=>w.1.size<=g) x ⟨o,a,[],[]⟩ 0/\kB w d:=by
 have j:=@run_makeMap prog;go_enter func120,ntmps120;go_wp2;go_ret;refine⟨w.1.size+1+1+1,rfl,by omega,⟨w.1.size,w.1.size+1,w.1.size+1+1,oA aA 0 0,[],[],.map [],?_⟩,oB (oB (oB vB vB) vB) vB⟩;have k:∀R:iA->Option (DataW Unit×List MemPlace),(w.alloc (.map #[] 0)).ownsMap prog 9 R w.1.size 0 (.map []):=fun R=>eA.ownsMap_made w _ _ R;have l:∀R:iA->Option (DataW Unit×List MemPlace),((w.alloc (.map #[] 0)).alloc (.map #[] 0)).ownsMap prog 9 R (w.1.size+1) 0 (.map []):=fun R=>by have:=eA.ownsMap_made (w.alloc (.map #[] 0)) prog 9 R;simpa using this
 have n:∀R:iA->Option (DataW Unit×List MemPlace),(((w.alloc (.map #[] 0)).alloc (.map #[] 0)).alloc (.map #[] 0)).ownsMap prog 9 R (w.1.size+1+1) 0 (.map []):=fun R=>by have:=eA.ownsMap_made ((w.alloc (.map #[] 0)).alloc (.map #[] 0)) prog 9 R;simpa using this
 exact {
  blk:=by have:=iB.new (((w.alloc (.map #[] 0)).alloc (.map #[] 0)).alloc (.map #[] 0)) #[lA mA a,.map (bA w.1.size),.map (bA (w.1.size+1)),.map (bA (w.1.size+1+1)),oA aA 0 0] 232;simpa using this
  lims:=(((k _).alloc _).alloc _).alloc _
  Z:=((l _).alloc _).alloc _
  cnts:=(n _).alloc _
  cnt:=fun m=>rfl
  q1:=rfl
  cells:=fun q b=>by cases b
  row:=eA.ownsRow_nil _ _ _ _
  heap:=fun i _ h=>by simp at h
  perm:=Lf _
  early:=fun h f=>by cases f
  rm:=Gd
  rs:=Gd
  sx:=by show w.1.size<=_;omega
  sl:=Ia _
  ss:=by show w.1.size<=_;omega
  sc:=by show w.1.size<=_;omega
  sq:=fun q b=>by cases b
  si:=fun g c=>by cases c
  d1:=by omega
  d2:=by omega
  d3:=by omega
  nd:=List.nodup_nil
  dx:=fun q b=>by cases b
  di:=fun g c=>by cases c}
def SR(x:Nat)(t:aB)(S:Nat->Prop)(M:Nat)(w:eA)(h:uD w S x t M):
 dI 123 #[qA (bA ⟨x,0,aA⟩)] w (.bool (aF t)):=by
 obtain⟨g,j,o,q,Q,p,D,h⟩:=h;have l:cC w x 0 (lA mA t.L):=h.blk.cell 0;have m:cC w x 1 (.map (bA g)):=h.blk.cell 1;have n:cC w x 2 (.map (bA j)):=h.blk.cell 2;have f:=h.lims.len underlying226 3;have d:=h.Z.len underlying227 3;rw[kN]at f d;have c:vA Q=vA t.Z:=by rw[<-h.q1,Xa]
 rw[c]at d;clear h c;have E:xA (aF t=(t.L==-1&&vA t.M==0&&vA t.Z==0)):=rfl;generalize vA t.M=i at *;generalize vA t.Z=r at *;generalize t.L=L at *;by_cases a:L = -1
 .by_cases b:i=0
  .go_enter func123,ntmps123;go_wp2;go_ret;exact⟨fB (by rw[E.o,a,b];rw[Qb];simp),rfl⟩
  go_enter func123,ntmps123;go_wp2;go_ret;exact⟨fB (by rw[E.o,a];rw[Qb];simp[b]),rfl⟩
 go_enter func123,ntmps123;go_wp2;go_ret;exact⟨fB (by rw[E.o];rw[Qb];simp[a]),rfl⟩
end
section
open Go.Maps
def PZ(w:eA):(zeroValue 3).run prog w=.ok (lA mA 0) w:=by kernel_rfl
def aD{H:Type}{P:Program}{w:eA}{k:jA}{R:iA->Option (DataW H×List MemPlace)}{b n g:Nat}{D:DataW H}{c:Array iA}{t:jA}(h:w.ownsMap P k R b n D)(d:iB w g c t):b≠g:=by
 intro e;subst e;obtain⟨i,a,f,_⟩:=h;rw[iB,f]at d;simp at d
def lG{H:Type}{P:Program}{w:eA}{k:jA}{R:iA->Option (DataW H×List MemPlace)}{b n:Nat}{D:DataW H}{B:Nat}{e:jA}{size:Nat}{v:iA}{m:Nat}{i:List iA}(h:w.ownsMap P k R b n D)(g:w.ownsRow B e size v m i):v.ownBlock≠bA b:=by
 intro a;rcases g.2 with⟨rfl,_⟩|⟨j,c,d,rfl,_,f,_⟩
 .cases a
 simp only[iA.ownBlock,Qa]at a;subst a;exact aD h f rfl
def eS.newLims{w f:eA}{S:Nat->Prop}{x:Nat}{t:aB}{M c m i n:Nat}{l:iA}{Q:List (dB×Nat)}{k:List tI}{D E:DataW Unit}{d:List dB}(h:eS w S x t M c m i l Q k D)(b:bB (·=c) w f)
(a:f.ownsMap prog 9 (plainElem prog 3) c n E)(o:E=eE (d.map fun p=>(p.s,xI p.n)))(u:wC (·.s) d):uD f S x { t with M:=d} M:=by
 subst o;refine⟨c,m,i,l,Q,k,D,?_⟩;exact { h with
  blk:=b.blk h.blk (aD h.lims h.blk).symm
  lims:=by have:=VQ a;rw[kN]at this;exact this
  Z:=b.map h.Z h.d1.symm
  cnts:=b.map h.cnts h.d2.symm
  cells:=fun q j=>b.blk (h.cells q j) (aD h.lims (h.cells q j)).symm
  row:=b.row h.row (fun g r e=>by subst e;exact lG h.lims h.row r)
  rm:=u}
def aNe{w w2 G N:eA}{S:Nat->Prop}{x:Nat}{t:aB}{M W L F:Nat}{O:iA}{Q:List (dB×Nat)}{z:List tI}{D:DataW Unit}{key:gB}{j c:Int}{g A:Nat}(h:eS w S x t M W L F O Q z D)(y:zC (·.s) key t.Z=aA)
(d:bB (fun k=>k=L\/k=F) w G)(J:w2.ownsMap prog 9 oE L (vA Q+1) (DataW.put (eE (Q.map fun q=>(q.1.s,eF q.2))) (kL key) (eF w.1.size)))(i:bB (·=F) w2 G)
(K:G.ownsMap prog 9 (plainElem prog 3) F (M+1) (D.put (kL (aE key)) (.lit (.int mA (c+1)))))(b3:iB G w.1.size #[nA key,lA mA j] 88)(hc:c=(uI aE t.Z (aE key):Nat))
(P:iB N x (#[lA mA t.L,.map (bA W),.map (bA L),.map (bA F),O].setIfInBounds 4 (oA (bA ⟨g,0,aA⟩) (vA z+1) A)) 232)
(U:N.ownsRow 0 271 2 (oA (bA ⟨g,0,aA⟩) (vA z+1) A) (vA z+1) (oK (aS z ⟨w.1.size,j⟩)))(v:O.ownBlock=bA g\/G.1.size<=g)(f:bB (fun k=>k=x\/O.ownBlock=bA k) G N):
 uD N (fun g=>S g\/w.1.size<=g) x { t with Z:=gC (·.s) ⟨key,j⟩ t.Z} (M+1)/\bB S w N:=by
 have hxl:=zA h.blk;have hbl:=zA b3;have b0:=aD h.Z h.blk;have c0:=aD h.cnts h.blk;have a0:=aD h.lims h.blk;have X:=lG h.lims h.row;have Y:=lG h.Z h.row;have Z:=lG h.cnts h.row;have u:=fun q l=>zA (h.cells q l);have C:zC (fun q:dB×Nat=>q.1.s) key Q=aA:=by
  have:=lW (key:=fun q:dB×Nat=>q.1.s) (key':=fun p:dB=>p.s) (fun q=>q.1) (fun _=>rfl) key Q;rw[h.q1,y]at this;cases hg:zC (fun q:dB×Nat=>q.1.s) key Q with
  |none=>rfl
  |some q=>rw[hg]at this;cases this
 have E:=KW (key:=fun q:dB×Nat=>q.1.s) (a:=((⟨key,j⟩:dB),w.1.size)) C;have R:=KW (key:=fun p:dB=>p.s) (a:=(⟨key,j⟩:dB)) y;have H:vA (gC (fun q:dB×Nat=>q.1.s) ((⟨key,j⟩:dB),w.1.size) Q)=vA Q+1:=by rw[E.length_eq];rfl
 have V:wC (fun q:dB×Nat=>q.1.s) Q:=by
  rw[<-nY (key':=fun p:dB=>p.s) (fun q:dB×Nat=>q.1) (fun _=>rfl),h.q1];exact h.rs
 obtain⟨ph,pp,pl⟩:=FI h.heap ⟨w.1.size,j⟩;have I:DataW.put (eE (Q.map fun q=>(q.1.s,eF q.2))) (kL key) (eF w.1.size)=eE ((gC (fun q:dB×Nat=>q.1.s) ((⟨key,j⟩:dB),w.1.size) Q).map fun q=>(q.1.s,eF q.2)):=
  LG (key:=fun q:dB×Nat=>q.1.s) (fun q=>eF q.2) ((⟨key,j⟩:dB),w.1.size) V
 have n:∀q,q∈gC (fun q:dB×Nat=>q.1.s) ((⟨key,j⟩:dB),w.1.size) Q->q=((⟨key,j⟩:dB),w.1.size)\/q∈Q:=fun q l=>yK l;have B:∀s∈z,∃q∈Q,q.2=s.b:=fun s o=>by
  have:=(h.perm.mem_iff (a:=s.b)).1 (Md.2 ⟨s,o,rfl⟩);obtain⟨q,l,e⟩:=Md.1 this;exact⟨q,l,e⟩
 refine⟨⟨W,L,F,oA (bA ⟨g,0,aA⟩) (vA z+1) A,gC (fun q:dB×Nat=>q.1.s) ((⟨key,j⟩:dB),w.1.size) Q,aS z ⟨w.1.size,j⟩,D.put (kL (aE key)) (.lit (.int mA (c+1))),?_⟩,?_⟩
 .exact {
   blk:=P
   lims:=f.map (d.map h.lims (fun e=>by rcases e with e|e;exact h.d1 e;exact h.d2 e)) (fun e=>by rcases e with e|e;exact a0 e;exact X e)
   Z:=by
    rw[<-I,H];exact f.map (i.map J h.d3) (fun e=>by rcases e with e|e;exact b0 e;exact Y e)
   cnts:=f.map K (fun e=>by rcases e with e|e;exact c0 e;exact Z e)
   cnt:=fun m=>by
    rw[XZ R m,XY];by_cases e:aE key=m
    .rw[Ma e,<-e,atKey_put_same (k:=kL (aE key)) h.cnts.isMap trivial,hc];rfl
    rw[Ja e,atKey_put_other (fun e'=>e (aJt e').symm),h.cnt m];rfl
   q1:=by
    rw[uS (key':=fun p:dB=>p.s) (fun q:dB×Nat=>q.1) (fun _=>rfl),h.q1]
   cells:=fun q l=>by
    rcases n q l with rfl|l;exact f.blk b3 (fun e=>by rcases e with e|e;simp only at e;omega;have:=zq h.row _ e;simp only at this;omega);exact f.blk (d.blk (h.cells q l) (fun e=>by rcases e with e|e;exact aD h.Z (h.cells q l) e.symm;exact aD h.cnts (h.cells q l) e.symm)) (fun e=>by rcases e with e|e;exact h.dx q l e;exact(h.di _ e).2 q l rfl)
   row:=by rw[pl];exact U
   heap:=ph
   perm:=by
    refine(pp.map _).trans ?_;refine List.Perm.trans ?_ (E.map _).symm;exact List.Perm.cons _ h.perm
   early:=fun s o q l e=>by
    rcases Lb.1 ((pp.mem_iff).1 o) with rfl|o
    .rcases n q l with rfl|l
     .exact Xd _
     have:=u q l;simp only at e;omega
    rcases n q l with rfl|l;obtain ⟨q',T,e'⟩:=B s o;have:=u q' T;simp only at e;omega;exact h.early s o q l e
   rm:=h.rm
   rs:=gK h.rs
   sx:=Ca h.sx
   sl:=Ca h.sl
   ss:=Ca h.ss
   sc:=Ca h.sc
   sq:=fun q l=>by
    rcases n q l with rfl|l;exact La (Ia _);exact Ca (h.sq q l)
   si:=fun g' r=>by
    simp only[iA.ownBlock,Qa]at r;subst r;rcases v with e|e;exact Ca (h.si g e);exact La (by have:=d.size;omega)
   d1:=h.d1
   d2:=h.d2
   d3:=h.d3
   nd:=by
    rw[(E.map _).nodup_iff,Fc,List.nodup_cons];refine⟨fun hm=>?_,h.nd⟩;obtain⟨q,l,e⟩:=Md.1 hm;have:=u q l;simp only at e;omega
   dx:=fun q l=>by
    rcases n q l with rfl|l;simp only;omega;exact h.dx q l
   di:=fun g' r=>by
    simp only[iA.ownBlock,Qa]at r;subst r;rcases v with e|e
    .refine ⟨(h.di g e).1,fun q l=>?_⟩;rcases n q l with rfl|l
     .have:=zq h.row g e;simp only;omega
     exact (h.di g e).2 q l
    refine ⟨by omega,fun q l=>?_⟩;rcases n q l with rfl|l;simp only;omega;have:=u q l;omega}
 refine (d.mono fun k _ e=>by rcases e with rfl|rfl;exact h.ss;exact h.sc).trans (f.mono fun k _ e=>?_);rcases e with rfl|e;exact Ca h.sx;exact Ca (h.si _ e)
def aAv(x:Nat)(t:aB)(key:gB)(l:Int)(S:Nat->Prop)(M:Nat)(w:eA)(h:uD w S x t M)(O:zC (·.s) key t.Z=aA)(hk:key.size<=maxLen)(hm:(aE key).size<=maxLen)(hM:M<=1000000000)(hl:vA t.Z<=1000000000):
 Calls prog 165 #[qA (bA ⟨x,0,aA⟩),nA key,nA (aE key),lA mA l] w fun e G=>e=sA (.tuple #[])/\uD G (fun g=>S g\/w.1.size<=g) x { t with Z:=gC (·.s) ⟨key,l⟩ t.Z} (M+1)/\bB S w G:=by
 obtain⟨lm,V,I,Z,Q,F,D,h⟩:=h;have HK:xA _:=qN hk;have HM:xA _:=qN hm;have hQ:vA Q=vA t.Z:=by rw[<-h.q1,Xa]
 have hH:vA F=vA Q:=by have:=h.perm.length_eq;simpa using this
 have HI:xA _:=h;obtain⟨X,n⟩:∃W,W=w.alloc (tA #[nA key,lA mA l] 88):=⟨_,rfl⟩
 have d:bB (fun _=>False) w X:=by rw[n];exact bB.of vB
 have b1:iB X w.1.size #[nA key,lA mA l] 88:=by rw[n];exact iB.new _ _ _
 obtain⟨Y,U,z,J⟩:=(d.map h.Z (fun e=>e)).update dM underlying227 (by unfold maxLen;omega) HK.o (lY w.1.size);have j:bB (·=V) X Y:=(bB.grown J).mono fun i _ e=>by simp only[Qa]at e;exact e.symm
 have a:=(d.mono fun _ _ e=>e.elim).trans' j;have m:=a.map h.cnts (Ne.symm h.d3);obtain⟨c,runL,L,d0⟩:=m.lookup_int dM underlying226 underlying3 (PZ _) HM.o;have hc:c=(uI aE t.Z (aE key):Nat):=by
  have:=h.cnt (aE key);unfold xI at this;rw[L]at this;simpa using this
 have c0:=db aE t.Z (aE key);have hcl:0<=c:=by omega
 have hcu:c<=1000000000:=by omega
 obtain⟨C,run3,A,K⟩:=m.update dM underlying226 (by unfold maxLen;omega) (val:=lA mA (c+1)) HM.o (plainElem_int underlying3 (WalkArith.wf_i64 (by omega)));have f:bB (·=I) Y C:=(bB.grown K).mono fun i _ e=>by simp only[Qa]at e;exact e.symm
 have b:=(a.mono fun _ _ e=>Ca e).trans' (f.mono fun _ _ e=>La e);have T:=aD h.Z h.blk;have e0:=aD h.cnts h.blk;have r:iB X x _ _:=d.blk h.blk (fun e=>e);have u:iB Y x _ _:=a.blk h.blk T.symm;have v:iB C x _ _:=b.blk h.blk (fun e=>by rcases e with e|e;exact T e.symm;exact e0 e.symm);have B:=b.row h.row (fun g hg e=>by rcases e with rfl|rfl;exact lG h.Z h.row hg;exact lG h.cnts h.row hg);have c1:cC X x 2 (.map (bA V)):=r.cell 2;have c2:cC Y x 3 (.map (bA I)):=u.cell 3;have HP:xA (Calls prog 202 #[qA (bA ⟨x,4,aA⟩),.agg #[qA (bA ⟨w.1.size,0,aA⟩),lA mA l]] C fun e G=>e=sA (.tuple #[])/\∃g E,iB G x (#[lA mA t.L,.map (bA lm),.map (bA V),.map (bA I),Z].setIfInBounds 4 (oA (bA ⟨g,0,aA⟩) (vA F+1) E)) 232/\
  G.ownsRow 0 271 2 (oA (bA ⟨g,0,aA⟩) (vA F+1) E) (vA F+1) (oK (aS F ⟨w.1.size,l⟩))/\(Z.ownBlock=bA g\/C.1.size<=g)/\bB (fun k=>k=x\/Z.ownBlock=bA k) C G):=
  rg x 4 0 Z F ⟨w.1.size,l⟩ C _ _ v rfl B (fun e=>(h.di x e).1 rfl) (Oa _) (by omega)
 have H:xA _:=b;have o:xA (Y.ownsMap prog 9 oE V (vA Q+1) (DataW.put (eE (Q.map fun q=>(q.1.s,eF q.2))) (kL key) (eF w.1.size))):=z;have p:xA (C.ownsMap prog 9 (plainElem prog 3) I (M+1) (D.put (kL (aE key)) (.lit (.int mA (c+1))))):=A;have T3:xA _:=f;have B3:xA (iB C w.1.size #[nA key,lA mA l] 88):=((j.mono (S':=fun k=>k=V\/k=I) fun _ _ e=>Ca e).trans' (f.mono fun _ _ e=>La e)).blk b1 (fun e=>by have:=h.Z.lt;have:=h.cnts.lt;rcases e with e|e<;>omega);have a0:xA _:=hc;rw[n]at U c1;clear h hk hm n d b1 z J j a m L d0 hc c0 A K f b r u v B;go_enter func165,ntmps165;go_wp2_with fail;apply aC HP.o;rintro w4 ⟨g,E,N,P,y,R⟩;have HF:=aNe HI.o O H.o o.o T3.o p.o B3.o a0.o N P y R;clear HP HI H o T3 p B3 N P y R;have b0:xA _:=yA HF;clear HF;go_wp2;go_end0;exact⟨rfl,b0.o⟩
end
section
open Go.Maps
def yq(a:List dB)(k:Nat)(d:k<vA a)(b:wC (·.s) (a.take (k+1))):
 DataW.put (eE ((a.take k).map fun p=>(p.s,xI p.n))) (kL a[k].s) (xI a[k].n)=eE ((a.take (k+1)).map fun p=>(p.s,xI p.n)):=by
 obtain⟨c,_⟩:=SW d b;have:=LG (key:=fun p:dB=>p.s) (fun p=>xI p.n) a[k] (aHc k (l:=a.take (k+1)) b);rw[List.take_take,Nat.min_eq_left (by omega)]at this;rw[this,c]
def UA(x:Nat)(a:iC)(cap:Nat)(f:List dB)(t:aB)(S:Nat->Prop)(M:Nat)(Y w:eA)(h:uD w S x { t with M:=[] } M)(m:kB Y w)(hU:vH Y)(hp:yB Y a f)(hS:∀g,S g->Y.1.size<=g)(v:∀i(h:i<vA f),f[i].s.size<=1000000000)(hl:vA f<=1000000000):
 Calls prog 121 #[qA (bA ⟨x,0,aA⟩),oA a (vA f) cap] w fun e w'=>e=sA (.bool (jM f))/\(jM f=dA->uD w' (fun g=>S g\/w.1.size<=g) x { t with M:=f} M)/\bB S w w':=by
 have HI:xA (uD w S x { t with M:=[] } M):=h;have H0:xA _:=m;have HU:xA (vH Y):=hU;have HPI:xA (yB Y a f):=hp;have HSS:xA _:=hS;have HBB:xA _:=v;clear h m hU hp hS v;go_enter func121,ntmps121;go_wp2;go_loopw [5,6,9] (fun _ _ j wr=>∃k:Nat,k<=vA f/\j=lA mA k/\eI (iM f) k=dA/\uD wr (fun g=>S g\/w.1.size<=g) x { t with M:=f.take k} M/\bB S w wr) (fun _ _ j _=>vA f-(intOf j).toNat)
 case atStart=>exact⟨0,Oa _,rfl,rfl,HI.o.keep (fun g _ hs=>⟨rfl,Ca hs⟩),bB.refl _ _⟩
 case round=>
  obtain⟨k,hk,rfl,hok,G,X⟩:=hrel;have HOK:xA _:=hok;have K:xA (uD wr (fun g=>S g\/w.1.size<=g) x { t with M:=f.take k} M):=G;have R:xA _:=X;have B0:xA _:=H0.o.trans (X.below H0.o.size (fun k hk hs=>by have:=HSS.o k hs;omega));clear hok G X;by_cases p:k<vA f
  .obtain ⟨pb,po,rfl,hpl,c0,c1⟩:=(HPI.o.z B0.o).at p;have HMF:xA (iM f k=cA->jM f=cA):=fun h=>fQ h p;have q:xA _:=AP p;have hsz:=HBB.o k p;have E:xA (0<k->∃l:gB,mM f k=aK l f[k].s/\cC wr pb (po+(k-1)*2) (nA l)):=fun m=>by
    refine⟨_,bU m p,?_⟩;obtain⟨b',o',e,_,u0,_⟩:=(HPI.o.z B0.o).at (i:=k-1) (by omega)
    simp only[Qa,Addr.mk.injEq,Cc]at e;rw[e.1,e.2];exact u0
   have O:xA (k=0->mM f k=dA):=fun m=>by subst m;rfl
   have HMP:=yq f k p;have HTK:xA (iM f k=dA->eI (iM f) (k+1)=dA/\wC (·.s) (f.take (k+1))):=fun h=>by
    have h1:eI (iM f) (k+1)=dA:=by rw[sL,HOK.o,h];rfl
    exact⟨h1,LB h1 (by omega)⟩
   have C:xA _:=HMP;clear HMP;have N:xA _:=fun W hW=>mW f[k].s W hsz hW;generalize f[k]=P at *;go_upto_region 4 with fail;have z:xA (iB (wr.alloc (tA #[nA P.s,lA mA P.n] 111)) wr.1.size #[nA P.s,lA mA P.n] 111):=iB.new _ _ _;have y:xA (kB wr (wr.alloc (tA #[nA P.s,lA mA P.n] 111))):=vB;have u:xA (0<k->∃l:gB,mM f k=aK l P.s/\(wr.alloc (tA #[nA P.s,lA mA P.n] 111)).cell? ⟨pb,po+(k-1)*2,aA⟩=bA (nA l)):=fun m=>by
    obtain⟨l,e1,e2⟩:=E.o m;exact⟨l,e1,(vB.cell hpl).trans e2⟩
   generalize wr.alloc (tA #[nA P.s,lA mA P.n] 111)=W at *;have HIW:xA (uD W (fun g=>S g\/w.1.size<=g) x { t with M:=f.take k} M):=K.o.z y.o;have HTW:xA _:=R.o.trans' (bB.of y.o);have J:xA _:=B0.o.trans (y.o.mono B0.o.size);generalize wr.1.size=mb at *;clear c0 c1 E hpl K R B0 y wr;go_cut [38] (fun s wx=>s=.bool (!(iM f k))/\kB W wx)
   case first=>
    have d0:=tB.cells (show cC W mb 0 (nA P.s) from z.o.cell 0);have d1:=tB.cells (show cC W mb 1 (lA mA P.n) from z.o.cell 1);have hnel:=tB.there W;have r:xA _:=fun(x:tB W)=>N.o _ (HU.o.z (J.o.trans (x.h.mono J.o.size)));have L:xA _:=fun W=>bG P.n W;clear N;have T:(∃l:gB,(0:Int)<k/\0<k/\cC W pb (po+(k-1)*2) (nA l)/\Op.bytesLess l.toList P.s.toList=cA/\xA (iM f k=cA))\/mM f k=dA/\(decide ((0:Int)<k)=cA/\decide (0<k)=cA\/∃l:gB,(0:Int)<k/\0<k/\cC W pb (po+(k-1)*2) (nA l)/\Op.bytesLess l.toList P.s.toList=dA):=by
     by_cases m:0<k
     .obtain ⟨l,hp,F⟩:=u.o m;cases v:Op.bytesLess l.toList P.s.toList
      .exact Ca ⟨l,by omega,m,F,v,by show _=_;rw[q.o,hp,aK,v];simp⟩
      exact La ⟨hp.trans v,La ⟨l,by omega,m,F,v⟩⟩
     exact La ⟨O.o (by omega),Ca ⟨by simp;omega,by simp;omega⟩⟩
    rcases T with⟨l,m,h0',F,v,HV⟩|⟨hpt,T⟩
    .have d3:=tB.cells F;clear F;refine jB (by kernel_rfl) (by kernel_rfl) ?_;repeat (go_big_quiet_step (first|(go_at_call 162;exact xB (r.o _))|(go_at_call 118;exact yC (L.o _))))
     refine wpQuiet_nil ?_;rintro _ ⟨x,rfl⟩;go_wp2_with fail;go_meet;exact⟨by rw[HV.o];rfl,x.h⟩
    have hf:∃V,xA (iM f k=V)/\(yE P.s=cA/\V=cA\/yE P.s=dA/\wB P.n 0 1000000=V):=by
     have hm:=q.o;rw[hpt]at hm;cases b:yE P.s
     .exact ⟨cA,by show _=_;rw[hm,b];simp,Ca ⟨rfl,rfl⟩⟩
     exact ⟨_,rfl,La ⟨rfl,by rw[hm,b];simp⟩⟩
    clear u O q hpt;obtain⟨V,HV,hf⟩:=hf;rcases T with⟨hd,hd'⟩|⟨l,m,h0',F,v⟩
    rotate_left;have d3:=tB.cells F;clear F;all_goals
     rcases hf with⟨b,rfl⟩|⟨b,d⟩
     rotate_left;rw[d]at L;cases V
     all_goals
      rw[b]at r;clear b;try clear d
      refine jB (by kernel_rfl) (by kernel_rfl) ?_;repeat (go_big_quiet_step (first|(go_at_call 162;exact xB (r.o _))|(go_at_call 118;exact yC (L.o _))))
      refine wpQuiet_nil ?_;rintro _ ⟨x,rfl⟩;go_wp2_with fail;go_meet;exact⟨by rw[HV.o];rfl,x.h⟩
   obtain⟨rfl,B⟩:=hcut;rename eA=>Z;have MB7:xA (iB Z mb #[nA P.s,lA mA P.n] 111):=z.o.z B;have HI7:xA (uD Z (fun g=>S g\/w.1.size<=g) x { t with M:=f.take k} M):=HIW.o.z B;have HT7:xA _:=HTW.o.trans' (bB.of B);clear B z HIW HTW J u N;by_cases c:iM f k=cA
   .have HF4:xA _:=HMF.o c;rw[c];clear c;go_wp2;go_ret;exact⟨fB HF4.o.symm,fun h=>absurd h (by rw[HF4.o];simp),HT7.o⟩
   have A:iM f k=dA:=by simpa using c
   obtain⟨g1,g2⟩:=HTK.o A;have hbn:wB P.n 0 1000000=dA:=by
    have:=q.o;rw[A]at this;cases v:wB P.n 0 1000000 with
    |true=>rfl
    |false=>rw[v]at this;simp at this
   obtain⟨hbn0,hbn1⟩:=uL hbn;have G1:xA _:=g1;have H:=C.o g2;rw[A];clear c A g1 HMF q O HTK C;obtain⟨lm,sm,cm,iv,Q,hs,D,hI⟩:=HI7.o;have hkey:keyOf prog 9 (nA P.s)=bA (kL P.s):=qN (by unfold maxLen;omega);obtain⟨w8,run8,I,o⟩:=hI.lims.drew.update dM underlying226 (by simp only[Hb];unfold maxLen;omega) (val:=lA mA P.n) hkey (plainElem_int underlying3 (WalkArith.wf_i64 (by omega)));have x0:cC Z x 1 (.map (bA lm)):=hI.blk.cell 1;have x1:cC Z mb 0 (nA P.s):=MB7.o.cell 0;have x2:cC Z mb 1 (lA mA P.n):=MB7.o.cell 1;go_wp2_with fail;go_region
   have U:bB (·=lm) Z w8:=(bB.grown (a:=Z) ⟨o.os,o.tape,o.output,o.size,o.block⟩).mono fun i _ e=>by simp only[Qa]at e;exact e.symm
   have HN:xA (uD w8 (fun g=>S g\/w.1.size<=g) x { t with M:=f.take (k+1) } M):=hI.newLims U I H g2;have HT8:xA _:=HT7.o.trans (U.mono fun i _ e=>by subst e;exact hI.sl);clear hI I o U H g2 x0 x1 x2 run8 hbn;go_wp2;exact⟨⟨k+1,by omega,by go_num,G1.o,HN.o,HT8.o⟩,by simp[intOf];omega⟩
  .have ek:k=vA f:=by omega
   have HEND:xA (jM f=dA):=by have:=HOK.o;rw[ek]at this;exact this
   have HIE:xA (uD wr (fun g=>S g\/w.1.size<=g) x { t with M:=f} M):=by have:=K.o;rw[ek,Rb]at this;exact this
   clear ek;go_wp2;go_ret;exact⟨fB HEND.o.symm,fun _=>HIE.o,R.o⟩
end
section
open Go.Maps
def aGf(a:List eC)(h:∀l∈a,l.V.size<=1000000):(jL a).size<=1000000:=by
 induction a with
 |nil=>simp[jL]
 |cons l r c=>
  rw[jL];split;exact h l (Kc ..);exact c fun q b=>h q (Sb _ b)
def xS(s:gB):(aE s).size<=maxLen:=by
 have h:∀l∈(gG s).1,l.V.size<=1000000:=fun l a=>by
  cases hd:(gG s).2 with
  |false=>rw[(PF hd).1]at a;simp at a
  |true=>
   obtain⟨i,b,rfl⟩:=Ib a;have:=(BK (dh hd).1 i b).2;omega
 have:=aGf _ h;unfold aE maxLen;omega
def oW(c:lC)(a:Int)(m:Nat):Array iA:=#[lA mA c.w,lA mA c.tl,lA mA c.ml,lA mA c.sh,lA mA c.ha,lA mA c.sg,lA mA a,.map (bA m)]
def MP(l m:Nat)(c:lC)(a:Int)(w:eA)(h:iB w l (oW c a m) 154)(g:0<=a)(i:a<=1000000000000)(b:1<=c.w)(d:c.w<=1000000000):
 qD 164 #[qA (bA ⟨l,0,aA⟩)] w (lA mA (a-c.w)):=by
 have j:cC w l 6 (lA mA a):=h.cell 6;have k:cC w l 0 (lA mA c.w):=h.cell 0;clear h;go_enter func164,ntmps164;go_wp2_with fail;go_quiet (fail)
 go_wp2;go_ret;exact⟨rfl,below_drewN eD _⟩
def UC(l m x:Nat)(a:iC)(cap:Nat)(r:List dB)(t:aB)(c:lC)(q:Int)(S:Nat->Prop)(M:Nat)(w0 w:eA)(hl:iB w l (oW c q m) 154)(hSl:¬S l)(h:uD w S x { t with Z:=[] } M)(v:kB w0 w)(hU:vH w0)(hp:yB w0 a r)(hS:∀g,S g->w0.1.size<=g)
(G:∀i(h:i<vA r),r[i].s.size<=1000000000)(hlen:vA r<=500000000)(hM:M<=500000000)(h1:0<=q)(h2:q<=1000000000000)(hw0:1<=c.w)(hw1:c.w<=1000000000):
 Calls prog 122 #[qA (bA ⟨l,0,aA⟩),qA (bA ⟨x,0,aA⟩),oA a (vA r) cap] w fun e O=>e=sA (.bool (fL c.w q r))/\(fL c.w q r=dA->uD O (fun g=>S g\/w.1.size<=g) x { t with Z:=r} (M+vA r))/\bB S w O:=by
 have HLB:xA (iB w l (oW c q m) 154):=hl;have HSL:xA (¬S l):=hSl;have HI:xA (uD w S x { t with Z:=[] } M):=h;have H0:xA _:=v;have HU:xA (vH w0):=hU;have HPI:xA (yB w0 a r):=hp;have HSS:xA _:=hS;have HBB:xA _:=G;clear h v hU hp hS G hl hSl;go_enter func122,ntmps122;go_wp2;go_loopw [7,8,9,12] (fun _ _ _ j wr=>∃k:Nat,k<=vA r/\j=lA mA k/\eI (dJ c.w q r) k=dA/\uD wr (fun g=>S g\/w.1.size<=g) x { t with Z:=r.take k} (M+k)/\bB S w wr) (fun _ _ _ j _=>vA r-(intOf j).toNat)
 case atStart=>exact⟨0,Oa _,rfl,rfl,HI.o.keep (fun g _ N=>⟨rfl,Ca N⟩),bB.refl _ _⟩
 case round=>
  obtain⟨k,hk,rfl,hok,L,b0⟩:=hrel;have HOK:xA _:=hok;have R:xA (uD wr (fun g=>S g\/w.1.size<=g) x { t with Z:=r.take k} (M+k)):=L;have E:xA _:=b0;have B0:xA _:=H0.o.trans (b0.below H0.o.size (fun k hk N=>by have:=HSS.o k N;omega));clear hok L b0;by_cases A:k<vA r
  .obtain ⟨pb,po,rfl,hpl,c0,c1⟩:=(HPI.o.z B0.o).at A;have HMF:xA (dJ c.w q r k=cA->fL c.w q r=cA):=fun h=>fQ h A;have C:xA (dJ c.w q r k=(mM r k&&pK r[k].s&&wB r[k].n 0 q&&decide (q-r[k].n<c.w))):=tW A;have hsz:=HBB.o k A;have J:xA (0<k->∃u:gB,mM r k=aK u r[k].s/\cC wr pb (po+(k-1)*2) (nA u)):=fun v=>by
    refine⟨_,bU v A,?_⟩;obtain⟨b',o',e,_,u0,_⟩:=(HPI.o.z B0.o).at (i:=k-1) (by omega)
    simp only[Qa,Addr.mk.injEq,Cc]at e;rw[e.1,e.2];exact u0
   have V:xA (k=0->mM r k=dA):=fun v=>by subst v;rfl
   have HTK:xA (dJ c.w q r k=dA->eI (dJ c.w q r) (k+1)=dA/\gC (·.s) r[k] (r.take k)=r.take (k+1)/\zC (·.s) r[k].s (r.take k)=aA):=fun h=>by
    have h1:eI (dJ c.w q r) (k+1)=dA:=by rw[sL,HOK.o,h];rfl
    exact⟨h1,SW (key:=fun p:dB=>p.s) A (LP h1 (by omega))⟩
   have HLW:xA (iB wr l (oW c q m) 154):=E.o.blk HLB.o HSL.o;have HMT:xA (∀W,vH W->qD 163 #[nA r[k].s] W (nA (aE r[k].s))):=fun W hW=>AI r[k].s W hsz hW;have hms:=xS r[k].s;have HTL:xA (vA (r.take k)<=1000000000):=by show _<=_;rw[Hb];omega
   generalize r[k]=P at *;go_upto_region 4 with fail;have X:xA (iB (wr.alloc (tA #[nA P.s,lA mA P.n] 88)) wr.1.size #[nA P.s,lA mA P.n] 88):=iB.new _ _ _;have y:xA (kB wr (wr.alloc (tA #[nA P.s,lA mA P.n] 88))):=vB;have x0:(wr.alloc (tA #[nA P.s,lA mA P.n] 88)).cell? ⟨wr.1.size,0,aA⟩=bA (nA P.s):=X.o.cell 0;generalize wr.alloc (tA #[nA P.s,lA mA P.n] 88)=W0 at *;go_wp2_with fail;apply aC (HMT.o _ (HU.o.z (B0.o.trans (y.o.mono B0.o.size))));intro W z;have B:xA (0<k->∃u:gB,mM r k=aK u P.s/\cC W pb (po+(k-1)*2) (nA u)):=fun v=>by
    obtain⟨u,e1,e2⟩:=J.o v;exact⟨u,e1,((oB y.o z).cell hpl).trans e2⟩
   have F:xA (iB W wr.1.size #[nA P.s,lA mA P.n] 88):=X.o.z z;have HIW:xA (uD W (fun g=>S g\/w.1.size<=g) x { t with Z:=r.take k} (M+k)):=R.o.z (oB y.o z);have HTW:xA _:=E.o.trans' (bB.of (oB y.o z));have U:xA (iB W l (oW c q m) 154):=HLW.o.z (oB y.o z);generalize wr.1.size=mb at *;clear c0 c1 J hpl R E B0 y z x0 X HLW HMT wr W0;go_upto_region 5 with fail;go_cut [53] (fun s wx=>s=.bool (!(dJ c.w q r k))/\kB W wx)
   case first=>
    have d0:=tB.cells (show cC W mb 0 (nA P.s) from F.o.cell 0);have d1:=tB.cells (show cC W mb 1 (lA mA P.n) from F.o.cell 1);have d2:=tB.cells (show cC W l 6 (lA mA q) from U.o.cell 6);have hnel:=tB.there W;have T:xA _:=fun W=>mF P.n q W;have HEX:xA _:=fun(x:tB W)=>MP l m c q x.w' (U.o.z x.h) h1 h2 hw0 hw1;have a0:(∃u:gB,(0:Int)<k/\0<k/\cC W pb (po+(k-1)*2) (nA u)/\Op.bytesLess u.toList P.s.toList=cA/\xA (dJ c.w q r k=cA))\/mM r k=dA/\(decide ((0:Int)<k)=cA/\decide (0<k)=cA\/∃u:gB,(0:Int)<k/\0<k/\cC W pb (po+(k-1)*2) (nA u)/\Op.bytesLess u.toList P.s.toList=dA):=by
     by_cases v:0<k
     .obtain ⟨u,hp,K⟩:=B.o v;cases G:Op.bytesLess u.toList P.s.toList
      .exact Ca ⟨u,by omega,v,K,G,by show _=_;rw[C.o,hp,aK,G];simp⟩
      exact La ⟨hp.trans G,La ⟨u,by omega,v,K,G⟩⟩
     exact La ⟨V.o (by omega),Ca ⟨by simp;omega,by simp;omega⟩⟩
    rcases a0 with⟨u,v,h0',K,G,HV⟩|⟨hpt,a0⟩
    .have d3:=tB.cells K;clear K;refine jB (by kernel_rfl) (by kernel_rfl) ?_;repeat (go_big_quiet_step (first|(go_at_call 77;exact yC (T.o _))|(go_at_call 164;exact xB (HEX.o _))))
     refine wpQuiet_nil ?_;rintro _ ⟨x,rfl⟩;go_wp2_with fail;go_meet;exact⟨by rw[HV.o];rfl,x.h⟩
    have hf:(aE P.s).toList.isEmpty=dA/\xA (dJ c.w q r k=cA)\/(aE P.s).toList.isEmpty=cA/\(wB P.n 0 q=cA/\xA (dJ c.w q r k=cA)\/(wB P.n 0 q=dA/\0<=P.n/\P.n<=q)/\(P.n<=q-c.w/\xA (dJ c.w q r k=cA)\/¬P.n<=q-c.w/\decide (P.n<=q-c.w)=cA/\xA (dJ c.w q r k=dA))):=by
     have Z:=C.o;rw[hpt,pK]at Z;cases o:(aE P.s).toList.isEmpty
     .rw[o]at Z;refine La ⟨rfl,?_⟩;cases b:wB P.n 0 q
      .exact Ca ⟨rfl,by show _=_;rw[Z,b];simp⟩
      refine La ⟨⟨rfl,uL b⟩,?_⟩;rw[b]at Z;by_cases d:P.n<=q-c.w
      .exact Ca ⟨d,by show _=_;rw[Z];simp;omega⟩
      exact La ⟨d,by simpa using d,by show _=_;rw[Z];simp;omega⟩
     exact Ca ⟨rfl,by show _=_;rw[Z,o];simp⟩
    clear B V C hpt;rcases a0 with⟨hd,hd'⟩|⟨u,v,h0',K,G⟩
    rotate_left;have d3:=tB.cells K;clear K;all_goals
     rcases hf with⟨o,HV⟩|⟨o,⟨b,HV⟩|⟨⟨b,r0,r1⟩,⟨d,HV⟩|⟨d,hx2,HV⟩⟩⟩
     all_goals
      try rw[b]at T
      try clear b
      refine jB (by kernel_rfl) (by kernel_rfl) ?_;repeat (go_big_quiet_step (first|(go_at_call 77;exact yC (T.o _))|(go_at_call 164;exact xB (HEX.o _))))
      refine wpQuiet_nil ?_;rintro _ ⟨x,rfl⟩;go_wp2_with fail;go_meet;exact⟨by rw[HV.o];rfl,x.h⟩
   obtain⟨rfl,H⟩:=hcut;rename eA=>Q;have MB7:xA (iB Q mb #[nA P.s,lA mA P.n] 88):=F.o.z H;have HI7:xA (uD Q (fun g=>S g\/w.1.size<=g) x { t with Z:=r.take k} (M+k)):=HIW.o.z H;have D:xA _:=HTW.o.trans' (bB.of H);clear H F HIW HTW B U;by_cases f:dJ c.w q r k=cA
   .have HF4:xA _:=HMF.o f;rw[f];clear f;go_wp2;go_ret;exact⟨fB HF4.o.symm,fun h=>absurd h (by rw[HF4.o];simp),D.o⟩
   have Y:dJ c.w q r k=dA:=by simpa using f
   obtain⟨g1,g2,g3⟩:=HTK.o Y;have G1:xA _:=g1;have G2:xA _:=g2;have I:xA (Calls prog 165 #[qA (bA ⟨x,0,aA⟩),nA P.s,nA (aE P.s),lA mA P.n] Q fun e O=>e=sA (.tuple #[])/\uD O (fun g=>(S g\/w.1.size<=g)\/Q.1.size<=g) x { t with Z:=gC (·.s) ⟨P.s,P.n⟩ (r.take k) } (M+k+1)/\bB (fun g=>S g\/w.1.size<=g) Q O):=
    aAv x { t with Z:=r.take k} P.s P.n _ (M+k) Q HI7.o g3 (by unfold maxLen;omega) hms (by omega) HTL.o
   have x1:cC Q mb 0 (nA P.s):=MB7.o.cell 0;have x2:cC Q mb 1 (lA mA P.n):=MB7.o.cell 1;rw[Y];clear f Y g1 g2 g3 HMF C V HTK;go_wp2_with fail;apply aC I.o;rintro w8 ⟨hi8,ht8⟩;have HN:xA (uD w8 (fun g=>S g\/w.1.size<=g) x { t with Z:=r.take (k+1) } (M+(k+1))):=by
    have:=hi8.keep (w':=w8) (S':=fun g=>S g\/w.1.size<=g) (fun g _ N=>⟨rfl,by rcases N with N|N;exact N;exact La (by have:=D.o.size;omega)⟩);rw[show(⟨P.s,P.n⟩:dB)=P from rfl,G2.o]at this;exact this
   have HT8:xA _:=D.o.trans ht8;clear hi8 ht8 I x1 x2 HI7 D;go_wp2;exact⟨⟨k+1,by omega,by go_num,G1.o,HN.o,HT8.o⟩,by simp[intOf];omega⟩
  .have ek:k=vA r:=by omega
   have HEND:xA (fL c.w q r=dA):=by have:=HOK.o;rw[ek]at this;exact this
   have HIE:xA (uD wr (fun g=>S g\/w.1.size<=g) x { t with Z:=r} (M+vA r)):=by have:=R.o;rw[ek,Rb]at this;exact this
   clear ek;go_wp2;go_ret;exact⟨fB HEND.o.symm,fun _=>HIE.o,E.o⟩
end
