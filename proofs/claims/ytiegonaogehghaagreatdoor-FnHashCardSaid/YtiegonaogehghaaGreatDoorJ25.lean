import Derived.Test.YtiegonaogehghaaGreatDoorJ22
set_option maxRecDepth 100000
set_option maxHeartbeats 8000000
set_option linter.defProp false
open Bool renaming false->cA,true->dA
open Option renaming some->bA,none->aA
open ByteArray renaming empty->kA
open List renaming length->yA
namespace Go.Proofs.YtiegonaogehghaaGreatDoor
open Go renaming World->eA,Value->iA,TypeId->jA,Calls->gA
open Value renaming bool->qA,agg->tA,slice->pA,string->oA
open Obj renaming cells->vA
open Ending renaming returned->uA
open RowKit renaming Below->fA
open Go.RowKit Tryz
def MS{x c a:Int}{b:Bool}(h:zB x c a=b)(w:eA):hI 90 #[zA x,zA c,zA a] w (qA b):=h ▸ qD x c a w
def BH(L:mG)(w:eA):
 vE 121 #[tA #[zA L.first,zA L.last,zA L.size]] w (qA (iJ L)):=by
 have d:bB (tB w (w.alloc (vA #[zA L.first,zA L.last,zA L.size] 37))):=yB;cases h1:zB L.last 1 999999 with
 |false=>
  have E:bB (iJ L=cA):=by show _=_;simp[iJ,h1]
  have b:bB _:=h1;clear h1;go_enter func121,ntmps121;go_wp2_with fail;apply hC (MS b.o _);rintro a rfl;go_wp2;go_ret;exact⟨oB E.o.symm,d.o⟩
 |true=>
  have b:bB _:=h1;cases h2:zB L.first 1 L.last with
  |false=>
   have E:bB (iJ L=cA):=by show _=_;simp[iJ,h2]
   have c:bB _:=h2;clear h1 h2;go_enter func121,ntmps121;go_wp2_with fail;apply hC (MS b.o _);rintro a rfl;go_wp2_with fail;apply hC (MS c.o _);rintro a rfl;go_wp2;go_ret;exact⟨oB E.o.symm,d.o⟩
  |true=>
   have c:bB _:=h2;have E:bB (iJ L=zB L.size 0 1000000000):=by show _=_;simp[iJ,h1,h2]
   clear h1 h2;go_enter func121,ntmps121;go_wp2_with fail;apply hC (MS b.o _);rintro a rfl;go_wp2_with fail;apply hC (MS c.o _);rintro a rfl;go_wp2_with fail;apply hC (qD L.size 0 1000000000 _);rintro a rfl;go_wp2;go_ret;exact⟨oB E.o.symm,d.o⟩
structure iK(α:Type) where
 m:Nat
 cells:α→List iA
 len:∀a,yA (cells a)=m
 part:eA→Nat→Nat→α→Prop
 keep:∀{w w':eA}{lo hi:Nat}{a:α},part w lo hi a→w.1.size≤w'.1.size→(∀g,lo≤g→g<hi→g<w.1.size→w'.heap[g]?=w.heap[g]?)→part w' lo hi a
 wide:∀{w:eA}{lo hi lo' hi':Nat}{a:α},part w lo hi a→lo'≤lo→hi≤hi'→part w lo' hi' a
def iK.flat{α:Type}(K:iK α)(a:List α):List iA:=a.flatMap K.cells
def iK.flat_append{α:Type}(K:iK α)(a b:List α):K.flat (a++b)=K.flat a++K.flat b:=by simp[iK.flat]
def iK.flat_get{α:Type}(K:iK α):∀(l:List α)(i:Nat)(b:i<yA l)(j:Nat),j<K.m->(K.flat l)[i*K.m+j]?=(K.cells l[i])[j]?:=by
 intro l;unfold iK.flat;induction l with
 |nil=>intro i b;exact absurd b (by simp)
 |cons x r d=>
  intro i b j c;cases i with
  |zero=>
   simp only[Xc,Nat.zero_mul,Ya,Eg];rw[Pe (by rw[K.len];exact c)]
  |succ i=>
   have:=d i (by simpa using b) j c;simp only[Xc,Ec];have a:=K.len x;have e:(i+1)*K.m+j-yA (K.cells x)=i*K.m+j:=by rw[a,Nat.succ_mul];omega
   rw[Uc (by rw[a,Nat.succ_mul];omega),e];exact this
def zL{α:Type}(K:iK α)(w:eA)(b:Nat)(e:jA)(v:iA)(n:Nat)(d:List α):Prop:=
 w.ownsRow b e K.m v n (K.flat d)/\yA d=n/\∀y∈d,∃c a,b<=c/\a<=w.1.size/\(∀g,v.ownBlock=bA g->g<c\/a<=g)/\K.part w c a y
def zL.nil{α:Type}(K:iK α)(w:eA)(b:Nat)(e:jA):zL K w b e (pA aA 0 0) 0 []:=
 ⟨eA.ownsRow_nil _ _ _ _,rfl,λy a=>by cases a⟩
def zL.row{α:Type}{K:iK α}{w:eA}{b:Nat}{e:jA}{v:iA}{n:Nat}{i:List α}(h:zL K w b e v n i):∃a c,v=pA a n c:=by
 obtain⟨rfl,rfl⟩|⟨g,d,f,rfl,_⟩:=h.1.2;exact ⟨aA,0,rfl⟩;exact ⟨_,_,rfl⟩
def zL.lt{α:Type}{K:iK α}{w:eA}{b:Nat}{e:jA}{v:iA}{n:Nat}{c:List α}(h:zL K w b e v n c):∀g,v.ownBlock=bA g->b<=g/\g<w.1.size:=λg a=>h.1.lt g a
def zL.turn{α:Type}{K:iK α}{w j:eA}{S:Nat->Prop}{b:Nat}{e:jA}{v:iA}{n:Nat}{k:List α}(h:zL K w b e v n k)(a:eB S w j)(f:∀g,S g->g<b):zL K j b e v n k:=by
 obtain⟨d,l,m⟩:=h;refine⟨a.row d (λg i e=>by have:=(d.lt g i).1;have:=f g e;omega),l,λy t=>?_⟩;obtain⟨u,q,o,p,r,s⟩:=m y t;exact⟨u,q,o,Ua p a.size,r,K.keep s a.size λg i _ c=>a.block g c (λe=>by have:=f g e;omega)⟩
def zL.but{α:Type}{K:iK α}{w a:eA}{B b:Nat}{e:jA}{v:iA}{n:Nat}{c:List α}(h:zL K w b e v n c)(i:pD B w a)(d:B<b):zL K a b e v n c:=
 h.turn (eB.but i) (λg f=>by rw[f];exact d)
def zL.snoc{α:Type}{K:iK α}{wr w4 w6:eA}{b f d k:Nat}{e:jA}{v:iA}{ys:List α}{y:α}
(n:w6.ownsRow b e K.m (pA (pB f) (k+1) d) (k+1) (K.flat ys++K.cells y))
(h:zL K wr b e v k ys)(x:b<=wr.1.size)(i:w4.1.size<=w6.1.size)(w:wr.1.size<=w4.1.size)
(p:∀g,g<wr.1.size->b<=g->v.ownBlock≠bA g->w6.heap[g]?=wr.heap[g]?)(q:∀g,wr.1.size<=g->g<w4.1.size->w6.heap[g]?=w4.heap[g]?)
(u:K.part w4 wr.1.size w4.1.size y)
(j:(v.ownBlock=bA f/\f<wr.1.size)\/w4.1.size<=f):zL K w6 b e (pA (pB f) (k+1) d) (k+1) (ys++[y]):=by
 obtain⟨G,E,F⟩:=h;refine⟨?_,by rw[Kb,E];rfl,λz c=>?_⟩
 .rw[K.flat_append];have e:K.flat [y]=K.cells y:=by simp[iK.flat]
  rw[e];exact n
 rcases Ee.1 c with c|c
 .obtain ⟨D,B,r,A,t,C⟩:=F z c;refine⟨D,B,r,by omega,λg a=>?_,K.keep C (by omega) λg a l o=>p g o (by omega) (λe=>by have:=t g e;omega)⟩;simp only[iA.ownBlock,Qa]at a;subst a;obtain⟨h,s⟩|h:=j
  .exact t _ h
  exact La (by omega)
 rw[Uf]at c;subst c;refine⟨wr.1.size,w4.1.size,x,i,λg a=>?_,K.keep u i λg a l _=>q g a l⟩;simp only[iA.ownBlock,Qa]at a;subst a;obtain⟨_,s⟩|h:=j;exact Ca s;exact La h
def SY{α:Type}(K:iK α)(w:eA)(d c:Nat)(a:jC)(b:List α):Prop:=
 b=[]\/∃g,a=pB g/\d<=g/\g<c/\g<w.1.size/\∀i(h:i<yA b),(∀j,j<K.m->w.cell? (dB g (i*K.m+j))=(K.cells b[i])[j]?)/\K.part w d c b[i]
def SY.keep{α:Type}{K:iK α}{w w':eA}{c b:Nat}{a:jC}{k:List α}(h:SY K w c b a k)(n:w.1.size<=w'.1.size)(f:∀g,c<=g->g<b->g<w.1.size->w'.heap[g]?=w.heap[g]?):SY K w' c b a k:=by
 obtain h|⟨g,rfl,d,e,l,h⟩:=h;exact Ca h;refine La ⟨g,rfl,d,e,by omega,λi b=>⟨λj m=>?_,K.keep (h i b).2 n f⟩⟩;rw[eA.cell?_of_block (f g d e l)];exact(h i b).1 j m
def SY.wide{α:Type}{K:iK α}{w:eA}{e b d c:Nat}{a:jC}{f:List α}(h:SY K w e b a f)(j:d<=e)(k:b<=c):SY K w d c a f:=by
 obtain h|⟨g,rfl,m,n,l,h⟩:=h;exact Ca h;exact La ⟨g,rfl,by omega,by omega,l,λi b=>⟨(h i b).1,K.wide (h i b).2 j k⟩⟩
def SY.z{α:Type}{K:iK α}{w e:eA}{d c:Nat}{a:jC}{f:List α}(h:SY K w d c a f)(b:tB w e):SY K e d c a f:=
 h.keep b.size λg _ _ i=>b.block g i
def SY.at{α:Type}{K:iK α}{w:eA}{d c:Nat}{a:jC}{b:List α}(h:SY K w d c a b){i:Nat}(e:i<yA b):
 ∃g,a=pB g/\g<w.1.size/\(∀j,j<K.m->w.cell? (dB g (i*K.m+j))=(K.cells b[i])[j]?)/\K.part w d c b[i]:=by grind [SY]
def zL.o{α:Type}{K:iK α}{w:eA}{b:Nat}{e:jA}{a:jC}{n d:Nat}{q:List α}(h:zL K w b e (pA a n d) n q):SY K w b w.1.size a q:=by
 obtain⟨v,D,x⟩:=h;obtain⟨_,E⟩|⟨g,r,f,s,y,t,_,_,C,p⟩:=v.2;exact Ca (Nb.1 (by omega));simp only[iA.slice.injEq]at s;have c:=aB t;refine La ⟨g,s.1,y,c,c,λi u=>⟨λj A=>?_,?_⟩⟩
 .have l:i*K.m+j<n*K.m:=by
   have:(i+1)*K.m<=n*K.m:=Nat.mul_le_mul_right _ (by omega);rw[Nat.succ_mul]at this;omega
  rw[gB.cell (show gB w g f e from t) _,<-Yd,<-Jb l,p];exact K.flat_get q i u j A
 .obtain ⟨F,z,o,k,_,B⟩:=x _ (Gb u);exact K.wide B o k
def aDq:iA->Nat
 |pA _ n _=>n
 |_=>0
def XQ(B P N n:Nat)(w:eA)(h:sD w B P N)(c:N<=10000000)(f:1<=n)(d:n<=256):
 gA prog 11 #[.pointer (pB B),zA (n:Nat)] w λe a=>∃v:Nat,v<n/\e=uA (zA (v:Nat))/\sD a B P (N+1)/\pD B w a:=by
 by_cases b:2<=n
 .exact cD B P N n w h c b d
 refine (XP B n w (by omega)).mono ?_;rintro e a ⟨rfl,rfl⟩;exact⟨0,by omega,rfl,h.mono (by omega),pD.refl _ _⟩
def mz(a:List bC):∀(i:Nat)(h:i<yA a)(s:nB),(nC a).set (i*2) (oA s)=nC (a.set i ⟨s,a[i].V⟩):=by
 induction a with
 |nil=>intro i h;exact absurd h (by simp)
 |cons l r c=>
  intro i h s;have e:∀(x:bC)(q:List bC),nC (x::q)=oA x.N :: oA x.V::nC q:=λ_ _=>rfl;cases i with
  |zero=>rfl
  |succ i=>
   have b:(i+1)*2=i*2+1+1:=by omega
   rw[e,b,Jd,Jd,c i (by simpa using h) s];rfl
def na(a:List bC):∀(i:Nat)(h:i<yA a)(s:nB),(nC a).set (i*2+1) (oA s)=nC (a.set i ⟨a[i].N,s⟩):=by
 induction a with
 |nil=>intro i h;exact absurd h (by simp)
 |cons l r c=>
  intro i h s;have e:∀(x:bC)(q:List bC),nC (x::q)=oA x.N :: oA x.V::nC q:=λ_ _=>rfl;cases i with
  |zero=>rfl
  |succ i=>
   have b:(i+1)*2+1=i*2+1+1+1:=by omega
   rw[e,b,Jd,Jd,c i (by simpa using h) s];rfl
def sy{w:eA}{base g c n:Nat}{e:jA}{d:List iA}(h:w.ownsRow base e 2 (pA (pB g) n c) n d)(j:Nat)(u:iA):(w.setCell (dB g j) u).ownsRow base e 2 (pA (pB g) n c) n (d.set j u):=by
 obtain⟨i,k⟩:=h;refine⟨by rw[Pd];exact i,?_⟩;obtain⟨b,_⟩|⟨s,f,a,b,l,m,p,o,q,r⟩:=k;exact absurd b (by simp);simp only[iA.slice.injEq,Qa,Addr.mk.injEq,Cc,true_and]at b;obtain⟨rfl,rfl⟩:=b;refine La ⟨g,c,a.setIfInBounds j u,rfl,l,heap_setCell_same w g j a e u m,p,o,by rw[Array.size_setIfInBounds];exact q,?_⟩;rw[Jf,List.take_set,r]
def QI{w:eA}{base g m:Nat}{e:jA}{a:List bC}(h:w.ownsRow base e 2 (pA (pB g) (yA a) m) (yA a) (nC a))(i:Nat)(b:i<yA a):w.cell? (dB g (i*2))=bA (oA a[i].N)/\w.cell? (dB g (i*2+1))=bA (oA a[i].V)/\(∀j,w.frozen? (dB g j)=cA)/\base<=g:=by
 obtain⟨t,u,n,f⟩:=tK h;refine⟨f _ _ (JW a i b),f _ _ ?_,?_,n⟩
 .have e:∀(a:List bC)(i:Nat)(b:i<yA a),(nC a)[i*2+1]?=bA (oA a[i].V):=by
   intro a;induction a with
   |nil=>intro i b;exact absurd b (by simp)
   |cons l r q=>
    intro i b;have e:nC (l::r)=oA l.N :: oA l.V::nC r:=rfl;cases i with
    |zero=>rfl
    |succ i=>
     have p:(i+1)*2+1=i*2+1+1+1:=by omega
     rw[e,p,Ga,Ga,q i (by simpa using b)];rfl
  exact e a i b
 .rcases h.2 with⟨c,_⟩|⟨s,k,d,c,v,o,_⟩
  .exact absurd c (by simp)
  simp only[iA.slice.injEq,Qa,Addr.mk.injEq,Cc,true_and]at c;obtain⟨rfl,rfl⟩:=c;exact λj=>frozen_of_row w g j d _ o
def QP{a:List bC}(h:iU a)(i:Nat){l:bC}(b:l.N.size<=65/\l.V.size<=258):iU (a.set i l):=by grind [iU]
def aEy{w:eA}{base g b:Nat}{e:jA}{a:List bC}(h:w.ownsRow base e 2 (pA (pB g) (yA a) b) (yA a) (nC a))(i:Nat)(c:i<yA a)(s:nB):(w.setCell (dB g (i*2)) (oA s)).ownsRow base e 2 (.slice (pB g) (yA (a.set i ⟨s,a[i].V⟩)) b) (yA (a.set i ⟨s,a[i].V⟩)) (nC (a.set i ⟨s,a[i].V⟩)):=by
 have:=sy h (i*2) (oA s);rw[mz a i c s]at this;rw[Pd];exact this
def iz{w:eA}{base g b:Nat}{e:jA}{a:List bC}(h:w.ownsRow base e 2 (pA (pB g) (yA a) b) (yA a) (nC a))(i:Nat)(c:i<yA a)(s:nB):(w.setCell (dB g (i*2+1)) (oA s)).ownsRow base e 2 (.slice (pB g) (yA (a.set i ⟨a[i].N,s⟩)) b) (yA (a.set i ⟨a[i].N,s⟩)) (nC (a.set i ⟨a[i].N,s⟩)):=by
 have:=sy h (i*2+1) (oA s);rw[na a i c s]at this;rw[Pd];exact this
def aIq{w:eA}{base g d:Nat}{e:jA}{a:List bC}(h:w.ownsRow base e 2 (pA (pB g) (yA a) d) (yA a) (nC a))(i:Nat)(s:i<=yA a):w.ownsRow base e 2 (pA (pB g) i d) i (nC (a.take i)):=by
 refine⟨by rw[cI,Hb];omega,?_⟩;obtain⟨c,_⟩|⟨r,f,b,c,m,n,t,o,p,q⟩:=h.2;exact absurd c (by simp);simp only[iA.slice.injEq,Qa,Addr.mk.injEq,Cc,true_and]at c;obtain⟨rfl,rfl⟩:=c;refine La ⟨g,d,b,rfl,m,n,by omega,o,p,?_⟩;have j:nC a=nC (a.take i)++nC (a.drop i):=by rw[<-jF,Za]
 have k:yA (nC (a.take i))=i*2:=by rw[cI,Hb];omega
 have l:b.toList.take (i*2)=(b.toList.take (yA a*2)).take (i*2):=by rw[List.take_take,Nat.min_eq_left (by omega)]
 rw[l,q,j,<-k,List.take_left]
def aAx(W:eA)(x:Obj){a b:iA}{t:jA}:∀j u,[a,b][j]?=bA u->((W.alloc x).alloc (vA #[a,b] t)).cell? (((dB (W.1.size+1) 0):Addr).add j)=bA u:=
 eA.news_of_block (cs:=#[a,b]) (fr:=(0,0)) (by have h:=heap_alloc_new (W.alloc x) (vA #[a,b] t);simpa using h)
def aKb(w b:eA)(B P N:Nat)(e:Ending):Prop:=∃(g c:Nat)(a:List bC),e=uA (pA (pB g) (yA a) c)/\yA a<=20/\iU a/\b.ownsRow w.1.size 181 2 (pA (pB g) (yA a) c) (yA a) (nC a)/\sD b B P N/\pD B w b
def aAe(B P N:Nat)(w:eA)(base g J:Nat)(f:List bC)(h:sD w B P N)(m:N<=90000)(m:w.ownsRow base 181 2 (pA (pB g) (yA f) J) (yA f) (nC f))(h1:1<=yA f)(h7:yA f<=7)(o:iU f):
 gA prog 36 #[.pointer (pB B),pA (pB g) (yA f) J] w λe w'=>aKb w w' B P (N+100) e:=by
 obtain⟨ti,G,W,X,Y⟩:=EP;have HI:bB (prog.info? 181=bA ti):=G;clear G;have Z:bB (sD w B P N):=h;have V:=h.lt;have M:=h.up.2;have A:bB (iU f):=o;have z:bB (w.ownsRow base 181 2 (pA (pB g) (yA f) J) (yA f) (nC f)):=m;clear h m o;go_enter func36,ntmps36;go_wp2_with(at_builtin;refine wpList_append_lies _ rfl _ _ _ rfl w.1.size 181 ti _ 2 32 underlying104 HI.o W X Y rfl (by omega) (pA (pB w.1.size) 0 0) 0 [] rfl (by exact eA.ownsRow_made w #[] 0 (Ia _) (by simp[maxLen]) (by simp)) (dB g 0) (yA f) J (nC f) rfl (cI f) (by exact iw (eC z.o yB)) (by exact kS f) (by omega) (by simp[maxLen];omega) (by omega) (by simp) (w.1.size+1) (by simp) ?_;intro o k w1 G J m O);rw[Ya,Mb]at G;have U:tB w w1:=(pF w _).grown J (by simp) (λq hq=>by simp[iA.ownBlock]at hq;omega);have Q:bB (w1.ownsRow w.1.size 181 2 (pA (pB o) (yA f) k) (yA f) (nC f)):=G;have h:bB (tB w w1):=U;clear G J m O U z;refine(XQ B P N (yA f) w1 (Z.o.z h.o) (by omega) h1 (by omega)).mono ?_;rintro e w2 ⟨i,hi,rfl,G,m⟩;have O:bB (sD w2 B P (N+1)/\pD B w w2):=⟨G,(pD.of h.o).trans m⟩
 have R:bB (w2.ownsRow w.1.size 181 2 (pA (pB o) (yA f) k) (yA f) (nC f)):=lI Q.o m V;clear G m Q h Z;go_wp2_with fail;refine(cD B P (N+1) 7 w2 O.o.1 (by omega) (by omega) (by omega)).mono ?_;rintro e r ⟨h,U,rfl,J,G⟩;have E:bB (sD r B P (N+2)/\pD B w r):=⟨J,O.o.2.trans G⟩
 have m:bB (r.ownsRow w.1.size 181 2 (pA (pB o) (yA f) k) (yA f) (nC f)):=lI R.o G V;have hz3:w.1.size<=r.1.size:=E.o.2.size;clear J G R O;have hi':(i:Int)<(yA f:Nat):=by omega
 obtain⟨x0,x1,G,J⟩:=QI m.o i hi;have a:=G (i*2+1);clear G;have T:=A.o f[i] (Gb hi);have G:h=0\/(h=1\/h=2)\/h=3\/h=4\/h=5\/h=6:=by omega
 clear U;obtain rfl|hs12|rfl|rfl|rfl|rfl:=G
 .clear x0 x1 a;go_wp2_with fail;refine(vV ⟨#[110]⟩ 1 64 r (by decide) (by omega) (by omega)).mono ?_;rintro e O ⟨b,X,rfl,y⟩;have Z:bB (tB r O):=y;clear y;go_wp2_with fail;refine(vV ⟨#[110]⟩ 1 65 O (by decide) (by omega) (by omega)).mono ?_;rintro e G ⟨d,Y,rfl,U⟩;have B5:bB (tB r G):=vB Z.o U;clear U Z;go_wp2_with fail;have Z:bB (lP (G.alloc (vA ([⟨#[]⟩,⟨#[57,97]⟩,⟨#[97,45,98]⟩,⟨#[106,111,98]⟩,b,d,⟨#[195,169]⟩].map iA.string).toArray 9)) G.1.size 7 65):=aT G _ 65 _ 7 rfl (by
   simp only[List.all_cons,List.all_nil,Bool.and_true,Sa,Ab];refine⟨by decide,by decide,by decide,by decide,by omega,by omega,by decide⟩)
  simp only[Fc,Ag]at Z;have hC5:=(E.o.1.z B5.o).z (pF G (vA #[oA ⟨#[]⟩,oA ⟨#[57,97]⟩,oA ⟨#[97,45,98]⟩,oA ⟨#[106,111,98]⟩,oA b,oA d,oA ⟨#[195,169]⟩] 9));have U:r.1.size<=G.1.size:=B5.o.size;refine(cD B P (N+2) 7 _ hC5 (by omega) (by omega) (by omega)).mono ?_;rintro e w6 ⟨v,hv,rfl,hc6,U⟩;have HR6:=Z.o.but U (by omega);obtain⟨s,hcell,hs⟩:=HR6.at hv;have H6:bB (sD w6 B P (N+3)/\pD B w w6):=⟨hc6,((E.o.2.trans (pD.of B5.o)).z yB).trans U⟩
  have S:bB (w6.ownsRow w.1.size 181 2 (pA (pB o) (yA f) k) (yA f) (nC f)):=lI (eC (eC m.o B5.o) yB) U V;obtain⟨y0,y1,yf,_⟩:=QI S.o i hi;have k0:=yf (i*2);clear hc6 U HR6 Z hC5 B5 E m yf;have U:(v:Int)<7:=by omega
  go_wp2;refine bodyPost_ret (v:=pA (pB o) (yA f) k) (by simp[results,results36,go_sem]) rfl ?_;have U:fA w.1.size w6 (w6.setCell (dB o (i*2)) (oA s)):=bD.setCell J _;exact⟨o,k,f.set i ⟨s,f[i].V⟩,by rw[Pd],by rw[Pd];omega,QP A.o i ⟨hs,T.2⟩,aEy S.o i hi _,(H6.o.1.below (U.mono M)).mono (by omega),H6.o.2.below_to U⟩
 .have c0:¬((h:Int)=0):=by omega
  have U:(h:Int)=1\/(h:Int)=2:=by omega
  clear hs12;obtain c|c:=U
  all_goals
   rw[c];clear c c0 x0 x1 a;go_wp2_with fail;refine(XC B P (N+2) r E.o.1 (by omega)).mono ?_;rintro e O ⟨va,h,rfl,U,y⟩;have H4:bB (sD O B P (N+3)/\pD B w O):=⟨U,E.o.2.trans y⟩
   have n:bB (O.ownsRow w.1.size 181 2 (pA (pB o) (yA f) k) (yA f) (nC f)):=lI m.o y V;obtain⟨y0,y1,yf,_⟩:=QI n.o i hi;have k1:=yf (i*2+1);clear U y m E yf;go_wp2;refine bodyPost_ret (v:=pA (pB o) (yA f) k) (by simp[results,results36,go_sem]) rfl ?_;have t:fA w.1.size O (O.setCell (dB o (i*2+1)) (oA va)):=bD.setCell J _;exact⟨o,k,f.set i ⟨f[i].N,va⟩,by rw[Pd],by rw[Pd];omega,QP A.o i ⟨T.1,h⟩,iz n.o i hi _,(H4.o.1.below (t.mono M)).mono (by omega),H4.o.2.below_to t⟩
 .generalize hnm:f[i].N=nm at *;clear hnm;go_wp2_with(at_builtin;refine wpList_append_lies _ rfl _ _ _ rfl w.1.size 181 ti _ 2 32 underlying104 HI.o W X Y rfl (by omega) (pA (pB o) (yA f) k) (yA f) (nC f) rfl (by exact eC m.o yB) (dB r.1.size 0) 1 1 [oA nm,oA ⟨#[119]⟩] rfl rfl (by exact eA.news_of_block (cs:=#[oA nm,oA ⟨#[119]⟩]) (heap_alloc_new _ _)) (by simp[iA.oneCell']) (by omega) (by simp[maxLen];omega) (by omega) (by simp;omega) (r.1.size+1) (by simp) ?_;intro K C G p h hat5 hlt5);have t:fA w.1.size r G:=((pF r _).mono (by omega)).grown h (by simp;omega) (λq hq=>mH m.o q hq);have D:yA (f++[(⟨nm,⟨#[119]⟩⟩:bC)])=yA f+1:=by simp
  have hxs:nC f++[oA nm,oA ⟨#[119]⟩]=nC (f++[⟨nm,⟨#[119]⟩⟩]):=by rw[jF];rfl
  rw[hxs,<-D]at p;refine bodyPost_ret (v:=pA (pB K) (yA f+1) C) (by simp[results,results36,go_sem]) rfl ?_;exact⟨K,C,f++[⟨nm,⟨#[119]⟩⟩],by rw[D],by omega,IW A.o ⟨T.1,by show(1:Nat)<=258;omega⟩,p,(E.o.1.below (t.mono M)).mono (by omega),E.o.2.below_to t⟩
 .go_wp2;refine bodyPost_ret (v:=pA (pB o) (yA f) k) (by simp[results,results36,go_sem]) rfl ?_;have t:fA w.1.size r (r.setCell (dB o (i*2+1)) (oA ⟨#[]⟩)):=bD.setCell J _;exact⟨o,k,f.set i ⟨f[i].N,⟨#[]⟩⟩,by rw[Pd],by rw[Pd];omega,QP A.o i ⟨T.1,by show(0:Nat)<=258;omega⟩,iz m.o i hi _,(E.o.1.below (t.mono M)).mono (by omega),E.o.2.below_to t⟩
 .obtain ⟨hcap,hgl,_,I⟩:=tK m.o;have hcm:k<=maxLen:=by
   obtain⟨h,_⟩|⟨g',cap,cur,h,_,_,_,hm,_⟩:=m.o.2;exact absurd h (by simp);simp only[iA.slice.injEq,Qa,Addr.mk.injEq,Cc,true_and]at h;rw[h.2];exact hm
  have h:bB (dS r.drew (if k=i+1 then pB o else bA (dB o ((i+1)*2))) (yA f-(i+1)) (nC (f.drop (i+1)))):=ju (w:=r.drew) I (i+1) hcap;have HPRE:bB (r.drew.ownsRow w.1.size 181 2 (pA (pB o) i k) i (nC (f.take i))):=aIq m.o i (by omega);have HL:bB (yA (nC (f.drop (i+1)))=(yA f-(i+1))*2):=by show _=_;rw[cI,Rc]
  clear I x0 x1 a;have hic:i<=k:=by omega
  have hwr:IntKind.i64.wrap ((i:Int)+1)=(i:Int)+1:=by
   simp only[IntKind.wrap,IntKind.bits,IntKind.signed];simp;omega
  have hp0:(0:Int)<=(i:Int)+1:=by omega
  have hp1:(i:Int)+1<=(yA f:Nat):=by omega
  have hp2:((i:Int)+1).toNat=i+1:=by omega
  have hcm2:(k:Int)<=9223372036854775807:=by unfold maxLen at hcm;omega
  go_wp2_with fail;go_region_law (refine tI _ rfl (.tmp 59) (.tmp 63) 104 rfl w.1.size 181 ti _ 2 32 underlying104 HI.o W X Y rfl (by omega) o i k (nC (f.take i)) (by simp[Act.eval,Act.put]) (by exact HPRE.o) (if k=i+1 then pB o else bA (dB o ((i+1)*2))) (yA f-(i+1)) (k-(i+1)) (nC (f.drop (i+1))) (by simp[Act.eval,Act.put];trace_state) HL.o (by exact h.o) (kS _) (by simp[maxLen];omega) (by omega) (by simpa using hz3) ?_;intro K C G p t _ _ _ _)
  all_goals go_wp2
  all_goals
   have D:yA (f.take i++f.drop (i+1))=i+(yA f-(i+1)):=by rw[Kb,Hb,Rc];omega
   rw[<-jF,<-D]at p;have L:fA w.1.size r G:=((fA.refl _ r).drew).trans t;refine bodyPost_ret (v:=.slice (pB K) (i+(yA f-(i+1))) C) (by simp[results,results36,go_sem]) rfl ?_;exact⟨K,C,f.take i++f.drop (i+1),by rw[D],by omega,λx h=>by
    rw[Ee]at h;obtain h|h:=h;exact A.o x (Ce h);exact A.o x (Ng h),p,(E.o.1.below (L.mono M)).mono (by omega),E.o.2.below_to L⟩
 .go_wp2_with fail;refine(cD B P (N+2) 2 r E.o.1 (by omega) (by omega) (by omega)).mono ?_;rintro e O ⟨v4,h,rfl,U,y⟩;have H4:bB (sD O B P (N+3)/\pD B w O):=⟨U,E.o.2.trans y⟩
  have n:bB (O.ownsRow w.1.size 181 2 (pA (pB o) (yA f) k) (yA f) (nC f)):=lI m.o y V;clear U y m E x0 x1 a;have m:bB (iU f):=A;clear A T hi hi' J;go_wp2;go_loopw [1] (λh wr=>∃(l:List bC)(K F:Nat),h=pA (pB K) (yA l) F/\yA l<=17/\bB (iU l/\sD wr B P (N+3)/\pD B w wr)/\bB (wr.ownsRow w.1.size 181 2 (pA (pB K) (yA l) F) (yA l) (nC l))/\w.1.size<=wr.1.size) (λh _=>20-aDq h)
  case atStart=>exact⟨f,o,k,rfl,by omega,⟨m.o,H4.o⟩,n.o,H4.o.2.size⟩
  case round=>
   clear H4 n m h1 h7;obtain⟨l,K,F,rfl,h,Z,z,m⟩:=hrel;by_cases h:(yA l:Int)<16+(v4:Int)
   .have hal2:yA l<=16:=by omega
    obtain⟨H,h,o⟩:∃H:nB,H.size=1/\(convert 22 9 (pA (pB wr.1.size) 1 1)).run prog (wr.alloc (vA #[.int .u8 (97+(yA l:Nat))] 5))=.ok (oA H) (wr.alloc (vA #[.int .u8 (97+(yA l:Nat))] 5)):=
     ⟨strOfNums [97+((yA l:Nat):Int)],BJ _,NC (B:=0) (ys:=[97+((yA l:Nat):Int)]) ⟨by simp,.inr ⟨wr.1.size,1,#[.int .u8 (97+(yA l:Nat))],rfl,Oa _,heap_alloc_new _ _,Ia _,by simp[maxLen],by simp,by simp⟩⟩⟩
    have G:bB (H.size=1):=h;have o:H.size<=1:=by omega
    clear h;have J:bB (((wr.alloc (vA #[.int .u8 (97+((yA l:Nat):Int))] 5)).alloc (vA #[oA (⟨#[110]⟩++H),oA ⟨#[118]⟩] 181)).ownsRow w.1.size 181 2 (pA (pB K) (yA l) F) (yA l) (nC l)):=eC (eC z.o yB) yB;have h:bB (∀j u,[iA.string (⟨#[110]⟩++H),iA.string ⟨#[118]⟩][j]?=bA u->((wr.alloc (vA #[.int .u8 (97+((yA l:Nat):Int))] 5)).alloc (vA #[oA (⟨#[110]⟩++H),oA ⟨#[118]⟩] 181)).cell? (((dB (wr.1.size+1) 0):Addr).add j)=bA u):=aAx _ _;have o:bB (w.1.size<=((wr.alloc (vA #[.int .u8 (97+((yA l:Nat):Int))] 5)).alloc (vA #[oA (⟨#[110]⟩++H),oA ⟨#[118]⟩] 181)).1.size/\((wr.alloc (vA #[.int .u8 (97+((yA l:Nat):Int))] 5)).alloc (vA #[oA (⟨#[110]⟩++H),oA ⟨#[118]⟩] 181)).1.size=wr.1.size+1+1):=⟨by simp;omega,by simp⟩
    go_wp2_with(at_builtin;refine wpList_append_lies _ rfl _ _ _ rfl w.1.size 181 ti _ 2 32 underlying104 HI.o W X Y rfl (by omega) (pA (pB K) (yA l) F) (yA l) (nC l) rfl J.o (dB (wr.1.size+1) 0) 1 1 [oA (⟨#[110]⟩++H),oA ⟨#[118]⟩] rfl rfl h.o (by simp[iA.oneCell']) (by omega) (by simp[maxLen];omega) (by omega) o.o.1 (wr.1.size+1+1) o.o.2 ?_;intro O o w6 W h J J);have L:fA w.1.size wr w6:=((vB (pF wr _) yB).mono m).grown h (by simp;omega) (λq hq=>mH z.o q hq);have D:yA (l++[(⟨⟨#[110]⟩++H,⟨#[118]⟩⟩:bC)])=yA l+1:=by simp
    have hxs:nC l++[oA (⟨#[110]⟩++H),oA ⟨#[118]⟩]=nC (l++[⟨⟨#[110]⟩++H,⟨#[118]⟩⟩]):=by rw[jF];rfl
    rw[hxs,<-D]at W;refine⟨⟨l++[(⟨⟨#[110]⟩++H,⟨#[118]⟩⟩:bC)],O,o,by rw[D],by omega,⟨IW Z.o.1 ⟨?_,by show(1:Nat)<=258;omega⟩,Z.o.2.1.below (L.mono M),Z.o.2.2.below_to L⟩,W,Ua m L.size⟩,by simp only[aDq];omega⟩;simp only;rw[Ka,G.o];show(1:Nat)+1<=65;omega
   go_wp2;refine bodyPost_ret (v:=pA (pB K) (yA l) F) (by simp[results,results36,go_sem]) rfl ?_;exact⟨K,F,l,rfl,by omega,Z.o.1,z.o,Z.o.2.1.mono (by omega),Z.o.2.2⟩
def aAv(a:List bC)(c:Nat):Prop:=yA a<=20/\yA a<=c/\iU a
def aV(w:eA)(d c:Nat)(a:jC)(b:List bC):Prop:=b=[]\/∃g o,a=bA (dB g o)/\d<=g/\g<c/\g<w.1.size/\kP w g o b
def aV.keep{w w':eA}{c b:Nat}{a:jC}{f:List bC}(h:aV w c b a f)(n:w.1.size<=w'.1.size)(m:∀g,c<=g->g<b->g<w.1.size->w'.heap[g]?=w.heap[g]?):aV w' c b a f:=by
 obtain h|⟨g,o,rfl,d,e,k,h⟩:=h;exact Ca h;have l:∀j,w'.cell? (dB g j)=w.cell? (dB g j):=λj=>eA.cell?_of_block (m g d e k);exact La ⟨g,o,rfl,d,e,by omega,λi b=>by simp only[l];exact h i b⟩
def aV.wide{w:eA}{e d c b:Nat}{a:jC}{f:List bC}(h:aV w e d a f)(g:c<=e)(i:d<=b):aV w c b a f:=by grind [aV]
def aV.B{w:eA}{d c:Nat}{a:jC}{b:List bC}(h:aV w d c a b):nD w a b:=by grind [aV,nD]
def tD.inR{w:eA}{b:Nat}{a:jC}{c:List bC}(h:tD w b a c):aV w b w.1.size a c:=by grind [tD,aV]
def uh(v:Int):Prop:=-9223372036854775808<=v/\v<=9223372036854775807
def dX:iK XV where
 m:=2
 cells:=λy=>[pA y.a (yA y.x.B) y.c,zA y.x.bits]
 len:=λ_=>rfl
 part:=λw i e y=>aV w i e y.a y.x.B/\aAv y.x.B y.c/\uh y.x.bits
 keep:=λh g f=>⟨h.1.keep g f,h.2⟩
 wide:=λh b d=>⟨h.1.wide b d,h.2⟩
structure QV where
 K:Int
 T:nB
 R:nB
 U:Int
 ys:List XV
 a:jC
 c:Nat
def aJr(k a:Int)(t m:nB)(b:List XV):Prop:=(zU k=cA->t.size=0)/\(yU k=cA->m.size=0)/\(mV k=cA->a=0)/\(k≠1->b=[])
def QV.good(q:QV):Prop:=(1<=q.K/\q.K<=6)/\q.T.size<=16/\q.R.size<=16/\(-100<=q.U/\q.U<=100)/\yA q.ys<=5/\aJr q.K q.U q.T q.R q.ys
def QV.val(q:QV):iA:=tA #[zA q.K,oA q.T,oA q.R,zA q.U,pA q.a (yA q.ys) q.c]
def xX:iK QV where
 m:=5
 cells:=λq=>[zA q.K,oA q.T,oA q.R,zA q.U,pA q.a (yA q.ys) q.c]
 len:=λ_=>rfl
 part:=λw i e q=>SY dX w i e q.a q.ys/\q.good
 keep:=λh g f=>⟨h.1.keep g f,h.2⟩
 wide:=λh b d=>⟨h.1.wide b d,h.2⟩
def ML(c:gC):Prop:=(1<=c.w/\c.w<=8)/\(1<=c.tl/\c.tl<=7)/\(1<=c.ml/\c.ml<=5)/\(1<=c.sh/\c.sh<=5)/\(0<=c.ha/\c.ha<=2)/\(100<=c.sg/\c.sg<=299)
def ld(w:eA)(g m:Nat):Prop:=∃(a:Array iA)(t:jA),gB w g a t/\∀j,j<m->∃z:Int,a[j]?=bA (zA z)/\uh z
def ld.but{w d:eA}{g m B:Nat}(h:ld w g m)(f:pD B w d)(b:g≠B):ld d g m:=by
 obtain⟨a,t,c,e⟩:=h;exact⟨a,t,(f.block g (aB c) b).trans c,e⟩
def ld.at{w:eA}{g m:Nat}(h:ld w g m){j:Nat}(d:j<m):∃z:Int,w.cell? (dB g j)=bA (zA z)/\uh z:=by
 obtain⟨a,t,b,c⟩:=h;obtain⟨s,e,f⟩:=c j d;exact⟨s,by rw[b.cell];exact e,f⟩
def aEw(w:eA)(L:List Int)(t:jA)(m:Nat)(b:m=yA L)(h:(L.all λz=>decide (-9223372036854775808<=z/\z<=9223372036854775807))=dA):ld (w.alloc (vA (L.map (iA.int .i64)).toArray t)) w.1.size m:=by
 subst b;refine⟨_,t,heap_alloc_new _ _,λj a=>⟨L[j],by simp[a],?_⟩⟩;have:=Ke.1 h L[j] (Gb a);simpa[uh]using this
def pa(k:Nat)(h:k<10):CL (48+UInt8.ofNat k)=dA:=by
 rcases(show k=0\/k=1\/k=2\/k=3\/k=4\/k=5\/k=6\/k=7\/k=8\/k=9 by omega) with rfl|rfl|rfl|rfl|rfl|rfl|rfl|rfl|rfl|rfl<;>decide
def KH(n:Nat):∀i,zK (CR n i)=dA
 |0=>rfl
 |i+1=>by
  have a:=KH n i;simp only[zK,CR,List.all_cons,Sa]at a |-
  exact⟨pa _ (by omega),a⟩
def aIt(n:Int)(a:1<=n)(b:n<=999999):gK n=ZN n.toNat:=Ma ⟨a,b⟩
theorem II(n:Int)(b:1<=n)(c:n<=999999):cH (gK n)=dA:=by
 rw[aIt n b c];have e:(ZN n.toNat).size=10:=by
  show(119::97::108::45::CR n.toNat 6).toArray.size=10;simp[gZ]
 have d:(ZN n.toNat).data.toList=119::97::108::45::CR n.toNat 6:=rfl;have a:=KH n.toNat 6;unfold cH;rw[e,d];simp only[zK,List.all_cons]at a |-
 rw[a];decide
def IK{k:Int}{n:Int}{d:nB}{z:Int}(c:1<=k/\k<=4)(a:1<=n)(b:n<=999999):IJ ⟨k,gK n,⟨#[]⟩,d,z⟩=dA:=by grind [IJ,gK,zB,II]
structure eQ(w0 w:World)(B P D:Nat)(K:gE)(L:mG):Prop where
 pow:cJ w0
 below:tB w0 w
 hB:w0.1.size≤B
 hP:w0.1.size≤P
 wr:DN w P D L
 drive:∃v,rC w B D K.fs K.c K.k K.cr K.fl K.dn v
 valid:sE K.fs K.c K.k K.cr K.fl=dA
def eQ.z{c w b:eA}{B P D:Nat}{K:gE}{L:mG}(h:eQ c w B P D K L)(a:tB w b):eQ c b B P D K L:=
 ⟨h.pow,vB h.below a,h.hB,h.hP,h.wr.z a,by obtain⟨v,d⟩:=h.drive;exact⟨v,d.z a⟩,h.valid⟩
def eQ.tab{a w:eA}{B P D:Nat}{K:gE}{L:mG}(h:eQ a w B P D K L):cJ w:=h.pow.z h.below
def eQ.set{c w:eA}{B P D:Nat}{K:gE}{L L':mG}(h:eQ c w B P D K L)(j:Nat)(x:iA)(n:#[iA.pointer (pB D),zA L'.first,zA L'.last,zA L'.size]=(#[iA.pointer (pB D),zA L.first,zA L.last,zA L.size]:Array iA).setIfInBounds j x):eQ c (w.setCell (dB P j) x) B P D K L':=by
 refine⟨h.pow,h.below.setCell (by show c.1.size<=P;exact h.hP) _,h.hB,h.hP,?_,?_,h.valid⟩;show gB _ _ _ _;rw[n];exact gB.set h.wr j x;obtain ⟨v,a⟩:=h.drive;refine⟨v,a.from',?_,?_,a.apart⟩;refine (fA.heap_setCell _ _ _ D (λe=>?_)).trans a.blk;have l:D=P:=e;have d:=a.blk;rw[l]at d;have b:=(show w.heap[P]?=_ from d).symm.trans h.wr;simp at b;refine IP (S:=λk=>k=P) a.row ((bE.refl (λk=>k=P) w).setCell (g:=P) rfl j x) (λg m e=>?_);obtain⟨i,f⟩:=QC a.row g m;rw[e]at f;have b:=(show w.heap[P]?=_ from f).symm.trans h.wr;simp at b
def jx{K:gE}{a:pK}(h:sE K.fs K.c K.k K.cr K.fl=dA)(b:IJ a=dA):
 fE K a=(⟨(kJ K.fs K.c K.k K.cr K.fl K.dn a).2.1,K.c,(kJ K.fs K.c K.k K.cr K.fl K.dn a).2.2.1,K.cr,K.fl,(kJ K.fs K.c K.k K.cr K.fl K.dn a).2.2.2⟩,(kJ K.fs K.c K.k K.cr K.fl K.dn a).1):=by
 unfold fE vQ;rw[Ma (by simp[h,b])]
def aNu{r w:eA}{B P D:Nat}{K:gE}{L:mG}(l:pK)(h:eQ r w B P D K L)(m:IJ l=dA)(z:l.K<=4):
 gA prog 125 #[.pointer (pB D),tA #[zA l.K,oA l.N,oA l.tq,oA l.data,zA l.size]] w λe q=>
  e=uA (eH (fE K l).2)/\(fE K l).2<=6/\eQ r q B P D (fE K l).1 L:=by
 obtain⟨v,x⟩:=h.drive;obtain⟨a,b,j,d,f,g,i,_⟩:=rK h.valid;have p:zB l.K 1 6=dA:=by simp only[IJ,Sa]at m;exact m.1.1
 rw[jx h.valid m];apply hC (jy w B D K.fs K.c K.k K.cr K.fl K.dn v l ⟨x,BL a,b,f,d,g,i⟩ p);rintro q ⟨s,o,y,n,u⟩;have t:=Exists.intro y n;exact⟨rfl,QT _ _ _ _ _ _ _,h.pow,h.below.trans (s.mono h.hB),h.hB,h.hP,(o (by omega)).blk h.wr (by decide) (by decide),t,NM h.valid m⟩
def iO(K:gE)(L:mG)(f:nB)(a:Int):gE×mG×Nat:=
 if gP L f.size a=dA then
  if (fE K (vG (L.last+1))).2≠0 then((fE K (vG (L.last+1))).1,L,(fE K (vG (L.last+1))).2)
  else xH (fE K (vG (L.last+1))).1 ⟨L.first,L.last+1,0⟩ f
 else xH K L f
def aK{x:Nat}(a:¬x=0)(_:x<=6):∃t,eH x=.iface 154 (oA t):=by grind [eH]
def QS{c w:eA}{B P D:Nat}{K b:gE}{L:mG}{x:Nat}(a:pK)(h:eQ c w B P D K L)(f:IJ a=dA)(d:a.K<=4)(e:fE K a=(b,x)):
 gA prog 125 #[.pointer (pB D),tA #[zA a.K,oA a.N,oA a.tq,oA a.data,zA a.size]] w λe g=>
  e=uA (eH x)/\x<=6/\eQ c g B P D b L:=by
 have:=aNu a h f d;rw[e]at this;exact this
def uq{y w:eA}{B P D:Nat}{K:gE}{L:mG}(f:nB)(a:Int)(h:eQ y w B P D K L)(T:iJ L=dA)(m:f.size<=60008)(M:gP L f.size a=cA):
 gA prog 302 #[.pointer (pB P),oA f,zA a] w λe c=>
  e=uA (eH (iO K L f a).2.2)/\(iO K L f a).2.2<=6/\eQ y c B P D (iO K L f a).1 (iO K L f a).2.1:=by
 obtain⟨N,O,_,_,W,X⟩:=PM T;have F:bB (iO K L f a=xH K L f):=by show _=_;rw[iO,Ja (by rw[M];simp)]
 have p:bB (hI 333 #[.pointer (pB P),zA (f.size:Int),zA a] w (qA cA)):=by
  have:=uZ P D L (f.size:Int) a w h.wr ⟨N,O⟩ (by omega);rw[M]at this;exact this
 have z:bB _:=h;clear h T M;obtain⟨s,U,V,S⟩:=z.o.wr.cells;go_enter func302,ntmps302;go_wp2_with fail;apply cO p.o;go_wp2_with fail;apply hC (wN L.last _ z.o.tab);intro Z u;have r:bB _:=z.o.z u;clear u s U V S p z;obtain⟨s,_,_,_⟩:=r.o.wr.cells;obtain⟨⟨J,C⟩,g⟩:∃R,fE K (kI L.last f)=R:=⟨_,rfl⟩
 have q:bB _:=g;have n:bB (gA prog 125 #[.pointer (pB D),tA #[zA 2,oA (gK L.last),oA ⟨#[]⟩,oA f,zA 0]] Z λe c=>e=uA (eH C)/\C<=6/\eQ y c B P D J L):=QS (kI L.last f) r.o (IK (by omega) (by omega) (by omega)) (by show(2:Int)<=4;omega) g;clear g;go_wp2_with fail;apply hC n.o;rintro w2 ⟨l,v⟩;have d:bB _:=v;clear v s n;by_cases k:C=0
 .subst k;simp only[eH];obtain⟨s,_,_,_⟩:=d.o.wr.cells;obtain⟨⟨A,E⟩,i⟩:∃R,fE J (uS L.last)=R:=⟨_,rfl⟩
  have G:bB _:=i;have o:bB (gA prog 125 #[.pointer (pB D),tA #[zA 3,oA (gK L.last),oA ⟨#[]⟩,oA ⟨#[]⟩,zA 0]] w2 λe c=>e=uA (eH E)/\E<=6/\eQ y c B P D A L):=QS (uS L.last) d.o (IK (by omega) (by omega) (by omega)) (by show(3:Int)<=4;omega) i;clear i l;go_wp2_with fail;apply hC o.o;rintro h ⟨l,x⟩;have b:bB _:=x;have Q:bB _:=aW (L:=L) q.o rfl G.o;clear x s o;by_cases k:E=0
  .subst k;simp only[eH];have m:bB (iO K L f a=(A,⟨L.first,L.last,L.size+f.size⟩,0)):=by show _=_;rw[F.o,Q.o,Ja (by simp)]
   have I:bB (eQ y (h.setCell (dB P 3) (zA (L.size+(f.size:Int)))) B P D A ⟨L.first,L.last,L.size+f.size⟩):=b.o.set 3 _ (by simp);obtain⟨_,_,_,S⟩:=b.o.wr.cells;have h:=gB.free b.o.wr 3;have Y:IntKind.i64.wrap (L.size+(f.size:Int))=L.size+(f.size:Int):=by rw[IntKind.wrap_i64];omega
   go_wp2;go_ret;rw[m.o];exact⟨rfl,by omega,I.o⟩
  obtain ⟨t,j⟩:=aK k l;have m:bB (iO K L f a=(A,L,E)):=by show _=_;rw[F.o,Q.o,Ma k]
  have H:bB _:=j;rw[j];clear j;go_wp2;go_ret;rw[m.o];exact⟨by rw[H.o];rfl,l,b.o⟩
 obtain ⟨t,j⟩:=aK k l;have m:bB (iO K L f a=(J,L,C)):=by show _=_;rw[F.o,zV (L:=L) q.o k]
 have H:bB _:=j;rw[j];clear j;go_wp2;go_ret;rw[m.o];exact⟨by rw[H.o];rfl,l,d.o⟩
def aBh{g w:eA}{B P D:Nat}{K:gE}{L:mG}(f:nB)(a:Int)(h:eQ g w B P D K L)(J:iJ L=dA)(m:f.size<=60008)(m:gP L f.size a=dA)(o:L.last≠999999):
 gA prog 302 #[.pointer (pB P),oA f,zA a] w λe d=>
  e=uA (eH (iO K L f a).2.2)/\(iO K L f a).2.2<=6/\eQ g d B P D (iO K L f a).1 (iO K L f a).2.1:=by
 obtain⟨o,G,_,_,I,I⟩:=PM J;have F:bB (hI 333 #[.pointer (pB P),zA (f.size:Int),zA a] w (qA dA)):=by
  have:=uZ P D L (f.size:Int) a w h.wr ⟨o,G⟩ (by omega);rw[m]at this;exact this
 obtain⟨⟨j,y⟩,q⟩:∃R,fE K (vG (L.last+1))=R:=⟨_,rfl⟩
 have E0:bB (iO K L f a=if y≠0 then(j,L,y) else xH j ⟨L.first,L.last+1,0⟩ f):=by show _=_;rw[iO,Ma m,q]
 have A:bB (∀W,eQ g W B P D K L->gA prog 125 #[.pointer (pB D),tA #[zA 1,oA (gK (L.last+1)),oA ⟨#[]⟩,oA ⟨#[]⟩,zA 0]] W λe d=>e=uA (eH y)/\y<=6/\eQ g d B P D j L):=λW o=>QS (vG (L.last+1)) o (IK (by omega) (by omega) (by omega)) (by show(1:Int)<=4;omega) q;have I:bB _:=h;have o:IntKind.i64.wrap (L.last+1)=L.last+1:=by rw[IntKind.wrap_i64];omega
 clear h J m q;obtain⟨M,c1,c2,V⟩:=I.o.wr.cells;have U:bB (∀W m,eQ g W B P D m L->tC W P 0 (.pointer (pB D))/\tC W P 2 (zA L.last)):=λW m h=>⟨h.wr.cells.1,h.wr.cells.2.2.1⟩
 go_enter func302,ntmps302;go_wp2_with fail;apply cO F.o;go_wp2_with fail;go_region_held3 (λd=>d.cell? (dB P 0)=bA (.pointer (pB D))/\d.cell? (dB P 2)=bA (zA L.last))
  (first|exact U.o _ _ c.o|exact U.o _ _ p.o|exact U.o _ _ (I.o.z bD.drew))
  (first
  |(go_at_call 128;apply hC (wN (L.last+1) _ (I.o.z bD.drew).tab);intro h N;have p:bB (eQ g h B P D K L):=(I.o.z bD.drew).z N)
  |(go_at_call 125;apply hC (A.o _ p.o);rintro h ⟨m,T⟩;have c:bB (eQ g h B P D j L):=T))
 clear M c1 c2 V U A F I p N T;by_cases v:y=0
 .subst v;simp only[eH];have Y:bB (iO K L f a=xH j ⟨L.first,L.last+1,0⟩ f):=by show _=_;rw[E0.o,Ja (by simp)]
  obtain⟨_,_,c2,V⟩:=c.o.wr.cells;have G:=gB.free c.o.wr 2;have l:bB (eQ g (h.setCell (dB P 2) (zA (L.last+1))) B P D j ⟨L.first,L.last+1,L.size⟩):=c.o.set 2 _ (by simp);have o:=l.o.wr.cells.2.2.2;have I:=gB.free l.o.wr 3;have b:bB (eQ g ((h.setCell (dB P 2) (zA (L.last+1))).setCell (dB P 3) (zA 0)) B P D j ⟨L.first,L.last+1,0⟩):=l.o.set 3 _ (by simp);have h:=b.o.wr.cells.2.2.1;go_wp2_with fail;apply hC (wN (L.last+1) _ b.o.tab);intro U O;have J:bB _:=b.o.z O;clear O b l c c2 V o G I h;obtain⟨M,_,_,_⟩:=J.o.wr.cells;obtain⟨⟨h,X⟩,r⟩:∃R,fE j (kI (L.last+1) f)=R:=⟨_,rfl⟩
  have G:bB _:=r;have C:bB (gA prog 125 #[.pointer (pB D),tA #[zA 2,oA (gK (L.last+1)),oA ⟨#[]⟩,oA f,zA 0]] U λe d=>e=uA (eH X)/\X<=6/\eQ g d B P D h ⟨L.first,L.last+1,0⟩):=QS (kI (L.last+1) f) J.o (IK (by omega) (by omega) (by omega)) (by show(2:Int)<=4;omega) r;clear r;go_wp2_with fail;apply hC C.o;rintro w2 ⟨m,Q⟩;have o:bB _:=Q;clear Q M C;by_cases u:X=0
  .subst u;simp only[eH];obtain⟨M,_,_,_⟩:=o.o.wr.cells;obtain⟨⟨x,z⟩,s⟩:∃R,fE h (uS (L.last+1))=R:=⟨_,rfl⟩
   have Z:bB _:=s;have E:bB (gA prog 125 #[.pointer (pB D),tA #[zA 3,oA (gK (L.last+1)),oA ⟨#[]⟩,oA ⟨#[]⟩,zA 0]] w2 λe d=>e=uA (eH z)/\z<=6/\eQ g d B P D x ⟨L.first,L.last+1,0⟩):=QS (uS (L.last+1)) o.o (IK (by omega) (by omega) (by omega)) (by show(3:Int)<=4;omega) s;clear s m;go_wp2_with fail;apply hC E.o;rintro O ⟨m,S⟩;have k:bB _:=S;have J:bB (xH j ⟨L.first,L.last+1,0⟩ f=if z≠0 then(x,⟨L.first,L.last+1,0⟩,z) else(x,⟨L.first,(L.last+1),0+f.size⟩,0)):=aW (L:=⟨L.first,L.last+1,0⟩) G.o rfl Z.o;clear S M E;by_cases u:z=0
   .subst u;simp only[eH];have n:bB (iO K L f a=(x,⟨L.first,(L.last+1),0+f.size⟩,0)):=by show _=_;rw[Y.o,J.o,Ja (by simp)]
    have U:bB (eQ g (O.setCell (dB P 3) (zA (f.size:Int))) B P D x ⟨L.first,(L.last+1),0+f.size⟩):=k.o.set 3 _ (by simp);obtain⟨_,_,_,V⟩:=k.o.wr.cells;have I:=gB.free k.o.wr 3;have I:IntKind.i64.wrap ((0:Int)+(f.size:Int))=(0:Int)+(f.size:Int):=by rw[IntKind.wrap_i64];omega
    go_wp2;go_ret;rw[n.o];exact⟨rfl,by omega,U.o⟩
   obtain ⟨t,i⟩:=aK u m;have n:bB (iO K L f a=(x,⟨L.first,L.last+1,0⟩,z)):=by show _=_;rw[Y.o,J.o,Ma u]
   have H:bB _:=i;rw[i];clear i;go_wp2;go_ret;rw[n.o];exact⟨by rw[H.o];rfl,m,k.o⟩
  obtain ⟨t,i⟩:=aK u m;have n:bB (iO K L f a=(h,⟨L.first,L.last+1,0⟩,X)):=by show _=_;rw[Y.o,zV (L:=⟨L.first,L.last+1,0⟩) G.o u]
  have H:bB _:=i;rw[i];clear i;go_wp2;go_ret;rw[n.o];exact⟨by rw[H.o];rfl,m,o.o⟩
 obtain ⟨t,i⟩:=aK v m;have n:bB (iO K L f a=(j,L,y)):=by show _=_;rw[E0.o,Ma v]
 have H:bB _:=i;rw[i];clear i;go_wp2;go_ret;rw[n.o];exact⟨by rw[H.o];rfl,m,c.o⟩
def aEg{b:Int}{text:nB}(g:0<=b)(h:b<999999):∀c∈oY b text,IJ c=dA:=by
 have d:cH iX=dA:=by decide
 have e:cH ckN=dA:=by decide
 have f:cH (gK (b+1))=dA:=II _ (by omega) (by omega);intro c a;simp only[oY,Lb,Ed,Bf]at a;rcases a with a|a|a|a|a<;>(subst a;simp[IJ,zB,d,e,f])
def aIf:IJ VI=dA:=by
 have a:cH iX=dA:=by decide
 simp[IJ,VI,zB,a]
def aIe{n:Int}(b:1<=n)(c:n<=999999):IJ (FG n)=dA:=by
 have a:cH (gK n)=dA:=II _ (by omega) (by omega);simp[IJ,FG,zB,a]
def aOg{L:mG}(h:iJ L=dA):0<=L.size/\L.size<=1000000000/\1<=L.first/\L.first<=L.last/\1<=L.last/\L.last<=999999:=by
 simp only[iJ,zB,Sa,Ab]at h;omega
def tj{s w:eA}{B P D:Nat}{K:gE}{L:mG}(l:pK)(h:eQ s w B P D K L)(o:IJ l=dA):
 gA prog 125 #[.pointer (pB D),tA #[zA l.K,oA l.N,oA l.tq,oA l.data,zA l.size]] w λe q=>
  e=uA (eH (fE K l).2)/\eQ s q B P D (fE K l).1 L/\nJ w q:=by
 obtain⟨v,u⟩:=h.drive;obtain⟨a,b,j,d,f,g,i,_⟩:=rK h.valid;have m:zB l.K 1 6=dA:=by simp only[IJ,Sa]at o;exact o.1.1
 have r:l.K<=6:=by simp only[zB,Sa,Ab]at m;exact m.2
 rw[jx h.valid o];apply hC (jy w B D K.fs K.c K.k K.cr K.fl K.dn v l ⟨u,BL a,b,f,d,g,i⟩ m);rintro q ⟨t,n,x,p,_⟩;exact⟨rfl,⟨h.pow,h.below.trans (t.mono h.hB),h.hB,h.hP,(n r).blk h.wr (by decide) (by decide),⟨x,p⟩,NM h.valid o⟩,n r⟩
def RV(w:eA)(B:Nat)(s:nB):Prop:=bm w B 172 ⟨s,cA⟩
def pD.upToD{g:Nat}{w c d:eA}(h:pD g w c)(a:fA w.1.size c d):pD g w d:=
 ⟨a.os.trans h.os,a.tape.trans h.tape,a.output.trans h.output,Ua h.size a.size,λk b e=>(a.block k b).trans (h.block k b e)⟩
def MA(p:iA)(w:eA):hI 82 #[p,qA dA] w (.tuple #[]):=by
 go_enter func82,ntmps82;go_wp2;go_end0;exact⟨rfl,rfl⟩
section
variable {w:eA} {B k:Nat} {v:Int} {t q:nB} {xs:List oF}
theorem FF(c:RV w B (qB k v++q))(g:k<=8)(d:bR (uX (qB k v).data.toList)=v)(i:q.size<=1000000):
 gA prog 147 #[.pointer (pB B),zA (k:Nat)] w λe f=>e=uA (zA v)/\RV f B q/\pD B w f:=by
 have a:=cB (CK (k:=k) c g (by rw[Ka,kB];omega));rw[gw (k:=k) (v:=v) (q:=q) rfl]at a;dsimp only at a;rw[d]at a;clear c d;go_enter func147,ntmps147;go_wp2_with fail;apply hC a.o;intro h b;have j:tC h B 1 (qA cA):=gB.cell b.1 1;replace b:=cB b;go_wp2_with fail;refine oD (MA _ _) ?_;go_wp2;go_ret;exact⟨rfl,b.o⟩
theorem kg(c:RV w B (qB k (t.size:Nat)++t++q))(g:k<=2)(d:t.size<256 ^ k)(i:t.size+q.size<=1000000):
 gA prog 149 #[.pointer (pB B),zA (k:Nat)] w λe f=>e=uA (oA t)/\RV f B q/\pD B w f:=by
 have b:=cB (RC (k:=k) c g (by simp only[Ka,kB];omega));rw[JB (k:=k) (t:=t) (q:=q) (Wa ..) d]at b;dsimp only at b;clear c d;go_enter func149,ntmps149;go_wp2_with fail;apply hC b.o;intro h a;have j:tC h B 1 (qA cA):=gB.cell a.1 1;replace a:=cB a;go_wp2_with fail;refine oD (MA _ _) ?_;go_wp2;go_ret;exact⟨rfl,a.o⟩
theorem ZM(N:RV w B (qB 2 (yA xs:Nat)++(cE xs++q)))(m:aKh xs)(P:∀i(h:i<yA xs),WR xs[i].bits)(o:yA xs<=500)(L:(cE xs++q).size<=1000000):
 gA prog 150 #[.pointer (pB B)] w λe a=>∃o c,e=uA (pA o (yA xs) c)/\qG a w.1.size o xs/\RV a B q/\pD B w a:=by
 have o:=aB N;have Z:=cB (FF N (by omega) (by rw[pT 2 _ (by omega),aJ (by omega)]) L);have t:bB (∀(k:Nat)(h:k<yA xs) W,RV W B (cE (xs.drop k)++q)->gA prog 215 #[.pointer (pB B)] W λe a=>∃g c,e=uA (.slice (pB g) (yA xs[k].B) c)/\a.ownsRow W.1.size 181 2 (.slice (pB g) (yA xs[k].B) c) (yA xs[k].B) (nC xs[k].B)/\RV a B (qB 8 xs[k].bits++(cE (xs.drop (k+1))++q))/\pD B W a):=λk h W O=>by
  have J:=Kd ByteArray.size (zH (xs.take k) (xs.drop k));rw[Za]at J;simp only[Ka]at J L;have e:cE (xs.drop k)++q=qB 1 (yA xs[k].B:Nat)++(gD xs[k].B++(qB 8 xs[k].bits++(cE (xs.drop (k+1))++q))):=by
   rw[Cb h,cE,gW,tH];simp only[Wa]
  have:=PA O (by dsimp only;rw[Ka];omega);rw[gw (k:=1) (r:=⟨cE (xs.drop k)++q,cA⟩) e]at this;dsimp only at this;obtain⟨u,o⟩:=m k h;rw[pT 1 _ (by omega),ZH (r:=⟨gD xs[k].B++(qB 8 xs[k].bits++(cE (xs.drop (k+1))++q)),cA⟩) rfl (λi R=>⟨by have:=(o i R).1;omega,by have:=(o i R).2;omega⟩) (yA xs[k].B) (Ia _),Rb,Kg]at this;rw[show gD ([]:List bC)=kA from rfl,we]at this;exact this
 have G:bB (∀(k:Nat)(h:k<yA xs) W,RV W B (qB 8 xs[k].bits++(cE (xs.drop (k+1))++q))->gA prog 147 #[.pointer (pB B),zA 8] W λe a=>e=uA (zA xs[k].bits)/\RV a B (cE (xs.drop (k+1))++q)/\pD B W a):=λk h W O=>FF (k:=8) O (by omega) (DQ _ (P k h)) (by
  have J:=Kd ByteArray.size (zH (xs.take (k+1)) (xs.drop (k+1)));rw[Za]at J;simp only[Ka]at J L |-
  omega)
 clear m P L N;go_enter func150,ntmps150;go_wp2_with fail;apply hC Z.o;intro w1 u;replace u:=cB u;clear Z;go_wp2;go_loopw [3,6] (λV i wr=>∃k:Nat,k<=yA xs/\i=zA k/\bB (zX wr w.1.size 107 V k (xs.take k))/\bB (RV wr B (cE (xs.drop k)++q))/\bB (pD B w wr)) (λ_ i _=>yA xs-(intOf i).toNat)
 case atStart=>exact⟨0,Oa _,rfl,zX.nil _ _ _,u.o.1,u.o.2⟩
 case round=>
  clear u;obtain⟨k,m,rfl,z,b,f⟩:=hrel;by_cases n:k<yA xs
  .have P1:=cB (t.o k n);have o:=cB (G.o k n);have t:bB (xs.take (k+1)=xs.take k++[⟨xs[k].B,xs[k].bits⟩]):=by show _=_;rw[Pa n]
   generalize xs[k].B=ls at *;generalize xs[k].bits=bi at *;obtain⟨T,Y,j,l,A,C⟩:=z.o;have p:=λg d=>j.lt g d;have K:=cB (⟨j,l,A,C⟩:_/\_/\_/\_);have U:bB (yA Y=k):=by show _=_;have:=Kd List.length l;rw[Xa,Hb]at this;omega
   have m:=f.o.size;clear j l A C z;go_wp2_with fail;refine(P1.o _ b.o).mono ?_;rintro e w2 ⟨m,m,rfl,F,G,D⟩;have y:=cB (Vc F (Vc G D));clear F G D P1 b;go_wp2_with fail;apply hC (o.o _ y.o.2.1);rintro X ⟨H,m⟩;have S:=cB (iu y.o.1);have s:=cB (Vc (xJ (lI y.o.1 m (by omega))) (Vc H (y.o.2.2.trans m)));have I:=s.o.2.2.size;clear H m o y;go_wp2_with(at_builtin;refine qM rfl _ _ rfl underlying45 er rfl (by omega) (by omega) (v:=u3) rfl ((eB.but s.o.2.2).row K.o.1 (λg d e=>by have:=(p g d).1;omega)) rfl rfl rfl (by simp[iA.oneCell']) (by omega) (by omega) ?_;intro m m m G M J);have E:∀g,g<X.1.size->u3.ownBlock≠bA g->m.heap[g]?=X.heap[g]?:=λg d o=>M.o.block g d λe=>o e.2;refine⟨⟨k+1,by omega,by go_num,?_,M.o.blk s.o.2.1 (λe=>by omega),(f.o.trans s.o.2.2).upToD (M.o.below (by omega) λi R e=>by omega)⟩,by simp[intOf];omega⟩;show zX _ _ _ _ _ _;rw[t.o];exact zX.snoc (wr:=wr) (w4:=X) (v:=u3) (T:=T) (ys:=Y) (x:=⟨ls,bi⟩) G.o K.o.2.1 U.o K.o.2.2.1 K.o.2.2.2 (by omega) (λg d P o=>(E g (by omega) o).trans (s.o.2.2.block g d (by omega))) (λg d Q=>E g Q (λe=>by have:=(p _ e).2;omega)) s.o.1 S.o (J.o.elim (λh=>Ca ⟨h,(p _ h).2⟩) λh=>La (by omega)) I
  obtain rfl:k=yA xs:=by omega
  rw[Rb]at z;rw[Kg]at b;obtain⟨h,rc,rfl⟩:=z.o.row;go_wp2;go_ret;exact⟨h,rc,rfl,z.o.own rfl,by simpa[cE]using b.o,f.o⟩
end
structure QG(w W:World)(B R Q:Nat)(cs sh:Array Value)(s:nB):Prop where
 Z:gB W w.1.size #[zA 0,oA kA,oA kA,zA 0,pA aA 0 0] 47
 R:gB W R cs 47
 H:gB W Q sh 176
 T:RV W B s
 N:pD B w W
section
variable {w W W':eA} {B R Q:Nat} {cs sh:Array iA} {s s':nB}
theorem QG.call(h:QG w W B R Q cs sh s)(c:B<w.1.size)(e:w.1.size<R)(d:R<Q)(a:pD B W W')(b:RV W' B s'):QG w W' B R Q cs sh s':=
 ⟨h.Z.but a (by omega),h.R.but a (by omega),h.H.but a (by omega),b,h.N.trans a⟩
theorem QG.set(h:QG w W B R Q cs sh s)(c:B<w.1.size)(b:w.1.size<R)(d:R<Q)(i:Nat)(v:iA):QG w (W.setCell (dB R i) v) B R Q (cs.setIfInBounds i v) sh s:=by
 have a:pD R W (W.setCell (dB R i) v):=(pD.refl R W).setCell i v;exact⟨h.Z.but a (by omega),h.R.set i v,h.H.but a (by omega),gB.but h.T a (by omega),h.N.upToD (bD.setCell (by simpa using Vg b) v)⟩
end
def YF{c:Prop}[Decidable c]{x y z:nB}(h:(if c then x else kA)++y=z):c/\z=x++y\/¬c/\z=y:=by
 by_cases a:c
 .rw[Ma a]at h;exact Ca ⟨a,h.symm⟩
 rw[Ja a,we]at h;exact La ⟨a,h.symm⟩
def aEt{B:Nat}{r:dG}{w:eA}(h:VR r)(m:RV w B (uK r))(Z:iR w)(U:0≠B):
 gA prog 81 #[.pointer (pB B)] w λe C=>∃o n,e=uA (tA #[zA r.K,oA r.T,oA r.R,zA r.U,pA o (yA r.P) n])/\qG C w.1.size o r.P/\pD B w C:=by
 have p:=aB m;obtain⟨s,q1,q2,q3,q4,q5,q6,q7,q8⟩:=h.ok;have G:=h.sz;have hn:=h.U;have u:=h.bits;have I:∀b:nB,b.size=0->b=kA:=λb u=>by simp_all
 obtain⟨k,T,M,N,S⟩:=r;obtain⟨k,rfl⟩:=Yf (show 0<=k by dsimp only at s;omega);dsimp only at *;clear h;rw[uK]at m G;dsimp only at m G;generalize e3:(if mV (k:Int)=dA then qB 8 N else kA)=s at *;generalize J:(if yU (k:Int)=dA then vF M else kA)++s=H at *;generalize O:(if (k:Int)=1 then qB 2 (yA S:Nat)++cE S else kA)++H=r1 at *;generalize Y:(if zU (k:Int)=dA then xM T else kA)++r1=h at *;have z1:=Kd ByteArray.size O;have z2:=Kd ByteArray.size J;have z3:=Kd ByteArray.size Y;simp only[Ka,kB]at z1 z2 z3 G;have H0:=cB (λW(E:RV W B (qB 1 (k:Nat)++h))=>FF (k:=1) E (by omega) (by rw[pT 1 _ (by omega),aJ (by omega)]) (by omega));have A1:bB (zU k=dA/\(∀W,RV W B h->gA prog 149 #[.pointer (pB B),zA 1] W λe C=>e=uA (oA T)/\RV C B r1/\pD B W C)\/zU k=cA/\T=kA/\h=r1):=
  (YF Y).imp (fun⟨a,b⟩=>⟨a,λW E=>kg (k:=1) (b ▸ E) (by omega) (by omega) (by omega)⟩) fun⟨a,b⟩=>have a:=Yc.2 a;⟨a,I _ (q1 a),b⟩
 have A2:bB ((k:Int)=1/\(∀W,RV W B r1->gA prog 150 #[.pointer (pB B)] W λe C=>∃o n,e=uA (pA o (yA S) n)/\qG C W.1.size o S/\RV C B H/\pD B W C)\/¬(k:Int)=1/\S=[]/\r1=H):=
  (YF O).imp (fun⟨a,b⟩=>⟨a,λW E=>ZM (by rw[b,Wa]at E;exact E) q8 u q7 (by rw[Ma a]at z1;simp only[Ka]at z1 |-;omega)⟩) fun⟨a,b⟩=>⟨a,q4 a,b⟩
 have A3:bB (yU k=dA/\(∀W,RV W B H->gA prog 149 #[.pointer (pB B),zA 2] W λe C=>e=uA (oA M)/\RV C B s/\pD B W C)\/yU k=cA/\M=kA/\H=s):=
  (YF J).imp (fun⟨a,b⟩=>⟨a,λW E=>kg (k:=2) (b ▸ E) (by omega) (by omega) (by omega)⟩) fun⟨a,b⟩=>have a:=Yc.2 a;⟨a,I _ (q2 a),b⟩
 have A4:bB (mV k=dA/\(∀W,RV W B s->gA prog 147 #[.pointer (pB B),zA 8] W λe C=>e=uA (zA N)/\RV C B kA/\pD B W C)\/mV k=cA/\N=0/\s=kA):=
  (YF (y:=kA) ((aBl _).trans e3)).imp (fun⟨a,b⟩=>⟨a,λW E=>FF (k:=8) (b ▸ E) (by omega) (DQ _ hn) (Oa _)⟩) fun⟨a,b⟩=>have a:=Yc.2 a;⟨a,q3 a,b⟩
 have HB:=cB m;have HT:=cB Z;clear m Z Y O J e3 z1 z2 z3 G hn u q1 q2 q3 q4 q5 q6 q7 q8 I;go_enter func81,ntmps81;go_wp2_with fail;apply hC (H0.o _ (gB.z HB.o yB));rintro w1 ⟨I,u⟩;have b1:=(pD.of (pF w (vA #[zA 0,oA kA,oA kA,zA 0,pA aA 0 0] 47))).trans u;have Z:=cB (gB.but (gB.new w #[zA 0,oA kA,oA kA,zA 0,pA aA 0 0] 47) u (by omega));have O:=aB Z.o;go_wp2_with fail;refine hC (UU (k:=(k:Int)) (by omega) _) ?_;intro J F;have X:=cB ((gB.new w1 #[zA k,oA kA,oA kA,zA 0,pA aA 0 0] 47).z F);have Y:=b1.trans (pD.of (vB yB F));go_wp2_with fail;refine oD (MA _ _) ?_;have t:=λj m=>(HT.o.but Y U).2 k j (by omega) m;have f:tC J 0 (k*5) (qA (zU k)):=t 0 (by omega);have g:tC J 0 (k*5+1) (qA ((k:Int)==1)):=t 1 (by omega);have i:tC J 0 (k*5+2) (qA (yU k)):=t 2 (by omega);have l:tC J 0 (k*5+3) (qA (mV k)):=t 3 (by omega);have m:tC J 0 (k*5+4) (qA (shB k 4)):=t 4 (by omega);have x0:=X.o.cell 0;have L:=aB X.o;clear t;go_upto_region 4 with fail;have G:bB (QG w (J.alloc (vA #[qA (zU k),qA ((k:Int)==1),qA (yU k),qA (mV k),qA (shB k 4)] 176)) B w1.1.size J.1.size #[zA k,oA kA,oA kA,zA 0,pA aA 0 0] #[qA (zU k),qA ((k:Int)==1),qA (yU k),qA (mV k),qA (shB k 4)] h):=
  ⟨(Z.o.z (vB yB F)).alloc _,X.o.alloc _,gB.new _ _ _,gB.alloc (gB.z I (vB yB F)) _,Y.trans (pD.of yB)⟩
 clear f g i l m x0 X Z Y b1 u F I H0 HB HT;generalize J.alloc (vA #[qA (zU k),qA ((k:Int)==1),qA (yU k),qA (mV k),qA (shB k 4)] 176)=W at *;generalize J.1.size=Q at *;generalize w1.1.size=R at *;clear w1 J;generalize shB k 4=J at *;obtain⟨P,U,Y,h,m⟩:=G.o.H.c5;go_upto_if 18 with fail;go_cut [] (λK=>QG w K B R Q #[zA k,oA T,oA kA,zA 0,pA aA 0 0] #[qA (zU k),qA ((k:Int)==1),qA (yU k),qA (mV k),qA J] r1)
 case first=>
  obtain⟨A,z⟩|⟨A,rfl,rfl⟩:=A1.o
  .rw[A]at P |-
   replace z:=cB z;go_wp2_with fail;apply hC (z.o _ G.o.T);rintro x ⟨I,u⟩;replace G:=cB (G.o.call p O L u I);have Z:=G.o.R.cell 1;have c1:=G.o.R.free 1;go_wp2;go_meet;exact G.o.set p O L 1 (oA T)
  rw[A]at P |-
  go_wp2;go_meet;exact G.o
 clear P U Y h m G A1 W;replace G:=cB hcut;clear hcut;rename eA=>W;obtain⟨P,U,Y,h,m⟩:=G.o.H.c5;have E:=aB G.o.H;go_upto_if 23 with fail;go_cut [] (λK=>∃o n,QG w K B R Q #[zA k,oA T,oA kA,zA 0,pA o (yA S) n] #[qA (zU k),qA ((k:Int)==1),qA (yU k),qA (mV k),qA J] H/\qG K (Q+1) o S)
 case first=>
  obtain⟨A,z⟩|⟨A,rfl,rfl⟩:=A2.o
  .rw[Lg.2 A]at U |-
   replace z:=cB z;go_wp2_with fail;refine(z.o _ G.o.T).mono ?_;rintro e x ⟨o,n,rfl,H,I,u⟩;replace G:=cB (G.o.call p O L u I);have Z:=G.o.R.cell 4;have c1:=G.o.R.free 4;go_wp2;go_meet;exact⟨o,n,G.o.set p O L 4 (pA o (yA S) n),(H.mono (by omega)).but ((pD.refl R x).setCell 4 _) (by omega)⟩
  rw[beq_false_of_ne A]at U |-
  go_wp2;go_meet;exact⟨aA,0,G.o,Ca rfl⟩
 clear P U Y h m G A2 W E;obtain⟨o,n,G,D⟩:=hcut;replace G:=cB G;replace D:=cB D;rename eA=>W;obtain⟨P,U,Y,h,m⟩:=G.o.H.c5;go_upto_if 28 with fail;go_cut [] (λK=>QG w K B R Q #[zA k,oA T,oA M,zA 0,pA o (yA S) n] #[qA (zU k),qA ((k:Int)==1),qA (yU k),qA (mV k),qA J] s/\qG K (Q+1) o S)
 case first=>
  obtain⟨A,z⟩|⟨A,rfl,rfl⟩:=A3.o
  .rw[A]at Y |-
   replace z:=cB z;go_wp2_with fail;apply hC (z.o _ G.o.T);rintro x ⟨I,u⟩;replace G:=cB (G.o.call p O L u I);have Z:=G.o.R.cell 2;have c1:=G.o.R.free 2;go_wp2;go_meet;exact⟨G.o.set p O L 2 (oA M),(D.o.but u (by omega)).but ((pD.refl R x).setCell 2 _) (by omega)⟩
  rw[A]at Y |-
  go_wp2;go_meet;exact⟨G.o,D.o⟩
 clear P U Y h m G D A3 W;obtain⟨G,D⟩:=hcut;replace G:=cB G;replace D:=cB D;rename eA=>W;obtain⟨P,U,Y,h,m⟩:=G.o.H.c5;go_upto_if 33 with fail;go_cut [] (λK=>QG w K B R Q #[zA k,oA T,oA M,zA N,pA o (yA S) n] #[qA (zU k),qA ((k:Int)==1),qA (yU k),qA (mV k),qA J] kA/\qG K (Q+1) o S)
 case first=>
  obtain⟨A,z⟩|⟨A,rfl,rfl⟩:=A4.o
  .rw[A]at h |-
   replace z:=cB z;go_wp2_with fail;apply hC (z.o _ G.o.T);rintro x ⟨I,u⟩;replace G:=cB (G.o.call p O L u I);have Z:=G.o.R.cell 3;have c1:=G.o.R.free 3;go_wp2;go_meet;exact⟨G.o.set p O L 3 (zA N),(D.o.but u (by omega)).but ((pD.refl R x).setCell 3 _) (by omega)⟩
  rw[A]at h |-
  go_wp2;go_meet;exact⟨G.o,D.o⟩
 obtain⟨G,D⟩:=hcut;replace G:=cB G;rename eA=>V;obtain⟨x0,x1,x2,h,h⟩:=G.o.R.c5;obtain⟨m,z1,z2,z3,s⟩:=G.o.Z.c5;have h:=G.o.Z.free;go_wp2;have h:=λa b c d e=>((((((eB.refl (·=w.1.size) V).setCell (Ca rfl) 0 a).setCell (Ca rfl) 1 b).setCell (Ca rfl) 2 c).setCell (Ca rfl) 3 d).setCell (Ca rfl) 4 e)
 exact bodyPost_ret (v:=tA #[zA k,oA T,oA M,zA N,pA o (yA S) n]) (by simp[results,results81,go_sem,m,z1,z2,z3,s]) rfl ⟨o,n,rfl,(D.but ((((((pD.refl w.1.size V).setCell 0 _).setCell 1 _).setCell 2 _).setCell 3 _).setCell 4 _) (by omega)).mono (by omega),G.o.N.upToD ((h _ _ _ _ _).below G.o.N.size λq h e=>by omega)⟩
