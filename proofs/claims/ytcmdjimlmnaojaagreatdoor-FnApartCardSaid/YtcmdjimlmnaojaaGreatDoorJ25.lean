import Derived.Test.YtcmdjimlmnaojaaGreatDoorJ22
set_option maxRecDepth 100000
set_option maxHeartbeats 8000000
set_option linter.defProp false
open Bool renaming false->dA,true->eA
open Option renaming some->cA,none->aA
open ByteArray renaming empty->lA
open List renaming length->zA
namespace Go.Proofs.YtcmdjimlmnaojaaGreatDoor
open Go renaming World->fA,Value->jA,TypeId->kA,Calls->iA
open Value renaming bool->sA,agg->uA,slice->qA,string->pA
open Obj renaming cells->xA
open Ending renaming returned->vA
open RowKit renaming Below->gA
open Go.RowKit Tryz
def NF{x c a:Int}{b:Bool}(h:yB x c a=b)(w:fA):rI 86 #[aB x,aB c,aB a] w (sA b):=h ▸ uD x c a w
def BH(L:jG)(w:fA):
 cF 113 #[uA #[aB L.first,aB L.last,aB L.size]] w (sA (bJ L)):=by
 have d:cB (xB w (w.alloc (xA #[aB L.first,aB L.last,aB L.size] 37))):=bC;cases h1:yB L.last 1 999999 with
 |false=>
  have E:cB (bJ L=dA):=by show _=_;simp[bJ,h1]
  have b:cB _:=h1;clear h1;go_enter func113,ntmps113;go_wp2_with fail;apply jC (NF b.o _);rintro a rfl;go_wp2;go_ret;exact⟨oB E.o.symm,d.o⟩
 |true=>
  have b:cB _:=h1;cases h2:yB L.first 1 L.last with
  |false=>
   have E:cB (bJ L=dA):=by show _=_;simp[bJ,h2]
   have c:cB _:=h2;clear h1 h2;go_enter func113,ntmps113;go_wp2_with fail;apply jC (NF b.o _);rintro a rfl;go_wp2_with fail;apply jC (NF c.o _);rintro a rfl;go_wp2;go_ret;exact⟨oB E.o.symm,d.o⟩
  |true=>
   have c:cB _:=h2;have E:cB (bJ L=yB L.size 0 1000000000):=by show _=_;simp[bJ,h1,h2]
   clear h1 h2;go_enter func113,ntmps113;go_wp2_with fail;apply jC (NF b.o _);rintro a rfl;go_wp2_with fail;apply jC (NF c.o _);rintro a rfl;go_wp2_with fail;apply jC (uD L.size 0 1000000000 _);rintro a rfl;go_wp2;go_ret;exact⟨oB E.o.symm,d.o⟩
structure nK(α:Type) where
 m:Nat
 cells:α→List jA
 len:∀a,zA (cells a)=m
 part:fA→Nat→Nat→α→Prop
 keep:∀{w w':fA}{lo hi:Nat}{a:α},part w lo hi a→w.1.size≤w'.1.size→(∀g,lo≤g→g<hi→g<w.1.size→w'.heap[g]?=w.heap[g]?)→part w' lo hi a
 wide:∀{w:fA}{lo hi lo' hi':Nat}{a:α},part w lo hi a→lo'≤lo→hi≤hi'→part w lo' hi' a
def nK.flat{α:Type}(K:nK α)(a:List α):List jA:=a.flatMap K.cells
def nK.flat_append{α:Type}(K:nK α)(a b:List α):K.flat (a++b)=K.flat a++K.flat b:=by simp[nK.flat]
def nK.flat_get{α:Type}(K:nK α):∀(l:List α)(i:Nat)(b:i<zA l)(j:Nat),j<K.m->(K.flat l)[i*K.m+j]?=(K.cells l[i])[j]?:=by
 intro l;unfold nK.flat;induction l with
 |nil=>intro i b;exact absurd b (by simp)
 |cons x r d=>
  intro i b j c;cases i with
  |zero=>
   simp only[Xc,Nat.zero_mul,Ya,Eg];rw[Pe (by rw[K.len];exact c)]
  |succ i=>
   have:=d i (by simpa using b) j c;simp only[Xc,Ec];have a:=K.len x;have e:(i+1)*K.m+j-zA (K.cells x)=i*K.m+j:=by rw[a,Nat.succ_mul];omega
   rw[Uc (by rw[a,Nat.succ_mul];omega),e];exact this
def gM{α:Type}(K:nK α)(w:fA)(b:Nat)(e:kA)(v:jA)(n:Nat)(d:List α):Prop:=
 w.ownsRow b e K.m v n (K.flat d)/\zA d=n/\∀y∈d,∃c a,b<=c/\a<=w.1.size/\(∀g,v.ownBlock=cA g->g<c\/a<=g)/\K.part w c a y
def gM.nil{α:Type}(K:nK α)(w:fA)(b:Nat)(e:kA):gM K w b e (qA aA 0 0) 0 []:=
 ⟨fA.ownsRow_nil _ _ _ _,rfl,λy a=>by cases a⟩
def gM.row{α:Type}{K:nK α}{w:fA}{b:Nat}{e:kA}{v:jA}{n:Nat}{i:List α}(h:gM K w b e v n i):∃a c,v=qA a n c:=by
 obtain⟨rfl,rfl⟩|⟨g,d,f,rfl,_⟩:=h.1.2;exact ⟨aA,0,rfl⟩;exact ⟨_,_,rfl⟩
def gM.lt{α:Type}{K:nK α}{w:fA}{b:Nat}{e:kA}{v:jA}{n:Nat}{c:List α}(h:gM K w b e v n c):∀g,v.ownBlock=cA g->b<=g/\g<w.1.size:=λg a=>h.1.lt g a
def gM.turn{α:Type}{K:nK α}{w j:fA}{S:Nat->Prop}{b:Nat}{e:kA}{v:jA}{n:Nat}{k:List α}(h:gM K w b e v n k)(a:fB S w j)(f:∀g,S g->g<b):gM K j b e v n k:=by
 obtain⟨d,l,m⟩:=h;refine⟨a.row d (λg i e=>by have:=(d.lt g i).1;have:=f g e;omega),l,λy t=>?_⟩;obtain⟨u,q,o,p,r,s⟩:=m y t;exact⟨u,q,o,Ua p a.size,r,K.keep s a.size λg i _ c=>a.block g c (λe=>by have:=f g e;omega)⟩
def gM.but{α:Type}{K:nK α}{w a:fA}{B b:Nat}{e:kA}{v:jA}{n:Nat}{c:List α}(h:gM K w b e v n c)(i:sD B w a)(d:B<b):gM K a b e v n c:=
 h.turn (fB.but i) (λg f=>by rw[f];exact d)
def gM.snoc{α:Type}{K:nK α}{wr w4 w6:fA}{b f d k:Nat}{e:kA}{v:jA}{ys:List α}{y:α}
(n:w6.ownsRow b e K.m (qA (vB f) (k+1) d) (k+1) (K.flat ys++K.cells y))
(h:gM K wr b e v k ys)(x:b<=wr.1.size)(i:w4.1.size<=w6.1.size)(w:wr.1.size<=w4.1.size)
(p:∀g,g<wr.1.size->b<=g->v.ownBlock≠cA g->w6.heap[g]?=wr.heap[g]?)(q:∀g,wr.1.size<=g->g<w4.1.size->w6.heap[g]?=w4.heap[g]?)
(u:K.part w4 wr.1.size w4.1.size y)
(j:(v.ownBlock=cA f/\f<wr.1.size)\/w4.1.size<=f):gM K w6 b e (qA (vB f) (k+1) d) (k+1) (ys++[y]):=by
 obtain⟨G,E,F⟩:=h;refine⟨?_,by rw[Kb,E];rfl,λz c=>?_⟩
 .rw[K.flat_append];have e:K.flat [y]=K.cells y:=by simp[nK.flat]
  rw[e];exact n
 rcases Ee.1 c with c|c
 .obtain ⟨D,B,r,A,t,C⟩:=F z c;refine⟨D,B,r,by omega,λg a=>?_,K.keep C (by omega) λg a l o=>p g o (by omega) (λe=>by have:=t g e;omega)⟩;simp only[jA.ownBlock,Qa]at a;subst a;obtain⟨h,s⟩|h:=j
  .exact t _ h
  exact La (by omega)
 rw[Uf]at c;subst c;refine⟨wr.1.size,w4.1.size,x,i,λg a=>?_,K.keep u i λg a l _=>q g a l⟩;simp only[jA.ownBlock,Qa]at a;subst a;obtain⟨_,s⟩|h:=j;exact Ca s;exact La h
def TH{α:Type}(K:nK α)(w:fA)(d c:Nat)(a:nC)(b:List α):Prop:=
 b=[]\/∃g,a=vB g/\d<=g/\g<c/\g<w.1.size/\∀i(h:i<zA b),(∀j,j<K.m->w.cell? (eB g (i*K.m+j))=(K.cells b[i])[j]?)/\K.part w d c b[i]
def TH.keep{α:Type}{K:nK α}{w w':fA}{c b:Nat}{a:nC}{k:List α}(h:TH K w c b a k)(n:w.1.size<=w'.1.size)(f:∀g,c<=g->g<b->g<w.1.size->w'.heap[g]?=w.heap[g]?):TH K w' c b a k:=by
 obtain h|⟨g,rfl,d,e,l,h⟩:=h;exact Ca h;refine La ⟨g,rfl,d,e,by omega,λi b=>⟨λj m=>?_,K.keep (h i b).2 n f⟩⟩;rw[fA.cell?_of_block (f g d e l)];exact(h i b).1 j m
def TH.wide{α:Type}{K:nK α}{w:fA}{e b d c:Nat}{a:nC}{f:List α}(h:TH K w e b a f)(j:d<=e)(k:b<=c):TH K w d c a f:=by
 obtain h|⟨g,rfl,m,n,l,h⟩:=h;exact Ca h;exact La ⟨g,rfl,by omega,by omega,l,λi b=>⟨(h i b).1,K.wide (h i b).2 j k⟩⟩
def TH.z{α:Type}{K:nK α}{w e:fA}{d c:Nat}{a:nC}{f:List α}(h:TH K w d c a f)(b:xB w e):TH K e d c a f:=
 h.keep b.size λg _ _ i=>b.block g i
def TH.at{α:Type}{K:nK α}{w:fA}{d c:Nat}{a:nC}{b:List α}(h:TH K w d c a b){i:Nat}(e:i<zA b):
 ∃g,a=vB g/\g<w.1.size/\(∀j,j<K.m->w.cell? (eB g (i*K.m+j))=(K.cells b[i])[j]?)/\K.part w d c b[i]:=by grind [TH]
def gM.o{α:Type}{K:nK α}{w:fA}{b:Nat}{e:kA}{a:nC}{n d:Nat}{q:List α}(h:gM K w b e (qA a n d) n q):TH K w b w.1.size a q:=by
 obtain⟨v,D,x⟩:=h;obtain⟨_,E⟩|⟨g,r,f,s,y,t,_,_,C,p⟩:=v.2;exact Ca (Nb.1 (by omega));simp only[jA.slice.injEq]at s;have c:=bB t;refine La ⟨g,s.1,y,c,c,λi u=>⟨λj A=>?_,?_⟩⟩
 .have l:i*K.m+j<n*K.m:=by
   have:(i+1)*K.m<=n*K.m:=Nat.mul_le_mul_right _ (by omega);rw[Nat.succ_mul]at this;omega
  rw[jB.cell (show jB w g f e from t) _,<-Yd,<-Jb l,p];exact K.flat_get q i u j A
 .obtain ⟨F,z,o,k,_,B⟩:=x _ (Gb u);exact K.wide B o k
def aDn:jA->Nat
 |qA _ n _=>n
 |_=>0
def XP(B P N n:Nat)(w:fA)(h:wD w B P N)(c:N<=10000000)(f:1<=n)(d:n<=256):
 iA prog 10 #[.pointer (vB B),aB (n:Nat)] w λe a=>∃v:Nat,v<n/\e=vA (aB (v:Nat))/\wD a B P (N+1)/\sD B w a:=by
 by_cases b:2<=n
 .exact iD B P N n w h c b d
 refine (XO B n w (by omega)).mono ?_;rintro e a ⟨rfl,rfl⟩;exact⟨0,by omega,rfl,h.mono (by omega),sD.refl _ _⟩
def na(a:List cC):∀(i:Nat)(h:i<zA a)(s:pB),(rC a).set (i*2) (pA s)=rC (a.set i ⟨s,a[i].V⟩):=by
 induction a with
 |nil=>intro i h;exact absurd h (by simp)
 |cons l r c=>
  intro i h s;have e:∀(x:cC)(q:List cC),rC (x::q)=pA x.N :: pA x.V::rC q:=λ_ _=>rfl;cases i with
  |zero=>rfl
  |succ i=>
   have b:(i+1)*2=i*2+1+1:=by omega
   rw[e,b,Jd,Jd,c i (by simpa using h) s];rfl
def nb(a:List cC):∀(i:Nat)(h:i<zA a)(s:pB),(rC a).set (i*2+1) (pA s)=rC (a.set i ⟨a[i].N,s⟩):=by
 induction a with
 |nil=>intro i h;exact absurd h (by simp)
 |cons l r c=>
  intro i h s;have e:∀(x:cC)(q:List cC),rC (x::q)=pA x.N :: pA x.V::rC q:=λ_ _=>rfl;cases i with
  |zero=>rfl
  |succ i=>
   have b:(i+1)*2+1=i*2+1+1+1:=by omega
   rw[e,b,Jd,Jd,c i (by simpa using h) s];rfl
def tc{w:fA}{base g c n:Nat}{e:kA}{d:List jA}(h:w.ownsRow base e 2 (qA (vB g) n c) n d)(j:Nat)(u:jA):(w.setCell (eB g j) u).ownsRow base e 2 (qA (vB g) n c) n (d.set j u):=by
 obtain⟨i,k⟩:=h;refine⟨by rw[Pd];exact i,?_⟩;obtain⟨b,_⟩|⟨s,f,a,b,l,m,p,o,q,r⟩:=k;exact absurd b (by simp);simp only[jA.slice.injEq,Qa,Addr.mk.injEq,Cc,true_and]at b;obtain⟨rfl,rfl⟩:=b;refine La ⟨g,c,a.setIfInBounds j u,rfl,l,heap_setCell_same w g j a e u m,p,o,by rw[Array.size_setIfInBounds];exact q,?_⟩;rw[Jf,List.take_set,r]
def QP{w:fA}{base g m:Nat}{e:kA}{a:List cC}(h:w.ownsRow base e 2 (qA (vB g) (zA a) m) (zA a) (rC a))(i:Nat)(b:i<zA a):w.cell? (eB g (i*2))=cA (pA a[i].N)/\w.cell? (eB g (i*2+1))=cA (pA a[i].V)/\(∀j,w.frozen? (eB g j)=dA)/\base<=g:=by
 obtain⟨t,u,n,f⟩:=vK h;refine⟨f _ _ (KC a i b),f _ _ ?_,?_,n⟩
 .have e:∀(a:List cC)(i:Nat)(b:i<zA a),(rC a)[i*2+1]?=cA (pA a[i].V):=by
   intro a;induction a with
   |nil=>intro i b;exact absurd b (by simp)
   |cons l r q=>
    intro i b;have e:rC (l::r)=pA l.N :: pA l.V::rC r:=rfl;cases i with
    |zero=>rfl
    |succ i=>
     have p:(i+1)*2+1=i*2+1+1+1:=by omega
     rw[e,p,Ga,Ga,q i (by simpa using b)];rfl
  exact e a i b
 .rcases h.2 with⟨c,_⟩|⟨s,k,d,c,v,o,_⟩
  .exact absurd c (by simp)
  simp only[jA.slice.injEq,Qa,Addr.mk.injEq,Cc,true_and]at c;obtain⟨rfl,rfl⟩:=c;exact λj=>frozen_of_row w g j d _ o
def QW{a:List cC}(h:jU a)(i:Nat){l:cC}(b:l.N.size<=65/\l.V.size<=258):jU (a.set i l):=by grind [jU]
def aEx{w:fA}{base g b:Nat}{e:kA}{a:List cC}(h:w.ownsRow base e 2 (qA (vB g) (zA a) b) (zA a) (rC a))(i:Nat)(c:i<zA a)(s:pB):(w.setCell (eB g (i*2)) (pA s)).ownsRow base e 2 (.slice (vB g) (zA (a.set i ⟨s,a[i].V⟩)) b) (zA (a.set i ⟨s,a[i].V⟩)) (rC (a.set i ⟨s,a[i].V⟩)):=by
 have:=tc h (i*2) (pA s);rw[na a i c s]at this;rw[Pd];exact this
def je{w:fA}{base g b:Nat}{e:kA}{a:List cC}(h:w.ownsRow base e 2 (qA (vB g) (zA a) b) (zA a) (rC a))(i:Nat)(c:i<zA a)(s:pB):(w.setCell (eB g (i*2+1)) (pA s)).ownsRow base e 2 (.slice (vB g) (zA (a.set i ⟨a[i].N,s⟩)) b) (zA (a.set i ⟨a[i].N,s⟩)) (rC (a.set i ⟨a[i].N,s⟩)):=by
 have:=tc h (i*2+1) (pA s);rw[nb a i c s]at this;rw[Pd];exact this
def aIo{w:fA}{base g d:Nat}{e:kA}{a:List cC}(h:w.ownsRow base e 2 (qA (vB g) (zA a) d) (zA a) (rC a))(i:Nat)(s:i<=zA a):w.ownsRow base e 2 (qA (vB g) i d) i (rC (a.take i)):=by
 refine⟨by rw[hI,Hb];omega,?_⟩;obtain⟨c,_⟩|⟨r,f,b,c,m,n,t,o,p,q⟩:=h.2;exact absurd c (by simp);simp only[jA.slice.injEq,Qa,Addr.mk.injEq,Cc,true_and]at c;obtain⟨rfl,rfl⟩:=c;refine La ⟨g,d,b,rfl,m,n,by omega,o,p,?_⟩;have j:rC a=rC (a.take i)++rC (a.drop i):=by rw[<-qF,Za]
 have k:zA (rC (a.take i))=i*2:=by rw[hI,Hb];omega
 have l:b.toList.take (i*2)=(b.toList.take (zA a*2)).take (i*2):=by rw[List.take_take,Nat.min_eq_left (by omega)]
 rw[l,q,j,<-k,List.take_left]
def aAr(W:fA)(x:Obj){a b:jA}{t:kA}:∀j u,[a,b][j]?=cA u->((W.alloc x).alloc (xA #[a,b] t)).cell? (((eB (W.1.size+1) 0):Addr).add j)=cA u:=
 fA.news_of_block (cs:=#[a,b]) (fr:=(0,0)) (by have h:=heap_alloc_new (W.alloc x) (xA #[a,b] t);simpa using h)
def aJx(w b:fA)(B P N:Nat)(e:Ending):Prop:=∃(g c:Nat)(a:List cC),e=vA (qA (vB g) (zA a) c)/\zA a<=18/\jU a/\b.ownsRow w.1.size 175 2 (qA (vB g) (zA a) c) (zA a) (rC a)/\wD b B P N/\sD B w b
def zz(B P N:Nat)(w:fA)(base g J:Nat)(f:List cC)(h:wD w B P N)(m:N<=90000)(m:w.ownsRow base 175 2 (qA (vB g) (zA f) J) (zA f) (rC f))(h1:1<=zA f)(h7:zA f<=7)(o:jU f):
 iA prog 31 #[.pointer (vB B),qA (vB g) (zA f) J] w λe w'=>aJx w w' B P (N+100) e:=by
 obtain⟨ti,G,W,X,Y⟩:=EX;have HI:cB (prog.info? 175=cA ti):=G;clear G;have HC:cB (wD w B P N):=h;have V:=h.lt;have M:=h.up.2;have A:cB (jU f):=o;have z:cB (w.ownsRow base 175 2 (qA (vB g) (zA f) J) (zA f) (rC f)):=m;clear h m o;go_enter func31,ntmps31;go_wp2_with(at_builtin;refine wpList_append_lies _ rfl _ _ _ rfl w.1.size 175 ti _ 2 32 underlying90 HI.o W X Y rfl (by omega) (qA (vB w.1.size) 0 0) 0 [] rfl (by exact fA.ownsRow_made w #[] 0 (Ia _) (by simp[maxLen]) (by simp)) (eB g 0) (zA f) J (rC f) rfl (hI f) (by exact jb (hC z.o bC)) (by exact oS f) (by omega) (by simp[maxLen];omega) (by omega) (by simp) (w.1.size+1) (by simp) ?_;intro o k w1 G J m O);rw[Ya,Mb]at G;have Z:xB w w1:=(zF w _).grown J (by simp) (λq hq=>by simp[jA.ownBlock]at hq;omega);have Q:cB (w1.ownsRow w.1.size 175 2 (qA (vB o) (zA f) k) (zA f) (rC f)):=G;have h:cB (xB w w1):=Z;clear G J m O Z z;refine(XP B P N (zA f) w1 (HC.o.z h.o) (by omega) h1 (by omega)).mono ?_;rintro e w2 ⟨i,hi,rfl,G,m⟩;have O:cB (wD w2 B P (N+1)/\sD B w w2):=⟨G,(sD.of h.o).trans m⟩
 have R:cB (w2.ownsRow w.1.size 175 2 (qA (vB o) (zA f) k) (zA f) (rC f)):=pI Q.o m V;clear G m Q h HC;go_wp2_with fail;refine(iD B P (N+1) 7 w2 O.o.1 (by omega) (by omega) (by omega)).mono ?_;rintro e r ⟨h,Z,rfl,J,G⟩;have E:cB (wD r B P (N+2)/\sD B w r):=⟨J,O.o.2.trans G⟩
 have m:cB (r.ownsRow w.1.size 175 2 (qA (vB o) (zA f) k) (zA f) (rC f)):=pI R.o G V;have hz3:w.1.size<=r.1.size:=E.o.2.size;clear J G R O;have hi':(i:Int)<(zA f:Nat):=by omega
 obtain⟨x0,x1,G,J⟩:=QP m.o i hi;have a:=G (i*2+1);clear G;have T:=A.o f[i] (Gb hi);have G:h=0\/(h=1\/h=2)\/h=3\/h=4\/h=5\/h=6:=by omega
 clear Z;obtain rfl|hs12|rfl|rfl|rfl|rfl:=G
 .clear x0 x1 a;go_wp2_with fail;refine(uV ⟨#[110]⟩ 1 64 r (by decide) (by omega) (by omega)).mono ?_;rintro e O ⟨b,X,rfl,y⟩;have B4:cB (xB r O):=y;clear y;go_wp2_with fail;refine(uV ⟨#[110]⟩ 1 65 O (by decide) (by omega) (by omega)).mono ?_;rintro e G ⟨d,Y,rfl,Z⟩;have B5:cB (xB r G):=aC B4.o Z;clear Z B4;go_wp2_with fail;have Z:cB (nP (G.alloc (xA ([⟨#[]⟩,⟨#[57,97]⟩,⟨#[97,45,98]⟩,⟨#[106,111,98]⟩,b,d,⟨#[195,169]⟩].map jA.string).toArray 9)) G.1.size 7 65):=cT G _ 65 _ 7 rfl (by
   simp only[List.all_cons,List.all_nil,Bool.and_true,Sa,Ab];refine⟨by decide,by decide,by decide,by decide,by omega,by omega,by decide⟩)
  simp only[Fc,Ag]at Z;have hC5:=(E.o.1.z B5.o).z (zF G (xA #[pA ⟨#[]⟩,pA ⟨#[57,97]⟩,pA ⟨#[97,45,98]⟩,pA ⟨#[106,111,98]⟩,pA b,pA d,pA ⟨#[195,169]⟩] 9));have hz5:r.1.size<=G.1.size:=B5.o.size;refine(iD B P (N+2) 7 _ hC5 (by omega) (by omega) (by omega)).mono ?_;rintro e w6 ⟨v,hv,rfl,hc6,hb6⟩;have HR6:=Z.o.but hb6 (by omega);obtain⟨s,hcell,hs⟩:=HR6.at hv;have H6:cB (wD w6 B P (N+3)/\sD B w w6):=⟨hc6,((E.o.2.trans (sD.of B5.o)).z bC).trans hb6⟩
  have S:cB (w6.ownsRow w.1.size 175 2 (qA (vB o) (zA f) k) (zA f) (rC f)):=pI (hC (hC m.o B5.o) bC) hb6 V;obtain⟨y0,y1,yf,_⟩:=QP S.o i hi;have k0:=yf (i*2);clear hc6 hb6 HR6 Z hC5 B5 E m yf;have hv':(v:Int)<7:=by omega
  go_wp2;refine bodyPost_ret (v:=qA (vB o) (zA f) k) (by simp[results,results31,go_sem]) rfl ?_;have hB7:gA w.1.size w6 (w6.setCell (eB o (i*2)) (pA s)):=gD.setCell J _;exact⟨o,k,f.set i ⟨s,f[i].V⟩,by rw[Pd],by rw[Pd];omega,QW A.o i ⟨hs,T.2⟩,aEx S.o i hi _,(H6.o.1.below (hB7.mono M)).mono (by omega),H6.o.2.below_to hB7⟩
 .have c0:¬((h:Int)=0):=by omega
  have c12:(h:Int)=1\/(h:Int)=2:=by omega
  clear hs12;obtain c|c:=c12
  all_goals
   rw[c];clear c c0 x0 x1 a;go_wp2_with fail;refine(XE B P (N+2) r E.o.1 (by omega)).mono ?_;rintro e O ⟨va,h,rfl,U,y⟩;have H4:cB (wD O B P (N+3)/\sD B w O):=⟨U,E.o.2.trans y⟩
   have n:cB (O.ownsRow w.1.size 175 2 (qA (vB o) (zA f) k) (zA f) (rC f)):=pI m.o y V;obtain⟨y0,y1,yf,_⟩:=QP n.o i hi;have k1:=yf (i*2+1);clear U y m E yf;go_wp2;refine bodyPost_ret (v:=qA (vB o) (zA f) k) (by simp[results,results31,go_sem]) rfl ?_;have t:gA w.1.size O (O.setCell (eB o (i*2+1)) (pA va)):=gD.setCell J _;exact⟨o,k,f.set i ⟨f[i].N,va⟩,by rw[Pd],by rw[Pd];omega,QW A.o i ⟨T.1,h⟩,je n.o i hi _,(H4.o.1.below (t.mono M)).mono (by omega),H4.o.2.below_to t⟩
 .generalize hnm:f[i].N=nm at *;clear hnm;go_wp2_with(at_builtin;refine wpList_append_lies _ rfl _ _ _ rfl w.1.size 175 ti _ 2 32 underlying90 HI.o W X Y rfl (by omega) (qA (vB o) (zA f) k) (zA f) (rC f) rfl (by exact hC m.o bC) (eB r.1.size 0) 1 1 [pA nm,pA ⟨#[119]⟩] rfl rfl (by exact fA.news_of_block (cs:=#[pA nm,pA ⟨#[119]⟩]) (heap_alloc_new _ _)) (by simp[jA.oneCell']) (by omega) (by simp[maxLen];omega) (by omega) (by simp;omega) (r.1.size+1) (by simp) ?_;intro K C G p h hat5 hlt5);have t:gA w.1.size r G:=((zF r _).mono (by omega)).grown h (by simp;omega) (λq hq=>uH m.o q hq);have D:zA (f++[(⟨nm,⟨#[119]⟩⟩:cC)])=zA f+1:=by simp
  have hxs:rC f++[pA nm,pA ⟨#[119]⟩]=rC (f++[⟨nm,⟨#[119]⟩⟩]):=by rw[qF];rfl
  rw[hxs,<-D]at p;refine bodyPost_ret (v:=qA (vB K) (zA f+1) C) (by simp[results,results31,go_sem]) rfl ?_;exact⟨K,C,f++[⟨nm,⟨#[119]⟩⟩],by rw[D],by omega,JC A.o ⟨T.1,by show(1:Nat)<=258;omega⟩,p,(E.o.1.below (t.mono M)).mono (by omega),E.o.2.below_to t⟩
 .go_wp2;refine bodyPost_ret (v:=qA (vB o) (zA f) k) (by simp[results,results31,go_sem]) rfl ?_;have t:gA w.1.size r (r.setCell (eB o (i*2+1)) (pA ⟨#[]⟩)):=gD.setCell J _;exact⟨o,k,f.set i ⟨f[i].N,⟨#[]⟩⟩,by rw[Pd],by rw[Pd];omega,QW A.o i ⟨T.1,by show(0:Nat)<=258;omega⟩,je m.o i hi _,(E.o.1.below (t.mono M)).mono (by omega),E.o.2.below_to t⟩
 .obtain ⟨hcap,hgl,_,I⟩:=vK m.o;have hcm:k<=maxLen:=by
   obtain⟨h,_⟩|⟨g',cap,cur,h,_,_,_,hm,_⟩:=m.o.2;exact absurd h (by simp);simp only[jA.slice.injEq,Qa,Addr.mk.injEq,Cc,true_and]at h;rw[h.2];exact hm
  have h:cB (jS r.drew (if k=i+1 then vB o else cA (eB o ((i+1)*2))) (zA f-(i+1)) (rC (f.drop (i+1)))):=jy (w:=r.drew) I (i+1) hcap;have HPRE:cB (r.drew.ownsRow w.1.size 175 2 (qA (vB o) i k) i (rC (f.take i))):=aIo m.o i (by omega);have HL:cB (zA (rC (f.drop (i+1)))=(zA f-(i+1))*2):=by show _=_;rw[hI,Rc]
  clear I x0 x1 a;have hic:i<=k:=by omega
  have hwr:IntKind.i64.wrap ((i:Int)+1)=(i:Int)+1:=by
   simp only[IntKind.wrap,IntKind.bits,IntKind.signed];simp;omega
  have hp0:(0:Int)<=(i:Int)+1:=by omega
  have hp1:(i:Int)+1<=(zA f:Nat):=by omega
  have hp2:((i:Int)+1).toNat=i+1:=by omega
  have hcm2:(k:Int)<=9223372036854775807:=by unfold maxLen at hcm;omega
  go_wp2_with fail;go_region_law (refine dJ _ rfl (.tmp 59) (.tmp 63) 90 rfl w.1.size 175 ti _ 2 32 underlying90 HI.o W X Y rfl (by omega) o i k (rC (f.take i)) (by simp[Act.eval,Act.put]) (by exact HPRE.o) (if k=i+1 then vB o else cA (eB o ((i+1)*2))) (zA f-(i+1)) (k-(i+1)) (rC (f.drop (i+1))) (by simp[Act.eval,Act.put];trace_state) HL.o (by exact h.o) (oS _) (by simp[maxLen];omega) (by omega) (by simpa using hz3) ?_;intro K C G p t _ _ _ _)
  all_goals go_wp2
  all_goals
   have D:zA (f.take i++f.drop (i+1))=i+(zA f-(i+1)):=by rw[Kb,Hb,Rc];omega
   rw[<-qF,<-D]at p;have L:gA w.1.size r G:=((gA.refl _ r).drew).trans t;refine bodyPost_ret (v:=.slice (vB K) (i+(zA f-(i+1))) C) (by simp[results,results31,go_sem]) rfl ?_;exact⟨K,C,f.take i++f.drop (i+1),by rw[D],by omega,λx h=>by
    rw[Ee]at h;obtain h|h:=h;exact A.o x (Ce h);exact A.o x (Ng h),p,(E.o.1.below (L.mono M)).mono (by omega),E.o.2.below_to L⟩
 .go_wp2_with fail;refine(iD B P (N+2) 2 r E.o.1 (by omega) (by omega) (by omega)).mono ?_;rintro e O ⟨v4,h,rfl,U,y⟩;have H4:cB (wD O B P (N+3)/\sD B w O):=⟨U,E.o.2.trans y⟩
  have n:cB (O.ownsRow w.1.size 175 2 (qA (vB o) (zA f) k) (zA f) (rC f)):=pI m.o y V;clear U y m E x0 x1 a;have m:cB (jU f):=A;clear A T hi hi' J;go_wp2;go_loopw [1] (λh wr=>∃(l:List cC)(K F:Nat),h=qA (vB K) (zA l) F/\zA l<=17/\cB (jU l/\wD wr B P (N+3)/\sD B w wr)/\cB (wr.ownsRow w.1.size 175 2 (qA (vB K) (zA l) F) (zA l) (rC l))/\w.1.size<=wr.1.size) (λh _=>20-aDn h)
  case atStart=>exact⟨f,o,k,rfl,by omega,⟨m.o,H4.o⟩,n.o,H4.o.2.size⟩
  case round=>
   clear H4 n m h1 h7;obtain⟨l,K,F,rfl,h,Z,z,m⟩:=hrel;by_cases h:(zA l:Int)<16+(v4:Int)
   .have hal2:zA l<=16:=by omega
    obtain⟨H,h,o⟩:∃H:pB,H.size=1/\(convert 22 9 (qA (vB wr.1.size) 1 1)).run prog (wr.alloc (xA #[.int .u8 (97+(zA l:Nat))] 5))=.ok (pA H) (wr.alloc (xA #[.int .u8 (97+(zA l:Nat))] 5)):=
     ⟨strOfNums [97+((zA l:Nat):Int)],BJ _,NR (B:=0) (ys:=[97+((zA l:Nat):Int)]) ⟨by simp,.inr ⟨wr.1.size,1,#[.int .u8 (97+(zA l:Nat))],rfl,Oa _,heap_alloc_new _ _,Ia _,by simp[maxLen],by simp,by simp⟩⟩⟩
    have G:cB (H.size=1):=h;have o:H.size<=1:=by omega
    clear h;have J:cB (((wr.alloc (xA #[.int .u8 (97+((zA l:Nat):Int))] 5)).alloc (xA #[pA (⟨#[110]⟩++H),pA ⟨#[118]⟩] 175)).ownsRow w.1.size 175 2 (qA (vB K) (zA l) F) (zA l) (rC l)):=hC (hC z.o bC) bC;have h:cB (∀j u,[jA.string (⟨#[110]⟩++H),jA.string ⟨#[118]⟩][j]?=cA u->((wr.alloc (xA #[.int .u8 (97+((zA l:Nat):Int))] 5)).alloc (xA #[pA (⟨#[110]⟩++H),pA ⟨#[118]⟩] 175)).cell? (((eB (wr.1.size+1) 0):Addr).add j)=cA u):=aAr _ _;have o:cB (w.1.size<=((wr.alloc (xA #[.int .u8 (97+((zA l:Nat):Int))] 5)).alloc (xA #[pA (⟨#[110]⟩++H),pA ⟨#[118]⟩] 175)).1.size/\((wr.alloc (xA #[.int .u8 (97+((zA l:Nat):Int))] 5)).alloc (xA #[pA (⟨#[110]⟩++H),pA ⟨#[118]⟩] 175)).1.size=wr.1.size+1+1):=⟨by simp;omega,by simp⟩
    go_wp2_with(at_builtin;refine wpList_append_lies _ rfl _ _ _ rfl w.1.size 175 ti _ 2 32 underlying90 HI.o W X Y rfl (by omega) (qA (vB K) (zA l) F) (zA l) (rC l) rfl J.o (eB (wr.1.size+1) 0) 1 1 [pA (⟨#[110]⟩++H),pA ⟨#[118]⟩] rfl rfl h.o (by simp[jA.oneCell']) (by omega) (by simp[maxLen];omega) (by omega) o.o.1 (wr.1.size+1+1) o.o.2 ?_;intro O o w6 W h J J);have L:gA w.1.size wr w6:=((aC (zF wr _) bC).mono m).grown h (by simp;omega) (λq hq=>uH z.o q hq);have D:zA (l++[(⟨⟨#[110]⟩++H,⟨#[118]⟩⟩:cC)])=zA l+1:=by simp
    have hxs:rC l++[pA (⟨#[110]⟩++H),pA ⟨#[118]⟩]=rC (l++[⟨⟨#[110]⟩++H,⟨#[118]⟩⟩]):=by rw[qF];rfl
    rw[hxs,<-D]at W;refine⟨⟨l++[(⟨⟨#[110]⟩++H,⟨#[118]⟩⟩:cC)],O,o,by rw[D],by omega,⟨JC Z.o.1 ⟨?_,by show(1:Nat)<=258;omega⟩,Z.o.2.1.below (L.mono M),Z.o.2.2.below_to L⟩,W,Ua m L.size⟩,by simp only[aDn];omega⟩;simp only;rw[Ka,G.o];show(1:Nat)+1<=65;omega
   go_wp2;refine bodyPost_ret (v:=qA (vB K) (zA l) F) (by simp[results,results31,go_sem]) rfl ?_;exact⟨K,F,l,rfl,by omega,Z.o.1,z.o,Z.o.2.1.mono (by omega),Z.o.2.2⟩
def aAp(a:List cC)(c:Nat):Prop:=zA a<=18/\zA a<=c/\jU a
def zU(w:fA)(d c:Nat)(a:nC)(b:List cC):Prop:=b=[]\/∃g o,a=cA (eB g o)/\d<=g/\g<c/\g<w.1.size/\mP w g o b
def zU.keep{w w':fA}{c b:Nat}{a:nC}{f:List cC}(h:zU w c b a f)(n:w.1.size<=w'.1.size)(m:∀g,c<=g->g<b->g<w.1.size->w'.heap[g]?=w.heap[g]?):zU w' c b a f:=by
 obtain h|⟨g,o,rfl,d,e,k,h⟩:=h;exact Ca h;have l:∀j,w'.cell? (eB g j)=w.cell? (eB g j):=λj=>fA.cell?_of_block (m g d e k);exact La ⟨g,o,rfl,d,e,by omega,λi b=>by simp only[l];exact h i b⟩
def zU.wide{w:fA}{e d c b:Nat}{a:nC}{f:List cC}(h:zU w e d a f)(g:c<=e)(i:d<=b):zU w c b a f:=by grind [zU]
def zU.B{w:fA}{d c:Nat}{a:nC}{b:List cC}(h:zU w d c a b):qD w a b:=by grind [zU,qD]
def zD.inR{w:fA}{b:Nat}{a:nC}{c:List cC}(h:zD w b a c):zU w b w.1.size a c:=by grind [zD,zU]
def uj(v:Int):Prop:=-9223372036854775808<=v/\v<=9223372036854775807
def cX:nK XV where
 m:=2
 cells:=λy=>[qA y.a (zA y.x.B) y.c,aB y.x.bits]
 len:=λ_=>rfl
 part:=λw i e y=>zU w i e y.a y.x.B/\aAp y.x.B y.c/\uj y.x.bits
 keep:=λh g f=>⟨h.1.keep g f,h.2⟩
 wide:=λh b d=>⟨h.1.wide b d,h.2⟩
structure QV where
 K:Int
 T:pB
 R:pB
 U:Int
 ys:List XV
 a:nC
 c:Nat
def aJn(k a:Int)(t m:pB)(b:List XV):Prop:=(yU k=dA->t.size=0)/\(xU k=dA->m.size=0)/\(kV k=dA->a=0)/\(k≠1->b=[])
def QV.good(q:QV):Prop:=(1<=q.K/\q.K<=6)/\q.T.size<=16/\q.R.size<=16/\(-100<=q.U/\q.U<=100)/\zA q.ys<=5/\aJn q.K q.U q.T q.R q.ys
def QV.val(q:QV):jA:=uA #[aB q.K,pA q.T,pA q.R,aB q.U,qA q.a (zA q.ys) q.c]
def yX:nK QV where
 m:=5
 cells:=λq=>[aB q.K,pA q.T,pA q.R,aB q.U,qA q.a (zA q.ys) q.c]
 len:=λ_=>rfl
 part:=λw i e q=>TH cX w i e q.a q.ys/\q.good
 keep:=λh g f=>⟨h.1.keep g f,h.2⟩
 wide:=λh b d=>⟨h.1.wide b d,h.2⟩
def MW(c:lC):Prop:=(1<=c.w/\c.w<=8)/\(1<=c.tl/\c.tl<=7)/\(1<=c.ml/\c.ml<=5)/\(1<=c.sh/\c.sh<=5)/\(0<=c.ha/\c.ha<=2)/\(100<=c.sg/\c.sg<=299)
def lj(w:fA)(g m:Nat):Prop:=∃(a:Array jA)(t:kA),jB w g a t/\∀j,j<m->∃z:Int,a[j]?=cA (aB z)/\uj z
def lj.but{w d:fA}{g m B:Nat}(h:lj w g m)(f:sD B w d)(b:g≠B):lj d g m:=by
 obtain⟨a,t,c,e⟩:=h;exact⟨a,t,(f.block g (bB c) b).trans c,e⟩
def lj.at{w:fA}{g m:Nat}(h:lj w g m){j:Nat}(d:j<m):∃z:Int,w.cell? (eB g j)=cA (aB z)/\uj z:=by
 obtain⟨a,t,b,c⟩:=h;obtain⟨s,e,f⟩:=c j d;exact⟨s,by rw[b.cell];exact e,f⟩
def aEv(w:fA)(L:List Int)(t:kA)(m:Nat)(b:m=zA L)(h:(L.all λz=>decide (-9223372036854775808<=z/\z<=9223372036854775807))=eA):lj (w.alloc (xA (L.map (jA.int .i64)).toArray t)) w.1.size m:=by
 subst b;refine⟨_,t,heap_alloc_new _ _,λj a=>⟨L[j],by simp[a],?_⟩⟩;have:=Ke.1 h L[j] (Gb a);simpa[uj]using this
def pc(k:Nat)(h:k<10):CS (48+UInt8.ofNat k)=eA:=by
 rcases(show k=0\/k=1\/k=2\/k=3\/k=4\/k=5\/k=6\/k=7\/k=8\/k=9 by omega) with rfl|rfl|rfl|rfl|rfl|rfl|rfl|rfl|rfl|rfl<;>decide
def KN(n:Nat):∀i,dL (zX n i)=eA
 |0=>rfl
 |i+1=>by
  have a:=KN n i;simp only[dL,zX,List.all_cons,Sa]at a |-
  exact⟨pc _ (by omega),a⟩
def ZL(n:Int)(a:1<=n)(b:n<=999999):sH n=SN n.toNat:=Ma ⟨a,b⟩
theorem wP(n:Int)(b:1<=n)(c:n<=999999):cG (sH n)=eA:=by
 rw[ZL n b c];have e:(SN n.toNat).size=10:=by
  show(119::97::108::45::zX n.toNat 6).toArray.size=10;simp[jZ]
 have d:(SN n.toNat).data.toList=119::97::108::45::zX n.toNat 6:=rfl;have a:=KN n.toNat 6;unfold cG;rw[e,d];simp only[dL,List.all_cons]at a |-
 rw[a];decide
def IQ{k:Int}{n:Int}{d:pB}{z:Int}(c:1<=k/\k<=4)(a:1<=n)(b:n<=999999):AN ⟨k,sH n,⟨#[]⟩,d,z⟩=eA:=by grind [AN,sH,yB,wP]
structure jQ(w0 w:World)(B P D:Nat)(K:xD)(L:jG):Prop where
 pow:nJ w0
 below:xB w0 w
 hB:w0.1.size≤B
 hP:w0.1.size≤P
 wr:DR w P D L
 drive:∃v,wC w B D K.fs K.c K.k K.cr K.fl K.dn v
 valid:wE K.fs K.c K.k K.cr K.fl=eA
def jQ.z{c w b:fA}{B P D:Nat}{K:xD}{L:jG}(h:jQ c w B P D K L)(a:xB w b):jQ c b B P D K L:=
 ⟨h.pow,aC h.below a,h.hB,h.hP,h.wr.z a,by obtain⟨v,d⟩:=h.drive;exact⟨v,d.z a⟩,h.valid⟩
def jQ.tab{a w:fA}{B P D:Nat}{K:xD}{L:jG}(h:jQ a w B P D K L):nJ w:=h.pow.z h.below
def jQ.set{c w:fA}{B P D:Nat}{K:xD}{L L':jG}(h:jQ c w B P D K L)(j:Nat)(x:jA)(n:#[jA.pointer (vB D),aB L'.first,aB L'.last,aB L'.size]=(#[jA.pointer (vB D),aB L.first,aB L.last,aB L.size]:Array jA).setIfInBounds j x):jQ c (w.setCell (eB P j) x) B P D K L':=by
 refine⟨h.pow,h.below.setCell (by show c.1.size<=P;exact h.hP) _,h.hB,h.hP,?_,?_,h.valid⟩;show jB _ _ _ _;rw[n];exact jB.set h.wr j x;obtain ⟨v,a⟩:=h.drive;refine⟨v,a.from',?_,?_,a.apart⟩;refine (gA.heap_setCell _ _ _ D (λe=>?_)).trans a.blk;have l:D=P:=e;have d:=a.blk;rw[l]at d;have b:=(show w.heap[P]?=_ from d).symm.trans h.wr;simp at b;refine IV (S:=λk=>k=P) a.row ((kE.refl (λk=>k=P) w).setCell (g:=P) rfl j x) (λg m e=>?_);obtain⟨i,f⟩:=QK a.row g m;rw[e]at f;have b:=(show w.heap[P]?=_ from f).symm.trans h.wr;simp at b
def QZ{K:xD}{a:oK}(h:wE K.fs K.c K.k K.cr K.fl=eA)(b:AN a=eA):
 cE K a=(⟨(wI K.fs K.c K.k K.cr K.fl K.dn a).2.1,K.c,(wI K.fs K.c K.k K.cr K.fl K.dn a).2.2.1,K.cr,K.fl,(wI K.fs K.c K.k K.cr K.fl K.dn a).2.2.2⟩,(wI K.fs K.c K.k K.cr K.fl K.dn a).1):=by
 unfold cE zQ;rw[Ma (by simp[h,b])]
def aNu{r w:fA}{B P D:Nat}{K:xD}{L:jG}(l:oK)(h:jQ r w B P D K L)(m:AN l=eA)(z:l.K<=4):
 iA prog 117 #[.pointer (vB D),uA #[aB l.K,pA l.N,pA l.tq,pA l.data,aB l.size]] w λe q=>
  e=vA (nH (cE K l).2)/\(cE K l).2<=6/\jQ r q B P D (cE K l).1 L:=by
 obtain⟨v,x⟩:=h.drive;obtain⟨a,b,j,d,f,g,i,_⟩:=pJ h.valid;have p:yB l.K 1 6=eA:=by simp only[AN,Sa]at m;exact m.1.1
 rw[QZ h.valid m];apply jC (jz w B D K.fs K.c K.k K.cr K.fl K.dn v l ⟨x,eY a,b,f,d,g,i⟩ p);rintro q ⟨s,o,y,n,u⟩;have t:=Exists.intro y n;exact⟨rfl,RC _ _ _ _ _ _ _,h.pow,h.below.trans (s.mono h.hB),h.hB,h.hP,(o (by omega)).blk h.wr (by decide) (by decide),t,BU h.valid m⟩
def mO(K:xD)(L:jG)(f:pB)(a:Int):xD×jG×Nat:=
 if jP L f.size a=eA then
  if (cE K (sG (L.last+1))).2≠0 then((cE K (sG (L.last+1))).1,L,(cE K (sG (L.last+1))).2)
  else mH (cE K (sG (L.last+1))).1 ⟨L.first,L.last+1,0⟩ f
 else mH K L f
def gK{x:Nat}(a:¬x=0)(_:x<=6):∃t,nH x=.iface 147 (pA t):=by grind [nH]
def RA{c w:fA}{B P D:Nat}{K b:xD}{L:jG}{x:Nat}(a:oK)(h:jQ c w B P D K L)(f:AN a=eA)(d:a.K<=4)(e:cE K a=(b,x)):
 iA prog 117 #[.pointer (vB D),uA #[aB a.K,pA a.N,pA a.tq,pA a.data,aB a.size]] w λe g=>
  e=vA (nH x)/\x<=6/\jQ c g B P D b L:=by
 have:=aNu a h f d;rw[e]at this;exact this
def ur{y w:fA}{B P D:Nat}{K:xD}{L:jG}(f:pB)(a:Int)(h:jQ y w B P D K L)(T:bJ L=eA)(m:f.size<=60008)(M:jP L f.size a=dA):
 iA prog 299 #[.pointer (vB P),pA f,aB a] w λe c=>
  e=vA (nH (mO K L f a).2.2)/\(mO K L f a).2.2<=6/\jQ y c B P D (mO K L f a).1 (mO K L f a).2.1:=by
 obtain⟨N,O,_,_,W,X⟩:=PV T;have F:cB (mO K L f a=mH K L f):=by show _=_;rw[mO,Ja (by rw[M];simp)]
 have p:cB (rI 330 #[.pointer (vB P),aB (f.size:Int),aB a] w (sA dA)):=by
  have:=uZ P D L (f.size:Int) a w h.wr ⟨N,O⟩ (by omega);rw[M]at this;exact this
 have z:cB _:=h;clear h T M;obtain⟨s,U,V,S⟩:=z.o.wr.cells;go_enter func299,ntmps299;go_wp2_with fail;apply kO p.o;go_wp2_with fail;apply jC (bO L.last _ z.o.tab);intro Z u;have r:cB _:=z.o.z u;clear u s U V S p z;obtain⟨s,_,_,_⟩:=r.o.wr.cells;obtain⟨⟨J,C⟩,g⟩:∃R,cE K (bI L.last f)=R:=⟨_,rfl⟩
 have q:cB _:=g;have n:cB (iA prog 117 #[.pointer (vB D),uA #[aB 2,pA (sH L.last),pA ⟨#[]⟩,pA f,aB 0]] Z λe c=>e=vA (nH C)/\C<=6/\jQ y c B P D J L):=RA (bI L.last f) r.o (IQ (by omega) (by omega) (by omega)) (by show(2:Int)<=4;omega) g;clear g;go_wp2_with fail;apply jC n.o;rintro w2 ⟨l,v⟩;have d:cB _:=v;clear v s n;by_cases k:C=0
 .subst k;simp only[nH];obtain⟨s,_,_,_⟩:=d.o.wr.cells;obtain⟨⟨A,E⟩,i⟩:∃R,cE J (jR L.last)=R:=⟨_,rfl⟩
  have G:cB _:=i;have o:cB (iA prog 117 #[.pointer (vB D),uA #[aB 3,pA (sH L.last),pA ⟨#[]⟩,pA ⟨#[]⟩,aB 0]] w2 λe c=>e=vA (nH E)/\E<=6/\jQ y c B P D A L):=RA (jR L.last) d.o (IQ (by omega) (by omega) (by omega)) (by show(3:Int)<=4;omega) i;clear i l;go_wp2_with fail;apply jC o.o;rintro h ⟨l,x⟩;have b:cB _:=x;have Q:cB _:=aW (L:=L) q.o rfl G.o;clear x s o;by_cases k:E=0
  .subst k;simp only[nH];have m:cB (mO K L f a=(A,⟨L.first,L.last,L.size+f.size⟩,0)):=by show _=_;rw[F.o,Q.o,Ja (by simp)]
   have I:cB (jQ y (h.setCell (eB P 3) (aB (L.size+(f.size:Int)))) B P D A ⟨L.first,L.last,L.size+f.size⟩):=b.o.set 3 _ (by simp);obtain⟨_,_,_,S⟩:=b.o.wr.cells;have h:=jB.free b.o.wr 3;have Y:IntKind.i64.wrap (L.size+(f.size:Int))=L.size+(f.size:Int):=by rw[IntKind.wrap_i64];omega
   go_wp2;go_ret;rw[m.o];exact⟨rfl,by omega,I.o⟩
  obtain ⟨t,j⟩:=gK k l;have m:cB (mO K L f a=(A,L,E)):=by show _=_;rw[F.o,Q.o,Ma k]
  have H:cB _:=j;rw[j];clear j;go_wp2;go_ret;rw[m.o];exact⟨by rw[H.o];rfl,l,b.o⟩
 obtain ⟨t,j⟩:=gK k l;have m:cB (mO K L f a=(J,L,C)):=by show _=_;rw[F.o,zV (L:=L) q.o k]
 have H:cB _:=j;rw[j];clear j;go_wp2;go_ret;rw[m.o];exact⟨by rw[H.o];rfl,l,d.o⟩
def aBa{g w:fA}{B P D:Nat}{K:xD}{L:jG}(f:pB)(a:Int)(h:jQ g w B P D K L)(J:bJ L=eA)(m:f.size<=60008)(m:jP L f.size a=eA)(o:L.last≠999999):
 iA prog 299 #[.pointer (vB P),pA f,aB a] w λe d=>
  e=vA (nH (mO K L f a).2.2)/\(mO K L f a).2.2<=6/\jQ g d B P D (mO K L f a).1 (mO K L f a).2.1:=by
 obtain⟨o,G,_,_,I,I⟩:=PV J;have F:cB (rI 330 #[.pointer (vB P),aB (f.size:Int),aB a] w (sA eA)):=by
  have:=uZ P D L (f.size:Int) a w h.wr ⟨o,G⟩ (by omega);rw[m]at this;exact this
 obtain⟨⟨j,y⟩,q⟩:∃R,cE K (sG (L.last+1))=R:=⟨_,rfl⟩
 have E0:cB (mO K L f a=if y≠0 then(j,L,y) else mH j ⟨L.first,L.last+1,0⟩ f):=by show _=_;rw[mO,Ma m,q]
 have A:cB (∀W,jQ g W B P D K L->iA prog 117 #[.pointer (vB D),uA #[aB 1,pA (sH (L.last+1)),pA ⟨#[]⟩,pA ⟨#[]⟩,aB 0]] W λe d=>e=vA (nH y)/\y<=6/\jQ g d B P D j L):=λW o=>RA (sG (L.last+1)) o (IQ (by omega) (by omega) (by omega)) (by show(1:Int)<=4;omega) q;have I:cB _:=h;have o:IntKind.i64.wrap (L.last+1)=L.last+1:=by rw[IntKind.wrap_i64];omega
 clear h J m q;obtain⟨M,c1,c2,V⟩:=I.o.wr.cells;have U:cB (∀W m,jQ g W B P D m L->yC W P 0 (.pointer (vB D))/\yC W P 2 (aB L.last)):=λW m h=>⟨h.wr.cells.1,h.wr.cells.2.2.1⟩
 go_enter func299,ntmps299;go_wp2_with fail;apply kO F.o;go_wp2_with fail;go_region_held3 (λd=>d.cell? (eB P 0)=cA (.pointer (vB D))/\d.cell? (eB P 2)=cA (aB L.last))
  (first|exact U.o _ _ c.o|exact U.o _ _ p.o|exact U.o _ _ (I.o.z gD.drew))
  (first
  |(go_at_call 120;apply jC (bO (L.last+1) _ (I.o.z gD.drew).tab);intro h N;have p:cB (jQ g h B P D K L):=(I.o.z gD.drew).z N)
  |(go_at_call 117;apply jC (A.o _ p.o);rintro h ⟨m,T⟩;have c:cB (jQ g h B P D j L):=T))
 clear M c1 c2 V U A F I p N T;by_cases v:y=0
 .subst v;simp only[nH];have Y:cB (mO K L f a=mH j ⟨L.first,L.last+1,0⟩ f):=by show _=_;rw[E0.o,Ja (by simp)]
  obtain⟨_,_,c2,V⟩:=c.o.wr.cells;have G:=jB.free c.o.wr 2;have l:cB (jQ g (h.setCell (eB P 2) (aB (L.last+1))) B P D j ⟨L.first,L.last+1,L.size⟩):=c.o.set 2 _ (by simp);have o:=l.o.wr.cells.2.2.2;have I:=jB.free l.o.wr 3;have b:cB (jQ g ((h.setCell (eB P 2) (aB (L.last+1))).setCell (eB P 3) (aB 0)) B P D j ⟨L.first,L.last+1,0⟩):=l.o.set 3 _ (by simp);have h:=b.o.wr.cells.2.2.1;go_wp2_with fail;apply jC (bO (L.last+1) _ b.o.tab);intro W O;have J:cB _:=b.o.z O;clear O b l c c2 V o G I h;obtain⟨M,_,_,_⟩:=J.o.wr.cells;obtain⟨⟨h,X⟩,r⟩:∃R,cE j (bI (L.last+1) f)=R:=⟨_,rfl⟩
  have G:cB _:=r;have C:cB (iA prog 117 #[.pointer (vB D),uA #[aB 2,pA (sH (L.last+1)),pA ⟨#[]⟩,pA f,aB 0]] W λe d=>e=vA (nH X)/\X<=6/\jQ g d B P D h ⟨L.first,L.last+1,0⟩):=RA (bI (L.last+1) f) J.o (IQ (by omega) (by omega) (by omega)) (by show(2:Int)<=4;omega) r;clear r;go_wp2_with fail;apply jC C.o;rintro w2 ⟨m,Q⟩;have o:cB _:=Q;clear Q M C;by_cases u:X=0
  .subst u;simp only[nH];obtain⟨M,_,_,_⟩:=o.o.wr.cells;obtain⟨⟨x,z⟩,s⟩:∃R,cE h (jR (L.last+1))=R:=⟨_,rfl⟩
   have Z:cB _:=s;have E:cB (iA prog 117 #[.pointer (vB D),uA #[aB 3,pA (sH (L.last+1)),pA ⟨#[]⟩,pA ⟨#[]⟩,aB 0]] w2 λe d=>e=vA (nH z)/\z<=6/\jQ g d B P D x ⟨L.first,L.last+1,0⟩):=RA (jR (L.last+1)) o.o (IQ (by omega) (by omega) (by omega)) (by show(3:Int)<=4;omega) s;clear s m;go_wp2_with fail;apply jC E.o;rintro O ⟨m,S⟩;have k:cB _:=S;have J:cB (mH j ⟨L.first,L.last+1,0⟩ f=if z≠0 then(x,⟨L.first,L.last+1,0⟩,z) else(x,⟨L.first,(L.last+1),0+f.size⟩,0)):=aW (L:=⟨L.first,L.last+1,0⟩) G.o rfl Z.o;clear S M E;by_cases u:z=0
   .subst u;simp only[nH];have n:cB (mO K L f a=(x,⟨L.first,(L.last+1),0+f.size⟩,0)):=by show _=_;rw[Y.o,J.o,Ja (by simp)]
    have W:cB (jQ g (O.setCell (eB P 3) (aB (f.size:Int))) B P D x ⟨L.first,(L.last+1),0+f.size⟩):=k.o.set 3 _ (by simp);obtain⟨_,_,_,V⟩:=k.o.wr.cells;have I:=jB.free k.o.wr 3;have I:IntKind.i64.wrap ((0:Int)+(f.size:Int))=(0:Int)+(f.size:Int):=by rw[IntKind.wrap_i64];omega
    go_wp2;go_ret;rw[n.o];exact⟨rfl,by omega,W.o⟩
   obtain ⟨t,i⟩:=gK u m;have n:cB (mO K L f a=(x,⟨L.first,L.last+1,0⟩,z)):=by show _=_;rw[Y.o,J.o,Ma u]
   have H:cB _:=i;rw[i];clear i;go_wp2;go_ret;rw[n.o];exact⟨by rw[H.o];rfl,m,k.o⟩
  obtain ⟨t,i⟩:=gK u m;have n:cB (mO K L f a=(h,⟨L.first,L.last+1,0⟩,X)):=by show _=_;rw[Y.o,zV (L:=⟨L.first,L.last+1,0⟩) G.o u]
  have H:cB _:=i;rw[i];clear i;go_wp2;go_ret;rw[n.o];exact⟨by rw[H.o];rfl,m,o.o⟩
 obtain ⟨t,i⟩:=gK v m;have n:cB (mO K L f a=(j,L,y)):=by show _=_;rw[E0.o,Ma v]
 have H:cB _:=i;rw[i];clear i;go_wp2;go_ret;rw[n.o];exact⟨by rw[H.o];rfl,m,c.o⟩
def aEd{b:Int}{text:pB}(g:0<=b)(h:b<999999):∀c∈lX b text,AN c=eA:=by
 have d:cG aS=eA:=by decide
 have e:cG vg=eA:=by decide
 have f:cG (sH (b+1))=eA:=wP _ (by omega) (by omega);intro c a;simp only[lX,Lb,Ed,Bf]at a;rcases a with a|a|a|a|a<;>(subst a;simp[AN,yB,d,e,f])
def aId:AN VM=eA:=by
 have a:cG aS=eA:=by decide
 simp[AN,VM,yB,a]
def aIc{n:Int}(b:1<=n)(c:n<=999999):AN (FK n)=eA:=by
 have a:cG (sH n)=eA:=wP _ (by omega) (by omega);simp[AN,FK,yB,a]
def aOe{L:jG}(h:bJ L=eA):0<=L.size/\L.size<=1000000000/\1<=L.first/\L.first<=L.last/\1<=L.last/\L.last<=999999:=by
 simp only[bJ,yB,Sa,Ab]at h;omega
def tp{s w:fA}{B P D:Nat}{K:xD}{L:jG}(l:oK)(h:jQ s w B P D K L)(o:AN l=eA):
 iA prog 117 #[.pointer (vB D),uA #[aB l.K,pA l.N,pA l.tq,pA l.data,aB l.size]] w λe q=>
  e=vA (nH (cE K l).2)/\jQ s q B P D (cE K l).1 L/\vJ w q:=by
 obtain⟨v,u⟩:=h.drive;obtain⟨a,b,j,d,f,g,i,_⟩:=pJ h.valid;have m:yB l.K 1 6=eA:=by simp only[AN,Sa]at o;exact o.1.1
 have r:l.K<=6:=by simp only[yB,Sa,Ab]at m;exact m.2
 rw[QZ h.valid o];apply jC (jz w B D K.fs K.c K.k K.cr K.fl K.dn v l ⟨u,eY a,b,f,d,g,i⟩ m);rintro q ⟨t,n,x,p,_⟩;exact⟨rfl,⟨h.pow,h.below.trans (t.mono h.hB),h.hB,h.hP,(n r).blk h.wr (by decide) (by decide),⟨x,p⟩,BU h.valid o⟩,n r⟩
def RV(w:fA)(B:Nat)(s:pB):Prop:=bn w B 166 ⟨s,dA⟩
def sD.upToD{g:Nat}{w c d:fA}(h:sD g w c)(a:gA w.1.size c d):sD g w d:=
 ⟨a.os.trans h.os,a.tape.trans h.tape,a.output.trans h.output,Ua h.size a.size,λk b e=>(a.block k b).trans (h.block k b e)⟩
def MK(p:jA)(w:fA):rI 77 #[p,sA eA] w (.tuple #[]):=by
 go_enter func77,ntmps77;go_wp2;go_end0;exact⟨rfl,rfl⟩
section
variable {w:fA} {B k:Nat} {v:Int} {t q:pB} {xs:List oF}
theorem FJ(c:RV w B (tB k v++q))(g:k<=8)(d:fR (vX (tB k v).data.toList)=v)(i:q.size<=1000000):
 iA prog 141 #[.pointer (vB B),aB (k:Nat)] w λe f=>e=vA (aB v)/\RV f B q/\sD B w f:=by
 have a:=dB (CQ (k:=k) c g (by rw[Ka,nB];omega));rw[gz (k:=k) (v:=v) (q:=q) rfl]at a;dsimp only at a;rw[d]at a;clear c d;go_enter func141,ntmps141;go_wp2_with fail;apply jC a.o;intro h b;have j:yC h B 1 (sA dA):=jB.cell b.1 1;replace b:=dB b;go_wp2_with fail;refine rD (MK _ _) ?_;go_wp2;go_ret;exact⟨rfl,b.o⟩
theorem kh(c:RV w B (tB k (t.size:Nat)++t++q))(g:k<=2)(d:t.size<256 ^ k)(i:t.size+q.size<=1000000):
 iA prog 143 #[.pointer (vB B),aB (k:Nat)] w λe f=>e=vA (pA t)/\RV f B q/\sD B w f:=by
 have b:=dB (RN (k:=k) c g (by simp only[Ka,nB];omega));rw[JH (k:=k) (t:=t) (q:=q) (Wa ..) d]at b;dsimp only at b;clear c d;go_enter func143,ntmps143;go_wp2_with fail;apply jC b.o;intro h a;have j:yC h B 1 (sA dA):=jB.cell a.1 1;replace a:=dB a;go_wp2_with fail;refine rD (MK _ _) ?_;go_wp2;go_ret;exact⟨rfl,a.o⟩
theorem ZK(N:RV w B (tB 2 (zA xs:Nat)++(iE xs++q)))(m:aKe xs)(P:∀i(h:i<zA xs),WU xs[i].bits)(o:zA xs<=500)(L:(iE xs++q).size<=1000000):
 iA prog 144 #[.pointer (vB B)] w λe a=>∃o c,e=vA (qA o (zA xs) c)/\aH a w.1.size o xs/\RV a B q/\sD B w a:=by
 have o:=bB N;have Z:=dB (FJ N (by omega) (by rw[pT 2 _ (by omega),lJ (by omega)]) L);have t:cB (∀(k:Nat)(h:k<zA xs) W,RV W B (iE (xs.drop k)++q)->iA prog 210 #[.pointer (vB B)] W λe a=>∃g c,e=vA (.slice (vB g) (zA xs[k].B) c)/\a.ownsRow W.1.size 175 2 (.slice (vB g) (zA xs[k].B) c) (zA xs[k].B) (rC xs[k].B)/\RV a B (tB 8 xs[k].bits++(iE (xs.drop (k+1))++q))/\sD B W a):=λk h W O=>by
  have J:=Kd ByteArray.size (eI (xs.take k) (xs.drop k));rw[Za]at J;simp only[Ka]at J L;have e:iE (xs.drop k)++q=tB 1 (zA xs[k].B:Nat)++(nD xs[k].B++(tB 8 xs[k].bits++(iE (xs.drop (k+1))++q))):=by
   rw[Cb h,iE,gW,aI];simp only[Wa]
  have:=PJ O (by dsimp only;rw[Ka];omega);rw[gz (k:=1) (r:=⟨iE (xs.drop k)++q,dA⟩) e]at this;dsimp only at this;obtain⟨u,o⟩:=m k h;rw[pT 1 _ (by omega),ZF (r:=⟨nD xs[k].B++(tB 8 xs[k].bits++(iE (xs.drop (k+1))++q)),dA⟩) rfl (λi R=>⟨by have:=(o i R).1;omega,by have:=(o i R).2;omega⟩) (zA xs[k].B) (Ia _),Rb,Kg]at this;rw[show nD ([]:List cC)=lA from rfl,we]at this;exact this
 have G:cB (∀(k:Nat)(h:k<zA xs) W,RV W B (tB 8 xs[k].bits++(iE (xs.drop (k+1))++q))->iA prog 141 #[.pointer (vB B),aB 8] W λe a=>e=vA (aB xs[k].bits)/\RV a B (iE (xs.drop (k+1))++q)/\sD B W a):=λk h W O=>FJ (k:=8) O (by omega) (DV _ (P k h)) (by
  have J:=Kd ByteArray.size (eI (xs.take (k+1)) (xs.drop (k+1)));rw[Za]at J;simp only[Ka]at J L |-
  omega)
 clear m P L N;go_enter func144,ntmps144;go_wp2_with fail;apply jC Z.o;intro w1 u;replace u:=dB u;clear Z;go_wp2;go_loopw [3,6] (λV i wr=>∃k:Nat,k<=zA xs/\i=aB k/\cB (bY wr w.1.size 93 V k (xs.take k))/\cB (RV wr B (iE (xs.drop k)++q))/\cB (sD B w wr)) (λ_ i _=>zA xs-(intOf i).toNat)
 case atStart=>exact⟨0,Oa _,rfl,bY.nil _ _ _,u.o.1,u.o.2⟩
 case round=>
  clear u;obtain⟨k,m,rfl,z,b,f⟩:=hrel;by_cases n:k<zA xs
  .have P1:=dB (t.o k n);have o:=dB (G.o k n);have t:cB (xs.take (k+1)=xs.take k++[⟨xs[k].B,xs[k].bits⟩]):=by show _=_;rw[Pa n]
   generalize xs[k].B=ls at *;generalize xs[k].bits=bi at *;obtain⟨T,Y,j,l,A,C⟩:=z.o;have p:=λg d=>j.lt g d;have K:=dB (⟨j,l,A,C⟩:_/\_/\_/\_);have U:cB (zA Y=k):=by show _=_;have:=Kd List.length l;rw[Xa,Hb]at this;omega
   have m:=f.o.size;clear j l A C z;go_wp2_with fail;refine(P1.o _ b.o).mono ?_;rintro e w2 ⟨m,m,rfl,F,G,D⟩;have y:=dB (Vc F (Vc G D));clear F G D P1 b;go_wp2_with fail;apply jC (o.o _ y.o.2.1);rintro X ⟨H,m⟩;have S:=dB (ja y.o.1);have s:=dB (Vc (eK (pI y.o.1 m (by omega))) (Vc H (y.o.2.2.trans m)));have I:=s.o.2.2.size;clear H m o y;go_wp2_with(at_builtin;refine zM rfl _ _ rfl underlying45 ey rfl (by omega) (by omega) (v:=u3) rfl ((fB.but s.o.2.2).row K.o.1 (λg d e=>by have:=(p g d).1;omega)) rfl rfl rfl (by simp[jA.oneCell']) (by omega) (by omega) ?_;intro m m m G M J);have E:∀g,g<X.1.size->u3.ownBlock≠cA g->m.heap[g]?=X.heap[g]?:=λg d o=>M.o.block g d λe=>o e.2;refine⟨⟨k+1,by omega,by go_num,?_,M.o.blk s.o.2.1 (λe=>by omega),(f.o.trans s.o.2.2).upToD (M.o.below (by omega) λi R e=>by omega)⟩,by simp[intOf];omega⟩;show bY _ _ _ _ _ _;rw[t.o];exact bY.snoc (wr:=wr) (w4:=X) (v:=u3) (T:=T) (ys:=Y) (x:=⟨ls,bi⟩) G.o K.o.2.1 U.o K.o.2.2.1 K.o.2.2.2 (by omega) (λg d P o=>(E g (by omega) o).trans (s.o.2.2.block g d (by omega))) (λg d Q=>E g Q (λe=>by have:=(p _ e).2;omega)) s.o.1 S.o (J.o.elim (λh=>Ca ⟨h,(p _ h).2⟩) λh=>La (by omega)) I
  obtain rfl:k=zA xs:=by omega
  rw[Rb]at z;rw[Kg]at b;obtain⟨h,rc,rfl⟩:=z.o.row;go_wp2;go_ret;exact⟨h,rc,rfl,z.o.own rfl,by simpa[iE]using b.o,f.o⟩
end
structure QG(w W:World)(B R Q:Nat)(cs sh:Array Value)(s:pB):Prop where
 Z:jB W w.1.size #[aB 0,pA lA,pA lA,aB 0,qA aA 0 0] 47
 R:jB W R cs 47
 H:jB W Q sh 170
 T:RV W B s
 N:sD B w W
section
variable {w W W':fA} {B R Q:Nat} {cs sh:Array jA} {s s':pB}
theorem QG.call(h:QG w W B R Q cs sh s)(c:B<w.1.size)(e:w.1.size<R)(d:R<Q)(a:sD B W W')(b:RV W' B s'):QG w W' B R Q cs sh s':=
 ⟨h.Z.but a (by omega),h.R.but a (by omega),h.H.but a (by omega),b,h.N.trans a⟩
theorem QG.set(h:QG w W B R Q cs sh s)(c:B<w.1.size)(b:w.1.size<R)(d:R<Q)(i:Nat)(v:jA):QG w (W.setCell (eB R i) v) B R Q (cs.setIfInBounds i v) sh s:=by
 have a:sD R W (W.setCell (eB R i) v):=(sD.refl R W).setCell i v;exact⟨h.Z.but a (by omega),h.R.set i v,h.H.but a (by omega),jB.but h.T a (by omega),h.N.upToD (gD.setCell (by simpa using Vg b) v)⟩
end
def YF{c:Prop}[Decidable c]{x y z:pB}(h:(if c then x else lA)++y=z):c/\z=x++y\/¬c/\z=y:=by
 by_cases a:c
 .rw[Ma a]at h;exact Ca ⟨a,h.symm⟩
 rw[Ja a,we]at h;exact La ⟨a,h.symm⟩
def aEr{B:Nat}{r:eG}{w:fA}(h:VR r)(m:RV w B (wK r))(hT:oR w)(Y:0≠B):
 iA prog 76 #[.pointer (vB B)] w λe C=>∃o n,e=vA (uA #[aB r.K,pA r.T,pA r.R,aB r.U,qA o (zA r.P) n])/\aH C w.1.size o r.P/\sD B w C:=by
 have p:=bB m;obtain⟨s,q1,q2,q3,q4,q5,q6,q7,q8⟩:=h.ok;have G:=h.sz;have hn:=h.U;have u:=h.bits;have I:∀b:pB,b.size=0->b=lA:=λb u=>by simp_all
 obtain⟨k,T,M,N,S⟩:=r;obtain⟨k,rfl⟩:=Yf (show 0<=k by dsimp only at s;omega);dsimp only at *;clear h;rw[wK]at m G;dsimp only at m G;generalize e3:(if kV (k:Int)=eA then tB 8 N else lA)=s at *;generalize J:(if xU (k:Int)=eA then dG M else lA)++s=H at *;generalize O:(if (k:Int)=1 then tB 2 (zA S:Nat)++iE S else lA)++H=r1 at *;generalize Z:(if yU (k:Int)=eA then gN T else lA)++r1=h at *;have z1:=Kd ByteArray.size O;have z2:=Kd ByteArray.size J;have z3:=Kd ByteArray.size Z;simp only[Ka,nB]at z1 z2 z3 G;have H0:=dB (λW(E:RV W B (tB 1 (k:Nat)++h))=>FJ (k:=1) E (by omega) (by rw[pT 1 _ (by omega),lJ (by omega)]) (by omega));have A1:cB (yU k=eA/\(∀W,RV W B h->iA prog 143 #[.pointer (vB B),aB 1] W λe C=>e=vA (pA T)/\RV C B r1/\sD B W C)\/yU k=dA/\T=lA/\h=r1):=
  (YF Z).imp (fun⟨a,b⟩=>⟨a,λW E=>kh (k:=1) (b ▸ E) (by omega) (by omega) (by omega)⟩) fun⟨a,b⟩=>have a:=Yc.2 a;⟨a,I _ (q1 a),b⟩
 have A2:cB ((k:Int)=1/\(∀W,RV W B r1->iA prog 144 #[.pointer (vB B)] W λe C=>∃o n,e=vA (qA o (zA S) n)/\aH C W.1.size o S/\RV C B H/\sD B W C)\/¬(k:Int)=1/\S=[]/\r1=H):=
  (YF O).imp (fun⟨a,b⟩=>⟨a,λW E=>ZK (by rw[b,Wa]at E;exact E) q8 u q7 (by rw[Ma a]at z1;simp only[Ka]at z1 |-;omega)⟩) fun⟨a,b⟩=>⟨a,q4 a,b⟩
 have A3:cB (xU k=eA/\(∀W,RV W B H->iA prog 143 #[.pointer (vB B),aB 2] W λe C=>e=vA (pA M)/\RV C B s/\sD B W C)\/xU k=dA/\M=lA/\H=s):=
  (YF J).imp (fun⟨a,b⟩=>⟨a,λW E=>kh (k:=2) (b ▸ E) (by omega) (by omega) (by omega)⟩) fun⟨a,b⟩=>have a:=Yc.2 a;⟨a,I _ (q2 a),b⟩
 have A4:cB (kV k=eA/\(∀W,RV W B s->iA prog 141 #[.pointer (vB B),aB 8] W λe C=>e=vA (aB N)/\RV C B lA/\sD B W C)\/kV k=dA/\N=0/\s=lA):=
  (YF (y:=lA) ((aBg _).trans e3)).imp (fun⟨a,b⟩=>⟨a,λW E=>FJ (k:=8) (b ▸ E) (by omega) (DV _ hn) (Oa _)⟩) fun⟨a,b⟩=>have a:=Yc.2 a;⟨a,q3 a,b⟩
 have HB:=dB m;have HT:=dB hT;clear m hT Z O J e3 z1 z2 z3 G hn u q1 q2 q3 q4 q5 q6 q7 q8 I;go_enter func76,ntmps76;go_wp2_with fail;apply jC (H0.o _ (jB.z HB.o bC));rintro w1 ⟨I,u⟩;have b1:=(sD.of (zF w (xA #[aB 0,pA lA,pA lA,aB 0,qA aA 0 0] 47))).trans u;have Z:=dB (jB.but (jB.new w #[aB 0,pA lA,pA lA,aB 0,qA aA 0 0] 47) u (by omega));have O:=bB Z.o;go_wp2_with fail;refine jC (UZ (k:=(k:Int)) (by omega) _) ?_;intro J F;have X:=dB ((jB.new w1 #[aB k,pA lA,pA lA,aB 0,qA aA 0 0] 47).z F);have N2:=b1.trans (sD.of (aC bC F));go_wp2_with fail;refine rD (MK _ _) ?_;have t:=λj m=>(HT.o.but N2 Y).2 k j (by omega) m;have f:yC J 0 (k*5) (sA (yU k)):=t 0 (by omega);have g:yC J 0 (k*5+1) (sA ((k:Int)==1)):=t 1 (by omega);have i:yC J 0 (k*5+2) (sA (xU k)):=t 2 (by omega);have l:yC J 0 (k*5+3) (sA (kV k)):=t 3 (by omega);have m:yC J 0 (k*5+4) (sA (zw k 4)):=t 4 (by omega);have x0:=X.o.cell 0;have L:=bB X.o;clear t;go_upto_region 4 with fail;have G:cB (QG w (J.alloc (xA #[sA (yU k),sA ((k:Int)==1),sA (xU k),sA (kV k),sA (zw k 4)] 170)) B w1.1.size J.1.size #[aB k,pA lA,pA lA,aB 0,qA aA 0 0] #[sA (yU k),sA ((k:Int)==1),sA (xU k),sA (kV k),sA (zw k 4)] h):=
  ⟨(Z.o.z (aC bC F)).alloc _,X.o.alloc _,jB.new _ _ _,jB.alloc (jB.z I (aC bC F)) _,N2.trans (sD.of bC)⟩
 clear f g i l m x0 X Z N2 b1 u F I H0 HB HT;generalize J.alloc (xA #[sA (yU k),sA ((k:Int)==1),sA (xU k),sA (kV k),sA (zw k 4)] 170)=W at *;generalize J.1.size=Q at *;generalize w1.1.size=R at *;clear w1 J;generalize zw k 4=J at *;obtain⟨P,U,Y,h,m⟩:=G.o.H.c5;go_upto_if 18 with fail;go_cut [] (λK=>QG w K B R Q #[aB k,pA T,pA lA,aB 0,qA aA 0 0] #[sA (yU k),sA ((k:Int)==1),sA (xU k),sA (kV k),sA J] r1)
 case first=>
  obtain⟨A,z⟩|⟨A,rfl,rfl⟩:=A1.o
  .rw[A]at P |-
   replace z:=dB z;go_wp2_with fail;apply jC (z.o _ G.o.T);rintro x ⟨I,u⟩;replace G:=dB (G.o.call p O L u I);have Z:=G.o.R.cell 1;have c1:=G.o.R.free 1;go_wp2;go_meet;exact G.o.set p O L 1 (pA T)
  rw[A]at P |-
  go_wp2;go_meet;exact G.o
 clear P U Y h m G A1 W;replace G:=dB hcut;clear hcut;rename fA=>W;obtain⟨P,U,Y,h,m⟩:=G.o.H.c5;have E:=bB G.o.H;go_upto_if 23 with fail;go_cut [] (λK=>∃o n,QG w K B R Q #[aB k,pA T,pA lA,aB 0,qA o (zA S) n] #[sA (yU k),sA ((k:Int)==1),sA (xU k),sA (kV k),sA J] H/\aH K (Q+1) o S)
 case first=>
  obtain⟨A,z⟩|⟨A,rfl,rfl⟩:=A2.o
  .rw[Lg.2 A]at U |-
   replace z:=dB z;go_wp2_with fail;refine(z.o _ G.o.T).mono ?_;rintro e x ⟨o,n,rfl,H,I,u⟩;replace G:=dB (G.o.call p O L u I);have Z:=G.o.R.cell 4;have c1:=G.o.R.free 4;go_wp2;go_meet;exact⟨o,n,G.o.set p O L 4 (qA o (zA S) n),(H.mono (by omega)).but ((sD.refl R x).setCell 4 _) (by omega)⟩
  rw[beq_false_of_ne A]at U |-
  go_wp2;go_meet;exact⟨aA,0,G.o,Ca rfl⟩
 clear P U Y h m G A2 W E;obtain⟨o,n,G,D⟩:=hcut;replace G:=dB G;replace D:=dB D;rename fA=>W;obtain⟨P,U,Y,h,m⟩:=G.o.H.c5;go_upto_if 28 with fail;go_cut [] (λK=>QG w K B R Q #[aB k,pA T,pA M,aB 0,qA o (zA S) n] #[sA (yU k),sA ((k:Int)==1),sA (xU k),sA (kV k),sA J] s/\aH K (Q+1) o S)
 case first=>
  obtain⟨A,z⟩|⟨A,rfl,rfl⟩:=A3.o
  .rw[A]at Y |-
   replace z:=dB z;go_wp2_with fail;apply jC (z.o _ G.o.T);rintro x ⟨I,u⟩;replace G:=dB (G.o.call p O L u I);have Z:=G.o.R.cell 2;have c1:=G.o.R.free 2;go_wp2;go_meet;exact⟨G.o.set p O L 2 (pA M),(D.o.but u (by omega)).but ((sD.refl R x).setCell 2 _) (by omega)⟩
  rw[A]at Y |-
  go_wp2;go_meet;exact⟨G.o,D.o⟩
 clear P U Y h m G D A3 W;obtain⟨G,D⟩:=hcut;replace G:=dB G;replace D:=dB D;rename fA=>W;obtain⟨P,U,Y,h,m⟩:=G.o.H.c5;go_upto_if 33 with fail;go_cut [] (λK=>QG w K B R Q #[aB k,pA T,pA M,aB N,qA o (zA S) n] #[sA (yU k),sA ((k:Int)==1),sA (xU k),sA (kV k),sA J] lA/\aH K (Q+1) o S)
 case first=>
  obtain⟨A,z⟩|⟨A,rfl,rfl⟩:=A4.o
  .rw[A]at h |-
   replace z:=dB z;go_wp2_with fail;apply jC (z.o _ G.o.T);rintro x ⟨I,u⟩;replace G:=dB (G.o.call p O L u I);have Z:=G.o.R.cell 3;have c1:=G.o.R.free 3;go_wp2;go_meet;exact⟨G.o.set p O L 3 (aB N),(D.o.but u (by omega)).but ((sD.refl R x).setCell 3 _) (by omega)⟩
  rw[A]at h |-
  go_wp2;go_meet;exact⟨G.o,D.o⟩
 obtain⟨G,D⟩:=hcut;replace G:=dB G;rename fA=>V;obtain⟨x0,x1,x2,h,h⟩:=G.o.R.c5;obtain⟨m,z1,z2,z3,s⟩:=G.o.Z.c5;have h:=G.o.Z.free;go_wp2;have h:=λa b c d e=>((((((fB.refl (·=w.1.size) V).setCell (Ca rfl) 0 a).setCell (Ca rfl) 1 b).setCell (Ca rfl) 2 c).setCell (Ca rfl) 3 d).setCell (Ca rfl) 4 e)
 exact bodyPost_ret (v:=uA #[aB k,pA T,pA M,aB N,qA o (zA S) n]) (by simp[results,results76,go_sem,m,z1,z2,z3,s]) rfl ⟨o,n,rfl,(D.but ((((((sD.refl w.1.size V).setCell 0 _).setCell 1 _).setCell 2 _).setCell 3 _).setCell 4 _) (by omega)).mono (by omega),G.o.N.upToD ((h _ _ _ _ _).below G.o.N.size λq h e=>by omega)⟩
