import Derived.Test.YtejebmgbenmimaaGreatDoorJ21
set_option maxRecDepth 100000
set_option maxHeartbeats 8000000
set_option linter.defProp false
open Bool renaming false->gA,true->iA
open Option renaming some->fA,none->eA
open ByteArray renaming empty->pA
open List renaming length->cB
namespace Go.Proofs.YtejebmgbenmimaaGreatDoor
open Go renaming World->jA,Value->mA,TypeId->oA,Calls->lA
open Value renaming bool->vA,slice->uA,string->tA
open Obj renaming cells->aB
open Ending renaming returned->zA
open Go.RowKit Tryz
def MP{x c a:Int}{b:Bool}(h:dC x c a=b)(w:jA):bM 103 #[dB x,dB c,dB a] w (vA b):=h ▸ zD x c a w
def BI(L:aI)(w:jA):
 gF 144 #[.agg #[dB L.first,dB L.last,dB L.size]] w (vA (rL L)):=by
 have d:fB (zB w (w.alloc (aB #[dB L.first,dB L.last,dB L.size] 37))):=aC;cases h1:dC L.last 1 999999 with
 |false=>
  have E:fB (rL L=gA):=by show _=_;simp[rL,h1]
  have b:fB _:=h1;clear h1;go_enter func144,ntmps144;go_wp2_with fail;apply oC (MP b.o _);rintro a rfl;go_wp2;go_ret;exact⟨tB E.o.symm,d.o⟩
 |true=>
  have b:fB _:=h1;cases h2:dC L.first 1 L.last with
  |false=>
   have E:fB (rL L=gA):=by show _=_;simp[rL,h2]
   have c:fB _:=h2;clear h1 h2;go_enter func144,ntmps144;go_wp2_with fail;apply oC (MP b.o _);rintro a rfl;go_wp2_with fail;apply oC (MP c.o _);rintro a rfl;go_wp2;go_ret;exact⟨tB E.o.symm,d.o⟩
  |true=>
   have c:fB _:=h2;have E:fB (rL L=dC L.size 0 1000000000):=by show _=_;simp[rL,h1,h2]
   clear h1 h2;go_enter func144,ntmps144;go_wp2_with fail;apply oC (MP b.o _);rintro a rfl;go_wp2_with fail;apply oC (MP c.o _);rintro a rfl;go_wp2_with fail;apply oC (zD L.size 0 1000000000 _);rintro a rfl;go_wp2;go_ret;exact⟨tB E.o.symm,d.o⟩
structure xJ(α:Type) where
 m:Nat
 cells:α→List mA
 len:∀a,cB (cells a)=m
 part:jA→Nat→Nat→α→Prop
 keep:∀{w w':jA}{lo hi:Nat}{a:α},part w lo hi a→w.1.size≤w'.1.size→(∀g,lo≤g→g<hi→g<w.1.size→w'.heap[g]?=w.heap[g]?)→part w' lo hi a
 wide:∀{w:jA}{lo hi lo' hi':Nat}{a:α},part w lo hi a→lo'≤lo→hi≤hi'→part w lo' hi' a
def xJ.flat{α:Type}(K:xJ α)(a:List α):List mA:=a.flatMap K.cells
def xJ.flat_append{α:Type}(K:xJ α)(a b:List α):K.flat (a++b)=K.flat a++K.flat b:=by simp[xJ.flat]
def xJ.flat_get{α:Type}(K:xJ α):∀(l:List α)(i:Nat)(b:i<cB l)(j:Nat),j<K.m->(K.flat l)[i*K.m+j]?=(K.cells l[i])[j]?:=by
 intro l;unfold xJ.flat;induction l with
 |nil=>intro i b;exact absurd b (by simp)
 |cons x r d=>
  intro i b j c;cases i with
  |zero=>
   simp only[Xc,Nat.zero_mul,Ya,Eg];rw[Pe (by rw[K.len];exact c)]
  |succ i=>
   have:=d i (by simpa using b) j c;simp only[Xc,Ec];have a:=K.len x;have e:(i+1)*K.m+j-cB (K.cells x)=i*K.m+j:=by rw[a,Nat.succ_mul];omega
   rw[Uc (by rw[a,Nat.succ_mul];omega),e];exact this
def fO{α:Type}(K:xJ α)(w:jA)(b:Nat)(e:oA)(v:mA)(n:Nat)(d:List α):Prop:=
 w.ownsRow b e K.m v n (K.flat d)/\cB d=n/\∀y∈d,∃c a,b<=c/\a<=w.1.size/\(∀g,v.ownBlock=fA g->g<c\/a<=g)/\K.part w c a y
def fO.nil{α:Type}(K:xJ α)(w:jA)(b:Nat)(e:oA):fO K w b e (uA eA 0 0) 0 []:=
 ⟨jA.ownsRow_nil _ _ _ _,rfl,λy a=>by cases a⟩
def fO.row{α:Type}{K:xJ α}{w:jA}{b:Nat}{e:oA}{v:mA}{n:Nat}{i:List α}(h:fO K w b e v n i):∃a c,v=uA a n c:=by
 obtain⟨rfl,rfl⟩|⟨g,d,f,rfl,_⟩:=h.1.2;exact ⟨eA,0,rfl⟩;exact ⟨_,_,rfl⟩
def fO.lt{α:Type}{K:xJ α}{w:jA}{b:Nat}{e:oA}{v:mA}{n:Nat}{c:List α}(h:fO K w b e v n c):∀g,v.ownBlock=fA g->b<=g/\g<w.1.size:=λg a=>h.1.lt g a
def fO.turn{α:Type}{K:xJ α}{w j:jA}{S:Nat->Prop}{b:Nat}{e:oA}{v:mA}{n:Nat}{k:List α}(h:fO K w b e v n k)(a:jB S w j)(f:∀g,S g->g<b):fO K j b e v n k:=by
 obtain⟨d,l,m⟩:=h;refine⟨a.row d (λg i e=>by have:=(d.lt g i).1;have:=f g e;omega),l,λy t=>?_⟩;obtain⟨u,q,o,p,r,s⟩:=m y t;exact⟨u,q,o,Ua p a.size,r,K.keep s a.size λg i _ c=>a.block g c (λe=>by have:=f g e;omega)⟩
def fO.but{α:Type}{K:xJ α}{w a:jA}{B b:Nat}{e:oA}{v:mA}{n:Nat}{c:List α}(h:fO K w b e v n c)(i:uD B w a)(d:B<b):fO K a b e v n c:=
 h.turn (jB.but i) (λg f=>by rw[f];exact d)
def fO.snoc{α:Type}{K:xJ α}{wr w4 m:jA}{b f d k:Nat}{e:oA}{v:mA}{ys:List α}{y:α}
(n:m.ownsRow b e K.m (uA (cC f) (k+1) d) (k+1) (K.flat ys++K.cells y))
(h:fO K wr b e v k ys)(x:b<=wr.1.size)(i:w4.1.size<=m.1.size)(w:wr.1.size<=w4.1.size)
(p:∀g,g<wr.1.size->b<=g->v.ownBlock≠fA g->m.heap[g]?=wr.heap[g]?)(q:∀g,wr.1.size<=g->g<w4.1.size->m.heap[g]?=w4.heap[g]?)
(u:K.part w4 wr.1.size w4.1.size y)
(j:(v.ownBlock=fA f/\f<wr.1.size)\/w4.1.size<=f):fO K m b e (uA (cC f) (k+1) d) (k+1) (ys++[y]):=by
 obtain⟨G,E,F⟩:=h;refine⟨?_,by rw[Kb,E];rfl,λz c=>?_⟩
 .rw[K.flat_append];have e:K.flat [y]=K.cells y:=by simp[xJ.flat]
  rw[e];exact n
 rcases Ee.1 c with c|c
 .obtain ⟨D,B,r,A,t,C⟩:=F z c;refine⟨D,B,r,by omega,λg a=>?_,K.keep C (by omega) λg a l o=>p g o (by omega) (λe=>by have:=t g e;omega)⟩;simp only[mA.ownBlock,Qa]at a;subst a;obtain⟨h,s⟩|h:=j
  .exact t _ h
  exact La (by omega)
 rw[Uf]at c;subst c;refine⟨wr.1.size,w4.1.size,x,i,λg a=>?_,K.keep u i λg a l _=>q g a l⟩;simp only[mA.ownBlock,Qa]at a;subst a;obtain⟨_,s⟩|h:=j;exact Ca s;exact La h
def RS{α:Type}(K:xJ α)(w:jA)(d c:Nat)(a:nC)(b:List α):Prop:=
 b=[]\/∃g,a=cC g/\d<=g/\g<c/\g<w.1.size/\∀i(h:i<cB b),(∀j,j<K.m->w.cell? (iB g (i*K.m+j))=(K.cells b[i])[j]?)/\K.part w d c b[i]
def RS.keep{α:Type}{K:xJ α}{w w':jA}{c b:Nat}{a:nC}{k:List α}(h:RS K w c b a k)(n:w.1.size<=w'.1.size)(f:∀g,c<=g->g<b->g<w.1.size->w'.heap[g]?=w.heap[g]?):RS K w' c b a k:=by
 obtain h|⟨g,rfl,d,e,l,h⟩:=h;exact Ca h;refine La ⟨g,rfl,d,e,by omega,λi b=>⟨λj m=>?_,K.keep (h i b).2 n f⟩⟩;rw[jA.cell?_of_block (f g d e l)];exact(h i b).1 j m
def RS.wide{α:Type}{K:xJ α}{w:jA}{e b d c:Nat}{a:nC}{f:List α}(h:RS K w e b a f)(j:d<=e)(k:b<=c):RS K w d c a f:=by
 obtain h|⟨g,rfl,m,n,l,h⟩:=h;exact Ca h;exact La ⟨g,rfl,by omega,by omega,l,λi b=>⟨(h i b).1,K.wide (h i b).2 j k⟩⟩
def RS.z{α:Type}{K:xJ α}{w e:jA}{d c:Nat}{a:nC}{f:List α}(h:RS K w d c a f)(b:zB w e):RS K e d c a f:=
 h.keep b.size λg _ _ i=>b.block g i
def RS.at{α:Type}{K:xJ α}{w:jA}{d c:Nat}{a:nC}{b:List α}(h:RS K w d c a b){i:Nat}(e:i<cB b):
 ∃g,a=cC g/\g<w.1.size/\(∀j,j<K.m->w.cell? (iB g (i*K.m+j))=(K.cells b[i])[j]?)/\K.part w d c b[i]:=by grind [RS]
def fO.o{α:Type}{K:xJ α}{w:jA}{b:Nat}{e:oA}{a:nC}{n d:Nat}{q:List α}(h:fO K w b e (uA a n d) n q):RS K w b w.1.size a q:=by
 obtain⟨v,D,x⟩:=h;obtain⟨_,E⟩|⟨g,r,f,s,y,t,_,_,C,p⟩:=v.2;exact Ca (Nb.1 (by omega));simp only[mA.slice.injEq]at s;have c:=eB t;refine La ⟨g,s.1,y,c,c,λi u=>⟨λj A=>?_,?_⟩⟩
 .have l:i*K.m+j<n*K.m:=by
   have:(i+1)*K.m<=n*K.m:=Nat.mul_le_mul_right _ (by omega);rw[Nat.succ_mul]at this;omega
  rw[rB.cell (show rB w g f e from t) _,<-Yd,<-Jb l,p];exact K.flat_get q i u j A
 .obtain ⟨F,z,o,k,_,B⟩:=x _ (Gb u);exact K.wide B o k
def aAt:(prog.info? 190).map (λi=>(i.zero,i.size,i.bytes))=fA (fA (.agg #[tA pA,tA pA]),2,32):=by kernel_rfl
def aBn:mA->Nat
 |uA _ n _=>n
 |_=>0
def WO(B P N n:Nat)(w:jA)(h:bF w B P N)(c:N<=10000000)(f:1<=n)(d:n<=256):
 lA prog 15 #[.pointer (cC B),dB (n:Nat)] w λe a=>∃v:Nat,v<n/\e=zA (dB (v:Nat))/\bF a B P (N+1)/\uD B w a:=by
 by_cases b:2<=n
 .exact nD B P N n w h c b d
 refine (WN B n w (by omega)).mono ?_;rintro e a ⟨rfl,rfl⟩;exact⟨0,by omega,rfl,h.mono (by omega),uD.refl _ _⟩
def br(ls:List hC):∀(i:Nat)(h:i<cB ls),(wC ls)[i*2+1]?=fA (tA ls[i].V)/\(∀s,(wC ls).set (i*2) (tA s)=wC (ls.set i ⟨s,ls[i].V⟩))/\∀s,(wC ls).set (i*2+1) (tA s)=wC (ls.set i ⟨ls[i].N,s⟩):=by
 induction ls with
 |nil=>intro i h;exact absurd h (by simp)
 |cons l r f=>
  intro i h;have e:∀(x:hC)(q:List hC),wC (x::q)=tA x.N :: tA x.V::wC q:=λ_ _=>rfl;cases i with
  |zero=>exact⟨rfl,λ_=>rfl,λ_=>rfl⟩
  |succ i=>
   obtain⟨b,c,d⟩:=f i (by simpa using h);have a:(i+1)*2=i*2+1+1:=by omega
   simp only[e,a,Ga,Jd,b,c,d,Ec];exact⟨trivial,λ_=>trivial,λ_=>trivial⟩
section
variable {w:jA} {base g cv:Nat} {e:oA} {ls:List hC}
theorem YL(h:w.ownsRow base e 2 (uA (cC g) (cB ls) cv) (cB ls) (wC ls)):∃a,base<=g/\rB w g a e/\cB ls<=cv/\cv<=maxLen/\a.size=cv*2/\a.toList.take (cB ls*2)=wC ls:=by
 obtain⟨b,_⟩|⟨m,c,a,b,d,f,j,i,k,l⟩:=h.2;exact absurd b (by simp);simp only[mA.slice.injEq,Qa,Addr.mk.injEq,Cc,true_and]at b;obtain⟨rfl,rfl⟩:=b;exact⟨a,d,f,j,i,k,l⟩
theorem aGm(h:w.ownsRow base e 2 (uA (cC g) (cB ls) cv) (cB ls) (wC ls)){j:Nat}{u:mA}{ls':List hC}(b:(wC ls).set j u=wC ls'):(w.setCell (iB g j) u).ownsRow base e 2 (uA (cC g) (cB ls') cv) (cB ls') (wC ls'):=by
 obtain⟨a,c,d,m,i,k,l⟩:=YL h;have f:cB ls'=cB ls:=by have:=Kd List.length b;rw[Pd,wG,wG]at this;omega
 refine⟨wG _,La ⟨g,cv,a.setIfInBounds j u,rfl,c,heap_setCell_same w g j a e u d,by omega,i,by rw[Array.size_setIfInBounds];exact k,?_⟩⟩;rw[Jf,f,List.take_set,l,b]
theorem FH(h:w.ownsRow base e 2 (uA (cC g) (cB ls) cv) (cB ls) (wC ls))(i:Nat)(c:i<cB ls):w.cell? (iB g (i*2))=fA (tA ls[i].N)/\w.cell? (iB g (i*2+1))=fA (tA ls[i].V)/\(∀j,w.frozen? (iB g j)=gA)/\base<=g:=by
 obtain⟨a,d,f,_⟩:=YL h;obtain⟨_,_,_,b⟩:=mK h;exact⟨b _ _ (JJ ls i c),b _ _ (br ls i c).1,λj=>frozen_of_row w g j a _ f,d⟩
theorem aGl(h:w.ownsRow base e 2 (uA (cC g) (cB ls) cv) (cB ls) (wC ls))(i:Nat)(n:i<=cB ls):w.ownsRow base e 2 (uA (cC g) i cv) i (wC (ls.take i)):=by
 obtain⟨a,f,j,o,k,l,m⟩:=YL h;have b:cB (wC (ls.take i))=i*2:=by rw[wG,Hb];omega
 refine⟨b,La ⟨g,cv,a,rfl,f,j,by omega,k,l,?_⟩⟩;have c:wC ls=wC (ls.take i)++wC (ls.drop i):=by rw[<-cG,Za]
 have d:a.toList.take (i*2)=(a.toList.take (cB ls*2)).take (i*2):=by rw[List.take_take,Nat.min_eq_left (by omega)]
 rw[d,m,c,<-b,List.take_left]
end
def PR{ls:List hC}(h:zV ls)(i:Nat){l:hC}(a:l.N.size<=65/\l.V.size<=258):zV (ls.set i l):=by grind [zV]
def yh(w a:jA)(B P N:Nat)(e:Ending):Prop:=∃(g cv:Nat)(ls:List hC),e=zA (uA (cC g) (cB ls) cv)/\cB ls<=17/\zV ls/\a.ownsRow w.1.size 190 2 (uA (cC g) (cB ls) cv) (cB ls) (wC ls)/\bF a B P N/\uD B w a
structure QO(w W:World)(B P N:Nat)(ls:List hC)(g cv:Nat):Prop where
 C:bF W B P N
 U:uD B w W
 R:W.ownsRow w.1.size 190 2 (uA (cC g) (cB ls) cv) (cB ls) (wC ls)
 p:P≤w.1.size
 Z:zV ls
section
variable {w W W':jA} {B P N M g cv:Nat} {ls ls':List hC}
theorem QO.lt(h:QO w W B P N ls g cv):B<w.1.size/\w.1.size<=W.1.size/\w.1.size<=g:=⟨by have:=h.C.up;have:=h.p;omega,h.U.size,(h.R.lt g rfl).1⟩
theorem QO.call(h:QO w W B P N ls g cv)(b:bF W' B P M)(a:uD B W W'):QO w W' B P M ls g cv:=⟨b,h.U.trans a,sO h.R a h.lt.1,h.p,h.Z⟩
theorem QO.z(h:QO w W B P N ls g cv)(a:zB W W'):QO w W' B P N ls g cv:=h.call (h.C.z a) (uD.of a)
theorem QO.below(h:QO w W B P N ls g cv){b a:Nat}(c:Below w.1.size W W')(d:W'.ownsRow w.1.size 190 2 (uA (cC b) (cB ls') a) (cB ls') (wC ls'))(f:zV ls'):QO w W' B P N ls' b a:=⟨h.C.below (c.mono h.p),h.U.below_to c,d,h.p,f⟩
theorem QO.set(h:QO w W B P N ls g cv){j:Nat}{u:mA}(a:(wC ls).set j u=wC ls')(b:zV ls'):QO w (W.setCell (iB g j) u) B P N ls' g cv:=h.below (jD.setCell h.lt.2.2 _) (aGm h.R a) b
theorem QO.app(h:QO w W B P N ls g cv){b a:Nat}(l:hC)(f:l.N.size<=65/\l.V.size<=258)(d:jB (λi=>w.1.size<=i/\(mA.slice (cC g) (cB ls) cv).ownBlock=fA i) W W')(c:W'.ownsRow w.1.size 190 2 (uA (cC b) (cB ls+1) a) (cB ls+1) (wC ls++[tA l.N,tA l.V])):QO w W' B P N (ls++[l]) b a:=
 h.below (d.below h.lt.2.1 λi j e=>by omega) (by rw[cG,Kb];exact c) (VC h.Z f)
theorem QO.done(h:QO w W B P N ls g cv)(a:N<=M)(b:cB ls<=17):yh w W B P M (zA (uA (cC g) (cB ls) cv)):=⟨g,cv,ls,rfl,b,h.Z,h.R,h.C.mono a,h.U⟩
end
def xk(B P N:Nat)(w:jA)(base g cv:Nat)(ls:List hC)(h:bF w B P N)(m:N<=90000)(A:w.ownsRow base 190 2 (uA (cC g) (cB ls) cv) (cB ls) (wC ls))(Z:1<=cB ls)(h7:cB ls<=7)(o:zV ls):
 lA prog 51 #[.pointer (cC B),uA (cC g) (cB ls) cv] w λe w'=>yh w w' B P (N+100) e:=by
 obtain⟨ti,C,g0,I,J⟩:=EJ;have HI:fB (prog.info? 190=fA ti):=C;have m:=h.lt;have m:=gB (Vc h o);have z:=gB A;clear h A o C;go_enter func51,ntmps51;go_wp2_with(at_builtin;refine wpList_append_lies _ rfl _ _ _ rfl w.1.size 190 ti _ 2 32 underlying129 HI.o g0 I J rfl (by omega) (uA (cC w.1.size) 0 0) 0 [] rfl (by exact jA.ownsRow_made w #[] 0 (Ia _) (by simp[maxLen]) (by simp)) (iB g 0) (cB ls) cv (wC ls) rfl (wG ls) (by exact fw (lC z.o aC)) (by exact qS ls) (by omega) (by simp[maxLen];omega) (by omega) (by simp) (w.1.size+1) (by simp) ?_;intro y f w1 l o X C);rw[Ya,Mb]at l;have D:zB w w1:=(uF w _).grown o (by simp) (λq G=>by simp[mA.ownBlock]at G;omega);have H:fB (QO w w1 B P N ls y f):=⟨m.o.1.z D,uD.of D,l,m.o.1.up.2,m.o.2⟩
 clear l o X C D z m;refine(WO B P N (cB ls) w1 H.o.C (by omega) Z (by omega)).mono ?_;rintro e w2 ⟨i,G,rfl,m,k⟩;replace H:=gB (H.o.call m k);clear m k;go_wp2_with fail;refine(nD B P (N+1) 7 w2 H.o.C (by omega) (by omega) (by omega)).mono ?_;rintro e O ⟨t,o,rfl,m,k⟩;replace H:=gB (H.o.call m k);have C:(i:Int)<(cB ls:Nat):=by omega
 have p:=H.o.Z ls[i] (Gb G);have F:=gB (br ls i G);have R:=H.o.lt;clear m k;have E:t=0\/(t=1\/t=2)\/t=3\/t=4\/t=5\/t=6:=by omega
 clear o;obtain rfl|W|rfl|rfl|rfl|rfl:=E
 .go_wp2_with fail;refine(tV ⟨#[110]⟩ 1 64 O (by decide) (by omega) (by omega)).mono ?_;rintro e w4 ⟨a,I,rfl,k⟩;replace H:=gB (H.o.z k);clear k;go_wp2_with fail;refine(tV ⟨#[110]⟩ 1 65 w4 (by decide) (by omega) (by omega)).mono ?_;rintro e S ⟨b,J,rfl,k⟩;replace H:=gB (H.o.z k);clear k;go_wp2_with fail;have U:fB (eP (S.alloc (aB ([⟨#[]⟩,⟨#[57,97]⟩,⟨#[97,45,98]⟩,⟨#[106,111,98]⟩,a,b,⟨#[195,169]⟩].map mA.string).toArray 9)) S.1.size 7 65):=gT S _ 65 _ 7 rfl (by
   simp only[List.all_cons,List.all_nil,Bool.and_true,Sa,Ab];refine⟨by decide,by decide,by decide,by decide,by omega,by omega,by decide⟩)
  simp only[Fc,Ag]at U;have o:=H.o.lt;replace H:=gB (H.o.z (uF S (aB #[tA ⟨#[]⟩,tA ⟨#[57,97]⟩,tA ⟨#[97,45,98]⟩,tA ⟨#[106,111,98]⟩,tA a,tA b,tA ⟨#[195,169]⟩] 9)));refine(nD B P (N+2) 7 _ H.o.C (by omega) (by omega) (by omega)).mono ?_;rintro e w6 ⟨v,hv,rfl,m,k⟩;obtain⟨s,o,hs⟩:=(U.o.but k (by omega)).at hv;replace H:=gB (H.o.call m k);obtain⟨y0,y1,o,_⟩:=FH H.o.R i G;have k0:=o (i*2);have hv':(v:Int)<7:=by omega
  clear m k U o;go_wp2;have:=(H.o.set (F.o.2.1 s) (PR H.o.Z i ⟨hs,p.2⟩)).done (M:=N+100) (by omega) (by rw[Pd];omega);rw[Pd]at this;exact bodyPost_ret (by simp[results,results51,go_sem]) rfl this
 .have c0:¬((t:Int)=0):=by omega
  have U:(t:Int)=1\/(t:Int)=2:=by omega
  clear W;obtain c|c:=U
  all_goals
   rw[c];clear c c0;go_wp2_with fail;refine(WC B P (N+2) O H.o.C (by omega)).mono ?_;rintro e w4 ⟨W,U,rfl,m,k⟩;replace H:=gB (H.o.call m k);obtain⟨y0,y1,o,_⟩:=FH H.o.R i G;have k1:=o (i*2+1);clear m k o;go_wp2;have:=(H.o.set (F.o.2.2 W) (PR H.o.Z i ⟨p.1,U⟩)).done (M:=N+100) (by omega) (by rw[Pd];omega);rw[Pd]at this;exact bodyPost_ret (by simp[results,results51,go_sem]) rfl this
 .obtain ⟨x0,x1,xf,hg1⟩:=FH H.o.R i G;have o:=H.o.R;go_wp2_with(at_builtin;refine gI rfl _ _ rfl underlying129 aAt rfl (by omega) (by omega) (v:=uA (cC y) (cB ls) f) rfl o rfl rfl (cs:=#[tA ls[i].N,tA ⟨#[119]⟩]) rfl (by simp[mA.oneCell']) (by omega) (by omega) ?_;intro Q U S U W _);have:=(H.o.app ⟨ls[i].N,⟨#[119]⟩⟩ ⟨p.1,by show(1:Nat)<=258;omega⟩ W.o U.o).done (M:=N+100) (by omega) (by simp;omega);simp only[Kb,List.length_singleton]at this;exact bodyPost_ret (by simp[results,results51,go_sem]) rfl this
 .obtain ⟨x0,x1,xf,hg1⟩:=FH H.o.R i G;have d:=xf (i*2+1);clear xf;go_wp2;have:=(H.o.set (F.o.2.2 ⟨#[]⟩) (PR H.o.Z i ⟨p.1,by show(0:Nat)<=258;omega⟩)).done (M:=N+100) (by omega) (by rw[Pd];omega);rw[Pd]at this;exact bodyPost_ret (by simp[results,results51,go_sem]) rfl this
 .obtain ⟨Y,hgl,_,n⟩:=mK H.o.R;obtain⟨_,_,_,_,W,_⟩:=YL H.o.R;have U:fB (gS O.drew (if f=i+1 then cC y else fA (iB y ((i+1)*2))) (cB ls-(i+1)) (wC (ls.drop (i+1)))):=gx (w:=O.drew) n (i+1) Y;have T:fB (O.drew.ownsRow w.1.size 190 2 (uA (cC y) i f) i (wC (ls.take i))):=aGl H.o.R i (by omega);have HL:fB (cB (wC (ls.drop (i+1)))=(cB ls-(i+1))*2):=by show _=_;rw[wG,Rc]
  clear n;have hic:i<=f:=by omega
  have hwr:IntKind.i64.wrap ((i:Int)+1)=(i:Int)+1:=by
   simp only[IntKind.wrap,IntKind.bits,IntKind.signed];simp;omega
  have hp0:(0:Int)<=(i:Int)+1:=by omega
  have hp1:(i:Int)+1<=(cB ls:Nat):=by omega
  have hp2:((i:Int)+1).toNat=i+1:=by omega
  have hcm2:(f:Int)<=9223372036854775807:=by unfold maxLen at W;omega
  go_wp2_with fail;go_region_law (refine yI _ rfl (.tmp 59) (.tmp 63) 129 rfl w.1.size 190 ti _ 2 32 underlying129 HI.o g0 I J rfl (by omega) y i f (wC (ls.take i)) (by simp[Act.eval,Act.put]) (by exact T.o) (if f=i+1 then cC y else fA (iB y ((i+1)*2))) (cB ls-(i+1)) (f-(i+1)) (wC (ls.drop (i+1))) (by simp[Act.eval,Act.put]) HL.o (by exact U.o) (qS _) (by simp[maxLen];omega) (by omega) (by simpa using R.2.1) ?_;intro Q I S r I _ _ _ _)
  all_goals go_wp2
  all_goals
   have J:cB (ls.take i++ls.drop (i+1))=i+(cB ls-(i+1)):=by rw[Kb,Hb,Rc];omega
   rw[<-cG,<-J]at r;have:=(H.o.below (((Below.refl _ O).drew).trans I) r λx I=>(Ee.1 I).elim (λh=>H.o.Z x (Ce h)) λh=>H.o.Z x (Ng h)).done (M:=N+100) (by omega) (by omega);rw[J]at this;exact bodyPost_ret (by simp[results,results51,go_sem]) rfl this
 go_wp2_with fail;refine(nD B P (N+2) 2 O H.o.C (by omega) (by omega) (by omega)).mono ?_;rintro e w4 ⟨v4,h,rfl,m,k⟩;replace H:=gB (H.o.call m k);have h:(v4:Int)<2:=by omega
 clear m k F p G C;go_wp2;go_loopw [1] (λK wr=>∃(j:List hC)(Q u:Nat),K=uA (cC Q) (cB j) u/\cB j<=17/\fB (QO w wr B P (N+3) j Q u)) (λK _=>20-aBn K)
 case atStart=>exact⟨ls,y,f,rfl,by omega,H.o⟩
 case round=>
  clear H Z h7;obtain⟨j,Q,u,rfl,h,H⟩:=hrel;by_cases m:(cB j:Int)<16+(v4:Int)
  .have hal2:cB j<=16:=by omega
   obtain⟨L,C,m⟩:∃L:vB,L.size=1/\(convert 22 9 (uA (cC wr.1.size) 1 1)).run prog (wr.alloc (aB #[.int .u8 (97+(cB j:Nat))] 5))=.ok (tA L) (wr.alloc (aB #[.int .u8 (97+(cB j:Nat))] 5)):=
    ⟨strOfNums [97+((cB j:Nat):Int)],BK _,MX (B:=0) (ys:=[97+((cB j:Nat):Int)]) ⟨by simp,.inr ⟨wr.1.size,1,#[.int .u8 (97+(cB j:Nat))],rfl,Oa _,heap_alloc_new _ _,Ia _,by simp[maxLen],by simp,by simp⟩⟩⟩
   have m:fB (L.size=1):=C;have G:L.size<=1:=by omega
   have G:=gB (H.o.z (uF wr (aB #[.int .u8 (97+((cB j:Nat):Int))] 5)));have o:=G.o.R;have hs:=H.o.lt;clear C;go_wp2_with(at_builtin;refine gI rfl _ _ rfl underlying129 aAt rfl (by omega) (by omega) (v:=uA (cC Q) (cB j) u) rfl o rfl ?_ rfl ?_ (by omega) ?_ ?_)
   .simp
   .simp[mA.oneCell']
   .simp;omega
   intro o V w6 C I _;go_wp2;exact⟨⟨j++[⟨⟨#[110]⟩++L,⟨#[118]⟩⟩],o,V,by simp,by simp;omega,gB (G.o.app ⟨⟨#[110]⟩++L,⟨#[118]⟩⟩ ⟨by rw[Ka,m.o];show(2:Nat)<=65;omega,by show(1:Nat)<=258;omega⟩ I.o C.o)⟩,by simp only[aBn];omega⟩
  go_wp2;exact bodyPost_ret (by simp[results,results51,go_sem]) rfl (H.o.done (by omega) h)
def og(a:List hC)(c:Nat):Prop:=cB a<=17/\cB a<=c/\zV a
def xU(w:jA)(d c:Nat)(a:nC)(b:List hC):Prop:=b=[]\/∃g o,a=fA (iB g o)/\d<=g/\g<c/\g<w.1.size/\dP w g o b
def xU.keep{w w':jA}{c b:Nat}{a:nC}{f:List hC}(h:xU w c b a f)(n:w.1.size<=w'.1.size)(m:∀g,c<=g->g<b->g<w.1.size->w'.heap[g]?=w.heap[g]?):xU w' c b a f:=by
 obtain h|⟨g,o,rfl,d,e,k,h⟩:=h;exact Ca h;have l:∀j,w'.cell? (iB g j)=w.cell? (iB g j):=λj=>jA.cell?_of_block (m g d e k);exact La ⟨g,o,rfl,d,e,by omega,λi b=>by simp only[l];exact h i b⟩
def xU.wide{w:jA}{e d c b:Nat}{a:nC}{f:List hC}(h:xU w e d a f)(g:c<=e)(i:d<=b):xU w c b a f:=by grind [xU]
def xU.B{w:jA}{d c:Nat}{a:nC}{b:List hC}(h:xU w d c a b):vD w a b:=by grind [xU,vD]
def qE.inR{w:jA}{b:Nat}{a:nC}{c:List hC}(h:qE w b a c):xU w b w.1.size a c:=by grind [qE,xU]
def ir(v:Int):Prop:=-9223372036854775808<=v/\v<=9223372036854775807
def aKh:xJ XV where
 m:=2
 cells:=λy=>[uA y.a (cB y.x.B) y.c,dB y.x.bits]
 len:=λ_=>rfl
 part:=λw i e y=>xU w i e y.a y.x.B/\og y.x.B y.c/\ir y.x.bits
 keep:=λh g f=>⟨h.1.keep g f,h.2⟩
 wide:=λh b d=>⟨h.1.wide b d,h.2⟩
structure QV where
 K:Int
 T:vB
 R:vB
 U:Int
 ys:List XV
 a:nC
 c:Nat
def aHq(k a:Int)(t m:vB)(b:List XV):Prop:=(wU k=gA->t.size=0)/\(vU k=gA->m.size=0)/\(iV k=gA->a=0)/\(k≠1->b=[])
def QV.good(q:QV):Prop:=(1<=q.K/\q.K<=6)/\q.T.size<=16/\q.R.size<=16/\(-100<=q.U/\q.U<=100)/\cB q.ys<=5/\aHq q.K q.U q.T q.R q.ys
def QV.val(q:QV):mA:=.agg #[dB q.K,tA q.T,tA q.R,dB q.U,uA q.a (cB q.ys) q.c]
def LC:xJ QV where
 m:=5
 cells:=λq=>[dB q.K,tA q.T,tA q.R,dB q.U,uA q.a (cB q.ys) q.c]
 len:=λ_=>rfl
 part:=λw i e q=>RS aKh w i e q.a q.ys/\q.good
 keep:=λh g f=>⟨h.1.keep g f,h.2⟩
 wide:=λh b d=>⟨h.1.wide b d,h.2⟩
def ME(c:kC):Prop:=(1<=c.w/\c.w<=8)/\(1<=c.tl/\c.tl<=7)/\(1<=c.ml/\c.ml<=5)/\(1<=c.sh/\c.sh<=5)/\(0<=c.ha/\c.ha<=2)/\(100<=c.sg/\c.sg<=299)
def iu(w:jA)(g m:Nat):Prop:=∃(a:Array mA)(t:oA),rB w g a t/\∀j,j<m->∃z:Int,a[j]?=fA (dB z)/\ir z
def iu.but{w d:jA}{g m B:Nat}(h:iu w g m)(f:uD B w d)(b:g≠B):iu d g m:=by
 obtain⟨a,t,c,e⟩:=h;exact⟨a,t,(f.block g (eB c) b).trans c,e⟩
def iu.at{w:jA}{g m:Nat}(h:iu w g m){j:Nat}(d:j<m):∃z:Int,w.cell? (iB g j)=fA (dB z)/\ir z:=by
 obtain⟨a,t,b,c⟩:=h;obtain⟨s,e,f⟩:=c j d;exact⟨s,by rw[b.cell];exact e,f⟩
def aCv(w:jA)(L:List Int)(t:oA)(m:Nat)(b:m=cB L)(h:(L.all λz=>decide (-9223372036854775808<=z/\z<=9223372036854775807))=iA):iu (w.alloc (aB (L.map (mA.int .i64)).toArray t)) w.1.size m:=by
 subst b;refine⟨_,t,heap_alloc_new _ _,λj a=>⟨L[j],by simp[a],?_⟩⟩;have:=Ke.1 h L[j] (Gb a);simpa[ir]using this
def RV(w:jA)(B:Nat)(s:vB):Prop:=ZW w B 181 ⟨s,gA⟩
def uD.upToD{g:Nat}{w c d:jA}(h:uD g w c)(a:Below w.1.size c d):uD g w d:=
 ⟨a.os.trans h.os,a.tape.trans h.tape,a.output.trans h.output,Ua h.size a.size,λk b e=>(a.block k b).trans (h.block k b e)⟩
def ET(p:mA)(w:jA):bM 94 #[p,vA iA] w (.tuple #[]):=by
 go_enter func94,ntmps94;go_wp2;go_end0;exact⟨rfl,rfl⟩
section
variable {w:jA} {B k:Nat} {v:Int} {t q:vB} {xs:List wF}
theorem jV(c:RV w B (uB k v++q))(g:k<=8)(d:vQ (uX (uB k v).data.toList)=v)(i:q.size<=1000000):
 lA prog 168 #[.pointer (cC B),dB (k:Nat)] w λe f=>e=zA (dB v)/\RV f B q/\uD B w f:=by
 have a:=gB (CO (k:=k) c g (by rw[Ka,oB];omega));rw[er (k:=k) (v:=v) (q:=q) rfl]at a;dsimp only at a;rw[d]at a;clear c d;go_enter func168,ntmps168;go_wp2_with fail;apply oC a.o;intro h b;have j:gD h B 1 (vA gA):=rB.cell b.1 1;replace b:=gB b;go_wp2_with fail;refine tD (ET _ _) ?_;go_wp2;go_ret;exact⟨rfl,b.o⟩
theorem FQ(c:RV w B (uB k (t.size:Nat)++t++q))(g:k<=2)(d:t.size<256 ^ k)(i:t.size+q.size<=1000000):
 lA prog 170 #[.pointer (cC B),dB (k:Nat)] w λe f=>e=zA (tA t)/\RV f B q/\uD B w f:=by
 have b:=gB (QF (k:=k) c g (by simp only[Ka,oB];omega));rw[IN (k:=k) (t:=t) (q:=q) (Wa ..) d]at b;dsimp only at b;clear c d;go_enter func170,ntmps170;go_wp2_with fail;apply oC b.o;intro h a;have j:gD h B 1 (vA gA):=rB.cell a.1 1;replace a:=gB a;go_wp2_with fail;refine tD (ET _ _) ?_;go_wp2;go_ret;exact⟨rfl,a.o⟩
theorem YR(N:RV w B (uB 2 (cB xs:Nat)++(kE xs++q)))(m:aIe xs)(P:∀i(h:i<cB xs),VP xs[i].bits)(o:cB xs<=500)(L:(kE xs++q).size<=1000000):
 lA prog 171 #[.pointer (cC B)] w λe a=>∃o c,e=zA (uA o (cB xs) c)/\vG a w.1.size o xs/\RV a B q/\uD B w a:=by
 have o:=eB N;have Z:=gB (jV N (by omega) (by rw[pT 2 _ (by omega),eJ (by omega)]) L);have t:fB (∀(k:Nat)(h:k<cB xs) W,RV W B (kE (xs.drop k)++q)->lA prog 233 #[.pointer (cC B)] W λe a=>∃g c,e=zA (.slice (cC g) (cB xs[k].B) c)/\a.ownsRow W.1.size 190 2 (.slice (cC g) (cB xs[k].B) c) (cB xs[k].B) (wC xs[k].B)/\RV a B (uB 8 xs[k].bits++(kE (xs.drop (k+1))++q))/\uD B W a):=λk h W O=>by
  have J:=Kd ByteArray.size (dI (xs.take k) (xs.drop k));rw[Za]at J;simp only[Ka]at J L;have e:kE (xs.drop k)++q=uB 1 (cB xs[k].B:Nat)++(pD xs[k].B++(uB 8 xs[k].bits++(kE (xs.drop (k+1))++q))):=by
   rw[Cb h,kE,jW,bI];simp only[Wa]
  have:=OO O (by dsimp only;rw[Ka];omega);rw[er (k:=1) (r:=⟨kE (xs.drop k)++q,gA⟩) e]at this;dsimp only at this;obtain⟨u,o⟩:=m k h;rw[pT 1 _ (by omega),YI (r:=⟨pD xs[k].B++(uB 8 xs[k].bits++(kE (xs.drop (k+1))++q)),gA⟩) rfl (λi R=>⟨by have:=(o i R).1;omega,by have:=(o i R).2;omega⟩) (cB xs[k].B) (Ia _),Rb,Kg]at this;rw[show pD ([]:List hC)=pA from rfl,tr]at this;exact this
 have G:fB (∀(k:Nat)(h:k<cB xs) W,RV W B (uB 8 xs[k].bits++(kE (xs.drop (k+1))++q))->lA prog 168 #[.pointer (cC B),dB 8] W λe a=>e=zA (dB xs[k].bits)/\RV a B (kE (xs.drop (k+1))++q)/\uD B W a):=λk h W O=>jV (k:=8) O (by omega) (fY _ (P k h)) (by
  have J:=Kd ByteArray.size (dI (xs.take (k+1)) (xs.drop (k+1)));rw[Za]at J;simp only[Ka]at J L |-
  omega)
 clear m P L N;go_enter func171,ntmps171;go_wp2_with fail;apply oC Z.o;intro w1 u;replace u:=gB u;clear Z;go_wp2;go_loopw [3,6] (λV i wr=>∃k:Nat,k<=cB xs/\i=dB k/\fB (zX wr w.1.size 132 V k (xs.take k))/\fB (RV wr B (kE (xs.drop k)++q))/\fB (uD B w wr)) (λ_ i _=>cB xs-(intOf i).toNat)
 case atStart=>exact⟨0,Oa _,rfl,zX.nil _ _ _,u.o.1,u.o.2⟩
 case round=>
  clear u;obtain⟨k,m,rfl,z,b,f⟩:=hrel;by_cases n:k<cB xs
  .have P1:=gB (t.o k n);have o:=gB (G.o k n);have t:fB (xs.take (k+1)=xs.take k++[⟨xs[k].B,xs[k].bits⟩]):=by show _=_;rw[Pa n]
   generalize xs[k].B=ls at *;generalize xs[k].bits=bi at *;obtain⟨T,Y,j,l,A,C⟩:=z.o;have p:=λg d=>j.lt g d;have K:=gB (⟨j,l,A,C⟩:_/\_/\_/\_);have U:fB (cB Y=k):=by show _=_;have:=Kd List.length l;rw[Xa,Hb]at this;omega
   have m:=f.o.size;clear j l A C z;go_wp2_with fail;refine(P1.o _ b.o).mono ?_;rintro e w2 ⟨m,m,rfl,F,G,D⟩;have y:=gB (Vc F (Vc G D));clear F G D P1 b;go_wp2_with fail;apply oC (o.o _ y.o.2.1);rintro X ⟨H,m⟩;have S:=gB (fv y.o.1);have s:=gB (Vc (zJ (sO y.o.1 m (by omega))) (Vc H (y.o.2.2.trans m)));have I:=s.o.2.2.size;clear H m o y;go_wp2_with(at_builtin;refine gI rfl _ _ rfl underlying45 cz rfl (by omega) (by omega) (v:=u3) rfl ((jB.but s.o.2.2).row K.o.1 (λg d e=>by have:=(p g d).1;omega)) rfl rfl rfl (by simp[mA.oneCell']) (by omega) (by omega) ?_;intro m m m G M J);have E:∀g,g<X.1.size->u3.ownBlock≠fA g->m.heap[g]?=X.heap[g]?:=λg d o=>M.o.block g d λe=>o e.2;refine⟨⟨k+1,by omega,by go_num,?_,M.o.blk s.o.2.1 (λe=>by omega),(f.o.trans s.o.2.2).upToD (M.o.below (by omega) λi R e=>by omega)⟩,by simp[intOf];omega⟩;show zX _ _ _ _ _ _;rw[t.o];exact zX.snoc (wr:=wr) (w4:=X) (v:=u3) (T:=T) (ys:=Y) (x:=⟨ls,bi⟩) G.o K.o.2.1 U.o K.o.2.2.1 K.o.2.2.2 (by omega) (λg d P o=>(E g (by omega) o).trans (s.o.2.2.block g d (by omega))) (λg d Q=>E g Q (λe=>by have:=(p _ e).2;omega)) s.o.1 S.o (J.o.elim (λh=>Ca ⟨h,(p _ h).2⟩) λh=>La (by omega)) I
  obtain rfl:k=cB xs:=by omega
  rw[Rb]at z;rw[Kg]at b;obtain⟨h,rc,rfl⟩:=z.o.row;go_wp2;go_ret;exact⟨h,rc,rfl,z.o.own rfl,by simpa[kE]using b.o,f.o⟩
end
structure QG(w W:World)(B R Q:Nat)(cs sh:Array Value)(s:vB):Prop where
 Z:rB W w.1.size #[dB 0,tA pA,tA pA,dB 0,uA eA 0 0] 47
 R:rB W R cs 47
 H:rB W Q sh 185
 T:RV W B s
 N:uD B w W
section
variable {w W W':jA} {B R Q:Nat} {cs sh:Array mA} {s s':vB}
theorem QG.call(h:QG w W B R Q cs sh s)(c:B<w.1.size)(e:w.1.size<R)(d:R<Q)(a:uD B W W')(b:RV W' B s'):QG w W' B R Q cs sh s':=
 ⟨h.Z.but a (by omega),h.R.but a (by omega),h.H.but a (by omega),b,h.N.trans a⟩
theorem QG.set(h:QG w W B R Q cs sh s)(c:B<w.1.size)(b:w.1.size<R)(d:R<Q)(i:Nat)(v:mA):QG w (W.setCell (iB R i) v) B R Q (cs.setIfInBounds i v) sh s:=by
 have a:uD R W (W.setCell (iB R i) v):=(uD.refl R W).setCell i v;exact⟨h.Z.but a (by omega),h.R.set i v,h.H.but a (by omega),rB.but h.T a (by omega),h.N.upToD (jD.setCell (by simpa using Vg b) v)⟩
end
def XI{c:Prop}[Decidable c]{x y z:vB}(h:(if c then x else pA)++y=z):c/\z=x++y\/¬c/\z=y:=by
 by_cases a:c
 .rw[Ma a]at h;exact Ca ⟨a,h.symm⟩
 rw[Ja a,tr]at h;exact La ⟨a,h.symm⟩
def aCr{B:Nat}{r:fH}{w:jA}(h:VR r)(m:RV w B (oK r))(Z:eR w)(U:0≠B):
 lA prog 93 #[.pointer (cC B)] w λe C=>∃o n,e=zA (.agg #[dB r.K,tA r.T,tA r.R,dB r.U,uA o (cB r.P) n])/\vG C w.1.size o r.P/\uD B w C:=by
 have p:=eB m;obtain⟨s,q1,q2,q3,q4,q5,q6,q7,q8⟩:=h.ok;have G:=h.sz;have hn:=h.U;have u:=h.bits;have I:∀b:vB,b.size=0->b=pA:=λb u=>by simp_all
 obtain⟨k,T,M,N,S⟩:=r;obtain⟨k,rfl⟩:=Yf (show 0<=k by dsimp only at s;omega);dsimp only at *;clear h;rw[oK]at m G;dsimp only at m G;generalize e3:(if iV (k:Int)=iA then uB 8 N else pA)=s at *;generalize J:(if vU (k:Int)=iA then eG M else pA)++s=H at *;generalize O:(if (k:Int)=1 then uB 2 (cB S:Nat)++kE S else pA)++H=r1 at *;generalize Y:(if wU (k:Int)=iA then vM T else pA)++r1=h at *;have z1:=Kd ByteArray.size O;have z2:=Kd ByteArray.size J;have z3:=Kd ByteArray.size Y;simp only[Ka,oB]at z1 z2 z3 G;have H0:=gB (λW(E:RV W B (uB 1 (k:Nat)++h))=>jV (k:=1) E (by omega) (by rw[pT 1 _ (by omega),eJ (by omega)]) (by omega));have A1:fB (wU k=iA/\(∀W,RV W B h->lA prog 170 #[.pointer (cC B),dB 1] W λe C=>e=zA (tA T)/\RV C B r1/\uD B W C)\/wU k=gA/\T=pA/\h=r1):=
  (XI Y).imp (fun⟨a,b⟩=>⟨a,λW E=>FQ (k:=1) (b ▸ E) (by omega) (by omega) (by omega)⟩) fun⟨a,b⟩=>have a:=Yc.2 a;⟨a,I _ (q1 a),b⟩
 have A2:fB ((k:Int)=1/\(∀W,RV W B r1->lA prog 171 #[.pointer (cC B)] W λe C=>∃o n,e=zA (uA o (cB S) n)/\vG C W.1.size o S/\RV C B H/\uD B W C)\/¬(k:Int)=1/\S=[]/\r1=H):=
  (XI O).imp (fun⟨a,b⟩=>⟨a,λW E=>YR (by rw[b,Wa]at E;exact E) q8 u q7 (by rw[Ma a]at z1;simp only[Ka]at z1 |-;omega)⟩) fun⟨a,b⟩=>⟨a,q4 a,b⟩
 have A3:fB (vU k=iA/\(∀W,RV W B H->lA prog 170 #[.pointer (cC B),dB 2] W λe C=>e=zA (tA M)/\RV C B s/\uD B W C)\/vU k=gA/\M=pA/\H=s):=
  (XI J).imp (fun⟨a,b⟩=>⟨a,λW E=>FQ (k:=2) (b ▸ E) (by omega) (by omega) (by omega)⟩) fun⟨a,b⟩=>have a:=Yc.2 a;⟨a,I _ (q2 a),b⟩
 have A4:fB (iV k=iA/\(∀W,RV W B s->lA prog 168 #[.pointer (cC B),dB 8] W λe C=>e=zA (dB N)/\RV C B pA/\uD B W C)\/iV k=gA/\N=0/\s=pA):=
  (XI (y:=pA) ((zb _).trans e3)).imp (fun⟨a,b⟩=>⟨a,λW E=>jV (k:=8) (b ▸ E) (by omega) (fY _ hn) (Oa _)⟩) fun⟨a,b⟩=>have a:=Yc.2 a;⟨a,q3 a,b⟩
 have HB:=gB m;have HT:=gB Z;clear m Z Y O J e3 z1 z2 z3 G hn u q1 q2 q3 q4 q5 q6 q7 q8 I;go_enter func93,ntmps93;go_wp2_with fail;apply oC (H0.o _ (rB.z HB.o aC));rintro w1 ⟨I,u⟩;have b1:=(uD.of (uF w (aB #[dB 0,tA pA,tA pA,dB 0,uA eA 0 0] 47))).trans u;have Z:=gB (rB.but (rB.new w #[dB 0,tA pA,tA pA,dB 0,uA eA 0 0] 47) u (by omega));have O:=eB Z.o;go_wp2_with fail;refine oC (TQ (k:=(k:Int)) (by omega) _) ?_;intro J F;have X:=gB ((rB.new w1 #[dB k,tA pA,tA pA,dB 0,uA eA 0 0] 47).z F);have Y:=b1.trans (uD.of (xB aC F));go_wp2_with fail;refine tD (ET _ _) ?_;have t:=λj m=>(HT.o.but Y U).2 k j (by omega) m;have f:gD J 0 (k*5) (vA (wU k)):=t 0 (by omega);have g:gD J 0 (k*5+1) (vA ((k:Int)==1)):=t 1 (by omega);have i:gD J 0 (k*5+2) (vA (vU k)):=t 2 (by omega);have l:gD J 0 (k*5+3) (vA (iV k)):=t 3 (by omega);have m:gD J 0 (k*5+4) (vA (xh k 4)):=t 4 (by omega);have x0:=X.o.cell 0;have L:=eB X.o;clear t;go_upto_region 4 with fail;have G:fB (QG w (J.alloc (aB #[vA (wU k),vA ((k:Int)==1),vA (vU k),vA (iV k),vA (xh k 4)] 185)) B w1.1.size J.1.size #[dB k,tA pA,tA pA,dB 0,uA eA 0 0] #[vA (wU k),vA ((k:Int)==1),vA (vU k),vA (iV k),vA (xh k 4)] h):=
  ⟨(Z.o.z (xB aC F)).alloc _,X.o.alloc _,rB.new _ _ _,rB.alloc (rB.z I (xB aC F)) _,Y.trans (uD.of aC)⟩
 clear f g i l m x0 X Z Y b1 u F I H0 HB HT;generalize J.alloc (aB #[vA (wU k),vA ((k:Int)==1),vA (vU k),vA (iV k),vA (xh k 4)] 185)=W at *;generalize J.1.size=Q at *;generalize w1.1.size=R at *;clear w1 J;generalize xh k 4=J at *;obtain⟨P,U,Y,h,m⟩:=G.o.H.c5;go_upto_if 18 with fail;go_cut [] (λK=>QG w K B R Q #[dB k,tA T,tA pA,dB 0,uA eA 0 0] #[vA (wU k),vA ((k:Int)==1),vA (vU k),vA (iV k),vA J] r1)
 case first=>
  obtain⟨A,z⟩|⟨A,rfl,rfl⟩:=A1.o
  .rw[A]at P |-
   replace z:=gB z;go_wp2_with fail;apply oC (z.o _ G.o.T);rintro x ⟨I,u⟩;replace G:=gB (G.o.call p O L u I);have Z:=G.o.R.cell 1;have c1:=G.o.R.free 1;go_wp2;go_meet;exact G.o.set p O L 1 (tA T)
  rw[A]at P |-
  go_wp2;go_meet;exact G.o
 clear P U Y h m G A1 W;replace G:=gB hcut;clear hcut;rename jA=>W;obtain⟨P,U,Y,h,m⟩:=G.o.H.c5;have E:=eB G.o.H;go_upto_if 23 with fail;go_cut [] (λK=>∃o n,QG w K B R Q #[dB k,tA T,tA pA,dB 0,uA o (cB S) n] #[vA (wU k),vA ((k:Int)==1),vA (vU k),vA (iV k),vA J] H/\vG K (Q+1) o S)
 case first=>
  obtain⟨A,z⟩|⟨A,rfl,rfl⟩:=A2.o
  .rw[Lg.2 A]at U |-
   replace z:=gB z;go_wp2_with fail;refine(z.o _ G.o.T).mono ?_;rintro e x ⟨o,n,rfl,H,I,u⟩;replace G:=gB (G.o.call p O L u I);have Z:=G.o.R.cell 4;have c1:=G.o.R.free 4;go_wp2;go_meet;exact⟨o,n,G.o.set p O L 4 (uA o (cB S) n),(H.mono (by omega)).but ((uD.refl R x).setCell 4 _) (by omega)⟩
  rw[beq_false_of_ne A]at U |-
  go_wp2;go_meet;exact⟨eA,0,G.o,Ca rfl⟩
 clear P U Y h m G A2 W E;obtain⟨o,n,G,D⟩:=hcut;replace G:=gB G;replace D:=gB D;rename jA=>W;obtain⟨P,U,Y,h,m⟩:=G.o.H.c5;go_upto_if 28 with fail;go_cut [] (λK=>QG w K B R Q #[dB k,tA T,tA M,dB 0,uA o (cB S) n] #[vA (wU k),vA ((k:Int)==1),vA (vU k),vA (iV k),vA J] s/\vG K (Q+1) o S)
 case first=>
  obtain⟨A,z⟩|⟨A,rfl,rfl⟩:=A3.o
  .rw[A]at Y |-
   replace z:=gB z;go_wp2_with fail;apply oC (z.o _ G.o.T);rintro x ⟨I,u⟩;replace G:=gB (G.o.call p O L u I);have Z:=G.o.R.cell 2;have c1:=G.o.R.free 2;go_wp2;go_meet;exact⟨G.o.set p O L 2 (tA M),(D.o.but u (by omega)).but ((uD.refl R x).setCell 2 _) (by omega)⟩
  rw[A]at Y |-
  go_wp2;go_meet;exact⟨G.o,D.o⟩
 clear P U Y h m G D A3 W;obtain⟨G,D⟩:=hcut;replace G:=gB G;replace D:=gB D;rename jA=>W;obtain⟨P,U,Y,h,m⟩:=G.o.H.c5;go_upto_if 33 with fail;go_cut [] (λK=>QG w K B R Q #[dB k,tA T,tA M,dB N,uA o (cB S) n] #[vA (wU k),vA ((k:Int)==1),vA (vU k),vA (iV k),vA J] pA/\vG K (Q+1) o S)
 case first=>
  obtain⟨A,z⟩|⟨A,rfl,rfl⟩:=A4.o
  .rw[A]at h |-
   replace z:=gB z;go_wp2_with fail;apply oC (z.o _ G.o.T);rintro x ⟨I,u⟩;replace G:=gB (G.o.call p O L u I);have Z:=G.o.R.cell 3;have c1:=G.o.R.free 3;go_wp2;go_meet;exact⟨G.o.set p O L 3 (dB N),(D.o.but u (by omega)).but ((uD.refl R x).setCell 3 _) (by omega)⟩
  rw[A]at h |-
  go_wp2;go_meet;exact⟨G.o,D.o⟩
 obtain⟨G,D⟩:=hcut;replace G:=gB G;rename jA=>V;obtain⟨x0,h,h,h,h⟩:=G.o.R.c5;obtain⟨m,z1,z2,z3,s⟩:=G.o.Z.c5;have h:=G.o.Z.free;go_wp2;have h:=λa b c d e=>((((((jB.refl (·=w.1.size) V).setCell (Ca rfl) 0 a).setCell (Ca rfl) 1 b).setCell (Ca rfl) 2 c).setCell (Ca rfl) 3 d).setCell (Ca rfl) 4 e)
 exact bodyPost_ret (v:=.agg #[dB k,tA T,tA M,dB N,uA o (cB S) n]) (by simp[results,results93,go_sem,m,z1,z2,z3,s]) rfl ⟨o,n,rfl,(D.but ((((((uD.refl w.1.size V).setCell 0 _).setCell 1 _).setCell 2 _).setCell 3 _).setCell 4 _) (by omega)).mono (by omega),G.o.N.upToD ((h _ _ _ _ _).below G.o.N.size λq h e=>by omega)⟩
def QV.req(q:QV):fH:=⟨q.K,q.T,q.R,q.U,q.ys.map (·.x)⟩
def pk:∀{ls:List hC},zV ls->bE ls<=cB ls*323
 |[],_=>Oa _
 |l::r,h=>by
  have b:=h l (Kc ..);have c:=pk (ls:=r) λx a=>h x (Sb _ a);simp only[bE,Zb];omega
def ql:∀{ys:List XV},(∀y∈ys,og y.x.B y.c)->(kE (ys.map (·.x))).size<=cB ys*5551
 |[],_=>Oa _
 |y::r,h=>by
  obtain⟨e,d,a⟩:=h y (Kc ..);have f:=ql (ys:=r) λx b=>h x (Sb _ b);have g:=pk a;rw[Fc,kE,Ka,iP,Zb];omega
def RS.P{w:jA}{n d:Nat}{a:nC}{b:List XV}(h:RS aKh w n d a b):gJ w a (b.map (·.x))/\(∀y∈b,og y.x.B y.c/\ir y.x.bits):=by
 obtain rfl|⟨g,rfl,o,p,m,h⟩:=h;exact ⟨Ca rfl,λy j=>by cases j⟩;refine ⟨La ⟨g,0,rfl,m,λi d=>?_⟩,λy j=>?_⟩
 .have f:i<cB b:=by simpa using d
  obtain⟨k,l⟩:=h i f;have e:(b.map (·.x))[i]=b[i].x:=by simp
  rw[e];exact⟨b[i].a,b[i].c,by rw[Ya];exact k 0 (by show 0<2;omega),by rw[Ya];exact k 1 (by show 1<2;omega),l.1.B,l.2.1.2.1⟩
 obtain ⟨i,d,rfl⟩:=Ib j;exact(h i d).2.2
def QV.said{w:jA}{u g:Nat}{q:QV}(h:LC.part w u g q):gJ w q.a q.req.P/\VR q.req/\(kE q.req.P).size<=27755:=by
 obtain⟨s,r,D,B,C,m,b,c,d,f⟩:=h;obtain⟨z,l⟩:=s.P;have t:(kE q.req.P).size<=27755:=Ua (ql λy m=>(l y m).1) (by omega);have k:cB q.req.P=cB q.ys:=Xa ..;have o:∀i(g:i<cB q.req.P),VP q.req.P[i].bits:=λi g=>by
  have e:q.req.P[i]=(q.ys[i]'(k ▸ g)).x:=by simp[QV.req]
  rw[e];exact(l _ (Gb _)).2
 have v:na q.req:=⟨r,b,c,d,λe=>by show q.ys.map _=[];rw[f e];rfl,by show q.T.size<=_;omega,by show q.R.size<=_;omega,by omega,λi g=>by
  have e:q.req.P[i]=(q.ys[i]'(k ▸ g)).x:=by simp[QV.req]
  rw[e];obtain⟨⟨A,_,n⟩,_⟩:=l _ (Gb (k ▸ g));refine⟨by omega,λj p=>?_⟩;have:=n _ (Gb p);exact⟨by omega,by omega⟩⟩
 have E:(oK q.req).size<=28040/\1<=(oK q.req).size:=by
  have F:(if wU q.req.K=iA then vM q.req.T else pA).size<=17:=by
   split;rw[sF];show 1+q.T.size<=_;omega;decide
  have G:(if q.req.K=1 then uB 2 (cB q.req.P:Nat)++kE q.req.P else pA).size<=27757:=by
   split;rw[Ka,oB];omega;decide
  have H:(if vU q.req.K=iA then eG q.req.R else pA).size<=18:=by
   split;rw[kF];show 2+q.R.size<=_;omega;decide
  have I:(if iV q.req.K=iA then uB 8 q.req.U else pA).size<=8:=by
   split;rw[oB];omega;decide
  rw[oK];simp only[Ka,oB];omega
 exact⟨z,⟨v,by omega,show VP q.U from⟨by omega,by omega⟩,o⟩,t⟩
def QV.small{w:jA}{b a:Nat}{q:QV}(h:LC.part w b a q):q.T.size<=16/\q.R.size<=16/\cB q.req.P<=5/\q.U<=100:=⟨h.2.2.1,h.2.2.2.1,by show(q.ys.map _).length<=5;rw[Xa];exact h.2.2.2.2.2.1,h.2.2.2.2.1.2⟩
def aAf{c:kC}(h:ME c):mH c=iA:=by grind [ME,mH,dC]
