import Derived.Test.YtflbidbilgndeaaGreatDoorJ20
set_option maxRecDepth 100000
set_option maxHeartbeats 8000000
set_option linter.defProp false
open Bool renaming false->cA,true->dA
open Option renaming some->bA,none->aA
open ByteArray renaming empty->kA
open List renaming length->yA
namespace Go.Proofs.YtflbidbilgndeaaGreatDoor
open Go renaming World->eA,Value->iA,TypeId->jA,Calls->gA
open Value renaming bool->qA,slice->pA,string->oA
open Ending renaming returned->uA
open Go.RowKit Tryz
def DI(L:iH)(w:eA):
 dF 119 #[.agg #[zA L.first,zA L.last,zA L.size]] w (qA (bM L)):=by
 have d:cB (uB w (w.alloc (.cells #[zA L.first,zA L.last,zA L.size] 37))):=zB;cases h1:bC L.last 1 999999 with
 |false=>
  have E:cB (bM L=cA):=by show _=_;simp[bM,h1]
  have b:cB _:=h1;clear h1;go_enter func119,ntmps119;go_wp2_with fail;apply lC (rD b.o _);rintro a rfl;go_wp2;go_ret;exact⟨oB E.o.symm,d.o⟩
 |true=>
  have b:cB _:=h1;cases h2:bC L.first 1 L.last with
  |false=>
   have E:cB (bM L=cA):=by show _=_;simp[bM,h2]
   have c:cB _:=h2;clear h1 h2;go_enter func119,ntmps119;go_wp2_with fail;apply lC (rD b.o _);rintro a rfl;go_wp2_with fail;apply lC (rD c.o _);rintro a rfl;go_wp2;go_ret;exact⟨oB E.o.symm,d.o⟩
  |true=>
   have c:cB _:=h2;have E:cB (bM L=bC L.size 0 1000000000):=by show _=_;simp[bM,h1,h2]
   clear h1 h2;go_enter func119,ntmps119;go_wp2_with fail;apply lC (rD b.o _);rintro a rfl;go_wp2_with fail;apply lC (rD c.o _);rintro a rfl;go_wp2_with fail;apply lC (dE L.size 0 1000000000 _);rintro a rfl;go_wp2;go_ret;exact⟨oB E.o.symm,d.o⟩
structure fK(α:Type) where
 m:Nat
 cells:α→List iA
 len:∀a,yA (cells a)=m
 part:eA→Nat→Nat→α→Prop
 keep:∀{w w':eA}{lo hi:Nat}{a:α},part w lo hi a→w.1.size≤w'.1.size→(∀g,lo≤g→g<hi→g<w.1.size→w'.heap[g]?=w.heap[g]?)→part w' lo hi a
 wide:∀{w:eA}{lo hi lo' hi':Nat}{a:α},part w lo hi a→lo'≤lo→hi≤hi'→part w lo' hi' a
def fK.flat{α:Type}(K:fK α)(a:List α):List iA:=a.flatMap K.cells
def fK.flat_append{α:Type}(K:fK α)(a b:List α):K.flat (a++b)=K.flat a++K.flat b:=by simp[fK.flat]
def fK.flat_get{α:Type}(K:fK α):∀(l:List α)(i:Nat)(b:i<yA l)(j:Nat),j<K.m->(K.flat l)[i*K.m+j]?=(K.cells l[i])[j]?:=by
 intro l;unfold fK.flat;induction l with
 |nil=>intro i b;exact absurd b (by simp)
 |cons x r d=>
  intro i b j c;cases i with
  |zero=>
   simp only[Xc,Nat.zero_mul,Ya,Eg];rw[Pe (by rw[K.len];exact c)]
  |succ i=>
   have:=d i (by simpa using b) j c;simp only[Xc,Ec];have a:=K.len x;have e:(i+1)*K.m+j-yA (K.cells x)=i*K.m+j:=by rw[a,Nat.succ_mul];omega
   rw[Uc (by rw[a,Nat.succ_mul];omega),e];exact this
def wO{α:Type}(K:fK α)(w:eA)(b:Nat)(e:jA)(v:iA)(n:Nat)(d:List α):Prop:=
 w.ownsRow b e K.m v n (K.flat d)/\yA d=n/\∀y∈d,∃c a,b<=c/\a<=w.1.size/\(∀g,v.ownBlock=bA g->g<c\/a<=g)/\K.part w c a y
def wO.nil{α:Type}(K:fK α)(w:eA)(b:Nat)(e:jA):wO K w b e (pA aA 0 0) 0 []:=
 ⟨eA.ownsRow_nil _ _ _ _,rfl,λy a=>by cases a⟩
def wO.row{α:Type}{K:fK α}{w:eA}{b:Nat}{e:jA}{v:iA}{n:Nat}{i:List α}(h:wO K w b e v n i):∃a c,v=pA a n c:=by
 obtain⟨rfl,rfl⟩|⟨g,d,f,rfl,_⟩:=h.1.2;exact ⟨aA,0,rfl⟩;exact ⟨_,_,rfl⟩
def wO.lt{α:Type}{K:fK α}{w:eA}{b:Nat}{e:jA}{v:iA}{n:Nat}{c:List α}(h:wO K w b e v n c):∀g,v.ownBlock=bA g->b<=g/\g<w.1.size:=λg a=>h.1.lt g a
def wO.turn{α:Type}{K:fK α}{w j:eA}{S:Nat->Prop}{b:Nat}{e:jA}{v:iA}{n:Nat}{k:List α}(h:wO K w b e v n k)(a:eB S w j)(f:∀g,S g->g<b):wO K j b e v n k:=by
 obtain⟨d,l,m⟩:=h;refine⟨a.row d (λg i e=>by have:=(d.lt g i).1;have:=f g e;omega),l,λy t=>?_⟩;obtain⟨u,q,o,p,r,s⟩:=m y t;exact⟨u,q,o,Ua p a.size,r,K.keep s a.size λg i _ c=>a.block g c (λe=>by have:=f g e;omega)⟩
def wO.but{α:Type}{K:fK α}{w a:eA}{B b:Nat}{e:jA}{v:iA}{n:Nat}{c:List α}(h:wO K w b e v n c)(i:qD B w a)(d:B<b):wO K a b e v n c:=
 h.turn (eB.but i) (λg f=>by rw[f];exact d)
def wO.snoc{α:Type}{K:fK α}{wr w4 m:eA}{b f d k:Nat}{e:jA}{v:iA}{ys:List α}{y:α}
(n:m.ownsRow b e K.m (pA (yB f) (k+1) d) (k+1) (K.flat ys++K.cells y))
(h:wO K wr b e v k ys)(x:b<=wr.1.size)(i:w4.1.size<=m.1.size)(w:wr.1.size<=w4.1.size)
(p:∀g,g<wr.1.size->b<=g->v.ownBlock≠bA g->m.heap[g]?=wr.heap[g]?)(q:∀g,wr.1.size<=g->g<w4.1.size->m.heap[g]?=w4.heap[g]?)
(u:K.part w4 wr.1.size w4.1.size y)
(j:(v.ownBlock=bA f/\f<wr.1.size)\/w4.1.size<=f):wO K m b e (pA (yB f) (k+1) d) (k+1) (ys++[y]):=by
 obtain⟨G,E,F⟩:=h;refine⟨?_,by rw[Kb,E];rfl,λz c=>?_⟩
 .rw[K.flat_append];have e:K.flat [y]=K.cells y:=by simp[fK.flat]
  rw[e];exact n
 rcases Ee.1 c with c|c
 .obtain ⟨D,B,r,A,t,C⟩:=F z c;refine⟨D,B,r,by omega,λg a=>?_,K.keep C (by omega) λg a l o=>p g o (by omega) (λe=>by have:=t g e;omega)⟩;simp only[iA.ownBlock,Qa]at a;subst a;obtain⟨h,s⟩|h:=j
  .exact t _ h
  exact La (by omega)
 rw[Uf]at c;subst c;refine⟨wr.1.size,w4.1.size,x,i,λg a=>?_,K.keep u i λg a l _=>q g a l⟩;simp only[iA.ownBlock,Qa]at a;subst a;obtain⟨_,s⟩|h:=j;exact Ca s;exact La h
def TQ{α:Type}(K:fK α)(w:eA)(d c:Nat)(a:mC)(b:List α):Prop:=
 b=[]\/∃g,a=yB g/\d<=g/\g<c/\g<w.1.size/\∀i(h:i<yA b),(∀j,j<K.m->w.cell? (dB g (i*K.m+j))=(K.cells b[i])[j]?)/\K.part w d c b[i]
def TQ.keep{α:Type}{K:fK α}{w w':eA}{c b:Nat}{a:mC}{k:List α}(h:TQ K w c b a k)(n:w.1.size<=w'.1.size)(f:∀g,c<=g->g<b->g<w.1.size->w'.heap[g]?=w.heap[g]?):TQ K w' c b a k:=by
 obtain h|⟨g,rfl,d,e,l,h⟩:=h;exact Ca h;refine La ⟨g,rfl,d,e,by omega,λi b=>⟨λj m=>?_,K.keep (h i b).2 n f⟩⟩;rw[eA.cell?_of_block (f g d e l)];exact(h i b).1 j m
def TQ.wide{α:Type}{K:fK α}{w:eA}{e b d c:Nat}{a:mC}{f:List α}(h:TQ K w e b a f)(j:d<=e)(k:b<=c):TQ K w d c a f:=by
 obtain h|⟨g,rfl,m,n,l,h⟩:=h;exact Ca h;exact La ⟨g,rfl,by omega,by omega,l,λi b=>⟨(h i b).1,K.wide (h i b).2 j k⟩⟩
def TQ.z{α:Type}{K:fK α}{w e:eA}{d c:Nat}{a:mC}{f:List α}(h:TQ K w d c a f)(b:uB w e):TQ K e d c a f:=
 h.keep b.size λg _ _ i=>b.block g i
def TQ.at{α:Type}{K:fK α}{w:eA}{d c:Nat}{a:mC}{b:List α}(h:TQ K w d c a b){i:Nat}(e:i<yA b):
 ∃g,a=yB g/\g<w.1.size/\(∀j,j<K.m->w.cell? (dB g (i*K.m+j))=(K.cells b[i])[j]?)/\K.part w d c b[i]:=by grind [TQ]
def wO.o{α:Type}{K:fK α}{w:eA}{b:Nat}{e:jA}{a:mC}{n d:Nat}{q:List α}(h:wO K w b e (pA a n d) n q):TQ K w b w.1.size a q:=by
 obtain⟨v,D,x⟩:=h;obtain⟨_,E⟩|⟨g,r,f,s,y,t,_,_,C,p⟩:=v.2;exact Ca (Nb.1 (by omega));simp only[iA.slice.injEq]at s;have c:=aB t;refine La ⟨g,s.1,y,c,c,λi u=>⟨λj A=>?_,?_⟩⟩
 .have l:i*K.m+j<n*K.m:=by
   have:(i+1)*K.m<=n*K.m:=Nat.mul_le_mul_right _ (by omega);rw[Nat.succ_mul]at this;omega
  rw[nB.cell (show nB w g f e from t) _,<-Yd,<-Jb l,p];exact K.flat_get q i u j A
 .obtain ⟨F,z,o,k,_,B⟩:=x _ (Gb u);exact K.wide B o k
def aFs:iA->Nat
 |pA _ n _=>n
 |_=>0
def gx(ls:List dC):∀(i:Nat)(h:i<yA ls),(vC ls)[i*2+1]?=bA (oA ls[i].V)/\(∀s,(vC ls).set (i*2) (oA s)=vC (ls.set i ⟨s,ls[i].V⟩))/\∀s,(vC ls).set (i*2+1) (oA s)=vC (ls.set i ⟨ls[i].N,s⟩):=by
 induction ls with
 |nil=>intro i h;exact absurd h (by simp)
 |cons l r f=>
  intro i h;have e:∀(x:dC)(q:List dC),vC (x::q)=oA x.N :: oA x.V::vC q:=λ_ _=>rfl;cases i with
  |zero=>exact⟨rfl,λ_=>rfl,λ_=>rfl⟩
  |succ i=>
   obtain⟨b,c,d⟩:=f i (by simpa using h);have a:(i+1)*2=i*2+1+1:=by omega
   simp only[e,a,Ga,Jd,b,c,d,Ec];exact⟨trivial,λ_=>trivial,λ_=>trivial⟩
section
variable {w:eA} {base g cv:Nat} {e:jA} {ls:List dC}
theorem cq(h:w.ownsRow base e 2 (pA (yB g) (yA ls) cv) (yA ls) (vC ls)):∃a,base<=g/\nB w g a e/\yA ls<=cv/\cv<=maxLen/\a.size=cv*2/\a.toList.take (yA ls*2)=vC ls:=by
 obtain⟨b,_⟩|⟨m,c,a,b,d,f,j,i,k,l⟩:=h.2;exact absurd b (by simp);simp only[iA.slice.injEq,Qa,Addr.mk.injEq,Cc,true_and]at b;obtain⟨rfl,rfl⟩:=b;exact⟨a,d,f,j,i,k,l⟩
theorem aKt(h:w.ownsRow base e 2 (pA (yB g) (yA ls) cv) (yA ls) (vC ls)){j:Nat}{u:iA}{ls':List dC}(b:(vC ls).set j u=vC ls'):(w.setCell (dB g j) u).ownsRow base e 2 (pA (yB g) (yA ls') cv) (yA ls') (vC ls'):=by
 obtain⟨a,c,d,m,i,k,l⟩:=cq h;have f:yA ls'=yA ls:=by have:=Kd List.length b;rw[Pd,vG,vG]at this;omega
 refine⟨vG _,La ⟨g,cv,a.setIfInBounds j u,rfl,c,heap_setCell_same w g j a e u d,by omega,i,by rw[Array.size_setIfInBounds];exact k,?_⟩⟩;rw[Jf,f,List.take_set,l,b]
theorem IM(h:w.ownsRow base e 2 (pA (yB g) (yA ls) cv) (yA ls) (vC ls))(i:Nat)(c:i<yA ls):w.cell? (dB g (i*2))=bA (oA ls[i].N)/\w.cell? (dB g (i*2+1))=bA (oA ls[i].V)/\(∀j,w.frozen? (dB g j)=cA)/\base<=g:=by
 obtain⟨a,d,f,_⟩:=cq h;obtain⟨_,_,_,b⟩:=aL h;exact⟨b _ _ (LL ls i c),b _ _ (gx ls i c).1,λj=>frozen_of_row w g j a _ f,d⟩
theorem aKs(h:w.ownsRow base e 2 (pA (yB g) (yA ls) cv) (yA ls) (vC ls))(i:Nat)(n:i<=yA ls):w.ownsRow base e 2 (pA (yB g) i cv) i (vC (ls.take i)):=by
 obtain⟨a,f,j,o,k,l,m⟩:=cq h;have b:yA (vC (ls.take i))=i*2:=by rw[vG,Hb];omega
 refine⟨b,La ⟨g,cv,a,rfl,f,j,by omega,k,l,?_⟩⟩;have c:vC ls=vC (ls.take i)++vC (ls.drop i):=by rw[<-cG,Za]
 have d:a.toList.take (i*2)=(a.toList.take (yA ls*2)).take (i*2):=by rw[List.take_take,Nat.min_eq_left (by omega)]
 rw[d,m,c,<-b,List.take_left]
end
def SS{ls:List dC}(h:gX ls)(i:Nat){l:dC}(a:l.N.size<=65/\l.V.size<=258):gX (ls.set i l):=by grind [gX]
section
variable {w W W':eA} {B P N M g cv:Nat} {ls ls':List dC}
end
def ug(a:List dC)(c:Nat):Prop:=yA a<=17/\yA a<=c/\gX a
def cW(w:eA)(d c:Nat)(a:mC)(b:List dC):Prop:=b=[]\/∃g o,a=bA (dB g o)/\d<=g/\g<c/\g<w.1.size/\vP w g o b
def cW.keep{w w':eA}{c b:Nat}{a:mC}{f:List dC}(h:cW w c b a f)(n:w.1.size<=w'.1.size)(m:∀g,c<=g->g<b->g<w.1.size->w'.heap[g]?=w.heap[g]?):cW w' c b a f:=by
 obtain h|⟨g,o,rfl,d,e,k,h⟩:=h;exact Ca h;have l:∀j,w'.cell? (dB g j)=w.cell? (dB g j):=λj=>eA.cell?_of_block (m g d e k);exact La ⟨g,o,rfl,d,e,by omega,λi b=>by simp only[l];exact h i b⟩
def cW.wide{w:eA}{e d c b:Nat}{a:mC}{f:List dC}(h:cW w e d a f)(g:c<=e)(i:d<=b):cW w c b a f:=by grind [cW]
def cW.B{w:eA}{d c:Nat}{a:mC}{b:List dC}(h:cW w d c a b):sD w a b:=by grind [cW,sD]
def oE.inR{w:eA}{b:Nat}{a:mC}{c:List dC}(h:oE w b a c):cW w b w.1.size a c:=by grind [oE,cW]
def aOj:fK XV where
 m:=2
 cells:=λy=>[pA y.a (yA y.x.B) y.c,zA y.x.bits]
 len:=λ_=>rfl
 part:=λw i e y=>cW w i e y.a y.x.B/\ug y.x.B y.c/\wU y.x.bits
 keep:=λh g f=>⟨h.1.keep g f,h.2⟩
 wide:=λh b d=>⟨h.1.wide b d,h.2⟩
structure QV where
 K:Int
 T:jB
 R:jB
 U:Int
 ys:List XV
 a:mC
 c:Nat
def aLt(k a:Int)(t m:jB)(b:List XV):Prop:=(bW k=cA->t.size=0)/\(aW k=cA->m.size=0)/\(qW k=cA->a=0)/\(k≠1->b=[])
def QV.good(q:QV):Prop:=(1<=q.K/\q.K<=6)/\q.T.size<=16/\q.R.size<=16/\(-100<=q.U/\q.U<=100)/\yA q.ys<=5/\aLt q.K q.U q.T q.R q.ys
def QV.val(q:QV):iA:=.agg #[zA q.K,oA q.T,oA q.R,zA q.U,pA q.a (yA q.ys) q.c]
def IL:fK QV where
 m:=5
 cells:=λq=>[zA q.K,oA q.T,oA q.R,zA q.U,pA q.a (yA q.ys) q.c]
 len:=λ_=>rfl
 part:=λw i e q=>TQ aOj w i e q.a q.ys/\q.good
 keep:=λh g f=>⟨h.1.keep g f,h.2⟩
 wide:=λh b d=>⟨h.1.wide b d,h.2⟩
def OM(c:iC):Prop:=(1<=c.w/\c.w<=8)/\(1<=c.tl/\c.tl<=7)/\(1<=c.ml/\c.ml<=5)/\(1<=c.sh/\c.sh<=5)/\(0<=c.ha/\c.ha<=2)/\(100<=c.sg/\c.sg<=299)
def RV(w:eA)(B:Nat)(s:jB):Prop:=ZB w B 172 ⟨s,cA⟩
def CA(p:iA)(w:eA):rL 82 #[p,qA dA] w (.tuple #[]):=by
 go_enter func82,ntmps82;go_wp2;go_end0;exact⟨rfl,rfl⟩
section
variable {w:eA} {B k:Nat} {v:Int} {t q:jB} {xs:List sF}
theorem oR(c:RV w B (pB k v++q))(g:k<=8)(d:tR (jT (pB k v).data.toList)=v)(i:q.size<=1000000):
 gA prog 147 #[.pointer (yB B),zA (k:Nat)] w λe f=>e=uA (zA v)/\RV f B q/\qD B w f:=by
 have a:=bB (EO (k:=k) c g (by rw[Ka,gB];omega));rw[kl (k:=k) (v:=v) (q:=q) rfl]at a;dsimp only at a;rw[d]at a;clear c d;go_enter func147,ntmps147;go_wp2_with fail;apply lC a.o;intro h b;have j:tC h B 1 (qA cA):=nB.cell b.1 1;replace b:=bB b;go_wp2_with fail;refine tD (CA _ _) ?_;go_wp2;go_ret;exact⟨rfl,b.o⟩
theorem xW(c:RV w B (pB k (t.size:Nat)++t++q))(g:k<=2)(d:t.size<256 ^ k)(i:t.size+q.size<=1000000):
 gA prog 149 #[.pointer (yB B),zA (k:Nat)] w λe f=>e=uA (oA t)/\RV f B q/\qD B w f:=by
 have b:=bB (TJ (k:=k) c g (by simp only[Ka,gB];omega));rw[KN (k:=k) (t:=t) (q:=q) (Wa ..) d]at b;dsimp only at b;clear c d;go_enter func149,ntmps149;go_wp2_with fail;apply lC b.o;intro h a;have j:tC h B 1 (qA cA):=nB.cell a.1 1;replace a:=bB a;go_wp2_with fail;refine tD (CA _ _) ?_;go_wp2;go_ret;exact⟨rfl,a.o⟩
theorem da(N:RV w B (pB 2 (yA xs:Nat)++(iE xs++q)))(t:aMh xs)(P:∀i(h:i<yA xs),wU xs[i].bits)(G:yA xs<=500)(L:(iE xs++q).size<=1000000):
 gA prog 150 #[.pointer (yB B)] w λe a=>∃G c,e=uA (pA G (yA xs) c)/\tG a w.1.size G xs/\RV a B q/\qD B w a:=by
 have G:=aB N;have Z:=bB (oR N (by omega) (by rw[qQ 2 _ (by omega),nI (by omega)]) L);have I:cB (∀(k:Nat)(h:k<yA xs) W,RV W B (iE (xs.drop k)++q)->gA prog 215 #[.pointer (yB B)] W λe a=>∃g c,e=uA (.slice (yB g) (yA xs[k].B) c)/\a.ownsRow W.1.size 181 2 (.slice (yB g) (yA xs[k].B) c) (yA xs[k].B) (vC xs[k].B)/\RV a B (pB 8 xs[k].bits++(iE (xs.drop (k+1))++q))/\qD B W a):=λk h W O=>by
  have J:=Kd ByteArray.size (gI (xs.take k) (xs.drop k));rw[Za]at J;simp only[Ka]at J L;have e:iE (xs.drop k)++q=pB 1 (yA xs[k].B:Nat)++(mD xs[k].B++(pB 8 xs[k].bits++(iE (xs.drop (k+1))++q))):=by
   rw[Cb h,iE,qX,uH];simp only[Wa]
  have:=RJ O (by dsimp only;rw[Ka];omega);rw[kl (k:=1) (r:=⟨iE (xs.drop k)++q,cA⟩) e]at this;dsimp only at this;obtain⟨u,G⟩:=t k h;rw[qQ 1 _ (by omega),cg (r:=⟨mD xs[k].B++(pB 8 xs[k].bits++(iE (xs.drop (k+1))++q)),cA⟩) rfl (λi R=>⟨by have:=(G i R).1;omega,by have:=(G i R).2;omega⟩) (yA xs[k].B) (Ia _),Rb,Kg]at this;rw[show mD ([]:List dC)=kA from rfl,zn]at this;exact this
 have G:cB (∀(k:Nat)(h:k<yA xs) W,RV W B (pB 8 xs[k].bits++(iE (xs.drop (k+1))++q))->gA prog 147 #[.pointer (yB B),zA 8] W λe a=>e=uA (zA xs[k].bits)/\RV a B (iE (xs.drop (k+1))++q)/\qD B W a):=λk h W O=>oR (k:=8) O (by omega) (kZ _ (P k h)) (by
  have J:=Kd ByteArray.size (gI (xs.take (k+1)) (xs.drop (k+1)));rw[Za]at J;simp only[Ka]at J L |-
  omega)
 clear t P L N;go_enter func150,ntmps150;go_wp2_with fail;apply lC Z.o;intro w1 u;replace u:=bB u;clear Z;go_wp2;go_loopw [3,6] (λV i wr=>∃k:Nat,k<=yA xs/\i=zA k/\cB (gZ wr w.1.size 111 V k (xs.take k))/\cB (RV wr B (iE (xs.drop k)++q))/\cB (qD B w wr)) (λ_ i _=>yA xs-(intOf i).toNat)
 case atStart=>exact⟨0,Oa _,rfl,gZ.nil _ _ _,u.o.1,u.o.2⟩
 case round=>
  clear u;obtain⟨k,t,rfl,z,b,f⟩:=hrel;by_cases n:k<yA xs
  .have P1:=bB (I.o k n);have t:=bB (G.o k n);have J:cB (xs.take (k+1)=xs.take k++[⟨xs[k].B,xs[k].bits⟩]):=by show _=_;rw[Pa n]
   generalize xs[k].B=ls at *;generalize xs[k].bits=bi at *;obtain⟨T,Y,j,l,A,C⟩:=z.o;have p:=λg d=>j.lt g d;have K:=bB (⟨j,l,A,C⟩:_/\_/\_/\_);have U:cB (yA Y=k):=by show _=_;have:=Kd List.length l;rw[Xa,Hb]at this;omega
   have G:=f.o.size;clear j l A C z;go_wp2_with fail;refine(P1.o _ b.o).mono ?_;rintro e w2 ⟨G,G,rfl,F,G,D⟩;have y:=bB (Vc F (Vc G D));clear F G D P1 b;go_wp2_with fail;apply lC (t.o _ y.o.2.1);rintro X ⟨H,m⟩;have S:=bB (lv y.o.1);have s:=bB (Vc (gK (iP y.o.1 m (by omega))) (Vc H (y.o.2.2.trans m)));have I:=s.o.2.2.size;clear H m t y;go_wp2_with(at_builtin;refine kI rfl _ _ rfl underlying45 QX rfl (by omega) (by omega) (v:=u3) rfl ((eB.but s.o.2.2).row K.o.1 (λg d e=>by have:=(p g d).1;omega)) rfl rfl rfl (by simp[iA.oneCell']) (by omega) (by omega) ?_;intro t t t G M O);have E:∀g,g<X.1.size->u3.ownBlock≠bA g->t.heap[g]?=X.heap[g]?:=λg d o=>M.o.block g d λe=>o e.2;refine⟨⟨k+1,by omega,by go_num,?_,M.o.blk s.o.2.1 (λe=>by omega),(f.o.trans s.o.2.2).upToD (M.o.below (by omega) λi R e=>by omega)⟩,by simp[intOf];omega⟩;show gZ _ _ _ _ _ _;rw[J.o];exact gZ.snoc (wr:=wr) (w4:=X) (v:=u3) (T:=T) (ys:=Y) (x:=⟨ls,bi⟩) G.o K.o.2.1 U.o K.o.2.2.1 K.o.2.2.2 (by omega) (λg d P o=>(E g (by omega) o).trans (s.o.2.2.block g d (by omega))) (λg d Q=>E g Q (λe=>by have:=(p _ e).2;omega)) s.o.1 S.o (O.o.elim (λh=>Ca ⟨h,(p _ h).2⟩) λh=>La (by omega)) I
  obtain rfl:k=yA xs:=by omega
  rw[Rb]at z;rw[Kg]at b;obtain⟨h,rc,rfl⟩:=z.o.row;go_wp2;go_ret;exact⟨h,rc,rfl,z.o.own rfl,by simpa[iE]using b.o,f.o⟩
end
structure QG(w W:World)(B R Q:Nat)(cs sh:Array Value)(s:jB):Prop where
 Z:nB W w.1.size #[zA 0,oA kA,oA kA,zA 0,pA aA 0 0] 47
 R:nB W R cs 47
 H:nB W Q sh 176
 T:RV W B s
 N:qD B w W
section
variable {w W W':eA} {B R Q:Nat} {cs sh:Array iA} {s s':jB}
theorem QG.call(h:QG w W B R Q cs sh s)(c:B<w.1.size)(e:w.1.size<R)(d:R<Q)(a:qD B W W')(b:RV W' B s'):QG w W' B R Q cs sh s':=
 ⟨h.Z.but a (by omega),h.R.but a (by omega),h.H.but a (by omega),b,h.N.trans a⟩
theorem QG.set(h:QG w W B R Q cs sh s)(c:B<w.1.size)(b:w.1.size<R)(d:R<Q)(i:Nat)(v:iA):QG w (W.setCell (dB R i) v) B R Q (cs.setIfInBounds i v) sh s:=by
 have a:qD R W (W.setCell (dB R i) v):=(qD.refl R W).setCell i v;exact⟨h.Z.but a (by omega),h.R.set i v,h.H.but a (by omega),nB.but h.T a (by omega),h.N.upToD (iD.setCell (by simpa using Vg b) v)⟩
end
def ai{c:Prop}[Decidable c]{x y z:jB}(h:(if c then x else kA)++y=z):c/\z=x++y\/¬c/\z=y:=by
 by_cases a:c
 .rw[Ma a]at h;exact Ca ⟨a,h.symm⟩
 rw[Ja a,zn]at h;exact La ⟨a,h.symm⟩
def aGt{B:Nat}{r:gG}{w:eA}(h:VR r)(G:RV w B (sK r))(hT:fS w)(Y:0≠B):
 gA prog 81 #[.pointer (yB B)] w λe C=>∃o n,e=uA (.agg #[zA r.K,oA r.T,oA r.R,zA r.U,pA o (yA r.P) n])/\tG C w.1.size o r.P/\qD B w C:=by
 have p:=aB G;obtain⟨s,q1,q2,q3,q4,H,H,q7,q8⟩:=h.ok;have I:=h.sz;have hn:=h.U;have u:=h.bits;have J:∀b:jB,b.size=0->b=kA:=λb u=>by simp_all
 obtain⟨k,T,M,N,S⟩:=r;obtain⟨k,rfl⟩:=Yf (show 0<=k by dsimp only at s;omega);dsimp only at *;rw[sK]at G I;dsimp only at G I;generalize e3:(if qW (k:Int)=dA then pB 8 N else kA)=h at *;generalize O:(if aW (k:Int)=dA then aG M else kA)++h=s at *;generalize Z:(if (k:Int)=1 then pB 2 (yA S:Nat)++iE S else kA)++s=H at *;generalize e0:(if bW (k:Int)=dA then aN T else kA)++H=U at *;have z1:=Kd ByteArray.size Z;have z2:=Kd ByteArray.size O;have z3:=Kd ByteArray.size e0;simp only[Ka,gB]at z1 z2 z3 I;have H0:=bB (λW(E:RV W B (pB 1 (k:Nat)++U))=>oR (k:=1) E (by omega) (by rw[qQ 1 _ (by omega),nI (by omega)]) (by omega));have A1:cB (bW k=dA/\(∀W,RV W B U->gA prog 149 #[.pointer (yB B),zA 1] W λe C=>e=uA (oA T)/\RV C B H/\qD B W C)\/bW k=cA/\T=kA/\U=H):=
  (ai e0).imp (fun⟨a,b⟩=>⟨a,λW E=>xW (k:=1) (b ▸ E) (by omega) (by omega) (by omega)⟩) fun⟨a,b⟩=>have a:=Yc.2 a;⟨a,J _ (q1 a),b⟩
 have A2:cB ((k:Int)=1/\(∀W,RV W B H->gA prog 150 #[.pointer (yB B)] W λe C=>∃o n,e=uA (pA o (yA S) n)/\tG C W.1.size o S/\RV C B s/\qD B W C)\/¬(k:Int)=1/\S=[]/\H=s):=
  (ai Z).imp (fun⟨a,b⟩=>⟨a,λW E=>da (by rw[b,Wa]at E;exact E) q8 u q7 (by rw[Ma a]at z1;simp only[Ka]at z1 |-;omega)⟩) fun⟨a,b⟩=>⟨a,q4 a,b⟩
 have A3:cB (aW k=dA/\(∀W,RV W B s->gA prog 149 #[.pointer (yB B),zA 2] W λe C=>e=uA (oA M)/\RV C B h/\qD B W C)\/aW k=cA/\M=kA/\s=h):=
  (ai O).imp (fun⟨a,b⟩=>⟨a,λW E=>xW (k:=2) (b ▸ E) (by omega) (by omega) (by omega)⟩) fun⟨a,b⟩=>have a:=Yc.2 a;⟨a,J _ (q2 a),b⟩
 have A4:cB (qW k=dA/\(∀W,RV W B h->gA prog 147 #[.pointer (yB B),zA 8] W λe C=>e=uA (zA N)/\RV C B kA/\qD B W C)\/qW k=cA/\N=0/\h=kA):=
  (ai (y:=kA) ((aDp _).trans e3)).imp (fun⟨a,b⟩=>⟨a,λW E=>oR (k:=8) (b ▸ E) (by omega) (kZ _ hn) (Oa _)⟩) fun⟨a,b⟩=>have a:=Yc.2 a;⟨a,q3 a,b⟩
 have HB:=bB G;have HT:=bB hT;go_enter func81,ntmps81;go_wp2_with fail;apply lC (H0.o _ (nB.z HB.o zB));rintro w1 ⟨I,u⟩;have b1:=(qD.of (wF w (.cells #[zA 0,oA kA,oA kA,zA 0,pA aA 0 0] 47))).trans u;have Z:=bB (nB.but (nB.new w #[zA 0,oA kA,oA kA,zA 0,pA aA 0 0] 47) u (by omega));have O:=aB Z.o;go_wp2_with fail;refine lC (WY (k:=(k:Int)) (by omega) _) ?_;intro J F;have X:=bB ((nB.new w1 #[zA k,oA kA,oA kA,zA 0,pA aA 0 0] 47).z F);have N2:=b1.trans (qD.of (vB zB F));go_wp2_with fail;refine tD (CA _ _) ?_;have t:=λj G=>(HT.o.but N2 Y).2 k j (by omega) G;have f:tC J 0 (k*5) (qA (bW k)):=t 0 (by omega);have g:tC J 0 (k*5+1) (qA ((k:Int)==1)):=t 1 (by omega);have i:tC J 0 (k*5+2) (qA (aW k)):=t 2 (by omega);have l:tC J 0 (k*5+3) (qA (qW k)):=t 3 (by omega);have m:tC J 0 (k*5+4) (qA (shB k 4)):=t 4 (by omega);have x0:=X.o.cell 0;have L:=aB X.o;clear t;go_upto_region 4 with fail;have G:cB (QG w (J.alloc (.cells #[qA (bW k),qA ((k:Int)==1),qA (aW k),qA (qW k),qA (shB k 4)] 176)) B w1.1.size J.1.size #[zA k,oA kA,oA kA,zA 0,pA aA 0 0] #[qA (bW k),qA ((k:Int)==1),qA (aW k),qA (qW k),qA (shB k 4)] U):=
  ⟨(Z.o.z (vB zB F)).alloc _,X.o.alloc _,nB.new _ _ _,nB.alloc (nB.z I (vB zB F)) _,N2.trans (qD.of zB)⟩
 clear f g i l m x0 X Z N2 b1 u F I H0 HB HT;generalize J.alloc (.cells #[qA (bW k),qA ((k:Int)==1),qA (aW k),qA (qW k),qA (shB k 4)] 176)=W at *;generalize J.1.size=Q at *;generalize w1.1.size=R at *;generalize shB k 4=Z at *;obtain⟨P,U,Y,J,y4⟩:=G.o.H.c5;go_upto_if 18 with fail;go_cut [] (λK=>QG w K B R Q #[zA k,oA T,oA kA,zA 0,pA aA 0 0] #[qA (bW k),qA ((k:Int)==1),qA (aW k),qA (qW k),qA Z] H)
 case first=>
  obtain⟨A,z⟩|⟨A,rfl,rfl⟩:=A1.o
  .rw[A]at P |-
   replace z:=bB z;go_wp2_with fail;apply lC (z.o _ G.o.T);rintro x ⟨I,u⟩;replace G:=bB (G.o.call p O L u I);have H:=G.o.R.cell 1;have c1:=G.o.R.free 1;go_wp2;go_meet;exact G.o.set p O L 1 (oA T)
  rw[A]at P |-
  go_wp2;go_meet;exact G.o
 replace G:=bB hcut;rename eA=>W;obtain⟨P,U,Y,J,y4⟩:=G.o.H.c5;have E:=aB G.o.H;go_upto_if 23 with fail;go_cut [] (λK=>∃o n,QG w K B R Q #[zA k,oA T,oA kA,zA 0,pA o (yA S) n] #[qA (bW k),qA ((k:Int)==1),qA (aW k),qA (qW k),qA Z] s/\tG K (Q+1) o S)
 case first=>
  obtain⟨A,z⟩|⟨A,rfl,rfl⟩:=A2.o
  .rw[Lg.2 A]at U |-
   replace z:=bB z;go_wp2_with fail;refine(z.o _ G.o.T).mono ?_;rintro e x ⟨o,n,rfl,s,I,u⟩;replace G:=bB (G.o.call p O L u I);have H:=G.o.R.cell 4;have c1:=G.o.R.free 4;go_wp2;go_meet;exact⟨o,n,G.o.set p O L 4 (pA o (yA S) n),(s.mono (by omega)).but ((qD.refl R x).setCell 4 _) (by omega)⟩
  rw[beq_false_of_ne A]at U |-
  go_wp2;go_meet;exact⟨aA,0,G.o,Ca rfl⟩
 obtain⟨o,n,G,D⟩:=hcut;replace G:=bB G;replace D:=bB D;rename eA=>W;obtain⟨P,U,Y,J,y4⟩:=G.o.H.c5;go_upto_if 28 with fail;go_cut [] (λK=>QG w K B R Q #[zA k,oA T,oA M,zA 0,pA o (yA S) n] #[qA (bW k),qA ((k:Int)==1),qA (aW k),qA (qW k),qA Z] h/\tG K (Q+1) o S)
 case first=>
  obtain⟨A,z⟩|⟨A,rfl,rfl⟩:=A3.o
  .rw[A]at Y |-
   replace z:=bB z;go_wp2_with fail;apply lC (z.o _ G.o.T);rintro x ⟨I,u⟩;replace G:=bB (G.o.call p O L u I);have H:=G.o.R.cell 2;have c1:=G.o.R.free 2;go_wp2;go_meet;exact⟨G.o.set p O L 2 (oA M),(D.o.but u (by omega)).but ((qD.refl R x).setCell 2 _) (by omega)⟩
  rw[A]at Y |-
  go_wp2;go_meet;exact⟨G.o,D.o⟩
 obtain⟨G,D⟩:=hcut;replace G:=bB G;replace D:=bB D;rename eA=>W;obtain⟨P,U,Y,J,y4⟩:=G.o.H.c5;go_upto_if 33 with fail;go_cut [] (λK=>QG w K B R Q #[zA k,oA T,oA M,zA N,pA o (yA S) n] #[qA (bW k),qA ((k:Int)==1),qA (aW k),qA (qW k),qA Z] kA/\tG K (Q+1) o S)
 case first=>
  obtain⟨A,z⟩|⟨A,rfl,rfl⟩:=A4.o
  .rw[A]at J |-
   replace z:=bB z;go_wp2_with fail;apply lC (z.o _ G.o.T);rintro x ⟨I,u⟩;replace G:=bB (G.o.call p O L u I);have H:=G.o.R.cell 3;have c1:=G.o.R.free 3;go_wp2;go_meet;exact⟨G.o.set p O L 3 (zA N),(D.o.but u (by omega)).but ((qD.refl R x).setCell 3 _) (by omega)⟩
  rw[A]at J |-
  go_wp2;go_meet;exact⟨G.o,D.o⟩
 obtain⟨G,D⟩:=hcut;replace G:=bB G;rename eA=>V;have x0:=G.o.R.c5;obtain⟨s,z1,z2,z3,H⟩:=G.o.Z.c5;have h:=G.o.Z.free;go_wp2;have h:=λa b c d e=>((((((eB.refl (·=w.1.size) V).setCell (Ca rfl) 0 a).setCell (Ca rfl) 1 b).setCell (Ca rfl) 2 c).setCell (Ca rfl) 3 d).setCell (Ca rfl) 4 e)
 exact bodyPost_ret (v:=.agg #[zA k,oA T,oA M,zA N,pA o (yA S) n]) (by simp[results,results81,go_sem,s,z1,z2,z3,H]) rfl ⟨o,n,rfl,(D.but ((((((qD.refl w.1.size V).setCell 0 _).setCell 1 _).setCell 2 _).setCell 3 _).setCell 4 _) (by omega)).mono (by omega),G.o.N.upToD ((h _ _ _ _ _).below G.o.N.size λq h e=>by omega)⟩
def QV.req(q:QV):gG:=⟨q.K,q.T,q.R,q.U,q.ys.map (·.x)⟩
def vk:∀{ls:List dC},gX ls->bE ls<=yA ls*323
 |[],_=>Oa _
 |l::r,h=>by
  have b:=h l (Kc ..);have c:=vk (ls:=r) λx a=>h x (Sb _ a);simp only[bE,Zb];omega
def wq:∀{ys:List XV},(∀y∈ys,ug y.x.B y.c)->(iE (ys.map (·.x))).size<=yA ys*5551
 |[],_=>Oa _
 |y::r,h=>by
  obtain⟨e,d,a⟩:=h y (Kc ..);have f:=wq (ys:=r) λx b=>h x (Sb _ b);have g:=vk a;rw[Fc,iE,Ka,zP,Zb];omega
def TQ.P{w:eA}{n d:Nat}{a:mC}{b:List XV}(h:TQ aOj w n d a b):pJ w a (b.map (·.x))/\(∀y∈b,ug y.x.B y.c/\wU y.x.bits):=by
 obtain rfl|⟨g,rfl,o,p,m,h⟩:=h;exact ⟨Ca rfl,λy j=>by cases j⟩;refine ⟨La ⟨g,0,rfl,m,λi d=>?_⟩,λy j=>?_⟩
 .have f:i<yA b:=by simpa using d
  obtain⟨k,l⟩:=h i f;have e:(b.map (·.x))[i]=b[i].x:=by simp
  rw[e];exact⟨b[i].a,b[i].c,by rw[Ya];exact k 0 (by show 0<2;omega),by rw[Ya];exact k 1 (by show 1<2;omega),l.1.B,l.2.1.2.1⟩
 obtain ⟨i,d,rfl⟩:=Ib j;exact(h i d).2.2
def QV.said{w:eA}{u g:Nat}{q:QV}(h:IL.part w u g q):pJ w q.a q.req.P/\VR q.req/\(iE q.req.P).size<=27755:=by
 obtain⟨s,r,D,B,C,m,b,c,d,f⟩:=h;obtain⟨z,l⟩:=s.P;have t:(iE q.req.P).size<=27755:=Ua (wq λy m=>(l y m).1) (by omega);have k:yA q.req.P=yA q.ys:=Xa ..;have o:∀i(g:i<yA q.req.P),wU q.req.P[i].bits:=λi g=>by
  have e:q.req.P[i]=(q.ys[i]'(k ▸ g)).x:=by simp[QV.req]
  rw[e];exact(l _ (Gb _)).2
 have v:sn q.req:=⟨r,b,c,d,λe=>by show q.ys.map _=[];rw[f e];rfl,by show q.T.size<=_;omega,by show q.R.size<=_;omega,by omega,λi g=>by
  have e:q.req.P[i]=(q.ys[i]'(k ▸ g)).x:=by simp[QV.req]
  rw[e];obtain⟨⟨A,_,n⟩,_⟩:=l _ (Gb (k ▸ g));refine⟨by omega,λj p=>?_⟩;have:=n _ (Gb p);exact⟨by omega,by omega⟩⟩
 have E:(sK q.req).size<=28040/\1<=(sK q.req).size:=by
  have F:(if bW q.req.K=dA then aN q.req.T else kA).size<=17:=by
   split;rw[rF];show 1+q.T.size<=_;omega;decide
  have G:(if q.req.K=1 then pB 2 (yA q.req.P:Nat)++iE q.req.P else kA).size<=27757:=by
   split;rw[Ka,gB];omega;decide
  have H:(if aW q.req.K=dA then aG q.req.R else kA).size<=18:=by
   split;rw[iF];show 2+q.R.size<=_;omega;decide
  have I:(if qW q.req.K=dA then pB 8 q.req.U else kA).size<=8:=by
   split;rw[gB];omega;decide
  rw[sK];simp only[Ka,gB];omega
 exact⟨z,⟨v,by omega,show wU q.U from⟨by omega,by omega⟩,o⟩,t⟩
def QV.small{w:eA}{b a:Nat}{q:QV}(h:IL.part w b a q):q.T.size<=16/\q.R.size<=16/\yA q.req.P<=5/\q.U<=100/\-100<=q.U:=⟨h.2.2.1,h.2.2.2.1,by show(q.ys.map _).length<=5;rw[Xa];exact h.2.2.2.2.2.1,h.2.2.2.2.1.2,h.2.2.2.2.1.1⟩
def aEm{c:iC}(h:OM c):lH c=dA:=by grind [OM,lH,bC]
