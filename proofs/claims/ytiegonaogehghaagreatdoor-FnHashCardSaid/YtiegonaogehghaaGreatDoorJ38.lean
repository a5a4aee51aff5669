import Derived.Test.YtiegonaogehghaaGreatDoorJ36
import Derived.Test.YtiegonaogehghaaGreatDoorJ37
import Derived.Test.YtiegonaogehghaaGreatDoorJ35
set_option maxRecDepth 100000
set_option maxHeartbeats 8000000
set_option linter.defProp false
open Bool renaming true->dA,false->cA
open ByteArray renaming empty->kA
open Option renaming none->aA,some->bA
open List renaming length->yA
namespace Go.Proofs.YtiegonaogehghaaGreatDoor
open Go renaming World->eA,Value->iA,TypeId->jA,Calls->gA
open Obj renaming cells->vA
open Value renaming string->oA,agg->tA,slice->pA,tuple->xA,bool->qA
open Ending renaming returned->uA
open RowKit renaming Below->fA
open Go.RowKit Tryz
section
open Go.Maps
attribute [local go_sem] wF uG fK gB.drewI oK.drewI oK.new oK.alloc oK.alloc2
structure nQ(w:World)(a b:jC)(N:pC):Prop where
 files:rB w a N.d.fs
 fit:JE N.d.fs
 tens:uC w b N.ts
 bulk:yA N.ts+aC N.ts≤1048576
 rng:uj N.ts
 lsn:GG N.lsn
 now:GG N.now
def nQ.z{w W:eA}{a b:jC}{N:pC}(h:nQ w a b N)(c:tB w W):nQ W a b N:=⟨h.files.z c,h.fit,h.tens.z c,h.bulk,h.rng,h.lsn,h.now⟩
def NP.held{w W:eA}{c:gC}{cs:Array iA}(h:NP w W c cs)(M:Array iA)(a:eA)(b:tB W a):gB a (w.1.size+1) cs 42/\gB (a.setRow (w.1.size+1+1) M) (w.1.size+1) cs 42:=
 ⟨(h.z b).N,(lG a (w.1.size+1+1) M).blk (h.z b).N (by omega)⟩
def cM{d:Func}{t:Act}{w W:eA}{i j:Nat}{c:gC}{cs:Array iA}{M:pC}{x:iA}{a b:jC}{f g:Nat}(h:d.results=#[.cell i 42,.tmp j])(k:t.tmps.getD i undef=.pointer (pB (w.1.size+1+1)))(l:t.tmps.getD j undef=x)(m:t.defers=[])(P:NP w W c cs)(I:nQ W a b M):bodyPost prog d (λe n=>RN M x w e n) .ret t (W.setRow (w.1.size+1+1) (dC a f b g M)):=
 bU h k l m P.R (kF _ _ _ _ _) (by omega) P.B I.files I.tens
def GN{C:eA->Prop}{w:eA}{a cs:Array iA}{T:jA}(k:∀W,tB w W->gB W w.1.size cs T->C W):C ((w.alloc (vA a T)).setRow w.1.size cs):=
 k _ (yB.trans ((lG _ _ _).below (by simp) λi b e=>by omega)) (gB.new _ _ _).row
def aMy{C:eA->Prop}{w:eA}{O:Nat}{f g a b:iA}{t:jA}(h:gB w O #[f,g] t)(k:∀W,gB W O #[a,b] t->eB (·=O) w W->(∀{B:Nat}{e:jA}{z:Nat}{v:iA}{n:Nat}{d:List iA},w.ownsRow B e z v n d->O<B->W.ownsRow B e z v n d)->C W):C ((w.setCell (dB O 0) a).setCell (dB O 1) b):=
 k _ (by have:=(h.set 0 a).set 1 b;simpa using this) (((eB.refl (·=O) w).setCell (Ca rfl) 0 a).setCell (Ca rfl) 1 b) λh c=>BE (BE h c _) c _
def QD{W:eA}{g:Nat}{k n:Int}{t x:nB}{T:jA}(h:gB W g #[zA k,oA t,oA x,zA n] T):pI W (pB g) [⟨k,t,x,n⟩]:=
 La ⟨g,0,rfl,aB h,λi a=>by obtain rfl:i=0:=(by simp at a;exact a);exact h.c4⟩
def YZ(c:gC){a b:jC}{ca cb:Nat}{N:pC}{W:eA}(h:nQ W a b N){f:jC}{capr:Nat}{d:List qE}(i:pI W f d)(k:yA d+dD d<=240000)(g:WT d):
 gA prog 55 #[jE c,tA (dC a ca b cb N),pA f (yA d) capr] W λe j=>RN (zF c N d).1 (zA (zF c N d).2) W e j:=
 jr c a b ca cb N f capr d W ⟨h.files,h.fit,h.tens,i,by have:=h.bulk;omega,g,h.lsn⟩
def ZJ{k n:Int}{t x:nB}(a:0<=k/\k<=9)(b:WR n):WT [⟨k,t,x,n⟩]:=by grind [WR,WT]
def aGr{c:gC}{d:Int}{a:List fB}(h:kC c d a=dA)(b f:nB)(j:yA a+aC a<=1900000): -1<=(fG c d a b f).1/\(fG c d a b f).1<=2000000/\-1<=(fG c d a b f).2/\(fG c d a b f).2<=1000000:=by
 obtain⟨k,_,_,_,m⟩:=yG h;obtain⟨n,i,_⟩:=cU m (name:=b);have p:yA (xB a b).Z<=1900000:=by
  rcases xL (ts:=a) (name:=b) with⟨g,_⟩|⟨e,_⟩;exact (lW j _ g).2.2.2.2;rw[e];exact Oa _
 have l:(0<=c.tl/\c.tl<=1000000)/\(0<=c.ml/\c.ml<=1000000):=by
  simp only[cF,zB,Sa,Ab]at k;omega
 have g : -1<=tG (xB a b).M f c.ml/\tG (xB a b).M f c.ml<=1000000:=by
  rw[VD (LZ i).2];cases hg:xC (·.s) f (xB a b).M with
  |none=>exact⟨by simp;omega,by simp;omega⟩
  |some q=>
   have:=((LZ i).1 q (bM hg).1).2;simp only[zB,Sa,Ab]at this;exact⟨by simp;omega,by simp;omega⟩
 have o:oI wD (xB a b).Z f<=yA (xB a b).Z:=Pc _ _;simp only[zB,Sa,Ab]at n;unfold fG kE;split
 .split
  .refine ⟨by dsimp only;omega,by dsimp only;omega,?_,?_⟩<;>(dsimp only;split<;>omega)
  exact ⟨by dsimp only;omega,by dsimp only;omega,g.1,g.2⟩
 exact ⟨by simp,by simp,by simp,by simp⟩
def ZA(v:Int)(W:eA)(a : -9223372036854775808<=v)(b:v<=9223372036854775807):vE 54 #[zA 8,zA v] W (oA (qB 8 v)):=fD 8 v W (by omega) a b
def aLs(v:Int)(W:eA)(a : -9223372036854775808<=v)(b:v<=9223372036854775807):vE 54 #[zA 4,zA v] W (oA (qB 4 v)):=fD 4 v W (by omega) a b
def aLr(v:Int)(W:eA)(a : -9223372036854775808<=v)(b:v<=9223372036854775807):vE 54 #[zA 2,zA v] W (oA (qB 2 v)):=fD 2 v W (by omega) a b
def aFm{c:gC}{g:Int}{a:List fB}(h:kC c g a=dA)(b:nB)(o:yA a+aC a<=1900000):yA (xB a b).Z+yD (xB a b).Z<=1900000/\aBc (xB a b).Z:=by
 obtain⟨_,m,d,_,k⟩:=yG h;obtain⟨_,_,l⟩:=cU k (name:=b);refine⟨?_,λi f=>?_⟩
 .rcases xL (ts:=a) (name:=b) with⟨j,_⟩|⟨e,_⟩
  .obtain ⟨i,f,e⟩:=Ib j;have d:=hK a i f;have n:=pM a (i+1);rw[e]at d;unfold aF at d;omega
  rw[e];exact Oa _
 have:=((FU l).1 _ (Gb f)).2.1;simp only[zB,Sa,Ab]at this;exact⟨by omega,by omega⟩
def OB(a b d e:iA)(W:eA):(Instr.field 54 (tA #[a,b,d,e]) 3).run prog W=.ok e W:=by kernel_rfl
def aJw{c:gC}{a:Int}{e:List fB}(h:kC c a e=dA)(d:nB)(b:List oF)(r:(cE b).size<=60000)(v:yA b<=500)(q:d.size<=255)(k:Nat)(p:k<=yA b):kC c a (fL c a d e (b.take k)).1=dA/\yA (fL c a d e (b.take k)).1+aC (fL c a d e (b.take k)).1<=yA e+aC e+190000/\(fL c a d e (b.take k)).2.1.size=k/\yA (fL c a d e (b.take k)).2.2<=k/\dD (fL c a d e (b.take k)).2.2<=190000/\WT (fL c a d e (b.take k)).2.2:=by
 obtain⟨j,s,l,m,t,n⟩:=aFu h d b k p;have u:(cE (b.take k)).size<=60000:=by
  have:=zH (b.take k) (b.drop k);rw[Za]at this;rw[this,Ka]at r;omega
 have w:k*(d.size+2)<=500*257:=Hf (by omega) (by omega);have x:k*d.size<=500*255:=Hf (by omega) q;refine⟨j,by omega,l,m,by omega,λi o=>?_⟩;obtain⟨f,g⟩:=n _ (Gb o);rw[f,g];exact⟨⟨by omega,by omega⟩,⟨by omega,by omega⟩⟩
def vP(k:Int):Bool:=k != 2&&k != 4
def aKs(c:gC)(N:pC)(r:dG)(a:List Int):Prop:=cF c=dA/\N.up=dA/\kC c N.now N.ts=dA/\VR r/\r.K∈a
end
def QV.req(q:QV):dG:=⟨q.K,q.T,q.R,q.U,q.ys.map (·.x)⟩
def rv:∀{ls:List bC},iU ls->rD ls<=yA ls*323
 |[],_=>Oa _
 |l::r,h=>by
  have b:=h l (Kc ..);have c:=rv (ls:=r) λx a=>h x (Sb _ a);simp only[rD,Zb];omega
def td:∀{ys:List XV},(∀y∈ys,aAv y.x.B y.c)->(cE (ys.map (·.x))).size<=yA ys*6529
 |[],_=>Oa _
 |y::r,h=>by
  obtain⟨e,d,a⟩:=h y (Kc ..);have f:=td (ys:=r) λx b=>h x (Sb _ b);have g:=rv a;rw[Fc,cE,Ka,oP,Zb];omega
def SY.P{w:eA}{n d:Nat}{a:jC}{b:List XV}(h:SY dX w n d a b):dJ w a (b.map (·.x))/\(∀y∈b,aAv y.x.B y.c/\uh y.x.bits):=by
 obtain rfl|⟨g,rfl,o,p,m,h⟩:=h;exact ⟨Ca rfl,λy j=>by cases j⟩;refine ⟨La ⟨g,0,rfl,m,λi d=>?_⟩,λy j=>?_⟩
 .have f:i<yA b:=by simpa using d
  obtain⟨k,l⟩:=h i f;have e:(b.map (·.x))[i]=b[i].x:=by simp
  rw[e];exact⟨b[i].a,b[i].c,by rw[Ya];exact k 0 (by show 0<2;omega),by rw[Ya];exact k 1 (by show 1<2;omega),l.1.B,l.2.1.2.1⟩
 obtain ⟨i,d,rfl⟩:=Ib j;exact(h i d).2.2
def QV.said{w:eA}{u g:Nat}{q:QV}(h:xX.part w u g q):dJ w q.a q.req.P/\VR q.req/\(cE q.req.P).size<=32645:=by
 obtain⟨s,r,D,B,C,m,b,c,d,f⟩:=h;obtain⟨z,l⟩:=s.P;have t:(cE q.req.P).size<=32645:=Ua (td λy m=>(l y m).1) (by omega);have k:yA q.req.P=yA q.ys:=Xa ..;have o:∀i(g:i<yA q.req.P),WR q.req.P[i].bits:=λi g=>by
  have e:q.req.P[i]=(q.ys[i]'(k ▸ g)).x:=by simp[QV.req]
  rw[e];exact(l _ (Gb _)).2
 have v:pw q.req:=⟨r,b,c,d,λe=>by show q.ys.map _=[];rw[f e];rfl,by show q.T.size<=_;omega,by show q.R.size<=_;omega,by omega,λi g=>by
  have e:q.req.P[i]=(q.ys[i]'(k ▸ g)).x:=by simp[QV.req]
  rw[e];obtain⟨⟨A,_,n⟩,_⟩:=l _ (Gb (k ▸ g));refine⟨by omega,λj p=>?_⟩;have:=n _ (Gb p);exact⟨by omega,by omega⟩⟩
 have E:(uK q.req).size<=33000/\1<=(uK q.req).size:=by
  have F:(if zU q.req.K=dA then xM q.req.T else kA).size<=17:=by
   split;rw[lF];show 1+q.T.size<=_;omega;decide
  have G:(if q.req.K=1 then qB 2 (yA q.req.P:Nat)++cE q.req.P else kA).size<=32647:=by
   split;rw[Ka,kB];omega;decide
  have H:(if yU q.req.K=dA then vF q.req.R else kA).size<=18:=by
   split;rw[bF];show 2+q.R.size<=_;omega;decide
  have I:(if mV q.req.K=dA then qB 8 q.req.U else kA).size<=8:=by
   split;rw[kB];omega;decide
  rw[uK];simp only[Ka,kB];omega
 exact⟨z,⟨v,by omega,show WR q.U from⟨by omega,by omega⟩,o⟩,t⟩
def QV.small{w:eA}{b a:Nat}{q:QV}(h:xX.part w b a q):q.T.size<=16/\q.R.size<=16/\yA q.req.P<=5:=⟨h.2.2.1,h.2.2.2.1,by show(q.ys.map _).length<=5;rw[Xa];exact h.2.2.2.2.2.1⟩
def aCl{c:gC}(h:ML c):cF c=dA:=by grind [ML,cF,zB]
def QN(c:gC)(k:nB):Nat:=(yP c k).toNat
def VZ{c:gC}(k:nB)(h:1<=c.sh):0<=yP c k/\yP c k<c.sh:=by
 unfold yP;split;omega;split;exact ⟨Int.emod_nonneg _ (by omega),Int.emod_lt_of_pos _ (by omega)⟩;exact ⟨Int.emod_nonneg _ (by omega),Int.emod_lt_of_pos _ (by omega)⟩
def aIv{c:gC}(k:nB)(h:1<=c.sh):((QN c k:Nat):Int)=yP c k:=by
 have:=VZ k h;unfold QN;omega
def aFg{c:gC}(k:nB)(h:1<=c.sh):QN c k<c.sh.toNat:=by
 have:=VZ k h;unfold QN;omega
def cX(c:gC)(b:Int)(d:List fB)(a:nB):List (List nB):=
 if (kC c b d&&oC a)=dA then xF (QN c) c.sh.toNat ((xB d a).Z.map (·.s)) else []
def aFi{c:gC}{b:Int}{d:List fB}(h:kC c b d=dA):1<=c.sh/\c.sh<=64/\0<=c.ha/\c.ha<=2:=by
 have a:cF c=dA:=by
  cases hb:cF c with
  |true=>rfl
  |false=>simp[kC,hb]at h
 unfold cF at a;simp only[Sa]at a;have e:=zJ a.1.1.2;have f:=zJ a.1.2;omega
def aCq(a:nB->Nat)(n:Nat)(c:List nB):yA (c.filter λk=>decide (a k<n))+yA (c.filter λk=>a k==n)=yA (c.filter λk=>decide (a k<n+1)):=by
 induction c with
 |nil=>rfl
 |cons k r e=>
  simp only[List.filter_cons];by_cases d:a k<n
  .have b:¬(a k==n)=dA:=by simp;omega
   rw[Ma (by simpa using d),Ja b,Ma (by simp;omega)];simp only[Zb];omega
  by_cases b:a k=n
  .rw[Ja (by simpa using d),Ma (by simpa using b),Ma (by simp;omega)];simp only[Zb];omega
  rw[Ja (by simpa using d),Ja (by simpa using b),Ja (by simp;omega)];exact e
def QR(b:nB->Nat)(n:Nat)(a:List nB):dT (xF b n a)=yA (a.filter λk=>decide (b k<n)):=by
 induction n with
 |zero=>
  have:a.filter (λk=>decide (b k<0))=[]:=List.filter_eq_nil_iff.2 λk _=>by simp
  rw[this];simp[xF,dT]
 |succ n c=>rw[NF,FX,c,<-aCq];simp[dT]
def SL(b:nB->Nat)(n:Nat)(a:List nB):dT (xF b n a)<=yA a:=by
 rw[QR];exact Pc _ _
def mj(b:nB->Nat)(n:Nat)(a:List nB)(i:Nat)(h:i<yA (xF b n a)):yA (xF b n a)[i]<=yA a:=by
 rw[uN];exact Pc _ _
def aBe(c:gC)(d:Int)(g:List fB)(b:nB)(w:eA)(e:Ending)(h:eA):Prop:=
 ∃a f,e=uA (.slice a (yA (cX c d g b)) f)/\SZ h w.1.size a (cX c d g b)/\tB w h
section
open Go.Maps
attribute [local go_sem] wF uG fK gB.drewI oK.drewI oK.new oK.alloc oK.alloc2
def zq{r w:eA}{B P D:Nat}(c:gC)(h:eQ r w B P D dk0 lg0)(G:bH r)(H:cF c=dA):
 gA prog 18 #[.pointer (pB P),jE c] w λe A=>(∃h l m,e=uA (xA #[.pointer (pB h),.nilIface])/\gB A h #[.pointer (pB l),zA 0] 83/\eE A (λg=>w.1.size<g/\g≠h) l m c 0 [] 1900000)/\eQ r A B P D dk1 ⟨1,1,0⟩:=by
 have M:tC w D 3 (qA cA):=by obtain⟨v,y⟩:=h.drive;exact y.blk.cell 3
 have N:D<w.1.size:=by obtain⟨v,y⟩:=h.drive;exact aB y.blk
 have O:=aB h.wr;obtain⟨L,_,_,_⟩:=h.wr.cells;have n:=pF w (vA #[zA c.w,zA c.tl,zA c.ml,zA c.sh,zA c.ha,zA c.sg] 24);have f:=cB (UH (h.z n));rw[show jJ dk0 (nN dk0.fs)=(dk0,0) from rfl]at f;have C:=cB (gB.new w #[zA c.w,zA c.tl,zA c.ml,zA c.sh,zA c.ha,zA c.sg] 24);have u:=cB (show bH r/\cF c=dA from⟨G,H⟩);clear h G H;unfold jE at *;go_enter func18,ntmps18;go_wp2_with fail;apply hC f.o;rintro X ⟨a,p⟩;have F:=cB a;have s:=cB (p.blk C.o (by decide) (by decide));have z:=aB s.o;have d:=cB (aNb c a u.o.2 (u.o.1.z a.below));unfold Ck0 jE at d;obtain⟨R,S,T,U,V,W⟩:=s.o.c6;rw[show eH 0=.nilIface from rfl];clear a p f L M C n;go_wp2_with fail;refine d.o.mono ?_;rintro e Y ⟨h,l,m,rfl,x,o,b,k⟩;have E:=cB (aJg (F.o.z k));have t:=cB (Vc o b);clear x o b k d R S T U V W s;go_wp2_with fail;apply hC E.o;rintro Q ⟨q,j⟩;have K:=cB q;have J:=cB (Vc (j.blk t.o.1 (by decide)) ((t.o.2.apart j).re (B':=λg=>w.1.size<g/\g≠h) λg _ I=>⟨rfl,Bb z I.1,I.2⟩));clear q j E t F u;go_wp2_with fail;go_loopw [11,45] (λ_ i wr=>i=zA 0/\wr=Q) (λ_ i _=>0-(intOf i).toNat)
 case atStart=>exact⟨rfl,rfl⟩
 case round=>
  obtain⟨rfl,rfl⟩:=hrel;go_wp2;go_ret2;exact⟨⟨h,l,m,rfl,J.o⟩,K.o⟩
def YI(c:gC)(w:eA)(h:cF c=dA)(o:bH w)(S:cJ w):
 gA prog 6 #[jE c,tA #[pA aA 0 0,zA 1000000,zA 0,zA 0,zA 0,qA cA]] w λe w'=>RN nd1 (zA 0) w e w':=by
 have x:=cB (λW=>sT c W);rw[h]at x;have G:sE [] 1000000 0 0 0=dA:=by decide
 have i:=cB (λW=>oU aA 0 [] 1000000 0 0 0 cA W (Ca rfl) pO.H (by simp) pO.sum);rw[G]at i;have y:=cB (λW=>IH aA 0 [] 1000000 0 0 0 cA W (Ca rfl) (by simp));have n:=cB (show bH w/\cJ w/\cF c=dA from⟨o,S,h⟩);simp only[List.length_nil]at i y;obtain⟨K,m⟩:∃K,K=dk1:=⟨_,rfl⟩
 rw[show nd1=⟨dk1,⟨1,1,0⟩,0,[],0,cA,dA⟩ from rfl,<-m];clear h o S;unfold jE at *;have fz:=yK;go_enter func6,ntmps6;go_wp2_with fail;apply hC (x.o _);intro w1 g;have P:=cB ((O0.new (w:=w) (c:=c) (a:=aA) (ca:=0)).z g);clear g x;obtain⟨T,U,V,Y,Z,o,B,R,y2,y3,y4,y5,z0,z1,z2,z3,z4,z5,z6⟩:=P.o.cells;go_wp2_with fail;apply hC (i.o _);intro w2 g;replace P:=cB (P.o.z g);clear g i T U V Y Z o B R y2 y3 y4 y5 z0 z1 z2 z3 z4 z5 z6;obtain⟨T,U,V,Y,Z,o,B,R,y2,y3,y4,y5,z0,z1,z2,z3,z4,z5,z6⟩:=P.o.cells;go_wp2_with fail;refine(y.o _).mono ?_;rintro e b ⟨D,v,rfl,L,g⟩;have C:=vB g (pF b (vA #[.pointer (pB D),zA 0,zA 0,zA 0] 72));have h:eQ w2 (b.alloc (vA #[.pointer (pB D),zA 0,zA 0,zA 0] 72)) w2.1.size b.1.size D dk0 lg0:=⟨n.o.2.1.z P.o.B,C,Ia _,g.size,gB.new _ _ _,⟨v,L.z yB⟩,G⟩
 have P4:=cB (P.o.z C);have I:=g.size;have k:=cB (zq c h (n.o.1.z P.o.B) n.o.2.2);unfold jE at k;rw[<-m]at k;clear m g L C y T U V Y Z o B R y2 y3 y4 y5 z0 z1 z2 z3 z4 z5 z6 h n G;obtain⟨T,U,V,Y,Z,o,B,R,y2,y3,y4,y5,z0,z1,z2,z3,z4,z5,z6⟩:=P4.o.cells;go_wp2_with fail;refine k.o.mono ?_;rintro e f ⟨⟨h,l,m,rfl,G,hL⟩,p⟩;have W5:=cB p;have J:=cB (P.o.z p.below);obtain⟨v5,H⟩:=p.drive;obtain⟨a5,c5,rfl,N⟩:=H.files;have I:=cB (λW(u:tB f W)=>dU D _ a5 _ c5 _ _ _ _ _ W (H.blk.z u));have F5:=cB N;have O:=aB G;have z:=cB (λW(u:tB f W)=>VC l m c 0 _ [] 1900000 W (hL.z u) (λt m=>by cases m) (by simp));have HH:=cB G;simp only[List.length_nil]at z;clear p H k P4 T U V Y Z o B R y2 y3 y4 y5 z0 z1 z2 z3 z4 z5 z6 G hL N;obtain⟨R,U,Y,Z⟩:=W5.o.wr.cells;have Q:=aB W5.o.wr;have q0:tC f h 0 (.pointer (pB l)):=HH.o.cell 0;have q1:tC f h 1 (zA 0):=HH.o.cell 1;have B:h≠w.1.size+1+1:=λe=>by
  have o:=J.o.R;rw[<-e]at o;have G:=(show f.heap[h]?=_ from HH.o).symm.trans o;simp only[Qa,Obj.cells.injEq]at G;exact absurd G.2.1 (by decide)
 have d:=cB (show ∀W X,tB f W->eB (·=w.1.size+1+1) W X->tC X b.1.size 0 (.pointer (pB D))/\tC X b.1.size 1 (zA 1)/\tC X b.1.size 2 (zA 1)/\tC X b.1.size 3 (zA 0)/\tC X h 0 (.pointer (pB l))/\tC X h 1 (zA 0) from λW X u m=>by
  have o:=P.o.lt;have o:∀j,X.cell? (dB b.1.size j)=f.cell? (dB b.1.size j):=λj=>(eA.cell?_of_block (m.block _ (Bb Q u.size) (λe=>by have G:b.1.size=w.1.size+1+1:=e;omega))).trans (u.cell Q);have G:∀j,X.cell? (dB h j)=f.cell? (dB h j):=λj=>(eA.cell?_of_block (m.block _ (Bb O u.size) B)).trans (u.cell O);exact⟨(o _).trans R,(o _).trans U,(o _).trans Y,(o _).trans Z,(G _).trans q0,(G _).trans q1⟩)
 clear fz;go_wp2_with fail;go_region_held3 (λW=>W.cell? (dB b.1.size 0)=bA (.pointer (pB D))/\W.cell? (dB b.1.size 1)=bA (zA 1)/\W.cell? (dB b.1.size 2)=bA (zA 1)/\W.cell? (dB b.1.size 3)=bA (zA 0)/\W.cell? (dB h 0)=bA (.pointer (pB l))/\W.cell? (dB h 1)=bA (zA 0))
  (first|exact d.o _ _ r (eB.refl _ _)|exact d.o _ _ s (eB.refl _ _)|exact d.o _ _ r (lG _ _ _)|exact d.o _ _ s (lG _ _ _)|exact d.o _ _ bD.drew (eB.refl _ _))
  (first
  |(go_at_call 19;(first|(have q:=r;apply hC (I.o _ r);intro h o;have s:=vB r o;have m:=(J.o.z s).R.box rfl)|(apply hC (I.o _ bD.drew);intro h o;have s:=vB bD.drew o)))
  |(go_at_call 21;(first|(have q:=s;refine(z.o _ s).mono ?_;rintro e B ⟨A,h,rfl,F,E⟩;have r:=vB s E;have m:=(J.o.z r).R.box rfl;have m:=lE a5 c5 A h ⟨K,⟨1,1,0⟩,0,[],0,cA,dA⟩;dsimp only[List.length_nil]at m)|(refine(z.o _ bD.drew).mono ?_;rintro e B ⟨A,h,rfl,F,E⟩;have r:=vB bD.drew E;have m:=lE a5 c5 A h ⟨K,⟨1,1,0⟩,0,[],0,cA,dA⟩;dsimp only[List.length_nil]at m))))
 all_goals
  go_wp2;first
  |exact PV (M:=⟨K,⟨1,1,0⟩,0,[],0,cA,dA⟩) rfl rfl rfl rfl (J.o.z r) (F5.o.z r) F.tens
  |exact PV (M:=⟨K,⟨1,1,0⟩,0,[],0,cA,dA⟩) rfl rfl rfl rfl (J.o.z s) (F5.o.z s) (F.tens.z o)
end
def rz{M:pC}{x:Int}{a:nB}:bN M x a=if bT M x=0 then a else qB 1 (bT M x):=by
 unfold bN bT;repeat' split
 all_goals first|rfl|simp_all
def ot{M:pC}{x:Int}:bN M x (qB 1 0)=qB 1 (bT M x):=by
 rw[rz];split<;>simp_all
def aLm{c:gC}{N:pC}{rs:List qE}(d:kC c N.now N.ts=dA)(b:N.deg=cA)(e:N.up=dA)(h:(rG c N.now N.ts rs).2.2=cA):zF c N rs=(N,62):=by
 have a:=(yG d).1;unfold zF;rw[Ja (by simp[a]),Ja (by simp[ub,b,e]),Ma (Ca h)]
def uv{c:gC}{a:Int}{b:List fB}{x:qE}(d:kC c a b=dA):(rG c a b [x]).2.2=(mE c a b x).2.2:=by
 unfold rG;simp[d,bG];split<;>simp_all
def aBi{c:gC}{N:pC}{r:dG}{x:qE}(b:kC c N.now N.ts=dA)(d:N.deg=cA)(g:N.up=dA)(i:r.K=2/\x=⟨2,kA,kA,r.U⟩\/r.K=3/\oC r.T=dA/\x=⟨3,r.T,r.R,r.U⟩):nI c N r=((zF c N [x]).1,qB 1 (bT (zF c N [x]).1 (zF c N [x]).2)):=by
 have a:=λh=>aLm (rs:=[x]) b d g ((uv (x:=x) b).trans h);unfold nI;obtain⟨e,rfl⟩|⟨e,f,rfl⟩:=i
 .rw[km b];simp only[d,e,Bd,false_and,Cf,ne_eq,not_true_eq_false,Td,Int.reduceEq];simp only[mE,Int.reduceEq,Cf,Td]at a;split
  .rename_i h;rw[a h];rfl
  rw[ot]
 rw[tb b];simp only[d,e,f,Bd,false_and,Cf,Bool.true_eq_false,and_false,Int.reduceEq,Td];simp only[mE,Int.reduceEq,Cf,Td]at a;split
 .rename_i h;rw[a h];rfl
 rw[ot]
def aMt{c:gC}{N:pC}{r:dG}(a:N.deg=cA)(b:r.K=4):nI c N r=((DF c N).1,qB 1 (bT (DF c N).1 (DF c N).2)):=by
 unfold nI;simp[a,b,ot]
def aMu{c:gC}{N:pC}{r:dG}(b:kC c N.now N.ts=dA)(a:r.K=5)(d:oC r.T=dA)(e:0<=(kE c (xB N.ts r.T) r.R).1):nI c N r=if (r.R.toList.isEmpty||xE r.R)=dA then(N,qB 1 0++qB 8 (kE c (xB N.ts r.T) r.R).1++qB 8 (kE c (xB N.ts r.T) r.R).2) else(N,qB 1 2):=by
 unfold nI fG;cases hm:(r.R.toList.isEmpty||xE r.R)
 .simp[a,d,b]
 simp[a,d,b];omega
def aMv{c:gC}{N:pC}{r:dG}(a:r.K=6)(b:oC r.T=dA):nI c N r=(N,qB 1 0++qB 8 N.now++qB 4 (yA (xB N.ts r.T).Z:Nat)++oG (xB N.ts r.T).Z):=by
 unfold nI;simp[a,b]
def aMs{c:gC}{N:pC}{r:dG}(a:N.deg=cA)(b:r.K=1)(d:oC r.T=dA):nI c N r=if (fL c N.now r.T N.ts r.P).2.2=[] then(N,qB 1 0++qB 2 (yA r.P:Nat)++(fL c N.now r.T N.ts r.P).2.1)
 else((zF c N (fL c N.now r.T N.ts r.P).2.2).1,if bT (zF c N (fL c N.now r.T N.ts r.P).2.2).1 (zF c N (fL c N.now r.T N.ts r.P).2.2).2=0 then qB 1 0++qB 2 (yA r.P:Nat)++(fL c N.now r.T N.ts r.P).2.1 else qB 1 (bT (zF c N (fL c N.now r.T N.ts r.P).2.2).1 (zF c N (fL c N.now r.T N.ts r.P).2.2).2)):=by
 unfold nI;simp[a,b,d,rz]
section
open Go.Maps
structure fU(Lo:Nat)(w0 w:World)(D:Nat)(r:dG)(sa:jC)(sc:Nat)(c:gC)(a:jC)(ca:Nat)(b:jC)(cb:Nat)(N:pC)(l m M:Nat)(B A:Nat→Prop):Prop where
 dsk:gB w D (LH r sa sc c a ca b cb N l) 92
 led:eE w B l m c N.now N.ts M
 new:∀g,w.1.size≤g→B g
 off:¬B D
 old:∀g,B g∨g=D→w0.1.size≤g
 node:oJ w A a b N
 apart:∀g,A g→(¬B g∧g≠D)∧Lo≤g∧g<w.1.size
 lo:Lo≤w0.1.size
 base:tB w0 w
 utab:bH w0
 pow:cJ w0
 fit:JE N.d.fs
 bulk:yA N.ts+aC N.ts≤1048576
 rng:uj N.ts
 lsn:GG N.lsn
 now:GG N.now
 st:kC c N.now N.ts=dA
 req:pw r∧(uK r).size≤60000∧WR r.U
 bit:∀x∈r.P,WR x.bits
 smp:∀W,eB (λg=>B g∨g=D) w W→dJ W sa r.P
 hM:1≤M∧M≤900000000
def DH(V:pC×nB)(D:Nat)(r:dG)(sa:jC)(sc:Nat)(c:gC)(l Lo:Nat)(w0:eA)(e:Ending)(d:eA):Prop:=
 ∃a ca b cb,e=uA (oA V.2)/\gB d D (LH r sa sc c a ca b cb V.1 l) 92/\oJ d (λx=>Lo<=x/\x<d.1.size) a b V.1/\tB w0 d
section
variable {w0 w W:eA} {D Lo:Nat} {r:dG} {sa:jC} {sc:Nat} {c:gC} {a:jC} {ca:Nat} {b:jC} {cb:Nat} {N:pC} {l m M:Nat} {B A:Nat→Prop}
theorem fU.same(h:fU Lo w0 w D r sa sc c a ca b cb N l m M B A)(d:eB B w W){s:nB}:DH (N,s) D r sa sc c l Lo w0 (uA (oA s)) W:=
 ⟨a,ca,b,cb,rfl,d.blk h.dsk h.off,(h.node.turned d λg f _=>(h.apart g f).1.1).mono λg f=>⟨(h.apart g f).2.1,Bb (h.apart g f).2.2 d.size⟩,h.base.trans (d.below h.base.size λk i e=>by have:=h.old k (Ca e);omega)⟩
end
end
def NaV(M:pC)(x:iA)(w:eA)(e:Ending)(c:eA):Prop:=
 ∃a d b f,e=uA (xA #[tA (dC a d b f M),x])/\oJ c (λx=>w.1.size<=x/\x<c.1.size) a b M/\tB w c
def bj(V:pC×Int)(w:eA)(e:Ending)(a:eA):Prop:=NaV V.1 (zA V.2) w e a
def ZB{l:Func}{t:Act}{w W:eA}{c:gC}{cs:Array iA}{M:pC}{x:iA}{a b:jC}{d f H i j:Nat}(h:l.results=#[.cell i 42,.tmp j])(m:t.tmps.getD i undef=.pointer (pB (w.1.size+1+1)))(n:t.tmps.getD j undef=x)(p:t.defers=[])(P:NP w W c cs)(o:oJ W (λx=>w.1.size+1+1<x/\x<H) a b M)(s:H<=W.1.size):bodyPost prog l (λe r=>NaV M x w e r) .ret t (W.setRow (w.1.size+1+1) (dC a d b f M)):=by
 have g:=lG W (w.1.size+1+1) (dC a d b f M);have v:=g.size;exact bodyPost_ret (qn h m n P.R.row (uG _ _ _ _ _)) p ⟨a,d,b,f,rfl,(o.turned g (λx q _ e=>by omega)).mono (λx q=>by omega),P.B.trans (g.below P.B.size (λk u e=>by omega))⟩
def iN{f:Func}{t:Act}{w W:eA}{c:gC}{cs:Array iA}{V:pC×Int}{M:pC}{d:Int}{a b:jC}{ca cb H i j:Nat}(h:f.results=#[.cell i 42,.tmp j])(g:t.tmps.getD i undef=.pointer (pB (w.1.size+1+1)))(k:t.tmps.getD j undef=zA d)(n:t.defers=[])(P:NP w W c cs)(E:V=(M,d))(l:oJ W (λx=>w.1.size+1+1<x/\x<H) a b M)(m:H<=W.1.size):bodyPost prog f (λe o=>bj V w e o) .ret t (W.setRow (w.1.size+1+1) (dC a ca b cb M)):=by
 subst E;exact ZB h g k n P l m
def aOa(n:Nat)(b a:eA)(K:gE)(L:mG)(s:iA):Prop:=
 ∃(P D B:Nat)(v:iA),s=.pointer (pB P)/\n+4<=P/\n+4<=B/\DN a P D L/\rC a B D K.fs K.c K.k K.cr K.fl K.dn v/\tB b a
def gB.four{w:eA}{b:Nat}{a c d e:iA}{t:jA}(h:gB w b #[a,c,d,e] t):w.cell? (dB b 0)=bA a/\w.cell? (dB b 1)=bA c/\w.cell? (dB b 2)=bA d/\w.cell? (dB b 3)=bA e:=by
 simp[h.cell]
def rC.set_low{w:eA}{B D:Nat}{f:List jB}{c k a d:Int}{b:Bool}{v:iA}(h:rC w B D f c k a d b v){P:Nat}(n:P<B)(j:Nat)(x:iA):rC (w.setCell (dB P j) x) B D f c k a d b v:=by
 have i:=(bE.refl (λk=>k=P) w).setCell (g:=P) rfl j x;have m:=h.from';refine⟨h.from',h.blk.keeps i (by omega),IP h.row i (λg l e=>?_),h.apart⟩;have:=mH h.row g l;omega
def aJh{w:eA}{P D:Nat}{L:mG}{b c d e:iA}(h:gB w P #[b,c,d,e] 72):
 DN ((((w.setCell (dB P 0) (.pointer (pB D))).setCell (dB P 1) (zA L.first)).setCell (dB P 2) (zA L.last)).setCell (dB P 3) (zA L.size)) P D L:=by
 have a:=(((h.set 0 (.pointer (pB D))).set 1 (zA L.first)).set 2 (zA L.last)).set 3 (zA L.size);show gB _ _ _ _;simpa using a
def vR{w:eA}{b g j:Nat}{a:Array iA}{t:jA}{x:iA}(h:gB w b a t)(c:b≠g):gB (w.setCell (dB g j) x) b a t:=(fA.heap_setCell _ _ _ b (λe=>c e)).trans h
def gB.setO{w:eA}{b g:Nat}{a:Array iA}{t:jA}(h:gB w b a t)(c:b≠g)(j:Nat)(x:iA):gB (w.setCell (dB g j) x) b a t:=vR h c
def KP(n P D:Nat)(a L:mG)(W:eA):Prop:=DN W P D a/\gB W (n+1) #[zA L.first,zA L.last,zA L.size] 37
def KP.z{n P D:Nat}{a L:mG}{W b:eA}(h:KP n P D a L W)(c:tB W b):KP n P D a L b:=⟨h.1.z c,h.2.z c⟩
def KP.drew{n P D:Nat}{a L:mG}{W:eA}(h:KP n P D a L W):KP n P D a L W.drew:=h.z bD.drew
def KP.set{n P D g j:Nat}{a L:mG}{W:eA}{x:iA}(h:KP n P D a L W)(b:P≠g)(c:n+1≠g):KP n P D a L (W.setCell (dB g j) x):=⟨vR h.1 b,vR h.2 c⟩
def KP.cells{n P D:Nat}{e L:mG}{W:eA}(h:KP n P D e L W):W.cell? (dB P 0)=bA (.pointer (pB D))/\W.cell? (dB P 1)=bA (zA e.first)/\W.cell? (dB P 2)=bA (zA e.last)/\W.cell? (dB P 3)=bA (zA e.size)/\W.cell? (dB (n+1) 0)=bA (zA L.first)/\W.cell? (dB (n+1) 1)=bA (zA L.last)/\W.cell? (dB (n+1) 2)=bA (zA L.size):=by
 obtain⟨a,b,c,d⟩:=h.1.cells;obtain⟨x,y,z⟩:=h.2.three;exact⟨a,b,c,d,x,y,z⟩
def oO(n:Nat)(g:eA)(a b c d e f h i j:iA):eA:=
 (((((((((g.setCell (dB (n+1+1) 0) a).setCell (dB (n+1+1) 1) b).setCell (dB (n+1+1) 2) c).setCell (dB (n+1+1) 3) d).setCell (dB (n+1+1) 4) e).setCell (dB (n+1+1) 5) f).setCell (dB (n+1+1+1) 0) h).setCell (dB (n+1+1+1) 1) i).setCell (dB (n+1+1+1) 2) j)
def GX{n:Nat}{a:eA}{j k l m o p f h i v0 v1 v2 v3 v4 v5 x0 x1 x2:iA}{t u:jA}(e:gB a (n+1+1) #[j,k,l,m,o,p] t)(d:gB a (n+1+1+1) #[f,h,i] u):
 gB (oO n a v0 v1 v2 v3 v4 v5 x0 x1 x2) (n+1+1) #[v0,v1,v2,v3,v4,v5] t/\gB (oO n a v0 v1 v2 v3 v4 v5 x0 x1 x2) (n+1+1+1) #[x0,x1,x2] u:=by
 constructor;exact vR (vR (vR (cY e) (by omega)) (by omega)) (by omega);have b:=(((((((d.setO (g:=n+1+1) (by omega) 0 v0).setO (g:=n+1+1) (by omega) 1 v1).setO (g:=n+1+1) (by omega) 2 v2).setO (g:=n+1+1) (by omega) 3 v3).setO (g:=n+1+1) (by omega) 4 v4).setO (g:=n+1+1) (by omega) 5 v5).set 0 x0).set 1 x1;have c:=b.set 2 x2;show gB (oO n a v0 v1 v2 v3 v4 v5 x0 x1 x2) _ _ _;simpa[oO]using c
def BT{n B:Nat}{w a:eA}{b c d e f g i j k:iA}(h:fA B w a)(l:B<=n):fA B w (oO n a b c d e f g i j k):=by
 unfold oO;iterate 9 (refine fA.setCell ?_ (by show B<=_;first|exact(by simp only;omega)|omega) _)
 exact h
def OE{n B:Nat}{c:eA}{a:jC}{b:List jB}{d e f g i j k l m:iA}(h:uI c B a b)(o:n+4<=B):uI (oO n c d e f g i j k l m) B a b:=by
 unfold oO;iterate 9 (refine uI.set_below ?_ (by show _<B;first|exact(by simp only;omega)|omega) _)
 exact h
def ea(a:jC)(J:Nat)(K:gE)(L:mG)(p:nB)(o:Int)(w:eA)(h:cJ w)(m:rB w a K.fs)(c:JE K.fs)(hp:p.size<=1900000):
 gA prog 271 #[tA #[pA a (yA K.fs) J,zA K.c,zA K.k,zA K.cr,zA K.fl,qA K.dn],tA #[zA L.first,zA L.last,zA L.size],oA p,zA o] w λe w'=>
  ∃a' k,e=uA (xA #[tA #[.slice a' (yA (pE K L p o).1.fs) k,zA (pE K L p o).1.c,zA (pE K L p o).1.k,zA (pE K L p o).1.cr,zA (pE K L p o).1.fl,qA (pE K L p o).1.dn],tA #[zA (pE K L p o).2.1.first,zA (pE K L p o).2.1.last,zA (pE K L p o).2.1.size],zA (pE K L p o).2.2])/\
   uI w' w.1.size a' (pE K L p o).1.fs/\tB w w':=by
 have G:bB (rB w a K.fs):=m;have k:=c.len;have HS:bB _:=c;have HPW:bB (cJ w):=h;clear m c h;go_enter func271,ntmps271;go_upto_region 1 with fail;obtain⟨hA,hL,Z,c,k⟩:=GZ (w:=w) (x:=#[pA a (yA K.fs) J,zA K.c,zA K.k,zA K.cr,zA K.fl,qA K.dn]) (tx:=35) (y:=#[zA L.first,zA L.last,zA L.size]) (ty:=37) (z:=#[pA aA 0 0,zA 0,zA 0,zA 0,zA 0,qA cA]) (tz:=35) (u:=#[zA 0,zA 0,zA 0]) (tu:=37) bD;have m:((((w.alloc (vA #[pA a (yA K.fs) J,zA K.c,zA K.k,zA K.cr,zA K.fl,qA K.dn] 35)).alloc (vA #[zA L.first,zA L.last,zA L.size] 37)).alloc (vA #[pA aA 0 0,zA 0,zA 0,zA 0,zA 0,qA cA] 35)).alloc (vA #[zA 0,zA 0,zA 0] 37)).1.size=w.1.size+4:=by simp
 generalize ((((w.alloc (vA #[pA a (yA K.fs) J,zA K.c,zA K.k,zA K.cr,zA K.fl,qA K.dn] 35)).alloc (vA #[zA L.first,zA L.last,zA L.size] 37)).alloc (vA #[pA aA 0 0,zA 0,zA 0,zA 0,zA 0,qA cA] 35)).alloc (vA #[zA 0,zA 0,zA 0] 37))=N at *;have HBX:bB (∀r,tB N r->gB r w.1.size #[pA a (yA K.fs) J,zA K.c,zA K.k,zA K.cr,zA K.fl,qA K.dn] 35/\gB r (w.1.size+1) #[zA L.first,zA L.last,zA L.size] 37/\gB r (w.1.size+1+1) #[pA aA 0 0,zA 0,zA 0,zA 0,zA 0,qA cA] 35/\gB r (w.1.size+1+1+1) #[zA 0,zA 0,zA 0] 37/\tB w r):=λr h=>⟨hA.z h,hL.z h,Z.z h,c.z h,vB k h⟩
 have Y:bB (∀r,tB N r->tC r w.1.size 0 (pA a (yA K.fs) J)/\tC r w.1.size 1 (zA K.c)/\tC r w.1.size 2 (zA K.k)/\tC r w.1.size 3 (zA K.cr)/\tC r w.1.size 4 (zA K.fl)/\tC r w.1.size 5 (qA K.dn)/\tC r (w.1.size+1) 0 (zA L.first)/\tC r (w.1.size+1) 1 (zA L.last)/\tC r (w.1.size+1) 2 (zA L.size)):=λr h=>by
  obtain⟨I,a1,a2,O,T,U⟩:=(hA.z h).six;obtain⟨W,b1,b2⟩:=(hL.z h).three;exact⟨I,a1,a2,O,T,U,W,b1,b2⟩
 have HF4:bB _:=λr(h:tB N r)=>G.o.z (vB k h);have O:bB _:=m;clear hA hL Z c k m;go_cut [11] (λs r=>aOa w.1.size N r K L s)
 case first=>
  go_region_held3 (λr=>r.cell? (dB w.1.size 0)=bA (pA a (yA K.fs) J)/\r.cell? (dB w.1.size 1)=bA (zA K.c)/\r.cell? (dB w.1.size 2)=bA (zA K.k)/\r.cell? (dB w.1.size 3)=bA (zA K.cr)/\r.cell? (dB w.1.size 4)=bA (zA K.fl)/\r.cell? (dB w.1.size 5)=bA (qA K.dn)/\r.cell? (dB (w.1.size+1) 0)=bA (zA L.first)/\r.cell? (dB (w.1.size+1) 1)=bA (zA L.last)/\r.cell? (dB (w.1.size+1) 2)=bA (zA L.size))
   (exact Y.o _ (by repeat (first|with_reducible refine fA.setCell ?_ (by exact Ia _) _|with_reducible exact bD|with_reducible refine vB ?_ yB|with_reducible refine fA.drew ?_|exact bD.drew|refine vB ?_ (by assumption))))
   (first
   |(go_at_call 17;refine(IH a J K.fs K.c K.k K.cr K.fl K.dn _ (HF4.o _ (by repeat (first|with_reducible exact bD|with_reducible refine vB ?_ yB|with_reducible refine fA.drew ?_|exact bD.drew|refine vB ?_ (by assumption)))) (by omega)).mono ?_;rintro e k ⟨D,v,rfl,m,I⟩;(try (have C:gB k N.1.size _ _:=iL I;obtain⟨G,G,G,G⟩:=C.four;have b:=C.free 0;have d:=C.free 1;have f:=C.free 2;have g:=C.free 3))))
  all_goals(go_wp2_with fail;go_meet)
  .have U:=O.o;have G:=vB bD.drew I;have A:tB N (k.alloc (vA #[.pointer (pB D),zA L.first,zA L.last,zA L.size] 72)):=vB G yB;refine⟨k.1.size,D,N.1.size,v,rfl,?_,?_,heap_alloc_new _ _,m.z yB,A⟩
   .have:=G.size;omega
   omega
  have U:=O.o;have C:gB k N.1.size _ _:=iL I;have A:tB N ((((k.setCell (dB N.1.size 0) (.pointer (pB D))).setCell (dB N.1.size 1) (zA L.first)).setCell (dB N.1.size 2) (zA L.last)).setCell (dB N.1.size 3) (zA L.size)):=by
   iterate 4 (refine fA.setCell ?_ (by exact Ia _) _)
   exact vB (vB bD yB).drew I
  refine⟨N.1.size,D,N.1.size+1,v,rfl,by omega,by omega,aJh C,?_,A⟩;have G:rC k (N.1.size+1) D K.fs K.c K.k K.cr K.fl K.dn v:=by
   have U:=m;simpa using U
  exact(((G.set_low (by omega) 0 _).set_low (by omega) 1 _).set_low (by omega) 2 _).set_low (by omega) 3 _
 obtain⟨P,D,B,v,rfl,hP,hB,hwr,U,W⟩:=hcut;obtain⟨hA,hL,Z,c,hbl⟩:=HBX.o _ W;clear Y;rename eA=>Y;obtain⟨T,G,rfl,m⟩:=gH U.row;have HM:bB (rC Y B D K.fs K.c K.k K.cr K.fl K.dn (pA T (yA K.fs) G)/\gB Y w.1.size #[pA a (yA K.fs) J,zA K.c,zA K.k,zA K.cr,zA K.fl,qA K.dn] 35/\gB Y (w.1.size+1+1) #[pA aA 0 0,zA 0,zA 0,zA 0,zA 0,qA cA] 35/\gB Y (w.1.size+1+1+1) #[zA 0,zA 0,zA 0] 37/\tB w Y/\uI Y B T K.fs):=⟨U,hA,Z,c,hbl,m⟩
 have HKP:bB (KP w.1.size P D L L Y):=⟨hwr,hL⟩
 have HB5:bB _:=W;clear hwr U hA hL Z c hbl m W;go_wp2_with fail;apply hC (pn P D L p o _ HKP.o.1 hp);intro w6 S;have H6:bB (rC w6 B D K.fs K.c K.k K.cr K.fl K.dn (pA T (yA K.fs) G)/\gB w6 w.1.size #[pA a (yA K.fs) J,zA K.c,zA K.k,zA K.cr,zA K.fl,qA K.dn] 35/\gB w6 (w.1.size+1+1) #[pA aA 0 0,zA 0,zA 0,zA 0,zA 0,qA cA] 35/\gB w6 (w.1.size+1+1+1) #[zA 0,zA 0,zA 0] 37/\tB w w6/\uI w6 B T K.fs):=⟨HM.o.1.z S,HM.o.2.1.z S,HM.o.2.2.1.z S,HM.o.2.2.2.1.z S,vB HM.o.2.2.2.2.1 S,HM.o.2.2.2.2.2.z S⟩
 have Y:bB (KP w.1.size P D L L w6):=HKP.o.z S;have HB6:bB _:=vB HB5.o S;clear S HM HKP HB5;by_cases h0:xQ L p o=0
 .obtain ⟨EA,hlb,hz60,hn9⟩:=bq (K:=K) h0;have E0:bB _:=EA;rw[h0];simp only[aGx,eH];obtain⟨d0,d1,d2,d3,d4,d5⟩:=H6.o.2.1.six;have hlm:yA K.fs<=maxLen:=by unfold maxLen;omega
  cases hdv:sE K.fs K.c K.k K.cr K.fl with
  |false=>
   have E:bB (pE K L p o=(⟨[],0,0,0,0,cA⟩,L,6)):=by show _=_;rw[E0.o,aBg hdv]
   have HV:bB (∀W,rB W a K.fs->vE 16 #[tA #[pA a (yA K.fs) J,zA K.c,zA K.k,zA K.cr,zA K.fl,qA K.dn]] W (qA cA)):=λW h=>EO hdv W h HS.o.H hlm HS.o.sum;clear hdv EA h0 hn9;go_wp2_with fail;apply hC (HV.o _ (HF4.o _ HB6.o));intro k I;have C:=H6.o.2.2.1.z I;have Q:=H6.o.2.2.2.1.z I;have m:bB _:=vB H6.o.2.2.2.2.1 I;obtain⟨_,_,_,_,l0,l1,l2⟩:=(Y.o.z I).cells;obtain⟨r0,r1,r2,r3,r4,r5⟩:=C.six;obtain⟨y0,y1,y2⟩:=Q.three;have b:=C.free 0;have d:=C.free 1;have f:=C.free 2;have g:=C.free 3;have i:=C.free 4;have j:=C.free 5;have g0:=Q.free 0;have g1:=Q.free 1;have g2:=Q.free 2;clear I d0 d1 d2 d3 d4 d5;go_wp2_with fail;go_region
   obtain⟨V,U⟩:=GX (v0:=pA aA 0 0) (v1:=zA 0) (v2:=zA 0) (v3:=zA 0) (v4:=zA 0) (v5:=qA cA) (x0:=zA L.first) (x1:=zA L.last) (x2:=zA L.size) C Q;have c:bB (tB w (oO w.1.size k (pA aA 0 0) (zA 0) (zA 0) (zA 0) (zA 0) (qA cA) (zA L.first) (zA L.last) (zA L.size))):=BT m.o (Ia _);obtain⟨s0,s1,s2,s3,s4,s5⟩:=V.six;obtain⟨l,m,n⟩:=U.three;clear C Q r0 r1 r2 r3 r4 r5 y0 y1 y2 b d f g i j g0 g1 g2 l0 l1 l2 V U;change Exit.then _ _ Exit.normal _ (oO w.1.size k (pA aA 0 0) (zA 0) (zA 0) (zA 0) (zA 0) (qA cA) (zA L.first) (zA L.last) (zA L.size)).drew;generalize oO w.1.size k (pA aA 0 0) (zA 0) (zA 0) (zA 0) (zA 0) (qA cA) (zA L.first) (zA L.last) (zA L.size)=W9 at *;go_wp2;refine bodyPost_ret (v:=xA #[tA #[pA aA 0 0,zA 0,zA 0,zA 0,zA 0,qA cA],tA #[zA L.first,zA L.last,zA L.size],zA 6]) (by simp[results,results271,go_sem,s0,s1,s2,s3,s4,s5,l,m,n]) rfl ?_;rw[E.o];exact⟨aA,0,rfl,Ca rfl,c.o.drew⟩
  |true=>
   have HV:bB (∀W,rB W a K.fs->vE 16 #[tA #[pA a (yA K.fs) J,zA K.c,zA K.k,zA K.cr,zA K.fl,qA K.dn]] W (qA dA)):=λW h=>EO hdv W h HS.o.H hlm HS.o.sum;have HST:bB (∀W,tB w6 W->eQ N W B P D K L):=λW J=>⟨HPW.o.z (HBX.o N bD).2.2.2.2,vB HB6.o J,by rw[O.o];exact hB,by rw[O.o];exact hP,(Y.o.z J).1,⟨_,H6.o.1.z J⟩,hdv⟩
   have HAD:bB (∀W,tB w6 W->gA prog 302 #[.pointer (pB P),oA (mF p),zA o] W λe w'=>e=uA (eH (iO K L (mF p) o).2.2)/\(iO K L (mF p) o).2.2<=6/\eQ N w' B P D (iO K L (mF p) o).1 (iO K L (mF p) o).2.1):=λW J=>by
    cases hfu:gP L (mF p).size o with
    |false=>exact uq (mF p) o (HST.o W J) hlb hz60 hfu
    |true=>exact aBh (mF p) o (HST.o W J) hlb hz60 hfu (hn9 hfu)
   have HFR:bB _:=λW=>RW p W (by unfold maxLen;omega);obtain⟨⟨q,M,O⟩,Z⟩:∃R,iO K L (mF p) o=R:=⟨_,rfl⟩
   have E:bB (pE K L p o=(q,M,O)):=by show _=_;rw[E0.o,Z]
   rw[Z]at HAD;clear Z EA h0 hn9 hdv E0 hlb hz60;generalize mF p=F at *;go_wp2_with fail;apply hC (HV.o _ (HF4.o _ HB6.o));intro k I;have HB7:bB _:=I;clear I d0 d1 d2 d3 d4 d5;go_wp2_with fail;apply hC (HFR.o _);intro X A;have HB8:bB _:=vB HB7.o A;clear A;go_wp2_with fail;apply hC (HAD.o _ HB8.o);rintro w9 ⟨hc6,I⟩;obtain⟨k,hv9⟩:=I.drive;obtain⟨Z,H,rfl,k⟩:=gH hv9.row;obtain⟨_,hL9,hR9,J,hb9⟩:=HBX.o _ I.below;have H9:bB (rC w9 B D q.fs q.c q.k q.cr q.fl q.dn (pA Z (yA q.fs) H)/\gB w9 (w.1.size+1+1) #[pA aA 0 0,zA 0,zA 0,zA 0,zA 0,qA cA] 35/\gB w9 (w.1.size+1+1+1) #[zA 0,zA 0,zA 0] 37/\tB w w9/\uI w9 B Z q.fs):=⟨hv9,hR9,J,hb9,k⟩
   have HKP9:bB (KP w.1.size P D M L w9):=⟨I.wr,hL9⟩
   have HCD:bB _:=λW=>xI O hc6 W;have HUN:bB _:=λW(h:rC W B D q.fs q.c q.k q.cr q.fl q.dn (pA Z (yA q.fs) H))=>dU D _ Z _ H _ _ _ _ _ W h.blk;clear I hv9 k hL9 hR9 J hb9 HAD HST HV HFR HB7 HB8;generalize eH O=k at *;go_wp2_with fail;go_region_held3 (λr=>r.cell? (dB P 0)=bA (.pointer (pB D))/\r.cell? (dB P 1)=bA (zA M.first)/\r.cell? (dB P 2)=bA (zA M.last)/\r.cell? (dB P 3)=bA (zA M.size)/\r.cell? (dB (w.1.size+1) 0)=bA (zA L.first)/\r.cell? (dB (w.1.size+1) 1)=bA (zA L.last)/\r.cell? (dB (w.1.size+1) 2)=bA (zA L.size))
    (exact KP.cells (L:=L) (by repeat (first|with_reducible refine KP.set ?_ (by omega) (by omega)|exact HKP9.o.drew|exact k.o)))
    (first
    |(go_at_call 19;apply hC (HUN.o _ (H9.o.1.z bD.drew));intro X A;have k:bB (KP w.1.size P D M L X):=HKP9.o.drew.z A;have C:=(H9.o.2.1.z bD.drew).z A;have Q:=(H9.o.2.2.1.z bD.drew).z A;obtain⟨r0,r1,r2,r3,r4,r5⟩:=C.six;obtain⟨y0,y1,y2⟩:=Q.three;have b:=C.free 0;have d:=C.free 1;have f:=C.free 2;have g:=C.free 3;have i:=C.free 4;have j:=C.free 5;have g0:=Q.free 0;have g1:=Q.free 1;have g2:=Q.free 2)
    |(go_at_call 73;apply cO (HCD.o _)))
   have H8:bB (tB w X/\uI X B Z q.fs):=⟨vB (vB H9.o.2.2.2.1 bD.drew) A,(H9.o.2.2.2.2.z bD.drew).z A⟩
   obtain⟨V,U⟩:=GX (v0:=pA Z (yA q.fs) H) (v1:=zA q.c) (v2:=zA q.k) (v3:=zA q.cr) (v4:=zA q.fl) (v5:=qA q.dn) (x0:=zA M.first) (x1:=zA M.last) (x2:=zA M.size) C Q;have c:bB (tB w (oO w.1.size X (pA Z (yA q.fs) H) (zA q.c) (zA q.k) (zA q.cr) (zA q.fl) (qA q.dn) (zA M.first) (zA M.last) (zA M.size))):=BT H8.o.1 (Ia _);have I:bB (uI (oO w.1.size X (pA Z (yA q.fs) H) (zA q.c) (zA q.k) (zA q.cr) (zA q.fl) (qA q.dn) (zA M.first) (zA M.last) (zA M.size)) B Z q.fs):=OE H8.o.2 hB;obtain⟨s0,s1,s2,s3,s4,s5⟩:=V.six;obtain⟨l,m,n⟩:=U.three;clear C Q r0 r1 r2 r3 r4 r5 y0 y1 y2 b d f g i j g0 g1 g2 V U;change Exit.then _ _ Exit.normal _ (oO w.1.size X (pA Z (yA q.fs) H) (zA q.c) (zA q.k) (zA q.cr) (zA q.fl) (qA q.dn) (zA M.first) (zA M.last) (zA M.size));generalize oO w.1.size X (pA Z (yA q.fs) H) (zA q.c) (zA q.k) (zA q.cr) (zA q.fl) (qA q.dn) (zA M.first) (zA M.last) (zA M.size)=W9 at *;go_wp2;refine bodyPost_ret (v:=xA #[tA #[pA Z (yA q.fs) H,zA q.c,zA q.k,zA q.cr,zA q.fl,qA q.dn],tA #[zA M.first,zA M.last,zA M.size],zA O]) (by simp[results,results271,go_sem,s0,s1,s2,s3,s4,s5,l,m,n]) rfl ?_;rw[E.o];exact⟨Z,H,rfl,I.o.mono (by omega),c.o⟩
 have E:bB (pE K L p o=(K,L,xQ L p o)):=br h0;have J:xQ L p o=21\/xQ L p o=22\/xQ L p o=23:=by
  unfold xQ at h0 |-
  split;exact Ca rfl;split;exact La (Ca rfl);split;exact La (La rfl)
  rename_i Z h2 h3;rw[Ja Z,Ja h2,Ja h3]at h0;exact absurd rfl h0
 obtain⟨t,Z⟩:∃t,aGx (xQ L p o)=.iface 154 (oA t):=by
  rcases J with e|e|e<;>rw[e]<;>exact⟨_,rfl⟩
 have HCD:bB (∀W,hI 73 #[.iface 154 (oA t)] W (zA (xQ L p o:Nat))):=λW=>by
  rw[<-Z];exact gb _ (La (La J)) W
 have HUN:bB _:=λW(h:rC W B D K.fs K.c K.k K.cr K.fl K.dn (pA T (yA K.fs) G))=>dU D _ T _ G _ _ _ _ _ W h.blk;rw[Z];clear Z h0 J;generalize xQ L p o=O at *;go_wp2_with fail;go_region_held3 (λr=>r.cell? (dB P 0)=bA (.pointer (pB D))/\r.cell? (dB P 1)=bA (zA L.first)/\r.cell? (dB P 2)=bA (zA L.last)/\r.cell? (dB P 3)=bA (zA L.size)/\r.cell? (dB (w.1.size+1) 0)=bA (zA L.first)/\r.cell? (dB (w.1.size+1) 1)=bA (zA L.last)/\r.cell? (dB (w.1.size+1) 2)=bA (zA L.size))
  (exact KP.cells (L:=L) (by repeat (first|with_reducible refine KP.set ?_ (by omega) (by omega)|exact Y.o.drew|exact k.o)))
  (first
  |(go_at_call 19;apply hC (HUN.o _ (H6.o.1.z bD.drew));intro X A;have k:bB (KP w.1.size P D L L X):=Y.o.drew.z A;have C:=(H6.o.2.2.1.z bD.drew).z A;have Q:=(H6.o.2.2.2.1.z bD.drew).z A;obtain⟨r0,r1,r2,r3,r4,r5⟩:=C.six;obtain⟨y0,y1,y2⟩:=Q.three;have b:=C.free 0;have d:=C.free 1;have f:=C.free 2;have g:=C.free 3;have i:=C.free 4;have j:=C.free 5;have g0:=Q.free 0;have g1:=Q.free 1;have g2:=Q.free 2)
  |(go_at_call 73;apply cO (HCD.o _)))
 have H8:bB (tB w X/\uI X B T K.fs):=⟨vB (vB H6.o.2.2.2.2.1 bD.drew) A,(H6.o.2.2.2.2.2.z bD.drew).z A⟩
 obtain⟨V,U⟩:=GX (v0:=pA T (yA K.fs) G) (v1:=zA K.c) (v2:=zA K.k) (v3:=zA K.cr) (v4:=zA K.fl) (v5:=qA K.dn) (x0:=zA L.first) (x1:=zA L.last) (x2:=zA L.size) C Q;have c:bB (tB w (oO w.1.size X (pA T (yA K.fs) G) (zA K.c) (zA K.k) (zA K.cr) (zA K.fl) (qA K.dn) (zA L.first) (zA L.last) (zA L.size))):=BT H8.o.1 (Ia _);have I:bB (uI (oO w.1.size X (pA T (yA K.fs) G) (zA K.c) (zA K.k) (zA K.cr) (zA K.fl) (qA K.dn) (zA L.first) (zA L.last) (zA L.size)) B T K.fs):=OE H8.o.2 hB;obtain⟨s0,s1,s2,s3,s4,s5⟩:=V.six;obtain⟨l,m,n⟩:=U.three;clear C Q r0 r1 r2 r3 r4 r5 y0 y1 y2 b d f g i j g0 g1 g2 V U;change Exit.then _ _ Exit.normal _ (oO w.1.size X (pA T (yA K.fs) G) (zA K.c) (zA K.k) (zA K.cr) (zA K.fl) (qA K.dn) (zA L.first) (zA L.last) (zA L.size));generalize oO w.1.size X (pA T (yA K.fs) G) (zA K.c) (zA K.k) (zA K.cr) (zA K.fl) (qA K.dn) (zA L.first) (zA L.last) (zA L.size)=W9 at *;go_wp2;refine bodyPost_ret (v:=xA #[tA #[pA T (yA K.fs) G,zA K.c,zA K.k,zA K.cr,zA K.fl,qA K.dn],tA #[zA L.first,zA L.last,zA L.size],zA O]) (by simp[results,results271,go_sem,s0,s1,s2,s3,s4,s5,l,m,n]) rfl ?_;rw[E.o];exact⟨T,G,rfl,I.o.mono (by omega),c.o⟩
section
open Go.Maps
attribute [local go_sem] wF uG fK gB.drewI oK.drewI oK.new oK.alloc oK.alloc2
def aGm{C:eA->Prop}{w:eA}{O:Nat}{q r s u v x y z A l m n o p a b c d e f g B i:iA}{t:jA}(h:gB w O #[q,r,s,u,v,x,y,z,A,l,m,n,o,p] t)
(k:∀j,gB j O #[a,b,c,d,e,f,g,B,i,l,m,n,o,p] t->eB (·=O) w j->C j):C (((((((((w.setCell (dB O 0) a).setCell (dB O 1) b).setCell (dB O 2) c).setCell (dB O 3) d).setCell (dB O 4) e).setCell (dB O 5) f).setCell (dB O 6) g).setCell (dB O 7) B).setCell (dB O 8) i):=
 k _ (by have:=(((((((((h.set 0 a).set 1 b).set 2 c).set 3 d).set 4 e).set 5 f).set 6 g).set 7 B).set 8 i);simpa using this) ((((((((((eB.refl (·=O) w).setCell (Ca rfl) 0 a).setCell (Ca rfl) 1 b).setCell (Ca rfl) 2 c).setCell (Ca rfl) 3 d).setCell (Ca rfl) 4 e).setCell (Ca rfl) 5 f).setCell (Ca rfl) 6 g).setCell (Ca rfl) 7 B).setCell (Ca rfl) 8 i)
def oJ.disk{w:eA}{A F:Nat->Prop}{a b a2:jC}{N M:pC}(h:oJ w A a b N)(i:bJ w F a2 M.d.fs)(j:M.ts=N.ts)(g:∀x,F x->¬A x):oJ w (λx=>A x\/F x) a2 b M:=by
 obtain⟨k,T,l,f,m,e,n⟩:=h.parts;exact⟨F,T,i,by rw[j];exact f,λx c=>La c,λx c=>Ca (e x c),λx c h=>g x c (e x h)⟩
def nk(c:gC)(a b:jC)(s r:Nat)(N:pC)(w:eA)(h:aMr w a b N)(Z:cJ w):
 gA prog 161 #[jE c,tA (dC a s b r N)] w λe A=>bj (DF c N) w e A:=by
 have i:=h.bulk;have d:=cB (λW=>sT c W);have k:bB (∀W,tB w W->gA prog 22 #[tA (dC a s b r N)] W λe A=>∃a s b r,e=uA (tA (dC a s b r N))/\oJ A (λx=>W.1.size<=x/\x<A.1.size) a b N/\tB W A):=λW U=>eW a b s r N W (h.files.z U) h.fit.len (h.tens.z U) (by omega) (yO (by omega));have l:bB (∀W a s b r,vE 225 #[tA (dC a s b r N)] W (qA (ub N))):=λW a s b r=>gY a b s r N W;obtain⟨o,_,_,J⟩:=ro h.bulk;have B:=cB (λW b' cb'(U:uC W b' N.ts)=>ee N.lsn N.now b' cb' N.ts W U o (by omega) J);have HLG:=cB (λW=>UW N.l W);have HDV:=cB (λW S u(U:rB W S N.d.fs)=>oU S u N.d.fs N.d.c N.d.k N.d.cr N.d.fl N.d.dn W U h.fit.H (by have:=h.fit.len;unfold maxLen;omega) h.fit.sum);have G:=cB (λW S u(U:rB W S N.d.fs)=>IH S u N.d.fs N.d.c N.d.k N.d.cr N.d.fl N.d.dn W U h.fit.len);have z:bB (∀W a s b r S u K L,vE 227 #[tA (dC a s b r N),tA #[pA S (yA K.fs) u,zA K.c,zA K.k,zA K.cr,zA K.fl,qA K.dn],tA #[zA L.first,zA L.last,zA L.size]] W (tA (dC S u b r ⟨K,L,N.now,N.ts,N.lsn,dA,!K.dn⟩))):=λW a s b r S u K L=>NZ a b S s r u N K L W;have m:=cB (λh=>aKm (c:=c) (N:=N) h);have I:=cB (λh=>aNa (c:=c) (N:=N) h);have Y:=cB Z;clear h Z i o J;unfold jE at *;generalize DF c N=V at *;generalize eO N.lsn N.now N.ts=tx at *;have o:=yK;go_enter func161,ntmps161;go_wp2_with fail;apply hC (d.o _);intro w1 i;have P:=cB ((NP.new (w:=w) (c:=c) (cs:=dC a s b r N)).z i);clear i d;have o:=P.o.cells rfl;cases hc:cF c with
 |false=>
  have E:=cB (m.o hc);go_wp2;exact iN (H:=0) (ca:=0) (cb:=0) rfl rfl rfl rfl P.o E.o ⟨⟨λ_=>False,λ_=>False,Ca rfl,Ca rfl,λ_ h=>h.elim,λ_ h=>h.elim,λ_ h=>h.elim⟩⟩ (Oa _)
 |true=>
  replace I:=cB (I.o hc);have rN:=eF a s b r N 42;have fN:=lE a s b r N;go_wp2_with fail;refine(k.o _ P.o.B).mono ?_;rintro e w2 ⟨X,c2,J,O,rfl,j,i⟩;have d:=P.o.lt;replace P:=cB (P.o.z i);replace j:=cB j;clear i rN fN o k m hc;have o:=P.o.cells rfl;go_upto_region 4 with fail;refine jU (C:=λW=>Code.wp prog _ _ _ W) P.o.N ?_;intro d k d;replace P:=cB (P.o.put k d);replace j:=cB ((j.o.turned d (λx p _ e=>by omega)).mono (A':=λx=>w.1.size+1+1<x/\x<w2.1.size) (λx p=>by omega));have y:=d.size;clear k d o;have o:=P.o.cells rfl;have rN:=eF X c2 J O N 42;have fN:=lE X c2 J O N;go_wp2_with fail;apply hC (l.o _ _ _ _ _);intro w4 i;replace P:=cB (P.o.z i);replace j:=cB (j.o.z i);replace y:=Ua y i.size;clear i o l;have o:=P.o.cells rfl;obtain⟨hu,E⟩|⟨hu,⟨hl,E⟩|⟨hl,⟨h9,d,E⟩|⟨h9,d,⟨rfl,E⟩|⟨Z,E⟩⟩⟩⟩:=I.o
  rotate_left 4
  .replace E:=cB E;rw[hu];clear I hu;have m:N.l.last<999999:=by have:=aDu hl;omega
   clear h9;go_wp2_with fail;apply hC (B.o _ _ _ j.o.tens);intro w5 i;replace P:=cB (P.o.z i);replace j:=cB (j.o.z i);replace y:=Ua y i.size;clear i o;have o:=P.o.cells rfl;go_wp2_with fail;apply hC (HLG.o _);intro w6 i;replace P:=cB (P.o.z i);replace j:=cB (j.o.z i);replace y:=Ua y i.size;clear i o;have o:=P.o.cells rfl;rw[hl];go_wp2_with fail;apply hC (HDV.o _ _ _ j.o.files);intro k i;replace P:=cB (P.o.z i);replace j:=cB (j.o.z i);replace y:=Ua y i.size;clear i o;have o:=P.o.cells rfl;cases hdv:sE N.d.fs N.d.c N.d.k N.d.cr N.d.fl with
   |false=>
    have E2:=cB (show V=(⟨⟨[],0,0,0,0,cA⟩,N.l,N.now,N.ts,N.lsn,dA,dA⟩,6) by rw[E.o,aIr hdv];rfl);replace z:=cB (λW=>z.o W X c2 J O aA 0 ⟨[],0,0,0,0,cA⟩ N.l);clear hdv;go_wp2_with fail;apply hC (z.o _);intro q i;replace P:=cB (P.o.z i);replace j:=cB (j.o.z i);replace y:=Ua y i.size;clear i o;have o:=P.o.cells rfl;go_wp2;exact iN rfl rfl rfl rfl P.o E2.o ((j.o.disk (M:=⟨⟨[],0,0,0,0,cA⟩,N.l,N.now,N.ts,N.lsn,dA,dA⟩) (a2:=aA) (F:=λ_=>False) (Ca rfl) rfl (λ_ h=>h.elim)).mono λx p=>p.resolve_right id) y
   |true=>
    have Q:=cB (λA(i:tB k A)=>(P.o.z i).N);have Z:=cB (λA(i:tB k A)=>j.o.files.z i);go_wp2_with fail;go_region_held3 (λA=>gB A (w.1.size+1) (dC X c2 J O N) 42)
     (first|with_reducible exact Q.o _ l|with_reducible exact Q.o _ bD.drew|with_reducible exact Q.o _ (vB l yB))
     (first|(go_at_call 17;refine(G.o _ X c2 (Z.o _ bD.drew)).mono ?_;rintro e q ⟨D,v,rfl,hd8,hb8⟩;have l:tB k q:=vB bD.drew hb8))
    refine WZ (C:=λW=>Exit.then _ _ _ _ W) ?_;intro h d G9;have WS:=cB (show eQ k h k.1.size q.1.size D N.d N.l from⟨Y.o.z P.o.B,vB l d,Ia _,l.size,G9,⟨v,hd8.z d⟩,hdv⟩);have h:=cB (NB tx WS.o hl m);obtain⟨⟨m,x1⟩,hR1⟩:∃R,jJ N.d (fP N.d N.l tx)=R:=⟨_,rfl⟩
    have k:=cB (IQ (fP N.d N.l tx) N.d);rw[hR1]at h k E;have h8:=l.size;clear hR1 hd8 hb8 d G9 WS Q Z G Y l o hdv;go_wp2_with fail;apply hC h.o;intro G Z;have ba:=Z.below;have d:=P.o.lt;replace P:=cB (P.o.z ba);have hA7:=cB (j.o.z ba);have l:=cB Z;have d:=ba.size;obtain⟨v1,d⟩:=Z.drive;obtain⟨a1,c1,rfl,Y⟩:=gH d.row;have FA:=cB (Y.toA (Ia _));have HU:=cB (λW(U:tB G W)=>dU D 153 a1 (yA m.fs) c1 m.c m.k m.cr m.fl m.dn W (d.blk.z U));clear ba Z d Y h j;by_cases p:x1=0
    .subst p;simp only[eH,ckL,Td]at l |-
     have E2:=cB (show V=(⟨m,⟨N.l.last+1,N.l.last+1,0⟩,N.now,N.ts,N.lsn,N.deg,N.up⟩,0) by rw[E.o];rfl);have Q:=cB (λn(p:eB (·=w.1.size+1) G n)=>show tC n q.1.size 0 (.pointer (pB D))/\tC n q.1.size 1 (zA (N.l.last+1))/\tC n q.1.size 2 (zA (N.l.last+1))/\tC n q.1.size 3 (zA 0) from(p.blk l.o.wr (by omega)).c4);have o:=l.o.wr.c4;go_wp2_with fail;go_region_held3 (λn=>n.cell? (dB q.1.size 0)=bA (.pointer (pB D))/\n.cell? (dB q.1.size 1)=bA (zA (N.l.last+1))/\n.cell? (dB q.1.size 2)=bA (zA (N.l.last+1))/\n.cell? (dB q.1.size 3)=bA (zA 0))
      ((refine Q.o _ ?_;first|with_reducible exact h|with_reducible exact eB.drew (eB.refl _ _)|with_reducible exact f|with_reducible exact g))
      (first|(go_at_call 19;apply hC (HU.o _ bD.drew);intro U Y;have T:tB G U:=vB bD.drew Y;have h:eB (·=w.1.size+1) G U:=eB.of T;have f:=((((((h.setCell (Ca rfl) 0 (pA a1 (yA m.fs) c1)).setCell (Ca rfl) 1 (zA m.c)).setCell (Ca rfl) 2 (zA m.k)).setCell (Ca rfl) 3 (zA m.cr)).setCell (Ca rfl) 4 (zA m.fl)).setCell (Ca rfl) 5 (qA m.dn));have g:=(((f.setCell (Ca rfl) 6 (zA (N.l.last+1))).setCell (Ca rfl) 7 (zA (N.l.last+1))).setCell (Ca rfl) 8 (zA 0));have Z:=cB (P.o.z T).N;have d:=gB.n14 Z.o;have ff:=Z.o.frees))
     clear d ff f g h Q HU o Y;refine aGm (C:=λW=>Exit.then _ _ _ _ W) Z.o ?_;intro wq PQ d;have hzb:=T.size;have hzq:=d.size;have NQ:=cB ((((hA7.o.z T).turned d (λx p _ e=>by omega)).disk (M:=⟨m,⟨N.l.last+1,N.l.last+1,0⟩,N.now,N.ts,N.lsn,N.deg,N.up⟩) ((FA.o.z T).turned d (λx p _ e=>by omega)) rfl (λx p e=>by omega)).mono (A':=λx=>w.1.size+1+1<x/\x<G.1.size) (λx p=>by omega));replace P:=cB ((P.o.z T).put (show gB wq _ (dC a1 c1 J O ⟨m,⟨N.l.last+1,N.l.last+1,0⟩,N.now,N.ts,N.lsn,N.deg,N.up⟩) _ from PQ) d);have o:=P.o.cells rfl;clear PQ d Z T rN fN;have d:=eF a1 c1 J O ⟨m,⟨N.l.last+1,N.l.last+1,0⟩,N.now,N.ts,N.lsn,N.deg,N.up⟩ 42;have Z:=lE a1 c1 J O ⟨m,⟨N.l.last+1,N.l.last+1,0⟩,N.now,N.ts,N.lsn,N.deg,N.up⟩;dsimp only at d Z;go_wp2;exact iN rfl rfl rfl rfl P.o E2.o NQ.o (by omega)
    have E2:=cB (show V=(⟨m,N.l,N.now,N.ts,N.lsn,dA,!m.dn⟩,(x1:Int)) by rw[E.o];exact Ja p);obtain⟨t,Z⟩:=aK p k.o;rw[show ckL N.l (m,x1).2=N.l from Ja p]at l;have d:=cB (λW=>cq x1 k.o W);rw[Z]at d |-
    clear Z;have Q:=cB (λn(p:eB (·=w.1.size+1+1) G n)=>show gB n (w.1.size+1) (dC X c2 J O N) 42/\tC n q.1.size 0 (.pointer (pB D))/\tC n q.1.size 1 (zA N.l.first)/\tC n q.1.size 2 (zA N.l.last)/\tC n q.1.size 3 (zA N.l.size) from⟨p.blk P.o.N (by omega),(p.blk l.o.wr (by omega)).c4⟩);replace z:=cB (λW=>z.o W X c2 J O a1 c1 m N.l);have o:=l.o.wr.c4;go_wp2_with fail;go_region_held3 (λn=>gB n (w.1.size+1) (dC X c2 J O N) 42/\n.cell? (dB q.1.size 0)=bA (.pointer (pB D))/\n.cell? (dB q.1.size 1)=bA (zA N.l.first)/\n.cell? (dB q.1.size 2)=bA (zA N.l.last)/\n.cell? (dB q.1.size 3)=bA (zA N.l.size))
     ((refine Q.o _ ?_;first|with_reducible exact l|with_reducible exact h|with_reducible exact eB.drew (eB.refl _ _)|with_reducible exact Z))
     (first
     |(go_at_call 19;apply hC (HU.o _ bD.drew);intro U Y;have T:tB G U:=vB bD.drew Y;have h:eB (·=w.1.size+1+1) G U:=eB.of T)
     |(go_at_call 227;apply hC (z.o _);intro U W;have k:tB G U:=vB T W;have l:eB (·=w.1.size+1+1) G U:=eB.of k;have Z:=l.trans' (lG U (w.1.size+1+1) (dC a1 c1 J O ⟨m,N.l,N.now,N.ts,N.lsn,dA,!m.dn⟩));have J:=(P.o.z k).R.box rfl)
     |(go_at_call 135;apply cO (d.o _)))
    have J:=k.size;have O:=cB (((hA7.o.z k).disk (M:=⟨m,N.l,N.now,N.ts,N.lsn,dA,!m.dn⟩) (FA.o.z k) rfl (λx p e=>by omega)).mono (A':=λx=>w.1.size+1+1<x/\x<G.1.size) (λx p=>by omega));clear Z h l Q HU z d;go_wp2;exact iN rfl rfl rfl rfl (P.o.z k) E2.o O.o J
  all_goals
   replace E:=cB E;rw[hu];clear I hu;(try clear h9);go_wp2_with(first
    |(go_at_call 194;apply hC (B.o _ _ _ j.o.tens);intro w5 i;replace P:=cB (P.o.z i);replace j:=cB (j.o.z i);replace y:=Ua y i.size;clear i o;have o:=P.o.cells rfl)
    |(go_at_call 226;apply hC (HLG.o _);intro w6 i;replace P:=cB (P.o.z i);replace j:=cB (j.o.z i);replace y:=Ua y i.size;clear i o;have o:=P.o.cells rfl;rw[hl]))
   exact iN rfl rfl rfl rfl P.o E.o j.o y
end
section
open Go.Maps
def mq:ByteArray.empty.toList.isEmpty=dA:=by simp
def uz(b:List bC):(uB b).2.1=0\/40<=(uB b).2.1:=by
 have d:∀(l:List bC)(i c j:Nat),aD l i=bA (c,j)->40<=c:=by
  intro l;induction l with
  |nil=>intro i c j h;cases h
  |cons x r e=>
   intro i c j h;rw[aD]at h;split at h;exact e _ _ _ h
   cases h
   rename_i a;unfold tQ cP RS at a |-
   revert a;repeat' split
   all_goals simp
 unfold uB;split;simp;split
 .rename_i h;exact La (d _ _ _ _ h)
 split;simp;split<;>simp
def aBq{a:List bC}(h:(uB a).2.1=0):yA (uB a).1<=16:=by
 have:=rZ (ls:=a);by_cases b:16<yA a
 .unfold uB at h;rw[Ma b]at h;cases h
 omega
def aGd{c:gC}{a:Int}{b:List fB}{d k:nB}(h:(dL c a b d k).2≠1/\(dL c a b d k).2≠2):(dL c a b d k).1=b:=by
 unfold dL at h |-
 revert h;repeat' split
 all_goals simp
def aHi{c:gC}{a:Int}{b:List fB}{te:nB}{x:oF}(h:kC c a b=dA):
 (uB x.B).2.1≠0/\uH c a b te x=((uB x.B).2.1,b,kA)\/(uB x.B).2.1=0/\(yY x.bits=dA/\uH c a b te x=(6,b,kA)\/yY x.bits=cA/\(uH c a b te x).1=(dL c a b te (tH (uB x.B).1)).2/\(uH c a b te x).2.1=(dL c a b te (tH (uB x.B).1)).1/\((uH c a b te x).2.2.toList.isEmpty=cA->tH (uB x.B).1=(uH c a b te x).2.2)):=by
 unfold uH;by_cases d:(uB x.B).2.1=0
 .refine La ⟨d,?_⟩;rw[Ja (by simp[d]),(dr d).1,WV h];cases yY x.bits
  .refine La ⟨rfl,?_⟩;rw[Ja (by simp)];dsimp only;split
   .exact ⟨rfl,rfl,λ_=>rfl⟩
   rename_i f;exact⟨rfl,(aGd ⟨λe=>f (Ca e),λe=>f (La e)⟩).symm,λh=>by simp at h⟩
  exact Ca ⟨rfl,Ma rfl⟩
 exact Ca ⟨d,Ma d⟩
def aHh{c:gC}{now:Int}{ts:List fB}{te:nB}{x:oF}:((uH c now ts te x).1=1\/(uH c now ts te x).1=2)/\(uH c now ts te x).2.2.toList.isEmpty=cA\/¬((uH c now ts te x).1=1\/(uH c now ts te x).1=2)/\(uH c now ts te x).2.2.toList.isEmpty=dA:=by
 have:=uz x.B;unfold uH;by_cases b:(uB x.B).2.1=0
 .rw[Ja (by simp[b])];split
  .exact La ⟨by simp,mq⟩
  split
  .rename_i a;refine Ca ⟨a,?_⟩;rw[(dr b).1];exact sV.2 λe=>by have:=Kd ByteArray.size e;rw[tH,Ka,kB]at this;simp at this
  rename_i a;exact La ⟨a,mq⟩
 rw[Ma b];exact La ⟨by dsimp only;omega,mq⟩
def xw{D l m:Nat}{r:dG}{o a b:jC}{G ca cb:Nat}{c:gC}{N:pC}{k:Int}{n:List fB}{M:Nat}{B:Nat->Prop}{w:eA}(x:oF)(E:jC)(F:Nat)
(h:gB w D (LH r o G c a ca b cb N l) 92)(H:eE w B l m c k n M)(G:∀g,w.1.size<=g->B g)(O:nD w E x.B)(C:yA x.B<=F)(I:bH w)(hn:r.T.size<=1048576)(hx:lJ x<=300000)(o:WR x.bits)(s:kC c k n=dA)(J:yA n+aC n<=1900000)(hM:1<=M)(z:M<=1000000000):
 gA prog 156 #[.pointer (pB D),tA #[pA E (yA x.B) F,zA x.bits]] w λe w'=>∃K,e=uA (xA #[zA ((uH c k n r.T x).1:Nat),oA K])/\((uH c k n r.T x).2.2.toList.isEmpty=cA->K=(uH c k n r.T x).2.2)/\eE w' B l m c k (uH c k n r.T x).2.1 (M+1)/\eB B w w':=by
 have L:lJ x=yA x.B+rD x.B:=rfl;have q:WN x.B:=λi o=>by have:=oi x.B i o;exact⟨by omega,by omega⟩
 have A:WN (uB x.B).1:=λi o=>by
  obtain⟨j,U,e⟩:=Ib (TL _ (Gb o));rw[<-e];exact q j U
 have hz:(tH (uB x.B).1).size<=1048576:=by have:=BO x.B;have:=rZ (ls:=x.B);rw[tH,Ka,kB,bQ];omega
 have HV:=cB (aHi (te:=r.T) (x:=x) s);have U:=cB (λW(p:tB w W)=>AX E F x.B W (O.z p) q (by omega) C (I.z p));have HN:=cB (λW=>YP x.bits W o.1 o.2);have Y:=cB (λW Z k3(h:nD W Z (uB x.B).1)(hq:(uB x.B).2.1=0)=>yb Z k3 (uB x.B).1 W h A (aBq hq));obtain⟨_,_,_,_,ht⟩:=yG s;have s1:∀t∈n,yA t.Z<=1000000000:=λt Q=>by
  obtain⟨i,o,rfl⟩:=Ib Q;have:=gT n i o;unfold aF at this;omega
 have T:=cB (λW(p:tB w W)=>PF l m r.T (tH (uB x.B).1) c k B n M W (H.z p) (λg m=>G g (by have:=p.size;omega)) (I.z p) (by omega) (by omega) hM z s1 (λt Q y m=>(AH (tJ (zI ht t Q)).2.2.1 y m).2.2) (by omega));have Z:=cB (λW(p:tB w W)=>(H.z p).mono (Gf M));have m:=cB h;clear h H G O C I hn hx o s J hM z L q A hz s1 ht;generalize uH c k n r.T x=V at *;generalize tH (uB x.B).1=o at *;generalize yY x.bits=h at *;generalize x.bits=bi at *;generalize uB x.B=h at *;generalize x.B=R at *;obtain⟨G,G,G⟩:=h;obtain⟨v1,v2,v3⟩:=V;dsimp only at *;have P:=cB (pF w (vA #[pA E (yA R) F,zA bi] 107));have X:=cB (gB.new w #[pA E (yA R) F,zA bi] 107);go_enter func156,ntmps156;go_wp2_with fail;refine(U.o _ P.o).mono ?_;rintro e w1 ⟨a1,I,rfl,O,h,u⟩;have J:=cB h.B;replace X:=cB (X.o.z u);replace P:=cB (vB P.o u);clear u h U O;have h:=X.o.c2;obtain⟨G,v⟩|⟨rfl,⟨rfl,v⟩|⟨rfl,v,O,G⟩⟩:=HV.o
 .obtain ⟨rfl,rfl,rfl⟩:=v;clear HV Y T;go_wp2;go_ret2;exact⟨_,rfl,λ_=>rfl,Z.o _ P.o,eB.of P.o⟩
 .obtain ⟨rfl,rfl,rfl⟩:=v;go_wp2_with(first|(go_at_call 221;apply cO (HN.o _)));go_ret2;exact⟨_,rfl,λ_=>rfl,Z.o _ P.o,eB.of P.o⟩
 subst v O;replace G:=cB G;go_upto_region 7 with(first
  |(go_at_call 221;apply cO (HN.o _))
  |(go_at_call 219;refine hC (Y.o _ a1 I J.o (by first|rfl|trivial)) ?_;intro w2 u;replace P:=cB (vB P.o u);clear u h))
 have h:=eI (m.o.z P.o);go_region_law (refine zG (f:=222) (args:=#[.pointer (pB l),oA r.T,oA o]) rfl (by go_simp) ?_;apply hC (T.o _ P.o.drew);rintro h ⟨h,d⟩;have S:=cB (Vc h d);clear h d;refine⟨_,rfl,?_⟩)
 all_goals
  go_wp2;go_ret2;exact⟨_,rfl,G.o,S.o.1,(eB.of P.o.drew).trans' S.o.2⟩
end
