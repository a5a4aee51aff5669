import Derived.Test.YtiegonaogehghaaGreatDoorJ39
import Derived.Test.YtiegonaogehghaaGreatDoorJ40
import Derived.Test.YtiegonaogehghaaGreatDoorJ41
import Derived.Test.YtiegonaogehghaaGreatDoorJ45
import Derived.Test.YtiegonaogehghaaGreatDoorJ44
set_option maxRecDepth 100000
set_option maxHeartbeats 8000000
set_option linter.defProp false
open Bool renaming true->dA
open Option renaming some->bA
open ByteArray renaming empty->kA
open List renaming length->yA
namespace Go.Proofs.YtiegonaogehghaaGreatDoor
open Go renaming World->eA,Value->iA
open Value renaming string->oA,slice->pA
open Go.RowKit Tryz
section
open Go.Maps
attribute [local go_sem] wF uG fK gB.drewI oK.drewI oK.new oK.alloc oK.alloc2
def aKw(c:gC)(a b:jC)(i j:Nat)(N:pC)(s:nB)(w:eA)(h:nQ w a b N)(Z:cF c=dA)(v1:N.up=false):
 Calls prog 14 #[jE c,.agg (dC a i b j N),oA s] w λe S=>RN N (oA (qB 1 4)) w e S:=by
 have f:=h.bulk;have E:=cB (λW(Y:tB w W)=>pN a b i j N W (h.files.z Y) h.fit.len (h.tens.z Y) (by omega) (yO (by omega)));have D:=cB (λW=>yJ c W);have T:=cB (λW a b(d:rB W a N.d.fs)(m:uC W b N.ts)=>(⟨d,h.fit,m,h.bulk,h.rng,h.lsn,h.now⟩:nQ W a b N));rw[Z]at D;have d:=cB v1;clear h f Z v1;unfold jE at *;have h:=yK;have g:=cB (NP.new (w:=w) (c:=c) (cs:=dC a i b j N));have Q:=eF a i b j N 42;have O:=lE a i b j N;go_enter func14,ntmps14;go_upto_region 1 with fail;generalize (((w.alloc (.cells #[zA c.w,zA c.tl,zA c.ml,zA c.sh,zA c.ha,zA c.sg] 24)).alloc (.cells (dC a i b j N) 42)).alloc (.cells (dC none 0 none 0 xK) 42))=h at *;obtain⟨k,l,m,n,o,p,q,r,t,u,v,x,y,z,A⟩:=g.o.cells rfl;go_wp2_with fail;refine(E.o _ g.o.B).mono ?_;rintro e w1 ⟨F,K,G,L,rfl,V,X,f⟩;have P:=cB (g.o.z f);clear k l m n o p q r t u v x y z A;obtain⟨k,l,m,n,o,p,q,r,t,u,v,x,y,z,A⟩:=P.o.cells rfl;clear f g E Q O;go_upto_region 2 with fail;refine jU (C:=λW=>Code.wp prog _ _ _ W) P.o.N ?_;intro w2 U J;have I:=cB (T.o w2 F G (V.files.store P.o.N (kF _ _ _ _ _) J) (X.tens.store P.o.N (kF _ _ _ _ _) J));replace P:=cB (P.o.put U J);clear k l m n o p q r t u v x y z A V X U J T;obtain⟨k,l,m,n,o,p,q,r,t,u,v,x,y,z,A⟩:=P.o.cells rfl;have Q:=eF F K G L N 42;have O:=lE F K G L N;rw[d.o]at Q O;go_wp2_with fail;apply hC (D.o _);intro d f;replace P:=cB (P.o.z f);replace I:=cB (I.o.z f);clear f k l m n o p q r t u v x y z A;obtain⟨k,l,m,n,o,p,q,r,t,u,v,x,y,z,A⟩:=P.o.cells rfl;go_wp2;have M:=cB (P.o.held (dC F K G L N));go_region_held3 (λS=>gB S (w.1.size+1) (dC F K G L N) 42)
  (first|with_reducible exact(M.o _ H).1|with_reducible exact(M.o _ bD.drew).1|exact(M.o _ H).2)
  (first|(go_at_call 50;refine hC (gF _ _ (by omega) (by omega)) ?_;intro h f;have H:tB d h:=(by with_reducible exact vB bD.drew f);have d:=(P.o.z H).R.box rfl))
 go_wp2;exact cM rfl rfl rfl rfl (P.o.z H) (I.o.z H)
def jq(c:gC)(a b:jC)(f g:Nat)(N:pC)(r:dG)(w:eA)(h:nQ w a b N)(i:cF c=dA)(k:kC c N.now N.ts=dA)(j:VR r):
 Calls prog 14 #[jE c,.agg (dC a f b g N),oA (uK r)] w λe l=>RN (qR c N r).1 (oA (qR c N r).2) w e l:=by
 unfold qR;cases hu:N.up with
 |false=>exact aKw c a b f g N _ w h i hu
 |true=>
  rw[Ja (by simp)];have m:=j.ok.1;have d:r.K∈[(1:Int)]\/r.K∈[(2:Int),3,4]\/r.K∈[(5:Int),6]:=by
   simp only[Lb,Ed,Bf];omega
  obtain d|d|d:=d;exact aKt c a b f g N r w h ⟨i,hu,k,j,d⟩;exact aKu c a b f g N r w h ⟨i,hu,k,j,d⟩;exact aKv c a b f g N r w h ⟨i,hu,k,j,d⟩
end
section
open Go.Maps
attribute [local go_sem] wF uG fK gB.drewI oK.drewI oK.new oK.alloc oK.alloc2
structure StV where
 now:Int
 ts:List fB
 b:jC
 cb:Nat
def EI(zs:List StV):List iA:=zs.flatMap λz=>[zA z.now,pA z.b (yA z.ts) z.cb]
def aAw(c:gC)(w:eA)(z:StV):Prop:=uC w z.b z.ts/\kC c z.now z.ts=dA/\jG z.ts<=600000
def gr(v:iA):Prop:=∀s,v≠oA s
def fj(v:iA):Prop:=∃s,v=oA s
def aIb:ui gr:=Ca λs h=>h s rfl
def aLq:ui fj:=La λn h=>by obtain⟨s,e⟩:=h;cases e
def aHg:(prog.info? 40).map (λi=>(i.zero,i.size,i.bytes))=bA (bA (.agg #[zA 0,pA none 0 0]),2,32):=by kernel_rfl
def aHe:(prog.info? 9).map (λi=>(i.zero,i.size,i.bytes))=bA (bA (oA kA),1,16):=by kernel_rfl
def yW{w:eA}{B:Nat}{T m:TypeId}{t:Nat}{v:iA}{n:Nat}{u:List iA}{g:Nat}{d:Array iA}(h:w.ownsRow B T t v n u)(r:gB w g d m)(s:m≠T):v.ownBlock≠bA g:=by
 intro e;obtain⟨f,_⟩|⟨x,q,o,f,_,i,_⟩:=h.2;rw[f]at e;simp[iA.ownBlock]at e;rw[f]at e;simp only[iA.ownBlock,Qa]at e;subst e;have p:=i.symm.trans r;simp only[Qa,Obj.cells.injEq]at p;exact s p.2.1.symm
def ta{w:eA}{B r:Nat}{T f:TypeId}{z o:Nat}{v q:iA}{n y:Nat}{A p:List iA}(h:w.ownsRow B T z v n A)(u:w.ownsRow r f o q y p)(x:f≠T):∀g,q.ownBlock=bA g->¬v.ownBlock=bA g:=λg e=>by
 obtain⟨i,_⟩|⟨t,s,d,i,_,m,_⟩:=u.2;rw[i]at e;simp[iA.ownBlock]at e;rw[i]at e;simp only[iA.ownBlock,Qa]at e;subst e;exact yW h (show gB w t d f from m) x
def aCu{c:gC}{W:eA}{N:pC}{a b:jC}{m:Nat}(g:rB W a N.d.fs)(h:uC W b N.ts)(e:kz c m N)(q:m<=600000):nQ W a b N:=by
 obtain⟨p,i,n,_,r⟩:=yG e.st;have d:=e.w;have f:=(jw (lsn:=N.lsn) e.st (by omega) e.lsn.1 e.lsn.2).2.2.2.1;have o:=e.lsn;exact⟨g,e.fit,h,by have:=(iT N.ts).1;omega,f,⟨by omega,by omega⟩,⟨by omega,by omega⟩⟩
structure DM(c:gC)(w W:World)(Y k j:Nat)(N:pC)(a:jC)(ca:Nat)(b:jC)(cb:Nat)(l l':Value)(zs:List StV)(ss:List Value):Prop where
 C:gB W w.1.size #[zA c.w,zA c.tl,zA c.ml,zA c.sh,zA c.ha,zA c.sg] 24
 D:gB W Y (dC a ca b cb N) 42
 S:GI gr W w.1.size 40 2 l (k+1) (EI zs)
 R:GI fj W w.1.size 9 1 l' j ss
 F:rB W a N.d.fs
 T:uC W b N.ts
 G:∀z∈zs,aAw c W z
 L:yA zs=k+1
 B:tB w W
 Y:w.1.size<Y
section
variable {c:gC} {w W W':eA} {Y k j:Nat} {N M:pC} {a b a2 b2:jC} {ca cb ca2 cb2:Nat} {l l' l9:iA} {zs:List StV} {ss s9:List iA}
theorem DM.z(h:DM c w W Y k j N a ca b cb l l' zs ss)(d:tB W W'):DM c w W' Y k j N a ca b cb l l' zs ss:=
 ⟨h.C.z d,h.D.z d,h.S.z d,h.R.z d,h.F.z d,h.T.z d,λz e=>⟨(h.G z e).1.z d,(h.G z e).2⟩,h.L,vB h.B d,h.Y⟩
theorem DM.put(h:DM c w W Y k j N a ca b cb l l' zs ss)(o:gB W' Y (dC a2 ca2 b2 cb2 M) 42)(f:eB (·=Y) W W')(p:rB W a2 M.d.fs)(q:uC W b2 M.ts):DM c w W' Y k j M a2 ca2 b2 cb2 l l' zs ss:=
 have r:=h.Y
 ⟨f.blk h.C (by omega),o,h.S.turn f λg m e=>yW h.S.1 h.D (by decide) (e ▸ m),h.R.turn f λg m e=>yW h.R.1 h.D (by decide) (e ▸ m),p.store h.D (kF _ _ _ _ _) f,q.store h.D (kF _ _ _ _ _) f,
  λz n=>⟨(h.G z n).1.store h.D (kF _ _ _ _ _) f,(h.G z n).2⟩,h.L,h.B.trans (f.below h.B.size λi s e=>by omega),h.Y⟩
theorem DM.app(h:DM c w W Y k j N a ca b cb l l' zs ss){z:StV}(g:aAw c W z)(m:GI gr W' w.1.size 40 2 l9 (k+1+1) (EI zs++[zA z.now,pA z.b (yA z.ts) z.cb]))(d:eB (λi=>l.ownBlock=bA i) W W'):DM c w W' Y (k+1) j N a ca b cb l9 l' (zs++[z]) ss:=
 ⟨d.blk h.C (yW h.S.1 h.C (by decide)),d.blk h.D (yW h.S.1 h.D (by decide)),by rw[show EI (zs++[z])=EI zs++[zA z.now,pA z.b (yA z.ts) z.cb] by simp[EI]];exact m,h.R.turn d (ta h.S.1 h.R.1 (by decide)),h.F.keptP h.S.2.2 d aIb,h.T.keptP h.S.2.2 d aIb,
  λy f=>by
   rcases Ee.1 f with f|f;exact ⟨(h.G y f).1.keptP h.S.2.2 d aIb,(h.G y f).2⟩;rw[Uf.1 f];exact⟨g.1.keptP h.S.2.2 d aIb,g.2⟩,by rw[Kb,h.L];rfl,h.B.trans (d.below h.B.size λi n e=>by have:=(h.S.1.lt i e).1;omega),h.Y⟩
theorem DM.rep(h:DM c w W Y k j N a ca b cb l l' zs ss)(g:GI fj W' w.1.size 9 1 l9 (j+1) s9)(d:eB (λi=>l'.ownBlock=bA i) W W'):DM c w W' Y k (j+1) N a ca b cb l l9 zs s9:=
 ⟨d.blk h.C (yW h.R.1 h.C (by decide)),d.blk h.D (yW h.R.1 h.D (by decide)),h.S.turn d (ta h.R.1 h.S.1 (by decide)),g,h.F.keptP h.R.2.2 d aLq,h.T.keptP h.R.2.2 d aLq,λy f=>⟨(h.G y f).1.keptP h.R.2.2 d aLq,(h.G y f).2⟩,h.L,h.B.trans (d.below h.B.size λi m e=>by have:=(h.R.1.lt i e).1;omega),h.Y⟩
end
def lp{X:Nat}{w W:eA}{cs:Array iA}(h:tB w W)(d:w.1.size<=X):tB w (W.setRow X cs):=h.trans ((lG W X cs).below h.size λi f e=>by omega)
def AG{m u:eA}{X:Nat}{h i:jC}{e f:Nat}{g:pC}{q:nB}(o:gB u X (dC none 0 none 0 xK) 42)(p:m.1.size<=X)(r:tB m u)(s:rB u h g.d.fs)(t:uC u i g.ts):∃n a2 ca2 b2 cb2,iA.pointer (pB X)=.pointer (pB n)/\iA.string q=oA q/\m.1.size<=n/\gB (u.setRow X (dC h e i f g)) n (dC a2 ca2 b2 cb2 g) 42/\rB (u.setRow X (dC h e i f g)) a2 g.d.fs/\uC (u.setRow X (dC h e i f g)) b2 g.ts/\tB m (u.setRow X (dC h e i f g)):=
 ⟨X,h,e,i,f,rfl,rfl,p,o.row,s.store o (kF _ _ _ _ _) (lG _ _ _),t.store o (kF _ _ _ _ _) (lG _ _ _),lp r p⟩
def rq(d:List QV)(k:Nat):dG:=match d[k]? with
 |some q=>q.req
 |none=>⟨0,kA,kA,0,[]⟩
def aFa{d:List QV}{k:Nat}(h:k<yA d):rq d k=d[k].req:=by unfold rq;rw[Va h]
def nA(c:gC)(f:Nat->dG):Nat->pC
 |0=>nd1
 |k+1=>(qR c (nA c f k) (f k)).1
def rA(c:gC)(f:Nat->dG)(k:Nat):nB:=(qR c (nA c f k) (f k)).2
def rsA(c:gC)(f:Nat->dG)(n:Nat):List iA:=(List.range n).map λi=>oA (rA c f i)
def aFb(c:gC)(f:Nat->dG)(n:Nat):rsA c f (n+1)=rsA c f n++[oA (rA c f n)]:=by simp[rsA,List.range_succ]
def aBd(c:gC)(f:Nat->dG)(n:Nat)(w:eA)(e:Ending)(i:eA):Prop:=∃(g h m d:Nat)(zs:List StV)(b:jC)(cb:Nat),e=.returned (.tuple #[pA (pB g) (n+1) h,pA (pB m) n d])/\yA zs=n+1/\i.ownsRow w.1.size 40 2 (pA (pB g) (n+1) h) (n+1) (EI zs)/\i.ownsRow w.1.size 9 1 (pA (pB m) n d) n (rsA c f n)/\(∀z∈zs,aAw c i z)/\zs[n]?=bA ⟨(nA c f n).now,(nA c f n).ts,b,cb⟩/\tB w i
def aCt(c:gC)(d:cF c=dA)(a1:jC)(c1:Nat)(n:List QV)(m o:Nat)(w:eA)(h:SY xX w m o a1 n)(m:yA n<=17):
 Calls prog 5 #[jE c,pA a1 (yA n) c1] w λe m=>aBd c (rq n) (yA n) w e m:=by
 have HC:=cB d;have J:=cB (λW=>ZT c W d);have Q:bB (kz c 0 nd1):=cB (sd d);have o:nA c (rq n) 0=nd1:=rfl;rw[<-o]at J Q;generalize hM:nA c (rq n) 0=M at J Q;unfold RN at J;clear o;have HQ:=cB h;clear d h;unfold jE at *;have d:=yK;go_enter func5,ntmps5;go_upto_region 1 with fail;refine yH (C:=λW=>Code.wp prog _ _ _ W) ?_;intro I o D d;clear d;obtain⟨x0,x1,x2,S,T,x5⟩:=D.c6;go_wp2_with fail;refine(J.o _).mono ?_;rintro e w1 ⟨a,ca,b,cb,rfl,d,B,E⟩;have F:=cB (D.z E);have U:=cB (vB o E);have h:=aB F.o;have G:=cB (Vc d B);clear E o D x0 x1 x2 S T x5 J d B I;go_upto_region 2 with fail;refine GN (C:=λW=>Code.wp prog _ _ _ W) ?_;intro w2 O D;have C2:=cB (F.o.z O);have I:=cB (vB U.o O);have L:=cB (Vc (G.o.1.z O) (G.o.2.z O));have o:w.1.size<w1.1.size:=h;clear F U G h O;generalize w1.1.size=Y at *;have n9:tC w2 Y 9 (zA M.now):=D.cell 9;have J:tC w2 Y 10 (pA b (yA M.ts) cb):=D.cell 10;have F:=cB D;clear D;go_upto_region 3 with fail;refine yH (C:=λW=>Code.wp prog _ _ _ W) ?_;intro O y G h;clear h n9 J;have S3:=cB G;have N3:=cB (F.o.z y);have C3:=cB (C2.o.z y);have Z:=cB (vB I.o y);have U:=cB (Vc (L.o.1.z y) (L.o.2.z y));have D:=I.o.size;clear y G F C2 I L;generalize w2.1.size=G at *;clear w2;go_upto_region 4 with fail;refine yH (C:=λW=>Code.wp prog _ _ _ W) ?_;intro w4 r RB h;clear h;have R4:bB (DM c w w4 Y 0 0 M a ca b cb (pA (pB G) 1 1) (pA (pB O.1.size) 0 0) [⟨M.now,M.ts,b,cb⟩] []):=by
  have I:=S3.o.z r;refine⟨C3.o.z r,N3.o.z r,⟨⟨rfl,.inr ⟨G,1,_,rfl,D,I,Ia _,by simp[maxLen],rfl,rfl⟩⟩,by simp[iA.ownBlock],λg j u L h=>?_⟩,⟨⟨rfl,.inr ⟨O.1.size,0,_,rfl,Z.o.size,RB,Ia _,by simp[maxLen],rfl,rfl⟩⟩,by simp[iA.ownBlock],λg j u L h=>?_⟩,U.o.1.z r,U.o.2.z r,λz F=>?_,rfl,vB Z.o r,o⟩
  .simp only[iA.ownBlock,Qa]at L;subst L;rw[I.cell]at h;match j with
   |0|1=>simp at h;subst h;intro s e;cases e
   |j+2=>simp at h
  .simp only[iA.ownBlock,Qa]at L;subst L;rw[RB.cell]at h;simp at h
  rw[Uf.1 F];exact⟨U.o.2.z r,Q.o.st,Ua Q.o.w (by omega)⟩
 clear r RB C3 N3 S3 Z U D o;generalize O.1.size=h at *;clear O;go_wp2;go_loopw [8,9,11,12,13,26] (λl l' _ _ _ i wr=>∃(k:Nat)(N:pC)(a:jC)(ca:Nat)(b:jC)(cb:Nat)(zs:List StV)(g K g' o:Nat),k<=yA n/\nA c (rq n) k=N/\zs[k]?=bA ⟨N.now,N.ts,b,cb⟩/\i=zA (k:Nat)/\l=pA (pB g) (k+1) K/\l'=pA (pB g') k o/\bB (DM c w wr Y k k N a ca b cb l l' zs (rsA c (rq n) k))/\bB (kz c (33000*k) N)) (λ_ _ _ _ _ i _=>yA n-(intOf i).toNat)
 case atStart=>exact⟨0,M,a,ca,b,cb,_,G,1,h,0,Oa _,hM,rfl,rfl,rfl,rfl,R4.o,Q.o⟩
 case round=>
  clear R4 Q hM;obtain⟨k,N,a,ca,b,cb,zs,g,K,g',o,h,G,hzk,rfl,rfl,rfl,R,Q⟩:=hrel;by_cases h:k<yA n
  .have hlt':(k:Int)<(yA n:Nat):=by omega
   obtain⟨D,rfl,Z,f,t⟩:=(HQ.o.z R.o.B).at h;have x0:=f 0 (by decide);have x1:=f 1 (by decide);have x2:=f 2 (by decide);have S:=f 3 (by decide);have T:=f 4 (by decide);simp only[xX,Ob,Ga,Bg]at x0 x1 x2 S T;have HP:=cB (QV.said t);obtain⟨hp1,hp2,hp3⟩:=QV.small t;clear f t;have L:nA c (rq n) (k+1)=(qR c N (rq n k)).1:=by rw[<-G];rfl
   have I:rA c (rq n) k=(qR c N (rq n k)).2:=by rw[<-G];rfl
   have D:=aFb c (rq n) k;rw[I]at D;rw[aFa h]at L D;clear I;generalize n[k]=q at *;go_upto_region 7 with fail;refine yH (C:=λW=>Code.wp prog _ _ _ W) ?_;intro U O QB h;clear h x0 x1 x2 S T Z;obtain⟨hsm,h,hxs⟩:=HP.o;have hql:yA q.req.P=yA q.ys:=Xa ..;have I:=cB (λW(Z:tB wr W)=>CW q.req q.a q.c W (hsm.z Z) h);rw[hql]at I;have X:=cB (λW(Z:tB wr W)=>jq c a b ca cb N q.req W (aCu (R.o.z Z).F (R.o.z Z).T Q.o (by omega)) HC.o Q.o.st h);have Z:=cB (rr HC.o Q.o (by omega) (by omega) hp3 hp1 hp2);unfold RN jE at X;generalize qR c N q.req=V at *;obtain⟨A,rp⟩:=V;dsimp only at X Z L D;replace I:bB (∀W,tB wr W->vE 8 #[.agg #[zA q.K,oA q.T,oA q.R,zA q.U,pA q.a (yA q.ys) q.c]] W (oA (uK q.req))):=I;clear hsm h hxs hql HP;generalize uK q.req=tx at *;have R5:=cB (R.o.z O);have H:=cB O;have x:=cB (λm(h:tB U m)=>(show(gB m Y (dC a ca b cb N) 42)/\(tC m w.1.size 0 (zA c.w)/\tC m w.1.size 1 (zA c.tl)/\tC m w.1.size 2 (zA c.ml)/\tC m w.1.size 3 (zA c.sh)/\tC m w.1.size 4 (zA c.ha)/\tC m w.1.size 5 (zA c.sg))/\(tC m wr.1.size 0 (zA q.K)/\tC m wr.1.size 1 (oA q.T)/\tC m wr.1.size 2 (oA q.R)/\tC m wr.1.size 3 (zA q.U)/\tC m wr.1.size 4 (pA q.a (yA q.ys) q.c)) from⟨R5.o.D.z h,(R5.o.C.z h).c6,(QB.z h).c5⟩));obtain⟨k0,⟨x0,x1,x2,S,T,x5⟩,q0,q1,q2,q3,q4⟩:=x.o U bD;have rN:=eF a ca b cb N 42;have fN:=lE a ca b cb N;go_cut [12,13] (λp s h=>∃X5 a' ca' b' cb',p=.pointer (pB X5)/\s=oA rp/\U.1.size<=X5/\gB h X5 (dC a' ca' b' cb' A) 42/\rB h a' A.d.fs/\uC h b' A.ts/\tB U h)
   case first=>as_aux_lemma=>
    go_region_held3 (λm=>(gB m Y (dC a ca b cb N) 42)/\(m.cell? (dB w.1.size 0)=bA (zA c.w)/\m.cell? (dB w.1.size 1)=bA (zA c.tl)/\m.cell? (dB w.1.size 2)=bA (zA c.ml)/\m.cell? (dB w.1.size 3)=bA (zA c.sh)/\m.cell? (dB w.1.size 4)=bA (zA c.ha)/\m.cell? (dB w.1.size 5)=bA (zA c.sg))/\(m.cell? (dB wr.1.size 0)=bA (zA q.K)/\m.cell? (dB wr.1.size 1)=bA (oA q.T)/\m.cell? (dB wr.1.size 2)=bA (oA q.R)/\m.cell? (dB wr.1.size 3)=bA (zA q.U)/\m.cell? (dB wr.1.size 4)=bA (pA q.a (yA q.ys) q.c)))
     (first|with_reducible exact x.o _ bD.drew|with_reducible exact x.o _ (yB.drew)|with_reducible exact x.o _ h|with_reducible exact x.o _ (vB h yB)|with_reducible exact x.o _ P|with_reducible exact x.o _ (vB P yB)|with_reducible exact x.o _ (lp P (Ia _))|with_reducible exact x.o _ (lp P h.size)|with_reducible exact x.o _ (lp (vB P yB) P.size))
     (first
     |(go_at_call 8;refine hC (I.o _ (by first|with_reducible exact vB H.o bD.drew|with_reducible exact vB H.o (yB.drew))) ?_;intro m E;have h:tB U m:=(by first|with_reducible exact vB bD.drew E|with_reducible exact vB (yB.drew) E);have k1:=x.o _ h;(first|(have F:=iL E)|skip))
     |(go_at_call 14;refine(X.o _ (by first|with_reducible exact vB H.o h|with_reducible exact vB H.o (vB h yB))).mono ?_;rintro e u2 ⟨a',ca',b',cb',rfl,d,B,E⟩;have P:tB U u2:=(by first|with_reducible exact vB h E|with_reducible exact vB (vB h yB) E);have U:=x.o _ P;(first|(have F:=F.z E)|(have F:gB _ m.1.size _ _:=jO E)|skip);(try (have U:=F.box rfl))))
    all_goals(go_wp2_with fail;go_meet)
    .exact AG (gB.new u2 _ _) P.size (vB P yB) (d.z yB) (B.z yB)
    .exact AG F h.size P d B
    exact AG F (Ia _) P d B
   obtain⟨X5,a2,ca2,b2,cb2,rfl,rfl,h,XB,d,B,h⟩:=hcut;rename eA=>w6;have m:=cB (R5.o.z h);have F:=cB (Vc d B);have U:=m.o.D.box rfl;have rM:=eF a2 ca2 b2 cb2 A 42;have fM:=lE a2 ca2 b2 cb2 A;have hL:=R.o.L;clear d B h R5 x I X H O QB k0 x0 x1 x2 S T x5 q0 q1 q2 q3 q4 rN fN R;go_upto_region 9 with fail;refine jU (C:=λW=>Code.wp prog _ _ _ W) m.o.D ?_;intro h B I;have d:=cB (m.o.put B I F.o.1 F.o.2);have n9:tC h Y 9 (zA A.now):=B.cell 9;have J:tC h Y 10 (pA b2 (yA A.ts) cb2):=B.cell 10;have h:=d.o.B.size;clear B I m F XB U rM fM;go_upto_region 10 with(at_builtin;refine ud rfl _ _ rfl underlying29 aHg rfl (by omega) (by omega) (v:=pA (pB g) (k+1) K) rfl d.o.S rfl (by simp) rfl (by simp[iA.oneCell']) (by omega) h (by simp[gr]) (by simp[gr,iA.cells]) ?_;intro O S m m B)
   have F:=cB (d.o.app (z:=⟨A.now,A.ts,b2,cb2⟩) ⟨d.o.T,Z.o.st,Ua Z.o.w (by omega)⟩ m.o B.o);have I:=F.o.B.size;clear m B n9 J h d;go_wp2_with(at_builtin;refine ud rfl _ _ rfl underlying30 aHe rfl (by omega) (by omega) (v:=pA (pB g') k o) rfl F.o.R rfl (by simp) rfl (by simp[iA.oneCell']) (by omega) I (by simp[fj]) (by simp[fj,iA.cells]) ?_;intro d h I m B);exact⟨⟨k+1,A,a2,ca2,b2,cb2,zs++[⟨A.now,A.ts,b2,cb2⟩],O,S,d,h,by omega,L,by rw[Uc (by rw[hL];omega),hL];simp,by go_num,rfl,rfl,by rw[D];exact F.o.rep m.o B.o,Z.o⟩,by simp[intOf];omega⟩
  obtain rfl:k=yA n:=by omega
  go_wp2;refine bodyPost_ret (v:=.tuple #[pA (pB g) (yA n+1) K,pA (pB g') (yA n) o]) (by simp[results,results5,go_sem]) rfl ?_;rw[<-G]at hzk;exact⟨g,K,g',o,zs,b,cb,rfl,R.o.L,R.o.S.1,R.o.R.1,R.o.G,hzk,R.o.B⟩
end
def gC.re(c:gC)(s h:Int):gC:=⟨c.w,c.tl,c.ml,s,h,c.sg⟩
section
variable {c:gC} {s h now:Int} {ts:List fB}
theorem jv(a:cF (c.re s h)=cF c):kC (c.re s h) now ts=kC c now ts:=by unfold kC;rw[a];rfl
theorem aMc{a:List qE}:bG (c.re s h) now ts a=bG c now ts a:=by
 induction a generalizing now ts with
 |nil=>rfl
 |cons r a b=>simp only[bG,b,show mE (c.re s h)=mE c from rfl]
theorem aLn(a:cF (c.re s h)=cF c)(N:pC)(b:List qE):zF (c.re s h) N b=zF c N b:=by
 unfold zF rG;rw[a,jv a,aMc];rfl
theorem aNx(d:cF (c.re s h)=cF c)(a:nB)(b:List oF):fL (c.re s h) now a ts b=fL c now a ts b:=by
 have e:∀t,uH (c.re s h) now t a=uH c now t a:=λt=>by
  funext x;unfold uH sH;rw[jv d];rfl
 unfold fL wrS;simp only[e]
theorem aCv(a:cF (c.re s h)=cF c)(N:pC)(r:dG):qR (c.re s h) N r=qR c N r:=by
 have b:∀n,uV (c.re s h) N.now N.ts n=uV c N.now N.ts n:=λn=>by unfold uV;rw[jv a];rfl
 have d:∀t m n,kN (c.re s h) N.now N.ts t m n=kN c N.now N.ts t m n:=λt m n=>by unfold kN;rw[jv a];rfl
 have e:DF (c.re s h) N=DF c N:=by unfold DF;rw[a]
 have f:∀t m,fG (c.re s h) N.now N.ts t m=fG c N.now N.ts t m:=λt m=>by unfold fG;rw[jv a];rfl
 unfold qR nI;simp only[aLn a,aNx a,b,d,e,f]
theorem aAc(g:kC c now ts=dA){t:fB}(j:t∈ts):cX c now ts t.N=xF (QN c) c.sh.toNat (t.Z.map (·.s))/\xB ts t.N=t/\t.N.size<=32:=by
 obtain⟨_,_,_,_,d⟩:=yG g;have e:xB ts t.N=t:=by unfold xB;rw[cK (mQ d) j];rfl
 have b:oC t.N=dA:=by
  obtain⟨i,f,rfl⟩:=Ib j;have a:=zM d f;rw[fT f]at a;simp only[fO,Sa]at a;exact a.2.1.1.1.1
 refine⟨by unfold cX;rw[g,b,Ma (by rfl),e],e,?_⟩;simp only[oC,Sa,Ab]at b;exact b.1.2
theorem vv(b:nB->Nat)(n k:Nat)(a:List nB)(h:k<yA (xF b n a)):dT (xF b (k+1) a)=dT (xF b k a)+yA (xF b n a)[k]:=by
 rw[NF,FX,uN];simp[dT]
theorem aCe(b:1<=c.sh)(a:List nB):dT (xF (QN c) c.sh.toNat a)=yA a:=by
 rw[QR,Jc.2 λk _=>Ac (aFg k b)]
theorem aCg(b:c.ha=1)(n i:Nat)(a:List nB)(f:i<yA (xF (QN c) n a))(d:i≠0):yA (xF (QN c) n a)[i]=0:=by
 have e:∀k,QN c k=0:=λk=>by unfold QN yP;rw[Ma b];rfl
 rw[uN,List.filter_eq_nil_iff.2 λk _=>by rw[e];simp;omega];rfl
theorem aCf(n i j:Nat)(t:fB)(d:i<yA (xF (QN c) n (t.Z.map (·.s))))(b:j<yA (xF (QN c) n (t.Z.map (·.s)))[i]):∃p∈t.Z,p.s=(xF (QN c) n (t.Z.map (·.s)))[i][j]:=by
 have h:∀x∈(xF (QN c) n (t.Z.map (·.s)))[i],∃p∈t.Z,p.s=x:=λx a=>by
  rw[uN]at a;exact Md.1 (De.1 a).1
 exact h _ (Gb b)
theorem qb(d:kC c now ts=dA){t:fB}(m:t∈ts)(l:yA t.Z<=1048576):∃(L:List (List nB))(a:Nat->Nat),cX c now ts t.N=L/\(yA L:Int)=c.sh/\a 0=0/\a (yA L)=yA t.Z/\(∀i(h:i<yA L),a (i+1)=a i+yA L[i]/\a (i+1)<=1048576/\(c.ha=1->i≠0->yA L[i]=0)/\∀j(n:j<yA L[i]),∃p∈t.Z,p.s=L[i][j])/\xB ts t.N=t/\t.N.size<=32:=by
 obtain⟨e,f,g⟩:=aAc d m;have k:=(aFi d).1;refine⟨_,λi=>dT (xF (QN c) i (t.Z.map (·.s))),e,by rw[wI];omega,rfl,by dsimp only;rw[wI,aCe k,Xa],λi b=>⟨vv _ _ _ _ b,?_,λh=>aCg h _ _ _ b,λj=>aCf _ _ _ _ b⟩,f,g⟩;have:=SL (QN c) (i+1) (t.Z.map (·.s));rw[Xa]at this;exact Ua this l
end
section
attribute [local go_sem] wF uG fK gB.drewI oK.drewI oK.new oK.alloc oK.alloc2
def UO:∀(a:List StV)(i:Nat)(z:StV),a[i]?=bA z->(EI a)[i*2+1]?=bA (pA z.b (yA z.ts) z.cb)
 |y::r,0,z,h=>by cases h;rfl
 |y::r,i+1,z,h=>by
  have:=UO r i z (by simpa using h);have e:EI (y::r)=zA y.now :: pA y.b (yA y.ts) y.cb::EI r:=rfl;rw[e,show(i+1)*2=i*2+1+1 by omega,Ga,Ga];exact this
structure HaI(c:gC)(f:Nat→dG)(N:pC)(w W:World)(X lo:Nat)(qs:List QV)(a1:jC)(g g2:Nat)(b:jC)(cb:Nat)(s h:Int):Prop where
 C:gB W X #[zA c.w,zA c.tl,zA c.ml,zA s,zA h,zA c.sg] 24
 Q:SY xX W lo X a1 qs
 R:∀i,i<yA qs→W.cell? (dB g2 i)=bA (oA (rA c f i))
 S:W.cell? (dB g (yA qs*2+1))=bA (pA b (yA N.ts) cb)
 G:X<g∧g<W.1.size∧X<g2∧g2<W.1.size
 T:uC W b N.ts
 B:tB w W
 X:w.1.size≤X
section
variable {c:gC} {f:Nat→dG} {N:pC} {w W W':eA} {X lo:Nat} {qs:List QV} {a1:jC} {g g2:Nat} {b:jC} {cb:Nat} {s h s' h':Int}
theorem HaI.z(H:HaI c f N w W X lo qs a1 g g2 b cb s h)(a:tB W W'):HaI c f N w W' X lo qs a1 g g2 b cb s h:=
 ⟨H.C.z a,H.Q.z a,λi d=>(a.cell H.G.2.2.2).trans (H.R i d),(a.cell H.G.2.1).trans H.S,⟨H.G.1,Bb H.G.2.1 a.size,H.G.2.2.1,Bb H.G.2.2.2 a.size⟩,H.T.z a,vB H.B a,H.X⟩
theorem HaI.put(H:HaI c f N w W X lo qs a1 g g2 b cb s h):HaI c f N w ((W.setCell (dB X 4) (zA h')).setCell (dB X 3) (zA s')) X lo qs a1 g g2 b cb s' h':=by
 have a:eB (·=X) W ((W.setCell (dB X 4) (zA h')).setCell (dB X 3) (zA s')):=((eB.refl (·=X) W).setCell (Ca rfl) 4 _).setCell (Ca rfl) 3 _;have n:∀x j,x<W.1.size->X<x->((W.setCell (dB X 4) (zA h')).setCell (dB X 3) (zA s')).cell? (dB x j)=W.cell? (dB x j):=λx j q p=>eA.cell?_of_block (a.block x q λe=>by omega);obtain⟨d,k,l,m⟩:=H.G;exact⟨by have:=(H.C.set 4 (zA h')).set 3 (zA s');simpa using this,H.Q.keep a.size λg _ r p=>a.block g p λe=>by omega,λi o=>(n g2 i m l).trans (H.R i o),(n g _ k d).trans H.S,⟨d,Bb k a.size,l,Bb m a.size⟩,
  H.T.store H.C (λj s=>by match j with
   |0|1|2|3|4|5=>simp
   |j+6=>simp) a,H.B.trans (a.below H.B.size λi o e=>by have:=H.X;omega),H.X⟩
end
def aKl{c:gC}{s h:Int}(j:cF c=dA)(a:1<=s)(d:s<=64)(e:0<=h)(i:h<=2):cF (c.re s h)=dA:=by grind [cF,gC.re,zB]
def aAj{a:List fB}(h:yA a+aC a<=600000)(i:Nat)(k:i<yA a):yA a[i].Z<=1048576/\∀j(d:j<yA a[i].Z),a[i].Z[j].s.size<=maxLen:=by
 have e:=gT a i k;unfold aF at e;exact⟨by omega,λj d=>by have:=sO _ j d;unfold maxLen;omega⟩
def ni(a:List iB)(key:nB)(m:Nat):Bool:=(a.take m).any λp=>p.s.toList==key.toList
def xh{a:List iB}{key:nB}{m:Nat}(h:m<yA a):ni a key (m+1)=(ni a key m||a[m].s.toList==key.toList):=by
 unfold ni;rw[Pa h,Tf];simp
def aCw{a:List iB}{key:nB}(h:∃p∈a,p.s=key):ni a key (yA a)=dA:=by
 obtain⟨p,d,rfl⟩:=h;unfold ni;rw[Rb];exact Zd.2 ⟨p,d,by simp⟩
def np(c:gC)(a b:jC)(d cb:Nat)(N:pC)(r:dG)(w:eA)(h:nQ w a b N)(j:kC c N.now N.ts=dA)(o:VR r)(i:bH w/\cJ w/\iR w):
 Calls prog 7 #[jE c,.agg (dC a d b cb N),oA (uK r)] w λe l=>RN (qR c N r).1 (oA (qR c N r).2) w e l:=by
 refine(ef c a b d cb N r w h j o i.1 i.2.1 i.2.2).mono ?_;rintro e l ⟨a,d,b,cb,m,k,n⟩;exact⟨a,d,b,cb,m,k.files,k.tens,n⟩
theorem yh(a:Option Addr)(n cn:Nat)(w:World)(hA:tX w w.1.size w.1.size a n)(hn:n<=maxLen)(hU:bH w)(hpw:cJ w)(hS:iR w):
 Calls prog 3 #[.slice a n cn] w λe M=>e=.returned (.bool true)/\Below w.1.size w M:=by
 unfold maxLen at hn;have HA:=cB hA;have HT:=cB (show bH w/\cJ w/\iR w from⟨hU,hpw,hS⟩);clear hA hU hpw hS;by_cases hbn:(1048576:Int)<n
 .go_enter func3,ntmps3;go_wp2;go_ret;exact⟨rfl,bD⟩
 go_enter func3,ntmps3;go_wp2_with fail;refine(XW a n cn w (by omega) HA.o).mono ?_;rintro e w1 ⟨c,qs,a1,c1,v2,ks,rfl,hdc,hql,hin,-,-,hb1⟩;have HC:=cB (aCl hdc);have HS:=cB (show(1:Int)<=c.sh/\c.sh<=64 from by have:=hdc;unfold ML at this;omega);unfold jE;go_upto_region 4 with fail;refine yH (C:=λW=>Code.wp prog _ _ _ W) ?_;intro w2 hb2 CB hz2;clear hz2;have C2:=cB CB;have Q2:=cB (hin.z hb2);have B2:=cB (vB hb1 hb2);have HHR:=cB (λW h=>aCt c HC.o a1 c1 qs w.1.size w1.1.size W h hql);unfold jE aBd at HHR;have hX:=hb1.size;clear hin hb1 hb2 CB hdc HA hbn hn;generalize w1.1.size=X at *;clear w1;have hX2:=aB C2.o;obtain⟨x0,x1,x2,x3,x4,x5⟩:=C2.o.c6;go_wp2_with fail;refine(HHR.o _ Q2.o).mono ?_;rintro e w3 ⟨g,cap,g2,cap2,zs,b,cb,rfl,hzl,hr1,hr2,hG,hz,hb3⟩;have H3:bB (HaI c (rq qs) (nA c (rq qs) qs.length) w w3 X w.1.size qs a1 g g2 b cb c.sh c.ha):=by
  have ha:∀g j,(⟨g,0,none⟩:Addr).add j=⟨g,j,none⟩:=λg j=>by unfold Addr.add;split<;>simp_all
  have e1:=hr1.lt g rfl;have e2:=hr2.lt g2 rfl;refine⟨C2.o.z hb3,Q2.o.z hb3,λi hi=>?_,?_,⟨by omega,e1.2,by omega,e2.2⟩,(hG _ (List.mem_of_getElem? hz)).1,vB B2.o hb3,hX⟩
  .have:=hr2.cells rfl i _ (show(rsA c (rq qs) qs.length)[i]?=some (.string (rA c (rq qs) i)) by simp[rsA,hi]);rwa [ha]at this
  .have:=hr1.cells rfl _ _ (UO zs _ _ hz);rwa [ha]at this
 clear hr1 hr2 hG hz hb3 HHR C2 Q2 B2 x0 x1 x2 x3 x4 x5 hzl;have HN:bB (∃N,N=nA c (rq qs) qs.length):=cB ⟨_,rfl⟩;obtain⟨N,hN⟩:=HN.o;rw[<-hN]at H3;have HNN:=cB hN;clear hN HN;go_wp2;go_loopw [8,9] (λi _ wr=>∃(k:Nat)(s h:Int),k<=3/\i=.int .i64 k/\(1<=s/\s<=64)/\bB (HaI c (rq qs) N w wr X w.1.size qs a1 g g2 b cb s h)) (λi _ _=>3-(intOf i).toNat)
 case atStart=>exact⟨0,c.sh,c.ha,by omega,rfl,HS.o,H3.o⟩
 case round=>
  clear H3;obtain⟨k,s,h,hk,rfl,hs,H⟩:=hrel;by_cases hlt:k<3
  .obtain ⟨x0,x1,x2,x3,x4,x5⟩:=H.o.C.c6;have y3:=H.o.C.free 3;have y4:=H.o.C.free 4;have hlt':(k:Int)<3:=by omega
   go_upto_region 10 with fail;have P:=cB (H.o.put (s':=1+(s+(k:Int)) % 7) (h':=(k:Int)));have hs2:1<=1+(s+(k:Int)) % 7/\1+(s+(k:Int)) % 7<=7:=by omega
   clear x0 x1 x2 x3 x4 x5 y3 y4 H hs;generalize 1+(s+(k:Int)) % 7=s2 at *;generalize (wr.setCell ⟨X,4,none⟩ (.int .i64 (k:Int))).setCell ⟨X,3,none⟩ (.int .i64 s2)=wA at *;have HB:=cB (show cF (c.re s2 (k:Int))=true from aKl HC.o hs2.1 (by omega) (by omega) (by omega));have HNO:=cB (YI (c.re s2 (k:Int)) wA HB.o (HT.o.1.z P.o.B) (HT.o.2.1.z P.o.B));unfold RN jE gC.re at HNO;dsimp only at HNO;obtain⟨x0,x1,x2,x3,x4,x5⟩:=P.o.C.c6;have fz:=yK;go_wp2_with fail;refine HNO.o.mono ?_;rintro e w4 ⟨a4,ca4,b4,cb4,rfl,hF,hT,U⟩;replace P:=cB (P.o.z U);have FT:=cB (Vc hF hT);clear U hF hT HNO x0 x1 x2 x3 x4 x5;go_upto_region 11 with fail;refine GN (C:=λW=>Code.wp prog _ _ _ W) ?_;intro w5 hb5 NB;have D5:=cB NB;have F5:=cB (Vc (FT.o.1.z hb5) (FT.o.2.z hb5));have B5:bB (Below w4.1.size w4 w5):=hb5;obtain⟨Y,hY⟩:∃Y,Y=w4.1.size:=⟨_,rfl⟩
   rw[<-hY]at D5 B5 |-
   have HP:bB (∀W,Below Y w4 W->HaI c (rq qs) N w W X w.1.size qs a1 g g2 b cb s2 (k:Int)):=cB (by rw[hY];exact λW hW=>P.o.z hW);have hYX:X<Y:=by have:=P.o.G;omega
   have hYs:Y<=w4.1.size:=Nat.le_of_eq hY;clear hY hb5 NB FT P;go_wp2;go_loopw [11,12,13,14,62] (λ_ _ _ _ i wr=>∃(j:Nat)(J:pC)(a:Option Addr)(ca:Nat)(b:Option Addr)(cb:Nat),j<=qs.length/\i=.int .i64 j/\nA c (rq qs) j=J/\bB (gB wr Y (dC a ca b cb J) 42)/\bB (rB wr a J.d.fs/\uC wr b J.ts)/\bB (kz (c.re s2 k) (33000*j) J)/\bB (Below Y w4 wr)) (λ_ _ _ _ i _=>qs.length-(intOf i).toNat)
   case atStart=>exact⟨0,nd1,a4,ca4,b4,cb4,Oa _,rfl,rfl,D5.o,F5.o,sd HB.o,B5.o⟩
   case round=>
    clear D5 F5 B5;obtain⟨j,J,a',a0,b',O,hj,rfl,hnj,DB,FT,HI,WB⟩:=hrel;by_cases hjl:j<qs.length
    .have hjl':(j:Int)<(qs.length:Nat):=by omega
     obtain⟨g1,rfl,hg1,K,hpart⟩:=(HP.o _ WB.o).Q.at hjl;have x0:=K 0 (by decide);have x1:=K 1 (by decide);have x2:=K 2 (by decide);have x3:=K 3 (by decide);have x4:=K 4 (by decide);simp only[xX,Ob,Ga,Bg]at x0 x1 x2 x3 x4;have HPA:=cB (QV.said hpart);obtain⟨hp1,hp2,hp3⟩:=QV.small hpart;have hn1:nA c (rq qs) (j+1)=(qR c J (rq qs j)).1:=by rw[<-hnj];rfl
     have HR:=cB (λW hW=>(HP.o W hW).R j hjl);rw[show rA c (rq qs) j=(qR c J (rq qs j)).2 by rw[<-hnj];rfl]at HR;rw[aFa hjl]at hn1 HR;clear K hpart;generalize qs[j]=q at *;go_upto_region 14 with fail;refine yH (C:=λW=>Code.wp prog _ _ _ W) ?_;intro w6 hb6 QB hz6;clear hz6 x0 x1 x2 x3 x4 hg1;obtain⟨hsm,hvr,hxs⟩:=HPA.o;have hql:q.req.P.length=q.ys.length:=Xa ..;have HER:=cB (λW(hW:Below wr.1.size wr W)=>CW q.req q.a q.c W (hsm.z hW) hvr);rw[hql]at HER;have PB:=cB (HP.o _ WB.o);have HHN:=cB (λW(hW:Below wr.1.size wr W)=>np (c.re s2 (k:Int)) a' b' a0 O J q.req W (aCu (FT.o.1.z hW) (FT.o.2.z hW) HI.o (by omega)) HI.o.st hvr ⟨HT.o.1.z (vB PB.o.B hW),HT.o.2.1.z (vB PB.o.B hW),HT.o.2.2.z (vB PB.o.B hW)⟩);have HIV:=cB (rr HB.o HI.o (by omega) (by omega) hp3 hp1 hp2);rw[aCv (HB.o.trans HC.o.symm)]at HIV;simp only[aCv (HB.o.trans HC.o.symm)]at HHN;unfold RN jE at HHN;generalize qR c J q.req=V at *;obtain⟨M2,rp⟩:=V;dsimp only at HHN HIV hn1 HR;unfold gC.re at HHN;dsimp only at HHN;replace HER:bB (∀W,Below wr.1.size wr W->Calls prog 8 #[.agg #[.int .i64 q.K,.string q.T,.string q.R,.int .i64 q.U,.slice q.a q.ys.length q.c]] W λe M=>e=.returned (.string (uK q.req))/\Below W.1.size W M):=HER;clear hsm hvr hxs hql HPA;generalize uK q.req=tx at *;have P6:=cB (PB.o.z hb6);have D6:=cB (DB.o.z hb6);have hQ:=aB QB;have HB6:=cB hb6;obtain⟨Q,hQ0⟩:∃Q,Q=wr.1.size:=⟨_,rfl⟩
     rw[<-hQ0]at QB hQ |-
     have HK:=cB (λM(h:Below w6.1.size w6 M)=>(show(gB M Y (dC a' a0 b' O J) 42)/\(M.cell? ⟨X,0,none⟩=some (.int .i64 c.w)/\M.cell? ⟨X,1,none⟩=some (.int .i64 c.tl)/\M.cell? ⟨X,2,none⟩=some (.int .i64 c.ml)/\M.cell? ⟨X,3,none⟩=some (.int .i64 s2)/\M.cell? ⟨X,4,none⟩=some (.int .i64 (k:Int))/\M.cell? ⟨X,5,none⟩=some (.int .i64 c.sg))/\(M.cell? ⟨Q,0,none⟩=some (.int .i64 q.K)/\M.cell? ⟨Q,1,none⟩=some (.string q.T)/\M.cell? ⟨Q,2,none⟩=some (.string q.R)/\M.cell? ⟨Q,3,none⟩=some (.int .i64 q.U)/\M.cell? ⟨Q,4,none⟩=some (.slice q.a q.ys.length q.c)) from⟨D6.o.z h,(P6.o.C.z h).c6,(QB.z h).c5⟩));obtain⟨k0,⟨x0,x1,x2,x3,x4,x5⟩,q0,q1,q2,q3,q4⟩:=HK.o w6 bD;have rN:=eF a' a0 b' O J 42;have fN:=lE a' a0 b' O J;clear hQ0;go_cut [13,14] (λp s wx=>∃X5 a' a0 b' O,p=.pointer (some ⟨X5,0,none⟩)/\s=.string rp/\w6.1.size<=X5/\gB wx X5 (dC a' a0 b' O M2) 42/\rB wx a' M2.d.fs/\uC wx b' M2.ts/\Below w6.1.size w6 wx)
     case first=>as_aux_lemma=>
      go_region_held3 (λM=>(gB M Y (dC a' a0 b' O J) 42)/\(M.cell? ⟨X,0,none⟩=some (.int .i64 c.w)/\M.cell? ⟨X,1,none⟩=some (.int .i64 c.tl)/\M.cell? ⟨X,2,none⟩=some (.int .i64 c.ml)/\M.cell? ⟨X,3,none⟩=some (.int .i64 s2)/\M.cell? ⟨X,4,none⟩=some (.int .i64 (k:Int))/\M.cell? ⟨X,5,none⟩=some (.int .i64 c.sg))/\(M.cell? ⟨Q,0,none⟩=some (.int .i64 q.K)/\M.cell? ⟨Q,1,none⟩=some (.string q.T)/\M.cell? ⟨Q,2,none⟩=some (.string q.R)/\M.cell? ⟨Q,3,none⟩=some (.int .i64 q.U)/\M.cell? ⟨Q,4,none⟩=some (.slice q.a q.ys.length q.c)))
       (first|with_reducible exact HK.o _ bD.drew|with_reducible exact HK.o _ (yB.drew)|with_reducible exact HK.o _ r1|with_reducible exact HK.o _ (vB r1 yB)|with_reducible exact HK.o _ r2|with_reducible exact HK.o _ (vB r2 yB)|with_reducible exact HK.o _ (lp r2 (Ia _))|with_reducible exact HK.o _ (lp r2 r1.size)|with_reducible exact HK.o _ (lp (vB r2 yB) r2.size))
       (first
       |(go_at_call 8;refine(HER.o _ (by first|with_reducible exact vB HB6.o bD.drew|with_reducible exact vB HB6.o (yB.drew))).mono ?_;rintro e u1 ⟨rfl,U⟩;have r1:Below w6.1.size w6 u1:=(by first|with_reducible exact vB bD.drew U|with_reducible exact vB (yB.drew) U);have k1:=HK.o _ r1;(first|(have hz:=iL U)|skip))
       |(go_at_call 7;refine(HHN.o _ (by first|with_reducible exact vB HB6.o r1|with_reducible exact vB HB6.o (vB r1 yB))).mono ?_;rintro e u2 ⟨a',a0,b',O,rfl,hF,hT,U⟩;have r2:Below w6.1.size w6 u2:=(by first|with_reducible exact vB r1 U|with_reducible exact vB (vB r1 yB) U);have k2:=HK.o _ r2;(first|(have hz:=hz.z U)|(have hz:gB _ u1.1.size _ _:=jO U)|skip);(try (have bx:=hz.box rfl))))
      all_goals(go_wp2_with fail;go_meet)
      .exact AG (gB.new u2 _ _) r2.size (vB r2 yB) (hF.z yB) (hT.z yB)
      .exact AG hz r1.size r2 hF hT
      .exact AG hz (Ia _) r2 hF hT
     obtain⟨X5,a2,ca2,b2,cb2,rfl,rfl,hX5,XB,hF,hT,hb7⟩:=hcut;rename World=>w7;have D7:=cB (D6.o.z hb7);have F7:=cB (Vc hF hT);have W7:=cB (WB.o.trans ((vB hb6 hb7).mono (Vg (aB DB.o))));have bx:=D7.o.box rfl;have rM:=eF a2 ca2 b2 cb2 M2 42;have fM:=lE a2 ca2 b2 cb2 M2;clear hF hT hb6 hb7 P6 D6 HK HER HHN HB6 QB k0 x0 x1 x2 x3 x4 x5 q0 q1 q2 q3 q4 rN fN DB FT WB PB hQ;go_upto_region 16 with fail;refine jU (C:=λW=>Code.wp prog _ _ _ W) D7.o ?_;intro w8 D8 T8;have W8:=cB (W7.o.trans (T8.below (Ua hYs W7.o.size) λi hi e=>by omega));have F8:=cB (Vc (F7.o.1.store D7.o (kF _ _ _ _ _) T8) (F7.o.2.store D7.o (kF _ _ _ _ _) T8));have hcl:=HR.o _ W8.o;clear D7 F7 W7 T8 bx rM fM XB;go_wp2;exact⟨⟨j+1,M2,a2,ca2,b2,cb2,by omega,by go_num,hn1,D8,F8.o,HIV.o,W8.o⟩,by simp[intOf];omega⟩
    .obtain rfl:j=qs.length:=by omega
     rename World=>v;obtain rfl:J=N:=hnj.symm.trans HNN.o.symm;have P:=cB (HP.o _ WB.o);have hw:=HI.o.w;have hbk:J.ts.length+aC J.ts<=600000:=by have:=(iT J.ts).1;omega
     have HSM:=cB (aAj hbk);have HSY:=cB (λt(ht:t∈J.ts) hl=>qb (c:=c.re s2 (k:Int)) HI.o.st ht hl);have Z:=cB (λtn W(hW:Below v.1.size v W) h1 h2 h3=>OP (c.re s2 (k:Int)) J.now b' O J.ts tn 1900000 W (FT.o.2.z hW) (rP (show J.ts.length+aC J.ts<=1900000 by omega)).1 (by omega) (HT.o.1.z (vB P.o.B hW)) h1 h2 h3);unfold aBe jE at Z;unfold gC.re at Z HSY;dsimp only at Z HSY;have HS0:=cB P.o.S;have HTN:=cB P.o.T;obtain⟨x0,x1,x2,x3,x4,x5⟩:=P.o.C.c6;have n9:v.cell? ⟨Y,9,none⟩=some (.int .i64 J.now):=DB.o.cell 9;have n10:v.cell? ⟨Y,10,none⟩=some (.slice b' J.ts.length O):=DB.o.cell 10;have s0:v.cell? ⟨g,qs.length*2+1,none⟩=some (.slice b J.ts.length cb):=P.o.S;go_wp2;clear n9 n10 s0 x0 x1 x2 x3 x4 x5;go_loopw [90] (λi wx=>∃m:Nat,m<=J.ts.length/\i=.int .i64 m/\bB (Below v.1.size v wx)) (λi _=>J.ts.length-(intOf i).toNat)
     case atStart=>exact⟨0,Oa _,rfl,bD⟩
     case round=>as_aux_lemma=>
      rename World=>wx;obtain⟨m,hm,rfl,BX⟩:=hrel;by_cases hml:m<J.ts.length
      .have hml':(m:Int)<(J.ts.length:Nat):=by omega
       obtain⟨gb,o,p1,q1,p2,q2,rfl,hgb,A,D,E,F,-,hps⟩:=(HTN.o.z BX.o).at hml;obtain⟨hz1,hz2⟩:=HSM.o m hml;obtain⟨L,tot,e1,e2,e3,e4,e5,e6,e7⟩:=HSY.o _ (Gb hml) hz1;replace Z:=cB (λW hW=>Z.o J.ts[m].N W hW (by omega) (by rw[e6];exact hz1) (by rw[e6];exact hz2));rw[e1]at Z;generalize J.ts[m]=t at *;go_upto_region 22 with fail;refine yH (C:=λW=>Code.wp prog _ _ _ W) ?_;intro w9 hb9 TB hz9;clear hz9 A D E F hgb;have PS:=cB (hps.z hb9);have T9:=cB TB;have B9:=cB (vB BX.o hb9);clear hps hb9 TB e1 HSY;generalize wx.1.size=T at *;have HTZ:=cB (show t.Z.length<=1048576/\tot 0=0/\tot L.length=t.Z.length/\∀i(h:i<L.length),tot (i+1)=tot i+L[i].length/\tot (i+1)<=1048576/\((k:Int)=1->i≠0->L[i].length=0)/\∀j(hj:j<L[i].length),∃p∈t.Z,p.s=L[i][j] from⟨hz1,e3,e4,e5⟩);have n9:w9.cell? ⟨Y,9,none⟩=some (.int .i64 J.now):=(DB.o.z B9.o).cell 9;have n10:w9.cell? ⟨Y,10,none⟩=some (.slice b' J.ts.length O):=(DB.o.z B9.o).cell 10;obtain⟨x0,x1,x2,x3,x4,x5⟩:=(P.o.C.z B9.o).c6;have y0:w9.cell? ⟨T,0,none⟩=some (.string t.N):=T9.o.cell 0;clear hz1 hz2 e3 e4 e5 e6 e7;go_wp2_with fail;refine(Z.o _ B9.o).mono ?_;rintro e w10 ⟨a6,c6,rfl,ho,U⟩;have SS:=cB ho.ss;have B10:=cB (vB B9.o U);have T10:=cB (T9.o.z U);have PS10:=cB (PS.o.z U);clear ho U n9 n10 x0 x1 x2 x3 x4 x5 y0 Z B9 T9 PS;have x3:w10.cell? ⟨X,3,none⟩=some (.int .i64 s2):=(P.o.C.z B10.o).cell 3;have hne:((L.length:Int) != s2)=false:=by rw[e2];simp
       have ht0:=HTZ.o.2.1;go_wp2;clear x3 hne;go_loopw [18,107] (λtt i wx=>∃n:Nat,n<=L.length/\i=.int .i64 n/\tt=.int .i64 (tot n:Nat)/\bB (Below w10.1.size w10 wx)) (λ_ i _=>L.length-(intOf i).toNat)
       case atStart=>exact⟨0,Oa _,rfl,by rw[ht0];rfl,bD⟩
       case round=>as_aux_lemma=>
        clear ht0;rename World=>wy;obtain⟨n,hn,rfl,rfl,BN⟩:=hrel;by_cases hnl:n<L.length
        .obtain ⟨gl,o2,p3,q3,rfl,hgl2,l0,hst⟩:=(SS.o.z BN.o).at hnl;obtain⟨z,I,u,y⟩:=HTZ.o.2.2.2 n hnl;have HF:=cB (Vc u y);have HST:=cB hst;clear hst u y;generalize L[n]=l at *;have hkn:(k:Int)=1/\(n=0\/l.length=0)\/((k:Int)==1)=false:=by
          by_cases h1:(k:Int)=1
          .by_cases h0:n=0
           .exact Ca ⟨h1,Ca h0⟩
           .exact Ca ⟨h1,La (HF.o.1 h1 h0)⟩
          .exact La (by simpa using h1)
         go_upto_region 30 with fail;go_wp2;clear l0 hgl2;go_loopw [118] (λi wz=>∃r:Nat,r<=l.length/\i=.int .i64 r/\bB (Below wy.1.size wy wz)) (λi _=>l.length-(intOf i).toNat)
         case atStart=>exact⟨0,Oa _,rfl,bD⟩
         case round=>as_aux_lemma=>
          rename World=>wz;obtain⟨r,hr,rfl,BR⟩:=hrel;by_cases hrl:r<l.length
          .have hrl':(r:Int)<(l.length:Nat):=by omega
           obtain⟨gk,o3,rfl,hgk,w0⟩:=(HST.o.z BR.o).at hrl;have HP2:=cB (aCw (HF.o.2 r hrl));have TZ:=cB (T10.o.z (vB BN.o BR.o));have PZ:=cB (PS10.o.z (vB BN.o BR.o));have hcn:((k:Int)==1)=true/\((n:Int) != 0)=false\/((k:Int)==1)=false:=by
            obtain⟨h1,h0⟩|h1:=hkn
            .exact Ca ⟨by simp[h1],by simp;omega⟩
            .exact La h1
           clear hkn;generalize l[r]=key at *;go_upto_region 33 with fail;go_cut [127] (λv wx=>v=.bool false/\wx=wz)
           case first=>as_aux_lemma=>
            obtain⟨h1,h0⟩|h1:=hcn
            all_goals(go_wp2;go_meet;exact⟨rfl,rfl⟩)
           obtain⟨rfl,hcut⟩:=hcut;replace hcut:=hcut.symm;subst hcut;clear hcn w0 hgk;have y3:wz.cell? ⟨T,3,none⟩=some (.slice p2 t.Z.length q2):=TZ.o.cell 3;go_upto_region 36 with fail;go_wp2;go_loopw [23,131] (λtt i wu=>∃x:Nat,x<=t.Z.length/\i=.int .i64 x/\tt=.bool (ni t.Z key x)/\bB (Below wz.1.size wz wu)) (λ_ i _=>t.Z.length-(intOf i).toNat)
           case atStart=>exact⟨0,Oa _,rfl,rfl,bD⟩
           case round=>as_aux_lemma=>
            obtain⟨x,hx,rfl,rfl,BU⟩:=hrel;rename World=>wu;by_cases hxl:x<t.Z.length
            .have hxl':(x:Int)<(t.Z.length:Nat):=by omega
             obtain⟨gs,o4,rfl,hgs,s0,s1⟩:=(PZ.o.z BU.o).at hxl;have HK1:=cB (xh (key:=key) hxl);have hsz:=HTZ.o.1;generalize ni t.Z key x=U at *;generalize t.Z[x]=p at *;go_upto_region 39 with fail;refine yH (C:=λW=>Code.wp prog _ _ _ W) ?_;intro wq hbq XB hzq;have y0:wq.cell? ⟨wu.1.size,0,none⟩=some (.string p.s):=XB.cell 0;have BE:=cB (vB BU.o hbq);clear hzq XB hbq s0 s1 hgs;cases U with
             |true=>
              go_wp2;exact⟨⟨x+1,by omega,by go_num,by rw[HK1.o];rfl,BE.o⟩,by simp[intOf];omega⟩
             |false=>
              go_wp2;exact⟨⟨x+1,by omega,by go_num,by rw[HK1.o];rfl,BE.o⟩,by simp[intOf];omega⟩
            .obtain rfl:x=t.Z.length:=by omega
             rw[HP2.o];have BE:=cB (vB BR.o BU.o);go_wp2;exact⟨⟨r+1,by omega,by go_num,BE.o⟩,by simp[intOf];omega⟩
          .obtain rfl:r=l.length:=by omega
           have BE:=cB (vB BN.o BR.o);go_wp2;exact⟨⟨n+1,by omega,by go_num,by rw[z];go_num,BE.o⟩,by simp[intOf];omega⟩
        .obtain rfl:n=L.length:=by omega
         have h4:=HTZ.o.2.2.1;have y3:wy.cell? ⟨T,3,none⟩=some (.slice p2 t.Z.length q2):=(T10.o.z BN.o).cell 3;have BE:=cB (vB B10.o BN.o);rw[h4];go_wp2;exact⟨⟨m+1,by omega,by go_num,BE.o⟩,by simp[intOf];omega⟩
      .obtain rfl:m=J.ts.length:=by omega
       have P2:=cB (P.o.z BX.o);go_wp2;exact⟨⟨k+1,s2,k,by omega,by go_num,by omega,P2.o⟩,by simp[intOf];omega⟩
  .obtain rfl:k=3:=by omega
   go_wp2;go_ret;exact⟨rfl,H.o.B⟩
end
