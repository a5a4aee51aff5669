import Derived.Test.YtcmdjimlmnaojaaGreatDoorJ39
import Derived.Test.YtcmdjimlmnaojaaGreatDoorJ40
import Derived.Test.YtcmdjimlmnaojaaGreatDoorJ41
import Derived.Test.YtcmdjimlmnaojaaGreatDoorJ45
import Derived.Test.YtcmdjimlmnaojaaGreatDoorJ44
set_option maxRecDepth 100000
set_option maxHeartbeats 8000000
set_option linter.defProp false
open Bool renaming true->eA,false->dA
open Option renaming some->cA
open ByteArray renaming empty->lA
open List renaming length->zA
namespace Go.Proofs.YtcmdjimlmnaojaaGreatDoor
open Go renaming World->fA,Value->jA
open Value renaming string->pA,slice->qA
open Go.RowKit Tryz
section
open Go.Maps
attribute [local go_sem] fG dH lK jB.drewI sK.drewI sK.new sK.alloc sK.alloc2
def aKv(c:lC)(a b:nC)(i j:Nat)(N:sC)(s:pB)(w:fA)(h:rQ w a b N)(Z:lG c=eA)(v1:N.up=dA):
 Calls prog 13 #[uE c,.agg (gC a i b j N),pA s] w λe S=>RT N (pA (tB 1 4)) w e S:=by
 have f:=h.bulk;have E:=dB (λW(Y:xB w W)=>vN a b i j N W (h.files.z Y) h.fit.len (h.tens.z Y) (by omega) (dP (by omega)));have D:=dB (λW=>fK c W);have T:=dB (λW a b(d:uB W a N.d.fs)(m:aD W b N.ts)=>(⟨d,h.fit,m,h.bulk,h.rng,h.lsn,h.now⟩:rQ W a b N));rw[Z]at D;have d:=dB v1;clear h f Z v1;unfold uE at *;have h:=cL;have g:=dB (NP.new (w:=w) (c:=c) (cs:=gC a i b j N));have Q:=jF a i b j N 42;have O:=rE a i b j N;go_enter func13,ntmps13;go_upto_region 1 with fail;generalize (((w.alloc (.cells #[aB c.w,aB c.tl,aB c.ml,aB c.sh,aB c.ha,aB c.sg] 24)).alloc (.cells (gC a i b j N) 42)).alloc (.cells (gC none 0 none 0 bL) 42))=h at *;obtain⟨k,l,m,n,o,p,q,r,t,u,v,x,y,z,A⟩:=g.o.cells rfl;go_wp2_with fail;refine(E.o _ g.o.B).mono ?_;rintro e w1 ⟨F,K,G,L,rfl,V,X,f⟩;have P:=dB (g.o.z f);clear k l m n o p q r t u v x y z A;obtain⟨k,l,m,n,o,p,q,r,t,u,v,x,y,z,A⟩:=P.o.cells rfl;clear f g E Q O;go_upto_region 2 with fail;refine kU (C:=λW=>Code.wp prog _ _ _ W) P.o.N ?_;intro w2 U J;have I:=dB (T.o w2 F G (V.files.store P.o.N (rF _ _ _ _ _) J) (X.tens.store P.o.N (rF _ _ _ _ _) J));replace P:=dB (P.o.put U J);clear k l m n o p q r t u v x y z A V X U J T;obtain⟨k,l,m,n,o,p,q,r,t,u,v,x,y,z,A⟩:=P.o.cells rfl;have Q:=jF F K G L N 42;have O:=rE F K G L N;rw[d.o]at Q O;go_wp2_with fail;apply jC (D.o _);intro d f;replace P:=dB (P.o.z f);replace I:=dB (I.o.z f);clear f k l m n o p q r t u v x y z A;obtain⟨k,l,m,n,o,p,q,r,t,u,v,x,y,z,A⟩:=P.o.cells rfl;go_wp2;have M:=dB (P.o.held (gC F K G L N));go_region_held3 (λS=>jB S (w.1.size+1) (gC F K G L N) 42)
  (first|with_reducible exact(M.o _ H).1|with_reducible exact(M.o _ gD.drew).1|exact(M.o _ H).2)
  (first|(go_at_call 45;refine jC (mF _ _ (by omega) (by omega)) ?_;intro h f;have H:xB d h:=(by with_reducible exact aC gD.drew f);have d:=(P.o.z H).R.box rfl))
 go_wp2;exact lM rfl rfl rfl rfl (P.o.z H) (I.o.z H)
def ju(c:lC)(a b:nC)(f g:Nat)(N:sC)(r:eG)(w:fA)(h:rQ w a b N)(i:lG c=eA)(k:iC c N.now N.ts=eA)(j:VR r):
 Calls prog 13 #[uE c,.agg (gC a f b g N),pA (wK r)] w λe l=>RT (tN c N r).1 (pA (tN c N r).2) w e l:=by
 unfold tN;cases hu:N.up with
 |false=>exact aKv c a b f g N _ w h i hu
 |true=>
  rw[Ja (by simp)];have m:=j.ok.1;have d:r.K∈[(1:Int)]\/r.K∈[(2:Int),3,4]\/r.K∈[(5:Int),6]:=by
   simp only[Lb,Ed,Bf];omega
  obtain d|d|d:=d;exact aKs c a b f g N r w h ⟨i,hu,k,j,d⟩;exact aKt c a b f g N r w h ⟨i,hu,k,j,d⟩;exact aKu c a b f g N r w h ⟨i,hu,k,j,d⟩
end
section
open Go.Maps
attribute [local go_sem] fG dH lK jB.drewI sK.drewI sK.new sK.alloc sK.alloc2
structure StV where
 now:Int
 ts:List gB
 b:nC
 cb:Nat
def UT(zs:List StV):List jA:=zs.flatMap λz=>[aB z.now,qA z.b (zA z.ts) z.cb]
def aAq(c:lC)(w:fA)(z:StV):Prop:=aD w z.b z.ts/\iC c z.now z.ts=eA/\kG z.ts<=600000
def gw(v:jA):Prop:=∀s,v≠pA s
def fp(v:jA):Prop:=∃s,v=pA s
def aHz:uk gw:=Ca λs h=>h s rfl
def aLo:uk fp:=La λn h=>by obtain⟨s,e⟩:=h;cases e
def aHf:(prog.info? 40).map (λi=>(i.zero,i.size,i.bytes))=cA (cA (.agg #[aB 0,qA none 0 0]),2,32):=by kernel_rfl
def aHe:(prog.info? 9).map (λi=>(i.zero,i.size,i.bytes))=cA (cA (pA lA),1,16):=by kernel_rfl
def yW{w:fA}{B:Nat}{T m:TypeId}{t:Nat}{v:jA}{n:Nat}{u:List jA}{g:Nat}{d:Array jA}(h:w.ownsRow B T t v n u)(r:jB w g d m)(s:m≠T):v.ownBlock≠cA g:=by
 intro e;obtain⟨f,_⟩|⟨x,q,o,f,_,i,_⟩:=h.2;rw[f]at e;simp[jA.ownBlock]at e;rw[f]at e;simp only[jA.ownBlock,Qa]at e;subst e;have p:=i.symm.trans r;simp only[Qa,Obj.cells.injEq]at p;exact s p.2.1.symm
def td{w:fA}{B r:Nat}{T f:TypeId}{z o:Nat}{v q:jA}{n y:Nat}{A p:List jA}(h:w.ownsRow B T z v n A)(u:w.ownsRow r f o q y p)(x:f≠T):∀g,q.ownBlock=cA g->¬v.ownBlock=cA g:=λg e=>by
 obtain⟨i,_⟩|⟨t,s,d,i,_,m,_⟩:=u.2;rw[i]at e;simp[jA.ownBlock]at e;rw[i]at e;simp only[jA.ownBlock,Qa]at e;subst e;exact yW h (show jB w t d f from m) x
def aCr{c:lC}{W:fA}{N:sC}{a b:nC}{m:Nat}(g:uB W a N.d.fs)(h:aD W b N.ts)(e:lb c m N)(q:m<=600000):rQ W a b N:=by
 obtain⟨p,i,n,_,r⟩:=bG e.st;have d:=e.w;have f:=(QY (lsn:=N.lsn) e.st (by omega) e.lsn.1 e.lsn.2).2.2.2.1;have o:=e.lsn;exact⟨g,e.fit,h,by have:=(iX N.ts).1;omega,f,⟨by omega,by omega⟩,⟨by omega,by omega⟩⟩
structure DQ(c:lC)(w W:World)(Y k j:Nat)(N:sC)(a:nC)(ca:Nat)(b:nC)(cb:Nat)(l l':Value)(zs:List StV)(ss:List Value):Prop where
 C:jB W w.1.size #[aB c.w,aB c.tl,aB c.ml,aB c.sh,aB c.ha,aB c.sg] 24
 D:jB W Y (gC a ca b cb N) 42
 S:GQ gw W w.1.size 40 2 l (k+1) (UT zs)
 R:GQ fp W w.1.size 9 1 l' j ss
 F:uB W a N.d.fs
 T:aD W b N.ts
 G:∀z∈zs,aAq c W z
 L:zA zs=k+1
 B:xB w W
 Y:w.1.size<Y
section
variable {c:lC} {w W W':fA} {Y k j:Nat} {N M:sC} {a b a2 b2:nC} {ca cb ca2 cb2:Nat} {l l' l9:jA} {zs:List StV} {ss s9:List jA}
theorem DQ.z(h:DQ c w W Y k j N a ca b cb l l' zs ss)(d:xB W W'):DQ c w W' Y k j N a ca b cb l l' zs ss:=
 ⟨h.C.z d,h.D.z d,h.S.z d,h.R.z d,h.F.z d,h.T.z d,λz e=>⟨(h.G z e).1.z d,(h.G z e).2⟩,h.L,aC h.B d,h.Y⟩
theorem DQ.put(h:DQ c w W Y k j N a ca b cb l l' zs ss)(o:jB W' Y (gC a2 ca2 b2 cb2 M) 42)(f:fB (·=Y) W W')(p:uB W a2 M.d.fs)(q:aD W b2 M.ts):DQ c w W' Y k j M a2 ca2 b2 cb2 l l' zs ss:=
 have r:=h.Y
 ⟨f.blk h.C (by omega),o,h.S.turn f λg m e=>yW h.S.1 h.D (by decide) (e ▸ m),h.R.turn f λg m e=>yW h.R.1 h.D (by decide) (e ▸ m),p.store h.D (rF _ _ _ _ _) f,q.store h.D (rF _ _ _ _ _) f,
  λz n=>⟨(h.G z n).1.store h.D (rF _ _ _ _ _) f,(h.G z n).2⟩,h.L,h.B.trans (f.below h.B.size λi s e=>by omega),h.Y⟩
theorem DQ.app(h:DQ c w W Y k j N a ca b cb l l' zs ss){z:StV}(g:aAq c W z)(m:GQ gw W' w.1.size 40 2 l9 (k+1+1) (UT zs++[aB z.now,qA z.b (zA z.ts) z.cb]))(d:fB (λi=>l.ownBlock=cA i) W W'):DQ c w W' Y (k+1) j N a ca b cb l9 l' (zs++[z]) ss:=
 ⟨d.blk h.C (yW h.S.1 h.C (by decide)),d.blk h.D (yW h.S.1 h.D (by decide)),by rw[show UT (zs++[z])=UT zs++[aB z.now,qA z.b (zA z.ts) z.cb] by simp[UT]];exact m,h.R.turn d (td h.S.1 h.R.1 (by decide)),h.F.keptP h.S.2.2 d aHz,h.T.keptP h.S.2.2 d aHz,
  λy f=>by
   rcases Ee.1 f with f|f;exact ⟨(h.G y f).1.keptP h.S.2.2 d aHz,(h.G y f).2⟩;rw[Uf.1 f];exact⟨g.1.keptP h.S.2.2 d aHz,g.2⟩,by rw[Kb,h.L];rfl,h.B.trans (d.below h.B.size λi n e=>by have:=(h.S.1.lt i e).1;omega),h.Y⟩
theorem DQ.rep(h:DQ c w W Y k j N a ca b cb l l' zs ss)(g:GQ fp W' w.1.size 9 1 l9 (j+1) s9)(d:fB (λi=>l'.ownBlock=cA i) W W'):DQ c w W' Y k (j+1) N a ca b cb l l9 zs s9:=
 ⟨d.blk h.C (yW h.R.1 h.C (by decide)),d.blk h.D (yW h.R.1 h.D (by decide)),h.S.turn d (td h.R.1 h.S.1 (by decide)),g,h.F.keptP h.R.2.2 d aLo,h.T.keptP h.R.2.2 d aLo,λy f=>⟨(h.G y f).1.keptP h.R.2.2 d aLo,(h.G y f).2⟩,h.L,h.B.trans (d.below h.B.size λi m e=>by have:=(h.R.1.lt i e).1;omega),h.Y⟩
end
def lu{X:Nat}{w W:fA}{cs:Array jA}(h:xB w W)(d:w.1.size<=X):xB w (W.setRow X cs):=h.trans ((uG W X cs).below h.size λi f e=>by omega)
def AG{m u:fA}{X:Nat}{h i:nC}{e f:Nat}{g:sC}{q:pB}(o:jB u X (gC none 0 none 0 bL) 42)(p:m.1.size<=X)(r:xB m u)(s:uB u h g.d.fs)(t:aD u i g.ts):∃n a2 ca2 b2 cb2,jA.pointer (vB X)=.pointer (vB n)/\jA.string q=pA q/\m.1.size<=n/\jB (u.setRow X (gC h e i f g)) n (gC a2 ca2 b2 cb2 g) 42/\uB (u.setRow X (gC h e i f g)) a2 g.d.fs/\aD (u.setRow X (gC h e i f g)) b2 g.ts/\xB m (u.setRow X (gC h e i f g)):=
 ⟨X,h,e,i,f,rfl,rfl,p,o.row,s.store o (rF _ _ _ _ _) (uG _ _ _),t.store o (rF _ _ _ _ _) (uG _ _ _),lu r p⟩
def rq(d:List QV)(k:Nat):eG:=match d[k]? with
 |some q=>q.req
 |none=>⟨0,lA,lA,0,[]⟩
def pw{d:List QV}{k:Nat}(h:k<zA d):rq d k=d[k].req:=by unfold rq;rw[Va h]
def nA(c:lC)(f:Nat->eG):Nat->sC
 |0=>nd1
 |k+1=>(tN c (nA c f k) (f k)).1
def rA(c:lC)(f:Nat->eG)(k:Nat):pB:=(tN c (nA c f k) (f k)).2
def rsA(c:lC)(f:Nat->eG)(n:Nat):List jA:=(List.range n).map λi=>pA (rA c f i)
def aEz(c:lC)(f:Nat->eG)(n:Nat):rsA c f (n+1)=rsA c f n++[pA (rA c f n)]:=by simp[rsA,List.range_succ]
def aAx(c:lC)(f:Nat->eG)(n:Nat)(w:fA)(e:Ending)(i:fA):Prop:=∃(g h m d:Nat)(zs:List StV)(b:nC)(cb:Nat),e=.returned (.tuple #[qA (vB g) (n+1) h,qA (vB m) n d])/\zA zs=n+1/\i.ownsRow w.1.size 40 2 (qA (vB g) (n+1) h) (n+1) (UT zs)/\i.ownsRow w.1.size 9 1 (qA (vB m) n d) n (rsA c f n)/\(∀z∈zs,aAq c i z)/\zs[n]?=cA ⟨(nA c f n).now,(nA c f n).ts,b,cb⟩/\xB w i
def aCp(c:lC)(d:lG c=eA)(a1:nC)(c1:Nat)(n:List QV)(m o:Nat)(w:fA)(h:TH yX w m o a1 n)(m:zA n<=17):
 Calls prog 5 #[uE c,qA a1 (zA n) c1] w λe m=>aAx c (rq n) (zA n) w e m:=by
 have HC:=dB d;have J:=dB (λW=>ZR c W d);have Q:cB (lb c 0 nd1):=dB (sj d);have o:nA c (rq n) 0=nd1:=rfl;rw[<-o]at J Q;generalize hM:nA c (rq n) 0=M at J Q;unfold RT at J;clear o;have HQ:=dB h;clear d h;unfold uE at *;have d:=cL;go_enter func5,ntmps5;go_upto_region 1 with fail;refine zI (C:=λW=>Code.wp prog _ _ _ W) ?_;intro I o D d;clear d;obtain⟨x0,x1,x2,S,T,x5⟩:=D.c6;go_wp2_with fail;refine(J.o _).mono ?_;rintro e w1 ⟨a,ca,b,cb,rfl,d,B,E⟩;have F:=dB (D.z E);have Z:=dB (aC o E);have h:=bB F.o;have G:=dB (Vc d B);clear E o D x0 x1 x2 S T x5 J d B I;go_upto_region 2 with fail;refine GW (C:=λW=>Code.wp prog _ _ _ W) ?_;intro w2 O D;have C2:=dB (F.o.z O);have I:=dB (aC Z.o O);have L:=dB (Vc (G.o.1.z O) (G.o.2.z O));have o:w.1.size<w1.1.size:=h;clear F Z G h O;generalize w1.1.size=Y at *;have n9:yC w2 Y 9 (aB M.now):=D.cell 9;have J:yC w2 Y 10 (qA b (zA M.ts) cb):=D.cell 10;have F:=dB D;clear D;go_upto_region 3 with fail;refine zI (C:=λW=>Code.wp prog _ _ _ W) ?_;intro O y G h;clear h n9 J;have S3:=dB G;have N3:=dB (F.o.z y);have C3:=dB (C2.o.z y);have B3:=dB (aC I.o y);have Z:=dB (Vc (L.o.1.z y) (L.o.2.z y));have D:=I.o.size;clear y G F C2 I L;generalize w2.1.size=G at *;clear w2;go_upto_region 4 with fail;refine zI (C:=λW=>Code.wp prog _ _ _ W) ?_;intro w4 r RB h;clear h;have R4:cB (DQ c w w4 Y 0 0 M a ca b cb (qA (vB G) 1 1) (qA (vB O.1.size) 0 0) [⟨M.now,M.ts,b,cb⟩] []):=by
  have I:=S3.o.z r;refine⟨C3.o.z r,N3.o.z r,⟨⟨rfl,.inr ⟨G,1,_,rfl,D,I,Ia _,by simp[maxLen],rfl,rfl⟩⟩,by simp[jA.ownBlock],λg j u L h=>?_⟩,⟨⟨rfl,.inr ⟨O.1.size,0,_,rfl,B3.o.size,RB,Ia _,by simp[maxLen],rfl,rfl⟩⟩,by simp[jA.ownBlock],λg j u L h=>?_⟩,Z.o.1.z r,Z.o.2.z r,λz F=>?_,rfl,aC B3.o r,o⟩
  .simp only[jA.ownBlock,Qa]at L;subst L;rw[I.cell]at h;match j with
   |0|1=>simp at h;subst h;intro s e;cases e
   |j+2=>simp at h
  .simp only[jA.ownBlock,Qa]at L;subst L;rw[RB.cell]at h;simp at h
  rw[Uf.1 F];exact⟨Z.o.2.z r,Q.o.st,Ua Q.o.w (by omega)⟩
 clear r RB C3 N3 S3 B3 Z D o;generalize O.1.size=h at *;clear O;go_wp2;go_loopw [8,9,11,12,13,26] (λl l' _ _ _ i wr=>∃(k:Nat)(N:sC)(a:nC)(ca:Nat)(b:nC)(cb:Nat)(zs:List StV)(g K g' o:Nat),k<=zA n/\nA c (rq n) k=N/\zs[k]?=cA ⟨N.now,N.ts,b,cb⟩/\i=aB (k:Nat)/\l=qA (vB g) (k+1) K/\l'=qA (vB g') k o/\cB (DQ c w wr Y k k N a ca b cb l l' zs (rsA c (rq n) k))/\cB (lb c (30000*k) N)) (λ_ _ _ _ _ i _=>zA n-(intOf i).toNat)
 case atStart=>exact⟨0,M,a,ca,b,cb,_,G,1,h,0,Oa _,hM,rfl,rfl,rfl,rfl,R4.o,Q.o⟩
 case round=>
  clear R4 Q hM;obtain⟨k,N,a,ca,b,cb,zs,g,K,g',o,h,G,hzk,rfl,rfl,rfl,R,Q⟩:=hrel;by_cases h:k<zA n
  .have hlt':(k:Int)<(zA n:Nat):=by omega
   obtain⟨D,rfl,Z,f,t⟩:=(HQ.o.z R.o.B).at h;have x0:=f 0 (by decide);have x1:=f 1 (by decide);have x2:=f 2 (by decide);have S:=f 3 (by decide);have T:=f 4 (by decide);simp only[yX,Ob,Ga,Bg]at x0 x1 x2 S T;have HP:=dB (QV.said t);obtain⟨hp1,hp2,hp3⟩:=QV.small t;clear f t;have L:nA c (rq n) (k+1)=(tN c N (rq n k)).1:=by rw[<-G];rfl
   have I:rA c (rq n) k=(tN c N (rq n k)).2:=by rw[<-G];rfl
   have D:=aEz c (rq n) k;rw[I]at D;rw[pw h]at L D;clear I;generalize n[k]=q at *;go_upto_region 7 with fail;refine zI (C:=λW=>Code.wp prog _ _ _ W) ?_;intro U O QB h;clear h x0 x1 x2 S T Z;obtain⟨hsm,h,hxs⟩:=HP.o;have hql:zA q.req.P=zA q.ys:=Xa ..;have I:=dB (λW(Z:xB wr W)=>DC q.req q.a q.c W (hsm.z Z) h);rw[hql]at I;have X:=dB (λW(Z:xB wr W)=>ju c a b ca cb N q.req W (aCr (R.o.z Z).F (R.o.z Z).T Q.o (by omega)) HC.o Q.o.st h);have Z:=dB (aHa HC.o Q.o (by omega) (by omega) hp3 hp1 hp2);unfold RT uE at X;generalize tN c N q.req=V at *;obtain⟨A,rp⟩:=V;dsimp only at X Z L D;replace I:cB (∀W,xB wr W->cF 8 #[.agg #[aB q.K,pA q.T,pA q.R,aB q.U,qA q.a (zA q.ys) q.c]] W (pA (wK q.req))):=I;clear hsm h hxs hql HP;generalize wK q.req=tx at *;have R5:=dB (R.o.z O);have H:=dB O;have x:=dB (λm(h:xB U m)=>(show(jB m Y (gC a ca b cb N) 42)/\(yC m w.1.size 0 (aB c.w)/\yC m w.1.size 1 (aB c.tl)/\yC m w.1.size 2 (aB c.ml)/\yC m w.1.size 3 (aB c.sh)/\yC m w.1.size 4 (aB c.ha)/\yC m w.1.size 5 (aB c.sg))/\(yC m wr.1.size 0 (aB q.K)/\yC m wr.1.size 1 (pA q.T)/\yC m wr.1.size 2 (pA q.R)/\yC m wr.1.size 3 (aB q.U)/\yC m wr.1.size 4 (qA q.a (zA q.ys) q.c)) from⟨R5.o.D.z h,(R5.o.C.z h).c6,(QB.z h).c5⟩));obtain⟨k0,⟨x0,x1,x2,S,T,x5⟩,q0,q1,q2,q3,q4⟩:=x.o U gD;have rN:=jF a ca b cb N 42;have fN:=rE a ca b cb N;go_cut [12,13] (λp s h=>∃X5 a' ca' b' cb',p=.pointer (vB X5)/\s=pA rp/\U.1.size<=X5/\jB h X5 (gC a' ca' b' cb' A) 42/\uB h a' A.d.fs/\aD h b' A.ts/\xB U h)
   case first=>as_aux_lemma=>
    go_region_held3 (λm=>(jB m Y (gC a ca b cb N) 42)/\(m.cell? (eB w.1.size 0)=cA (aB c.w)/\m.cell? (eB w.1.size 1)=cA (aB c.tl)/\m.cell? (eB w.1.size 2)=cA (aB c.ml)/\m.cell? (eB w.1.size 3)=cA (aB c.sh)/\m.cell? (eB w.1.size 4)=cA (aB c.ha)/\m.cell? (eB w.1.size 5)=cA (aB c.sg))/\(m.cell? (eB wr.1.size 0)=cA (aB q.K)/\m.cell? (eB wr.1.size 1)=cA (pA q.T)/\m.cell? (eB wr.1.size 2)=cA (pA q.R)/\m.cell? (eB wr.1.size 3)=cA (aB q.U)/\m.cell? (eB wr.1.size 4)=cA (qA q.a (zA q.ys) q.c)))
     (first|with_reducible exact x.o _ gD.drew|with_reducible exact x.o _ (bC.drew)|with_reducible exact x.o _ h|with_reducible exact x.o _ (aC h bC)|with_reducible exact x.o _ P|with_reducible exact x.o _ (aC P bC)|with_reducible exact x.o _ (lu P (Ia _))|with_reducible exact x.o _ (lu P h.size)|with_reducible exact x.o _ (lu (aC P bC) P.size))
     (first
     |(go_at_call 8;refine jC (I.o _ (by first|with_reducible exact aC H.o gD.drew|with_reducible exact aC H.o (bC.drew))) ?_;intro m E;have h:xB U m:=(by first|with_reducible exact aC gD.drew E|with_reducible exact aC (bC.drew) E);have k1:=x.o _ h;(first|(have F:=mL E)|skip))
     |(go_at_call 13;refine(X.o _ (by first|with_reducible exact aC H.o h|with_reducible exact aC H.o (aC h bC))).mono ?_;rintro e u2 ⟨a',ca',b',cb',rfl,d,B,E⟩;have P:xB U u2:=(by first|with_reducible exact aC h E|with_reducible exact aC (aC h bC) E);have k2:=x.o _ P;(first|(have F:=F.z E)|(have F:jB _ m.1.size _ _:=pO E)|skip);(try (have bx:=F.box rfl))))
    all_goals(go_wp2_with fail;go_meet)
    .exact AG (jB.new u2 _ _) P.size (aC P bC) (d.z bC) (B.z bC)
    .exact AG F h.size P d B
    exact AG F (Ia _) P d B
   obtain⟨X5,a2,ca2,b2,cb2,rfl,rfl,h,XB,d,B,h⟩:=hcut;rename fA=>w6;have m:=dB (R5.o.z h);have F:=dB (Vc d B);have bx:=m.o.D.box rfl;have rM:=jF a2 ca2 b2 cb2 A 42;have fM:=rE a2 ca2 b2 cb2 A;have hL:=R.o.L;clear d B h R5 x I X H O QB k0 x0 x1 x2 S T x5 q0 q1 q2 q3 q4 rN fN R;go_upto_region 9 with fail;refine kU (C:=λW=>Code.wp prog _ _ _ W) m.o.D ?_;intro h B I;have d:=dB (m.o.put B I F.o.1 F.o.2);have n9:yC h Y 9 (aB A.now):=B.cell 9;have J:yC h Y 10 (qA b2 (zA A.ts) cb2):=B.cell 10;have h:=d.o.B.size;clear B I m F XB bx rM fM;go_upto_region 10 with(at_builtin;refine ue rfl _ _ rfl underlying29 aHf rfl (by omega) (by omega) (v:=qA (vB g) (k+1) K) rfl d.o.S rfl (by simp) rfl (by simp[jA.oneCell']) (by omega) h (by simp[gw]) (by simp[gw,jA.cells]) ?_;intro O S m m B)
   have F:=dB (d.o.app (z:=⟨A.now,A.ts,b2,cb2⟩) ⟨d.o.T,Z.o.st,Ua Z.o.w (by omega)⟩ m.o B.o);have I:=F.o.B.size;clear m B n9 J h d;go_wp2_with(at_builtin;refine ue rfl _ _ rfl underlying30 aHe rfl (by omega) (by omega) (v:=qA (vB g') k o) rfl F.o.R rfl (by simp) rfl (by simp[jA.oneCell']) (by omega) I (by simp[fp]) (by simp[fp,jA.cells]) ?_;intro d h I m B);exact⟨⟨k+1,A,a2,ca2,b2,cb2,zs++[⟨A.now,A.ts,b2,cb2⟩],O,S,d,h,by omega,L,by rw[Uc (by rw[hL];omega),hL];simp,by go_num,rfl,rfl,by rw[D];exact F.o.rep m.o B.o,Z.o⟩,by simp[intOf];omega⟩
  obtain rfl:k=zA n:=by omega
  go_wp2;refine bodyPost_ret (v:=.tuple #[qA (vB g) (zA n+1) K,qA (vB g') (zA n) o]) (by simp[results,results5,go_sem]) rfl ?_;rw[<-G]at hzk;exact⟨g,K,g',o,zs,b,cb,rfl,R.o.L,R.o.S.1,R.o.R.1,R.o.G,hzk,R.o.B⟩
end
structure Rmk(c:lC)(k:Nat)(N:sC):Prop where
 I:lb c (30000*k) N
 up:N.up=eA
 deg:N.deg=dA
 n:N.lsn≤k
 t:zA N.ts≤5*k
 G:GM N.d (30*k+1) (30000*k)
 L:kz N.d N.l (k+1) (30000*k)
def GM.mono{K:xD}{k m a m':Nat}(h:GM K k m)(b:k<=a)(d:m<=m'):GM K a m':=⟨h.v,h.c,h.cr,h.fl,h.dn,by have:=h.k;omega,Ua h.l b,Ua h.m d⟩
def kz.mono{K:xD}{L:jG}{q m a m':Nat}(h:kz K L q m)(d:q<=a)(e:m<=m'):kz K L a m':=⟨by have:=h.b;omega,by have:=h.z;omega,h.lo,h.hi⟩
def bh(c:lC):Prop:=lG c=eA/\yB c.sg 1 1000000000=eA
def SmR(r:eG):Prop:=(1<=r.K/\r.K<=6)/\zA r.P<=5/\(iE r.P).size<=29415/\r.T.size<=16/\r.R.size<=16
def TI(rs:List nE):Prop:=1<=zA rs/\zA rs<=5/\27*zA rs+eD rs<=29900/\∀r∈rs,r.T.size<=16/\((r.K=1/\r.U=0)\/(r.K=2/\r.T.size=0/\r.X.size=0)\/r.K=3)
section
variable {c:lC} {k:Nat} {N M:sC} {rs:List nE} {r:eG} {A:pB}
theorem Rmk.up1(h:Rmk c k N):Rmk c (k+1) N:=⟨h.I.mono (by omega),h.up,h.deg,by have:=h.n;omega,by have:=h.t;omega,h.G.mono (by omega) (by omega),h.L.mono (by omega) (by omega)⟩
theorem aEu(d:bh c):Rmk c 0 nd1:=
 ⟨sj d.1,rfl,rfl,Xd _,Ia _,⟨by kernel_rfl,rfl,rfl,rfl,rfl,Xd _,Ia _,Ia _⟩,⟨⟨Xd _,Xd _,Xd _⟩,⟨Xd _,Xd _⟩,λi a b=>⟨0,⟨sH 1,⟨#[]⟩,0⟩,Uf.2 rfl,by have a:1<=i:=a;have b:i<=1:=b;rw[show i=1 by omega],rfl⟩,λx ⟨_,f,e,a,_⟩=>La ⟨1,Xd _,Xd _,by rw[Uf.1 e]at a;exact a.symm⟩⟩⟩
theorem aEq{x:nE}:∀{rs:List nE},x∈rs->x.X.size<=eD rs
 |r::rs,h=>by
  rw[eD];rcases Lb.1 h with rfl|h;omega;have:=aEq h;omega
theorem aBf{l:Int}(j:0<=l)(m:l<=100)(h:TI rs):oO (l+1) rs≠lA/\1<=(oO (l+1) rs).size/\(oO (l+1) rs).size<=29910:=by
 obtain⟨f,o,p,g⟩:=h;have b:fY (l+1) rs:=⟨by omega,by omega,f,by omega,λi a=>by
  obtain⟨n,d⟩:=g _ (Gb a);have:=aEq (Gb a);exact⟨by omega,by omega,d⟩⟩
 have e:(oO (l+1) rs).size=10+(12*zA rs+eD rs):=by rw[MD b,Ka,DT,BZ]
 exact⟨λh=>by rw[h]at e;simp at e;omega,by omega,by omega⟩
theorem QE(f:bh c)(h:Rmk c k N)(u:k<17)(a:TI rs):(bF c N.now N.ts rs).2.2=dA/\nF c N rs=(N,62)\/(bF c N.now N.ts rs).2.2=eA/\(nF c N rs).2=0/\(nF c N rs).1.now=(bF c N.now N.ts rs).1/\(nF c N rs).1.ts=(bF c N.now N.ts rs).2.1/\Rmk c (k+1) (nF c N rs).1:=by
 have i:=ML (k:=30000) (rs:=rs) f.1 h.I (by have:=a.2.1;omega) (by have:=a.2.2.1;omega) (by omega);have o:vG c N.now N.ts rs=if (bF c N.now N.ts rs).2.2=eA then bF c N.now N.ts rs else(N.now,N.ts,dA):=by
  unfold vG;rw[Ja (by rw[h.I.st];decide),Ja (by have:=a.2.1;omega)]
 have p:=h.I.lsn;have v:=h.n;have q:bf N=eA:=by unfold bf;rw[h.up,h.deg];rfl
 obtain⟨j,m,s⟩:=aBf p.1 (by omega) a;obtain⟨K,L,e,g,l⟩:=aBc h.G h.L (by omega) (by omega) ⟨m,by omega⟩ (by omega) f.2;have m:yB N.lsn 0 999999999999999=eA:=by simp[yB];omega
 have d:nF c N rs=if (bF c N.now N.ts rs).2.2=eA then(⟨K,L,(bF c N.now N.ts rs).1,(bF c N.now N.ts rs).2.1,N.lsn+1,dA,eA⟩,0) else(N,62):=by
  unfold nF;rw[Ja (by rw[f.1];decide),Ja (by rw[q];decide),o,m,e];split
  .rename_i b;rw[Ja (by simp[b,j])];rfl
  rw[Ma (Ca rfl)]
 cases b:(bF c N.now N.ts rs).2.2 with
 |false=>exact Ca ⟨rfl,by rw[d,b];rfl⟩
 |true=>
  rw[b,Ma rfl]at d;rw[d]at i |-
  have m:=aIq (c:=c) rs (now:=N.now) (ts:=N.ts);have:=h.t;have:=a.2.1;exact La ⟨rfl,rfl,rfl,rfl,i.mono (by omega),rfl,rfl,by dsimp only;omega,by dsimp only;omega,g.mono (by omega) (by omega),l.mono (by omega) (by omega)⟩
structure bg(c:lC)(A:pB)(k:Nat)(N M:sC):Prop where
 P:Rmk c k N
 Q:Rmk c k M
 w:N.now=M.now
 t:rB N.ts A=rB M.ts A
theorem bg.up1(h:bg c A k N M):bg c A (k+1) N M:=⟨h.P.up1,h.Q.up1,h.w,h.t⟩
theorem sf(g:bh c)(h:bg c A k N M)(i:k<17)(j:TI rs)(f:∀r∈rs,r.K≠2/\r.T≠A):bg c A (k+1) (nF c N rs).1 M:=by
 obtain⟨l,m⟩:=aNp rs h.P.I.st f;rcases QE g h.P i j with⟨_,e⟩|⟨_,_,a,b,d⟩;rw[e];exact h.up1;exact ⟨d,h.Q.up1,by rw[a,l,h.w],by rw[b,m,h.t]⟩
theorem QD(o:bh c)(h:bg c A k N M)(p:k<17)(n:TI rs)(B:∀r∈rs,r.K=2\/r.T=A):bg c A (k+1) (nF c N rs).1 (nF c M rs).1/\∀g,aL (nF c N rs).1 (nF c N rs).2 g=aL (nF c M rs).1 (nF c M rs).2 g:=by
 have a:=h.P.t;have b:=h.Q.t;have E:=n.2.1;have s:=h.Q.I.st;rw[<-h.w]at s;obtain⟨C,q,D⟩:=aNo rs h.P.I.st s h.t (by omega) (by omega) B;rcases QE o h.P p n with⟨d,e⟩|⟨d,v,x,y,z⟩<;>rcases QE o h.Q p n with⟨f,u⟩|⟨f,i,j,l,m⟩<;>rw[<-h.w]at *
 .rw[e,u];exact⟨h.up1,λ_=>by simp[aL]⟩
 .rw[<-q,d]at f;cases f
 .rw[<-q,d]at f;cases f
 exact ⟨⟨z,m,by rw[x,j,C],by rw[y,l,D]⟩,λ_=>by rw[v,i];rfl⟩
theorem aKk(d:bh c)(h:bg c A k N M)(p:k<17):bg c A (k+1) (DJ c N).1 M:=by
 have a:=aBo d.1 h.P.I (by omega);have f:=h.P.I.lsn;have b:=h.P.I.w;obtain⟨_,s,m,_⟩:=QY (lsn:=N.lsn) h.P.I.st (by omega) f.1 f.2;have j:bf N=eA:=by unfold bf;rw[h.P.up,h.P.deg];rfl
 obtain⟨K,e,g,l⟩:=aGl (t:=yN N.lsn N.now N.ts) h.P.G h.P.L (by omega) (by omega) (by omega);have o:=h.P.L.b;have i:DJ c N=(⟨K,⟨N.l.last+1,N.l.last+1,0⟩,N.now,N.ts,N.lsn,N.deg,N.up⟩,0):=by
  unfold DJ;rw[Ja (by rw[d.1];decide),Ja (by rw[j];decide),Ja (by rw[h.P.L.ok (by omega) (by omega)];decide),Ja (by omega),Ja (λq=>m (by rw[q];rfl)),e];rfl
 rw[i]at a |-
 have:=h.P.n;have:=h.P.t;exact⟨⟨a.mono (by omega),h.P.up,h.P.deg,by dsimp only;omega,by dsimp only;omega,g.mono (by omega) (by omega),l.mono (by omega) (by omega)⟩,h.Q.up1,h.w,h.t⟩
theorem jm(j:iC c N.now N.ts=eA)(i:SmR r)(b:(yK c N.now r.T N.ts r.P).2.2≠[]):TI (yK c N.now r.T N.ts r.P).2.2/\∀x∈(yK c N.now r.T N.ts r.P).2.2,x.K≠2/\x.T=r.T:=by
 obtain⟨_,g,n,e,_⟩:=i;obtain⟨_,_,_,l,m,d⟩:=qr j r.T r.P (zA r.P) (Ia _);rw[Rb]at l m d;have f:=aOz (c:=c) (now:=N.now) (te:=r.T) r.P (S:=(N.ts,lA,[])) (λ_ h=>by cases h);have:=Hf g e;have:=Tg.2 b;exact⟨⟨by omega,by omega,by omega,λx a=>⟨by rw[f x a];exact e,Ca (d x a)⟩⟩,λx a=>⟨by rw[(d x a).1];decide,f x a⟩⟩
theorem ZD{x:nE}(h:x=⟨2,lA,lA,r.U⟩\/x=⟨3,r.T,r.R,r.U⟩)(b:SmR r):TI [x]:=by
 obtain⟨_,_,_,a,f⟩:=b;have e:ByteArray.empty.size=0:=rfl;refine⟨Ia _,by simp,?_,λy d=>?_⟩
 .rcases h with rfl|rfl<;>(simp only[List.length_singleton,eD];omega)
 rw[Uf.1 d];obtain rfl|rfl:=h;exact ⟨by dsimp only;omega,La (Ca ⟨rfl,rfl,rfl⟩)⟩;exact ⟨a,La (La rfl)⟩
theorem aHb(b:bh c)(h:bg c A k N M)(d:k<17)(f:SmR r)(e:r.K=4\/r.K≠2/\r.T≠A):bg c A (k+1) (tN c N r).1 M:=by
 unfold tN lI;rw[Ja (by rw[h.P.up];decide),Ja (by rw[h.P.deg];simp)];split;exact h.up1;split
 .split
  .exact h.up1
  obtain ⟨i,g⟩:=jm h.P.I.st f ‹_›;exact sf b h d i λx a=>⟨(g x a).1,by rw[(g x a).2];exact(e.resolve_left (by omega)).2⟩
 split;omega;split
 .split
  .exact h.up1
  exact sf b h d (ZD (La rfl) f) λx a=>by rw[Uf.1 a];exact⟨(by decide:(3:Int)≠2),(e.resolve_left (by omega)).2⟩
 split;exact aKk b h d;split
 .split<;>exact h.up1
 exact h.up1
theorem aCq(n:bh c)(h:bg c A k N M)(o:k<17)(l:SmR r)(m:r.K=2\/r.K≠4/\r.T=A):bg c A (k+1) (tN c N r).1 (tN c M r).1/\(tN c N r).2=(tN c M r).2:=by
 have a:=h.P.t;have b:=h.Q.t;have i:=h.P.I.st;have j:=h.Q.I.st;have p:=l.2.1;unfold tN lI;simp only[h.P.up,h.P.deg,h.Q.up,h.Q.deg,Bool.true_eq_false,Bd,false_and,Cf];rw[<-h.w]at *;split;exact ⟨h.up1,rfl⟩;split
 .obtain rfl:=(m.resolve_left (by omega)).2;have e:(yK c N.now r.T M.ts r.P).2=(yK c N.now r.T N.ts r.P).2:=(aOy r.P (S:=(N.ts,lA,[])) (U:=(M.ts,lA,[])) rfl i j h.t (by dsimp only;omega) (by dsimp only;omega)).symm;rw[e];split
  .exact ⟨h.up1,rfl⟩
  obtain ⟨q,s⟩:=jm h.P.I.st l ‹_›;obtain⟨f,g⟩:=QD n h o q λx d=>La (s x d).2;exact⟨f,g _⟩
 split
 .rw[GJ i,GJ j];have e:(xI c.w N.now M.ts r.U).2.2=(xI c.w N.now N.ts r.U).2.2:=by unfold xI;split<;>rfl
  rw[e];split;exact ⟨h.up1,rfl⟩;obtain ⟨f,g⟩:=QD n h o (ZD (Ca rfl) l) λx d=>by rw[Uf.1 d];exact Ca rfl
  exact⟨f,g _⟩
 split
 .obtain rfl:=(m.resolve_left (by omega)).2;rw[MN i,MN j];have e:=(aFg (c:=c) (r:=⟨3,r.T,r.R,r.U⟩) i j h.t (by omega) (by omega) (La rfl)).2.1;simp only[vD,Int.reduceEq,Cf,Td]at e;rw[<-e];dsimp only;split
  .exact ⟨h.up1,rfl⟩
  obtain ⟨f,g⟩:=QD n h o (ZD (La rfl) l) λx d=>by rw[Uf.1 d];exact La rfl
  exact⟨f,g _⟩
 split;omega;obtain rfl:=(m.resolve_left (by omega)).2;split
 .have e:pG c N.now M.ts r.T r.R=pG c N.now N.ts r.T r.R:=by unfold pG;rw[i,j,h.t]
  rw[e];split<;>exact⟨h.up1,rfl⟩
 rw[h.t];exact⟨h.up1,rfl⟩
end
def eT(A:pB)(r:eG):Bool:=decide (r.K=4) ||(decide (r.K≠2) &&!(r.T.toList==A.toList))
def bA(c:lC)(A:pB)(f:Nat->eG):Nat->sC
 |0=>nd1
 |k+1=>if eT A (f k)=eA then bA c A f k else(tN c (bA c A f k) (f k)).1
def aKf{c:lC}{A:pB}{f:Nat->eG}{n:Nat}(d:bh c)(g:∀i,i<n->SmR (f i))(o:n<=17):∀k,k<=n->bg c A k (nA c f k) (bA c A f k)/\(k<n->eT A (f k)=dA->(tN c (bA c A f k) (f k)).2=rA c f k):=by
 have key:∀k,k<n->bg c A k (nA c f k) (bA c A f k)->bg c A (k+1) (nA c f (k+1)) (bA c A f (k+1))/\(eT A (f k)=dA->(tN c (bA c A f k) (f k)).2=rA c f k):=λk a h=>by
  rw[nA,bA,rA];cases hs:eT A (f k) with
  |true=>
   simp only[eT,Fe,Sa,Ab,Bool.not_eq_true']at hs;rw[Ma rfl];exact⟨aHb d h (by omega) (g k a) (hs.imp_right λq=>⟨q.1,λe=>by rw[e]at q;simp at q⟩),λh=>by cases h⟩
  |false=>
   rw[Ja (by simp)];simp only[eT,Bool.or_eq_false_iff,Gg,Xe,Bool.not_eq_false']at hs;obtain⟨l,m⟩:=aCq d h (by omega) (g k a) (hs.2.elim (λq=>Ca (by omega)) λq=>La ⟨hs.1,(gE _ _).1 q⟩);exact⟨l,λ_=>m.symm⟩
 have b:∀k,k<=n->bg c A k (nA c f k) (bA c A f k):=λk=>by
  induction k with
  |zero=>exact λ_=>⟨aEu d,aEu d,rfl,rfl⟩
  |succ k j=>exact λa=>(key k a (j (by omega))).1
 exact λk a=>⟨b k a,λh=>(key k h (b k a)).2⟩
section
attribute [local go_sem] fG dH lK jB.drewI sK.drewI sK.new sK.alloc sK.alloc2
structure ApI(c:lC)(f:Nat→eG)(w W:World)(X lo:Nat)(qs:List QV)(a1:nC)(g2:Nat):Prop where
 C:jB W X #[aB c.w,aB c.tl,aB c.ml,aB c.sh,aB c.ha,aB c.sg] 24
 Q:TH yX W lo X a1 qs
 R:∀i,i<zA qs→W.cell? (eB g2 i)=cA (pA (rA c f i))
 G:g2<W.1.size
 B:xB w W
def ApI.z{c:lC}{f:Nat->eG}{w W b:fA}{X g:Nat}{h:List QV}{d:nC}{e:Nat}(H:ApI c f w W X g h d e)(a:xB W b):ApI c f w b X g h d e:=
 ⟨H.C.z a,H.Q.z a,λi j=>(a.cell H.G).trans (H.R i j),Bb H.G a.size,aC H.B a⟩
def nr(c:lC)(a b:nC)(d f:Nat)(N:sC)(r:eG)(w:fA)(h:rQ w a b N)(i:iC c N.now N.ts=eA)(n:VR r)(g:kH w/\nJ w/\oR w):
 Calls prog 7 #[uE c,.agg (gC a d b f N),pA (wK r)] w λe k=>RT (tN c N r).1 (pA (tN c N r).2) w e k:=by
 refine(ej c a b d f N r w h i n g.1 g.2.1 g.2.2).mono ?_;rintro e k ⟨a,d,b,f,l,j,m⟩;exact⟨a,d,b,f,l,j.files,j.tens,m⟩
def ld:pB:=⟨#[97,99,109,101]⟩
def aMd(r:eG):(r.K==4)=eA/\eT ld r=eA\/(r.K==4)=dA/\((r.K != 2)=dA/\eT ld r=dA\/(r.K != 2)=eA/\((r.T.toList==ld.toList)=eA/\eT ld r=dA\/(r.T.toList==ld.toList)=dA/\eT ld r=eA)):=by
 unfold eT;by_cases b:r.K=4
 .exact Ca ⟨by simp[b],by simp[b]⟩
 refine La ⟨by simp[b],?_⟩;by_cases a:r.K=2
 .exact Ca ⟨by simp[a],by simp[a]⟩
 refine La ⟨by simp[a],?_⟩;cases h:r.T.toList==ld.toList
 .exact La ⟨rfl,by simp[a,b]⟩
 exact Ca ⟨rfl,by simp[a,b]⟩
theorem om(a:Option Addr)(n cn:Nat)(w:World)(hA:uX w w.1.size w.1.size a n)(hn:n<=maxLen)(hU:kH w)(hpw:nJ w)(hS:oR w):
 Calls prog 3 #[.slice a n cn] w λe l=>e=.returned (.bool true)/\Below w.1.size w l:=by
 unfold maxLen at hn;have HA:=dB hA;have HT:=dB (show kH w/\nJ w/\oR w from⟨hU,hpw,hS⟩);clear hA hU hpw hS;by_cases hbn:(1048576:Int)<n
 .go_enter func3,ntmps3;go_wp2;go_ret;exact⟨rfl,gD⟩
 go_enter func3,ntmps3;go_wp2_with fail;refine(XU a n cn w (by omega) HA.o).mono ?_;rintro e w1 ⟨c,m,a1,c1,v2,ks,rfl,hdc,hql,hin,-,-,hb1⟩;have HC:=dB (aCe hdc);have HAP:=dB (λj=>aKf (A:=ld) (f:=rq m) (n:=m.length) ⟨HC.o,by have:=hdc;unfold MW at this;simp[yB];omega⟩ (λi hi=>by
  obtain⟨_,_,_,_,hp⟩:=hin.at hi;obtain⟨p1,p2,p3⟩:=QV.small hp;rw[pw hi];exact⟨(QV.said hp).2.1.ok.1,p3,(QV.said hp).2.2,p1,p2⟩) hql j)
 unfold uE;go_upto_region 4 with fail;refine zI (C:=λW=>Code.wp prog _ _ _ W) ?_;intro w2 hb2 CB hz2;clear hz2;have C2:=dB CB;have Q2:=dB (hin.z hb2);have B2:=dB (aC hb1 hb2);have HHR:=dB (λW h=>aCp c HC.o a1 c1 m w.1.size w1.1.size W h hql);unfold uE aAx at HHR;clear hin hb1 hb2 CB hdc HA hbn hn;generalize w1.1.size=X at *;clear w1;have hX2:=bB C2.o;obtain⟨x0,x1,x2,x3,x4,x5⟩:=C2.o.c6;go_wp2_with fail;refine(HHR.o _ Q2.o).mono ?_;rintro e w3 ⟨g,cap,g2,cap2,zs,b,cb,rfl,hzl,hr1,hr2,hG,hz,T⟩;have P:=dB (show ApI c (rq m) w w3 X w.1.size m a1 g2 from by
  have ha:∀g j,(⟨g,0,none⟩:Addr).add j=⟨g,j,none⟩:=λg j=>by unfold Addr.add;split<;>simp_all
  refine⟨C2.o.z T,Q2.o.z T,λi hi=>?_,(hr2.lt g2 rfl).2,aC B2.o T⟩;have:=hr2.cells rfl i _ (show(rsA c (rq m) m.length)[i]?=some (.string (rA c (rq m) i)) by simp[rsA,hi]);rwa [ha]at this)
 clear hr1 hr2 hG hz T HHR C2 Q2 B2 x0 x1 x2 x3 x4 x5 hzl;have hX3:=bB P.o.C;have HNO:=dB (YH c w3 HC.o (HT.o.1.z P.o.B) (HT.o.2.1.z P.o.B));unfold RT uE at HNO;obtain⟨x0,x1,x2,x3,x4,x5⟩:=P.o.C.c6;have fz:=cL;go_wp2_with fail;refine HNO.o.mono ?_;rintro e w4 ⟨a4,ca4,b4,cb4,rfl,O,S,G⟩;replace P:=dB (P.o.z G);have M:=dB (Vc O S);clear G O S HNO x0 x1 x2 x3 x4 x5;go_upto_region 6 with fail;refine GW (C:=λW=>Code.wp prog _ _ _ W) ?_;intro w5 U NB;have D5:=dB NB;have F5:=dB (Vc (M.o.1.z U) (M.o.2.z U));have B5:cB (Below w4.1.size w4 w5):=U;obtain⟨Y,hY⟩:∃Y,Y=w4.1.size:=⟨_,rfl⟩
 rw[<-hY]at D5 B5 |-
 have HP:cB (∀W,Below Y w4 W->ApI c (rq m) w W X w.1.size m a1 g2):=dB (by rw[hY];exact λW F=>P.o.z F);have hYX:X<Y:=by have:=bB P.o.C;omega
 have hYs:Y<=w4.1.size:=Nat.le_of_eq hY;clear hY U NB M P;go_wp2;go_loopw [10,11,12,13,39] (λ_ _ _ _ i wr=>∃(j:Nat)(t:sC)(a:Option Addr)(ca:Nat)(b:Option Addr)(cb:Nat),j<=m.length/\i=.int .i64 j/\bA c ld (rq m) j=t/\cB (jB wr Y (gC a ca b cb t) 42)/\cB (uB wr a t.d.fs/\aD wr b t.ts)/\cB (Below Y w4 wr)) (λ_ _ _ _ i _=>m.length-(intOf i).toNat)
 case atStart=>exact⟨0,nd1,a4,ca4,b4,cb4,Oa _,rfl,rfl,D5.o,F5.o,B5.o⟩
 case round=>
  clear D5 F5 B5;obtain⟨j,t,K,o,L,r,hj,rfl,a0,DB,M,WB⟩:=hrel;by_cases Z:j<m.length
  .have hjl':(j:Int)<(m.length:Nat):=by omega
   obtain⟨g1,rfl,hg1,k,H⟩:=(HP.o _ WB.o).Q.at Z;have x0:=k 0 (by decide);have x1:=k 1 (by decide);have x2:=k 2 (by decide);have x3:=k 3 (by decide);have x4:=k 4 (by decide);simp only[yX,Ob,Ga,Bg]at x0 x1 x2 x3 x4;have HPA:=dB (QV.said H);obtain⟨hap,hrp⟩:=HAP.o j hj;have HI:=dB hap.Q.I;rw[a0]at HI;have u:=aMd (rq m j);have HS1:=dB (show eT ld (rq m j)=true->bA c ld (rq m) (j+1)=t from λh=>by rw[bA,Ma h,a0]);have HS2:=dB (show eT ld (rq m j)=false->bA c ld (rq m) (j+1)=(tN c t (rq m j)).1/\∀W,Below Y w4 W->W.cell? ⟨g2,j,none⟩=some (.string (tN c t (rq m j)).2) from λh=>⟨by rw[bA,h,<-a0];rfl,λW F=>by rw[<-a0,hrp Z h];exact(HP.o W F).R j Z⟩);rw[pw Z]at u HS1 HS2;clear k H hap hrp;generalize m[j]=q at *;go_upto_region 11 with fail;refine zI (C:=λW=>Code.wp prog _ _ _ W) ?_;intro z y QB hz6;clear hz6 x0 x1 x2 x3 x4 hg1;have hQ:=bB QB;have q0:z.cell? ⟨wr.1.size,0,none⟩=some (.int .i64 q.K):=QB.cell 0;have q1:z.cell? ⟨wr.1.size,1,none⟩=some (.string q.T):=QB.cell 1;go_cut [56] (λv wx=>v=.bool (eT ld q.req)/\wx=z)
   case first=>as_aux_lemma=>
    obtain⟨h1,h2⟩|⟨h1,⟨h2,h3⟩|⟨h2,⟨h3,h4⟩|⟨h3,h4⟩⟩⟩:=u
    all_goals(unfold QV.req ld at *;dsimp only at *;go_wp2;go_meet;simp_all)
   obtain⟨rfl,hcut⟩:=hcut;replace hcut:=hcut.symm;subst hcut;clear u q0 q1;have HBW:=dB (λW(F:Below wr.1.size wr W)=>WB.o.trans (F.mono (Vg (bB DB.o))));have N:=dB (λW(F:Below wr.1.size wr W)=>nr c K L o r t q.req W (aCr (M.o.1.z F) (M.o.2.z F) HI.o (by omega)) HI.o.st HPA.o.2.1 (let B:=(HP.o _ (HBW.o W F)).B;⟨HT.o.1.z B,HT.o.2.1.z B,HT.o.2.2.z B⟩));have D6:=dB (DB.o.z y);have F6:=dB (Vc (M.o.1.z y) (M.o.2.z y));have W6:=dB (HBW.o _ y);cases u:eT ld q.req with
   |true=>
    go_wp2;exact⟨⟨j+1,t,K,o,L,r,by omega,by go_num,HS1.o u,D6.o,F6.o,W6.o⟩,by simp[intOf];omega⟩
   |false=>
    obtain⟨hn1,HR⟩:=HS2.o u;replace HR:=dB HR;have P6:=dB (HP.o _ W6.o);obtain⟨hsm,hvr,hxs⟩:=HPA.o;have hqy:q.req.P.length=q.ys.length:=Xa ..;have E:=dB (λW(F:Below wr.1.size wr W)=>DC q.req q.a q.c W (hsm.z F) hvr);rw[hqy]at E;unfold RT uE at N;clear HS1 HS2 u;generalize tN c t q.req=V at *;obtain⟨M2,rp⟩:=V;dsimp only at N hn1 HR;replace E:cB (∀W,Below wr.1.size wr W->Calls prog 8 #[.agg #[.int .i64 q.K,.string q.T,.string q.R,.int .i64 q.U,.slice q.a q.ys.length q.c]] W λe l=>e=.returned (.string (wK q.req))/\Below W.1.size W l):=E;clear hsm hvr hxs hqy HPA HI;generalize wK q.req=tx at *;have hCl:=bB P6.o.C;have hNl:=bB D6.o;have D:=dB y;have x:=dB (λl(h:Below z.1.size z l)=>(show(jB l Y (gC K o L r t) 42)/\(l.cell? ⟨X,0,none⟩=some (.int .i64 c.w)/\l.cell? ⟨X,1,none⟩=some (.int .i64 c.tl)/\l.cell? ⟨X,2,none⟩=some (.int .i64 c.ml)/\l.cell? ⟨X,3,none⟩=some (.int .i64 c.sh)/\l.cell? ⟨X,4,none⟩=some (.int .i64 c.ha)/\l.cell? ⟨X,5,none⟩=some (.int .i64 c.sg))/\(l.cell? ⟨wr.1.size,0,none⟩=some (.int .i64 q.K)/\l.cell? ⟨wr.1.size,1,none⟩=some (.string q.T)/\l.cell? ⟨wr.1.size,2,none⟩=some (.string q.R)/\l.cell? ⟨wr.1.size,3,none⟩=some (.int .i64 q.U)/\l.cell? ⟨wr.1.size,4,none⟩=some (.slice q.a q.ys.length q.c)) from⟨D6.o.z h,(P6.o.C.z h).c6,(QB.z h).c5⟩));obtain⟨k0,⟨x0,x1,x2,x3,x4,x5⟩,q0,q1,q2,q3,q4⟩:=x.o z gD;have rN:=jF K o L r t 42;have fN:=rE K o L r t;go_upto_region 12 with fail;go_cut [12,13] (λp s wx=>∃X5 K o L r,p=.pointer (some ⟨X5,0,none⟩)/\s=.string rp/\z.1.size<=X5/\jB wx X5 (gC K o L r M2) 42/\uB wx K M2.d.fs/\aD wx L M2.ts/\Below z.1.size z wx)
    case first=>as_aux_lemma=>
     go_region_held3 (λl=>(jB l Y (gC K o L r t) 42)/\(l.cell? ⟨X,0,none⟩=some (.int .i64 c.w)/\l.cell? ⟨X,1,none⟩=some (.int .i64 c.tl)/\l.cell? ⟨X,2,none⟩=some (.int .i64 c.ml)/\l.cell? ⟨X,3,none⟩=some (.int .i64 c.sh)/\l.cell? ⟨X,4,none⟩=some (.int .i64 c.ha)/\l.cell? ⟨X,5,none⟩=some (.int .i64 c.sg))/\(l.cell? ⟨wr.1.size,0,none⟩=some (.int .i64 q.K)/\l.cell? ⟨wr.1.size,1,none⟩=some (.string q.T)/\l.cell? ⟨wr.1.size,2,none⟩=some (.string q.R)/\l.cell? ⟨wr.1.size,3,none⟩=some (.int .i64 q.U)/\l.cell? ⟨wr.1.size,4,none⟩=some (.slice q.a q.ys.length q.c)))
      (first|with_reducible exact x.o _ gD.drew|with_reducible exact x.o _ (bC.drew)|with_reducible exact x.o _ r1|with_reducible exact x.o _ (aC r1 bC)|with_reducible exact x.o _ J|with_reducible exact x.o _ (aC J bC)|with_reducible exact x.o _ (lu J (Ia _))|with_reducible exact x.o _ (lu J r1.size)|with_reducible exact x.o _ (lu (aC J bC) J.size))
      (first
      |(go_at_call 8;refine(E.o _ (by first|with_reducible exact aC D.o gD.drew|with_reducible exact aC D.o (bC.drew))).mono ?_;rintro e u1 ⟨rfl,G⟩;have r1:Below z.1.size z u1:=(by first|with_reducible exact aC gD.drew G|with_reducible exact aC (bC.drew) G);have k1:=x.o _ r1;(first|(have hz:=mL G)|skip))
      |(go_at_call 7;refine(N.o _ (by first|with_reducible exact aC D.o r1|with_reducible exact aC D.o (aC r1 bC))).mono ?_;rintro e u2 ⟨K,o,L,r,rfl,O,S,G⟩;have J:Below z.1.size z u2:=(by first|with_reducible exact aC r1 G|with_reducible exact aC (aC r1 bC) G);have k2:=x.o _ J;(first|(have hz:=hz.z G)|(have hz:jB _ u1.1.size _ _:=pO G)|skip);(try (have bx:=hz.box rfl))))
     all_goals(go_wp2_with fail;go_meet)
     .exact AG (jB.new u2 _ _) J.size (aC J bC) (O.z bC) (S.z bC)
     .exact AG hz r1.size J O S
     .exact AG hz (Ia _) J O S
    obtain⟨X5,a2,ca2,b2,cb2,rfl,rfl,hX5,XB,O,S,hb7⟩:=hcut;rename World=>w7;have D7:=dB (D6.o.z hb7);have F7:=dB (Vc O S);have W7:=dB (W6.o.trans (hb7.mono (Vg (bB D6.o))));have bx:=D7.o.box rfl;have rM:=jF a2 ca2 b2 cb2 M2 42;have fM:=rE a2 ca2 b2 cb2 M2;clear O S y hb7 P6 D6 x E N D QB k0 x0 x1 x2 x3 x4 x5 q0 q1 q2 q3 q4 rN fN DB M WB hQ hCl hNl F6 W6 HBW;go_upto_region 14 with fail;refine kU (C:=λW=>Code.wp prog _ _ _ W) D7.o ?_;intro w8 D8 T8;have W8:=dB (W7.o.trans (T8.below (Ua hYs W7.o.size) λi hi e=>by omega));have F8:=dB (Vc (F7.o.1.store D7.o (rF _ _ _ _ _) T8) (F7.o.2.store D7.o (rF _ _ _ _ _) T8));have hcl:=HR.o _ W8.o;clear D7 F7 W7 T8 bx rM fM XB;go_wp2;exact⟨⟨j+1,M2,a2,ca2,b2,cb2,by omega,by go_num,hn1,D8,F8.o,W8.o⟩,by simp[intOf];omega⟩
  .obtain rfl:j=m.length:=by omega
   have P:=dB (HP.o _ WB.o);go_wp2;refine bodyPost_ret (v:=.bool true) (by simp[results,results3,go_sem]) rfl ⟨rfl,P.o.B⟩
end
