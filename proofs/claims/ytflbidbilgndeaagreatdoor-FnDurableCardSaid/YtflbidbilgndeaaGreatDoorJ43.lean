import Derived.Test.YtflbidbilgndeaaGreatDoorJ42
set_option maxRecDepth 100000
set_option maxHeartbeats 8000000
set_option linter.defProp false
namespace Go.Proofs.YtflbidbilgndeaaGreatDoor
open Go.RowKit Tryz
def FM.mono{K:yD}{k m a m':Nat}(h:FM K k m)(b:k<=a)(d:m<=m'):FM K a m':=⟨h.v,h.c,h.cr,h.fl,h.dn,by have:=h.k;omega,Ua h.l b,Ua h.m d⟩
def eo.mono{K:yD}{L:iH}{q m a m':Nat}(h:eo K L q m)(d:q<=a)(e:m<=m'):eo K L a m':=⟨by have:=h.b;omega,by have:=h.z;omega,h.lo,h.hi⟩
def en(c:iC):Prop:=lH c=true/\bC c.sg 1 1000000000=true
def SmR(r:gG):Prop:=(1<=r.K/\r.K<=6)/\r.P.length<=5/\(iE r.P).size<=27755/\r.T.size<=16/\r.R.size<=16/\r.U<=100/\-100<=r.U
def FP(rs:List xD):Prop:=1<=rs.length/\rs.length<=5/\27*rs.length+gD rs<=28400/\∀r∈rs,r.T.size<=16/\((r.K=1/\r.U=0)\/(r.K=2/\r.T.size=0/\r.X.size=0/\r.U<=100)\/r.K=3)/\-100<=r.U/\r.U<=100
def gU:Int->List (List xD)->List jB
 |_,[]=>[]
 |l,rs::r=>lJ (l+1) rs::gU (l+1) r
def stS(c:iC)(s:Int×Int×List fB)(rs:List xD):Int×Int×List fB:=(s.1+1,(nF c s.2.1 s.2.2 rs).1,(nF c s.2.1 s.2.2 rs).2.1)
def MV(c:iC)(b:Int×Int×List fB)(a:List (List xD)):Int×Int×List fB:=a.foldl (stS c) b
def Gst(c:iC)(s:Int×Int×List fB):Prop:=nC c s.2.1 s.2.2=true/\dG s.2.2<=600000/\(0<=s.1/\s.1<=100)/\s.2.1<=10000
def XU(rs:List xD):∀(a:List (List xD))(l:Int),gU l (a++[rs])=gU l a++[lJ (l+a.length+1) rs]
 |[],l=>by simp[gU]
 |r::a,l=>by simp only[Sd,gU,XU rs a,Zb];congr 4;omega
def cd:∀(a:List (List xD))(l:Int),(gU l a).length=a.length/\∀j(h:j<a.length)(b:j<(gU l a).length),(gU l a)[j]=lJ (l+j+1) a[j]
 |[],l=>⟨rfl,λj h=>by cases h⟩
 |r::a,l=>by
  obtain⟨d,e⟩:=cd a (l+1);refine⟨by simp[gU,d],λj h b=>?_⟩;cases j with
  |zero=>simp[gU]
  |succ j=>
   simp only[gU,Ec];rw[e j (by simpa using h)];congr 1;omega
def mz(c:iC)(b:Int×Int×List fB)(a:List (List xD))(rs:List xD):MV c b (a++[rs])=stS c (MV c b a) rs:=by simp[MV]
def OG(c:iC)(a:List (List xD)):∀b,(MV c b a).1=b.1+a.length:=by
 induction a with
 |nil=>intro b;simp[MV]
 |cons r a d=>intro b;rw[MV,Og,<-MV,d,stS];simp;omega
structure Dur(c:iC)(N:wC)(ck:Option jB)(b:Int×Int×List fB)(rss:List (List xD))(gs:List (List jB))(g:List jB):Prop where
 s:oa N.d N.l gs g ck
 x:gs.flatten++g=gU b.1 rss
 e:MV c b rss=(N.lsn,N.now,N.ts)
 r:∀j(h:j<rss.length),FP rss[j]∧(nF c (MV c b (rss.take j)).2.1 (MV c b (rss.take j)).2.2 rss[j]).2.2=true
 q:∀j,j≤rss.length→Gst c (MV c b (rss.take j))
 k:ck=none∧b=(0,0,[])∨ck=some (rI b.1 b.2.1 b.2.2)
def Dur.snoc{c:iC}{N f:wC}{n:Option jB}{b:Int×Int×List fB}{a:List (List xD)}{t i:List (List jB)}{g o:List jB}{rs:List xD}(h:Dur c N n b a t g)(z:oa f.d f.l i o n)(A:i.flatten++o=t.flatten++g++[lJ (N.lsn+1) rs])(u:(f.lsn,f.now,f.ts)=stS c (N.lsn,N.now,N.ts) rs)(y:FP rs)(w:(nF c N.now N.ts rs).2.2=true)(v:Gst c (f.lsn,f.now,f.ts)):Dur c f n b (a++[rs]) i o:=by
 have s:=OG c a b;have m:MV c b (a++[rs])=(f.lsn,f.now,f.ts):=by rw[mz,h.e,u]
 rw[h.e]at s;dsimp only at s;refine⟨z,by rw[A,h.x,XU,s],m,λj p=>?_,λj p=>?_,h.k⟩
 .simp only[Kb,List.length_singleton]at p;rw[List.take_append_of_le_length (by omega)];by_cases e:j<a.length
  .rw[Ve e];exact h.r j e
  obtain rfl:j=a.length:=by omega
  rw[Re (Ia _),Rb,h.e];simpa using ⟨y,w⟩
 simp only[Kb,List.length_singleton]at p;by_cases e:j<=a.length
 .rw[List.take_append_of_le_length e];exact h.q j e
 obtain rfl:j=(a++[rs]).length:=by simp;omega
 rw[Rb,m];exact v
structure ob(c:iC)(k:Nat)(N:wC):Prop where
 I:NdI c (28500*k) N
 up:N.up=true
 deg:N.deg=false
 n:N.lsn≤k
 w:N.now≤500*k
 G:FM N.d (30*k+1) (28500*k)
 L:eo N.d N.l (k+1) (28500*k)
 D:∃ck b rss gs g,Dur c N ck b rss gs g
def aQz{c:iC}{now:Int}{te:jB}(b:List sF):∀{S:List fB×jB×List xD},(∀r∈S.2.2,r.T=te)->∀r∈(b.foldl (wrS c now te) S).2.2,r.T=te:=by
 induction b with
 |nil=>intro _ h;exact h
 |cons x b d=>
  intro S h;rw[Og];refine d λr a=>?_;rcases Ee.1 a with a|a
  .exact h r a
  unfold nsn at a;split at a
  .cases a
  rw[Uf.1 a]
def aKv{c:iC}(rs:List xD):∀{now:Int}{ts:List fB},(∀r∈rs,r.K=2->r.U<=100)->(nF c now ts rs).1<=now+100*rs.length:=by
 induction rs with
 |nil=>intro now _ _;simp[nF]
 |cons r rs b=>
  intro now ts h;have d:(pE c now ts r).1<=now+100:=by
   have:=h r (Kc ..);unfold pE jK;repeat' split
   all_goals(dsimp only;omega)
  have e:=@b (pE c now ts r).1 (pE c now ts r).2.1 λx a=>h x (Sb _ a);rw[nF,Zb];split<;>(try dsimp only)<;>omega
section
variable {c:iC} {k:Nat} {N:wC} {rs:List xD} {r:gG}
theorem ob.up1(h:ob c k N):ob c (k+1) N:=⟨h.I.mono (by omega),h.up,h.deg,by have:=h.n;omega,by have:=h.w;omega,h.G.mono (by omega) (by omega),h.L.mono (by omega) (by omega),h.D⟩
theorem ob.b(h:ob c k N):ee N=true:=by simp[ee,h.up,h.deg]
theorem aNw(e:en c):ob c 0 nd1:=
 ⟨bm e.1,rfl,rfl,Xd _,Xd _,⟨by kernel_rfl,rfl,rfl,rfl,rfl,Xd _,Ia _,Ia _⟩,⟨⟨Xd _,Xd _,Xd _⟩,⟨Xd _,Xd _⟩,λi a d=>⟨(⟨#[]⟩,0),⟨zE 1,⟨#[]⟩,0⟩,Uf.2 rfl,by have a:1<=i:=a;have d:i<=1:=d;rw[show i=1 by omega],rfl⟩,λx ⟨_,f,b,a,_⟩=>La ⟨1,Xd _,Xd _,by rw[Uf.1 b]at a;exact a.symm⟩⟩,none,(0,0,[]),[],[],[],⟨by simp[nd1],rfl,λi h=>(by cases h),⟨⟨zE 1,⟨#[]⟩,0⟩,Uf.2 rfl,rfl,rfl⟩,λj=>⟨fun⟨f,b,a,_⟩=>by rw[Uf.1 b]at a;exact absurd a (gO 1).1,fun⟨t,h,_⟩=>by cases h⟩⟩,rfl,rfl,λj h=>(by cases h),λj _=>by rw[List.take_nil];exact⟨(bm e.1).st,Oa _,⟨Xd 0,show(0:Int)<=100 by decide⟩,show(0:Int)<=10000 by decide⟩,Ca ⟨rfl,rfl⟩⟩
theorem sf{x:xD}:∀{rs:List xD},x∈rs->x.X.size<=gD rs
 |r::rs,h=>by
  rw[gD];rcases Lb.1 h with rfl|h;omega;have:=sf h;omega
theorem aDo{l:Int}(f:0<=l)(g:l<=100)(h:FP rs):dW (l+1) rs/\JK rs:=by
 obtain⟨e,n,o,d⟩:=h;exact⟨⟨by omega,by omega,e,by omega,λi a=>by
  obtain⟨j,b,_⟩:=d _ (Gb a);have:=sf (Gb a);exact⟨by omega,by omega,b.imp_right (Or.imp_left λq=>⟨q.1,q.2.1,q.2.2.1⟩)⟩⟩,λi a=>by
  obtain⟨_,b,m⟩:=d _ (Gb a);exact⟨by unfold wU;omega,by unfold wU;omega⟩⟩
theorem OT{l:Int}(a:0<=l)(b:l<=100)(h:FP rs):lJ (l+1) rs≠ByteArray.empty/\1<=(lJ (l+1) rs).size/\(lJ (l+1) rs).size<=28410:=by
 have e:(lJ (l+1) rs).size=10+(12*rs.length+gD rs):=by rw[FW (aDo a b h).1,Ka,FX,DZ]
 obtain⟨d,f,g,i⟩:=h;exact⟨λh=>by rw[h]at e;simp at e;omega,by omega,by omega⟩
theorem RY(m:en c)(h:ob c k N)(M:k<20)(a:FP rs):uj c N rs/\ob c (k+1) (eG c N rs).1:=by
 have i:=aJz (k:=28500) (rs:=rs) m.1 h.I (by have:=a.2.1;omega) (by have:=a.2.2.1;omega) (by omega);have v:vF c N.now N.ts rs=if (nF c N.now N.ts rs).2.2=true then nF c N.now N.ts rs else(N.now,N.ts,false):=by
  unfold vF;rw[Ja (by rw[h.I.st];decide),Ja (by have:=a.2.1;omega)]
 have C:=h.I.lsn;have P:=h.n;obtain⟨y,z,E⟩:=OT C.1 (by omega) a;obtain⟨A,b,t,H,F,u⟩:=h.D;obtain⟨K,L,j,B,e,g,l,o,p⟩:=aIe h.G h.L u.s (by omega) (by omega) ⟨z,by omega⟩ (by omega) m.2;have n:bC N.lsn 0 999999999999999=true:=by simp[bC];omega
 have O:=aKv (c:=c) rs (now:=N.now) (ts:=N.ts) λx p J=>(a.2.2.2 x p).2.2.2;have f:eG c N rs=if (nF c N.now N.ts rs).2.2=true then(⟨K,L,(nF c N.now N.ts rs).1,(nF c N.now N.ts rs).2.1,N.lsn+1,false,true⟩,0) else(N,62):=by
  unfold eG;rw[Ja (by rw[m.1];decide),Ja (by rw[h.b];decide),v,n,e];split
  .rename_i d;rw[Ja (by simp[d,y])];rfl
  rw[Ma (Ca rfl)]
 unfold uj;rw[v];cases d:(nF c N.now N.ts rs).2.2 with
 |false=>
  rw[d]at f;exact⟨λq=>(by cases q),by rw[f];exact h.up1⟩
 |true=>
  rw[d,Ma rfl]at f;rw[f]at i |-
  have:=a.2.1;have:=h.w;exact⟨λ_=>rfl,i.mono (by omega),rfl,rfl,by dsimp only;omega,by dsimp only;omega,g.mono (by omega) (by omega),l.mono (by omega) (by omega),A,b,t++[rs],j,B,u.snoc o p rfl a d ⟨i.st,Ua i.w (by omega),⟨by dsimp only;omega,by dsimp only;omega⟩,by dsimp only;omega⟩⟩
theorem aPh(u:en c)(h:ob c k N)(z:k<18):∃K,NA c N=(⟨K,⟨N.l.last+1,N.l.last+1,0⟩,N.now,N.ts,N.lsn,N.deg,N.up⟩,0)/\K.fs=[⟨FI,rI N.lsn N.now N.ts,((rI N.lsn N.now N.ts).size:Int)⟩,⟨zE (N.l.last+1),ByteArray.empty,0⟩]/\ob c (k+1) (NA c N).1:=by
 have s:=aMo u.1 h.I (by omega);have p:=h.I.lsn;have b:=h.I.w;obtain⟨_,A,x,_⟩:=IY (lsn:=N.lsn) h.I.st (by omega) p.1 p.2;obtain⟨K,e,g,l,d⟩:=aIp (t:=rI N.lsn N.now N.ts) h.G h.L (by omega) (by omega) (by omega);have y:=h.L.b;have v:NA c N=(⟨K,⟨N.l.last+1,N.l.last+1,0⟩,N.now,N.ts,N.lsn,N.deg,N.up⟩,0):=by
  unfold NA;rw[Ja (by rw[u.1];decide),Ja (by rw[h.b];decide),Ja (by rw[h.L.ok (by omega) (by omega)];decide),Ja (by omega),Ja (λq=>x (by rw[q];rfl)),e];rfl
 rw[v]at s |-
 have:=h.n;have:=h.w;refine⟨K,rfl,d,s.mono (by omega),h.up,h.deg,by dsimp only;omega,by dsimp only;omega,g.mono (by omega) (by omega),l.mono (by omega) (by omega),some (rI N.lsn N.now N.ts),(N.lsn,N.now,N.ts),[],[],[],⟨by simp,rfl,λi h=>(by cases h),⟨_,by rw[d];exact Sb _ (Uf.2 rfl),rfl,rfl⟩,λj=>⟨fun⟨f,m,a,o⟩=>?_,fun⟨t,a,o⟩=>⟨_,by rw[d];exact Kc ..,rfl,by cases a;exact o.symm⟩⟩⟩,rfl,rfl,λj h=>(by cases h),λj _=>by rw[List.take_nil];exact⟨h.I.st,Ua h.I.w (by omega),⟨p.1,show N.lsn<=100 by omega⟩,show N.now<=10000 by omega⟩,La rfl⟩;rw[d]at m;rcases Lb.1 m with rfl|m;exact ⟨_,rfl,o.symm⟩;rw[Uf.1 m]at a;exact absurd a (gO _).1
theorem aHg(i:nC c N.now N.ts=true)(g:SmR r)(d:(jL c N.now r.T N.ts r.P).2.2≠[]):FP (jL c N.now r.T N.ts r.P).2.2:=by
 obtain⟨_,f,n,e,_⟩:=g;obtain⟨_,_,_,l,m,b⟩:=aHr i r.T r.P r.P.length (Ia _);rw[Rb]at l m b;have j:=aQz (c:=c) (now:=N.now) (te:=r.T) r.P (S:=(N.ts,ByteArray.empty,[])) (λ_ h=>by cases h);have:=Hf f e;have:=Tg.2 d;exact⟨by omega,by omega,by omega,λx a=>⟨by rw[j x a];exact e,Ca (b x a),by have:=(b x a).2;omega,by have:=(b x a).2;omega⟩⟩
theorem vu{x:xD}(h:x=⟨2,ByteArray.empty,ByteArray.empty,r.U⟩\/x=⟨3,r.T,r.R,r.U⟩)(e:SmR r):FP [x]:=by
 obtain⟨_,_,_,d,i,a,b⟩:=e;have g:ByteArray.empty.size=0:=rfl;refine⟨Ia _,by simp,?_,λy f=>?_⟩
 .rcases h with rfl|rfl<;>(simp only[List.length_singleton,gD];omega)
 rw[Uf.1 f];obtain rfl|rfl:=h;exact ⟨by dsimp only;omega,La (Ca ⟨rfl,rfl,rfl,a⟩),b,a⟩;exact ⟨d,La (La rfl),b,a⟩
theorem cj(a:en c)(h:ob c k N)(j:k<17)(b:SmR r):GdH c N r/\ob c (k+1) (aZ c N r).1:=by
 have f:=RY a h (by omega) (vu (Ca rfl) b);have g:=RY a h (by omega) (vu (La rfl) b);have d:=λq=>RY a h (by omega) (aHg h.I.st b q);obtain⟨K,e,_,i⟩:=aPh a h (by omega);refine⟨⟨a.1,h.up,h.deg,by rw[e],f.1,g.1,λq=>(d q).1⟩,?_⟩;unfold aZ xP;rw[Ja (by rw[h.up];decide),Ja (by rw[h.deg];simp)];repeat' split
 all_goals first|exact h.up1|exact(d ‹_›).2|exact f.2|exact g.2|exact i
end
def rq(a:List QV)(k:Nat):gG:=match a[k]? with
 |some q=>q.req
 |none=>⟨0,ByteArray.empty,ByteArray.empty,0,[]⟩
def cu{a:List QV}{k:Nat}(h:k<a.length):rq a k=a[k].req:=by unfold rq;rw[Va h]
def nA(c:iC)(f:Nat->gG):Nat->wC
 |0=>nd1
 |k+1=>(aZ c (nA c f k) (f k)).1
def aGx{c:iC}{f:Nat->gG}{n:Nat}(a:en c)(b:∀i,i<n->SmR (f i))(g:n<=17)(k:Nat)(d:k<=n):ob c k (nA c f k):=by
 induction k with
 |zero=>exact aNw a
 |succ k e=>exact(cj a (e (by omega)) (by omega) (b k d)).2
section
open Go.Maps
structure ON(w:World)(A:Nat→Prop)(h l m:Nat)(c:iC)(s:Int×Int×List fB)(M:Nat):Prop where
 blk:nB w h #[.pointer (yB l),zA s.1] 78
 led:jE w A l m c s.2.1 s.2.2 M
 no:¬A h
def vO.turnN{w f:World}{B:Nat}{S:Nat->Prop}{a:mC}{m:List xD}(h:vO w B a m)(q:eB S w f)(n:∀g,B<=g->g<w.1.size->¬S g):vO f B a m:=by
 obtain h|⟨b,r,c,t,rfl,k,e,d⟩:=h;exact Ca h;have l:=q.block b (aB e) (n b k (aB e));have o:∀j,f.cell? (dB b j)=w.cell? (dB b j):=λj=>World.cell?_of_block l;exact La ⟨b,r,c,t,rfl,k,l.trans e,λi p=>by simp only[o];exact d i p⟩
def In2(A:Nat->Prop)(w a:World)(g:Nat):Prop:=A g/\g<w.1.size\/a.1.size<=g
def aCa(h l m:Nat)(c:iC)(s:Int×Int×List fB)(M:Nat)(A:Nat->Prop)(f:List xD)(u w:World)(H:ON w A h l m c s M)(hb:Below u.1.size u w)(hA:∀g,w.1.size<=g->A g)(Q:∀g,A g->u.1.size<=g)(hU:uG u)(q:Gst c s)(L:FP f)(ho:(nF c s.2.1 s.2.2 f).2.2=true)(R:1<=M)(hM:M<=900000000):
 Calls prog 71 #[.pointer (yB h),.string (lJ (s.1+1) f)] w λe w'=>e=.returned (.bool true)/\ON w' A h l m c (stS c s f) (M+f.length)/\eB (λg=>A g\/g=h) w w':=by
 obtain⟨d,nw,ts⟩:=s;obtain⟨E,Y,⟨B,D⟩,_⟩:=q;dsimp only at E Y B D ho;obtain⟨ok,U⟩:=aDo B D L;obtain⟨_,_,hz⟩:=OT B D L;obtain⟨w1,n,_⟩:=lM ts;have P:=bB (λW=>zf (d+1) f W ok U (by omega));have HH:=bB H;have HA:=bB hA;have hw1:IntKind.i64.wrap (d+1)=d+1:=by rw[IntKind.wrap_i64];omega
 have hh:=aB H.blk;have hr2:=L.2.1;have hr3:=L.2.2.1;have N:=bB (λW(hW:Below w.1.size w W) K j(hr0:vO W w.1.size K f)(n:World)(o:Below W.1.size W n)=>
  FV l m K j f c nw ts M (In2 A w n) u n (H.led.re λg q V=>⟨(vB hW o).block g q,Ca ⟨V,q⟩⟩) (hb.trans ((vB hW o).mono hb.size)) (λg q=>La q) (λg q=>q.elim (λx=>Q g x.1) (λx=>Ua hb.size (Ua (vB hW o).size x))) (λX hX=>((hr0.tu (S:=λ_=>False) (eB.of o) (λj e=>e.elim) (Ia _)).turnN hX (λg h1 h2 e=>by obtain e|e:=e;exact absurd e.2 (by omega);omega)).recs) hU E (by omega) (by omega) (λr hq=>by have:=sf hq;have:=(L.2.2.2 r hq).1;exact⟨by omega,by omega⟩) R hM)
 unfold stS;dsimp only;clear E hU hb hA Q R hM hz ok U L w1 n Y;generalize hRV:nF c nw ts f=RV at *;obtain⟨n5,a,b5⟩:=RV;obtain rfl:b5=true:=ho;generalize lJ (d+1) f=tx at *;go_enter func71,ntmps71;go_wp2_with fail;refine(P.o w).mono ?_;rintro e w1 ⟨K,j,rfl,t,k⟩;have hz1:=k.size;go_upto_region 2 with fail;refine BH (C:=λW=>Code.wp prog _ _ _ W) ?_;intro n p G;replace p:Below w1.1.size w1 n:=p;have J:=bB G;have z:=bB (HH.o.blk.z (vB k p));have I:=aB G;have O:=bB (vB k p);have HO:=bB (N.o _ k K j t);have y:=bB p;clear t k p G N P;generalize w1.1.size=bx at *;have x0:n.cell? (dB bx 0)=some (zA (d+1)):=J.o.cell 0;have x1:n.cell? (dB bx 1)=some (.slice K f.length j):=J.o.cell 1;have y0:n.cell? (dB h 0)=some (.pointer (yB l)):=z.o.cell 0;have Z:n.cell? (dB h 1)=some (zA d):=z.o.cell 1;have q0:=kC.cells x0;have q1:=kC.cells Z;have hne:=kC.there n;have h1:¬d+1<=d:=by omega
 go_wp2_with fail;refine wB (by kernel_rfl) (by kernel_rfl) ?_;repeat (go_big_quiet_step (fail))
 refine wpQuiet_nil ?_;rintro v ⟨⟨_,b⟩,rfl⟩;replace J:=bB (J.o.z b);replace z:=bB (z.o.z b);replace O:=bB (vB O.o b);replace y:=bB (y.o.trans (b.mono (Vg I)));replace I:=Bb I b.size;clear q0 q1 hne x0 x1 y0 Z b;have x0:v.cell? (dB bx 0)=some (zA (d+1)):=J.o.cell 0;have x1:v.cell? (dB bx 1)=some (.slice K f.length j):=J.o.cell 1;have y0:v.cell? (dB h 0)=some (.pointer (yB l)):=z.o.cell 0;have Z:v.cell? (dB h 1)=some (zA d):=z.o.cell 1;replace HO:=bB (HO.o v.drew y.o.drew);go_wp2_with fail;refine pM 15 (by kernel_rfl) (by kernel_rfl) ?_;simp only[Rg,List.take_zero,Sg,Kf];have hnel:Nonempty Unit:=⟨()⟩
 repeat (go_big_quiet_step (fail))
 refine wpQuiet_nil ?_;go_wp2_with fail;refine HO.o.mono ?_;rintro e w4 ⟨rfl,S,F⟩;have T:¬In2 A w v.drew h:=λe=>e.elim (λx=>HH.o.no x.1) (λx=>by have:=O.o.size;have:v.1.size<=h:=x;omega);have Y4:=bB (F.blk (show nB v.drew _ _ _ from z.o) T);have T4:cB (eB (λg=>A g\/g=h) w w4):=(eB.of O.o.drew).trans' (F.mono λi hi e=>Ca (e.elim And.left λx=>absurd hi (Nat.not_lt.2 x)));have HL5:=bB (S trivial);clear S F x0 x1 y0 Z HO;have Z:w4.cell? (dB h 1)=some (zA d):=Y4.o.cell 1;have y2:=Y4.o.free 1;go_wp2;go_ret;refine⟨rfl,⟨by have:=Y4.o.set 1 (zA (d+1));simpa using this,?_,HH.o.no⟩,T4.o.setCell (Ca (La rfl)) 1 _⟩;exact HL5.o.re λg _ V=>⟨Below.heap_setCell _ _ _ _ (λe=>by rw[e]at V;exact T V),V.elim And.left (λx=>HA.o g (Ua O.o.size x))⟩
end
section
open Go.Maps
attribute [local go_sem] jH xH xN nB.drewI qN.drewI qN.new qN.alloc qN.alloc2
def aLe{w:World}{B:Nat}{a:mC}{c:Nat}{b:List jB}(h:w.ownsRow B 9 1 (.slice a b.length c) b.length (b.map Value.string)){j:Nat}(l:j<b.length):∃g,a=yB g/\g<w.1.size/\w.cell? (dB g j)=some (.string b[j]):=by
 obtain⟨_,i⟩|⟨g,f,m,e,r,k,o,p,q,n⟩:=h.2;simp at i;subst i;exact absurd l (by simp);simp only[Value.slice.injEq]at e;refine⟨g,e.1,aB k,?_⟩;rw[nB.cell k];have d:=Kd (·[j]?) n;simp only[Se,Va l,Option.map_some]at d;rw[Jb (by omega)]at d;simpa using d
def XZ{p w:World}{B P D:Nat}{K K1:yD}{L1:iH}{b:Int×Int×List fB}{rss:List (List xD)}(c:iC)(h:aO p w B P D K lg0)(Z:K.dn=false)(hd:pL K (dO K.fs)=(K,0))(Y:∀W,aO p W B P D K lg0->Calls prog 69 #[.pointer (some ⟨P,0,none⟩),rE c] W λe n=>CkX c b.1 b.2.1 b.2.2 W e n)(E:∀W,aO p W B P D K lg0->Calls prog 70 #[.pointer (some ⟨P,0,none⟩)] W λe n=>(∃av cv,e=.returned (.tuple #[.slice av (gU b.1 rss).length cv,.nilIface])/\n.ownsRow W.1.size 9 1 (.slice av (gU b.1 rss).length cv) (gU b.1 rss).length ((gU b.1 rss).map Value.string))/\aO p n B P D K1 L1/\(∀A h l m,(∀g,A g->P<g)->P<h->ON W A h l m c b 1900000->ON n A h l m c b 1900000)/\(rss≠[]->K1=K/\eB (·=P) W n))(hr:∀j(h:j<rss.length),FP rss[j]/\(nF c (MV c b (rss.take j)).2.1 (MV c b (rss.take j)).2.2 rss[j]).2.2=true)(G:∀j,j<=rss.length->Gst c (MV c b (rss.take j)))(V:uG p):
 Calls prog 20 #[.pointer (some ⟨P,0,none⟩),rE c] w λe n=>(∃h l m,e=.returned (.tuple #[.pointer (some ⟨h,0,none⟩),.nilIface])/\nB n h #[.pointer (some ⟨l,0,none⟩),.int .i64 (MV c b rss).1] 78/\jE n (λg=>w.1.size<g/\g≠h) l m c (MV c b rss).2.1 (MV c b rss).2.2 2000000)/\aO p n B P D K1 L1:=by
 have d3:w.cell? ⟨D,3,none⟩=some (.bool false):=by rw[<-Z];obtain⟨v,hv⟩:=h.drive;exact hv.blk.cell 3
 have hDl:D<w.1.size:=by obtain⟨v,hv⟩:=h.drive;exact aB hv.blk
 have hPl:=aB h.wr;obtain⟨c0,_,_,_⟩:=h.wr.cells;have X:=wF w (.cells #[.int .i64 c.w,.int .i64 c.tl,.int .i64 c.ml,.int .i64 c.sh,.int .i64 c.ha,.int .i64 c.sg] 24);have M:=bB (gl (h.z X) hd);have C0:=bB (nB.new w #[.int .i64 c.w,.int .i64 c.tl,.int .i64 c.ml,.int .i64 c.sh,.int .i64 c.ha,.int .i64 c.sg] 24);obtain⟨F,k⟩:=cd rss b.1;rw[F]at E;have HE:=bB (Vc Y E);have HQ:=bB (Vc k (Vc hr (Vc G V)));have hlen:rss.length<=100:=by
  have h0:=(G 0 (Oa _)).2.2.1;have R:=(G _ (Ia _)).2.2.1;have h2:=OG c rss b;rw[List.take_zero]at h0;rw[Rb]at R;have T:(MV c b []).1=b.1:=rfl;omega
 unfold rE at *;go_enter func20,ntmps20;go_wp2_with fail;apply lC M.o;rintro w1 ⟨I,a0⟩;have W1:=bB I;have C1:=bB (a0.blk C0.o (by decide) (by decide));have hz1:=aB C1.o;have t:=bB (HE.o.1 _ I);unfold CkX at t;have x0:=C1.o.c6;go_wp2_with fail;refine t.o.mono ?_;rintro e w2 ⟨h,l,m,rfl,hlo,y,r,x⟩;have HO:=bB (HE.o.2 _ (W1.o.z x));have hh2:=aB y;have HB:=bB (Vc y r);have T2:=bB (eB.of (S:=(·=P)) x);go_wp2_with fail;refine HO.o.mono ?_;rintro e L ⟨⟨av,cv,rfl,s⟩,hw3,b0,C⟩;have hP1:P<w1.1.size:=aB W1.o.wr;have T:=b0 (λg=>w1.1.size<=g/\g≠h/\g<w2.1.size) h l m (λg d=>Bb hP1 d.1) (by omega) ⟨HB.o.1,HB.o.2.re λg d hs=>⟨rfl,hs.1,hs.2,d⟩,λe=>e.2.1 rfl⟩;have hs3:=aB T.blk;obtain⟨A,U⟩:∃A:Nat->Prop,A=λg=>(w1.1.size<=g/\g≠h/\g<w2.1.size)\/L.1.size<=g:=⟨_,rfl⟩
 have A1:∀g,A g->w1.1.size<=g/\g≠h:=λg d=>by rw[U]at d;rcases d with e|e<;>omega
 have A2:∀g,L.1.size<=g->A g:=λg d=>by rw[U];exact La d
 have A3:∀g,w2.1.size<=g->g<L.1.size->¬A g:=λg R h2 d=>by rw[U]at d;rcases d with e|e<;>omega
 have J:=bB (Vc A1 (Vc A2 A3));have HH0:=bB (show ON L A h l m c b 1900000 from⟨T.blk,T.led.re λg d hs=>⟨rfl,by rw[U];exact Ca hs⟩,λe=>(A1 _ e).2 rfl⟩);have O:=bB s;have T3:=bB (λq=>Vc (C q).1 (T2.o.trans' (C q).2));have Q:=bB hw3;go_wp2_with fail;go_loopw [11,45] (λ_ i wr=>∃j:Nat,j<=rss.length/\i=.int .i64 j/\cB (ON wr A h l m c (MV c b (rss.take j)) (1900000+5*j))/\cB (eB (λg=>A g\/g=h) L wr)/\cB (aO p wr B P D K1 L1)) (λ_ i _=>rss.length-(intOf i).toNat)
 case atStart=>exact⟨0,Oa _,rfl,HH0,eB.refl _ _,Q⟩
 case round=>
  obtain⟨j,hj,rfl,N,HT,WR⟩:=hrel;by_cases f:j<rss.length
  .obtain ⟨k,hr,G,V⟩:=HQ.o;obtain⟨r1,r2⟩:=hr j f;have H:=OG c (rss.take j) b;rw[Hb,Nat.min_eq_left (by omega)]at H;have u:=bB (aCa h l m c (MV c b (rss.take j)) (1900000+5*j) A rss[j] p wr N.o WR.o.below (λg d=>J.o.2.1 g (Ua HT.o.size d)) (λg d=>Ua W1.o.below.size (J.o.1 g d).1) V (G j (by omega)) r1 r2 (by omega) (by omega));have hst:stS c (MV c b (rss.take j)) rss[j]=MV c b (rss.take (j+1)):=by rw[Pa f,mz]
   have hl5:=r1.2.1;have d0:(gU b.1 rss)[j]'(by omega)=lJ ((MV c b (rss.take j)).1+1) rss[j]:=by rw[k j f,H]
   rw[hst,<-d0]at u;obtain⟨g,rfl,hgl,z⟩:=aLe (HT.o.row (show L.ownsRow w2.1.size 9 1 (.slice av (gU b.1 rss).length cv) (gU b.1 rss).length _ by rw[F];exact O.o) (λg d e=>by
    have R:=O.o.lt g (by rw[F]at d;exact d);obtain e|e:=e;exact J.o.2.2 g R.1 R.2 e;omega)) (show j<(gU b.1 rss).length by omega)
   generalize (gU b.1 rss)[j]'(by omega)=py at *;clear k hr G V r1 r2 H hst d0 N;go_wp2_with fail;apply lC u.o;rintro w5 ⟨o,ht5⟩;have H5:=bB (show ON w5 A h l m c (MV c b (rss.take (j+1))) (1900000+5*(j+1)) from⟨o.blk,o.led.mono (by omega),o.no⟩);have T5:=bB (HT.o.trans' ht5);obtain⟨rfl,a⟩:=T3.o (by intro e;rw[e]at f;cases f);have W5:=bB (show aO p w5 B P D K1 L1 from W1.o.turnP (a.trans (T5.o.mono λg d e=>La (by obtain e|e:=e;exact(J.o.1 g e).1;omega))) (T5.o.blk Q.o.wr λe=>by obtain e|e:=e;have:=(J.o.1 _ e).1;omega;omega));go_wp2;exact⟨⟨j+1,by omega,by go_num,H5,T5,W5⟩,by simp[intOf];omega⟩
  obtain rfl:j=rss.length:=by omega
  rw[Rb]at N;go_wp2;go_ret2;exact⟨⟨h,l,m,rfl,N.o.blk,(N.o.led.re λg _ d=>⟨rfl,by have:=J.o.1 g d;exact⟨by omega,this.2⟩⟩).mono (by omega)⟩,WR.o⟩
def WU(c:iC)(a:mC)(ca:Nat)(K U:yD)(t:iH)(lsn r:Int)(z:List fB)(w:World)(Y:lH c=true)(k:sI w)(O:tB w a K.fs)(o:JH K.fs)(R:eF K.fs K.c K.k K.cr K.fl=true)(h:z.length+cC z<=1048576)(G:∀I W B P D,uB w I->aO I W B P D K lg0->Calls prog 20 #[.pointer (yB P),rE c] W λe w'=>(∃h l m,e=.returned (.tuple #[.pointer (yB h),.nilIface])/\nB w' h #[.pointer (yB l),zA lsn] 78/\jE w' (λg=>W.1.size<g/\g≠h) l m c r z 2000000)/\aO I w' B P D U t):
 Calls prog 6 #[rE c,.agg (dkC a ca K)] w λe w'=>TY ⟨U,t,r,z,lsn,false,true⟩ (zA 0) w e w':=by
 have J:=bB (λW=>aV c W);rw[Y]at J;have V:=bB (λW(u:uB w W)=>@oS a ca _ _ _ _ _ K.dn _ R W (O.z u) o.H (by have:=o.len;unfold maxLen;omega) o.sum);have Y:=bB (λW(u:uB w W)=>BZ a ca K.fs K.c K.k K.cr K.fl K.dn W (O.z u) o.len);have E:=bB (Vc k (Vc R G));have I:=bB (vf λx k=>by obtain⟨f,b,d,i,n⟩:=nS (show z.length+cC z<=1900000 by omega) x k;exact⟨by omega,λp k=>by have:=b p k;omega,λp k=>by have:=d p k;omega,by omega,by omega⟩);unfold dkC;unfold rE at *;have fz:=vN;go_enter func6,ntmps6;go_wp2_with fail;apply lC (J.o _);intro w1 C;have P:=bB ((O0.new (w:=w) (c:=c) (v0:=.slice a K.fs.length ca) (v1:=zA K.c) (v2:=zA K.k) (v3:=zA K.cr) (v4:=zA K.fl) (v5:=.bool K.dn)).z C);have G:=P.o.cells;go_wp2_with fail;apply lC (V.o _ P.o.B);intro w2 C;replace P:=bB (P.o.z C);have G:=P.o.cells;go_wp2_with fail;refine(Y.o _ P.o.B).mono ?_;rintro e s ⟨D,v,rfl,k,C⟩;have O:=vB C (wF s (.cells #[.pointer (yB D),zA 0,zA 0,zA 0] 67));have J:aO w2 (s.alloc (.cells #[.pointer (yB D),zA 0,zA 0,zA 0] 67)) w2.1.size s.1.size D K lg0:=⟨E.o.1.z P.o.B,O,Ia _,C.size,nB.new _ _ _,⟨v,k.z zB⟩,E.o.2.1⟩
 have k:=bB (P.o.z O);have O:=C.size;have L:=bB (E.o.2.2 _ _ _ _ _ P.o.B J);unfold rE at L;have G:=k.o.cells;go_wp2_with fail;refine L.o.mono ?_;rintro e A ⟨⟨h,l,m,rfl,Y,J⟩,G⟩;have W5:=bB G;have k:=bB (P.o.z G.below);obtain⟨v5,T⟩:=G.drive;obtain⟨O,R,rfl,G⟩:=T.files;have a0:=bB (λW(u:uB A W)=>nV D _ O _ R _ _ _ _ _ W (T.blk.z u));have F5:=bB G;have G:=aB Y;have Z:=bB (λW(u:uB A W)=>XH l m c r _ z 2000000 W (J.z u) I.o (by omega));have J:=bB Y;obtain⟨p0,p1,p2,p3⟩:=W5.o.wr.cells;have I:=aB W5.o.wr;have q0:tC A h 0 (.pointer (yB l)):=J.o.cell 0;have q1:tC A h 1 (zA lsn):=J.o.cell 1;have Y:h≠w.1.size+1+1:=λe=>by
  have h1:=k.o.R;rw[<-e]at h1;have h2:=(show A.heap[h]?=_ from J.o).symm.trans h1;simp only[Qa,Obj.cells.injEq]at h2;exact absurd h2.2.1 (by decide)
 have y:=bB (show ∀W X,uB A W->eB (·=w.1.size+1+1) W X->tC X s.1.size 0 (.pointer (yB D))/\tC X s.1.size 1 (zA t.first)/\tC X s.1.size 2 (zA t.last)/\tC X s.1.size 3 (zA t.size)/\tC X h 0 (.pointer (yB l))/\tC X h 1 (zA lsn) from λW X u ht=>by
  have h1:=P.o.lt;have J:∀j,X.cell? (dB s.1.size j)=A.cell? (dB s.1.size j):=λj=>(World.cell?_of_block (ht.block _ (Bb I u.size) (λe=>by have e':s.1.size=w.1.size+1+1:=e;omega))).trans (u.cell I);have I:∀j,X.cell? (dB h j)=A.cell? (dB h j):=λj=>(World.cell?_of_block (ht.block _ (Bb G u.size) Y)).trans (u.cell G);exact⟨(J _).trans p0,(J _).trans p1,(J _).trans p2,(J _).trans p3,(I _).trans q0,(I _).trans q1⟩)
 clear fz;go_wp2_with fail;go_region_held3 (λW=>W.cell? (dB s.1.size 0)=some (.pointer (yB D))/\W.cell? (dB s.1.size 1)=some (zA t.first)/\W.cell? (dB s.1.size 2)=some (zA t.last)/\W.cell? (dB s.1.size 3)=some (zA t.size)/\W.cell? (dB h 0)=some (.pointer (yB l))/\W.cell? (dB h 1)=some (zA lsn))
  (first|exact y.o _ _ H (eB.refl _ _)|exact y.o _ _ I (eB.refl _ _)|exact y.o _ _ H (cH _ _ _)|exact y.o _ _ I (cH _ _ _)|exact y.o _ _ iD.drew (eB.refl _ _))
  (first
  |(go_at_call 21;(first|(have q:=H;apply lC (a0.o _ H);intro h F;have I:=vB H F;have G:=(k.o.z I).R.box rfl)|(apply lC (a0.o _ iD.drew);intro h F;have I:=vB iD.drew F)))
  |(go_at_call 23;(first|(have q:=I;refine(Z.o _ I).mono ?_;rintro e J ⟨N,h,rfl,S,Q⟩;have H:=vB I Q;have G:=(k.o.z H).R.box rfl;have G:=qF O R N h ⟨U,t,r,z,lsn,false,true⟩;dsimp only at G)|(refine(Z.o _ iD.drew).mono ?_;rintro e J ⟨N,h,rfl,S,Q⟩;have H:=vB iD.drew Q;have G:=qF O R N h ⟨U,t,r,z,lsn,false,true⟩;dsimp only at G))))
 all_goals
  go_wp2;first
  |exact RZ (M:=⟨U,t,r,z,lsn,false,true⟩) rfl rfl rfl rfl (k.o.z H) (F5.o.z H) S.tens
  |exact RZ (M:=⟨U,t,r,z,lsn,false,true⟩) rfl rfl rfl rfl (k.o.z I) (F5.o.z I) (S.tens.z F)
end
def an(c:iC)(w:World)(d:lH c=true)(k:uG w)(g:sI w):
 Calls prog 6 #[rE c,.agg #[.slice none 0 0,zA 1000000,zA 0,zA 0,zA 0,.bool false]] w λe n=>TY nd1 (zA 0) w e n:=by
 refine WU c none 0 dk0 dk1 ⟨1,1,0⟩ 0 0 [] w d g (Ca rfl) tQ (by decide) (by decide) λs W B P D t h=>XZ (b:=(0,0,[])) (rss:=[]) c h rfl rfl (λX a=>aLr c a (fun⟨_,f,r,_⟩=>by cases r) d (k.z (vB t a.below))) (λX a=>(aLk a).mono λe n ⟨o,p,i⟩=>⟨⟨none,0,o,rfl,Ca ⟨rfl,rfl⟩⟩,p,λA h l m _ _ q=>⟨i.blk q.blk (by decide),q.led.apart i,q.no⟩,λq=>absurd rfl q⟩) (λj h=>(by cases h)) (λj _=>?_) (k.z t);rw[List.take_nil];exact(⟨sO d (by decide) (by simp) rfl,by decide,by decide,by decide⟩:Gst c (0,0,[]))
def YO{f:iB}:∀{a:List iB},f∈a->f.data.size<=pC a
 |g::a,h=>by
  rw[pC];rcases Lb.1 h with rfl|h;omega;have:=YO h;omega
def oy(c:iC)(a:mC)(r k:Nat)(N:wC)(h:ob c k N)(J:k<=18)(w:World)(l:tB w a N.d.fs):
 Calls prog 10 #[.agg (dkC a r N.d),.slice none 0 0] w λe y=>∃q o,e=.returned (.agg (dkC q o N.d))/\tB y q N.d.fs/\uB w y:=by
 obtain⟨z,b,E,F,g,D⟩:=h.D;have n:=aLv h.G h.L (by omega) D.s;have K:=h.G.m;have p:∀f∈N.d.fs,f.Y=(f.data.size:Nat):=λf l=>by
  rw[n]at l;rcases Ee.1 l with l|l
  .cases z with
   |none=>cases l
   |some t=>rw[Uf.1 l]
  obtain ⟨i,H,rfl⟩:=AZ.1 l;rfl
 have u:=aj a r N.d.fs N.d.c N.d.k N.d.cr N.d.fl N.d.dn w l h.I.fit.H h.I.fit.sum h.G.v (by rw[n,Kb,AY];simp;omega) λj x=>⟨p _ (Gb x),by have:=YO (Gb x);omega⟩
 have A:=h.G.cr;have B:=h.G.fl;have C:=h.G.dn;unfold dkC;rw[A,B,C]at u |-
 exact u
def Dur.pays{c:iC}{N:wC}{l:Option jB}{b:Int×Int×List fB}{a:List (List xD)}{d:List (List jB)}{g:List jB}(h:Dur c N l b a d g)(i:Nat)(n:i<(d++[g]).length):xq (d++[g])[i]:=λp t=>by
 have s:p∈gU b.1 a:=by
  rw[<-h.x];have:p∈(d++[g]).flatten:=List.mem_flatten.2 ⟨_,Gb n,t⟩;simpa using this
 obtain⟨j,o,rfl⟩:=Ib s;obtain⟨v,m⟩:=cd a b.1;rw[m j (by omega) o];have f:=(h.q j (by omega)).2.2.1;have e:=OG c (a.take j) b;rw[Hb,Nat.min_eq_left (by omega)]at e;rw[<-e];obtain⟨_,k,u⟩:=OT f.1 f.2 (h.r j (by omega)).1;exact⟨k,by omega⟩
def ao(c:iC)(d:en c)(a:mC)(ca k:Nat)(N:wC)(h:ob c k N)(n:k<=18)(w:World)(r:tB w a N.d.fs)(n:uG w)(s:sI w)(v:UA w):
 Calls prog 6 #[rE c,.agg (dkC a ca N.d)] w λe w'=>TY ⟨N.d,N.l,N.now,N.ts,N.lsn,false,true⟩ (zA 0) w e w':=by
 obtain⟨R,b,H,C,g,D⟩:=h.D;obtain⟨z,G,G⟩:=h.L.b;have G:=D.s.n;have G:=h.I.w;obtain⟨w1,w2,_⟩:=lM N.ts;have Z:dO N.d.fs=[]:=by
  unfold dO;rw[wZ h.G.asc (xI sR h.G.asc),ah λG=>by
   rcases h.L.hi _ G with e|⟨i,_,_,e⟩;exact absurd e (by decide);exact (gO i).2 e.symm]
  rfl
 have O:=aLv h.G h.L (by omega) D.s;have V:(C++[g]).flatten=gU b.1 H:=by rw[<-D.x];simp
 have G:(C++[g]).length=C.length+1:=by simp
 have I:=D.e;refine WU c a ca N.d N.d N.l N.lsn N.now N.ts w d.1 s r h.I.fit h.G.v (by omega) λr W B P r E s=>?_;have r:=XZ (K1:=N.d) (L1:=N.l) (b:=b) (rss:=H) c s h.G.dn (by rw[Z];rfl) (λX J=>?_) (λX J=>?_) D.r D.q (n.z E)
 .rw[I]at r;exact r
 .have M:=n.z (vB E J.below);obtain⟨rfl,rfl⟩|rfl:=D.k
  .exact aLr c J (fun⟨j,Y⟩=>by obtain⟨t,e,_⟩:=(D.s.c j).1 Y;cases e) d.1 M
  obtain ⟨d,r,n,_⟩:=D.q 0 (Oa _);simp only[List.take_zero,MV,List.foldl_nil]at d r n;obtain⟨o,y,_,p,u⟩:=IY (lsn:=b.1) d (by omega) n.1 (by omega);obtain⟨v1,v2,_⟩:=lM b.2.2;exact aPi c J ((D.s.c _).2 ⟨_,rfl,rfl⟩) d o p u (by omega) (by omega) M
 have d:=λi K=>D.s.at i K;have F:=aLl (l:=C++[g]) (x:=N.l.first) (c:=(ckF R).length) J (λi K=>?_) (by rw[O,Kb,AY]) (by cases R<;>simp[ckF]) d (λi K=>⟨D.pays i K,?_⟩) z (by omega) (by omega) h.G.dn (v.z (vB E J.below))
 .rw[V]at F;have n:(⟨N.l.first,N.l.first+((C++[g]).length:Int)-1,((fF ((C++[g])[(C++[g]).length-1]'(by omega))).size:Nat)⟩:iH)=N.l:=by
   have:(C++[g])[(C++[g]).length-1]'(by omega)=g:=by simp
   rw[this,<-D.s.z,G];have:N.l.first+((C.length+1:Nat):Int)-1=N.l.last:=by omega
   rw[this]
  rw[n]at F;exact F.mono λe w' ⟨n,r,S⟩=>⟨n,r,λA h l m n r q=>⟨S.blk q.blk (by omega),q.led.re λg r hs=>⟨S.block g r (by have:=n g hs;omega),hs⟩,q.no⟩,λ_=>⟨rfl,S⟩⟩
 .have Q:=K;simp only[O]at Q |-
  by_cases e:i<(ckF R).length
  .refine Ca ⟨e,?_⟩;rw[Ve e];cases R with
   |none=>cases e
   |some t=>simp[ckF]
  refine La ⟨by omega,?_⟩;rw[Re (by omega)];rw[Kb,AY]at Q;exact YI (by omega)
 obtain ⟨f,T,n,U⟩:=d i K;obtain⟨j,Y,rfl⟩:=Ib T;have:=@TA N.d.fs _ Y;have:=h.G.m;rw[<-(Prod.mk.inj U).1];omega
def tN(a:List Nat)(σ:lL):iC×lL:=
 (⟨1+(eC a σ 8).1,1+(eC a (eC a σ 8).2 7).1,1+(eC a (eC a (eC a σ 8).2 7).2 5).1,1+(eC a (eC a (eC a (eC a σ 8).2 7).2 5).2 5).1,(eC a (eC a (eC a (eC a (eC a σ 8).2 7).2 5).2 5).2 3).1,100+(eC a (eC a (eC a (eC a (eC a (eC a σ 8).2 7).2 5).2 5).2 3).2 200).1⟩,(eC a (eC a (eC a (eC a (eC a (eC a σ 8).2 7).2 5).2 5).2 3).2 200).2)
def NF(B P:Nat)(g:List Nat)(σ:lL)(w:World)(h:kF w B P g σ)(k:σ.k<=1000000):
 Calls prog 12 #[.pointer (yB B)] w λe i=>e=.returned (rE (tN g σ).1)/\kF i B P g (tN g σ).2/\qD B w i:=by
 have J:cB (kF w B P g σ):=h;have k:=h.lt;have k:=h.up.2;unfold tN;have N:cB (∀W,kF W B P g σ->Calls prog 13 #[.pointer (yB B),zA 8] W λe i=>e=.returned (zA ((eC g σ 8).1:Nat))/\kF i B P g (eC g σ 8).2/\qD B W i):=λW h=>oF B P g σ 8 W h (by omega) (by omega);have G:=yH g σ (n:=8) (by omega);have I:=aJ g σ 8;generalize eC g σ 8=O at *;obtain⟨u,x⟩:=O;simp only at N G I |-
 have O:cB (∀W,kF W B P g x->Calls prog 13 #[.pointer (yB B),zA 7] W λe i=>e=.returned (zA ((eC g x 7).1:Nat))/\kF i B P g (eC g x 7).2/\qD B W i):=λW h=>oF B P g x 7 W h (by omega) (by omega);have G:=yH g x (n:=7) (by omega);have I:=aJ g x 7;generalize eC g x 7=U at *;obtain⟨M,y⟩:=U;simp only at O G I |-
 have Q:cB (∀W,kF W B P g y->Calls prog 13 #[.pointer (yB B),zA 5] W λe i=>e=.returned (zA ((eC g y 5).1:Nat))/\kF i B P g (eC g y 5).2/\qD B W i):=λW h=>oF B P g y 5 W h (by omega) (by omega);have G:=yH g y (n:=5) (by omega);have I:=aJ g y 5;generalize eC g y 5=U at *;obtain⟨v3,z⟩:=U;simp only at Q G I |-
 have R:cB (∀W,kF W B P g z->Calls prog 13 #[.pointer (yB B),zA 5] W λe i=>e=.returned (zA ((eC g z 5).1:Nat))/\kF i B P g (eC g z 5).2/\qD B W i):=λW h=>oF B P g z 5 W h (by omega) (by omega);have G:=yH g z (n:=5) (by omega);have I:=aJ g z 5;generalize eC g z 5=U at *;obtain⟨v4,A⟩:=U;simp only at R G I |-
 have S:cB (∀W,kF W B P g A->Calls prog 13 #[.pointer (yB B),zA 3] W λe i=>e=.returned (zA ((eC g A 3).1:Nat))/\kF i B P g (eC g A 3).2/\qD B W i):=λW h=>oF B P g A 3 W h (by omega) (by omega);have G:=yH g A (n:=3) (by omega);have I:=aJ g A 3;generalize eC g A 3=U at *;obtain⟨v5,C⟩:=U;simp only at S G I |-
 have T:cB (∀W,kF W B P g C->Calls prog 13 #[.pointer (yB B),zA 200] W λe i=>e=.returned (zA ((eC g C 200).1:Nat))/\kF i B P g (eC g C 200).2/\qD B W i):=λW h=>oF B P g C 200 W h (by omega) (by omega);have h:=yH g C (n:=200) (by omega);have G:=aJ g C 200;generalize eC g C 200=I at *;obtain⟨W,σ6⟩:=I;simp only at T h G |-
 go_enter func12,ntmps12;go_wp2_with fail;apply lC (N.o _ (J.o.z zB));rintro j ⟨U,E⟩;have h:cB (kF j B P g x/\qD B w j):=⟨U,(qD.of zB).trans E⟩
 have G:nB (w.alloc (.cells #[zA 0,zA 0,zA 0,zA 0,zA 0,zA 0] 24)) w.1.size #[zA 0,zA 0,zA 0,zA 0,zA 0,zA 0] 24:=heap_alloc_new _ _;have I:cB (nB j w.1.size #[zA 0,zA 0,zA 0,zA 0,zA 0,zA 0] 24):=(E.block _ (aB G) (by omega)).trans G;have G:w.1.size<j.1.size:=aB I.o;have o:w.1.size<=j.1.size:=by omega
 go_wp2_with fail;apply lC (O.o _ (h.o.1.z zB));rintro w2 ⟨V,p⟩;have F:nB (j.alloc (.cells #[zA (1+u),zA 6,zA 4,zA 0,zA 0,zA 0] 24)) j.1.size #[zA (1+u),zA 6,zA 4,zA 0,zA 0,zA 0] 24:=heap_alloc_new _ _;have G:cB (nB w2 j.1.size #[zA (1+u),zA 6,zA 4,zA 0,zA 0,zA 0] 24):=(p.block _ (aB F) (by omega)).trans F;have J:cB (kF w2 B P g y/\qD B w w2):=⟨V,(h.o.2.z zB).trans p⟩
 have O:cB (nB w2 w.1.size #[zA 0,zA 0,zA 0,zA 0,zA 0,zA 0] 24):=(p.block _ (by simp;omega) (by omega)).trans (I.o.alloc _);have c1:=G.o.cell 1;have a:=G.o.free 1;go_wp2_with fail;refine lC (Q.o _ (J.o.1.below (iD.setCell (by show P<=j.1.size;omega) _))) ?_;rintro h ⟨X,q⟩;have H:=nB.set G.o 1 (zA (1+(M:Int)));have G:cB (nB h j.1.size #[zA (1+u),zA (1+M),zA 4,zA 0,zA 0,zA 0] 24):=(q.block _ (aB H) (by omega)).trans H;have U:cB (kF h B P g z/\qD B w h):=⟨X,(J.o.2.upToD (iD.setCell o _)).trans q⟩
 have J:cB (nB h w.1.size #[zA 0,zA 0,zA 0,zA 0,zA 0,zA 0] 24):=(q.block _ (by have:=aB O.o;simpa using this) (by omega)).trans (O.o.keepS (by omega) _);have c2:=G.o.cell 2;have b:=G.o.free 2;go_wp2_with fail;refine lC (R.o _ (U.o.1.below (iD.setCell (by show P<=j.1.size;omega) _))) ?_;rintro w4 ⟨Y,r⟩;have I:=nB.set G.o 2 (zA (1+(v3:Int)));have G:cB (nB w4 j.1.size #[zA (1+u),zA (1+M),zA (1+v3),zA 0,zA 0,zA 0] 24):=(r.block _ (aB I) (by omega)).trans I;have I:cB (kF w4 B P g A/\qD B w w4):=⟨Y,(U.o.2.upToD (iD.setCell o _)).trans r⟩
 have O:cB (nB w4 w.1.size #[zA 0,zA 0,zA 0,zA 0,zA 0,zA 0] 24):=(r.block _ (by have:=aB J.o;simpa using this) (by omega)).trans (J.o.keepS (by omega) _);have U:=G.o.cell 3;have c:=G.o.free 3;go_wp2_with fail;refine lC (S.o _ (I.o.1.below (iD.setCell (by show P<=j.1.size;omega) _))) ?_;rintro h ⟨Z,s⟩;have J:=nB.set G.o 3 (zA (1+(v4:Int)));have G:cB (nB h j.1.size #[zA (1+u),zA (1+M),zA (1+v3),zA (1+v4),zA 0,zA 0] 24):=(s.block _ (aB J) (by omega)).trans J;have J:cB (kF h B P g C/\qD B w h):=⟨Z,(I.o.2.upToD (iD.setCell o _)).trans s⟩
 have I:cB (nB h w.1.size #[zA 0,zA 0,zA 0,zA 0,zA 0,zA 0] 24):=(s.block _ (by have:=aB O.o;simpa using this) (by omega)).trans (O.o.keepS (by omega) _);have O:=G.o.cell 4;have d:=G.o.free 4;go_wp2_with fail;refine lC (T.o _ (J.o.1.below (iD.setCell (by show P<=j.1.size;omega) _))) ?_;rintro h ⟨Y,t⟩;have K:=nB.set G.o 4 (zA (v5:Int));have D:cB (nB h j.1.size #[zA (1+u),zA (1+M),zA (1+v3),zA (1+v4),zA v5,zA 0] 24):=(t.block _ (aB K) (by omega)).trans K;have G:cB (kF h B P g σ6/\qD B w h):=⟨Y,(J.o.2.upToD (iD.setCell o _)).trans t⟩
 have m:cB (nB h w.1.size #[zA 0,zA 0,zA 0,zA 0,zA 0,zA 0] 24):=(t.block _ (by have:=aB I.o;simpa using this) (by omega)).trans (I.o.keepS (by omega) _);have h:=D.o.cell 0;have c1:=D.o.cell 1;have c2:=D.o.cell 2;have U:=D.o.cell 3;have O:=D.o.cell 4;have h:=D.o.cell 5;have f:=D.o.free 5;have h:=m.o.cell 0;have I:=m.o.free 0;have I:=m.o.cell 1;have J:=m.o.free 1;have J:=m.o.cell 2;have O:=m.o.free 2;have O:=m.o.cell 3;have U:=m.o.free 3;have U:=m.o.cell 4;have Y:=m.o.free 4;have Y:=m.o.cell 5;have Z:=m.o.free 5;go_wp2;refine bodyPost_ret (v:=.agg #[zA (1+u),zA (1+M),zA (1+v3),zA (1+v4),zA v5,zA (100+W)]) (by simp[results,results12,go_sem,h,I,J,O,U,Y]) rfl ?_;have l:P<=w.1.size:=k;have h:P<=j.1.size:=by omega
 have L:w.1.size<=w.1.size:=Ia _;refine⟨rfl,G.o.1.below ?_,G.o.2.upToD ?_⟩;exact (((((((iD.setCell h _).setCell l _).setCell l _).setCell l _).setCell l _).setCell l _).setCell l _);exact (((((((iD.setCell o _).setCell L _).setCell L _).setCell L _).setCell L _).setCell L _).setCell L _)
