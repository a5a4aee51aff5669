import Derived.Test.YtejebmgbenmimaaGreatDoorJ36
import Derived.Test.YtejebmgbenmimaaGreatDoorJ37
import Derived.Test.YtejebmgbenmimaaGreatDoorJ38
import Derived.Test.YtejebmgbenmimaaGreatDoorJ40
set_option maxRecDepth 100000
set_option maxHeartbeats 8000000
set_option linter.defProp false
open Option renaming some->fA
open List renaming length->cB
namespace Go.Proofs.YtejebmgbenmimaaGreatDoor
open Go renaming World->jA,Value->mA
open Value renaming string->tA,slice->uA
open Go.RowKit Tryz
section
open Go.Maps
def gt(c:kC)(a b:nC)(f g:Nat)(N:vC)(r:fH)(w:jA)(h:jR w a b N)(i:yi c N r)(k:pC c N.now N.ts=true)(j:VR r):
 Calls prog 18 #[oE c,.agg (sC a f b g N),tA (oK r)] w λe l=>MJ (CC c N r).1 (tA (CC c N r).2) w e l:=by
 unfold CC;rw[Ja (by simp[i.up])];have m:=j.ok.1;have d:r.K∈[(1:Int)]\/r.K∈[(2:Int),3,4]\/r.K∈[(5:Int),6]:=by
  simp only[Lb,Ed,Bf];omega
 obtain d|d|d:=d;exact aIt c a b f g N r w h ⟨i,k,j,d⟩;exact aIu c a b f g N r w h ⟨i,k,j,d⟩;exact aIv c a b f g N r w h ⟨i,k,j,d⟩
end
section
open Go.Maps
attribute [local go_sem] lG jH uK rB.drewI dL.drewI dL.new dL.alloc dL.alloc2
structure StV where
 now:Int
 ts:List kB
 b:nC
 cb:Nat
def EG(zs:List StV):List mA:=zs.flatMap λz=>[dB z.now,uA z.b (cB z.ts) z.cb]
def yk(c:kC)(w:jA)(z:StV):Prop:=uC w z.b z.ts/\pC c z.now z.ts=true/\iG z.ts<=600000
def ej(v:mA):Prop:=∀s,v≠tA s
def dq(v:mA):Prop:=∃s,v=tA s
def aFx:rf ej:=Ca λs h=>h s rfl
def aJp:rf dq:=La λn h=>by obtain⟨s,e⟩:=h;cases e
def aFc:(prog.info? 40).map (λi=>(i.zero,i.size,i.bytes))=fA (fA (.agg #[dB 0,uA none 0 0]),2,32):=by kernel_rfl
def aFb:(prog.info? 9).map (λi=>(i.zero,i.size,i.bytes))=fA (fA (tA ByteArray.empty),1,16):=by kernel_rfl
def aX{w:jA}{B:Nat}{T m:TypeId}{t:Nat}{v:mA}{n:Nat}{u:List mA}{g:Nat}{d:Array mA}(h:w.ownsRow B T t v n u)(r:rB w g d m)(s:m≠T):v.ownBlock≠fA g:=by
 intro e;obtain⟨f,_⟩|⟨x,q,o,f,_,i,_⟩:=h.2;rw[f]at e;simp[mA.ownBlock]at e;rw[f]at e;simp only[mA.ownBlock,Qa]at e;subst e;have p:=i.symm.trans r;simp only[Qa,Obj.cells.injEq]at p;exact s p.2.1.symm
def qh{w:jA}{B r:Nat}{T f:TypeId}{z o:Nat}{v q:mA}{n y:Nat}{A p:List mA}(h:w.ownsRow B T z v n A)(u:w.ownsRow r f o q y p)(x:f≠T):∀g,q.ownBlock=fA g->¬v.ownBlock=fA g:=λg e=>by
 obtain⟨i,_⟩|⟨t,s,d,i,_,m,_⟩:=u.2;rw[i]at e;simp[mA.ownBlock]at e;rw[i]at e;simp only[mA.ownBlock,Qa]at e;subst e;exact aX h (show rB w t d f from m) x
def XG{c:kC}{W:jA}{N:vC}{a b:nC}{m:Nat}(g:wB W a N.d.fs)(h:uC W b N.ts)(e:rb c m N)(q:m<=600000):jR W a b N:=by
 obtain⟨p,i,n,_,r⟩:=dH e.st;have d:=e.w;have f:=(oZ (lsn:=N.lsn) e.st (by omega) e.lsn.1 e.lsn.2).2.2.2.1;have o:=e.lsn;exact⟨g,e.fit,h,by have:=(sN N.ts).1;omega,f,⟨by omega,by omega⟩,⟨by omega,by omega⟩⟩
structure DM(c:kC)(w W:World)(Y k j:Nat)(N:vC)(a:nC)(ca:Nat)(b:nC)(cb:Nat)(l l':Value)(zs:List StV)(ss:List Value):Prop where
 C:rB W w.1.size #[dB c.w,dB c.tl,dB c.ml,dB c.sh,dB c.ha,dB c.sg] 24
 D:rB W Y (sC a ca b cb N) 42
 S:GC ej W w.1.size 40 2 l (k+1) (EG zs)
 R:GC dq W w.1.size 9 1 l' j ss
 F:wB W a N.d.fs
 T:uC W b N.ts
 G:∀z∈zs,yk c W z
 L:cB zs=k+1
 B:zB w W
 Y:w.1.size<Y
section
variable {c:kC} {w W W':jA} {Y k j:Nat} {N M:vC} {a b a2 b2:nC} {ca cb ca2 cb2:Nat} {l l' l9:mA} {zs:List StV} {ss s9:List mA}
theorem DM.z(h:DM c w W Y k j N a ca b cb l l' zs ss)(d:zB W W'):DM c w W' Y k j N a ca b cb l l' zs ss:=
 ⟨h.C.z d,h.D.z d,h.S.z d,h.R.z d,h.F.z d,h.T.z d,λz e=>⟨(h.G z e).1.z d,(h.G z e).2⟩,h.L,xB h.B d,h.Y⟩
theorem DM.put(h:DM c w W Y k j N a ca b cb l l' zs ss)(o:rB W' Y (sC a2 ca2 b2 cb2 M) 42)(f:jB (·=Y) W W')(p:wB W a2 M.d.fs)(q:uC W b2 M.ts):DM c w W' Y k j M a2 ca2 b2 cb2 l l' zs ss:=
 have r:=h.Y
 ⟨f.blk h.C (by omega),o,h.S.turn f λg m e=>aX h.S.1 h.D (by decide) (e ▸ m),h.R.turn f λg m e=>aX h.R.1 h.D (by decide) (e ▸ m),p.store h.D (dG _ _ _ _ _) f,q.store h.D (dG _ _ _ _ _) f,
  λz n=>⟨(h.G z n).1.store h.D (dG _ _ _ _ _) f,(h.G z n).2⟩,h.L,h.B.trans (f.below h.B.size λi s e=>by omega),h.Y⟩
theorem DM.app(h:DM c w W Y k j N a ca b cb l l' zs ss){z:StV}(g:yk c W z)(m:GC ej W' w.1.size 40 2 l9 (k+1+1) (EG zs++[dB z.now,uA z.b (cB z.ts) z.cb]))(d:jB (λi=>l.ownBlock=fA i) W W'):DM c w W' Y (k+1) j N a ca b cb l9 l' (zs++[z]) ss:=
 ⟨d.blk h.C (aX h.S.1 h.C (by decide)),d.blk h.D (aX h.S.1 h.D (by decide)),by rw[show EG (zs++[z])=EG zs++[dB z.now,uA z.b (cB z.ts) z.cb] by simp[EG]];exact m,h.R.turn d (qh h.S.1 h.R.1 (by decide)),h.F.keptP h.S.2.2 d aFx,h.T.keptP h.S.2.2 d aFx,
  λy f=>by
   rcases Ee.1 f with f|f;exact ⟨(h.G y f).1.keptP h.S.2.2 d aFx,(h.G y f).2⟩;rw[Uf.1 f];exact⟨g.1.keptP h.S.2.2 d aFx,g.2⟩,by rw[Kb,h.L];rfl,h.B.trans (d.below h.B.size λi n e=>by have:=(h.S.1.lt i e).1;omega),h.Y⟩
theorem DM.rep(h:DM c w W Y k j N a ca b cb l l' zs ss)(g:GC dq W' w.1.size 9 1 l9 (j+1) s9)(d:jB (λi=>l'.ownBlock=fA i) W W'):DM c w W' Y k (j+1) N a ca b cb l l9 zs s9:=
 ⟨d.blk h.C (aX h.R.1 h.C (by decide)),d.blk h.D (aX h.R.1 h.D (by decide)),h.S.turn d (qh h.R.1 h.S.1 (by decide)),g,h.F.keptP h.R.2.2 d aJp,h.T.keptP h.R.2.2 d aJp,λy f=>⟨(h.G y f).1.keptP h.R.2.2 d aJp,(h.G y f).2⟩,h.L,h.B.trans (d.below h.B.size λi m e=>by have:=(h.R.1.lt i e).1;omega),h.Y⟩
end
def QQ{X:Nat}{w W:jA}{cs:Array mA}(h:zB w W)(d:w.1.size<=X):zB w (W.setRow X cs):=h.trans ((eH W X cs).below h.size λi f e=>by omega)
def uR{m u:jA}{X:Nat}{h i:nC}{e f:Nat}{g:vC}{q:mA}(o:rB u X (sC none 0 none 0 yN) 42)(p:m.1.size<=X)(r:zB m u)(s:wB u h g.d.fs)(t:uC u i g.ts):∃n a2 ca2 b2 cb2,mA.pointer (cC X)=.pointer (cC n)/\q=q/\m.1.size<=n/\rB (u.setRow X (sC h e i f g)) n (sC a2 ca2 b2 cb2 g) 42/\wB (u.setRow X (sC h e i f g)) a2 g.d.fs/\uC (u.setRow X (sC h e i f g)) b2 g.ts/\zB m (u.setRow X (sC h e i f g)):=
 ⟨X,h,e,i,f,rfl,rfl,p,o.row,s.store o (dG _ _ _ _ _) (eH _ _ _),t.store o (dG _ _ _ _ _) (eH _ _ _),QQ r p⟩
def qk{w:jA}{n g:Nat}{f:nC}{e:List QV}(m:RS LC w n g f e)(i:Nat)(h:i<cB e):SmR (rq e i):=by
 obtain⟨_,_,_,_,d⟩:=m.at h;obtain⟨o,p,q,r⟩:=QV.small d;rw[YN h];exact⟨(QV.said d).2.1.ok.1,q,(QV.said d).2.2,o,p,r⟩
def yt(c:kC)(f:Nat->fH)(n:Nat)(w:jA)(e:Ending)(i:jA):Prop:=∃(g d m h:Nat)(zs:List StV)(b:nC)(cb:Nat),e=.returned (.tuple #[uA (cC g) (n+1) d,uA (cC m) n h])/\cB zs=n+1/\i.ownsRow w.1.size 40 2 (uA (cC g) (n+1) d) (n+1) (EG zs)/\(∀z∈zs,yk c i z)/\zs[n]?=fA ⟨(nA c f n).now,(nA c f n).ts,b,cb⟩/\zB w i
def aAr(c:kC)(d:VN c)(a1:nC)(c1:Nat)(n:List QV)(m o:Nat)(w:jA)(h:RS LC w m o a1 n)(o:cB n<=17):
 Calls prog 5 #[oE c,uA a1 (cB n) c1] w λe m=>yt c (rq n) (cB n) w e m:=by
 have HC:=gB d;have J:=gB (λW=>YY c W d.1);have D:fB (rb c 0 nd1):=gB (pt d.1);have Z:=gB (aCu d (qk h) o);have o:nA c (rq n) 0=nd1:=rfl;rw[<-o]at J D;generalize hM:nA c (rq n) 0=M at J D;unfold MJ at J;clear o;have HQ:=gB h;clear d h;unfold oE at *;have d:=cK;go_enter func5,ntmps5;go_upto_region 1 with fail;refine uI (C:=λW=>Code.wp prog _ _ _ W) ?_;intro L o F d;clear d;obtain⟨T,x1,x2,x3,x4,x5⟩:=F.c6;go_wp2_with fail;refine(J.o _).mono ?_;rintro e w1 ⟨a,ca,b,cb,rfl,d,B,E⟩;have G:=gB (F.z E);have S:=gB (xB o E);have h:=eB G.o;have I:=gB (Vc d B);clear E o F T x1 x2 x3 x4 x5 J d B L;go_upto_region 2 with fail;refine dY (C:=λW=>Code.wp prog _ _ _ W) ?_;intro w2 P F;have C2:=gB (G.o.z P);have L:=gB (xB S.o P);have O:=gB (Vc (I.o.1.z P) (I.o.2.z P));have o:w.1.size<w1.1.size:=h;clear G S I h P;generalize w1.1.size=Y at *;have n9:gD w2 Y 9 (dB M.now):=F.cell 9;have J:gD w2 Y 10 (uA b (cB M.ts) cb):=F.cell 10;have G:=gB F;clear F;go_upto_region 3 with fail;refine uI (C:=λW=>Code.wp prog _ _ _ W) ?_;intro S x F h;clear h n9 J;have S3:=gB F;have N3:=gB (G.o.z x);have C3:=gB (C2.o.z x);have B3:=gB (xB L.o x);have U:=gB (Vc (O.o.1.z x) (O.o.2.z x));have I:=L.o.size;clear x F G C2 L O;generalize w2.1.size=G at *;clear w2;go_upto_region 4 with fail;refine uI (C:=λW=>Code.wp prog _ _ _ W) ?_;intro w4 r RB h;clear h;have R4:fB (DM c w w4 Y 0 0 M a ca b cb (uA (cC G) 1 1) (uA (cC S.1.size) 0 0) [⟨M.now,M.ts,b,cb⟩] []):=by
  have L:=S3.o.z r;refine⟨C3.o.z r,N3.o.z r,⟨⟨rfl,.inr ⟨G,1,_,rfl,I,L,Ia _,by simp[maxLen],rfl,rfl⟩⟩,by simp[mA.ownBlock],λg j u O h=>?_⟩,⟨⟨rfl,.inr ⟨S.1.size,0,_,rfl,B3.o.size,RB,Ia _,by simp[maxLen],rfl,rfl⟩⟩,by simp[mA.ownBlock],λg j u O h=>?_⟩,U.o.1.z r,U.o.2.z r,λz F=>?_,rfl,xB B3.o r,o⟩
  .simp only[mA.ownBlock,Qa]at O;subst O;rw[L.cell]at h;match j with
   |0|1=>simp at h;subst h;intro s e;cases e
   |j+2=>simp at h
  .simp only[mA.ownBlock,Qa]at O;subst O;rw[RB.cell]at h;simp at h
  rw[Uf.1 F];exact⟨U.o.2.z r,D.o.st,Ua D.o.w (by omega)⟩
 clear r RB C3 N3 S3 B3 U I o;generalize S.1.size=h at *;clear S;go_wp2;go_loopw [8,9,11,12,13,26] (λl l' _ _ _ i wr=>∃(k:Nat)(N:vC)(a:nC)(ca:Nat)(b:nC)(cb:Nat)(zs:List StV)(ss:List mA)(g O g' o:Nat),k<=cB n/\nA c (rq n) k=N/\zs[k]?=fA ⟨N.now,N.ts,b,cb⟩/\i=dB (k:Nat)/\l=uA (cC g) (k+1) O/\l'=uA (cC g') k o/\fB (DM c w wr Y k k N a ca b cb l l' zs ss)) (λ_ _ _ _ _ i _=>cB n-(intOf i).toNat)
 case atStart=>exact⟨0,M,a,ca,b,cb,_,_,G,1,h,0,Oa _,hM,rfl,rfl,rfl,rfl,R4.o⟩
 case round=>
  clear R4 D hM;obtain⟨k,N,a,ca,b,cb,zs,ss,g,O,g',o,L,G,hzk,rfl,rfl,rfl,R⟩:=hrel;by_cases h:k<cB n
  .have hlt':(k:Int)<(cB n:Nat):=by omega
   obtain⟨D,rfl,I,f,Q⟩:=(HQ.o.z R.o.B).at h;have T:=f 0 (by decide);have x1:=f 1 (by decide);have x2:=f 2 (by decide);have x3:=f 3 (by decide);have x4:=f 4 (by decide);simp only[LC,Ob,Ga,Bg]at T x1 x2 x3 x4;have HP:=gB (QV.said Q);have D:=Z.o k L;rw[G]at D;have y:=qk HQ.o k h;rw[YN h]at y;have K:=gB (Vc D (YK HC.o D (by omega) y));clear f Q D y;have D:nA c (rq n) (k+1)=(CC c N (rq n k)).1:=by rw[<-G];rfl
   rw[YN h]at D;generalize n[k]=q at *;go_upto_region 7 with fail;refine uI (C:=λW=>Code.wp prog _ _ _ W) ?_;intro X L QB h;clear h T x1 x2 x3 x4 I;obtain⟨y,h,hxs⟩:=HP.o;have U:cB q.req.P=cB q.ys:=Xa ..;have I:=gB (λW(S:zB wr W)=>CZ q.req q.a q.c W (y.z S) h);rw[U]at I;have Z:=gB (λW(S:zB wr W)=>gt c a b ca cb N q.req W (XG (R.o.z S).F (R.o.z S).T K.o.1.I (by omega)) K.o.2.1 K.o.1.I.st h);have S:=gB K.o.2.2.I;unfold MJ oE at Z;generalize CC c N q.req=V at *;obtain⟨A,rp⟩:=V;dsimp only at Z S D;replace I:fB (∀W,zB wr W->gF 8 #[.agg #[dB q.K,tA q.T,tA q.R,dB q.U,uA q.a (cB q.ys) q.c]] W (tA (oK q.req))):=I;clear y h hxs U HP K;generalize oK q.req=tx at *;have R5:=gB (R.o.z L);have h:=eB QB;have h:=eB R5.o.C;have h:=eB R5.o.D;have H:=gB L;have t:=gB (λm(h:zB X m)=>(show(rB m Y (sC a ca b cb N) 42)/\(gD m w.1.size 0 (dB c.w)/\gD m w.1.size 1 (dB c.tl)/\gD m w.1.size 2 (dB c.ml)/\gD m w.1.size 3 (dB c.sh)/\gD m w.1.size 4 (dB c.ha)/\gD m w.1.size 5 (dB c.sg))/\(gD m wr.1.size 0 (dB q.K)/\gD m wr.1.size 1 (tA q.T)/\gD m wr.1.size 2 (tA q.R)/\gD m wr.1.size 3 (dB q.U)/\gD m wr.1.size 4 (uA q.a (cB q.ys) q.c)) from⟨R5.o.D.z h,(R5.o.C.z h).c6,(QB.z h).c5⟩));obtain⟨k0,⟨T,x1,x2,x3,x4,x5⟩,q0,q1,q2,q3,q4⟩:=t.o X jD;have rN:=rF a ca b cb N 42;have fN:=vE a ca b cb N;go_cut [12,13] (λp s h=>∃X5 a' ca' b' cb',p=.pointer (cC X5)/\s=tA rp/\X.1.size<=X5/\rB h X5 (sC a' ca' b' cb' A) 42/\wB h a' A.d.fs/\uC h b' A.ts/\zB X h)
   case first=>as_aux_lemma=>
    go_region_held3 (λm=>(rB m Y (sC a ca b cb N) 42)/\(m.cell? (iB w.1.size 0)=fA (dB c.w)/\m.cell? (iB w.1.size 1)=fA (dB c.tl)/\m.cell? (iB w.1.size 2)=fA (dB c.ml)/\m.cell? (iB w.1.size 3)=fA (dB c.sh)/\m.cell? (iB w.1.size 4)=fA (dB c.ha)/\m.cell? (iB w.1.size 5)=fA (dB c.sg))/\(m.cell? (iB wr.1.size 0)=fA (dB q.K)/\m.cell? (iB wr.1.size 1)=fA (tA q.T)/\m.cell? (iB wr.1.size 2)=fA (tA q.R)/\m.cell? (iB wr.1.size 3)=fA (dB q.U)/\m.cell? (iB wr.1.size 4)=fA (uA q.a (cB q.ys) q.c)))
     (first|with_reducible exact t.o _ jD.drew|with_reducible exact t.o _ (aC.drew)|with_reducible exact t.o _ h|with_reducible exact t.o _ (xB h aC)|with_reducible exact t.o _ U|with_reducible exact t.o _ (xB U aC)|with_reducible exact t.o _ (QQ U (Ia _))|with_reducible exact t.o _ (QQ U h.size)|with_reducible exact t.o _ (QQ (xB U aC) U.size))
     (first
     |(go_at_call 8;refine oC (I.o _ (by first|with_reducible exact xB H.o jD.drew|with_reducible exact xB H.o (aC.drew))) ?_;intro m E;have h:zB X m:=(by first|with_reducible exact xB jD.drew E|with_reducible exact xB (aC.drew) E);have k1:=t.o _ h;(first|(have F:=aJ E)|skip))
     |(go_at_call 18;refine(Z.o _ (by first|with_reducible exact xB H.o h|with_reducible exact xB H.o (xB h aC))).mono ?_;rintro e u2 ⟨a',ca',b',cb',rfl,d,B,E⟩;have U:zB X u2:=(by first|with_reducible exact xB h E|with_reducible exact xB (xB h aC) E);have k2:=t.o _ U;(first|(have F:=F.z E)|(have F:rB _ m.1.size _ _:=cM E)|skip);(try (have bx:=F.box rfl))))
    all_goals(go_wp2_with fail;go_meet)
    .exact uR (rB.new u2 _ _) U.size (xB U aC) (d.z aC) (B.z aC)
    .exact uR F h.size U d B
    exact uR F (Ia _) U d B
   obtain⟨X5,a2,ca2,b2,cb2,rfl,rfl,h,XB,d,B,h⟩:=hcut;rename jA=>U;have m:=gB (R5.o.z h);have F:=gB (Vc d B);have hNX:Y<U.1.size:=eB m.o.D;have bx:=m.o.D.box rfl;have rM:=rF a2 ca2 b2 cb2 A 42;have fM:=vE a2 ca2 b2 cb2 A;have U:=R.o.L;clear d B h R5 t I Z H L QB k0 T x1 x2 x3 x4 x5 q0 q1 q2 q3 q4 rN fN R;go_upto_region 9 with fail;refine bW (C:=λW=>Code.wp prog _ _ _ W) m.o.D ?_;intro h B I;have d:=gB (m.o.put B I F.o.1 F.o.2);have n9:gD h Y 9 (dB A.now):=B.cell 9;have J:gD h Y 10 (uA b2 (cB A.ts) cb2):=B.cell 10;have h:=d.o.B.size;clear B I m F XB bx rM fM;go_upto_region 10 with(at_builtin;refine qv rfl _ _ rfl underlying29 aFc rfl (by omega) (by omega) (v:=uA (cC g) (k+1) O) rfl d.o.S rfl (by simp) rfl (by simp[mA.oneCell']) (by omega) h (by simp[ej]) (by simp[ej,mA.cells]) ?_;intro L T m m B)
   have F:=gB (d.o.app (z:=⟨A.now,A.ts,b2,cb2⟩) ⟨d.o.T,S.o.st,Ua S.o.w (by omega)⟩ m.o B.o);have I:=F.o.B.size;clear m B n9 J h d;go_wp2_with(at_builtin;refine qv rfl _ _ rfl underlying30 aFb rfl (by omega) (by omega) (v:=uA (cC g') k o) rfl F.o.R rfl (by simp) rfl (by simp[mA.oneCell']) (by omega) I (by simp[dq]) (by simp[dq,mA.cells]) ?_;intro d h I m B);exact⟨⟨k+1,A,a2,ca2,b2,cb2,zs++[⟨A.now,A.ts,b2,cb2⟩],_,L,T,d,h,by omega,D,by rw[Uc (by rw[U];omega),U];simp,by go_num,rfl,rfl,gB (F.o.rep m.o B.o)⟩,by simp[intOf];omega⟩
  obtain rfl:k=cB n:=by omega
  go_wp2;refine bodyPost_ret (v:=.tuple #[uA (cC g) (cB n+1) O,uA (cC g') (cB n) o]) (by simp[results,results5,go_sem]) rfl ?_;rw[<-G]at hzk;exact⟨g,O,g',o,zs,b,cb,rfl,R.o.L,R.o.S.1,R.o.G,hzk,R.o.B⟩
end
