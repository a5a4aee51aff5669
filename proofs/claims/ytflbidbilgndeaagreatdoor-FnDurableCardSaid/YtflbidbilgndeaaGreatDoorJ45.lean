import Derived.Test.YtflbidbilgndeaaGreatDoorJ44
import Derived.Test.YtflbidbilgndeaaGreatDoorJ43
set_option maxRecDepth 100000
set_option maxHeartbeats 8000000
set_option linter.defProp false
namespace Go.Proofs.YtflbidbilgndeaaGreatDoor
open Go.RowKit Tryz
section
open Go.Maps
attribute [local go_sem] jH xH xN nB.drewI qN.drewI qN.new qN.alloc qN.alloc2
structure StV where
 now:Int
 ts:List fB
 b:mC
 cb:Nat
def GL(zs:List StV):List Value:=zs.flatMap λz=>[zA z.now,.slice z.b z.ts.length z.cb]
def aDc(c:iC)(w:World)(z:StV):Prop:=xC w z.b z.ts/\nC c z.now z.ts=true/\dG z.ts<=600000
def kg(v:Value):Prop:=∀s,v≠.string s
def ji(v:Value):Prop:=∃s,v=.string s
def aKd:xp kg:=Ca λs h=>h s rfl
def aNo:xp ji:=La λn h=>by obtain⟨s,e⟩:=h;cases e
def aJe:(prog.info? 40).map (λi=>(i.zero,i.size,i.bytes))=some (some (.agg #[zA 0,.slice none 0 0]),2,32):=by kernel_rfl
def gY{w:World}{B:Nat}{T m:TypeId}{t:Nat}{v:Value}{n:Nat}{u:List Value}{g:Nat}{d:Array Value}(h:w.ownsRow B T t v n u)(r:nB w g d m)(s:m≠T):v.ownBlock≠some g:=by
 intro e;obtain⟨f,_⟩|⟨x,q,o,f,_,i,_⟩:=h.2;rw[f]at e;simp[Value.ownBlock]at e;rw[f]at e;simp only[Value.ownBlock,Qa]at e;subst e;have p:=i.symm.trans r;simp only[Qa,Obj.cells.injEq]at p;exact s p.2.1.symm
def wd{w:World}{B r:Nat}{T f:TypeId}{z o:Nat}{v q:Value}{n y:Nat}{A p:List Value}(h:w.ownsRow B T z v n A)(u:w.ownsRow r f o q y p)(x:f≠T):∀g,q.ownBlock=some g->¬v.ownBlock=some g:=λg e=>by
 obtain⟨i,_⟩|⟨t,s,d,i,_,m,_⟩:=u.2;rw[i]at e;simp[Value.ownBlock]at e;rw[i]at e;simp only[Value.ownBlock,Qa]at e;subst e;exact gY h (show nB w t d f from m) x
def aFb{c:iC}{W:World}{N:wC}{a b:mC}{m:Nat}(g:tB W a N.d.fs)(h:xC W b N.ts)(e:NdI c m N)(q:m<=600000):eX W a b N:=by
 obtain⟨p,i,n,_,r⟩:=gH e.st;have d:=e.w;have f:=(IY (lsn:=N.lsn) e.st (by omega) e.lsn.1 e.lsn.2).2.2.2.1;have o:=e.lsn;exact⟨g,e.fit,h,by have:=(lM N.ts).1;omega,f,⟨by omega,by omega⟩,⟨by omega,by omega⟩⟩
structure FQ(c:iC)(w W:World)(Y k j:Nat)(N:wC)(a:mC)(ca:Nat)(b:mC)(cb:Nat)(l l':Value)(zs:List StV)(ss:List Value):Prop where
 C:nB W w.1.size #[zA c.w,zA c.tl,zA c.ml,zA c.sh,zA c.ha,zA c.sg] 24
 D:nB W Y (sC a ca b cb N) 42
 S:JJ kg W w.1.size 40 2 l (k+1) (GL zs)
 R:JJ ji W w.1.size 9 1 l' j ss
 F:tB W a N.d.fs
 T:xC W b N.ts
 G:∀z∈zs,aDc c W z
 L:zs.length=k+1
 B:uB w W
 Y:w.1.size<Y
section
variable {c:iC} {w W W':World} {Y k j:Nat} {N M:wC} {a b a2 b2:mC} {ca cb ca2 cb2:Nat} {l l' l9:Value} {zs:List StV} {ss s9:List Value}
theorem FQ.z(h:FQ c w W Y k j N a ca b cb l l' zs ss)(d:uB W W'):FQ c w W' Y k j N a ca b cb l l' zs ss:=
 ⟨h.C.z d,h.D.z d,h.S.z d,h.R.z d,h.F.z d,h.T.z d,λz e=>⟨(h.G z e).1.z d,(h.G z e).2⟩,h.L,vB h.B d,h.Y⟩
theorem FQ.put(h:FQ c w W Y k j N a ca b cb l l' zs ss)(o:nB W' Y (sC a2 ca2 b2 cb2 M) 42)(f:eB (·=Y) W W')(p:tB W a2 M.d.fs)(q:xC W b2 M.ts):FQ c w W' Y k j M a2 ca2 b2 cb2 l l' zs ss:=
 have r:=h.Y
 ⟨f.blk h.C (by omega),o,h.S.turn f λg m e=>gY h.S.1 h.D (by decide) (e ▸ m),h.R.turn f λg m e=>gY h.R.1 h.D (by decide) (e ▸ m),p.store h.D (zG _ _ _ _ _) f,q.store h.D (zG _ _ _ _ _) f,
  λz n=>⟨(h.G z n).1.store h.D (zG _ _ _ _ _) f,(h.G z n).2⟩,h.L,h.B.trans (f.below h.B.size λi s e=>by omega),h.Y⟩
theorem FQ.app(h:FQ c w W Y k j N a ca b cb l l' zs ss){z:StV}(g:aDc c W z)(m:JJ kg W' w.1.size 40 2 l9 (k+1+1) (GL zs++[zA z.now,.slice z.b z.ts.length z.cb]))(d:eB (λi=>l.ownBlock=some i) W W'):FQ c w W' Y (k+1) j N a ca b cb l9 l' (zs++[z]) ss:=
 ⟨d.blk h.C (gY h.S.1 h.C (by decide)),d.blk h.D (gY h.S.1 h.D (by decide)),by rw[show GL (zs++[z])=GL zs++[zA z.now,.slice z.b z.ts.length z.cb] by simp[GL]];exact m,h.R.turn d (wd h.S.1 h.R.1 (by decide)),h.F.keptP h.S.2.2 d aKd,h.T.keptP h.S.2.2 d aKd,
  λy f=>by
   rcases Ee.1 f with f|f;exact ⟨(h.G y f).1.keptP h.S.2.2 d aKd,(h.G y f).2⟩;rw[Uf.1 f];exact⟨g.1.keptP h.S.2.2 d aKd,g.2⟩,by rw[Kb,h.L];rfl,h.B.trans (d.below h.B.size λi n e=>by have:=(h.S.1.lt i e).1;omega),h.Y⟩
theorem FQ.rep(h:FQ c w W Y k j N a ca b cb l l' zs ss)(g:JJ ji W' w.1.size 9 1 l9 (j+1) s9)(d:eB (λi=>l'.ownBlock=some i) W W'):FQ c w W' Y k (j+1) N a ca b cb l l9 zs s9:=
 ⟨d.blk h.C (gY h.R.1 h.C (by decide)),d.blk h.D (gY h.R.1 h.D (by decide)),h.S.turn d (wd h.R.1 h.S.1 (by decide)),g,h.F.keptP h.R.2.2 d aNo,h.T.keptP h.R.2.2 d aNo,λy f=>⟨(h.G y f).1.keptP h.R.2.2 d aNo,(h.G y f).2⟩,h.L,h.B.trans (d.below h.B.size λi m e=>by have:=(h.R.1.lt i e).1;omega),h.Y⟩
end
def UG{X:Nat}{w W:World}{cs:Array Value}(h:uB w W)(d:w.1.size<=X):uB w (W.setRow X cs):=h.trans ((cH W X cs).below h.size λi f e=>by omega)
def sS{m u:World}{X:Nat}{h i:mC}{e f:Nat}{g:wC}{q:Value}(o:nB u X (sC none 0 none 0 uP) 42)(p:m.1.size<=X)(r:uB m u)(s:tB u h g.d.fs)(t:xC u i g.ts):∃n a2 ca2 b2 cb2,Value.pointer (yB X)=.pointer (yB n)/\q=q/\m.1.size<=n/\nB (u.setRow X (sC h e i f g)) n (sC a2 ca2 b2 cb2 g) 42/\tB (u.setRow X (sC h e i f g)) a2 g.d.fs/\xC (u.setRow X (sC h e i f g)) b2 g.ts/\uB m (u.setRow X (sC h e i f g)):=
 ⟨X,h,e,i,f,rfl,rfl,p,o.row,s.store o (zG _ _ _ _ _) (cH _ _ _),t.store o (zG _ _ _ _ _) (cH _ _ _),UG r p⟩
def wm{w:World}{n g:Nat}{f:mC}{e:List QV}(m:TQ IL w n g f e)(i:Nat)(h:i<e.length):SmR (rq e i):=by
 obtain⟨_,_,_,_,d⟩:=m.at h;obtain⟨o,p,q,r⟩:=QV.small d;rw[cu h];exact⟨(QV.said d).2.1.ok.1,q,(QV.said d).2.2,o,p,r⟩
def rA(c:iC)(f:Nat->gG)(k:Nat):jB:=(aZ c (nA c f k) (f k)).2
def rsA(c:iC)(f:Nat->gG)(n:Nat):List Value:=(List.range n).map λi=>.string (rA c f i)
def aHa(c:iC)(f:Nat->gG)(n:Nat):rsA c f (n+1)=rsA c f n++[.string (rA c f n)]:=by simp[rsA,List.range_succ]
def aDh(c:iC)(f:Nat->gG)(n:Nat)(w:World)(e:Ending)(i:World):Prop:=∃(g h m d:Nat)(zs:List StV),e=.returned (.tuple #[.slice (yB g) (n+1) h,.slice (yB m) n d])/\zs.length=n+1/\i.ownsRow w.1.size 40 2 (.slice (yB g) (n+1) h) (n+1) (GL zs)/\i.ownsRow w.1.size 9 1 (.slice (yB m) n d) n (rsA c f n)/\(∀z∈zs,aDc c i z)/\(∀k,k<=n->∃b cb,zs[k]?=some ⟨(nA c f k).now,(nA c f k).ts,b,cb⟩)/\uB w i
def aEz(c:iC)(hc:en c)(a1:mC)(c1:Nat)(n:List QV)(lo hi:Nat)(w:World)(hq:TQ IL w lo hi a1 n)(hl:n.length<=17):
 Calls prog 5 #[rE c,.slice a1 n.length c1] w λe m=>aDh c (rq n) n.length w e m:=by
 have HC:=bB hc;have J:=bB (λW=>dh c W hc.1);have HI:cB (NdI c 0 nd1):=bB (bm hc.1);have HRM:=bB (aGx hc (wm hq) hl);have h0:nA c (rq n) 0=nd1:=rfl;rw[<-h0]at J HI;generalize hM:nA c (rq n) 0=M at J HI;unfold TY at J;have HQ:=bB hq;unfold rE at *;have fz:=vN;go_enter func5,ntmps5;go_upto_region 1 with fail;refine eI (C:=λW=>Code.wp prog _ _ _ W) ?_;intro w0 hb0 CB hz0;clear hz0;have x0:=CB.c6;go_wp2_with fail;refine(J.o _).mono ?_;rintro e w1 ⟨a,ca,b,cb,rfl,hF,hT,E⟩;have C1:=bB (CB.z E);have B1:=bB (vB hb0 E);have hlt1:=aB C1.o;have FT:=bB (Vc hF hT);go_upto_region 2 with fail;refine JO (C:=λW=>Code.wp prog _ _ _ W) ?_;intro w2 P NB;have C2:=bB (C1.o.z P);have B2:=bB (vB B1.o P);have F2:=bB (Vc (FT.o.1.z P) (FT.o.2.z P));have hYw:w.1.size<w1.1.size:=hlt1;clear C1 B1 FT hlt1 P;generalize w1.1.size=Y at *;have n9:tC w2 Y 9 (zA M.now):=NB.cell 9;have n10:tC w2 Y 10 (.slice b M.ts.length cb):=NB.cell 10;have N2:=bB NB;clear NB;go_upto_region 3 with fail;refine eI (C:=λW=>Code.wp prog _ _ _ W) ?_;intro w3 x SB hz3;clear hz3 n9 n10;have S3:=bB SB;have N3:=bB (N2.o.z x);have C3:=bB (C2.o.z x);have B3:=bB (vB B2.o x);have F3:=bB (Vc (F2.o.1.z x) (F2.o.2.z x));have hs2:=B2.o.size;clear x SB N2 C2 B2 F2;generalize w2.1.size=G at *;go_upto_region 4 with fail;refine eI (C:=λW=>Code.wp prog _ _ _ W) ?_;intro w4 r RB hz4;have R4:cB (FQ c w w4 Y 0 0 M a ca b cb (.slice (yB G) 1 1) (.slice (yB w3.1.size) 0 0) [⟨M.now,M.ts,b,cb⟩] []):=by
  have hSB:=S3.o.z r;refine⟨C3.o.z r,N3.o.z r,⟨⟨rfl,.inr ⟨G,1,_,rfl,hs2,hSB,Ia _,by simp[maxLen],rfl,rfl⟩⟩,by simp[Value.ownBlock],λg j u hg hu=>?_⟩,⟨⟨rfl,.inr ⟨w3.1.size,0,_,rfl,B3.o.size,RB,Ia _,by simp[maxLen],rfl,rfl⟩⟩,by simp[Value.ownBlock],λg j u hg hu=>?_⟩,F3.o.1.z r,F3.o.2.z r,λz hz=>?_,rfl,vB B3.o r,hYw⟩
  .simp only[Value.ownBlock,Qa]at hg;subst hg;rw[hSB.cell]at hu;match j with
   |0|1=>simp at hu;subst hu;intro s e;cases e
   |j+2=>simp at hu
  .simp only[Value.ownBlock,Qa]at hg;subst hg;rw[RB.cell]at hu;simp at hu
  rw[Uf.1 hz];exact⟨F3.o.2.z r,HI.o.st,Ua HI.o.w (by omega)⟩
 clear r RB C3 N3 S3 B3 F3 hs2 hYw;generalize w3.1.size=G2 at *;clear w3;go_wp2;go_loopw [8,9,11,12,13,26] (λl l' _ _ _ i wr=>∃(k:Nat)(N:wC)(a:mC)(ca:Nat)(b:mC)(cb:Nat)(zs:List StV)(g O g' o:Nat),k<=n.length/\nA c (rq n) k=N/\zs[k]?=some ⟨N.now,N.ts,b,cb⟩/\i=zA (k:Nat)/\l=.slice (yB g) (k+1) O/\l'=.slice (yB g') k o/\cB (FQ c w wr Y k k N a ca b cb l l' zs (rsA c (rq n) k))/\cB (∀j,j<=k->∃b cb,zs[j]?=some ⟨(nA c (rq n) j).now,(nA c (rq n) j).ts,b,cb⟩)) (λ_ _ _ _ _ i _=>n.length-(intOf i).toNat)
 case atStart=>exact⟨0,M,a,ca,b,cb,_,G,1,G2,0,Oa _,hM,rfl,rfl,rfl,rfl,R4.o,bB λj hj=>⟨b,cb,by rw[show j=0 by omega,hM];rfl⟩⟩
 case round=>
  clear R4 HI hM;obtain⟨k,N,a,ca,b,cb,zs,g,O,g',o,hk,hnk,hzk,rfl,rfl,rfl,R,HZ⟩:=hrel;by_cases hlt:k<n.length
  .have hlt':(k:Int)<(n.length:Nat):=by omega
   obtain⟨g1,rfl,hg1,f,Q⟩:=(HQ.o.z R.o.B).at hlt;have x0:=f 0 (by decide);have x1:=f 1 (by decide);have x2:=f 2 (by decide);have x3:=f 3 (by decide);have x4:=f 4 (by decide);simp only[IL,Ob,Ga,Bg]at x0 x1 x2 x3 x4;have HP:=bB (QV.said Q);have hrm:=HRM.o k hk;rw[hnk]at hrm;have y:=wm HQ.o k hlt;rw[cu hlt]at y;have K:=bB (Vc hrm (cj HC.o hrm (by omega) y));clear f Q hrm y;have hn1:nA c (rq n) (k+1)=(aZ c N (rq n k)).1:=by rw[<-hnk];rfl
   have hr1:rA c (rq n) k=(aZ c N (rq n k)).2:=by rw[<-hnk];rfl
   have hs1:=aHa c (rq n) k;rw[hr1]at hs1;rw[cu hlt]at hn1 hs1;clear hr1;generalize n[k]=q at *;go_upto_region 7 with fail;refine eI (C:=λW=>Code.wp prog _ _ _ W) ?_;intro X hb5 QB hz5;clear hz5 x0 x1 x2 x3 x4 hg1;obtain⟨y,hvr,hxs⟩:=HP.o;have hql:q.req.P.length=q.ys.length:=Xa ..;have I:=bB (λW(hW:uB wr W)=>oU q.req q.a q.c W (y.z hW) hvr);rw[hql]at I;have Z:=bB (λW(hW:uB wr W)=>mu c a b ca cb N q.req W (aFb (R.o.z hW).F (R.o.z hW).T K.o.1.I (by omega)) K.o.2.1 K.o.1.I.st hvr);have HIV:=bB K.o.2.2.I;unfold TY rE at Z;generalize aZ c N q.req=V at *;obtain⟨A,rp⟩:=V;dsimp only at Z HIV hn1 hs1;replace I:cB (∀W,uB wr W->dF 8 #[.agg #[zA q.K,.string q.T,.string q.R,zA q.U,.slice q.a q.ys.length q.c]] W (.string (sK q.req))):=I;clear y hvr hxs hql HP K;generalize sK q.req=tx at *;have R5:=bB (R.o.z hb5);have H:=bB hb5;have t:=bB (λm(h:uB X m)=>(show(nB m Y (sC a ca b cb N) 42)/\(tC m w.1.size 0 (zA c.w)/\tC m w.1.size 1 (zA c.tl)/\tC m w.1.size 2 (zA c.ml)/\tC m w.1.size 3 (zA c.sh)/\tC m w.1.size 4 (zA c.ha)/\tC m w.1.size 5 (zA c.sg))/\(tC m wr.1.size 0 (zA q.K)/\tC m wr.1.size 1 (.string q.T)/\tC m wr.1.size 2 (.string q.R)/\tC m wr.1.size 3 (zA q.U)/\tC m wr.1.size 4 (.slice q.a q.ys.length q.c)) from⟨R5.o.D.z h,(R5.o.C.z h).c6,(QB.z h).c5⟩));obtain⟨k0,⟨x0,x1,x2,x3,x4,x5⟩,q0,q1,q2,q3,q4⟩:=t.o X iD;have rN:=yG a ca b cb N 42;have fN:=qF a ca b cb N;go_cut [12,13] (λp s wx=>∃X5 a' ca' b' cb',p=.pointer (yB X5)/\s=.string rp/\X.1.size<=X5/\nB wx X5 (sC a' ca' b' cb' A) 42/\tB wx a' A.d.fs/\xC wx b' A.ts/\uB X wx)
   case first=>as_aux_lemma=>
    go_region_held3 (λm=>(nB m Y (sC a ca b cb N) 42)/\(m.cell? (dB w.1.size 0)=some (zA c.w)/\m.cell? (dB w.1.size 1)=some (zA c.tl)/\m.cell? (dB w.1.size 2)=some (zA c.ml)/\m.cell? (dB w.1.size 3)=some (zA c.sh)/\m.cell? (dB w.1.size 4)=some (zA c.ha)/\m.cell? (dB w.1.size 5)=some (zA c.sg))/\(m.cell? (dB wr.1.size 0)=some (zA q.K)/\m.cell? (dB wr.1.size 1)=some (.string q.T)/\m.cell? (dB wr.1.size 2)=some (.string q.R)/\m.cell? (dB wr.1.size 3)=some (zA q.U)/\m.cell? (dB wr.1.size 4)=some (.slice q.a q.ys.length q.c)))
     (first|with_reducible exact t.o _ iD.drew|with_reducible exact t.o _ (zB.drew)|with_reducible exact t.o _ r1|with_reducible exact t.o _ (vB r1 zB)|with_reducible exact t.o _ U|with_reducible exact t.o _ (vB U zB)|with_reducible exact t.o _ (UG U (Ia _))|with_reducible exact t.o _ (UG U r1.size)|with_reducible exact t.o _ (UG (vB U zB) U.size))
     (first
     |(go_at_call 8;refine lC (I.o _ (by first|with_reducible exact vB H.o iD.drew|with_reducible exact vB H.o (zB.drew))) ?_;intro u1 E;have r1:uB X u1:=(by first|with_reducible exact vB iD.drew E|with_reducible exact vB (zB.drew) E);have k1:=t.o _ r1;(first|(have hz:=uK E)|skip))
     |(go_at_call 16;refine(Z.o _ (by first|with_reducible exact vB H.o r1|with_reducible exact vB H.o (vB r1 zB))).mono ?_;rintro e u2 ⟨a',ca',b',cb',rfl,hF,hT,E⟩;have U:uB X u2:=(by first|with_reducible exact vB r1 E|with_reducible exact vB (vB r1 zB) E);have k2:=t.o _ U;(first|(have hz:=hz.z E)|(have hz:nB _ u1.1.size _ _:=sM E)|skip);(try (have bx:=hz.box rfl))))
    all_goals(go_wp2_with fail;go_meet)
    .exact sS (nB.new u2 _ _) U.size (vB U zB) (hF.z zB) (hT.z zB)
    .exact sS hz r1.size U hF hT
    exact sS hz (Ia _) U hF hT
   obtain⟨X5,a2,ca2,b2,cb2,rfl,rfl,hX5,XB,hF,hT,hb6⟩:=hcut;rename World=>w6;have R6:=bB (R5.o.z hb6);have F6:=bB (Vc hF hT);have bx:=R6.o.D.box rfl;have rM:=yG a2 ca2 b2 cb2 A 42;have fM:=qF a2 ca2 b2 cb2 A;have hL:=R.o.L;clear hF hT hb6 R5 t I Z H hb5 QB k0 x0 x1 x2 x3 x4 x5 q0 q1 q2 q3 q4 rN fN R;go_upto_region 9 with fail;refine DP (C:=λW=>Code.wp prog _ _ _ W) R6.o.D ?_;intro w7 D7 T7;have R7:=bB (R6.o.put D7 T7 F6.o.1 F6.o.2);have n9:tC w7 Y 9 (zA A.now):=D7.cell 9;have n10:tC w7 Y 10 (.slice b2 A.ts.length cb2):=D7.cell 10;have hsz:=R7.o.B.size;clear D7 T7 R6 F6 XB bx rM fM;go_upto_region 10 with(at_builtin;refine xi rfl _ _ rfl underlying29 aJe rfl (by omega) (by omega) (v:=.slice (yB g) (k+1) O) rfl R7.o.S rfl (by simp) rfl (by simp[Value.oneCell']) (by omega) hsz (by simp[kg]) (by simp[kg,Value.cells]) ?_;intro g8 c8 w8 HO HT)
   have R8:=bB (R7.o.app (z:=⟨A.now,A.ts,b2,cb2⟩) ⟨R7.o.T,HIV.o.st,Ua HIV.o.w (by omega)⟩ HO.o HT.o);have hs8:=R8.o.B.size;clear HO HT n9 n10 hsz R7;go_wp2_with(at_builtin;refine xi rfl _ _ rfl underlying30 xK rfl (by omega) (by omega) (v:=.slice (yB g') k o) rfl R8.o.R rfl (by simp) rfl (by simp[Value.oneCell']) (by omega) hs8 (by simp[ji]) (by simp[ji,Value.cells]) ?_;intro g9 c9 w9 HO HT);exact⟨⟨k+1,A,a2,ca2,b2,cb2,zs++[⟨A.now,A.ts,b2,cb2⟩],g8,c8,g9,c9,by omega,hn1,by rw[Uc (by rw[hL];omega),hL];simp,by go_num,rfl,rfl,bB (by rw[hs1];exact R8.o.rep HO.o HT.o),bB λj hj=>by
    by_cases e:j<=k
    .obtain ⟨b,cb,h⟩:=HZ.o j e;exact⟨b,cb,by rw[Pe (by rw[hL];omega)];exact h⟩
    obtain rfl:j=k+1:=by omega
    exact⟨b2,cb2,by rw[hn1,Uc (by rw[hL];omega),hL];simp⟩⟩,by simp[intOf];omega⟩
  obtain rfl:k=n.length:=by omega
  go_wp2;refine bodyPost_ret (v:=.tuple #[.slice (yB g) (n.length+1) O,.slice (yB g') n.length o]) (by simp[results,results5,go_sem]) rfl ?_;exact⟨g,O,g',o,zs,rfl,R.o.L,R.o.S.1,R.o.R.1,R.o.G,HZ.o,R.o.B⟩
end
def xo(w:World)(g:Nat)(L:List Int):Prop:=∃t,nB w g (L.map (Value.int .i64)).toArray t
def xo.but{w w':World}{g B:Nat}{L:List Int}(h:xo w g L)(c:qD B w w')(a:g≠B):xo w' g L:=by
 obtain⟨t,b⟩:=h;exact⟨t,(c.block g (aB b) a).trans b⟩
def xo.at{w:World}{g:Nat}{L:List Int}(h:xo w g L){j:Nat}(b:j<L.length):w.cell? (dB g j)=some (zA (L.getD j 0)):=by
 obtain⟨t,a⟩:=h;rw[a.cell];simp[List.getD,b]
def aFu(w:World)(L:List Int)(t:TypeId):xo (w.alloc (.cells (L.map (Value.int .i64)).toArray t)) w.1.size L:=⟨t,heap_alloc_new _ _⟩
section
variable {w w':World} {B P N:Nat} {bs:List Nat} {σ:lL}
theorem ec(h:cL w B P N bs σ)(c:N<=1000000):
 Calls prog 33 #[.pointer (yB B)] w λe w'=>∃t τ,JD bs σ=(t,τ)/\t.size<=16/\e=.returned (.string t)/\cL w' B P (N+1) bs τ/\qD B w w':=by
 refine lC (NI B P bs σ w h.1 (by have:=h.2;omega)) ?_;rintro w' ⟨b,a⟩;exact⟨_,_,rfl,wK (L:=nh) (m:=16) (by decide) _,rfl,⟨b,by have:=aJ bs σ 4;have:=h.2;show(eC bs σ 4).2.k<=_;omega⟩,a⟩
theorem aJv(h:cL w B P N bs σ)(c:N<=1000000):
 Calls prog 34 #[.pointer (yB B)] w λe w'=>∃t τ,IA bs σ=(t,τ)/\t.size<=16/\e=.returned (.string t)/\cL w' B P (N+1) bs τ/\qD B w w':=by
 refine lC (NH B P bs σ w h.1 (by have:=h.2;omega)) ?_;rintro w' ⟨b,a⟩;exact⟨_,_,rfl,wK (L:=jt) (m:=16) (by decide) _,rfl,⟨b,by have:=aJ bs σ 4;have:=h.2;show(eC bs σ 4).2.k<=_;omega⟩,a⟩
theorem aJq(h:cL w B P N bs σ)(n:N<=100000):
 Calls prog 35 #[.pointer (yB B)] w λe w'=>∃g b a τ,yM bs σ=(a,τ)/\e=.returned (.slice (yB g) a.length b)/\1<=a.length/\a.length<=7/\gX a/\w'.ownsRow w.1.size 181 2 (.slice (yB g) a.length b) a.length (vC a)/\cL w' B P (N+100) bs τ/\qD B w w':=by
 refine(NG B P bs σ w h.1 (by have:=h.2;omega)).mono ?_;rintro e w' ⟨g,b,rfl,f,d,c⟩;obtain⟨i,j,l,m⟩:=qy bs σ;exact⟨g,b,_,_,rfl,rfl,l,j,i,f,⟨d,Ua m (by have:=h.2;omega)⟩,c⟩
def UF:List Int:=[0,4607182418800017408,9218868437227405312,9218868437227405313,-4503599627370496,-4503599627370495,-1,9221120237041090560,-9223372036854775808,1,4614253070214989087]
theorem aIm:∀j,wU (UF.getD j 0)
 |0|1|2|3|4|5|6|7|8|9|10=>by unfold wU;decide
 |_+11=>⟨show(_:Int)<=0 by decide,show(0:Int)<=_ by decide⟩
theorem aPf(h:cL w B P N bs σ)(t:N<=1000000):
 Calls prog 37 #[.pointer (yB B)] w λe w'=>∃v τ,eC bs σ 11=(v,τ)/\e=.returned (zA (UF.getD v 0))/\cL w' B P (N+1) bs τ/\qD B w w':=by
 have l:=bB h;have p:=h.lt;go_enter func37,ntmps37;go_wp2_with fail;have f:=bB (show UF=[0,4607182418800017408,9218868437227405312,9218868437227405313,-4503599627370496,-4503599627370495,-1,9221120237041090560,-9223372036854775808,1,4614253070214989087] from rfl);have d:=bB (aFu w UF 3);rw[f.o]at d;simp only[Fc,Ag]at d;refine(fV (n:=11) (l.o.z zB) (by omega) (by omega) (by omega)).mono ?_;rintro e u ⟨v,τ,m,q,rfl,c,b⟩;have a:=(d.o.but b (by omega)).at (j:=v) (by simpa using q)
 rw[<-f.o]at a;have i:=bB (Vc m (Vc c ((qD.of zB).trans b)));have r:(v:Int)<11:=by omega
 obtain⟨s,g⟩:∃s,UF.getD v 0=s:=⟨_,rfl⟩
 rw[g]at a;have o:=bB g;go_wp2;go_ret;exact⟨v,τ,i.o.1,by rw[o.o];rfl,i.o.2⟩
end
def aOk(bs:List Nat)(σ:lL):sF×lL:=
 let l:=yM bs σ
 let p:=eC bs l.2 8
 let m:=if (((p.1:Nat):Int)==7)=true then cS bs p.2 l.1 else(l.1,p.2)
 let r:=eC bs m.2 5
 if (((r.1:Nat):Int)==4)=true then(⟨m.1,UF.getD (eC bs r.2 11).1 0⟩,(eC bs r.2 11).2) else(⟨m.1,0⟩,r.2)
def DF(bs:List Nat)(σ:lL):Nat->List sF×lL
 |0=>([],σ)
 |k+1=>((DF bs σ k).1++[(aOk bs (DF bs σ k).2).1],(aOk bs (DF bs σ k).2).2)
def SH(bs:List Nat)(σ:lL):gG×lL:=
 let p:=eC bs σ 12
 let t:=JD bs p.2
 let m:=IA bs t.2
 let n:=eC bs t.2 5
 if p.1=0 then(⟨2,⟨#[]⟩,⟨#[]⟩,1+((eC bs p.2 3).1:Nat),[]⟩,(eC bs p.2 3).2)
 else if p.1=2 then(⟨4,⟨#[]⟩,⟨#[]⟩,0,[]⟩,p.2)
 else if p.1=4 then(⟨6,t.1,⟨#[]⟩,0,[]⟩,t.2)
 else if p.1=1 then(⟨3,t.1,m.1,((eC bs m.2 8).1:Nat)-1,[]⟩,(eC bs m.2 8).2)
 else if p.1=3 then(⟨5,t.1,m.1,0,[]⟩,m.2)
 else(⟨1,t.1,⟨#[]⟩,0,(DF bs n.2 (n.1+1)).1⟩,(DF bs n.2 (n.1+1)).2)
def QV.rq(q:QV):gG:=⟨q.K,q.T,q.R,q.U,q.ys.map (·.x)⟩
def ny(w w':World)(B P N:Nat)(bs:List Nat)(R:gG×lL)(e:Ending):Prop:=∃q:QV,e=.returned q.val/\IL.part w' w.1.size w'.1.size q/\q.rq=R.1/\cL w' B P N bs R.2/\qD B w w'
structure QE(w W:World)(B P N:Nat)(bs:List Nat)(σ:lL):Prop where
 C:cL W B P N bs σ
 U:qD B w W
 Y:nB W w.1.size #[zA 0,.string ⟨#[]⟩,.string ⟨#[]⟩,zA 0,.slice none 0 0] 47
 p:P≤w.1.size
section
variable {w W W' wr:World} {B P N M X k:Nat} {bs:List Nat} {σ τ:lL} {R:gG×lL}
theorem QE.lt(h:QE w W B P N bs σ):w.1.size<W.1.size/\B<w.1.size:=⟨aB h.Y,by have:=h.C.up;have:=h.p;omega⟩
theorem QE.call(h:QE w W B P N bs σ)(b:cL W' B P M bs τ)(a:qD B W W'):QE w W' B P M bs τ:=⟨b,h.U.trans a,(a.block _ h.lt.1 (by have:=h.lt;omega)).trans h.Y,h.p⟩
theorem QE.below(h:QE w W B P N bs σ)(a:Below (w.1.size+1) W W'):QE w W' B P N bs σ:=⟨h.C.below (a.mono (by have:=h.p;omega)),h.U.upToD (a.mono (by omega)),(a.block _ (by omega)).trans h.Y,h.p⟩
theorem QE.z(h:QE w W B P N bs σ)(a:uB W W'):QE w W' B P N bs σ:=h.below (a.mono h.lt.1)
theorem QE.mono(h:QE w W B P N bs σ)(a:N<=M):QE w W B P M bs σ:=⟨h.C.mono a,h.U,h.Y,h.p⟩
theorem QE.cells(h:QE w W B P N bs σ):(W.cell? (dB w.1.size 0)=some (zA 0)/\W.cell? (dB w.1.size 1)=some (.string ⟨#[]⟩)/\W.cell? (dB w.1.size 2)=some (.string ⟨#[]⟩)/\W.cell? (dB w.1.size 3)=some (zA 0)/\W.cell? (dB w.1.size 4)=some (.slice none 0 0))/\
 W.frozen? (dB w.1.size 0)=false/\W.frozen? (dB w.1.size 1)=false/\W.frozen? (dB w.1.size 2)=false/\W.frozen? (dB w.1.size 3)=false/\W.frozen? (dB w.1.size 4)=false:=
 ⟨h.Y.c5,h.Y.free 0,h.Y.free 1,h.Y.free 2,h.Y.free 3,h.Y.free 4⟩
theorem QE.done(h:QE w W B P N bs σ)(l:N<=M){a b c d f:Value}(q:QV)(m:R=(q.rq,σ))(o:q.val=.agg #[a,b,c,d,f])(n:∀W',eB (·=w.1.size) W W'->IL.part W' w.1.size W'.1.size q):
 ny w (((((W.setCell (dB w.1.size 0) a).setCell (dB w.1.size 1) b).setCell (dB w.1.size 2) c).setCell (dB w.1.size 3) d).setCell (dB w.1.size 4) f) B P M bs R (.returned (.agg #[a,b,c,d,f])):=by
 have j:=((((eB.refl (·=w.1.size) W).setCell (Ca rfl) 0 a).setCell (Ca rfl) 1 b).setCell (Ca rfl) 2 c).setCell (Ca rfl) 3 d |>.setCell (Ca rfl) 4 f
 have g:=j.below (Vg h.lt.1) λi r e=>by omega
 subst m;exact⟨q,by rw[o],n _ j,rfl,(h.C.below (g.mono h.p)).mono l,h.U.upToD g⟩
theorem QE.done0(h:QE w W B P N bs σ)(e:N<=M){a b c d:Value}(q:QV)(f:R=(q.rq,σ))(i:q.val=.agg #[a,b,c,d,.slice none 0 0])(j:q.ys=[])(g:q.good):
 ny w (((((W.setCell (dB w.1.size 0) a).setCell (dB w.1.size 1) b).setCell (dB w.1.size 2) c).setCell (dB w.1.size 3) d).setCell (dB w.1.size 4) (.slice none 0 0)) B P M bs R (.returned (.agg #[a,b,c,d,.slice none 0 0])):=h.done e q f i λ_ _=>⟨Ca j,g⟩
theorem QE.put(h:QE w W B P N bs σ)(b:w.1.size<X)(a:eB (·=X) W W'):QE w W' B P N bs σ:=h.below (a.below h.lt.1 λi c e=>by omega)
theorem QE.blk(h:QE w W B P N bs σ)(b:qD B W W')(c:w.1.size<X){cs:Array Value}{t:TypeId}(a:nB W X cs t):nB W' X cs t:=(b.block _ (aB a) (by have:=h.lt;omega)).trans a
end
def aEl(B P N:Nat)(bs:List Nat)(σ:lL)(w:World)(h:cL w B P N bs σ)(hN:N<=50000):
 Calls prog 14 #[.pointer (yB B)] w λe w'=>ny w w' B P (N+1200) bs (SH bs σ) e:=by
 obtain⟨R,hR⟩:∃R,SH bs σ=R:=⟨_,rfl⟩
 rw[hR];replace hR:=bB hR;have H:cB (QE w (w.alloc (.cells #[zA 0,.string ⟨#[]⟩,.string ⟨#[]⟩,zA 0,.slice none 0 0] 47)) B P N bs σ):=⟨h.z zB,qD.of zB,nB.new _ _ _,h.up.2⟩
 go_enter func14,ntmps14;go_wp2_with fail;refine(fV (n:=12) H.o.C (by omega) (by omega) (by omega)).mono ?_;rintro e w1 ⟨sw,τ1,e1,hsw,rfl,j,f⟩;have E:=bB (Vc hR.o e1);replace H:=bB (H.o.call j f);have hcase:sw=0\/sw=2\/sw=4\/(sw=1\/sw=3)\/5<=sw:=by omega
 obtain rfl|rfl|rfl|h13|h5:=hcase
 .go_wp2_with fail;refine(fV (n:=3) H.o.C (by omega) (by omega) (by omega)).mono ?_;rintro e w2 ⟨v,τ2,s,hv,rfl,j,f⟩;replace E:=bB (Vc E.o s);replace H:=bB (H.o.call j f);obtain⟨⟨F,G,I,J,K⟩,s0,s1,s2,s3,s4⟩:=H.o.cells;go_wp2;exact bodyPost_ret (v:=.agg #[zA 2,.string ⟨#[]⟩,.string ⟨#[]⟩,zA (1+v),.slice none 0 0]) (by simp[results,results14,go_sem,F,G,I,J,K]) rfl (H.o.done0 (by omega) ⟨2,⟨#[]⟩,⟨#[]⟩,1+v,[],none,0⟩ (by obtain⟨⟨q,D⟩,S⟩:=E.o;rw[<-q];simp[SH,QV.rq,D,S]) rfl rfl (BQ (by decide) (by decide) (by decide) (by omega) (by simp)))
 .obtain ⟨⟨F,G,I,J,K⟩,s0,s1,s2,s3,s4⟩:=H.o.cells;go_wp2;exact bodyPost_ret (v:=.agg #[zA 4,.string ⟨#[]⟩,.string ⟨#[]⟩,zA 0,.slice none 0 0]) (by simp[results,results14,go_sem,F,G,I,J,K]) rfl (H.o.done0 (by omega) ⟨4,⟨#[]⟩,⟨#[]⟩,0,[],none,0⟩ (by obtain⟨q,D⟩:=E.o;rw[<-q];simp[SH,QV.rq,D]) rfl rfl (BQ (by decide) (by decide) (by decide) (by omega) (by simp)))
 .go_wp2_with fail;refine(ec H.o.C (by omega)).mono ?_;rintro e w2 ⟨r,τ2,s,p,rfl,j,f⟩;replace E:=bB (Vc E.o s);replace H:=bB (H.o.call j f);obtain⟨⟨F,G,I,J,K⟩,s0,s1,s2,s3,s4⟩:=H.o.cells;go_wp2;exact bodyPost_ret (v:=.agg #[zA 6,.string r,.string ⟨#[]⟩,zA 0,.slice none 0 0]) (by simp[results,results14,go_sem,F,G,I,J,K]) rfl (H.o.done0 (by omega) ⟨6,r,⟨#[]⟩,0,[],none,0⟩ (by obtain⟨⟨q,D⟩,S⟩:=E.o;rw[<-q];simp[SH,QV.rq,D,S]) rfl rfl (BQ (by decide) p (by decide) (by omega) (by simp)))
 .rcases h13 with rfl|rfl
  all_goals
   go_wp2_with fail;refine(ec H.o.C (by omega)).mono ?_;rintro e w2 ⟨r,τ2,s,p,rfl,j,f⟩;replace E:=bB (Vc E.o s);replace H:=bB (H.o.call j f);go_wp2_with fail;refine(aJv (H.o.z zB).C (by omega)).mono ?_;rintro e w3 ⟨mt,τ3,e3,hmt,rfl,j,f⟩;replace E:=bB (Vc E.o e3);have O:=H.o.lt.1;have V:=bB ((H.o.z zB).blk f O (nB.new _ _ _));replace H:=bB ((H.o.z zB).call j f);generalize w2.1.size=X at *;have c2:=V.o.cell 2;have a:=V.o.free 2
  .go_wp2_with fail;refine(fV (n:=8) (H.o.put O (tcl _ _ _ _)).C (by omega) (by omega) (by omega)).mono ?_;rintro e w5 ⟨v,τ4,e4,hv,rfl,j,f⟩;replace E:=bB (Vc E.o e4);have X5:=bB ((H.o.put O (tcl _ _ _ _)).blk f O (V.o.set 2 (.string mt)));replace H:=bB ((H.o.put O (tcl _ _ _ _)).call j f);have d:=X5.o.free 3;obtain⟨c0,c1,c2,c3,c4⟩:=nB.c5 (by simpa using X5.o);obtain⟨⟨F,G,I,J,K⟩,s0,s1,s2,s3,s4⟩:=H.o.cells;go_wp2;exact bodyPost_ret (v:=.agg #[zA 3,.string r,.string mt,zA (v-1),.slice none 0 0]) (by simp[results,results14,go_sem,F,G,I,J,K]) rfl ((H.o.put O (tcl _ _ _ _)).done0 (by omega) ⟨3,r,mt,v-1,[],none,0⟩ (by obtain⟨⟨⟨⟨q,D⟩,S⟩,q3⟩,q4⟩:=E.o;rw[<-q];simp[SH,QV.rq,D,S,q3,q4]) rfl rfl (BQ (by decide) p hmt (by omega) (by simp)))
  clear c2;obtain⟨c0,c1,c2,c3,c4⟩:=V.o.c5;obtain⟨⟨F,G,I,J,K⟩,s0,s1,s2,s3,s4⟩:=H.o.cells;go_wp2;exact bodyPost_ret (v:=.agg #[zA 5,.string r,.string mt,zA 0,.slice none 0 0]) (by simp[results,results14,go_sem,F,G,I,J,K]) rfl ((H.o.put O (tcl _ _ _ _)).done0 (by omega) ⟨5,r,mt,0,[],none,0⟩ (by obtain⟨⟨⟨q,D⟩,S⟩,q3⟩:=E.o;rw[<-q];simp[SH,QV.rq,D,S,q3]) rfl rfl (BQ (by decide) p hmt (by omega) (by simp)))
 go_wp2_with fail;refine(ec H.o.C (by omega)).mono ?_;rintro e w2 ⟨r,τ2,s,p,rfl,j,f⟩;replace E:=bB (Vc E.o s);replace H:=bB (H.o.call j f);go_wp2_with fail;refine(fV (n:=5) (H.o.z zB).C (by omega) (by omega) (by omega)).mono ?_;rintro e w3 ⟨A,τ3,e3,hnn,rfl,j,f⟩;replace E:=bB (show R=(⟨1,r,⟨#[]⟩,0,(DF bs τ3 (A+1)).1⟩,(DF bs τ3 (A+1)).2) by obtain⟨⟨q,D⟩,S⟩:=E.o;rw[<-q,SH];simp only[D,S,e3];rw[Ja (by omega),Ja (by omega),Ja (by omega),Ja (by omega),Ja (by omega)]);have O:=H.o.lt.1;have V:=bB ((H.o.z zB).blk f O (nB.new _ _ _));replace H:=bB ((H.o.z zB).call j f);generalize w2.1.size=X at *;go_wp2;go_loopw [7,8] (λi _ wr=>∃(k:Nat)(v:Value)(ys:List XV)(τ:lL),k<=A+1/\i=zA (k:Nat)/\cB (DF bs τ3 k=(ys.map (·.x),τ))/\cB (nB wr X #[zA 1,.string r,.string ⟨#[]⟩,zA 0,v] 47)/\cB (wO aOj wr (X+1) 111 v k ys)/\cB (QE w wr B P (N+3+210*k) bs τ)) (λi _ _=>A+1-(intOf i).toNat)
 case atStart=>exact⟨0,.slice none 0 0,[],τ3,Oa _,rfl,bB rfl,V,bB (wO.nil _ _ _ _),H⟩
 case round=>
  obtain⟨k,v,ys,τ,hk,rfl,SX,HX,HR,H⟩:=hrel;have hXr:=aB HX.o;have hBl:=H.o.lt.2;by_cases hlk:k<A+1
  .have hlk':(k:Int)<1+(A:Int):=by omega
   go_wp2_with fail;refine(aJq H.o.C (by omega)).mono ?_;rintro e w4 ⟨g4,c4,m,σ4,e4,rfl,hl1,hl2,u,l,j,f⟩;replace H:=bB (H.o.call j f);have L:=bB (Vc l u);have U:=bB f;have hgl:=L.o.1.lt g4 rfl;have hs4:=U.o.size;go_upto_region 23 with fail;refine BH (C:=λW=>Code.wp prog _ _ _ W) ?_;intro w5 Q ZB;have hg:g4≠w4.1.size/\g4≠B:=by omega
   replace H:=bB (H.o.z Q);replace L:=bB (Vc (hC L.o.1 Q) L.o.2);replace U:=bB (U.o.trans (qD.of Q));have Z:=bB ZB;generalize w4.1.size=Y at *;go_wp2_with fail;refine(fV (n:=8) H.o.C (by omega) (by omega) (by omega)).mono ?_;rintro e w6 ⟨v5,σ5,e5,-,rfl,j,f⟩;replace Z:=bB (H.o.blk f (by omega) Z.o);replace L:=bB (Vc (iP L.o.1 f (by omega)) L.o.2);replace U:=bB (U.o.trans f);replace H:=bB (H.o.call j f);obtain⟨b7,h7⟩:∃b,(((v5:Nat):Int)==7)=b:=⟨_,rfl⟩
   have S4:=bB (Vc e4 e5);obtain⟨M,hM⟩:∃M,M=if b7=true then cS bs σ5 m else(m,σ5):=⟨_,rfl⟩
   replace hM:=bB hM;go_upto_if 63 with fail;go_cut [] (λT=>∃(g c:Nat)(m:List dC)(σ6:lL),cB (M=(m,σ6))/\ug m c/\(g≠Y/\g≠B)/\cB (QE w T B P (N+3+210*k+201) bs σ6)/\cB (qD B wr T)/\cB (nB T Y #[.slice (yB g) m.length c,zA 0] 111)/\cB (oE T wr.1.size (yB g) m))
   case first=>as_aux_lemma=>
    cases b7 with
    |true=>
     have z0:=Z.o.cell 0;go_wp2_with fail;have q:=aOn B P (N+3+210*k+1+100) bs σ5 w6 wr.1.size g4 c4 m H.o.C (by omega) L.o.1 hl1 hl2 L.o.2;rw[<-show M=cS bs σ5 m from hM.o]at q;refine q.mono ?_;rintro e w7 ⟨g,c,rfl,hl,u,l,j,f⟩;obtain⟨m,σ6⟩:=M;dsimp only at hl u l j;have Z7:=bB (H.o.blk f (by omega) Z.o);have U7:=bB (U.o.trans f);have H7:=bB (H.o.call j f);have hgl:=l.lt g rfl;have hzl:=aB Z.o;have hsz:=U.o.size;have R7:=bB l;have z0:=Z7.o.cell 0;have y0:=Z7.o.free 0;go_wp2;go_meet;have t:=tcl w7 Y 0 (.slice (yB g) m.length c);exact⟨g,c,m,σ6,bB rfl,⟨hl,(aL R7.o).1,u⟩,by omega,H7.o.put (by omega) t,U7.o.upToD (t.below U7.o.size λi hi e=>by omega),bB (by simpa using Z7.o.set 0 (.slice (yB g) m.length c)),gK (qI (t.row R7.o λq hq e=>by have:=R7.o.lt q hq;omega) (by omega))⟩
    |false=>
     go_wp2;go_meet;exact⟨g4,c4,m,σ5,hM,⟨by omega,(aL L.o.1).1,L.o.2⟩,hg,bB (H.o.mono (by omega)),U,Z,bB (gK L.o.1)⟩
   obtain⟨g,c,o,σ6,M6,hls,hg,H,U,Z,L⟩:=hcut;replace S4:=bB (show(if (((v5:Nat):Int)==7)=true then cS bs σ5 m else(m,σ5))=(o,σ6)/\_ from⟨by rw[h7,<-hM.o,M6.o],S4.o⟩);rename World=>w6;go_wp2_with fail;refine(fV (n:=5) H.o.C (by omega) (by omega) (by omega)).mono ?_;rintro e w7 ⟨v7,σ7,e7,-,rfl,j,f⟩;replace Z:=bB (H.o.blk f (by omega) Z.o);replace L:=bB (L.o.butS f hg.2);replace U:=bB (U.o.trans f);replace H:=bB (H.o.call j f);obtain⟨b4,h4⟩:∃b,(((v7:Nat):Int)==4)=b:=⟨_,rfl⟩
   replace S4:=bB (Vc e7 S4.o);go_upto_if 71 with fail;go_cut [] (λT=>∃(z:Int)(σ8:lL),cB ((if b4=true then(UF.getD (eC bs σ7 11).1 0,(eC bs σ7 11).2) else(0,σ7))=(z,σ8))/\wU z/\cB (QE w T B P (N+3+210*k+203) bs σ8)/\cB (qD B wr T)/\cB (nB T Y #[.slice (yB g) o.length c,zA z] 111)/\cB (oE T wr.1.size (yB g) o))
   case first=>as_aux_lemma=>
    cases b4 with
    |true=>
     go_wp2_with fail;refine(aPf H.o.C (by omega)).mono ?_;rintro e w8 ⟨v8,σ8,e8,rfl,j,f⟩;have hz:=aIm v8;replace e8:=bB (show(if true=true then(UF.getD (eC bs σ7 11).1 0,(eC bs σ7 11).2) else(0,σ7))=(UF.getD v8 0,σ8) by rw[Ma rfl,e8]);generalize UF.getD v8 0=z at *;have Z8:=bB (H.o.blk f (by omega) Z.o);have L8:=bB (L.o.butS f hg.2);have U8:=bB (U.o.trans f);have H8:=bB (H.o.call j f);have z1:=Z8.o.cell 1;have y1:=Z8.o.free 1;go_wp2;go_meet;have t:=tcl w8 Y 1 (zA z);exact⟨z,σ8,e8,hz,H8.o.put (by omega) t,U8.o.upToD (t.below U8.o.size λi hi e=>by omega),bB (by simpa using Z8.o.set 1 (zA z)),L8.o.butS ((qD.refl Y w8).setCell 1 _) hg.1⟩
    |false=>
     go_wp2;go_meet;exact⟨0,σ7,bB (by simp),⟨by decide,by decide⟩,H.o.mono (by omega),U.o,Z.o,L.o⟩
   obtain⟨z,σ8,M8,hz,H,U,Z,L⟩:=hcut;replace SX:=bB (show DF bs τ3 (k+1)=((ys++[(⟨⟨o,z⟩,yB g,c⟩:XV)]).map (·.x),σ8) by
    obtain⟨s1,s2,s3,s4⟩:=S4.o;have:=M8.o;rw[<-h4]at this;simp only[DF,SX.o,aOk,s3,s4,s2,s1];by_cases hh:(((v7:Nat):Int)==4)=true
    .rw[Ma hh]at this |-
     obtain⟨rfl,rfl⟩:=Prod.mk.inj this;simp
    rw[Ja hh]at this |-
    obtain⟨rfl,rfl⟩:=Prod.mk.inj this;simp)
   rename World=>w7;have X7:=bB (show nB w7 X _ 47 from(U.o.block _ hXr (by omega)).trans HX.o);have hO:=(HR.o.but U.o (by omega)).1;have z0:=Z.o.cell 0;have z1:=Z.o.cell 1;have x4:=X7.o.cell 4;have hs:=U.o.size;go_wp2_with(at_builtin;refine kI rfl _ _ rfl underlying45 QX rfl (by omega) (by omega) (v:=v) rfl hO rfl rfl (cs:=#[.slice (yB g) o.length c,zA z]) rfl (by simp[Value.oneCell']) (by omega) (by omega) ?_;intro g9 c9 w9 O9 T9 A9;have X9:=bB (T9.o.blk X7.o (λe=>by have:=e.1;omega));have x4:=X9.o.cell 4;have xf:=X9.o.free 4);have t:=tcl w9 X 4 (.slice (yB g9) (k+1) c9);exact⟨⟨k+1,_,ys++[⟨⟨o,z⟩,yB g,c⟩],σ8,by omega,by go_num,SX,bB (by simpa using X9.o.set 4 (.slice (yB g9) (k+1) c9)),bB ((wO.app HR.o U.o (by omega) hXr (y:=⟨⟨o,z⟩,yB g,c⟩) ⟨L.o.inR,hls,hz⟩ O9.o T9.o A9.o).turn t λg e=>by omega),bB (((H.o.below (T9.o.below H.o.lt.1 λi hi e=>by omega)).put O t).mono (by omega))⟩,by simp[intOf];omega⟩
  obtain rfl:k=A+1:=by omega
  have hlk':¬(((A+1:Nat):Int)<1+(A:Int)):=by omega
  obtain⟨ra,rc,rfl⟩:=HR.o.row;obtain⟨c0,c1,c2,c3,c4⟩:=HX.o.c5;obtain⟨⟨F,G,I,J,K⟩,s0,s1,s2,s3,s4⟩:=H.o.cells;go_wp2;have hyl:ys.length=A+1:=HR.o.2.1;exact bodyPost_ret (v:=.agg #[zA 1,.string r,.string ⟨#[]⟩,zA 0,.slice ra (A+1) rc]) (by simp[results,results14,go_sem,F,G,I,J,K]) rfl (H.o.done (by omega) ⟨1,r,⟨#[]⟩,0,ys,ra,rc⟩ (by rw[E.o,SX.o];rfl) (by unfold QV.val;simp only[hyl]) λW' t=>⟨((HR.o.turn t λg e=>by omega).o).wide (by omega) (Ia _),BQ (by decide) p (by decide) (by decide) (by omega)⟩)
def MK(bs:List Nat)(σ:lL):Nat->List gG×lL
 |0=>([],σ)
 |k+1=>((MK bs σ k).1++[(SH bs (MK bs σ k).2).1],(SH bs (MK bs σ k).2).2)
def aDx(bs:List Nat):iC:=(tN bs ⟨0,0⟩).1
def aGu(bs:List Nat):List gG:=(MK bs (eC bs (tN bs ⟨0,0⟩).2 14).2 ((eC bs (tN bs ⟨0,0⟩).2 14).1+4)).1
def oq(bs:List Nat):OM (aDx bs):=by
 have h:=fun σ n(a:1<=n)=>yH bs σ (n:=n) a;unfold aDx tN OM;generalize (⟨0,0⟩:lL)=σ;have b:=h σ 8 (by omega);have d:=h (eC bs σ 8).2 7 (by omega);have e:=h (eC bs (eC bs σ 8).2 7).2 5 (by omega);have f:=h (eC bs (eC bs (eC bs σ 8).2 7).2 5).2 5 (by omega);have g:=h (eC bs (eC bs (eC bs (eC bs σ 8).2 7).2 5).2 5).2 3 (by omega);have i:=h (eC bs (eC bs (eC bs (eC bs (eC bs σ 8).2 7).2 5).2 5).2 3).2 200 (by omega);dsimp only;omega
def yo(bs:List Nat)(σ:lL):(tN bs σ).2.k<=σ.k+6:=by
 have h:=fun σ n=>aJ bs σ n;unfold tN;dsimp only;have a:=h σ 8;have b:=h (eC bs σ 8).2 7;have d:=h (eC bs (eC bs σ 8).2 7).2 5;have e:=h (eC bs (eC bs (eC bs σ 8).2 7).2 5).2 5;have f:=h (eC bs (eC bs (eC bs (eC bs σ 8).2 7).2 5).2 5).2 3;have g:=h (eC bs (eC bs (eC bs (eC bs (eC bs σ 8).2 7).2 5).2 5).2 3).2 200;omega
def aQc{w:World}{P n:Nat}{a:mC}(h:UC w P P a n):∃bs:List Nat,bs.length=n/\uk w P P a bs:=by
 obtain rfl|⟨b,o,e,j,k,h⟩:=h;exact ⟨[],rfl,Ca rfl⟩;have g:∀i,∃v:Nat,i<n->v<256/\tC w b (o+i) (.int .u8 (v:Nat)):=λi=>by
  by_cases d:i<n
  .obtain ⟨v,l⟩:=h i d;exact⟨v,λ_=>l⟩
  exact ⟨0,λh=>absurd h d⟩
 refine⟨(List.range n).map λi=>Classical.choose (g i),by simp,La ⟨b,o,e,j,k,λi d=>?_⟩⟩;have f:i<n:=by simpa using d
 have:=Me (g i) f;simpa using this
def aOx(w b:World)(bs:List Nat)(e:Ending):Prop:=∃(a:List QV)(d:mC)(f:Nat)(g:Value),e=.returned (.tuple #[rE (aDx bs),.slice d a.length f,g])/\a.map QV.rq=aGu bs/\a.length<=17/\TQ IL b w.1.size b.1.size d a/\uB w b
structure um(w W:World)(X N:Nat)(c:iC)(bs:List Nat)(σ:lL):Prop where
 C:cL W (w.1.size+1) (w.1.size+2) N bs σ
 Y:nB W w.1.size #[zA 0,zA 0,zA 0,zA 0,zA 0,zA 0] 24
 K:nB W X #[zA c.w,zA c.tl,zA c.ml,zA c.sh,zA c.ha,zA c.sg] 24
 U:uB w W
 l:w.1.size+2≤X
section
variable {w W W':World} {X N M:Nat} {c:iC} {bs:List Nat} {σ τ:lL}
theorem um.lt(h:um w W X N c bs σ):X<W.1.size/\w.1.size+2<=X:=⟨aB h.K,h.l⟩
theorem um.call(h:um w W X N c bs σ)(b:cL W' (w.1.size+1) (w.1.size+2) M bs τ)(a:qD (w.1.size+1) W W'):um w W' X M c bs τ:=by
 have:=h.lt;exact⟨b,(a.block _ (by omega) (by omega)).trans h.Y,(a.block _ (by omega) (by omega)).trans h.K,h.U.trans (a.below (by omega) (by omega)),h.l⟩
theorem um.below(h:um w W X N c bs σ)(a:Below (X+1) W W'):um w W' X N c bs σ:=by
 have:=h.lt;exact⟨h.C.below (a.mono (by omega)),(a.block _ (by omega)).trans h.Y,(a.block _ (by omega)).trans h.K,h.U.trans (a.mono (by omega)),h.l⟩
theorem um.mono(h:um w W X N c bs σ)(a:N<=M):um w W X M c bs σ:=⟨h.C.mono a,h.Y,h.K,h.U,h.l⟩
end
def WD(a:mC)(s:Nat)(bs:List Nat)(w:World)(hn:bs.length<=1048576)(hU:uk w w.1.size w.1.size a bs):
 Calls prog 4 #[.slice a bs.length s] w λe w'=>aOx w w' bs e:=by
 obtain⟨c,G⟩:∃c,aDx bs=c:=⟨_,rfl⟩
 obtain⟨RQ,O⟩:∃R,aGu bs=R:=⟨_,rfl⟩
 have r:=bB (Vc G O);have HU:=bB hU;go_enter func4,ntmps4;go_wp2_with fail;have HC:cB (cL ((w.alloc (.cells #[zA 0,zA 0,zA 0,zA 0,zA 0,zA 0] 24)).alloc (.cells #[.slice a bs.length s,zA 0,zA 0] 57)) (w.1.size+1) (w.1.size+2) 0 bs ⟨0,0⟩):=by
  refine⟨⟨a,s,by simpa using nB.new (w.alloc (.cells #[zA 0,zA 0,zA 0,zA 0,zA 0,zA 0] 24)) #[.slice a bs.length s,zA 0,zA 0] 57,⟨by decide,by decide⟩,hn,?_,by omega,by simp⟩,Ia _⟩;obtain h|⟨b,o,e,hne,f,h⟩:=HU.o;exact Ca h;exact La ⟨b,o,e,by omega,by omega,λi I=>by
   obtain⟨hv,j⟩:=h i I;exact⟨hv,(World.cell?_of_block ((vB (wF w _) zB).block b f)).trans j⟩⟩
 refine lC (NF (w.1.size+1) (w.1.size+2) bs ⟨0,0⟩ _ HC.o.1 (by decide)) ?_;rintro u ⟨F,t⟩;have y:cL u (w.1.size+1) (w.1.size+2) 6 bs (tN bs ⟨0,0⟩).2:=⟨F,yo _ _⟩
 rw[show(tN bs ⟨0,0⟩).1=c from r.o.1];obtain⟨σ1,hσ⟩:∃σ,(tN bs ⟨0,0⟩).2=σ:=⟨_,rfl⟩
 rw[hσ]at y;have x:=bB (show RQ=(MK bs (eC bs σ1 14).2 ((eC bs σ1 14).1+4)).1 by rw[<-hσ,<-r.o.2];rfl);have hs1:w.1.size+2<=u.1.size:=by have:=t.size;simp at this;omega
 have p:=bB (λW(hW:uB u W)(hX:nB W u.1.size #[zA c.w,zA c.tl,zA c.ml,zA c.sh,zA c.ha,zA c.sg] 24)=>(show um w W u.1.size 6 c bs σ1 from⟨y.z hW,(nB.z (g:=w.1.size) (show nB u w.1.size _ 24 from(t.block _ (by simp;omega) (by omega)).trans ((nB.new _ _ _).alloc _)) hW),hX,vB ((vB (wF w _) zB).trans (t.below (by omega) (by simp;omega))) hW,hs1⟩));unfold rE;go_upto_region 3 with fail;refine BH (C:=λW=>Code.wp prog _ _ _ W) ?_;intro D E XB;replace p:=bB (p.o D E XB);generalize u.1.size=X at *;go_wp2_with fail;have R0:=bB (wO.made IL D (X+1) 47 p.o.lt.1);replace p:=bB (p.o.below ((wF D (.cells #[] 47)).mono p.o.lt.1));refine(fV (n:=14) p.o.C (by omega) (by omega) (by omega)).mono ?_;rintro e w2 ⟨m,σ2,e2,hnn,rfl,j,d⟩;rw[e2]at x;have R2:=bB (R0.o.but d (by omega));have H2:=bB (p.o.call j d);generalize D.1.size=g0 at *;go_wp2;go_loopw [7,9] (λl i wr=>∃(k:Nat)(z:List QV)(τ:lL),k<=m+4/\i=zA (k:Nat)/\cB (MK bs σ2 k=(z.map QV.rq,τ))/\cB (wO IL wr (X+1) 47 l k z)/\cB (um w wr X (7+1200*k) c bs τ)) (λ_ i _=>m+4-(intOf i).toNat)
 case atStart=>exact⟨0,[],σ2,Oa _,rfl,bB rfl,R2,H2⟩
 case round=>
  obtain⟨k,z,τ,hk,rfl,Q,A,H⟩:=hrel;have f:=H.o.lt;by_cases hlk:k<m+4
  .have L:(k:Int)<4+(m:Int):=by omega
   go_wp2_with fail;have V:=aEl (w.1.size+1) (w.1.size+2) (7+1200*k) bs τ wr H.o.C (by omega);obtain⟨R,hR⟩:∃R,SH bs τ=R:=⟨_,rfl⟩
   rw[hR]at V;obtain⟨rq,σ3⟩:=R;refine V.mono ?_;rintro e w3 ⟨q,rfl,hp,hq,j,d⟩;replace Q:=bB (show MK bs σ2 (k+1)=((z++[q]).map QV.rq,σ3) by simp only[MK,Q.o,hR];rw[<-show q.rq=rq from hq];simp);have HP:=bB hp;have U:=bB d;have H3:=bB (H.o.call j d);have hO:=(A.o.but d (by omega)).1;have hs3:=d.size;unfold QV.val;go_wp2_with(at_builtin;refine kI rfl _ _ rfl underlying25 aMx rfl (by omega) (by omega) (v:=u7) rfl hO rfl rfl (cs:=#[zA q.K,.string q.T,.string q.R,zA q.U,.slice q.a q.ys.length q.c]) rfl (by simp[Value.oneCell']) (by omega) (by omega) ?_;intro g9 c9 w9 Z B A9);exact⟨⟨k+1,z++[q],σ3,by omega,by go_num,Q,bB (wO.app A.o U.o (by omega) f.1 HP.o Z.o B.o A9.o),bB ((H3.o.below (B.o.below H3.o.lt.1 λi I e=>by omega)).mono (by omega))⟩,by simp[intOf];omega⟩
  obtain rfl:k=m+4:=by omega
  have L:¬(((m+4:Nat):Int)<4+(m:Int)):=by omega
  obtain⟨ra,rc,rfl⟩:=A.o.row;have hql:z.length=m+4:=A.o.2.1;have T:=bB A.o.o;rw[Q.o]at x;obtain⟨P,hwo⟩:∃P:World,P=wr:=⟨_,rfl⟩
  subst hwo;go_wp2;go_loopw [10,11] (λl i wr=>∃(k:Nat)(ks:List Nat),k<=6/\i=zA (k:Nat)/\cB (wr.ownsRow P.1.size 3 1 l k (ks.map λk=>zA (k:Nat)))/\(∃υ,cB (um w wr X (7+1200*(m+4)+k) c bs υ))/\cB (qD (w.1.size+1) P wr)) (λ_ i _=>6-(intOf i).toNat)
  case atStart=>exact⟨0,[],Oa _,rfl,World.ownsRow_made P #[] 0 (Ia _) (by simp[maxLen]) (by simp),⟨τ,bB (H.o.below (zB.mono f.1))⟩,bB (qD.of zB)⟩
  case round=>
   obtain⟨k,ks,hk,rfl,HO,⟨υ,H⟩,U⟩:=hrel;have hsq:=U.o.size;have f:=H.o.lt;by_cases hl6:k<6
   .have J:(k:Int)<6:=by omega
    go_wp2_with fail;refine(fV (n:=90) H.o.C (by omega) (by omega) (by omega)).mono ?_;rintro e w5 ⟨v5,υ2,-,hv5,rfl,j,d⟩;have hs5:=d.size;have hO:=iP HO.o d (by omega);have H5:=bB (H.o.call j d);have U5:=bB (U.o.trans d);go_wp2_with(at_builtin;refine kI rfl _ _ rfl underlying26 iw rfl (by omega) (by omega) (v:=u10) rfl hO rfl rfl (cs:=#[zA (v5:Nat)]) rfl (by simp[Value.oneCell']) (by omega) (by omega) ?_;intro g9 c9 w9 Z B _);exact⟨⟨k+1,ks++[v5],by omega,by go_num,by rw[Ld];exact Z,⟨υ2,bB ((H5.o.below (B.o.below H5.o.lt.1 λi I e=>by omega)).mono (by omega))⟩,bB (U5.o.upToD (B.o.below (by omega) λi I e=>by omega))⟩,by simp[intOf];omega⟩
   obtain rfl:k=6:=by omega
   have J:¬(((6:Nat):Int)<6):=by omega
   have c0:=H.o.K.c6;obtain⟨r0,r1,r2,r3,r4,r5⟩:=H.o.Y.c6;have s0:=H.o.Y.free 0;have s1:=H.o.Y.free 1;have s2:=H.o.Y.free 2;have s3:=H.o.Y.free 3;have s4:=H.o.Y.free 4;have s5:=H.o.Y.free 5;go_wp2;refine bodyPost_ret (v:=.tuple #[.agg #[zA c.w,zA c.tl,zA c.ml,zA c.sh,zA c.ha,zA c.sg],.slice ra (m+4) rc,u10]) (by simp[results,results4,go_sem,r0,r1,r2,r3,r4,r5]) rfl ?_;have S:=((((((eB.refl (·=w.1.size) wr).setCell (Ca rfl) 0 (zA c.w)).setCell (Ca rfl) 1 (zA c.tl)).setCell (Ca rfl) 2 (zA c.ml)).setCell (Ca rfl) 3 (zA c.sh)).setCell (Ca rfl) 4 (zA c.ha)).setCell (Ca rfl) 5 (zA c.sg);exact⟨z,ra,rc,u10,by rw[hql,r.o.1];rfl,by rw[r.o.2];exact x.o.symm,by omega,((T.o.keep hsq (λg h1 h2 h3=>U.o.block g h3 (by omega))).keep S.size (λg h1 h2 h3=>S.block g h3 (by omega))).wide (by omega) (Ua hsq S.size),H.o.U.trans (S.below (by omega) (λi I e=>by omega))⟩
def aFa(a a1:mC)(D c1 c h:Nat)(B:List Nat)(m:List QV)(w:World)(G:B.length<=1048576)(I:uk w w.1.size w.1.size a B)(Z:TQ IL w c h a1 m)(c:m.map QV.rq=aGu B):
 dF 11 #[.slice a B.length D,.slice a1 m.length c1] w (.bool true):=by
 have U:=bB (Vc Z c);have c:=bB (WD a D B w G I);go_enter func11,ntmps11;go_wp2_with fail;refine c.o.mono ?_;rintro e w1 ⟨r,a2,c2,v2,rfl,c,h,F,z⟩;have h:r.length=m.length:=by have:=Kd List.length (c.trans U.o.2.symm);simpa using this
 have T:=bB (Vc (c.trans U.o.2.symm) (Vc F U.o.1));unfold rE;have U:=bB z;go_wp2;go_loopw [8,9,18] (λ_ _ i wr=>∃j:Nat,j<=r.length/\i=zA j/\cB (uB w1 wr)) (λ_ _ i _=>r.length-(intOf i).toNat)
 case atStart=>exact⟨0,Oa _,rfl,bB (by first|exact iD|exact zB)⟩
 case round=>
  obtain⟨j,c,rfl,L⟩:=hrel;by_cases G:j<r.length
  .have H:j<m.length:=by omega
   have c:(j:Int)<(m.length:Nat):=by omega
   have er:sK r[j].req=sK m[j].req:=by
    have c:=Kd (λl=>l[j]?) T.o.1;simp only[Se,Va G,Va H,Option.map_some,Qa]at c;exact Kd sK c
   obtain⟨c,rfl,c,d,J⟩:=(T.o.2.1.z L.o).at G;obtain⟨g,rfl,c,f,K⟩:=(T.o.2.2.z (vB U.o L.o)).at H;have N:=d 0 (by decide);have O:=d 1 (by decide);have P:=d 2 (by decide);have Q:=d 3 (by decide);have R:=d 4 (by decide);have s:=f 0 (by decide);have t:=f 1 (by decide);have u:=f 2 (by decide);have x:=f 3 (by decide);have y:=f 4 (by decide);simp only[IL,Ob,Ga,Bg]at N O P Q R s t u x y;have V:=bB (QV.said J);have X:=bB (QV.said K);have Y:=bB (Vc s (Vc t (Vc u (Vc x y))));generalize r[j]=q at *;generalize m[j]=p at *;go_upto_region 5 with fail;refine eI (C:=λW=>Code.wp prog _ _ _ W) ?_;intro k o I h;have Z:=aB I;have J:=bB (λW(G:uB wr W)=>by
    have h:=oU q.req q.a q.c W (V.o.1.z G) V.o.2.1;rw[show q.req.P.length=q.ys.length from Xa ..,er]at h;exact(show dF 8 #[.agg #[zA q.K,.string q.T,.string q.R,zA q.U,.slice q.a q.ys.length q.c]] W (.string (sK p.req)) from h))
   have O:=bB (λW(G:uB wr W)=>by
    have h:=oU p.req p.a p.c W (X.o.1.z G) X.o.2.1;rw[show p.req.P.length=p.ys.length from Xa ..]at h;exact(show dF 8 #[.agg #[zA p.K,.string p.T,.string p.R,zA p.U,.slice p.a p.ys.length p.c]] W (.string (sK p.req)) from h))
   have G:g<wr.1.size:=c;have A:=bB (λb(h:uB k b)=>(show(tC b wr.1.size 0 (zA q.K)/\tC b wr.1.size 1 (.string q.T)/\tC b wr.1.size 2 (.string q.R)/\tC b wr.1.size 3 (zA q.U)/\tC b wr.1.size 4 (.slice q.a q.ys.length q.c))/\tC b g (j*5) (zA p.K)/\tC b g (j*5+1) (.string p.T)/\tC b g (j*5+2) (.string p.R)/\tC b g (j*5+3) (zA p.U)/\tC b g (j*5+4) (.slice p.a p.ys.length p.c) from⟨(I.z h).c5,by
    have I:=λi=>(vB o h).cell (p:=(dB g i)) G;obtain⟨s,t,u,x,y⟩:=Y.o;exact⟨(I _).trans s,(I _).trans t,(I _).trans u,(I _).trans x,(I _).trans y⟩⟩))
   have N:=A.o k iD;have n:=bB o;generalize sK p.req=tx at *;go_cut [30] (λv c=>v=.bool false/\uB k c)
   case first=>as_aux_lemma=>
    go_region_held3 (λb=>(b.cell? (dB wr.1.size 0)=some (zA q.K)/\b.cell? (dB wr.1.size 1)=some (.string q.T)/\b.cell? (dB wr.1.size 2)=some (.string q.R)/\b.cell? (dB wr.1.size 3)=some (zA q.U)/\b.cell? (dB wr.1.size 4)=some (.slice q.a q.ys.length q.c))/\b.cell? (dB g (j*5))=some (zA p.K)/\b.cell? (dB g (j*5+1))=some (.string p.T)/\b.cell? (dB g (j*5+2))=some (.string p.R)/\b.cell? (dB g (j*5+3))=some (zA p.U)/\b.cell? (dB g (j*5+4))=some (.slice p.a p.ys.length p.c))
     (first|with_reducible exact A.o _ c|with_reducible exact A.o _ M|with_reducible exact A.o _ iD.drew)
     (first
     |(go_at_call 8;have q:=M;apply lC (O.o _ (vB n.o M));intro h z;have c:uB k h:=vB M z)
     |(go_at_call 8;apply lC (J.o _ (vB n.o iD.drew));intro h z;have M:uB k h:=vB iD.drew z))
    all_goals(go_wp2_with fail;go_meet)
    all_goals exact⟨rfl,c⟩
   obtain⟨rfl,E⟩:=hcut;rename World=>w4;have S:=bB (vB L.o (vB n.o E));go_wp2;exact⟨⟨j+1,by omega,by go_num,S⟩,by simp[intOf];omega⟩
  obtain rfl:j=r.length:=by omega
  go_wp2;go_ret;exact⟨rfl,vB U.o L.o⟩
