import Derived.Test.YtiegonaogehghaaGreatDoorJ29
import Derived.Test.YtiegonaogehghaaGreatDoorJ30
import Derived.Test.YtiegonaogehghaaGreatDoorJ18
set_option maxRecDepth 100000
set_option maxHeartbeats 8000000
set_option linter.defProp false
open ByteArray renaming empty->kA
open Bool renaming true->dA,false->cA
open Option renaming none->aA,some->bA
open List renaming length->yA
namespace Go.Proofs.YtiegonaogehghaaGreatDoor
open Value renaming slice->pA,agg->tA,string->oA,tuple->xA,int->lA,bool->qA
open Go renaming World->eA,Calls->gA,Value->iA
open Obj renaming cells->vA
open Ending renaming returned->uA
open IntKind renaming i64->mA
open Go.RowKit Tryz
def uH(c:gC)(now:Int)(b:List fB)(d:nB)(x:oF):Nat×List fB×nB:=
 if (uB x.B).2.1≠0 then((uB x.B).2.1,b,kA)
 else if yY x.bits=dA then(6,b,kA)
 else if (sH c now b d (rI (uB x.B).1)).2.2=1\/(sH c now b d (rI (uB x.B).1)).2.2=2 then((sH c now b d (rI (uB x.B).1)).2.2,(sH c now b d (rI (uB x.B).1)).2.1,rI (uB x.B).1)
 else((sH c now b d (rI (uB x.B).1)).2.2,b,kA)
def TL{b:List bC}:∀l∈(uB b).1,l∈b:=by grind [uB,pL,oL]
def rZ{ls:List bC}:yA (uB ls).1<=yA ls:=by grind [uB,CA,yZ]
theorem YR {x y : List bC} (h : x.Perm y) : rD x = rD y := by
  induction h with
  | nil => rfl
  | cons _ _ ih => simp [rD, ih]
  | swap => simp [rD]; omega
  | trans _ _ h1 h2 => exact h1.trans h2
theorem nz(b:List bC):rD (pL b)<=rD b:=by induction b<;>grind [rD,pL]
def BO(b:List bC):rD (uB b).1<=rD b:=by grind [rD,uB,YR,oL,nz]
def UY(b:List bC):(rI b).size<=1+3*yA b+rD b:=by
 unfold rI;split;rw[tH,Ka,kB,bQ];omega;exact Oa _
structure JP(w W:World)(c:gC)(now:Int)(a:jC)(n cap:Nat)(la:jC)(k lc:Nat)(bi:Int):Prop where
 C:gB W w.1.size #[zA c.w,zA c.tl,zA c.ml,zA c.sh,zA c.ha,zA c.sg] 24
 S:gB W (w.1.size+1) #[zA now,pA a n cap] 40
 X:gB W (w.1.size+1+1) #[pA la k lc,zA bi] 107
 R:gB W (w.1.size+1+1+1) #[zA 0,pA aA 0 0] 40
 B:tB w W
section
variable {w W W':eA} {c:gC} {now:Int} {a la:jC} {n cap k lc:Nat} {bi:Int}
theorem JP.new:JP w ((((w.alloc (vA #[zA c.w,zA c.tl,zA c.ml,zA c.sh,zA c.ha,zA c.sg] 24)).alloc (vA #[zA now,pA a n cap] 40)).alloc (vA #[pA la k lc,zA bi] 107)).alloc (vA #[zA 0,pA aA 0 0] 40)) c now a n cap la k lc bi:=by
 have b:=((gB.new (w.alloc (vA #[zA c.w,zA c.tl,zA c.ml,zA c.sh,zA c.ha,zA c.sg] 24)) #[zA now,pA a n cap] 40).alloc (vA #[pA la k lc,zA bi] 107)).alloc (vA #[zA 0,pA aA 0 0] 40);have d:=(gB.new ((w.alloc (vA #[zA c.w,zA c.tl,zA c.ml,zA c.sh,zA c.ha,zA c.sg] 24)).alloc (vA #[zA now,pA a n cap] 40)) #[pA la k lc,zA bi] 107).alloc (vA #[zA 0,pA aA 0 0] 40);have e:=gB.new (((w.alloc (vA #[zA c.w,zA c.tl,zA c.ml,zA c.sh,zA c.ha,zA c.sg] 24)).alloc (vA #[zA now,pA a n cap] 40)).alloc (vA #[pA la k lc,zA bi] 107)) #[zA 0,pA aA 0 0] 40;simp only[eA.size_alloc]at b d e;exact⟨(((gB.new _ _ _).alloc _).alloc _).alloc _,b,d,e,vB (vB (vB yB yB) yB) yB⟩
theorem JP.z(h:JP w W c now a n cap la k lc bi)(b:tB W W'):JP w W' c now a n cap la k lc bi:=⟨h.C.z b,h.S.z b,h.X.z b,h.R.z b,vB h.B b⟩
theorem JP.cells(h:JP w W c now a n cap la k lc bi):W.cell? (dB w.1.size 0)=bA (zA c.w)/\W.cell? (dB w.1.size 1)=bA (zA c.tl)/\W.cell? (dB w.1.size 2)=bA (zA c.ml)/\W.cell? (dB w.1.size 3)=bA (zA c.sh)/\W.cell? (dB w.1.size 4)=bA (zA c.ha)/\W.cell? (dB w.1.size 5)=bA (zA c.sg)/\W.cell? (dB (w.1.size+1) 0)=bA (zA now)/\W.cell? (dB (w.1.size+1) 1)=bA (pA a n cap)/\W.cell? (dB (w.1.size+1+1) 0)=bA (pA la k lc)/\W.cell? (dB (w.1.size+1+1) 1)=bA (zA bi)/\W.cell? (dB (w.1.size+1+1+1) 0)=bA (zA 0)/\W.cell? (dB (w.1.size+1+1+1) 1)=bA (pA aA 0 0)/\W.frozen? (dB (w.1.size+1+1+1) 0)=cA/\W.frozen? (dB (w.1.size+1+1+1) 1)=cA/\w.1.size+1+1+1<W.1.size/\w.1.size+1<W.1.size/\¬w.1.size+1=W.1.size/\¬w.1.size+1+1+1=W.1.size:=
 have:=aB h.R
 ⟨h.C.cell 0,h.C.cell 1,h.C.cell 2,h.C.cell 3,h.C.cell 4,h.C.cell 5,h.S.cell 0,h.S.cell 1,h.X.cell 0,h.X.cell 1,h.R.cell 0,h.R.cell 1,h.R.free 0,h.R.free 1,this,by omega,by omega,by omega⟩
end
def SI(c:gC)(now:Int)(a:jC)(cap:Nat)(f:List fB)(l:nB)(x:oF)(la:jC)(lc:Nat)(w:eA){A:Nat->Prop}(m:wK w A a f)(U:nD w la x.B)(h:yA x.B<=lc)(u:yA f+aC f<=1900000)(o:l.size<=1000000)(Z:lJ x<=300000)(B:kC c now f=dA):
 gA prog 53 #[jE c,tA #[zA now,pA a (yA f) cap],oA l,tA #[pA la (yA x.B) lc,zA x.bits]] w λe w'=>∃b cb,e=uA (xA #[zA ((uH c now f l x).1:Nat),tA #[zA now,.slice b (yA (uH c now f l x).2.1) cb],oA (uH c now f l x).2.2])/\wK w' (λg=>A g\/w.1.size<=g) b (uH c now f l x).2.1/\tB w w':=by
 have O:lJ x=yA x.B+rD x.B:=rfl;have R:MJ x.B:=λi s=>by have:=oi x.B i s;exact⟨by omega,by omega⟩
 have t:MJ (uB x.B).1:=λi s=>by
  obtain⟨j,o,e⟩:=Ib (TL _ (Gb s));rw[<-e];exact R j o
 have o:=rZ (ls:=x.B);have Y:=cB (λW(o:tB w W)=>BG la lc x.B W (U.z o) R (by omega) h);have HN:=cB (λW=>aHx x.bits W);have HK:=cB (λW H J(h:nD W H (uB x.B).1)(G:yA (uB x.B).1<=J)=>KW H J (uB x.B).1 W h t (by omega) G);have G:=cB (λW(o:tB w W)(I:(rI (uB x.B).1).size<=1900000)=>BF c now a cap f l (rI (uB x.B).1) W (m.tens.z o) u (by omega) I B);have HF:=cB (λW(o:tB w W)=>m.lt.z o);have I:(rI (uB x.B).1).size<=1900000:=by have:=UY (uB x.B).1;have:=BO x.B;omega
 replace G:=cB (λW o=>G.o W o I);have HV:bB ((uB x.B).2.1≠0/\uH c now f l x=((uB x.B).2.1,f,kA)\/(uB x.B).2.1=0/\(yY x.bits=dA/\uH c now f l x=(6,f,kA)\/yY x.bits=cA/\((((sH c now f l (rI (uB x.B).1)).2.2:Nat):Int)=1/\uH c now f l x=(1,(sH c now f l (rI (uB x.B).1)).2.1,rI (uB x.B).1)\/((sH c now f l (rI (uB x.B).1)).2.2:Int)=2/\uH c now f l x=(2,(sH c now f l (rI (uB x.B).1)).2.1,rI (uB x.B).1)\/(((sH c now f l (rI (uB x.B).1)).2.2:Int)==1)=cA/\(((sH c now f l (rI (uB x.B).1)).2.2:Int)==2)=cA/\uH c now f l x=((sH c now f l (rI (uB x.B).1)).2.2,f,kA)))):=by
  show _\/_;unfold uH;by_cases z:(uB x.B).2.1=0
  .refine La ⟨z,?_⟩;rw[Ja (by simp[z])];cases yY x.bits
   .refine La ⟨rfl,?_⟩;rw[Ja (by simp)];generalize sH c now f l (rI (uB x.B).1)=A;by_cases C:A.2.2=1
    .exact Ca ⟨by omega,by simp[C]⟩
    by_cases q2:A.2.2=2
    .exact La (Ca ⟨by omega,by simp[q2]⟩)
    exact La (La ⟨by simp;omega,by simp;omega,by simp[C,q2]⟩)
   exact Ca ⟨rfl,Ma rfl⟩
  exact Ca ⟨z,Ma z⟩
 have o:bB ((sH c now f l (rI (uB x.B).1)).1=now):=by
  show _=_;unfold sH;rw[Ja (by rw[B];simp)];repeat' split
  all_goals rfl
 have P:=cB (JP.new (w:=w) (c:=c) (now:=now) (a:=a) (n:=yA f) (cap:=cap) (la:=la) (k:=yA x.B) (lc:=lc) (bi:=x.bits));clear m U R t O u Z B I;unfold SU at G;generalize uH c now f l x=V at *;generalize sH c now f l (rI (uB x.B).1)=A at *;obtain⟨m,d,m⟩:=A;obtain rfl:=o.o;generalize rI (uB x.B).1=m at *;generalize yY x.bits=m at *;generalize x.bits=bi at *;generalize uB x.B=m at *;generalize x.B=ls at *;obtain⟨o,o,o⟩:=m;dsimp only at *;unfold jE at *;go_enter func53,ntmps53;go_wp2_with fail;refine(Y.o _ P.o.B).mono ?_;rintro e w1 ⟨a1,k1,rfl,R,y,m⟩;replace P:=cB (P.o.z m);have L1:=cB y.B;clear m y Y;obtain⟨K,L,M,N,O,Q,S,T,U,X,D,E,Y,Z,F,o,B,I⟩:=P.o.cells;obtain⟨z,rfl⟩|⟨rfl,⟨rfl,rfl⟩|⟨rfl,⟨C,rfl⟩|⟨C,rfl⟩|⟨C,q2,rfl⟩⟩⟩:=HV.o
 all_goals
  go_wp2_with(first
   |(go_at_call 115;apply cO (HN.o _))
   |(go_at_call 116;apply hC (HK.o _ a1 k1 L1.o R);intro w2 m;replace P:=cB (P.o.z m);clear m K L M N O Q S T U X D E Y Z F o B I;obtain⟨K,L,M,N,O,Q,S,T,U,X,D,E,Y,Z,F,o,B,I⟩:=P.o.cells)
   |(go_at_call 110;refine(G.o _ P.o.B).mono ?_;rintro e G ⟨H,J,rfl,y,m⟩;have G:=cB (y.toN (A:=λg=>w.1.size+1+1+1<g) λg h=>Bb (aB P.o.R) h);replace P:=cB (P.o.z m);clear m y K L M N O Q S T U X D E Y Z F o B I;obtain⟨K,L,M,N,O,Q,S,T,U,X,D,E,Y,Z,F,o,B,I⟩:=P.o.cells))
 all_goals have r:=cB (fun(W:eA)(p q:iA)=>(((eB.refl (·=w.1.size+1+1+1) W).setCell (Ca rfl) 0 p).setCell (Ca rfl) 1 q))
 all_goals
  go_region
  go_wp2;refine bodyPost_ret (v:=?_) (by simp[results,results53,go_sem,D,E,F];rfl) rfl ?_;first
   |exact⟨a,⟨cap,rfl⟩,((HF.o _ P.o.B).turn (r.o _ _ _) (λg(h:A g/\g<w.1.size)(e:g=w.1.size+1+1+1)=>by omega)).mono (λg h=>Ca h.1),(P.o.B.trans ((r.o _ _ _).below P.o.B.size λi s e=>by omega)).drew⟩
   |exact⟨H,⟨J,rfl⟩,((G.o.turn (r.o _ _ _) (λg(h:w.1.size+1+1+1<g)(e:g=w.1.size+1+1+1)=>by omega)).mono (λg(h:w.1.size+1+1+1<g)=>La (by omega))).z (yB.drew),(vB (P.o.B.trans ((r.o _ _ _).below P.o.B.size λi s e=>by omega)) yB).drew⟩
   |exact⟨a,⟨cap,rfl⟩,(((HF.o _ P.o.B).turn (r.o _ _ _) (λg(h:A g/\g<w.1.size)(e:g=w.1.size+1+1+1)=>by omega)).mono (λg h=>Ca h.1)).z (yB.drew),(vB (P.o.B.trans ((r.o _ _ _).below P.o.B.size λi s e=>by omega)) yB).drew⟩
section
open Go.Maps
def rj{w:eA}{N:Nat}{x y p q:iA}{t:TypeId}(h:gB w N #[x,y] t):gB ((w.setCell (dB N 0) p).setCell (dB N 1) q) N #[p,q] t:=by
 have:=(h.set 0 p).set 1 q;simpa using this
def ApR(w:eA)(c:gC)(now:Int)(a:jC)(n cap N:Nat)(nv:iA)(sv:iA)(X:Nat)(SV:Int×List fB×Bool)(b:eA):Prop:=
 ∃a5 c5,AL w b c now a n cap/\gB b N #[nv,sv] 40/\(SV.2.2=dA->gB b X #[zA SV.1,pA a5 (yA SV.2.1) c5] 40/\zC b (X+1) a5 SV.2.1)
section
variable {w w5 W:eA} {c:gC} {now:Int} {a a5:jC} {n cap N X B c5:Nat} {nv sv:iA} {SV:Int×List fB×Bool} {n5:Int} {t5:List fB} {b5:Bool}
theorem rf(P:AL w w5 c now a n cap)(d:gB w5 N #[nv,sv] 40)(f:gB w5 X #[zA 0,pA aA 0 0] 40)(O:zC w5 B a5 t5)(i:w.1.size+1+1<X)(h:N≠X)(l:X<B):ApR w c now a n cap N nv sv X (n5,t5,b5) ((w5.setCell (dB X 0) (zA n5)).setCell (dB X 1) (pA a5 (yA t5) c5)):=by
 have b:eB (·=X) w5 ((w5.setCell (dB X 0) (zA n5)).setCell (dB X 1) (pA a5 (yA t5) c5)):=((eB.refl (·=X) w5).setCell (Ca rfl) 0 _).setCell (Ca rfl) 1 _;exact⟨a5,c5,P.turn b i,b.blk d h,λ_=>⟨rj f,(zC.turned O b (λg j k e=>by omega)).mono (by omega)⟩⟩
theorem ApR.alloc(h:ApR w c now a n cap N nv sv X SV W)(o:Obj):ApR w c now a n cap N nv sv X SV (W.alloc o):=by
 obtain⟨a5,c5,d,f,b⟩:=h;exact⟨a5,c5,d.z yB,f.alloc _,λe=>⟨(b e).1.alloc _,(b e).2.z yB⟩⟩
end
def SF(c:gC)(now:Int)(a:jC)(cap:Nat)(u:List fB)(ar:jC)(capr:Nat)(r:List qE)(w:eA)(hf:uC w a u)(hr:pI w ar r)(hbk:yA u+aC u+yA r+dD r<=1400000):
 gA prog 47 #[jE c,tA #[lA mA now,pA a (yA u) cap],pA ar (yA r) capr] w λe D=>nT (rG c now u r) w e D:=by
 have U:yA u+aC u<=1900000:=by omega
 obtain⟨f,d,j,l⟩:=rP U;have HST:=cB (λW(I:tB w W)=>jH c now a cap u W (hf.z I) d (by omega));have L:=cB (fun(h:kC c now u=dA) W(I:tB w W)=>rS c now a cap u W (hf.z I) h U);have T:bB (rG c now u r=if kC c now u=cA then(0,[],cA) else if 500<yA r then(now,u,cA) else if (bG c now u r).2.2=dA then bG c now u r else(now,u,cA)):=rfl;have HF:=cB hr;have HBK:=cB hbk;have P:=cB (AL.new (w:=w) (c:=c) (now:=now) (a:=a) (n:=yA u) (cap:=cap));clear hf hr f d j l hbk U;unfold nT;unfold jE at *;generalize rG c now u r=V at *;go_enter func47,ntmps47;go_wp2_with fail;apply hC (HST.o _ P.o.B);intro w1 x;replace P:=cB (P.o.z x);clear x HST;obtain⟨Z,x1,x2,x3,x4,x5,y0,y1,Q,R,g0,g1,hz⟩:=P.o.cells;cases hst:kC c now u with
 |false=>
  have E:bB (V=(0,[],cA)):=by show _=_;rw[T.o,Ma hst]
  go_wp2;refine bodyPost_ret (v:=?_) (by simp[results,results47,go_sem,Q,R];rfl) rfl ?_;rw[E.o];refine⟨aA,0,rfl,Ca rfl,?_⟩;first
   |exact(P.o.B.setCell (by show w.1.size<=w.1.size+1+1;omega) _).setCell (by show w.1.size<=w.1.size+1+1;omega) _
   |exact P.o.B
 |true=>
  have HSM:=cB (L.o hst);have G:bB (V=if 500<yA r then(now,u,cA) else if (bG c now u r).2.2=dA then bG c now u r else(now,u,cA)):=by show _=_;rw[T.o,Ja (by rw[hst];simp)]
  have HS0:=cB hst;clear T L Q R g0 g1;go_wp2_with fail;refine(HSM.o _ P.o.B).mono ?_;rintro e w2 ⟨M,O,rfl,ho2,x⟩;clear Z x1 x2 x3 x4 x5 y0 y1;have O4:=cB ((ho2.mono (B':=w.1.size+1+1+1) (by omega)).z (pF w2 (vA #[lA mA now,pA M (yA u) O] 40)));have P4:=cB ((P.o.z x).z (pF w2 (vA #[lA mA now,pA M (yA u) O] 40)));have N4:=cB (gB.new w2 #[lA mA now,pA M (yA u) O] 40);have hNp:=(P.o.z x).lt;obtain⟨n0,n1⟩:=N4.o.c2;clear x ho2 P;by_cases h5:500<yA r
  .have E:bB (V=(now,u,cA)):=by show _=_;rw[G.o,Ma h5]
   go_upto_region 5 with fail;generalize w2.alloc (vA #[lA mA now,pA M (yA u) O] 40)=w4 at *;obtain⟨-,-,-,-,-,-,-,-,Q,R,g0,g1,hz4⟩:=P4.o.cells;go_wp2;refine bodyPost_ret (v:=?_) (by simp[results,results47,go_sem,Q,R];rfl) rfl ?_;rw[E.o];first
    |exact⟨M,⟨O,rfl⟩,P4.o.done O4.o (by omega)⟩
    |exact⟨M,O,rfl,P4.o.done O4.o (by omega)⟩
  have HVF:bB ((bG c now u r).2.2=cA->V=(now,u,cA)):=λh6=>by rw[G.o,Ja h5,Ja (by rw[h6];simp)]
  have HVT:bB ((bG c now u r).2.2=dA->V=bG c now u r):=λh6=>by rw[G.o,Ja h5,Ma h6]
  go_wp2;generalize w2.alloc (vA #[lA mA now,pA M (yA u) O] 40)=w4 at *;generalize w2.1.size=N at *;clear n0 n1 G;go_loopw [29] (λi wr=>∃(k:Nat)(t:Int)(s:List fB)(z:jC)(A:Nat),k<=yA r/\i=lA mA k/\bB (AL w wr c now a (yA u) cap)/\bB (gB wr N #[lA mA t,pA z (yA s) A] 40)/\bB (zC wr (w.1.size+1+1+1) z s)/\bB (kC c t s=dA)/\bB (yA s+aC s+2*(yA r-k)+dD (r.drop k)<=1900000)/\bB (bG c t s (r.drop k)=bG c now u r)) (λi _=>yA r-(intOf i).toNat)
  case atStart=>exact⟨0,now,u,M,O,Oa _,rfl,P4.o,N4.o,O4.o,HS0.o,cB (by have:=HBK.o;simp only[Nat.sub_zero,Kf];omega),rfl⟩
  case round=>
   obtain⟨k,t,s,z,A,hk,rfl,P,C,OB,F,HK,HR⟩:=hrel;clear P4 N4 O4 HS0;by_cases J:k<yA r
   .obtain ⟨b,o,har,hbw,q0,q1,q2,q3⟩:=(HF.o.z P.o.B).at J;subst har;have hkb:=HK.o;have hdr:=FN r J;have hstb:=eX F.o r[k];have HVQ0:bB _:=λh=>HVF.o (by rw[<-HR.o,VX J h]);have K:bB ((mE c t s r[k]).2.2=dA->bG c (mE c t s r[k]).1 (mE c t s r[k]).2.1 (r.drop (k+1))=bG c now u r/\kC c (mE c t s r[k]).1 (mE c t s r[k]).2.1=dA):=λh=>⟨(VW J h).symm.trans HR.o,GA F.o h⟩
    have HBN:bB (yA (mE c t s r[k]).2.1+aC (mE c t s r[k]).2.1+2*(yA r-(k+1))+dD (r.drop (k+1))<=1900000):=by show _<=_;omega
    have S:bB (mE c t s r[k]=if r[k].K=1 then(t,(dL c t s r[k].T r[k].X).1,decide ((dL c t s r[k].T r[k].X).2=1) ||decide ((dL c t s r[k].T r[k].X).2=2)) else if r[k].K=2 then mK c.w t s r[k].U else if r[k].K=3 then(t,(uR s r[k].T r[k].X r[k].U).1,(uR s r[k].T r[k].X r[k].U).2) else(t,s,cA)):=rfl;have HAD:bB (∀W,tB wr W->gA prog 110 #[tA #[lA mA c.w,lA mA c.tl,lA mA c.ml,lA mA c.sh,lA mA c.ha,lA mA c.sg],tA #[lA mA t,pA z (yA s) A],oA r[k].T,oA r[k].X] W λe D=>∃a cap,e=uA (xA #[tA #[lA mA t,.slice a (yA (dL c t s r[k].T r[k].X).1) cap],lA mA ((dL c t s r[k].T r[k].X).2:Nat)])/\zC D W.1.size a (dL c t s r[k].T r[k].X).1/\tB W D):=λW I=>by
     have:=BF c t z A s r[k].T r[k].X W (OB.o.tens.z I) (by omega) (by omega) (by omega) F.o;rw[WV F.o]at this;exact this
    have HTK:bB (∀W,tB wr W->gA prog 57 #[tA #[lA mA c.w,lA mA c.tl,lA mA c.ml,lA mA c.sh,lA mA c.ha,lA mA c.sg],tA #[lA mA t,pA z (yA s) A],lA mA r[k].U] W λe D=>∃a cap,e=uA (xA #[tA #[lA mA (mK c.w t s r[k].U).1,.slice a (yA (mK c.w t s r[k].U).2.1) cap],qA (mK c.w t s r[k].U).2.2])/\zC D W.1.size a (mK c.w t s r[k].U).2.1/\tB W D):=λW I=>by
     have:=FW c t z A s r[k].U W (OB.o.tens.z I) (by omega) F.o;rw[km F.o]at this;exact this
    have HSE:bB (∀W,tB wr W->gA prog 58 #[tA #[lA mA c.w,lA mA c.tl,lA mA c.ml,lA mA c.sh,lA mA c.ha,lA mA c.sg],tA #[lA mA t,pA z (yA s) A],oA r[k].T,oA r[k].X,lA mA r[k].U] W λe D=>∃a cap,e=uA (xA #[tA #[lA mA t,.slice a (yA (uR s r[k].T r[k].X r[k].U).1) cap],qA (uR s r[k].T r[k].X r[k].U).2])/\zC D W.1.size a (uR s r[k].T r[k].X r[k].U).1/\tB W D):=λW I=>by
     have:=rV c t z A s r[k].T r[k].X r[k].U W (OB.o.tens.z I) (by omega) (by omega) (by omega) F.o;rw[tb F.o]at this;exact this
    clear hkb hdr hstb F HK HR;have hNr:=aB C.o;have hRr:=P.o.lt;have y:bB (tB wr ((wr.alloc (vA #[lA mA r[k].K,oA r[k].T,oA r[k].X,lA mA r[k].U] 132)).alloc (vA #[lA mA 0,pA aA 0 0] 40))):=vB yB yB;have XB:bB _:=cB (by have:=gB.new (wr.alloc (vA #[lA mA r[k].K,oA r[k].T,oA r[k].X,lA mA r[k].U] 132)) #[lA mA 0,pA aA 0 0] 40;simpa using this);have UB:=cB ((gB.new wr #[lA mA r[k].K,oA r[k].T,oA r[k].X,lA mA r[k].U] 132).alloc (vA #[lA mA 0,pA aA 0 0] 40));generalize mE c t s r[k]=SV at *;go_upto_region 11 with fail;clear q0 q1 q2 q3;generalize ((wr.alloc (vA #[lA mA r[k].K,oA r[k].T,oA r[k].X,lA mA r[k].U] 132)).alloc (vA #[lA mA 0,pA aA 0 0] 40))=wb at *;replace P:=cB (P.o.z y.o);replace C:=cB (C.o.z y.o);have hwb:=aB XB.o;clear OB;obtain⟨Z,x1,x2,x3,x4,x5,y0,y1,-,-,-,-,-⟩:=P.o.cells;obtain⟨n0,n1⟩:=C.o.c2;obtain⟨q0,q1,q2,q3⟩:=UB.o.c4;generalize r[k].K=H at *;generalize r[k].T=TE at *;generalize r[k].X=TX at *;generalize r[k].U=NU at *;go_upto_block 2 with fail;go_cut [11,14] (λok _ wx=>ok=qA SV.2.2/\ApR w c now a (yA u) cap N (lA mA t) (pA z (yA s) A) (wr.1.size+1) SV wx)
    case first=>
     generalize dL c t s TE TX=R1 at *;generalize mK c.w t s NU=R2 at *;generalize uR s TE TX NU=R3 at *;obtain⟨t5,v5⟩:=R1;obtain⟨n6,m,b6⟩:=R2;obtain⟨p,b7⟩:=R3;have hks:H=1/\(((v5:Int)==1)=dA/\SV=(t,t5,dA)\/((v5:Int)==1)=cA/\(((v5:Int)==2)=dA/\SV=(t,t5,dA)\/((v5:Int)==2)=cA/\SV=(t,t5,cA)))\/(H==1)=cA/\(H=2/\SV=(n6,m,b6)\/(H==2)=cA/\(H=3/\SV=(t,p,b7)\/(H==3)=cA/\SV=(t,s,cA))):=by
      rw[S.o];by_cases k1:H=1
      .refine Ca ⟨k1,?_⟩;rw[Ma k1];by_cases v1:v5=1
       .exact Ca ⟨by simp[v1],by simp[v1]⟩
       refine La ⟨by simp;omega,?_⟩;by_cases v2:v5=2
       .exact Ca ⟨by simp[v2],by simp[v2]⟩
       exact La ⟨by simp;omega,by simp[v1,v2]⟩
      refine La ⟨by simpa using k1,?_⟩;rw[Ja k1];by_cases k2:H=2
      .exact Ca ⟨k2,by rw[Ma k2]⟩
      refine La ⟨by simpa using k2,?_⟩;rw[Ja k2];by_cases k3:H=3
      .exact Ca ⟨k3,by rw[Ma k3]⟩
      exact La ⟨by simpa using k3,by rw[Ja k3]⟩
     clear S;obtain⟨rfl,⟨h1,rfl⟩|⟨h1,⟨h2,rfl⟩|⟨h2,rfl⟩⟩⟩|⟨k1,⟨rfl,rfl⟩|⟨k2,⟨rfl,rfl⟩|⟨k3,rfl⟩⟩⟩:=hks
     all_goals
      go_wp2_with((first
       |(go_at_call 110;refine(HAD.o _ y.o).mono ?_)
       |(go_at_call 57;refine(HTK.o _ y.o).mono ?_)
       |(go_at_call 58;refine(HSE.o _ y.o).mono ?_));rintro e w5 ⟨a5,c5,rfl,ho,x⟩;have O5:=cB ho;have P5:=cB (P.o.z x);have N5:=cB (C.o.z x);have X5:=cB (XB.o.z x);have hx5:=aB X5.o;clear ho x q0 q1 q2 q3 n0 n1 Z x1 x2 x3 x4 x5 y0 y1;obtain⟨Z,x1⟩:=X5.o.c2;have fx:=X5.o.free)
      go_meet;first
       |(have q:=k3;exact⟨rfl,aA,0,P.o,C.o,λe=>by cases e⟩)
       |exact⟨rfl,rf P5.o N5.o X5.o O5.o (by omega) (by omega) hwb⟩
       |exact⟨rfl,(rf P5.o N5.o X5.o O5.o (by omega) (by omega) hwb).alloc _⟩
    clear HAD HTK HSE S UB XB y P C Z x1 x2 x3 x4 x5 y0 y1 n0 n1 q0 q1 q2 q3;obtain⟨rfl,a5,c5,hP,hN,hX⟩:=hcut;rename eA=>w6;have P:=cB hP;have C:=cB hN;obtain⟨Z,x1,x2,x3,x4,x5,y0,y1,-,-,-,-,hz⟩:=hP.cells;obtain⟨n5,t5,b5⟩:=SV;cases b5 with
    |false=>
     have E:=cB (HVQ0.o rfl);clear hX hN hP;go_wp2_with(go_at_call 109;refine(HSM.o _ P.o.B).mono ?_;rintro e w9 ⟨ra,rc,rfl,ho,x⟩;have P9:=cB (P.o.z x);have HO9:=cB ho;clear ho x Z x1 x2 x3 x4 x5 y0 y1;obtain⟨-,-,-,-,-,-,-,-,Q,R,g0,g1,hz9⟩:=P9.o.cells);refine bodyPost_ret (v:=?_) (by simp[results,results47,go_sem,Q,R];rfl) rfl ?_;rw[E.o];first
      |exact⟨ra,⟨rc,rfl⟩,P9.o.done HO9.o hz⟩
      |exact⟨ra,rc,rfl,P9.o.done HO9.o hz⟩
    |true=>
     have HX:=cB (hX rfl);obtain⟨m0,m1⟩:=HX.o.1.c2;obtain⟨n0,n1⟩:=hN.c2;have fn:=hN.free;clear hX hN hP;go_wp2;have hT:eB (·=N) w6 ((w6.setCell ⟨N,0,aA⟩ (lA mA n5)).setCell ⟨N,1,aA⟩ (pA a5 (yA t5) c5)):=((eB.refl (·=N) w6).setCell (Ca rfl) 0 _).setCell (Ca rfl) 1 _;exact⟨⟨k+1,n5,t5,a5,c5,by omega,by go_num,cB (P.o.turn hT hNp),cB (rj C.o),cB ((zC.turned HX.o.2 hT (λg h1 h2 e=>by omega)).mono (by omega)),(K.o rfl).2,HBN.o,(K.o rfl).1⟩,by simp[intOf];omega⟩
   have Y:bG c now u r=(t,s,dA):=by rw[<-HR.o,Ie (by omega)];rfl
   have E:bB (V=(t,s,dA)):=by show _=_;rw[HVT.o (by rw[Y]),Y]
   have hkl:¬((k:Int)<yA r):=by omega
   obtain⟨n0,n1⟩:=C.o.c2;obtain⟨-,-,-,-,-,-,-,-,Q,R,g0,g1,hz⟩:=P.o.cells;clear Y;go_wp2;refine bodyPost_ret (v:=?_) (by simp[results,results47,go_sem,Q,R];rfl) rfl ?_;rw[E.o];first
    |exact⟨z,⟨A,rfl⟩,P.o.done OB.o (by omega)⟩
    |exact⟨z,A,rfl,P.o.done OB.o (by omega)⟩
end
section
variable {s:nB} {q k:Nat} {ls:List bC} {xs:List oF}
theorem aLg(f:s.size<=1000000)(h:DJ s q (gD ls))(m:∀i(t:i<yA ls),aJs ls[i])(b:k<yA ls):∃g j:Nat,bB (∀W,hI 103 #[oA s,zA ((q+(gD (ls.take k)).size:Nat):Int),zA 1] W (xA #[oA ls[k].N,zA (g:Nat)]))/\bB (∀W,hI 103 #[oA s,zA (g:Nat),zA 2] W (xA #[oA ls[k].V,zA (j:Nat)]))/\bB (j=q+(gD (ls.take (k+1))).size):=by
 have d:=aHc h b;obtain⟨o,p⟩:=m k b;have a:=d.r;rw[lF]at a;refine⟨_,_,λW=>aU (n:=1) d.l (by omega) (by omega) f W,λW=>aU (n:=2) (by rw[<-Nat.add_assoc]at a;exact a) (by omega) (by omega) f W,?_⟩;show _=_;rw[eT ls k b];simp only[Ka,lF,bF];omega
theorem aMg(j:s.size<=1000000)(h:DJ s q (cE xs))(o:aKh xs)(n:∀i(t:i<yA xs),WR xs[i].bits)(b:k<yA xs):∃c m:Nat,bB (∀W,hI 102 #[oA s,zA ((q+(cE (xs.take k)).size:Nat):Int),zA 1] W (xA #[zA (yA xs[k].B:Nat),zA (c:Nat)]))/\DJ s c (gD xs[k].B)/\bB (∀W,hI 102 #[oA s,zA ((c+(gD xs[k].B).size:Nat):Int),zA 8] W (xA #[zA xs[k].bits,zA (m:Nat)]))/\bB (m=q+(cE (xs.take (k+1))).size):=by
 have a:=aHd h b;rw[gW,tH]at a;have f:=a.l.r;have g:=a.r;rw[kB]at f;rw[Ka,kB,<-Nat.add_assoc]at g;have p:=(o k b).1;refine⟨_,_,λW=>cT a.l.l (by omega) (MR (by omega) (by omega)) j W,f,λW=>cT g (by omega) (DQ _ (n k b)) j W,?_⟩;show _=_;rw[pP xs k b,gW,tH];simp only[Ka,kB];omega
end
structure GS(w W:World)(cs:Array Value):Prop where
 R:gB W (w.1.size+1) cs 47
 Z:gB W w.1.size #[zA 0,oA kA,oA kA,zA 0,pA aA 0 0] 47
 N:tB w W
section
variable {w W W':eA} {cs:Array iA}
theorem GS.start(w:eA):GS w ((w.alloc (vA #[zA 0,oA kA,oA kA,zA 0,pA aA 0 0] 47)).alloc (vA #[zA 0,oA kA,oA kA,zA 0,pA aA 0 0] 47)) #[zA 0,oA kA,oA kA,zA 0,pA aA 0 0]:=
 ⟨by have:=gB.new (w.alloc (vA #[zA 0,oA kA,oA kA,zA 0,pA aA 0 0] 47)) #[zA 0,oA kA,oA kA,zA 0,pA aA 0 0] 47;simpa using this,(gB.new _ _ _).alloc _,vB yB yB⟩
theorem GS.set(h:GS w W cs)(i:Nat)(v:iA):GS w (W.setCell (dB (w.1.size+1) i) v) (cs.setIfInBounds i v):=
 ⟨h.R.set i v,h.Z.but ((pD.refl (w.1.size+1) W).setCell i v) (by omega),h.N.setCell (by simp) _⟩
theorem GS.z(h:GS w W cs)(a:tB W W'):GS w W' cs:=⟨h.R.z a,h.Z.z a,vB h.N a⟩
end
def iZ(r:dG)(w:eA)(h:VR r):
 gA prog 51 #[oA (uK r)] w λe E=>bh r w e E:=by
 obtain⟨m,q,P,o,A1,A2,A3,G⟩:=aNo h;have hs:(uK r).size<=1000000:=by have:=h.sz;omega
 have HEN:=cB (λW J cap(l:dJ W J r.P)=>CW r J cap W l h);obtain⟨U,_,_,_,I,h5,h6,l,O⟩:=h.ok;have Z:=h.U;have l:=h.bits;unfold bh;obtain⟨k,T,M,N,S⟩:=r;obtain⟨k,rfl⟩:=Yf (show 0<=k by dsimp only at U;omega);dsimp only at *;have H0:bB (∀W,hI 102 #[oA (uK ⟨k,T,M,N,S⟩),zA 0,zA 1] W (xA #[zA (k:Nat),zA 1])):=λW=>cT o (by omega) (MR (by omega) (by omega)) hs W;replace A1:bB (zU k=dA/\(∀W,hI 103 #[oA (uK ⟨k,T,M,N,S⟩),zA 1,zA 1] W (xA #[oA T,zA (m:Nat)]))\/zU k=cA/\T=kA/\m=1):=A1.imp (fun⟨a,b,c⟩=>⟨a,λW=>by rw[c];exact aU b (by omega) (by omega) hs W⟩) id;replace A2:bB (yU k=dA/\(∀W,hI 103 #[oA (uK ⟨k,T,M,N,S⟩),zA (m:Nat),zA 2] W (xA #[oA M,zA (q:Nat)]))\/yU k=cA/\M=kA/\q=m):=A2.imp (fun⟨a,b,c⟩=>⟨a,λW=>by rw[c];exact aU b (by omega) (by omega) hs W⟩) id;replace A3:bB (mV k=dA/\(∀W,hI 102 #[oA (uK ⟨k,T,M,N,S⟩),zA (q:Nat),zA 8] W (xA #[zA N,zA (P:Nat)]))\/mV k=cA/\N=0/\P=q):=A3.imp (fun⟨a,b,c⟩=>⟨a,λW=>by rw[c];exact cT b (by omega) (DQ _ Z) hs W⟩) id;have u:bB (k=1->∀W,hI 102 #[oA (uK ⟨k,T,M,N,S⟩),zA (P:Nat),zA 2] W (xA #[zA (yA S:Nat),zA ((P+2:Nat):Int)])):=λe W=>cT (G (by omega)).l (by omega) (MR (by omega) (by omega)) hs W;have HX:bB (k=1->DJ (uK ⟨k,T,M,N,S⟩) (P+2) (cE S)):=λe=>by have:=(G (by omega)).r;rwa [kB]at this
 have U:bB (k≠1->S=[]):=λe=>I (by omega);have Q:=cB O;have Y:=cB l;have H:(uK ⟨k,T,M,N,S⟩).toList.isEmpty=cA:=by
  have:=o.le;rw[kB]at this;exact sV.2 λe=>by rw[e]at this;exact absurd this (by decide)
 clear G o I h5 h6 O Z l h;generalize uK ⟨k,T,M,N,S⟩=s at *;have I:∀j:Nat,(((k:Nat):Int)==(j:Int))=decide (k=j):=λj=>by rw[Qb];simp;omega
 go_enter func51,ntmps51;go_wp2_with fail;refine oD (H0.o _) ?_;have G:bB (GS w ((w.alloc (vA #[zA 0,oA ⟨#[]⟩,oA ⟨#[]⟩,zA 0,pA aA 0 0] 47)).alloc (vA #[zA 0,oA ⟨#[]⟩,oA ⟨#[]⟩,zA 0,pA aA 0 0] 47)) #[zA 0,oA kA,oA kA,zA 0,pA aA 0 0]):=cB (GS.start w);clear H0;generalize (w.alloc (vA #[zA 0,oA ⟨#[]⟩,oA ⟨#[]⟩,zA 0,pA aA 0 0] 47)).alloc (vA #[zA 0,oA ⟨#[]⟩,oA ⟨#[]⟩,zA 0,pA aA 0 0] 47)=W at *;have O:tC W (w.1.size+1) 0 (zA 0):=G.o.R.cell 0;have c1:=G.o.R.free 0;go_upto_region 4 with fail;replace G:=cB (G.o.set 0 (zA k));clear O c1;generalize W.setCell (dB (w.1.size+1) 0) (zA k)=V at *;go_upto_region 4 with fail;go_cut [5,32,47] (λA _ b o=>A=zA k/\b=qA (zU k)/\o=V)
 case first=>
  go_wp2;all_goals go_meet
  all_goals(unfold zU;simp_all)
 obtain⟨rfl,rfl,rfl⟩:=hcut;go_upto_if 47 with fail;go_cut [5,6] (λA J o=>A=zA k/\J=zA (m:Nat)/\GS w o #[zA k,oA T,oA kA,zA 0,pA aA 0 0])
 case first=>
  obtain⟨D,u⟩|⟨D,rfl,rfl⟩:=A1.o
  .rw[D];replace u:=cB u;go_wp2_with fail;refine oD (u.o _) ?_;have O:=G.o.R.cell 1;have c1:=G.o.R.free 1;go_wp2;go_meet;exact⟨rfl,rfl,G.o.set 1 (oA T)⟩
  rw[D];go_wp2;go_meet;exact⟨rfl,rfl,G.o⟩
 clear G;obtain⟨rfl,rfl,G⟩:=hcut;replace G:=cB G;rename eA=>V;go_upto_region 8 with fail;go_cut [5,62] (λA b o=>A=zA k/\b=qA (yU k)/\o=V)
 case first=>
  go_wp2;all_goals go_meet
  all_goals(unfold yU;simp_all)
 obtain⟨rfl,rfl,rfl⟩:=hcut;go_upto_if 62 with fail;go_cut [5,6] (λA J o=>A=zA k/\J=zA (q:Nat)/\GS w o #[zA k,oA T,oA M,zA 0,pA aA 0 0])
 case first=>
  obtain⟨D,u⟩|⟨D,rfl,rfl⟩:=A2.o
  .rw[D];replace u:=cB u;go_wp2_with fail;refine oD (u.o _) ?_;have O:=G.o.R.cell 2;have c1:=G.o.R.free 2;go_wp2;go_meet;exact⟨rfl,rfl,G.o.set 2 (oA M)⟩
  rw[D];go_wp2;go_meet;exact⟨rfl,rfl,G.o⟩
 clear G;obtain⟨rfl,rfl,G⟩:=hcut;replace G:=cB G;rename eA=>V;go_upto_region 12 with fail;go_cut [5,77] (λA b o=>A=zA k/\b=qA (mV k)/\o=V)
 case first=>
  go_wp2;all_goals go_meet
  all_goals(unfold mV;simp_all)
 obtain⟨rfl,rfl,rfl⟩:=hcut;go_upto_if 77 with fail;go_cut [5,6] (λA J o=>A=zA k/\J=zA (P:Nat)/\GS w o #[zA k,oA T,oA M,zA N,pA aA 0 0])
 case first=>
  obtain⟨D,u⟩|⟨D,rfl,rfl⟩:=A3.o
  .rw[D];replace u:=cB u;go_wp2_with fail;refine oD (u.o _) ?_;have O:=G.o.R.cell 3;have c1:=G.o.R.free 3;go_wp2;go_meet;exact⟨rfl,rfl,G.o.set 3 (zA N)⟩
  rw[D];go_wp2;go_meet;exact⟨rfl,rfl,G.o⟩
 clear G;obtain⟨rfl,rfl,G⟩:=hcut;replace G:=cB G;rename eA=>V;go_upto_region 16 with fail;go_cut [5,88] (λA b o=>A=zA k/\b=qA (decide (k=1))/\o=V)
 case first=>
  go_wp2;go_meet;exact⟨rfl,by rw[<-I 1];rfl,rfl⟩
 obtain⟨rfl,rfl,rfl⟩:=hcut;go_upto_if 88 with fail;go_cut [5,6,13,14,15] (λA _ _ _ _ o=>A=zA k/\∃v,GS w o #[zA k,oA T,oA M,zA N,v]/\zX o (w.1.size+1+1) 107 v (yA S) S)
 case first=>
  by_cases q:k=1
  .replace u:=cB (u.o q);replace HX:=cB (HX.o q);rw[Ac q];clear q U;go_wp2_with fail;refine oD (u.o _) ?_;go_wp2_with fail;go_loopw [6,15] (λm i wr=>∃(j z:Nat)(v:iA),j<=yA S/\i=zA j/\m=zA (z:Nat)/\bB (z=P+2+(cE (S.take j)).size)/\bB (GS w wr #[zA k,oA T,oA M,zA N,v])/\bB (zX wr (w.1.size+1+1) 107 v j (S.take j))) (λ_ i _=>yA S-(intOf i).toNat)
   case atStart=>exact⟨0,P+2,_,Oa _,rfl,rfl,rfl,G.o,zX.nil _ _ _⟩
   case round=>
    obtain⟨j,z,v,J,rfl,rfl,J,HG,HV⟩:=hrel;clear G;by_cases p:j<yA S
    .obtain ⟨q0,q1,P1,hq0,P2,F⟩:=aMg hs HX.o Q.o Y.o p;rw[<-J.o]at P1;have O:=cB hq0;have Z:=cB (Q.o j p).2;have ES:bB (S.take (j+1)=S.take j++[⟨S[j].B,S[j].bits⟩]):=by show _=_;rw[Pa p]
     have J:=(Q.o j p).1;clear hq0;generalize S[j].B=ls at *;generalize S[j].bits=bi at *;rename eA=>t;go_wp2_with fail;refine oD (P1.o _) ?_;go_upto_block 2 with fail;have X0:=cB (gB.new t #[pA aA 0 0,zA 0] 107);have B0:=cB (pF t (vA #[pA aA 0 0,zA 0] 107));generalize t.alloc (vA #[pA aA 0 0,zA 0] 107)=J at *;go_cut [6] (λa o=>a=zA ((q0+(gD ls).size:Nat):Int)/\∃B,gB o t.1.size #[B,zA 0] 107/\o.ownsRow (t.1.size+1) 181 2 B (yA ls) (nC ls)/\tB t o)
     case first=>
      go_wp2_with fail;go_loopw [6,19] (λm i wr=>∃(y J:Nat)(B:iA),y<=yA ls/\i=zA y/\m=zA (J:Nat)/\bB (J=q0+(gD (ls.take y)).size)/\bB (gB wr t.1.size #[B,zA 0] 107)/\bB (wr.ownsRow (t.1.size+1) 181 2 B y (nC (ls.take y)))/\bB (tB t wr)) (λ_ i _=>yA ls-(intOf i).toNat)
      case atStart=>exact⟨0,q0,_,Oa _,rfl,rfl,rfl,X0.o,eA.ownsRow_nil _ _ _ _,B0.o⟩
      case round=>
       obtain⟨y,J,B,I,rfl,rfl,Y,X,R,m⟩:=hrel;by_cases L:y<yA ls
       .obtain ⟨z3,z4,Q1,Q2,F1⟩:=aLg hs O.o Z.o L;rw[<-Y.o]at Q1;have Z:bB (nC (ls.take (y+1))=nC (ls.take y)++[oA ls[y].N,oA ls[y].V]):=by show _=_;rw[Pa L,jF];rfl
        generalize ls[y].N=tx at *;generalize ls[y].V=o at *;have c1:tC wr t.1.size 0 B:=X.o.cell 0;have o:=aB X.o;iterate 2 (go_wp2_with fail;first|with_reducible refine oD (Q1.o _) ?_|with_reducible refine oD (Q2.o _) ?_)
        go_wp2_with(at_builtin;refine qM rfl _ _ rfl underlying104 aCy rfl (by omega) (by omega) (v:=B) rfl R.o rfl rfl rfl (by simp[iA.oneCell']) (by omega) (by omega) ?_;intro g5 O w5 HO I _;have o:=cB (I.o.blk X.o (λe=>by omega));have s5:=o.o.cell 0;have n:=o.o.free 0);obtain⟨x1,x2,x3⟩:=tZ X.o I.o HO.o (Nat.lt_succ_self _) 0;exact⟨⟨y+1,z4,_,by omega,by go_num,rfl,F1,cB (by simpa using x1),cB (by rw[Z.o];exact x2),cB (m.o.trans (x3.below (by omega) λi hi e=>by omega))⟩,by simp[intOf];omega⟩
       obtain rfl:y=yA ls:=by omega
       rw[Rb]at R Y;go_wp2;go_meet;exact⟨by rw[Y.o],B,X.o,R.o,m.o⟩
     obtain⟨rfl,B,C,K,hB⟩:=hcut;rename eA=>w1;obtain⟨a1,d1,rfl⟩:=jM K;obtain⟨T',ys,b0,d0,Y,Z⟩:=HV.o;have m:=aB HG.o.R;go_wp2_with fail;refine oD (P2.o _) ?_;obtain⟨x0,x1⟩:=C.c2;have m:=C.free 1;go_upto_region 35 with fail;have o:=(eB.refl (·=t.1.size) w1).setCell (Ca rfl) 1 (zA bi);have X1:=cB (C.set 1 (zA bi));have R1:=cB (o.row K (λb l e=>by have:=(K.lt b l).1;omega));have B1:=cB (hB.trans (o.below hB.size λi hi e=>by omega));clear x0 x1 m C K hB X0 B0 o;generalize w1.setCell (dB t.1.size 1) (zA bi)=w2 at *;have m:=aB X1.o;have G:=cB (HG.o.z B1.o);have HR:=cB (eC b0 B1.o);have m:=cB (⟨d0,Y,Z,b0.lt⟩:_/\_/\_/\_);have hyl:bB (yA ys=j):=by show _=_;have:=Kd List.length d0;rw[Xa,Hb]at this;omega
     have x0:tC w2 t.1.size 0 (pA a1 (yA ls) d1):=X1.o.cell 0;have x1:tC w2 t.1.size 1 (zA bi):=X1.o.cell 1;have y4:=G.o.R.cell 4;clear b0 d0 Y Z;go_wp2_with(at_builtin;refine qM rfl _ _ rfl underlying45 er rfl (by omega) (by omega) (v:=v) rfl HR.o rfl rfl rfl (by simp[iA.oneCell']) (by omega) (by omega) ?_;intro g5 O w5 HO I Y;have O:=cB (I.o.blk G.o.R (λe=>by omega));have s5:=O.o.cell 4;have n:=O.o.free 4);obtain⟨J,Z,z3⟩:=tZ G.o.R I.o HO.o (Nat.lt_succ_self _) 4;obtain⟨B,v2,v3,v4⟩:=m.o;have m:=λg(O:g<w2.1.size)(h:w.1.size+1+1<=g)(H:v.ownBlock≠bA g)=>z3.block g O (λe=>e.elim (λe=>by omega) λe=>H e.2);refine⟨⟨j+1,q1,_,by omega,by go_num,rfl,F,⟨by simpa using J,z3.blk G.o.Z (λe=>by omega),G.o.N.trans (z3.below (by omega) λi hi e=>by omega)⟩,?_⟩,by simp[intOf];omega⟩;rw[ES.o];exact zX.snoc (wr:=t) (w4:=w2) (v:=v) (T:=T') (ys:=ys) (x:=⟨ls,bi⟩) Z B hyl.o v2 v3 (by omega) (λg O l H=>(m g (by omega) l H).trans (B1.o.block g O)) (λg O l=>m g l (by omega) (λe=>by have:=(v4 _ e).2;omega)) (tD.mono (xJ R1.o) (by omega)) (iu R1.o) (Y.o.elim (λh=>Ca ⟨h,(v4 _ h).2⟩) λh=>La (by omega)) (by omega)
    obtain rfl:j=yA S:=by omega
    rw[Rb]at HV;go_wp2;go_meet;exact⟨rfl,v,HG.o,HV.o⟩
  obtain rfl:=U.o q;rw[Ub q];go_wp2;go_meet;exact⟨rfl,_,G.o,zX.nil _ _ _⟩
 clear G U HX u A1 A2 A3;obtain⟨rfl,v,C,K⟩:=hcut;rename eA=>w1;obtain⟨G,rc,rfl⟩:=K.row;have X:=cB C;have O:=cB (K.own rfl);obtain⟨x0,x1,x2,x3,J⟩:=C.R.c5;obtain⟨h,l,m,q,y4⟩:=C.Z.c5;have f:=C.Z.free;have p:=C.N.size;have o:=fun(W:eA)(a b c d e:iA)=>((((((pD.refl w.1.size W).setCell 0 a).setCell 1 b).setCell 2 c).setCell 3 d).setCell 4 e)
 have I:=cB o;clear C K o;go_wp2_with(go_at_call 8;apply hC (HEN.o _ G rc O.o.P);intro o o;replace X:=cB (X.o.z o);replace O:=cB (O.o.z o);clear x0 x1 x2 x3 J h l m q y4 f p;obtain⟨x0,x1,x2,x3,J⟩:=X.o.R.c5;obtain⟨h,l,m,q,y4⟩:=X.o.Z.c5;have f:=X.o.Z.free;have p:=X.o.N.size;clear o);refine bodyPost_ret (v:=?_) (by simp[results,results51,go_sem,h,l,m,q,y4];rfl) rfl ?_;exact⟨G,rc,rfl,(O.o.but (I.o _ _ _ _ _ _) (by omega)).mono (by omega),X.o.N.trans ((eB.but (I.o _ _ _ _ _ _)).below p λi hi e=>by omega)⟩
def ckL(L:mG)(x:Nat):mG:=if x=0 then⟨L.last+1,L.last+1,0⟩ else L
def aFc(K:gE)(a:pK):jJ K [a]=fE K a:=by
 exact AF (K:=K) (xs:=[]) a rfl
def UH{A w:eA}{B P D:Nat}{K:gE}{L:mG}(h:eQ A w B P D K L):
 gA prog 68 #[.pointer (pB P)] w λe z=>e=uA (eH (jJ K (nN K.fs)).2)/\eQ A z B P D (jJ K (nN K.fs)).1 L/\nJ w z:=by
 obtain⟨b,c,d,f,g,i,j,_⟩:=rK h.valid;obtain⟨v,r⟩:=h.drive;obtain⟨a,H,rfl,l⟩:=r.files;have s:=cB (λW(J:tB w W)=>rT a H K.fs iX W (l.z J) (BL b) (by omega));have k:=cB (xe (t:=iX) (BL b));have I:=r.cell4;obtain⟨G,_,_,_⟩:=h.wr.cells;have x:=cB h;clear r l b c d f g i j h;go_enter func68,ntmps68;go_wp2_with fail;apply hC (s.o _ bD);intro M m;have p:=cB (x.o.z m);have y:=cB (nJ.of m);obtain⟨q,_,_,_⟩:=p.o.wr.cells;clear m s G I x;cases hq:fI K.fs iX (fC iX K.fs) with
 |false=>
  have E:=cB (show nN K.fs=[] from Ja (λh=>by have:=k.o.1 h;rw[hq]at this;cases this));clear hq k;go_wp2;go_ret;rw[E.o];exact⟨rfl,p.o,y.o⟩
 |true=>
  have E:=cB (show nN K.fs=[VI] from Ma (k.o.2 hq));have u:=cB (tj VI p.o aIf);clear hq k;go_wp2_with fail;apply hC u.o;rintro N ⟨o,n⟩;have F:=cB o;have C:=cB (y.o.trans n);clear o n q u;go_wp2;go_ret;rw[E.o,aFc];exact⟨rfl,F.o,C.o⟩
def WZ{C:eA->Prop}{w:eA}{cs:Array iA}{t:TypeId}(k:∀W,tB w W->gB W w.1.size cs t->C W):C (w.alloc (vA cs t)):=
 k _ yB (gB.new w _ _)
def NB{T w:eA}{B P D:Nat}{K:gE}{L:mG}(c:nB)(h:eQ T w B P D K L)(G:iJ L=dA)(I:L.last<999999):
 gA prog 228 #[.pointer (pB P),oA c] w λe v=>e=uA (eH (jJ K (fP K L c)).2)/\eQ T v B P D (jJ K (fP K L c)).1 (ckL L (jJ K (fP K L c)).2):=by
 obtain⟨_,_,m,m,m,_⟩:=aOg G;have o:=cB (UH h);obtain⟨m,J⟩:∃R,R=jJ K (nN K.fs):=⟨_,rfl⟩
 have x:=cB (IQ (nN K.fs) K);rw[<-J]at o x;have E0:=cB (show jJ K (fP K L c)=if m.2=0 then jJ m.1 (oY L.last c++kR L.first (L.last+1-L.first).toNat) else m by rw[fP,zT,J]);obtain⟨K0,x0⟩:=m;clear J h G;generalize jJ K (fP K L c)=RR at *;go_enter func228,ntmps228;go_wp2_with fail;apply hC o.o;rintro w1 ⟨m,_⟩;have J:=cB m;clear m o;by_cases hx:x0=0
 .subst hx;simp only[eH];have m:IntKind.i64.wrap (L.last+1)=L.last+1:=by rw[IntKind.wrap_i64];omega
  obtain⟨F,c1,c2,c3⟩:=J.o.wr.cells;have Z:=cB (λW(M:tB w1 W)=>wN (L.last+1) W (J.o.z M).tab);have E1:=cB (E0.o.trans (Ma rfl));have Y:=cB (aEg (text:=c) (show 0<=L.last by omega) I);go_wp2_with fail;apply hC (Z.o _ bD);intro w2 m;have o:=cB (J.o.z m);clear m F c1 c2 c3 J Z E0 x;go_upto_region 6 with fail;refine WZ (C:=λW=>Code.wp prog _ _ _ W) ?_;intro I m G;have W3:=cB (o.o.z m);have H3:=cB (show gB I w2.1.size (vN (oY L.last c)).toArray _ from G);clear G m o;generalize w2.1.size=G at *;generalize q:oY L.last c=b at *;have m:yA b=5:=by rw[<-q];rfl
  clear q;go_wp2;go_loopw [35] (λi wr=>∃(j:Nat)(y:gE),j<=5/\i=zA j/\bB (jJ K0 (b.take j)=(y,0))/\bB (eQ T wr B P D y L)/\bB (gB wr G (vN b).toArray 115)) (λi _=>5-(RowKit.intOf i).toNat)
  case atStart=>exact⟨0,K0,Oa _,rfl,rfl,W3.o,H3.o⟩
  case round=>
   obtain⟨j,y,hj,rfl,a,d,p⟩:=hrel;by_cases Q:j<5
   .have z:j<yA b:=by omega
    obtain⟨O,q1,q2,q3,U⟩:=aNm (aLw p.o) j z;obtain⟨g,s⟩:∃g,g=b[j]:=⟨_,rfl⟩
    have HO:=cB (show IJ g=dA from Y.o _ (s ▸ Gb z));have HE:=cB (show b.take (j+1)=b.take j++[g] by rw[s,Pa z]);have HX:=cB (show ∀r,b++r=b.take j++g::(b.drop (j+1)++r) from λr=>by
     conv=>lhs;rw[<-Za j b,Cb z,<-s]
     simp)
    rw[<-s]at O q1 q2 q3 U;clear s;go_upto_region 9 with fail;refine WZ (C:=λW=>Code.wp prog _ _ _ W) ?_;intro w4 N o;have I:=cB (d.o.z N);have G4:=cB (p.o.z N);obtain⟨F,_,_,_⟩:=I.o.wr.cells;have x0:tC w4 wr.1.size 0 (zA g.K):=o.cell 0;have G:=cB (λW(M:tB w4 W)=>tj g (I.o.z M) HO.o);have E:=cB (λW Kq(h:eQ T W B P D Kq L)=>h.wr.cells.1);have m:=cB o;clear O q1 q2 q3 U N o;go_wp2_with fail;go_region_held3 (λv=>v.cell? (dB P 0)=bA (.pointer (pB D))/\v.cell? (dB wr.1.size 0)=bA (zA g.K)/\v.cell? (dB wr.1.size 1)=bA (oA g.N)/\v.cell? (dB wr.1.size 2)=bA (oA g.tq)/\v.cell? (dB wr.1.size 3)=bA (oA g.data)/\v.cell? (dB wr.1.size 4)=bA (zA g.size))
     (first|exact⟨E.o _ _ W5.o,V.o.cell 0,V.o.cell 1,V.o.cell 2,V.o.cell 3,V.o.cell 4⟩|(have o:=(Below.refl w4.1.size w4).drew;exact⟨E.o _ _ (I.o.z o),(m.o.z o).cell 0,(m.o.z o).cell 1,(m.o.z o).cell 2,(m.o.z o).cell 3,(m.o.z o).cell 4⟩))
     (first|(go_at_call 125;apply hC (G.o _ bD.drew);rintro o ⟨o,O⟩;have W5:=cB o;have V:=cB (O.blk (m.o.z bD.drew) (by decide) (by decide));have G5:=cB (O.blk (G4.o.z bD.drew) (by decide) (by decide))))
    clear F x0 E G m I G4 o O V;have x:=cB (CX y g);obtain⟨⟨H,U⟩,f⟩:∃R,fE y g=R:=⟨_,rfl⟩
    have l:=cB f;rw[f]at W5 x;simp only[f];clear f;by_cases A:U=0
    .subst A;simp only[eH];go_wp2;refine⟨⟨j+1,H,by omega,by go_num,?_,W5.o,G5.o⟩,by simp[RowKit.intOf];omega⟩;show _=_;rw[HE.o,AF g (by rw[a.o]),a.o];exact l.o
    obtain ⟨t,u⟩:=aK A x.o;have o:=cB u;rw[u];clear u;go_wp2;go_ret;have X:RR=(H,U):=by
     rw[E1.o,HX.o,IS g (by rw[a.o]) (by rw[a.o];show(fE y g).2≠0;rw[l.o];exact A),a.o];exact l.o
    rw[X];exact⟨by rw[o.o];rfl,by rw[show ckL L (H,U).2=L from Ja A];exact W5.o⟩
   obtain rfl:j=5:=by omega
   have S:=a.o;rw[Ra (by omega)]at S;have E2:=cB (E1.o.trans (show _=jJ y (kR L.first (L.last+1-L.first).toNat) by rw[zT,S,Ma rfl]));obtain⟨F,c1,c2,c3⟩:=d.o.wr.cells;clear a S p E1 H3 W3 Y;go_wp2;obtain⟨m,I⟩:∃m:Nat,(m:Int)=L.last+1-L.first:=⟨(L.last+1-L.first).toNat,by omega⟩
   have I:(L.last+1-L.first).toNat=m:=by omega
   rw[I]at E2;clear I;have O:=cB d.o;clear F c1 c2 c3 d hj Q;go_loopw [11] (λi Y=>∃(k:Nat)(I:gE),k<=m/\i=zA (L.first+k)/\bB (jJ y (kR L.first k)=(I,0))/\bB (eQ T Y B P D I L)) (λi _=>(L.last+1-RowKit.intOf i).toNat)
   case atStart=>exact⟨0,y,Oa _,by simp,rfl,O.o⟩
   case round=>
    obtain⟨k,I,O,rfl,a,d⟩:=hrel;by_cases Q:k<m
    .have O:L.first+(k:Int)<L.last+1:=by omega
     have HO:=cB (aIe (n:=L.first+k) (by omega) (by omega));have Z:=cB (λW(M:Below _ _ W)=>wN (L.first+k) W (d.o.z M).tab);have G:=cB (λW(M:eQ T W B P D I L)=>tj (FG (L.first+k)) M HO.o);have E:=cB (λW Kq(h:eQ T W B P D Kq L)=>h.wr.cells.1);have F:=d.o.wr.cells.1;have h:IntKind.i64.wrap (L.first+(k:Int)+1)=L.first+(k:Int)+1:=by rw[IntKind.wrap_i64];omega
     go_wp2_with fail;go_region_held3 (λv=>v.cell? (dB P 0)=bA (.pointer (pB D)))
      (first|exact E.o _ _ Y.o|exact E.o _ _ W7.o|exact E.o _ _ (d.o.z bD.drew))
      (first
      |(go_at_call 128;apply hC (Z.o _ bD.drew);intro h h;have W7:=cB ((d.o.z bD.drew).z h))
      |(go_at_call 125;apply hC (G.o _ W7.o);rintro W ⟨W,_⟩;have Y:=cB W))
     clear F E G Z W7 h W;have x:=cB (CX I (FG (L.first+k)));obtain⟨⟨H,U⟩,f⟩:∃R,fE I (FG (L.first+k))=R:=⟨_,rfl⟩
     have l:=cB f;rw[f]at Y x;simp only[f];clear f;by_cases A:U=0
     .subst A;simp only[eH];go_wp2;refine⟨⟨k+1,by omega,by go_num,H,?_,Y.o⟩,by simp[RowKit.intOf];omega⟩;show _=_;rw[NK,AF _ (by rw[a.o]),a.o];exact l.o
     obtain ⟨t,u⟩:=aK A x.o;have o:=cB u;rw[u];clear u;go_wp2;go_ret;obtain⟨r,h⟩:=da L.first k m Q
     have X:RR=(H,U):=by
      rw[E2.o,h,IS _ (by rw[a.o]) (by rw[a.o];show(fE I _).2≠0;rw[l.o];exact A),a.o];exact l.o
     rw[X];exact⟨by rw[o.o];rfl,by rw[show ckL L (H,U).2=L from Ja A];exact Y.o⟩
    obtain rfl:k=m:=by omega
    have O:¬L.first+(k:Int)<L.last+1:=by omega
    have X:=cB (E2.o.trans a.o);obtain⟨F,c1,c2,c3⟩:=d.o.wr.cells;have q1:=gB.free d.o.wr 1;have q2:=gB.free d.o.wr 2;have q3:=gB.free d.o.wr 3;have h:=cB (((d.o.set (L':=⟨L.last+1,L.last,L.size⟩) 1 (zA (L.last+1)) (by simp)).set (L':=⟨L.last+1,L.last+1,L.size⟩) 2 (zA (L.last+1)) (by simp)).set (L':=⟨L.last+1,L.last+1,0⟩) 3 (zA 0) (by simp));go_wp2;go_ret;rw[X.o];exact⟨rfl,h.o⟩
 obtain ⟨t,u⟩:=aK hx x.o;have o:=cB u;rw[u];clear u;go_wp2;go_ret;rw[E0.o.trans (Ja hx)];exact⟨by rw[o.o];rfl,by rw[show ckL L (K0,x0).2=L from Ja hx];exact J.o⟩
