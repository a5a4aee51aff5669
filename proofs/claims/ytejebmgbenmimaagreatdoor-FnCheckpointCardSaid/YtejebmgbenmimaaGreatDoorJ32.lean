import Derived.Test.YtejebmgbenmimaaGreatDoorJ28
import Derived.Test.YtejebmgbenmimaaGreatDoorJ29
import Derived.Test.YtejebmgbenmimaaGreatDoorJ17
set_option maxRecDepth 100000
set_option maxHeartbeats 8000000
open ByteArray renaming empty->pA
open Bool renaming true->iA,false->gA
open Option renaming none->eA,some->fA
open List renaming length->cB
namespace Go.Proofs.YtejebmgbenmimaaGreatDoor
open Value renaming slice->uA,agg->yA,string->tA,tuple->bB,int->qA,bool->vA
open Go renaming World->jA,Value->mA
open Obj renaming cells->aB
open Ending renaming returned->zA
open IntKind renaming i64->sA
open Go.RowKit Tryz
def nI(c:kC)(now:Int)(b:List kB)(d:vB)(x:wF):Nat×List kB×vB:=
 if (yB x.B).2.1≠0 then((yB x.B).2.1,b,pA)
 else if cZ x.bits=iA then(6,b,pA)
 else if (cI c now b d (wI (yB x.B).1)).2.2=1\/(cI c now b d (wI (yB x.B).1)).2.2=2 then((cI c now b d (wI (yB x.B).1)).2.2,(cI c now b d (wI (yB x.B).1)).2.1,wI (yB x.B).1)
 else((cI c now b d (wI (yB x.B).1)).2.2,b,pA)
theorem SD{b:List hC}:∀l∈(yB b).1,l∈b:=by grind [yB,oL,nL]
theorem wZ{ls:List hC}:cB (yB ls).1<=cB ls:=by grind [yB,CF,AE]
theorem XT {x y : List hC} (h : x.Perm y) : bE x = bE y := by
  induction h with
  | nil => rfl
  | cons _ _ ih => simp [bE, ih]
  | swap => simp [bE]; omega
  | trans _ _ h1 h2 => exact h1.trans h2
theorem lj(b:List hC):bE (oL b)<=bE b:=by induction b<;>grind [bE,oL]
theorem BP(b:List hC):bE (yB b).1<=bE b:=by grind [bE,yB,XT,nL,lj]
theorem TY(b:List hC):(wI b).size<=1+3*cB b+bE b:=by
 unfold wI;split;rw[bI,Ka,oB,uP];omega;exact Oa _
structure JP(w W:World)(c:kC)(now:Int)(a:nC)(n cap:Nat)(la:nC)(k lc:Nat)(bi:Int):Prop where
 C:rB W w.1.size #[dB c.w,dB c.tl,dB c.ml,dB c.sh,dB c.ha,dB c.sg] 24
 S:rB W (w.1.size+1) #[dB now,uA a n cap] 40
 X:rB W (w.1.size+1+1) #[uA la k lc,dB bi] 132
 R:rB W (w.1.size+1+1+1) #[dB 0,uA eA 0 0] 40
 B:zB w W
section
variable {w W W':jA} {c:kC} {now:Int} {a la:nC} {n cap k lc:Nat} {bi:Int}
theorem JP.new:JP w ((((w.alloc (aB #[dB c.w,dB c.tl,dB c.ml,dB c.sh,dB c.ha,dB c.sg] 24)).alloc (aB #[dB now,uA a n cap] 40)).alloc (aB #[uA la k lc,dB bi] 132)).alloc (aB #[dB 0,uA eA 0 0] 40)) c now a n cap la k lc bi:=by
 have b:=((rB.new (w.alloc (aB #[dB c.w,dB c.tl,dB c.ml,dB c.sh,dB c.ha,dB c.sg] 24)) #[dB now,uA a n cap] 40).alloc (aB #[uA la k lc,dB bi] 132)).alloc (aB #[dB 0,uA eA 0 0] 40);have d:=(rB.new ((w.alloc (aB #[dB c.w,dB c.tl,dB c.ml,dB c.sh,dB c.ha,dB c.sg] 24)).alloc (aB #[dB now,uA a n cap] 40)) #[uA la k lc,dB bi] 132).alloc (aB #[dB 0,uA eA 0 0] 40);have e:=rB.new (((w.alloc (aB #[dB c.w,dB c.tl,dB c.ml,dB c.sh,dB c.ha,dB c.sg] 24)).alloc (aB #[dB now,uA a n cap] 40)).alloc (aB #[uA la k lc,dB bi] 132)) #[dB 0,uA eA 0 0] 40;simp only[jA.size_alloc]at b d e;exact⟨(((rB.new _ _ _).alloc _).alloc _).alloc _,b,d,e,xB (xB (xB aC aC) aC) aC⟩
theorem JP.z(h:JP w W c now a n cap la k lc bi)(b:zB W W'):JP w W' c now a n cap la k lc bi:=⟨h.C.z b,h.S.z b,h.X.z b,h.R.z b,xB h.B b⟩
theorem JP.cells(h:JP w W c now a n cap la k lc bi):W.cell? (iB w.1.size 0)=fA (dB c.w)/\W.cell? (iB w.1.size 1)=fA (dB c.tl)/\W.cell? (iB w.1.size 2)=fA (dB c.ml)/\W.cell? (iB w.1.size 3)=fA (dB c.sh)/\W.cell? (iB w.1.size 4)=fA (dB c.ha)/\W.cell? (iB w.1.size 5)=fA (dB c.sg)/\W.cell? (iB (w.1.size+1) 0)=fA (dB now)/\W.cell? (iB (w.1.size+1) 1)=fA (uA a n cap)/\W.cell? (iB (w.1.size+1+1) 0)=fA (uA la k lc)/\W.cell? (iB (w.1.size+1+1) 1)=fA (dB bi)/\W.cell? (iB (w.1.size+1+1+1) 0)=fA (dB 0)/\W.cell? (iB (w.1.size+1+1+1) 1)=fA (uA eA 0 0)/\W.frozen? (iB (w.1.size+1+1+1) 0)=gA/\W.frozen? (iB (w.1.size+1+1+1) 1)=gA/\w.1.size+1+1+1<W.1.size/\w.1.size+1<W.1.size/\¬w.1.size+1=W.1.size/\¬w.1.size+1+1+1=W.1.size:=
 have:=eB h.R
 ⟨h.C.cell 0,h.C.cell 1,h.C.cell 2,h.C.cell 3,h.C.cell 4,h.C.cell 5,h.S.cell 0,h.S.cell 1,h.X.cell 0,h.X.cell 1,h.R.cell 0,h.R.cell 1,h.R.free 0,h.R.free 1,this,by omega,by omega,by omega⟩
end
theorem RJ(c:kC)(now:Int)(a:nC)(cap:Nat)(f:List kB)(l:vB)(x:wF)(la:nC)(lc:Nat)(w:jA){A:Nat->Prop}(m:rK w A a f)(U:vD w la x.B)(h:cB x.B<=lc)(u:cB f+fC f<=1900000)(o:l.size<=1000000)(Z:mJ x<=300000)(B:pC c now f=iA):
 Calls prog 67 #[oE c,yA #[dB now,uA a (cB f) cap],tA l,yA #[uA la (cB x.B) lc,dB x.bits]] w λe w'=>∃b cb,e=zA (bB #[dB ((nI c now f l x).1:Nat),yA #[dB now,.slice b (cB (nI c now f l x).2.1) cb],tA (nI c now f l x).2.2])/\rK w' (λg=>A g\/w.1.size<=g) b (nI c now f l x).2.1/\zB w w':=by
 have O:mJ x=cB x.B+bE x.B:=rfl;have R:MC x.B:=λi s=>by have:=lx x.B i s;exact⟨by omega,by omega⟩
 have t:MC (yB x.B).1:=λi s=>by
  obtain⟨j,o,e⟩:=Ib (SD _ (Gb s));rw[<-e];exact R j o
 have o:=wZ (ls:=x.B);have Y:=gB (λW(o:zB w W)=>BH la lc x.B W (U.z o) R (by omega) h);have HN:=gB (λW=>aFs x.bits W);have HK:=gB (λW H J(h:vD W H (yB x.B).1)(G:cB (yB x.B).1<=J)=>KO H J (yB x.B).1 W h t (by omega) G);have G:=gB (λW(o:zB w W)(I:(wI (yB x.B).1).size<=1900000)=>BG c now a cap f l (wI (yB x.B).1) W (m.tens.z o) u (by omega) I B);have HF:=gB (λW(o:zB w W)=>m.lt.z o);have I:(wI (yB x.B).1).size<=1900000:=by have:=TY (yB x.B).1;have:=BP x.B;omega
 replace G:=gB (λW o=>G.o W o I);have HV:fB ((yB x.B).2.1≠0/\nI c now f l x=((yB x.B).2.1,f,pA)\/(yB x.B).2.1=0/\(cZ x.bits=iA/\nI c now f l x=(6,f,pA)\/cZ x.bits=gA/\((((cI c now f l (wI (yB x.B).1)).2.2:Nat):Int)=1/\nI c now f l x=(1,(cI c now f l (wI (yB x.B).1)).2.1,wI (yB x.B).1)\/((cI c now f l (wI (yB x.B).1)).2.2:Int)=2/\nI c now f l x=(2,(cI c now f l (wI (yB x.B).1)).2.1,wI (yB x.B).1)\/(((cI c now f l (wI (yB x.B).1)).2.2:Int)==1)=gA/\(((cI c now f l (wI (yB x.B).1)).2.2:Int)==2)=gA/\nI c now f l x=((cI c now f l (wI (yB x.B).1)).2.2,f,pA)))):=by
  show _\/_;unfold nI;by_cases z:(yB x.B).2.1=0
  .refine La ⟨z,?_⟩;rw[Ja (by simp[z])];cases cZ x.bits
   .refine La ⟨rfl,?_⟩;rw[Ja (by simp)];generalize cI c now f l (wI (yB x.B).1)=A;by_cases C:A.2.2=1
    .exact Ca ⟨by omega,by simp[C]⟩
    by_cases q2:A.2.2=2
    .exact La (Ca ⟨by omega,by simp[q2]⟩)
    exact La (La ⟨by simp;omega,by simp;omega,by simp[C,q2]⟩)
   exact Ca ⟨rfl,Ma rfl⟩
  exact Ca ⟨z,Ma z⟩
 have o:fB ((cI c now f l (wI (yB x.B).1)).1=now):=by
  show _=_;unfold cI;rw[Ja (by rw[B];simp)];repeat' split
  all_goals rfl
 have P:=gB (JP.new (w:=w) (c:=c) (now:=now) (a:=a) (n:=cB f) (cap:=cap) (la:=la) (k:=cB x.B) (lc:=lc) (bi:=x.bits));clear m U R t O u Z B I;unfold RQ at G;generalize nI c now f l x=V at *;generalize cI c now f l (wI (yB x.B).1)=A at *;obtain⟨m,d,m⟩:=A;obtain rfl:=o.o;generalize wI (yB x.B).1=m at *;generalize cZ x.bits=m at *;generalize x.bits=bi at *;generalize yB x.B=m at *;generalize x.B=ls at *;obtain⟨o,o,o⟩:=m;dsimp only at *;unfold oE at *;go_enter func67,ntmps67;go_wp2_with fail;refine(Y.o _ P.o.B).mono ?_;rintro e w1 ⟨a1,k1,rfl,R,y,m⟩;replace P:=gB (P.o.z m);have L1:=gB y.B;clear m y Y;obtain⟨K,L,M,N,O,Q,S,T,U,X,D,E,Y,Z,F,o,B,I⟩:=P.o.cells;obtain⟨z,rfl⟩|⟨rfl,⟨rfl,rfl⟩|⟨rfl,⟨C,rfl⟩|⟨C,rfl⟩|⟨C,q2,rfl⟩⟩⟩:=HV.o
 all_goals
  go_wp2_with(first
   |(go_at_call 140;apply dR (HN.o _))
   |(go_at_call 141;apply oC (HK.o _ a1 k1 L1.o R);intro w2 m;replace P:=gB (P.o.z m);clear m K L M N O Q S T U X D E Y Z F o B I;obtain⟨K,L,M,N,O,Q,S,T,U,X,D,E,Y,Z,F,o,B,I⟩:=P.o.cells)
   |(go_at_call 138;refine(G.o _ P.o.B).mono ?_;rintro e G ⟨H,J,rfl,y,m⟩;have G:=gB (y.toN (A:=λg=>w.1.size+1+1+1<g) λg h=>Bb (eB P.o.R) h);replace P:=gB (P.o.z m);clear m y K L M N O Q S T U X D E Y Z F o B I;obtain⟨K,L,M,N,O,Q,S,T,U,X,D,E,Y,Z,F,o,B,I⟩:=P.o.cells))
 all_goals have r:=gB (fun(W:jA)(p q:mA)=>(((jB.refl (·=w.1.size+1+1+1) W).setCell (Ca rfl) 0 p).setCell (Ca rfl) 1 q))
 all_goals
  go_region
  go_wp2;refine bodyPost_ret (v:=?_) (by simp[results,results67,go_sem,D,E,F];rfl) rfl ?_;first
   |exact⟨a,⟨cap,rfl⟩,((HF.o _ P.o.B).turn (r.o _ _ _) (λg(h:A g/\g<w.1.size)(e:g=w.1.size+1+1+1)=>by omega)).mono (λg h=>Ca h.1),(P.o.B.trans ((r.o _ _ _).below P.o.B.size λi s e=>by omega)).drew⟩
   |exact⟨H,⟨J,rfl⟩,((G.o.turn (r.o _ _ _) (λg(h:w.1.size+1+1+1<g)(e:g=w.1.size+1+1+1)=>by omega)).mono (λg(h:w.1.size+1+1+1<g)=>La (by omega))).z (aC.drew),(xB (P.o.B.trans ((r.o _ _ _).below P.o.B.size λi s e=>by omega)) aC).drew⟩
   |exact⟨a,⟨cap,rfl⟩,(((HF.o _ P.o.B).turn (r.o _ _ _) (λg(h:A g/\g<w.1.size)(e:g=w.1.size+1+1+1)=>by omega)).mono (λg h=>Ca h.1)).z (aC.drew),(xB (P.o.B.trans ((r.o _ _ _).below P.o.B.size λi s e=>by omega)) aC).drew⟩
section
open Go.Maps
theorem pa{w:jA}{N:Nat}{x y p q:mA}{t:TypeId}(h:rB w N #[x,y] t):rB ((w.setCell (iB N 0) p).setCell (iB N 1) q) N #[p,q] t:=by
 have:=(h.set 0 p).set 1 q;simpa using this
def ApR(w:jA)(c:kC)(now:Int)(a:nC)(n cap N:Nat)(nv:mA)(sv:mA)(X:Nat)(SV:Int×List kB×Bool)(b:jA):Prop:=
 ∃a5 c5,AN w b c now a n cap/\rB b N #[nv,sv] 40/\(SV.2.2=iA->rB b X #[dB SV.1,uA a5 (cB SV.2.1) c5] 40/\cD b (X+1) a5 SV.2.1)
section
variable {w w5 W:jA} {c:kC} {now:Int} {a a5:nC} {n cap N X B c5:Nat} {nv sv:mA} {SV:Int×List kB×Bool} {n5:Int} {t5:List kB} {b5:Bool}
theorem ow(P:AN w w5 c now a n cap)(d:rB w5 N #[nv,sv] 40)(f:rB w5 X #[dB 0,uA eA 0 0] 40)(O:cD w5 B a5 t5)(i:w.1.size+1+1<X)(h:N≠X)(l:X<B):ApR w c now a n cap N nv sv X (n5,t5,b5) ((w5.setCell (iB X 0) (dB n5)).setCell (iB X 1) (uA a5 (cB t5) c5)):=by
 have b:jB (·=X) w5 ((w5.setCell (iB X 0) (dB n5)).setCell (iB X 1) (uA a5 (cB t5) c5)):=((jB.refl (·=X) w5).setCell (Ca rfl) 0 _).setCell (Ca rfl) 1 _;exact⟨a5,c5,P.turn b i,b.blk d h,λ_=>⟨pa f,(cD.turned O b (λg j k e=>by omega)).mono (by omega)⟩⟩
theorem ApR.alloc(h:ApR w c now a n cap N nv sv X SV W)(o:Obj):ApR w c now a n cap N nv sv X SV (W.alloc o):=by
 obtain⟨a5,c5,d,f,b⟩:=h;exact⟨a5,c5,d.z aC,f.alloc _,λe=>⟨(b e).1.alloc _,(b e).2.z aC⟩⟩
end
theorem RF(c:kC)(now:Int)(a:nC)(cap:Nat)(u:List kB)(ar:nC)(capr:Nat)(r:List tE)(w:jA)(hf:uC w a u)(hr:lI w ar r)(hbk:cB u+fC u+cB r+iD r<=1400000):
 Calls prog 62 #[oE c,yA #[qA sA now,uA a (cB u) cap],uA ar (cB r) capr] w λe D=>iS (oF c now u r) w e D:=by
 have U:cB u+fC u<=1900000:=by omega
 obtain⟨f,d,j,l⟩:=nO U;have HST:=gB (λW(I:zB w W)=>rH c now a cap u W (hf.z I) d (by omega));have L:=gB (fun(h:pC c now u=iA) W(I:zB w W)=>xS c now a cap u W (hf.z I) h U);have T:fB (oF c now u r=if pC c now u=gA then(0,[],gA) else if 500<cB r then(now,u,gA) else if (aG c now u r).2.2=iA then aG c now u r else(now,u,gA)):=rfl;have HF:=gB hr;have HBK:=gB hbk;have P:=gB (AN.new (w:=w) (c:=c) (now:=now) (a:=a) (n:=cB u) (cap:=cap));clear hf hr f d j l hbk U;unfold iS;unfold oE at *;generalize oF c now u r=V at *;go_enter func62,ntmps62;go_wp2_with fail;apply oC (HST.o _ P.o.B);intro w1 x;replace P:=gB (P.o.z x);clear x HST;obtain⟨Z,x1,x2,x3,x4,x5,y0,y1,Q,R,g0,g1,hz⟩:=P.o.cells;cases hst:pC c now u with
 |false=>
  have E:fB (V=(0,[],gA)):=by show _=_;rw[T.o,Ma hst]
  go_wp2;refine bodyPost_ret (v:=?_) (by simp[results,results62,go_sem,Q,R];rfl) rfl ?_;rw[E.o];refine⟨eA,0,rfl,Ca rfl,?_⟩;first
   |exact(P.o.B.setCell (by show w.1.size<=w.1.size+1+1;omega) _).setCell (by show w.1.size<=w.1.size+1+1;omega) _
   |exact P.o.B
 |true=>
  have HSM:=gB (L.o hst);have G:fB (V=if 500<cB r then(now,u,gA) else if (aG c now u r).2.2=iA then aG c now u r else(now,u,gA)):=by show _=_;rw[T.o,Ja (by rw[hst];simp)]
  have HS0:=gB hst;clear T L Q R g0 g1;go_wp2_with fail;refine(HSM.o _ P.o.B).mono ?_;rintro e w2 ⟨M,O,rfl,ho2,x⟩;clear Z x1 x2 x3 x4 x5 y0 y1;have O4:=gB ((ho2.mono (B':=w.1.size+1+1+1) (by omega)).z (uF w2 (aB #[qA sA now,uA M (cB u) O] 40)));have P4:=gB ((P.o.z x).z (uF w2 (aB #[qA sA now,uA M (cB u) O] 40)));have N4:=gB (rB.new w2 #[qA sA now,uA M (cB u) O] 40);have hNp:=(P.o.z x).lt;obtain⟨n0,n1⟩:=N4.o.c2;clear x ho2 P;by_cases h5:500<cB r
  .have E:fB (V=(now,u,gA)):=by show _=_;rw[G.o,Ma h5]
   go_upto_region 5 with fail;generalize w2.alloc (aB #[qA sA now,uA M (cB u) O] 40)=w4 at *;obtain⟨-,-,-,-,-,-,-,-,Q,R,g0,g1,hz4⟩:=P4.o.cells;go_wp2;refine bodyPost_ret (v:=?_) (by simp[results,results62,go_sem,Q,R];rfl) rfl ?_;rw[E.o];first
    |exact⟨M,⟨O,rfl⟩,P4.o.done O4.o (by omega)⟩
    |exact⟨M,O,rfl,P4.o.done O4.o (by omega)⟩
  have HVF:fB ((aG c now u r).2.2=gA->V=(now,u,gA)):=λh6=>by rw[G.o,Ja h5,Ja (by rw[h6];simp)]
  have HVT:fB ((aG c now u r).2.2=iA->V=aG c now u r):=λh6=>by rw[G.o,Ja h5,Ma h6]
  go_wp2;generalize w2.alloc (aB #[qA sA now,uA M (cB u) O] 40)=w4 at *;generalize w2.1.size=N at *;clear n0 n1 G;go_loopw [29] (λi wr=>∃(k:Nat)(t:Int)(s:List kB)(z:nC)(A:Nat),k<=cB r/\i=qA sA k/\fB (AN w wr c now a (cB u) cap)/\fB (rB wr N #[qA sA t,uA z (cB s) A] 40)/\fB (cD wr (w.1.size+1+1+1) z s)/\fB (pC c t s=iA)/\fB (cB s+fC s+2*(cB r-k)+iD (r.drop k)<=1900000)/\fB (aG c t s (r.drop k)=aG c now u r)) (λi _=>cB r-(intOf i).toNat)
  case atStart=>exact⟨0,now,u,M,O,Oa _,rfl,P4.o,N4.o,O4.o,HS0.o,gB (by have:=HBK.o;simp only[Nat.sub_zero,Kf];omega),rfl⟩
  case round=>
   obtain⟨k,t,s,z,A,hk,rfl,P,C,OB,F,HK,HR⟩:=hrel;clear P4 N4 O4 HS0;by_cases J:k<cB r
   .obtain ⟨b,o,har,hbw,q0,q1,q2,q3⟩:=(HF.o.z P.o.B).at J;subst har;have hkb:=HK.o;have hdr:=FC r J;have hstb:=eX F.o r[k];have HVQ0:fB _:=λh=>HVF.o (by rw[<-HR.o,UX J h]);have K:fB ((pE c t s r[k]).2.2=iA->aG c (pE c t s r[k]).1 (pE c t s r[k]).2.1 (r.drop (k+1))=aG c now u r/\pC c (pE c t s r[k]).1 (pE c t s r[k]).2.1=iA):=λh=>⟨(UW J h).symm.trans HR.o,FP F.o h⟩
    have HBN:fB (cB (pE c t s r[k]).2.1+fC (pE c t s r[k]).2.1+2*(cB r-(k+1))+iD (r.drop (k+1))<=1900000):=by show _<=_;omega
    have S:fB (pE c t s r[k]=if r[k].K=1 then(t,(zK c t s r[k].T r[k].X).1,decide ((zK c t s r[k].T r[k].X).2=1) ||decide ((zK c t s r[k].T r[k].X).2=2)) else if r[k].K=2 then uJ c.w t s r[k].U else if r[k].K=3 then(t,(wR s r[k].T r[k].X r[k].U).1,(wR s r[k].T r[k].X r[k].U).2) else(t,s,gA)):=rfl;have HAD:fB (∀W,zB wr W->Calls prog 138 #[yA #[qA sA c.w,qA sA c.tl,qA sA c.ml,qA sA c.sh,qA sA c.ha,qA sA c.sg],yA #[qA sA t,uA z (cB s) A],tA r[k].T,tA r[k].X] W λe D=>∃a cap,e=zA (bB #[yA #[qA sA t,.slice a (cB (zK c t s r[k].T r[k].X).1) cap],qA sA ((zK c t s r[k].T r[k].X).2:Nat)])/\cD D W.1.size a (zK c t s r[k].T r[k].X).1/\zB W D):=λW I=>by
     have:=BG c t z A s r[k].T r[k].X W (OB.o.tens.z I) (by omega) (by omega) (by omega) F.o;rw[VX F.o]at this;exact this
    have HTK:fB (∀W,zB wr W->Calls prog 13 #[yA #[qA sA c.w,qA sA c.tl,qA sA c.ml,qA sA c.sh,qA sA c.ha,qA sA c.sg],yA #[qA sA t,uA z (cB s) A],qA sA r[k].U] W λe D=>∃a cap,e=zA (bB #[yA #[qA sA (uJ c.w t s r[k].U).1,.slice a (cB (uJ c.w t s r[k].U).2.1) cap],vA (uJ c.w t s r[k].U).2.2])/\cD D W.1.size a (uJ c.w t s r[k].U).2.1/\zB W D):=λW I=>by
     have:=dX c t z A s r[k].U W (OB.o.tens.z I) (by omega) F.o;rw[QI F.o]at this;exact this
    have HSE:fB (∀W,zB wr W->Calls prog 71 #[yA #[qA sA c.w,qA sA c.tl,qA sA c.ml,qA sA c.sh,qA sA c.ha,qA sA c.sg],yA #[qA sA t,uA z (cB s) A],tA r[k].T,tA r[k].X,qA sA r[k].U] W λe D=>∃a cap,e=zA (bB #[yA #[qA sA t,.slice a (cB (wR s r[k].T r[k].X r[k].U).1) cap],vA (wR s r[k].T r[k].X r[k].U).2])/\cD D W.1.size a (wR s r[k].T r[k].X r[k].U).1/\zB W D):=λW I=>by
     have:=pV c t z A s r[k].T r[k].X r[k].U W (OB.o.tens.z I) (by omega) (by omega) (by omega) F.o;rw[qi F.o]at this;exact this
    clear hkb hdr hstb F HK HR;have hNr:=eB C.o;have hRr:=P.o.lt;have y:fB (zB wr ((wr.alloc (aB #[qA sA r[k].K,tA r[k].T,tA r[k].X,qA sA r[k].U] 56)).alloc (aB #[qA sA 0,uA eA 0 0] 40))):=xB aC aC;have XB:fB _:=gB (by have:=rB.new (wr.alloc (aB #[qA sA r[k].K,tA r[k].T,tA r[k].X,qA sA r[k].U] 56)) #[qA sA 0,uA eA 0 0] 40;simpa using this);have UB:=gB ((rB.new wr #[qA sA r[k].K,tA r[k].T,tA r[k].X,qA sA r[k].U] 56).alloc (aB #[qA sA 0,uA eA 0 0] 40));generalize pE c t s r[k]=SV at *;go_upto_region 11 with fail;clear q0 q1 q2 q3;generalize ((wr.alloc (aB #[qA sA r[k].K,tA r[k].T,tA r[k].X,qA sA r[k].U] 56)).alloc (aB #[qA sA 0,uA eA 0 0] 40))=wb at *;replace P:=gB (P.o.z y.o);replace C:=gB (C.o.z y.o);have hwb:=eB XB.o;clear OB;obtain⟨Z,x1,x2,x3,x4,x5,y0,y1,-,-,-,-,-⟩:=P.o.cells;obtain⟨n0,n1⟩:=C.o.c2;obtain⟨q0,q1,q2,q3⟩:=UB.o.c4;generalize r[k].K=H at *;generalize r[k].T=TE at *;generalize r[k].X=TX at *;generalize r[k].U=NU at *;go_upto_block 2 with fail;go_cut [11,14] (λok _ wx=>ok=vA SV.2.2/\ApR w c now a (cB u) cap N (qA sA t) (uA z (cB s) A) (wr.1.size+1) SV wx)
    case first=>
     generalize zK c t s TE TX=R1 at *;generalize uJ c.w t s NU=R2 at *;generalize wR s TE TX NU=R3 at *;obtain⟨t5,v5⟩:=R1;obtain⟨n6,m,b6⟩:=R2;obtain⟨p,b7⟩:=R3;have hks:H=1/\(((v5:Int)==1)=iA/\SV=(t,t5,iA)\/((v5:Int)==1)=gA/\(((v5:Int)==2)=iA/\SV=(t,t5,iA)\/((v5:Int)==2)=gA/\SV=(t,t5,gA)))\/(H==1)=gA/\(H=2/\SV=(n6,m,b6)\/(H==2)=gA/\(H=3/\SV=(t,p,b7)\/(H==3)=gA/\SV=(t,s,gA))):=by
      rw[S.o];by_cases k1:H=1
      .refine Ca ⟨k1,?_⟩;rw[Ma k1];by_cases v1:v5=1
       .exact Ca ⟨by simp[v1],by simp[v1]⟩
       refine La ⟨by simp;omega,?_⟩;by_cases v2:v5=2
       .exact Ca ⟨by simp[v2],by simp[v2]⟩
       exact La ⟨by simp;omega,by simp[v1,v2]⟩
      refine La ⟨by simpa using k1,?_⟩;rw[Ja k1];by_cases k2:H=2
      .exact Ca ⟨k2,by rw[Ma k2]⟩
      refine La ⟨by simpa using k2,?_⟩;rw[Ja k2];by_cases k3:H=3
      .exact Ca ⟨k3,by rw[Ma k3]⟩
      exact La ⟨by simpa using k3,by rw[Ja k3]⟩
     clear S;obtain⟨rfl,⟨h1,rfl⟩|⟨h1,⟨h2,rfl⟩|⟨h2,rfl⟩⟩⟩|⟨k1,⟨rfl,rfl⟩|⟨k2,⟨rfl,rfl⟩|⟨k3,rfl⟩⟩⟩:=hks
     all_goals
      go_wp2_with((first
       |(go_at_call 138;refine(HAD.o _ y.o).mono ?_)
       |(go_at_call 13;refine(HTK.o _ y.o).mono ?_)
       |(go_at_call 71;refine(HSE.o _ y.o).mono ?_));rintro e w5 ⟨a5,c5,rfl,ho,x⟩;have O5:=gB ho;have P5:=gB (P.o.z x);have N5:=gB (C.o.z x);have X5:=gB (XB.o.z x);have hx5:=eB X5.o;clear ho x q0 q1 q2 q3 n0 n1 Z x1 x2 x3 x4 x5 y0 y1;obtain⟨Z,x1⟩:=X5.o.c2;have fx:=X5.o.free)
      go_meet;first
       |(have q:=k3;exact⟨rfl,eA,0,P.o,C.o,λe=>by cases e⟩)
       |exact⟨rfl,ow P5.o N5.o X5.o O5.o (by omega) (by omega) hwb⟩
       |exact⟨rfl,(ow P5.o N5.o X5.o O5.o (by omega) (by omega) hwb).alloc _⟩
    clear HAD HTK HSE S UB XB y P C Z x1 x2 x3 x4 x5 y0 y1 n0 n1 q0 q1 q2 q3;obtain⟨rfl,a5,c5,hP,hN,hX⟩:=hcut;rename jA=>w6;have P:=gB hP;have C:=gB hN;obtain⟨Z,x1,x2,x3,x4,x5,y0,y1,-,-,-,-,hz⟩:=hP.cells;obtain⟨n5,t5,b5⟩:=SV;cases b5 with
    |false=>
     have E:=gB (HVQ0.o rfl);clear hX hN hP;go_wp2_with(go_at_call 45;refine(HSM.o _ P.o.B).mono ?_;rintro e w9 ⟨ra,rc,rfl,ho,x⟩;have P9:=gB (P.o.z x);have HO9:=gB ho;clear ho x Z x1 x2 x3 x4 x5 y0 y1;obtain⟨-,-,-,-,-,-,-,-,Q,R,g0,g1,hz9⟩:=P9.o.cells);refine bodyPost_ret (v:=?_) (by simp[results,results62,go_sem,Q,R];rfl) rfl ?_;rw[E.o];first
      |exact⟨ra,⟨rc,rfl⟩,P9.o.done HO9.o hz⟩
      |exact⟨ra,rc,rfl,P9.o.done HO9.o hz⟩
    |true=>
     have HX:=gB (hX rfl);obtain⟨m0,m1⟩:=HX.o.1.c2;obtain⟨n0,n1⟩:=hN.c2;have fn:=hN.free;clear hX hN hP;go_wp2;have hT:jB (·=N) w6 ((w6.setCell ⟨N,0,eA⟩ (qA sA n5)).setCell ⟨N,1,eA⟩ (uA a5 (cB t5) c5)):=((jB.refl (·=N) w6).setCell (Ca rfl) 0 _).setCell (Ca rfl) 1 _;exact⟨⟨k+1,n5,t5,a5,c5,by omega,by go_num,gB (P.o.turn hT hNp),gB (pa C.o),gB ((cD.turned HX.o.2 hT (λg h1 h2 e=>by omega)).mono (by omega)),(K.o rfl).2,HBN.o,(K.o rfl).1⟩,by simp[intOf];omega⟩
   have Y:aG c now u r=(t,s,iA):=by rw[<-HR.o,Ie (by omega)];rfl
   have E:fB (V=(t,s,iA)):=by show _=_;rw[HVT.o (by rw[Y]),Y]
   have hkl:¬((k:Int)<cB r):=by omega
   obtain⟨n0,n1⟩:=C.o.c2;obtain⟨-,-,-,-,-,-,-,-,Q,R,g0,g1,hz⟩:=P.o.cells;clear Y;go_wp2;refine bodyPost_ret (v:=?_) (by simp[results,results62,go_sem,Q,R];rfl) rfl ?_;rw[E.o];first
    |exact⟨z,⟨A,rfl⟩,P.o.done OB.o (by omega)⟩
    |exact⟨z,A,rfl,P.o.done OB.o (by omega)⟩
end
section
variable {s:vB} {q k:Nat} {ls:List hC} {xs:List wF}
theorem aJe(f:s.size<=1000000)(h:DJ s q (pD ls))(m:∀i(t:i<cB ls),aHr ls[i])(b:k<cB ls):∃g j:Nat,fB (∀W,bM 132 #[tA s,dB ((q+(pD (ls.take k)).size:Nat):Int),dB 1] W (bB #[tA ls[k].N,dB (g:Nat)]))/\fB (∀W,bM 132 #[tA s,dB (g:Nat),dB 2] W (bB #[tA ls[k].V,dB (j:Nat)]))/\fB (j=q+(pD (ls.take (k+1))).size):=by
 have d:=aEz h b;obtain⟨o,p⟩:=m k b;have a:=d.r;rw[sF]at a;refine⟨_,_,λW=>zT (n:=1) d.l (by omega) (by omega) f W,λW=>zT (n:=2) (by rw[<-Nat.add_assoc]at a;exact a) (by omega) (by omega) f W,?_⟩;show _=_;rw[kT ls k b];simp only[Ka,sF,kF];omega
theorem aKi(j:s.size<=1000000)(h:DJ s q (kE xs))(o:aIe xs)(n:∀i(t:i<cB xs),VP xs[i].bits)(b:k<cB xs):∃c m:Nat,fB (∀W,bM 131 #[tA s,dB ((q+(kE (xs.take k)).size:Nat):Int),dB 1] W (bB #[dB (cB xs[k].B:Nat),dB (c:Nat)]))/\DJ s c (pD xs[k].B)/\fB (∀W,bM 131 #[tA s,dB ((c+(pD xs[k].B).size:Nat):Int),dB 8] W (bB #[dB xs[k].bits,dB (m:Nat)]))/\fB (m=q+(kE (xs.take (k+1))).size):=by
 have a:=aFa h b;rw[jW,bI]at a;have f:=a.l.r;have g:=a.r;rw[oB]at f;rw[Ka,oB,<-Nat.add_assoc]at g;have p:=(o k b).1;refine⟨_,_,λW=>jT a.l.l (by omega) (DQ (by omega) (by omega)) j W,f,λW=>jT g (by omega) (fY _ (n k b)) j W,?_⟩;show _=_;rw[jP xs k b,jW,bI];simp only[Ka,oB];omega
end
structure GS(w W:World)(cs:Array Value):Prop where
 R:rB W (w.1.size+1) cs 47
 Z:rB W w.1.size #[dB 0,tA pA,tA pA,dB 0,uA eA 0 0] 47
 N:zB w W
section
variable {w W W':jA} {cs:Array mA}
theorem GS.start(w:jA):GS w ((w.alloc (aB #[dB 0,tA pA,tA pA,dB 0,uA eA 0 0] 47)).alloc (aB #[dB 0,tA pA,tA pA,dB 0,uA eA 0 0] 47)) #[dB 0,tA pA,tA pA,dB 0,uA eA 0 0]:=
 ⟨by have:=rB.new (w.alloc (aB #[dB 0,tA pA,tA pA,dB 0,uA eA 0 0] 47)) #[dB 0,tA pA,tA pA,dB 0,uA eA 0 0] 47;simpa using this,(rB.new _ _ _).alloc _,xB aC aC⟩
theorem GS.set(h:GS w W cs)(i:Nat)(v:mA):GS w (W.setCell (iB (w.1.size+1) i) v) (cs.setIfInBounds i v):=
 ⟨h.R.set i v,h.Z.but ((uD.refl (w.1.size+1) W).setCell i v) (by omega),h.N.setCell (by simp) _⟩
theorem GS.z(h:GS w W cs)(a:zB W W'):GS w W' cs:=⟨h.R.z a,h.Z.z a,xB h.N a⟩
end
theorem mZ(r:fH)(w:jA)(h:VR r):
 Calls prog 65 #[tA (oK r)] w λe E=>ZY r w e E:=by
 obtain⟨l,m,P,o,A1,A2,A3,G⟩:=aLs h;have hs:(oK r).size<=1000000:=by have:=h.sz;omega
 have HEN:=gB (λW J cap(q:gJ W J r.P)=>CZ r J cap W q h);obtain⟨U,_,_,_,I,h5,h6,q,O⟩:=h.ok;have Z:=h.U;have q:=h.bits;unfold ZY;obtain⟨k,T,M,N,S⟩:=r;obtain⟨k,rfl⟩:=Yf (show 0<=k by dsimp only at U;omega);dsimp only at *;have H0:fB (∀W,bM 131 #[tA (oK ⟨k,T,M,N,S⟩),dB 0,dB 1] W (bB #[dB (k:Nat),dB 1])):=λW=>jT o (by omega) (DQ (by omega) (by omega)) hs W;replace A1:fB (wU k=iA/\(∀W,bM 132 #[tA (oK ⟨k,T,M,N,S⟩),dB 1,dB 1] W (bB #[tA T,dB (l:Nat)]))\/wU k=gA/\T=pA/\l=1):=A1.imp (fun⟨a,b,c⟩=>⟨a,λW=>by rw[c];exact zT b (by omega) (by omega) hs W⟩) id;replace A2:fB (vU k=iA/\(∀W,bM 132 #[tA (oK ⟨k,T,M,N,S⟩),dB (l:Nat),dB 2] W (bB #[tA M,dB (m:Nat)]))\/vU k=gA/\M=pA/\m=l):=A2.imp (fun⟨a,b,c⟩=>⟨a,λW=>by rw[c];exact zT b (by omega) (by omega) hs W⟩) id;replace A3:fB (iV k=iA/\(∀W,bM 131 #[tA (oK ⟨k,T,M,N,S⟩),dB (m:Nat),dB 8] W (bB #[dB N,dB (P:Nat)]))\/iV k=gA/\N=0/\P=m):=A3.imp (fun⟨a,b,c⟩=>⟨a,λW=>by rw[c];exact jT b (by omega) (fY _ Z) hs W⟩) id;have u:fB (k=1->∀W,bM 131 #[tA (oK ⟨k,T,M,N,S⟩),dB (P:Nat),dB 2] W (bB #[dB (cB S:Nat),dB ((P+2:Nat):Int)])):=λe W=>jT (G (by omega)).l (by omega) (DQ (by omega) (by omega)) hs W;have HX:fB (k=1->DJ (oK ⟨k,T,M,N,S⟩) (P+2) (kE S)):=λe=>by have:=(G (by omega)).r;rwa [oB]at this
 have U:fB (k≠1->S=[]):=λe=>I (by omega);have Q:=gB O;have Y:=gB q;have H:(oK ⟨k,T,M,N,S⟩).toList.isEmpty=gA:=by
  have:=o.le;rw[oB]at this;exact vO.2 λe=>by rw[e]at this;exact absurd this (by decide)
 clear G o I h5 h6 O Z q h;generalize oK ⟨k,T,M,N,S⟩=s at *;have I:∀j:Nat,(((k:Nat):Int)==(j:Int))=decide (k=j):=λj=>by rw[Qb];simp;omega
 go_enter func65,ntmps65;go_wp2_with fail;refine tD (H0.o _) ?_;have G:fB (GS w ((w.alloc (aB #[dB 0,tA ⟨#[]⟩,tA ⟨#[]⟩,dB 0,uA eA 0 0] 47)).alloc (aB #[dB 0,tA ⟨#[]⟩,tA ⟨#[]⟩,dB 0,uA eA 0 0] 47)) #[dB 0,tA pA,tA pA,dB 0,uA eA 0 0]):=gB (GS.start w);clear H0;generalize (w.alloc (aB #[dB 0,tA ⟨#[]⟩,tA ⟨#[]⟩,dB 0,uA eA 0 0] 47)).alloc (aB #[dB 0,tA ⟨#[]⟩,tA ⟨#[]⟩,dB 0,uA eA 0 0] 47)=W at *;have O:gD W (w.1.size+1) 0 (dB 0):=G.o.R.cell 0;have c1:=G.o.R.free 0;go_upto_region 4 with fail;replace G:=gB (G.o.set 0 (dB k));clear O c1;generalize W.setCell (iB (w.1.size+1) 0) (dB k)=V at *;go_upto_region 4 with fail;go_cut [5,32,47] (λA _ b o=>A=dB k/\b=vA (wU k)/\o=V)
 case first=>
  go_wp2;all_goals go_meet
  all_goals(unfold wU;simp_all)
 obtain⟨rfl,rfl,rfl⟩:=hcut;go_upto_if 47 with fail;go_cut [5,6] (λA J o=>A=dB k/\J=dB (l:Nat)/\GS w o #[dB k,tA T,tA pA,dB 0,uA eA 0 0])
 case first=>
  obtain⟨D,u⟩|⟨D,rfl,rfl⟩:=A1.o
  .rw[D];replace u:=gB u;go_wp2_with fail;refine tD (u.o _) ?_;have O:=G.o.R.cell 1;have c1:=G.o.R.free 1;go_wp2;go_meet;exact⟨rfl,rfl,G.o.set 1 (tA T)⟩
  rw[D];go_wp2;go_meet;exact⟨rfl,rfl,G.o⟩
 clear G;obtain⟨rfl,rfl,G⟩:=hcut;replace G:=gB G;rename jA=>V;go_upto_region 8 with fail;go_cut [5,62] (λA b o=>A=dB k/\b=vA (vU k)/\o=V)
 case first=>
  go_wp2;all_goals go_meet
  all_goals(unfold vU;simp_all)
 obtain⟨rfl,rfl,rfl⟩:=hcut;go_upto_if 62 with fail;go_cut [5,6] (λA J o=>A=dB k/\J=dB (m:Nat)/\GS w o #[dB k,tA T,tA M,dB 0,uA eA 0 0])
 case first=>
  obtain⟨D,u⟩|⟨D,rfl,rfl⟩:=A2.o
  .rw[D];replace u:=gB u;go_wp2_with fail;refine tD (u.o _) ?_;have O:=G.o.R.cell 2;have c1:=G.o.R.free 2;go_wp2;go_meet;exact⟨rfl,rfl,G.o.set 2 (tA M)⟩
  rw[D];go_wp2;go_meet;exact⟨rfl,rfl,G.o⟩
 clear G;obtain⟨rfl,rfl,G⟩:=hcut;replace G:=gB G;rename jA=>V;go_upto_region 12 with fail;go_cut [5,77] (λA b o=>A=dB k/\b=vA (iV k)/\o=V)
 case first=>
  go_wp2;all_goals go_meet
  all_goals(unfold iV;simp_all)
 obtain⟨rfl,rfl,rfl⟩:=hcut;go_upto_if 77 with fail;go_cut [5,6] (λA J o=>A=dB k/\J=dB (P:Nat)/\GS w o #[dB k,tA T,tA M,dB N,uA eA 0 0])
 case first=>
  obtain⟨D,u⟩|⟨D,rfl,rfl⟩:=A3.o
  .rw[D];replace u:=gB u;go_wp2_with fail;refine tD (u.o _) ?_;have O:=G.o.R.cell 3;have c1:=G.o.R.free 3;go_wp2;go_meet;exact⟨rfl,rfl,G.o.set 3 (dB N)⟩
  rw[D];go_wp2;go_meet;exact⟨rfl,rfl,G.o⟩
 clear G;obtain⟨rfl,rfl,G⟩:=hcut;replace G:=gB G;rename jA=>V;go_upto_region 16 with fail;go_cut [5,88] (λA b o=>A=dB k/\b=vA (decide (k=1))/\o=V)
 case first=>
  go_wp2;go_meet;exact⟨rfl,by rw[<-I 1];rfl,rfl⟩
 obtain⟨rfl,rfl,rfl⟩:=hcut;go_upto_if 88 with fail;go_cut [5,6,13,14,15] (λA _ _ _ _ o=>A=dB k/\∃v,GS w o #[dB k,tA T,tA M,dB N,v]/\zX o (w.1.size+1+1) 132 v (cB S) S)
 case first=>
  by_cases J:k=1
  .replace u:=gB (u.o J);replace HX:=gB (HX.o J);rw[Ac J];clear J U;go_wp2_with fail;refine tD (u.o _) ?_;go_wp2_with fail;go_loopw [6,15] (λl i wr=>∃(j z:Nat)(v:mA),j<=cB S/\i=dB j/\l=dB (z:Nat)/\fB (z=P+2+(kE (S.take j)).size)/\fB (GS w wr #[dB k,tA T,tA M,dB N,v])/\fB (zX wr (w.1.size+1+1) 132 v j (S.take j))) (λ_ i _=>cB S-(intOf i).toNat)
   case atStart=>exact⟨0,P+2,_,Oa _,rfl,rfl,rfl,G.o,zX.nil _ _ _⟩
   case round=>
    obtain⟨j,z,v,m,rfl,rfl,m,HG,HV⟩:=hrel;clear G;by_cases p:j<cB S
    .obtain ⟨q0,q1,P1,hq0,P2,F⟩:=aKi hs HX.o Q.o Y.o p;rw[<-m.o]at P1;have m:=gB hq0;have Z:=gB (Q.o j p).2;have ES:fB (S.take (j+1)=S.take j++[⟨S[j].B,S[j].bits⟩]):=by show _=_;rw[Pa p]
     have O:=(Q.o j p).1;clear hq0;generalize S[j].B=ls at *;generalize S[j].bits=bi at *;rename jA=>t;go_wp2_with fail;refine tD (P1.o _) ?_;go_upto_block 2 with fail;have X0:=gB (rB.new t #[uA eA 0 0,dB 0] 132);have B0:=gB (uF t (aB #[uA eA 0 0,dB 0] 132));generalize t.alloc (aB #[uA eA 0 0,dB 0] 132)=O at *;go_cut [6] (λa o=>a=dB ((q0+(pD ls).size:Nat):Int)/\∃B,rB o t.1.size #[B,dB 0] 132/\o.ownsRow (t.1.size+1) 190 2 B (cB ls) (wC ls)/\zB t o)
     case first=>
      go_wp2_with fail;go_loopw [6,19] (λl i wr=>∃(y O:Nat)(B:mA),y<=cB ls/\i=dB y/\l=dB (O:Nat)/\fB (O=q0+(pD (ls.take y)).size)/\fB (rB wr t.1.size #[B,dB 0] 132)/\fB (wr.ownsRow (t.1.size+1) 190 2 B y (wC (ls.take y)))/\fB (zB t wr)) (λ_ i _=>cB ls-(intOf i).toNat)
      case atStart=>exact⟨0,q0,_,Oa _,rfl,rfl,rfl,X0.o,jA.ownsRow_nil _ _ _ _,B0.o⟩
      case round=>
       obtain⟨y,O,B,I,rfl,rfl,Y,X,R,o⟩:=hrel;by_cases L:y<cB ls
       .obtain ⟨z3,z4,Q1,Q2,F1⟩:=aJe hs m.o Z.o L;rw[<-Y.o]at Q1;have m:fB (wC (ls.take (y+1))=wC (ls.take y)++[tA ls[y].N,tA ls[y].V]):=by show _=_;rw[Pa L,cG];rfl
        generalize ls[y].N=tx at *;generalize ls[y].V=l at *;have c1:gD wr t.1.size 0 B:=X.o.cell 0;have l:=eB X.o;iterate 2 (go_wp2_with fail;first|with_reducible refine tD (Q1.o _) ?_|with_reducible refine tD (Q2.o _) ?_)
        go_wp2_with(at_builtin;refine gI rfl _ _ rfl underlying129 aAw rfl (by omega) (by omega) (v:=B) rfl R.o rfl rfl rfl (by simp[mA.oneCell']) (by omega) (by omega) ?_;intro g5 Z w5 HO I _;have l:=gB (I.o.blk X.o (λe=>by omega));have s5:=l.o.cell 0;have n:=l.o.free 0);obtain⟨l,x2,x3⟩:=oR X.o I.o HO.o (Nat.lt_succ_self _) 0;exact⟨⟨y+1,z4,_,by omega,by go_num,rfl,F1,gB (by simpa using l),gB (by rw[m.o];exact x2),gB (o.o.trans (x3.below (by omega) λi hi e=>by omega))⟩,by simp[intOf];omega⟩
       obtain rfl:y=cB ls:=by omega
       rw[Rb]at R Y;go_wp2;go_meet;exact⟨by rw[Y.o],B,X.o,R.o,o.o⟩
     obtain⟨rfl,B,C,K,hB⟩:=hcut;rename jA=>w1;obtain⟨a1,d1,rfl⟩:=nK K;obtain⟨T',ys,b0,d0,Y,hV4⟩:=HV.o;have m:=eB HG.o.R;go_wp2_with fail;refine tD (P2.o _) ?_;obtain⟨x0,l⟩:=C.c2;have m:=C.free 1;go_upto_region 35 with fail;have o:=(jB.refl (·=t.1.size) w1).setCell (Ca rfl) 1 (dB bi);have X1:=gB (C.set 1 (dB bi));have R1:=gB (o.row K (λb q e=>by have:=(K.lt b q).1;omega));have B1:=gB (hB.trans (o.below hB.size λi hi e=>by omega));clear x0 l m C K hB X0 B0 o;generalize w1.setCell (iB t.1.size 1) (dB bi)=w2 at *;have m:=eB X1.o;have G:=gB (HG.o.z B1.o);have HR:=gB (lC b0 B1.o);have m:=gB (⟨d0,Y,hV4,b0.lt⟩:_/\_/\_/\_);have hyl:fB (cB ys=j):=by show _=_;have:=Kd List.length d0;rw[Xa,Hb]at this;omega
     have x0:gD w2 t.1.size 0 (uA a1 (cB ls) d1):=X1.o.cell 0;have l:gD w2 t.1.size 1 (dB bi):=X1.o.cell 1;have y4:=G.o.R.cell 4;clear b0 d0 Y hV4;go_wp2_with(at_builtin;refine gI rfl _ _ rfl underlying45 cz rfl (by omega) (by omega) (v:=v) rfl HR.o rfl rfl rfl (by simp[mA.oneCell']) (by omega) (by omega) ?_;intro g5 Z w5 HO I Z;have Y:=gB (I.o.blk G.o.R (λe=>by omega));have s5:=Y.o.cell 4;have n:=Y.o.free 4);obtain⟨O,z2,z3⟩:=oR G.o.R I.o HO.o (Nat.lt_succ_self _) 4;obtain⟨B,v2,v3,v4⟩:=m.o;have m:=λg(Y:g<w2.1.size)(h:w.1.size+1+1<=g)(H:v.ownBlock≠fA g)=>z3.block g Y (λe=>e.elim (λe=>by omega) λe=>H e.2);refine⟨⟨j+1,q1,_,by omega,by go_num,rfl,F,⟨by simpa using O,z3.blk G.o.Z (λe=>by omega),G.o.N.trans (z3.below (by omega) λi hi e=>by omega)⟩,?_⟩,by simp[intOf];omega⟩;rw[ES.o];exact zX.snoc (wr:=t) (w4:=w2) (v:=v) (T:=T') (ys:=ys) (x:=⟨ls,bi⟩) z2 B hyl.o v2 v3 (by omega) (λg Y q H=>(m g (by omega) q H).trans (B1.o.block g Y)) (λg Y q=>m g q (by omega) (λe=>by have:=(v4 _ e).2;omega)) (qE.mono (zJ R1.o) (by omega)) (fv R1.o) (Z.o.elim (λh=>Ca ⟨h,(v4 _ h).2⟩) λh=>La (by omega)) (by omega)
    obtain rfl:j=cB S:=by omega
    rw[Rb]at HV;go_wp2;go_meet;exact⟨rfl,v,HG.o,HV.o⟩
  obtain rfl:=U.o J;rw[Ub J];go_wp2;go_meet;exact⟨rfl,_,G.o,zX.nil _ _ _⟩
 clear G U HX u A1 A2 A3;obtain⟨rfl,v,C,K⟩:=hcut;rename jA=>w1;obtain⟨J,rc,rfl⟩:=K.row;have X:=gB C;have O:=gB (K.own rfl);obtain⟨x0,l,x2,x3,U⟩:=C.R.c5;obtain⟨h,m,q,G,y4⟩:=C.Z.c5;have f:=C.Z.free;have p:=C.N.size;have o:=fun(W:jA)(a b c d e:mA)=>((((((uD.refl w.1.size W).setCell 0 a).setCell 1 b).setCell 2 c).setCell 3 d).setCell 4 e)
 have I:=gB o;clear C K o;go_wp2_with(go_at_call 8;apply oC (HEN.o _ J rc O.o.P);intro o o;replace X:=gB (X.o.z o);replace O:=gB (O.o.z o);clear x0 l x2 x3 U h m q G y4 f p;obtain⟨x0,l,x2,x3,U⟩:=X.o.R.c5;obtain⟨h,m,q,G,y4⟩:=X.o.Z.c5;have f:=X.o.Z.free;have p:=X.o.N.size;clear o);refine bodyPost_ret (v:=?_) (by simp[results,results65,go_sem,h,m,q,G,y4];rfl) rfl ?_;exact⟨J,rc,rfl,(O.o.but (I.o _ _ _ _ _ _) (by omega)).mono (by omega),X.o.N.trans ((jB.but (I.o _ _ _ _ _ _)).below p λi hi e=>by omega)⟩
