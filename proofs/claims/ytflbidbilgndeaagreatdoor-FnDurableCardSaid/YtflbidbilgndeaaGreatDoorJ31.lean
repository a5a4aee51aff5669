import Derived.Test.YtflbidbilgndeaaGreatDoorJ27
import Derived.Test.YtflbidbilgndeaaGreatDoorJ28
import Derived.Test.YtflbidbilgndeaaGreatDoorJ16
set_option maxRecDepth 100000
set_option maxHeartbeats 8000000
open ByteArray renaming empty->kA
open Bool renaming true->dA,false->cA
open Option renaming none->aA,some->bA
open List renaming length->yA
namespace Go.Proofs.YtflbidbilgndeaaGreatDoor
open Value renaming slice->pA,agg->tA,int->lA,string->oA,tuple->xA,bool->qA
open Go renaming World->eA,Value->iA
open Obj renaming cells->vA
open IntKind renaming i64->mA
open Ending renaming returned->uA
open Go.RowKit Tryz
def vI(c:iC)(now:Int)(b:List fB)(d:jB)(x:sF):Nat×List fB×jB:=
 if (xB x.B).2.1≠0 then((xB x.B).2.1,b,kA)
 else if AL x.bits=dA then(6,b,kA)
 else if (cI c now b d (fJ (xB x.B).1)).2.2=1\/(cI c now b d (fJ (xB x.B).1)).2.2=2 then((cI c now b d (fJ (xB x.B).1)).2.2,(cI c now b d (fJ (xB x.B).1)).2.1,fJ (xB x.B).1)
 else((cI c now b d (fJ (xB x.B).1)).2.2,b,kA)
theorem VL{b:List dC}:∀l∈(xB b).1,l∈b:=by grind [xB,zL,yL]
theorem BN{ls:List dC}:yA (xB ls).1<=yA ls:=by grind [xB,EF,BT]
theorem ba {x y : List dC} (h : x.Perm y) : bE x = bE y := by
  induction h with
  | nil => rfl
  | cons _ _ ih => simp [bE, ih]
  | swap => simp [bE]; omega
  | trans _ _ h1 h2 => exact h1.trans h2
theorem qo(b:List dC):bE (zL b)<=bE b:=by induction b<;>grind [bE,zL]
theorem DV(b:List dC):bE (xB b).1<=bE b:=by grind [bE,xB,ba,yL,qo]
theorem XD(b:List dC):(fJ b).size<=1+3*yA b+bE b:=by
 unfold fJ;split;rw[uH,Ka,gB,lQ];omega;exact Oa _
structure JP(w W:World)(c:iC)(now:Int)(a:mC)(n cap:Nat)(la:mC)(k lc:Nat)(bi:Int):Prop where
 C:nB W w.1.size #[zA c.w,zA c.tl,zA c.ml,zA c.sh,zA c.ha,zA c.sg] 24
 S:nB W (w.1.size+1) #[zA now,pA a n cap] 40
 X:nB W (w.1.size+1+1) #[pA la k lc,zA bi] 111
 R:nB W (w.1.size+1+1+1) #[zA 0,pA aA 0 0] 40
 B:uB w W
section
variable {w W W':eA} {c:iC} {now:Int} {a la:mC} {n cap k lc:Nat} {bi:Int}
theorem JP.new:JP w ((((w.alloc (vA #[zA c.w,zA c.tl,zA c.ml,zA c.sh,zA c.ha,zA c.sg] 24)).alloc (vA #[zA now,pA a n cap] 40)).alloc (vA #[pA la k lc,zA bi] 111)).alloc (vA #[zA 0,pA aA 0 0] 40)) c now a n cap la k lc bi:=by
 have b:=((nB.new (w.alloc (vA #[zA c.w,zA c.tl,zA c.ml,zA c.sh,zA c.ha,zA c.sg] 24)) #[zA now,pA a n cap] 40).alloc (vA #[pA la k lc,zA bi] 111)).alloc (vA #[zA 0,pA aA 0 0] 40);have d:=(nB.new ((w.alloc (vA #[zA c.w,zA c.tl,zA c.ml,zA c.sh,zA c.ha,zA c.sg] 24)).alloc (vA #[zA now,pA a n cap] 40)) #[pA la k lc,zA bi] 111).alloc (vA #[zA 0,pA aA 0 0] 40);have e:=nB.new (((w.alloc (vA #[zA c.w,zA c.tl,zA c.ml,zA c.sh,zA c.ha,zA c.sg] 24)).alloc (vA #[zA now,pA a n cap] 40)).alloc (vA #[pA la k lc,zA bi] 111)) #[zA 0,pA aA 0 0] 40;simp only[eA.size_alloc]at b d e;exact⟨(((nB.new _ _ _).alloc _).alloc _).alloc _,b,d,e,vB (vB (vB zB zB) zB) zB⟩
theorem JP.z(h:JP w W c now a n cap la k lc bi)(b:uB W W'):JP w W' c now a n cap la k lc bi:=⟨h.C.z b,h.S.z b,h.X.z b,h.R.z b,vB h.B b⟩
theorem JP.cells(h:JP w W c now a n cap la k lc bi):W.cell? (dB w.1.size 0)=bA (zA c.w)/\W.cell? (dB w.1.size 1)=bA (zA c.tl)/\W.cell? (dB w.1.size 2)=bA (zA c.ml)/\W.cell? (dB w.1.size 3)=bA (zA c.sh)/\W.cell? (dB w.1.size 4)=bA (zA c.ha)/\W.cell? (dB w.1.size 5)=bA (zA c.sg)/\W.cell? (dB (w.1.size+1) 0)=bA (zA now)/\W.cell? (dB (w.1.size+1) 1)=bA (pA a n cap)/\W.cell? (dB (w.1.size+1+1) 0)=bA (pA la k lc)/\W.cell? (dB (w.1.size+1+1) 1)=bA (zA bi)/\W.cell? (dB (w.1.size+1+1+1) 0)=bA (zA 0)/\W.cell? (dB (w.1.size+1+1+1) 1)=bA (pA aA 0 0)/\W.frozen? (dB (w.1.size+1+1+1) 0)=cA/\W.frozen? (dB (w.1.size+1+1+1) 1)=cA/\w.1.size+1+1+1<W.1.size/\w.1.size+1<W.1.size/\¬w.1.size+1=W.1.size/\¬w.1.size+1+1+1=W.1.size:=
 have:=aB h.R
 ⟨h.C.cell 0,h.C.cell 1,h.C.cell 2,h.C.cell 3,h.C.cell 4,h.C.cell 5,h.S.cell 0,h.S.cell 1,h.X.cell 0,h.X.cell 1,h.R.cell 0,h.R.cell 1,h.R.free 0,h.R.free 1,this,by omega,by omega,by omega⟩
end
theorem VA(c:iC)(now:Int)(a:mC)(cap:Nat)(f:List fB)(l:jB)(x:sF)(la:mC)(lc:Nat)(w:eA){A:Nat->Prop}(hf:dL w A a f)(hl:sD w la x.B)(hlc:yA x.B<=lc)(u:yA f+cC f<=1900000)(hn:l.size<=1000000)(hx:tJ x<=300000)(h0:nC c now f=dA):
 Calls prog 53 #[rE c,tA #[lA mA now,pA a (yA f) cap],oA l,tA #[pA la (yA x.B) lc,lA mA x.bits]] w λe w'=>∃b cb,e=uA (xA #[lA mA ((vI c now f l x).1:Nat),tA #[lA mA now,.slice b (yA (vI c now f l x).2.1) cb],oA (vI c now f l x).2.2])/\dL w' (λg=>A g\/w.1.size<=g) b (vI c now f l x).2.1/\uB w w':=by
 have hbx:tJ x=yA x.B+bE x.B:=rfl;have hB:sU x.B:=λi s=>by have:=qx x.B i s;exact⟨by omega,by omega⟩
 have t:sU (xB x.B).1:=λi s=>by
  obtain⟨j,hj,e⟩:=Ib (VL _ (Gb s));rw[<-e];exact hB j hj
 have hkl:=BN (ls:=x.B);have HC:=bB (λW(o:uB w W)=>DH la lc x.B W (hl.z o) hB (by omega) hlc);have HN:=bB (λW=>aJy x.bits W);have HK:=bB (λW H J(h:sD W H (xB x.B).1)(hk:yA (xB x.B).1<=J)=>MT H J (xB x.B).1 W h t (by omega) hk);have G:=bB (λW(o:uB w W)(I:(fJ (xB x.B).1).size<=1900000)=>DG c now a cap f l (fJ (xB x.B).1) W (hf.tens.z o) u (by omega) I h0);have HF:=bB (λW(o:uB w W)=>hf.lt.z o);have I:(fJ (xB x.B).1).size<=1900000:=by have:=XD (xB x.B).1;have:=DV x.B;omega
 replace G:=bB (λW o=>G.o W o I);have HV:cB ((xB x.B).2.1≠0/\vI c now f l x=((xB x.B).2.1,f,kA)\/(xB x.B).2.1=0/\(AL x.bits=dA/\vI c now f l x=(6,f,kA)\/AL x.bits=cA/\((((cI c now f l (fJ (xB x.B).1)).2.2:Nat):Int)=1/\vI c now f l x=(1,(cI c now f l (fJ (xB x.B).1)).2.1,fJ (xB x.B).1)\/((cI c now f l (fJ (xB x.B).1)).2.2:Int)=2/\vI c now f l x=(2,(cI c now f l (fJ (xB x.B).1)).2.1,fJ (xB x.B).1)\/(((cI c now f l (fJ (xB x.B).1)).2.2:Int)==1)=cA/\(((cI c now f l (fJ (xB x.B).1)).2.2:Int)==2)=cA/\vI c now f l x=((cI c now f l (fJ (xB x.B).1)).2.2,f,kA)))):=by
  show _\/_;unfold vI;by_cases z:(xB x.B).2.1=0
  .refine La ⟨z,?_⟩;rw[Ja (by simp[z])];cases AL x.bits
   .refine La ⟨rfl,?_⟩;rw[Ja (by simp)];generalize cI c now f l (fJ (xB x.B).1)=A;by_cases C:A.2.2=1
    .exact Ca ⟨by omega,by simp[C]⟩
    by_cases q2:A.2.2=2
    .exact La (Ca ⟨by omega,by simp[q2]⟩)
    exact La (La ⟨by simp;omega,by simp;omega,by simp[C,q2]⟩)
   exact Ca ⟨rfl,Ma rfl⟩
  exact Ca ⟨z,Ma z⟩
 have HNW:cB ((cI c now f l (fJ (xB x.B).1)).1=now):=by
  show _=_;unfold cI;rw[Ja (by rw[h0];simp)];repeat' split
  all_goals rfl
 have P:=bB (JP.new (w:=w) (c:=c) (now:=now) (a:=a) (n:=yA f) (cap:=cap) (la:=la) (k:=yA x.B) (lc:=lc) (bi:=x.bits));unfold VF at G;generalize vI c now f l x=V at *;generalize cI c now f l (fJ (xB x.B).1)=A at *;obtain⟨n9,d,v9⟩:=A;obtain rfl:=HNW.o;generalize fJ (xB x.B).1=ky at *;generalize AL x.bits=nb at *;generalize x.bits=bi at *;generalize xB x.B=CN at *;generalize x.B=ls at *;obtain⟨fm,cd,ix⟩:=CN;unfold rE at *;go_enter func53,ntmps53;go_wp2_with fail;refine(HC.o _ P.o.B).mono ?_;rintro e w1 ⟨a1,k1,rfl,hk1,y,m⟩;replace P:=bB (P.o.z m);have L1:=bB y.B;obtain⟨K,L,M,N,O,Q,S,T,U,X,D,E,Y,Z,F,y5,y6,y7⟩:=P.o.cells;obtain⟨z,rfl⟩|⟨rfl,⟨rfl,rfl⟩|⟨rfl,⟨C,rfl⟩|⟨C,rfl⟩|⟨C,q2,rfl⟩⟩⟩:=HV.o
 all_goals
  go_wp2_with(first
   |(go_at_call 113;apply dR (HN.o _))
   |(go_at_call 114;apply lC (HK.o _ a1 k1 L1.o hk1);intro w2 m;replace P:=bB (P.o.z m);obtain⟨K,L,M,N,O,Q,S,T,U,X,D,E,Y,Z,F,y5,y6,y7⟩:=P.o.cells)
   |(go_at_call 108;refine(G.o _ P.o.B).mono ?_;rintro e w3 ⟨H,J,rfl,y,m⟩;have O3:=bB (y.toN (A:=λg=>w.1.size+1+1+1<g) λg h=>Bb (aB P.o.R) h);replace P:=bB (P.o.z m);obtain⟨K,L,M,N,O,Q,S,T,U,X,D,E,Y,Z,F,y5,y6,y7⟩:=P.o.cells))
 all_goals have r:=bB (fun(W:eA)(p q:iA)=>(((eB.refl (·=w.1.size+1+1+1) W).setCell (Ca rfl) 0 p).setCell (Ca rfl) 1 q))
 all_goals
  go_region
  go_wp2;refine bodyPost_ret (v:=?_) (by simp[results,results53,go_sem,D,E,F];rfl) rfl ?_;first
   |exact⟨a,⟨cap,rfl⟩,((HF.o _ P.o.B).turn (r.o _ _ _) (λg(h:A g/\g<w.1.size)(e:g=w.1.size+1+1+1)=>by omega)).mono (λg h=>Ca h.1),(P.o.B.trans ((r.o _ _ _).below P.o.B.size λi s e=>by omega)).drew⟩
   |exact⟨H,⟨J,rfl⟩,((O3.o.turn (r.o _ _ _) (λg(h:w.1.size+1+1+1<g)(e:g=w.1.size+1+1+1)=>by omega)).mono (λg(h:w.1.size+1+1+1<g)=>La (by omega))).z (zB.drew),(vB (P.o.B.trans ((r.o _ _ _).below P.o.B.size λi s e=>by omega)) zB).drew⟩
   |exact⟨a,⟨cap,rfl⟩,(((HF.o _ P.o.B).turn (r.o _ _ _) (λg(h:A g/\g<w.1.size)(e:g=w.1.size+1+1+1)=>by omega)).mono (λg h=>Ca h.1)).z (zB.drew),(vB (P.o.B.trans ((r.o _ _ _).below P.o.B.size λi s e=>by omega)) zB).drew⟩
section
open Go.Maps
theorem vb{w:eA}{N:Nat}{x y p q:iA}{t:TypeId}(h:nB w N #[x,y] t):nB ((w.setCell (dB N 0) p).setCell (dB N 1) q) N #[p,q] t:=by
 have:=(h.set 0 p).set 1 q;simpa using this
def ApR(w:eA)(c:iC)(now:Int)(a:mC)(n cap N:Nat)(nv:iA)(sv:iA)(X:Nat)(SV:Int×List fB×Bool)(b:eA):Prop:=
 ∃a5 c5,CJ w b c now a n cap/\nB b N #[nv,sv] 40/\(SV.2.2=dA->nB b X #[zA SV.1,pA a5 (yA SV.2.1) c5] 40/\cD b (X+1) a5 SV.2.1)
section
variable {w w5 W:eA} {c:iC} {now:Int} {a a5:mC} {n cap N X B c5:Nat} {nv sv:iA} {SV:Int×List fB×Bool} {n5:Int} {t5:List fB} {b5:Bool}
theorem ux(P:CJ w w5 c now a n cap)(d:nB w5 N #[nv,sv] 40)(f:nB w5 X #[zA 0,pA aA 0 0] 40)(O:cD w5 B a5 t5)(i:w.1.size+1+1<X)(h:N≠X)(l:X<B):ApR w c now a n cap N nv sv X (n5,t5,b5) ((w5.setCell (dB X 0) (zA n5)).setCell (dB X 1) (pA a5 (yA t5) c5)):=by
 have b:eB (·=X) w5 ((w5.setCell (dB X 0) (zA n5)).setCell (dB X 1) (pA a5 (yA t5) c5)):=((eB.refl (·=X) w5).setCell (Ca rfl) 0 _).setCell (Ca rfl) 1 _;exact⟨a5,c5,P.turn b i,b.blk d h,λ_=>⟨vb f,(cD.turned O b (λg j k e=>by omega)).mono (by omega)⟩⟩
theorem ApR.alloc(h:ApR w c now a n cap N nv sv X SV W)(o:Obj):ApR w c now a n cap N nv sv X SV (W.alloc o):=by
 obtain⟨a5,c5,d,f,b⟩:=h;exact⟨a5,c5,d.z zB,f.alloc _,λe=>⟨(b e).1.alloc _,(b e).2.z zB⟩⟩
end
theorem UX(c:iC)(now:Int)(a:mC)(cap:Nat)(u:List fB)(ar:mC)(capr:Nat)(r:List xD)(w:eA)(hf:xC w a u)(hr:tI w ar r)(hbk:yA u+cC u+yA r+gD r<=1400000):
 Calls prog 47 #[rE c,tA #[lA mA now,pA a (yA u) cap],pA ar (yA r) capr] w λe D=>xU (vF c now u r) w e D:=by
 have U:yA u+cC u<=1900000:=by omega
 obtain⟨f,d,j,l⟩:=wR U;have HST:=bB (λW(I:uB w W)=>sJ c now a cap u W (hf.z I) d (by omega));have L:=bB (fun(h:nC c now u=dA) W(I:uB w W)=>zT c now a cap u W (hf.z I) h U);have T:cB (vF c now u r=if nC c now u=cA then(0,[],cA) else if 500<yA r then(now,u,cA) else if (nF c now u r).2.2=dA then nF c now u r else(now,u,cA)):=rfl;have HF:=bB hr;have HBK:=bB hbk;have P:=bB (CJ.new (w:=w) (c:=c) (now:=now) (a:=a) (n:=yA u) (cap:=cap));unfold xU;unfold rE at *;generalize vF c now u r=V at *;go_enter func47,ntmps47;go_wp2_with fail;apply lC (HST.o _ P.o.B);intro w1 x;replace P:=bB (P.o.z x);obtain⟨Z,x1,x2,x3,x4,x5,y0,y1,Q,R,g0,g1,hz⟩:=P.o.cells;cases hst:nC c now u with
 |false=>
  have E:cB (V=(0,[],cA)):=by show _=_;rw[T.o,Ma hst]
  go_wp2;refine bodyPost_ret (v:=?_) (by simp[results,results47,go_sem,Q,R];rfl) rfl ?_;rw[E.o];refine⟨aA,0,rfl,Ca rfl,?_⟩;first
   |exact(P.o.B.setCell (by show w.1.size<=w.1.size+1+1;omega) _).setCell (by show w.1.size<=w.1.size+1+1;omega) _
   |exact P.o.B
 |true=>
  have HSM:=bB (L.o hst);have G:cB (V=if 500<yA r then(now,u,cA) else if (nF c now u r).2.2=dA then nF c now u r else(now,u,cA)):=by show _=_;rw[T.o,Ja (by rw[hst];simp)]
  have HS0:=bB hst;go_wp2_with fail;refine(HSM.o _ P.o.B).mono ?_;rintro e w2 ⟨M,O,rfl,ho2,x⟩;have O4:=bB ((ho2.mono (B':=w.1.size+1+1+1) (by omega)).z (wF w2 (vA #[lA mA now,pA M (yA u) O] 40)));have P4:=bB ((P.o.z x).z (wF w2 (vA #[lA mA now,pA M (yA u) O] 40)));have N4:=bB (nB.new w2 #[lA mA now,pA M (yA u) O] 40);have hNp:=(P.o.z x).lt;have n0:=N4.o.c2;by_cases h5:500<yA r
  .have E:cB (V=(now,u,cA)):=by show _=_;rw[G.o,Ma h5]
   go_upto_region 5 with fail;generalize w2.alloc (vA #[lA mA now,pA M (yA u) O] 40)=w4 at *;obtain⟨-,-,-,-,-,-,-,-,Q,R,g0,g1,hz4⟩:=P4.o.cells;go_wp2;refine bodyPost_ret (v:=?_) (by simp[results,results47,go_sem,Q,R];rfl) rfl ?_;rw[E.o];first
    |exact⟨M,⟨O,rfl⟩,P4.o.done O4.o (by omega)⟩
    |exact⟨M,O,rfl,P4.o.done O4.o (by omega)⟩
  have HVF:cB ((nF c now u r).2.2=cA->V=(now,u,cA)):=λh6=>by rw[G.o,Ja h5,Ja (by rw[h6];simp)]
  have HVT:cB ((nF c now u r).2.2=dA->V=nF c now u r):=λh6=>by rw[G.o,Ja h5,Ma h6]
  go_wp2;generalize w2.alloc (vA #[lA mA now,pA M (yA u) O] 40)=w4 at *;generalize w2.1.size=N at *;go_loopw [29] (λi wr=>∃(k:Nat)(t:Int)(s:List fB)(z:mC)(A:Nat),k<=yA r/\i=lA mA k/\cB (CJ w wr c now a (yA u) cap)/\cB (nB wr N #[lA mA t,pA z (yA s) A] 40)/\cB (cD wr (w.1.size+1+1+1) z s)/\cB (nC c t s=dA)/\cB (yA s+cC s+2*(yA r-k)+gD (r.drop k)<=1900000)/\cB (nF c t s (r.drop k)=nF c now u r)) (λi _=>yA r-(intOf i).toNat)
  case atStart=>exact⟨0,now,u,M,O,Oa _,rfl,P4.o,N4.o,O4.o,HS0.o,bB (by have:=HBK.o;simp only[Nat.sub_zero,Kf];omega),rfl⟩
  case round=>
   obtain⟨k,t,s,z,A,hk,rfl,P,C,OB,F,HK,HR⟩:=hrel;by_cases J:k<yA r
   .obtain ⟨b,o,har,hbw,q0,q1,q2,q3⟩:=(HF.o.z P.o.B).at J;subst har;have hkb:=HK.o;have hdr:=IJ r J;have hstb:=kY F.o r[k];have HVQ0:cB _:=λh=>HVF.o (by rw[<-HR.o,YE J h]);have K:cB ((pE c t s r[k]).2.2=dA->nF c (pE c t s r[k]).1 (pE c t s r[k]).2.1 (r.drop (k+1))=nF c now u r/\nC c (pE c t s r[k]).1 (pE c t s r[k]).2.1=dA):=λh=>⟨(YD J h).symm.trans HR.o,IZ F.o h⟩
    have HBN:cB (yA (pE c t s r[k]).2.1+cC (pE c t s r[k]).2.1+2*(yA r-(k+1))+gD (r.drop (k+1))<=1900000):=by show _<=_;omega
    have S:cB (pE c t s r[k]=if r[k].K=1 then(t,(nL c t s r[k].T r[k].X).1,decide ((nL c t s r[k].T r[k].X).2=1) ||decide ((nL c t s r[k].T r[k].X).2=2)) else if r[k].K=2 then jK c.w t s r[k].U else if r[k].K=3 then(t,(uS s r[k].T r[k].X r[k].U).1,(uS s r[k].T r[k].X r[k].U).2) else(t,s,cA)):=rfl;have HAD:cB (∀W,uB wr W->Calls prog 108 #[tA #[lA mA c.w,lA mA c.tl,lA mA c.ml,lA mA c.sh,lA mA c.ha,lA mA c.sg],tA #[lA mA t,pA z (yA s) A],oA r[k].T,oA r[k].X] W λe D=>∃a cap,e=uA (xA #[tA #[lA mA t,.slice a (yA (nL c t s r[k].T r[k].X).1) cap],lA mA ((nL c t s r[k].T r[k].X).2:Nat)])/\cD D W.1.size a (nL c t s r[k].T r[k].X).1/\uB W D):=λW I=>by
     have:=DG c t z A s r[k].T r[k].X W (OB.o.tens.z I) (by omega) (by omega) (by omega) F.o;rw[ZG F.o]at this;exact this
    have HTK:cB (∀W,uB wr W->Calls prog 57 #[tA #[lA mA c.w,lA mA c.tl,lA mA c.ml,lA mA c.sh,lA mA c.ha,lA mA c.sg],tA #[lA mA t,pA z (yA s) A],lA mA r[k].U] W λe D=>∃a cap,e=uA (xA #[tA #[lA mA (jK c.w t s r[k].U).1,.slice a (yA (jK c.w t s r[k].U).2.1) cap],qA (jK c.w t s r[k].U).2.2])/\cD D W.1.size a (jK c.w t s r[k].U).2.1/\uB W D):=λW I=>by
     have:=IV c t z A s r[k].U W (OB.o.tens.z I) (by omega) F.o;rw[nk F.o]at this;exact this
    have HSE:cB (∀W,uB wr W->Calls prog 58 #[tA #[lA mA c.w,lA mA c.tl,lA mA c.ml,lA mA c.sh,lA mA c.ha,lA mA c.sg],tA #[lA mA t,pA z (yA s) A],oA r[k].T,oA r[k].X,lA mA r[k].U] W λe D=>∃a cap,e=uA (xA #[tA #[lA mA t,.slice a (yA (uS s r[k].T r[k].X r[k].U).1) cap],qA (uS s r[k].T r[k].X r[k].U).2])/\cD D W.1.size a (uS s r[k].T r[k].X r[k].U).1/\uB W D):=λW I=>by
     have:=wW c t z A s r[k].T r[k].X r[k].U W (OB.o.tens.z I) (by omega) (by omega) (by omega) F.o;rw[wj F.o]at this;exact this
    have hNr:=aB C.o;have hRr:=P.o.lt;have y:cB (uB wr ((wr.alloc (vA #[lA mA r[k].K,oA r[k].T,oA r[k].X,lA mA r[k].U] 137)).alloc (vA #[lA mA 0,pA aA 0 0] 40))):=vB zB zB;have XB:cB _:=bB (by have:=nB.new (wr.alloc (vA #[lA mA r[k].K,oA r[k].T,oA r[k].X,lA mA r[k].U] 137)) #[lA mA 0,pA aA 0 0] 40;simpa using this);have UB:=bB ((nB.new wr #[lA mA r[k].K,oA r[k].T,oA r[k].X,lA mA r[k].U] 137).alloc (vA #[lA mA 0,pA aA 0 0] 40));generalize pE c t s r[k]=SV at *;go_upto_region 11 with fail;generalize ((wr.alloc (vA #[lA mA r[k].K,oA r[k].T,oA r[k].X,lA mA r[k].U] 137)).alloc (vA #[lA mA 0,pA aA 0 0] 40))=wb at *;replace P:=bB (P.o.z y.o);replace C:=bB (C.o.z y.o);have hwb:=aB XB.o;obtain⟨Z,x1,x2,x3,x4,x5,y0,y1,-,-,-,-,-⟩:=P.o.cells;have n0:=C.o.c2;have q0:=UB.o.c4;generalize r[k].K=H at *;generalize r[k].T=TE at *;generalize r[k].X=TX at *;generalize r[k].U=NU at *;go_upto_block 2 with fail;go_cut [11,14] (λok _ wx=>ok=qA SV.2.2/\ApR w c now a (yA u) cap N (lA mA t) (pA z (yA s) A) (wr.1.size+1) SV wx)
    case first=>
     generalize nL c t s TE TX=R1 at *;generalize jK c.w t s NU=R2 at *;generalize uS s TE TX NU=R3 at *;obtain⟨t5,v5⟩:=R1;obtain⟨n6,m,b6⟩:=R2;obtain⟨p,b7⟩:=R3;have hks:H=1/\(((v5:Int)==1)=dA/\SV=(t,t5,dA)\/((v5:Int)==1)=cA/\(((v5:Int)==2)=dA/\SV=(t,t5,dA)\/((v5:Int)==2)=cA/\SV=(t,t5,cA)))\/(H==1)=cA/\(H=2/\SV=(n6,m,b6)\/(H==2)=cA/\(H=3/\SV=(t,p,b7)\/(H==3)=cA/\SV=(t,s,cA))):=by
      rw[S.o];by_cases k1:H=1
      .refine Ca ⟨k1,?_⟩;rw[Ma k1];by_cases v1:v5=1
       .exact Ca ⟨by simp[v1],by simp[v1]⟩
       refine La ⟨by simp;omega,?_⟩;by_cases v2:v5=2
       .exact Ca ⟨by simp[v2],by simp[v2]⟩
       exact La ⟨by simp;omega,by simp[v1,v2]⟩
      refine La ⟨by simpa using k1,?_⟩;rw[Ja k1];by_cases k2:H=2
      .exact Ca ⟨k2,by rw[Ma k2]⟩
      refine La ⟨by simpa using k2,?_⟩;rw[Ja k2];by_cases k3:H=3
      .exact Ca ⟨k3,by rw[Ma k3]⟩
      exact La ⟨by simpa using k3,by rw[Ja k3]⟩
     obtain⟨rfl,⟨h1,rfl⟩|⟨h1,⟨h2,rfl⟩|⟨h2,rfl⟩⟩⟩|⟨k1,⟨rfl,rfl⟩|⟨k2,⟨rfl,rfl⟩|⟨k3,rfl⟩⟩⟩:=hks
     all_goals
      go_wp2_with((first
       |(go_at_call 108;refine(HAD.o _ y.o).mono ?_)
       |(go_at_call 57;refine(HTK.o _ y.o).mono ?_)
       |(go_at_call 58;refine(HSE.o _ y.o).mono ?_));rintro e w5 ⟨a5,c5,rfl,ho,x⟩;have O5:=bB ho;have P5:=bB (P.o.z x);have N5:=bB (C.o.z x);have X5:=bB (XB.o.z x);have hx5:=aB X5.o;have Z:=X5.o.c2;have fx:=X5.o.free)
      go_meet;first
       |(have q:=k3;exact⟨rfl,aA,0,P.o,C.o,λe=>by cases e⟩)
       |exact⟨rfl,ux P5.o N5.o X5.o O5.o (by omega) (by omega) hwb⟩
       |exact⟨rfl,(ux P5.o N5.o X5.o O5.o (by omega) (by omega) hwb).alloc _⟩
    obtain⟨rfl,a5,c5,hP,hN,hX⟩:=hcut;rename eA=>w6;have P:=bB hP;have C:=bB hN;obtain⟨Z,x1,x2,x3,x4,x5,y0,y1,-,-,-,-,hz⟩:=hP.cells;obtain⟨n5,t5,b5⟩:=SV;cases b5 with
    |false=>
     have E:=bB (HVQ0.o rfl);go_wp2_with(go_at_call 107;refine(HSM.o _ P.o.B).mono ?_;rintro e w9 ⟨ra,rc,rfl,ho,x⟩;have P9:=bB (P.o.z x);have HO9:=bB ho;obtain⟨-,-,-,-,-,-,-,-,Q,R,g0,g1,hz9⟩:=P9.o.cells);refine bodyPost_ret (v:=?_) (by simp[results,results47,go_sem,Q,R];rfl) rfl ?_;rw[E.o];first
      |exact⟨ra,⟨rc,rfl⟩,P9.o.done HO9.o hz⟩
      |exact⟨ra,rc,rfl,P9.o.done HO9.o hz⟩
    |true=>
     have HX:=bB (hX rfl);have m0:=HX.o.1.c2;have n0:=hN.c2;have fn:=hN.free;go_wp2;have hT:eB (·=N) w6 ((w6.setCell ⟨N,0,aA⟩ (lA mA n5)).setCell ⟨N,1,aA⟩ (pA a5 (yA t5) c5)):=((eB.refl (·=N) w6).setCell (Ca rfl) 0 _).setCell (Ca rfl) 1 _;exact⟨⟨k+1,n5,t5,a5,c5,by omega,by go_num,bB (P.o.turn hT hNp),bB (vb C.o),bB ((cD.turned HX.o.2 hT (λg h1 h2 e=>by omega)).mono (by omega)),(K.o rfl).2,HBN.o,(K.o rfl).1⟩,by simp[intOf];omega⟩
   have Y:nF c now u r=(t,s,dA):=by rw[<-HR.o,Ie (by omega)];rfl
   have E:cB (V=(t,s,dA)):=by show _=_;rw[HVT.o (by rw[Y]),Y]
   have hkl:¬((k:Int)<yA r):=by omega
   have n0:=C.o.c2;obtain⟨-,-,-,-,-,-,-,-,Q,R,g0,g1,hz⟩:=P.o.cells;go_wp2;refine bodyPost_ret (v:=?_) (by simp[results,results47,go_sem,Q,R];rfl) rfl ?_;rw[E.o];first
    |exact⟨z,⟨A,rfl⟩,P.o.done OB.o (by omega)⟩
    |exact⟨z,A,rfl,P.o.done OB.o (by omega)⟩
end
section
variable {s:jB} {q k:Nat} {ls:List dC} {xs:List sF}
theorem aNd(f:s.size<=1000000)(h:FN s q (mD ls))(m:∀i(t:i<yA ls),aLw ls[i])(b:k<yA ls):∃g j:Nat,cB (∀W,rL 101 #[oA s,zA ((q+(mD (ls.take k)).size:Nat):Int),zA 1] W (xA #[oA ls[k].N,zA (g:Nat)]))/\cB (∀W,rL 101 #[oA s,zA (g:Nat),zA 2] W (xA #[oA ls[k].V,zA (j:Nat)]))/\cB (j=q+(mD (ls.take (k+1))).size):=by
 have d:=aJb h b;obtain⟨o,p⟩:=m k b;have a:=d.r;rw[rF]at a;refine⟨_,_,λW=>kV (n:=1) d.l (by omega) (by omega) f W,λW=>kV (n:=2) (by rw[<-Nat.add_assoc]at a;exact a) (by omega) (by omega) f W,?_⟩;show _=_;rw[pU ls k b];simp only[Ka,rF,iF];omega
theorem aOl(j:s.size<=1000000)(h:FN s q (iE xs))(o:aMh xs)(n:∀i(t:i<yA xs),wU xs[i].bits)(b:k<yA xs):∃c m:Nat,cB (∀W,rL 100 #[oA s,zA ((q+(iE (xs.take k)).size:Nat):Int),zA 1] W (xA #[zA (yA xs[k].B:Nat),zA (c:Nat)]))/\FN s c (mD xs[k].B)/\cB (∀W,rL 100 #[oA s,zA ((c+(mD xs[k].B).size:Nat):Int),zA 8] W (xA #[zA xs[k].bits,zA (m:Nat)]))/\cB (m=q+(iE (xs.take (k+1))).size):=by
 have a:=aJc h b;rw[qX,uH]at a;have f:=a.l.r;have g:=a.r;rw[gB]at f;rw[Ka,gB,<-Nat.add_assoc]at g;have p:=(o k b).1;refine⟨_,_,λW=>nU a.l.l (by omega) (lZ (by omega) (by omega)) j W,f,λW=>nU g (by omega) (kZ _ (n k b)) j W,?_⟩;show _=_;rw[aQ xs k b,qX,uH];simp only[Ka,gB];omega
end
structure GS(w W:World)(cs:Array Value):Prop where
 R:nB W (w.1.size+1) cs 47
 Z:nB W w.1.size #[zA 0,oA kA,oA kA,zA 0,pA aA 0 0] 47
 N:uB w W
section
variable {w W W':eA} {cs:Array iA}
theorem GS.start(w:eA):GS w ((w.alloc (vA #[zA 0,oA kA,oA kA,zA 0,pA aA 0 0] 47)).alloc (vA #[zA 0,oA kA,oA kA,zA 0,pA aA 0 0] 47)) #[zA 0,oA kA,oA kA,zA 0,pA aA 0 0]:=
 ⟨by have:=nB.new (w.alloc (vA #[zA 0,oA kA,oA kA,zA 0,pA aA 0 0] 47)) #[zA 0,oA kA,oA kA,zA 0,pA aA 0 0] 47;simpa using this,(nB.new _ _ _).alloc _,vB zB zB⟩
theorem GS.set(h:GS w W cs)(i:Nat)(v:iA):GS w (W.setCell (dB (w.1.size+1) i) v) (cs.setIfInBounds i v):=
 ⟨h.R.set i v,h.Z.but ((qD.refl (w.1.size+1) W).setCell i v) (by omega),h.N.setCell (by simp) _⟩
theorem GS.z(h:GS w W cs)(a:uB W W'):GS w W' cs:=⟨h.R.z a,h.Z.z a,vB h.N a⟩
end
theorem mq(r:gG)(w:eA)(h:VR r):
 Calls prog 51 #[oA (sK r)] w λe E=>xn r w e E:=by
 obtain⟨l,I,P,G,A1,A2,A3,O⟩:=aPx h;have hs:(sK r).size<=1000000:=by have:=h.sz;omega
 have HEN:=bB (λW J cap(q:pJ W J r.P)=>oU r J cap W q h);obtain⟨U,_,_,_,Y,h5,h6,q,h8⟩:=h.ok;have hn:=h.U;have q:=h.bits;unfold xn;obtain⟨k,T,M,N,S⟩:=r;obtain⟨k,rfl⟩:=Yf (show 0<=k by dsimp only at U;omega);dsimp only at *;have H0:cB (∀W,rL 100 #[oA (sK ⟨k,T,M,N,S⟩),zA 0,zA 1] W (xA #[zA (k:Nat),zA 1])):=λW=>nU G (by omega) (lZ (by omega) (by omega)) hs W;replace A1:cB (bW k=dA/\(∀W,rL 101 #[oA (sK ⟨k,T,M,N,S⟩),zA 1,zA 1] W (xA #[oA T,zA (l:Nat)]))\/bW k=cA/\T=kA/\l=1):=A1.imp (fun⟨a,b,c⟩=>⟨a,λW=>by rw[c];exact kV b (by omega) (by omega) hs W⟩) id;replace A2:cB (aW k=dA/\(∀W,rL 101 #[oA (sK ⟨k,T,M,N,S⟩),zA (l:Nat),zA 2] W (xA #[oA M,zA (I:Nat)]))\/aW k=cA/\M=kA/\I=l):=A2.imp (fun⟨a,b,c⟩=>⟨a,λW=>by rw[c];exact kV b (by omega) (by omega) hs W⟩) id;replace A3:cB (qW k=dA/\(∀W,rL 100 #[oA (sK ⟨k,T,M,N,S⟩),zA (I:Nat),zA 8] W (xA #[zA N,zA (P:Nat)]))\/qW k=cA/\N=0/\P=I):=A3.imp (fun⟨a,b,c⟩=>⟨a,λW=>by rw[c];exact nU b (by omega) (kZ _ hn) hs W⟩) id;have u:cB (k=1->∀W,rL 100 #[oA (sK ⟨k,T,M,N,S⟩),zA (P:Nat),zA 2] W (xA #[zA (yA S:Nat),zA ((P+2:Nat):Int)])):=λe W=>nU (O (by omega)).l (by omega) (lZ (by omega) (by omega)) hs W;have HX:cB (k=1->FN (sK ⟨k,T,M,N,S⟩) (P+2) (iE S)):=λe=>by have:=(O (by omega)).r;rwa [gB]at this
 have U:cB (k≠1->S=[]):=λe=>Y (by omega);have Q:=bB h8;have Z:=bB q;have H:(sK ⟨k,T,M,N,S⟩).toList.isEmpty=cA:=by
  have:=G.le;rw[gB]at this;exact nP.2 λe=>by rw[e]at this;exact absurd this (by decide)
 clear O G Y h5 h6 h8 hn q h;generalize sK ⟨k,T,M,N,S⟩=s at *;have O:∀j:Nat,(((k:Nat):Int)==(j:Int))=decide (k=j):=λj=>by rw[Qb];simp;omega
 go_enter func51,ntmps51;go_wp2_with fail;refine tD (H0.o _) ?_;have G:cB (GS w ((w.alloc (vA #[zA 0,oA ⟨#[]⟩,oA ⟨#[]⟩,zA 0,pA aA 0 0] 47)).alloc (vA #[zA 0,oA ⟨#[]⟩,oA ⟨#[]⟩,zA 0,pA aA 0 0] 47)) #[zA 0,oA kA,oA kA,zA 0,pA aA 0 0]):=bB (GS.start w);clear H0;generalize (w.alloc (vA #[zA 0,oA ⟨#[]⟩,oA ⟨#[]⟩,zA 0,pA aA 0 0] 47)).alloc (vA #[zA 0,oA ⟨#[]⟩,oA ⟨#[]⟩,zA 0,pA aA 0 0] 47)=W at *;have Y:tC W (w.1.size+1) 0 (zA 0):=G.o.R.cell 0;have c1:=G.o.R.free 0;go_upto_region 4 with fail;replace G:=bB (G.o.set 0 (zA k));clear Y c1;generalize W.setCell (dB (w.1.size+1) 0) (zA k)=V at *;go_upto_region 4 with fail;go_cut [5,32,47] (λA _ b o=>A=zA k/\b=qA (bW k)/\o=V)
 case first=>
  go_wp2;all_goals go_meet
  all_goals(unfold bW;simp_all)
 obtain⟨rfl,rfl,rfl⟩:=hcut;go_upto_if 47 with fail;go_cut [5,6] (λA J o=>A=zA k/\J=zA (l:Nat)/\GS w o #[zA k,oA T,oA kA,zA 0,pA aA 0 0])
 case first=>
  obtain⟨D,u⟩|⟨D,rfl,rfl⟩:=A1.o
  .rw[D];replace u:=bB u;go_wp2_with fail;refine tD (u.o _) ?_;have Y:=G.o.R.cell 1;have c1:=G.o.R.free 1;go_wp2;go_meet;exact⟨rfl,rfl,G.o.set 1 (oA T)⟩
  rw[D];go_wp2;go_meet;exact⟨rfl,rfl,G.o⟩
 clear G;obtain⟨rfl,rfl,G⟩:=hcut;replace G:=bB G;rename eA=>V;go_upto_region 8 with fail;go_cut [5,62] (λA b o=>A=zA k/\b=qA (aW k)/\o=V)
 case first=>
  go_wp2;all_goals go_meet
  all_goals(unfold aW;simp_all)
 obtain⟨rfl,rfl,rfl⟩:=hcut;go_upto_if 62 with fail;go_cut [5,6] (λA J o=>A=zA k/\J=zA (I:Nat)/\GS w o #[zA k,oA T,oA M,zA 0,pA aA 0 0])
 case first=>
  obtain⟨D,u⟩|⟨D,rfl,rfl⟩:=A2.o
  .rw[D];replace u:=bB u;go_wp2_with fail;refine tD (u.o _) ?_;have Y:=G.o.R.cell 2;have c1:=G.o.R.free 2;go_wp2;go_meet;exact⟨rfl,rfl,G.o.set 2 (oA M)⟩
  rw[D];go_wp2;go_meet;exact⟨rfl,rfl,G.o⟩
 clear G;obtain⟨rfl,rfl,G⟩:=hcut;replace G:=bB G;rename eA=>V;go_upto_region 12 with fail;go_cut [5,77] (λA b o=>A=zA k/\b=qA (qW k)/\o=V)
 case first=>
  go_wp2;all_goals go_meet
  all_goals(unfold qW;simp_all)
 obtain⟨rfl,rfl,rfl⟩:=hcut;go_upto_if 77 with fail;go_cut [5,6] (λA J o=>A=zA k/\J=zA (P:Nat)/\GS w o #[zA k,oA T,oA M,zA N,pA aA 0 0])
 case first=>
  obtain⟨D,u⟩|⟨D,rfl,rfl⟩:=A3.o
  .rw[D];replace u:=bB u;go_wp2_with fail;refine tD (u.o _) ?_;have Y:=G.o.R.cell 3;have c1:=G.o.R.free 3;go_wp2;go_meet;exact⟨rfl,rfl,G.o.set 3 (zA N)⟩
  rw[D];go_wp2;go_meet;exact⟨rfl,rfl,G.o⟩
 clear G;obtain⟨rfl,rfl,G⟩:=hcut;replace G:=bB G;rename eA=>V;go_upto_region 16 with fail;go_cut [5,88] (λA b o=>A=zA k/\b=qA (decide (k=1))/\o=V)
 case first=>
  go_wp2;go_meet;exact⟨rfl,by rw[<-O 1];rfl,rfl⟩
 obtain⟨rfl,rfl,rfl⟩:=hcut;go_upto_if 88 with fail;go_cut [5,6,13,14,15] (λA _ _ _ _ o=>A=zA k/\∃v,GS w o #[zA k,oA T,oA M,zA N,v]/\gZ o (w.1.size+1+1) 111 v (yA S) S)
 case first=>
  by_cases J:k=1
  .replace u:=bB (u.o J);replace HX:=bB (HX.o J);rw[Ac J];clear J U;go_wp2_with fail;refine tD (u.o _) ?_;go_wp2_with fail;go_loopw [6,15] (λl i wr=>∃(j z:Nat)(v:iA),j<=yA S/\i=zA j/\l=zA (z:Nat)/\cB (z=P+2+(iE (S.take j)).size)/\cB (GS w wr #[zA k,oA T,oA M,zA N,v])/\cB (gZ wr (w.1.size+1+1) 111 v j (S.take j))) (λ_ i _=>yA S-(intOf i).toNat)
   case atStart=>exact⟨0,P+2,_,Oa _,rfl,rfl,rfl,G.o,gZ.nil _ _ _⟩
   case round=>
    obtain⟨j,z,v,I,rfl,rfl,I,HG,HV⟩:=hrel;clear G;by_cases p:j<yA S
    .obtain ⟨q0,q1,P1,hq0,P2,F⟩:=aOl hs HX.o Q.o Z.o p;rw[<-I.o]at P1;have I:=bB hq0;have HL:=bB (Q.o j p).2;have ES:cB (S.take (j+1)=S.take j++[⟨S[j].B,S[j].bits⟩]):=by show _=_;rw[Pa p]
     have Y:=(Q.o j p).1;clear hq0;generalize S[j].B=ls at *;generalize S[j].bits=bi at *;rename eA=>t;go_wp2_with fail;refine tD (P1.o _) ?_;go_upto_block 2 with fail;have X0:=bB (nB.new t #[pA aA 0 0,zA 0] 111);have B0:=bB (wF t (vA #[pA aA 0 0,zA 0] 111));generalize t.alloc (vA #[pA aA 0 0,zA 0] 111)=Y at *;go_cut [6] (λa o=>a=zA ((q0+(mD ls).size:Nat):Int)/\∃B,nB o t.1.size #[B,zA 0] 111/\o.ownsRow (t.1.size+1) 181 2 B (yA ls) (vC ls)/\uB t o)
     case first=>
      go_wp2_with fail;go_loopw [6,19] (λl i wr=>∃(y Z:Nat)(B:iA),y<=yA ls/\i=zA y/\l=zA (Z:Nat)/\cB (Z=q0+(mD (ls.take y)).size)/\cB (nB wr t.1.size #[B,zA 0] 111)/\cB (wr.ownsRow (t.1.size+1) 181 2 B y (vC (ls.take y)))/\cB (uB t wr)) (λ_ i _=>yA ls-(intOf i).toNat)
      case atStart=>exact⟨0,q0,_,Oa _,rfl,rfl,rfl,X0.o,eA.ownsRow_nil _ _ _ _,B0.o⟩
      case round=>
       obtain⟨y,Z,B,O,rfl,rfl,Y,X,R,BB⟩:=hrel;by_cases L:y<yA ls
       .obtain ⟨z3,z4,Q1,Q2,F1⟩:=aNd hs I.o HL.o L;rw[<-Y.o]at Q1;have EL:cB (vC (ls.take (y+1))=vC (ls.take y)++[oA ls[y].N,oA ls[y].V]):=by show _=_;rw[Pa L,cG];rfl
        generalize ls[y].N=tx at *;generalize ls[y].V=l at *;have c1:tC wr t.1.size 0 B:=X.o.cell 0;have l:=aB X.o;iterate 2 (go_wp2_with fail;first|with_reducible refine tD (Q1.o _) ?_|with_reducible refine tD (Q2.o _) ?_)
        go_wp2_with(at_builtin;refine kI rfl _ _ rfl underlying108 QU rfl (by omega) (by omega) (v:=B) rfl R.o rfl rfl rfl (by simp[iA.oneCell']) (by omega) (by omega) ?_;intro g5 O w5 HO I _;have l:=bB (I.o.blk X.o (λe=>by omega));have s5:=l.o.cell 0;have n:=l.o.free 0);obtain⟨l,x2,x3⟩:=vQ X.o I.o HO.o (Nat.lt_succ_self _) 0;exact⟨⟨y+1,z4,_,by omega,by go_num,rfl,F1,bB (by simpa using l),bB (by rw[EL.o];exact x2),bB (BB.o.trans (x3.below (by omega) λi hi e=>by omega))⟩,by simp[intOf];omega⟩
       obtain rfl:y=yA ls:=by omega
       rw[Rb]at R Y;go_wp2;go_meet;exact⟨by rw[Y.o],B,X.o,R.o,BB.o⟩
     obtain⟨rfl,B,C,K,hB⟩:=hcut;rename eA=>w1;obtain⟨a1,d1,rfl⟩:=tF K;obtain⟨T',ys,b0,d0,hV3,hV4⟩:=HV.o;have Y:=aB HG.o.R;go_wp2_with fail;refine tD (P2.o _) ?_;obtain⟨x0,l⟩:=C.c2;have m:=C.free 1;go_upto_region 35 with fail;have Y:=(eB.refl (·=t.1.size) w1).setCell (Ca rfl) 1 (zA bi);have X1:=bB (C.set 1 (zA bi));have R1:=bB (Y.row K (λb q e=>by have:=(K.lt b q).1;omega));have B1:=bB (hB.trans (Y.below hB.size λi hi e=>by omega));clear x0 l m C K hB X0 B0 Y;generalize w1.setCell (dB t.1.size 1) (zA bi)=w2 at *;have hw2:=aB X1.o;have G:=bB (HG.o.z B1.o);have HR:=bB (hC b0 B1.o);have HVS:=bB (⟨d0,hV3,hV4,b0.lt⟩:_/\_/\_/\_);have hyl:cB (yA ys=j):=by show _=_;have:=Kd List.length d0;rw[Xa,Hb]at this;omega
     have x0:tC w2 t.1.size 0 (pA a1 (yA ls) d1):=X1.o.cell 0;have l:tC w2 t.1.size 1 (zA bi):=X1.o.cell 1;have y4:=G.o.R.cell 4;clear b0 d0 hV3 hV4;go_wp2_with(at_builtin;refine kI rfl _ _ rfl underlying45 QX rfl (by omega) (by omega) (v:=v) rfl HR.o rfl rfl rfl (by simp[iA.oneCell']) (by omega) (by omega) ?_;intro g5 O w5 HO I HA;have O:=bB (I.o.blk G.o.R (λe=>by omega));have s5:=O.o.cell 4;have n:=O.o.free 4);obtain⟨Z,z2,z3⟩:=vQ G.o.R I.o HO.o (Nat.lt_succ_self _) 4;obtain⟨B,v2,v3,v4⟩:=HVS.o;have O:=λg(hg:g<w2.1.size)(h:w.1.size+1+1<=g)(H:v.ownBlock≠bA g)=>z3.block g hg (λe=>e.elim (λe=>by omega) λe=>H e.2);refine⟨⟨j+1,q1,_,by omega,by go_num,rfl,F,⟨by simpa using Z,z3.blk G.o.Z (λe=>by omega),G.o.N.trans (z3.below (by omega) λi hi e=>by omega)⟩,?_⟩,by simp[intOf];omega⟩;rw[ES.o];exact gZ.snoc (wr:=t) (w4:=w2) (v:=v) (T:=T') (ys:=ys) (x:=⟨ls,bi⟩) z2 B hyl.o v2 v3 (by omega) (λg hg q H=>(O g (by omega) q H).trans (B1.o.block g hg)) (λg hg q=>O g q (by omega) (λe=>by have:=(v4 _ e).2;omega)) (oE.mono (gK R1.o) (by omega)) (lv R1.o) (HA.o.elim (λh=>Ca ⟨h,(v4 _ h).2⟩) λh=>La (by omega)) (by omega)
    obtain rfl:j=yA S:=by omega
    rw[Rb]at HV;go_wp2;go_meet;exact⟨rfl,v,HG.o,HV.o⟩
  obtain rfl:=U.o J;rw[Ub J];go_wp2;go_meet;exact⟨rfl,_,G.o,gZ.nil _ _ _⟩
 clear G U HX u A1 A2 A3;obtain⟨rfl,v,C,K⟩:=hcut;rename eA=>w1;obtain⟨Z,rc,rfl⟩:=K.row;have X:=bB C;have O:=bB (K.own rfl);obtain⟨x0,l,x2,x3,x4⟩:=C.R.c5;obtain⟨h,q,G,J,y4⟩:=C.Z.c5;have f:=C.Z.free;have p:=C.N.size;have Y:=fun(W:eA)(a b c d e:iA)=>((((((qD.refl w.1.size W).setCell 0 a).setCell 1 b).setCell 2 c).setCell 3 d).setCell 4 e)
 have I:=bB Y;clear C K Y;go_wp2_with(go_at_call 8;apply lC (HEN.o _ Z rc O.o.P);intro U U;replace X:=bB (X.o.z U);replace O:=bB (O.o.z U);clear x0 l x2 x3 x4 h q G J y4 f p;obtain⟨x0,l,x2,x3,x4⟩:=X.o.R.c5;obtain⟨h,q,G,J,y4⟩:=X.o.Z.c5;have f:=X.o.Z.free;have p:=X.o.N.size;clear U);refine bodyPost_ret (v:=?_) (by simp[results,results51,go_sem,h,q,G,J,y4];rfl) rfl ?_;exact⟨Z,rc,rfl,(O.o.but (I.o _ _ _ _ _ _) (by omega)).mono (by omega),X.o.N.trans ((eB.but (I.o _ _ _ _ _ _)).below p λi hi e=>by omega)⟩
