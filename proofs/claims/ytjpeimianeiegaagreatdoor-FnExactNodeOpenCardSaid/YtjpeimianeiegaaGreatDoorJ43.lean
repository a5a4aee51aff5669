import Derived.Test.YtjpeimianeiegaaGreatDoorJ41
import Derived.Test.YtjpeimianeiegaaGreatDoorJ38
set_option maxRecDepth 100000
set_option maxHeartbeats 8000000
namespace Go.Proofs.YtjpeimianeiegaaGreatDoor
open Go.RowKit Tryz
theorem qD {P:Program} {w:World} {b:Array Oper} {o:Oper} {a:Act} {K:Act->World->Prop} {Q:Exit->Act->World->Prop} {E:Prop} {f:FuncId} {args:Array Value} (c:o.guard=none) (i:(execOp a.eval o).run P w=.ok (.enter f args) w)
 (h:Calls P f args w (fun e d=>∃v,e=.returned v/\K (a.put o.dst v) d)):if Region.wanted o (yielded b a.tmps)=true then Oper.wp P o a w K Q else E:=by
 have hw:Region.wanted o (yielded b a.tmps)=true:=by simp[Region.wanted,c]
 rw[Ga hw];unfold Oper.wp;rw[i];refine h.mono ?_;rintro e d ⟨v,rfl,g⟩;exact g
structure CpR (w wr:World) (B g n cap:Nat) (T:Nat→Nat) (ys:List TV) (k:Nat) (m:Bool):Prop where
 row:wr.ownsRow B 107 4 (.slice (some ⟨g,0,none⟩) n cap) n (xH ys)
 len:ys.length=n
 tg:T g=0
 own:∀i (h:i<ys.length),i<k→oD wr B T (2*i+1) ys[i].a1 ys[i].t.m9∧oD wr B T (2*i+2) ys[i].a2 ys[i].t.s9
 half:m=true→∀h:k<ys.length,oD wr B T (2*k+1) ys[k].a1 ys[k].t.m9
 old:∀i (h:i<ys.length),k≤i→vA w ys[i].a2 ys[i].t.s9∧(m=false∨k<i→vA w ys[i].a1 ys[i].t.m9)
theorem oh {m w:World} {B P D:Nat} {K K':kB} {L:zH} {v:Value} {x:Nat} (a:uR) (h:bQ m w B P D K L) (y:oB w B D K.fs K.c K.k K.cr K.fl K.dn v) (d:dr a=true) (A:a.kind<=6) (e:wD K a=(K',x)):
 Calls prog 98 #[.pointer (some ⟨D,0,none⟩),.agg #[.int .i64 a.kind,.string a.name,.string a.tq,.string a.data,.int .i64 a.size]] w fun e f=>
  e=.returned (iG x)/\x<=6/\bQ m f B P D K' L/\kE w f/\(a.kind=4->oB f B D K'.fs K'.c K'.k K'.cr K'.fl K'.dn v):=by
 obtain⟨n,o,z,p,q,r,s,_⟩:=dD h.valid;have j:uA a.kind 1 6=true:=by simp only[dr,Na]at d;exact d.1.1
 have g:=e;rw[FJ h.valid d]at g;simp only[Hb]at g;obtain⟨rfl,rfl⟩:=g;refine(aIq w B D K.fs K.c K.k K.cr K.fl K.dn v a ⟨y,jL n,o,q,p,r,s⟩ j).mono ?_;rintro e f ⟨rfl,u,b,C,l,i⟩;exact⟨rfl,RH _ _ _ _ _ _ _,⟨h.pow,h.below.trans (u.mono h.hB),h.hB,h.hP,(b (by omega)).blk h.wr (by decide) (by decide),⟨_,l⟩,AE h.valid d⟩,b (by omega),fun t=>by
  obtain rfl:=i t;exact l⟩
theorem bQ.segAt {r w:World} {B P D:Nat} {K:kB} {L:zH} {i:Nat} {a:Option Addr} {d:Nat} {n:Int} (h:bQ r w B P D K L) (f:oB w B D K.fs K.c K.k K.cr K.fl K.dn (.slice a K.fs.length d)) (m:i<K.fs.length) (p:K.fs[i].name=vD n):
 Calls prog 142 #[.pointer (some ⟨P,0,none⟩),.int .i64 n] w fun e q=>∃b o,a=some ⟨b,o,none⟩/\e=.returned (.pointer (some ⟨b,o+i*3,none⟩))/\Below w.heap.size w q:=by
 obtain⟨j,t,u,v,x,y,z,_⟩:=dD h.valid;obtain⟨s,g,e,l⟩:=f.files;simp only[Value.slice.injEq]at e;obtain⟨rfl,_,rfl⟩:=e;exact XI P D a d i K.fs n w h.wr.cells.1 (aA h.wr) f.cell4 (aA f.blk) l (jL j) (by omega) h.tab m p
theorem aGu {w0 w:World} {B P D:Nat} {K:kB} {L:zH} {i:Nat} (h:bQ w0 w B P D K L) (hl1:1<=L.last) (hl2:L.last<=999999) (hi:i<K.fs.length) (hn:K.fs[i].name=vD L.last):
 Calls prog 104 #[.pointer (some ⟨P,0,none⟩)] w fun e j=>
  e=.returned (iG (cJ K L.last L.size).2)/\(cJ K L.last L.size).2<=6/\bQ w0 j B P D (cJ K L.last L.size).1 L/\kE w j:=by
 obtain⟨v,hv⟩:=h.drive;obtain⟨a,cap,rfl,_⟩:=hv.files;have a0:=bA (h.segAt hv hi hn);have HW:=bA h;have HV:=bA hv;obtain⟨c0,c1,c2,c3⟩:=h.wr.cells;obtain⟨f1,f2,f3,f4,f5,f6,f7,_⟩:=dD h.valid;have u:=jL f1;have q:Hid _:=oY u hi hn;have HN:=bA hn;have f:Hid (i<K.fs.length/\dN K.fs/\1<=L.last/\L.last<=999999):=⟨hi,u,hl1,hl2⟩
 obtain⟨⟨KM,xm⟩,hM⟩:∃R,cJ K L.last L.size=R:=⟨_,rfl⟩
 have Y:=bA hM;rw[hM];clear h hv hn hl1 hl2 hM f1 f2 f3 f4 f5 f6 f7 u;go_enter func104,ntmps104;go_wp2_with fail;refine a0.out.mono ?_;rintro e w1 ⟨b,o,rfl,rfl,C⟩;have n:=bA (HW.out.later C);have A:=bA (HV.out.later C);have M:Hid (kE w w1):=kE.of C;obtain⟨c0',c1',c2',c3'⟩:=n.out.wr.cells;obtain⟨a',cap',e,hf⟩:=A.out.files;simp only[Value.slice.injEq]at e;obtain⟨rfl,_,rfl⟩:=e;obtain⟨b',o',eb,hbb,q0,q1,q2⟩:=hf.at hi;simp only[Ja,Addr.mk.injEq,Ub]at eb;obtain⟨rfl,rfl⟩:=eb;rw[HN.out]at q0;clear C c0 c1 c2 c3 hf HW HV a0;obtain⟨dt,O⟩:∃d,K.fs[i].data=d:=⟨_,rfl⟩
 obtain⟨sy,T⟩:∃d,K.fs[i].y9=d:=⟨_,rfl⟩
 rw[O]at q1;rw[T]at q2;have l:Hid ((rJ K.fs L.last).data=dt/\(rJ K.fs L.last).y9=sy):=by show _/\_;rw[q.out];exact⟨O,T⟩
 clear O T q;obtain⟨⟨H,xs⟩,hS⟩:∃R,wD K (eR L.last)=R:=⟨_,rfl⟩
 have HS:=bA hS;have V:Hid (∀W,Below w1.heap.size w1 W->Calls prog 98 #[.pointer (some ⟨D,0,none⟩),.agg #[.int .i64 3,.string (vD L.last),.string ⟨#[]⟩,.string ⟨#[]⟩,.int .i64 0]] W fun e j=>e=.returned (iG xs)/\xs<=6/\bQ w0 j B P D H L/\kE w j/\((3:Int)=4->oB j B D H.fs H.c H.k H.cr H.fl H.dn (.slice (some ⟨b,o,none⟩) K.fs.length cap))):=fun W t=>(oh (eR L.last) (n.out.later t) (A.out.later t) (IK (by omega) f.out.2.2.1 f.out.2.2.2) (by show(3:Int)<=6;omega) hS).mono fun e j ⟨h1,h2,h3,h4,h5⟩=>⟨h1,h2,h3,(M.out.trans (kE.of t)).trans h4,h5⟩
 obtain⟨⟨g,xt⟩,hT⟩:∃R,wD K (jD L.last L.size)=R:=⟨_,rfl⟩
 have HT:=bA hT;have X:Hid (∀W,Below w1.heap.size w1 W->Calls prog 98 #[.pointer (some ⟨D,0,none⟩),.agg #[.int .i64 4,.string (vD L.last),.string ⟨#[]⟩,.string ⟨#[]⟩,.int .i64 L.size]] W fun e j=>e=.returned (iG xt)/\xt<=6/\bQ w0 j B P D g L/\kE w j/\((4:Int)=4->oB j B D g.fs g.c g.k g.cr g.fl g.dn (.slice (some ⟨b,o,none⟩) K.fs.length cap))):=fun W t=>(oh (jD L.last L.size) (n.out.later t) (A.out.later t) (IK (by omega) f.out.2.2.1 f.out.2.2.2) (by show(4:Int)<=6;omega) hT).mono fun e j ⟨h1,h2,h3,h4,h5⟩=>⟨h1,h2,h3,(M.out.trans (kE.of t)).trans h4,h5⟩
 have b0:Hid (∃h:i<g.fs.length,g.fs[i].name=vD L.last/\g.fs.length=K.fs.length):=by
  have:=SE (K:=K) (z:=L.size) n.out.valid (IK (by omega) f.out.2.2.1 f.out.2.2.2) f.out.2.1 hi HN.out;simp only[hT]at this;exact this
 clear hS hT;generalize hnm:vD L.last=nm at *;have Z:=bA hnm;clear hnm;by_cases hz:L.size<(dt.size:Int)
 ·go_wp2_with fail;go_region
  go_wp2_with fail;refine sE 14 (by kernel_rfl) (by kernel_rfl) ?_;simp only[Nd,Ue,Od,Vc];have J:Nonempty Unit:=⟨()⟩
  repeat (go_big_quiet_step (fail))
  refine wpQuiet_nil ?_;go_wp2_with fail;refine(X.out _ ((Below.refl _ _).drew.drew)).mono ?_;rintro e w4 ⟨rfl,G,F,E,p⟩;have s:=bA F;have N:=bA E;have d0:=bA (p (by first|trivial|rfl));clear F E p q0 q1 q2 c0' c1' c2' c3' X V A n;by_cases hx:xt=0
  ·subst hx;have r:Hid (cJ K L.last L.size=zO g L.last):=by
    show _=_;unfold cJ;rw[l.out.1,Ga hz,HT.out];rfl
   obtain⟨hiT,Q,hlT⟩:=b0.out;obtain⟨f1,f2,f3,f4,f5,f6,f7,_⟩:=dD s.out.valid;have I:=jL f1;have q:Hid _:=oY I hiT (by rw[Q,Z.out]);obtain⟨c0,c1,c2,c3⟩:=s.out.wr.cells;obtain⟨a',cap',e,hf⟩:=d0.out.files;simp only[Value.slice.injEq]at e;obtain⟨rfl,_,rfl⟩:=e;obtain⟨b',o',eb,hbb4,q0,q1,q2⟩:=hf.at hiT;simp only[Ja,Addr.mk.injEq,Ub]at eb;obtain⟨rfl,rfl⟩:=eb;rw[Q]at q0;obtain⟨d4,p⟩:∃d,g.fs[i].data=d:=⟨_,rfl⟩
   obtain⟨s4,S⟩:∃d,g.fs[i].y9=d:=⟨_,rfl⟩
   rw[p]at q1;rw[S]at q2;have x:Hid ((rJ g.fs L.last).data=d4/\(rJ g.fs L.last).y9=s4):=by show _/\_;rw[q.out];exact⟨p,S⟩
   obtain⟨⟨KU,xu⟩,hU⟩:∃R,wD g (eR L.last)=R:=⟨_,rfl⟩
   have HU:=bA hU;have HCU:Hid (∀W,Below w4.heap.size w4 W->Calls prog 98 #[.pointer (some ⟨D,0,none⟩),.agg #[.int .i64 3,.string nm,.string ⟨#[]⟩,.string ⟨#[]⟩,.int .i64 0]] W fun e j=>e=.returned (iG xu)/\xu<=6/\bQ w0 j B P D KU L/\kE w j):=fun W t=>by
    have h:=oh (eR L.last) (s.out.later t) (d0.out.later t) (IK (by omega) f.out.2.2.1 f.out.2.2.2) (by show(3:Int)<=6;omega) hU;unfold eR at h;rw[Z.out]at h;exact h.mono fun e j ⟨h1,h2,h3,h4,h5⟩=>⟨h1,h2,h3,(N.out.trans (kE.of t)).trans h4⟩
   clear p S hU hf Q hlT q f1 f2 f3 f4 f5 f6 f7 I b0;simp only[iG];by_cases hy:s4<(d4.size:Int)
   ·have y:Hid ((KM,xm)=(KU,xu)):=by
     show _=_;rw[<-Y.out,r.out];unfold zO;rw[x.out.1,x.out.2,Ga hy,HU.out]
    go_wp2_with fail;go_region
    go_wp2_with fail;refine sE 9 (by kernel_rfl) (by kernel_rfl) ?_;simp only[Nd,Ue,Od,Vc];have J:Nonempty Unit:=⟨()⟩
    repeat (go_big_quiet_step (fail))
    refine wpQuiet_nil ?_;go_wp2_with(first|(go_at_call 98;refine(HCU.out _ ((Below.refl _ _).drew.drew)).mono ?_;rintro e w5 ⟨rfl,hx6',hw5,hk5⟩));go_ret;have m:=y.out;simp only[Hb]at m;obtain⟨rfl,rfl⟩:=m;exact⟨rfl,hx6',hw5,hk5⟩
   ·have y:Hid ((KM,xm)=(g,0)):=by
     show _=_;rw[<-Y.out,r.out];unfold zO;rw[x.out.1,x.out.2,Ca hy]
    go_wp2_with fail;go_region
    go_wp2;go_ret;have m:=y.out;simp only[Hb]at m;obtain⟨rfl,rfl⟩:=m;exact⟨rfl,by omega,s.out.later ((Below.refl _ _).drew),N.out.trans (kE.of (Below.refl _ _).drew)⟩
  ·have y:Hid ((KM,xm)=(g,xt)):=by
    show _=_;rw[<-Y.out];unfold cJ;rw[l.out.1,Ga hz,HT.out,Ga hx]
   obtain⟨tx,U⟩:=OM hx G;have HTX:=bA U;rw[U];clear U;go_wp2;go_ret;have m:=y.out;simp only[Hb]at m;obtain⟨rfl,rfl⟩:=m;exact⟨by rw[HTX.out];rfl,G,s.out,N.out⟩
 ·have r:Hid (cJ K L.last L.size=zO K L.last):=by show _=_;unfold cJ;rw[l.out.1,Ca hz]
  go_wp2_with fail;go_region
  by_cases hy:sy<(dt.size:Int)
  ·have y:Hid ((KM,xm)=(H,xs)):=by
    show _=_;rw[<-Y.out,r.out];unfold zO;rw[l.out.1,l.out.2,Ga hy,HS.out]
   go_wp2_with fail;go_region
   go_wp2_with fail;refine sE 9 (by kernel_rfl) (by kernel_rfl) ?_;simp only[Nd,Ue,Od,Vc];have J:Nonempty Unit:=⟨()⟩
   repeat (go_big_quiet_step (fail))
   refine wpQuiet_nil ?_;go_wp2_with(first|(go_at_call 98;refine(V.out _ ((Below.refl _ _).drew.drew.drew)).mono ?_;rintro e w4 ⟨rfl,G,F,E,_⟩));go_ret;have m:=y.out;simp only[Hb]at m;obtain⟨rfl,rfl⟩:=m;exact⟨rfl,G,F,E⟩
  ·have y:Hid ((KM,xm)=(K,0)):=by
    show _=_;rw[<-Y.out,r.out];unfold zO;rw[l.out.1,l.out.2,Ca hy]
   go_wp2_with fail;go_region
   go_wp2;go_ret;have m:=y.out;simp only[Hb]at m;obtain⟨rfl,rfl⟩:=m;exact⟨rfl,by omega,n.out.later ((Below.refl _ _).drew.drew),M.out.trans (kE.of (Below.refl _ _).drew.drew)⟩
structure wY (w W:World) (c:nB) (now:Int) (a:Option Addr) (n cap:Nat):Prop where
 C:lA W w.heap.size #[.int .i64 c.w,.int .i64 c.tl,.int .i64 c.ml,.int .i64 c.sh,.int .i64 c.ha,.int .i64 c.sg] 40
 S:lA W (w.heap.size+1) #[.int .i64 now,.slice a n cap] 35
 R:lA W (w.heap.size+1+1) #[.int .i64 0,.slice none 0 0] 35
 B:Below w.heap.size w W
section
variable {w W W':World} {c:nB} {now:Int} {a:Option Addr} {n cap:Nat}
theorem wY.new:wY w (((w.alloc (.cells #[.int .i64 c.w,.int .i64 c.tl,.int .i64 c.ml,.int .i64 c.sh,.int .i64 c.ha,.int .i64 c.sg] 40)).alloc (.cells #[.int .i64 now,.slice a n cap] 35)).alloc (.cells #[.int .i64 0,.slice none 0 0] 35)) c now a n cap:=
 ⟨((lA.new _ _ _).alloc _).alloc _,by have:=(lA.new (w.alloc (.cells #[.int .i64 c.w,.int .i64 c.tl,.int .i64 c.ml,.int .i64 c.sh,.int .i64 c.ha,.int .i64 c.sg] 40)) #[.int .i64 now,.slice a n cap] 35).alloc (.cells #[.int .i64 0,.slice none 0 0] 35);simpa using this,
   by have:=lA.new ((w.alloc (.cells #[.int .i64 c.w,.int .i64 c.tl,.int .i64 c.ml,.int .i64 c.sh,.int .i64 c.ha,.int .i64 c.sg] 40)).alloc (.cells #[.int .i64 now,.slice a n cap] 35)) #[.int .i64 0,.slice none 0 0] 35;simpa using this,pA (pA (cA _ _) (cA _ _)) (cA _ _)⟩
theorem wY.later (h:wY w W c now a n cap) (b:Below W.heap.size W W'):wY w W' c now a n cap:=⟨h.C.later b,h.S.later b,h.R.later b,pA h.B b⟩
theorem wY.lt (h:wY w W c now a n cap):w.heap.size+1+1<W.heap.size:=aA h.R
theorem wY.turn {X:Nat} (h:wY w W c now a n cap) (b:gA (·=X) W W') (d:w.heap.size+1+1<X):wY w W' c now a n cap:=
 ⟨b.blk h.C (by omega),b.blk h.S (by omega),b.blk h.R (by omega),h.B.trans (b.below (by have:=h.B.size;omega) fun i f e=>by omega)⟩
theorem wY.cells (h:wY w W c now a n cap):W.cell? ⟨w.heap.size,0,none⟩=some (.int .i64 c.w)/\W.cell? ⟨w.heap.size,1,none⟩=some (.int .i64 c.tl)/\W.cell? ⟨w.heap.size,2,none⟩=some (.int .i64 c.ml)/\W.cell? ⟨w.heap.size,3,none⟩=some (.int .i64 c.sh)/\W.cell? ⟨w.heap.size,4,none⟩=some (.int .i64 c.ha)/\W.cell? ⟨w.heap.size,5,none⟩=some (.int .i64 c.sg)/\W.cell? ⟨w.heap.size+1,0,none⟩=some (.int .i64 now)/\W.cell? ⟨w.heap.size+1,1,none⟩=some (.slice a n cap)/\W.cell? ⟨w.heap.size+1+1,0,none⟩=some (.int .i64 0)/\W.cell? ⟨w.heap.size+1+1,1,none⟩=some (.slice none 0 0)/\W.frozen? ⟨w.heap.size+1+1,0,none⟩=false/\W.frozen? ⟨w.heap.size+1+1,1,none⟩=false/\w.heap.size+1+1<W.heap.size:=
 ⟨h.C.cell 0,h.C.cell 1,h.C.cell 2,h.C.cell 3,h.C.cell 4,h.C.cell 5,h.S.cell 0,h.S.cell 1,h.R.cell 0,h.R.cell 1,h.R.free 0,h.R.free 1,h.lt⟩
theorem wY.done {N rc:Nat} {v:Int} {d:Option Addr} {b:List eA} (h:wY w W c now a n cap) (j:uC W N d b) (m:w.heap.size+1+1<N):
 uC ((W.setCell ⟨w.heap.size+1+1,0,none⟩ (.int .i64 v)).setCell ⟨w.heap.size+1+1,1,none⟩ (.slice d b.length rc)) w.heap.size d b/\Below w.heap.size w ((W.setCell ⟨w.heap.size+1+1,0,none⟩ (.int .i64 v)).setCell ⟨w.heap.size+1+1,1,none⟩ (.slice d b.length rc)):=by
 have f:gA (·=w.heap.size+1+1) W ((W.setCell ⟨w.heap.size+1+1,0,none⟩ (.int .i64 v)).setCell ⟨w.heap.size+1+1,1,none⟩ (.slice d b.length rc)):=((gA.refl (·=w.heap.size+1+1) W).setCell (Ba rfl) 0 _).setCell (Ba rfl) 1 _;exact⟨(uC.turned j f (fun g k l e=>by omega)).mono (by omega),((gA.of (S:=fun i=>w.heap.size<=i) h.B).trans' (f.mono fun i _ e=>by omega)).below (Da _) fun i o h=>by omega⟩
end
def KXR (a:World) (X:Nat) (K:eA) (c:World):Prop:=
 ∃M b f e d,lA c X #[.string K.name,.int .i64 K.l9,.slice b K.m9.length f,.slice e K.s9.length d] 107/\aD c a.heap.size b K.m9/\(∀g o,b=some ⟨g,o,none⟩->g<M)/\c.ownsRow M 113 2 (.slice e K.s9.length d) K.s9.length (flatK K.s9)/\(∀q,(Value.slice e K.s9.length d).ownBlock=some q->q≠X)/\(∀g o,b=some ⟨g,o,none⟩->K.m9≠[]->g≠X)/\a.heap.size<=X/\a.heap.size<=M/\Below a.heap.size a c
theorem aKu {d a:World} {K:eA} {B M:Nat} {c k:Option Addr} {b f:Nat} (r:d.heap.size<=B) (l:aD a B c K.m9) (i:∀g o,c=some ⟨g,o,none⟩->g<M) (m:a.ownsRow M 113 2 (.slice k K.s9.length f) K.s9.length (flatK K.s9)) (x:B<=M) (n:Below d.heap.size d a):
 KXR d a.heap.size K (a.alloc (.cells #[.string K.name,.int .i64 K.l9,.slice c K.m9.length b,.slice k K.s9.length f] 107)):=by
 refine⟨M,c,b,k,f,lA.new _ _ _,(l.mono r).later (cA _ _),i,cB m (cA _ _),fun q u e=>?_,fun g o e j v=>?_,n.size,by omega,pA n (cA _ _)⟩
 ·have:=(m.lt q u).2;omega
 ·rcases l with h|⟨w,y,p,t,b,_,s,_⟩
  ·exact j h
  ·rw[b]at e;simp only[Ja,Addr.mk.injEq,Ub]at e;have:=aA s;omega
theorem wm {l a:World} {K:eA} {B M X:Nat} {d f:Option Addr} {b c:Nat} (w:aD a B d K.m9) (m:∀g o,d=some ⟨g,o,none⟩->g<M) (n:a.ownsRow M 113 2 (.slice f K.s9.length c) K.s9.length (flatK K.s9)) (H:X<B) (G:B<=M) (z:l.heap.size<=X) (r:lA a X #[.string ⟨#[]⟩,.int .i64 0,.slice none 0 0,.slice none 0 0] 107) (A:Below l.heap.size l a):
 KXR l X K ((((a.setCell ⟨X,0,none⟩ (.string K.name)).setCell ⟨X,1,none⟩ (.int .i64 K.l9)).setCell ⟨X,2,none⟩ (.slice d K.m9.length b)).setCell ⟨X,3,none⟩ (.slice f K.s9.length c)):=by
 have y:gA (·=X) a ((((a.setCell ⟨X,0,none⟩ (.string K.name)).setCell ⟨X,1,none⟩ (.int .i64 K.l9)).setCell ⟨X,2,none⟩ (.slice d K.m9.length b)).setCell ⟨X,3,none⟩ (.slice f K.s9.length c)):=((((gA.refl (·=X) a).setCell (Ba rfl) 0 _).setCell (Ba rfl) 1 _).setCell (Ba rfl) 2 _).setCell (Ba rfl) 3 _;refine⟨M,d,b,f,c,?_,?_,m,y.row n (fun q v e=>by have:=(n.lt q v).1;omega),fun q v e=>by have:=(n.lt q v).1;omega,fun g o e u E=>?_,z,by omega,bf A z⟩
 ·have:=(((r.set 0 (.string K.name)).set 1 (.int .i64 K.l9)).set 2 (.slice d K.m9.length b)).set 3 (.slice f K.s9.length c);simpa using this
 ·rcases w with h|⟨g,o,k,t,rfl,p,s,h⟩
  ·exact Ba h
  ·have x:=y.block g (aA s) (by omega);have C:∀j,((((a.setCell ⟨X,0,none⟩ (.string K.name)).setCell ⟨X,1,none⟩ (.int .i64 K.l9)).setCell ⟨X,2,none⟩ (.slice (some ⟨g,o,none⟩) K.m9.length b)).setCell ⟨X,3,none⟩ (.slice f K.s9.length c)).cell? ⟨g,j,none⟩=a.cell? ⟨g,j,none⟩:=fun j=>World.cell?_of_block x;exact Ea ⟨g,o,k,t,rfl,by omega,x.trans s,fun i D=>by simp only[C];exact h i D⟩
 ·rcases w with h|⟨F,I,k,t,b,p,s,_⟩
  ·exact u h
  ·rw[b]at e;simp only[Ja,Addr.mk.injEq,Ub]at e;omega
theorem lv {S:Nat->Prop} {w W:World} {B:Nat} {q:Option Addr} {a:List fA} (h:aD w B q a) (d:gA S w W) (f:∀g o,q=some ⟨g,o,none⟩->a≠[]->¬S g):vA W q a:=by
 rcases h with h|⟨g,o,e,t,rfl,n,b,h⟩
 ·exact Ba h
 ·by_cases c:a=[]
  ·exact Ba c
  ·have m:=d.block g (aA b) (f g o rfl c);have k:∀j,W.cell? ⟨g,j,none⟩=w.cell? ⟨g,j,none⟩:=fun j=>World.cell?_of_block m;exact Ea ⟨g,o,rfl,by have:=d.size;have:=aA b;omega,fun i l=>by simp only[k];exact h i l⟩
theorem aFp {l:List fA} (e:vB (·.s) l) {k:ByteArray} {n:Int} {i:Nat} (b:i<l.length) (h:l[i].s=k):qA (·.s) ⟨k,n⟩ l=l.set i ⟨k,n⟩:=by
 induction l generalizing i with
 |nil=>simp at b
 |cons p r g=>
  cases i with
  |zero=>
   have d:p.s=k:=h;rw[qA,Ca (by show ¬uH p.s k=true;rw[d,fN];simp),Ga (by exact(xC _ _).2 d)];rfl
  |succ i=>
   have a:i<r.length:=by simpa using b
   have c:r[i].s=k:=by simpa using h
   have f:uH p.s k=true:=by rw[<-c];exact e.head _ (Db a)
   rw[qA,Ga f,g e.tail a c];rfl
theorem aAl (l:List fA) (i:Nat) (b:i<l.length) (n:Int):flatK (l.set i ⟨l[i].s,n⟩)=(flatK l).set (i*2+1) (.int .i64 n):=by
 induction l generalizing i with
 |nil=>simp at b
 |cons p r c=>
  cases i with
  |zero=>rfl
  |succ i=>
   have a:i<r.length:=by simpa using b
   have:=c i a;simp only[flatK,Ad,Yc,Vb]at this |-
   rw[this];have e:(i+1)*2+1=(i*2+1)+2:=by omega
   rw[e];rfl
theorem aIi {w:World} {M g n a:Nat} {f:List Value} {j:Nat} {v:Value} (h:w.ownsRow M 113 2 (.slice (some ⟨g,0,none⟩) n a) n f):(w.setCell ⟨g,j,none⟩ v).ownsRow M 113 2 (.slice (some ⟨g,0,none⟩) n a) n (f.set j v):=by
 refine⟨by rw[Xc];exact h.1,?_⟩;rcases h.2 with⟨e,_⟩|⟨q,d,b,e,o,p,i,k,l,m⟩
 ·cases e
 ·simp only[Value.slice.injEq,Ja,Addr.mk.injEq,Ub]at e;obtain⟨rfl,_,rfl⟩:=e;have c:lA w g b 113:=p;refine Ea ⟨g,a,b.setIfInBounds j v,rfl,o,c.set j v,i,k,by simp[l],?_⟩;rw[Hf,List.take_set,m]
theorem na {w:World} {M n b:Nat} {a:Option Addr} {f:List Value} (h:w.ownsRow M 113 2 (.slice a n b) n f) (i:0<n):∃g,a=some ⟨g,0,none⟩:=by
 rcases h.2 with⟨_,e⟩|⟨g,c,d,e,_⟩
 ·omega
 ·simp only[Value.slice.injEq]at e;exact⟨g,e.1⟩
theorem aOv {w:World} {M n b:Nat} {a:Option Addr} {i:List Value} (h:w.ownsRow M 113 2 (.slice a n b) n i):(a=none/\b=0/\n=0)\/∃g,a=some ⟨g,0,none⟩:=by
 rcases h.2 with⟨e,f⟩|⟨g,c,d,e,_⟩
 ·simp only[Value.slice.injEq]at e;exact Ba ⟨e.1,e.2.2,f⟩
 ·simp only[Value.slice.injEq]at e;exact Ea ⟨g,e.1⟩
theorem aMc {w:World} {M n a g:Nat} {f:List Value} (h:w.ownsRow M 113 2 (.slice (some ⟨g,0,none⟩) n a) n f):n<=a:=by
 rcases h.2 with⟨e,_⟩|⟨i,b,c,e,_,_,d,_⟩
 ·cases e
 ·simp only[Value.slice.injEq]at e;rw[e.2.2];exact d
theorem aMk {w:World} {M g a j:Nat} {l:List fA} (h:w.ownsRow M 113 2 (.slice (some ⟨g,0,none⟩) l.length a) l.length (flatK l)) (n:j<=l.length):dW w (some ⟨g,0,none⟩) j (flatK (l.take j))/\dW w (some ⟨g,j*2,none⟩) (l.length-j) (flatK (l.drop j)):=by
 have p:=pC h;by_cases d:l=[]
 ·subst d;exact⟨Ba (by simpa using n),Ba (by simp)⟩
 rcases p with m|⟨q,o,f,t,e,_,_,c⟩
 ·exact absurd m d
 simp only[Ja,Addr.mk.injEq,Ub]at e;obtain⟨rfl,rfl⟩:=e;refine⟨Ea ⟨_,rfl,BE fun i b=>?_⟩,Ea ⟨_,rfl,BE fun i b=>?_⟩⟩
 ·rw[Ta]at b;have:=c i (by omega);simpa[Ff]using this
 ·rw[Lc]at b;have:=c (j+i) (by omega);have k:0+(j+i)*2=j*2+i*2:=by omega
  rw[k]at this;simpa[List.getElem_drop]using this
theorem BV {P:Program} (w:World) {D:Array Oper} {p:List Oper} {o:Oper} {a:Act} {Q:Exit->Act->World->Prop} (A:o.guard=none) (s x:Operand) (t:TypeId)
 (X:o.op=.call { callee:=.builtin .append,args:=#[s,x],argTypes:=#[t,t] })
 (base:Nat) (e:TypeId) (i:TypeInfo) (z:Value) (b f:Nat) (Z:P.underlying t=some (.slice e)) (V:P.info? e=some i) (hz:i.zero=some z)
 (r:i.size=b) (H:i.bytes=f) (J:z.cells.size=b) (I:0<b)
 (y n F:Nat) (K:List Value) (Y:a.eval s=.slice (some ⟨y,0,none⟩) n F) (B:w.ownsRow base e b (.slice (some ⟨y,0,none⟩) n F) n K)
 (E:Option Addr) (m c:Nat) (d:List Value) (hx:a.eval x=.slice E m c) (W:d.length=m*b) (C:dW w E m d) (L:∀u∈d,u.oneCell'=true)
 (G:n+m<=maxLen) (l:(n+m)*f<=140737488355328) (q:base<=w.heap.size)
 (h:∀g j v,v.ownsRow base e b (.slice (some ⟨g,0,none⟩) (n+m) j) (n+m) (K++d)->Below base w v->(∀k,k<w.heap.size->k≠y->v.heap[k]?=w.heap[k]?)->base<=g->(g=y\/g=w.heap.size)->g<v.heap.size->wpList P D Q p (a.put o.dst (.slice (some ⟨g,0,none⟩) (n+m) j)) v):wpList P D Q (o::p) a w:=
 wpList_plain A fun _ U=>UA w A s x t X base e i z b f Z V hz r H J I y n F K Y B E m c d hx W C L G l q fun g j v M N O R S T=>U _ _ (h g j v M N O R S T)
theorem UG {w a:World} {cs:Array Value} {t:TypeId} (h:Below (w.alloc (.cells cs t)).drew.heap.size (w.alloc (.cells cs t)).drew a):lA a w.heap.size cs t:=(lA.new w cs t).later ⟨h.os,h.tape,h.output,h.size,h.block⟩
theorem vi {s:ByteArray} (h:kC s=true):s.toList.isEmpty=false:=by
 refine RJ.2 fun e=>?_;simp only[kC,Na,Ya]at h;rw[e,Mg]at h;omega
structure SC (w:World) (c:nB) (now:Int) (a:Option Addr) (cap:Nat) (ts:List eA) (n9:ByteArray) (tn:eA):Prop where
 ok:∀W,Below w.heap.size w W→Calls prog 47 #[.agg #[.int .i64 c.w,.int .i64 c.tl,.int .i64 c.ml,.int .i64 c.sh,.int .i64 c.ha,.int .i64 c.sg],.agg #[.int .i64 now,.slice a ts.length cap]] W fun e w'=>e=.returned (.bool true)∧Below W.heap.size W w'
 nm:∀W,Calls prog 81 #[.string n9] W fun e w'=>e=.returned (.bool true)∧w'=W
 sm:∀W,Below w.heap.size w W→Calls prog 53 #[.agg #[.int .i64 c.w,.int .i64 c.tl,.int .i64 c.ml,.int .i64 c.sh,.int .i64 c.ha,.int .i64 c.sg],.agg #[.int .i64 now,.slice a ts.length cap]] W fun e w'=>∃a' cap',e=.returned (.agg #[.int .i64 now,.slice a' ts.length cap'])∧uC w' W.heap.size a' ts∧Below W.heap.size W w'
 te:∀W,Below w.heap.size w W→Calls prog 93 #[.agg #[.int .i64 now,.slice a ts.length cap],.string n9] W fun e w'=>(∃a1 c1 a2 c2,e=.returned (.agg #[.string tn.name,.int .i64 tn.l9,.slice a1 tn.m9.length c1,.slice a2 tn.s9.length c2])∧vA w' a1 tn.m9∧vA w' a2 tn.s9)∧Below W.heap.size W w'
 kp:∀W a1 a2 c1 c2,vA W a1 tn.m9→vA W a2 tn.s9→Calls prog 92 #[.agg #[.string tn.name,.int .i64 tn.l9,.slice a1 tn.m9.length c1,.slice a2 tn.s9.length c2],.int .i64 now,.int .i64 c.w] W fun e w'=>∃M a1 c1 a2 c2,e=.returned (.agg #[.string tn.name,.int .i64 tn.l9,.slice a1 tn.m9.length c1,.slice a2 tn.s9.length c2])∧W.heap.size≤M∧aD w' W.heap.size a1 tn.m9∧(∀g o,a1=some ⟨g,o,none⟩→g<M)∧w'.ownsRow M 113 2 (.slice a2 tn.s9.length c2) tn.s9.length (flatK tn.s9)∧M≤w'.heap.size∧Below W.heap.size W w'
 wi:∀W L ms ss q1 q2 e1 e2,Below w.heap.size w W→vA W q1 ms→vA W q2 ss→XZ ⟨tn.name,L,ms,ss⟩→Calls prog 91 #[.agg #[.int .i64 c.w,.int .i64 c.tl,.int .i64 c.ml,.int .i64 c.sh,.int .i64 c.ha,.int .i64 c.sg],.agg #[.int .i64 now,.slice a ts.length cap],.int .i64 now,.agg #[.string tn.name,.int .i64 L,.slice q1 ms.length e1,.slice q2 ss.length e2]] W fun e w'=>∃a' cap',e=.returned (.agg #[.int .i64 now,.slice a' (sC c.w now (qA (·.name) ⟨tn.name,L,ms,ss⟩ ts)).length cap'])∧uC w' W.heap.size a' (sC c.w now (qA (·.name) ⟨tn.name,L,ms,ss⟩ ts))∧Below W.heap.size W w'
 fit:XZ tn
 len:tn.m9.length≤1100000∧tn.s9.length≤1100000
 rm:vB (·.s) tn.m9
 rs:vB (·.s) tn.s9
 now0:0≤now∧now≤1000000000000
theorem aNh {c:nB} {f:Int} {a:Option Addr} {cap:Nat} {d:List eA} {b:ByteArray} {w:World} (q:eC w a d) (j:d.length+nA d<=1100000) (M:b.size<=1100000) (o:iB c f d=true) (y:kC b=true):SC w c f a cap d b (dB d b):=by
 obtain⟨S,I,T,U⟩:=AL j;obtain⟨-,m,t,-,g⟩:=jI o;obtain⟨-,-,-,O,P⟩:=XQ (YZ j) M;have k:XZ (dB d b)/\vB (·.s) (dB d b).m9/\vB (·.s) (dB d b).s9:=by
  rcases aP (ts:=d) (name:=b) with⟨p,_⟩|⟨e,_⟩
  ·obtain⟨-,J,K,-⟩:=wI (iI g _ p);have A:=II (n:=(dB d b).m9.length) J (Da _);have B:=IY (n:=(dB d b).s9.length) K (Da _);rw[Qb]at A B;exact⟨MN o j _ p,A,B⟩
  ·rw[e];exact⟨⟨Ha _,Ha _,fun i h=>absurd h (by simp)⟩,Kd,Kd⟩
 refine⟨fun W l=>?_,fun W=>?_,fun W l=>cR c f a cap d W (q.later l) o j,fun W l=>ZR f a cap d b W (q.later l) (by omega),fun W C D E F u v=>?_,fun W L z ss Q R G H l u v r=>?_,k.1,⟨O,P⟩,k.2.1,k.2.2,m,t⟩
 ·have:=vI c f a cap d W (q.later l) I (by omega);rw[o]at this;exact this
 ·have:=eK b W (by unfold maxLen;omega);rw[y]at this;exact this
 ·have:=KG (dB d b) C D E F f c.w W u v (by omega) (by omega) m (by omega) k.1.2.2;rw[qY (BU g)]at this;exact this
 ·have:=AU c f f a cap d ⟨(dB d b).name,L,z,ss⟩ Q R G H W (q.later l) u v (by omega) (fun x N=>N.elim (fun e=>e ▸ r) (MN o j x)) m (by omega);rw[show(⟨(dB d b).name,L,z,ss⟩:eA).name.toList.isEmpty=false from by show(dB d b).name.toList.isEmpty=false;rw[eH];exact vi y,aJh (rS g)]at this;exact this
theorem SC.wn {w:World} {c:nB} {b:Int} {a:Option Addr} {f:Nat} {n k:List eA} {d:ByteArray} {j:eA} (h:SC w c b a f n d j) {W:World} {L:Int} {i ss:List fA} {l m:Option Addr} {p q r s:Nat} (x:sC c.w b (qA (·.name) ⟨j.name,L,i,ss⟩ n)=k) (u:i.length=r) (v:ss.length=s) (y:Below w.heap.size w W) (A:vA W l i) (B:vA W m ss) (z:XZ ⟨j.name,L,i,ss⟩):
 Calls prog 91 #[.agg #[.int .i64 c.w,.int .i64 c.tl,.int .i64 c.ml,.int .i64 c.sh,.int .i64 c.ha,.int .i64 c.sg],.agg #[.int .i64 b,.slice a n.length f],.int .i64 b,.agg #[.string j.name,.int .i64 L,.slice l r p,.slice m s q]] W fun e t=>∃o g,e=.returned (.agg #[.int .i64 b,.slice o k.length g])/\uC t W.heap.size o k/\Below W.heap.size W t:=by
 subst x u v;exact h.wi W L i ss l m p q y A B z
theorem wY.kin {w W:World} {c:nB} {e:Int} {a:Option Addr} {n d:Nat} (h:wY w W c e a n d):∀b,Below W.heap.size W b->b.cell? ⟨w.heap.size+1,0,none⟩=some (.int .i64 e)/\b.cell? ⟨w.heap.size+1,1,none⟩=some (.slice a n d)/\b.cell? ⟨w.heap.size,0,none⟩=some (.int .i64 c.w):=fun b f=>by
 have k:=h.later f;exact⟨k.S.cell 0,k.S.cell 1,k.C.cell 0⟩
theorem MF (c:nB) (g:Int) (a:Option Addr) (h:Nat) (i:List eA) (d b:ByteArray) (f:Int) (w:World) (F:eC w a i) (o:i.length+nA i<=1100000) (hn:d.size<=1100000) (hm:b.size<=1100000) (C:iB c g i=true)
 (X:(kC d&&(b.toList.isEmpty||lE b) &&uA f (-1) 1000000)=false):
 Calls prog 56 #[tE c,.agg #[.int .i64 g,.slice a i.length h],.string d,.string b,.int .i64 f] w fun e I=>CC (g,i,false) w e I:=by
 obtain⟨f1,T,f3,f4⟩:=AL o;have y:=bA (fun W (D:Below w.heap.size w W)=>vI c g a h i W (F.later D) T (by omega));have m:=bA (fun W=>eK d W (by unfold maxLen;omega));have l:=bA (fun W=>lN b W (by omega));have k:=bA (fun W=>fD f (-1) 1000000 W);have p:=bA (fun W (D:Below w.heap.size w W)=>cR c g a h i W (F.later D) C o);rw[C]at y;clear F o f1 T f3 f4 C;unfold tE at *;have A:=bA (wY.new (w:=w) (c:=c) (now:=g) (a:=a) (n:=i.length) (cap:=h));go_enter func56,ntmps56;go_wp2_with fail;refine(y.out _ A.out.B).mono ?_;rintro e wv ⟨rfl,j⟩;have P:=bA (A.out.later j);clear j A y;obtain⟨J,K,L,M,N,O,Q,R,r,s,t,u,G⟩:=P.out.cells;have E:kC d=false\/(kC d=true/\b.toList.isEmpty=false/\lE b=false)\/(kC d=true/\b.toList.isEmpty=true/\uA f (-1) 1000000=false)\/(kC d=true/\b.toList.isEmpty=false/\lE b=true/\uA f (-1) 1000000=false):=by
  revert X;cases kC d<;>cases b.toList.isEmpty<;>cases lE b<;>cases uA f (-1) 1000000<;>simp
 clear X;rcases E with x|⟨x,Y,Z⟩|⟨x,Y,k4⟩|⟨x,Y,Z,k4⟩
 all_goals
  rw[x]at m;try rw[Z]at l
  try rw[k4]at k
  go_wp2_with(first
   |(go_at_call 81;refine(m.out _).mono ?_;rintro e I ⟨rfl,hw⟩;subst hw)
   |(go_at_call 41;refine(k.out _).mono ?_;rintro e I ⟨rfl,hw⟩;subst hw)
   |(go_at_call 83;refine(l.out _).mono ?_;rintro e w5 ⟨rfl,j⟩;replace P:=bA (P.out.later j);clear j J K L M N O Q R r s t u G;obtain⟨J,K,L,M,N,O,Q,R,r,s,t,u,G⟩:=P.out.cells))
  refine(p.out _ P.out.B).mono ?_;rintro e w9 ⟨H,q,rfl,V,j⟩;have S:=bA (P.out.later j);have z:=bA V;clear V j J K L M N O Q R r s t u p m l k;obtain⟨_,_,_,_,_,_,_,_,r,s,t,u,hz9⟩:=S.out.cells;go_wp2;refine bodyPost_ret (v:=.tuple #[.agg #[.int .i64 g,.slice H i.length q],.bool false]) (by simp[results,results56,go_sem,r,s]) rfl ?_;have U:=S.out.done (v:=g) (rc:=q) z.out G;first
   |exact⟨H,⟨q,rfl⟩,U⟩
   |exact⟨H,q,rfl,U⟩
def gH (t:fA) (s:List fA×Bool) (p:fA):List fA×Bool:=
 (s.1++(if s.2=true then [] else if uH p.s t.s=true then [] else [t])++(if (p.s.toList==t.s.toList)=true then [] else [p]),if s.2=true then true else !uH p.s t.s)
def gW (t:fA) (b:Bool) (a:List fA):List fA×Bool:=a.foldl (gH t) ([],b)
def lx (t:fA) (b:Bool) (a:List fA):List fA:=(gW t b a).1++if (gW t b a).2=true then [] else [t]
theorem uf (t:fA) (b:Bool) (a:List fA) (k:Nat) (h:k<a.length):gW t b (a.take (k+1))=gH t (gW t b (a.take k)) a[k]:=by
 rw[La h,gW,List.foldl_append];rfl
theorem aCn (t:fA) (c:List fA):∀(a:List fA) (b:Bool),c.foldl (gH t) (a,b)=(a++(c.foldl (gH t) ([],b)).1,(c.foldl (gH t) ([],b)).2):=by
 induction c with
 |nil=>intro a b;simp
 |cons p r d=>
  intro a b;simp only[Wc];rw[d (gH t (a,b) p).1 (gH t (a,b) p).2,d (gH t ([],b) p).1 (gH t ([],b) p).2];simp[gH]
theorem WK (t p:fA) (r:List fA) (b:Bool):lx t b (p::r)=(gH t ([],b) p).1++lx t (gH t ([],b) p).2 r:=by
 unfold lx gW;rw[Wc,aCn t r (gH t ([],b) p).1 (gH t ([],b) p).2];simp
theorem iS (t:fA) (c:List fA):lx t true c=tD (·.s) t.s c:=by
 induction c with
 |nil=>rfl
 |cons p r d=>
  rw[WK];by_cases b:(p.s.toList==t.s.toList)=true
  ·simp only[gH,b,Lf,Jb,d];unfold tD;rw[Jc (by rw[b];simp)]
  ·have a:(p.s.toList==t.s.toList)=false:=by simpa using b
   simp only[gH,a,Lf,Jb,d];unfold tD;rw[Ec (by rw[a];rfl)];rfl
theorem ly {t:fA} {g:List fA} (l:vB (·.s) g):lx t false g=qA (·.s) t g:=by
 induction g with
 |nil=>rfl
 |cons p r m=>
  have j:=m l.tail;rw[WK,qA];by_cases d:uH p.s t.s=true
  ·have f:(p.s.toList==t.s.toList)=false:=mC (bH d);simp only[gH,d,f,Lf];simp[j]
  ·have c:uH p.s t.s=false:=by simpa using d
   have b:∀q∈r,q.s≠t.s:=fun q i e=>by
    have k:=l.head q i;rw[e]at k;exact d k
   have a:tD (·.s) t.s r=r:=Cc.2 fun q i=>by rw[mC (b q i)];rfl
   by_cases f:p.s=t.s
   ·have h:(p.s.toList==t.s.toList)=true:=(xC _ _).2 f;simp only[gH,c,h,Lf];simp[iS,a]
   ·have h:(p.s.toList==t.s.toList)=false:=mC f;simp only[gH,c,h];simp[iS,a]
theorem aGn {t:eA} {a:ByteArray} {l9:Int} (c:vB (·.s) t.m9) (b:a.toList.isEmpty=false):jG t a l9=⟨t.name,t.l9,lx ⟨a,l9⟩ (decide (l9<0)) t.m9,t.s9⟩:=by
 unfold jG;rw[Ca (by rw[b];simp)];by_cases h:l9<0
 ·rw[Ga h,Rb h,iS]
 ·rw[Ca h,Mb h,ly c]
section
open Go.Maps
def dv (V:Int×List eA×Nat) (w:World) (e:Ending) (c:World):Prop:=
 ∃a b,e=.returned (.tuple #[.agg #[.int .i64 V.1,.slice a V.2.1.length b],.int .i64 (V.2.2:Nat)])/\uC c w.heap.size a V.2.1/\Below w.heap.size w c
end
