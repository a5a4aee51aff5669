import Derived.Test.YtabgbmfcbobamaaGreatDoorJ14
set_option maxRecDepth 100000
set_option maxHeartbeats 4000000
namespace Go.Proofs.YtabgbmfcbobamaaGreatDoor
open Go.RowKit Tryz
theorem pX {w e:World} {x y:Array Value} {b d:TypeId} (f:Below ((w.alloc (.cells x b)).alloc (.cells y d)).heap.size ((w.alloc (.cells x b)).alloc (.cells y d)) e):
 eA e w.heap.size x b/\eA e (w.heap.size+1) y d/\Below w.heap.size w e:=by
 refine⟨?_,?_,nA (nA (cA _ _) (cA _ _)) f⟩
 ·exact(eA.later (eA.later (g:=w.heap.size) (heap_alloc_new w (.cells x b)) (Below.refl _ _)) (cA _ _)).later f
 ·have h:=eA.later (g:=(w.alloc (.cells x b)).heap.size) (heap_alloc_new (w.alloc (.cells x b)) (.cells y d)) f;simpa using h
def ri (w:World) (b:Nat) (a:Option Addr) (n cap:Nat) (c k cr fl:Int) (dn:Bool):Prop:=eA w b #[.slice a n cap,.int .i64 c,.int .i64 k,.int .i64 cr,.int .i64 fl,.bool dn] 78
structure OE (w:World) (a:Option Addr) (fs:List kA) (c:Int) (op:jM):Prop where
 files:qA w a fs
 asc:RJ fs
 len:fs.length≤1000
 sum:(xB fs:Int)≤c
 cap:c≤1000000000
 data:op.data.size≤200000000
def RK (w:World) (a:Option Addr) (cap:Nat) (fs:List kA) (c k cr fl:Int) (dn:Bool) (op:jM):Prop:=
 Calls prog 110 #[.agg #[.slice a fs.length cap,.int .i64 c,.int .i64 k,.int .i64 cr,.int .i64 fl,.bool dn],.agg #[.int .i64 op.kind,.string op.name,.string op.tq,.string op.data,.int .i64 op.size]] w fun e f=>
  ∃d b,e=.returned (.tuple #[.slice d (eZ fs c op).2.length b,.int .i64 (eZ fs c op).1])/\qA f d (eZ fs c op).2/\Below w.heap.size w f
section
variable {w:World} {a:Option Addr} {cap:Nat} {fs:List kA} {c k cr fl:Int} {dn:Bool} {op:jM}
theorem bX {d:Int} {t:ByteArray} {x:Int} (h:zC t fs 0=x) (w:World) (f:qA w a fs) (b:fs.length<=maxLen):
 Calls prog 70 #[.agg #[.slice a fs.length cap,.int .i64 c,.int .i64 d,.int .i64 cr,.int .i64 fl,.bool dn],.string t] w fun e g=>e=.returned (.int .i64 x)/\Below w.heap.size w g:=h ▸ xT a cap fs c d cr fl dn t w f b
theorem VY (f:kA) (j:qA w a fs) (l:fs.length<=1048576):Calls prog 139 #[.slice a fs.length cap,.agg #[.string f.name,.string f.data,.int .i64 f.y9]] w fun e g=>∃d b,e=.returned (.slice d (oG fs f).length b)/\qA g d (oG fs f)/\Below w.heap.size w g:=
 (fa a cap fs f w j l).mono fun e g ⟨v,i,n,h⟩=>by obtain⟨d,b,rfl,m⟩:=oL n;exact⟨d,b,i,m.files,h⟩
theorem aCl {x:Nat×List kA} {f:kA} (_:x=(0,oG fs f)) (h:qA w a fs) (i:fs.length<=1048576):Calls prog 139 #[.slice a fs.length cap,.agg #[.string f.name,.string f.data,.int .i64 f.y9]] w fun e g=>∃d b,e=.returned (.slice d (oG fs f).length b)/\qA g d (oG fs f)/\Below w.heap.size w g:=VY f h i
theorem RH (t:ByteArray) (i:qA w a fs) (j:fs.length<=1048576):Calls prog 140 #[.slice a fs.length cap,.string t] w fun e f=>∃d b,e=.returned (.slice d (bC fs t).length b)/\qA f d (bC fs t)/\Below w.heap.size w f:=
 (jY a cap fs t w i j).mono fun e f ⟨v,h,m,g⟩=>by obtain⟨d,b,rfl,l⟩:=oL m;exact⟨d,b,h,l.files,g⟩
theorem SS (g:RJ fs) (j:op.kind≠1) (i:yR fs op.name (mC op.name fs)=true):∃(d:mC op.name fs<fs.length) (b:kA),fs[mC op.name fs]=b/\zC op.name fs 0=(mC op.name fs:Int)/\
 eZ fs c op=if op.kind=2 then(if c<xB fs+op.data.size then(3,fs) else(0,oG fs ⟨b.name,b.data++op.data,b.y9⟩)) else if op.kind=3 then(0,oG fs ⟨b.name,b.data,b.data.size⟩)
  else if op.kind=4 then(if xA op.size 0 b.data.size=true then(0,oG fs ⟨b.name,b.data.extract 0 op.size.toNat,op.size⟩) else(6,fs)) else if op.kind=5 then(0,oG (bC fs op.name) ⟨op.tq,b.data,b.y9⟩) else(0,bC fs op.name):=by
 obtain⟨d,h⟩:=aAb i;have W:=fun f e=>yq (f:=f) g d e;refine⟨d,_,rfl,by rw[XX g (fW op.name g),Qa i],?_⟩;rw[mn j i d,show fs.eraseIdx (mC op.name fs)=bC fs op.name by rw[<-fS g d,h],W ⟨_,fs[mC op.name fs].data++op.data,_⟩ rfl,W ⟨_,_,fs[mC op.name fs].data.size⟩ rfl,W ⟨_,fs[mC op.name fs].data.extract 0 op.size.toNat,_⟩ rfl]
end
theorem aCu (w:World) (a:Option Addr) (cap:Nat) (fs:List kA) (c k cr fl:Int) (dn:Bool) (op:jM) (h:OE w a fs c op) (B:op.kind=1\/op.kind≠1/\yR fs op.name (mC op.name fs)=false):RK w a cap fs c k cr fl dn op:=by
 unfold RK;have d:∃x,zC op.name fs 0=x/\(op.kind=1/\(x=(mC op.name fs:Int)/\eZ fs c op=(5,fs)\/x = -1/\((fs.length:Int)=1000/\eZ fs c op=(3,fs)\/¬(fs.length:Int)=1000/\eZ fs c op=(0,oG fs ⟨op.name,ByteArray.empty,0⟩)))\/(op.kind==1)=false/\x = -1/\eZ fs c op=(4,fs)):=by
  refine⟨_,XX h.asc (fW op.name h.asc),?_⟩;rcases B with g|⟨g,i⟩
  ·cases i:yR fs op.name (mC op.name fs)
   ·refine Ca ⟨g,Ja ⟨by simp,?_⟩⟩;have:=h.len;by_cases v:fs.length=1000
    ·exact Ca ⟨by omega,by simp[eZ,g,i,v]⟩
    ·refine Ja ⟨by omega,?_⟩;rw[yp (f:=⟨op.name,ByteArray.empty,0⟩) h.asc i];simp only[eZ,Qa g,i,Pc,Se];rw[Oa (by omega)]
   ·exact Ca ⟨g,Ca ⟨by simp,by simp[eZ,g,i]⟩⟩
  ·exact Ja ⟨by simpa using g,by simp[i],XI g i⟩
 obtain⟨x,r,d⟩:=d;have A:=bA h.files;have m:=bA r;have D:=h.len;have y:fs.length<=maxLen:=by simp[maxLen];omega
 obtain⟨I,G,L,F,sz⟩:=op;clear h B r;dsimp only at d m |-
 rcases d with⟨rfl,⟨rfl,j⟩|⟨rfl,⟨v,j⟩|⟨v,j⟩⟩⟩|⟨g,rfl,j⟩
 all_goals
  have j:=bA j;go_enter func110,ntmps110;go_wp2_with fail;refine(bX m.out _ ((A.out.later (cA _ _)).later (cA _ _)) y).mono ?_;rintro e M ⟨rfl,o⟩;obtain⟨q,s,b⟩:=pX o;have z:=bA b;have l:=bA (A.out.later b);obtain⟨J,K,-⟩:=s.c5;obtain⟨H,-⟩:=q.c6;clear o q s b;go_wp2_with(go_at_call 139;refine(VY ⟨G,ByteArray.empty,0⟩ l.out (by omega)).mono ?_;rintro e N ⟨E,n,rfl,C,p⟩;have u:=bA C;have t:=bA (nA z.out p);clear C p);go_ret2;rw[j.out];first
   |exact⟨a,cap,rfl,l.out,z.out⟩
   |exact⟨E,n,rfl,u.out,t.out⟩
theorem uf (w:World) (a:Option Addr) (cap:Nat) (fs:List kA) (c k cr fl:Int) (dn:Bool) (op:jM) (h:OE w a fs c op) (f:op.kind=3\/op.kind=4\/op.kind=6) (N:yR fs op.name (mC op.name fs)=true):RK w a cap fs c k cr fl dn op:=by
 unfold RK;obtain⟨L,d,A,z,p⟩:=SS (c:=c) h.asc (by omega) N;have x:op.kind=3/\eZ fs c op=(0,oG fs ⟨d.name,d.data,d.data.size⟩)\/op.kind=4/\(xA op.size 0 d.data.size=false/\eZ fs c op=(6,fs)\/xA op.size 0 d.data.size=true/\(0<=op.size/\op.size<=d.data.size)/\eZ fs c op=(0,oG fs ⟨d.name,d.data.extract 0 op.size.toNat,op.size⟩))\/op.kind=6/\eZ fs c op=(0,bC fs op.name):=by
  rcases f with f|f|f
  ·exact Ca ⟨f,by rw[p];simp[f]⟩
  ·refine Ja (Ca ⟨f,?_⟩);cases B:xA op.size 0 d.data.size
   ·exact Ca ⟨rfl,by rw[p];simp[f,B]⟩
   ·exact Ja ⟨rfl,by simpa[xA]using B,by rw[p];simp[f,B]⟩
  ·exact Ja (Ja ⟨f,by rw[p];simp[f]⟩)
 have I:=bA h.files;have s:=bA z;have M:=h.len;have H:fs.length<=maxLen:=by simp[maxLen];omega
 have t:=bA A;obtain⟨kd,V,tq,R,sz⟩:=op;clear h f z N p A;dsimp only at x s t L |-
 rcases x with⟨rfl,m⟩|⟨rfl,⟨B,m⟩|⟨B,⟨T,U⟩,m⟩⟩|⟨rfl,m⟩
 all_goals
  have m:=bA m;go_enter func110,ntmps110;go_wp2_with fail;refine(bX s.out _ ((I.out.later (cA _ _)).later (cA _ _)) H).mono ?_;rintro e C ⟨rfl,v⟩;obtain⟨y,n,i⟩:=pX v;have D:=bA i;have j:=bA (I.out.later i);obtain⟨o0,o1,o2,o3,o4⟩:=n.c5;obtain⟨Y,-⟩:=y.c6;obtain⟨b,o,rfl,Z,O,P,Q⟩:=j.out.at L;rw[t.out]at O P Q;have S:=aA n;have K:w.heap.size<C.heap.size:=by omega
  try have F:=bA (fun W (G:Below C.heap.size C W)=>aCl (cap:=cap) m.out (j.out.later G) (by omega))
  have E:=bA (fun W (G:Below C.heap.size C W)=>RH (cap:=cap) V (j.out.later G) (by omega));clear v y n i;go_wp2_with(first
   |(go_at_call 25;refine(nC (by assumption) _).mono ?_;rintro e w3 ⟨rfl,rfl⟩)
   |(go_at_call 139;refine(F.out _ (cA _ _)).mono ?_;rintro e X ⟨J,l,rfl,u,g⟩;have r:=bA u;have q:=bA (nA D.out (nA (cA _ _) g));clear u g)
   |(go_at_call 140;refine(E.out _ (cA _ _)).mono ?_;rintro e X ⟨J,l,rfl,u,g⟩;have r:=bA u;have q:=bA (nA D.out (nA (cA _ _) g));clear u g))
  go_ret2;rw[m.out];first
   |exact⟨J,l,rfl,r.out,q.out⟩
   |exact⟨_,cap,rfl,j.out.later (cA _ _),nA D.out (cA _ _)⟩
theorem mq (w:World) (a:Option Addr) (z:Nat) (f:List kA) (c k cr fl:Int) (dn:Bool) (s:jM) (h:OE w a f c s) (hk:s.kind=2) (hq:yR f s.name (mC s.name f)=true):RK w a z f c k cr fl dn s:=by
 unfold RK;obtain⟨hi,d,q,E,G⟩:=SS (c:=c) h.asc (by omega) hq;rw[Qa hk]at G;have S:=bA h.files;have M:=bA E;obtain⟨-,-,hlen,hsum,a0,b0⟩:=h;have F:f.length<=maxLen:=by simp[maxLen];omega
 have R:xB f<=1000000000:=by omega
 have hdz:d.data.size<=1000000000:=by
  have h1:=cN f _ hi;have h2:=vL f (mC s.name f+1);rw[q]at h1;omega
 have N:=bA q;obtain⟨kd,nm,tq,g,sz⟩:=s;dsimp only at *;subst hk;have P:c<(xB f:Int)+(g.size:Int)/\eZ f c ⟨2,nm,tq,g,sz⟩=(3,f)\/¬c<(xB f:Int)+(g.size:Int)/\eZ f c ⟨2,nm,tq,g,sz⟩=(0,oG f ⟨d.name,d.data++g,d.y9⟩):=by
  by_cases h:c<(xB f:Int)+(g.size:Int)
  ·exact Ca ⟨h,by rw[G,Qa h]⟩
  ·exact Ja ⟨h,by rw[G,Oa h]⟩
 clear E hq G q;go_enter func110,ntmps110;go_wp2_with fail;refine(bX M.out _ ((S.out.later (cA _ _)).later (cA _ _)) F).mono ?_;rintro e m ⟨rfl,B⟩;obtain⟨n,l,i⟩:=pX B;have K:=bA n;have O:=bA l;have I:=bA i;have u:=bA (S.out.later i);obtain⟨o0,o1,o2,o3,o4⟩:=l.c5;obtain⟨Y,-⟩:=n.c6;obtain⟨b,o,rfl,hb,U,V,X⟩:=u.out.at hi;rw[N.out]at U V X;have hdl:=aA l;clear B n l i;go_wp2_with fail;have j:Below m.heap.size m (m.alloc (.cells #[.string d.name,.string d.data,.int .i64 d.y9] 187)):=cA _ _;have D:eA (m.alloc (.cells #[.string d.name,.string d.data,.int .i64 d.y9] 187)) m.heap.size #[.string d.name,.string d.data,.int .i64 d.y9] 187:=heap_alloc_new _ _;generalize m.alloc (.cells #[.string d.name,.string d.data,.int .i64 d.y9] 187)=T at *;have v:=bA (fun x:fB T=>(⟨(u.out.later j).later x.h,eA.later (eA.later K.out j) x.h,eA.later (eA.later O.out j) x.h,D.later x.h,nA (nA I.out j) x.h⟩:qA x.w' _ f/\eA x.w' _ _ _/\eA x.w' _ _ _/\eA x.w' _ _ _/\Below w.heap.size w x.w'));have p:=fun x=>(v.out x).2.1.c6;have po:=fun x=>(v.out x).2.2.1.c5.2.2.2.1;simp only[forall_and]at p;obtain⟨p0,p1,p2,p3,p4,p5⟩:=p;have Q:=fB.there T;clear D j U V X o0 o1 o2 o3 o4 Y;rcases P with⟨r,H⟩|⟨r,H⟩
 all_goals
  have H:=bA H;refine eB (by kernel_rfl) (by kernel_rfl) ?_;repeat (go_big_quiet_step (first|(go_at_call 108;exact pB (zV _ _ _ _ _ _ _ _ _ (v.out _).1 F R))))
  refine wpQuiet_nil ?_;rintro _ ⟨y,rfl⟩;have t:=bA (v.out y);have Y:=p0 y;have o3:=po y;clear p0 p1 p2 p3 p4 p5 po Q v;generalize y.w'=W at *;clear y;obtain⟨q0,q1,q2⟩:=t.out.2.2.2.1.c3;have r1:=t.out.2.2.2.1.free;go_wp2_with(go_at_call 139;refine(VY ⟨d.name,d.data++g,d.y9⟩ (t.out.1.setCell (by show m.heap.size≠b;omega) _) (by omega)).mono ?_;rintro e w5 ⟨a5,A,rfl,Z,C⟩;have L:=bA Z;have J:=bA (nA (t.out.2.2.2.2.setCell (by show w.heap.size<=m.heap.size;omega) _) C);clear Z C);go_ret2;rw[H.out];first
   |exact⟨a5,A,rfl,L.out,J.out⟩
   |exact⟨_,z,rfl,t.out.1,t.out.2.2.2.2⟩
theorem mr (w:World) (a:Option Addr) (m:Nat) (g:List kA) (c k cr fl:Int) (dn:Bool) (s:jM) (h:OE w a g c s) (hk:s.kind=5) (Y:yR g s.name (mC s.name g)=true):RK w a m g c k cr fl dn s:=by
 unfold RK;obtain⟨hi,d,B,A,O⟩:=SS (c:=c) h.asc (by omega) Y;have P:=bA h.files;have G:=bA A;have X:=h.len;have N:g.length<=maxLen:=by simp[maxLen];omega
 have H:=bA B;obtain⟨kd,r,q,L,sz⟩:=s;dsimp only at *;subst hk;have Z:Hid (eZ g c ⟨5,r,q,L,sz⟩=(0,oG (bC g r) ⟨q,d.data,d.y9⟩)):=by show _=_;rw[O];simp
 clear h A Y O B;go_enter func110,ntmps110;go_wp2_with fail;refine(bX G.out _ ((P.out.later (cA _ _)).later (cA _ _)) N).mono ?_;rintro e l ⟨rfl,x⟩;obtain⟨n,j,f⟩:=pX x;have D:=bA n;have J:=bA j;have C:=bA f;have u:=bA (P.out.later f);obtain⟨o0,o1,o2,o3,o4⟩:=j.c5;obtain⟨d0,-⟩:=n.c6;obtain⟨b,o,rfl,hb,Q,R,S⟩:=u.out.at hi;rw[H.out]at Q R S;have hdl:=aA j;have z:(bC g r).length<=1048576:=by have:=qQ g r;omega
 have K:=bA (fun W (hW:Below l.heap.size l W)=>RH (cap:=m) r (u.out.later hW) (by omega));clear x n j f;generalize bC g r=es at *;go_wp2_with fail;have i:Below l.heap.size l (l.alloc (.cells #[.string q,.string d.data,.int .i64 d.y9] 187)):=cA _ _;have p:eA (l.alloc (.cells #[.string q,.string d.data,.int .i64 d.y9] 187)) l.heap.size #[.string q,.string d.data,.int .i64 d.y9] 187:=heap_alloc_new _ _;generalize l.alloc (.cells #[.string q,.string d.data,.int .i64 d.y9] 187)=W2 at *;have t:=bA i;have I:=bA p;obtain⟨e0,-⟩:=(eA.later D.out i).c6;obtain⟨-,e1,-⟩:=(eA.later J.out i).c5;obtain⟨g0,g1,g2⟩:=p.c3;clear p i Q R S o0 o1 o2 o3 o4 d0;go_region_with (first
  |(go_at_call 140;refine(K.out _ (nA t.out (Below.refl _ _).drew)).mono ?_;rintro e w5 ⟨a5,T,rfl,U,y⟩;have E:=bA U;obtain⟨k0,k1,k2⟩:=(I.out.later (nA (Below.refl _ _).drew y)).c3)
  |(go_at_call 139;refine(VY ⟨q,d.data,d.y9⟩ E.out z).mono ?_;rintro e w6 ⟨a6,v,rfl,V,M⟩;have F:=bA V))
 all_goals
  clear V U;go_wp2;go_ret2;rw[Z.out];exact⟨a6,v,rfl,F.out,nA (nA C.out t.out) (nA (nA (Below.refl _ _).drew y) M)⟩
theorem vf (w:World) (a:Option Addr) (d:Nat) (e:List kA) (c k f i:Int) (g:Bool) (b:jM) (h:OE w a e c b) (j:xA b.kind 1 6=true):RK w a d e c k f i g b:=by
 have o:1<=b.kind/\b.kind<=6:=by simpa[xA]using j
 by_cases l:b.kind=1
 ·exact aCu w a d e c k f i g b h (Ca l)
 ·cases hq:yR e b.name (mC b.name e)
  ·exact aCu w a d e c k f i g b h (Ja ⟨l,hq⟩)
  ·by_cases m:b.kind=2
   ·exact mq w a d e c k f i g b h m hq
   by_cases n:b.kind=5
   ·exact mr w a d e c k f i g b h n hq
   ·exact uf w a d e c k f i g b h (by omega) hq
theorem JT (W:World) (a:Option Addr) (l:Nat) (d:List kA) (v:qA W a d) (x:d.length<=1048576):
 ∃g c s,(Builtin.append_ #[76,76] 76 #[.slice (some ⟨W.heap.size,0,none⟩) 0 0,.slice a d.length l]).run prog (W.alloc (.cells #[] 187))=.ok (.slice g d.length c) s/\
  qA s g d/\Below W.heap.size W s/\∀b o,g=some ⟨b,o,none⟩->W.heap.size<=b:=by
 obtain⟨i,w,p,q,r⟩:=mZ;cases a with
 |none=>
  have y:d=[]:=by
   rcases v with h|⟨b,o,e,_⟩
   ·exact h
   ·exact absurd e (by simp)
  subst y;refine⟨some ⟨W.heap.size,0,none⟩,0,W.alloc (.cells #[] 187),?_,Ca rfl,cA _ _,fun b o e=>by simp at e;omega⟩;simp[Builtin.append_,run_underlying underlying76,sizeOf,typeInfo,w,Builtin.lenOf,Builtin.firstCells,storeCells]
 |some t=>
  have m:(W.alloc (.cells #[] 187)).ownsRow W.heap.size 187 3 (.slice (some ⟨W.heap.size,0,none⟩) 0 0) 0 []:=
   ⟨rfl,Ja ⟨W.heap.size,0,#[],rfl,Ka _,heap_alloc_new _ _,Ka _,La _,rfl,rfl⟩⟩
  have f:∀j u,(flat d)[j]?=some u->(W.alloc (.cells #[] 187)).cell? (t.add j)=some u:=by
   rcases v.later (cA W (.cells #[] 187)) with rfl|⟨b,o,e,_,h⟩
   ·intro j u h;simp[flat]at h
   ·simp only[Pa]at e;subst e;exact mV h
  obtain⟨E,D,C,n,z,_,_⟩:=run_append_own_at (P:=prog) (W.alloc (.cells #[] 187)) W.heap.size 76 76 187 i _ 3 40 underlying76 w p q r rfl (by omega) (.slice (some ⟨W.heap.size,0,none⟩) 0 0) 0 [] m t d.length l (flat d) (tV d) f (fY d) (by simp[maxLen];omega) (by omega) (by simp);simp only[Wa,Nb]at n;obtain⟨g,c,rfl,B⟩:=oL n;refine⟨g,c,D,C,B.files,(cA _ _).grown z (by simp) (fun k A=>?_),fun b o e=>uF n b (by rw[e];rfl)⟩;simp[Value.ownBlock]at A;omega
def WL (w:World) (a:Option Addr) (f:Nat) (j:List kA) (c k g i:Int) (h:Bool) (b:jM):Prop:=
 Calls prog 71 #[.agg #[.slice a j.length f,.int .i64 c,.int .i64 k,.int .i64 g,.int .i64 i,.bool h],.agg #[.int .i64 b.kind,.string b.name,.string b.tq,.string b.data,.int .i64 b.size]] w fun e m=>
  ∃l d,e=.returned (aHd (vQ j c k g i h b) l d)/\qA m l (vQ j c k g i h b).2.1/\Below w.heap.size w m
structure rk (w:World) (a:Option Addr) (fs:List kA) (op:jM):Prop where
 files:qA w a fs
 r9:eV fs
 len:fs.length≤1048576
 sum:xB fs≤1000000000
 name:op.name.size≤maxLen
 tq:op.tq.size≤maxLen
 data:op.data.size≤200000000
theorem DH {w:World} {a:Option Addr} {d:List kA} (h:qA w a d) {p:Addr} (k:∀b o,a=some ⟨b,o,none⟩->p.block<b) (v:Value):qA (w.setCell p v) a d:=by
 rcases h with h|⟨b,o,rfl,c,h⟩
 ·exact Ca h
 ·have e:=Below.heap_setCell w p v b (by have:=k b o rfl;omega);have g:∀j,(w.setCell p v).cell? ⟨b,j,none⟩=w.cell? ⟨b,j,none⟩:=fun j=>World.cell?_of_block e;exact Ja ⟨b,o,rfl,by simpa[World.setCell]using c,fun i f=>by simp only[g];exact h i f⟩
theorem ZY {f:List kA} {c k d e:Int} {g:Bool} {i:jM} {a:Nat} {h:Int} {b:Bool} (n:bH f c k d e=true) (m:opB i=true) (l:aL k d e g=(a,h,b)) (j:a≠0):vQ f c k d e g i=(a,f,c,h,d,e,b):=by
 unfold vQ;rw[Qa (by rw[n,m];rfl)];unfold MJ;rw[l,Oa j]
theorem vy {e:List kA} {c k b d:Int} {g:Bool} {f:jM} {h:Int} {a:Bool} (l:bH e c k b d=true) (j:opB f=true) (i:aL k b d g=(0,h,a)):vQ e c k b d g f=((eZ e c f).1,(eZ e c f).2,c,h,b,d,a):=by
 unfold vQ;rw[Qa (by rw[l,j];rfl)];unfold MJ;rw[i,Qa rfl]
theorem aEv (a:Option Addr) (n b:Nat) (c k d f:Int) (e:Bool) (j:Nat) (s:ByteArray):(#[.slice a n b,.int .i64 c,.int .i64 k,.int .i64 d,.int .i64 f,.bool e]:Array Value)[j]?≠some (.string s):=by
 rcases j with _|_|_|_|_|_|j<;>simp
theorem PC {w:World} {D:Nat} {a:Option Addr} {i:List kA} (h:qA w a i) {p:Option Addr} {n f:Nat} {c k q s:Int} {r:Bool} (t:ri w D p n f c k q s r):i=[]\/∀b o,a=some ⟨b,o,none⟩->b≠D:=by
 by_cases m:i=[]
 ·exact Ca m
 ·right;intro b o e j;have d:=List.length_pos_iff.2 m;obtain⟨u,v,g,_,l,_,_⟩:=h.at d;rw[e]at g;simp only[Pa,Addr.mk.injEq,Yb]at g;obtain⟨rfl,rfl⟩:=g;subst j;rw[eA.cell t]at l;exact aEv _ _ _ _ _ _ _ _ _ _ l
theorem eh {w:World} {a:Option Addr} {d:List kA} (h:qA w a d) {p:Addr} (c:d=[]\/∀b o,a=some ⟨b,o,none⟩->b≠p.block) (v:Value):qA (w.setCell p v) a d:=by
 rcases h with h|⟨b,o,rfl,e,h⟩
 ·exact Ca h
 ·rcases c with c|c
  ·exact Ca c
  ·have f:=Below.heap_setCell w p v b (c b o rfl);have k:∀j,(w.setCell p v).cell? ⟨b,j,none⟩=w.cell? ⟨b,j,none⟩:=fun j=>World.cell?_of_block f;exact Ja ⟨b,o,rfl,by simpa[World.setCell]using e,fun i g=>by simp only[k];exact h i g⟩
