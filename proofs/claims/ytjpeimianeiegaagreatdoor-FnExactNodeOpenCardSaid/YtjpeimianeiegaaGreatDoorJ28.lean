import Derived.Test.YtjpeimianeiegaaGreatDoorJ22
set_option maxRecDepth 100000
set_option maxHeartbeats 4000000
namespace Go.Proofs.YtjpeimianeiegaaGreatDoor
open Go.RowKit Tryz
theorem aAd (w:World) (a:Option Addr) (z:Nat) (f:List dA) (c k cr fl:Int) (dn:Bool) (s:uR) (h:UD w a f c s) (hk:s.kind=2) (hq:eF f s.name (mA s.name f)=true):XY w a z f c k cr fl dn s:=by
 unfold XY;obtain⟨hi,d,q,E,G⟩:=YU (c:=c) h.asc (by omega) hq;rw[Ga hk]at G;have S:=bA h.files;have M:=bA E;obtain⟨-,-,hlen,hsum,a0,b0⟩:=h;have F:f.length<=maxLen:=by simp[maxLen];omega
 have R:xA f<=1000000000:=by omega
 have hdz:d.data.size<=1000000000:=by
  have h1:=eG f _ hi;have h2:=oF f (mA s.name f+1);rw[q]at h1;omega
 have N:=bA q;obtain⟨kd,nm,tq,g,sz⟩:=s;dsimp only at *;subst hk;have P:c<(xA f:Int)+(g.size:Int)/\dM f c ⟨2,nm,tq,g,sz⟩=(3,f)\/¬c<(xA f:Int)+(g.size:Int)/\dM f c ⟨2,nm,tq,g,sz⟩=(0,mG f ⟨d.name,d.data++g,d.y9⟩):=by
  by_cases h:c<(xA f:Int)+(g.size:Int)
  ·exact Ba ⟨h,by rw[G,Ga h]⟩
  ·exact Ea ⟨h,by rw[G,Ca h]⟩
 clear E hq G q;go_enter func44,ntmps44;go_wp2_with fail;refine(aU M.out _ ((S.out.later (cA _ _)).later (cA _ _)) F).mono ?_;rintro e m ⟨rfl,B⟩;obtain⟨n,l,i⟩:=vY B;have K:=bA n;have O:=bA l;have I:=bA i;have u:=bA (S.out.later i);obtain⟨o0,o1,o2,o3,o4⟩:=l.c5;obtain⟨Y,-⟩:=n.c6;obtain⟨b,o,rfl,hb,U,V,X⟩:=u.out.at hi;rw[N.out]at U V X;have hdl:=aA l;clear B n l i;go_wp2_with fail;have j:Below m.heap.size m (m.alloc (.cells #[.string d.name,.string d.data,.int .i64 d.y9] 98)):=cA _ _;have D:lA (m.alloc (.cells #[.string d.name,.string d.data,.int .i64 d.y9] 98)) m.heap.size #[.string d.name,.string d.data,.int .i64 d.y9] 98:=heap_alloc_new _ _;generalize m.alloc (.cells #[.string d.name,.string d.data,.int .i64 d.y9] 98)=T at *;have v:=bA (fun x:oA T=>(⟨(u.out.later j).later x.h,lA.later (lA.later K.out j) x.h,lA.later (lA.later O.out j) x.h,D.later x.h,pA (pA I.out j) x.h⟩:iA x.w' _ f/\lA x.w' _ _ _/\lA x.w' _ _ _/\lA x.w' _ _ _/\Below w.heap.size w x.w'));have p:=fun x=>(v.out x).2.1.c6;have po:=fun x=>(v.out x).2.2.1.c5.2.2.2.1;simp only[forall_and]at p;obtain⟨p0,p1,p2,p3,p4,p5⟩:=p;have Q:=oA.there T;clear D j U V X o0 o1 o2 o3 o4 Y;rcases P with⟨r,H⟩|⟨r,H⟩
 all_goals
  have H:=bA H;refine jA (by kernel_rfl) (by kernel_rfl) ?_;repeat (go_big_quiet_step (first|(go_at_call 42;exact tA (kX _ _ _ _ _ _ _ _ _ (v.out _).1 F R))))
  refine wpQuiet_nil ?_;rintro _ ⟨y,rfl⟩;have t:=bA (v.out y);have Y:=p0 y;have o3:=po y;clear p0 p1 p2 p3 p4 p5 po Q v;generalize y.w'=W at *;clear y;obtain⟨q0,q1,q2⟩:=t.out.2.2.2.1.c3;have r1:=t.out.2.2.2.1.free;go_wp2_with(go_at_call 78;refine(de ⟨d.name,d.data++g,d.y9⟩ (t.out.1.setCell (by show m.heap.size≠b;omega) _) (by omega)).mono ?_;rintro e w5 ⟨a5,A,rfl,Z,C⟩;have L:=bA Z;have J:=bA (pA (t.out.2.2.2.2.setCell (by show w.heap.size<=m.heap.size;omega) _) C);clear Z C);go_ret2;rw[H.out];first
   |exact⟨a5,A,rfl,L.out,J.out⟩
   |exact⟨_,z,rfl,t.out.1,t.out.2.2.2.2⟩
theorem aAe (w:World) (a:Option Addr) (m:Nat) (g:List dA) (c k cr fl:Int) (dn:Bool) (s:uR) (h:UD w a g c s) (hk:s.kind=5) (Y:eF g s.name (mA s.name g)=true):XY w a m g c k cr fl dn s:=by
 unfold XY;obtain⟨hi,d,B,A,O⟩:=YU (c:=c) h.asc (by omega) Y;have P:=bA h.files;have G:=bA A;have X:=h.len;have N:g.length<=maxLen:=by simp[maxLen];omega
 have H:=bA B;obtain⟨kd,r,q,L,sz⟩:=s;dsimp only at *;subst hk;have Z:Hid (dM g c ⟨5,r,q,L,sz⟩=(0,mG (bC g r) ⟨q,d.data,d.y9⟩)):=by show _=_;rw[O];simp
 clear h A Y O B;go_enter func44,ntmps44;go_wp2_with fail;refine(aU G.out _ ((P.out.later (cA _ _)).later (cA _ _)) N).mono ?_;rintro e l ⟨rfl,x⟩;obtain⟨n,j,f⟩:=vY x;have D:=bA n;have J:=bA j;have C:=bA f;have u:=bA (P.out.later f);obtain⟨o0,o1,o2,o3,o4⟩:=j.c5;obtain⟨d0,-⟩:=n.c6;obtain⟨b,o,rfl,hb,Q,R,S⟩:=u.out.at hi;rw[H.out]at Q R S;have hdl:=aA j;have z:(bC g r).length<=1048576:=by have:=tR g r;omega
 have K:=bA (fun W (hW:Below l.heap.size l W)=>XW (cap:=m) r (u.out.later hW) (by omega));clear x n j f;generalize bC g r=es at *;go_wp2_with fail;have i:Below l.heap.size l (l.alloc (.cells #[.string q,.string d.data,.int .i64 d.y9] 98)):=cA _ _;have p:lA (l.alloc (.cells #[.string q,.string d.data,.int .i64 d.y9] 98)) l.heap.size #[.string q,.string d.data,.int .i64 d.y9] 98:=heap_alloc_new _ _;generalize l.alloc (.cells #[.string q,.string d.data,.int .i64 d.y9] 98)=W2 at *;have t:=bA i;have I:=bA p;obtain⟨e0,-⟩:=(lA.later D.out i).c6;obtain⟨-,e1,-⟩:=(lA.later J.out i).c5;obtain⟨g0,g1,g2⟩:=p.c3;clear p i Q R S o0 o1 o2 o3 o4 d0;go_region_with (first
  |(go_at_call 79;refine(K.out _ (pA t.out (Below.refl _ _).drew)).mono ?_;rintro e w5 ⟨a5,T,rfl,U,y⟩;have E:=bA U;obtain⟨k0,k1,k2⟩:=(I.out.later (pA (Below.refl _ _).drew y)).c3)
  |(go_at_call 78;refine(de ⟨q,d.data,d.y9⟩ E.out z).mono ?_;rintro e w6 ⟨a6,v,rfl,V,M⟩;have F:=bA V))
 all_goals
  clear V U;go_wp2;go_ret2;rw[Z.out];exact⟨a6,v,rfl,F.out,pA (pA C.out t.out) (pA (pA (Below.refl _ _).drew y) M)⟩
theorem aFw (w:World) (a:Option Addr) (d:Nat) (e:List dA) (c k f i:Int) (g:Bool) (b:uR) (h:UD w a e c b) (j:uA b.kind 1 6=true):XY w a d e c k f i g b:=by
 have o:1<=b.kind/\b.kind<=6:=by simpa[uA]using j
 by_cases l:b.kind=1
 ·exact aNe w a d e c k f i g b h (Ba l)
 ·cases hq:eF e b.name (mA b.name e)
  ·exact aNe w a d e c k f i g b h (Ea ⟨l,hq⟩)
  ·by_cases m:b.kind=2
   ·exact aAd w a d e c k f i g b h m hq
   by_cases n:b.kind=5
   ·exact aAe w a d e c k f i g b h n hq
   ·exact aFg w a d e c k f i g b h (by omega) hq
