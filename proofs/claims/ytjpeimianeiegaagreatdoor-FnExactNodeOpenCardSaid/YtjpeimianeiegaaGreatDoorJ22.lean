import Derived.Test.YtjpeimianeiegaaGreatDoorJ20
set_option maxRecDepth 100000
set_option maxHeartbeats 4000000
namespace Go.Proofs.YtjpeimianeiegaaGreatDoor
open Go.RowKit Tryz
theorem bb {w:World} {B g a:Nat} {b:Array Value} {e:TypeId} {fs:List dA} (c:B<=g) (h:lA w g b e) (f:fs.length<=a) (d:a<=maxLen) (k:b.size=a*3) (i:∀j (m:j<fs.length),bF b 0 j fs[j]):
 w.ownsRow B e 3 (.slice (some ⟨g,0,none⟩) fs.length a) fs.length (flat fs):=
 aQ c h f d k (pD fs) fun j u l=>by
  have:=jM (fP h i) j u l;rwa [Addr.add_lit,Oa]at this
theorem bI {w:World} {B g b:Nat} {e:TypeId} {c:List dA} (h:w.ownsRow B e 3 (.slice (some ⟨g,0,none⟩) c.length b) c.length (flat c)):
 ∃a,B<=g/\lA w g a e/\c.length<=b/\b<=maxLen/\a.size=b*3/\∀j (m:j<c.length),bF a 0 j c[j]:=by
 obtain⟨a,q,_,l,s,r,t,d⟩:=sP h;refine⟨a,q,l,s,r,t,fun j m=>?_⟩;obtain⟨n,o,p⟩:=CX c j m;have f:=d _ _ n;have i:=d _ _ o;have k:=d _ _ p;rw[l.cell]at f i k;exact⟨by rw[Oa];exact f,by rw[Oa];exact i,by rw[Oa];exact k⟩
theorem oB.slice {w:World} {B D:Nat} {b:List dA} {c k d i:Int} {f:Bool} {v:Value} (h:oB w B D b c k d i f v) (m:0<b.length):∃g a,v=.slice (some ⟨g,0,none⟩) b.length a/\g≠D/\B<=g:=by
 rcases h.row.2 with⟨_,l⟩|⟨g,a,e,rfl,j,_⟩
 ·omega
 ·exact⟨g,a,rfl,h.apart g rfl,j⟩
theorem oB.size {w:World} {B D:Nat} {e:List dA} {c k a d:Int} {b:Bool} {v:Value} (h:oB w B D e c k a d b v):B<=w.heap.size:=by
 have:=aA h.blk;have:=h.from';omega
theorem oB.cell4 {w:World} {B D:Nat} {e:List dA} {c k a d:Int} {b:Bool} {v:Value} (h:oB w B D e c k a d b v):w.cell? ⟨D,4,none⟩=some v:=by
 have:=h.blk.cell 4;simpa using this
theorem oB.cell5 {w:World} {B D:Nat} {e:List dA} {c k a d:Int} {b:Bool} {v:Value} (h:oB w B D e c k a d b v):w.cell? ⟨D,5,none⟩=some (.int .i64 c):=by
 have:=h.blk.cell 5;simpa using this
theorem oB.files {w:World} {B D:Nat} {d:List dA} {c k e g:Int} {f:Bool} {v:Value} (h:oB w B D d c k e g f v):∃a b,v=.slice a d.length b/\iA w a d:=by
 obtain⟨a,b,rfl,i⟩:=fK h.row;exact⟨a,b,rfl,i.files⟩
theorem oB.put {w p:World} {B D g d i:Nat} {b:List dA} {f:dA} {c k q s:Int} {r:Bool} {a:Array Value} (h:oB w B D b c k q s r (.slice (some ⟨g,0,none⟩) b.length d)) (l:eD g w p)
 (x:lA p g a 98) (A:a.size=d*3) (z:∀m (t:m<b.length),bF a 0 m (if m=i then f else b[m])):oB p B D (b.set i f) c k q s r (.slice (some ⟨g,0,none⟩) b.length d):=by
 obtain⟨u,v,_,y,t,_,_⟩:=bI h.row;refine⟨h.from',lA.keeps h.blk (jC.but l) (fun e=>h.apart g rfl e.symm),?_,h.apart⟩;have e:(b.set i f).length=b.length:=Xc ..;have:=bb (fs:=b.set i f) v x (by rw[e];exact y) t A (fun j C=>by
  have o:=z j (by omega);rw[List.getElem_set];by_cases n:j=i
  ·subst n;simpa using o
  ·rw[Ca n]at o;rw[Ca (Ne.symm n)];exact o)
 rw[e]at this;rw[e];exact this
theorem aDw (b o:Nat) (a:Array Value) (t:TypeId) (d x:ByteArray) (w:World) (c:lA w b a t) (f:a[o+1]?=some (.string d)) (j:d.size+x.size<=4000000000):
 Calls prog 161 #[.pointer (some ⟨b,o,none⟩),.string x] w fun e h=>e=.returned (.tuple #[])/\h=w.setCell ⟨b,o+1,none⟩ (.string (d++x)):=by
 have g:=c.cell (o+1);rw[f]at g;have i:=c.free (o+1);clear c f;go_enter func161,ntmps161;go_wp2;go_end0;exact⟨rfl,rfl⟩
theorem aIj {b:Array Value} {a:List dA} {i:Nat} (l:i<a.length) (h:∀m (c:m<a.length),bF b 0 m a[m]) (x:ByteArray) (s:Int):
 ∀m (c:m<a.length),bF ((b.setIfInBounds (i*3+1) (.string x)).setIfInBounds (i*3+2) (.int .i64 s)) 0 m (if m=i then⟨a[i].name,x,s⟩ else a[m]):=by
 intro m c;by_cases e:m=i
 ·subst e;rw[Ga rfl];obtain⟨g,j,k⟩:=h m c;have d:=(Bb.1 j).1;have f:=(Bb.1 k).1;rw[Oa]at d f;refine⟨?_,?_,?_⟩
  ·rw[Aa (by omega),Aa (by omega)];exact g
  ·rw[Oa,Aa (by omega)];simp[d]
  ·rw[Oa];simp[f]
 ·rw[Ca e];exact((h m c).set (by omega) _).set (by omega) _
theorem aDf {b:Array Value} {a:List dA} {i:Nat} (k:i<a.length) (h:∀m (c:m<a.length),bF b 0 m a[m]) (x:ByteArray):
 ∀m (c:m<a.length),bF (b.setIfInBounds (i*3+1) (.string x)) 0 m (if m=i then⟨a[i].name,x,a[i].y9⟩ else a[m]):=by
 intro m c;by_cases e:m=i
 ·subst e;rw[Ga rfl];obtain⟨f,g,j⟩:=h m c;have d:=(Bb.1 g).1;rw[Oa]at d;refine⟨?_,?_,?_⟩
  ·rw[Aa (by omega)];exact f
  ·rw[Oa];simp[d]
  ·rw[Aa (by omega)];exact j
 ·rw[Ca e];exact(h m c).set (by omega) _
theorem aDg {b:Array Value} {a:List dA} {i:Nat} (k:i<a.length) (h:∀m (c:m<a.length),bF b 0 m a[m]) (s:Int):
 ∀m (c:m<a.length),bF (b.setIfInBounds (i*3+2) (.int .i64 s)) 0 m (if m=i then⟨a[i].name,a[i].data,s⟩ else a[m]):=by
 intro m c;by_cases e:m=i
 ·subst e;rw[Ga rfl];obtain⟨f,g,j⟩:=h m c;have d:=(Bb.1 j).1;rw[Oa]at d;refine⟨?_,?_,?_⟩
  ·rw[Aa (by omega)];exact f
  ·rw[Aa (by omega)];exact g
  ·rw[Oa];simp[d]
 ·rw[Ca e];exact(h m c).set (by omega) _
theorem dd (b o:Nat) (a:Array Value) (t:TypeId) (d:ByteArray) (s:Int) (w:World) (f:lA w b a t) (c:a[o+1]?=some (.string d)) (g:uA s 0 d.size=false):
 Calls prog 131 #[.pointer (some ⟨b,o,none⟩),.int .i64 s] w fun e h=>e=.returned (iG 6)/\Below w.heap.size w h:=by
 have j:=f.cell (o+1);rw[c]at j;have i:Hid _:=g;clear f c g;go_enter func131,ntmps131;go_wp2_with fail;refine(cM i.out _).mono ?_;rintro e h ⟨rfl,rfl⟩;go_wp2;go_ret;exact⟨rfl,Below.refl _ _⟩
theorem pj (b o:Nat) (a:Array Value) (t:TypeId) (d:ByteArray) (s:Int) (w:World) (i:lA w b a t) (j:a[o+1]?=some (.string d)) (n:o+2<a.size) (k:uA s 0 d.size=true) (B:d.size<=1000000000):
 Calls prog 131 #[.pointer (some ⟨b,o,none⟩),.int .i64 s] w fun e g=>e=.returned (iG 0)/\eD b w g/\
  lA g b ((a.setIfInBounds (o+1) (.string (d.extract 0 s.toNat))).setIfInBounds (o+2) (.int .i64 s)) t:=by
 have y:=i.cell (o+1);rw[j]at y;have A:=i.free (o+1);have x:Hid _:=k;have f:0<=s/\s<=d.size:=by simpa[uA]using k
 obtain⟨f,z⟩:=f;have m:Hid (lA w b a t):=i;have q:Hid _:=(Bb.1 j).1;have r:Hid _:=n;clear i j k n;go_enter func131,ntmps131;go_wp2_with fail;refine(cM x.out _).mono ?_;rintro e g ⟨rfl,rfl⟩;go_wp2_with fail;refine(ot b o _ t (d.extract 0 s.toNat) _ (m.out.set (o+1) (.string (d.extract 0 s.toNat))) (by have:=q.out;simp[Wa];omega) (by have:=r.out;simp;omega)).mono ?_;rintro e l ⟨rfl,c⟩;have u:Hid (eD b g l):=by show eD b g l;rw[c];exact((eD.refl _ _).setCell _ _).setCell _ _
 have p:Hid (((d.extract 0 s.toNat).size:Int)=s):=by show _=_;rw[Yb];omega
 have v:Hid (lA l b ((a.setIfInBounds (o+1) (.string (d.extract 0 s.toNat))).setIfInBounds (o+2) (.int .i64 s)) t):=by
  have h:=(m.out.set (o+1) (.string (d.extract 0 s.toNat))).set (o+2) (.int .i64 ((d.extract 0 s.toNat).size:Nat));show lA _ _ _ _;rw[c];rw[p.out]at h |-
  exact h
 clear c;go_wp2;go_ret;exact⟨rfl,u.out,v.out⟩
theorem oB.turn {w i:World} {B D:Nat} {j a:List dA} {c k d f:Int} {e:Bool} {v b:Value} (h:oB w B D j c k d f e v) (m:lA i D #[.int .i64 k,.int .i64 d,.int .i64 f,.bool e,b,.int .i64 c] 138)
 (n:i.ownsRow B 98 3 b a.length (flat a)) (l:∀g,b.ownBlock=some g->g≠D):oB i B D a c k d f e b:=⟨h.from',m,n,l⟩
theorem qZ {w:World} {B:Nat} {e:TypeId} {a:Nat} {v:Value} {n:Nat} {j:List Value} (h:w.ownsRow B e a v n j) {D:Nat} (m:∀g,v.ownBlock=some g->g≠D) (o:Nat) (u:Value):(w.setCell ⟨D,o,none⟩ u).ownsRow B e a v n j:=by
 obtain⟨k,d⟩:=h;refine⟨k,?_⟩;rcases d with d|⟨g,b,c,i,l,p,r⟩
 ·exact Ba d
 ·have f:=m g (by rw[i];rfl);exact Ea ⟨g,b,c,i,l,(Below.heap_setCell w ⟨D,o,none⟩ u g f).trans p,r⟩
theorem QZ (B D i:Nat) (a:List dA) (c k m o:Int) (n:Bool) (v:Value) (w:World) (h:oB w B D a c k m o n v) (u:i<a.length) (j:a.length<=1048576):
 Calls prog 133 #[.pointer (some ⟨D,0,none⟩),.int .i64 i] w fun e y=>
  e=.returned (.tuple #[])/\∃x,oB y B D (a.eraseIdx i) c k m o n x/\x.ownBlock=v.ownBlock/\jC (fun k=>k=D\/v.ownBlock=some k) w y:=by
 obtain⟨g,d,rfl,p,G⟩:=h.slice (by omega);have I:=h.cell4;have l:Hid _:=h;have H:IntKind.i64.wrap ((i:Int)+1)=(i:Int)+1:=by rw[IntKind.wrap_i64];omega
 clear h;go_enter func133,ntmps133;go_wp2_with fail;refine(qp B g d i a _ l.out.row u j).mono ?_;rintro e t ⟨rfl,f,q⟩;have b:=l.out.blk.keeps q (fun e=>p e.symm);have E:=b.cell 4;have J:=b.free 4;simp only[Xb,Kb,Fa]at E;have C:Hid (t.ownsRow B 98 3 (.slice (some ⟨g,0,none⟩) (a.length-1) d) (a.length-1) (flat (a.eraseIdx i))):=f;have A:Hid _:=q;have z:Hid (lA t D #[.int .i64 k,.int .i64 m,.int .i64 o,.bool n,.slice (some ⟨g,0,none⟩) a.length d,.int .i64 c] 138):=b;clear f q b;go_wp2;go_end0;refine⟨rfl,.slice (some ⟨g,0,none⟩) (a.length-1) d,l.out.turn ?_ ?_ (fun F e=>by simp[Value.ownBlock]at e;omega),rfl,?_⟩
 ·have:=z.out.set 4 (.slice (some ⟨g,0,none⟩) (a.length-1) d);simpa using this
 ·have e:(a.eraseIdx i).length=a.length-1:=by rw[Dc,Ga u]
  rw[e];exact qZ C.out (fun F e=>by simp[Value.ownBlock]at e;omega) _ _
 ·have r:jC (fun s=>s=D\/(Value.slice (some ⟨g,0,none⟩) a.length d).ownBlock=some s) w t:=A.out.mono (fun s e=>Ea (by subst e;rfl));exact r.setCell (Ba rfl) _ _
theorem YD (B D i:Nat) (a:List dA) (c k o q:Int) (p:Bool) (v:Value) (x:ByteArray) (w:World) (h:oB w B D a c k o q p v) (I:i<a.length) (M:a.length<=1048576) (N:(xA a:Int)<=c) (hc:c<=1000000000):
 Calls prog 129 #[.pointer (some ⟨D,0,none⟩),.int .i64 i,.string x] w fun e u=>
  ((c<xA a+x.size/\e=.returned (iG 3)/\oB u B D a c k o q p v)\/(xA a+x.size<=c/\e=.returned (iG 0)/\oB u B D (a.set i ⟨a[i].name,a[i].data++x,a[i].y9⟩) c k o q p v))/\tH B w u:=by
 obtain⟨g,n,rfl,V,S⟩:=h.slice (by omega);obtain⟨Z,J,F,l⟩:=h.files;have K:=oA.cells h.cell4;have L:=oA.cells h.cell5;have s:=oA.there w;have A:Hid _:=h;have P:Hid (iA w (some ⟨g,0,none⟩) a):=by
  simp only[Value.slice.injEq]at F;obtain⟨rfl,_⟩:=F;exact l
 have Y:IntKind.i64.wrap (c-(xA a:Int))=c-(xA a:Int):=by rw[IntKind.wrap_i64];omega
 have j:Hid (∀x:oA w,iA x.w' (some ⟨g,0,none⟩) a):=fun x=>P.out.later x.h;have f:Hid (∀x:oA w,oB x.w' B D a c k o q p (.slice (some ⟨g,0,none⟩) a.length n)):=fun x=>A.out.later x.h;have r:a.length<=maxLen:=by simp[maxLen];omega
 have t:xA a<=1000000000:=by omega
 clear h F l;by_cases hf:c-(xA a:Int)<(x.size:Int)
 ·go_enter func129,ntmps129;go_wp2_with fail;refine jA (by kernel_rfl) (by kernel_rfl) ?_;repeat (go_big_quiet_step (first|(go_at_call 61;exact tA (wH _ _ _ _ (j.out _) r t))))
  refine wpQuiet_nil ?_;rintro _ ⟨y,rfl⟩;have C:Hid _:=y.h;have z:Hid _:=f.out y;have G:=A.out.size;clear K L s f j;generalize y.w'=W at *;clear y;go_wp2;go_ret;exact⟨Ba ⟨by omega,rfl,z.out⟩,tH.of C.out G⟩
 ·go_enter func129,ntmps129;go_wp2_with fail;refine jA (by kernel_rfl) (by kernel_rfl) ?_;repeat (go_big_quiet_step (first|(go_at_call 61;exact tA (wH _ _ _ _ (j.out _) r t))))
  refine wpQuiet_nil ?_;rintro _ ⟨y,rfl⟩;have C:Hid _:=y.h;have z:Hid _:=f.out y;have G:=A.out.size;have e4:=(f.out y).cell4;clear K L s f j;generalize y.w'=W at *;clear y;obtain⟨E,_,d,X,T,H,b⟩:=bI z.out.row;have m:=(b i I).2.1;rw[Oa]at m;have U:a[i].data.size<=xA a:=by
   have h1:=eG a i I;have h2:=oF a (i+1);omega
  have R:Hid (Calls prog 161 #[.pointer (some ⟨g,i*3,none⟩),.string x] W fun e u=>e=.returned (.tuple #[])/\u=W.setCell ⟨g,i*3+1,none⟩ (.string (a[i].data++x))):=aDw g (i*3) E 98 a[i].data x W d m (by omega);have Q:Hid (oB (W.setCell ⟨g,i*3+1,none⟩ (.string (a[i].data++x))) B D (a.set i ⟨a[i].name,a[i].data++x,a[i].y9⟩) c k o q p (.slice (some ⟨g,0,none⟩) a.length n)):=
   z.out.put ((eD.refl _ _).setCell _ _) (d.set _ _) (by simp[H]) (aDf I b _)
  have O:Hid (tH B w (W.setCell ⟨g,i*3+1,none⟩ (.string (a[i].data++x)))):=(tH.of C.out G).set d (Ba rfl) (by omega) _;clear d b m;go_wp2_with fail;refine R.out.mono ?_;rintro e w3 ⟨rfl,rfl⟩;go_wp2;go_ret;exact⟨Ea ⟨by omega,rfl,Q.out⟩,O.out⟩
theorem tH.removed {w d:World} {B D:Nat} {l:List dA} {c k f j:Int} {i:Bool} {v:Value} (h:oB w B D l c k f j i v) (b:jC (fun k=>k=D\/v.ownBlock=some k) w d):tH B w d:=
 ⟨b.below (fun g e=>by
  rcases e with e|e
  ·rw[e];exact h.from'
  ·exact oI h.row g e) h.size,kE.keeps b (fun g e=>by
  rcases e with e|e
  ·rw[e];exact⟨_,_,h.blk,Ea rfl⟩
  ·obtain⟨a,m⟩:=iU h.row g e;exact⟨a,_,m,Ba rfl⟩)⟩
theorem oB.inserted {w l:World} {B D i:Nat} {d:List dA} {f:dA} {c k p r:Int} {q:Bool} {v a:Value} (h:oB w B D d c k p r q v) (x:i<=d.length)
 (y:l.ownsRow B 98 3 a (d.length+1) (flat (dK d i f))) (o:jC (fun k=>v.ownBlock=some k) w l) (n:a.ownBlock=v.ownBlock\/a.ownBlock=some w.heap.size):
 oB (l.setCell ⟨D,4,none⟩ a) B D (dK d i f) c k p r q a/\tH B w (l.setCell ⟨D,4,none⟩ a):=by
 have z:=aA h.blk;have j:∀g,a.ownBlock=some g->g≠D:=fun g b=>by
  rcases n with e|e
  ·exact h.apart g (by rw[<-e];exact b)
  ·rw[e]at b;simp at b;omega
 have s:=h.blk.keeps o (fun e=>h.apart D e rfl);refine⟨⟨h.from',?_,?_,j⟩,?_⟩
 ·have:=s.set 4 a;simpa using this
 ·rw[sO d i f x];exact qZ y j _ _
 ·have t:tH B w l:=⟨o.below (fun g b=>oI h.row g b) h.size,kE.keeps o (fun g b=>by
   obtain⟨m,u⟩:=iU h.row g b;exact⟨m,_,u,Ba rfl⟩)⟩
  exact t.set s (Ea rfl) h.from' _
theorem qo (B D:Nat) (b:List dA) (c k z C:Int) (A:Bool) (v:Value) (l:ByteArray) (w:World) (h:oB w B D b c k z C A v) (m:dN b) (q:b.length<=1048576):
 Calls prog 128 #[.pointer (some ⟨D,0,none⟩),.string l] w fun e F=>∃i E,oO b l i/\tH B w F/\
  ((eF b l i=true/\e=.returned (iG 5)/\oB F B D b c k z C A E)\/(eF b l i=false/\1000<=b.length/\e=.returned (iG 3)/\oB F B D b c k z C A E)\/
    (eF b l i=false/\b.length<1000/\e=.returned (iG 0)/\oB F B D (dK b i ⟨l,ByteArray.empty,0⟩) c k z C A E)):=by
 obtain⟨a,t,rfl,o⟩:=h.files;have Q:=h.cell4;have J:Hid _:=h;have N:Hid (iA w a b):=o;have M:Hid (dN b):=m;clear h o m;go_enter func128,ntmps128;go_wp2_with fail;refine(uP a t b l _ N.out M.out q).mono ?_;rintro e L ⟨i,I,rfl,s⟩;have G:Hid (oO b l i):=I;have p:=I.1;have d:Hid _:=J.out.later s;have r:Hid _:=tH.of s J.out.size;have R:=d.out.cell4;clear Q s I;cases hq:eF b l i with
 |true=>
  have y:Hid _:=hq;clear hq;go_wp2;go_ret;exact⟨i,_,G.out,r.out,Ba ⟨y.out,rfl,d.out⟩⟩
 |false=>
  have y:Hid _:=hq;clear hq;by_cases V:(1000:Int)<=(b.length:Int)
  ·go_wp2;go_ret;exact⟨i,_,G.out,r.out,Ea (Ba ⟨y.out,by omega,rfl,d.out⟩)⟩
  ·go_wp2_with fail;have f:=d.out.later (cA L (.cells #[.string l,.string ByteArray.empty,.int .i64 0] 98));refine(PK B L.heap.size i (.slice a b.length t) b ⟨l,ByteArray.empty,0⟩ _ f.row (heap_alloc_new _ _) (fun e=>by have:=uM d.out.row _ e;omega) p q f.size).mono ?_;rintro e W ⟨E,rfl,j,H,u⟩;obtain⟨x,n⟩:=f.inserted p j H u;have g:=f.blk.keeps H (fun e=>f.apart D e rfl);obtain⟨T,K,rfl⟩:=RE j;have S:=g.cell 4;have U:=g.free 4;simp only[Xb,Kb,Fa]at S;have O:Hid _:=x;have P:Hid _:=(r.out.on (cA _ _) d.out.size).trans n;clear x n g j H u f R;go_wp2;go_ret;exact⟨i,_,G.out,P.out,Ea (Ea ⟨y.out,by omega,rfl,O.out⟩)⟩
theorem aDh {a:Array Value} {b:List dA} {i:Nat} (g:i<b.length) (h:∀m (c:m<b.length),bF a 0 m b[m]) (f:dA):
 ∀m (c:m<b.length),bF (((a.setIfInBounds (i*3) (.string f.name)).setIfInBounds (i*3+1) (.string f.data)).setIfInBounds (i*3+2) (.int .i64 f.y9)) 0 m (if m=i then f else b[m]):=by
 intro m c;by_cases e:m=i
 ·subst e;rw[Ga rfl];have d:=(Bb.1 (h m c).2.2).1;have:=bF.made a 0 m f d;simpa only[Oa]using this
 ·rw[Ca e];exact(((h m c).set (by omega) _).set (by omega) _).set (by omega) _
theorem uj (B D i:Nat) (b:List dA) (c k H J:Int) (I:Bool) (v:Value) (m:ByteArray) (w:World) (h:oB w B D b c k H J I v) (hi:i<b.length) (y:dN (b.eraseIdx i)) (V:b.length<=1048576):
 Calls prog 132 #[.pointer (some ⟨D,0,none⟩),.int .i64 i,.string m] w fun e w'=>e=.returned (.tuple #[])/\∃j v',oO (b.eraseIdx i) m j/\tH B w w'/\
  ((eF (b.eraseIdx i) m j=true/\oB w' B D ((b.eraseIdx i).set j ⟨m,b[i].data,b[i].y9⟩) c k H J I v')\/(eF (b.eraseIdx i) m j=false/\oB w' B D (dK (b.eraseIdx i) j ⟨m,b[i].data,b[i].y9⟩) c k H J I v')):=by
 obtain⟨g,cap,rfl,hgD,hBg⟩:=h.slice (by omega);obtain⟨cur,_,a,hnc,hcm,hcs,f⟩:=bI h.row;obtain⟨r0,r1,r2⟩:=f i hi;rw[Oa]at r0 r1 r2;have c0:=a.cell (i*3);have c1:=a.cell (i*3+1);have c2:=a.cell (i*3+2);rw[r0]at c0;rw[r1]at c1;rw[r2]at c2;have d4:=h.cell4;have Z:Hid _:=h;have HA:Hid (dN (b.eraseIdx i)):=y;have hgl:=aA a;have hDl:=aA h.blk;clear h y a f r0 r1 r2;go_enter func132,ntmps132;go_wp2_with fail;refine(QZ B D i b c k H J I _ _ (Z.out.later (cA w (.cells #[.string m,.string b[i].data,.int .i64 b[i].y9] 98))) hi V).mono ?_;rintro e w1 ⟨rfl,v1,p,W,hk⟩;have N:Hid (lA w1 w.heap.size #[.string m,.string b[i].data,.int .i64 b[i].y9] 98):=lA.keeps (heap_alloc_new _ _) hk (fun e=>by
  rcases e with e|e
  ·omega
  ·simp[Value.ownBlock]at e;omega)
 have L:Hid _:=(tH.of (cA _ _) Z.out.size).trans (tH.removed (Z.out.later (cA _ _)) hk);have U:(b.eraseIdx i).length<=1048576:=by rw[Dc,Ga hi];omega
 have X:v1.ownBlock=some g:=W;obtain⟨G,l,rfl,z⟩:=p.files;have P:Hid _:=X;have E:Hid _:=p;have O:Hid (iA w1 G (b.eraseIdx i)):=z;have e4:=p.cell4;clear c0 c1 c2 d4 p hk z W X;generalize T:b.eraseIdx i=o at *;go_wp2_with fail;refine(uP G l o m _ O.out HA.out U).mono ?_;rintro e K ⟨j,hp,rfl,t⟩;have HP:Hid (oO o m j):=hp;have A:=hp.1;have d:Hid _:=E.out.later t;have M:Hid _:=L.out.on t E.out.size;have r:Hid (lA K w.heap.size #[.string m,.string b[i].data,.int .i64 b[i].y9] 98):=N.out.later t;have g4:=d.out.cell4;have x0:=r.out.cell 0;have x1:=r.out.cell 1;have x2:=r.out.cell 2;simp only[Xb,Kb,Fa]at x0 x1 x2;clear e4 t hp O E L N;cases hq:eF o m j with
 |true=>
  have HQ:Hid _:=hq;have hjl:j<o.length:=by
   rcases Ac j o.length with h|h
   ·exact h
   ·rw[eF,Td h]at hq;exact absurd hq (by simp)
  obtain⟨s,cap',ev,_,_⟩:=d.out.slice (by omega);obtain rfl:s=g:=by have:=P.out;rw[ev]at this;simpa[Value.ownBlock]using this
  simp only[Value.slice.injEq]at ev;obtain⟨rfl,_,rfl⟩:=ev;obtain⟨Q,_,a,hnc2,hcm2,S,f⟩:=bI d.out.row;have hsz2:j*3+2<Q.size:=by omega
  obtain⟨y0,z0⟩:=a.there (j:=j*3) (by omega);obtain⟨y1,z1⟩:=a.there (j:=j*3+1) (by omega);obtain⟨y2,z2⟩:=a.there (j:=j*3+2) (by omega);have k0:=a.free (j*3);have k1:=a.free (j*3+1);have k2:=a.free (j*3+2);have n:eD s K (((K.setCell ⟨s,j*3,none⟩ (.string m)).setCell ⟨s,j*3+1,none⟩ (.string b[i].data)).setCell ⟨s,j*3+2,none⟩ (.int .i64 b[i].y9)):=(((eD.refl _ _).setCell _ _).setCell _ _).setCell _ _;have u:Hid (oB (((K.setCell ⟨s,j*3,none⟩ (.string m)).setCell ⟨s,j*3+1,none⟩ (.string b[i].data)).setCell ⟨s,j*3+2,none⟩ (.int .i64 b[i].y9)) B D (o.set j ⟨m,b[i].data,b[i].y9⟩) c k H J I (.slice (some ⟨s,0,none⟩) o.length l)):=
   d.out.put n (((a.set (j*3) (.string m)).set (j*3+1) (.string b[i].data)).set (j*3+2) (.int .i64 b[i].y9)) (by simp[S]) (aDh hjl f ⟨m,b[i].data,b[i].y9⟩)
  have Y:Hid _:=M.out.but n a (Ba rfl) hBg d.out.size;clear hq a f n;go_wp2_with fail;go_region
  go_wp2;refine bodyPost_ret (results_none rfl _ _ _) rfl ?_;subst T;exact⟨rfl,j,_,HP.out,Y.out.on (Below.refl _ _).drew u.out.size,Ba ⟨HQ.out,u.out.later (Below.refl _ _).drew⟩⟩
 |false=>
  have HQ:Hid _:=hq;have x:(Value.slice G o.length l).ownBlock≠some D:=fun e=>d.out.apart D e rfl;have hap3:(Value.slice G o.length l).ownBlock≠some w.heap.size:=fun e=>by rw[P.out]at e;simp at e;omega
  have q:Hid (oB (K.drew.alloc (.cells #[.string m,.string b[i].data,.int .i64 b[i].y9] 98)) B D o c k H J I (.slice G o.length l)):=(d.out.later (Below.refl _ _).drew).later (cA _ _);clear hq;go_wp2_with fail;have hDl2:=aA d.out.blk;have hFl2:=aA r.out;go_region_with (go_at_call 160;refine(PK B K.heap.size j (.slice G o.length l) o ⟨m,b[i].data,b[i].y9⟩ _ q.out.row (heap_alloc_new _ _) (fun e=>by have:=uM d.out.row _ e;omega) A U q.out.size).mono ?_;rintro e w7 ⟨v',rfl,C,F,hat⟩;obtain⟨a7,cap7,rfl⟩:=RE C;have q4:=(q.out.blk.keeps F x).cell 4;have q5:=(q.out.blk.keeps F x).free 4;simp only[Xb,Kb,Fa]at q4)
  all_goals(
   go_wp2
   go_end0
   subst T
   obtain⟨p,R⟩:=q.out.inserted A C F hat
   exact⟨rfl,j,_,HP.out,((M.out.on (Below.refl _ _).drew d.out.size).on (cA _ _) d.out.size).trans R,Ea ⟨HQ.out,p⟩⟩)
theorem IW {S:Nat->Prop} {w j:World} {B:Nat} {e:TypeId} {a:Nat} {v:Value} {n:Nat} {k:List Value} (h:w.ownsRow B e a v n k) (p:jC S w j) (o:∀g,v.ownBlock=some g->¬S g):j.ownsRow B e a v n k:=by
 obtain⟨l,d⟩:=h;refine⟨l,?_⟩;rcases d with d|⟨g,b,c,i,m,f,r⟩
 ·exact Ba d
 ·exact Ea ⟨g,b,c,i,m,(p.block g (aA f) (o g (by rw[i];rfl))).trans f,r⟩
theorem oB.charged {w i:World} {B D:Nat} {j:List dA} {c k l d f:Int} {m a:Bool} {v:Value} (h:oB w B D j c k d f m v) (n:eD D w i) (b:lA i D #[.int .i64 l,.int .i64 d,.int .i64 f,.bool a,v,.int .i64 c] 138):oB i B D j c l d f a v:=
 ⟨h.from',b,IW h.row (jC.but n) (fun g o e=>h.apart g o e),h.apart⟩
def lG (e:List dA) (c k a d:Int) (b:Bool) (f:uR):Nat×List dA×Int×Bool:=
 if (cC k a d b).1=0 then((dM e c f).1,(dM e c f).2,(cC k a d b).2) else((cC k a d b).1,e,(cC k a d b).2)
structure ef (w:World) (B D:Nat) (fs:List dA) (c k cr fl:Int) (dn:Bool) (v:Value) (op:uR):Prop where
 drive:oB w B D fs c k cr fl dn v
 asc:dN fs
 len:fs.length≤1000
 sum:(xA fs:Int)≤c
 cap:c≤1000000000
 k0:0≤k
 k1:k≤1000000000000000
def CD (w:World) (B D:Nat) (g:List dA) (c k b d:Int) (f:Bool) (v:Value) (a:uR):Prop:=
 Calls prog 98 #[.pointer (some ⟨D,0,none⟩),.agg #[.int .i64 a.kind,.string a.name,.string a.tq,.string a.data,.int .i64 a.size]] w fun e h=>
  e=.returned (iG (lG g c k b d f a).1)/\Below B w h/\(a.kind<=6->kE w h)/\∃i,oB h B D (lG g c k b d f a).2.1 c (lG g c k b d f a).2.2.1 b d (lG g c k b d f a).2.2.2 i/\(a.kind=4->i=v)
theorem CG (k a c:Int) (b:Bool):(cC k a c b).1=0\/(cC k a c b).1=1\/(cC k a c b).1=2:=by
 unfold cC;split
 ·simp
 ·split
  ·simp
  ·split
   ·simp
   ·split<;>simp
theorem JT {a:List dA} {c:Int} {b:uR} (d:b.kind≠1) (e:eF a b.name (mA b.name a)=false):dM a c b=(4,a):=by
 unfold dM;simp only[Ca d];split
 ·rfl
 ·rw[Ga e]
theorem UY {a:List dA} {c:Int} {b:uR} (e:b.kind≠1) (f:eF a b.name (mA b.name a)=true) (d:mA b.name a<a.length):
 dM a c b=if b.kind=2 then(if c<xA a+b.data.size then(3,a) else(0,a.set (mA b.name a) ⟨a[mA b.name a].name,a[mA b.name a].data++b.data,a[mA b.name a].y9⟩))
  else if b.kind=3 then(0,a.set (mA b.name a) ⟨a[mA b.name a].name,a[mA b.name a].data,a[mA b.name a].data.size⟩)
  else if b.kind=4 then(if uA b.size 0 a[mA b.name a].data.size=true then(0,a.set (mA b.name a) ⟨a[mA b.name a].name,a[mA b.name a].data.extract 0 b.size.toNat,b.size⟩) else(6,a))
  else if b.kind=5 then(0,mG (a.eraseIdx (mA b.name a)) ⟨b.tq,a[mA b.name a].data,a[mA b.name a].y9⟩)
  else(0,a.eraseIdx (mA b.name a)):=by
 unfold dM;simp only[Ca e,Ka d,f,Bool.true_eq_false,Hg]
theorem cb (w:World) (B D:Nat) (n:List dA) (c k d g:Int) (f:Bool) (v:Value) (s:uR) (h:ef w B D n c k d g f v s) (r:(cC k d g f).1≠0):CD w B D n c k d g f v s:=by
 unfold CD;have m:Hid _:=h.drive;have p:=h.k0;have q:=h.k1;have E:Hid (lG n c k d g f s=((cC k d g f).1,n,(cC k d g f).2)):=by show _=_;rw[lG,Ca r]
 have t:Hid _:=Or.resolve_left (CG k d g f) r;clear h r;go_enter func98,ntmps98;go_wp2_with fail;refine(cV D 138 v (.int .i64 c) k d g f _ (m.out.later (cA _ _)).blk p q).mono ?_;rintro e z ⟨rfl,a,j⟩;have l:Hid _:=(m.out.later (cA _ _)).charged a j;have b:Hid _:=tH.charge m.out m.out.size a;clear a j;generalize x:cC k d g f=R at *;obtain⟨i,y,u⟩:=R;have o:Hid (i=1\/i=2):=t.out;clear t;rcases o.out with rfl|rfl
 ·simp only[iG];go_wp2;go_ret;rw[E.out];exact⟨rfl,b.out.below,fun _=>b.out.other,v,l.out,fun _=>rfl⟩
 ·simp only[iG];go_wp2;go_ret;rw[E.out];exact⟨rfl,b.out.below,fun _=>b.out.other,v,l.out,fun _=>rfl⟩
theorem oi (w:World) (B D:Nat) (b:List dA) (c k p q:Int) (r:Bool) (v:Value) (a:uR) (h:ef w B D b c k p q r v a) (I:(cC k p q r).1=0) (x:a.kind=1):CD w B D b c k p q r v a:=by
 unfold CD;have t:Hid _:=h.drive;have G:=h.k0;have H:=h.k1;have K:Hid (dN b):=h.asc;have M:=h.len;have E:Hid (lG b c k p q r a=((dM b c a).1,(dM b c a).2,(cC k p q r).2)):=by show _=_;rw[lG,Ga I]
 have Q:Hid _:=I;have y:Hid (dM b c a=if eF b a.name (mA a.name b)=true then(5,b) else if 1000<=b.length then(3,b) else(0,dK b (mA a.name b) ⟨a.name,ByteArray.empty,0⟩)):=by show _=_;simp[dM,x]
 have l:Hid _:=x;clear h I x;go_enter func98,ntmps98;go_wp2_with fail;refine(cV D 138 v (.int .i64 c) k p q r _ (t.out.later (cA _ _)).blk G H).mono ?_;rintro e O ⟨rfl,d,m⟩;have A:Hid _:=(t.out.later (cA _ _)).charged d m;have z:Hid _:=tH.charge t.out t.out.size d;have C:¬(w.heap.size=D):=by have:=aA t.out.blk;omega
 have P:Hid (dz O w.heap.size a 56):=lA.keeps (S:=fun k=>k=D) (g:=w.heap.size) (heap_alloc_new w (.cells #[.int .i64 a.kind,.string a.name,.string a.tq,.string a.data,.int .i64 a.size] 56)) (jC.but d) C;obtain⟨R,T,U,V,W⟩:=P.out.cells;clear d m;rw[Q.out];simp only[iG];have x:=l.out;clear U V W;go_wp2_with fail;refine(qo B D b c _ p q _ v a.name O A.out K.out (by omega)).mono ?_;rintro e X ⟨i,J,N,u,F⟩;obtain rfl:=N.uniq (kG a.name K.out);have f:Hid _:=z.out.trans u;clear N u R T;rcases F with⟨o,rfl,n⟩|⟨o,L,rfl,n⟩|⟨o,L,rfl,n⟩
 ·have s:Hid (dM b c a=(5,b)):=by show _=_;rw[y.out,Ga o]
  have j:Hid _:=n;clear o n;go_wp2;go_ret;rw[E.out,s.out];exact⟨rfl,f.out.below,fun _=>f.out.other,J,j.out,fun h=>(by have:=l.out;omega)⟩
 ·have s:Hid (dM b c a=(3,b)):=by show _=_;rw[y.out,Ca (by rw[o];simp),Ga L]
  have j:Hid _:=n;clear o n;go_wp2;go_ret;rw[E.out,s.out];exact⟨rfl,f.out.below,fun _=>f.out.other,J,j.out,fun h=>(by have:=l.out;omega)⟩
 ·have s:Hid (dM b c a=(0,dK b (mA a.name b) ⟨a.name,ByteArray.empty,0⟩)):=by show _=_;rw[y.out,Ca (by rw[o];simp),Ca (by omega)]
  have j:Hid _:=n;clear o n;go_wp2;go_ret;rw[E.out,s.out];exact⟨rfl,f.out.below,fun _=>f.out.other,J,j.out,fun h=>(by have:=l.out;omega)⟩
theorem bz (w:World) (B D:Nat) (d:List dA) (c k j l:Int) (m:Bool) (v:Value) (b:uR) (h:ef w B D d c k j l m v b) (M:(cC k j l m).1=0) (N:b.kind≠1) (L:eF d b.name (mA b.name d)=false):CD w B D d c k j l m v b:=by
 unfold CD;have r:Hid _:=h.drive;have H:=h.k0;have I:=h.k1;have R:Hid (dN d):=h.asc;have O:=h.len;have E:Hid (lG d c k j l m b=((dM d c b).1,(dM d c b).2,(cC k j l m).2)):=by show _=_;rw[lG,Ga M]
 have U:Hid _:=M;have Q:Hid (dM d c b=(4,d)):=JT N L;have T:Hid _:=L;have V:(b.kind==1)=false:=by simpa using N
 clear L;clear h M;go_enter func98,ntmps98;go_wp2_with fail;refine(cV D 138 v (.int .i64 c) k j l m _ (r.out.later (cA _ _)).blk H I).mono ?_;rintro e u ⟨rfl,f,n⟩;have i:Hid _:=(r.out.later (cA _ _)).charged f n;have p:Hid _:=tH.charge r.out r.out.size f;have G:¬(w.heap.size=D):=by have:=aA r.out.blk;omega
 have A:Hid (dz u w.heap.size b 56):=lA.keeps (S:=fun k=>k=D) (g:=w.heap.size) (heap_alloc_new w (.cells #[.int .i64 b.kind,.string b.name,.string b.tq,.string b.data,.int .i64 b.size] 56)) (jC.but f) G;obtain⟨X,P,Y,Z,o4⟩:=A.out.cells;clear f n;rw[U.out];simp only[iG];obtain⟨a,F,rfl,o⟩:=i.out.files;have p1:=oA.cells P;have p4:=oA.cells i.out.cell4;have K:=oA.there u;have t:Hid (∀x:oA u,iA x.w' a d):=fun x=>o.later x.h;have s:Hid (∀x:oA u,oB x.w' B D d c (cC k j l m).2.1 j l (cC k j l m).2.2 (.slice a d.length F)):=fun x=>i.out.later x.h;have C:Hid (∀x:oA u,dz x.w' w.heap.size b 56):=fun x=>lA.later A.out x.h;have J:d.length<=1048576:=by omega
 clear P Y Z o4 o A;go_wp2_with fail;refine jA (by kernel_rfl) (by kernel_rfl) ?_;repeat (go_big_quiet_step (first|(go_at_call 97;exact tA (zR _ _ _ _ _ (t.out _) R.out J))))
 refine wpQuiet_nil ?_;rintro _ ⟨y,rfl⟩;have z:Hid _:=s.out y;have q:Hid _:=p.out.on y.h i.out.size;clear X p1 p4 K s t C i p;generalize y.w'=W at *;clear y;rw[T.out];go_wp2;go_ret;rw[E.out,Q.out];exact⟨rfl,q.out.below,fun _=>q.out.other,_,z.out,fun _=>rfl⟩
theorem vd (w:World) (B D:Nat) (b:List dA) (c k r s:Int) (H:Bool) (v:Value) (d:uR) (h:ef w B D b c k r s H v d) (hr:(cC k r s H).1=0) (X:d.kind≠1) (hop:1<=d.kind/\d.kind<=6) (hq:eF b d.name (mA d.name b)=true):CD w B D b c k r s H v d:=by
 unfold CD;have HD:=bA h.drive;have HA:=bA h.asc;obtain⟨-,-,hlen,hsum,hcap,hk0,hk1⟩:=h;have E:Hid (lG b c k r s H d=((dM b c d).1,(dM b c d).2,(cC k r s H).2)):=by show _=_;rw[lG,Ga hr]
 have HR:=bA hr;obtain⟨N,-⟩:=CY hq;have z:=bA (UY (c:=c) X hq N);have HQ:=bA hq;have h1b:(d.kind==1)=false:=by simpa using X
 have HKS:Hid (d.kind=2\/d.kind=3\/d.kind=4\/d.kind=5\/d.kind=6):=by show _\/_;omega
 clear hr hq hop;go_enter func98,ntmps98;go_wp2_with fail;refine(cV D 138 v (.int .i64 c) k r s H _ (HD.out.later (cA _ _)).blk hk0 hk1).mono ?_;rintro e w1 ⟨rfl,n,l⟩;have J:Hid _:=(HD.out.later (cA _ _)).charged n l;have HB1:Hid _:=tH.charge HD.out HD.out.size n;have hOD:¬(w.heap.size=D):=by have:=aA HD.out.blk;omega
 have HO:Hid (dz w1 w.heap.size d 56):=lA.keeps (S:=fun k=>k=D) (g:=w.heap.size) (heap_alloc_new w (.cells #[.int .i64 d.kind,.string d.name,.string d.tq,.string d.data,.int .i64 d.size] 56)) (jC.but n) hOD;obtain⟨Z,u,I,G,L⟩:=HO.out.cells;clear n l;rw[HR.out];simp only[iG];obtain⟨a,cap,rfl,Y⟩:=J.out.files;have p1:=oA.cells u;have p4:=oA.cells J.out.cell4;have hne:=oA.there w1;have HFx:Hid (∀x:oA w1,iA x.w' a b):=fun x=>Y.later x.h;have HDx:Hid (∀x:oA w1,oB x.w' B D b c (cC k r s H).2.1 r s (cC k r s H).2.2 (.slice a b.length cap)):=fun x=>J.out.later x.h;have HOx:Hid (∀x:oA w1,dz x.w' w.heap.size d 56):=fun x=>lA.later HO.out x.h;have R:b.length<=1048576:=by omega
 clear u I G L Y HO;go_wp2_with fail;refine jA (by kernel_rfl) (by kernel_rfl) ?_;repeat (go_big_quiet_step (first|(go_at_call 97;exact tA (zR _ _ _ _ _ (HFx.out _) HA.out R))))
 refine wpQuiet_nil ?_;rintro _ ⟨y,rfl⟩;have i:Hid _:=HDx.out y;have F:Hid (dz y.w' w.heap.size d 56):=HOx.out y;have C:Hid _:=HB1.out.on y.h J.out.size;clear Z p1 p4 hne HDx HFx HOx J HB1;generalize y.w'=W at *;clear y;rw[HQ.out];clear h1b X;rcases HKS.out with K|K|K|K|K
 all_goals
  have HKD:=bA K;clear HKS
 ·have ED:Hid (dM b c d=if c<xA b+d.data.size then(3,b) else(0,b.set (mA d.name b) ⟨b[mA d.name b].name,b[mA d.name b].data++d.data,b[mA d.name b].y9⟩)):=by show _=_;rw[z.out];simp[K]
  obtain⟨Z,u,I,G,L⟩:=F.out.cells;clear u I L;go_wp2_with fail;refine(YD B D _ b c _ r s _ _ d.data _ i.out N R hsum hcap).mono ?_;rintro e w3 ⟨t,o⟩;have m:Hid _:=C.out.trans o;clear o Z G;rcases t with⟨T,rfl,hd⟩|⟨hge,rfl,hd⟩
  ·have A:Hid (dM b c d=(3,b)):=by show _=_;rw[ED.out,Ga T]
   have p:Hid _:=hd;clear hd T;go_wp2;go_ret;rw[E.out,A.out];exact⟨rfl,m.out.below,fun _=>m.out.other,_,p.out,fun _=>rfl⟩
  ·have A:Hid (dM b c d=(0,b.set (mA d.name b) ⟨b[mA d.name b].name,b[mA d.name b].data++d.data,b[mA d.name b].y9⟩)):=by show _=_;rw[ED.out,Ca (by omega)]
   have p:Hid _:=hd;clear hd hge;go_wp2;go_ret;rw[E.out,A.out];exact⟨rfl,m.out.below,fun _=>m.out.other,_,p.out,fun _=>rfl⟩
 ·have A:Hid (dM b c d=(0,b.set (mA d.name b) ⟨b[mA d.name b].name,b[mA d.name b].data,b[mA d.name b].data.size⟩)):=by show _=_;rw[z.out];simp[K]
  obtain⟨Z,u,I,G,L⟩:=F.out.cells;obtain⟨g,U,V,hgD,P⟩:=i.out.slice (by omega);simp only[Value.slice.injEq]at V;obtain⟨rfl,_,rfl⟩:=V;obtain⟨q,_,l,hnc,hcm,Q,f⟩:=bI i.out.row;have M:=(f _ N).2.1;rw[Oa]at M;have q4:=i.out.cell4;have HS:Hid (Calls prog 130 #[.pointer (some ⟨g,mA d.name b*3,none⟩)] W fun e w'=>e=.returned (.tuple #[])/\w'=W.setCell ⟨g,mA d.name b*3+2,none⟩ (.int .i64 b[mA d.name b].data.size)):=ot g _ q 98 _ W l M (by omega);have p:Hid (oB (W.setCell ⟨g,mA d.name b*3+2,none⟩ (.int .i64 b[mA d.name b].data.size)) B D (b.set (mA d.name b) ⟨b[mA d.name b].name,b[mA d.name b].data,b[mA d.name b].data.size⟩) c (cC k r s H).2.1 r s (cC k r s H).2.2 (.slice (some ⟨g,0,none⟩) b.length cap)):=
   i.out.put ((eD.refl _ _).setCell _ _) (l.set _ _) (by simp[Q]) (aDg N f _)
  have m:Hid (tH B w (W.setCell ⟨g,mA d.name b*3+2,none⟩ (.int .i64 b[mA d.name b].data.size))):=C.out.set l (Ba rfl) P _;clear l f M u I G L;go_wp2_with fail;refine HS.out.mono ?_;rintro e w3 ⟨rfl,rfl⟩;go_wp2;go_ret;rw[E.out,A.out];exact⟨rfl,m.out.below,fun _=>m.out.other,_,p.out,fun _=>rfl⟩
 ·cases hb:uA d.size 0 b[mA d.name b].data.size
  ·have A:Hid (dM b c d=(6,b)):=by show _=_;rw[z.out];simp[K,hb]
   obtain⟨Z,u,I,G,L⟩:=F.out.cells;obtain⟨g,U,V,hgD,P⟩:=i.out.slice (by omega);simp only[Value.slice.injEq]at V;obtain⟨rfl,_,rfl⟩:=V;obtain⟨q,_,l,hnc,hcm,Q,f⟩:=bI i.out.row;have M:=(f _ N).2.1;rw[Oa]at M;have q4:=i.out.cell4;have HS:Hid _:=fun W' h=>dd g _ q 98 _ d.size W' h M hb;have O:Hid (lA W g q 98):=l;clear l f M u I G hb;go_wp2_with fail;go_region_with (go_at_call 131;refine(HS.out _ (O.out.later (Below.refl _ _).drew)).mono ?_;rintro e w3 ⟨rfl,o⟩)
   all_goals(
    simp only[iG]
    go_wp2
    go_ret
    rw[E.out,A.out]
    have hR:tH B w _:=(C.out.on (Below.refl _ _).drew i.out.size).on o i.out.size
    exact⟨rfl,hR.below,fun _=>hR.other,_,(i.out.later (Below.refl _ _).drew).later o,fun _=>rfl⟩)
  ·have A:Hid (dM b c d=(0,b.set (mA d.name b) ⟨b[mA d.name b].name,b[mA d.name b].data.extract 0 d.size.toNat,d.size⟩)):=by show _=_;rw[z.out];simp[K,hb]
   have hdl:b[mA d.name b].data.size<=1000000000:=by
    have X:=eG b _ N;have h2:=oF b (mA d.name b+1);omega
   obtain⟨Z,u,I,G,L⟩:=F.out.cells;obtain⟨g,U,V,hgD,P⟩:=i.out.slice (by omega);simp only[Value.slice.injEq]at V;obtain⟨rfl,_,rfl⟩:=V;obtain⟨q,_,l,hnc,hcm,Q,f⟩:=bI i.out.row;have M:=(f _ N).2.1;rw[Oa]at M;have q4:=i.out.cell4;have HS:Hid (∀W',lA W' g q 98->Calls prog 131 #[.pointer (some ⟨g,mA d.name b*3,none⟩),.int .i64 d.size] W' fun e w'=>e=.returned (iG 0)/\eD g W' w'/\
    lA w' g ((q.setIfInBounds (mA d.name b*3+1) (.string (b[mA d.name b].data.extract 0 d.size.toNat))).setIfInBounds (mA d.name b*3+2) (.int .i64 d.size)) 98):=fun W' h=>pj g _ q 98 _ d.size W' h M (by omega) hb hdl
   have O:Hid (lA W g q 98):=l;have HRW:Hid _:=f;clear l f M u I G hb hdl;go_wp2_with fail;go_region_with (go_at_call 131;refine(HS.out _ (O.out.later (Below.refl _ _).drew)).mono ?_;rintro e w3 ⟨rfl,n,o⟩)
   all_goals(
    simp only[iG]
    go_wp2
    go_ret
    rw[E.out,A.out]
    have hR:tH B w _:=(C.out.on (Below.refl _ _).drew i.out.size).but n (O.out.later (Below.refl _ _).drew) (Ba rfl) P i.out.size
    exact⟨rfl,hR.below,fun _=>hR.other,_,(i.out.later (Below.refl _ _).drew).put n o (by simp[Q]) (aIj N HRW.out _ _),fun _=>rfl⟩)
 ·have A:Hid (dM b c d=(0,mG (b.eraseIdx (mA d.name b)) ⟨d.tq,b[mA d.name b].data,b[mA d.name b].y9⟩)):=by show _=_;rw[z.out];simp[K]
  obtain⟨Z,u,I,G,L⟩:=F.out.cells;clear u G L;go_wp2_with fail;refine(uj B D _ b c _ r s _ _ d.tq _ i.out N (HA.out.erase _) R).mono ?_;rintro e w3 ⟨rfl,j,v3,hp,o,t⟩;obtain rfl:=hp.uniq (kG d.tq (HA.out.erase _));have m:Hid _:=C.out.trans o;have p:Hid (oB w3 B D (mG (b.eraseIdx (mA d.name b)) ⟨d.tq,b[mA d.name b].data,b[mA d.name b].y9⟩) c (cC k r s H).2.1 r s (cC k r s H).2.2 v3):=by
   rcases t with⟨X,h2⟩|⟨X,h2⟩
   ·obtain⟨T,hnm⟩:=CY X;show oB _ _ _ _ _ _ _ _ _ _;rw[SG (HA.out.erase _) T hnm];exact h2
   ·show oB _ _ _ _ _ _ _ _ _ _;rw[SF (HA.out.erase _) X];exact h2
  clear t o hp;go_wp2;go_ret;rw[E.out,A.out];exact⟨rfl,m.out.below,fun _=>m.out.other,v3,p.out,fun h=>(by have:=HKD.out;omega)⟩
 ·have A:Hid (dM b c d=(0,b.eraseIdx (mA d.name b))):=by show _=_;rw[z.out];simp[K]
  obtain⟨Z,u,I,G,L⟩:=F.out.cells;clear u I G L;go_wp2_with fail;refine(QZ B D _ b c _ r s _ _ _ i.out N R).mono ?_;rintro e w3 ⟨rfl,v3,t,_,hk3⟩;have p:Hid _:=t;have m:Hid _:=C.out.trans (tH.removed i.out hk3);clear t hk3;go_wp2;go_ret;rw[E.out,A.out];exact⟨rfl,m.out.below,fun _=>m.out.other,v3,p.out,fun h=>(by have:=HKD.out;omega)⟩
theorem aIq (w:World) (B D:Nat) (b:List dA) (c k d f:Int) (e:Bool) (v:Value) (a:uR) (h:ef w B D b c k d f e v a) (j:uA a.kind 1 6=true):CD w B D b c k d f e v a:=by
 have l:1<=a.kind/\a.kind<=6:=by simpa[uA]using j
 by_cases g:(cC k d f e).1=0
 ·by_cases i:a.kind=1
  ·exact oi w B D b c k d f e v a h g i
  ·cases hq:eF b a.name (mA a.name b) with
   |false=>exact bz w B D b c k d f e v a h g i hq
   |true=>exact vd w B D b c k d f e v a h g i l hq
 ·exact cb w B D b c k d f e v a h g
theorem RH (e:List dA) (c k a d:Int) (b:Bool) (f:uR):(lG e c k a d b f).1<=6:=by
 unfold lG;split
 ·show(dM e c f).1<=6;unfold dM;simp only;repeat' split
  all_goals simp
 ·rcases CG k a d b with h|h|h<;>simp[h]
theorem LI {w c:World} {x y z:Array Value} {a b e:TypeId} (d:Below (((w.alloc (.cells x a)).alloc (.cells y b)).alloc (.cells z e)).heap.size (((w.alloc (.cells x a)).alloc (.cells y b)).alloc (.cells z e)) c):
 lA c w.heap.size x a/\lA c (w.heap.size+1) y b/\lA c (w.heap.size+1+1) z e/\Below w.heap.size w c:=by
 refine⟨?_,?_,?_,pA (pA (pA (cA _ _) (cA _ _)) (cA _ _)) d⟩
 ·exact(lA.later (lA.later (lA.later (g:=w.heap.size) (heap_alloc_new w (.cells x a)) (Below.refl _ _)) (cA _ _)) (cA _ _)).later d
 ·have h:=lA.later (g:=(w.alloc (.cells x a)).heap.size) (heap_alloc_new (w.alloc (.cells x a)) (.cells y b)) (pA (cA _ _) d);simpa using h
 ·have h:=lA.later (g:=((w.alloc (.cells x a)).alloc (.cells y b)).heap.size) (heap_alloc_new ((w.alloc (.cells x a)).alloc (.cells y b)) (.cells z e)) d;simpa using h
def yP (d:List dA) (c k a b:Int) (f:Bool) (e:uR):Nat×List dA×Int×Int×Int×Int×Bool:=
 if (vC d c k a b&&dr e)=true then((lG d c k a b f e).1,(lG d c k a b f e).2.1,c,(lG d c k a b f e).2.2.1,a,b,(lG d c k a b f e).2.2.2) else(6,[],0,0,0,0,false)
def aQc (R:Nat×List dA×Int×Int×Int×Int×Bool) (a:Option Addr) (b:Nat):Value:=
 .tuple #[.agg #[.slice a R.2.1.length b,.int .i64 R.2.2.1,.int .i64 R.2.2.2.1,.int .i64 R.2.2.2.2.1,.int .i64 R.2.2.2.2.2.1,.bool R.2.2.2.2.2.2],.int .i64 R.1]
def yx (w:World) (a:List TV):Prop:=∀y∈a,vA w y.a1 y.t.m9/\vA w y.a2 y.t.s9
theorem yx.snoc {w:World} {ys:List TV} (h:yx w ys) {y:TV} (b:vA w y.a1 y.t.m9) (c:vA w y.a2 y.t.s9):yx w (ys++[y]):=fun z a=>by
 rcases Ie.1 a with a|a
 ·exact h z a
 ·rw[Uf.1 a];exact⟨b,c⟩
theorem aAp:∀(l:List TV) (i:Nat) (a:i<l.length),(xH l)[i*4]?=some (.string l[i].t.name)/\(xH l)[i*4+1]?=some (.int .i64 l[i].t.l9)/\(xH l)[i*4+2]?=some (.slice l[i].a1 l[i].t.m9.length l[i].c1)/\(xH l)[i*4+3]?=some (.slice l[i].a2 l[i].t.s9.length l[i].c2):=by
 intro l;unfold xH;induction l with
 |nil=>intro i a;exact absurd a (by simp)
 |cons x r b=>
  intro i a;cases i with
  |zero=>simp
  |succ i=>
   have:=b i (by simpa using a);simp only[Yc,Hd,Jb,Vb];refine⟨?_,?_,?_,?_⟩
   ·rw[show(i+1)*4=i*4+1+1+1+1 by omega,Fa,Fa,Fa,Fa];exact this.1
   ·rw[show(i+1)*4+1=i*4+1+1+1+1+1 by omega,Fa,Fa,Fa,Fa];exact this.2.1
   ·rw[show(i+1)*4+2=i*4+2+1+1+1+1 by omega,Fa,Fa,Fa,Fa];exact this.2.2.1
   ·rw[show(i+1)*4+3=i*4+3+1+1+1+1 by omega,Fa,Fa,Fa,Fa];exact this.2.2.2
theorem aMd {w d:World} {B:Nat} {e:TypeId} {a:Option Addr} {k:Nat} {c:List TV} (h:d.ownsRow B e 4 (.slice a c.length k) c.length (xH c)) (y:yx w c):
 ∀i (m:i<c.length),∃b,a=some ⟨b,0,none⟩/\b<d.heap.size/\d.cell? ⟨b,i*4,none⟩=some (.string c[i].t.name)/\d.cell? ⟨b,i*4+1,none⟩=some (.int .i64 c[i].t.l9)/\d.cell? ⟨b,i*4+2,none⟩=some (.slice c[i].a1 c[i].t.m9.length c[i].c1)/\d.cell? ⟨b,i*4+3,none⟩=some (.slice c[i].a2 c[i].t.s9.length c[i].c2)/\vA w c[i].a1 c[i].t.m9/\vA w c[i].a2 c[i].t.s9:=by
 intro i m;rcases h.2 with⟨_,E⟩|⟨g,o,l,p,D,q,_,_,z,n⟩
 ·omega
 ·simp only[Value.slice.injEq]at p;obtain⟨r,s,u,v⟩:=aAp c i m;have f:∀j,j<c.length*4->d.cell? ⟨g,j,none⟩=(xH c)[j]?:=fun j x=>by
   rw[lA.cell (show lA d g l e from q) j,<-Sd,<-n,Eb x]
  obtain⟨A,C⟩:=y c[i] (Db m);refine⟨g,p.1,aA q,?_,?_,?_,?_,A,C⟩
  ·rw[f _ (by omega)];exact r
  ·rw[f _ (by omega)];exact s
  ·rw[f _ (by omega)];exact u
  ·rw[f _ (by omega)];exact v
theorem vY {w e:World} {x y:Array Value} {b d:TypeId} (f:Below ((w.alloc (.cells x b)).alloc (.cells y d)).heap.size ((w.alloc (.cells x b)).alloc (.cells y d)) e):
 lA e w.heap.size x b/\lA e (w.heap.size+1) y d/\Below w.heap.size w e:=by
 refine⟨?_,?_,pA (pA (cA _ _) (cA _ _)) f⟩
 ·exact(lA.later (lA.later (g:=w.heap.size) (heap_alloc_new w (.cells x b)) (Below.refl _ _)) (cA _ _)).later f
 ·have h:=lA.later (g:=(w.alloc (.cells x b)).heap.size) (heap_alloc_new (w.alloc (.cells x b)) (.cells y d)) f;simpa using h
def aDz (w:World) (b:Nat) (a:Option Addr) (n cap:Nat) (c k cr fl:Int) (dn:Bool):Prop:=lA w b #[.slice a n cap,.int .i64 c,.int .i64 k,.int .i64 cr,.int .i64 fl,.bool dn] 30
structure UD (w:World) (a:Option Addr) (fs:List dA) (c:Int) (op:uR):Prop where
 files:iA w a fs
 asc:dN fs
 len:fs.length≤1000
 sum:(xA fs:Int)≤c
 cap:c≤1000000000
 data:op.data.size≤200000000
def XY (w:World) (a:Option Addr) (cap:Nat) (fs:List dA) (c k cr fl:Int) (dn:Bool) (op:uR):Prop:=
 Calls prog 44 #[.agg #[.slice a fs.length cap,.int .i64 c,.int .i64 k,.int .i64 cr,.int .i64 fl,.bool dn],.agg #[.int .i64 op.kind,.string op.name,.string op.tq,.string op.data,.int .i64 op.size]] w fun e f=>
  ∃d b,e=.returned (.tuple #[.slice d (dM fs c op).2.length b,.int .i64 (dM fs c op).1])/\iA f d (dM fs c op).2/\Below w.heap.size w f
section
variable {w:World} {a:Option Addr} {cap:Nat} {fs:List dA} {c k cr fl:Int} {dn:Bool} {op:uR}
theorem aU {d:Int} {t:ByteArray} {x:Int} (h:zD t fs 0=x) (w:World) (f:iA w a fs) (b:fs.length<=maxLen):
 Calls prog 18 #[.agg #[.slice a fs.length cap,.int .i64 c,.int .i64 d,.int .i64 cr,.int .i64 fl,.bool dn],.string t] w fun e g=>e=.returned (.int .i64 x)/\Below w.heap.size w g:=h ▸ AQ a cap fs c d cr fl dn t w f b
theorem de (f:dA) (j:iA w a fs) (l:fs.length<=1048576):Calls prog 78 #[.slice a fs.length cap,.agg #[.string f.name,.string f.data,.int .i64 f.y9]] w fun e g=>∃d b,e=.returned (.slice d (mG fs f).length b)/\iA g d (mG fs f)/\Below w.heap.size w g:=
 (rp a cap fs f w j l).mono fun e g ⟨v,i,n,h⟩=>by obtain⟨d,b,rfl,m⟩:=fK n;exact⟨d,b,i,m.files,h⟩
theorem aMs {x:Nat×List dA} {f:dA} (_:x=(0,mG fs f)) (h:iA w a fs) (i:fs.length<=1048576):Calls prog 78 #[.slice a fs.length cap,.agg #[.string f.name,.string f.data,.int .i64 f.y9]] w fun e g=>∃d b,e=.returned (.slice d (mG fs f).length b)/\iA g d (mG fs f)/\Below w.heap.size w g:=de f h i
theorem XW (t:ByteArray) (i:iA w a fs) (j:fs.length<=1048576):Calls prog 79 #[.slice a fs.length cap,.string t] w fun e f=>∃d b,e=.returned (.slice d (bC fs t).length b)/\iA f d (bC fs t)/\Below w.heap.size w f:=
 (kZ a cap fs t w i j).mono fun e f ⟨v,h,m,g⟩=>by obtain⟨d,b,rfl,l⟩:=fK m;exact⟨d,b,h,l.files,g⟩
theorem YU (g:dN fs) (j:op.kind≠1) (i:eF fs op.name (mA op.name fs)=true):∃(d:mA op.name fs<fs.length) (b:dA),fs[mA op.name fs]=b/\zD op.name fs 0=(mA op.name fs:Int)/\
 dM fs c op=if op.kind=2 then(if c<xA fs+op.data.size then(3,fs) else(0,mG fs ⟨b.name,b.data++op.data,b.y9⟩)) else if op.kind=3 then(0,mG fs ⟨b.name,b.data,b.data.size⟩)
  else if op.kind=4 then(if uA op.size 0 b.data.size=true then(0,mG fs ⟨b.name,b.data.extract 0 op.size.toNat,op.size⟩) else(6,fs)) else if op.kind=5 then(0,mG (bC fs op.name) ⟨op.tq,b.data,b.y9⟩) else(0,bC fs op.name):=by
 obtain⟨d,h⟩:=CY i;have W:=fun f e=>SG (f:=f) g d e;refine⟨d,_,rfl,by rw[uT g (kG op.name g),Ga i],?_⟩;rw[UY j i d,show fs.eraseIdx (mA op.name fs)=bC fs op.name by rw[<-lT g d,h],W ⟨_,fs[mA op.name fs].data++op.data,_⟩ rfl,W ⟨_,_,fs[mA op.name fs].data.size⟩ rfl,W ⟨_,fs[mA op.name fs].data.extract 0 op.size.toNat,_⟩ rfl]
end
theorem aNe (w:World) (a:Option Addr) (cap:Nat) (fs:List dA) (c k cr fl:Int) (dn:Bool) (op:uR) (h:UD w a fs c op) (B:op.kind=1\/op.kind≠1/\eF fs op.name (mA op.name fs)=false):XY w a cap fs c k cr fl dn op:=by
 unfold XY;have d:∃x,zD op.name fs 0=x/\(op.kind=1/\(x=(mA op.name fs:Int)/\dM fs c op=(5,fs)\/x = -1/\((fs.length:Int)=1000/\dM fs c op=(3,fs)\/¬(fs.length:Int)=1000/\dM fs c op=(0,mG fs ⟨op.name,ByteArray.empty,0⟩)))\/(op.kind==1)=false/\x = -1/\dM fs c op=(4,fs)):=by
  refine⟨_,uT h.asc (kG op.name h.asc),?_⟩;rcases B with g|⟨g,i⟩
  ·cases i:eF fs op.name (mA op.name fs)
   ·refine Ba ⟨g,Ea ⟨by simp,?_⟩⟩;have:=h.len;by_cases v:fs.length=1000
    ·exact Ba ⟨by omega,by simp[dM,g,i,v]⟩
    ·refine Ea ⟨by omega,?_⟩;rw[SF (f:=⟨op.name,ByteArray.empty,0⟩) h.asc i];simp only[dM,Ga g,i,Gd,Hg];rw[Ca (by omega)]
   ·exact Ba ⟨g,Ba ⟨by simp,by simp[dM,g,i]⟩⟩
  ·exact Ea ⟨by simpa using g,by simp[i],JT g i⟩
 obtain⟨x,r,d⟩:=d;have A:=bA h.files;have m:=bA r;have D:=h.len;have y:fs.length<=maxLen:=by simp[maxLen];omega
 obtain⟨I,G,M,F,L⟩:=op;clear h B r;dsimp only at d m |-
 rcases d with⟨rfl,⟨rfl,j⟩|⟨rfl,⟨v,j⟩|⟨v,j⟩⟩⟩|⟨g,rfl,j⟩
 all_goals
  have j:=bA j;go_enter func44,ntmps44;go_wp2_with fail;refine(aU m.out _ ((A.out.later (cA _ _)).later (cA _ _)) y).mono ?_;rintro e N ⟨rfl,o⟩;obtain⟨q,s,b⟩:=vY o;have z:=bA b;have l:=bA (A.out.later b);obtain⟨J,K,-⟩:=s.c5;obtain⟨H,-⟩:=q.c6;clear o q s b;go_wp2_with(go_at_call 78;refine(de ⟨G,ByteArray.empty,0⟩ l.out (by omega)).mono ?_;rintro e O ⟨E,n,rfl,C,p⟩;have u:=bA C;have t:=bA (pA z.out p);clear C p);go_ret2;rw[j.out];first
   |exact⟨a,cap,rfl,l.out,z.out⟩
   |exact⟨E,n,rfl,u.out,t.out⟩
theorem aFg (w:World) (a:Option Addr) (cap:Nat) (fs:List dA) (c k cr fl:Int) (dn:Bool) (op:uR) (h:UD w a fs c op) (d:op.kind=3\/op.kind=4\/op.kind=6) (N:eF fs op.name (mA op.name fs)=true):XY w a cap fs c k cr fl dn op:=by
 unfold XY;obtain⟨L,j,A,z,p⟩:=YU (c:=c) h.asc (by omega) N;have x:op.kind=3/\dM fs c op=(0,mG fs ⟨j.name,j.data,j.data.size⟩)\/op.kind=4/\(uA op.size 0 j.data.size=false/\dM fs c op=(6,fs)\/uA op.size 0 j.data.size=true/\(0<=op.size/\op.size<=j.data.size)/\dM fs c op=(0,mG fs ⟨j.name,j.data.extract 0 op.size.toNat,op.size⟩))\/op.kind=6/\dM fs c op=(0,bC fs op.name):=by
  rcases d with d|d|d
  ·exact Ba ⟨d,by rw[p];simp[d]⟩
  ·refine Ea (Ba ⟨d,?_⟩);cases B:uA op.size 0 j.data.size
   ·exact Ba ⟨rfl,by rw[p];simp[d,B]⟩
   ·exact Ea ⟨rfl,by simpa[uA]using B,by rw[p];simp[d,B]⟩
  ·exact Ea (Ea ⟨d,by rw[p];simp[d]⟩)
 have I:=bA h.files;have s:=bA z;have M:=h.len;have H:fs.length<=maxLen:=by simp[maxLen];omega
 have t:=bA A;obtain⟨kd,V,tq,R,sz⟩:=op;clear h d z N p A;dsimp only at x s t L |-
 rcases x with⟨rfl,m⟩|⟨rfl,⟨B,m⟩|⟨B,⟨T,U⟩,m⟩⟩|⟨rfl,m⟩
 all_goals
  have m:=bA m;go_enter func44,ntmps44;go_wp2_with fail;refine(aU s.out _ ((I.out.later (cA _ _)).later (cA _ _)) H).mono ?_;rintro e C ⟨rfl,v⟩;obtain⟨y,n,g⟩:=vY v;have D:=bA g;have i:=bA (I.out.later g);obtain⟨o0,o1,o2,o3,o4⟩:=n.c5;obtain⟨Y,-⟩:=y.c6;obtain⟨b,o,rfl,Z,O,P,Q⟩:=i.out.at L;rw[t.out]at O P Q;have S:=aA n;have K:w.heap.size<C.heap.size:=by omega
  try have F:=bA (fun W (G:Below C.heap.size C W)=>aMs (cap:=cap) m.out (i.out.later G) (by omega))
  have E:=bA (fun W (G:Below C.heap.size C W)=>XW (cap:=cap) V (i.out.later G) (by omega));clear v y n g;go_wp2_with(first
   |(go_at_call 41;refine(yC (by assumption) _).mono ?_;rintro e w3 ⟨rfl,rfl⟩)
   |(go_at_call 78;refine(F.out _ (cA _ _)).mono ?_;rintro e X ⟨J,l,rfl,u,f⟩;have r:=bA u;have q:=bA (pA D.out (pA (cA _ _) f));clear u f)
   |(go_at_call 79;refine(E.out _ (cA _ _)).mono ?_;rintro e X ⟨J,l,rfl,u,f⟩;have r:=bA u;have q:=bA (pA D.out (pA (cA _ _) f));clear u f))
  go_ret2;rw[m.out];first
   |exact⟨J,l,rfl,r.out,q.out⟩
   |exact⟨_,cap,rfl,i.out.later (cA _ _),pA D.out (cA _ _)⟩
