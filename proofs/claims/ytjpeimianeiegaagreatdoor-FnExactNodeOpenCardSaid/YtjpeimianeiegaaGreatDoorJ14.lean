import Derived.Test.YtjpeimianeiegaaGreatDoorJ13
set_option maxRecDepth 100000
set_option maxHeartbeats 4000000
namespace Go.Proofs.YtjpeimianeiegaaGreatDoor
open Go.RowKit Tryz
structure kB where
 fs:List dA
 c:Int
 k:Int
 cr:Int
 fl:Int
 dn:Bool
structure zH where
 first:Int
 last:Int
 size:Int
structure cF where
 d:kB
 l:zH
 now:Int
 ts:List eA
 lsn:Int
 deg:Bool
 up:Bool
def cG (a:Option Addr) (e:Nat) (b:Option Addr) (f:Nat) (N:cF):Array Value:=#[.slice a N.d.fs.length e,.int .i64 N.d.c,.int .i64 N.d.k,.int .i64 N.d.cr,.int .i64 N.d.fl,.bool N.d.dn,.int .i64 N.l.first,.int .i64 N.l.last,.int .i64 N.l.size,.int .i64 N.now,.slice b N.ts.length f,.int .i64 N.lsn,.bool N.deg,.bool N.up]
theorem lA.n14 {w:World} {b:Nat} {a c d e f g i j k l m n o p:Value} {t:TypeId} (h:lA w b #[a,c,d,e,f,g,i,j,k,l,m,n,o,p] t):
 w.cell? ⟨b,0,none⟩=some a/\w.cell? ⟨b,1,none⟩=some c/\w.cell? ⟨b,2,none⟩=some d/\w.cell? ⟨b,3,none⟩=some e/\w.cell? ⟨b,4,none⟩=some f/\w.cell? ⟨b,5,none⟩=some g/\w.cell? ⟨b,6,none⟩=some i/\
 w.cell? ⟨b,7,none⟩=some j/\w.cell? ⟨b,8,none⟩=some k/\w.cell? ⟨b,9,none⟩=some l/\w.cell? ⟨b,10,none⟩=some m/\w.cell? ⟨b,11,none⟩=some n/\w.cell? ⟨b,12,none⟩=some o/\w.cell? ⟨b,13,none⟩=some p:=by
 refine⟨?_,?_,?_,?_,?_,?_,?_,?_,?_,?_,?_,?_,?_,?_⟩<;>(rw[lA.cell h];rfl)
theorem lA.frees {w:World} {b:Nat} {cs:Array Value} {t:TypeId} (h:lA w b cs t):w.frozen? ⟨b,0,none⟩=false/\w.frozen? ⟨b,1,none⟩=false/\w.frozen? ⟨b,2,none⟩=false/\w.frozen? ⟨b,3,none⟩=false/\w.frozen? ⟨b,4,none⟩=false/\w.frozen? ⟨b,5,none⟩=false/\w.frozen? ⟨b,6,none⟩=false/\
 w.frozen? ⟨b,7,none⟩=false/\w.frozen? ⟨b,8,none⟩=false/\w.frozen? ⟨b,9,none⟩=false/\w.frozen? ⟨b,10,none⟩=false/\w.frozen? ⟨b,11,none⟩=false/\w.frozen? ⟨b,12,none⟩=false/\w.frozen? ⟨b,13,none⟩=false:=
 ⟨h.free 0,h.free 1,h.free 2,h.free 3,h.free 4,h.free 5,h.free 6,h.free 7,h.free 8,h.free 9,h.free 10,h.free 11,h.free 12,h.free 13⟩
theorem VY {p:FuncId} (S:p=116\/p=117) (V:Int) (a:Option Addr) (I:Nat) (u:List fA) (k B F:Nat) (T:Nat->Nat) (w:World) (M:V=(k:Int)) (hk:0<k) (Y:k+2*u.length<=100000000) (R:oD w B T F a u):
 Calls prog p #[.slice a u.length I,.int .i64 V] w fun e W=>e=.returned (.int .i64 ((k+2*u.length:Nat):Int))/\gA (fun g=>B<=g/\T g=F) w W/\oD W B T F a (tF k u.length):=by
 subst M;have K:u=[]\/(0<u.length/\∃g o q t,a=some ⟨g,o,none⟩/\B<=g/\T g=F/\w.heap[g]?=some (.cells q t (0,0))/\gY w g o u):=by
  rcases R with h|h
  ·exact Ba h
  ·by_cases O:u=[]
   ·exact Ba O
   ·exact Ea ⟨Sg.2 O,h⟩
 clear R;rcases K with rfl|⟨U,g,o,q,t,rfl,P,Q,L,D⟩
 ·rcases S with rfl|rfl
  go_enter func116,ntmps116;rotate_left;go_enter func117,ntmps117;all_goals
   go_wp2;go_loopw [1,5] (fun l i wr=>l=.int .i64 (k:Int)/\i=.int .i64 0/\wr=w) (fun _ i _=>0)
   case atStart=>exact⟨rfl,rfl,rfl⟩
   case round=>
    obtain⟨rfl,rfl,rfl⟩:=hrel;go_wp2;go_ret;exact⟨rfl,gA.of (Below.refl _ _),Ba rfl⟩
 have x:=MC L D;have E:=ug x;have X:Hid (lA w g q t):=L;have y:Hid (B<=g/\T g=F):=⟨P,Q⟩
 clear x L D P Q;generalize u.length=n at *;rcases S with rfl|rfl
 go_enter func116,ntmps116;rotate_left;go_enter func117,ntmps117;all_goals
  go_wp2;go_loopw [1,5] (fun l i wr=>∃(j:Nat) (c:Array Value),j<=n/\i=.int .i64 j/\l=.int .i64 ((k+2*j:Nat):Int)/\lA wr g c t/\c.size=q.size/\(∀m,m<j->zN c o m (kx k m))/\eD g w wr) (fun _ i _=>n-(intOf i).toNat)
  case atStart=>exact⟨0,q,Ha _,rfl,rfl,X.out,rfl,fun m h=>absurd h (by omega),eD.refl _ _⟩
  case round=>
   obtain⟨j,c,hj,rfl,rfl,v,C,s,r⟩:=hrel;have d:Hid (lA wr g c t):=v;have f:Hid _:=s;have H:Hid _:=C;clear v s;by_cases Z:j<n
   ·have J:o+j*2+1<c.size:=by rcases E with h|h<;>omega
    clear C E;go_wp2_with fail;refine(wG _ (k+2*j) (by omega) _ (by omega) (by omega)).mono ?_;rintro e w1 ⟨rfl,z⟩;have b:=d.out.later z;obtain⟨v0,d0⟩:=b.there (j:=o+j*2) (by omega);have f0:=b.free (o+j*2);obtain⟨v1,d1⟩:=b.there (j:=o+j*2+1) (by omega);have f1:=b.free (o+j*2+1);have G:Hid (lA w1 g c t):=b;have A:Hid _:=r.trans (eD.of z);clear b z r;go_wp2;refine⟨⟨j+1,_,by omega,by go_num,by go_num,(G.out.set (o+j*2) (.string (mt (k+2*j)))).set (o+j*2+1) (.int .i64 ((k+2*j+1:Nat):Int)),by simp[H.out],?_,(A.out.setCell _ _).setCell _ _⟩,by simp[intOf];omega⟩;intro m N;by_cases e:m=j
    ·subst e;exact zN.made c o m (kx k m) J
    ·exact((f.out m (by omega)).set (by omega) _).set (by omega) _
   ·go_wp2;go_ret;have e:j=n:=by omega
    subst e;refine⟨iC (by omega),(gA.but r).mono fun i _ e=>by subst e;exact y.out,Ea ⟨g,o,c,t,rfl,y.out.1,y.out.2,d.out,LY d.out ?_⟩⟩;intro m N;rw[lZ];exact f.out m (by rw[qH]at N;exact N)
theorem VI {p:FuncId} (B:p=118\/p=119) (u:Int) (a:Option Addr) (g:Nat) (k n:Nat) (w:World) (m:u=(k:Int)) (G:0<k) (A:k+2*n<=100000000) (t:vA w a (tF k n)):
 Calls prog p #[.slice a n g,.int .i64 u] w fun e C=>e=.returned (.int .i64 ((k+2*n:Nat):Int))/\Below w.heap.size w C:=by
 subst m;have v:Hid (vA w a (tF k n)):=t;clear t;rcases B with rfl|rfl
 go_enter func118,ntmps118;rotate_left;go_enter func119,ntmps119;all_goals
  go_wp2;go_loopw [1,5] (fun l i wr=>∃j:Nat,j<=n/\i=.int .i64 j/\l=.int .i64 ((k+2*j:Nat):Int)/\Below w.heap.size w wr) (fun _ i _=>n-(intOf i).toNat)
  case atStart=>exact⟨0,Ha _,rfl,rfl,Below.refl _ _⟩
  case round=>
   obtain⟨j,F,rfl,rfl,c⟩:=hrel;by_cases q:j<n
   ·obtain⟨b,o,rfl,E,d,f⟩:=(v.out.later c).at (i:=j) (by rw[qH];exact q)
    rw[lZ]at d f;simp only[kx]at d f;have z:=oA.cells d;have r:=oA.there wr;have s:Hid _:=f;clear d f;go_wp2_with fail;refine jA (by kernel_rfl) (by kernel_rfl) ?_;repeat (go_big_quiet_step (first|(go_at_call 74;exact tA (wG _ (k+2*j) (by omega) _ (by omega) (by omega)))))
    refine wpQuiet_nil ?_;rintro _ ⟨x,rfl⟩;have D:x.w'.cell? ⟨b,o+j*2+1,none⟩=some (.int .i64 ((k:Int)+2*(j:Int)+1)):=by rw[x.cell s.out];simp
    have y:Hid _:=pA c x.h;clear z r s c;generalize x.w'=W at *;clear x;go_wp2;exact⟨⟨j+1,by omega,by go_num,by go_num,y.out⟩,by simp[intOf];omega⟩
   ·go_wp2;go_ret;have e:j=n:=by omega
    subst e;exact⟨iC (by omega),c⟩
def wN (t:eA):Nat:=2+2*t.m9.length+2*t.s9.length
def yB:List eA->Nat
 |[]=>0
 |t::r=>wN t+yB r
theorem dY (a b:List eA):yB (a++b)=yB a+yB b:=by
 induction a with
 |nil=>simp[yB]
 |cons f r c=>simp[yB,c];omega
theorem FR (a:List eA) (j:Nat) (h:j<a.length):yB (a.take (j+1))=yB (a.take j)+wN a[j]:=by
 rw[La h,dY];simp[yB]
theorem RW (a:List eA) (j:Nat):yB (a.take j)<=yB a:=by
 have:=dY (a.take j) (a.drop j);rw[Xa]at this;omega
def eO (k:Nat) (t:eA):eA:=⟨mt k,((k+1:Nat):Int),tF (k+2) t.m9.length,tF (k+2+2*t.m9.length) t.s9.length⟩
def aGt (k:Nat) (a:List eA) (i:Nat) (t:eA):eA:=eO (k+yB (a.take i)) t
def mF (k:Nat) (a:List eA):List eA:=a.mapIdx (aGt k a)
theorem fW (k:Nat) (a:List eA):(mF k a).length=a.length:=by simp[mF]
theorem DP {k:Nat} {a:List eA} {i:Nat} (h:i<(mF k a).length) (b:i<a.length):(mF k a)[i]=eO (k+yB (a.take i)) a[i]:=by simp[mF,aGt]
def GJ (c:Array Value) (p:Nat) (t:eA) (a:Option Addr) (d:Nat) (b:Option Addr) (e:Nat):Prop:=
 c[p]?=some (.string t.name)/\c[p+1]?=some (.int .i64 t.l9)/\c[p+2]?=some (.slice a t.m9.length d)/\c[p+3]?=some (.slice b t.s9.length e)
def GM (w:World) (B:Nat) (T:Nat->Nat) (c:Array Value) (o i:Nat) (t:eA):Prop:=
 ∃a d b e,GJ c (o+i*4) t a d b e/\oD w B T (2*i+1) a t.m9/\oD w B T (2*i+2) b t.s9
theorem cP.row {w:World} {B i g o:Nat} {T:Nat->Nat} {t:eA} {c:Array Value} {q:TypeId} (h:cP w B T i g (o+i*4) t) (p:lA w g c q):GM w B T c o i t:=by
 obtain⟨f,k,j,l,a,b,d,e,m,n⟩:=h;rw[p.cell]at a b d e;exact⟨f,k,j,l,⟨a,b,d,e⟩,m,n⟩
theorem GM.own {w:World} {B i g o:Nat} {T:Nat->Nat} {t:eA} {c:Array Value} {q:TypeId} (h:GM w B T c o i t) (a:lA w g c q):cP w B T i g (o+i*4) t:=by
 obtain⟨b,e,d,f,⟨j,k,l,m⟩,n,p⟩:=h;exact⟨b,e,d,f,(a.cell _).trans j,(a.cell _).trans k,(a.cell _).trans l,(a.cell _).trans m,n,p⟩
theorem GJ.set {c:Array Value} {p:Nat} {t:eA} {a b:Option Addr} {d e:Nat} (h:GJ c p t a d b e) {q:Nat} (k:q<p\/p+3<q) (v:Value):GJ (c.setIfInBounds q v) p t a d b e:=by
 obtain⟨f,g,i,j⟩:=h;refine⟨?_,?_,?_,?_⟩
 ·rw[Aa (by omega)];exact f
 ·rw[Aa (by omega)];exact g
 ·rw[Aa (by omega)];exact i
 ·rw[Aa (by omega)];exact j
theorem oD.turn {S:Nat->Prop} {w d:World} {B n:Nat} {T:Nat->Nat} {a:Option Addr} {c:List fA} (h:oD w B T n a c) (i:gA S w d) (e:∀g,T g=n->¬S g):oD d B T n a c:=
 h.keep fun g f _ b=>⟨i.block g f (e g b),b⟩
theorem aBx {w A s t:World} {B o j K k:Nat} {T:Nat->Nat} {g:Nat} {c:Array Value} {a:List eA} {n p:Option Addr} {u v:Nat} (H:T g=0) (Q:j<a.length)
 (J:∀i (h:i<a.length),i≠j->GM w B T c o i (if i<j then eO (k+yB (a.take i)) a[i] else a[i])) (l:GJ c (o+j*4) a[j] n u p v) (G:K=k+yB (a.take j))
 (x:eD g w A) (y:gA (fun g=>B<=g/\T g=2*j+1) A s) (q:gA (fun g=>B<=g/\T g=2*j+2) s t) (L:oD s B T (2*j+1) n (tF (K+2) a[j].m9.length)) (M:oD t B T (2*j+2) p (tF (K+2+2*a[j].m9.length) a[j].s9.length)):
 ∀i (h:i<a.length),GM t B T ((c.setIfInBounds (o+j*4) (.string (mt K))).setIfInBounds (o+j*4+1) (.int .i64 ((K+1:Nat):Int))) o i (if i<j+1 then eO (k+yB (a.take i)) a[i] else a[i]):=by
 intro i I;by_cases e:i=j
 ·subst e;rw[Ga (by omega),<-G];obtain⟨R,S,N,z⟩:=l;have U:=(Bb.1 z).1;refine⟨n,u,p,v,⟨?_,?_,?_,?_⟩,L.turn q fun f b m=>by omega,M⟩
  ·rw[Aa (by omega),Gf (by omega)];rfl
  ·rw[Gf (by simp;omega)];rfl
  ·rw[Aa (by omega),Aa (by omega),N];simp[eO,qH]
  ·rw[Aa (by omega),Aa (by omega),z];simp[eO,qH]
 ·obtain⟨C,E,D,F,d,O,P⟩:=J i I e;have r:(if i<j+1 then eO (k+yB (a.take i)) a[i] else a[i])=(if i<j then eO (k+yB (a.take i)) a[i] else a[i]):=by
   by_cases h:i<j
   ·rw[Ga h,Ga (by omega)]
   ·rw[Ca h,Ca (by omega)]
  rw[r];refine⟨C,E,D,F,(d.set (by omega) _).set (by omega) _,?_,?_⟩
  ·exact((O.turn (gA.but x) fun f b e=>by subst e;omega).turn y fun f b m=>by omega).turn q fun f b m=>by omega
  ·exact((P.turn (gA.but x) fun f b e=>by subst e;omega).turn y fun f b m=>by omega).turn q fun f b m=>by omega
theorem LV (g o X:Nat) (a:List eA) (k B:Nat) (T:Nat->Nat) (y:Array Value) (s:TypeId) (w:World) (hk:0<k) (L:k+yB a<=100000000) (hB:B<=g) (Y:lA w g y s) (hT:T g=0) (hf:∀i (h:i<a.length),cP w B T i g (o+i*4) a[i]):
 Calls prog 75 #[.slice (some ⟨g,o,none⟩) a.length X,.int .i64 (k:Int)] w fun e w'=>e=.returned (.int .i64 ((k+yB a:Nat):Int))/\gA (fun m=>B<=m/\T m<=2*a.length) w w'/\(∃c,lA w' g c s/\∀i (h:i<(mF k a).length),cP w' B T i g (o+i*4) (mF k a)[i]):=by
 have H0:Hid _:=fun i h=>(hf i h).row Y;have HG:Hid (lA w g y s):=Y;have v:Hid (B<=g/\T g=0):=⟨hB,hT⟩
 have u:Hid _:=L;clear hf Y hB hT L;have hlen:a.length<=100000000:=by
  have h1:a.length<=yB a:=by
   clear H0 u;induction a with
   |nil=>exact Ha _
   |cons t r ih=>simp only[Sa,yB,wN];omega
  have:=u.out;omega
 go_enter func75,ntmps75;go_wp2;go_loopw [1,5] (fun l i wr=>∃(j K:Nat) (c:Array Value),j<=a.length/\i=.int .i64 j/\l=.int .i64 (K:Int)/\Hid (K=k+yB (a.take j))/\Hid (lA wr g c s)/\Hid (∀i (h:i<a.length),GM wr B T c o i (if i<j then eO (k+yB (a.take i)) a[i] else a[i]))/\Hid (gA (fun m=>B<=m/\T m<=2*a.length) w wr)) (fun _ i _=>a.length-(intOf i).toNat)
 case atStart=>exact⟨0,k,y,Ha _,rfl,rfl,by show _=_;simp[yB],HG.out,fun i h=>by rw[Ca (by omega)];exact H0.out i h,gA.refl _ _⟩
 case round=>
  obtain⟨j,K,c,hj,rfl,rfl,M,f,S,G⟩:=hrel;by_cases A:j<a.length
  ·obtain⟨V,c1,N,W,n,p1,p2⟩:=S.out j A;rw[Ca (Nat.lt_irrefl _)]at n p1 p2;have b:Hid (GJ c (o+j*4) a[j] V c1 N W):=n;have P1:Hid (oD wr B T (2*j+1) V a[j].m9):=p1;have P2:Hid (oD wr B T (2*j+2) N a[j].s9):=p2;have F:Hid (K+wN a[j]<=100000000/\k+yB (a.take (j+1))=K+wN a[j]):=by
    have h1:=FR a j A;have h2:=RW a (j+1);have h3:=M.out;have h4:=u.out;exact⟨by omega,by omega⟩
   have hkb:K+2+2*a[j].m9.length+2*a[j].s9.length<=100000000:=by have:=F.out.1;unfold wN at this;omega
   have hKp:0<K:=by have:=M.out;omega
   clear n p1 p2;go_wp2_with fail;refine(wG _ K (by omega) _ (by omega) (by omega)).mono ?_;rintro e O ⟨rfl,z⟩;have d:Hid (lA O g c s):=f.out.later z;have hcs:=(Bb.1 b.out.2.2.2).1;obtain⟨v0,d0⟩:=d.out.there (j:=o+j*4) (by omega);have f0:=d.out.free (o+j*4);obtain⟨v1,d1⟩:=d.out.there (j:=o+j*4+1) (by omega);have f1:=d.out.free (o+j*4+1);have d2:=(d.out.cell _).trans b.out.2.2.1;have P:Hid (eD g wr O):=eD.of z;clear z;go_wp2_with fail;have p:Hid (eD g wr ((O.setCell ⟨g,o+j*4,none⟩ (.string (mt K))).setCell ⟨g,o+j*4+1,none⟩ (.int .i64 ((K:Int)+1)))):=(P.out.setCell _ _).setCell _ _;have Q:Hid (lA ((O.setCell ⟨g,o+j*4,none⟩ (.string (mt K))).setCell ⟨g,o+j*4+1,none⟩ (.int .i64 ((K:Int)+1))) g ((c.setIfInBounds (o+j*4) (.string (mt K))).setIfInBounds (o+j*4+1) (.int .i64 ((K+1:Nat):Int))) s):=bA (by have:=(d.out.set (o+j*4) (.string (mt K))).set (o+j*4+1) (.int .i64 ((K:Int)+1));simpa using this);refine(VY (.inl rfl) _ V c1 a[j].m9 (K+2) B (2*j+1) T _ (by omega) (by omega) (by omega) (P1.out.turn (gA.but p.out) fun m I e=>by subst e;have:=v.out.2;omega)).mono ?_;rintro e w3 ⟨rfl,C,q1⟩;have x:=bA C;have Q1:=bA q1;have D:Hid (lA w3 g ((c.setIfInBounds (o+j*4) (.string (mt K))).setIfInBounds (o+j*4+1) (.int .i64 ((K+1:Nat):Int))) s):=C.blk Q.out (fun h=>by have:=v.out.2;omega);have e3:w3.cell? ⟨g,o+j*4+3,none⟩=some (.slice N a[j].s9.length W):=by
    rw[D.out.cell,Aa (by omega),Aa (by omega)];exact b.out.2.2.2
   clear C q1 d0 d1 d2 f0 f1;go_wp2_with fail;refine(VY (.inr rfl) _ N W a[j].s9 (K+2+2*a[j].m9.length) B (2*j+2) T _ (by omega) (by omega) (by omega) ((P2.out.turn (gA.but p.out) fun m I e=>by subst e;have:=v.out.2;omega).turn x.out fun m I hs=>by omega)).mono ?_;rintro e w4 ⟨rfl,q,q2⟩;have R:Hid (lA w4 g ((c.setIfInBounds (o+j*4) (.string (mt K))).setIfInBounds (o+j*4+1) (.int .i64 ((K+1:Nat):Int))) s):=q.blk D.out (fun h=>by have:=v.out.2;omega);have U:Hid _:=aBx v.out.2 A (fun i h _=>S.out i h) b.out M.out p.out x.out q Q1.out q2;have H:Hid (gA (fun m=>B<=m/\T m<=2*a.length) w w4):=by
    refine((G.out.trans' ((gA.but p.out).mono fun i _ e=>?_)).trans' (x.out.mono fun i _ h=>?_)).trans' (q.mono fun i _ h=>?_)
    ·subst e;exact⟨v.out.1,by rw[v.out.2];omega⟩
    ·exact⟨h.1,by omega⟩
    ·exact⟨h.1,by omega⟩
   have E:Hid (((K+2+2*a[j].m9.length+2*a[j].s9.length:Nat):Int)=((k+yB (a.take (j+1)):Nat):Int)):=by
    show _=_;have:=F.out.2;unfold wN at this;omega
   clear q q2 e3;go_wp2;exact⟨⟨j+1,k+yB (a.take (j+1)),_,by omega,by go_num,Zc (Value.int .i64) (by have:=E.out;omega),rfl,R.out,U.out,H.out⟩,by simp[intOf];omega⟩
  ·have ej:j=a.length:=by omega
   have HE:Hid (((K:Nat):Int)=((k+yB a:Nat):Int)):=by show _=_;rw[M.out,ej,Qb]
   go_wp2;go_ret;refine⟨iC HE.out,G.out,c,f.out,fun i Z=>?_⟩;have J:i<a.length:=by rw[fW]at Z;exact Z
   have:=S.out i J;rw[Ga (by omega)]at this;rw[DP Z J];exact this.own f.out
def BD (c:UInt8):Bool:=(97<=c&&c<=122) ||(48<=c&&c<=57) ||c==45||c==46
def dJ (l:List UInt8):Bool:=l.all BD
def wF (s:ByteArray):Bool:=decide (1<=s.size) &&decide (s.size<=40) &&dJ s.data.toList
theorem aj (l:List UInt8) (c:UInt8):dJ (l++[c])=(dJ l&&BD c):=by simp[dJ]
theorem lp {l:List UInt8} {k:Nat} (h:dJ (l.take k)=false):dJ l=false:=by
 rw[Ic]at h |-
 intro a;apply h;simp only[dJ,Vd]at a |-
 intro x b;exact a x (Xd b)
theorem aCl (c:UInt8):BD c=decide ((97<=(c.toNat:Int)/\(c.toNat:Int)<=122)\/(48<=(c.toNat:Int)/\(c.toNat:Int)<=57)\/(c.toNat:Int)=45\/(c.toNat:Int)=46):=by
 have a:(c==45)=decide (c.toNat=45):=by rw[Nb];simp[<-UInt8.toNat_inj]
 have b:(c==46)=decide (c.toNat=46):=by rw[Nb];simp[<-UInt8.toNat_inj]
 rw[Nb];simp[BD,a,b,Cf];omega
theorem PR (s:ByteArray) (w:World) (l:s.size<=maxLen):
 Calls prog 43 #[.string s] w fun e g=>e=.returned (.bool (wF s))/\g=w:=by
 unfold maxLen at l;by_cases c:1<=s.size/\s.size<=40
 ·have j:uA (s.size:Int) 1 40=true:=by unfold uA;simp;omega
  have HN:Hid (wF s=dJ s.data.toList):=by show wF s=_;simp[wF,c.1,c.2]
  have n:=c.1;have o:=c.2;clear c;go_enter func43,ntmps43;go_wp2_with(go_at_call 41;refine(fD _ _ _ _).mono ?_;rintro e g ⟨rfl,rfl⟩);go_loop [3,4] (fun i _=>∃k:Nat,k<=s.size/\i=.int .i64 k/\dJ (s.data.toList.take k)=true) (fun i _=>s.size-(intOf i).toNat)
  case atStart=>exact⟨0,Ha _,rfl,by simp[dJ]⟩
  case round=>
   obtain⟨k,m,rfl,d⟩:=hrel;have b:Hid _:=d;clear d j;by_cases f:k<s.size
   ·have a:=aj (s.data.toList.take k) s[k];rw[<-oQ s k f,b.out,Nc,aCl]at a;have h:Hid _:=a;clear a;go_wp2;all_goals first
     |(go_ret
       refine⟨kA ?_,rfl⟩
       rw[HN.out]
       refine(lp (k:=k+1) ?_).symm
       rw[h.out,Ve]
       simp at *
       omega)
     |(refine⟨⟨k+1,by omega,by go_num,?_⟩,by simp[intOf];omega⟩
       rw[h.out,Ze]
       simp at *
       omega)
   ·go_wp2;go_ret;exact⟨kA (by rw[HN.out,<-b.out,Pa (by simp;omega)]),rfl⟩
 ·have j:uA (s.size:Int) 1 40=false:=by unfold uA;simp;omega
  have HN:Hid (wF s=false):=by show wF s=_;simp[wF];omega
  go_enter func43,ntmps43;go_wp2_with(go_at_call 41;refine(fD _ _ _ _).mono ?_;rintro e g ⟨rfl,rfl⟩);go_ret;exact⟨kA HN.out.symm,rfl⟩
theorem ai (c:UInt8):okM [45,46] c=BD c:=by
 have e:decide (0<=Lib.indexByte [45,46] c)=(c==45||c==46):=by
  by_cases h:c=45
  ·subst h;rfl
  ·by_cases a:c=46
   ·subst a;rfl
   ·have b:((45:UInt8)==c)=false:=by simpa using fun e=>h e.symm
    have d:(c==45)=false:=by simpa using h
    have f:((46:UInt8)==c)=false:=by simpa using fun e=>a e.symm
    have g:(c==46)=false:=by simpa using a
    simp[Lib.indexByte,b,d,f,g]
 rw[okM,BD,e,Bool.or_assoc (_||_)]
theorem tw (s:ByteArray):gR s 40 ⟨#[45,46]⟩=wF s:=by
 have e:=funext ai;rw[gR,wF,dJ,e];congr 2;rw[Nb];simp;omega
theorem PO (s:ByteArray) (w:World) (b:s.size<=maxLen):
 Calls prog 123 #[.string s] w fun e a=>e=.returned (.bool (wF s))/\a=w:=by
 have H:Hid _:=fun W=>tw s ▸ KE s 40 ⟨#[45,46]⟩ W b;generalize wF s=R at *;go_enter func123,ntmps123;go_wp2_with fail;refine(H.out _).mono ?_;rintro e a ⟨rfl,hw⟩;replace hw:=hw.symm;subst hw;go_wp2;go_ret;exact⟨rfl,rfl⟩
def wL (f:dA):Bool:=wF f.name&&uA f.y9 0 f.data.size
theorem aDs (b o:Nat) (f:dA) (w:World) (i:w.cell? ⟨b,o,none⟩=some (.string f.name)) (j:w.cell? ⟨b,o+1,none⟩=some (.string f.data)) (k:w.cell? ⟨b,o+2,none⟩=some (.int .i64 f.y9))
 (l:f.name.size<=maxLen):
 Calls prog 96 #[.pointer (some ⟨b,o,none⟩)] w fun e d=>e=.returned (.bool (wL f))/\Below w.heap.size w d:=by
 have p:=oA.cells i;have q:=oA.cells j;have r:=oA.cells k;have n:=oA.there w;have g:=fun d=>PO f.name d l;clear i j k l;by_cases c:wF f.name=true
 ·simp only[c]at g;have m:=fun d=>pE f.y9 f.data.size d;have E:Hid (wL f=uA f.y9 0 f.data.size):=by show wL f=_;simp[wL,c]
  clear c;go_enter func96,ntmps96;go_wp2_with fail;refine jA (by kernel_rfl) (by kernel_rfl) ?_;repeat (go_big_quiet_step (first|(go_at_call 123;exact jB (g _))|(go_at_call 59;exact jB (m _))))
  refine wpQuiet_nil ?_;rintro _ ⟨x,rfl⟩;go_wp2;go_ret;exact⟨kA E.out.symm,x.h⟩
 ·have a:wF f.name=false:=by simpa using c
  simp only[a]at g;have E:Hid (wL f=false):=by show wL f=_;simp[wL,a]
  clear c a;go_enter func96,ntmps96;go_wp2_with fail;refine jA (by kernel_rfl) (by kernel_rfl) ?_;repeat (go_big_quiet_step (first|(go_at_call 123;exact jB (g _))))
  refine wpQuiet_nil ?_;rintro _ ⟨x,rfl⟩;go_wp2;go_ret;exact⟨kA E.out.symm,x.h⟩
def eT (a:List dA) (i:Nat):Bool:=
 match a[i]? with
 |none=>true
 |some f=>wL f&&(match i with
  |0=>true
  |j+1=>match a[j]? with
   |none=>true
   |some g=>Op.bytesLess g.name.toList f.name.toList)
def dR (a:List dA) (k:Nat):Bool:=(List.range k).all (eT a)
def yF (a:List dA):Bool:=dR a a.length
theorem sY (a:List dA) (k:Nat):dR a (k+1)=(dR a k&&eT a k):=by simp[dR,List.range_succ]
theorem rX {a:List dA} {k n:Nat} (h:eT a k=false) (c:k<n):dR a n=false:=by
 rw[Ic];intro b;simp only[dR,Vd,Yg]at b;rw[b k c]at h;exact absurd h (by simp)
theorem OQ (a:Option Addr) (y:Nat) (c:List dA) (w:World) (z:iA w a c) (D:mK c) (s:c.length<=maxLen):
 Calls prog 60 #[.slice a c.length y] w fun e T=>e=.returned (.bool (decide (c.length<=1000) &&yF c))/\Below w.heap.size w T:=by
 unfold maxLen at s;by_cases V:(1000:Int)<c.length
 ·have E:Hid ((decide (c.length<=1000) &&yF c)=false):=by
   show _=_;rw[Mb (by omega)];rfl
  clear z D;go_enter func60,ntmps60;go_wp2;go_ret;exact⟨kA E.out.symm,Below.refl _ _⟩
 have E:Hid ((decide (c.length<=1000) &&yF c)=dR c c.length):=by
  show _=_;rw[Rb (by omega)];rfl
 have F:Hid (iA w a c):=z;have L:Hid (mK c):=D;clear z D;go_enter func60,ntmps60;go_wp2;go_loopw [3,9] (fun _ i wr=>∃k:Nat,k<=c.length/\i=.int .i64 k/\dR c k=true/\Below w.heap.size w wr) (fun _ i _=>c.length-(intOf i).toNat)
 case atStart=>exact⟨0,Ha _,rfl,rfl,Below.refl _ _⟩
 case round=>
  obtain⟨k,X,rfl,t,d⟩:=hrel;have n:Hid (dR c k=true):=t;clear t;by_cases l:k<c.length
  ·obtain⟨b,o,rfl,W,v,G,H⟩:=(F.out.later d).at l;have u:=L.out k l;have r:=fun x:oA wr=>aDs b (o+k*3) c[k] x.w' (x.cell v) (x.cell G) (x.cell H) u.1;have M:=oA.cells v;have P:=oA.there wr;clear v G H u;by_cases g:wL c[k]=true
   ·simp only[g]at r;by_cases O:(0:Int)<k
    ·obtain⟨U,Y,I,Q,q,R,S⟩:=(F.out.later d).at (i:=k-1) (by omega)
     simp only[Ja,Addr.mk.injEq,Ub]at I;obtain⟨rfl,rfl⟩:=I;have f:eT c k=Op.bytesLess c[k-1].name.toList c[k].name.toList:=by
      obtain⟨j,rfl⟩:∃j,k=j+1:=⟨k-1,by omega⟩
      simp[eT,Ka l,Ka (show j<c.length by omega),g]
     generalize c[k-1].name=K at q f;generalize c[k].name=J at M f;have N:=oA.cells q;have A:0<k:=by omega
     clear Q R S q g;by_cases B:Op.bytesLess K.toList J.toList=true
     ·have p:Hid (dR c (k+1)=true):=by show dR c (k+1)=true;rw[sY,n.out,f,B];rfl
      clear f;go_wp2_with fail;refine jA (by kernel_rfl) (by kernel_rfl) ?_;repeat (go_big_quiet_step (first|(go_at_call 96;exact tA (r _))))
      refine wpQuiet_nil ?_;rintro _ ⟨x,rfl⟩;go_wp2;exact⟨⟨k+1,by omega,by go_num,p.out,d.trans (x.h.mono d.size)⟩,by simp[intOf];omega⟩
     ·have C:Op.bytesLess K.toList J.toList=false:=by simpa using B
      have p:Hid (dR c c.length=false):=rX (by rw[f];exact C) l;clear f B;go_wp2_with fail;refine jA (by kernel_rfl) (by kernel_rfl) ?_;repeat (go_big_quiet_step (first|(go_at_call 96;exact tA (r _))))
      refine wpQuiet_nil ?_;rintro _ ⟨x,rfl⟩;go_wp2;go_ret;exact⟨kA (by rw[E.out,p.out]),d.trans (x.h.mono d.size)⟩
    ·have f:eT c k=true:=by
      obtain rfl:k=0:=by omega
      simp[eT,Ka l,g]
     have p:Hid (dR c (k+1)=true):=by show dR c (k+1)=true;rw[sY,n.out,f];rfl
     have A:decide (0<k)=false:=by simp;omega
     clear f g;go_wp2_with fail;refine jA (by kernel_rfl) (by kernel_rfl) ?_;repeat (go_big_quiet_step (first|(go_at_call 96;exact tA (r _))))
     refine wpQuiet_nil ?_;rintro _ ⟨x,rfl⟩;go_wp2;exact⟨⟨k+1,by omega,by go_num,p.out,d.trans (x.h.mono d.size)⟩,by simp[intOf];omega⟩
   ·have m:wL c[k]=false:=by simpa using g
    simp only[m]at r;have f:eT c k=false:=by simp[eT,Ka l,m]
    have p:Hid (dR c c.length=false):=rX f l;clear f g m;go_wp2_with fail;refine jA (by kernel_rfl) (by kernel_rfl) ?_;repeat (go_big_quiet_step (first|(go_at_call 96;exact tA (r _))))
    refine wpQuiet_nil ?_;rintro _ ⟨x,rfl⟩;go_wp2;go_ret;exact⟨kA (by rw[E.out,p.out]),d.trans (x.h.mono d.size)⟩
  ·go_wp2;go_ret;have e:k=c.length:=by omega
   exact⟨kA (by rw[E.out,<-e];exact n.out.symm),d⟩
theorem cM {x a:Int} {b:Bool} (h:uA x 0 a=b) (w:World):Calls prog 59 #[.int .i64 x,.int .i64 a] w fun e c=>e=.returned (.bool b)/\c=w:=h ▸ pE x a w
theorem sI {a:Option Addr} {d:Nat} {c:List dA} {b:Bool} (h:(decide (c.length<=1000) &&yF c)=b) (w:World) (g:iA w a c) (i:mK c) (f:c.length<=maxLen):
 Calls prog 60 #[.slice a c.length d] w fun e j=>e=.returned (.bool b)/\Below w.heap.size w j:=h ▸ OQ a d c w g i f
def vC (a:List dA) (c k b d:Int):Bool:=
 (decide (a.length<=1000) &&yF a) &&uA c 0 1000000000&&decide ((xA a:Int)<=c) &&uA k 0 1000000000000000&&uA b 0 1000000000000000&&uA d 0 1000000000000000
theorem UH (w:World) (a b c d e f:Value) (t:TypeId):let W:=w.alloc (.cells #[a,b,c,d,e,f] t)
 W.cell? ⟨w.heap.size,0,none⟩=some a/\W.cell? ⟨w.heap.size,1,none⟩=some b/\W.cell? ⟨w.heap.size,2,none⟩=some c/\
 W.cell? ⟨w.heap.size,3,none⟩=some d/\W.cell? ⟨w.heap.size,4,none⟩=some e/\W.cell? ⟨w.heap.size,5,none⟩=some f:=by
 simp[go_sem]
theorem SS (a:Option Addr) (m:Nat) (b:List dA) (c k j l:Int) (H:Bool) (w:World) (L:iA w a b) (M:mK b) (y:b.length<=maxLen) (f:xA b<=1000000000):
 Calls prog 27 #[.agg #[.slice a b.length m,.int .i64 c,.int .i64 k,.int .i64 j,.int .i64 l,.bool H]] w fun e V=>e=.returned (.bool (vC b c k j l))/\Below w.heap.size w V:=by
 obtain⟨N,O,P,Q,R,U⟩:=UH w (.slice a b.length m) (.int .i64 c) (.int .i64 k) (.int .i64 j) (.int .i64 l) (.bool H) 30;have W:=oA.cells N;have X:=oA.cells O;have Y:=oA.cells P;have Z:=oA.cells Q;have d4:=oA.cells R;have u:Below w.heap.size w (w.alloc (.cells #[.slice a b.length m,.int .i64 c,.int .i64 k,.int .i64 j,.int .i64 l,.bool H] 30)):=(Below.refl _ _).alloc (Da _) _;have T:=oA.there (w.alloc (.cells #[.slice a b.length m,.int .i64 c,.int .i64 k,.int .i64 j,.int .i64 l,.bool H] 30));have d:Hid (∀x:oA (w.alloc (.cells #[.slice a b.length m,.int .i64 c,.int .i64 k,.int .i64 j,.int .i64 l,.bool H] 30)),iA x.w' a b):=fun x=>(L.later u).later x.h;have D:Hid (∀x:oA (w.alloc (.cells #[.slice a b.length m,.int .i64 c,.int .i64 k,.int .i64 j,.int .i64 l,.bool H] 30)),Below w.heap.size w x.w'):=fun x=>u.trans (x.h.mono u.size);have G:Hid (mK b):=M;have n:Hid _:=y;clear N O P Q R U u L M y;by_cases o:(decide (b.length<=1000) &&yF b)=false
 ·have E:Hid (vC b c k j l=false):=by show _=_;simp only[vC,o,Ld]
  have z:Hid _:=o;clear o;go_enter func27,ntmps27;go_wp2_with fail;refine jA (by kernel_rfl) (by kernel_rfl) ?_;repeat (go_big_quiet_step (first|(go_at_call 60;exact tA (sI z.out _ (d.out _) G.out n.out))|(go_at_call 61;exact tA (wH _ _ _ _ (d.out _) n.out f))|(go_at_call 59;apply jB;apply cM;first|exact i.out|exact A.out|exact B.out|exact F.out)))
  refine wpQuiet_nil ?_;rintro _ ⟨x,rfl⟩;go_wp2;go_ret;exact⟨kA E.out.symm,D.out x⟩
 have t:(decide (b.length<=1000) &&yF b)=true:=by simpa using o
 have z:Hid _:=t;clear o;by_cases p:uA c 0 1000000000=false
 ·have E:Hid (vC b c k j l=false):=by show _=_;simp only[vC,p,t,Ld,Nc]
  have i:Hid _:=p;clear p t;go_enter func27,ntmps27;go_wp2_with fail;refine jA (by kernel_rfl) (by kernel_rfl) ?_;repeat (go_big_quiet_step (first|(go_at_call 60;exact tA (sI z.out _ (d.out _) G.out n.out))|(go_at_call 61;exact tA (wH _ _ _ _ (d.out _) n.out f))|(go_at_call 59;apply jB;apply cM;first|exact i.out|exact A.out|exact B.out|exact F.out)))
  refine wpQuiet_nil ?_;rintro _ ⟨x,rfl⟩;go_wp2;go_ret;exact⟨kA E.out.symm,D.out x⟩
 have v:uA c 0 1000000000=true:=by simpa using p
 have i:Hid _:=v;clear p;by_cases q:decide ((xA b:Int)<=c)=false
 ·have E:Hid (vC b c k j l=false):=by show _=_;simp only[vC,q,t,v,Ld,Nc]
  have S:=q;clear q t v;go_enter func27,ntmps27;go_wp2_with fail;refine jA (by kernel_rfl) (by kernel_rfl) ?_;repeat (go_big_quiet_step (first|(go_at_call 60;exact tA (sI z.out _ (d.out _) G.out n.out))|(go_at_call 61;exact tA (wH _ _ _ _ (d.out _) n.out f))|(go_at_call 59;apply jB;apply cM;first|exact i.out|exact A.out|exact B.out|exact F.out)))
  refine wpQuiet_nil ?_;rintro _ ⟨x,rfl⟩;go_wp2;go_ret;exact⟨kA E.out.symm,D.out x⟩
 have C:decide ((xA b:Int)<=c)=true:=by simpa using q
 have hC:(xA b:Int)<=c:=by simpa using C
 clear q;by_cases r:uA k 0 1000000000000000=false
 ·have E:Hid (vC b c k j l=false):=by show _=_;simp only[vC,r,t,v,C,Ld,Nc]
  have A:Hid _:=r;clear r t v C;go_enter func27,ntmps27;go_wp2_with fail;refine jA (by kernel_rfl) (by kernel_rfl) ?_;repeat (go_big_quiet_step (first|(go_at_call 60;exact tA (sI z.out _ (d.out _) G.out n.out))|(go_at_call 61;exact tA (wH _ _ _ _ (d.out _) n.out f))|(go_at_call 59;apply jB;apply cM;first|exact i.out|exact A.out|exact B.out|exact F.out)))
  refine wpQuiet_nil ?_;rintro _ ⟨x,rfl⟩;go_wp2;go_ret;exact⟨kA E.out.symm,D.out x⟩
 have I:uA k 0 1000000000000000=true:=by simpa using r
 have A:Hid _:=I;clear r;by_cases s:uA j 0 1000000000000000=false
 ·have E:Hid (vC b c k j l=false):=by show _=_;simp only[vC,s,t,v,C,I,Ld,Nc]
  have B:Hid _:=s;clear s t v C I;go_enter func27,ntmps27;go_wp2_with fail;refine jA (by kernel_rfl) (by kernel_rfl) ?_;repeat (go_big_quiet_step (first|(go_at_call 60;exact tA (sI z.out _ (d.out _) G.out n.out))|(go_at_call 61;exact tA (wH _ _ _ _ (d.out _) n.out f))|(go_at_call 59;apply jB;apply cM;first|exact i.out|exact A.out|exact B.out|exact F.out)))
  refine wpQuiet_nil ?_;rintro _ ⟨x,rfl⟩;go_wp2;go_ret;exact⟨kA E.out.symm,D.out x⟩
 have K:uA j 0 1000000000000000=true:=by simpa using s
 have B:Hid _:=K;clear s;have E:Hid (vC b c k j l=uA l 0 1000000000000000):=by show _=_;simp only[vC,t,v,C,I,K,Nc]
 clear t v C I K;obtain⟨g,J⟩:∃g,uA l 0 1000000000000000=g:=⟨_,rfl⟩
 rw[J]at E;have F:Hid _:=J;clear J;go_enter func27,ntmps27;go_wp2_with fail;refine jA (by kernel_rfl) (by kernel_rfl) ?_;repeat (go_big_quiet_step (first|(go_at_call 60;exact tA (sI z.out _ (d.out _) G.out n.out))|(go_at_call 61;exact tA (wH _ _ _ _ (d.out _) n.out f))|(go_at_call 59;apply jB;apply cM;first|exact i.out|exact A.out|exact B.out|exact F.out)))
 refine wpQuiet_nil ?_;rintro _ ⟨x,rfl⟩;go_wp2;go_ret;exact⟨kA E.out.symm,D.out x⟩
def IV (r:Rd):dE×Rd:=
 (⟨((gB 1 r).1:Nat),(yA 1 (gB 1 r).2).1,(yA 2 (yA 1 (gB 1 r).2).2).1,zA (gB 8 (yA 2 (yA 1 (gB 1 r).2).2).2).1⟩,(gB 8 (yA 2 (yA 1 (gB 1 r).2).2).2).2)
theorem xX (r:Rd):(IV r).2=(gB 8 (yA 2 (yA 1 (gB 1 r).2).2).2).2:=by rw[IV]
theorem QY (r:Rd):(IV r).1=⟨((gB 1 r).1:Nat),(yA 1 (gB 1 r).2).1,(yA 2 (yA 1 (gB 1 r).2).2).1,zA (gB 8 (yA 2 (yA 1 (gB 1 r).2).2).2).1⟩:=by rw[IV]
def xG (r:Rd) (k:Nat):List dE×Rd:=MU IV r k
theorem tY (r:Rd) (k:Nat):xG r (k+1)=((xG r k).1++[(IV (xG r k).2).1],(IV (xG r k).2).2):=rfl
theorem uX (r:Rd) (k:Nat):(xG r k).1.length=k:=BH k
def qM (s:ByteArray):Nat×Rd:=gB 8 ⟨s,false⟩
def gN (s:ByteArray):Nat×Rd:=gB 2 (qM s).2
def lI (s:ByteArray):List dE×Rd:=xG (gN s).2 (gN s).1
def fF (s:ByteArray):Int×List dE×Bool:=if (lI s).2.r9=false/\uK (zA (qM s).1) (lI s).1=s then(zA (qM s).1,(lI s).1,true) else(0,[],false)
theorem WT {r:Rd} (h:r.r9=true):(IV r).2.r9=true:=by
 rw[xX];exact uD (k:=8) (uL (k:=2) (uL (k:=1) (uD (k:=1) h)))
theorem IU {r:Rd} {k:Nat} (h:(xG r k).2.r9=true) (m:Nat) (a:k<=m):(xG r m).2.r9=true:=mU (fun _=>WT) h a
theorem aHz {r:Rd} {x:dE} {q:ByteArray} (h:r.rest=LP x++q) (a:aM x) (i:I64 x.num):IV r=(x,⟨q,r.r9⟩):=by
 have e:r.rest=aB 1 x.kind++(xV x.n9++(nG x.text++(aB 8 x.num++q))):=by rw[h];apply dP;simp[LP]
 have b:=sM e;have g:((mL (aB 1 x.kind).data.toList:Nat):Int)=x.kind:=by
  obtain⟨_,_,h|h|h⟩:=a
  ·rw[h.1];exact Zc Int.ofNat (aO 1 1 (by decide))
  ·rw[h.1];exact Zc Int.ofNat (aO 1 2 (by decide))
  ·rw[h];exact Zc Int.ofNat (aO 1 3 (by decide))
 have c:yA 1 (gB 1 r).2=(x.n9,⟨nG x.text++(aB 8 x.num++q),r.r9⟩):=by
  rw[b];exact pQ (r:=⟨xV x.n9++(nG x.text++(aB 8 x.num++q)),r.r9⟩) (by show xV x.n9++(nG x.text++(aB 8 x.num++q))=_;apply dP;simp[xV]) (by have:=a.1;omega)
 have d:yA 2 (yA 1 (gB 1 r).2).2=(x.text,⟨aB 8 x.num++q,r.r9⟩):=by
  rw[c];exact pQ (r:=⟨nG x.text++(aB 8 x.num++q),r.r9⟩) (by show nG x.text++(aB 8 x.num++q)=_;apply dP;simp[nG]) (by have:=a.2.1;omega)
 have f:gB 8 (yA 2 (yA 1 (gB 1 r).2).2).2=(mL (aB 8 x.num).data.toList,⟨q,r.r9⟩):=by
  rw[d];exact sM (r:=⟨aB 8 x.num++q,r.r9⟩) rfl
 unfold IV;rw[f,d,c,b];simp only[pT _ i,g]
theorem aHy {r:Rd} {a:List dE} {q:ByteArray} (h:r.rest=oG a++q) (d:qb a) (c:yy a) (k:Nat) (b:k<=a.length):xG r k=(a.take k,⟨oG (a.drop k)++q,r.r9⟩):=QW (e:=LP) (es:=oG) (fun _ _=>rfl) h (fun k b _ _ h=>aHz h (d k b) (c k b).2) k b
theorem aEn {a:Int} {b:List dE} (l:oT a b) (m:yy b):zA (qM (uK a b)).1=a/\(gN (uK a b)).1=b.length/\lI (uK a b)=(b,⟨ByteArray.empty,false⟩):=by
 obtain⟨f,g,h,i,c⟩:=l;have j:(⟨uK a b,false⟩:Rd).rest=aB 8 a++(aB 2 (b.length:Nat)++(oG b++ByteArray.empty)):=by
  show uK a b=_;rw[MI ⟨f,g,h,i,c⟩];apply dP;simp[CF]
 have d:qM (uK a b)=_:=sM j;have e:gN (uK a b)=(b.length,⟨oG b++ByteArray.empty,false⟩):=by
  unfold gN;rw[d];have:=sM (k:=2) (r:=⟨aB 2 (b.length:Nat)++(oG b++ByteArray.empty),false⟩) (v:=(b.length:Nat)) rfl;rw[this,aO 2 _ (by omega)]
 refine⟨by rw[d];exact pT _ ⟨by omega,by omega⟩,by rw[e],?_⟩;unfold lI;rw[e];have:=aHy (r:=⟨oG b++ByteArray.empty,false⟩) rfl c m b.length (Da _);rw[this];simp[oG]
theorem aNq {s:ByteArray} {a:Int} {b:List dE} (d:s.size≠0) (g:yy b) (h:uK a b=s):fF s=(a,b,true):=by
 have c:oT a b:=by
  by_cases c:oT a b
  ·exact c
  ·rw[CE c]at h;rw[<-h]at d;exact absurd rfl d
 subst h;obtain⟨e,_,f⟩:=aEn c g;unfold fF;rw[e,f,Ga ⟨rfl,rfl⟩]
theorem UW {s:ByteArray} (h:(lI s).2.r9=true):fF s=(0,[],false):=by
 unfold fF;rw[Ca];rw[h];simp
theorem aFd {s:ByteArray} (h:uK (zA (qM s).1) (lI s).1≠s):fF s=(0,[],false):=by
 unfold fF;rw[Ca];exact fun hh=>h hh.2
theorem aNp {s:ByteArray} (h:uK (zA (qM s).1) (lI s).1=s) (a:(lI s).2.r9=false):fF s=(zA (qM s).1,(lI s).1,true):=by
 unfold fF;rw[Ga ⟨a,h⟩]
def GF (v:Int):Prop:=-9223372036854775808<=v/\v<=9223372036854775807
def uZ (a:List fA):Prop:=∀i (h:i<a.length),GF a[i].n
def yz (a:List eA):Prop:=∀i (h:i<a.length),GF a[i].l9/\uZ a[i].m9/\uZ a[i].s9
def xQ (p:fA):ByteArray:=nG p.s++aB 8 p.n
def dC:List fA->ByteArray
 |[]=>ByteArray.empty
 |p::q=>xQ p++dC q
def NG (a:List fA):Prop:=∀i (h:i<a.length),a[i].s.size<=65535
def sH (t:eA):Prop:=t.name.size<=255/\NG t.m9/\NG t.s9
def MX (t:eA):ByteArray:=xV t.name++aB 8 t.l9++aB 4 (t.m9.length:Nat)
def lH (t:eA):ByteArray:=MX t++dC t.m9++aB 4 (t.s9.length:Nat)++dC t.s9
def aC:List eA->ByteArray
 |[]=>ByteArray.empty
 |t::q=>lH t++aC q
def ckB:ByteArray:=⟨#[67,75,80,84]⟩
def MW (a b:Int) (n:Nat):ByteArray:=ckB++aB 8 a++aB 8 b++aB 4 (n:Nat)
def FI (a:Int) (b:List eA):Prop:=0<=a/\a<=1000000000000000/\∀i (h:i<b.length),sH b[i]
def pI (a b:Int) (c:List eA):ByteArray:=MW a b c.length++aC c
def aPw (a:Int) (b:List eA):Decidable (FI a b):=by unfold FI sH NG;infer_instance
def yI (a b:Int) (c:List eA):ByteArray:=haveI:=aPw a c;if FI a c then pI a b c++aB 4 (kH (pI a b c):Nat) else ByteArray.empty
theorem MV {a b:Int} {c:List eA} (h:FI a c):yI a b c=pI a b c++aB 4 (kH (pI a b c):Nat):=by unfold yI;rw[Ga h]
theorem FG {a b:Int} {c:List eA} (h:¬FI a c):yI a b c=ByteArray.empty:=by unfold yI;rw[Ca h]
theorem mM:∀(a b:List fA),dC (a++b)=dC a++dC b
 |[],b=>by simp[dC]
 |r::q,b=>by
  show xQ r++dC (q++b)=xQ r++dC q++dC b;rw[mM q b,Ob]
theorem OD (a:List fA) (k:Nat) (h:k<a.length):dC (a.take (k+1))=dC (a.take k)++xQ a[k]:=by
 rw[La h,mM];simp[dC]
theorem aI:∀(a b:List eA),aC (a++b)=aC a++aC b
 |[],b=>by simp[aC]
 |r::q,b=>by
  show lH r++aC (q++b)=lH r++aC q++aC b;rw[aI q b,Ob]
theorem AH (a:List eA) (k:Nat) (h:k<a.length):aC (a.take (k+1))=aC (a.take k)++lH a[k]:=by
 rw[La h,aI];simp[aC]
theorem cQ (p:fA):(xQ p).size=10+p.s.size:=by
 unfold xQ;rw[Ia,jK,bB];omega
theorem qJ:∀(a:List fA),(dC a).size=10*a.length+wC a
 |[]=>rfl
 |p::q=>by
  show(xQ p++dC q).size=_;rw[Ia,cQ,qJ q];show _=10*(q.length+1)+(p.s.size+wC q)
  omega
theorem db (t:eA):(MX t).size=13+t.name.size:=by
 unfold MX;rw[Ia,Ia,yO,bB,bB];omega
theorem mY (t:eA):(lH t).size=17+t.name.size+10*t.m9.length+wC t.m9+10*t.s9.length+wC t.s9:=by
 unfold lH;rw[Ia,Ia,Ia,db,qJ,qJ,bB];omega
theorem FH (a b:Int) (n:Nat):(MW a b n).size=24:=by
 unfold MW;rw[Ia,Ia,Ia,bB,bB,bB];rfl
theorem yf {c:List eA} {k:Nat} (e:k<c.length) (h:¬sH c[k]) (a b:Int):yI a b c=ByteArray.empty:=FG fun d=>h (d.2.2 k e)
def aPy (a:Array Value) (c:List gG):Prop:=∀k,k<c.length->a[k*2]?=some (.pointer (some ⟨(hget c k).b,0,none⟩))/\a[k*2+1]?=some (.int .i64 (hget c k).t)
def rF (w:World) (g a:Nat) (hs:List gG):Prop:=∃b,lA w g b 320/\b.size=a*2/\hs.length<=a/\a<=maxLen/\aPy b hs
theorem rF.cells {w:World} {g d k:Nat} {c:List gG} (h:rF w g d c) (f:k<c.length):
 w.cell? ⟨g,k*2,none⟩=some (.pointer (some ⟨(hget c k).b,0,none⟩))/\w.cell? ⟨g,k*2+1,none⟩=some (.int .i64 (hget c k).t)/\w.frozen? ⟨g,k*2,none⟩=false/\w.frozen? ⟨g,k*2+1,none⟩=false:=by
 obtain⟨i,a,_,_,_,e⟩:=h;rw[a.cell,a.cell];exact⟨(e k f).1,(e k f).2,a.free _,a.free _⟩
theorem rF.later {w d:World} {g a:Nat} {c:List gG} (h:rF w g a c) (i:Below w.heap.size w d):rF d g a c:=by
 obtain⟨b,e,f⟩:=h;exact⟨b,e.later i,f⟩
theorem rF.lt {w:World} {g a:Nat} {d:List gG} (h:rF w g a d):g<w.heap.size:=by
 obtain⟨b,c,e⟩:=h;exact aA c
theorem eD.drew {g:Nat} {a w:World} (h:eD g a w):eD g a w.drew:=⟨h.os,h.tape,h.output,h.size,h.block⟩
theorem rF.swap {w:World} {g c i j:Nat} {a:List gG} (h:rF w g c a) (u:i<a.length) (v:j<a.length):
 rF ((((w.setCell ⟨g,i*2,none⟩ (.pointer (some ⟨(hget a j).b,0,none⟩))).setCell ⟨g,i*2+1,none⟩ (.int .i64 (hget a j).t)).setCell ⟨g,j*2,none⟩ (.pointer (some ⟨(hget a i).b,0,none⟩))).setCell ⟨g,j*2+1,none⟩ (.int .i64 (hget a i).t)) g c (yE a i j):=by
 obtain⟨o,p,d,q,r,s⟩:=h;refine⟨_,(((p.set _ _).set _ _).set _ _).set _ _,by simp[d],by rw[gC];exact q,r,fun k l=>?_⟩;rw[gC]at l;rw[sG u v];by_cases e:k=j
 ·subst e;rw[Ga rfl];constructor<;>simp[Wa,d]<;>omega
 ·rw[Ca e];by_cases f:k=i
  ·subst f;rw[Ga rfl];constructor
   ·rw[Aa (by omega),Aa (by omega),Aa (by omega)];simp[Wa,d];omega
   ·rw[Aa (by omega),Aa (by omega)];simp[Wa,d];omega
  ·rw[Ca f];obtain⟨m,n⟩:=s k l;constructor
   ·rw[Aa (by omega),Aa (by omega),Aa (by omega),Aa (by omega)];exact m
   ·rw[Aa (by omega),Aa (by omega),Aa (by omega),Aa (by omega)];exact n
theorem RM (x o g n d i j:Nat) (c:List gG) (w:World) (N:w.cell? ⟨x,o,none⟩=some (.slice (some ⟨g,0,none⟩) n d)) (s:n=c.length) (f:rF w g d c) (L:i<n) (M:j<n):
 Calls prog 272 #[.pointer (some ⟨x,o,none⟩),.int .i64 i,.int .i64 j] w fun e p=>e=.returned (.tuple #[])/\rF p g d (yE c i j)/\eD g w p:=by
 have l:Hid (rF ((((w.setCell ⟨g,i*2,none⟩ (.pointer (some ⟨(hget c j).b,0,none⟩))).setCell ⟨g,i*2+1,none⟩ (.int .i64 (hget c j).t)).setCell ⟨g,j*2,none⟩ (.pointer (some ⟨(hget c i).b,0,none⟩))).setCell ⟨g,j*2+1,none⟩ (.int .i64 (hget c i).t)) g d (yE c i j)):=f.swap (by omega) (by omega);obtain⟨u,y,H,I⟩:=f.cells (k:=i) (by omega);obtain⟨z,B,O,P⟩:=f.cells (k:=j) (by omega);have m:∀(a b:Value),(∃v,((w.setCell ⟨g,i*2,none⟩ a).setCell ⟨g,i*2+1,none⟩ b).cell? ⟨g,j*2,none⟩=some v)/\(∃v,((w.setCell ⟨g,i*2,none⟩ a).setCell ⟨g,i*2+1,none⟩ b).cell? ⟨g,j*2+1,none⟩=some v)/\
  ((w.setCell ⟨g,i*2,none⟩ a).setCell ⟨g,i*2+1,none⟩ b).frozen? ⟨g,j*2,none⟩=false/\((w.setCell ⟨g,i*2,none⟩ a).setCell ⟨g,i*2+1,none⟩ b).frozen? ⟨g,j*2+1,none⟩=false:=fun a b=>by
  obtain⟨q,r,J,K,_⟩:=f;have h:=(r.set (i*2) a).set (i*2+1) b;exact⟨h.there (by simp;omega),h.there (by simp;omega),h.free _,h.free _⟩
 obtain⟨⟨Q,D⟩,⟨S,E⟩,F,G⟩:=m (.pointer (some ⟨(hget c j).b,0,none⟩)) (.int .i64 (hget c j).t);clear s f m;generalize hget c i=A at *;generalize hget c j=C at *;generalize yE c i j=R at *;clear c;go_enter func272,ntmps272;go_wp2_with fail;go_region
 go_wp2;go_end0;exact⟨rfl,l.out,(((((eD.refl g w).setCell _ _).setCell _ _).setCell _ _).setCell _ _).drew⟩
def mI (a:List gG):List Value:=a.flatMap fun x=>[.pointer (some ⟨x.b,0,none⟩),.int .i64 x.t]
theorem ZA (a b:List gG):mI (a++b)=mI a++mI b:=by simp[mI]
theorem CW (a:List gG):(mI a).length=a.length*2:=by
 induction a with
 |nil=>rfl
 |cons x r b=>simp[mI]at b |-;omega
theorem GZ:∀(a:List gG) (k:Nat),k<a.length->(mI a)[k*2]?=some (.pointer (some ⟨(hget a k).b,0,none⟩))/\(mI a)[k*2+1]?=some (.int .i64 (hget a k).t)
 |[],k,h=>absurd h (by simp)
 |x::r,0,_=>⟨rfl,rfl⟩
 |x::r,k+1,h=>by
  have c:=GZ r k (by simpa using h);have e:mI (x::r)=.pointer (some ⟨x.b,0,none⟩):: .int .i64 x.t::mI r:=rfl;rw[e,show(k+1)*2=k*2+1+1 by omega,Fa,Fa,Fa,Fa];exact c
theorem CZ {w:World} {B g n a:Nat} {c:List gG} (h:w.ownsRow B 320 2 (.slice (some ⟨g,0,none⟩) n a) n (mI c)) (u:n=c.length):rF w g a c/\B<=g:=by
 rcases h.2 with⟨e,_⟩|⟨s,d,b,e,o,p,t,i,l,m⟩
 ·simp at e
 ·simp only[Value.slice.injEq,Ja,Addr.mk.injEq,Ub,true_and]at e;obtain⟨rfl,rfl⟩:=e;refine⟨⟨b,p,l,by omega,i,fun k r=>?_⟩,o⟩;have f:∀j,j<n*2->b[j]?=(mI c)[j]?:=fun j q=>by rw[<-m,Eb q,Sd]
  rw[f _ (by omega),f _ (by omega)];exact GZ c k r
theorem wV {w:World} {B g a:Nat} {b:List gG} (h:rF w g a b) (m:B<=g):w.ownsRow B 320 2 (.slice (some ⟨g,0,none⟩) b.length a) b.length (mI b):=by
 obtain⟨c,d,f,i,k,l⟩:=h;refine⟨CW b,Ea ⟨g,a,c,rfl,m,d,i,k,f,?_⟩⟩;apply List.ext_getElem?;intro j;by_cases n:j<b.length*2
 ·rw[Eb n,Sd];obtain⟨o,p⟩:=l (j / 2) (by omega);obtain⟨q,r⟩:=GZ b (j / 2) (by omega);rcases Nat.mod_two_eq_zero_or_one j with e|e
  ·have:j=j / 2*2:=by omega
   rw[this,o,q]
  ·have:j=j / 2*2+1:=by omega
   rw[this,p,r]
 ·rw[Td (by simp;omega),Td (by rw[CW];omega)]
theorem ri:(prog.info? 320).map (fun i=>(i.zero,i.size,i.bytes))=some (some (.agg #[.pointer none,.int .i64 0]),2,16):=by kernel_rfl
theorem xZ (p q:Value) (s t:Int) (w:World):Calls prog 348 #[.agg #[p,.int .i64 s],.agg #[q,.int .i64 t]] w fun e a=>e=.returned (.bool (decide (s<t)))/\Below w.heap.size w a:=by
 go_enter func348,ntmps348;go_wp2;go_ret;exact⟨rfl,pA (cA _ _) (cA _ _)⟩
theorem lV (x y : Value) (w : World) : (invoke (.fn (.method "loop.example/s02176/impl.before") #[]) #[.iface 320 x, y]).run prog w = .ok (.enter 348 #[x, y]) w := by kernel_rfl
theorem mT {P:Program} {c:Array Oper} {C:World->Prop} {Q:Act->Prop} {a:Act} {o:Oper} {b:List Oper} {f:FuncId} {args:Array Value} {v:Value} (hw:Region.wanted o (yielded c a.tmps)=true)
 (j:∀w,(execOp a.eval o).run P w=.ok (.enter f args) w) (i:∀w,C w->Calls P f args w (fun e d=>e=.returned v/\C d)) (h:wpQuiet P c C Q b (a.put o.dst v)):wpQuiet P c C Q (o::b) a:=
 BigFrame.wpQuiet_want hw fun K g=>⟨v,fun w hw=>by unfold Oper.quietAt;rw[j];exact⟨rfl,i w hw⟩,g _ h⟩
theorem zW {P:Program} (ρ:Operand->Value) (o:Oper) (r y:Operand) (name:String) (d:Array TypeId) (a:o.op=.call { callee:=.invoke r name,args:=#[y],argTypes:=d}) {u z:Value} (b:ρ r=u) (c:ρ y=z) {n:Next} {w:World}
 (h:(invoke (.fn (.method name) #[]) #[u,z]).run P w=.ok n w):(execOp ρ o).run P w=.ok n w:=by
 unfold execOp;simp only[a,resolve];simp[b,c,h]
theorem mj (x o B:Nat) (v:Value) (f:List gG) (s:gG) (w:World) (F:Array Value) (L:TypeId) (hX:lA w x F L) (ho:F[o]?=some v) (N:w.ownsRow B 320 2 v f.length (mI f)) (D:v.ownBlock≠some x) (hB:B<=w.heap.size) (hn:f.length<=1000000000):
 Calls prog 248 #[.pointer (some ⟨x,o,none⟩),.agg #[.pointer (some ⟨s.b,0,none⟩),.int .i64 s.t]] w fun e Z=>e=.returned (.tuple #[])/\∃g d,lA Z x (F.setIfInBounds o (.slice (some ⟨g,0,none⟩) (f.length+1) d)) L/\
  Z.ownsRow B 320 2 (.slice (some ⟨g,0,none⟩) (f.length+1) d) (f.length+1) (mI (pP f s))/\(v.ownBlock=some g\/w.heap.size<=g)/\gA (fun k=>k=x\/v.ownBlock=some k) w Z:=by
 obtain⟨i0,hi,v0,w0,x0⟩:=info_parts ri;have c0:w.cell? ⟨x,o,none⟩=some v:=by rw[hX.cell];exact ho
 have hxl:=aA hX;have HX:Hid (lA w x F L):=hX;clear hX;have m0:Hid (((w.alloc (.cells #[.pointer (some ⟨s.b,0,none⟩),.int .i64 s.t] 320)).alloc (.cells #[.pointer (some ⟨s.b,0,none⟩),.int .i64 s.t] 320)).ownsRow B 320 2 v f.length (mI f)):=bA ((N.alloc _).alloc _);have l0:Hid (((w.alloc (.cells #[.pointer (some ⟨s.b,0,none⟩),.int .i64 s.t] 320)).alloc (.cells #[.pointer (some ⟨s.b,0,none⟩),.int .i64 s.t] 320)).heap[w.heap.size+1]?=some (.cells #[.pointer (some ⟨s.b,0,none⟩),.int .i64 s.t] 320 (0,0))):=bA (by have:=heap_alloc_new (w.alloc (.cells #[.pointer (some ⟨s.b,0,none⟩),.int .i64 s.t] 320)) (.cells #[.pointer (some ⟨s.b,0,none⟩),.int .i64 s.t] 320);simpa using this);have M:Hid (∀n:World,((w.alloc (.cells #[.pointer (some ⟨s.b,0,none⟩),.int .i64 s.t] 320)).alloc (.cells #[.pointer (some ⟨s.b,0,none⟩),.int .i64 s.t] 320)).grownBy n v.ownBlock->lA n x F L/\gA (fun k=>v.ownBlock=some k) w n):=fun n h=>by
  have ht:=(gA.of (S:=fun k=>v.ownBlock=some k) (pA (cA w _) (cA _ _))).trans' (gA.grown h);exact⟨ht.blk HX.out D,ht⟩
 clear N;go_enter func248,ntmps248;go_upto_region 1 with fail;go_cut [13] (fun _ wx=>∃g d,lA wx x (F.setIfInBounds o (.slice (some ⟨g,0,none⟩) (f.length+1) d)) L/\rF wx g d (f++[s])/\B<=g/\(v.ownBlock=some g\/w.heap.size<=g)/\g≠x/\gA (fun k=>k=x\/v.ownBlock=some k) w wx)
 case first=>
  go_region_law (refine step_append_lies _ rfl (.tmp 10) (.tmp 12) 183 rfl B 320 i0 (.agg #[.pointer none,.int .i64 0]) 2 16 underlying183 hi v0 w0 x0 rfl (by decide) v f.length (mI f) (by simp[Act.eval]) (by exact m0.out) ⟨w.heap.size+1,0,none⟩ 1 1 [.pointer (some ⟨s.b,0,none⟩),.int .i64 s.t] (by simp[Act.eval]) rfl (World.news_of_block (cs:=#[.pointer (some ⟨s.b,0,none⟩),.int .i64 s.t]) (by exact l0.out)) (by intro u hu;simp at hu;rcases hu with rfl|rfl<;>rfl) (by omega) (by unfold maxLen;omega) (by omega) (by simp;omega) (w.heap.size+1+1) (by simp) ?_;intro g d n s0 z j hlt;obtain⟨m,K⟩:=M.out n ⟨z.os,z.tape,z.output,z.size,z.block⟩;have c1:n.cell? ⟨x,o,none⟩=some v:=(by rw[m.cell];exact ho);have f1:=m.free o)
  all_goals(go_wp2_with fail;go_meet)
  all_goals
   have hr2:n.ownsRow B 320 2 (.slice (some ⟨g,0,none⟩) (f.length+1) d) (f.length+1) (mI (f++[s])):=by rw[ZA];exact s0
   obtain⟨hM,H⟩:=CZ hr2 (by simp);have J:g≠x:=by
    rcases j with h|h
    ·exact fun e=>D (by rw[<-e];exact h)
    ·omega
   obtain⟨cur,m1,m2⟩:=hM;exact⟨g,d,m.set o _,⟨cur,m1.but ((eD.refl _ _).setCell _ _) J,m2⟩,H,by rcases j with h|h;exact Ba h;exact Ea (by omega),J,gA.setCell (S:=fun k=>k=x\/v.ownBlock=some k) (K.mono fun k _ hk=>Ea hk) (Ba (Ba rfl)) _ _⟩
 obtain⟨g,d,m,n0,H,j,J,K⟩:=hcut;rename World=>n;have Q:Hid (lA n x (F.setIfInBounds o (.slice (some ⟨g,0,none⟩) (f.length+1) d)) L):=m;have HM1:Hid (rF n g d (f++[s])):=n0;have HT1:Hid _:=K;have p:Hid _:=j;have hoc:=(Bb.1 ho).1;have I:(F.setIfInBounds o (.slice (some ⟨g,0,none⟩) (f.length+1) d))[o]?=some (.slice (some ⟨g,0,none⟩) (f.length+1) d):=by simp[hoc]
 obtain⟨R,U⟩:∃c,c=F.setIfInBounds o (.slice (some ⟨g,0,none⟩) (f.length+1) d):=⟨_,rfl⟩
 rw[<-U]at I Q;have e0:Hid _:=U;clear U;have k0:n.cell? ⟨x,o,none⟩=some (.slice (some ⟨g,0,none⟩) (f.length+1) d):=by rw[Q.out.cell];exact I
 clear m n0 K j m0 l0 M HX c0 ho hi v0 w0 x0 D;go_wp2;go_loopw [4] (fun a wr=>∃(k:Nat) (l:List gG),a=.int .i64 k/\k<l.length/\l.length=f.length+1/\lA wr x R L/\rF wr g d l/\Hid (pP f s=iP l k)/\gA (fun k=>k=x\/v.ownBlock=some k) w wr) (fun a _=>(intOf a).toNat)
 case atStart=>exact⟨f.length,f++[s],by go_num,by simp,by simp,Q.out,HM1.out,rfl,HT1.out⟩
 case round=>
  obtain⟨k,l,rfl,hk,hl,X,o0,HS,u0⟩:=hrel;have E:Hid (lA wr x R L):=X;have r:Hid (rF wr g d l):=o0;have P:Hid _:=u0;have k1:wr.cell? ⟨x,o,none⟩=some (.slice (some ⟨g,0,none⟩) (f.length+1) d):=by rw[X.cell];exact I
  clear X o0 u0 k0;by_cases h0:0<k
  ·have V:=KZ (l:=l) h0;obtain⟨q,r0⟩:∃q,q=(k-1) / 2:=⟨_,rfl⟩
   rw[<-r0]at V;have hq:((k:Int)-1) / 2=(q:Nat):=by omega
   have hp:q<l.length:=by omega
   obtain⟨a0,a1,_,_⟩:=r.out.cells hk;obtain⟨b0,b1,_,_⟩:=r.out.cells hp;have g0:Hid _:=V;have j0:Hid (∀W,Below wr.heap.size wr W->Calls prog 272 #[.pointer (some ⟨x,o,none⟩),.int .i64 k,.int .i64 (((k:Int)-1) / 2)] W fun e Z=>e=.returned (.tuple #[])/\rF Z g d (yE l k q)/\eD g W Z):=
    fun W hW=>by rw[hq];exact RM x o g (f.length+1) d k q l W (by rw[(E.out.later hW).cell];exact I) hl.symm (r.out.later hW) (by omega) (by omega)
   have HL:Hid _:=hl;have hkn:k<f.length+1:=by omega
   have hqn:q<f.length+1:=by omega
   clear V r0 hl;have d0:=oA.cells k1;have d1:=oA.cells a0;have d2:=oA.cells a1;have d3:=oA.cells b0;have d4:=oA.cells b1;have q0:=oA.there wr;clear a0 a1 b0 b1 k1;generalize hget l k=A at *;generalize hget l q=C at *;go_wp2_with fail;refine jA (by kernel_rfl) (by kernel_rfl) ?_;repeat (go_big_quiet_step (fail))
   refine mT (by rfl) (fun W=>zW _ _ _ _ _ _ rfl rfl rfl (lV _ _ W)) (by rintro _ ⟨x,rfl⟩;exact tA (xZ _ _ _ _ _)) ?_;simp only[Act.put,Md,Ad,Ye];repeat (go_big_quiet_step (fail))
   refine wpQuiet_nil ?_;rintro _ ⟨y,rfl⟩;have Y:Hid _:=y.h;have HE:Hid _:=hq;clear d0 d1 d2 d3 d4 q0 hq;generalize y.w'=W2 at *;clear y;by_cases G:A.t<C.t
   ·have hd:decide (A.t<C.t)=true:=by simpa using G
    rw[hd];have O:Hid (pP f s=iP (yE l k q) q):=by show _=_;rw[HS.out,g0.out,Ga G]
    go_wp2_with fail;refine(j0.out _ Y.out).mono ?_;rintro e w3 ⟨rfl,p0,T⟩;have HM3:Hid (rF w3 g d (yE l k q)):=p0;have HX3:Hid (lA w3 x R L):=(E.out.later Y.out).but T J.symm;have HT3:Hid (gA (fun k=>k=x\/v.ownBlock=some k) w w3):=by
     refine(P.out.trans' (gA.of Y.out)).trans ((gA.but T).mono fun i _ e=>?_);subst e;rcases p.out with h|h
     ·exact Ba (Ea h)
     ·exact Ea h
    clear p0 T j0;go_wp2;exact⟨⟨q,yE l k q,by rw[HE.out],by rw[gC];exact hp,by rw[gC];exact HL.out,HX3.out,HM3.out,O.out,HT3.out⟩,by simp[intOf];omega⟩
   ·have hd:decide (A.t<C.t)=false:=by simpa using G
    rw[hd];have O:Hid (pP f s=l):=by show _=_;rw[HS.out,g0.out,Ca G]
    go_wp2;refine bodyPost_ret (v:=.tuple #[]) (by simp[results,results248,go_sem]) rfl ⟨rfl,g,d,e0.out ▸ E.out.later Y.out,?_,p.out,P.out.trans' (gA.of Y.out)⟩;rw[O.out,<-HL.out];exact wV (r.out.later Y.out) H
  ·go_wp2;go_end0;obtain rfl:k=0:=by omega
   rw[HS.out,LA];refine⟨rfl,g,d,e0.out ▸ E.out,?_,p.out,P.out⟩;rw[<-hl];exact wV r.out H
