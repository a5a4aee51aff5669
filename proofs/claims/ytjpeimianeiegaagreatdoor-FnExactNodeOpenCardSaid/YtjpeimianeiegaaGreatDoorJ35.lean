import Derived.Test.YtjpeimianeiegaaGreatDoorJ34
set_option maxRecDepth 100000
set_option maxHeartbeats 4000000
namespace Go.Proofs.YtjpeimianeiegaaGreatDoor
open Go.RowKit Tryz
theorem GG.from {w d c:World} {B n:Nat} {a:Option Addr} (b:Below w.heap.size w d) (h:GG d c B a n):GG w c B a n:=by
 rcases h with⟨f,h⟩|⟨j,g,o,e,i,h⟩
 ·exact Ba ⟨f,pA b h⟩
 ·exact Ea ⟨j,g,o,e,i,(eD.of b).trans h⟩
theorem DN (a:Option Addr) (d:Nat) (b:List dA) (c s o q:Int) (p:Bool) (k B:Nat) (w:World) (r:0<k) (f:k+3*b.length<=100000000) (h:nO w B a b):
 Calls prog 11 #[.agg #[.slice a b.length d,.int .i64 c,.int .i64 s,.int .i64 o,.int .i64 q,.bool p],.int .i64 (k:Int)] w fun e l=>
  e=.returned (.int .i64 ((k+3*b.length:Nat):Int))/\GG w l B a b.length/\nO l B a (nP k b.length):=by
 have n:Hid (nO w B a b):=h;clear h;go_enter func11,ntmps11;go_wp2_with fail;refine(TA a d b k B _ r f (n.out.later (cA _ _))).mono ?_;rintro e m ⟨rfl,i,j⟩;have g:Hid (GG w m B a b.length/\nO m B a (nP k b.length)):=⟨i.from (cA _ _),j⟩
 clear i j;go_wp2;go_ret;exact⟨rfl,g.out.1,g.out.2⟩
theorem SM (a:Option Addr) (q:Nat) (k n:Nat) (w:World) (J:0<k) (D:k+3*n<=100000000) (u:iA w a (nP k n)):
 Calls prog 76 #[.slice a n q,.int .i64 (k:Int)] w fun e E=>e=.returned (.int .i64 ((k+3*n:Nat):Int))/\Below w.heap.size w E:=by
 have v:Hid (iA w a (nP k n)):=u;clear u;go_enter func76,ntmps76;go_wp2;go_loopw [1,5] (fun l i wr=>∃j:Nat,j<=n/\i=.int .i64 j/\l=.int .i64 ((k+3*j:Nat):Int)/\Below w.heap.size w wr) (fun _ i _=>n-(intOf i).toNat)
 case atStart=>exact⟨0,Ha _,rfl,rfl,Below.refl _ _⟩
 case round=>
  obtain⟨j,I,rfl,rfl,c⟩:=hrel;by_cases r:j<n
  ·obtain⟨b,o,rfl,H,f,g,m⟩:=(v.out.later c).at (i:=j) (by rw[DO];exact r)
   rw[VX]at f g m;simp only[ku]at f g m;have B:=oA.cells f;have s:=oA.there wr;have p:Hid (wr.cell? ⟨b,o+j*3+1,none⟩=some (.string (mt (k+3*j+1)))/\wr.cell? ⟨b,o+j*3+2,none⟩=some (.int .i64 ((k+3*j+2:Nat):Int))):=⟨g,m⟩
   clear f g m;go_wp2_with fail;refine jA (by kernel_rfl) (by kernel_rfl) ?_;repeat (go_big_quiet_step (first|(go_at_call 74;exact tA (wG _ (k+3*j) (by omega) _ (by omega) (by omega)))))
   refine wpQuiet_nil ?_;rintro _ ⟨x,rfl⟩;have C:=oA.cells (x.cell p.out.1);have t:∀y:oA x.w',y.w'.cell? ⟨b,o+j*3+2,none⟩=some (.int .i64 ((k:Int)+3*(j:Int)+2)):=fun y=>by rw[y.cell (x.cell p.out.2)];simp
   have d:=oA.there x.w';have z:Hid _:=pA c x.h;clear B s p c;generalize x.w'=W at *;clear x;go_wp2_with fail;refine jA (by kernel_rfl) (by kernel_rfl) ?_;repeat (go_big_quiet_step (first|(go_at_call 74;exact tA (wG _ (k+3*j+1) (by omega) _ (by omega) (by omega)))))
   refine wpQuiet_nil ?_;rintro _ ⟨y,rfl⟩;have G:=t y;have A:Hid _:=pA z.out y.h;clear C t d;generalize y.w'=F at *;clear y;go_wp2;exact⟨⟨j+1,by omega,by go_num,by go_num,A.out⟩,by simp[intOf];omega⟩
  ·go_wp2;go_ret;have e:j=n:=by omega
   subst e;exact⟨iC (by omega),c⟩
theorem ZE (a:Option Addr) (b:Nat) (c p j m:Int) (l:Bool) (k n:Nat) (w:World) (o:0<k) (d:k+3*n<=100000000) (g:iA w a (nP k n)):
 Calls prog 38 #[.agg #[.slice a n b,.int .i64 c,.int .i64 p,.int .i64 j,.int .i64 m,.bool l],.int .i64 (k:Int)] w fun e q=>
  e=.returned (.int .i64 ((k+3*n:Nat):Int))/\Below w.heap.size w q:=by
 have i:Hid (iA w a (nP k n)):=g;clear g;go_enter func38,ntmps38;go_wp2_with fail;refine(SM a b k n _ o d (i.out.later (cA _ _))).mono ?_;rintro e r ⟨rfl,f⟩;have h:Hid _:=pA (cA _ _) f;clear f;go_wp2;go_ret;exact⟨iC (by omega),h.out⟩
def nT (w:World) (A:Nat->Prop) (a:Option Addr) (b:List eA):Prop:=
 b=[]\/∃g o c t T,a=some ⟨g,o,none⟩/\w.heap[g]?=some (.cells c t (0,0))/\T g=0/\(∀x,T x<=2*b.length->A x)/\∀i (h:i<b.length),cP w 0 T i g (o+i*4) b[i]
theorem nT.tens {w:World} {A:Nat->Prop} {a:Option Addr} {b:List eA} (h:nT w A a b):eC w a b:=by
 rcases h with h|⟨g,o,c,t,T,rfl,d,_,_,h⟩
 ·exact Ba h
 ·exact Ea ⟨g,o,rfl,aA d,fun i e=>(h i e).at⟩
theorem nT.turned {S A:Nat->Prop} {w p:World} {a:Option Addr} {n:List eA} (h:nT w A a n) (m:gA S w p) (k:∀g,A g->g<w.heap.size->¬S g):nT p A a n:=by
 rcases h with h|⟨g,o,c,t,T,rfl,f,q,e,h⟩
 ·exact Ba h
 ·have l:=m.block g (aA f) (k g (e g (by omega)) (aA f));exact Ea ⟨g,o,c,t,T,rfl,l.trans f,q,e,fun i s=>(h i s).keep (fun j _=>World.cell?_of_block l) fun d b _ r=>⟨m.block d b (k d (e d (by omega)) b),rfl⟩⟩
theorem nT.later {w c:World} {A:Nat->Prop} {a:Option Addr} {b:List eA} (h:nT w A a b) (d:Below w.heap.size w c):nT c A a b:=h.turned (gA.of (S:=fun _=>False) d) fun _ _ _ e=>e
theorem uC.toA {w:World} {B H:Nat} {a:Option Addr} {f:List eA} (h:uC w B a f) (P:w.heap.size<=H):nT w (fun x=>B<=x/\x<H) a f:=by
 rcases h with h|⟨g,o,j,t,T,rfl,I,p,J,h⟩
 ·exact Ba h
 ·have L:=aA p;refine Ea ⟨g,o,j,t,fun x=>if B<=x/\x<H then T x else 2*f.length+1,rfl,p,?_,fun x M=>?_,fun i K=>?_⟩
  ·show(if _ then _ else _)=0;rw[Ga ⟨I,by omega⟩];exact J
  ·by_cases m:B<=x/\x<H
   ·exact m
   ·simp only[Ca m]at M;omega
  ·obtain⟨s,v,u,y,A,C,D,E,F,G⟩:=h i K;have b:∀{n:Nat} {q:Option Addr} {r:List fA},oD w B T n q r->oD w 0 (fun x=>if B<=x/\x<H then T x else 2*f.length+1) n q r:=fun b=>by
    rcases b with b|⟨z,N,c,O,e,k,l,d,b⟩
    ·exact Ba b
    ·have:=aA d;exact Ea ⟨z,N,c,O,e,Ha _,by show(if _ then _ else _)=_;rw[Ga ⟨k,by omega⟩];exact l,d,b⟩
   exact⟨s,v,u,y,A,C,D,E,b F,b G⟩
def aH (w:World) (A:Nat->Prop) (a:Option Addr) (c:List dA):Prop:=
 c=[]\/∃g o b t,a=some ⟨g,o,none⟩/\A g/\w.heap[g]?=some (.cells b t (0,0))/\xR w g o c
theorem aH.files {w:World} {A:Nat->Prop} {a:Option Addr} {b:List dA} (h:aH w A a b):iA w a b:=by
 rcases h with h|⟨g,o,c,t,rfl,_,d,h⟩
 ·exact Ba h
 ·exact Ea ⟨g,o,rfl,aA d,h⟩
theorem aH.turned {S A:Nat->Prop} {w d:World} {a:Option Addr} {e:List dA} (h:aH w A a e) (p:gA S w d) (l:∀g,A g->g<w.heap.size->¬S g):aH d A a e:=by
 rcases h with h|⟨g,o,b,t,rfl,f,c,h⟩
 ·exact Ba h
 ·have k:=p.block g (aA c) (l g f (aA c));have m:∀j,d.cell? ⟨g,j,none⟩=w.cell? ⟨g,j,none⟩:=fun j=>World.cell?_of_block k;exact Ea ⟨g,o,b,t,rfl,f,k.trans c,fun i n=>by simp only[m];exact h i n⟩
theorem aH.later {w c:World} {A:Nat->Prop} {a:Option Addr} {b:List dA} (h:aH w A a b) (d:Below w.heap.size w c):aH c A a b:=h.turned (gA.of (S:=fun _=>False) d) fun _ _ _ e=>e
theorem aH.mono {w:World} {A c:Nat->Prop} {a:Option Addr} {d:List dA} (h:aH w A a d) (f:∀x,A x->c x):aH w c a d:=by
 rcases h with h|⟨g,o,b,t,e,q,h⟩
 ·exact Ba h
 ·exact Ea ⟨g,o,b,t,e,f g q,h⟩
theorem nO.toA {w:World} {B H:Nat} {a:Option Addr} {c:List dA} (h:nO w B a c) (i:w.heap.size<=H):aH w (fun x=>B<=x/\x<H) a c:=by
 rcases h with h|⟨g,o,b,t,e,f,d,h⟩
 ·exact Ba h
 ·have:=aA d;exact Ea ⟨g,o,b,t,e,⟨f,by omega⟩,d,h⟩
theorem aH.own {w:World} {A:Nat->Prop} {a:Option Addr} {c:List dA} (h:aH w A a c):c=[]\/∃g o,a=some ⟨g,o,none⟩/\A g/\nO w g a c:=by
 rcases h with h|⟨g,o,b,t,e,q,d,h⟩
 ·exact Ba h
 ·exact Ea ⟨g,o,e,q,Ea ⟨g,o,b,t,e,Da _,d,h⟩⟩
theorem aBw (a:Option Addr) (b:Nat) (d:List eA) (k:Nat) (A:Nat->Prop) (w:World) (u:0<k) (l:k+yB d<=100000000) (m:nT w A a d):
 Calls prog 75 #[.slice a d.length b,.int .i64 (k:Int)] w fun e f=>e=.returned (.int .i64 ((k+yB d:Nat):Int))/\gA A w f/\eC f a (mF k d):=by
 rcases m with rfl|⟨g,o,j,t,T,rfl,r,p,n,h⟩
 ·refine(LW a b k w).mono ?_;rintro e f ⟨rfl,rfl⟩;exact⟨iC (by simp[yB]),gA.refl _ _,Ba (by simp[mF])⟩
 ·refine(LV g o b d k 0 T j t w u l (Ha _) r p h).mono ?_;rintro e f ⟨rfl,y,c,q,v⟩;exact⟨rfl,y.mono fun x _ z=>n x z.2,Ea ⟨g,o,rfl,aA q,fun i s=>(v i s).at⟩⟩
theorem tk (f:Int) (a:Option Addr) (c:Nat) (b:List eA) (k:Nat) (A:Nat->Prop) (w:World) (o:0<k) (d:k+yB b<=100000000) (h:nT w A a b):
 Calls prog 37 #[.agg #[.int .i64 f,.slice a b.length c],.int .i64 (k:Int)] w fun e l=>e=.returned (.int .i64 ((k+yB b:Nat):Int))/\gA A w l/\eC l a (mF k b):=by
 have m:=bA (fun W (n:Below w.heap.size w W)=>aBw a c b k A W o d (h.later n));clear h;go_enter func37,ntmps37;go_wp2_with fail;refine(m.out _ (cA _ _)).mono ?_;rintro e p ⟨rfl,j,i⟩;have g:=bA (Ee ((gA.of (cA _ _)).trans' j) i);clear j i;go_wp2;go_ret;exact⟨rfl,g.out.1,g.out.2⟩
theorem VW (a:Option Addr) (d:Nat) (f:List dA) (c s m r:Int) (p:Bool) (k:Nat) (A:Nat->Prop) (w:World) (u:0<k) (i:k+3*f.length<=100000000) (z:aH w A a f):
 Calls prog 11 #[.agg #[.slice a f.length d,.int .i64 c,.int .i64 s,.int .i64 m,.int .i64 r,.bool p],.int .i64 (k:Int)] w fun e l=>
  e=.returned (.int .i64 ((k+3*f.length:Nat):Int))/\gA A w l/\aH l A a (nP k f.length):=by
 rcases z.own with rfl|⟨g,o,rfl,q,h⟩
 ·refine(DN a d [] c s m r p k 0 w u i (Ba rfl)).mono ?_;rintro e l ⟨rfl,b,_⟩;rcases b with⟨_,b⟩|⟨b,_⟩
  ·exact⟨rfl,gA.of b,Ba rfl⟩
  ·exact absurd b (by simp)
 ·refine(DN _ d f c s m r p k g w u i h).mono ?_;rintro e l ⟨rfl,b,j⟩;refine⟨rfl,?_,?_⟩
  ·rcases b with⟨_,b⟩|⟨_,v,C,e,_,b⟩
   ·exact gA.of b
   ·simp only[Ja,Addr.mk.injEq]at e;obtain⟨rfl,_⟩:=e;exact(gA.but b).mono fun x _ B=>B ▸ q
  ·rcases j with j|⟨v,C,n,t,e,_,y,j⟩
   ·exact Ba j
   ·simp only[Ja,Addr.mk.injEq]at e;obtain⟨rfl,rfl,_⟩:=e;exact Ea ⟨g,o,n,t,rfl,q,y,j⟩
theorem aKd (l:List UInt8):∀a,l.foldl (fun v c=>v*10+(c.toNat-48)) a=a*10 ^ l.length+tQ l:=by
 induction l with
 |nil=>intro a;simp[tQ]
 |cons c r e=>
  intro a;have b:=e (0*10+(c.toNat-48));have d:=e (a*10+(c.toNat-48));simp only[Wc,tQ,Sa]at b d |-
  rw[d,b,Oc,Nat.add_mul,Nat.add_mul,Nat.mul_assoc a,Nat.mul_comm 10];omega
theorem GU (c:UInt8) (l:List UInt8):tQ (c::l)=(c.toNat-48)*10 ^ l.length+tQ l:=by
 have h:=aKd l (0*10+(c.toNat-48));show(c::l).foldl _ 0=_;rw[Wc,h];simp
theorem aKe (l:List UInt8) (h:l.all zI=true):tQ l<10 ^ l.length:=by
 induction l with
 |nil=>simp[tQ]
 |cons c r a=>
  simp only[Af,Na]at h;have b:=a h.2;have d:48<=c.toNat/\c.toNat<=57:=by simpa[zI]using h.1
  have e:(c.toNat-48)*10 ^ r.length<=9*10 ^ r.length:=Oe _ (by omega);rw[GU,Sa,Oc];omega
theorem gl:∀(x y:List UInt8),x.length=y.length->x.all zI=true->y.all zI=true->Op.bytesLess x y=true->tQ x<tQ y
 |[],[],_,_,_,h=>by simp[Op.bytesLess]at h
 |a::x,b::y,hl,hx,hy,h=>by
  simp only[Af,Na]at hx hy;have c:x.length=y.length:=by simpa using hl
  have f:48<=a.toNat/\a.toNat<=57:=by simpa[zI]using hx.1
  have g:48<=b.toNat/\b.toNat<=57:=by simpa[zI]using hy.1
  have e:=aKe x hx.2;rw[GU,GU,<-c];simp only[Op.bytesLess,Bd,Ya,Na,Jf]at h;rcases h with h|⟨rfl,h⟩
  ·have i:=UInt8.lt_iff_toNat_lt.1 h;have d:(a.toNat-48+1)*10 ^ x.length<=(b.toNat-48)*10 ^ x.length:=Oe _ (by omega);rw[Nat.add_mul]at d;omega
  ·have:=gl x y c hx.2 hy.2 h;omega
theorem aDm {m n:Nat} (a:m<1000000) (b:n<1000000) (h:Op.bytesLess (wR m).toList (wR n).toList=true):m<n:=by
 have e:∀k,(wR k).toList=119::97::108::45::zK k 6:=fun k=>by rw[ByteArray.toList_eq];rfl
 rw[e,e]at h;simp only[Op.bytesLess,Bd,Ya,Na,Jf,UInt8.lt_irrefl,false_or,true_and]at h;have:=gl _ _ (by rw[zJ,zJ]) (EX m) (EX n) h;rwa [EW a,EW b]at this
def Up (l:List Int):Prop:=l.Pairwise (·<·)
theorem yt {a:List dA} (l:dN a):Up (gF a):=by
 have n:a.Pairwise fun f g=>Op.bytesLess f.name.toList g.name.toList=true:=by
  rw[Sc];intro i j q m b;exact l i j b m
 unfold Up gF;rw[Zd];refine(Pe _ n).imp_of_mem ?_;intro f g c d h;simp only[Ed,Ya]at c d;obtain⟨e,o⟩:=lQ c.2;obtain⟨k,p⟩:=lQ d.2;rw[e,k]at h;have:=aDm o p h;omega
theorem vl {x:Int} {l:List Int} (h:Up (x::l)):(∀i (a:i<(x::l).length),(x::l)[i]=x+i) ↔ (x::l).getLast (by simp)-x<(x::l).length:=by
 have d:∀i (a:i<(x::l).length),x+(i:Int)<=(x::l)[i]:=by
  intro i;induction i with
  |zero=>intro _;simp
  |succ k g=>
   intro a;have m:=g (by omega);have c:=(Sc.1 h) k (k+1) (by omega) a (by omega);omega
 have f:∀j i (a:i+j<(x::l).length),(x::l)[i]+(j:Int)<=(x::l)[i+j]:=by
  intro j;induction j with
  |zero=>intro i a;simp
  |succ k g=>
   intro i a;have m:=g i (by omega);have c:=(Sc.1 h) (i+k) (i+(k+1)) (by omega) a (by omega);omega
 have b:(x::l).getLast (by simp)=(x::l)[(x::l).length-1]:=Xf _;rw[b];constructor
 ·intro n;have:=n ((x::l).length-1) (by simp);rw[this];simp;omega
 ·intro o i a;have m:=d i a;have c:=f ((x::l).length-1-i) i (by omega);have e:i+((x::l).length-1-i)=(x::l).length-1:=by omega
  simp only[e]at c;omega
theorem jN {a:List dA} (c:∀f∈a,wL f=true) (d:dN a):yF a=true:=by
 simp only[yF,dR,Vd,Yg];intro i b;unfold eT;rw[Ka b];simp only[c _ (Db b),Nc];cases i with
 |zero=>rfl
 |succ j=>
  simp only[Ka (show j<a.length by omega)];exact d j (j+1) (by omega) b
theorem cX {a:List dA} (h:yF a=true):∀f∈a,wL f=true:=by
 intro f c;obtain⟨i,b,rfl⟩:=Gb c;simp only[yF,dR,Vd,Yg]at h;have:=h i b;unfold eT at this;rw[Ka b]at this;simp only[Na]at this;exact this.1
def ltF (a b:dA):Prop:=Op.bytesLess a.name.toList b.name.toList=true
theorem eu {c:List dA}:dN c ↔ c.Pairwise ltF:=by
 rw[Sc];exact⟨fun h i j _ b a=>h i j a b,fun h i j a b=>h i j (by omega) b a⟩
theorem vw {c:List dA} {f:dA} (h:dN c) (l:eF c f.name (mA f.name c)=false):dN (dK c (mA f.name c) f):=by
 have n:=kG f.name h;have k:=VH h l;have g:=eu.1 h;rw[<-Xa (mA f.name c) c,Je]at g;rw[eu,dK,Je,Wb];refine⟨g.1,⟨fun b d=>?_,g.2.1⟩,fun a m b d=>?_⟩
 ·obtain⟨j,i,rfl⟩:=Gb d;rw[Lc]at i;rw[List.getElem_drop];have o:=n.2.2 (mA f.name c+j) (by omega) (by omega);exact wJ _ _ o (fun e=>k _ (by omega) (toList_inj e))
 ·rcases Cb.1 d with rfl|d
  ·obtain⟨j,i,rfl⟩:=Gb m;rw[Ta]at i;rw[Ff];exact n.2.1 j (by omega) (by omega)
  ·exact g.2.2 a m b d
theorem MH {c:List dA} {i:Nat} {f:dA} (h:dN c) (n:i<c.length) (m:f.name=c[i].name):dN (c.set i f):=by
 have hget:∀a (l:a<(c.set i f).length) (g:a<c.length),(c.set i f)[a].name=c[a].name:=fun a l g=>by
  rw[List.getElem_set];split
  ·rename_i e;subst e;exact m
  ·rfl
 intro a b j k;have d:b<c.length:=by simpa using k
 rw[hget a (by omega) (by omega),hget b k d];exact h a b j d
theorem bX {n d:ByteArray} {s:Int} (c:wF n=true) (a:0<=s) (b:s<=d.size):wL ⟨n,d,s⟩=true:=by
 simp[wL,uA,c,a,b]
theorem nV {a:List dA} {i:Nat} {f g:dA} (h:g∈a.set i f):g=f\/g∈a:=(List.mem_or_eq_of_mem_set h).symm
theorem gm {a:List dA} {c k b d:Int} (e:a.length<=1000) (f:yF a=true) (g:0<=c/\c<=1000000000) (h:(xA a:Int)<=c) (i:0<=k/\k<=1000000000000000) (j:0<=b/\b<=1000000000000000) (l:0<=d/\d<=1000000000000000):vC a c k b d=true:=by
 simp[vC,uA,e,f,g,h,i,j,l]
theorem aFh {a:List dA} {c:Int} {op:uR} (m:yF a=true) (l:a.length<=1000) (p:(xA a:Int)<=c) (B:wF op.name=true) (E:op.kind=5->wF op.tq=true):
 yF (dM a c op).2=true/\(dM a c op).2.length<=1000/\(xA (dM a c op).2:Int)<=c:=by
 have j:=jL m;have o:=cX m;unfold dM;simp only;split
 ·split
  ·exact⟨m,l,p⟩
  ·rename_i x;split
   ·exact⟨m,l,p⟩
   ·rename_i A;have C:=kG op.name j;refine⟨jN (fun f i=>?_) (vw (f:=⟨op.name,ByteArray.empty,0⟩) j (by simpa using x)),?_,?_⟩
    ·simp only[dK,Ie,Cb]at i;rcases i with i|rfl|i
     ·exact o _ (Xd i)
     ·exact bX B (by omega) (by simp)
     ·exact o _ (Lg i)
    ·rw[sO _ _ _ C.1];omega
    ·rw[BR];simpa using p
 ·split
  ·exact⟨m,l,p⟩
  ·rename_i f v;obtain⟨k,rfl⟩:=Va.1 v;have h:=o _ (Db k);simp only[wL,uA,Na,Ya]at h;split
   ·exact⟨m,l,p⟩
   ·split
    ·split
     ·exact⟨m,l,p⟩
     ·rename_i G;have b:=sL a (mA op.name a) ⟨a[mA op.name a].name,a[mA op.name a].data++op.data,a[mA op.name a].y9⟩ k;simp only[Ia]at b;refine⟨jN (fun g e=>?_) (MH j k rfl),by simpa using l,by simp only;omega⟩;rcases nV e with rfl|e
      ·exact bX h.1 h.2.1 (by rw[Ia];omega)
      ·exact o _ e
    ·split
     ·have b:=sL a (mA op.name a) ⟨a[mA op.name a].name,a[mA op.name a].data,a[mA op.name a].data.size⟩ k;simp only at b;refine⟨jN (fun g e=>?_) (MH j k rfl),by simpa using l,by simp only;omega⟩;rcases nV e with rfl|e
      ·exact bX h.1 (by omega) (by omega)
      ·exact o _ e
     ·split
      ·split
       ·rename_i u;simp only[uA,Na,Ya]at u;have b:=sL a (mA op.name a) ⟨a[mA op.name a].name,a[mA op.name a].data.extract 0 op.size.toNat,op.size⟩ k;simp only at b;have F:(a[mA op.name a].data.extract 0 op.size.toNat).size=op.size.toNat:=by rw[Yb];omega
        refine⟨jN (fun g e=>?_) (MH j k rfl),by simpa using l,by simp only;omega⟩;rcases nV e with rfl|e
        ·exact bX h.1 u.1 (by rw[F];omega)
        ·exact o _ e
       ·exact⟨m,l,p⟩
      ·have t:yF (a.eraseIdx (mA op.name a))=true:=jN (fun g e=>o _ (Sf e)) (j.erase _);have z:(a.eraseIdx (mA op.name a)).length=a.length-1:=by rw[Dc,Ga k]
       have D:=lW a _ k;split
       ·rename_i y;have u:=(kG op.tq (j.erase (mA op.name a)))
        have q:=bX (n:=op.tq) (d:=a[mA op.name a].data) (s:=a[mA op.name a].y9) (E y) h.2.1 h.2.2;cases hq:eF (a.eraseIdx (mA op.name a)) op.tq (mA op.tq (a.eraseIdx (mA op.name a))) with
        |true=>
         obtain⟨w,r⟩:=CY hq;have b:=sL (a.eraseIdx (mA op.name a)) (mA op.tq (a.eraseIdx (mA op.name a))) ⟨op.tq,a[mA op.name a].data,a[mA op.name a].y9⟩ w;simp only at b;rw[SG (f:=⟨op.tq,a[mA op.name a].data,a[mA op.name a].y9⟩) (j.erase _) w r];refine⟨jN (fun g e=>?_) (MH (j.erase _) w r.symm),by simp only[Xc];omega,by simp only;omega⟩;rcases nV e with rfl|e
         ·exact q
         ·exact cX t _ e
        |false=>
         rw[SF (f:=⟨op.tq,a[mA op.name a].data,a[mA op.name a].y9⟩) (j.erase _) hq];refine⟨jN (fun f i=>?_) (vw (f:=⟨op.tq,a[mA op.name a].data,a[mA op.name a].y9⟩) (j.erase _) hq),?_,?_⟩
         ·simp only[dK,Ie,Cb]at i;rcases i with i|rfl|i
          ·exact cX t _ (Xd i)
          ·exact q
          ·exact cX t _ (Lg i)
         ·rw[sO _ _ _ u.1];omega
         ·rw[BR];simp only;omega
       ·exact⟨t,by simp only;omega,by simp only;omega⟩
theorem YL {k cr fl:Int} {dn:Bool} (a:0<=k) (b:k<=1000000000000000):0<=(cC k cr fl dn).2.1/\(cC k cr fl dn).2.1<=1000000000000000:=by
 unfold cC;split
 ·exact⟨a,b⟩
 ·split
  ·exact⟨a,b⟩
  ·split
   ·simp only;omega
   ·split<;>(simp only;omega)
theorem AE {i:List dA} {c k b d:Int} {dn:Bool} {a:uR} (h:vC i c k b d=true) (j:dr a=true):
 vC (lG i c k b d dn a).2.1 c (lG i c k b d dn a).2.2.1 b d=true:=by
 obtain⟨l,m,n,o,p,w,x,q,r,e,f⟩:=dD h;have g:wF a.name=true/\(a.kind=5->wF a.tq=true):=by
  simp only[dr,uA,Na,Bd,Ya]at j;exact⟨j.1.2,fun h=>j.2.resolve_left (fun k=>k h)⟩
 have s:=YL (cr:=b) (fl:=d) (dn:=dn) w x;unfold lG;split
 ·obtain⟨t,u,v⟩:=aFh (op:=a) l m p g.1 g.2;exact gm u t ⟨n,o⟩ v s ⟨q,r⟩ ⟨e,f⟩
 ·exact gm m l ⟨n,o⟩ p s ⟨q,r⟩ ⟨e,f⟩
theorem ub (k:Nat) (h:k<10):BD (48+UInt8.ofNat k)=true:=by
 rcases(show k=0\/k=1\/k=2\/k=3\/k=4\/k=5\/k=6\/k=7\/k=8\/k=9 by omega) with rfl|rfl|rfl|rfl|rfl|rfl|rfl|rfl|rfl|rfl<;>decide
theorem KK (n:Nat):∀i,dJ (zK n i)=true
 |0=>rfl
 |i+1=>by
  have a:=KK n i;simp only[dJ,zK,Af,Na]at a |-
  exact⟨ub _ (by omega),a⟩
theorem EY (n:Int) (a:1<=n) (b:n<=999999):vD n=wR n.toNat:=Ga ⟨a,b⟩
theorem aCe (n:Int) (b:1<=n) (c:n<=999999):wF (vD n)=true:=by
 rw[EY n b c];have e:(wR n.toNat).size=10:=by
  show(119::97::108::45::zK n.toNat 6).toArray.size=10;simp[zJ]
 have d:(wR n.toNat).data.toList=119::97::108::45::zK n.toNat 6:=rfl;have a:=KK n.toNat 6;unfold wF;rw[e,d];simp only[dJ,Af]at a |-
 rw[a];decide
theorem IK {k:Int} {n:Int} {d:ByteArray} {z:Int} (g:1<=k/\k<=4) (a:1<=n) (b:n<=999999):dr ⟨k,vD n,⟨#[]⟩,d,z⟩=true:=by
 have f:=aCe n a b;have e:uA k 1 6=true:=by simp[uA];omega
 have c:decide (k≠5)=true:=by simp;omega
 simp only[dr,e,f,c,Nc,Bool.true_or]
structure bQ (w0 w:World) (B P D:Nat) (K:kB) (L:zH):Prop where
 pow:xI w0
 below:Below w0.heap.size w0 w
 hB:w0.heap.size≤B
 hP:w0.heap.size≤P
 wr:en w P D L
 drive:∃v,oB w B D K.fs K.c K.k K.cr K.fl K.dn v
 valid:vC K.fs K.c K.k K.cr K.fl=true
theorem bQ.later {c w b:World} {B P D:Nat} {K:kB} {L:zH} (h:bQ c w B P D K L) (a:Below w.heap.size w b):bQ c b B P D K L:=
 ⟨h.pow,pA h.below a,h.hB,h.hP,h.wr.later a,by obtain⟨v,d⟩:=h.drive;exact⟨v,d.later a⟩,h.valid⟩
theorem bQ.tab {a w:World} {B P D:Nat} {K:kB} {L:zH} (h:bQ a w B P D K L):xI w:=h.pow.later h.below
theorem bQ.set {c w:World} {B P D:Nat} {K:kB} {L L':zH} (h:bQ c w B P D K L) (j:Nat) (x:Value) (n:#[Value.pointer (some ⟨D,0,none⟩),.int .i64 L'.first,.int .i64 L'.last,.int .i64 L'.size]=(#[Value.pointer (some ⟨D,0,none⟩),.int .i64 L.first,.int .i64 L.last,.int .i64 L.size]:Array Value).setIfInBounds j x):bQ c (w.setCell ⟨P,j,none⟩ x) B P D K L':=by
 refine⟨h.pow,h.below.setCell (by show c.heap.size<=P;exact h.hP) _,h.hB,h.hP,?_,?_,h.valid⟩
 ·show lA _ _ _ _;rw[n];exact lA.set h.wr j x
 ·obtain⟨v,a⟩:=h.drive;refine⟨v,a.from',?_,?_,a.apart⟩
  ·refine(Below.heap_setCell _ _ _ D (fun e=>?_)).trans a.blk;have l:D=P:=e;have d:=a.blk;rw[l]at d;have b:=(show w.heap[P]?=_ from d).symm.trans h.wr;simp at b
  ·refine IW (S:=fun k=>k=P) a.row ((jC.refl (fun k=>k=P) w).setCell (g:=P) rfl j x) (fun g m e=>?_);obtain⟨i,f⟩:=iU a.row g m;rw[e]at f;have b:=(show w.heap[P]?=_ from f).symm.trans h.wr;simp at b
theorem FJ {K:kB} {a:uR} (h:vC K.fs K.c K.k K.cr K.fl=true) (b:dr a=true):
 wD K a=(⟨(lG K.fs K.c K.k K.cr K.fl K.dn a).2.1,K.c,(lG K.fs K.c K.k K.cr K.fl K.dn a).2.2.1,K.cr,K.fl,(lG K.fs K.c K.k K.cr K.fl K.dn a).2.2.2⟩,(lG K.fs K.c K.k K.cr K.fl K.dn a).1):=by
 unfold wD yP;rw[Ga (by simp[h,b])]
theorem OM {x:Nat} (a:¬x=0) (b:x<=6):∃t,iG x=.iface 139 (.string t):=by
 match x,a,b with
 |1,_,_=>exact⟨_,rfl⟩
 |2,_,_=>exact⟨_,rfl⟩
 |3,_,_=>exact⟨_,rfl⟩
 |4,_,_=>exact⟨_,rfl⟩
 |5,_,_=>exact⟨_,rfl⟩
 |6,_,_=>exact⟨_,rfl⟩
def hJ:List ByteArray->ByteArray
 |[]=>ByteArray.empty
 |x::r=>x++hJ r
theorem nJ:∀(a b:List ByteArray),hJ (a++b)=hJ a++hJ b
 |[],b=>by simp[hJ]
 |x::r,b=>by
  show x++hJ (r++b)=x++hJ r++hJ b;rw[nJ r b,Ob]
theorem aEs (a:List ByteArray):(hJ a).data.toList=(a.map (·.data.toList)).flatten:=by
 induction a with
 |nil=>rfl
 |cons x r b=>simp[hJ,b]
theorem jt (a:List ByteArray):Lib.join (a.map (·.data.toList)) ByteArray.empty.data.toList=(hJ a).data.toList:=by
 have e:ByteArray.empty.data.toList=[]:=rfl;rw[aEs,e];cases a with
 |nil=>rfl
 |cons x r=>
  rw[Sb,Lib.join_cons,Lib.joinTail];simp;rfl
theorem aJu (a:List ByteArray):(⟨(Lib.join (a.map (·.data.toList)) ByteArray.empty.data.toList).toArray⟩:ByteArray)=hJ a:=by
 rw[jt]
def aK:List ByteArray->Nat
 |[]=>0
 |x::r=>x.size+aK r
theorem UL:∀(a:List ByteArray),(hJ a).size=aK a
 |[]=>rfl
 |x::r=>by rw[hJ,Ia,UL r,aK]
theorem bM:∀(a b:List ByteArray),aK (a++b)=aK a+aK b
 |[],b=>by simp[aK]
 |x::r,b=>by show x.size+aK (r++b)=x.size+aK r+aK b;rw[bM r b];omega
theorem rh (n:Nat) (w:World):Calls prog 184 #[.int .i64 (n:Nat)] w fun e b=>e=.returned (.string (aB 1 (n:Nat)))/\Below w.heap.size w b:=by
 have d:Hid (∀W,Calls prog 211 #[.int .i64 (n:Nat),.int .i64 1] W fun e b=>e=.returned (.string (aB 1 (n:Nat)))/\Below W.heap.size W b):=fun W=>cI 1 (n:Nat) W (by omega);generalize aB 1 (n:Nat)=N at *;go_enter func184,ntmps184;go_wp2_with fail;refine(d.out _).mono ?_;rintro e f ⟨rfl,a⟩;have c:Hid _:=a;clear a;go_wp2;go_ret;exact⟨rfl,c.out⟩
theorem bR (g n b:Nat) (a:List ByteArray) (w:World) (p:n=a.length) (i:∀(j:Nat) x,a[j]?=some x->w.cell? ⟨g,0+j,none⟩=some (.string x)) (o:g<w.heap.size) (d:a.length<=b) (q:a.length<=1000000000) (k:aK a<=140737488355328):
 Calls prog 169 #[.slice (some ⟨g,0,none⟩) n b] w fun e f=>e=.returned (.string (hJ a))/\Below w.heap.size w f:=by
 subst p;have m:Hid (Calls prog 212 #[.slice (some ⟨g,0,none⟩) a.length b,.string ByteArray.empty] w fun e f=>e=.returned (.string (hJ a))/\Below w.heap.size w f):=by
  have h:=strings_Join g 0 b a ByteArray.empty w i o (by omega) d (by rw[jt,<-Lib.size_eq,UL];exact k);rw[aJu]at h;exact h
 clear i k;generalize hJ a=C at *;generalize a.length=n at *;go_enter func169,ntmps169;go_wp2_with fail;refine m.out.mono ?_;rintro e r ⟨rfl,c⟩;have l:Hid _:=c;clear c;go_wp2;go_ret;exact⟨rfl,l.out⟩
theorem XT {W:World} {x y:ByteArray} {t:TypeId}:∀(j:Nat) z,[x,y][j]?=some z->(W.alloc (.cells #[.string x,.string y] t)).cell? ⟨W.heap.size,0+j,none⟩=some (.string z):=by
 intro j z h;rw[cell_of_row _ W.heap.size _ _ _ _ (heap_alloc_new _ _),Oa];match j,h with
 |0,h=>simp at h;simp[h]
 |1,h=>simp at h;simp[h]
 |j+2,h=>simp at h
theorem PC (s:ByteArray) (w:World) (j:s.size<=1000000000):Calls prog 185 #[.string s] w fun e d=>e=.returned (.string (xV s))/\Below w.heap.size w d:=by
 have i:Hid _:=fun W=>rh s.size W;have k:=bB 1 (s.size:Nat);unfold xV;generalize aB 1 (s.size:Nat)=N at *;have g:Hid (∀W:World,Calls prog 169 #[.slice (some ⟨W.heap.size,0,none⟩) 2 2] (W.alloc (.cells #[.string N,.string s] 9)) fun e d=>e=.returned (.string (N++s))/\Below (W.alloc (.cells #[.string N,.string s] 9)).heap.size (W.alloc (.cells #[.string N,.string s] 9)) d):=fun W=>by
  have h:=bR W.heap.size 2 2 [N,s] (W.alloc (.cells #[.string N,.string s] 9)) rfl XT (by simp) (by simp) (by simp) (by simp[aK];omega);have e:hJ [N,s]=N++s:=by simp[hJ]
  rw[e]at h;exact h
 go_enter func185,ntmps185;go_wp2_with fail;refine(i.out _).mono ?_;rintro e l ⟨rfl,a⟩;have f:Hid _:=a;clear a;go_wp2_with fail;refine(g.out _).mono ?_;rintro e m ⟨rfl,b⟩;have c:Hid _:=pA (pA f.out (cA _ _)) b;clear b;go_wp2;go_ret;exact⟨rfl,c.out⟩
theorem iX (s:ByteArray) (w:World) (j:s.size<=1000000000):Calls prog 186 #[.string s] w fun e c=>e=.returned (.string (nG s))/\Below w.heap.size w c:=by
 have i:Hid (∀W,Calls prog 211 #[.int .i64 (s.size:Nat),.int .i64 2] W fun e c=>e=.returned (.string (aB 2 (s.size:Nat)))/\Below W.heap.size W c):=fun W=>cI 2 (s.size:Nat) W (by omega);have k:=bB 2 (s.size:Nat);unfold nG;generalize aB 2 (s.size:Nat)=N at *;have g:Hid (∀W:World,Calls prog 169 #[.slice (some ⟨W.heap.size,0,none⟩) 2 2] (W.alloc (.cells #[.string N,.string s] 9)) fun e c=>e=.returned (.string (N++s))/\Below (W.alloc (.cells #[.string N,.string s] 9)).heap.size (W.alloc (.cells #[.string N,.string s] 9)) c):=fun W=>by
  have h:=bR W.heap.size 2 2 [N,s] (W.alloc (.cells #[.string N,.string s] 9)) rfl XT (by simp) (by simp) (by simp) (by simp[aK];omega);have e:hJ [N,s]=N++s:=by simp[hJ]
  rw[e]at h;exact h
 go_enter func186,ntmps186;go_wp2_with fail;refine(i.out _).mono ?_;rintro e l ⟨rfl,a⟩;have f:Hid _:=a;clear a;go_wp2_with fail;refine(g.out _).mono ?_;rintro e m ⟨rfl,b⟩;have d:Hid _:=pA (pA f.out (cA _ _)) b;clear b;go_wp2;go_ret;exact⟨rfl,d.out⟩
section
open Go.Maps
theorem qP.seen {w y:World} {S:Nat->Prop} {x:Nat} {t:eA} {M C E z:Nat} {B:Value} {Q:List (fA×Nat)} {A:List gG} {D:DataW Unit} {q:fA×Nat} {b:Int} (h:qP w S x t M C E z B Q A D) (j:q∈Q) (H:q.1.n<=b) (l:gA (·=q.2) w y)
 (F:lA y q.2 #[.string q.1.s,.int .i64 b] 113):lC y S x (kI t q.1.s b) M:=by
 have u:vB (fun q:fA×Nat=>q.1.s) Q:=by
  rw[<-lR (key':=fun p:fA=>p.s) (fun q:fA×Nat=>q.1) (fun _=>rfl),h.q1];exact h.rs
 have d:∀{β:Type} (f:fA×Nat->β),f q=f ((⟨q.1.s,b⟩:fA),q.2)->(qA (fun q:fA×Nat=>q.1.s) ((⟨q.1.s,b⟩:fA),q.2) Q).map f=Q.map f:=fun f G=>
  DM (key:=fun q:fA×Nat=>q.1.s) (a:=((⟨q.1.s,b⟩:fA),q.2)) f u j rfl G
 have o:(qA (fun q:fA×Nat=>q.1.s) ((⟨q.1.s,b⟩:fA),q.2) Q).length=Q.length:=by
  have:=Zc List.length (d (fun q=>q.2) rfl);simpa using this
 have i:∀p,p∈qA (fun q:fA×Nat=>q.1.s) ((⟨q.1.s,b⟩:fA),q.2) Q->p=((⟨q.1.s,b⟩:fA),q.2)\/(p∈Q/\p.2≠q.2):=fun p c=>by
  rcases ZX u c with e|⟨c,k⟩
  ·exact Ba e
  ·refine Ea ⟨c,fun e=>?_⟩;have:=jQ h.nd c j e;rw[this]at k;exact k rfl
 have r:(qA (fun q:fA×Nat=>q.1.s) ((⟨q.1.s,b⟩:fA),q.2) Q).map (·.1)=(kI t q.1.s b).s9:=by
  rw[fQ (key':=fun p:fA=>p.s) (fun q:fA×Nat=>q.1) (fun _=>rfl),h.q1];rfl
 refine⟨C,E,z,B,qA (fun q:fA×Nat=>q.1.s) ((⟨q.1.s,b⟩:fA),q.2) Q,A,D,?_⟩;exact { h with
  blk:=l.blk h.blk (h.dx q j).symm
  lims:=l.map h.lims (uB h.lims (h.cells q j))
  s9:=by
   rw[o,d (fun q=>(q.1.s,eE q.2)) rfl];exact l.map h.s9 (uB h.s9 (h.cells q j))
  cnts:=l.map h.cnts (uB h.cnts (h.cells q j))
  cnt:=fun m=>by
   rw[h.cnt m];have:t.s9.map (·.s)=(kI t q.1.s b).s9.map (·.s):=by
    rw[<-r,<-h.q1,Wd,Wd];exact(d ((fun p:fA=>p.s) ∘ fun q:fA×Nat=>q.1) rfl).symm
   rw[qm this m]
  q1:=r
  cells:=fun p c=>by
   rcases i p c with rfl|⟨c,k⟩
   ·exact F
   ·exact l.blk (h.cells p c) k
  row:=l.row h.row (fun g n e=>(h.di g n).2 q j e.symm)
  perm:=by rw[d (fun q=>q.2) rfl];exact h.perm
  early:=fun s v p c e=>by
   rcases i p c with rfl|⟨c,_⟩
   ·exact Int.le_trans (h.early s v q j e) H
   ·exact h.early s v p c e
  rs:=dI h.rs
  sq:=fun p c=>by
   rcases i p c with rfl|⟨c,_⟩
   ·exact h.sq q j
   ·exact h.sq p c
  nd:=by rw[d (fun q=>q.2) rfl];exact h.nd
  dx:=fun p c=>by
   rcases i p c with rfl|⟨c,_⟩
   ·exact h.dx q j
   ·exact h.dx p c
  di:=fun g n=>⟨(h.di g n).1,fun p c=>by
   rcases i p c with rfl|⟨c,_⟩
   ·exact(h.di g n).2 q j
   ·exact(h.di g n).2 p c⟩ }
theorem aGm {w j:World} {B:Nat->Prop} {T:Nat->Option Nat} {l m:Nat} {c:nB} {i:Int} {L:List (eA×Nat)} {M M':Nat} {p:eA×Nat} {t':eA} (h:gJ w B T l m c i L M) (q:∀g,w.heap.size<=g->B g) (o:p∈L) (k:t'.name=p.1.name)
 (b:gA (fun g=>B g/\T g=some p.2) w j) (s:lC j (fun g=>(B g/\T g=some p.2)\/w.heap.size<=g) p.2 t' M') (r:M<=M'):
 yD j B l m c i ((qA (fun p:eA×Nat=>p.1.name) (t',p.2) L).map (·.1)) M':=by
 refine xh (n:=L.length) h q o k b s r (gA.refl _ j) ?_;have f:DataW.put (oC (L.map fun p=>(p.1.name,eE p.2))) (kL t'.name) (eE p.2)=oC ((qA (fun p:eA×Nat=>p.1.name) (t',p.2) L).map fun p=>(p.1.name,eE p.2)):=
  IM (key:=fun p:eA×Nat=>p.1.name) (fun p=>eE p.2) (t',p.2) h.rise
 have d:(qA (fun p:eA×Nat=>p.1.name) (t',p.2) L).map (fun p=>(p.1.name,eE p.2))=L.map fun p=>(p.1.name,eE p.2):=
  DM (key:=fun p:eA×Nat=>p.1.name) (a:=(t',p.2)) (fun p:eA×Nat=>(p.1.name,eE p.2)) h.rise o k.symm (by simp[k])
 rw[f,d];exact b.map h.ten (fun e=>by rw[h.tm]at e;cases e.2)
theorem yD.mono {w:World} {B:Nat->Prop} {l m:Nat} {c:nB} {a:Int} {d:List eA} {M b:Nat} (h:yD w B l m c a d M) (f:M<=b):yD w B l m c a d b:=by
 obtain⟨T,L,h,e⟩:=h;exact⟨T,L,{ h with idx:=fun p g=>(h.idx p g).mono f},e⟩
theorem aJl (w:World):(zeroValue 190).run prog w=.ok (.pointer none) w:=by kernel_rfl
theorem aBr {w:World} {d:Nat} {Q:List (fA×Nat)} (h:w.ownsMap prog 9 kD d Q.length (oC (Q.map fun q=>(q.1.s,eE q.2)))) {key:ByteArray} (e:key.size<=maxLen):
 (∃q,zB (fun q:fA×Nat=>q.1.s) key Q=some q/\(Instr.lookup 182 (.map (some d)) (.string key) true).run prog w=.ok (.tuple #[.pointer (some ⟨q.2,0,none⟩),.bool true]) w)\/
 (zB (fun q:fA×Nat=>q.1.s) key Q=none/\(Instr.lookup 182 (.map (some d)) (.string key) true).run prog w=.ok (.tuple #[.pointer none,.bool false]) w):=by
 obtain⟨v,f,a,c⟩:=h.look_ok vJ underlying182 (aJl w) (zd:=.nil) (zp:=[]) rfl (sK e);rw[ZD (key:=fun q:fA×Nat=>q.1.s) (val:=fun q=>eE q.2)]at a;rw[rQ (key:=fun q:fA×Nat=>q.1.s) (fun q=>eE q.2)]at c;cases hg:zB (fun q:fA×Nat=>q.1.s) key Q with
 |some q=>
  rw[hg]at a c;have b:=xO c;subst b;exact Ba ⟨q,rfl,a⟩
 |none=>
  rw[hg]at a c;have b:=KN c;subst b;exact Ea ⟨rfl,a⟩
end
section
open Go.Maps
structure Fnd (w W:World) (B:Nat→Prop) (T:Nat→Option Nat) (l m:Nat) (c:nB) (now:Int) (L:List (eA×Nat)) (M:Nat) (n9:ByteArray) (x N:Nat) (th:Bool) (t:eA) (S:Nat→Prop):Prop where
 ix:lC W S x t N
 tn:dB (L.map (·.1)) n9=t
 nm:t.name=n9
 no:(zB (·.name) n9 (L.map (·.1))).isNone=!th
 led:gJ W B T l m c now L M
 bw:Below w.heap.size w W
 sB:∀g,S g→B g
 sl:¬S l
 sm:¬S m
 mem:t∈L.map (·.1)∧th=true∨t.s9=[]∧t.m9=[]
 nM:N≤M
 put:∀k {w2 w4 w6:World} {t':eA} {n:Nat},Below W.heap.size W w2→gA S w2 w4→lC w4 (fun g=>S g∨w2.heap.size≤g) x t' (N+k)→t'.name=n9→gA (·=m) w4 w6→w6.ownsMap prog 9 kD m n (DataW.put (oC (L.map fun p=>(p.1.name,eE p.2))) (kL n9) (eE x))→yD w6 B l m c now (qA (·.name) t' (L.map (·.1))) (M+k)
 turn:th=true→∀{w4:World} {t':eA},gA S W w4→lC w4 S x t' N→t'.name=n9→yD w4 B l m c now (qA (·.name) t' (L.map (·.1))) M
 kp:th=false→∀{w4:World},gA S W w4→gJ w4 B T l m c now L M
 del:∀{w4 w6:World} {n:Nat},gA S W w4→gA (·=m) w4 w6→w6.ownsMap prog 9 kD m n (DataW.del (oC (L.map fun p=>(p.1.name,eE p.2))) (kL n9))→yD w6 B l m c now (tD (·.name) n9 (L.map (·.1))) M
theorem aFo {w W:World} {B:Nat->Prop} {l m:Nat} {T:Nat->Option Nat} {c:nB} {C:Int} {L:List (eA×Nat)} {M:Nat} {a:ByteArray} {e:Ending} (h:gJ w B T l m c C L M) (G:∀g,w.heap.size<=g->B g) (R:vn L a w e W):∃x N P t S,e=.returned (.tuple #[.pointer (some ⟨x,0,none⟩),.bool P])/\Fnd w W B T l m c C L M a x N P t S:=by
 have f:zB (·.name) a (L.map (·.1))=(zB (fun p:eA×Nat=>p.1.name) a L).map (·.1):=rk;have y:=fun(s:eA) (x:Nat)=>fQ (key:=fun p:eA×Nat=>p.1.name) (key':=fun t:eA=>t.name) (fun p:eA×Nat=>p.1) (fun _=>rfl) (s,x) L;have E:=lY (key:=fun p:eA×Nat=>p.1.name) (key':=fun t:eA=>t.name) (fun p:eA×Nat=>p.1) (fun _=>rfl) a L;rcases R with⟨p,d,rfl,rfl⟩|⟨d,x,rfl,V,J,D⟩
 ·obtain⟨z,H⟩:=vT d;rw[d]at f;refine⟨p.2,M,true,p.1,fun g=>B g/\T g=some p.2,rfl,h.idx p z,by unfold dB;rw[f];rfl,H,by rw[f];rfl,h,Below.refl _ _,fun g e=>e.1,fun e=>(by rw[h.tl]at e;cases e.2),fun e=>(by rw[h.tm]at e;cases e.2),Ba ⟨Pc z,rfl⟩,Da _,?_,?_,(nomatch ·),?_⟩
  ·intro k Y u I s n o j r A v own;have:=xh (p:=p) (t':=s) (M':=M+k) (h.keep fun g d _=>o.block g d) (fun g d=>G g (Ma o.size d)) z (A.trans H.symm) j r (by omega) v (by rw[A];exact own);rwa [y]at this
  ·intro _ u s j r A;have:=aGm (p:=p) (t':=s) (M':=M) h G z (A.trans H.symm) j (r.keep fun g _ b=>⟨rfl,Ba b⟩) (Da _);rwa [y]at this
  ·intro u I n j v own;have:=xg (k:=a) h (fun g b q U K e=>by
    rw[b.2]at e;exact K ((jQ h.nd U z (Qc e).symm) ▸ H)) (fun g _ b e=>by rw[e]at b;cases b.2) j v own
   rwa [E]at this
 ·rw[d]at f;have Z:=aA h.blk;have hm:=h.ten.lt;have F:∀{u},gA (fun g=>w.heap.size<=g) W u->gJ u B T l m c C L M:=fun j=>h.keep fun g d _=>(D.trans (j.below (by have:=D.size;omega) fun i J e=>by omega)).block g d;refine⟨x,0,false,⟨a,-1,[],[]⟩,fun g=>w.heap.size<=g,rfl,J,by unfold dB;rw[f];rfl,rfl,by rw[f];rfl,h.keep fun g d _=>D.block g d,D,fun g e=>G g e,by omega,by omega,Ea ⟨rfl,rfl⟩,Ha _,?_,(nomatch ·),fun _ u j=>F j,?_⟩
  ·intro k Y u I s n o j r A v own;have X:=(pA D o).size;have Q:=(pA D o).trans (j.below (by omega) fun i J e=>by omega);have:=ko (x:=x) (t:=s) (M':=0+k) (M:=M+k) { h with idx:=fun p z=>(h.idx p z).mono (by omega) } G (by rw[A];exact d) (Below.refl _ _) Q V v (by rw[A];exact own) (gA.refl _ I) (r.keep fun g d b=>⟨v.block g d (fun e=>by rcases b with b|b<;>omega),by rcases b with b|b<;>omega⟩) (by omega);rwa [y]at this
  ·intro u I n j v own;have:=xg (k:=a) (S:=fun _=>False) (F j) (fun g b=>b.elim) (fun g _ b=>b.elim) (gA.refl _ u) v own;rwa [E]at this
end
section
open Go.Maps
theorem oj {P:Program} {w:World} {b:Array Oper} {o:Oper} {a:Act} {K:Act->World->Prop} {Q:Exit->Act->World->Prop} {E:Prop} {f:FuncId} {args:Array Value} (c:o.guard=none) (i:(execOp a.eval o).run P w=.ok (.enter f args) w)
 (h:Calls P f args w (fun e d=>∃v,e=.returned v/\K (a.put o.dst v) d)):if Region.wanted o (yielded b a.tmps)=true then Oper.wp P o a w K Q else E:=by
 have hw:Region.wanted o (yielded b a.tmps)=true:=by simp[Region.wanted,c]
 rw[Ga hw];unfold Oper.wp;rw[i];refine h.mono ?_;rintro e d ⟨v,rfl,g⟩;exact g
theorem aFi (x Y m a:Nat) (t:Int) (X:Value) (key:ByteArray) (Q:List (fA×Nat)) (D:DataW Unit) (M c:Nat) (w:World) (z:lA w x #[.int .i64 t,.map (some Y),.map (some m),.map (some a),X] 187)
 (I:w.ownsMap prog 9 kD m Q.length (oC (Q.map fun q=>(q.1.s,eE q.2)))) (U:w.ownsMap prog 9 (plainElem prog 3) a M D) (l:D.atKey (kL (tC key)) (qG 0)=qG ((c+1:Nat):Int)) (V:m≠a) (hk:key.size<=1000000000) (hM:M<=1000000000) (hc9:c<=1000000000) (T:∀W,gA (·=m) w W->dF W):
 Calls prog 261 #[.pointer (some ⟨x,0,none⟩),.string key] w fun e v=>e=.returned (.tuple #[])/\v.ownsMap prog 9 kD m Q.length (DataW.del (oC (Q.map fun q=>(q.1.s,eE q.2))) (kL key))/\v.ownsMap prog 9 (plainElem prog 3) a M (D.put (kL (tC key)) (qG c))/\gA (fun k=>k=m\/k=a) w v:=by
 have HK:Hid (keyOf prog 9 (.string key)=some (kL key)):=sK (by unfold maxLen;omega);have C:Hid _:=sK (iQ key);have F:Hid (∀W,dF W->Calls prog 216 #[.string key] W fun e v=>e=.returned (.string (tC key))/\Below W.heap.size W v):=fun W hW=>fX key W hk hW;obtain⟨u,s⟩:∃u,u=c+1:=⟨_,rfl⟩
 rw[<-s]at l;have hn2:(u:Int)-1=(c:Nat):=by omega
 have H:(u:Int)≠0:=by omega
 have hwc:IntKind.i64.wrap ((c:Nat):Int)=(c:Nat):=by
  simp only[IntKind.wrap,IntKind.bits,IntKind.signed];simp;omega
 have E:Hid (∀W,W.ownsMap prog 9 (plainElem prog 3) a M D->(Instr.lookup 181 (.map (some a)) (.string (tC key)) false).run prog W=.ok (.int .i64 (u:Int)) W):=fun W h=>ks h l (iQ key);have P:=bA z;have N:=bA I;have L:=bA U;have O:=bA T;have J:=uB I z;have x2:w.cell? ⟨x,2,none⟩=some (.map (some m)):=z.cell 2;have B:Hid (∀W,W.ownsMap prog 9 (plainElem prog 3) a M D->∃r,(Instr.mapUpdate 181 (.map (some a)) (.string (tC key)) (.int .i64 (c:Nat))).run prog W=.ok () r/\r.ownsMap prog 9 (plainElem prog 3) a M (D.put (kL (tC key)) (qG c))/\gA (·=a) W r):=fun W h=>by
  obtain⟨r,p,j,n⟩:=h.store vJ underlying181 (by unfold maxLen;omega) (val:=.int .i64 (c:Nat)) C.out (plainElem_int underlying3 (WalkArith.wf_i64 (by omega)));exact⟨r,p,aHj j (h.tidy vJ) (aHk h) l H,gA.mapped n⟩
 clear z I U l T s;generalize tC key=mk at *;go_enter func261,ntmps261;go_upto_region 1 with(at_delete;refine wpList_delete_own _ rfl _ _ 182 9 rfl 190 vJ underlying182 kD m _ _ rfl N.out _ _ rfl HK.out ?_;intro o d b)
 have g:=gA.mapped b;have O1:=bA d;have T1:=bA g;have R:Hid (lA o x #[.int .i64 t,.map (some Y),.map (some m),.map (some a),X] 187):=g.blk P.out J.symm;have Z:Hid (o.ownsMap prog 9 (plainElem prog 3) a M D):=g.map L.out V.symm;have U1:Hid (dF o):=O.out o g;have x3:o.cell? ⟨x,3,none⟩=some (.map (some a)):=R.out.cell 3;clear d b g P N L O x2;go_region_law (refine oj (f:=216) (args:=#[.string key]) rfl (by go_simp) ?_;refine(F.out _ (U1.out.later (Below.refl _ _).drew)).mono ?_;rintro e A ⟨rfl,G⟩;have y:Below o.heap.size o A:=(pA (Below.refl o.heap.size o).drew G);have K:=(gA.of (S:=fun _=>False) y).map Z.out (fun e=>e);have hl:=E.out A K;obtain⟨r,p,j,n⟩:=B.out A K;have x4:A.cell? ⟨x,3,none⟩=some (.map (some a)):=(R.out.later y).cell 3;refine⟨_,rfl,?_⟩)
 all_goals(go_wp2;go_end0)
 all_goals exact⟨rfl,n.map ((gA.of (S:=fun _=>False) y).map O1.out (fun e=>e)) V,j,((T1.out.mono fun i _ e=>Ba e).trans' (gA.of y)).trans' (n.mono fun i _ e=>Ea e)⟩
end
theorem rP (w:World) (cs:Array Value) (t:TypeId):lA (w.alloc (.cells cs t)) w.heap.size cs t:=heap_alloc_new _ _
def UC (a:Option Addr) (c:List dA) (P:Nat):Prop:=c=[]\/∃b o,a=some ⟨b,o,none⟩/\b≠P
theorem aV {w a:World} {cs:Array Value} {t:TypeId} (h:Below (w.alloc (.cells cs t)).heap.size (w.alloc (.cells cs t)) a):lA a w.heap.size cs t:=(rP w cs t).later h
theorem NI {w:World} {P:Nat} {i j k l m n a b c d e f:Value} {t:TypeId} (h:lA w P #[i,j,k,l,m,n] t):
 lA ((((((w.setCell ⟨P,0,none⟩ a).setCell ⟨P,1,none⟩ b).setCell ⟨P,2,none⟩ c).setCell ⟨P,3,none⟩ d).setCell ⟨P,4,none⟩ e).setCell ⟨P,5,none⟩ f) P #[a,b,c,d,e,f] t:=by
 have g:=(((((h.set 0 a).set 1 b).set 2 c).set 3 d).set 4 e).set 5 f;simpa using g
theorem tW {w a:World} {cs:Array Value} {t:TypeId} (h:Below (w.alloc (.cells cs t)).drew.heap.size (w.alloc (.cells cs t)).drew a):lA a w.heap.size cs t:=(rP w cs t).later ⟨h.os,h.tape,h.output,h.size,h.block⟩
theorem qc {w:World} {a:Option Addr} {d:List dA} {P:Nat} {t:TypeId} (h:iA w a d) (j:lA w P #[.slice none 0 0,.int .i64 0,.int .i64 0,.int .i64 0,.int .i64 0,.bool false] t):UC a d P:=by
 rcases h with h|⟨b,o,e,_,h⟩
 ·exact Ba h
 ·by_cases f:d=[]
  ·exact Ba f
  ·refine Ea ⟨b,o,e,fun g=>?_⟩;subst g;have i:0<d.length:=by
    cases d with
    |nil=>exact absurd rfl f
    |cons _ _=>simp
   have c:=(h 0 i).1;rw[j.cell]at c;simp only[Nat.zero_mul,Ug]at c;match o,c with
   |0,c=>simp at c
   |1,c=>simp at c
   |2,c=>simp at c
   |3,c=>simp at c
   |4,c=>simp at c
   |5,c=>simp at c
   |n+6,c=>simp at c
theorem iM {w:World} {P:Nat} (a b c d e f:Value):
 eD P w ((((((w.setCell ⟨P,0,none⟩ a).setCell ⟨P,1,none⟩ b).setCell ⟨P,2,none⟩ c).setCell ⟨P,3,none⟩ d).setCell ⟨P,4,none⟩ e).setCell ⟨P,5,none⟩ f):=
 ((((((eD.refl P w).setCell 0 a).setCell 1 b).setCell 2 c).setCell 3 d).setCell 4 e).setCell 5 f
theorem iA.apart {w e:World} {P:Nat} {a:Option Addr} {c:List dA} (h:iA w a c) (f:UC a c P) (g:eD P w e):iA e a c:=by
 rcases f with i|⟨b,o,rfl,d⟩
 ·exact Ba i
 ·exact h.but g d
theorem aHm {s:ByteArray} {p n:Nat} {t:ByteArray} {q:Nat} (h:dG s p n=some (t,q)):q=p+n+t.size:=by
 unfold dG at h;split at h
 ·rename_i hh;simp only[Ja,Hb]at h;obtain⟨rfl,rfl⟩:=h;rw[Yb];omega
 ·exact absurd h (by simp)
theorem VS {s:ByteArray} {n:Nat} {p:Option Nat} {q:Nat} (h:(bG s n p).2=some q):∃a,p=some a/\q=a+n+(bG s n p).1.size:=by
 cases p with
 |none=>exact absurd h (by simp[bG])
 |some a=>
  refine⟨a,rfl,?_⟩;cases hh:dG s a n with
  |none=>rw[cU hh]at h;simp at h
  |some b=>
   obtain⟨t,r⟩:=b;rw[bU hh]at h |-
   simp only[Ja]at h;have:=aHm hh;simp only;omega
theorem DH {s:ByteArray} {n:Nat} {p:Option Nat} {q:Nat} (h:(mH s n p).2=some q):∃a,p=some a/\q=a+n:=by
 cases p with
 |none=>exact absurd h (by simp[mH])
 |some p=>
  rw[xL]at h;split at h
  ·simp at h;exact⟨p,rfl,by omega⟩
  ·simp at h
theorem PV (s:ByteArray) (n:Nat) (p:Option Nat):(bG s n p).1.size<=s.size:=by
 cases p with
 |none=>simp[bG]
 |some p=>
  cases hh:dG s p n with
  |none=>rw[cU hh];simp
  |some a=>
   obtain⟨t,r⟩:=a;rw[bU hh];exact(EI hh).2.1
theorem DG (s:ByteArray) (n:Nat) (p:Option Nat):(mH s n p).1<256 ^ n:=by
 cases p with
 |none=>exact We (by omega)
 |some p=>
  rw[xL];split
  ·rename_i hh;have:=wS (zC s p n);rw[kF hh]at this;exact this
  ·exact We (by omega)
theorem xc {s:ByteArray} {p:Option Nat} {q:Nat} (h:(jx s p).2=some q):∃a,p=some a/\a+(xQ (jx s p).1).size=q/\q<=s.size:=by
 have c:(jx s p).2=(mH s 8 (bG s 2 p).2).2:=by rw[jx]
 have d:(jx s p).1.s=(bG s 2 p).1:=by rw[jx]
 rw[c]at h;obtain⟨b,f,g⟩:=DH h;obtain⟨a,e,i⟩:=VS f;refine⟨a,e,?_,bJ h⟩;rw[cQ,d];omega
theorem aGa (s:ByteArray) (p:Option Nat):(xQ (jx s p).1).size<=s.size+10:=by
 have a:(jx s p).1.s=(bG s 2 p).1:=by rw[jx]
 have:=PV s 2 p;rw[cQ,a];omega
theorem jy (a:List fA) (x:fA):(dC (a++[x])).size=(dC a).size+(xQ x).size:=by
 rw[mM,Ia];simp[dC]
theorem MP {s:ByteArray} {c:Option Nat} (k:Nat):∀q,(wP s c k).2=some q->∃a,c=some a/\a+(dC (wP s c k).1).size=q/\((∀b,c=some b->b<=s.size)->q<=s.size):=se (z:=fun x=>(xQ x).size) (sz:=fun l=>(dC l).size) rfl jy (fun _ _=>xc) k
theorem PZ {s:ByteArray} {a:Option Nat} (c:∀b,a=some b->b<=s.size) (k:Nat):(dC (wP s a k).1).size<=2*s.size+10:=Ma (wy (z:=fun x=>(xQ x).size) (sz:=fun l=>(dC l).size) rfl jy (fun _ _=>xc) (fun p=>aGa s p) c k) (by omega)
theorem jz {s:ByteArray} {p:Option Nat} {q:Nat} (h:(vR s p).2=some q):∃a,p=some a/\a+(lH (vR s p).1).size=q/\q<=s.size:=by
 have d:vR s p=(⟨(ke s p).1,zA (sj s p).1,(SW s p).1,(QA s p).1⟩,(QA s p).2):=by rw[vR]
 have f:(lH (vR s p).1).size=17+(ke s p).1.size+(dC (SW s p).1).size+(dC (QA s p).1).size:=by rw[nY,d]
 have g:(QA s p).2=some q:=by rw[d]at h;exact h
 rw[f];clear d f h;have B:∃a,(lSn s p).2=some a/\a+(dC (QA s p).1).size=q/\((∀b,(lSn s p).2=some b->b<=s.size)->q<=s.size):=by
  rw[QA]at g |-;exact MP _ q g
 obtain⟨v,m,J,D⟩:=B;have A:∃a,(SW s p).2=some a/\v=a+4:=by rw[lSn]at m;exact DH m
 have e:∀b,(lSn s p).2=some b->b<=s.size:=fun b n=>by rw[lSn]at n;exact bJ n
 obtain⟨c,l,I⟩:=A;have z:∃a,(lMn s p).2=some a/\a+(dC (SW s p).1).size=c/\((∀b,(lMn s p).2=some b->b<=s.size)->c<=s.size):=by
  rw[SW]at l |-;exact MP _ c l
 obtain⟨u,k,H,_⟩:=z;have y:∃a,(sj s p).2=some a/\u=a+4:=by rw[lMn]at k;exact DH k
 obtain⟨t,j,G⟩:=y;have x:∃a,(ke s p).2=some a/\t=a+8:=by rw[sj]at j;exact DH j
 obtain⟨r,i,F⟩:=x;have w:∃a,p=some a/\r=a+1+(ke s p).1.size:=by rw[ke]at i |-;exact VS i
 obtain⟨o,C,E⟩:=w;exact⟨o,C,by omega,D e⟩
theorem aBl (s:ByteArray) (p:Option Nat):(lH (vR s p).1).size<=5*s.size+37:=by
 have c:vR s p=(⟨(ke s p).1,zA (sj s p).1,(SW s p).1,(QA s p).1⟩,(QA s p).2):=by rw[vR]
 have d:(lH (vR s p).1).size=17+(ke s p).1.size+(dC (SW s p).1).size+(dC (QA s p).1).size:=by rw[nY,c]
 have e:(ke s p).1.size<=s.size:=by rw[ke];exact PV s 1 p
 have f:(dC (SW s p).1).size<=2*s.size+10:=by rw[SW];exact PZ (fun b a=>by rw[lMn]at a;exact bJ a) _
 have g:(dC (QA s p).1).size<=2*s.size+10:=by rw[QA];exact PZ (fun b a=>by rw[lSn]at a;exact bJ a) _
 omega
theorem kf (a:List eA) (x:eA):(aC (a++[x])).size=(aC a).size+(lH x).size:=by
 rw[aI,Ia];simp[aC]
theorem aKz {s:ByteArray} {c:Option Nat} (k:Nat):∀q,(aT s c k).2=some q->∃a,c=some a/\a+(aC (aT s c k).1).size=q/\((∀b,c=some b->b<=s.size)->q<=s.size):=se (z:=fun x=>(lH x).size) (sz:=fun l=>(aC l).size) rfl kf (fun _ _=>jz) k
theorem aGf {s:ByteArray} {a:Option Nat} (c:∀b,a=some b->b<=s.size) (k:Nat):(aC (aT s a k).1).size<=6*s.size+37:=Ma (wy (z:=fun x=>(lH x).size) (sz:=fun l=>(aC l).size) rfl kf (fun _ _=>jz) (fun p=>aBl s p) c k) (by omega)
theorem AG:∀(a:List fA) i (h:i<a.length),a[i].s.size<=(dC a).size
 |p::q,0,_=>by
  have:(dC (p::q)).size=(xQ p).size+(dC q).size:=by show(xQ p++dC q).size=_;rw[Ia]
  rw[this,cQ];simp only[Xe];omega
 |p::q,i+1,h=>by
  have:(dC (p::q)).size=(xQ p).size+(dC q).size:=by show(xQ p++dC q).size=_;rw[Ia]
  have b:=AG q i (by simpa using h);simp only[Vb];omega
theorem AF (a:List fA):10*a.length<=(dC a).size:=by rw[qJ];omega
theorem OG:∀(a:List eA) i (h:i<a.length),(lH a[i]).size<=(aC a).size
 |t::q,0,_=>by
  have:(aC (t::q)).size=(lH t).size+(aC q).size:=by show(lH t++aC q).size=_;rw[Ia]
  simp only[Xe];omega
 |t::q,i+1,h=>by
  have:(aC (t::q)).size=(lH t).size+(aC q).size:=by show(lH t++aC q).size=_;rw[Ia]
  have b:=OG q i (by simpa using h);simp only[Vb];omega
theorem OE:∀(a:List eA),17*a.length<=(aC a).size
 |[]=>by simp[aC]
 |t::q=>by
  have:(aC (t::q)).size=(lH t).size+(aC q).size:=by show(lH t++aC q).size=_;rw[Ia]
  have b:=OE q;have:=nY t;simp only[Sa];omega
theorem ns {a:List eA} {M:Nat} (h:(aC a).size<=M):17*a.length<=M/\∀i (c:i<a.length),a[i].name.size<=M/\10*a[i].m9.length<=M/\10*a[i].s9.length<=M/\(∀j (d:j<a[i].m9.length),a[i].m9[j].s.size<=M)/\(∀j (d:j<a[i].s9.length),a[i].s9[j].s.size<=M):=by
 refine⟨Ma (OE a) h,fun i c=>?_⟩;have e:=OG a i c;rw[nY]at e;have f:=AF a[i].m9;have g:=AF a[i].s9;refine⟨by omega,by omega,by omega,fun j b=>?_,fun j b=>?_⟩
 ·have:=AG a[i].m9 j b;omega
 ·have:=AG a[i].s9 j b;omega
def aPz (w:World) (e:Ending) (t:eA):Prop:=∃a c b d,e=.returned (.agg #[.string t.name,.int .i64 t.l9,.slice a t.m9.length c,.slice b t.s9.length d])/\vA w a t.m9/\vA w b t.s9
theorem ZR (l:Int) (a:Option Addr) (g:Nat) (c:List eA) (name:ByteArray) (w:World) (I:eC w a c) (J:c.length<=1000000000):
 Calls prog 93 #[.agg #[.int .i64 l,.slice a c.length g],.string name] w fun e Q=>aPz Q e (dB c name)/\Below w.heap.size w Q:=by
 have X:Hid (eC w a c):=I;have r:Hid (dB c name=(zB (·.name) name c).getD ⟨name,-1,[],[]⟩):=rfl;clear I;go_enter func93,ntmps93;go_wp2;have H:Hid _:=bA (by have:=lA.new (w.alloc (.cells #[.int .i64 l,.slice a c.length g] 35)) #[.string ⟨#[]⟩,.int .i64 0,.slice none 0 0,.slice none 0 0] 107;simpa using this);have G:Hid (Below w.heap.size w ((w.alloc (.cells #[.int .i64 l,.slice a c.length g] 35)).alloc (.cells #[.string ⟨#[]⟩,.int .i64 0,.slice none 0 0,.slice none 0 0] 107))):=pA (cA _ _) (cA _ _);generalize hW:(w.alloc (.cells #[.int .i64 l,.slice a c.length g] 35)).alloc (.cells #[.string ⟨#[]⟩,.int .i64 0,.slice none 0 0,.slice none 0 0] 107)=W at *;clear hW;go_loopw [6,10] (fun _ i wr=>∃k:Nat,k<=c.length/\i=.int .i64 k/\Hid (∀j (h:j<k) (h':j<c.length),c[j].name≠name)/\Below W.heap.size W wr) (fun _ i _=>c.length-(intOf i).toNat)
 case atStart=>exact⟨0,Ha _,rfl,(fun j h=>absurd h (by omega)),Below.refl _ _⟩
 case round=>
  obtain⟨k,hk,rfl,HN,d⟩:=hrel;have A:Hid _:=d;have f:Hid (lA wr (w.heap.size+1) #[.string ⟨#[]⟩,.int .i64 0,.slice none 0 0,.slice none 0 0] 107):=H.out.later d;have hrl:=aA f.out;have M:wr.cell? ⟨w.heap.size+1,0,none⟩=some (.string ⟨#[]⟩):=f.out.cell 0;have N:wr.cell? ⟨w.heap.size+1,1,none⟩=some (.int .i64 0):=f.out.cell 1;have O:wr.cell? ⟨w.heap.size+1,2,none⟩=some (.slice none 0 0):=f.out.cell 2;have P:wr.cell? ⟨w.heap.size+1,3,none⟩=some (.slice none 0 0):=f.out.cell 3;have u0:=f.out.free 0;have u1:=f.out.free 1;have u2:=f.out.free 2;have u3:=f.out.free 3;clear d H;by_cases u:k<c.length
  ·obtain⟨b,o,s,y,t,z,rfl,x,R,S,U,V,K,L⟩:=X.out.at u;have m:Hid _:=pA G.out A.out;have t0:=(m.out.cell x).trans R;have t1:=(m.out.cell x).trans S;have t2:=(m.out.cell x).trans U;have t3:=(m.out.cell x).trans V;clear R S U V;have Y:Hid (zB (·.name) name c=if c[k].name=name then some c[k] else zB (·.name) name (c.drop (k+1))):=by
    show _=_;rw[AM k HN.out,Ra u,yQ]
   have q:Hid (c[k].name≠name->∀j (h:j<k+1) (h':j<c.length),c[j].name≠name):=fun F j hj E=>by
    by_cases e:j=k
    ·subst e;exact F
    ·exact HN.out j (by omega) E
   have Z:Hid (vA w s c[k].m9):=K;have P2:Hid (vA w t c[k].s9):=L;clear K L;generalize c[k]=T at *;by_cases p:T.name=name
   ·have D:=(xC _ _).2 p;have C:Hid (dB c name=T):=by show _=_;rw[r.out,Y.out,Ga p];rfl
    clear p;go_wp2;have n:Below w.heap.size w (((((wr.setCell ⟨w.heap.size+1,0,none⟩ (.string T.name)).setCell ⟨w.heap.size+1,1,none⟩ (.int .i64 T.l9)).setCell ⟨w.heap.size+1,2,none⟩ (.slice s T.m9.length y)).setCell ⟨w.heap.size+1,3,none⟩ (.slice t T.s9.length z)).alloc (.cells #[.string T.name,.int .i64 T.l9,.slice s T.m9.length y,.slice t T.s9.length z] 107)):=pA (((((m.out.setCell (by simp) _).setCell (by simp) _).setCell (by simp) _).setCell (by simp) _)) (cA _ _);refine bodyPost_ret (v:=.agg #[.string T.name,.int .i64 T.l9,.slice s T.m9.length y,.slice t T.s9.length z]) (by simp[results,results93,go_sem,M,N,O,P,hrl]) rfl ⟨?_,n⟩;rw[C.out];exact⟨s,y,t,z,rfl,Z.out.later n,P2.out.later n⟩
   ·have D:=mC p;have B:Hid _:=q.out p;clear p;go_wp2;exact⟨⟨k+1,by omega,by go_num,B,pA A.out (cA _ _)⟩,by simp[intOf];omega⟩
  ·have C:Hid (dB c name=⟨name,-1,[],[]⟩):=by
    show _=_;rw[r.out,AM k HN.out,Pb (by omega)];rfl
   have m:Hid _:=pA G.out A.out;go_wp2;refine bodyPost_ret (v:=.agg #[.string name,.int .i64 (-1),.slice none 0 0,.slice none 0 0]) (by simp[results,results93,go_sem,M,N,O,P]) rfl ⟨?_,(((((m.out.setCell (by simp) _).setCell (by simp) _).setCell (by simp) _).setCell (by simp) _))⟩;rw[C.out];exact⟨none,0,none,0,rfl,Ba rfl,Ba rfl⟩
theorem jw (c:nB) (t:eA) (q o:Option Addr) (v r:Nat) (m:ByteArray) (w:World) (G:vA w q t.m9) (H:vA w o t.s9) (C:aJn t.s9) (l1:t.m9.length<=1000000000) (l2:t.s9.length<=1000000000):
 Calls prog 94 #[tE c,.agg #[.string t.name,.int .i64 t.l9,.slice q t.m9.length v,.slice o t.s9.length r],.string m] w fun e I=>e=.returned (.tuple #[.int .i64 (lF c t m).1,.int .i64 (lF c t m).2])/\Below w.heap.size w I:=by
 unfold tE;by_cases z:m.toList.isEmpty=true
 ·have p:Hid (lF c t m=(((t.s9.length:Nat):Int),if t.l9<0 then c.tl else t.l9)):=by show _=_;unfold lF;rw[Ga z]
  clear G H C;by_cases R:t.l9<0
  ·go_enter func94,ntmps94;go_wp2;go_ret2;exact⟨vV (by rw[p.out]) (by rw[p.out];exact(Ga R).symm),pA (cA _ _) (cA _ _)⟩
  ·have f:Hid (¬t.l9<0):=R;go_enter func94,ntmps94;go_wp2;go_ret2;exact⟨vV (by rw[p.out]) (by rw[p.out];have h0:=f.out;exact(Ca (by omega)).symm),pA (cA _ _) (cA _ _)⟩
 have Y:m.toList.isEmpty=false:=by simpa using z
 have p:Hid (lF c t m=(((pH tC t.s9 m:Nat):Int),aG t.m9 m c.ml)):=by show _=_;unfold lF;rw[Ca z]
 have U:Hid (vA w q t.m9):=G;have V:Hid (vA w o t.s9):=H;have B:Hid (aJn t.s9):=C;clear G H C z;go_enter func94,ntmps94;go_wp2;have M:Hid _:=bA (by have:=lA.new (w.alloc (.cells #[.int .i64 c.w,.int .i64 c.tl,.int .i64 c.ml,.int .i64 c.sh,.int .i64 c.ha,.int .i64 c.sg] 40)) #[.string t.name,.int .i64 t.l9,.slice q t.m9.length v,.slice o t.s9.length r] 107;simpa using this);have A:Hid (Below w.heap.size w ((w.alloc (.cells #[.int .i64 c.w,.int .i64 c.tl,.int .i64 c.ml,.int .i64 c.sh,.int .i64 c.ha,.int .i64 c.sg] 40)).alloc (.cells #[.string t.name,.int .i64 t.l9,.slice q t.m9.length v,.slice o t.s9.length r] 107))):=pA (cA _ _) (cA _ _);generalize (w.alloc (.cells #[.int .i64 c.w,.int .i64 c.tl,.int .i64 c.ml,.int .i64 c.sh,.int .i64 c.ha,.int .i64 c.sg] 40)).alloc (.cells #[.string t.name,.int .i64 t.l9,.slice q t.m9.length v,.slice o t.s9.length r] 107)=W at *;go_loopw [9,11,32] (fun l _ i wr=>∃k:Nat,k<=t.m9.length/\i=.int .i64 k/\l=.int .i64 (aG (t.m9.take k) m c.ml)/\Below W.heap.size W wr) (fun _ _ i _=>t.m9.length-(intOf i).toNat)
 case atStart=>exact⟨0,Ha _,rfl,rfl,Below.refl _ _⟩
 case round=>
  obtain⟨k,hk,rfl,rfl,a⟩:=hrel;have d:Hid _:=a;clear a;by_cases y:k<t.m9.length
  ·obtain⟨Z,po,rfl,E,z0,z1⟩:=(U.out.later (pA A.out d.out)).at y;have g:Hid (aG (t.m9.take (k+1)) m c.ml=if t.m9[k].s.toList==m.toList then t.m9[k].n else aG (t.m9.take k) m c.ml):=la _ _ _ _ y;generalize t.m9[k]=P at *;generalize aG (t.m9.take k) m c.ml=T at *;by_cases h:(P.s.toList==m.toList)=true
   ·have f:Hid (aG (t.m9.take (k+1)) m c.ml=P.n):=by show _=_;rw[g.out,Ga h]
    clear g;go_wp2;exact⟨⟨k+1,by omega,by go_num,by rw[f.out],pA d.out (cA _ _)⟩,by simp[intOf];omega⟩
   ·have D:(P.s.toList==m.toList)=false:=by simpa using h
    have f:Hid (aG (t.m9.take (k+1)) m c.ml=T):=by show _=_;rw[g.out,Ca h]
    clear g h;go_wp2;exact⟨⟨k+1,by omega,by go_num,by rw[f.out],pA d.out (cA _ _)⟩,by simp[intOf];omega⟩
  ·have Q:t.m9.take k=t.m9:=Pa (by omega);rw[Q];clear Q;generalize aG t.m9 m c.ml=ML at *;have N:Hid (lA wr (w.heap.size+1) #[.string t.name,.int .i64 t.l9,.slice q t.m9.length v,.slice o t.s9.length r] 107):=M.out.later d.out;have J:Hid _:=pA A.out d.out;have y3:wr.cell? ⟨w.heap.size+1,3,none⟩=some (.slice o t.s9.length r):=N.out.cell 3;clear M A d;generalize F:wr=S at *;clear F;go_wp2;clear y3 N;go_loopw [12,14,46] (fun n _ i wr=>∃k:Nat,k<=t.s9.length/\i=.int .i64 k/\n=.int .i64 (pH tC (t.s9.take k) m:Nat)/\Below S.heap.size S wr) (fun _ _ i _=>t.s9.length-(intOf i).toNat)
   case atStart=>exact⟨0,Ha _,rfl,rfl,Below.refl _ _⟩
   case round=>
    obtain⟨j,hj,rfl,rfl,a⟩:=hrel;have d:Hid _:=a;clear a;by_cases b:j<t.s9.length
    ·obtain⟨Z,po,rfl,E,z0,z1⟩:=(V.out.later (pA J.out d.out)).at b;have g:Hid (pH tC (t.s9.take (j+1)) m=pH tC (t.s9.take j) m+if (tC t.s9[j].s).toList==m.toList then 1 else 0):=zo _ _ _ b;have K:Hid (∀W,Calls prog 95 #[.string t.s9[j].s] W fun e I=>e=.returned (.string (tC t.s9[j].s))/\Below W.heap.size W I):=fun W=>aY t.s9[j].s W (B.out j b);have X:pH tC (t.s9.take j) m<=1000000000:=by have:=YN tC (t.s9.take j) m;rw[Ta]at this;omega
     generalize t.s9[j]=P at *;generalize tC P.s=mk at *;generalize pH tC (t.s9.take j) m=L at *;go_wp2_with fail;refine(K.out _).mono ?_;rintro e w5 ⟨rfl,x⟩;have u:Hid _:=pA d.out (pA (cA _ _) x);clear x K;by_cases h:(mk.toList==m.toList)=true
     ·have f:Hid (pH tC (t.s9.take (j+1)) m=L+1):=by show _=_;rw[g.out,Ga h]
      clear g;go_wp2;exact⟨⟨j+1,by omega,by go_num,by rw[f.out];go_num,u.out⟩,by simp[intOf];omega⟩
     ·have D:(mk.toList==m.toList)=false:=by simpa using h
      have f:Hid (pH tC (t.s9.take (j+1)) m=L):=by show _=_;rw[g.out,Ca h];rfl
      clear g h;go_wp2;exact⟨⟨j+1,by omega,by go_num,by rw[f.out],u.out⟩,by simp[intOf];omega⟩
    ·have O:t.s9.take j=t.s9:=Pa (by omega);rw[O];clear O;go_wp2;go_ret2;exact⟨vV (by rw[p.out]) (by rw[p.out]),pA J.out d.out⟩
