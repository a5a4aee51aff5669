import Derived.Test.YtabgbmfcbobamaaGreatDoorJ02
set_option maxRecDepth 100000
set_option maxHeartbeats 1000000
namespace Go.Proofs.YtabgbmfcbobamaaGreatDoor
open Go.RowKit Tryz
theorem ED {P:Program} {w:World} (a:Nat) (t p e:TypeId) (i:TypeInfo) (size:Nat) (k:P.underlying t=some (.slice e)) (h:P.info? e=some i)
 (v:Value) (n:Nat) (q:List Value) (b:w.ownsRow a e size v n q) (c:Option Addr) (l:Nat):
 (Builtin.append_ #[t,t] p #[v,.slice c 0 l]).run P w=.ok v w:=by
 have j:∀f:Addr,(loadCells f 0).run P w=.ok #[] w:=fun f=>by
  simp[loadCells,loadCellsFrom]
 rcases b.2 with⟨rfl,rfl⟩|⟨g,m,o,rfl,_,_,d,_⟩
 ·cases c<;>simp[Builtin.append_,run_underlying k,sizeOf,typeInfo,h,Builtin.lenOf,Builtin.firstCells,j]
 ·cases c<;>simp[Builtin.append_,run_underlying k,sizeOf,typeInfo,h,Builtin.lenOf,Builtin.firstCells,d,storeCells,j]
theorem uF {w:World} {B:Nat} {e:TypeId} {size:Nat} {v:Value} {n:Nat} {f:List Value} (h:w.ownsRow B e size v n f):∀g,v.ownBlock=some g->B<=g:=by
 intro g a;rcases h.2 with⟨rfl,_⟩|⟨i,b,c,rfl,d,_⟩
 ·simp[Value.ownBlock]at a
 ·simp[Value.ownBlock]at a;subst a;exact d
def iS (w:World) (b:Option Addr) (m:Nat) (a:List Value):Prop:=m=0\/∃A,b=some A/\∀j u,a[j]?=some u->w.cell? (A.add j)=some u
theorem WN (b o j:Nat):(⟨b,o,none⟩:Addr).add j=⟨b,o+j,none⟩:=by unfold Addr.add;split<;>simp_all
theorem ER (W:World) (x:Obj):Below W.heap.size W (W.alloc x).drew:=(cA _ _).drew
theorem EU (W:World) (x y:Obj):Below W.heap.size W ((W.alloc x).alloc y).drew:=(nA (cA _ _) (cA _ _)).drew
theorem tH {P:Program} (w:World) {ops:Array Oper} {o:Oper} {a:Act} {K:Act->World->Prop} {Q:Exit->Act->World->Prop} {E:Prop} (G:o.guard=none) (s x:Operand) (t:TypeId)
 (Z:o.op=.call { callee:=.builtin .append,args:=#[s,x],argTypes:=#[t,t] })
 (b:Nat) (e:TypeId) (i:TypeInfo) (z:Value) (size j:Nat) (ht:P.underlying t=some (.slice e)) (Y:P.info? e=some i) (hz:i.zero=some z)
 (B:i.size=size) (S:i.bytes=j) (U:z.cells.size=size) (T:0<size)
 (v n O:Nat) (M:List Value) (hs:a.eval s=.slice (some ⟨v,0,none⟩) n O) (d:w.ownsRow b e size (.slice (some ⟨v,0,none⟩) n O) n M)
 (N:Option Addr) (m c:Nat) (f:List Value) (hx:a.eval x=.slice N m c) (hl:f.length=m*size) (J:iS w N m f) (h1:∀u∈f,u.oneCell'=true)
 (R:n+m<=maxLen) (r:(n+m)*j<=140737488355328) (l:b<=w.heap.size)
 (h:∀g p C,C.ownsRow b e size (.slice (some ⟨g,0,none⟩) (n+m) p) (n+m) (M++f)->Below b w C->(∀k,k<w.heap.size->k≠v->C.heap[k]?=w.heap[k]?)->b<=g->(g=v\/g=w.heap.size)->g<C.heap.size->K (a.put o.dst (.slice (some ⟨g,0,none⟩) (n+m) p)) C):
 if Region.wanted o (yielded ops a.tmps)=true then Oper.wp P o a w K Q else E:=by
 have F:b<=v:=uF d v rfl;rcases Nat.eq_zero_or_pos m with rfl|hm
 ·have hw:Region.wanted o (yielded ops a.tmps)=true:=by simp[Region.wanted,G]
  rw[Qa hw];have H:f=[]:=Qb.1 (by omega);subst H;have I:=ED (P:=P) (w:=w) b t o.type e i size ht Y _ n M d N c;have hK:=h v O w (by rw[Id];exact d) (Below.refl _ _) (fun _ _ _=>rfl) F (Ca rfl) (by
   rcases d.2 with⟨L,_⟩|⟨g',V,cur,L,_,hb,_⟩
   ·simp at L
   ·simp only[Value.slice.injEq,Pa,Addr.mk.injEq,Yb]at L;rw[L.1];exact aA hb)
  unfold Oper.wp execOp;simp only[Z,resolve,invoke,builtin,Sem.run_bind,Sem.run_pure,Result.andThen_ok,Sf,Lb,Qc,hs,hx,I];exact hK
 ·rcases J with h0|⟨A,rfl,y⟩
  ·omega
  refine step_append_lies w G s x t Z b e i z size j ht Y hz B S U T _ n M hs d A m c f hx hl y h1 hm R r l w.heap.size rfl fun g p C h2 W D h5=>?_;have X:g=v\/g=w.heap.size:=by
   rcases D with D|D
   ·left;simpa[Value.ownBlock]using D.symm
   ·exact Ja D
  refine h g p C h2 ((Below.refl b w).grown W l (fun q hq=>uF d q hq)) (fun k hk hne=>W.block k hk (by simp[Value.ownBlock];omega)) ?_ X h5;rcases X with rfl|rfl
  ·exact F
  ·exact l
structure lA where
 s:ByteArray
 n:Int
def IK (w:World) (b o:Nat) (a:List lA):Prop:=
 ∀i (h:i<a.length),w.cell? ⟨b,o+i*2,none⟩=some (.string a[i].s)/\w.cell? ⟨b,o+i*2+1,none⟩=some (.int .i64 a[i].n)
def yA (w:World) (a:Option Addr) (c:List lA):Prop:=c=[]\/∃b o,a=some ⟨b,o,none⟩/\b<w.heap.size/\IK w b o c
theorem yA.later {w f:World} {a:Option Addr} {e:List lA} (h:yA w a e) (d:Below w.heap.size w f):yA f a e:=by
 rcases h with h|⟨b,o,rfl,c,h⟩
 ·exact Ca h
 ·refine Ja ⟨b,o,rfl,Ib c d.size,fun i k=>?_⟩;obtain⟨g,j⟩:=h i k;exact⟨by rw[<-g];exact d.cell c,by rw[<-j];exact d.cell c⟩
theorem yA.at {w:World} {a:Option Addr} {c:List lA} (h:yA w a c) {i:Nat} (e:i<c.length):
 ∃b o,a=some ⟨b,o,none⟩/\b<w.heap.size/\w.cell? ⟨b,o+i*2,none⟩=some (.string c[i].s)/\w.cell? ⟨b,o+i*2+1,none⟩=some (.int .i64 c[i].n):=by
 rcases h with rfl|⟨b,o,rfl,d,h⟩
 ·exact absurd e (by simp)
 ·exact⟨b,o,rfl,d,h i e⟩
def dC (w:World) (B:Nat) (a:Option Addr) (c:List lA):Prop:=
 c=[]\/∃g o b t,a=some ⟨g,o,none⟩/\B<=g/\w.heap[g]?=some (.cells b t (0,0))/\IK w g o c
theorem dC.pairs {w:World} {B:Nat} {a:Option Addr} {b:List lA} (h:dC w B a b):yA w a b:=by
 rcases h with h|⟨g,o,c,t,rfl,_,d,h⟩
 ·exact Ca h
 ·exact Ja ⟨g,o,rfl,aA d,h⟩
theorem dC.later {w d:World} {B:Nat} {a:Option Addr} {k:List lA} (h:dC w B a k) (e:Below w.heap.size w d):dC d B a k:=by
 rcases h with h|⟨g,o,c,t,rfl,l,f,h⟩
 ·exact Ca h
 ·have b:=aA f;have n:∀j,d.cell? ⟨g,j,none⟩=w.cell? ⟨g,j,none⟩:=fun j=>World.cell?_of_block (e.block g b);exact Ja ⟨g,o,c,t,rfl,l,(e.block g b).trans f,fun i m=>by simp only[n];exact h i m⟩
theorem dC.mono {w:World} {B B':Nat} {a:Option Addr} {d:List lA} (h:dC w B a d) (e:B'<=B):dC w B' a d:=by
 rcases h with h|⟨g,o,b,t,rfl,c,f,h⟩
 ·exact Ca h
 ·exact Ja ⟨g,o,b,t,rfl,Ra e c,f,h⟩
theorem vC {w:World} {B:Nat} {e:TypeId} {a:Option Addr} {d:Nat} {l:List lA}
 (h:w.ownsRow B e 2 (.slice a l.length d) l.length (l.flatMap fun x=>[.string x.s,.int .i64 x.n])):dC w B a l:=by
 rcases h.2 with⟨_,v⟩|⟨g,m,b,p,q,f,_,_,y,k⟩
 ·exact Ca (Qb.1 v)
 ·simp only[Value.slice.injEq]at p;have t:∀(l:List lA) i (c:i<l.length),(l.flatMap fun x=>[Value.string x.s,.int .i64 x.n])[i*2]?=some (.string l[i].s)/\(l.flatMap fun x=>[Value.string x.s,.int .i64 x.n])[i*2+1]?=some (.int .i64 l[i].n):=by
   intro l;induction l with
   |nil=>intro i c;exact absurd c (by simp)
   |cons x r z=>
    intro i c;cases i with
    |zero=>simp
    |succ i=>
     have:=z i (by simpa using c);simp only[Sc,Xc,Nb,Ic];rw[show(i+1)*2=i*2+1+1 by omega,Ia,Ia,Ia,Ia];exact this
  refine Ja ⟨g,0,b,e,p.1,q,f,fun i c=>?_⟩;have o:∀j,j<l.length*2->b[j]?=(l.flatMap fun x=>[Value.string x.s,.int .i64 x.n])[j]?:=fun j u=>by
   rw[<-k,Mb u,Zd]
  rw[cell_of_row w g _ b _ _ f,cell_of_row w g _ b _ _ f,Wa,o _ (by omega),o _ (by omega)];exact t l i c
def fC:List lA->Nat
 |[]=>0
 |f::r=>f.s.size+fC r
theorem wU (a b:List lA):fC (a++b)=fC a+fC b:=by
 induction a with
 |nil=>simp[fC]
 |cons f r c=>simp[fC,c];omega
theorem aQ (a:List lA) (k:Nat) (h:k<a.length):fC (a.take (k+1))=fC (a.take k)+a[k].s.size:=by
 rw[Ma h,wU];simp[fC]
theorem wM (a:List lA) (k:Nat):fC (a.take k)<=fC a:=by
 have:=wU (a.take k) (a.drop k);rw[Ya]at this;omega
structure dA where
 name:ByteArray
 l9:Int
 m9:List lA
 s9:List lA
def WM (w:World) (b o:Nat) (t:dA):Prop:=
 ∃a d c e,w.cell? ⟨b,o,none⟩=some (.string t.name)/\w.cell? ⟨b,o+1,none⟩=some (.int .i64 t.l9)/\w.cell? ⟨b,o+2,none⟩=some (.slice a t.m9.length d)/\w.cell? ⟨b,o+3,none⟩=some (.slice c t.s9.length e)/\
  yA w a t.m9/\yA w c t.s9
def aDm (w:World) (b o:Nat) (a:List dA):Prop:=∀i (h:i<a.length),WM w b (o+i*4) a[i]
def oB (w:World) (a:Option Addr) (c:List dA):Prop:=c=[]\/∃b o,a=some ⟨b,o,none⟩/\b<w.heap.size/\aDm w b o c
theorem WM.later {w d:World} {b o:Nat} {t:dA} (h:WM w b o t) (a:b<w.heap.size) (c:Below w.heap.size w d):WM d b o t:=by
 obtain⟨e,g,f,i,j,k,l,m,n,p⟩:=h;exact⟨e,g,f,i,(c.cell a).trans j,(c.cell a).trans k,(c.cell a).trans l,(c.cell a).trans m,n.later c,p.later c⟩
theorem oB.later {w f:World} {a:Option Addr} {e:List dA} (h:oB w a e) (d:Below w.heap.size w f):oB f a e:=by
 rcases h with h|⟨b,o,rfl,c,h⟩
 ·exact Ca h
 ·exact Ja ⟨b,o,rfl,Ib c d.size,fun i g=>(h i g).later c d⟩
theorem oB.at {w:World} {a:Option Addr} {c:List dA} (h:oB w a c) {i:Nat} (k:i<c.length):
 ∃b o d f e g,a=some ⟨b,o,none⟩/\b<w.heap.size/\w.cell? ⟨b,o+i*4,none⟩=some (.string c[i].name)/\w.cell? ⟨b,o+i*4+1,none⟩=some (.int .i64 c[i].l9)/\
  w.cell? ⟨b,o+i*4+2,none⟩=some (.slice d c[i].m9.length f)/\w.cell? ⟨b,o+i*4+3,none⟩=some (.slice e c[i].s9.length g)/\yA w d c[i].m9/\yA w e c[i].s9:=by
 rcases h with rfl|⟨b,o,rfl,j,h⟩
 ·exact absurd k (by simp)
 ·obtain⟨d,f,e,g,h⟩:=h i k;exact⟨b,o,d,f,e,g,rfl,j,h⟩
def bF (w:World) (B:Nat) (T:Nat->Nat) (n:Nat) (a:Option Addr) (c:List lA):Prop:=
 c=[]\/∃g o b t,a=some ⟨g,o,none⟩/\B<=g/\T g=n/\w.heap[g]?=some (.cells b t (0,0))/\IK w g o c
theorem bF.pairs {w:World} {B n:Nat} {T:Nat->Nat} {a:Option Addr} {b:List lA} (h:bF w B T n a b):yA w a b:=by
 rcases h with h|⟨g,o,c,t,rfl,_,_,d,h⟩
 ·exact Ca h
 ·exact Ja ⟨g,o,rfl,aA d,h⟩
theorem bF.own {w:World} {B n:Nat} {T:Nat->Nat} {a:Option Addr} {c:List lA} (h:bF w B T n a c):dC w B a c:=by
 rcases h with h|⟨g,o,b,t,e,d,_,f,h⟩
 ·exact Ca h
 ·exact Ja ⟨g,o,b,t,e,d,f,h⟩
theorem bF.keep {w w':World} {B n:Nat} {T c:Nat->Nat} {a:Option Addr} {l:List lA} (h:bF w B T n a l)
 (s:∀g,g<w.heap.size->B<=g->T g=n->w'.heap[g]?=w.heap[g]?/\c g=n):bF w' B c n a l:=by
 rcases h with h|⟨g,o,b,t,e,f,p,k,h⟩
 ·exact Ca h
 ·obtain⟨d,m⟩:=s g (aA k) f p;have q:∀j,w'.cell? ⟨g,j,none⟩=w.cell? ⟨g,j,none⟩:=fun j=>World.cell?_of_block d;exact Ja ⟨g,o,b,t,e,f,m,d.trans k,fun i r=>by simp only[q];exact h i r⟩
def yY (w:World) (B:Nat) (T:Nat->Nat) (i b o:Nat) (t:dA):Prop:=
 ∃a d c e,w.cell? ⟨b,o,none⟩=some (.string t.name)/\w.cell? ⟨b,o+1,none⟩=some (.int .i64 t.l9)/\w.cell? ⟨b,o+2,none⟩=some (.slice a t.m9.length d)/\w.cell? ⟨b,o+3,none⟩=some (.slice c t.s9.length e)/\
  bF w B T (2*i+1) a t.m9/\bF w B T (2*i+2) c t.s9
def oC (w:World) (B:Nat) (a:Option Addr) (c:List dA):Prop:=
 c=[]\/∃g o b t T,a=some ⟨g,o,none⟩/\B<=g/\w.heap[g]?=some (.cells b t (0,0))/\T g=0/\∀i (h:i<c.length),yY w B T i g (o+i*4) c[i]
theorem yY.at {w:World} {B i b o:Nat} {T:Nat->Nat} {t:dA} (h:yY w B T i b o t):WM w b o t:=by
 obtain⟨a,d,c,e,f,g,j,k,l,m⟩:=h;exact⟨a,d,c,e,f,g,j,k,l.pairs,m.pairs⟩
theorem oC.tens {w:World} {B:Nat} {a:Option Addr} {b:List dA} (h:oC w B a b):oB w a b:=by
 rcases h with h|⟨g,o,c,t,T,rfl,_,d,_,h⟩
 ·exact Ca h
 ·exact Ja ⟨g,o,rfl,aA d,fun i e=>(h i e).at⟩
theorem yY.keep {w w':World} {B i b o:Nat} {T l:Nat->Nat} {t:dA} (h:yY w B T i b o t) (c:∀j,j<4->w'.cell? ⟨b,o+j,none⟩=w.cell? ⟨b,o+j,none⟩)
 (m:∀g,g<w.heap.size->B<=g->(T g=2*i+1\/T g=2*i+2)->w'.heap[g]?=w.heap[g]?/\l g=T g):yY w' B l i b o t:=by
 obtain⟨n,q,p,r,s,u,v,x,y,z⟩:=h;refine⟨n,q,p,r,(c 0 (by omega)).trans s,(c 1 (by omega)).trans u,(c 2 (by omega)).trans v,(c 3 (by omega)).trans x,y.keep fun g e d a=>?_,z.keep fun g e d a=>?_⟩
 ·obtain⟨f,k⟩:=m g e d (Ca a);exact⟨f,k.trans a⟩
 ·obtain⟨f,k⟩:=m g e d (Ja a);exact⟨f,k.trans a⟩
theorem oC.later {w l:World} {B:Nat} {a:Option Addr} {k:List dA} (h:oC w B a k) (d:Below w.heap.size w l):oC l B a k:=by
 rcases h with h|⟨g,o,c,t,T,rfl,n,f,p,h⟩
 ·exact Ca h
 ·have b:=aA f;exact Ja ⟨g,o,c,t,T,rfl,n,(d.block g b).trans f,p,fun i q=>(h i q).keep (fun j _=>World.cell?_of_block (d.block g b)) fun m e _ _=>⟨d.block m e,rfl⟩⟩
def fD (t:dA):Nat:=t.name.size+(t.m9.length+fC t.m9)+(t.s9.length+fC t.s9)
def uA:List dA->Nat
 |[]=>0
 |f::r=>fD f+uA r
theorem zU (a b:List dA):uA (a++b)=uA a+uA b:=by
 induction a with
 |nil=>simp[uA]
 |cons f r c=>simp[uA,c];omega
theorem mH (a:List dA) (k:Nat) (h:k<a.length):uA (a.take (k+1))=uA (a.take k)+fD a[k]:=by
 rw[Ma h,zU];simp[uA]
theorem iJ (a:List dA) (k:Nat):uA (a.take k)<=uA a:=by
 have:=zU (a.take k) (a.drop k);rw[Ya]at this;omega
theorem MO (a:List dA) (k:Nat) (h:k<a.length):fD a[k]<=uA a:=by
 have b:=mH a k h;have c:=iJ a (k+1);omega
def rZ (v:Nat):Nat->List Nat
 |0=>[]
 |n+1=>v / 256 ^ n % 256::rZ v n
theorem FU (v:Nat):∀n,(rZ v n).length=n
 |0=>rfl
 |n+1=>by simp[rZ,FU v n]
theorem bo (v:Nat):∀k,vZ (v:Int) k=((v / 256 ^ k:Nat):Int)
 |0=>by simp[vZ]
 |k+1=>by rw[vZ,bo v k,Md,<-Ef];omega
theorem LK (v:Nat):∀n,bV (v:Int) n=(rZ v n).map (fun x:Nat=>(x:Int))
 |0=>rfl
 |n+1=>by rw[bV,rZ,Lb,LK v n,bo];simp
theorem ZU (a b n:Nat):∀m,m<=n->rZ (a*256 ^ n+b) m=rZ b m
 |0,_=>rfl
 |m+1,h=>by
  rw[rZ,rZ,ZU a b n m (by omega)];congr 1;obtain⟨d,rfl⟩:∃d,n=m+1+d:=⟨n-(m+1),by omega⟩
  have e:a*256 ^ (m+1+d)+b=b+256 ^ m*(a*256 ^ d*256):=by rw[Nat.pow_add,Md,Nat.add_comm];congr 1;ac_rfl
  rw[e,Nat.add_mul_div_left _ _ (Fg (by omega))];omega
theorem WP (c:UInt8) (l:List UInt8):jN (c::l)=c.toNat*256 ^ l.length+jN l:=by
 have f:∀(l:List UInt8) (v:Nat),l.foldl (fun v c=>v*256+c.toNat) v=v*256 ^ l.length+jN l:=fun l=>by
  induction l with
  |nil=>intro v;simp[jN]
  |cons d l e=>
   intro v;have a:=e (v*256+d.toNat);have b:=e (0*256+d.toNat);simp only[jN,Yd,Jb,Md]at a b |-
   rw[a,b];simp only[Nat.add_mul,Nat.zero_mul,Wa];rw[Nat.add_assoc];congr 1;ac_rfl
 have:=f l (0*256+c.toNat);simpa[jN]using this
theorem js:∀(l:List UInt8),rZ (jN l) l.length=l.map (fun c=>c.toNat)
 |[]=>rfl
 |c::l=>by
  have a:=aZ l;have b:=c.toNat_lt;rw[Jb,rZ,WP,ZU _ _ _ _ (Ka _),js l,Lb];congr 1;rw[Nat.add_comm,Nat.mul_comm,Nat.add_mul_div_left _ _ (Fg (by omega)),Nat.div_eq_of_lt a];omega
theorem jt (l:List UInt8) (n:Nat) (h:l.length=n):fA n (jN l:Nat)=⟨l.toArray⟩:=by
 subst h;rw[fA,LK,js,strOfNums];congr 2;rw[Wf,Wf];conv=>rhs;rw[<-List.map_id l]
 congr 1;funext c;simp
theorem iz (v:Nat):∀n,jN ((rZ v n).map UInt8.ofNat)=v % 256 ^ n
 |0=>by simp[rZ,jN,Nat.mod_one]
 |n+1=>by
  rw[rZ,Lb,WP,iz v n,Rb,FU,UInt8.toNat_ofNat_of_lt' (by show _<256;omega),Md,Nat.mod_mul];rw[Nat.mul_comm,Nat.add_comm]
theorem oy (n v:Nat):(fA n v).data.toList=(rZ v n).map UInt8.ofNat:=by
 rw[fA,LK,strOfNums_data,Wf];congr 1
theorem cI (n v:Nat) (h:v<256 ^ n):jN (fA n v).data.toList=v:=by
 rw[oy,iz,Kc h]
def oK (s:ByteArray):ByteArray:=fA 1 (s.size:Nat)++s
def nD (s:ByteArray):ByteArray:=fA 2 (s.size:Nat)++s
theorem mE (s:ByteArray):(oK s).size=1+s.size:=by rw[oK,Ga,iA]
theorem oD (s:ByteArray):(nD s).size=2+s.size:=by rw[nD,Ga,iA]
theorem bN (s:ByteArray) (w:World) (f:s.size<=1000000000):
 Calls prog 28 #[.string s] w fun e b=>e=.returned (.string (oK s))/\Below w.heap.size w b:=by
 have d:Hid (∀W,Calls prog 26 #[.int .i64 1,.int .i64 (s.size:Nat)] W fun e b=>e=.returned (.string (fA 1 (s.size:Nat)))/\Below W.heap.size W b):=fun W=>aC 1 (s.size:Nat) W (by omega) (by omega) (by omega);have g:=iA 1 (s.size:Nat);unfold oK;generalize fA 1 (s.size:Nat)=N at *;go_enter func28,ntmps28;go_wp2_with fail;refine(d.out _).mono ?_;rintro e h ⟨rfl,a⟩;have c:Hid _:=a;clear a;go_wp2;go_ret;exact⟨rfl,c.out⟩
theorem pK (s:ByteArray) (w:World) (f:s.size<=1000000000):
 Calls prog 29 #[.string s] w fun e b=>e=.returned (.string (nD s))/\Below w.heap.size w b:=by
 have d:Hid (∀W,Calls prog 26 #[.int .i64 2,.int .i64 (s.size:Nat)] W fun e b=>e=.returned (.string (fA 2 (s.size:Nat)))/\Below W.heap.size W b):=fun W=>aC 2 (s.size:Nat) W (by omega) (by omega) (by omega);have g:=iA 2 (s.size:Nat);unfold nD;generalize fA 2 (s.size:Nat)=N at *;go_enter func29,ntmps29;go_wp2_with fail;refine(d.out _).mono ?_;rintro e h ⟨rfl,a⟩;have c:Hid _:=a;clear a;go_wp2;go_ret;exact⟨rfl,c.out⟩
def oM (p:ByteArray):ByteArray:=if 1<=p.size/\p.size<=60000 then fA 4 p.size++fA 4 (bG p:Nat)++p else ByteArray.empty
def uY (v:Int):Prop:=-9223372036854775808<=v/\v<=9223372036854775807
def RR (a:List lA):Prop:=∀i (h:i<a.length),uY a[i].n
def WJ (a:List dA):Prop:=∀i (h:i<a.length),uY a[i].l9/\RR a[i].m9/\RR a[i].s9
def vX (p:lA):ByteArray:=nD p.s++fA 8 p.n
def tC:List lA->ByteArray
 |[]=>ByteArray.empty
 |p::q=>vX p++tC q
def JG (a:List lA):Prop:=∀i (h:i<a.length),a[i].s.size<=65535
def fH (t:dA):Prop:=t.name.size<=255/\JG t.m9/\JG t.s9
def CJ (t:dA):ByteArray:=oK t.name++fA 8 t.l9++fA 4 (t.m9.length:Nat)
def eL (t:dA):ByteArray:=CJ t++tC t.m9++fA 4 (t.s9.length:Nat)++tC t.s9
def iC:List dA->ByteArray
 |[]=>ByteArray.empty
 |t::q=>eL t++iC q
def tf:ByteArray:=⟨#[67,75,80,84]⟩
def mX (a b:Int) (n:Nat):ByteArray:=tf++fA 8 a++fA 8 b++fA 4 (n:Nat)
def bT (a:Int) (b:List dA):Prop:=0<=a/\a<=1000000000000000/\∀i (h:i<b.length),fH b[i]
def gH (a b:Int) (c:List dA):ByteArray:=mX a b c.length++iC c
def aGo (a:Int) (b:List dA):Decidable (bT a b):=by unfold bT fH JG;infer_instance
def xE (a b:Int) (c:List dA):ByteArray:=haveI:=aGo a c;if bT a c then gH a b c++fA 4 (bG (gH a b c):Nat) else ByteArray.empty
theorem nR {a b:Int} {c:List dA} (h:bT a c):xE a b c=gH a b c++fA 4 (bG (gH a b c):Nat):=by unfold xE;rw[Qa h]
theorem lX {a b:Int} {c:List dA} (h:¬bT a c):xE a b c=ByteArray.empty:=by unfold xE;rw[Oa h]
theorem vO:∀(a b:List lA),tC (a++b)=tC a++tC b
 |[],b=>by simp[tC]
 |r::q,b=>by
  show vX r++tC (q++b)=vX r++tC q++tC b;rw[vO q b,Gb]
theorem fZ (a:List lA) (k:Nat) (h:k<a.length):tC (a.take (k+1))=tC (a.take k)++vX a[k]:=by
 rw[Ma h,vO];simp[tC]
theorem zI:∀(a b:List dA),iC (a++b)=iC a++iC b
 |[],b=>by simp[iC]
 |r::q,b=>by
  show eL r++iC (q++b)=eL r++iC q++iC b;rw[zI q b,Gb]
theorem gZ (a:List dA) (k:Nat) (h:k<a.length):iC (a.take (k+1))=iC (a.take k)++eL a[k]:=by
 rw[Ma h,zI];simp[iC]
theorem DG (p:lA):(vX p).size=10+p.s.size:=by
 unfold vX;rw[Ga,oD,iA];omega
theorem mI:∀(a:List lA),(tC a).size=10*a.length+fC a
 |[]=>rfl
 |p::q=>by
  show(vX p++tC q).size=_;rw[Ga,DG,mI q];show _=10*(q.length+1)+(p.s.size+fC q)
  omega
theorem VT (t:dA):(CJ t).size=13+t.name.size:=by
 unfold CJ;rw[Ga,Ga,mE,iA,iA];omega
theorem wW (t:dA):(eL t).size=17+t.name.size+10*t.m9.length+fC t.m9+10*t.s9.length+fC t.s9:=by
 unfold eL;rw[Ga,Ga,Ga,VT,mI,mI,iA];omega
theorem CH (a b:Int) (n:Nat):(mX a b n).size=24:=by
 unfold mX;rw[Ga,Ga,Ga,iA,iA,iA];rfl
theorem kq {c:List dA} {k:Nat} (e:k<c.length) (h:¬fH c[k]) (a b:Int):xE a b c=ByteArray.empty:=lX fun d=>h (d.2.2 k e)
def oJ (w:World) (B:Nat) (v:Value) (s:ByteArray):Prop:=
 ∃g a b c,v=.slice (some ⟨g,0,none⟩) s.size a/\B<=g/\w.heap[g]?=some (.cells b 5 c)/\(c.2=0\/a<=c.1)/\s.size<=a/\a<=maxLen/\b.size=a/\b.toList.take s.size=Lib.strCells s
theorem oJ.later {w d:World} {B:Nat} {v:Value} {s:ByteArray} (h:oJ w B v s) (k:Below w.heap.size w d):oJ d B v s:=by
 obtain⟨g,a,b,e,f,i,c,j⟩:=h;exact⟨g,a,b,e,f,i,(k.block g (aA c)).trans c,j⟩
theorem oJ.mono {w:World} {B B':Nat} {v:Value} {s:ByteArray} (h:oJ w B v s) (i:B'<=B):oJ w B' v s:=by
 obtain⟨g,a,b,c,d,e,f⟩:=h;exact⟨g,a,b,c,d,Ra i e,f⟩
theorem oJ.lt {w:World} {B:Nat} {v:Value} {s:ByteArray} (h:oJ w B v s):∃g,v.ownBlock=some g/\B<=g/\g<w.heap.size:=by
 obtain⟨g,a,b,e,rfl,c,d,f⟩:=h;exact⟨g,rfl,c,aA d⟩
theorem yU (a b:ByteArray):Lib.strCells (a++b)=Lib.strCells a++Lib.strCells b:=by simp[Lib.strCells]
theorem gu (P:Program) (g o:Nat) (t:TypeId) (b:Nat×Nat) (d:List Value):∀(i:Nat) (a:Array Value) (w:World),w.heap[g]?=some (.cells a t b)->(b.2=0\/a.size<=b.1)->o+i+d.length<=a.size->(∀v∈d,v.oneCell'=true)->
 (storeCells ⟨g,o,none⟩ d i).run P w=.ok () (w.setRow g (a.toList.take (o+i)++d++a.toList.drop (o+i+d.length)).toArray):=by
 induction d with
 |nil=>
  intro i a w c _ _ _;rw[storeCells,Id,Pd,Bf,Ya,Array.toArray_toList,setRow_self w g a t b c];rfl
 |cons v q s=>
  intro i a w c f n k;rw[Jb]at n;have l:(⟨g,o,none⟩:Addr).add i=⟨g,o+i,none⟩:=by unfold Addr.add;split<;>simp_all
  have m:w.cell? ⟨g,o+i,none⟩=some (a[o+i]'(by omega)):=by rw[cell_of_row w g _ a t b c];exact Vc (by omega)
  have j:w.frozen? ⟨g,o+i,none⟩=false:=by
   unfold World.frozen?;rw[c];rcases f with f|f
   ·rw[Og];exact Ja (Bc (by show ¬o+i<b.2;omega))
   ·rw[Og];exact Ca (Bc (by show ¬b.1<=o+i;omega))
  have p:(store ((⟨g,o,none⟩:Addr).add i) v).run P w=.ok () (w.setRow g (a.setIfInBounds (o+i) v)):=by
   rw[l,run_store P w _ v _ (k v (Pb ..)),m];simp[j,setCell_eq_setRow w g (o+i) a t b v c]
  have h:=s (i+1) (a.setIfInBounds (o+i) v) (w.setRow g (a.setIfInBounds (o+i) v)) (setRow_heap w g a _ t _ c) (by simpa using f) (by simp;omega) (fun x r=>k x (Cb _ r));rw[storeCells,Sem.run_bind,p,Result.andThen_ok,h,setRow_setRow];congr 3;have e:=list_seg_step a.toList (o+i) v q (by simp;omega);simpa[Of,Nat.add_assoc]using e
theorem aS (w:World) (B:Nat) (v:Value) (s x:ByteArray) (I:TypeId) (m:oJ w B v s) (J:B<=w.heap.size) (S:s.size+x.size<=140737488355328):
 ∃r G,(Builtin.append_ #[22,9] I #[v,.string x]).run prog w=.ok r G/\oJ G B r (s++x)/\w.grownBy G v.ownBlock/\(r.ownBlock=v.ownBlock\/r.ownBlock=some w.heap.size):=by
 obtain⟨R,o,E,p,F⟩:=IQ;obtain⟨g,a,b,H,rfl,y,d,i,M,z,A,l⟩:=m;have c:(s++x).size=s.size+x.size:=Ga;by_cases h:s.size+x.size<=a
 ·have L:=Lib.run_firstCells_string (P:=prog) w 1 x;have n:=gu prog g s.size 5 H (Lib.strCells x) 0 b w d (by rw[A];exact i) (by rw[Lib.strCells_length];omega) (Lib.strCells_oneCell x);simp only[Bf,Lib.strCells_length]at n;refine⟨.slice (some ⟨g,0,none⟩) (s.size+x.size) a,w.setRow g (b.toList.take s.size++Lib.strCells x++b.toList.drop (s.size+x.size)).toArray,?_,?_,⟨rfl,rfl,rfl,by simp,fun k _ C=>setRow_other w g k _ (fun e=>C (by simp[Value.ownBlock,e]))⟩,Ca rfl⟩
  ·simp[Builtin.append_,run_underlying underlying22,run_underlying underlying9,sizeOf,typeInfo,o,p,Builtin.lenOf,h,L,Addr.add_lit,n]
  ·refine⟨g,a,_,H,by rw[c],y,setRow_heap w g b _ _ _ d,i,by omega,z,?_,?_⟩
   ·simp only[List.size_toArray,Za,Hb,Ad,Ue,Lib.strCells_length];omega
   ·rw[l,c,yU];have D:(Lib.strCells s++Lib.strCells x).length=s.size+x.size:=by rw[Za,Lib.strCells_length,Lib.strCells_length]
    rw[<-D];exact Hg
 ·have f:∀j u,(Lib.strCells s)[j]?=some u->w.cell? ((⟨g,0,none⟩:Addr).add j)=some u:=fun j u q=>by
   have K:(⟨g,0,none⟩:Addr).add j=⟨g,j,none⟩:=by unfold Addr.add;split<;>simp_all
   rw[K,cell_of_row w g j b _ _ d];rw[<-l,List.getElem?_take]at q;split at q
   ·simpa using q
   ·cases q
  have Q:=Lib.run_append_grow_string (P:=prog) w 22 9 I 5 R (.int .u8 0) underlying22 underlying9 o E ⟨g,0,none⟩ s.size a (Lib.strCells s) (by rw[p,Lib.strCells_length,Nat.mul_one]) f x (by omega) (by omega) (by rw[F];exact growslice_fits (by omega) (by omega));have N:=grownCap_ge w (s.size+x.size) a 5;have t:=grownCap_le_maxLen w (s.size+x.size) a 5 (by unfold maxLen;omega);refine⟨_,_,Q,⟨w.heap.size,_,_,(0,0),by rw[c],J,heap_alloc_new w.drew _,Ca rfl,by omega,t,?_,?_⟩,⟨rfl,rfl,rfl,by simp,fun k C _=>heap_alloc_old w.drew _ C⟩,Ja rfl⟩
  ·have O:(Value.int IntKind.u8 0).cells.size=1:=rfl;simp only[Array.size_append,List.size_toArray,size_zeroCells,O,Lib.strCells_length];omega
  ·rw[c,yU];have D:(Lib.strCells s++Lib.strCells x).length=s.size+x.size:=by rw[Za,Lib.strCells_length,Lib.strCells_length]
   simp only[Ve,Ld];rw[<-Ld,<-D];exact Hg
theorem VA (w:World) (B:Nat) (v:Value) (s x:ByteArray) (d:TypeId) (a:oJ w B v s) (h:B<=w.heap.size) (i:s.size+x.size<=140737488355328):
 ∃c b,(Builtin.append_ #[22,9] d #[v,.string x]).run prog w=.ok c b/\oJ b B c (s++x)/\w.grownBy b v.ownBlock:=by
 obtain⟨c,b,e,f,g,_⟩:=aS w B v s x d a h i;exact⟨c,b,e,f,g⟩
theorem NT (w:World) {d:Array Oper} {o:Oper} {a:Act} {K:Act->World->Prop} {Q:Exit->Act->World->Prop} {E:Prop} (i:o.guard=none) (sl x:Operand)
 (A:o.op=.call { callee:=.builtin .append,args:=#[sl,x],argTypes:=#[22,9] })
 (B:Nat) (v:Value) (s t:ByteArray) (D:a.eval sl=v) (b:oJ w B v s) (F:a.eval x=.string t) (n:B<=w.heap.size) (G:s.size+t.size<=140737488355328)
 (h:∀f c,oJ c B f (s++t)->Below B w c->(∀k,k<w.heap.size->v.ownBlock≠some k->c.heap[k]?=w.heap[k]?)->K (a.put o.dst f) c):
 if Region.wanted o (yielded d a.tmps)=true then Oper.wp prog o a w K Q else E:=by
 have hw:Region.wanted o (yielded d a.tmps)=true:=by simp[Region.wanted,i]
 rw[Qa hw];obtain⟨f,c,C,r,m⟩:=VA w B v s t o.type b n G;have j:=b.lt;have u:=h f c r ((Below.refl B w).grown m n (fun q p=>by obtain⟨g,e,y,_⟩:=j;rw[e]at p;cases p;exact y)) (fun k z l=>m.block k z (fun e=>l e.symm));unfold Oper.wp execOp;simp only[A,resolve,invoke,builtin,Sem.run_bind,Sem.run_pure,Result.andThen_ok,Sf,Lb,Qc,D,F,C];exact u
theorem uL (w:World) {f:Array Oper} {o:Oper} {a:Act} {K:Act->World->Prop} {Q:Exit->Act->World->Prop} {E:Prop} (j:o.guard=none) (sl x:Operand)
 (C:o.op=.call { callee:=.builtin .append,args:=#[sl,x],argTypes:=#[22,9] })
 (B:Nat) (v:Value) (s t:ByteArray) (F:a.eval sl=v) (b:oJ w B v s) (G:a.eval x=.string t) (n:B<=w.heap.size) (H:s.size+t.size<=140737488355328)
 (h:∀d c,oJ c B d (s++t)->Below B w c->(∀k,k<w.heap.size->v.ownBlock≠some k->c.heap[k]?=w.heap[k]?)->(d.ownBlock=v.ownBlock\/d.ownBlock=some w.heap.size)->w.heap.size<=c.heap.size->K (a.put o.dst d) c):
 if Region.wanted o (yielded f a.tmps)=true then Oper.wp prog o a w K Q else E:=by
 have hw:Region.wanted o (yielded f a.tmps)=true:=by simp[Region.wanted,j]
 rw[Qa hw];obtain⟨d,c,D,r,i,u⟩:=aS w B v s t o.type b n H;have l:=b.lt;have y:=h d c r ((Below.refl B w).grown i n (fun q p=>by obtain⟨g,e,z,_⟩:=l;rw[e]at p;cases p;exact z)) (fun k A m=>i.block k A (fun e=>m e.symm)) u i.size;unfold Oper.wp execOp;simp only[C,resolve,invoke,builtin,Sem.run_bind,Sem.run_pure,Result.andThen_ok,Sf,Lb,Qc,F,G,D];exact y
theorem uH (w:World) {i:Array Oper} {c:List Oper} {o:Oper} {a:Act} {Q:Exit->Act->World->Prop} (l:o.guard=none) (sl x:Operand)
 (E:o.op=.call { callee:=.builtin .append,args:=#[sl,x],argTypes:=#[22,9] })
 (B:Nat) (v:Value) (s t:ByteArray) (G:a.eval sl=v) (b:oJ w B v s) (H:a.eval x=.string t) (p:B<=w.heap.size) (I:s.size+t.size<=140737488355328)
 (h:∀f d,oJ d B f (s++t)->Below B w d->(∀k,k<w.heap.size->v.ownBlock≠some k->d.heap[k]?=w.heap[k]?)->(f.ownBlock=v.ownBlock\/f.ownBlock=some w.heap.size)->w.heap.size<=d.heap.size->wpList prog i Q c (a.put o.dst f) d):
 wpList prog i Q (o::c) a w:=by
 refine wpList_plain l fun K z=>?_;obtain⟨f,d,F,u,j,y⟩:=aS w B v s t o.type b p I;have m:=b.lt;have C:=h f d u ((Below.refl B w).grown j p (fun q r=>by obtain⟨g,e,A,_⟩:=m;rw[e]at r;cases r;exact A)) (fun k D n=>j.block k D (fun e=>n e.symm)) y j.size;unfold Oper.wp execOp;simp only[E,resolve,invoke,builtin,Sem.run_bind,Sem.run_pure,Result.andThen_ok,Sf,Lb,Qc,G,H,F];exact z _ _ C
theorem SJ (w:World) (s:ByteArray) (f:s.size<=140737488355328):∃v d,(convert 9 22 (.string s)).run prog w=.ok v d/\oJ d w.heap.size v s/\Below w.heap.size w d:=by
 refine⟨_,_,run_bytes_of_string w _ _ 5 s underlying9 underlying22 underlying5,?_,(Below.refl _ w).drew.alloc (by simp) _⟩;have c:=grownCap_ge w s.size 0 5;have b:=grownCap_le_maxLen w s.size 0 5 (by unfold maxLen;omega);have a:(bytesRow s (grownCap w s.size 0 5)).size=grownCap w s.size 0 5:=by
  unfold bytesRow;rw[Array.size_append,Array.size_map,Array.size_replicate];show s.size+_=_;omega
 refine⟨w.heap.size,_,_,_,rfl,Ka _,heap_alloc_new w.drew _,Ja (by rw[a];exact Ka _),c,b,a,?_⟩;have e:=Lib.strCells_length s;unfold bytesRow;rw[Ve,Array.toList_map];conv=>lhs;arg 1;rw[<-e]
 exact Hg
theorem AM (s:ByteArray) (a:s.size<=140737488355328):∃(V:World->Value) (N:World->World),(∀w,(convert 9 22 (.string s)).run prog w=.ok (V w) (N w))/\∀w,oJ (N w) w.heap.size (V w) s/\Below w.heap.size w (N w):=
 ⟨fun w=>Classical.choose (SJ w s a),fun w=>Classical.choose (Je (SJ w s a)),fun w=>(Je (Je (SJ w s a))).1,fun w=>(Je (Je (SJ w s a))).2⟩
theorem zY {w:World} {B:Nat} {v:Value} {s:ByteArray} (h:oJ w B v s):(convert 22 9 v).run prog w=.ok (.string s) w:=by
 obtain⟨g,b,a,k,rfl,l,e,m,n,o,p,f⟩:=h;have:=run_convert_bytes_back w 22 9 5 ⟨g,0,none⟩ b s.data.toList underlying22 underlying5 underlying9 (fun j d=>by
  have i:(⟨g,0,none⟩:Addr).add j=⟨g,j,none⟩:=by unfold Addr.add;split<;>simp_all
  rw[i,cell_of_row w g j a _ _ e,<-Zd];have c:j<s.size:=by simpa using d
  have:(a.toList.take s.size)[j]?=(Lib.strCells s)[j]?:=by rw[f]
  rw[Mb c]at this;rw[this,Lib.strCells,Ig,Va d];rfl)
 simpa using this
theorem GJ (s:ByteArray) (w:World) (u:s.size<=maxLen):
 Calls prog 142 #[.string s] w fun e y=>e=.returned (.int .i64 (bG s:Nat))/\y=w:=by
 unfold maxLen at u;go_enter func142,ntmps142;go_wp2;go_loop [3,4,5,6,7,8] (fun r i _ _ _ _=>∃(j R:Nat),j<=s.size/\i=.int .i64 j/\r=.int .i64 R/\Hid (R=JV (s.data.toList.take j))) (fun _ i _ _ _ _=>s.size-(intOf i).toNat)
 case atStart=>exact⟨0,4294967295,La _,rfl,rfl,rfl⟩
 case round=>
  obtain⟨j,R,A,rfl,rfl,f⟩:=hrel;have b:R<4294967296:=by rw[f.out];exact vW _
  by_cases g:j<s.size
  ·have z:s[j].toNat<256:=s[j].toNat_lt;go_wp2;go_loop [3,5,6,7,8] (fun r k _ _ _=>∃(m S:Nat),m<=8/\k=.int .i64 m/\r=.int .i64 S/\Hid (S=xF R s[j].toNat m)) (fun _ k _ _ _=>8-(intOf k).toNat)
   case atStart=>exact⟨0,R,by omega,rfl,rfl,rfl⟩
   case round=>
    obtain⟨m,S,B,rfl,rfl,c⟩:=hrel;have h:S<4294967296:=by rw[c.out];exact sF b _
    by_cases p:m<8
    ·go_wp2;go_loop [6,7] (fun x q=>∃(t X:Nat),t<=m/\q=.int .i64 t/\x=.int .i64 X/\Hid (X=s[j].toNat / 2 ^ t)) (fun _ q=>m-(intOf q).toNat)
     case atStart=>exact⟨0,s[j].toNat,by omega,rfl,rfl,by show _=_;simp⟩
     case round=>
      obtain⟨t,X,C,rfl,rfl,d⟩:=hrel;have n:X<256:=by
       have:X<=s[j].toNat:=by rw[d.out];exact Nat.div_le_self _ _
       omega
      by_cases v:t<m
      ·go_wp2;exact⟨⟨t+1,X / 2,by omega,by go_num,by go_num,by show _=_;rw[d.out,Ef,Md]⟩,by simp[intOf];omega⟩
      ·have e:t=m:=by omega
       subst e;by_cases a:(S+X) % 2=1
       ·go_wp2;have o:bits BinOp.xor IntKind.i64 ((S:Int) / 2) 2197175160=(((S / 2) ^^^ 2197175160:Nat):Int):=aCm (S / 2) 2197175160 (by omega) (by omega);rw[o];exact⟨⟨t+1,_,by omega,by go_num,rfl,by show _=_;rw[xF,cL,<-c.out,<-d.out,Qa a]⟩,by simp[intOf];omega⟩
       ·go_wp2;exact⟨⟨t+1,S / 2,by omega,by go_num,by go_num,by show _=_;rw[xF,cL,<-c.out,<-d.out,Oa a]⟩,by simp[intOf];omega⟩
    ·go_wp2;have e:m=8:=by omega
     subst e;exact⟨⟨j+1,S,by omega,by go_num,rfl,by show _=_;rw[lP s j g,OQ,<-f.out,yI,c.out]⟩,by simp[intOf];omega⟩
  ·go_wp2;go_ret;refine⟨zF ?_,rfl⟩;rw[bG,<-Ua (l:=s.data.toList) (i:=j) (by simp;omega),<-f.out];omega
theorem kf {a b:ByteArray} (h:a=b):Ending.returned (.string a)=.returned (.string b):=by rw[h]
theorem NO (p:ByteArray) (w:World) (d:p.size<=maxLen):
 Calls prog 149 #[.string p] w fun e c=>e=.returned (.string (oM p))/\Below w.heap.size w c:=by
 by_cases h:1<=p.size/\p.size<=60000
 ·have i:xA (p.size:Int) 1 60000=true:=by unfold xA;simp;omega
  have E:Hid (oM p=fA 4 p.size++fA 4 (bG p:Nat)++p):=Qa h;have k:=iA 4 (p.size:Int);have l:=iA 4 ((bG p:Nat):Int);have m:=IL p;have n:=h.2;have g:Hid (p.size<=maxLen):=d;clear d h;go_enter func149,ntmps149;go_wp2_with(go_at_call 25;refine(hC _ _ _ _).mono ?_;rintro e c ⟨rfl,hw⟩;replace hw:=hw.symm;subst hw);refine(aC 4 (p.size:Int) _ (by omega) (by omega) (by omega)).mono ?_;rintro e o ⟨rfl,a⟩;go_wp2_with fail;refine(GJ p _ g.out).mono ?_;rintro e c ⟨rfl,hw⟩;replace hw:=hw.symm;subst hw;go_wp2_with fail;refine(aC 4 ((bG p:Nat):Int) _ (by omega) (by omega) (by omega)).mono ?_;rintro e j ⟨rfl,b⟩;generalize fA 4 (p.size:Int)=A at *;generalize fA 4 ((bG p:Nat):Int)=B at *;have f:Hid (Below w.heap.size w j):=nA a b;clear a b;go_wp2;go_ret;exact⟨kf E.out.symm,f.out⟩
 ·have i:xA (p.size:Int) 1 60000=false:=by unfold xA;simp;omega
  have E:Hid (oM p=ByteArray.empty):=Oa h;go_enter func149,ntmps149;go_wp2_with(go_at_call 25;refine(hC _ _ _ _).mono ?_;rintro e c ⟨rfl,hw⟩;replace hw:=hw.symm;subst hw);go_ret;exact⟨kf E.out.symm,Below.refl _ _⟩
