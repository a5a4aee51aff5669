import Derived.Test.YtjpeimianeiegaaGreatDoorJ14
import Derived.Test.YtjpeimianeiegaaGreatDoorJ15
set_option maxRecDepth 100000
set_option maxHeartbeats 4000000
namespace Go.Proofs.YtjpeimianeiegaaGreatDoor
open Go.RowKit Tryz
theorem mz {c d a b:Value} (e:c=a) (f:d=b):Ending.returned (.tuple #[c,d])=.returned (.tuple #[a,b]):=by rw[e,f]
def zD (t:ByteArray):List dA->Nat->Int
 |[],_=>-1
 |f::r,i=>if (f.name.toList==t.toList)=true then i else zD t r (i+1)
theorem AQ (a:Option Addr) (p:Nat) (f:List dA) (c y s v:Int) (u:Bool) (t:ByteArray) (w:World) (q:iA w a f) (j:f.length<=maxLen):
 Calls prog 18 #[.agg #[.slice a f.length p,.int .i64 c,.int .i64 y,.int .i64 s,.int .i64 v,.bool u],.string t] w fun e z=>e=.returned (.int .i64 (zD t f 0))/\Below w.heap.size w z:=by
 unfold maxLen at j;have r:Hid (iA w a f):=q;clear q;go_enter func18,ntmps18;go_wp2;go_loopw [5,6,10] (fun _ _ i wr=>∃k:Nat,k<=f.length/\i=.int .i64 k/\zD t f 0=zD t (f.drop k) k/\Below w.heap.size w wr) (fun _ _ i _=>f.length-(intOf i).toNat)
 case atStart=>exact⟨0,Ha _,rfl,rfl,cA _ _⟩
 case round=>
  obtain⟨k,F,rfl,h,d⟩:=hrel;have g:Hid _:=h;clear h;by_cases l:k<f.length
  ·obtain⟨b,o,rfl,D,A,B,C⟩:=(r.out.later d).at l;have m:=Ra l;by_cases n:(f[k].name.toList==t.toList)=true
   ·have E:Hid (zD t f 0=k):=by show _=_;rw[g.out,m,zD,Ga n]
    clear m;go_wp2;go_ret;exact⟨iC E.out.symm,d.alloc d.size _⟩
   ·have x:(f[k].name.toList==t.toList)=false:=by simpa using n
    have E:Hid (zD t f 0=zD t (f.drop (k+1)) (k+1)):=by show _=_;rw[g.out,m,zD,Ca n]
    clear m n;go_wp2;exact⟨⟨k+1,by omega,by go_num,E.out,d.alloc d.size _⟩,by simp[intOf];omega⟩
  ·go_wp2;go_ret;have e:f.drop k=[]:=Ae (by omega);exact⟨iC (by rw[g.out,e];rfl),d⟩
def dN (a:List dA):Prop:=∀i j (b:i<j) (c:j<a.length),Op.bytesLess a[i].name.toList a[j].name.toList=true
theorem aCk {a:List dA} {j:Nat} (h:eT a (j+1)=true) (b:j+1<a.length):Op.bytesLess a[j].name.toList a[j+1].name.toList=true:=by
 simp[eT,Ka b,Ka (show j<a.length by omega)]at h;exact h.2
theorem jL {a:List dA} (h:yF a=true):dN a:=by
 simp only[yF,dR,Vd,Yg]at h;intro i j f b;induction j with
 |zero=>omega
 |succ j d=>
  have c:=aCk (h (j+1) b) b;by_cases e:i=j
  ·subst e;exact c
  ·exact dH _ _ _ (d (by omega) (by omega)) c
def oO (a:List dA) (t:ByteArray) (i:Nat):Prop:=i<=a.length/\(∀j (h:j<a.length),j<i->Op.bytesLess a[j].name.toList t.toList=true)/\(∀j (h:j<a.length),i<=j->Op.bytesLess a[j].name.toList t.toList=false)
def mA (t:ByteArray):List dA->Nat
 |[]=>0
 |f::r=>if Op.bytesLess f.name.toList t.toList=true then mA t r+1 else 0
theorem oO.uniq {d:List dA} {t:ByteArray} {i j:Nat} (h:oO d t i) (k:oO d t j):i=j:=by
 rcases Nat.lt_trichotomy i j with c|e|c
 ·have a:=k.2.1 i (by have:=k.1;omega) c;have b:=h.2.2 i (by have:=k.1;omega) (Da _);rw[a]at b;exact absurd b (by simp)
 ·exact e
 ·have a:=h.2.1 j (by have:=h.1;omega) c;have b:=k.2.2 j (by have:=h.1;omega) (Da _);rw[a]at b;exact absurd b (by simp)
def eF (a:List dA) (t:ByteArray) (i:Nat):Bool:=match a[i]? with
 |none=>false
 |some f=>f.name.toList==t.toList
theorem fp {x y:ByteArray}:(vW x y<0) ↔ Op.bytesLess x.toList y.toList=true:=by
 unfold vW;split<;>(try split)<;>simp_all
theorem zm {x y:ByteArray}:(vW x y==0)=(x.toList==y.toList):=by
 unfold vW;by_cases h:Op.bytesLess x.toList y.toList=true
 ·rw[Ga h];have:(x.toList==y.toList)=false:=by
   rw[Pf];intro e;rw[e,rE]at h;exact absurd h (by simp)
  rw[this];rfl
 ·rw[Ca h];by_cases e:(x.toList==y.toList)=true
  ·rw[Ga e,e];rfl
  ·rw[Ca e];simp at e;simp[e]
theorem uu (a:Option Addr) (A:Nat) (d:List dA) (t:ByteArray) (w:World) (I:iA w a d) (n:dN d) (K:d.length<=1048576):
 Calls prog 124 #[.slice a d.length A,.string t,.func (.func 125) #[] #[]] w fun e z=>
  ∃i,oO d t i/\e=.returned (.tuple #[.int .i64 i,.bool (eF d t i)])/\Below w.heap.size w z:=by
 have G:Hid (iA w a d):=I;have F:Hid (dN d):=n;clear I n;go_enter func124,ntmps124;go_wp2;go_loopw [9,10,11] (fun i j _ wr=>∃f l:Nat,i=.int .i64 f/\j=.int .i64 l/\f<=l/\l<=d.length/\(∀m (h:m<d.length),m<f->Op.bytesLess d[m].name.toList t.toList=true)/\
  (∀m (h:m<d.length),l<=m->Op.bytesLess d[m].name.toList t.toList=false)/\Below w.heap.size w wr) (fun i j _ _=>(intOf j).toNat-(intOf i).toNat)
 case atStart=>exact⟨0,d.length,rfl,rfl,Ha _,Da _,fun m h k=>absurd k (by omega),fun m h k=>absurd k (by omega),Below.refl _ _⟩
 case round=>
  obtain⟨f,l,rfl,rfl,P,x,q,p,c⟩:=hrel;have v:Hid _:=q;have u:Hid _:=p;clear q p;by_cases Q:f<l
  ·obtain⟨m,R⟩:∃m:Nat,m=(f+l) / 2:=⟨_,rfl⟩
   have U:((f:Int)+(l:Int)) / 2=(m:Int):=by omega
   have C:f<=m:=by omega
   have S:m<l:=by omega
   have y:m<d.length:=by omega
   clear R;obtain⟨b,o,rfl,O,L,M,N⟩:=(G.out.later c).at y;by_cases r:Op.bytesLess d[m].name.toList t.toList=true
   ·have T:=fp.2 r;have s:Hid _:=r;clear r;go_wp2_with fail;refine(AK _ _ _ _ _).mono ?_;rintro e z ⟨rfl,g⟩;go_wp2;refine⟨⟨m+1,l,by go_num,rfl,by omega,x,fun j J B=>?_,u.out,c.trans (g.mono c.size)⟩,by simp[intOf];omega⟩;by_cases e:j=m
    ·subst e;exact s.out
    ·exact dH _ _ _ (F.out j m (by omega) y) s.out
   ·have T:¬vW d[m].name t<0:=fun h=>r (fp.1 h);have s:Hid (Op.bytesLess d[m].name.toList t.toList=false):=by show _=_;simpa using r
    clear r;go_wp2_with fail;refine(AK _ _ _ _ _).mono ?_;rintro e z ⟨rfl,g⟩;go_wp2;refine⟨⟨f,m,rfl,rfl,C,by omega,v.out,fun j J B=>?_,c.trans (g.mono c.size)⟩,by simp[intOf];omega⟩;by_cases e:j=m
    ·subst e;exact s.out
    ·rw[Ic];intro h;have:=dH _ _ _ (F.out m j (by omega) J) h;rw[s.out]at this;exact absurd this (by simp)
  ·obtain rfl:f=l:=by omega
   have H:Hid (oO d t f):=⟨x,v.out,u.out⟩
   by_cases D:f<d.length
   ·obtain⟨b,o,rfl,O,L,M,N⟩:=(G.out.later c).at D;have E:Hid ((vW d[f].name t==0)=eF d t f):=by show _=_;rw[zm];simp[eF,Ka D]
    go_wp2_with fail;refine(AK _ _ _ _ _).mono ?_;rintro e z ⟨rfl,g⟩;go_wp2;go_ret2;exact⟨f,H.out,mz rfl (Zc Value.bool E.out),c.trans (g.mono c.size)⟩
   ·have E:Hid (eF d t f=false):=by show _=_;simp[eF,Td (Nat.not_lt.1 D)]
    go_wp2;go_ret2;exact⟨f,H.out,mz rfl (Zc Value.bool E.out.symm),c⟩
theorem uP (a:Option Addr) (d:Nat) (b:List dA) (t:ByteArray) (w:World) (g:iA w a b) (c:dN b) (f:b.length<=1048576):
 Calls prog 97 #[.slice a b.length d,.string t] w fun e j=>
  ∃i,oO b t i/\e=.returned (.tuple #[.int .i64 i,.bool (eF b t i)])/\Below w.heap.size w j:=by
 have l:Hid (iA w a b):=g;have k:Hid (dN b):=c;clear g c;go_enter func97,ntmps97;go_wp2_with fail;refine(uu a d b t _ l.out k.out f).mono ?_;rintro e j ⟨i,h,rfl,n⟩;have m:Hid (oO b t i):=h;clear h;go_wp2;go_ret2;exact⟨i,m.out,rfl,n⟩
theorem uT {a:List dA} {t:ByteArray} (p:dN a) {i:Nat} (u:oO a t i):zD t a 0=if eF a t i=true then(i:Int) else -1:=by
 have o:∀(n k:Nat),k+n=a.length->(∀j (h:j<a.length),j<k->(a[j].name.toList==t.toList)=false)->zD t (a.drop k) k=if eF a t i=true then(i:Int) else -1:=by
  intro n;induction n with
  |zero=>
   intro k r c;rw[Ae (by omega),zD];rw[Ca];intro h;unfold eF at h;split at h
   ·exact absurd h (by simp)
   ·rename_i f q;obtain⟨b,rfl⟩:=Va.1 q;rw[c i b (by omega)]at h;exact absurd h (by simp)
  |succ n w=>
   intro k r c;have b:k<a.length:=by omega
   rw[Ra b,zD];by_cases d:(a[k].name.toList==t.toList)=true
   ·rw[Ga d];have v:oO a t k:=by
     have e:a[k].name.toList=t.toList:=by simpa using d
     refine⟨by omega,fun j l g=>?_,fun j l s=>?_⟩
     ·rw[<-e];exact p j k g b
     ·rw[<-e];by_cases m:j=k
      ·subst m;exact rE _
      ·exact qL (p k j (by omega) l)
    obtain rfl:=u.uniq v;rw[Ga];simp[eF,Ka b,d]
   ·rw[Ca d];refine w (k+1) (by omega) fun j l g=>?_;by_cases m:j=k
    ·subst m;simpa using d
    ·exact c j l (by omega)
 have:=o a.length 0 (by omega) (fun j _ h=>absurd h (by omega));simpa using this
theorem qp (B g b i:Nat) (l:List dA) (w:World) (y:w.ownsRow B 98 3 (.slice (some ⟨g,0,none⟩) l.length b) l.length (flat l)) (X:i<l.length) (Y:l.length<=1048576):
 Calls prog 162 #[.slice (some ⟨g,0,none⟩) l.length b,.int .i64 i,.int .i64 ((i:Int)+1)] w fun e w'=>
  e=.returned (.slice (some ⟨g,0,none⟩) (l.length-1) b)/\w'.ownsRow B 98 3 (.slice (some ⟨g,0,none⟩) (l.length-1) b) (l.length-1) (flat (l.eraseIdx i))/\jC (fun k=>k=g) w w':=by
 obtain⟨K,hB,_,r,hnc,E,C,t⟩:=sP y;obtain⟨Z,F,Q,R,hz2⟩:=tJ;obtain⟨n,H⟩:∃n,l.length=n:=⟨_,rfl⟩
 obtain⟨a,d⟩:∃a,a=flat (l.drop (i+1)):=⟨_,rfl⟩
 have f:a.length=(n-(i+1))*3:=by rw[d,pD,Lc,H]
 have L:(flat l).length=n*3:=by rw[pD,H]
 have m:∀j,j<n*3->(w.cell? ⟨g,j,none⟩).isSome=true:=fun j M=>by rw[t j _ (Ka (by omega))];rfl
 obtain⟨A,hA,J⟩:∃A:Addr,(if b=i+1 then some (⟨g,0,none⟩:Addr) else some ⟨g,(i+1)*3,none⟩)=some A/\Hid (∀j u,a[j]?=some u->w.drew.cell? (A.add j)=some u):=by
  by_cases h:b=i+1
  ·refine⟨⟨g,0,none⟩,by simp[h],fun j u o=>?_⟩;have h0:a.length=0:=by rw[f];omega
   rw[Fb.1 h0]at o;simp at o
  ·refine⟨⟨g,(i+1)*3,none⟩,by simp[h],fun j u o=>?_⟩;rw[d,yS l (i+1) j (by omega)]at o;rw[Addr.add_lit];exact t _ _ o
 have s1:Hid _:=f;have s2:Hid (∀u∈a,u.oneCell'=true):=by rw[d];exact vE _
 have s3:Hid (∀j,j<a.length->(w.drew.cell? ⟨g,0+i*3+j,none⟩).isSome=true/\w.drew.frozen? ⟨g,0+i*3+j,none⟩=false):=by
  intro j M;rw[f]at M;exact⟨m _ (by omega),r.free _⟩
 obtain⟨x,p⟩:∃x,x=w.drew.setCells g (0+i*3) a:=⟨_,rfl⟩
 have s:lA w.drew g K 98:=r;obtain⟨U,q,z⟩:=lA.setCells a (0+i*3) s;rw[<-p]at q;have hcl:∀T c,(Builtin.clear_ #[28] T #[.slice (some ⟨g,(n-1)*3,none⟩) 1 c]).run prog x=.ok (.tuple #[]) (x.setCells g ((n-1)*3) eY):=fun T c=>
  TF x _ T _ Z underlying28 F Q g _ c (fun j M=>by obtain⟨v,hv⟩:=q.there (j:=(n-1)*3+j) (by rw[z,C];omega);rw[hv];rfl) (fun j _=>q.free _)
 obtain⟨V,D,I⟩:=lA.setCells eY ((n-1)*3) q;have HK:Hid (jC (fun k=>k=g) w (x.setCells g ((n-1)*3) eY)):=by
  show jC _ _ _;rw[p];exact jC.setCells (S:=fun k=>k=g) rfl _ _ (jC.setCells (S:=fun k=>k=g) rfl _ _ (jC.refl _ _).drew)
 have HO:Hid ((x.setCells g ((n-1)*3) eY).ownsRow B 98 3 (.slice (some ⟨g,0,none⟩) (n-1) b) (n-1) (flat (l.eraseIdx i))):=by
  refine aQ hB D (by omega) E (by rw[I,z,C]) (by rw[pD,Dc,Ga X,H]) fun j u o=>?_;have O:=(Va.1 o).1;rw[pD,Dc,Ga X,H]at O;rw[World.cell?_setCells_out g eY ((n-1)*3) x _ (fun _ _=>Ba (by show j<_;omega)),p];rw[qu]at o;have P:(flat (l.take i)).length=i*3:=by rw[pD,Ta];omega
  by_cases N:j<i*3
  ·rw[World.cell?_setCells_out g a (0+i*3) _ _ (fun _ _=>Ba (by show j<_;omega))];rw[Cd (by omega),dO l i j (by omega) N]at o;exact t j u o
  ·rw[Rc (by omega),P,<-d]at o;have G:=World.cell?_setCells_in g a (0+i*3) w.drew (fun k hk=>(s3.out k hk).1) (j-i*3) (by omega);rw[show 0+i*3+(j-i*3)=j by omega]at G;rw[G,<-o,Ka]
 have hic:i<=b:=by omega
 have hp0:(0:Int)<=(i:Int)+1:=by omega
 have hp1:(i:Int)+1<=(n:Int):=by omega
 have hp2:((i:Int)+1).toNat=i+1:=by omega
 have hp3:¬((i:Int)=(i:Int)+1):=by omega
 have W:(b:Int)<=9223372036854775807:=by unfold maxLen at E;omega
 have e1:i+(n-(i+1))=n-1:=by omega
 have e2:n-(n-1)=1:=by omega
 have hW:Hid _:=p;rw[H];clear p y r s q D t m d L f z I C;go_enter func162,ntmps162;go_wp2_with fail;go_region_law (refine step_append_room rfl (.tmp 22) (.tmp 25) 28 rfl 98 Z 3 underlying28 F R g 0 i b (by simp[Act.eval,Act.put]) A (n-(i+1)) (b-(i+1)) a (by simp[Act.eval,Act.put]) s1.out J.out s2.out (by omega) s3.out ?_;rw[<-hW.out])
 go_wp2;go_ret;exact⟨rfl,HO.out,HK.out⟩
def kE (w c:World):Prop:=∀(b:Nat) (o:Obj),w.heap[b]?=some o->(∀a t,o=.cells a t (0,0)->t≠98/\t≠138)->c.heap[b]?=some o
theorem AY {w:World} {b:Nat} {o:Obj} (h:w.heap[b]?=some o):b<w.heap.size:=(Bb.1 h).1
theorem kE.blk {w c:World} (k:kE w c) {b:Nat} {a:Array Value} {t:TypeId} (h:lA w b a t) (d:t≠98) (f:t≠138):lA c b a t:=k b _ h fun _ _ e=>by cases e;exact⟨d,f⟩
theorem kE.trans {a b c:World} (h:kE a b) (k:kE b c):kE a c:=fun x o e d=>k x o (h x o e d) d
theorem kE.of {w c:World} (h:Below w.heap.size w c):kE w c:=fun b _ a _=>(h.block b (AY a)).trans a
theorem kE.keeps {S:Nat->Prop} {w e:World} (h:jC S w e) (f:∀k,S k->∃b t,lA w k b t/\(t=98\/t=138)):kE w e:=fun x o c i=>(h.block x (AY c) fun j=>by
 obtain⟨d,n,g,a⟩:=f x j;obtain⟨l,m⟩:=i _ _ (Qc (c.symm.trans g));rcases a with a|a
 ·exact l a
 ·exact m a).trans c
theorem kE.set {w:World} {g o:Nat} {a:Array Value} {t:TypeId} (b:lA w g a t) (c:t=98\/t=138) (v:Value):kE w (w.setCell ⟨g,o,none⟩ v):=
 kE.keeps (S:=fun k=>k=g) ((jC.refl (fun k=>k=g) w).setCell (g:=g) rfl o v) (fun k e=>⟨a,t,by rw[e];exact b,c⟩)
theorem iU {w:World} {B:Nat} {v:Value} {n:Nat} {e:List Value} (h:w.ownsRow B 98 3 v n e):∀g,v.ownBlock=some g->∃a,lA w g a 98:=by
 intro g b;rcases h.2 with⟨rfl,_⟩|⟨f,c,a,rfl,_,d,_⟩
 ·simp[Value.ownBlock]at b
 ·simp[Value.ownBlock]at b;subst b;exact⟨a,d⟩
structure tH (B:Nat) (w w':World):Prop where
 below:Below B w w'
 other:kE w w'
theorem tH.trans {B:Nat} {a b c:World} (h:tH B a b) (k:tH B b c):tH B a c:=⟨h.below.trans k.below,h.other.trans k.other⟩
theorem tH.of {B:Nat} {w a:World} (h:Below w.heap.size w a) (b:B<=w.heap.size):tH B w a:=⟨h.mono b,kE.of h⟩
theorem tH.on {B:Nat} {a w b:World} (h:tH B a w) (k:Below w.heap.size w b) (c:B<=w.heap.size):tH B a b:=h.trans (tH.of k c)
theorem tH.set {B g o:Nat} {a w:World} {b:Array Value} {t:TypeId} (h:tH B a w) (c:lA w g b t) (e:t=98\/t=138) (d:B<=g) (v:Value):tH B a (w.setCell ⟨g,o,none⟩ v):=
 ⟨h.below.setCell (by show B<=g;exact d) _,h.other.trans (kE.set c e v)⟩
theorem tH.but {B g:Nat} {a w c:World} {b:Array Value} {t:TypeId} (h:tH B a w) (k:eD g w c) (f:lA w g b t) (l:t=98\/t=138) (i:B<=g) (d:B<=w.heap.size):tH B a c:=
 ⟨h.below.trans (k.below i d),h.other.trans (kE.keeps (jC.but k) (fun j e=>⟨b,t,by rw[e];exact f,l⟩))⟩
theorem tH.charge {B D:Nat} {g:List dA} {c k d f:Int} {e:Bool} {v:Value} {w b:World} {o:Obj} (h:oB w B D g c k d f e v) (i:B<=w.heap.size) (a:eD D (w.alloc o) b):tH B w b:=
 (tH.of (cA w o) i).but a (h.later (cA w o)).blk (Ea rfl) h.from' (by simp;omega)
theorem cH {s:ByteArray} {b:Bool} (h:wF s=b) (w:World) (a:s.size<=maxLen):Calls prog 43 #[.string s] w fun e c=>e=.returned (.bool b)/\c=w:=h ▸ PR s w a
theorem rZ (a:Option Addr) (r:Nat) (d:List dA) (c p m s:Int) (N:Bool) (w:World) (hf:iA w a d) (hs:mK d) (I:d.length<=maxLen) (J:xA d<=1000000000):
 Calls prog 16 #[.agg #[.slice a d.length r,.int .i64 c,.int .i64 p,.int .i64 m,.int .i64 s,.bool N]] w fun e q=>e=.returned (.bool (vC d c p m s))/\Below w.heap.size w q:=by
 obtain⟨z0,z1,z2,z3,z4,z5⟩:=UH w (.slice a d.length r) (.int .i64 c) (.int .i64 p) (.int .i64 m) (.int .i64 s) (.bool N) 30;have d0:=oA.cells z0;have d1:=oA.cells z1;have d2:=oA.cells z2;have d3:=oA.cells z3;have d4:=oA.cells z4;have d5:=oA.cells z5;have F:Below w.heap.size w (w.alloc (.cells #[.slice a d.length r,.int .i64 c,.int .i64 p,.int .i64 m,.int .i64 s,.bool N] 30)):=(Below.refl _ _).alloc (Da _) _;have hne:=oA.there (w.alloc (.cells #[.slice a d.length r,.int .i64 c,.int .i64 p,.int .i64 m,.int .i64 s,.bool N] 30));have C:Hid (∀x:oA (w.alloc (.cells #[.slice a d.length r,.int .i64 c,.int .i64 p,.int .i64 m,.int .i64 s,.bool N] 30)),iA x.w' a d):=fun x=>(hf.later F).later x.h;have Q:Hid (∀x:oA (w.alloc (.cells #[.slice a d.length r,.int .i64 c,.int .i64 p,.int .i64 m,.int .i64 s,.bool N] 30)),Below w.heap.size w x.w'):=fun x=>F.trans (x.h.mono F.size);have HS:Hid (mK d):=hs;have HL:Hid _:=I;unfold maxLen at I;clear z0 z1 z2 z3 z4 z5 F hf hs;by_cases hA0:(1000:Int)<d.length
 ·have E:Hid (vC d c p m s=false):=by
   show _=_;have e:decide (d.length<=1000)=false:=by simp;omega
   simp only[vC,e,Ld]
  go_enter func16,ntmps16;go_wp2_with fail;refine jA (by kernel_rfl) (by kernel_rfl) ?_;repeat (go_big_quiet_step (fail))
  refine wpQuiet_nil ?_;rintro _ ⟨x,rfl⟩;go_wp2;go_ret;exact⟨kA E.out.symm,Q.out x⟩
 have hA1:decide ((1000:Int)<d.length)=false:=by simp;omega
 have hA2:decide (1000<d.length)=false:=by simp;omega
 have Y:decide (d.length<=1000)=true:=by simp;omega
 by_cases z:uA c 0 1000000000=false
 ·have E:Hid (vC d c p m s=false):=by show _=_;simp only[vC,z,Zf,Ld]
  have u:Hid _:=z;clear z Y;go_enter func16,ntmps16;go_wp2_with fail;refine jA (by kernel_rfl) (by kernel_rfl) ?_;repeat (go_big_quiet_step (first|(go_at_call 41;apply jB;apply yC;exact u.out)))
  refine wpQuiet_nil ?_;rintro _ ⟨x,rfl⟩;go_wp2;go_ret;exact⟨kA E.out.symm,Q.out x⟩
 have Z:uA c 0 1000000000=true:=by simpa using z
 have u:Hid _:=Z;clear z;by_cases hC0:c<(xA d:Int)
 ·have E:Hid (vC d c p m s=false):=by
   show _=_;have e:decide ((xA d:Int)<=c)=false:=by simp;omega
   simp only[vC,e,Zf,Ld]
  clear Y Z;go_enter func16,ntmps16;go_wp2_with fail;refine jA (by kernel_rfl) (by kernel_rfl) ?_;repeat (go_big_quiet_step (first|(go_at_call 41;apply jB;apply yC;exact u.out)|(go_at_call 42;exact tA (kX _ _ _ _ _ _ _ _ _ (C.out _) HL.out J))))
  refine wpQuiet_nil ?_;rintro _ ⟨x,rfl⟩;go_wp2;go_ret;exact⟨kA E.out.symm,Q.out x⟩
 have hC1:decide (c<(xA d:Int))=false:=by simp;omega
 have qC:decide ((xA d:Int)<=c)=true:=by simp;omega
 have E:Hid (vC d c p m s=(yF d&&uA p 0 1000000000000000&&uA m 0 1000000000000000&&uA s 0 1000000000000000)):=by show _=_;simp only[vC,Y,Z,qC,Nc,Bool.and_true]
 clear Y Z qC;go_enter func16,ntmps16;go_wp2_with fail;refine jA (by kernel_rfl) (by kernel_rfl) ?_;repeat (go_big_quiet_step (first|(go_at_call 41;apply jB;apply yC;exact u.out)|(go_at_call 42;exact tA (kX _ _ _ _ _ _ _ _ _ (C.out _) HL.out J))))
 refine wpQuiet_nil ?_;rintro _ ⟨x,rfl⟩;have HF:Hid (iA x.w' a d):=C.out x;have R:Hid (Below w.heap.size w x.w'):=Q.out x;have n:w.heap.size<x.w'.heap.size:=by have:=x.h.size;simp at this;omega
 have e0:=d0 x;have S:=d2 x;have e3:=d3 x;have e4:=d4 x;clear d0 d1 d2 d3 d4 d5 C Q hne u;generalize x.w'=W at *;clear x;have HC:Hid (∀wr,Below W.heap.size W wr->wr.cell? ⟨w.heap.size,0,none⟩=some (.slice a d.length r)/\wr.cell? ⟨w.heap.size,2,none⟩=some (.int .i64 p)/\
  wr.cell? ⟨w.heap.size,3,none⟩=some (.int .i64 m)/\wr.cell? ⟨w.heap.size,4,none⟩=some (.int .i64 s)):=fun wr h=>
  ⟨(h.cell n).trans e0,(h.cell n).trans S,(h.cell n).trans e3,(h.cell n).trans e4⟩
 go_wp2;go_loopw [3,4,25] (fun _ _ i wr=>∃k:Nat,k<=d.length/\i=.int .i64 k/\dR d k=true/\Below W.heap.size W wr) (fun _ _ i _=>d.length-(intOf i).toNat)
 case atStart=>exact⟨0,Ha _,rfl,rfl,Below.refl _ _⟩
 case round=>
  obtain⟨k,hk,rfl,T,g⟩:=hrel;obtain⟨e0',e2',e3',e4'⟩:=HC.out wr g;have L:Hid _:=T;have t:Hid _:=R.out.trans (g.mono (Ke n));have M:w.heap.size<wr.heap.size:=by have:=g.size;omega
  have hsz2:¬w.heap.size=wr.heap.size:=by omega
  clear T e0 S e3 e4 R HC;by_cases l:k<d.length
  ·obtain⟨b,o,rfl,hb,c0,c1,c2⟩:=(HF.out.later g).at l;have U:=(HS.out k l).1;have hsd:=(HS.out k l).2;have y:Hid _:=U;unfold maxLen at hsd;clear U;by_cases O:wF d[k].name=false
   ·have f:eT d k=false:=by simp[eT,Ka l,wL,O]
    have D:Hid _:=rX f l;have HN:Hid _:=O;clear f O;go_wp2_with(first|(go_at_call 43;refine(cH HN.out _ y.out).mono ?_;rintro e q ⟨rfl,rfl⟩));go_ret;exact⟨kA (by rw[E.out,yF,D.out];simp),t.out.alloc (Ke M) _⟩
   ·have H:wF d[k].name=true:=by simpa using O
    have HN:Hid _:=H;by_cases A:uA d[k].y9 0 d[k].data.size=false
    ·have f:eT d k=false:=by simp[eT,Ka l,wL,A]
     have D:Hid _:=rX f l;have v:Hid _:=A;clear f O H A;go_wp2_with(first|(go_at_call 43;refine(cH HN.out _ y.out).mono ?_;rintro e q ⟨rfl,rfl⟩)|(go_at_call 41;refine(yC v.out _).mono ?_;rintro e q ⟨rfl,rfl⟩));go_ret;exact⟨kA (by rw[E.out,yF,D.out];simp),t.out.alloc (Ke M) _⟩
    ·have B:uA d[k].y9 0 d[k].data.size=true:=by simpa using A
     have v:Hid _:=B;have G:wL d[k]=true:=by simp[wL,H,B]
     clear O H A B;by_cases hk0:(0:Int)<k
     ·obtain⟨b2,o2,S,q1,c0',q2,q3⟩:=(HF.out.later g).at (i:=k-1) (by omega)
      simp only[Ja,Addr.mk.injEq,Ub]at S;obtain⟨rfl,rfl⟩:=S;have f:eT d k=Op.bytesLess d[k-1].name.toList d[k].name.toList:=by
       obtain⟨j,rfl⟩:∃j,k=j+1:=⟨k-1,by omega⟩
       simp[eT,Ka l,Ka (show j<d.length by omega),G]
      generalize d[k-1].name=gn at c0' f;have hk1:0<k:=by omega
      clear q1 q2 q3 G;by_cases hl:Op.bytesLess gn.toList d[k].name.toList=true
      ·have D:Hid (dR d (k+1)=true):=by show dR d (k+1)=true;rw[sY,L.out,f,hl];rfl
       clear f;go_wp2_with(first|(go_at_call 43;refine(cH HN.out _ y.out).mono ?_;rintro e q ⟨rfl,rfl⟩)|(go_at_call 41;refine(yC v.out _).mono ?_;rintro e q ⟨rfl,rfl⟩));go_quiet (fail)
       go_wp2;exact⟨⟨k+1,by omega,by go_num,D.out,below_drewN (g.alloc g.size _) _⟩,by simp[intOf];omega⟩
      ·have hl':Op.bytesLess gn.toList d[k].name.toList=false:=by simpa using hl
       have D:Hid _:=rX (by rw[f];exact hl') l;clear f hl;go_wp2_with(first|(go_at_call 43;refine(cH HN.out _ y.out).mono ?_;rintro e q ⟨rfl,rfl⟩)|(go_at_call 41;refine(yC v.out _).mono ?_;rintro e q ⟨rfl,rfl⟩));go_quiet (fail)
       go_wp2;go_ret;exact⟨kA (by rw[E.out,yF,D.out];simp),below_drewN (t.out.alloc (Ke M) _) _⟩
     ·have f:eT d k=true:=by
       obtain rfl:k=0:=by omega
       simp[eT,Ka l,G]
      have D:Hid (dR d (k+1)=true):=by show dR d (k+1)=true;rw[sY,L.out,f];rfl
      have hk1:decide (0<k)=false:=by simp;omega
      clear f G;go_wp2_with(first|(go_at_call 43;refine(cH HN.out _ y.out).mono ?_;rintro e q ⟨rfl,rfl⟩)|(go_at_call 41;refine(yC v.out _).mono ?_;rintro e q ⟨rfl,rfl⟩));go_quiet (fail)
      go_wp2;exact⟨⟨k+1,by omega,by go_num,D.out,below_drewN (g.alloc g.size _) _⟩,by simp[intOf];omega⟩
  ·have ek:k=d.length:=by omega
   have E2:Hid (vC d c p m s=(uA p 0 1000000000000000&&uA m 0 1000000000000000&&uA s 0 1000000000000000)):=by
    show _=_;have:=L.out;rw[ek]at this;rw[E.out,yF,this,Nc]
   by_cases V:uA p 0 1000000000000000=false
   ·have K:Hid _:=V;clear V;go_wp2_with(first|(go_at_call 41;refine(yC K.out _).mono ?_;rintro e q ⟨rfl,rfl⟩));go_ret;exact⟨kA (by rw[E2.out,K.out];rfl),t.out⟩
   have K:Hid (uA p 0 1000000000000000=true):=by show _=_;simpa using V
   clear V;by_cases X:uA m 0 1000000000000000=false
   ·have P:Hid _:=X;clear X;go_wp2_with fail;refine(yC K.out _).mono ?_;rintro e q ⟨rfl,rfl⟩;go_wp2_with fail;refine(yC P.out _).mono ?_;rintro e q ⟨rfl,rfl⟩;go_wp2;go_ret;exact⟨kA (by rw[E2.out,K.out,P.out];rfl),t.out⟩
   have P:Hid (uA m 0 1000000000000000=true):=by show _=_;simpa using X
   clear X;go_wp2_with fail;refine(yC K.out _).mono ?_;rintro e q ⟨rfl,rfl⟩;go_wp2_with fail;refine(yC P.out _).mono ?_;rintro e q ⟨rfl,rfl⟩;go_wp2_with fail;refine(fD _ _ _ _).mono ?_;rintro e q ⟨rfl,rfl⟩;go_wp2;go_ret;exact⟨kA (by rw[E2.out,K.out,P.out];rfl),t.out⟩
theorem gI {a:Option Addr} {cap:Nat} {d:List dA} {c k i j:Int} {dn b:Bool} (h:vC d c k i j=b) (w:World) (l:iA w a d) (m:mK d) (f:d.length<=maxLen) (g:xA d<=1000000000):
 Calls prog 16 #[.agg #[.slice a d.length cap,.int .i64 c,.int .i64 k,.int .i64 i,.int .i64 j,.bool dn]] w fun e n=>e=.returned (.bool b)/\Below w.heap.size w n:=h ▸ rZ a cap d c k i j dn w l m f g
theorem dD {a:List dA} {c k b d:Int} (h:vC a c k b d=true):yF a=true/\a.length<=1000/\0<=c/\c<=1000000000/\(xA a:Int)<=c/\0<=k/\k<=1000000000000000/\0<=b/\b<=1000000000000000/\0<=d/\d<=1000000000000000:=by
 simp only[vC,uA,Na,Ya]at h;obtain⟨⟨⟨⟨⟨⟨g,i⟩,j,l⟩,m⟩,n,o⟩,p,q⟩,e,f⟩:=h;exact⟨i,g,j,l,m,n,o,p,q,e,f⟩
theorem gL {D:Array Oper} {d:List Oper} {o:Oper} {a:Act} {Q:Exit->Act->World->Prop} {w:World} (r:o.guard=none) (s x:Operand) {m T:TypeId} {z:Value} {j b:Nat}
 (K:o.op=.call { callee:=.builtin .append,args:=#[s,x],argTypes:=#[m,m] }) (N:prog.underlying m=some (.slice T)) (y:(prog.info? T).map (fun i=>(i.zero,i.size,i.bytes))=some (some z,j,b)) (P:z.cells.size=j) (E:0<j) (G:b<=100)
 {B n:Nat} {v:Value} {A:List Value} {cs:Array Value} (M:a.eval s=v) (C:w.ownsRow B T j v n A) {p:Nat} (O:a.eval x=.slice (some ⟨p,0,none⟩) 1 1) (L:w.heap.size=p) (H:cs.size=j) (F:∀u∈cs.toList,u.oneCell'=true) (J:n<=5000000) (V:B<=w.heap.size)
 (h:∀g c l,Hid (l.ownsRow B T j (.slice (some ⟨g,0,none⟩) (n+1) c) (n+1) (A++cs.toList))->Hid (gA (fun i=>B<=i/\v.ownBlock=some i) w l)->Hid (v.ownBlock=some g\/w.heap.size<=g)->wpList prog D Q d (a.put o.dst (.slice (some ⟨g,0,none⟩) (n+1) c)) l):
 wpList prog D Q (o::d) a (w.alloc (.cells cs T)):=by
 subst L;obtain⟨i,y,R,S,U⟩:=info_parts y;have I:(n+1)*b<=140737488355328:=Ma (Wg (Nat.add_le_add_right J 1) G) (by decide);refine wpList_append_lies _ r s x _ K B T i z j b N y R S U P E v n A M (World.ownsRow.alloc C _) ⟨w.heap.size,0,none⟩ 1 1 cs.toList O (by simpa using H) (by
  have:=World.news_of_block (cs:=cs) (t:=T) (fr:=(0,0)) (heap_alloc_new w (.cells cs T));simpa using this) F (by omega) (by simp[maxLen];omega) I (by simp;omega) (w.heap.size+1) (by simp) ?_
 intro g c l k f q _;exact h g c l k ((gA.of (cA w (.cells cs T))).trans' ((gA.grown f).mono fun i _ e=>⟨(C.lt i e).1,e⟩)) (q.imp_right fun e=>by rw[e];simp)
theorem bW {m:Array Oper} {c:List Oper} {o:Oper} {a:Act} {Q:Exit->Act->World->Prop} {w:World} (l:o.guard=none) (s x:Operand) {j T:TypeId} {z:Value} {d e:Nat}
 (F:o.op=.call { callee:=.builtin .append,args:=#[s,x],argTypes:=#[j,j] }) (J:prog.underlying j=some (.slice T)) (C:(prog.info? T).map (fun i=>(i.zero,i.size,i.bytes))=some (some z,d,e)) (L:z.cells.size=d) (r:0<d) (A:e<=100)
 {B n:Nat} {v:Value} {q:List Value} {cs:Array Value} (I:a.eval s=v) (H:w.ownsRow B T d v n q) {p:Nat} (K:a.eval x=.slice (some ⟨p,0,none⟩) 1 1) (G:w.heap.size=p) (D:cs.size=d) (k:∀u∈cs.toList,u.oneCell'=true) (E:n<=5000000) (y:B<=w.heap.size)
 (h:∀g b f,Hid (f.ownsRow B T d (.slice (some ⟨g,0,none⟩) (n+1) b) (n+1) (q++cs.toList))->Hid (gA (fun i=>B<=i/\v.ownBlock=some i) w f)->wpList prog m Q c (a.put o.dst (.slice (some ⟨g,0,none⟩) (n+1) b)) f):
 wpList prog m Q (o::c) a (w.alloc (.cells cs T)):=
 gL l s x F J C L r A I H K G D k E y fun g b f k t _=>h g b f k t
theorem fC {P:Program} {f:FuncId} {args:Array Value} {w:World} {E:Ending} {Q:Ending->World->Prop} (h:Calls P f args w fun e a=>e=E/\a=w) (k:Q E w):Calls P f args w Q:=h.mono (by rintro _ _ ⟨rfl,rfl⟩;exact k)
theorem UM {w b:World} {g:Nat} {c d e f:Value} (h:b.heap[g]?=w.heap[g]?) (q:w.cell? ⟨g,0,none⟩=some c/\w.cell? ⟨g,1,none⟩=some d/\w.cell? ⟨g,2,none⟩=some e/\w.cell? ⟨g,3,none⟩=some f):b.cell? ⟨g,0,none⟩=some c/\b.cell? ⟨g,1,none⟩=some d/\b.cell? ⟨g,2,none⟩=some e/\b.cell? ⟨g,3,none⟩=some f:=by
 simp only[World.cell?_of_block (a:=⟨g,_,none⟩) h];exact q
theorem bL {wr c:World} {N B n g:Nat} {t E:TypeId} {cs:Array Value} {h:List Value} {v a:Value} (k:lA wr N cs t) (f:gA (fun j=>B<=j/\v.ownBlock=some j) wr c) (d:c.ownsRow B E g a n h) (m:N<B) (i:Nat):
 lA (c.setCell ⟨N,i,none⟩ a) N (cs.setIfInBounds i a) t/\(c.setCell ⟨N,i,none⟩ a).ownsRow B E g a n h/\gA (fun j=>j=N\/B<=j/\v.ownBlock=some j) wr (c.setCell ⟨N,i,none⟩ a):=
 ⟨(f.blk k (fun e=>by omega)).set i a,((gA.refl (·=N) c).setCell (Ba rfl) i _).row d (fun b l e=>by have:=(d.lt b l).1;omega),(f.mono fun i _ e=>Ea e).trans' (((gA.refl (·=N) c).setCell (Ba rfl) i a).mono fun i _ e=>Ba e)⟩
theorem uN {V:Array Oper} {o:Oper} {a:Act} {K:Act->World->Prop} {Q:Exit->Act->World->Prop} {E:Prop} {w:World} (q:o.guard=none) (s x:Operand) {l T:TypeId} {z:Value} {f b:Nat}
 (J:o.op=.call { callee:=.builtin .append,args:=#[s,x],argTypes:=#[l,l] }) (N:prog.underlying l=some (.slice T)) (r:(prog.info? T).map (fun i=>(i.zero,i.size,i.bytes))=some (some z,f,b)) (P:z.cells.size=f) (C:0<f) (F:b<=100)
 {B n:Nat} {v:Value} {y:List Value} {cs:Array Value} (M:a.eval s=v) (A:w.ownsRow B T f v n y) {p:Nat} (O:a.eval x=.slice (some ⟨p,0,none⟩) 1 1) (L:w.heap.size=p) (G:cs.size=f) (D:∀u∈cs.toList,u.oneCell'=true) (I:n<=1000000000) (W:B<=w.heap.size)
 (h:∀g c k,Hid (k.ownsRow B T f (.slice (some ⟨g,0,none⟩) (n+1) c) (n+1) (y++cs.toList))->Hid (gA (fun i=>B<=i/\v.ownBlock=some i) w k)->Hid (v.ownBlock=some g\/w.heap.size<=g)->K (a.put o.dst (.slice (some ⟨g,0,none⟩) (n+1) c)) k):
 if Region.wanted o (yielded V a.tmps)=true then Oper.wp prog o a (w.alloc (.cells cs T)) K Q else E:=by
 subst L;obtain⟨i,r,R,S,U⟩:=info_parts r;have H:(n+1)*b<=140737488355328:=Ma (Wg (Nat.add_le_add_right I 1) F) (by decide);refine step_append_lies _ q s x _ J B T i z f b N r R S U P C v n y M (World.ownsRow.alloc A _) ⟨w.heap.size,0,none⟩ 1 1 cs.toList O (by simpa using G) (by
  have:=World.news_of_block (cs:=cs) (t:=T) (fr:=(0,0)) (heap_alloc_new w (.cells cs T));simpa using this) D (by omega) (by simp[maxLen];omega) H (by simp;omega) (w.heap.size+1) (by simp) ?_
 intro g c k j d m _;exact h g c k j ((gA.of (cA w (.cells cs T))).trans' ((gA.grown d).mono fun i _ e=>⟨(A.lt i e).1,e⟩)) (m.imp_right fun e=>by rw[e];simp)
theorem rU {Y:Array Oper} {o:Oper} {a:Act} {K:Act->World->Prop} {Q:Exit->Act->World->Prop} {E:Prop} {w:World} (v:o.guard=none) (s x:Operand) {p T:TypeId} {z:Value} {e d:Nat}
 (N:o.op=.call { callee:=.builtin .append,args:=#[s,x],argTypes:=#[p,p] }) (R:prog.underlying p=some (.slice T)) (y:(prog.info? T).map (fun i=>(i.zero,i.size,i.bytes))=some (some z,e,d)) (U:z.cells.size=e) (D:0<e) (J:d<=100)
 {B j n r:Nat} {A:List Value} (P:a.eval s=.slice (some ⟨j,0,none⟩) n r) (O:w.ownsRow B T e (.slice (some ⟨j,0,none⟩) n r) n A) {q:Option Addr} {m C:Nat} (b:List Value) (S:a.eval x=.slice q m C) (L:b.length=m*e) (l:dW w q m b) (t:∀u∈b,u.oneCell'=true) (M:n+m<=1000000000) (I:B<=w.heap.size)
 (h:∀g c f,f.ownsRow B T e (.slice (some ⟨g,0,none⟩) (n+m) c) (n+m) (A++b)->Below B w f->(∀k,k<w.heap.size->k≠j->f.heap[k]?=w.heap[k]?)->(g=j\/g=w.heap.size)->K (a.put o.dst (.slice (some ⟨g,0,none⟩) (n+m) c)) f):
 if Region.wanted o (yielded Y a.tmps)=true then Oper.wp prog o a w K Q else E:=by
 obtain⟨i,y,V,W,X⟩:=info_parts y;exact jP w v s x _ N B T i z e d R y V W X U D j n r A P O q m C b S L l t (by simp[maxLen];omega) (Ma (Wg M J) (by decide)) I fun g c f t F G _ H _=>h g c f t F G H
theorem zG {P:Program} {w:World} {b:Array Oper} {o:Oper} {a:Act} {K:Act->World->Prop} {Q:Exit->Act->World->Prop} {E:Prop} {f:FuncId} {args:Array Value} (c:o.guard=none) (i:(execOp a.eval o).run P w=.ok (.enter f args) w)
 (h:Calls P f args w (fun e d=>(∃v,e=.returned v/\K (a.put o.dst v) d)\/∃p,e=.panicked p/\Q (.panic p) a d)):if Region.wanted o (yielded b a.tmps)=true then Oper.wp P o a w K Q else E:=by
 have hw:Region.wanted o (yielded b a.tmps)=true:=by simp[Region.wanted,c]
 rw[Ga hw];unfold Oper.wp;rw[i];refine h.mono ?_;rintro e d (⟨v,rfl,g⟩|⟨p,rfl,g⟩)<;>exact g
theorem aR:(prog.info? 111).map (fun i=>(i.zero,i.size,i.bytes))=some (some (.agg #[.string ⟨#[]⟩,.int .i64 0]),2,24):=by kernel_rfl
theorem wT:(prog.info? 113).map (fun i=>(i.zero,i.size,i.bytes))=some (some (.agg #[.string ⟨#[]⟩,.int .i64 0]),2,24):=by kernel_rfl
theorem uI {W:World} {B:Nat} {e:TypeId} {b:Nat} {v:Value} {n:Nat} {i:List Value} (h:W.ownsRow B e b v n i):∃a c,v=.slice a n c:=by
 rcases h.2 with⟨rfl,rfl⟩|⟨g,d,f,rfl,_⟩
 ·exact⟨none,0,rfl⟩
 ·exact⟨_,_,rfl⟩
section
open Go.ChangeShapes Go.WideShapes Go.ChangeAt
theorem zg:prog.cellsOf 23=6:=by kernel_rfl
theorem qj:prog.cellsOf 3=1:=by kernel_rfl
theorem lr {H:Type} {f:TypeId×Value->H} {W:World} {r:Reach} {z:Nat} {v:Value} {d:DataW H} {p:List MemPlace} (B:Value.okWide prog W r z 23 v) (h:DataW.Trod f prog W 0 (fun _=>true) true 23 v d p):
 ∃c:nB,v=tE c:=by
 obtain⟨cs,rfl,b⟩:=okWide_struct underlying23 B;obtain⟨q,A⟩:=h;obtain⟨J,n,_,_,_,e,a⟩:=DataW.trod_struct underlying23 A;rw[zg]at b;obtain⟨l⟩:=cs;simp at b;match l,b with
 |[K,L,M,N,O,P],_=>
  match J,e with
  |[Q,R,S,T,U,V],_=>
   have s:=a 0 _ rfl;have t:=a 1 _ rfl;have u:=a 2 _ rfl;have w:=a 3 _ rfl;have x:=a 4 _ rfl;have y:=a 5 _ rfl;simp[Value.cells,qj]at s t u w x y;obtain⟨C,g,_,_⟩:=DataW.trod_int underlying3 s;obtain⟨D,i,_,_⟩:=DataW.trod_int underlying3 t;obtain⟨E,j,_,_⟩:=DataW.trod_int underlying3 u;obtain⟨F,k,_,_⟩:=DataW.trod_int underlying3 w;obtain⟨G,m,_,_⟩:=DataW.trod_int underlying3 x;obtain⟨I,o,_,_⟩:=DataW.trod_int underlying3 y;simp at g i j k m o;exact⟨⟨C,D,E,F,G,I⟩,by simp[tE,g,i,j,k,m,o]⟩
end
