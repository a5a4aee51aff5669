import Derived.Test.YtjpeimianeiegaaGreatDoorJ17
set_option maxRecDepth 100000
set_option maxHeartbeats 2000000
namespace Go.Proofs.YtjpeimianeiegaaGreatDoor
open Go.RowKit Tryz
theorem RN (f:dA) (left:Int) (w:World) (k:0<=left) (l:left<=1048576) (g:f.name.size<=maxLen) (d:f.data.size<=maxLen):
 Calls prog 40 #[.agg #[.string f.name,.string f.data,.int .i64 f.y9],.int .i64 left] w fun e h=>e=.returned (.int .i64 (szF left f))/\Below w.heap.size w h:=by
 unfold maxLen at g d;obtain⟨a,b,c⟩:=f;simp only at g d |-
 by_cases i:left-a.size<0
 ·have e:szF left ⟨a,b,c⟩= -1:=by unfold szF;rw[Ca];simp only;omega
  rw[e];go_enter func40,ntmps40;go_wp2;go_ret;exact⟨rfl,(Below.refl _ _).alloc (Da _) _⟩
 ·by_cases j:left-a.size-b.size<0
  ·have e:szF left ⟨a,b,c⟩= -1:=by unfold szF;rw[Ca];simp only;omega
   rw[e];go_enter func40,ntmps40;go_wp2;go_ret;exact⟨rfl,(Below.refl _ _).alloc (Da _) _⟩
  ·have e:szF left ⟨a,b,c⟩=left-a.size-b.size:=by unfold szF;rw[Ga];simp only;omega
   rw[e];go_enter func40,ntmps40;go_wp2;go_ret;exact⟨rfl,(Below.refl _ _).alloc (Da _) _⟩
theorem LG (a:Option Addr) (p:Nat) (c:List dA) (left:Int) (w:World) (D:0<=left) (F:left<=1048576) (q:iA w a c) (s:mK c) (n:c.length<=maxLen):
 Calls prog 14 #[.slice a c.length p,.int .i64 left] w fun e t=>e=.returned (.int .i64 (FP left c))/\Below w.heap.size w t:=by
 unfold maxLen at n;by_cases y:left-c.length<0
 ·have e:FP left c = -1:=by unfold FP;rw[Ca];omega
  rw[e];clear q s;go_enter func14,ntmps14;go_wp2;go_ret;exact⟨rfl,Below.refl _ _⟩
 ·have v:Hid (iA w a c):=q;have x:Hid (mK c):=s;clear q s;go_enter func14,ntmps14;go_wp2;go_loopw [1,5] (fun l i wr=>∃k:Nat,k<=c.length/\i=.int .i64 k/\(bulk (c.take k):Int)<=left-c.length/\l=.int .i64 (left-c.length-bulk (c.take k))/\Below w.heap.size w wr) (fun _ i _=>c.length-(intOf i).toNat)
  case atStart=>exact⟨0,Ha _,rfl,by simp[bulk];omega,by simp[bulk],Below.refl _ _⟩
  case round=>
   obtain⟨k,H,rfl,r,rfl,d⟩:=hrel;by_cases h:k<c.length
   ·obtain⟨b,o,rfl,G,A,y,B⟩:=(v.out.later d).at h;have f:=x.out k h;have j:=NJ c k h;have z:=YH c (k+1);by_cases C:((c[k].name.size+c[k].data.size:Nat):Int)<=left-c.length-bulk (c.take k)
    ·have e:szF (left-c.length-bulk (c.take k)) c[k]=left-c.length-bulk (c.take (k+1)):=by
      unfold szF;rw[Ga (by omega),j];omega
     have E:Hid _:=e;have m:(bulk (c.take (k+1)):Int)<=left-c.length:=by omega
     clear e j;go_wp2_with fail;refine(RN c[k] _ _ (by omega) (by omega) f.1 f.2).mono ?_;rintro e t ⟨rfl,g⟩;rw[E.out];go_wp2;exact⟨⟨k+1,by omega,by go_num,m,rfl,d.trans (g.mono d.size)⟩,by simp[intOf];omega⟩
    ·have e:szF (left-c.length-bulk (c.take k)) c[k]= -1:=by
      unfold szF;rw[Ca (by omega)]
     have E:Hid _:=e;have u:Hid (FP left c = -1):=by show FP left c = -1;unfold FP;rw[Ca (by omega)]
     clear e j;go_wp2_with fail;refine(RN c[k] _ _ (by omega) (by omega) f.1 f.2).mono ?_;rintro e t ⟨rfl,g⟩;rw[E.out];go_wp2;go_ret;exact⟨iC u.out.symm,d.trans (g.mono d.size)⟩
   ·go_wp2;go_ret;have e:c.take k=c:=Pa (by omega);rw[e]at r |-
    exact⟨iC (by unfold FP;rw[Ga (by omega)]),d⟩
theorem vg (a:Option Addr) (f:Nat) (b:List dA) (c k p r:Int) (q:Bool) (left:Int) (w:World) (l:0<=left) (m:left<=1048576) (n:iA w a b) (o:mK b) (d:b.length<=maxLen):
 Calls prog 4 #[.agg #[.slice a b.length f,.int .i64 c,.int .i64 k,.int .i64 p,.int .i64 r,.bool q],.int .i64 left] w fun e h=>e=.returned (.int .i64 (FP left b))/\Below w.heap.size w h:=by
 have i:Hid (iA w a b):=n;clear n;by_cases j:FP left b<0
 ·have E:Hid (FP left b = -1):=by show FP left b = -1;unfold FP at j |-;split at j<;>omega
  go_enter func4,ntmps4;go_wp2_with fail;refine(LG a f b left _ l m (i.out.later ((Below.refl _ _).alloc (Da _) _)) o d).mono ?_;rintro e h ⟨rfl,g⟩;go_wp2;go_ret;exact⟨iC E.out.symm,((Below.refl _ _).alloc (Da _) _).trans (g.mono (by simp))⟩
 ·go_enter func4,ntmps4;go_wp2_with fail;refine(LG a f b left _ l m (i.out.later ((Below.refl _ _).alloc (Da _) _)) o d).mono ?_;rintro e h ⟨rfl,g⟩;go_wp2;go_ret;exact⟨rfl,((Below.refl _ _).alloc (Da _) _).trans (g.mono (by simp))⟩
def xD (b a:Int) (t:eA):eA:=⟨t.name,t.l9,t.m9,t.s9.filter fun p=>decide (a-p.n<b)⟩
def sC (b a:Int) (c:List eA):List eA:=(c.map (xD b a)).filter fun t=>!bE t
theorem iI {b a:Int} {d:List eA} (h:yM b a d=true):∀t∈d,kP b a t=true:=fun t e=>by
 obtain⟨i,c,rfl⟩:=Gb e;have:=qO h c;rw[tU c,Na]at this;exact this.2
theorem EZ {b a:Int} {d:List fA} (h:aL b a d=true):∀x∈d,a-x.n<b/\0<=x.n/\x.n<=a:=fun x e=>by
 obtain⟨i,c,rfl⟩:=Gb e;have:=qO h c;rw[pU c]at this;simp only[Na,Ya,uA]at this;exact⟨this.2,this.1.2.1,this.1.2.2⟩
theorem wI {b a:Int} {t:eA} (h:kP b a t=true):kC t.name=true/\yL t.m9=true/\aL b a t.s9=true/\bE t=false:=by
 simp only[kP,Na]at h;obtain⟨⟨⟨⟨c,_⟩,d⟩,e⟩,f⟩:=h;exact⟨c,d,e,by simpa using f⟩
theorem qY {b a:Int} {t:eA} (h:∀x∈t.s9,a-x.n<b):xD b a t=t:=by
 unfold xD;rw[Cc.2 fun x c=>Rb (h x c)]
theorem ju {b a:Int} {c:List eA} (h:yM b a c=true):sC b a c=c:=by
 have e:c.map (xD b a)=c:=by
  have:∀t∈c,xD b a t=id t:=fun t d=>qY fun x f=>(EZ (wI (iI h t d)).2.2.1 x f).1;rw[Se this,List.map_id]
 unfold sC;rw[e];exact Cc.2 fun t d=>by rw[(wI (iI h t d)).2.2.2];rfl
theorem PQ {f d:Int} {i:List eA} (h:yM f d i=true) (y:vB (·.name) i) {t:eA} (z:∀x∈t.s9,d-x.n<f):
 sC f d (qA (·.name) t i)=if bE t=true then tD (·.name) t.name i else qA (·.name) t i:=by
 have v:∀q∈qA (·.name) t i,xD f d q=id q:=fun q a=>by
  rcases tI a with rfl|a
  ·exact qY z
  ·exact qY fun x A=>(EZ (wI (iI h q a)).2.2.1 x A).1
 have s:(qA (·.name) t i).map (xD f d)=qA (·.name) t i:=by rw[Se v,List.map_id]
 have g:=fun q a=>(wI (iI h q a)).2.2.2;unfold sC;rw[s];by_cases k:bE t=true
 ·rw[Ga k];clear h s v z;induction i with
  |nil=>simp[qA,k,tD]
  |cons p r B=>
   have o:=B y.tail (fun q a=>g q (Za _ a));have w:=g p (Lb ..);have c:(r.filter fun t=>!bE t)=r:=Cc.2 fun q a=>by rw[g q (Za _ a)];rfl
   rw[qA];by_cases l:uH p.name t.name=true
   ·rw[Ga l,Ec (by rw[w];rfl),o];unfold tD;rw[Ec (by rw[mC (bH l)];rfl)]
   ·rw[Ca l];have j:∀q∈r,q.name≠t.name:=fun q a e=>by
     have u:=y.head q a;rw[e]at u;exact l u
    have b:tD (·.name) t.name r=r:=Cc.2 fun q a=>by rw[mC (j q a)];rfl
    by_cases m:p.name=t.name
    ·rw[Ga ((xC _ _).2 m),Jc (by simp[k]),c];unfold tD at b |-
     rw[Jc (by simp[m]),b]
    ·rw[Ca (by rw[mC m];simp),Jc (by simp[k]),Ec (by rw[w];rfl),c];unfold tD at b |-
     rw[Ec (by rw[mC m];rfl),b]
 ·rw[Ca k];refine Cc.2 fun q a=>?_;rcases tI a with rfl|a
  ·simpa using k
  ·rw[g q a];rfl
theorem DF {α:Type} {key:α->ByteArray} {a:α} {l:List α} (h:vB key l):(qA key a l).length=if (zB key (key a) l).isSome=true then l.length else l.length+1:=by
 induction l with
 |nil=>simp[qA,zB]
 |cons p r j=>
  have f:=j h.tail;rw[qA,yQ];by_cases c:uH (key p) (key a)=true
  ·rw[Ga c,Ca (bH c),Sa,f];split<;>simp
  ·rw[Ca c];by_cases d:key p=key a
   ·rw[Ga ((xC _ _).2 d),Ga d];simp
   ·have b:zB key (key a) r=none:=vK fun q i e=>by
     have g:=h.head q i;rw[e]at g;exact c g
    rw[Ca (by rw[mC d];simp),Ca d,b];simp
def RZ (c:nB) (a:Int) (d:List eA) (b:Int):Int×List eA×Bool:=
 if iB c a d=false then(0,[],false) else if b<1\/1000000000000-a<b then(a,d,false) else(a+b,sC c.w (a+b) d,true)
def jG (t:eA) (a:ByteArray) (b:Int):eA:=
 if a.toList.isEmpty=true then⟨t.name,b,t.m9,t.s9⟩ else⟨t.name,t.l9,if b<0 then tD (·.s) a t.m9 else qA (·.s) ⟨a,b⟩ t.m9,t.s9⟩
def uY (c:nB) (e:Int) (f:List eA) (b a:ByteArray) (d:Int):Int×List eA×Bool:=
 if iB c e f=false then(0,[],false)
 else if (kC b&&(a.toList.isEmpty||lE a) &&uA d (-1) 1000000)=false then(e,f,false)
 else if 10000<(sC c.w e (qA (·.name) (jG (dB f b) a d) f)).length then(e,f,false)
 else(e,sC c.w e (qA (·.name) (jG (dB f b) a d) f),true)
section
open Go.Maps Go.ChangeMaps
def qG (n:Int):DataW Unit:=.lit (.int .i64 n)
def eE (g:Nat):DataW Unit:=.lit (.int .i64 (g:Int))
def kD:Value->Option (DataW Unit×List MemPlace)
 |.pointer (some ⟨g,0,none⟩)=>some (eE g,[])
 |.pointer none=>some (.nil,[])
 |_=>none
theorem rV (g:Nat):kD (.pointer (some ⟨g,0,none⟩))=some (eE g,[]):=rfl
theorem vJ:Keyed prog 9:=string_keyed underlying9
theorem sK {s:ByteArray} (h:s.size<=maxLen):keyOf prog 9 (.string s)=some (kL s):=WideMaps.keyOf_string_mk underlying9 h
theorem SA {H:Type} {P:Program} {w:World} {k:TypeId} {R:Value->Option (DataW H×List MemPlace)} {b n:Nat} {D:DataW H} (h:w.ownsMap P k R b n D):w.ownsMap P k R b (Maps.size D) D:=by
 obtain⟨c,a,d,F,e,rfl⟩:=h;refine⟨c,a,d,F,?_,rfl⟩;rw[size_eq,length_sorted,Ua,Og];exact Da _
structure qP (w:World) (S:Nat→Prop) (x:Nat) (t:eA) (M lm sm cm:Nat) (iv:Value) (Q:List (fA×Nat)) (hs:List gG) (D:DataW Unit):Prop where
 blk:lA w x #[.int .i64 t.l9,.map (some lm),.map (some sm),.map (some cm),iv] 187
 lims:w.ownsMap prog 9 (plainElem prog 3) lm t.m9.length (oC (t.m9.map fun p=>(p.s,qG p.n)))
 s9:w.ownsMap prog 9 kD sm Q.length (oC (Q.map fun q=>(q.1.s,eE q.2)))
 cnts:w.ownsMap prog 9 (plainElem prog 3) cm M D
 cnt:∀m:ByteArray,D.atKey (kL m) (qG 0)=qG (pH tC t.s9 m)
 q1:Q.map (·.1)=t.s9
 cells:∀q∈Q,lA w q.2 #[.string q.1.s,.int .i64 q.1.n] 113
 row:w.ownsRow 0 320 2 iv hs.length (mI hs)
 heap:kJ hs
 perm:(hs.map (·.b)).Perm (Q.map (·.2))
 early:∀h∈hs,∀q∈Q,q.2=h.b→h.t≤q.1.n
 rm:vB (·.s) t.m9
 rs:vB (·.s) t.s9
 sx:S x
 sl:S lm
 ss:S sm
 sc:S cm
 sq:∀q∈Q,S q.2
 si:∀g,iv.ownBlock=some g→S g
 d1:lm≠sm
 d2:lm≠cm
 d3:sm≠cm
 nd:(Q.map (·.2)).Nodup
 dx:∀q∈Q,q.2≠x
 di:∀g,iv.ownBlock=some g→g≠x∧∀q∈Q,q.2≠g
def lC (w:World) (S:Nat->Prop) (x:Nat) (t:eA) (M:Nat):Prop:=∃d e a c Q b D,qP w S x t M d e a c Q b D
theorem az {w:World} {B:Nat} {e:TypeId} {a:Nat} {v:Value} {n:Nat} {i:List Value} (h:w.ownsRow B e a v n i):∀g,v.ownBlock=some g->g<w.heap.size:=by
 intro g b;rcases h.2 with⟨rfl,_⟩|⟨j,c,d,rfl,_,f,_⟩
 ·cases b
 ·simp only[Value.ownBlock,Ja]at b;subst b;exact aA f
theorem qP.keep {w w':World} {S S':Nat->Prop} {x:Nat} {t:eA} {M u v m:Nat} {s:Value} {Q:List (fA×Nat)} {f:List gG} {D:DataW Unit} (h:qP w S x t M u v m s Q f D)
 (c:∀g,g<w.heap.size->S g->w'.heap[g]?=w.heap[g]?/\S' g):qP w' S' x t M u v m s Q f D:=by
 have p:∀{R:Value->Option (DataW Unit×List MemPlace)} {b n:Nat} {E:DataW Unit},w.ownsMap prog 9 R b n E->S b->w'.ownsMap prog 9 R b n E:=fun {R b n E} h f=>by
  have o:=h.lt;obtain⟨A,d,i,r⟩:=h;exact⟨A,d,(c b o f).1.trans i,r⟩
 have i:∀{g:Nat} {a:Array Value} {y:TypeId},lA w g a y->S g->lA w' g a y:=fun {g a y} h f=>(c g (aA h) f).1.trans h;exact { h with
  blk:=i h.blk h.sx
  lims:=p h.lims h.sl
  s9:=p h.s9 h.ss
  cnts:=p h.cnts h.sc
  cells:=fun q k=>i (h.cells q k) (h.sq q k)
  row:=by
   refine⟨h.row.1,?_⟩;rcases h.row.2 with B|⟨g,l,a,e,C,j,r⟩
   ·exact Ba B
   ·have:s.ownBlock=some g:=by rw[e];rfl
    exact Ea ⟨g,l,a,e,C,i j (h.si g this),r⟩
  sx:=(c x (aA h.blk) h.sx).2
  sl:=(c u h.lims.lt h.sl).2
  ss:=(c v h.s9.lt h.ss).2
  sc:=(c m h.cnts.lt h.sc).2
  sq:=fun q k=>(c q.2 (aA (h.cells q k)) (h.sq q k)).2
  si:=fun g z=>(c g (az h.row g z) (h.si g z)).2}
theorem lC.keep {w w':World} {S S':Nat->Prop} {x:Nat} {t:eA} {M:Nat} (h:lC w S x t M) (b:∀g,g<w.heap.size->S g->w'.heap[g]?=w.heap[g]?/\S' g):lC w' S' x t M:=by
 obtain⟨e,f,a,d,Q,c,D,h⟩:=h;exact⟨e,f,a,d,Q,c,D,h.keep b⟩
theorem lC.later {w a:World} {S:Nat->Prop} {x:Nat} {t:eA} {M:Nat} (h:lC w S x t M) (b:Below w.heap.size w a):lC a S x t M:=h.keep fun g c d=>⟨b.block g c,d⟩
theorem lC.lt {w:World} {S:Nat->Prop} {x:Nat} {t:eA} {M:Nat} (h:lC w S x t M):x<w.heap.size:=by
 obtain⟨d,e,a,c,Q,b,D,h⟩:=h;exact aA h.blk
theorem lC.mono {w:World} {S:Nat->Prop} {x:Nat} {t:eA} {M a:Nat} (h:lC w S x t M) (c:M<=a):lC w S x t a:=by
 obtain⟨f,g,b,e,Q,d,D,h⟩:=h;exact⟨f,g,b,e,Q,d,D,{ h with cnts:=h.cnts.mono c}⟩
theorem DY (a:Int) (n:ByteArray) (w:World):
 Calls prog 173 #[.int .i64 a] w fun e d=>∃x,e=.returned (.pointer (some ⟨x,0,none⟩))/\w.heap.size<=x/\lC d (fun g=>w.heap.size<=g) x ⟨n,a,[],[]⟩ 0/\Below w.heap.size w d:=by
 have f:=@run_makeMap prog;go_enter func173,ntmps173;go_wp2;go_ret;refine⟨w.heap.size+1+1+1,rfl,by omega,⟨w.heap.size,w.heap.size+1,w.heap.size+1+1,.slice none 0 0,[],[],.map [],?_⟩,pA (pA (pA (cA _ _) (cA _ _)) (cA _ _)) (cA _ _)⟩;have j:∀R:Value->Option (DataW Unit×List MemPlace),(w.alloc (.map #[] 0)).ownsMap prog 9 R w.heap.size 0 (.map []):=fun R=>World.ownsMap_made w _ _ R;have k:∀R:Value->Option (DataW Unit×List MemPlace),((w.alloc (.map #[] 0)).alloc (.map #[] 0)).ownsMap prog 9 R (w.heap.size+1) 0 (.map []):=fun R=>by have:=World.ownsMap_made (w.alloc (.map #[] 0)) prog 9 R;simpa using this
 have l:∀R:Value->Option (DataW Unit×List MemPlace),(((w.alloc (.map #[] 0)).alloc (.map #[] 0)).alloc (.map #[] 0)).ownsMap prog 9 R (w.heap.size+1+1) 0 (.map []):=fun R=>by have:=World.ownsMap_made ((w.alloc (.map #[] 0)).alloc (.map #[] 0)) prog 9 R;simpa using this
 exact {
  blk:=by have:=lA.new (((w.alloc (.map #[] 0)).alloc (.map #[] 0)).alloc (.map #[] 0)) #[.int .i64 a,.map (some w.heap.size),.map (some (w.heap.size+1)),.map (some (w.heap.size+1+1)),.slice none 0 0] 187;simpa using this
  lims:=(((j _).alloc _).alloc _).alloc _
  s9:=((k _).alloc _).alloc _
  cnts:=(l _).alloc _
  cnt:=fun m=>rfl
  q1:=rfl
  cells:=fun q b=>by cases b
  row:=World.ownsRow_nil _ _ _ _
  heap:=fun i _ h=>by simp at h
  perm:=Kf _
  early:=fun h hh=>by cases hh
  rm:=Kd
  rs:=Kd
  sx:=by show w.heap.size<=_;omega
  sl:=Da _
  ss:=by show w.heap.size<=_;omega
  sc:=by show w.heap.size<=_;omega
  sq:=fun q b=>by cases b
  si:=fun g c=>by cases c
  d1:=by omega
  d2:=by omega
  d3:=by omega
  nd:=List.nodup_nil
  dx:=fun q b=>by cases b
  di:=fun g c=>by cases c}
theorem PA (x:Nat) (t:eA) (S:Nat->Prop) (M:Nat) (w:World) (h:lC w S x t M):
 Calls prog 176 #[.pointer (some ⟨x,0,none⟩)] w fun e k=>e=.returned (.bool (bE t))/\k=w:=by
 obtain⟨g,j,o,q,Q,p,D,h⟩:=h;have l:w.cell? ⟨x,0,none⟩=some (.int .i64 t.l9):=h.blk.cell 0;have m:w.cell? ⟨x,1,none⟩=some (.map (some g)):=h.blk.cell 1;have n:w.cell? ⟨x,2,none⟩=some (.map (some j)):=h.blk.cell 2;have f:=h.lims.len underlying181 3;have d:=h.s9.len underlying182 3;rw[fL]at f d;have c:Q.length=t.s9.length:=by rw[<-h.q1,Ua]
 rw[c]at d;clear h c;have E:Hid (bE t=(t.l9==-1&&t.m9.length==0&&t.s9.length==0)):=rfl;generalize t.m9.length=i at *;generalize t.s9.length=r at *;generalize t.l9=L at *;by_cases a:L = -1
 ·by_cases b:i=0
  ·go_enter func176,ntmps176;go_wp2;go_ret;exact⟨kA (by rw[E.out,a,b];rw[Nb];simp),rfl⟩
  ·go_enter func176,ntmps176;go_wp2;go_ret;exact⟨kA (by rw[E.out,a];rw[Nb];simp[b]),rfl⟩
 ·go_enter func176,ntmps176;go_wp2;go_ret;exact⟨kA (by rw[E.out];rw[Nb];simp[a]),rfl⟩
end
def RB (w:World) (B:Nat) (r:Rd):Prop:=lA w B #[.string r.rest,.bool r.r9] 210
theorem ov (B:Nat) (r:Rd) (n:Nat) (w:World) (c:RB w B r) (o:n<=70000) (j:r.rest.size<=1000000000):
 Calls prog 163 #[.pointer (some ⟨B,0,none⟩),.int .i64 (n:Nat)] w fun e f=>e=.returned (.string (wB n r).1)/\RB f B (wB n r).2/\eD B w f:=by
 have d:Hid (RB w B r):=c;have g:=lA.cell c 0;have i:=lA.cell c 1;simp only[Xb,Kb,Fa]at g i;have k:=lA.free c 0;have l:=lA.free c 1;obtain⟨a,b⟩:=r;simp only at g i j;clear c;by_cases h:a.size<n
 ·have E:Hid (wB n ⟨a,b⟩=(ByteArray.empty,⟨a,true⟩)):=by show _=_;unfold wB;rw[Ga h]
  rw[E.out];go_enter func163,ntmps163;go_wp2;go_ret;exact⟨rfl,lA.set d.out 1 (.bool true),(eD.refl _ _).setCell _ _⟩
 ·have E:Hid (wB n ⟨a,b⟩=(a.extract 0 n,⟨a.extract n a.size,b⟩)):=by show _=_;unfold wB;rw[Ca h]
  have m:¬((a.size:Int)<(n:Int)):=by omega
  rw[E.out];go_enter func163,ntmps163;go_wp2;go_ret;exact⟨rfl,lA.set d.out 0 (.string (a.extract n a.size)),(eD.refl _ _).setCell _ _⟩
theorem QP (B:Nat) (r:Rd) (k:Nat) (w:World) (f:RB w B r) (l:k<=2) (i:r.rest.size<=1000000000):
 Calls prog 210 #[.pointer (some ⟨B,0,none⟩),.int .i64 (k:Nat)] w fun e a=>e=.returned (.int .i64 ((gB k r).1:Nat))/\RB a B (gB k r).2/\eD B w a:=by
 have d:Hid (Calls prog 163 #[.pointer (some ⟨B,0,none⟩),.int .i64 (k:Nat)] w fun e a=>e=.returned (.string (wB k r).1)/\RB a B (wB k r).2/\eD B w a):=ov B r k w f (by omega) i;have HN:Hid (∀W,Calls prog 241 #[.string (wB k r).1] W fun e a=>e=.returned (.int .i64 (mL (wB k r).1.data.toList:Nat))/\a=W):=fun W=>gX _ W (by have:=(eJ k r).1;omega);show Calls _ _ _ _ fun e a=>e=.returned (.int .i64 (mL (wB k r).1.data.toList:Nat))/\RB a B (wB k r).2/\eD B w a;clear f;generalize mL (wB k r).1.data.toList=N at *;generalize (wB k r).1=T at *;generalize (wB k r).2=j at *;go_enter func210,ntmps210;go_wp2_with fail;refine d.out.mono ?_;rintro e g ⟨rfl,c,b⟩;have h:Hid (RB g B j/\eD B w g):=⟨c,b⟩
 clear c b d;go_wp2_with fail;refine(HN.out _).mono ?_;rintro e m ⟨rfl,hw⟩;replace hw:=hw.symm;subst hw;go_wp2;go_ret;exact⟨rfl,h.out⟩
theorem pa (B:Nat) (r:Rd) (k:Nat) (w:World) (l:RB w B r) (m:k<=2) (t:r.rest.size<=1000000000):
 Calls prog 225 #[.pointer (some ⟨B,0,none⟩),.int .i64 (k:Nat)] w fun e a=>e=.returned (.string (yA k r).1)/\RB a B (yA k r).2/\eD B w a:=by
 have j:Hid (Calls prog 210 #[.pointer (some ⟨B,0,none⟩),.int .i64 (k:Nat)] w fun e a=>e=.returned (.int .i64 ((gB k r).1:Nat))/\RB a B (gB k r).2/\eD B w a):=QP B r k w l m t;have s:(gB k r).1<65536:=by
  have x:=dT k r;have y:256 ^ k<=256 ^ 2:=Zb (by omega) m;omega
 have g:(gB k r).2.rest.size<=1000000000:=by
  have:=(eJ k r).2.2;show(wB k r).2.rest.size<=_;omega
 have q:Hid (∀W,RB W B (gB k r).2->Calls prog 163 #[.pointer (some ⟨B,0,none⟩),.int .i64 ((gB k r).1:Nat)] W fun e a=>e=.returned (.string (yA k r).1)/\RB a B (yA k r).2/\eD B W a):=fun W h=>ov B _ _ W h (by omega) g;clear l;generalize (yA k r).1=T at *;generalize (yA k r).2=u at *;generalize (gB k r).1=N at *;generalize (gB k r).2=v at *;go_enter func225,ntmps225;go_wp2_with fail;refine j.out.mono ?_;rintro e n ⟨rfl,d,b⟩;have i:Hid (RB n B v/\eD B w n):=⟨d,b⟩
 clear d b j;go_wp2_with fail;refine(q.out _ i.out.1).mono ?_;rintro e o ⟨rfl,f,c⟩;have p:Hid (RB o B u/\eD B w o):=⟨f,i.out.2.trans c⟩
 clear f c;go_wp2;go_ret;exact⟨rfl,p.out⟩
theorem nc {w f:World} {B base:Nat} {e:TypeId} {a:Nat} {v:Value} {n:Nat} {i:List Value} (h:w.ownsRow base e a v n i) (k:eD B w f) (o:B<base):f.ownsRow base e a v n i:=by
 obtain⟨j,d⟩:=h;refine⟨j,?_⟩;rcases d with d|⟨g,b,c,m,l,hh,r⟩
 ·exact Ba d
 ·exact Ea ⟨g,b,c,m,l,(k.block g (aA hh) (by omega)).trans hh,r⟩
theorem eD.alloc {B:Nat} {w a:World} (h:eD B w a) (o:Obj):eD B w (a.alloc o):=h.trans (eD.of (cA _ _))
def aDx (a:List eB):Prop:=∀i (h:i<a.length),a[i].name.size<=1000000000/\a[i].value.size<=1000000000
def xF (a:List eB):Nat×Nat:=
 if 16<a.length then(40,0) else match nC a 0 with
 |some (c,i)=>(c,i)
 |none=>match nE [] a 0 with
  |some i=>(45,i)
  |none=>if ((iJ a).toList==ByteArray.empty.toList)=true then(46,0) else(0,0)
theorem xz {a b c d:Nat} (e:a=c) (f:b=d):Ending.returned (.tuple #[.int .i64 (a:Nat),.int .i64 (b:Nat)])=.returned (.tuple #[.int .i64 (c:Nat),.int .i64 (d:Nat)]):=by rw[e,f]
theorem ON {a:List eB} (h:16<a.length):xF a=(40,0):=by unfold xF;rw[Ga h]
theorem VB {a:List eB} (h:¬16<a.length) {c i:Nat} (b:nC a 0=some (c,i)):xF a=(c,i):=by unfold xF;rw[Ca h,b]
theorem JX {a:List eB} (h:¬16<a.length) (b:nC a 0=none) {i:Nat} (c:nE [] a 0=some i):xF a=(45,i):=by unfold xF;rw[Ca h,b,c]
theorem VC {a:List eB} (h:¬16<a.length) (b:nC a 0=none) (c:nE [] a 0=none):xF a=if ((iJ a).toList==ByteArray.empty.toList)=true then(46,0) else(0,0):=by unfold xF;rw[Ca h,b,c]
theorem ia (a:Option Addr) (g:Nat) (c:List eB) (w:World) (hf:gE w a c) (Y:aDx c) (t:c.length<=2000000) (a0:c.length<=g) (Z:dF w):
 Calls prog 291 #[.slice a c.length g] w fun e n=>e=.returned (.tuple #[.int .i64 ((xF c).1:Nat),.int .i64 ((xF c).2:Nat)])/\Below w.heap.size w n:=by
 have L:Hid (gE w a c):=hf;have HB:Hid (aDx c):=Y;have X:Hid (dF w):=Z;clear hf Y Z;by_cases J:16<c.length
 ·rw[ON J];go_enter func291,ntmps291;go_wp2;go_ret2;exact⟨rfl,Below.refl _ _⟩
 have v:Hid (¬16<c.length):=J;go_enter func291,ntmps291;go_wp2;go_loopw [4,5,6,14] (fun _ _ _ i wr=>∃k:Nat,k<=c.length/\i=.int .i64 k/\Hid (nC c 0=nC (c.drop k) k)/\Below w.heap.size w wr) (fun _ _ _ i _=>c.length-(intOf i).toNat)
 case atStart=>exact⟨0,Ha _,rfl,rfl,Below.refl _ _⟩
 case round=>
  obtain⟨k,hk,rfl,s,d⟩:=hrel;by_cases j:k<c.length
  ·obtain⟨b,o,rfl,N,c0,c1⟩:=(L.out.later d).at j;obtain⟨A,B⟩:=HB.out k j;have y:Hid _:=fun W h=>SY c[k] W A B h;have q:=gZ c k j;by_cases I:lX c[k]=0
   ·have E:Hid (nC c 0=nC (c.drop (k+1)) (k+1)):=by show _=_;rw[s.out,q,Ga I]
    have H:Hid (∀W,dF W->Calls prog 294 #[.agg #[.string c[k].name,.string c[k].value]] W fun e n=>e=.returned (.int .i64 0)/\Below W.heap.size W n):=by
     show ∀_,_;have:=y.out;rw[I]at this;exact this
    clear q y I A B;generalize c[k].name=r at *;generalize c[k].value=C at *;go_wp2_with fail;refine(H.out _ ((X.out.later d).later (cA _ _))).mono ?_;rintro e T ⟨rfl,f⟩;have l:Hid _:=pA (pA d (cA _ _)) f;clear f;go_wp2;exact⟨⟨k+1,by omega,by go_num,E.out,l.out⟩,by simp[intOf];omega⟩
   ·have E:Hid _:=VB v.out (by rw[s.out,q,Ca I]);have h0b:((lX c[k]:Int) != 0)=true:=by simp;omega
    clear q I A B;generalize lX c[k]=V at *;generalize c[k].name=r at *;generalize c[k].value=C at *;go_wp2_with fail;refine(y.out _ ((X.out.later d).later (cA _ _))).mono ?_;rintro e T ⟨rfl,f⟩;have l:Hid _:=pA (pA d (cA _ _)) f;clear f;go_wp2;go_ret2;exact⟨xz (by rw[E.out]) (by rw[E.out]),l.out⟩
  ·have HN:Hid (nC c 0=none):=by
    show _=_;rw[s.out,Pb (by omega)];rfl
   clear s;go_wp2;clear j hk;go_loopw [7,8,28] (fun _ _ i wr=>∃k:Nat,k<=c.length/\i=.int .i64 k/\Hid (nE [] c 0=nE (c.take k) (c.drop k) k)/\Below w.heap.size w wr) (fun _ _ i _=>c.length-(intOf i).toNat)
   case atStart=>exact⟨0,Ha _,rfl,rfl,d⟩
   case round=>
    clear d;obtain⟨k,hk,rfl,s,d⟩:=hrel;by_cases j:k<c.length
    ·obtain⟨b,o,rfl,N,c0,c1⟩:=(L.out.later d).at j;have q:=CQ c k j;have K:tS wr b o c:=by
      rcases L.out.later d with h|⟨b',o',e,_,h⟩
      ·rw[h]at j;exact absurd j (by simp)
      ·simp only[Ja,Addr.mk.injEq,Ub]at e;obtain⟨rfl,rfl⟩:=e;exact h
     have p:Hid (∀W,Below wr.heap.size wr W->Calls prog 295 #[.slice (some ⟨b,o,none⟩) k g,.string c[k].name] W fun e n=>e=.returned (.bool ((c.take k).any fun x=>nR x c[k]))/\Below W.heap.size W n):=fun W R=>by
      have h2:tS W b o c:=fun i hi=>by
       have:=K i hi;exact⟨(R.cell N).trans this.1,(R.cell N).trans this.2⟩
      exact ip b o k g c c[k].name W (Ab N R.size) h2 (by omega) t
     have hk0:(0:Int)<=(k:Int):=by omega
     have hkc:(k:Int)<=(g:Int):=by omega
     clear K;by_cases D:((c.take k).any fun x=>nR x c[k])=true
     ·have E:Hid _:=JX v.out HN.out (by rw[s.out,q,Ga D]);have m:Hid (∀W,Below wr.heap.size wr W->Calls prog 295 #[.slice (some ⟨b,o,none⟩) k g,.string c[k].name] W fun e n=>e=.returned (.bool true)/\Below W.heap.size W n):=by
       show ∀_,_;have:=p.out;rw[D]at this;exact this
      clear q p D;generalize c[k].name=r at *;generalize c[k].value=C at *;have Q:∀x:oA (wr.alloc (.cells #[.string r,.string C] 199)),x.w'.cell? ⟨wr.heap.size,0,none⟩=some (.string r):=oA.cells (by simp);have z:=oA.there (wr.alloc (.cells #[.string r,.string C] 199));go_wp2_with fail;refine jA (by kernel_rfl) (by kernel_rfl) ?_;repeat (go_big_quiet_step (first|(go_at_call 295;exact tA (m.out _ (pA (cA _ _) (oA.h _))))))
      refine wpQuiet_nil ?_;rintro _ ⟨x,rfl⟩;have P:Hid _:=pA (pA d (cA _ _)) x.h;clear Q z;generalize x.w'=W at *;clear x;go_wp2;go_ret2;exact⟨xz (by rw[E.out]) (by rw[E.out]),P.out⟩
     ·have E:Hid (nE [] c 0=nE (c.take (k+1)) (c.drop (k+1)) (k+1)):=by show _=_;rw[s.out,q,Ca D]
      have m:Hid (∀W,Below wr.heap.size wr W->Calls prog 295 #[.slice (some ⟨b,o,none⟩) k g,.string c[k].name] W fun e n=>e=.returned (.bool false)/\Below W.heap.size W n):=by
       show ∀_,_;have h1:((c.take k).any fun x=>nR x c[k])=false:=by simpa using D
       have:=p.out;rw[h1]at this;exact this
      clear q p D;generalize c[k].name=r at *;generalize c[k].value=C at *;have Q:∀x:oA (wr.alloc (.cells #[.string r,.string C] 199)),x.w'.cell? ⟨wr.heap.size,0,none⟩=some (.string r):=oA.cells (by simp);have z:=oA.there (wr.alloc (.cells #[.string r,.string C] 199));go_wp2_with fail;refine jA (by kernel_rfl) (by kernel_rfl) ?_;repeat (go_big_quiet_step (first|(go_at_call 295;exact tA (m.out _ (pA (cA _ _) (oA.h _))))))
      refine wpQuiet_nil ?_;rintro _ ⟨x,rfl⟩;have P:Hid _:=pA (pA d (cA _ _)) x.h;clear Q z;generalize x.w'=W at *;clear x;go_wp2;exact⟨⟨k+1,by omega,by go_num,E.out,P.out⟩,by simp[intOf];omega⟩
    ·have O:Hid (nE [] c 0=none):=by
      show _=_;rw[s.out,Pb (by omega)];rfl
     have U:Hid (Calls prog 247 #[.slice a c.length g] wr fun e n=>e=.returned (.string (iJ c))/\Below wr.heap.size wr n):=DR a g c wr (L.out.later d) t;have E:=VC v.out HN.out O.out;have G:Hid (ByteArray.empty.toList=[]):=by show _=_;rw[ByteArray.toList_eq];rfl
     generalize iJ c=M at *;by_cases u:(M.toList==ByteArray.empty.toList)=true
     ·have F:Hid (xF c=(46,0)):=by show _=_;rw[E,Ga u]
      have S:M.toList.isEmpty=true:=by rw[G.out]at u;simpa using u
      clear u E;go_wp2_with fail;refine U.out.mono ?_;rintro e T ⟨rfl,f⟩;have l:Hid _:=pA d f;clear f;go_wp2;go_ret2;exact⟨xz (by rw[F.out]) (by rw[F.out]),l.out⟩
     ·have F:Hid (xF c=(0,0)):=by show _=_;rw[E,Ca u]
      have S:M.toList.isEmpty=false:=by rw[G.out]at u;simpa using u
      clear u E;go_wp2_with fail;refine U.out.mono ?_;rintro e T ⟨rfl,f⟩;have l:Hid _:=pA d f;clear f;go_wp2;go_ret2;exact⟨xz (by rw[F.out]) (by rw[F.out]),l.out⟩
section
open Go.Sort
def cfL (x y:eB):Int:=vW x.name y.name
theorem ltL (x y:eB):ltOf cfL x y=wK x y:=by
 unfold ltOf cfL vW wK;split
 ·rename_i h;rw[h];rfl
 ·rename_i h;have a:Op.bytesLess x.name.toList y.name.toList=false:=by simpa using h
  rw[a];split<;>rfl
theorem aQi:SWO (ltOf cfL) where
 irrefl x:=by rw[ltL];exact rE _
 trans x y z h1 h2:=by rw[ltL]at *;exact dH _ _ _ h1 h2
 ntrans x y z h1 h2:=by rw[ltL]at *;exact QD (x:=z) (y:=y) (z:=x) h2 h1
theorem uw (x y:eB) (W:World):Calls prog 293 #[.agg #[.string x.name,.string x.value],.agg #[.string y.name,.string y.value]] W fun e c=>e=.returned (.int .i64 (cfL x y))/\∃q b,c=grow (W.drewN q) b:=by
 have a:=fun d=>JN x.name y.name d;unfold cfL;generalize vW x.name y.name=r at a |-
 go_enter func293,ntmps293;go_wp2_with(go_at_call 126;refine(a _).mono ?_;rintro e c ⟨rfl,rfl⟩);go_ret;exact⟨rfl,0,_,by rw[alloc_eq_grow,alloc_eq_grow,grow_grow];rfl⟩
section
variable [Inhabited eB]
theorem fm (blk b a:Nat) (w:World):CmpLays prog 293 #[] wQ 2 cfL blk b a w:=
 fun _ _ _ _ x y=>uw x y _
theorem uy {w:World} {g n:Nat} {a:Array Value} {t:TypeId} (h:lA w g a t) (d:Array eB) (e:Array Obj):∃b,lA (sortWorldK wQ 2 w g 0 n d e) g b t:=by
 have c:=aA h;refine⟨putCells id 0 (Go.Sort.flatK wQ 2 d) a,?_⟩;unfold lA sortWorldK putRowK putRow mapBlock;rw[heap_grow_old _ _ (by simpa[ahead]using c)];show(Array.modify w.heap g _)[g]?=_;rw[Array.getElem?_modify,Ga rfl];unfold lA at h;rw[h];rfl
theorem ux {w:World} {g n B:Nat} (b:B<=g) (c:g<w.heap.size) (d:Array eB) (a:Array Obj):Below B w (sortWorldK wQ 2 w g 0 n d a):=by
 refine⟨rfl,rfl,rfl,?_,fun k e=>?_⟩
 ·simp[sortWorldK,putRowK,putRow,mapBlock]
 ·unfold sortWorldK putRowK putRow mapBlock;rw[heap_grow_old _ _ (by simp;omega)];show(Array.modify w.heap g _)[k]?=_;rw[Array.getElem?_modify,Ca (by omega)]
theorem ir {w:World} {g:Nat} {c:Array Value} {t:TypeId} {b:List eB} (h:lA w g c t) (k:tS w g 0 b):HoldsK wQ 2 w g 0 b.toArray:=by
 intro j d;rw[size_flatK]at d;have a:j / 2<b.length:=by simp at d;omega
 refine⟨?_,h.free _⟩;rw[get_flatK _ _ _ _ d];have e:b.toArray[j / 2]! = b[j / 2]:=by simp[getElem!_pos,a]
 rw[e];have i:=k (j / 2) a;rcases Nat.mod_two_eq_zero_or_one j with f|f
 ·rw[f];have:=i.1;rw[show 0+j / 2*2=0+j by omega]at this;rw[this];rfl
 ·rw[f];have:=i.2;rw[show 0+j / 2*2+1=0+j by omega]at this;rw[this];rfl
theorem aLa {w:World} {g B:Nat} {b:Array Value} {t:TypeId} {d:Array eB} (h:lA w g b t) (l:B<=g) (k:HoldsK wQ 2 w g 0 d):iE w B (some ⟨g,0,none⟩) d.toList:=by
 refine Ea ⟨g,0,b,t,rfl,l,h,fun i m=>?_⟩;have a:i<d.size:=by simpa using m
 have f:=(k.cell (c:=0) a (by omega)).1;have j:=(k.cell (c:=1) a (by omega)).1;have e:d[i]! = d[i]:=getElem!_pos d i a;rw[e]at f j;rw[Kg];exact⟨f,j⟩
theorem ny {d:Array eB} (h:SortedIn (ltOf cfL) 0 d.size d):d.toList.Pairwise Le:=by
 rw[Sc];intro i j e c b;have a:j<d.size:=by simpa using c
 have:=h i j (Ha _) b a;rw[ltL,getElem!_pos d i (by omega),getElem!_pos d j a]at this;rw[Kg,Kg];exact this
theorem bg (g h:Nat) (a:List eB) (w:World) (B:Nat) (s:B<=g) {l:Array Value} {t:TypeId} (k:lA w g l t) (u:tS w g 0 a) (y:a.length<=2000000):
 Calls prog 292 #[.slice (some ⟨g,0,none⟩) a.length h,.func (.func 293) #[] #[]] w fun e q=>
  e=.returned (.tuple #[])/\∃f,f.Perm a/\f.Pairwise Le/\iE q B (some ⟨g,0,none⟩) f/\Below B w q:=by
 have D:∀args w,(callFunc 293 args).run prog w=.ok (.enter 293 args) w:=enters_of func293 (by kernel_rfl) rfl;have o:=aA k;have c:=AnyQ.slices_SortFunc sortL 2 isAgg199 sizeOf199 wQ (fun _=>rfl) (fun x v z=>by simp[wQ]at z;rcases z with rfl|rfl<;>rfl) cfL aQi 293 #[] g 0 h a.toArray w D (fm g 0 _ w) (ir k u) o (by simp;omega);change Calls prog 292 _ _ _ at c;refine c.mono ?_;rintro e q ⟨rfl,b,n,p,F,G,rfl⟩;obtain⟨d,_,i⟩:=F;obtain⟨r,m⟩:=uy (n:=n) k b p;have E:HoldsK wQ 2 (sortWorldK wQ 2 w g 0 n b p) g 0 b:=
  holdsK_grow wQ 2 _ _ _ _ _ (by simpa[putRowK,putRow,mapBlock,ahead]using o) (holdsK_putRowK wQ 2 _ _ _ a.toArray b (holdsK_ahead wQ 2 _ _ _ _ _ (ir k u)) d)
 have j:b.size=a.length:=by simpa using d
 refine⟨rfl,b.toList,?_,ny (by rw[j];simpa using G),aLa m s E,ux s o b p⟩;have A:b.extract 0 a.toArray.size=b:=by rw[<-d];simp
 have C:a.toArray.extract 0 a.toArray.size=a.toArray:=by simp
 rw[A,C]at i;exact i
end
end
theorem JW (b:List eB):((xF b).1=0->qB b=(zF [] b,0,0)/\LN b/\oV b=true/\(xF b).2=0/\¬16<b.length)/\((xF b).1≠0->qB b=([],(xF b).1,(xF b).2)):=by
 by_cases a:16<b.length
 ·rw[ON a,NO a];exact⟨fun h=>absurd h (by simp),fun _=>rfl⟩
 cases hb:nC b 0 with
 |some e=>
  obtain⟨c,i⟩:=e;rw[VB a hb,GS a hb];refine⟨fun h=>?_,fun _=>rfl⟩;exfalso;have:∀(l:List eB) (j:Nat),nC l j=some (c,i)->c≠0:=by
   intro l;induction l with
   |nil=>intro j h;simp[nC]at h
   |cons x r g=>
    intro j h;rw[nC]at h;split at h
    ·exact g _ h
    ·rename_i f;simp only[Ja,Hb]at h;rw[<-h.1];exact f
  exact this b 0 hb h
 |none=>
  cases ht:nE [] b 0 with
  |some i=>
   rw[JX a hb ht,JM a hb ht];exact⟨fun h=>absurd h (by simp),fun _=>rfl⟩
  |none=>
   have d:=aLh b ht;rw[VC a hb ht,ld b d];cases hm:oV b with
   |true=>
    rw[fe a hb ht hm];exact⟨fun _=>⟨rfl,d,rfl,rfl,a⟩,fun h=>absurd rfl h⟩
   |false=>
    rw[UK a hb ht hm];exact⟨fun h=>absurd h (by simp),fun _=>rfl⟩
theorem VO {b:List eB} (h:oV b=true):0<(tO b).length:=by
 unfold oV at h;rw[Dg]at h;obtain⟨x,c,a⟩:=h;rw[Na]at a;exact List.length_pos_of_mem (Ed.2 ⟨c,a.1⟩)
theorem SP (a:Option Addr) (m:Nat) (c:List eB) (w:World) (hf:gE w a c) (hB:aDx c) (X:c.length<=2000000) (V:c.length<=m) (hT:dF w):
 Calls prog 284 #[.slice a c.length m] w fun e D=>∃a' n,e=.returned (.tuple #[.slice a' (qB c).1.length n,.int .i64 ((qB c).2.1:Nat),.int .i64 ((qB c).2.2:Nat)])/\(qB c).1.length<=n/\iE D w.heap.size a' (qB c).1/\Below w.heap.size w D:=by
 have y:Hid (Calls prog 291 #[.slice a c.length m] w fun e D=>e=.returned (.tuple #[.int .i64 ((xF c).1:Nat),.int .i64 ((xF c).2:Nat)])/\Below w.heap.size w D):=ia a m c w hf hB X V hT;have HF:Hid (gE w a c):=hf;obtain⟨L,M⟩:=JW c;clear hf hB hT;by_cases S:(xF c).1=0
 ·obtain⟨r,Z,H,h2,h16⟩:=L S;have F:Hid (Calls prog 291 #[.slice a c.length m] w fun e D=>e=.returned (.tuple #[.int .i64 0,.int .i64 0])/\Below w.heap.size w D):=by
   show Calls _ _ _ _ _;have:=y.out;rw[S,h2]at this;exact this
  have j:Hid (qB c=(zF [] c,0,0)/\LN c/\0<(tO c).length):=⟨r,Z,VO H⟩
  obtain⟨ti,b0,hz0,hz1,hz2⟩:=jg;have HI:Hid _:=b0;clear L M S r Z H h2 y b0;go_enter func284,ntmps284;go_wp2_with fail;refine F.out.mono ?_;rintro e w1 ⟨rfl,p⟩;have K:Hid _:=p;clear p F;go_wp2;go_loopw [7,9,21] (fun out _ i wr=>∃(k:Nat) (d:List eB) (P:Option Addr) (u:Nat),k<=c.length/\d.length<=k/\Hid (d=tO (c.take k))/\i=.int .i64 k/\out=.slice P d.length u/\Hid (wr.ownsRow w.heap.size 199 2 (.slice P d.length u) d.length (lD d))/\Below w.heap.size w wr) (fun _ _ i _=>c.length-(intOf i).toNat)
  case atStart=>exact⟨0,[],none,0,Ha _,Ha _,rfl,rfl,rfl,⟨rfl,Ba ⟨rfl,rfl⟩⟩,K.out⟩
  case round=>
   obtain⟨k,d,P,u,hk,hy,HY,rfl,rfl,f,l⟩:=hrel;by_cases Y:k<c.length
   ·obtain⟨b,o,rfl,hb,c0,c1⟩:=(HF.out.later l).at Y;have HS:=rn c k Y;have hE:=jr c[k];have hsz:=l.size;by_cases s:dS c[k]=true
    ·have E:Hid (d=tO (c.take (k+1))):=by show _=_;rw[HS,Ga s,Dd];exact HY.out
     have heb:c[k].value.toList.isEmpty=true:=by rw[<-hE];exact s
     clear HS s hE;generalize c[k].name=nm at *;generalize c[k].value=va at *;go_wp2;exact⟨⟨k+1,d,P,u,by omega,by omega,E.out,by go_num,rfl,cB f.out (cA _ _),pA l (cA _ _)⟩,by simp[intOf];omega⟩
    ·have E:Hid (d++[c[k]]=tO (c.take (k+1))):=by show _=_;rw[HS,Ca s,HY.out]
     have heb:c[k].value.toList.isEmpty=false:=by rw[<-hE];simpa using s
     have HLK:Hid (lD [c[k]]=[.string c[k].name,.string c[k].value]):=rfl;clear HS s hE;generalize c[k]=lk at *;generalize lk.name=nm at *;generalize lk.value=va at *;have HW:Hid (∀x,Below wr.heap.size wr ((wr.alloc (.cells #[.string nm,.string va] 199)).alloc x)):=fun x=>pA (cA _ _) (cA _ _);go_wp2_with(at_builtin;refine wpList_append_lies _ rfl _ _ _ rfl w.heap.size 199 ti _ 2 32 underlying194 HI.out hz0 hz1 hz2 rfl (by omega) (.slice P d.length u) d.length (lD d) rfl (by exact cB f.out (HW.out _)) ⟨wr.heap.size+1,0,none⟩ 1 1 [.string nm,.string va] rfl rfl (by exact aCf _ _ #[.string nm,.string va] _) (by simp[Value.oneCell']) (by omega) (by simp[maxLen];omega) (by omega) (by simp;omega) (wr.heap.size+1+1) (by simp) ?_;intro g5 R w5 t A hat5 hlt5);have hB5:=(pA l (HW.out _)).grown A (by simp;omega) (fun q hq=>oI f.out q hq);have O:(d++[lk]).length=d.length+1:=by simp
     have hxs:lD d++[.string nm,.string va]=lD (d++[lk]):=by rw[tG,HLK.out]
     rw[hxs,<-O]at t;exact⟨⟨k+1,d++[lk],some ⟨g5,0,none⟩,R,by omega,by rw[O];omega,E.out,by go_num,by rw[O],t,hB5⟩,by simp[intOf];omega⟩
   ·have Q:Hid (d=tO c):=by show _=_;rw[HY.out,Pa (by omega)]
    have J:0<d.length:=by rw[Q.out];exact j.out.2.2
    have G:=uO f.out;obtain⟨g,z,hav,N,W,T,hcv⟩:∃g z,P=some ⟨g,0,none⟩/\w.heap.size<=g/\lA wr g z 199/\tS wr g 0 d/\d.length<=u:=by
     rcases f.out.2 with⟨_,hl⟩|⟨g,n,z,s,N,hg,hcc,_⟩
     ·omega
     ·simp only[Value.slice.injEq]at s;rcases G with h|⟨g',o',cur',t',e',_,_,hl⟩
      ·rw[h]at J;exact absurd J (by simp)
      ·rw[s.1]at e';simp only[Ja,Addr.mk.injEq,Ub]at e';obtain⟨rfl,rfl⟩:=e';exact⟨g,z,s.1,N,hg,hl,by rw[s.2.2];exact hcc⟩
    have HSC:Hid (Calls prog 292 #[.slice (some ⟨g,0,none⟩) d.length u,.func (.func 293) #[] #[]] wr fun e D=>
     e=.returned (.tuple #[])/\∃B,B.Perm d/\B.Pairwise Le/\iE D w.heap.size (some ⟨g,0,none⟩) B/\Below w.heap.size wr D):=haveI:=aOb;bg g u d wr w.heap.size N W T (by omega)
    subst hav;clear f G T W;go_wp2_with fail;refine HSC.out.mono ?_;rintro e w2 ⟨rfl,B,hp,hs,a0,U⟩;have E1:=aDn j.out.2.1 (by rw[<-Q.out];exact hp) hs;have EL:Hid (d.length=(zF [] c).length):=by show _=_;rw[<-E1,hp.length_eq]
    have HOW:Hid (iE w2 w.heap.size (some ⟨g,0,none⟩) (zF [] c)):=by rw[<-E1];exact a0
    have HB2:Hid _:=l.trans U;clear hp hs a0 U E1;go_wp2;refine bodyPost_ret (v:=.tuple #[.slice (some ⟨g,0,none⟩) d.length u,.int .i64 0,.int .i64 0]) (by simp[results,results284,go_sem]) rfl ⟨some ⟨g,0,none⟩,u,?_,?_,?_,HB2.out⟩
    ·rw[j.out.1,EL.out];rfl
    ·rw[j.out.1,<-EL.out];exact hcv
    ·rw[j.out.1];exact HOW.out
 ·have r:=M S;have j:Hid _:=r;have h0b:(((xF c).1:Int) != 0)=true:=by simp;omega
  clear L M S r;generalize (xF c).1=C at *;generalize (xF c).2=I at *;go_enter func284,ntmps284;go_wp2_with fail;refine y.out.mono ?_;rintro e w1 ⟨rfl,p⟩;have K:Hid _:=p;clear p y;go_wp2;refine bodyPost_ret (v:=.tuple #[.slice none 0 0,.int .i64 C,.int .i64 I]) (by simp[results,results284,go_sem]) rfl ⟨none,0,?_,?_,?_,K.out⟩
  ·rw[j.out];rfl
  ·rw[j.out];exact Da _
  ·rw[j.out];exact Ba rfl
theorem aLn (a b:Nat) (g:b<256) (f:a<72057594037927936):bits .or .i64 (IntKind.i64.wrap ((a:Int)*256)) (b:Int)=zA (a*256+b):=by
 have d:a*256||| b=a*256+b:=by
  have:=Ef (i:=8) (b:=b) (by omega) a;rw[show 2 ^ 8*a=a*256 by omega]at this;exact this.symm
 have c:BitVec.ofInt 64 (IntKind.i64.wrap ((a:Int)*256))=BitVec.ofNat 64 (a*256):=by
  have e:((a:Int)*256)=((a*256:Nat):Int):=by omega
  rw[e];apply BitVec.eq_of_toNat_eq;rw[BitVec.toNat_ofInt,Bc];unfold IntKind.wrap;simp only[IntKind.bits,IntKind.signed];simp;omega
 show IntKind.i64.wrap ((BitVec.ofInt 64 (IntKind.i64.wrap ((a:Int)*256)) ||| BitVec.ofInt 64 (b:Int)).toNat:Int)=_;rw[c,BitVec.toNat_or,Gc,Bc,Bc,Hc (by omega),Hc (by omega),d];rfl
theorem ZJ (s:ByteArray) (w:World) (o:s.size<=8):
 Calls prog 241 #[.string s] w fun e j=>e=.returned (.int .i64 (zA (mL s.data.toList)))/\j=w:=by
 go_enter func241,ntmps241;go_wp2;go_loopw [3,4,7] (fun x _ c wr=>∃(k X:Nat) (Z:Int),k<=s.size/\c=.int .i64 k/\x=.int .i64 Z/\X<256 ^ k/\Hid (X=mL (s.data.toList.take k))/\Hid (Z=zA X)/\wr=w) (fun _ _ c _=>s.size-(intOf c).toNat)
 case atStart=>exact⟨0,0,0,by omega,rfl,rfl,by simp,by show _=_;simp[mL],by show _=_;rw[pF (by omega)];rfl,rfl⟩
 case round=>
  obtain⟨k,X,Z,m,rfl,rfl,g,f,d,rfl⟩:=hrel;by_cases b:k<s.size
  ·have l:=(s[k]).toNat_lt;have h:X<72057594037927936:=Ab g (Zb (n:=256) (by omega) (show k<=7 by omega));have a:Z=(X:Int):=by rw[d.out,pF (by omega)]
   subst a;have i:=aLn X (s[k]).toNat (by omega) (by omega);go_wp2;refine⟨⟨k+1,X*256+(s[k]).toNat,zA (X*256+(s[k]).toNat),by omega,by go_num,?_,?_,?_,rfl,trivial⟩,by simp[intOf];omega⟩
   ·exact Zc (Value.int .i64) (by rw[<-i,IntKind.wrap_i64,wrap64])
   ·rw[Oc];omega
   ·show _=_;rw[oQ s k b,sW,<-f.out]
  ·have e:k=s.size:=by omega
   subst e;go_wp2;go_ret;refine⟨?_,rfl⟩;show Ending.returned (.int .i64 Z)=_;rw[d.out,f.out,Pa (by simp)]
def RT (w:World) (B:Nat) (r:Rd):Prop:=∃t,lA w B #[.string r.rest,.bool r.r9] t
theorem JC (B:Nat) (r:Rd) (n:Nat) (w:World) (c:RT w B r) (p:n<=70000) (k:r.rest.size<=1000000000):
 Calls prog 163 #[.pointer (some ⟨B,0,none⟩),.int .i64 (n:Nat)] w fun e g=>e=.returned (.string (wB n r).1)/\RT g B (wB n r).2/\eD B w g:=by
 obtain⟨d,c⟩:=c;have f:Hid (lA w B #[.string r.rest,.bool r.r9] d):=c;have i:=lA.cell c 0;have j:=lA.cell c 1;simp only[Xb,Kb,Fa]at i j;have l:=lA.free c 0;have m:=lA.free c 1;obtain⟨a,b⟩:=r;simp only at i j k;clear c;by_cases h:a.size<n
 ·have E:Hid (wB n ⟨a,b⟩=(ByteArray.empty,⟨a,true⟩)):=by show _=_;unfold wB;rw[Ga h]
  rw[E.out];go_enter func163,ntmps163;go_wp2;go_ret;exact⟨rfl,⟨d,lA.set f.out 1 (.bool true)⟩,(eD.refl _ _).setCell _ _⟩
 ·have E:Hid (wB n ⟨a,b⟩=(a.extract 0 n,⟨a.extract n a.size,b⟩)):=by show _=_;unfold wB;rw[Ca h]
  have o:¬((a.size:Int)<(n:Int)):=by omega
  rw[E.out];go_enter func163,ntmps163;go_wp2;go_ret;exact⟨rfl,⟨d,lA.set f.out 0 (.string (a.extract n a.size))⟩,(eD.refl _ _).setCell _ _⟩
theorem oX (B:Nat) (r:Rd) (k:Nat) (w:World) (f:RT w B r) (l:k<=8) (i:r.rest.size<=1000000000):
 Calls prog 210 #[.pointer (some ⟨B,0,none⟩),.int .i64 (k:Nat)] w fun e a=>e=.returned (.int .i64 (zA (gB k r).1))/\RT a B (gB k r).2/\eD B w a:=by
 have d:Hid (Calls prog 163 #[.pointer (some ⟨B,0,none⟩),.int .i64 (k:Nat)] w fun e a=>e=.returned (.string (wB k r).1)/\RT a B (wB k r).2/\eD B w a):=JC B r k w f (by omega) i;have HN:Hid (∀W,Calls prog 241 #[.string (wB k r).1] W fun e a=>e=.returned (.int .i64 (zA (mL (wB k r).1.data.toList)))/\a=W):=fun W=>ZJ _ W (by have:=(eJ k r).1;omega);show Calls _ _ _ _ fun e a=>e=.returned (.int .i64 (zA (mL (wB k r).1.data.toList)))/\RT a B (wB k r).2/\eD B w a;clear f;generalize mL (wB k r).1.data.toList=N at *;generalize (wB k r).1=T at *;generalize (wB k r).2=j at *;go_enter func210,ntmps210;go_wp2_with fail;refine d.out.mono ?_;rintro e g ⟨rfl,c,b⟩;have h:Hid (RT g B j/\eD B w g):=⟨c,b⟩
 clear c b d;go_wp2_with fail;refine(HN.out _).mono ?_;rintro e m ⟨rfl,hw⟩;replace hw:=hw.symm;subst hw;go_wp2;go_ret;exact⟨rfl,h.out⟩
theorem XR (B:Nat) (r:Rd) (k:Nat) (w:World) (l:RT w B r) (q:k<=2) (t:r.rest.size<=1000000000):
 Calls prog 225 #[.pointer (some ⟨B,0,none⟩),.int .i64 (k:Nat)] w fun e a=>e=.returned (.string (yA k r).1)/\RT a B (yA k r).2/\eD B w a:=by
 have g:Hid (Calls prog 210 #[.pointer (some ⟨B,0,none⟩),.int .i64 (k:Nat)] w fun e a=>e=.returned (.int .i64 (zA (gB k r).1))/\RT a B (gB k r).2/\eD B w a):=oX B r k w l (by omega) t;have s:(gB k r).1<65536:=by
  have x:=dT k r;have y:256 ^ k<=256 ^ 2:=Zb (by omega) q;omega
 have i:(gB k r).2.rest.size<=1000000000:=by
  have:=(eJ k r).2.2;show(wB k r).2.rest.size<=_;omega
 have p:Hid (∀W,RT W B (gB k r).2->Calls prog 163 #[.pointer (some ⟨B,0,none⟩),.int .i64 ((gB k r).1:Nat)] W fun e a=>e=.returned (.string (yA k r).1)/\RT a B (yA k r).2/\eD B W a):=fun W h=>JC B _ _ W h (by omega) i;rw[pF (by omega)]at g;clear l;generalize (yA k r).1=T at *;generalize (yA k r).2=u at *;generalize (gB k r).1=N at *;generalize (gB k r).2=v at *;go_enter func225,ntmps225;go_wp2_with fail;refine g.out.mono ?_;rintro e m ⟨rfl,d,b⟩;have j:Hid (RT m B v/\eD B w m):=⟨d,b⟩
 clear d b g;go_wp2_with fail;refine(p.out _ j.out.1).mono ?_;rintro e n ⟨rfl,f,c⟩;have o:Hid (RT n B u/\eD B w n):=⟨f,j.out.2.trans c⟩
 clear f c;go_wp2;go_ret;exact⟨rfl,o.out⟩
def yY:List PanicEntry:=[{ v:=.iface 139 (.string ⟨#[116,104,101,32,116,101,120,116,32,105,115,32,110,111,32,101,110,99,111,100,105,110,103]⟩),recovered:=false}]
theorem MQ (p:Value) (w:World):Calls prog 136 #[p,.bool true] w fun e a=>e=.returned (.tuple #[])/\a=w:=by
 go_enter func136,ntmps136;go_wp2;go_end0;exact⟨rfl,rfl⟩
theorem DU (p:Value) (w:World):Calls prog 136 #[p,.bool false] w fun e a=>e=.panicked yY/\a=w:=by
 go_enter func136,ntmps136;go_wp2;exact⟨rfl,rfl,rfl⟩
theorem aLk (B:Nat) (r:Rd) (k:Nat) (w:World) (i:RT w B r) (l:k<=8) (m:r.rest.size<=1000000000) (d:(gB k r).2.r9=false):
 Calls prog 164 #[.pointer (some ⟨B,0,none⟩),.int .i64 (k:Nat)] w fun e f=>e=.returned (.int .i64 (zA (gB k r).1))/\RT f B (gB k r).2/\eD B w f:=by
 have h:Hid (Calls prog 210 #[.pointer (some ⟨B,0,none⟩),.int .i64 (k:Nat)] w fun e f=>e=.returned (.int .i64 (zA (gB k r).1))/\RT f B (gB k r).2/\eD B w f):=oX B r k w i l m;clear i;generalize zA (gB k r).1=N at *;generalize (gB k r).2=n at *;go_enter func164,ntmps164;go_wp2_with fail;refine h.out.mono ?_;rintro e g ⟨rfl,c,b⟩;have j:Hid (RT g B n/\eD B w g):=⟨c,b⟩
 obtain⟨o,a⟩:=c;have q:g.cell? ⟨B,1,none⟩=some (.bool false):=(a.cell 1).trans (by rw[d];rfl);clear b a h d;go_wp2_with fail;refine(MQ _ _).mono ?_;rintro e p ⟨rfl,hw⟩;replace hw:=hw.symm;subst hw;go_wp2;go_ret;exact⟨rfl,j.out⟩
theorem aHe (B:Nat) (r:Rd) (k:Nat) (w:World) (i:RT w B r) (l:k<=8) (m:r.rest.size<=1000000000) (d:(gB k r).2.r9=true):
 Calls prog 164 #[.pointer (some ⟨B,0,none⟩),.int .i64 (k:Nat)] w fun e f=>e=.panicked yY/\eD B w f:=by
 have h:Hid (Calls prog 210 #[.pointer (some ⟨B,0,none⟩),.int .i64 (k:Nat)] w fun e f=>e=.returned (.int .i64 (zA (gB k r).1))/\RT f B (gB k r).2/\eD B w f):=oX B r k w i l m;clear i;generalize zA (gB k r).1=N at *;generalize (gB k r).2=n at *;go_enter func164,ntmps164;go_wp2_with fail;refine h.out.mono ?_;rintro e g ⟨rfl,c,b⟩;have j:Hid (RT g B n/\eD B w g):=⟨c,b⟩
 obtain⟨o,a⟩:=c;have q:g.cell? ⟨B,1,none⟩=some (.bool true):=(a.cell 1).trans (by rw[d];rfl);clear b a h d;go_wp2_with fail;refine(DU _ _).mono ?_;rintro e p ⟨rfl,hw⟩;replace hw:=hw.symm;subst hw;exact⟨rfl,rfl,j.out.2⟩
theorem aMl (B:Nat) (r:Rd) (k:Nat) (w:World) (i:RT w B r) (l:k<=2) (m:r.rest.size<=1000000000) (d:(yA k r).2.r9=false):
 Calls prog 181 #[.pointer (some ⟨B,0,none⟩),.int .i64 (k:Nat)] w fun e f=>e=.returned (.string (yA k r).1)/\RT f B (yA k r).2/\eD B w f:=by
 have h:Hid (Calls prog 225 #[.pointer (some ⟨B,0,none⟩),.int .i64 (k:Nat)] w fun e f=>e=.returned (.string (yA k r).1)/\RT f B (yA k r).2/\eD B w f):=XR B r k w i l m;clear i;generalize (yA k r).1=N at *;generalize (yA k r).2=n at *;go_enter func181,ntmps181;go_wp2_with fail;refine h.out.mono ?_;rintro e g ⟨rfl,c,b⟩;have j:Hid (RT g B n/\eD B w g):=⟨c,b⟩
 obtain⟨o,a⟩:=c;have q:g.cell? ⟨B,1,none⟩=some (.bool false):=(a.cell 1).trans (by rw[d];rfl);clear b a h d;go_wp2_with fail;refine(MQ _ _).mono ?_;rintro e p ⟨rfl,hw⟩;replace hw:=hw.symm;subst hw;go_wp2;go_ret;exact⟨rfl,j.out⟩
theorem aIr (B:Nat) (r:Rd) (k:Nat) (w:World) (i:RT w B r) (l:k<=2) (m:r.rest.size<=1000000000) (d:(yA k r).2.r9=true):
 Calls prog 181 #[.pointer (some ⟨B,0,none⟩),.int .i64 (k:Nat)] w fun e f=>e=.panicked yY/\eD B w f:=by
 have h:Hid (Calls prog 225 #[.pointer (some ⟨B,0,none⟩),.int .i64 (k:Nat)] w fun e f=>e=.returned (.string (yA k r).1)/\RT f B (yA k r).2/\eD B w f):=XR B r k w i l m;clear i;generalize (yA k r).1=N at *;generalize (yA k r).2=n at *;go_enter func181,ntmps181;go_wp2_with fail;refine h.out.mono ?_;rintro e g ⟨rfl,c,b⟩;have j:Hid (RT g B n/\eD B w g):=⟨c,b⟩
 obtain⟨o,a⟩:=c;have q:g.cell? ⟨B,1,none⟩=some (.bool true):=(a.cell 1).trans (by rw[d];rfl);clear b a h d;go_wp2_with fail;refine(DU _ _).mono ?_;rintro e p ⟨rfl,hw⟩;replace hw:=hw.symm;subst hw;exact⟨rfl,rfl,j.out.2⟩
theorem eZ (t:ByteArray):∀(a:List dA) (k:Nat),zD t a k = -1\/∃i,i<a.length/\zD t a k=(k+i:Nat)
 |[],_=>Ba rfl
 |f::r,k=>by
  rw[zD];split
  ·exact Ea ⟨0,by simp,by simp⟩
  ·rcases eZ t r (k+1) with h|⟨i,b,h⟩
   ·exact Ba h
   ·exact Ea ⟨i+1,by simp;omega,by rw[h];omega⟩
def fI (a:List dA) (b c:Bool) (t:ByteArray):ByteArray×Bool:=
 if b=true/\c=false then(match (if 0<=zD t a 0 then a[(zD t a 0).toNat]? else none) with
  |some f=>(f.data,true)
  |none=>(ByteArray.empty,false)) else(ByteArray.empty,false)
theorem FF (a:Option Addr) (j:Nat) (g:List dA) (c k l m:Int) (q:Bool) (t:ByteArray) (w:World) (hf:iA w a g) (hs:mK g) (r:g.length<=maxLen) (s:xA g<=1000000000):
 Calls prog 20 #[.agg #[.slice a g.length j,.int .i64 c,.int .i64 k,.int .i64 l,.int .i64 m,.bool q],.string t] w fun e R=>
  e=.returned (.tuple #[.string (fI g (vC g c k l m) q t).1,.bool (fI g (vC g c k l m) q t).2])/\Below w.heap.size w R:=by
 have n:Hid (iA w a g):=hf;have J:Hid (mK g):=hs;have G:Hid _:=r;have K:Hid _:=s;unfold maxLen at r;clear hf hs s;obtain⟨L,v⟩:∃L,vC g c k l m=L:=⟨_,rfl⟩
 have I:Hid _:=v;rw[v];clear v;obtain⟨z,P⟩:∃z,zD t g 0=z:=⟨_,rfl⟩
 have H:Hid _:=P;have x:=fun R h=>AQ a j g c k l m q t R h G.out;rw[P]at x;have p:Hid _:=x;clear x P;by_cases N:L=false
 ·subst N;have E:Hid (fI g false q t=(ByteArray.empty,false)):=by show _=_;simp[fI]
  go_enter func20,ntmps20;go_wp2_with fail;refine(p.out _ (n.out.later (cA _ _))).mono ?_;rintro e S ⟨rfl,d⟩;obtain⟨y,A,B,C,D,F⟩:=(bN.new w (.slice a g.length j) (.int .i64 c) (.int .i64 k) (.int .i64 l) (.int .i64 m) (.bool q) 30).later d;go_wp2_with fail;refine(gI I.out _ ((n.out.later (cA _ _)).later d) J.out G.out K.out).mono ?_;rintro e T ⟨rfl,f⟩;obtain⟨U,V,W,X,Y,Z⟩:=((bN.new w (.slice a g.length j) (.int .i64 c) (.int .i64 k) (.int .i64 l) (.int .i64 m) (.bool q) 30).later d).later f;have u:Hid _:=pA (pA (cA _ _) d) f;clear y A B C D F d f;go_wp2;go_ret2;exact⟨by rw[E.out];rfl,u.out⟩
 obtain rfl:L=true:=by simpa using N
 clear N;by_cases O:q=true
 ·subst O;have E:Hid (fI g true true t=(ByteArray.empty,false)):=by show _=_;simp[fI]
  go_enter func20,ntmps20;go_wp2_with fail;refine(p.out _ (n.out.later (cA _ _))).mono ?_;rintro e S ⟨rfl,d⟩;obtain⟨y,A,B,C,D,F⟩:=(bN.new w (.slice a g.length j) (.int .i64 c) (.int .i64 k) (.int .i64 l) (.int .i64 m) (.bool true) 30).later d;go_wp2_with fail;refine(gI I.out _ ((n.out.later (cA _ _)).later d) J.out G.out K.out).mono ?_;rintro e T ⟨rfl,f⟩;obtain⟨U,V,W,X,Y,Z⟩:=((bN.new w (.slice a g.length j) (.int .i64 c) (.int .i64 k) (.int .i64 l) (.int .i64 m) (.bool true) 30).later d).later f;have u:Hid _:=pA (pA (cA _ _) d) f;clear y A B C D F d f;go_wp2;go_ret2;exact⟨by rw[E.out];rfl,u.out⟩
 obtain rfl:q=false:=by simpa using O
 clear O;by_cases h3:z<0
 ·have E:Hid (fI g true false t=(ByteArray.empty,false)):=by
   show _=_;have e:¬0<=zD t g 0:=by rw[H.out];omega
   simp[fI,e]
  go_enter func20,ntmps20;go_wp2_with fail;refine(p.out _ (n.out.later (cA _ _))).mono ?_;rintro e S ⟨rfl,d⟩;obtain⟨y,A,B,C,D,F⟩:=(bN.new w (.slice a g.length j) (.int .i64 c) (.int .i64 k) (.int .i64 l) (.int .i64 m) (.bool false) 30).later d;go_wp2_with fail;refine(gI I.out _ ((n.out.later (cA _ _)).later d) J.out G.out K.out).mono ?_;rintro e T ⟨rfl,f⟩;obtain⟨U,V,W,X,Y,Z⟩:=((bN.new w (.slice a g.length j) (.int .i64 c) (.int .i64 k) (.int .i64 l) (.int .i64 m) (.bool false) 30).later d).later f;have u:Hid _:=pA (pA (cA _ _) d) f;clear y A B C D F d f;go_wp2;go_ret2;exact⟨by rw[E.out];rfl,u.out⟩
 obtain⟨i,M,Q⟩:∃i,i<g.length/\z=(i:Nat):=by
  rcases eZ t g 0 with h|⟨i,M,h⟩
  ·rw[H.out]at h;omega
  ·exact⟨i,M,by rw[<-H.out,h];simp⟩
 subst Q;have E:Hid (fI g true false t=(g[i].data,true)):=by
  show _=_;have e:0<=zD t g 0:=by rw[H.out];omega
  have e2:(zD t g 0).toNat=i:=by rw[H.out];simp
  simp[fI,e,e2,Ka M]
 have h4:=h3;clear h3;go_enter func20,ntmps20;go_wp2_with fail;refine(p.out _ (n.out.later (cA _ _))).mono ?_;rintro e S ⟨rfl,d⟩;obtain⟨y,A,B,C,D,F⟩:=(bN.new w (.slice a g.length j) (.int .i64 c) (.int .i64 k) (.int .i64 l) (.int .i64 m) (.bool false) 30).later d;go_wp2_with fail;refine(gI I.out _ ((n.out.later (cA _ _)).later d) J.out G.out K.out).mono ?_;rintro e T ⟨rfl,f⟩;obtain⟨U,V,W,X,Y,Z⟩:=((bN.new w (.slice a g.length j) (.int .i64 c) (.int .i64 k) (.int .i64 l) (.int .i64 m) (.bool false) 30).later d).later f;have u:Hid _:=pA (pA (cA _ _) d) f;obtain⟨b,o,rfl,hb,c0,c1,c2⟩:=(((n.out.later (cA _ _)).later d).later f).at M;clear y A B C D F d f;go_wp2;go_ret2;exact⟨by rw[E.out];rfl,u.out⟩
def jH (t:eA) (s:List eA×Bool) (p:eA):List eA×Bool:=
 (s.1++(if s.2=true then [] else if uH p.name t.name=true then [] else [t])++(if (p.name.toList==t.name.toList)=true then [] else [p]),if s.2=true then true else !uH p.name t.name)
def wU (t:eA) (b:Bool) (a:List eA):List eA×Bool:=a.foldl (jH t) ([],b)
def FY (t:eA) (b:Bool) (a:List eA):List eA:=(wU t b a).1++if (wU t b a).2=true then [] else [t]
theorem vm (t:eA) (b:Bool) (a:List eA) (k:Nat) (h:k<a.length):wU t b (a.take (k+1))=jH t (wU t b (a.take k)) a[k]:=by
 rw[La h,wU,List.foldl_append];rfl
theorem aDt (t:eA) (c:List eA):∀(a:List eA) (b:Bool),c.foldl (jH t) (a,b)=(a++(c.foldl (jH t) ([],b)).1,(c.foldl (jH t) ([],b)).2):=by
 induction c with
 |nil=>intro a b;simp
 |cons p r d=>
  intro a b;simp only[Wc];rw[d (jH t (a,b) p).1 (jH t (a,b) p).2,d (jH t ([],b) p).1 (jH t ([],b) p).2];simp[jH]
theorem JF (t p:eA) (r:List eA) (b:Bool):FY t b (p::r)=(jH t ([],b) p).1++FY t (jH t ([],b) p).2 r:=by
 unfold FY wU;rw[Wc,aDt t r (jH t ([],b) p).1 (jH t ([],b) p).2];simp
theorem sS {t:eA} {a:List eA} (h:∀p∈a,p.name≠t.name):FY t true a=a:=by
 induction a with
 |nil=>rfl
 |cons p r d=>
  rw[JF];have b:=mC (h p (Lb ..));simp only[jH,b,Lf,Jb];simp[d fun q c=>h q (Za _ c)]
theorem aJh {t:eA} {f:List eA} (j:vB (·.name) f):FY t false f=qA (·.name) t f:=by
 induction f with
 |nil=>rfl
 |cons p r l=>
  have h:=l j.tail;rw[JF,qA];by_cases c:uH p.name t.name=true
  ·have d:=mC (bH c);simp only[jH,c,d,Lf];simp[h]
  ·have b:uH p.name t.name=false:=by simpa using c
   have a:∀q∈r,q.name≠t.name:=fun q k e=>by
    have i:=j.head q k;rw[e]at i;exact c i
   by_cases d:p.name=t.name
   ·have g:=(xC _ _).2 d;simp only[jH,b,g,Lf];simp[sS a]
   ·have g:=mC d;simp only[jH,b,g];simp[sS a]
theorem aFu (win now : Int) (ts : List eA) (k : Nat) (h : k < ts.length) : sC win now (ts.take (k + 1)) = sC win now (ts.take k) ++ if bE (xD win now ts[k]) = true then [] else [xD win now ts[k]] := by
  rw [List.take_succ_eq_append_getElem h, sC, List.map_append, List.filter_append]
  congr 1
  by_cases e : bE (xD win now ts[k]) = true
  · rw [if_pos e]
    simp [e]
  · rw [if_neg e]
    simp [e]
theorem aNy (b a:Int) (c:List eA) (k:Nat):(sC b a (c.take k)).length<=c.length:=by
 unfold sC;have d:=Tb (fun t=>!bE t) ((c.take k).map (xD b a));rw[Ua,Ta]at d;omega
theorem aJi {t:eA} {b:Bool} {c:List eA} {q:eA} (h:q∈FY t b c):q=t\/q∈c:=by
 induction c generalizing b with
 |nil=>
  unfold FY wU at h;simp only[List.foldl_nil,Jb]at h;cases b with
  |true=>cases h
  |false=>exact Ba (by simpa using h)
 |cons p r e=>
  rw[JF,Ie]at h;rcases h with h|h
  ·unfold jH at h;simp only[Jb,Ie]at h;rcases h with h|h
   ·by_cases d:b=true
    ·rw[Ga d]at h;cases h
    ·rw[Ca d]at h;by_cases a:uH p.name t.name=true
     ·rw[Ga a]at h;cases h
     ·rw[Ca a]at h;exact Ba (by simpa using h)
   ·by_cases a:(p.name.toList==t.name.toList)=true
    ·rw[Ga a]at h;cases h
    ·rw[Ca a]at h;exact Ea (by simp at h;simp[h])
  ·rcases e h with h|h
   ·exact Ba h
   ·exact Ea (Za _ h)
