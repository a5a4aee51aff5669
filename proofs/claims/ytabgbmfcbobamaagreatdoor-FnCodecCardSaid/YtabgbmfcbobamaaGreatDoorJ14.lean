import Derived.Test.YtabgbmfcbobamaaGreatDoorJ12
import Derived.StillTail
import Derived.Test.YtabgbmfcbobamaaGreatDoorJ07
set_option maxRecDepth 100000
set_option maxHeartbeats 4000000
namespace Go.Proofs.YtabgbmfcbobamaaGreatDoor
open Go.RowKit Tryz
def tA (a:List dA) (name:ByteArray):dA:=(xC (·.name) name a).getD ⟨name,-1,[],[]⟩
def qG (a:List lA) (m:ByteArray) (d:Int):Int:=a.foldl (fun d p=>if p.s.toList==m.toList then p.n else d) d
theorem ZL (a:List lA) (m:ByteArray) (d:Int) (k:Nat) (h:k<a.length):qG (a.take (k+1)) m d=if a[k].s.toList==m.toList then a[k].n else qG (a.take k) m d:=by
 rw[Ma h,qG,Kf];rfl
theorem ZK {a:List lA} {m:ByteArray} (h:∀p∈a,p.s≠m) (d:Int):qG a m d=d:=by
 induction a generalizing d with
 |nil=>rfl
 |cons p r c=>
  rw[qG,Yd,Oa (by rw[dD (h p (Pb ..))];simp)];exact c (fun q b=>h q (Cb _ b)) d
theorem oq {a:List lA} (b:jC (·.s) a) (m:ByteArray) (d:Int):qG a m d=((xC (·.s) m a).map (·.n)).getD d:=by
 induction a generalizing d with
 |nil=>rfl
 |cons p r g=>
  rw[qG,Yd,rT];by_cases e:p.s=m
  ·rw[Qa ((wC _ _).2 e),Qa e];exact ZK (fun q f c=>yK (b.head q f) (e.trans c.symm)) _
  ·rw[Oa (by rw[dD e];simp),Oa e];exact g b.tail d
def qD (c:vB) (t:dA) (m:ByteArray):Int×Int:=
 if m.toList.isEmpty=true then((t.s9.length:Nat),if t.l9<0 then c.tl else t.l9) else((wN vD t.s9 m:Nat),qG t.m9 m c.ml)
def cF (c:vB) (b:Int) (d:List dA) (a m:ByteArray):Int×Int:=
 if (gB c b d&&yB a&&(m.toList.isEmpty||cE m))=true then qD c (tA d a) m else(-1,-1)
theorem lx (l:List lA) (m:ByteArray) (k:Nat) (h:k<l.length):wN vD (l.take (k+1)) m=wN vD (l.take k) m+if (vD l[k].s).toList==m.toList then 1 else 0:=by
 rw[Ma h,wN,wN,Cf,Za];congr 1;cases hb:(vD l[k].s).toList==m.toList<;>simp[hb]
theorem lZ {α:Type} {a:α->ByteArray} {l:List α} {k:ByteArray}:∀(n:Nat),(∀j (_:j<n) (d:j<l.length),a l[j]≠k)->xC a k l=xC a k (l.drop n)
 |0,_=>by simp
 |n+1,h=>by
  rw[lZ n (fun j e b=>h j (by omega) b)];by_cases c:n<l.length
  ·rw[Kb c,rT,Oa (h n (by omega) c)]
  ·rw[Ac (by omega),Ac (by omega)]
def fG (b a:Int) (t:dA):dA:=⟨t.name,t.l9,t.m9,t.s9.filter fun p=>decide (a-p.n<b)⟩
def uC (b a:Int) (c:List dA):List dA:=(c.map (fG b a)).filter fun t=>!iE t
theorem nH {b a:Int} {d:List dA} (h:yL b a d=true):∀t∈d,eO b a t=true:=fun t e=>by
 obtain⟨i,c,rfl⟩:=Ob e;have:=uN h c;rw[eT c,Sa]at this;exact this.2
theorem IZ {b a:Int} {d:List lA} (h:uJ b a d=true):∀x∈d,a-x.n<b/\0<=x.n/\x.n<=a:=fun x e=>by
 obtain⟨i,c,rfl⟩:=Ob e;have:=uN h c;rw[vS c]at this;simp only[Sa,Eb,xA]at this;exact⟨this.2,this.1.2.1,this.1.2.2⟩
theorem gJ {b a:Int} {t:dA} (h:eO b a t=true):yB t.name=true/\kK t.m9=true/\uJ b a t.s9=true/\iE t=false:=by
 simp only[eO,Sa]at h;obtain⟨⟨⟨⟨c,_⟩,d⟩,e⟩,f⟩:=h;exact⟨c,d,e,by simpa using f⟩
theorem aX {b a:Int} {t:dA} (h:∀x∈t.s9,a-x.n<b):fG b a t=t:=by
 unfold fG;rw[Lc.2 fun x c=>Zb (h x c)]
theorem YW {b a:Int} {c:List dA} (h:yL b a c=true):uC b a c=c:=by
 have e:c.map (fG b a)=c:=by
  have:∀t∈c,fG b a t=id t:=fun t d=>aX fun x f=>(IZ (gJ (nH h t d)).2.2.1 x f).1;rw[Te this,List.map_id]
 unfold uC;rw[e];exact Lc.2 fun t d=>by rw[(gJ (nH h t d)).2.2.2];rfl
theorem KQ {f d:Int} {i:List dA} (h:yL f d i=true) (y:jC (·.name) i) {t:dA} (z:∀x∈t.s9,d-x.n<f):
 uC f d (bB (·.name) t i)=if iE t=true then dI (·.name) t.name i else bB (·.name) t i:=by
 have v:∀q∈bB (·.name) t i,fG f d q=id q:=fun q a=>by
  rcases xH a with rfl|a
  ·exact aX z
  ·exact aX fun x A=>(IZ (gJ (nH h q a)).2.2.1 x A).1
 have s:(bB (·.name) t i).map (fG f d)=bB (·.name) t i:=by rw[Te v,List.map_id]
 have g:=fun q a=>(gJ (nH h q a)).2.2.2;unfold uC;rw[s];by_cases k:iE t=true
 ·rw[Qa k];clear h s v z;induction i with
  |nil=>simp[bB,k,dI]
  |cons p r B=>
   have o:=B y.tail (fun q a=>g q (Cb _ a));have w:=g p (Pb ..);have c:(r.filter fun t=>!iE t)=r:=Lc.2 fun q a=>by rw[g q (Cb _ a)];rfl
   rw[bB];by_cases l:wH p.name t.name=true
   ·rw[Qa l,Mc (by rw[w];rfl),o];unfold dI;rw[Mc (by rw[dD (yK l)];rfl)]
   ·rw[Oa l];have j:∀q∈r,q.name≠t.name:=fun q a e=>by
     have u:=y.head q a;rw[e]at u;exact l u
    have b:dI (·.name) t.name r=r:=Lc.2 fun q a=>by rw[dD (j q a)];rfl
    by_cases m:p.name=t.name
    ·rw[Qa ((wC _ _).2 m),Uc (by simp[k]),c];unfold dI at b |-
     rw[Uc (by simp[m]),b]
    ·rw[Oa (by rw[dD m];simp),Uc (by simp[k]),Mc (by rw[w];rfl),c];unfold dI at b |-
     rw[Mc (by rw[dD m];rfl),b]
 ·rw[Oa k];refine Lc.2 fun q a=>?_;rcases xH a with rfl|a
  ·simpa using k
  ·rw[g q a];rfl
theorem BF {α:Type} {b:α->ByteArray} {a:α} {l:List α} (i:jC b l):(bB b a l).length=if (xC b (b a) l).isSome=true then l.length else l.length+1:=by
 induction l with
 |nil=>simp[bB,xC]
 |cons p r k=>
  have g:=k i.tail;rw[bB,rT];by_cases d:wH (b p) (b a)=true
  ·rw[Qa d,Oa (yK d),Jb,g];split<;>simp
  ·rw[Oa d];by_cases f:b p=b a
   ·rw[Qa ((wC _ _).2 f),Qa f];simp
   ·have c:xC b (b a) r=none:=rJ fun q j e=>by
     have h:=i.head q j;rw[e]at h;exact d h
    rw[Oa (by rw[dD f];simp),Oa f,c];simp
def rY (c:vB) (a:Int) (d:List dA) (b:Int):Int×List dA×Bool:=
 if gB c a d=false then(0,[],false) else if b<1\/1000000000000-a<b then(a,d,false) else(a+b,uC c.w (a+b) d,true)
def qH (t:dA) (a:ByteArray) (b:Int):dA:=
 if a.toList.isEmpty=true then⟨t.name,b,t.m9,t.s9⟩ else⟨t.name,t.l9,if b<0 then dI (·.s) a t.m9 else bB (·.s) ⟨a,b⟩ t.m9,t.s9⟩
def cP (c:vB) (e:Int) (f:List dA) (b a:ByteArray) (d:Int):Int×List dA×Bool:=
 if gB c e f=false then(0,[],false)
 else if (yB b&&(a.toList.isEmpty||cE a) &&xA d (-1) 1000000)=false then(e,f,false)
 else if 10000<(uC c.w e (bB (·.name) (qH (tA f b) a d) f)).length then(e,f,false)
 else(e,uC c.w e (bB (·.name) (qH (tA f b) a d) f),true)
theorem qv (B:Nat) (r:Rd) (w:World) (c:RB w B r):
 Calls prog 174 #[.pointer (some ⟨B,0,none⟩)] w fun e h=>e=.returned (.bool (eS r))/\h=w:=by
 have d:=eA.cell c 0;have f:=eA.cell c 1;simp only[Nc,Cc,Ia]at d f;have g:Hid (ByteArray.empty.toList=[]):=by show _=_;rw[ByteArray.toList_eq];rfl
 obtain⟨a,b⟩:=r;simp only at d f;clear c;cases b with
 |true=>
  have E:Hid (eS ⟨a,true⟩=false):=rfl;go_enter func174,ntmps174;go_wp2;go_ret;exact⟨jA E.out.symm,rfl⟩
 |false=>
  have E:Hid (eS ⟨a,false⟩=a.toList.isEmpty):=by
   show _=_;unfold eS;rw[g.out];cases a.toList<;>rfl
  go_enter func174,ntmps174;go_wp2;go_ret;exact⟨jA E.out.symm,rfl⟩
theorem MM {P:Program} {o:Oper} {a:Act} {w:World} {c:Act->Prop} (h:o.quiet P a (fun j=>∃_:Unit,j=w) c):o.still P a w c:=by
 obtain⟨v,i,d⟩:=h;have b:=i w ⟨(),rfl⟩;unfold Oper.quietAt at b;unfold Oper.still;generalize (execOp a.eval o).run P w=r at b;unfold Oper.quietUpon at b;unfold Oper.stillUpon;split at b
 ·obtain⟨rfl,rfl⟩:=b;exact⟨rfl,d⟩
 ·obtain⟨rfl,rfl⟩:=b;exact⟨rfl,d⟩
 ·obtain⟨rfl,f⟩:=b;exact⟨rfl,v,f.mono fun e k ⟨g,_,hw⟩=>⟨g,hw⟩,d⟩
 ·exact b.elim
theorem eN {P:Program} {c:Array Oper} {w:World} {Q:Act->Prop}:∀(l:List Oper) (a:Act),wpQuiet P c (fun f=>∃_:Unit,f=w) Q l a->wpStill P c w Q l a
 |[],a,h=>h
 |o::b,a,h=>by
  unfold wpQuiet at h;unfold wpStill;split
  ·rename_i hw;rw[Qa hw]at h;exact MM (Oper.quiet_mono (fun d e=>eN b d e) h)
  ·rename_i hw;rw[Oa hw]at h;exact eN b _ h
theorem rW {P:Program} {id:Nat} {Q:Exit->Act->World->Prop} {a:Act} {w:World} {l:List Oper} (n:Nat) (d:P.follows .mixedOrders=true) (c:Region.lexTailB .any l.toArray n=true)
 (h:wpQuiet P l.toArray (fun e=>∃_:Unit,e=w.drew) (fun b=>wpList P l.toArray Q (l.drop n) b w.drew) (l.take n) a):(Code.region id l.toArray true).wp P Q a w:=
 wp_region_still_tail n d c (eN _ _ h)
def aL (k a b:Int) (c:Bool):Nat×Int×Bool:=
 if c=true then(1,k,true) else if k=1000000000000000 then(2,k,false) else if a≠0/\k+1=a then(1,k+1,true) else if b≠0/\k+1=b then(2,k+1,false) else(0,k+1,false)
structure jM where
 kind:Int
 name:ByteArray
 tq:ByteArray
 data:ByteArray
 size:Int
def opB (a:jM):Bool:=xA a.kind 1 6&&mL a.name&&(decide (a.kind≠5) ||mL a.tq)
def eZ (a:List kA) (c:Int) (b:jM):Nat×List kA:=
 let i:=mC b.name a
 if b.kind=1 then(if yR a b.name i=true then(5,a) else if 1000<=a.length then(3,a) else(0,GX a i ⟨b.name,ByteArray.empty,0⟩))
 else match a[i]? with
  |none=>(4,a)
  |some f=>
   if yR a b.name i=false then(4,a)
   else if b.kind=2 then(if c<xB a+b.data.size then(3,a) else(0,a.set i ⟨f.name,f.data++b.data,f.y9⟩))
   else if b.kind=3 then(0,a.set i ⟨f.name,f.data,f.data.size⟩)
   else if b.kind=4 then(if xA b.size 0 f.data.size=true then(0,a.set i ⟨f.name,f.data.extract 0 b.size.toNat,b.size⟩) else(6,a))
   else if b.kind=5 then(0,oG (a.eraseIdx i) ⟨b.tq,f.data,f.y9⟩)
   else(0,a.eraseIdx i)
def MJ (e:List kA) (c k a d:Int) (b:Bool) (f:jM):Nat×List kA×Int×Bool:=
 if (aL k a d b).1=0 then((eZ e c f).1,(eZ e c f).2,(aL k a d b).2) else((aL k a d b).1,e,(aL k a d b).2)
theorem XI {a:List kA} {c:Int} {b:jM} (d:b.kind≠1) (e:yR a b.name (mC b.name a)=false):eZ a c b=(4,a):=by
 unfold eZ;simp only[Oa d];split
 ·rfl
 ·rw[Qa e]
theorem mn {a:List kA} {c:Int} {b:jM} (e:b.kind≠1) (f:yR a b.name (mC b.name a)=true) (d:mC b.name a<a.length):
 eZ a c b=if b.kind=2 then(if c<xB a+b.data.size then(3,a) else(0,a.set (mC b.name a) ⟨a[mC b.name a].name,a[mC b.name a].data++b.data,a[mC b.name a].y9⟩))
  else if b.kind=3 then(0,a.set (mC b.name a) ⟨a[mC b.name a].name,a[mC b.name a].data,a[mC b.name a].data.size⟩)
  else if b.kind=4 then(if xA b.size 0 a[mC b.name a].data.size=true then(0,a.set (mC b.name a) ⟨a[mC b.name a].name,a[mC b.name a].data.extract 0 b.size.toNat,b.size⟩) else(6,a))
  else if b.kind=5 then(0,oG (a.eraseIdx (mC b.name a)) ⟨b.tq,a[mC b.name a].data,a[mC b.name a].y9⟩)
  else(0,a.eraseIdx (mC b.name a)):=by
 unfold eZ;simp only[Oa e,Va d,f,Bool.true_eq_false,Se]
theorem pG {s:ByteArray} {b:Bool} (h:mL s=b) (w:World) (a:s.size<=maxLen):Calls prog 109 #[.string s] w fun e c=>e=.returned (.bool b)/\c=w:=h ▸ KT s w a
theorem dS (a:Option Addr) (r:Nat) (d:List kA) (c p m s:Int) (O:Bool) (w:World) (hf:qA w a d) (hs:eV d) (I:d.length<=maxLen) (J:xB d<=1000000000):
 Calls prog 68 #[.agg #[.slice a d.length r,.int .i64 c,.int .i64 p,.int .i64 m,.int .i64 s,.bool O]] w fun e q=>e=.returned (.bool (bH d c p m s))/\Below w.heap.size w q:=by
 obtain⟨z0,z1,z2,z3,z4,z5⟩:=lp w (.slice a d.length r) (.int .i64 c) (.int .i64 p) (.int .i64 m) (.int .i64 s) (.bool O) 78;have d0:=fB.cells z0;have d1:=fB.cells z1;have d2:=fB.cells z2;have d3:=fB.cells z3;have d4:=fB.cells z4;have d5:=fB.cells z5;have F:Below w.heap.size w (w.alloc (.cells #[.slice a d.length r,.int .i64 c,.int .i64 p,.int .i64 m,.int .i64 s,.bool O] 78)):=(Below.refl _ _).alloc (Ka _) _;have hne:=fB.there (w.alloc (.cells #[.slice a d.length r,.int .i64 c,.int .i64 p,.int .i64 m,.int .i64 s,.bool O] 78));have C:Hid (∀x:fB (w.alloc (.cells #[.slice a d.length r,.int .i64 c,.int .i64 p,.int .i64 m,.int .i64 s,.bool O] 78)),qA x.w' a d):=fun x=>(hf.later F).later x.h;have R:Hid (∀x:fB (w.alloc (.cells #[.slice a d.length r,.int .i64 c,.int .i64 p,.int .i64 m,.int .i64 s,.bool O] 78)),Below w.heap.size w x.w'):=fun x=>F.trans (x.h.mono F.size);have HS:Hid (eV d):=hs;have HL:Hid _:=I;unfold maxLen at I;clear z0 z1 z2 z3 z4 z5 F hf hs;by_cases hA0:(1000:Int)<d.length
 ·have E:Hid (bH d c p m s=false):=by
   show _=_;have e:decide (d.length<=1000)=false:=by simp;omega
   simp only[bH,e,Mg]
  go_enter func68,ntmps68;go_wp2_with fail;refine eB (by kernel_rfl) (by kernel_rfl) ?_;repeat (go_big_quiet_step (fail))
  refine wpQuiet_nil ?_;rintro _ ⟨x,rfl⟩;go_wp2;go_ret;exact⟨jA E.out.symm,R.out x⟩
 have hA1:decide ((1000:Int)<d.length)=false:=by simp;omega
 have hA2:decide (1000<d.length)=false:=by simp;omega
 have Z:decide (d.length<=1000)=true:=by simp;omega
 by_cases z:xA c 0 1000000000=false
 ·have E:Hid (bH d c p m s=false):=by show _=_;simp only[bH,z,Jg,Mg]
  have u:Hid _:=z;clear z Z;go_enter func68,ntmps68;go_wp2_with fail;refine eB (by kernel_rfl) (by kernel_rfl) ?_;repeat (go_big_quiet_step (first|(go_at_call 25;apply lD;apply nC;exact u.out)))
  refine wpQuiet_nil ?_;rintro _ ⟨x,rfl⟩;go_wp2;go_ret;exact⟨jA E.out.symm,R.out x⟩
 have qB:xA c 0 1000000000=true:=by simpa using z
 have u:Hid _:=qB;clear z;by_cases hC0:c<(xB d:Int)
 ·have E:Hid (bH d c p m s=false):=by
   show _=_;have e:decide ((xB d:Int)<=c)=false:=by simp;omega
   simp only[bH,e,Jg,Mg]
  clear Z qB;go_enter func68,ntmps68;go_wp2_with fail;refine eB (by kernel_rfl) (by kernel_rfl) ?_;repeat (go_big_quiet_step (first|(go_at_call 25;apply lD;apply nC;exact u.out)|(go_at_call 108;exact pB (zV _ _ _ _ _ _ _ _ _ (C.out _) HL.out J))))
  refine wpQuiet_nil ?_;rintro _ ⟨x,rfl⟩;go_wp2;go_ret;exact⟨jA E.out.symm,R.out x⟩
 have hC1:decide (c<(xB d:Int))=false:=by simp;omega
 have qC:decide ((xB d:Int)<=c)=true:=by simp;omega
 have E:Hid (bH d c p m s=(mT d&&xA p 0 1000000000000000&&xA m 0 1000000000000000&&xA s 0 1000000000000000)):=by show _=_;simp only[bH,Z,qB,qC,Ce,Ag]
 clear Z qB qC;go_enter func68,ntmps68;go_wp2_with fail;refine eB (by kernel_rfl) (by kernel_rfl) ?_;repeat (go_big_quiet_step (first|(go_at_call 25;apply lD;apply nC;exact u.out)|(go_at_call 108;exact pB (zV _ _ _ _ _ _ _ _ _ (C.out _) HL.out J))))
 refine wpQuiet_nil ?_;rintro _ ⟨x,rfl⟩;have HF:Hid (qA x.w' a d):=C.out x;have S:Hid (Below w.heap.size w x.w'):=R.out x;have n:w.heap.size<x.w'.heap.size:=by have:=x.h.size;simp at this;omega
 have e0:=d0 x;have T:=d2 x;have e3:=d3 x;have e4:=d4 x;clear d0 d1 d2 d3 d4 d5 C R hne u;generalize x.w'=W at *;clear x;have HC:Hid (∀wr,Below W.heap.size W wr->wr.cell? ⟨w.heap.size,0,none⟩=some (.slice a d.length r)/\wr.cell? ⟨w.heap.size,2,none⟩=some (.int .i64 p)/\
  wr.cell? ⟨w.heap.size,3,none⟩=some (.int .i64 m)/\wr.cell? ⟨w.heap.size,4,none⟩=some (.int .i64 s)):=fun wr h=>
  ⟨(h.cell n).trans e0,(h.cell n).trans T,(h.cell n).trans e3,(h.cell n).trans e4⟩
 go_wp2;go_loopw [3,4,25] (fun _ _ i wr=>∃k:Nat,k<=d.length/\i=.int .i64 k/\IA d k=true/\Below W.heap.size W wr) (fun _ _ i _=>d.length-(intOf i).toNat)
 case atStart=>exact⟨0,La _,rfl,rfl,Below.refl _ _⟩
 case round=>
  obtain⟨k,hk,rfl,U,g⟩:=hrel;obtain⟨e0',e2',e3',e4'⟩:=HC.out wr g;have L:Hid _:=U;have t:Hid _:=S.out.trans (g.mono (Xf n));have M:w.heap.size<wr.heap.size:=by have:=g.size;omega
  have hsz2:¬w.heap.size=wr.heap.size:=by omega
  clear U e0 T e3 e4 S HC;by_cases l:k<d.length
  ·obtain⟨b,o,rfl,hb,c0,c1,c2⟩:=(HF.out.later g).at l;have V:=(HS.out k l).1;have hsd:=(HS.out k l).2;have y:Hid _:=V;unfold maxLen at hsd;clear V;by_cases P:mL d[k].name=false
   ·have f:DW d k=false:=by simp[DW,Va l,XW,P]
    have D:Hid _:=LN f l;have N:Hid _:=P;clear f P;go_wp2_with(first|(go_at_call 109;refine(pG N.out _ y.out).mono ?_;rintro e q ⟨rfl,rfl⟩));go_ret;exact⟨jA (by rw[E.out,mT,D.out];simp),t.out.alloc (Xf M) _⟩
   ·have H:mL d[k].name=true:=by simpa using P
    have N:Hid _:=H;by_cases A:xA d[k].y9 0 d[k].data.size=false
    ·have f:DW d k=false:=by simp[DW,Va l,XW,A]
     have D:Hid _:=LN f l;have v:Hid _:=A;clear f P H A;go_wp2_with(first|(go_at_call 109;refine(pG N.out _ y.out).mono ?_;rintro e q ⟨rfl,rfl⟩)|(go_at_call 25;refine(nC v.out _).mono ?_;rintro e q ⟨rfl,rfl⟩));go_ret;exact⟨jA (by rw[E.out,mT,D.out];simp),t.out.alloc (Xf M) _⟩
    ·have B:xA d[k].y9 0 d[k].data.size=true:=by simpa using A
     have v:Hid _:=B;have G:XW d[k]=true:=by simp[XW,H,B]
     clear P H A B;by_cases hk0:(0:Int)<k
     ·obtain⟨b2,o2,T,q1,c0',q2,q3⟩:=(HF.out.later g).at (i:=k-1) (by omega)
      simp only[Pa,Addr.mk.injEq,Yb]at T;obtain⟨rfl,rfl⟩:=T;have f:DW d k=Op.bytesLess d[k-1].name.toList d[k].name.toList:=by
       obtain⟨j,rfl⟩:∃j,k=j+1:=⟨k-1,by omega⟩
       simp[DW,Va l,Va (show j<d.length by omega),G]
      generalize d[k-1].name=gn at c0' f;have hk1:0<k:=by omega
      clear q1 q2 q3 G;by_cases hl:Op.bytesLess gn.toList d[k].name.toList=true
      ·have D:Hid (IA d (k+1)=true):=by show IA d (k+1)=true;rw[QH,L.out,f,hl];rfl
       clear f;go_wp2_with(first|(go_at_call 109;refine(pG N.out _ y.out).mono ?_;rintro e q ⟨rfl,rfl⟩)|(go_at_call 25;refine(nC v.out _).mono ?_;rintro e q ⟨rfl,rfl⟩));go_quiet (fail)
       go_wp2;exact⟨⟨k+1,by omega,by go_num,D.out,below_drewN (g.alloc g.size _) _⟩,by simp[intOf];omega⟩
      ·have hl':Op.bytesLess gn.toList d[k].name.toList=false:=by simpa using hl
       have D:Hid _:=LN (by rw[f];exact hl') l;clear f hl;go_wp2_with(first|(go_at_call 109;refine(pG N.out _ y.out).mono ?_;rintro e q ⟨rfl,rfl⟩)|(go_at_call 25;refine(nC v.out _).mono ?_;rintro e q ⟨rfl,rfl⟩));go_quiet (fail)
       go_wp2;go_ret;exact⟨jA (by rw[E.out,mT,D.out];simp),below_drewN (t.out.alloc (Xf M) _) _⟩
     ·have f:DW d k=true:=by
       obtain rfl:k=0:=by omega
       simp[DW,Va l,G]
      have D:Hid (IA d (k+1)=true):=by show IA d (k+1)=true;rw[QH,L.out,f];rfl
      have hk1:decide (0<k)=false:=by simp;omega
      clear f G;go_wp2_with(first|(go_at_call 109;refine(pG N.out _ y.out).mono ?_;rintro e q ⟨rfl,rfl⟩)|(go_at_call 25;refine(nC v.out _).mono ?_;rintro e q ⟨rfl,rfl⟩));go_quiet (fail)
      go_wp2;exact⟨⟨k+1,by omega,by go_num,D.out,below_drewN (g.alloc g.size _) _⟩,by simp[intOf];omega⟩
  ·have ek:k=d.length:=by omega
   have E2:Hid (bH d c p m s=(xA p 0 1000000000000000&&xA m 0 1000000000000000&&xA s 0 1000000000000000)):=by
    show _=_;have:=L.out;rw[ek]at this;rw[E.out,mT,this,Ce]
   by_cases X:xA p 0 1000000000000000=false
   ·have K:Hid _:=X;clear X;go_wp2_with(first|(go_at_call 25;refine(nC K.out _).mono ?_;rintro e q ⟨rfl,rfl⟩));go_ret;exact⟨jA (by rw[E2.out,K.out];rfl),t.out⟩
   have K:Hid (xA p 0 1000000000000000=true):=by show _=_;simpa using X
   clear X;by_cases Y:xA m 0 1000000000000000=false
   ·have Q:Hid _:=Y;clear Y;go_wp2_with fail;refine(nC K.out _).mono ?_;rintro e q ⟨rfl,rfl⟩;go_wp2_with fail;refine(nC Q.out _).mono ?_;rintro e q ⟨rfl,rfl⟩;go_wp2;go_ret;exact⟨jA (by rw[E2.out,K.out,Q.out];rfl),t.out⟩
   have Q:Hid (xA m 0 1000000000000000=true):=by show _=_;simpa using Y
   clear Y;go_wp2_with fail;refine(nC K.out _).mono ?_;rintro e q ⟨rfl,rfl⟩;go_wp2_with fail;refine(nC Q.out _).mono ?_;rintro e q ⟨rfl,rfl⟩;go_wp2_with fail;refine(hC _ _ _ _).mono ?_;rintro e q ⟨rfl,rfl⟩;go_wp2;go_ret;exact⟨jA (by rw[E2.out,K.out,Q.out];rfl),t.out⟩
theorem fJ {a:Option Addr} {f:Nat} {d:List kA} {c k j l:Int} {m b:Bool} (h:bH d c k j l=b) (w:World) (n:qA w a d) (o:eV d) (g:d.length<=maxLen) (i:xB d<=1000000000):
 Calls prog 68 #[.agg #[.slice a d.length f,.int .i64 c,.int .i64 k,.int .i64 j,.int .i64 l,.bool m]] w fun e p=>e=.returned (.bool b)/\Below w.heap.size w p:=h ▸ dS a f d c k j l m w n o g i
theorem bY {a:List kA} {c k b d:Int} (h:bH a c k b d=true):mT a=true/\a.length<=1000/\0<=c/\c<=1000000000/\(xB a:Int)<=c/\0<=k/\k<=1000000000000000/\0<=b/\b<=1000000000000000/\0<=d/\d<=1000000000000000:=by
 simp only[bH,xA,Sa,Eb]at h;obtain⟨⟨⟨⟨⟨⟨g,i⟩,j,l⟩,m⟩,n,o⟩,p,q⟩,e,f⟩:=h;exact⟨i,g,j,l,m,n,o,p,q,e,f⟩
theorem GN {w c:World} {x y z:Array Value} {a b e:TypeId} (d:Below (((w.alloc (.cells x a)).alloc (.cells y b)).alloc (.cells z e)).heap.size (((w.alloc (.cells x a)).alloc (.cells y b)).alloc (.cells z e)) c):
 eA c w.heap.size x a/\eA c (w.heap.size+1) y b/\eA c (w.heap.size+1+1) z e/\Below w.heap.size w c:=by
 refine⟨?_,?_,?_,nA (nA (nA (cA _ _) (cA _ _)) (cA _ _)) d⟩
 ·exact(eA.later (eA.later (eA.later (g:=w.heap.size) (heap_alloc_new w (.cells x a)) (Below.refl _ _)) (cA _ _)) (cA _ _)).later d
 ·have h:=eA.later (g:=(w.alloc (.cells x a)).heap.size) (heap_alloc_new (w.alloc (.cells x a)) (.cells y b)) (nA (cA _ _) d);simpa using h
 ·have h:=eA.later (g:=((w.alloc (.cells x a)).alloc (.cells y b)).heap.size) (heap_alloc_new ((w.alloc (.cells x a)).alloc (.cells y b)) (.cells z e)) d;simpa using h
def vQ (d:List kA) (c k a b:Int) (f:Bool) (e:jM):Nat×List kA×Int×Int×Int×Int×Bool:=
 if (bH d c k a b&&opB e)=true then((MJ d c k a b f e).1,(MJ d c k a b f e).2.1,c,(MJ d c k a b f e).2.2.1,a,b,(MJ d c k a b f e).2.2.2) else(6,[],0,0,0,0,false)
def aHd (R:Nat×List kA×Int×Int×Int×Int×Bool) (a:Option Addr) (b:Nat):Value:=
 .tuple #[.agg #[.slice a R.2.1.length b,.int .i64 R.2.2.1,.int .i64 R.2.2.2.1,.int .i64 R.2.2.2.2.1,.int .i64 R.2.2.2.2.2.1,.bool R.2.2.2.2.2.2],.int .i64 R.1]
theorem XZ {W w c:World} {B:Nat} {e:TypeId} {size:Nat} {v:Value} {n:Nat} {j:List Value} (h:w.ownsRow B e size v n j) (i:Below B W w) (b:B<=w.heap.size) (a:w.grownBy c v.ownBlock):Below B W c:=
 i.trans ((WG.grown (S:=fun k=>v.ownBlock=some k) a (fun _ h=>h)).below (fun g a=>by
  rcases h.2 with⟨rfl,_⟩|⟨l,d,f,rfl,m,_⟩
  ·simp[Value.ownBlock]at a
  ·simp[Value.ownBlock]at a;omega) b)
theorem vs (W:World) (x:Obj) (cs:Array Value) (t:TypeId):∀j u,cs.toList[j]?=some u->((W.alloc x).alloc (.cells cs t)).cell? ((⟨W.heap.size+1,0,none⟩:Addr).add j)=some u:=
 World.news_of_block (fr:=(0,0)) (by have h:=heap_alloc_new (W.alloc x) (.cells cs t);simpa using h)
theorem VZ (l:List kA) (f:kA) (t:ByteArray):bC (l++[f]) t=bC l t++(if (f.name.toList==t.toList)=true then [] else [f]):=by
 unfold bC;rw[Cf];by_cases h:(f.name.toList==t.toList)=true
 ·rw[Qa h];simp only[Sd,h];rfl
 ·rw[Oa h];have a:(f.name.toList==t.toList)=false:=by simpa using h
  simp only[Sd,a];rfl
theorem qQ (l:List kA) (t:ByteArray):(bC l t).length<=l.length:=Gc _ _
theorem jY (a:Option Addr) (B:Nat) (c:List kA) (t:ByteArray) (w:World) (H:qA w a c) (I:c.length<=1048576):
 Calls prog 140 #[.slice a c.length B,.string t] w fun e K=>∃v,e=.returned v/\K.ownsRow w.heap.size 187 3 v (bC c t).length (flat (bC c t))/\Below w.heap.size w K:=by
 have L:Hid (qA w a c):=H;clear H;obtain⟨Q,s,C,D,E⟩:=mZ;have M:Hid _:=s;clear s;go_enter func140,ntmps140;go_wp2;go_loopw [5,7,11] (fun o _ i wr=>∃(j:Nat) (m:Option Addr) (n p:Nat),j<=c.length/\i=.int .i64 j/\o=.slice m n p/\n=(bC (c.take j) t).length/\wr.ownsRow w.heap.size 187 3 (.slice m n p) n (flat (bC (c.take j) t))/\Below w.heap.size w wr) (fun _ _ i _=>c.length-(intOf i).toNat)
 case atStart=>exact⟨0,_,0,0,La _,rfl,rfl,rfl,⟨rfl,Ja ⟨w.heap.size,0,#[],rfl,Ka _,heap_alloc_new _ _,Ka _,La _,rfl,rfl⟩⟩,cA _ _⟩
 case round=>
  obtain⟨j,m,n,p,W,rfl,rfl,r,k,d⟩:=hrel;have u:Hid (wr.ownsRow w.heap.size 187 3 (.slice m n p) n (flat (bC (c.take j) t))):=k;have y:Hid _:=r;have P:n<=1048576:=by have:=qQ (c.take j) t;rw[Hb]at this;omega
  clear k r;by_cases q:j<c.length
  ·obtain⟨b,o,rfl,V,R,S,T⟩:=(L.out.later d).at q;have z:Hid (bC (c.take (j+1)) t=bC (c.take j) t++(if (c[j].name.toList==t.toList)=true then [] else [c[j]])):=by
    show _=_;rw[Ma q,VZ]
   by_cases x:(c[j].name.toList==t.toList)=true
   ·have f:Hid (bC (c.take (j+1)) t=bC (c.take j) t):=by show _=_;rw[z.out,Qa x];simp
    go_wp2;exact⟨⟨j+1,m,n,p,by omega,by go_num,rfl,by rw[f.out];exact y.out,by rw[f.out];exact vA u.out (cA _ _),nA d (cA _ _)⟩,by simp[intOf];omega⟩
   ·have O:(c[j].name.toList==t.toList)=false:=by simpa using x
    have f:Hid (bC (c.take (j+1)) t=bC (c.take j) t++[c[j]]):=by show _=_;rw[z.out,Oa x]
    have A:Hid (Below wr.heap.size wr ((wr.alloc (.cells #[.string c[j].name,.string c[j].data,.int .i64 c[j].y9] 187)).alloc (.cells #[.string c[j].name,.string c[j].data,.int .i64 c[j].y9] 187))):=nA (cA _ _) (cA _ _);clear x z;go_wp2_with(at_builtin;refine wpList_append_lies _ rfl _ _ _ rfl w.heap.size 187 Q _ 3 40 underlying76 M.out C D E rfl (by omega) (.slice m n p) n (flat (bC (c.take j) t)) rfl (by exact vA u.out A.out) ⟨wr.heap.size+1,0,none⟩ 1 1 [.string c[j].name,.string c[j].data,.int .i64 c[j].y9] rfl rfl (by exact vs _ _ #[.string c[j].name,.string c[j].data,.int .i64 c[j].y9] _) (by simp[Value.oneCell']) (by omega) (by simp[maxLen];omega) (by omega) (by have:=d.size;simp;omega) (wr.heap.size+1+1) (by simp) ?_;intro U F X l g G J);refine⟨⟨j+1,_,n+1,_,by omega,by go_num,rfl,by rw[f.out,Za,<-y.out];rfl,?_,?_⟩,by simp[intOf];omega⟩
    ·rw[f.out,flat_append,uV];exact l
    ·exact XZ (vA u.out A.out) (nA d A.out) (by have:=d.size;simp;omega) g
  ·go_wp2;go_ret;have N:j=c.length:=by omega
   have h:=u.out;have r:=y.out;rw[N,Wb]at h r;subst r;exact⟨_,rfl,h,d⟩
theorem jR:∀{l:List kA} {f:kA} (r:List kA),(l.any fun g=>Op.bytesLess f.name.toList g.name.toList)=true->kE (l++r) f=kE l f++r
 |[],_,_,h=>by simp at h
 |g::l,f,r,h=>by
  show kE (g::(l++r)) f=_;unfold kE;by_cases a:Op.bytesLess f.name.toList g.name.toList=true
  ·rw[Qa a,Qa a];rfl
  ·rw[Oa a,Oa a,jR r (by simpa[a]using h)];rfl
theorem jO:∀{l:List kA} {f:kA} (r:List kA),(l.any fun g=>Op.bytesLess f.name.toList g.name.toList)=false->kE (l++r) f=l++kE r f
 |[],_,_,_=>rfl
 |g::l,f,r,h=>by
  simp only[List.any_cons,Bool.or_eq_false_iff]at h;show kE (g::(l++r)) f=_;rw[kE,Oa (by rw[h.1];simp),jO r h.2];rfl
def rE (a:List kA) (f:kA) (j:Nat):Bool:=(a.take j).any fun g=>Op.bytesLess f.name.toList g.name.toList
def rI (a:List kA) (f:kA) (j:Nat):List kA:=if rE a f j=true then kE (a.take j) f else a.take j
theorem cJ {a:List kA} {f:kA} {j:Nat} (h:j<a.length):rE a f (j+1)=(rE a f j||Op.bytesLess f.name.toList a[j].name.toList):=by
 unfold rE;rw[Ma h,Dg];simp only[List.any_cons,List.any_nil,Bool.or_false]
theorem ag {a:List kA} {f:kA} {j:Nat} (h:j<a.length) (b:rE a f j=true):rI a f (j+1)=rI a f j++[a[j]]:=by
 unfold rI;rw[Qa b,Qa (by rw[cJ h,b];rfl),Ma h];exact jR _ b
theorem wg {a:List kA} {f:kA} {j:Nat} (h:j<a.length) (c:rE a f j=false) (b:Op.bytesLess f.name.toList a[j].name.toList=true):rI a f (j+1)=rI a f j++[f]++[a[j]]:=by
 have d:rE a f (j+1)=true:=by rw[cJ h,b];simp
 have e:rI a f (j+1)=kE (a.take (j+1)) f:=Qa d;have g:rI a f j=a.take j:=Oa (by rw[c];simp);rw[e,g,Ma h,jO _ c];simp[kE,b]
theorem wf {a:List kA} {f:kA} {j:Nat} (h:j<a.length) (b:rE a f j=false) (g:Op.bytesLess f.name.toList a[j].name.toList=false):rI a f (j+1)=rI a f j++[a[j]]:=by
 have c:rE a f (j+1)=false:=by rw[cJ h,b,g];rfl
 have d:rI a f (j+1)=a.take (j+1):=Oa (by rw[c];simp);have e:rI a f j=a.take j:=Oa (by rw[b];simp);rw[d,e,Ma h]
theorem we {a:List kA} {f:kA} (b:rE a f a.length=false):kE a f=rI a f a.length++[f]:=by
 unfold rI;rw[Oa (by rw[b];simp)];unfold rE at b;rw[Wb]at b |-
 have:=jO (f:=f) [] b;rw[Id]at this;rw[this];rfl
theorem vz {a:List kA} {f:kA} (b:rE a f a.length=true):kE a f=rI a f a.length:=by
 unfold rI;rw[Qa b,Wb]
theorem af (b:List kA) (f:kA) (j:Nat):(rI b f j).length<=j+1:=by
 have a:∀(l:List kA),(kE l f).length=l.length+1:=fun l=>by
  induction l with
  |nil=>rfl
  |cons g r c=>unfold kE;split<;>simp[c]
 unfold rI;split
 ·rw[a,Hb];omega
 ·rw[Hb];omega
def DY {α:Type} (f:Rd->α×Rd) (r:Rd):Nat->List α×Rd
 |0=>([],r)
 |k+1=>((DY f r k).1++[(f (DY f r k).2).1],(f (DY f r k).2).2)
section
variable {α:Type} {f:Rd→α×Rd} {r:Rd}
theorem lU (k:Nat):(DY f r k).1.length=k:=by
 induction k with
 |zero=>rfl
 |succ k a=>rw[DY];simp[a]
theorem xM (a:∀r:Rd,r.r9=true->(f r).2.r9=true) {k:Nat} (h:(DY f r k).2.r9=true) {m:Nat} (b:k<=m):(DY f r m).2.r9=true:=by
 induction b with
 |refl=>exact h
 |step _ c=>exact a _ c
theorem ka (a:∀r:Rd,(f r).2.rest.size<=r.rest.size) (k:Nat):(DY f r k).2.rest.size<=r.rest.size:=by
 induction k with
 |zero=>exact Ka _
 |succ k b=>exact Ra (a _) b
theorem au {n:Nat} (a:∀r:Rd,r.r9=true->(f r).2.r9=true) (b:∀r:Rd,(f r).2.r9=false->(f r).2.rest.size+n<=r.rest.size) {k:Nat} (h:(DY f r k).2.r9=false):(DY f r k).2.rest.size+n*k<=r.rest.size:=by
 induction k with
 |zero=>exact Ka _
 |succ k c=>
  have d:=c (by
   cases hs:(DY f r k).2.r9
   ·rfl
   ·rw[xM a hs (Yg k)]at h;exact h)
  have e:=b _ h;rw[Nat.mul_succ];show(f (DY f r k).2).2.rest.size+_<=_;omega
theorem BQ {e:α->ByteArray} {es:List α->ByteArray} (c:∀a l,es (a::l)=e a++es l) {b:List α} {q:ByteArray} (h:r.rest=es b++q) (i:∀k (d:k<b.length) (r:Rd) q,r.rest=e b[k]++q->f r=(b[k],⟨q,r.r9⟩)) (k:Nat) (d:k<=b.length):DY f r k=(b.take k,⟨es (b.drop k)++q,r.r9⟩):=by
 induction k with
 |zero=>
  cases r
  simp only at h;simp[DY,h]
 |succ k j=>
  have g:=i k (by omega) ⟨es (b.drop k)++q,r.r9⟩ (es (b.drop (k+1))++q) (by show es (b.drop k)++q=_;rw[Kb (by omega),c,Gb]);rw[DY,j (by omega),g,Ma (by omega)]
end
def CA (r:Rd):Nat×Rd:=zA 1 r
def wS (r:Rd):List mA×Rd:=yH (CA r).2 (CA r).1
def GG (r:Rd):Nat×Rd:=zA 8 (wS r).2
def xS (r:Rd):jD×Rd:=(⟨(wS r).1,jB (GG r).1⟩,(GG r).2)
theorem MG (r:Rd):(xS r).1=⟨(wS r).1,jB (GG r).1⟩:=by rw[xS]
theorem oQ (r:Rd):(xS r).2=(GG r).2:=by rw[xS]
def yD (r:Rd) (k:Nat):List jD×Rd:=DY xS r k
theorem dJ (r:Rd):yD r 0=([],r):=rfl
theorem gX (r:Rd) (k:Nat):yD r (k+1)=((yD r k).1++[(xS (yD r k).2).1],(xS (yD r k).2).2):=rfl
theorem lR (r:Rd) (k:Nat):(yD r k).1.length=k:=lU k
theorem wl (r:Rd) (k:Nat):yH r k=DY zN r k:=by
 induction k with
 |zero=>rfl
 |succ k a=>rw[fQ,a,DY]
theorem PV {r:Rd} (h:r.r9=true):(zN r).2.r9=true:=by
 rw[dX];exact wF (k:=2) (wF (k:=1) h)
theorem QO {r:Rd} (h:r.r9=true) (k:Nat):(yH r k).2.r9=true:=by rw[wl];exact xM (fun _=>PV) (k:=0) h (La _)
theorem qk {r:Rd} (h:r.r9=true):(wS r).2.r9=true:=by rw[wS];exact QO (by rw[CA];exact bD h) _
theorem QS {r:Rd} (h:r.r9=true):(xS r).2.r9=true:=by rw[oQ,GG];exact bD (qk h)
theorem iQ {r:Rd} {k:Nat} (h:(yD r k).2.r9=true) (m:Nat) (a:k<=m):(yD r m).2.r9=true:=xM (fun _=>QS) h a
theorem xo {r:Rd} {x:jD} {q:ByteArray} (h:r.rest=tP x++q) (a:GH x) (g:AC x.bits):xS r=(x,⟨q,r.r9⟩):=by
 have d:r.rest=fA 1 (x.labs.length:Nat)++(cC x.labs++(fA 8 x.bits++q)):=by rw[h,tP,nI];apply wK;simp
 have e:CA r=(x.labs.length,⟨cC x.labs++(fA 8 x.bits++q),r.r9⟩):=by
  rw[CA,jG d,cI 1 _ (by have:=a.1;omega)]
 have b:wS r=(x.labs,⟨fA 8 x.bits++q,r.r9⟩):=by
  rw[wS,e];have:=UX (r:=⟨cC x.labs++(fA 8 x.bits++q),r.r9⟩) rfl (fun i c=>⟨by have:=(a.2 i c).1;omega,by have:=(a.2 i c).2;omega⟩) x.labs.length (Ka _);rw[this,Wb,List.drop_length];simp[cC]
 have f:GG r=(jN (fA 8 x.bits).data.toList,⟨q,r.r9⟩):=by
  rw[GG,b];exact jG (r:=⟨fA 8 x.bits++q,r.r9⟩) rfl
 rw[xS,f,b];simp only[vN _ g]
theorem pq {r:Rd} {a:List jD} {q:ByteArray} (h:r.rest=cD a++q) (d:ry a) (c:∀i (h:i<a.length),AC a[i].bits) (k:Nat) (b:k<=a.length):yD r k=(a.take k,⟨cD (a.drop k)++q,r.r9⟩):=
 BQ (fun _ _=>rfl) h (fun k b _ _ e=>xo e (d k b) (c k b)) k b
def eJ (s:ByteArray):Nat×Rd:=zA 1 ⟨s,false⟩
def rQ (s:ByteArray):ByteArray×Rd:=if xQ ((eJ s).1:Nat)=true then oA 1 (eJ s).2 else(ByteArray.empty,(eJ s).2)
def da (s:ByteArray):Nat×Rd:=zA 2 (rQ s).2
def lO (s:ByteArray):List jD×Rd:=if (eJ s).1=1 then yD (da s).2 (da s).1 else([],(rQ s).2)
def mQ (s:ByteArray):ByteArray×Rd:=if uQ ((eJ s).1:Nat)=true then oA 2 (lO s).2 else(ByteArray.empty,(lO s).2)
def bP (s:ByteArray):Int×Rd:=if fR ((eJ s).1:Nat)=true then(jB (zA 8 (mQ s).2).1,(zA 8 (mQ s).2).2) else(0,(mQ s).2)
def QR (s:ByteArray):vI:=⟨((eJ s).1:Nat),(rQ s).1,(mQ s).1,(bP s).1,(lO s).1⟩
def nE (s:ByteArray):vI×Bool:=if (1<=(eJ s).1/\(eJ s).1<=6)/\(bP s).2.r9=false/\aG (QR s)=s then(QR s,true) else(⟨0,ByteArray.empty,ByteArray.empty,0,[]⟩,false)
theorem xh {s q:ByteArray} {k:Nat} (h:s=fA 1 (k:Nat)++q) (a:k<256):eJ s=(k,⟨q,false⟩):=by
 rw[eJ,jG (r:=⟨s,false⟩) h,cI 1 _ (by omega)]
theorem ic {t q:ByteArray} {b:Bool} (a:t.size<=255):oA 1 ⟨oK t++q,b⟩=(t,⟨q,b⟩):=
 qK (r:=⟨oK t++q,b⟩) (by show oK t++q=_;apply wK;simp[oK]) (by omega)
theorem ie {t q:ByteArray} {b:Bool} (a:t.size<=65535):oA 2 ⟨nD t++q,b⟩=(t,⟨q,b⟩):=
 qK (r:=⟨nD t++q,b⟩) (by show nD t++q=_;apply wK;simp[nD]) (by omega)
theorem ox {v:Int} {q:ByteArray} {b:Bool} (a:AC v):jB (zA 8 ⟨fA 8 v++q,b⟩).1=v/\(zA 8 ⟨fA 8 v++q,b⟩).2=⟨q,b⟩:=by
 have:=jG (k:=8) (r:=⟨fA 8 v++q,b⟩) (v:=v) rfl;rw[this];exact⟨vN _ a,rfl⟩
theorem XN {b:ByteArray} (h:b.size=0):b=ByteArray.empty:=by
 apply wK;have:b.data.toList.length=0:=by simpa using h
 rw[Qb.1 this];rfl
theorem aBv {r:vI} (h:kO r) (J:AC r.num) (H:∀i (L:i<r.smps.length),AC r.smps[i].bits):(1<=(eJ (uS r)).1/\(eJ (uS r)).1<=6)/\(bP (uS r)).2.r9=false/\QR (uS r)=r:=by
 obtain⟨I,u,w,x,y,z,A,K,B⟩:=h;obtain⟨k,p,o,g,a⟩:=r;obtain⟨k,rfl⟩:=Int.eq_ofNat_of_zero_le (show 0<=k by simp only at I;omega);simp only at *;rw[uS];simp only;generalize D:(if fR (k:Int)=true then fA 8 g else ByteArray.empty)=j;generalize C:(if uQ (k:Int)=true then nD o else ByteArray.empty)++j=d;generalize G:(if (k:Int)=1 then fA 2 (a.length:Nat)++cD a else ByteArray.empty)++d=e;generalize F:(if xQ (k:Int)=true then oK p else ByteArray.empty)++e=l;generalize E:fA 1 (k:Int)++l=S;have c:eJ S=(k,⟨l,false⟩):=xh E.symm (by omega);have f:rQ S=(p,⟨e,false⟩):=by
  rw[rQ,c,<-F];split
  ·rw[ic z]
  ·rw[XN (u (by simp_all)),zv]
 have m:lO S=(a,⟨d,false⟩):=by
  have s:da S=zA 2 ⟨e,false⟩:=by rw[da,f]
  rw[lO,c,f,s,<-G];simp only[show((k:Int)=1)=(k=1) from propext (by omega)];split
  ·have:=jG (k:=2) (r:=⟨fA 2 (a.length:Nat)++cD a++d,false⟩) (v:=(a.length:Nat)) (q:=cD a++d) (Gb ..);rw[this,cI 2 _ (by omega),pq rfl B H a.length (Ka _),Wb,List.drop_length];simp[cD]
  ·rw[y (by omega),zv]
 have n:mQ S=(o,⟨j,false⟩):=by
  rw[mQ,c,m,<-C];split
  ·rw[ie A]
  ·rw[XN (w (by simp_all)),zv]
 have t:bP S=(g,⟨ByteArray.empty,false⟩):=by
  rw[bP,c,n,<-D];split
  ·have:=ox (v:=g) (q:=ByteArray.empty) (b:=false) J;rw[aGy]at this;simp only[this.1,this.2]
  ·rw[x (by simp_all)]
 rw[QR,t,n,m,f,c];exact⟨⟨by simp only;omega,by simp only;omega⟩,rfl,rfl⟩
theorem jf {s:ByteArray} {r:vI} (k:s.size≠0) (h:aG r=s) (j:AC r.num) (g:∀i (l:i<r.smps.length),AC r.smps[i].bits):nE s=(r,true):=by
 have d:kO r/\(uS r).size<=60000:=by
  by_cases f:kO r/\(uS r).size<=60000
  ·exact f
  ·exfalso;apply k;rw[<-h];unfold aG;rw[Oa f];rfl
 have e:uS r=s:=by rw[<-h,IX d.1 d.2]
 obtain⟨a,b,c⟩:=aBv d.1 j g;rw[e]at a b c;unfold nE;rw[Qa ⟨a,b,by rw[c];exact h⟩,c]
theorem SQ {s:ByteArray} (h:¬((1<=(eJ s).1/\(eJ s).1<=6)/\(bP s).2.r9=false/\aG (QR s)=s)):nE s=(⟨0,ByteArray.empty,ByteArray.empty,0,[]⟩,false):=by unfold nE;rw[Oa h]
theorem uc {s:ByteArray} (h:(1<=(eJ s).1/\(eJ s).1<=6)/\(bP s).2.r9=false/\aG (QR s)=s):nE s=(QR s,true):=by unfold nE;rw[Qa h]
theorem qb {w:World} {B:Nat} {e:TypeId} {size:Nat} {v:Value} {n:Nat} {xs:List Value} (h:w.ownsRow B e size v n xs):∀g,v.ownBlock=some g->B<=g:=by
 intro g a;rcases h.2 with⟨rfl,_⟩|⟨d,cap,b,rfl,c,_⟩
 ·simp[Value.ownBlock]at a
 ·simp[Value.ownBlock]at a;subst a;exact c
theorem wT:(prog.info? 187).map (fun i=>(i.zero,i.size,i.bytes))=some (some (.agg #[.string ByteArray.empty,.string ByteArray.empty,.int .i64 0]),3,40):=by kernel_rfl
structure WI (w wr:World) (C:Nat) (a1:Option Addr) (es:List kA) (f:kA) (av:Option Addr) (n cv:Nat) (xs:List Value):Prop where
 row:wr.ownsRow (w.heap.size+1) 187 3 (.slice av n cv) n xs
 ap:∀b o,a1=some ⟨b,o,none⟩→some b≠(Value.slice av n cv).ownBlock∧b<C
 sz:C≤wr.heap.size
 fi:qA wr a1 es
 fb:eA wr w.heap.size #[.string f.name,.string f.data,.int .i64 f.y9] 187
 bel:Below w.heap.size w wr
section
variable {w wr w':World} {C n cv g cap:Nat} {a1 av:Option Addr} {es:List kA} {f:kA} {xs ys:List Value}
theorem WI.later (h:WI w wr C a1 es f av n cv xs) (a:Below wr.heap.size wr w'):WI w w' C a1 es f av n cv xs:=⟨vA h.row a,h.ap,Ra h.sz a.size,h.fi.later a,h.fb.later a,nA h.bel a⟩
theorem WI.app (h:WI w wr C a1 es f av n cv xs) (O:Hid (w'.ownsRow (w.heap.size+1) 187 3 (.slice (some ⟨g,0,none⟩) (n+1) cap) (n+1) ys)) (T:Hid (gA (fun i=>w.heap.size+1<=i/\(Value.slice av n cv).ownBlock=some i) wr w')) (c:Hid ((Value.slice av n cv).ownBlock=some g\/wr.heap.size<=g)):WI w w' C a1 es f (some ⟨g,0,none⟩) (n+1) cap ys:=by
 have r:=aA h.fb;refine⟨O.out,fun b o e=>⟨fun k=>?_,(h.ap b o e).2⟩,Ra h.sz T.out.size,?_,T.out.blk h.fb (by omega),h.bel.trans (T.out.below (by omega) fun i m e=>by omega)⟩
 ·have:=(h.ap b o e).2;have:=h.sz;simp only[Value.ownBlock,Pa]at k;subst k;rcases c.out with l|l
  ·exact(h.ap b o e).1 l.symm
  ·omega
 ·rcases h.fi with d|⟨b,o,rfl,a,d⟩
  ·exact Ca d
  ·have p:=T.out.block b a fun e=>(h.ap b o rfl).1 e.2.symm;have q:∀j,w'.cell? ⟨b,j,none⟩=wr.cell? ⟨b,j,none⟩:=fun j=>World.cell?_of_block p;exact Ja ⟨b,o,rfl,Ib a T.out.size,fun i m=>by simp only[q];exact d i m⟩
end
theorem fa (a:Option Addr) (cap:Nat) (k:List kA) (f:kA) (w:World) (W:qA w a k) (K:k.length<=1048576):
 Calls prog 139 #[.slice a k.length cap,.agg #[.string f.name,.string f.data,.int .i64 f.y9]] w fun e w'=>∃v,e=.returned v/\w'.ownsRow w.heap.size 187 3 v (oG k f).length (flat (oG k f))/\Below w.heap.size w w':=by
 have HF:=bA W;clear W;go_enter func139,ntmps139;go_wp2_with fail;refine(jY a cap k f.name _ ((HF.out.later (cA _ _)).later (cA _ _)) K).mono ?_;rintro e S ⟨v1,rfl,c,u⟩;obtain⟨a1,T,rfl,q⟩:=oL c;have hes:=qQ k f.name;have H:Hid (oG k f=kE (bC k f.name) f):=rfl;generalize bC k f.name=es at *;have G:Hid (WI w S S.heap.size a1 es f (some ⟨w.heap.size+1,0,none⟩) 0 0 []):=by
  have h:=eA.later (w:=(w.alloc (.cells #[.string f.name,.string f.data,.int .i64 f.y9] 187)).alloc (.cells #[] 187)) (g:=(w.alloc (.cells #[.string f.name,.string f.data,.int .i64 f.y9] 187)).heap.size) (heap_alloc_new _ _) u;refine⟨⟨rfl,Ja ⟨w.heap.size+1,0,#[],rfl,Ka _,by show eA _ _ _ _;simpa using h,Ka _,La _,rfl,rfl⟩⟩,fun b o e=>?_,Ka _,q.files,(eA.later (eA.later (g:=w.heap.size) (heap_alloc_new w (.cells #[.string f.name,.string f.data,.int .i64 f.y9] 187)) (Below.refl _ _)) (cA _ _)).later u,nA (nA (cA _ _) (cA _ _)) u⟩;have h1:=(qb c) b (by rw[e];rfl);have h2:=(nU c) b (by rw[e];rfl);simp at h1;exact⟨by simp[Value.ownBlock];omega,h2⟩
 clear c q u;go_wp2;go_loopw [5,6,8,15] (fun o p _ i wr=>∃(j:Nat) (av:Option Addr) (n cv:Nat),j<=es.length/\i=.int .i64 j/\o=.slice av n cv/\p=.bool (rE es f j)/\n=(rI es f j).length/\Hid (WI w wr S.heap.size a1 es f av n cv (flat (rI es f j)))) (fun _ _ _ i _=>es.length-(intOf i).toNat)
 case atStart=>exact⟨0,_,0,0,La _,rfl,rfl,rfl,rfl,G.out⟩
 case round=>
  obtain⟨j,av,n,cv,hj,rfl,rfl,rfl,X,m⟩:=hrel;have M:=bA X;have hn2:n<=1048577:=by have:=af es f j;omega
  have R:=aA m.out.fb;have x0:wr.cell? ⟨w.heap.size,0,none⟩=some (.string f.name):=m.out.fb.cell 0;have x1:wr.cell? ⟨w.heap.size,1,none⟩=some (.string f.data):=m.out.fb.cell 1;have x2:wr.cell? ⟨w.heap.size,2,none⟩=some (.int .i64 f.y9):=m.out.fb.cell 2;clear X G;by_cases d:j<es.length
  ·obtain⟨b,o,rfl,hb,c0,c1,c2⟩:=m.out.fi.at d;have t:=bA (m.out.later (cA wr (.cells #[.string es[j].name,.string es[j].data,.int .i64 es[j].y9] 187)));have P:Hid (eA (wr.alloc (.cells #[.string es[j].name,.string es[j].data,.int .i64 es[j].y9] 187)) wr.heap.size #[.string es[j].name,.string es[j].data,.int .i64 es[j].y9] 187):=heap_alloc_new _ _;have J:w.heap.size+1<=(wr.alloc (.cells #[.string es[j].name,.string es[j].data,.int .i64 es[j].y9] 187)).heap.size:=by simp;omega
   have A:(rE es f j=false/\Op.bytesLess f.name.toList es[j].name.toList=true/\Op.bytesLess es[j].name.toList f.name.toList=false/\(es[j].name.toList==f.name.toList)=false)\/rE es f (j+1)=rE es f j/\rI es f (j+1)=rI es f j++[es[j]]/\(rE es f j=true\/rE es f j=false/\Op.bytesLess f.name.toList es[j].name.toList=false/\(Op.bytesLess es[j].name.toList f.name.toList=true\/(es[j].name.toList==f.name.toList)=true)):=by
    cases l:rE es f j
    ·cases r:Op.bytesLess f.name.toList es[j].name.toList
     ·refine Ja ⟨by rw[cJ d,l,r];rfl,wf d l r,Ja ⟨rfl,rfl,?_⟩⟩;by_cases e:es[j].name.toList=f.name.toList
      ·right;simpa using e
      ·left;exact gK _ _ r (Ne.symm e)
     ·exact Ca ⟨rfl,rfl,qM r,by rw[Yf];intro e;rw[e,tE]at r;exact absurd r (by simp)⟩
    ·exact Ja ⟨by rw[cJ d,l];rfl,ag d l,Ca rfl⟩
   rcases A with⟨l,r,hg1,hg2⟩|⟨L,Y,A⟩
   ·have F:=bA (wg d l r);have N:Hid (rE es f (j+1)=true):=by show _=_;rw[cJ d,r];simp
    go_wp2_with(first
     |(at_builtin;refine cK rfl _ _ rfl underlying76 wT rfl (by omega) (by omega) rfl t.out.row rfl (by simp) (cs:=#[.string f.name,.string f.data,.int .i64 f.y9]) rfl (by simp[Value.oneCell']) (by omega) (by exact J) ?_;intro V y D I B E;have z:=bA (t.out.app I B E);have x:=B.out.blk P.out (fun e=>absurd (nU m.out.row _ e.2) (by omega));have k0:D.cell? ⟨wr.heap.size,0,none⟩=some (.string es[j].name):=x.cell 0;have k1:D.cell? ⟨wr.heap.size,1,none⟩=some (.string es[j].data):=x.cell 1;have k2:D.cell? ⟨wr.heap.size,2,none⟩=some (.int .i64 es[j].y9):=x.cell 2;have Q:w.heap.size+1<=D.heap.size:=aA z.out.fb;clear x)
     |(at_builtin;refine cK rfl _ _ rfl underlying76 wT rfl (by omega) (by omega) rfl z.out.row rfl rfl (cs:=#[.string es[j].name,.string es[j].data,.int .i64 es[j].y9]) rfl (by simp[Value.oneCell']) (by omega) (by exact Q) ?_;intro g6 U w6 O6 T6 Z))
    refine⟨⟨j+1,_,n+1+1,_,by omega,by go_num,rfl,by rw[N.out],by rw[F.out,Za,Za,<-M.out];rfl,?_⟩,by simp[intOf];omega⟩;rw[F.out,flat_append,flat_append,uV,uV];exact bA (z.out.app O6 T6 Z)
   have F:=bA Y;have N:=bA L;clear Y L;rcases A with l|⟨l,r,hg|hg⟩
   all_goals
    rw[l]at N;go_wp2_with(at_builtin;refine cK rfl _ _ rfl underlying76 wT rfl (by omega) (by omega) rfl t.out.row rfl (by simp) (cs:=#[.string es[j].name,.string es[j].data,.int .i64 es[j].y9]) rfl (by simp[Value.oneCell']) (by omega) (by exact J) ?_;intro V y D I B E);refine⟨⟨j+1,_,n+1,_,by omega,by go_num,rfl,by rw[N.out],by rw[F.out,Za,<-M.out];rfl,?_⟩,by simp[intOf];omega⟩;rw[F.out,flat_append,uV];exact bA (t.out.app I B E)
  ·have s:Hid (j=es.length):=by show _=_;omega
   cases l:rE es f j
   ·have O:Hid (oG k f=rI es f j++[f]):=by show _=_;rw[H.out,s.out];exact we (by rw[<-s.out];exact l)
    go_wp2_with(at_builtin;refine cK rfl _ _ rfl underlying76 wT rfl (by omega) (by omega) rfl m.out.row rfl rfl (cs:=#[.string f.name,.string f.data,.int .i64 f.y9]) rfl (by simp[Value.oneCell']) (by omega) (by exact R) ?_;intro V y D I B E);go_ret;rw[O.out,Za,<-M.out,flat_append,uV];have h:=m.out.app I B E;exact⟨_,rfl,bf (B':=w.heap.size) h.row (by omega),h.bel⟩
   ·have O:Hid (oG k f=rI es f j):=by show _=_;rw[H.out,s.out];exact vz (by rw[<-s.out];exact l)
    go_wp2;go_ret;rw[O.out,<-M.out];exact⟨_,rfl,bf (B':=w.heap.size) m.out.row (by omega),m.out.bel⟩
theorem dO (n:Int) (w:World):
 Calls prog 115 #[.int .i64 n] w fun e f=>e=.returned (.string (wQ n))/\Below w.heap.size w f:=by
 by_cases h:1<=n/\n<=999999
 ·have k:xA n 1 999999=true:=by unfold xA;simp;omega
  have E:Hid (wQ n=aFp n.toNat):=Qa h;obtain⟨N,rfl⟩:=Int.eq_ofNat_of_zero_le (show 0<=n by omega);have o:N<=999999:=by omega
  have p:=tr;clear h;go_enter func115,ntmps115;go_wp2_with(go_at_call 25;refine(hC _ _ _ _).mono ?_;rintro e f ⟨rfl,hw⟩;replace hw:=hw.symm;subst hw);go_loopw [0,3,4] (fun m s i wr=>∃(j M:Nat) (c:ByteArray),j<=6/\i=.int .i64 j/\m=.int .i64 M/\s=.string c/\Hid (M=N / 10 ^ j)/\M<=999999/\c.size=j/\Hid (c.data.toList=gl N j)/\Below w.heap.size w wr) (fun _ _ i _=>6-(intOf i).toNat)
  case atStart=>exact⟨0,N,ByteArray.empty,by omega,rfl,rfl,rfl,by show _=_;simp,o,rfl,rfl,Below.refl _ _⟩
  case round=>
   obtain⟨j,M,c,r,rfl,rfl,rfl,g,l,d,b,a⟩:=hrel;by_cases q:j<6
   ·go_wp2;refine⟨⟨j+1,M / 10,_,by omega,by go_num,by go_num,rfl,?_,by omega,?_,?_,nA a (cA _ _)⟩,by simp[intOf];omega⟩
    ·show _=_;rw[g.out,Ef,Md]
    ·rw[VP,d]
    ·show _=_;rw[aCe,b.out,gl,g.out]
   ·go_wp2;go_ret;have e:j=6:=by omega
    subst e;refine⟨Fd (fun x=>Ending.returned (.string x)) ?_,a⟩;rw[E.out,aFp];refine ou _ _ ?_;rw[Cd,<-b.out];simp
 ·have k:xA n 1 999999=false:=by unfold xA;simp;omega
  have E:Hid (wQ n=ByteArray.empty):=Oa h;go_enter func115,ntmps115;go_wp2_with(go_at_call 25;refine(hC _ _ _ _).mono ?_;rintro e f ⟨rfl,hw⟩;replace hw:=hw.symm;subst hw);go_ret;exact⟨Fd (fun x=>Ending.returned (.string x)) E.out.symm,Below.refl _ _⟩
theorem YE (s:ByteArray) (w:World) (k:s.size<=maxLen):
 Calls prog 49 #[.string s] w fun e n=>e=.returned (.int .i64 (bG s:Nat))/\Below w.heap.size w n:=by
 have m:Hid _:=k;clear k;go_enter func49,ntmps49;go_wp2_with fail;refine(ZJ _).mono ?_;rintro e l ⟨b,c,rfl,_,j,a,d⟩;have g:Hid (eA l b c 214/\(∀i,i<256->c[i]?=some (.int .u32 (ea i:Nat)))/\Below w.heap.size w l):=⟨j,a,d⟩
 clear j a d;go_wp2_with fail;refine(ia b c s _ m.out g.out.1 g.out.2.1).mono ?_;rintro e o ⟨rfl,f⟩;have h:Hid _:=nA g.out.2.2 f;clear f;go_wp2;go_ret;exact⟨rfl,h.out⟩
def cO:Option Nat->Int
 |none=>-1
 |some p=>(p:Int)
def cU (s:ByteArray) (n:Nat):Option Nat->Nat×Option Nat
 |none=>(0,none)
 |some p=>if p+n<=s.size then(jN (fI s p n),some (p+n)) else(0,none)
def iG (s:ByteArray) (n:Nat):Option Nat->ByteArray×Option Nat
 |none=>(ByteArray.empty,none)
 |some p=>match tF s p n with
  |none=>(ByteArray.empty,none)
  |some (t,q)=>(t,some q)
theorem fP (s:ByteArray) (n p:Nat):cU s n (some p)=if p+n<=s.size then(jN (fI s p n),some (p+n)) else(0,none):=rfl
theorem aW {s:ByteArray} {n p:Nat} {t:ByteArray} {q:Nat} (h:tF s p n=some (t,q)):iG s n (some p)=(t,some q):=by
 show(match tF s p n with|none=>(ByteArray.empty,none)|some (t,q)=>(t,some q))=_;rw[h]
theorem cX {s:ByteArray} {n p:Nat} (h:tF s p n=none):iG s n (some p)=(ByteArray.empty,none):=by
 show(match tF s p n with|none=>(ByteArray.empty,none)|some (t,q)=>(t,some q))=_;rw[h]
def GT (s:ByteArray) (r:Rd) (p:Nat):Prop:=r.r9=false/\p<=s.size/\r.rest.data.toList=s.data.toList.drop p
theorem jX {s:ByteArray} {r:Rd} {p n:Nat} (h:GT s r p) (g:(zA n r).2.r9=false):cU s n (some p)=((zA n r).1,some (p+n))/\GT s (zA n r).2 (p+n):=by
 obtain⟨m,o,e⟩:=h;obtain⟨l,c,d⟩:=sG (n:=n) (r:=r) g;have q:r.rest.size=s.size-p:=by rw[pH,e,Ad,<-pH]
 have k:r.rest.size=n+(uB n r).2.rest.size:=by rw[d,Ga,c]
 have a:p+n<=s.size:=by omega
 have b:(uB n r).1.data.toList++(uB n r).2.rest.data.toList=s.data.toList.drop p:=by rw[<-e,<-xK,<-d]
 have f:(uB n r).1.data.toList.length=n:=by rw[<-pH];exact c
 have i:(uB n r).1.data.toList=fI s p n:=by
  unfold fI;rw[<-b];exact(Tg f).symm
 have j:(uB n r).2.rest.data.toList=s.data.toList.drop (p+n):=by
  have:(s.data.toList.drop p).drop n=s.data.toList.drop (p+n):=by rw[List.drop_drop]
  rw[<-this,<-b];exact(List.drop_left' f).symm
 refine⟨?_,g,a,j⟩;rw[fP,Qa a,zA,i]
theorem LV {s:ByteArray} {r:Rd} {p n:Nat} (h:GT s r p) (a:(oA n r).2.r9=false):∃q,iG s n (some p)=((oA n r).1,some q)/\GT s (oA n r).2 q:=by
 have c:(zA n r).2.r9=false:=by
  rw[oA]at a;exact(sG a).1
 obtain⟨d,t,e,f⟩:=jX h c;rw[oA]at a |-
 obtain⟨u,i,j⟩:=sG a;have v:(zA n r).2.rest.size=s.size-(p+n):=by rw[pH,f,Ad,<-pH]
 have o:(zA n r).2.rest.size=(zA n r).1+(uB (zA n r).1 (zA n r).2).2.rest.size:=by rw[j,Ga,i]
 have g:(uB (zA n r).1 (zA n r).2).1.data.toList++(uB (zA n r).1 (zA n r).2).2.rest.data.toList=s.data.toList.drop (p+n):=by rw[<-f,<-xK,<-j]
 have k:(uB (zA n r).1 (zA n r).2).1.data.toList.length=(zA n r).1:=by rw[<-pH];exact i
 have b:pS s p n=(zA n r).1:=by
  rw[fP,Qa e]at d;exact(Prod.mk.inj d).1
 have l:s.extract (p+n) (p+n+(zA n r).1)=(uB (zA n r).1 (zA n r).2).1:=by
  apply wK;rw[vH,List.drop_take,<-g,show p+n+(zA n r).1-(p+n)=(zA n r).1 by omega];exact Tg k
 have m:(uB (zA n r).1 (zA n r).2).2.rest.data.toList=s.data.toList.drop (p+n+(zA n r).1):=by
  have:(s.data.toList.drop (p+n)).drop (zA n r).1=s.data.toList.drop (p+n+(zA n r).1):=by rw[List.drop_drop]
  rw[<-this,<-g];exact(List.drop_left' k).symm
 refine⟨p+n+(zA n r).1,?_,a,by omega,m⟩;apply aW;unfold tF;rw[b,Qa ⟨e,by omega⟩,l]
theorem aAz (k:Nat) (r:Rd):(zA k r).2=(uB k r).2:=by rw[zA]
theorem yc (k:Nat) (r:Rd):(oA k r).2=(uB (zA k r).1 (zA k r).2).2:=by rw[oA]
theorem fv {k:Nat} {r:Rd} (h:(zA k r).2.r9=false):r.r9=false:=by
 rw[aAz]at h;exact(sG h).1
theorem VV {k:Nat} {r:Rd} (h:(oA k r).2.r9=false):r.r9=false:=by
 rw[yc]at h;exact fv (sG h).1
def qz (k:Int) (j:Nat):Bool:=match j with
 |0=>xQ k
 |1=>k==1
 |2=>uQ k
 |3=>fR k
 |_=>k==1||k==2||k==3||k==4
def tN (w:World):Prop:=0<w.heap.size/\∀i j,i<7->j<5->w.cell? ⟨0,i*5+j,none⟩=some (.bool (qz (i:Int) j))
theorem tN.later {w b:World} (h:tN w) (a:Below w.heap.size w b):tN b:=⟨Ib h.1 a.size,fun i j c d=>(a.cell h.1).trans (h.2 i j c d)⟩
theorem tN.but {w b:World} {B:Nat} (h:tN w) (a:dB B w b) (c:0≠B):tN b:=
 ⟨Ib h.1 a.size,fun i j d e=>(World.cell?_of_block (a.block _ h.1 c)).trans (h.2 i j d e)⟩
