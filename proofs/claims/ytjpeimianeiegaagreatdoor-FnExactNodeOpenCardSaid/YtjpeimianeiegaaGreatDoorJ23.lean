import Derived.Test.YtjpeimianeiegaaGreatDoorJ19
import Derived.Test.YtjpeimianeiegaaGreatDoorJ20
set_option maxRecDepth 100000
set_option maxHeartbeats 8000000
namespace Go.Proofs.YtjpeimianeiegaaGreatDoor
open Go.RowKit Tryz
theorem vk (b a:ByteArray) (c:Int) (w:World):
 Calls prog 57 #[.agg #[.string b,.string a,.int .i64 c]] w fun e d=>e=.returned (.agg #[.string b,.string a,.int .i64 c])/\Below w.heap.size w d:=by
 go_enter func57,ntmps57;go_wp2;exact bodyPost_ret (v:=.agg #[.string b,.string a,.int .i64 c]) (by simp[results,results57,go_sem]) rfl ⟨rfl,(((Below.refl _ _).alloc (Da _) _).alloc (by simp) _).alloc (by simp;omega) _⟩
theorem aAw:(prog.info? 98).map (fun i=>(i.zero,i.size,i.bytes))=some (some (.agg #[.string ByteArray.empty,.string ByteArray.empty,.int .i64 0]),3,40):=by kernel_rfl
theorem tf (n:Nat) (g:n<=1048576) (w:World):
 (Instr.makeSlice 28 (.int .i64 (n:Int)) (.int .i64 (n:Int))).run prog w=.ok (.slice (some ⟨w.heap.size,0,none⟩) n n) (w.alloc (.cells (madeCells #[.string ByteArray.empty,.string ByteArray.empty,.int .i64 0] (n*3)) 98)):=by
 obtain⟨i,d,a⟩:=Ib.1 aAw;simp only[Hb]at a;obtain⟨f,e,c⟩:=a;have b:=run_make (P:=prog) w 28 98 i _ underlying28 d f .i64 .i64 n n (by omega) (Pd _) (by rw[c];omega) (by omega);simp only[Mc,e]at b;exact b
def GD (w:World) (g n:Nat) (b:List dA) (k:Nat):Prop:=∃a:Array Value,w.heap[g]?=some (.cells a 98 (0,0))/\a.size=n*3/\
 ∀i (h:i<b.length),i<k->a[i*3]?=some (.string b[i].name)/\a[i*3+1]?=some (.string b[i].data)/\a[i*3+2]?=some (.int .i64 b[i].y9)
theorem GD.later {w c:World} {g n k:Nat} {b:List dA} {B:Nat} (h:GD w g n b k) (f:Below B w c) (i:g<B):GD c g n b k:=by
 obtain⟨a,d,e⟩:=h;exact⟨a,by rw[f.block g i];exact d,e⟩
theorem GD.cells {w:World} {g n k:Nat} {c:List dA} (h:GD w g n c k) {j:Nat} (e:j<n*3):(∃v,w.cell? ⟨g,j,none⟩=some v)/\w.frozen? ⟨g,j,none⟩=false:=by
 obtain⟨a,b,d,_⟩:=h;refine⟨⟨a[j],?_⟩,frozen_of_row w g j a _ b⟩;rw[cell_of_row w g j a _ _ b];exact Fc (by omega)
theorem GD.step {w:World} {g n k:Nat} {a:List dA} (h:GD w g n a k) (q:k<a.length) (r:a.length<=n):
 GD (((w.setCell ⟨g,k*3,none⟩ (.string a[k].name)).setCell ⟨g,k*3+1,none⟩ (.string a[k].data)).setCell ⟨g,k*3+2,none⟩ (.int .i64 a[k].y9)) g n a (k+1):=by
 obtain⟨f,j,l,m⟩:=h;refine⟨_,heap_setCell_same _ _ _ _ _ _ (heap_setCell_same _ _ _ _ _ _ (heap_setCell_same _ _ _ _ _ _ j)),by simp[l],fun i o p=>?_⟩;by_cases e:i=k
 ·subst e;refine⟨?_,?_,?_⟩<;>simp[Wa]<;>omega
 ·obtain⟨b,c,d⟩:=m i o (by omega);refine⟨?_,?_,?_⟩
  ·rw[Aa (by omega),Aa (by omega),Aa (by omega)];exact b
  ·rw[Aa (by omega),Aa (by omega),Aa (by omega)];exact c
  ·rw[Aa (by omega),Aa (by omega),Aa (by omega)];exact d
theorem GD.done {w:World} {g:Nat} {a:List dA} (h:GD w g a.length a a.length):iA w (some ⟨g,0,none⟩) a:=by
 obtain⟨b,c,m,k⟩:=h;have l:g<w.heap.size:=by
  rcases Ac g w.heap.size with h|h
  ·exact h
  ·rw[Tc h]at c;exact absurd c (by simp)
 refine Ea ⟨g,0,rfl,l,fun i d=>?_⟩;obtain⟨e,f,j⟩:=k i d d;simp only[cell_of_row w g _ b _ _ c,Oa];exact⟨e,f,j⟩
theorem pg (a:Option Addr) (u:Nat) (c:List dA) (w:World) (y:iA w a c) (p:c.length<=1048576):
 Calls prog 25 #[.slice a c.length u] w fun e r=>e=.returned (.slice (some ⟨w.heap.size,0,none⟩) c.length c.length)/\(∃m t,r.heap[w.heap.size]?=some (.cells m t (0,0)))/\iA r (some ⟨w.heap.size,0,none⟩) c/\Below w.heap.size w r:=by
 have z:Hid (iA w a c):=y;clear y;have v:=tf c.length p;go_enter func25,ntmps25;go_wp2;go_loopw [4] (fun i wr=>∃k:Nat,k<=c.length/\i=.int .i64 k/\GD wr w.heap.size c.length c k/\Below w.heap.size w wr/\w.heap.size<wr.heap.size) (fun i _=>c.length-(intOf i).toNat)
 case atStart=>exact⟨0,Ha _,rfl,⟨_,heap_alloc_new _ _,size_madeCells _ _,fun i _ h=>absurd h (by omega)⟩,(Below.refl _ _).alloc (Da _) _,by simp⟩
 case round=>
  obtain⟨k,K,rfl,l,f,x⟩:=hrel;have d:Hid (GD wr w.heap.size c.length c k):=l;clear l v;by_cases q:k<c.length
  ·obtain⟨b,o,rfl,J,A,B,C⟩:=(z.out.later f).at q;go_wp2_with fail;refine(vk _ _ _ _).mono ?_;rintro e r ⟨rfl,n⟩;have g:=d.out.later n x;obtain⟨⟨L,D⟩,G⟩:=g.cells (j:=k*3) (by omega);obtain⟨⟨M,E⟩,H⟩:=g.cells (j:=k*3+1) (by omega);obtain⟨⟨N,F⟩,I⟩:=g.cells (j:=k*3+2) (by omega);have s:Hid (GD r w.heap.size c.length c k):=g;clear g;go_wp2;exact⟨⟨k+1,by omega,by go_num,s.out.step q (Da _),(((f.trans (n.mono f.size)).setCell (Da _) _).setCell (Da _) _).setCell (Da _) _,by have:=n.size;simp;omega⟩,by simp[intOf];omega⟩
  ·go_wp2;go_ret;have e:k=c.length:=by omega
   exact⟨rfl,by obtain⟨m,h,_⟩:=d.out;exact⟨m,_,h⟩,by have:=d.out;rw[e]at this;exact this.done,f⟩
theorem vj (a:Option Addr) (j:Nat) (b:List dA) (c k s x:Int) (u:Bool) (w:World) (y:iA w a b) (o:b.length<=1048576):
 Calls prog 7 #[.agg #[.slice a b.length j,.int .i64 c,.int .i64 k,.int .i64 s,.int .i64 x,.bool u]] w fun e i=>
  ∃g,e=.returned (.agg #[.slice (some ⟨g,0,none⟩) b.length b.length,.int .i64 c,.int .i64 k,.int .i64 s,.int .i64 x,.bool u])/\w.heap.size<=g/\(∃d t,i.heap[g]?=some (.cells d t (0,0)))/\iA i (some ⟨g,0,none⟩) b/\Below w.heap.size w i:=by
 have A:Hid (iA w a b):=y;clear y;go_enter func7,ntmps7;go_wp2_with fail;refine(pg a j b _ (A.out.later ((((Below.refl _ _).alloc (Da _) _).alloc (by simp) _).alloc (by simp;omega) _)) o).mono ?_;rintro e i ⟨rfl,p,m,f⟩;have r:Hid (∃d t,i.heap[w.heap.size+1+1+1]?=some (.cells d t (0,0))):=by show ∃_,_;simpa using p
 clear p;obtain⟨C,F⟩:=aNc f;have n:iA i (some ⟨w.heap.size+1+1+1,0,none⟩) b:=by simpa using m
 have q:Hid (iA i (some ⟨w.heap.size+1+1+1,0,none⟩) b):=n;clear n;clear m;have l:=((((Below.refl _ _).alloc (Da _) _).alloc (by simp) _).alloc (by simp;omega) _).trans (f.mono (by simp;omega));have z:Hid _:=l;clear l f;go_wp2;refine bodyPost_ret (v:=.agg #[.slice (some ⟨w.heap.size+1+1+1,0,none⟩) b.length b.length,.int .i64 c,.int .i64 k,.int .i64 s,.int .i64 x,.bool u]) (by simp[results,results7,go_sem,C]) rfl ⟨w.heap.size+1+1+1,rfl,by omega,?_,?_,?_⟩
 ·obtain⟨B,E,D⟩:=r.out;refine⟨B,E,?_⟩;iterate 12 (refine(Below.heap_setCell _ _ _ _ (by first|omega|(simp;done)|(simp;omega))).trans ?_)
  exact D
 ·have h:=q.out;iterate 12 (refine iA.setCell ?_ (by simp) _)
  exact h
 ·have h:=z.out;iterate 12 (refine Below.setCell ?_ (by first|(simp;done)|(simp;omega)) _)
  exact h
theorem aIu {n:Nat} {r:Rd} (h:(wB n r).2.r9=false):(wB n r).1.size=n:=by
 unfold wB at *;split at h
 ·simp at h
 ·rename_i a;rw[Ca a];simp;omega
theorem pc {k:Nat} {r:Rd} (h:(yA k r).2.r9=false):(yA k r).2.rest.size+k+(yA k r).1.size=r.rest.size:=by
 rw[yA]at *;have a:(gB k r).2.r9=false:=by
  cases hs:(gB k r).2.r9 with
  |false=>rfl
  |true=>rw[aW hs]at h;exact h
 have b:=xK a;have c:=XP h;have d:=aIu h;omega
theorem aOm {r:Rd} (h:(TD r).2.r9=false):(TD r).2.rest.size+(xQ (TD r).1).size=r.rest.size:=by
 rw[cQ];rw[au];rw[qV]at *;have a:(yA 2 r).2.r9=false:=by
  cases hs:(yA 2 r).2.r9 with
  |false=>rfl
  |true=>rw[uD (k:=8) hs]at h;exact h
 have b:=xK h;have c:=pc a;show _+(10+(yA 2 r).1.size)=_;omega
theorem aCv (r:Rd):qF r 0=([],r):=rfl
theorem mo {r:Rd} (k:Nat):(qF r k).2.r9=false->(qF r k).2.rest.size+(dC (qF r k).1).size=r.rest.size:=by
 induction k with
 |zero=>intro _;rw[aCv];simp[dC]
 |succ k c=>
  intro h;have b:(qF r k).2.r9=false:=by
   cases hs:(qF r k).2.r9 with
   |false=>rfl
   |true=>rw[sV hs (k+1) (by omega)]at h;exact h
  have d:=c b;rw[IP]at h |-
  have a:(TD (qF r k).2).2.r9=false->_:=aOm (r:=(qF r k).2);generalize TD (qF r k).2=A at *;have f:=a h;have e:dC ((qF r k).1++[A.1])=dC (qF r k).1++xQ A.1:=by rw[mM];simp[dC]
  show A.2.rest.size+(dC ((qF r k).1++[A.1])).size=_;rw[e,Ia];omega
theorem nY (t:eA):(lH t).size=17+t.name.size+(dC t.m9).size+(dC t.s9).size:=by rw[mY,qJ,qJ];omega
theorem aMp {r:Rd} (h:(tL r).2.r9=false):(tL r).2.rest.size+(lH (tL r).1).size=r.rest.size:=by
 rw[nY,ox];rw[uU]at *;have d:(LK r).2.r9=false:=by
  cases hs:(LK r).2.r9 with
  |false=>rfl
  |true=>rw[FW hs]at h;exact h
 have c:(FU r).2.r9=false:=by
  cases hs:(FU r).2.r9 with
  |false=>rfl
  |true=>rw[FC hs]at d;exact d
 have b:(LJ r).2.r9=false:=by
  cases hs:(LJ r).2.r9 with
  |false=>rfl
  |true=>rw[FV hs]at c;exact c
 have a:(JE r).2.r9=false:=by
  cases hs:(JE r).2.r9 with
  |false=>rfl
  |true=>rw[DT hs]at b;exact b
 have e:(GC r).2.r9=false:=by
  cases hs:(GC r).2.r9 with
  |false=>rfl
  |true=>rw[FT hs]at a;exact a
 have f:(GC r).2.rest.size+1+(GC r).1.size=r.rest.size:=by rw[GC]at e |-;exact pc (k:=1) e
 have g:(JE r).2.rest.size+8=(GC r).2.rest.size:=by rw[JE]at a |-;exact xK (k:=8) a
 have i:(LJ r).2.rest.size+4=(JE r).2.rest.size:=by rw[LJ]at b |-;exact xK (k:=4) b
 have j:(FU r).2.rest.size+(dC (FU r).1).size=(LJ r).2.rest.size:=by rw[FU]at c |-;exact mo _ c
 have l:(LK r).2.rest.size+4=(FU r).2.rest.size:=by rw[LK]at d |-;exact xK (k:=4) d
 have m:(TZ r).2.rest.size+(dC (TZ r).1).size=(LK r).2.rest.size:=by rw[TZ]at h |-;exact mo _ h
 generalize TZ r=A at *;generalize FU r=C at *;generalize GC r=D at *;show _+(17+D.1.size+(dC C.1).size+(dC A.1).size)=_;omega
theorem aHv {r:Rd} (k:Nat):(jJ r k).2.r9=false->(jJ r k).2.rest.size+(aC (jJ r k).1).size=r.rest.size:=by
 induction k with
 |zero=>intro _;rw[sN];simp[aC]
 |succ k c=>
  intro h;have b:(jJ r k).2.r9=false:=by
   cases hs:(jJ r k).2.r9 with
   |false=>rfl
   |true=>rw[tV hs (k+1) (by omega)]at h;exact h
  have d:=c b;rw[IQ]at h |-
  have a:(tL (jJ r k).2).2.r9=false->_:=aMp (r:=(jJ r k).2);generalize tL (jJ r k).2=A at *;have f:=a h;have e:aC ((jJ r k).1++[A.1])=aC (jJ r k).1++lH A.1:=by rw[aI];simp[aC]
  show A.2.rest.size+(aC ((jJ r k).1++[A.1])).size=_;rw[e,Ia];omega
theorem yg {s:ByteArray} (h:(oE s).2.r9=false):(aC (oE s).1).size<=s.size:=by
 have a:(zj s).2.rest.size<=s.size:=by rw[zj];exact(eJ 4 ⟨s,false⟩).2.2
 have b:(BO s).2.rest.size<=(zj s).2.rest.size:=by rw[BO];exact nN 8 _
 have c:(yV s).2.rest.size<=(BO s).2.rest.size:=by rw[yV];exact nN 8 _
 have d:(du s).2.rest.size<=(yV s).2.rest.size:=by rw[du];exact nN 4 _
 have e:(oE s).2.rest.size+(aC (oE s).1).size=(du s).2.rest.size:=by rw[oE]at h |-;exact aHv _ h
 omega
theorem aKg (a:List eA) (k:Nat) (h:k<a.length):(lH a[k]).size<=(aC a).size:=by
 have e:=AH a k h;have b:=aI (a.take (k+1)) (a.drop (k+1));rw[Xa,e]at b;rw[b,Ia,Ia];omega
theorem xn (a:List fA) (j:Nat) (h:j<a.length):a[j].s.size<=(dC a).size:=by
 have e:=OD a j h;have b:=mM (a.take (j+1)) (a.drop (j+1));have c:=cQ a[j];rw[Xa,e]at b;rw[b,Ia,Ia];omega
theorem mi (a:List eA) (i:Nat) (h:i<a.length):a[i].name.size<=(aC a).size/\a[i].m9.length*10<=(aC a).size/\a[i].s9.length*10<=(aC a).size/\(∀j (b:j<a[i].m9.length),a[i].m9[j].s.size<=(aC a).size)/\(∀j (b:j<a[i].s9.length),a[i].s9[j].s.size<=(aC a).size):=by
 have c:=aKg a i h;have d:=nY a[i];have e:=qJ a[i].m9;have f:=qJ a[i].s9;refine⟨by omega,by omega,by omega,fun j b=>?_,fun j b=>?_⟩
 ·have:=xn a[i].m9 j b;omega
 ·have:=xn a[i].s9 j b;omega
theorem NV:∀(a:List eA),17*a.length<=(aC a).size
 |[]=>by simp
 |t::q=>by
  have h:=NV q;have e:=mY t;show 17*(q.length+1)<=(lH t++aC q).size;rw[Ia];omega
def pJ (c:nB) (s:ByteArray):Int×Int×List eA×Bool:=
 if (oE s).2.r9=false/\yI (zA (BO s).1) (zA (yV s).1) (oE s).1=s/\iB c (zA (yV s).1) (oE s).1=true then(zA (BO s).1,zA (yV s).1,(oE s).1,true) else(0,0,[],false)
theorem NZ {c:nB} {s:ByteArray} (h:(oE s).2.r9=true):pJ c s=(0,0,[],false):=by unfold pJ;rw[Ca];rw[h];simp
theorem wh {c:nB} {s:ByteArray} (h:yI (zA (BO s).1) (zA (yV s).1) (oE s).1≠s):pJ c s=(0,0,[],false):=by unfold pJ;rw[Ca];exact fun hh=>h hh.2.1
theorem wk {c:nB} {s:ByteArray} (h:iB c (zA (yV s).1) (oE s).1=false):pJ c s=(0,0,[],false):=by unfold pJ;rw[Ca];rw[h];simp
theorem wd {c:nB} {s:ByteArray} (a:(oE s).2.r9=false) (b:yI (zA (BO s).1) (zA (yV s).1) (oE s).1=s) (d:iB c (zA (yV s).1) (oE s).1=true):pJ c s=(zA (BO s).1,zA (yV s).1,(oE s).1,true):=by unfold pJ;rw[Ga ⟨a,b,d⟩]
theorem aKf {c:nB} {s:ByteArray} {a b:Int} {d:List eA} (f:s.size≠0) (q:s.size<=1000000000) (hw:GF b) (o:yz d) (h:yI a b d=s) (m:iB c b d=true):pJ c s=(a,b,d,true):=by
 have e:FI a d:=by
  by_cases e:FI a d
  ·exact e
  ·rw[FG e]at h;rw[<-h]at f;exact absurd rfl f
 have r:(aC d).size<=s.size:=by
  rw[<-h,MV e,Ia,pI,Ia];omega
 have p:=NV d;obtain⟨k,g,_,j,l⟩:=aIo e hw o (by omega) (fun i n=>by have:=mi d i n;omega);rw[h]at k g j l;have:=wd (c:=c) l (by rw[k,g,j];exact h) (by rw[g,j];exact m);rw[this,k,g,j]
section
open Go.Maps
theorem MZ (w:World):(zeroValue 3).run prog w=.ok (.int .i64 0) w:=by kernel_rfl
theorem uB {H:Type} {P:Program} {w:World} {k:TypeId} {R:Value->Option (DataW H×List MemPlace)} {b n g:Nat} {D:DataW H} {c:Array Value} {t:TypeId} (h:w.ownsMap P k R b n D) (d:lA w g c t):b≠g:=by
 intro e;subst e;obtain⟨i,a,f,_⟩:=h;rw[lA,f]at d;simp at d
theorem wE {H:Type} {P:Program} {w:World} {k:TypeId} {R:Value->Option (DataW H×List MemPlace)} {b n:Nat} {D:DataW H} {B:Nat} {e:TypeId} {a:Nat} {v:Value} {m:Nat} {j:List Value} (h:w.ownsMap P k R b n D) (i:w.ownsRow B e a v m j):v.ownBlock≠some b:=by
 intro c;rcases i.2 with⟨rfl,_⟩|⟨l,d,f,rfl,_,g,_⟩
 ·cases c
 ·simp only[Value.ownBlock,Ja]at c;subst c;exact uB h g rfl
theorem qP.newLims {w f:World} {S:Nat->Prop} {x:Nat} {t:eA} {M c m i n:Nat} {l:Value} {Q:List (fA×Nat)} {k:List gG} {D E:DataW Unit} {d:List fA} (h:qP w S x t M c m i l Q k D) (b:gA (·=c) w f)
 (a:f.ownsMap prog 9 (plainElem prog 3) c n E) (o:E=oC (d.map fun p=>(p.s,qG p.n))) (u:vB (·.s) d):lC f S x { t with m9:=d} M:=by
 subst o;refine⟨c,m,i,l,Q,k,D,?_⟩;exact { h with
  blk:=b.blk h.blk (uB h.lims h.blk).symm
  lims:=by have:=SA a;rw[fL]at this;exact this
  s9:=b.map h.s9 h.d1.symm
  cnts:=b.map h.cnts h.d2.symm
  cells:=fun q j=>b.blk (h.cells q j) (uB h.lims (h.cells q j)).symm
  row:=b.row h.row (fun g r e=>by subst e;exact wE h.lims h.row r)
  rm:=u}
theorem aJp {w w2 F L:World} {S:Nat->Prop} {x:Nat} {t:eA} {M V K C:Nat} {N:Value} {Q:List (fA×Nat)} {v:List gG} {D:DataW Unit} {key:ByteArray} {d c:Int} {g y:Nat} (h:qP w S x t M V K C N Q v D) (u:zB (·.s) key t.s9=none)
 (o:gA (fun k=>k=K\/k=C) w F) (I:w2.ownsMap prog 9 kD K (Q.length+1) (DataW.put (oC (Q.map fun q=>(q.1.s,eE q.2))) (kL key) (eE w.heap.size))) (t3:gA (·=C) w2 F)
 (J:F.ownsMap prog 9 (plainElem prog 3) C (M+1) (D.put (kL (tC key)) (.lit (.int .i64 (c+1))))) (b3:lA F w.heap.size #[.string key,.int .i64 d] 113) (hc:c=(pH tC t.s9 (tC key):Nat))
 (O:lA L x (#[.int .i64 t.l9,.map (some V),.map (some K),.map (some C),N].setIfInBounds 4 (.slice (some ⟨g,0,none⟩) (v.length+1) y)) 187)
 (T:L.ownsRow 0 320 2 (.slice (some ⟨g,0,none⟩) (v.length+1) y) (v.length+1) (mI (pP v ⟨w.heap.size,d⟩))) (r:N.ownBlock=some g\/F.heap.size<=g) (E:gA (fun k=>k=x\/N.ownBlock=some k) F L):
 lC L (fun g=>S g\/w.heap.size<=g) x { t with s9:=qA (·.s) ⟨key,d⟩ t.s9} (M+1)/\gA S w L:=by
 have hxl:=aA h.blk;have hbl:=aA b3;have a0:=uB h.s9 h.blk;have b0:=uB h.cnts h.blk;have Z:=uB h.lims h.blk;have W:=wE h.lims h.row;have X:=wE h.s9 h.row;have Y:=wE h.cnts h.row;have n:=fun q f=>aA (h.cells q f);have A:zB (fun q:fA×Nat=>q.1.s) key Q=none:=by
  have:=eQ (key:=fun q:fA×Nat=>q.1.s) (key':=fun p:fA=>p.s) (fun q=>q.1) (fun _=>rfl) key Q;rw[h.q1,u]at this;cases hg:zB (fun q:fA×Nat=>q.1.s) key Q with
  |none=>rfl
  |some q=>rw[hg]at this;cases this
 have B:=IC (key:=fun q:fA×Nat=>q.1.s) (a:=((⟨key,d⟩:fA),w.heap.size)) A;have P:=IC (key:=fun p:fA=>p.s) (a:=(⟨key,d⟩:fA)) u;have G:(qA (fun q:fA×Nat=>q.1.s) ((⟨key,d⟩:fA),w.heap.size) Q).length=Q.length+1:=by rw[B.length_eq];rfl
 have U:vB (fun q:fA×Nat=>q.1.s) Q:=by
  rw[<-lR (key':=fun p:fA=>p.s) (fun q:fA×Nat=>q.1) (fun _=>rfl),h.q1];exact h.rs
 obtain⟨ph,pp,pl⟩:=BF h.heap ⟨w.heap.size,d⟩;have H:DataW.put (oC (Q.map fun q=>(q.1.s,eE q.2))) (kL key) (eE w.heap.size)=oC ((qA (fun q:fA×Nat=>q.1.s) ((⟨key,d⟩:fA),w.heap.size) Q).map fun q=>(q.1.s,eE q.2)):=
  IM (key:=fun q:fA×Nat=>q.1.s) (fun q=>eE q.2) ((⟨key,d⟩:fA),w.heap.size) U
 have i:∀q,q∈qA (fun q:fA×Nat=>q.1.s) ((⟨key,d⟩:fA),w.heap.size) Q->q=((⟨key,d⟩:fA),w.heap.size)\/q∈Q:=fun q f=>tI f;have z:∀s∈v,∃q∈Q,q.2=s.b:=fun s j=>by
  have:=(h.perm.mem_iff (a:=s.b)).1 (Uc.2 ⟨s,j,rfl⟩);obtain⟨q,f,e⟩:=Uc.1 this;exact⟨q,f,e⟩
 refine⟨⟨V,K,C,.slice (some ⟨g,0,none⟩) (v.length+1) y,qA (fun q:fA×Nat=>q.1.s) ((⟨key,d⟩:fA),w.heap.size) Q,pP v ⟨w.heap.size,d⟩,D.put (kL (tC key)) (.lit (.int .i64 (c+1))),?_⟩,?_⟩
 ·exact {
   blk:=O
   lims:=E.map (o.map h.lims (fun e=>by rcases e with e|e;exact h.d1 e;exact h.d2 e)) (fun e=>by rcases e with e|e;exact Z e;exact W e)
   s9:=by
    rw[<-H,G];exact E.map (t3.map I h.d3) (fun e=>by rcases e with e|e;exact a0 e;exact X e)
   cnts:=E.map J (fun e=>by rcases e with e|e;exact b0 e;exact Y e)
   cnt:=fun m=>by
    rw[UP P m,UO];by_cases e:tC key=m
    ·rw[Ga e,<-e,atKey_put_same (k:=kL (tC key)) h.cnts.isMap trivial,hc];rfl
    ·rw[Ca e,atKey_put_other (fun e'=>e (aFs e').symm),h.cnt m];rfl
   q1:=by
    rw[fQ (key':=fun p:fA=>p.s) (fun q:fA×Nat=>q.1) (fun _=>rfl),h.q1]
   cells:=fun q f=>by
    rcases i q f with rfl|f
    ·exact E.blk b3 (fun e=>by rcases e with e|e;simp only at e;omega;have:=az h.row _ e;simp only at this;omega)
    ·exact E.blk (o.blk (h.cells q f) (fun e=>by rcases e with e|e;exact uB h.s9 (h.cells q f) e.symm;exact uB h.cnts (h.cells q f) e.symm)) (fun e=>by rcases e with e|e;exact h.dx q f e;exact(h.di _ e).2 q f rfl)
   row:=by rw[pl];exact T
   heap:=ph
   perm:=by
    refine(pp.map _).trans ?_;refine List.Perm.trans ?_ (B.map _).symm;exact List.Perm.cons _ h.perm
   early:=fun s j q f e=>by
    rcases Cb.1 ((pp.mem_iff).1 j) with rfl|j
    ·rcases i q f with rfl|f
     ·exact Pd _
     ·have:=n q f;simp only at e;omega
    ·rcases i q f with rfl|f
     ·obtain⟨q',R,e'⟩:=z s j;have:=n q' R;simp only at e;omega
     ·exact h.early s j q f e
   rm:=h.rm
   rs:=dI h.rs
   sx:=Ba h.sx
   sl:=Ba h.sl
   ss:=Ba h.ss
   sc:=Ba h.sc
   sq:=fun q f=>by
    rcases i q f with rfl|f
    ·exact Ea (Da _)
    ·exact Ba (h.sq q f)
   si:=fun g' l=>by
    simp only[Value.ownBlock,Ja]at l;subst l;rcases r with e|e
    ·exact Ba (h.si g e)
    ·exact Ea (by have:=o.size;omega)
   d1:=h.d1
   d2:=h.d2
   d3:=h.d3
   nd:=by
    rw[(B.map _).nodup_iff,Sb,List.nodup_cons];refine⟨fun hm=>?_,h.nd⟩;obtain⟨q,f,e⟩:=Uc.1 hm;have:=n q f;simp only at e;omega
   dx:=fun q f=>by
    rcases i q f with rfl|f
    ·simp only;omega
    ·exact h.dx q f
   di:=fun g' l=>by
    simp only[Value.ownBlock,Ja]at l;subst l;rcases r with e|e
    ·refine⟨(h.di g e).1,fun q f=>?_⟩;rcases i q f with rfl|f
     ·have:=az h.row g e;simp only;omega
     ·exact(h.di g e).2 q f
    ·refine⟨by omega,fun q f=>?_⟩;rcases i q f with rfl|f
     ·simp only;omega
     ·have:=n q f;omega}
 ·refine(o.mono fun k _ e=>by rcases e with rfl|rfl;exact h.ss;exact h.sc).trans (E.mono fun k _ e=>?_);rcases e with rfl|e
  ·exact Ba h.sx
  ·exact Ba (h.si _ e)
theorem vq (x:Nat) (t:eA) (key:ByteArray) (a:Int) (S:Nat->Prop) (M:Nat) (w:World) (h:lC w S x t M) (K:zB (·.s) key t.s9=none) (hk:key.size<=maxLen) (hm:(tC key).size<=maxLen) (hM:M<=1000000000) (hl:t.s9.length<=1000000000):
 Calls prog 218 #[.pointer (some ⟨x,0,none⟩),.string key,.string (tC key),.int .i64 a] w fun e C=>e=.returned (.tuple #[])/\lC C (fun g=>S g\/w.heap.size<=g) x { t with s9:=qA (·.s) ⟨key,a⟩ t.s9} (M+1)/\gA S w C:=by
 obtain⟨lm,R,F,V,Q,B,D,h⟩:=h;have HK:Hid _:=sK hk;have HM:Hid _:=sK hm;have hQ:Q.length=t.s9.length:=by rw[<-h.q1,Ua]
 have hH:B.length=Q.length:=by have:=h.perm.length_eq;simpa using this
 have HI:Hid _:=h;obtain⟨T,d⟩:∃W,W=w.alloc (.cells #[.string key,.int .i64 a] 113):=⟨_,rfl⟩
 have X:gA (fun _=>False) w T:=by rw[d];exact gA.of (cA _ _)
 have b1:lA T w.heap.size #[.string key,.int .i64 a] 113:=by rw[d];exact lA.new _ _ _
 obtain⟨U,P,u,G⟩:=(X.map h.s9 (fun e=>e)).update vJ underlying182 (by unfold maxLen;omega) HK.out (rV w.heap.size);have t2:gA (·=R) T U:=(gA.grown G).mono fun i _ e=>by simp only[Ja]at e;exact e.symm
 have f:=(X.mono fun _ _ e=>e.elim).trans' t2;have b:=f.map h.cnts (Ne.symm h.d3);obtain⟨c,runL,I,c0⟩:=b.lookup_int vJ underlying181 underlying3 (MZ _) HM.out;have hc:c=(pH tC t.s9 (tC key):Nat):=by
  have:=h.cnt (tC key);unfold qG at this;rw[I]at this;simpa using this
 have b0:=YN tC t.s9 (tC key);have hcl:0<=c:=by omega
 have hcu:c<=1000000000:=by omega
 obtain⟨z,run3,v,H⟩:=b.update vJ underlying181 (by unfold maxLen;omega) (val:=.int .i64 (c+1)) HM.out (plainElem_int underlying3 (WalkArith.wf_i64 (by omega)));have Y:gA (·=F) U z:=(gA.grown H).mono fun i _ e=>by simp only[Ja]at e;exact e.symm
 have j:=(f.mono fun _ _ e=>Ba e).trans' (Y.mono fun _ _ e=>Ea e);have O:=uB h.s9 h.blk;have d0:=uB h.cnts h.blk;have n:lA T x _ _:=X.blk h.blk (fun e=>e);have o:lA U x _ _:=f.blk h.blk O.symm;have p:lA z x _ _:=j.blk h.blk (fun e=>by rcases e with e|e;exact O e.symm;exact d0 e.symm);have y:=j.row h.row (fun g hg e=>by rcases e with rfl|rfl;exact wE h.s9 h.row hg;exact wE h.cnts h.row hg);have c1:T.cell? ⟨x,2,none⟩=some (.map (some R)):=n.cell 2;have c2:U.cell? ⟨x,3,none⟩=some (.map (some F)):=o.cell 3;have HP:Hid (Calls prog 248 #[.pointer (some ⟨x,4,none⟩),.agg #[.pointer (some ⟨w.heap.size,0,none⟩),.int .i64 a]] z fun e C=>e=.returned (.tuple #[])/\∃g A,lA C x (#[.int .i64 t.l9,.map (some lm),.map (some R),.map (some F),V].setIfInBounds 4 (.slice (some ⟨g,0,none⟩) (B.length+1) A)) 187/\
  C.ownsRow 0 320 2 (.slice (some ⟨g,0,none⟩) (B.length+1) A) (B.length+1) (mI (pP B ⟨w.heap.size,a⟩))/\(V.ownBlock=some g\/z.heap.size<=g)/\gA (fun k=>k=x\/V.ownBlock=some k) z C):=
  mj x 4 0 V B ⟨w.heap.size,a⟩ z _ _ p rfl y (fun e=>(h.di x e).1 rfl) (Ha _) (by omega)
 have E:Hid _:=j;have l:Hid (U.ownsMap prog 9 kD R (Q.length+1) (DataW.put (oC (Q.map fun q=>(q.1.s,eE q.2))) (kL key) (eE w.heap.size))):=u;have m:Hid (z.ownsMap prog 9 (plainElem prog 3) F (M+1) (D.put (kL (tC key)) (.lit (.int .i64 (c+1))))):=v;have T3:Hid _:=Y;have B3:Hid (lA z w.heap.size #[.string key,.int .i64 a] 113):=((t2.mono (S':=fun k=>k=R\/k=F) fun _ _ e=>Ba e).trans' (Y.mono fun _ _ e=>Ea e)).blk b1 (fun e=>by have:=h.s9.lt;have:=h.cnts.lt;rcases e with e|e<;>omega);have Z:Hid _:=hc;rw[d]at P c1;clear h hk hm d X b1 u G t2 f b I c0 hc b0 v H Y j n o p y;go_enter func218,ntmps218;go_wp2_with fail;refine HP.out.mono ?_;rintro e w4 ⟨rfl,g,A,J,L,r,N⟩;have HF:=aJp HI.out K E.out l.out T3.out m.out B3.out Z.out J L r N;clear HP HI E l T3 m B3 J L r N;have a0:Hid _:=bA HF;clear HF;go_wp2;go_end0;exact⟨rfl,a0.out⟩
end
theorem rF.take {w:World} {g cap n:Nat} {hs:List gG} (h:rF w g cap hs) (m:n<=hs.length):rF w g cap (hs.take n):=by
 obtain⟨a,b,c,j,d,f⟩:=h;refine⟨a,b,c,by rw[Ta];omega,d,fun k i=>?_⟩;rw[Ta]at i;have e:hget (hs.take n) k=hget hs k:=by simp[hget,List.getD,Eb (show k<n by omega)]
 rw[e];exact f k (by omega)
theorem OT (x o g n cap k:Nat) (a:List gG) (w:World) (s:w.cell? ⟨x,o,none⟩=some (.slice (some ⟨g,0,none⟩) n cap)) (m:n=a.length) (j:rF w g cap a) (P:k<=1000000000):
 Calls prog 280 #[.pointer (some ⟨x,o,none⟩),.int .i64 k] w fun e O=>e=.returned (.int .i64 (nD a k:Nat))/\Below w.heap.size w O:=by
 have f:Hid (nD a k=if 2*k+2<a.length/\(hget a (2*k+2)).t<(hget a (2*k+1)).t then 2*k+2 else 2*k+1):=rfl;obtain⟨r,d⟩:∃r,r=2*k+2:=⟨_,rfl⟩
 obtain⟨q,c⟩:∃q,q=2*k+1:=⟨_,rfl⟩
 rw[<-d,<-c]at f;have R:2*(k:Int)+2=(r:Nat):=by omega
 have Q:2*(k:Int)+1=(q:Nat):=by omega
 have N:r<=2000000002:=by omega
 have L:q<=2000000001:=by omega
 have E:=oA.cells s;have b:=oA.there w;clear d c;by_cases F:r<n
 ·obtain⟨v,z,_,_⟩:=j.cells (k:=r) (by omega);obtain⟨B,D,_,_⟩:=j.cells (k:=q) (by omega);have H:=oA.cells v;have I:=oA.cells z;have J:=oA.cells B;have K:=oA.cells D;have HN:Hid _:=m;clear v z B D s j m;generalize nD a k=u at *;generalize hget a r=A at *;generalize hget a q=C at *;have M:q<n:=by omega
  go_enter func280,ntmps280;go_wp2_with fail;refine jA (by kernel_rfl) (by kernel_rfl) ?_;repeat (go_big_quiet_step (fail))
  refine mT (by rfl) (fun W=>zW _ _ _ _ _ _ rfl rfl rfl (lV _ _ W)) (by rintro _ ⟨x,rfl⟩;exact tA (xZ _ _ _ _ _)) ?_;simp only[Act.put,Md,Ad,Ye];repeat (go_big_quiet_step (fail))
  refine wpQuiet_nil ?_;rintro _ ⟨y,rfl⟩;have p:Hid _:=y.h;clear E H I J K b;generalize y.w'=G at *;clear y;have i:Hid (u=if decide (A.t<C.t)=true then r else q):=by show _=_;rw[f.out];simp only[Ya,<-HN.out,F,true_and]
  cases hd:decide (A.t<C.t)
  all_goals
   rw[hd]at i;go_wp2;go_ret;exact⟨iC (by rw[i.out];rfl),p.out⟩
 ·have i:Hid (nD a k=q):=by show _=_;rw[f.out,Ca (fun h=>F (by rw[m];exact h.1))]
  clear s j m f;generalize nD a k=u at *;go_enter func280,ntmps280;go_wp2_with fail;refine jA (by kernel_rfl) (by kernel_rfl) ?_;repeat (go_big_quiet_step (fail))
  refine wpQuiet_nil ?_;rintro _ ⟨y,rfl⟩;have p:Hid _:=y.h;clear E b;generalize y.w'=G at *;clear y;go_wp2;go_ret;exact⟨iC (by rw[i.out]),p.out⟩
structure PI (w W:World) (x g cap q:Nat) (cx:Array Value) (tx:TypeId) (l:List gG) (TP:gG):Prop where
 X:lA W x cx tx
 M:rF W g cap l
 P:lA W w.heap.size #[.pointer none,.int .i64 0] 320
 Q:lA W q #[.pointer (some ⟨TP.b,0,none⟩),.int .i64 TP.t] 320
 T:gA (fun k=>k=x∨k=g) w W
section
variable {w W W':World} {x g cap q:Nat} {cx:Array Value} {tx:TypeId} {l l':List gG} {TP:gG}
theorem PI.later (h:PI w W x g cap q cx tx l TP) (a:Below W.heap.size W W'):PI w W' x g cap q cx tx l TP:=⟨h.X.later a,h.M.later a,h.P.later a,h.Q.later a,h.T.trans' (gA.of a)⟩
theorem PI.but (h:PI w W x g cap q cx tx l TP) (c:rF W' g cap l') (a:eD g W W') (b:g≠x) (d:g<w.heap.size) (f:g<q):PI w W' x g cap q cx tx l' TP:=⟨h.X.but a b.symm,c,h.P.but a (by omega),h.Q.but a (by omega),h.T.trans' ((gA.but a).mono fun i _ e=>Ea e)⟩
end
theorem aLq (x o g cap:Nat) (f:List gG) (w:World) (cx:Array Value) (tx:TypeId) (hX:lA w x cx tx) (ho:cx[o]?=some (.slice (some ⟨g,0,none⟩) f.length cap)) (hM:rF w g cap f) (hne:g≠x) (h0:0<f.length) (hn:f.length<=1000000000):
 Calls prog 260 #[.pointer (some ⟨x,o,none⟩)] w fun e w'=>e=.returned (.agg #[.pointer (some ⟨(hget f 0).b,0,none⟩),.int .i64 (hget f 0).t])/\lA w' x (cx.setIfInBounds o (.slice (some ⟨g,0,none⟩) (f.length-1) cap)) tx/\rF w' g cap (zM f)/\gA (fun k=>k=x\/k=g) w w':=by
 obtain⟨d,I⟩:∃d,d=f.length-1:=⟨_,rfl⟩
 have hla:(f.length:Int)-1=(d:Nat):=by omega
 have hl1:d<f.length:=by omega
 have hln:f.length=d+1:=by omega
 have hcl:f.length<=cap:=by obtain⟨N,_,_,h3,_⟩:=hM;exact h3
 have hlc:d<=cap:=by omega
 have hgl:=hM.lt;have hxl:=aA hX;have HPOP:Hid (zM f=vM ((yE f 0 d).take d) 0):=by show _=_;rw[I];rfl
 have U:Hid (hget (yE f 0 d) d=hget f 0):=by show _=_;rw[sG h0 hl1,Ga rfl]
 have S:Hid (∀W,Below w.heap.size w W->Calls prog 272 #[.pointer (some ⟨x,o,none⟩),.int .i64 0,.int .i64 d] W fun e w'=>e=.returned (.tuple #[])/\rF w' g cap (yE f 0 d)/\eD g W w'):=fun W hW=>by
  have:=RM x o g f.length cap 0 d f W (by rw[(hX.later hW).cell];exact ho) rfl (hM.later hW) h0 hl1;simpa using this
 have c0:w.cell? ⟨x,o,none⟩=some (.slice (some ⟨g,0,none⟩) f.length cap):=by rw[hX.cell];exact ho
 have hoc:=(Bb.1 ho).1;obtain⟨F,O⟩:∃c,c=cx.setIfInBounds o (.slice (some ⟨g,0,none⟩) d cap):=⟨_,rfl⟩
 have g0:F[o]?=some (.slice (some ⟨g,0,none⟩) d cap):=by rw[O];simp[hoc]
 have HX:=bA hX;have HO:Hid _:=ho;rw[<-I,<-O];have HCD:Hid _:=O;have HFC:Hid _:=fun(k:Nat) (l:List gG) (W:World) (hb:lA W x F tx) (hm:rF W g cap l) (hl:l.length=d) (hk:k<=1000000000)=>OT x o g d cap k l W (by rw[hb.cell];exact g0) hl.symm hm hk;have HSW:Hid _:=fun(i:Nat) (j:Nat) (l:List gG) (W:World) (hb:lA W x F tx) (hm:rF W g cap l) (hl:l.length=d) (hi:i<d) (hj:j<d)=>RM x o g d cap i j l W (by rw[hb.cell];exact g0) hl.symm hm hi hj;generalize hpl:zM f=PL at *;generalize htp:hget f 0=TP at *;clear hX ho hM O I hpl htp;have B0:Hid (Below w.heap.size w (w.alloc (.cells #[.pointer none,.int .i64 0] 320))):=cA _ _;have P0:Hid (lA (w.alloc (.cells #[.pointer none,.int .i64 0] 320)) w.heap.size #[.pointer none,.int .i64 0] 320):=lA.new _ _ _;have e0:=(B0.out.cell hxl).trans c0;go_enter func260,ntmps260;go_wp2_with fail;refine(S.out _ B0.out).mono ?_;rintro e n ⟨rfl,f0,G⟩;have HM1:=bA f0;have hs1:=G.size;have hsa:(w.alloc (.cells #[.pointer none,.int .i64 0] 320)).heap.size=w.heap.size+1:=by simp
 have X1:Hid (lA n x cx tx):=(HX.out.later B0.out).but G hne.symm;have P1:Hid (lA n w.heap.size #[.pointer none,.int .i64 0] 320):=P0.out.but G (by omega);have T1:Hid (gA (fun k=>k=x\/k=g) w n):=(gA.of B0.out).trans' ((gA.but G).mono fun i _ e=>Ea e);have hs1':w.heap.size+1<=n.heap.size:=by omega
 obtain⟨a0,a1,_,_⟩:=f0.cells (k:=d) (by rw[gC];exact hl1);rw[U.out]at a0 a1;have x0:n.cell? ⟨x,o,none⟩=some (.slice (some ⟨g,0,none⟩) f.length cap):=by rw[X1.out.cell];exact HO.out
 clear f0 G S B0 P0 e0 c0 HX hsa hs1;obtain⟨wa,J⟩:∃wa,wa=n.alloc (.cells #[.pointer (some ⟨TP.b,0,none⟩),.int .i64 TP.t] 320):=⟨_,rfl⟩
 have m:Below n.heap.size n wa:=by rw[J];exact cA _ _
 have hw1:n.heap.size<wa.heap.size:=by rw[J];simp
 have xa:=((X1.out.later m).cell o).trans HO.out;have fa:=(X1.out.later m).free o;have D:gA (·=x) wa (wa.setCell ⟨x,o,none⟩ (.slice (some ⟨g,0,none⟩) d cap)):=(gA.refl (·=x) _).setCell (Ba rfl) o _;have HPI:Hid (PI w (wa.setCell ⟨x,o,none⟩ (.slice (some ⟨g,0,none⟩) d cap)) x g cap n.heap.size F tx ((yE f 0 d).take d) TP):=by
  obtain⟨N,m1,m2⟩:=HM1.out.later m;exact⟨by rw[HCD.out];exact(X1.out.later m).set o _,rF.take (hs:=yE f 0 d) ⟨N,D.blk m1 hne,m2⟩ (by rw[gC];omega),D.blk (P1.out.later m) (by omega),D.blk (by rw[J];exact lA.new _ _ _) (by omega),(T1.out.trans' (gA.of m)).trans' (D.mono fun i _ e=>Ba e)⟩
 have HLT:Hid (((yE f 0 d).take d).length=d):=by show _=_;rw[Ta,gC];omega
 clear D HM1 X1 P1 T1 HO U m;generalize (yE f 0 d).take d=l0 at *;rw[J]at xa fa hw1 HPI;clear J;go_wp2;clear xa fa a0 a1 x0 hw1;generalize ((n.alloc (.cells #[.pointer (some ⟨TP.b,0,none⟩),.int .i64 TP.t] 320)).setCell ⟨x,o,none⟩ (.slice (some ⟨g,0,none⟩) d cap))=w2 at *;go_loopw [5] (fun a wr=>∃(k:Nat) (l:List gG),a=.int .i64 k/\k<=d/\l.length=d/\Hid (PL=vM l k)/\Hid (PI w wr x g cap n.heap.size F tx l TP)) (fun a _=>d-(intOf a).toNat)
 case atStart=>exact⟨0,l0,rfl,Ha _,HLT.out,HPOP.out,HPI.out⟩
 case round=>
  obtain⟨k,l,rfl,hk,hl,B,H2⟩:=hrel;have HL:=bA hl;have h2:=oJ l k;have K:Hid (nD l k<l.length->(hget l (nD l k)).t<(hget l k).t->vM l k=vM (yE l k (nD l k)) (nD l k)):=fun a b=>XL ⟨a,b⟩;have s:=bA (BN (l:=l) (k:=k));have R:=bA (HFC.out k l wr H2.out.X H2.out.M hl (by omega));clear hl;generalize hch:nD l k=E at *;clear hch;go_wp2_with fail;refine R.out.mono ?_;rintro e w3 ⟨rfl,hb3⟩;have Z:=bA (H2.out.later hb3);clear hb3 R H2;have k1:w3.cell? ⟨x,o,none⟩=some (.slice (some ⟨g,0,none⟩) d cap):=by rw[Z.out.X.cell];exact g0
  have d0:=oA.cells k1;have Y:=oA.there w3;by_cases hge:d<=E
  case' pos=>
   have L:Hid (PL=l):=by show _=_;rw[B.out];exact s.out (fun h=>by have:=HL.out;omega)
   have hgi:¬((E:Int)<d):=by omega
   clear K s HSW;go_wp2_with fail;refine jA (by kernel_rfl) (by kernel_rfl) ?_;repeat (go_big_quiet_step (fail))
   refine wpQuiet_nil ?_;rintro _ ⟨y,rfl⟩;have p:=bA (Z.out.later y.h);clear d0 Y k1 Z;generalize y.w'=V at *;clear y
  case' neg=>
   have H:E<d:=by omega
   have hkl:k<d:=by omega
   obtain⟨a0,a1,_,_⟩:=Z.out.M.cells (k:=E) (by rw[HL.out];exact H);obtain⟨b0,b1,_,_⟩:=Z.out.M.cells (k:=k) (by rw[HL.out];exact hkl);have d1:=oA.cells a0;have d2:=oA.cells a1;have d3:=oA.cells b0;have d4:=oA.cells b1;have u:=bA (fun W h1 h2=>HSW.out k E l W h1 h2 HL.out hkl H);clear a0 a1 b0 b1 k1;generalize hget l E=A at *;generalize hget l k=C at *;go_wp2_with fail;refine jA (by kernel_rfl) (by kernel_rfl) ?_;repeat (go_big_quiet_step (fail))
   refine mT (by rfl) (fun W=>zW _ _ _ _ _ _ rfl rfl rfl (lV _ _ W)) (by rintro _ ⟨x,rfl⟩;exact tA (xZ _ _ _ _ _)) ?_;simp only[Act.put,Md,Ad,Ye];repeat (go_big_quiet_step (fail))
   refine wpQuiet_nil ?_;rintro _ ⟨y,rfl⟩;have p:=bA (Z.out.later y.h);clear d0 d1 d2 d3 d4 Y Z;generalize y.w'=V at *;clear y;by_cases r:A.t<C.t
   ·have hd:decide (A.t<C.t)=true:=by simpa using r
    rw[hd];have L:Hid (PL=vM (yE l k E) E):=by show _=_;rw[B.out];exact K.out (by rw[HL.out];exact H) r
    have hkc:k<E:=by omega
    clear K s B r hd h2;go_wp2_with fail;refine(u.out _ p.out.X p.out.M).mono ?_;rintro e w4 ⟨rfl,hM4,hb4⟩;have H4:=bA (p.out.but hM4 hb4 hne hgl (by omega));clear hM4 hb4 u;go_wp2;exact⟨⟨E,yE l k E,rfl,by omega,by rw[gC];exact HL.out,L.out,H4.out⟩,by simp[intOf];omega⟩
   have hd:decide (A.t<C.t)=false:=by simpa using r
   rw[hd];have L:Hid (PL=l):=by show _=_;rw[B.out];exact s.out (fun h=>r h.2)
   clear K s B r hd h2 u
  all_goals
   have z0:V.cell? ⟨w.heap.size,0,none⟩=some (.pointer none):=p.out.P.cell 0;have z1:V.cell? ⟨w.heap.size,1,none⟩=some (.int .i64 0):=p.out.P.cell 1;have fz0:=p.out.P.free 0;have fz1:=p.out.P.free 1;have q0:V.cell? ⟨n.heap.size,0,none⟩=some (.pointer (some ⟨TP.b,0,none⟩)):=p.out.Q.cell 0;have q1:V.cell? ⟨n.heap.size,1,none⟩=some (.int .i64 TP.t):=p.out.Q.cell 1;go_wp2;have z:gA (·=w.heap.size) V ((V.setCell ⟨w.heap.size,0,none⟩ (.pointer (some ⟨TP.b,0,none⟩))).setCell ⟨w.heap.size,1,none⟩ (.int .i64 TP.t)):=((gA.refl (·=w.heap.size) V).setCell (Ba rfl) 0 _).setCell (Ba rfl) 1 _;refine bodyPost_ret (v:=.agg #[.pointer (some ⟨TP.b,0,none⟩),.int .i64 TP.t]) (by simp[results,results260,go_sem,z0,z1]) rfl ⟨rfl,z.blk p.out.X (by omega),?_,p.out.T.trans (z.mono fun i _ e=>Ea (by omega))⟩;rw[L.out];obtain⟨N,h1,h2⟩:=p.out.M;exact⟨N,z.blk h1 (by omega),h2⟩
theorem vz (x b a:Int):uA x b a=decide (b<=x/\x<=a):=by
 unfold uA;by_cases c:b<=x<;>by_cases d:x<=a<;>simp[c,d]
theorem MJ {x:ByteArray}:(x.toList==[])=decide (x.size=0):=by
 rw[ByteArray.toList_eq];cases h:x.data.toList with
 |nil=>
  have b:x.size=0:=by have:x.data.toList.length=0:=by rw[h];rfl
                      simpa using this
  simp[b]
 |cons a l=>
  have b:x.size≠0:=by have:x.data.toList.length=l.length+1:=by rw[h];rfl
                      simp at this;omega
  simp[b]
theorem oe (d c:Int) (a b:ByteArray) (w:World) (r:a.size<=1000000000) (s:b.size<=1000000000):
 Calls prog 90 #[.agg #[.int .i64 d,.string a,.string b,.int .i64 c]] w fun e q=>e=.returned (.bool (mm ⟨d,a,b,c⟩))/\Below w.heap.size w q:=by
 by_cases n:a.size > 255
 ·have E:Hid (mm ⟨d,a,b,c⟩=false):=bA (pZ fun h=>by have:=h.1;simp only at this;omega);have i:(a.size:Int) > 255:=by omega
  go_enter func90,ntmps90;go_wp2;go_ret;exact⟨kA E.out.symm,cA _ _⟩
 have i:¬(a.size:Int) > 255:=by omega
 by_cases o:b.size > 65535
 ·have E:Hid (mm ⟨d,a,b,c⟩=false):=bA (pZ fun h=>by have:=h.2.1;simp only at this;omega);have j:(b.size:Int) > 65535:=by omega
  go_enter func90,ntmps90;go_wp2;go_ret;exact⟨kA E.out.symm,cA _ _⟩
 have j:¬(b.size:Int) > 65535:=by omega
 by_cases k:d=1
 ·subst k;have E:Hid (mm ⟨1,a,b,c⟩=(c==0)):=bA (by
   by_cases h:c=0
   ·rw[WN (show aM ⟨1,a,b,c⟩ from⟨by simp only;omega,by simp only;omega,Ba ⟨rfl,h⟩⟩)];simp[h]
   ·rw[pZ (show ¬aM ⟨1,a,b,c⟩ from fun hh=>hh.2.2.elim (fun g=>h g.2) (fun g=>g.elim (fun g=>absurd g.1 (show ¬(1:Int)=2 by decide)) (fun g=>absurd g (show ¬(1:Int)=3 by decide))))];simp[h])
  go_enter func90,ntmps90;go_wp2;go_ret;exact⟨kA E.out.symm,cA _ _⟩
 by_cases l:d=2
 ·subst l;by_cases f:a.size=0
  ·have E:Hid (mm ⟨2,a,b,c⟩=(b.toList==[])):=bA (by
    rw[MJ];by_cases h:b.size=0
    ·rw[WN (show aM ⟨2,a,b,c⟩ from⟨by simp only;omega,by simp only;omega,Ea (Ba ⟨rfl,f,h⟩)⟩),Rb h]
    ·rw[pZ (show ¬aM ⟨2,a,b,c⟩ from fun hh=>hh.2.2.elim (fun g=>absurd g.1 (show ¬(2:Int)=1 by decide)) (fun g=>g.elim (fun g=>h g.2.2) (fun g=>absurd g (show ¬(2:Int)=3 by decide)))),Mb h])
   have p:(a.toList==[])=true:=by rw[MJ];exact Rb f
   clear f n o;go_enter func90,ntmps90;go_wp2;go_ret;exact⟨kA (by rw[E.out];first|rfl|simp),cA _ _⟩
  ·have E:Hid (mm ⟨2,a,b,c⟩=false):=bA (pZ fun hh=>hh.2.2.elim (fun g=>absurd g.1 (show ¬(2:Int)=1 by decide)) (fun g=>g.elim (fun g=>f g.2.1) (fun g=>absurd g (show ¬(2:Int)=3 by decide))));have p:(a.toList==[])=false:=by rw[MJ];exact Mb f
   clear f n o;go_enter func90,ntmps90;go_wp2;go_ret;exact⟨kA E.out.symm,cA _ _⟩
 by_cases m:d=3
 ·subst m;have E:Hid (mm ⟨3,a,b,c⟩=true):=bA (WN ⟨by simp only;omega,by simp only;omega,Ea (Ea rfl)⟩);go_enter func90,ntmps90;go_wp2;go_ret;exact⟨kA E.out.symm,cA _ _⟩
 have E:Hid (mm ⟨d,a,b,c⟩=false):=bA (pZ fun hh=>hh.2.2.elim (fun g=>k g.1) (fun g=>g.elim (fun g=>l g.1) (fun g=>m g)));go_enter func90,ntmps90;go_wp2;go_ret;exact⟨kA E.out.symm,cA _ _⟩
def aMv (a:List dE):Prop:=∀i (h:i<a.length),a[i].n9.size<=1000000000/\a[i].text.size<=1000000000
def aPn:Op:=Op.convert 9 160 (Operand.tmp 24)
theorem oa (d:Int) (a:Option Addr) (p:Nat) (c:List dE) (w:World) (hf:pK w a c) (hB:aMv c) (hR:yy c) (B:I64 d) (hlen:c.length<=2000000):
 Calls prog 52 #[.agg #[.int .i64 d,.slice a c.length p]] w fun e f=>e=.returned (.string (uK d c))/\Below w.heap.size w f:=by
 have HW1:Hid (∀W,Calls prog 41 #[.int .i64 d,.int .i64 1,.int .i64 1000000000000000] W fun e f=>e=.returned (.bool (decide (1<=d/\d<=1000000000000000)))/\f=W):=fun W=>by have:=fD d 1 1000000000000000 W;rw[vz]at this;exact this
 have HW2:Hid (∀W,Calls prog 41 #[.int .i64 (c.length:Nat),.int .i64 1,.int .i64 500] W fun e f=>e=.returned (.bool (decide (1<=((c.length:Nat):Int)/\((c.length:Nat):Int)<=500)))/\f=W):=fun W=>by have:=fD (c.length:Nat) 1 500 W;rw[vz]at this;exact this
 have Q:Hid (decide (1<=d/\d<=1000000000000000)=false\/decide (1<=((c.length:Nat):Int)/\((c.length:Nat):Int)<=500)=false->uK d c=ByteArray.empty):=fun h=>CE fun hh=>by
  obtain⟨h1,h2,h3,h4,-⟩:=hh;rcases h with h|h<;>exact of_decide_eq_false h ⟨by omega,by omega⟩
 have HN2:Hid (decide (1<=d/\d<=1000000000000000)=true->decide (1<=((c.length:Nat):Int)/\((c.length:Nat):Int)<=500)=true->(1<=d/\d<=1000000000000000)/\1<=((c.length:Nat):Int)/\((c.length:Nat):Int)<=500):=fun h h'=>⟨Qe h,Qe h'⟩
 generalize decide (1<=d/\d<=1000000000000000)=d1 at *;generalize decide (1<=((c.length:Nat):Int)/\((c.length:Nat):Int)<=500)=d2 at *;go_enter func52,ntmps52;go_wp2_with fail;refine fC (HW1.out _) ?_;cases d1
 ·have E:=bA (Q.out (by simp));go_wp2;go_ret;exact⟨by rw[E.out];rfl,cA _ _⟩
 go_wp2_with fail;refine fC (HW2.out _) ?_;cases d2
 ·have E:=bA (Q.out (by simp));go_wp2;go_ret;exact⟨by rw[E.out];rfl,cA _ _⟩
 obtain⟨c1,c3⟩:=HN2.out (by simp) (by simp);clear HW1 HW2 Q HN2;have HF:Hid (pK w a c):=hf;have HB:Hid (aMv c):=hB;have HR:Hid (yy c):=hR;have M:Hid (∀W,Calls prog 85 #[.int .i64 8,.int .i64 d] W fun e f=>e=.returned (.string (aB 8 d))/\Below W.heap.size W f):=fun W=>aE 8 d W (by omega) B.1 B.2;have L:Hid (∀W,Calls prog 85 #[.int .i64 2,.int .i64 (c.length:Nat)] W fun e f=>e=.returned (.string (aB 2 (c.length:Nat)))/\Below W.heap.size W f):=fun W=>aE 2 (c.length:Nat) W (by omega) (by omega) (by omega);have hz8:=bB 8 d;have hz2:=bB 2 (c.length:Nat);have HKB:Hid (oT d c->uK d c=aB 8 d++aB 2 (c.length:Nat)++oG c):=fun h=>MI h;have HOK:Hid (qb c->oT d c):=fun h=>⟨by omega,by omega,by omega,by omega,h⟩
 generalize aB 8 d=T at *;generalize aB 2 (c.length:Nat)=S at *;have hz10:(T++S).size=10:=by rw[Ia,hz8,hz2]
 obtain⟨CV,CN,hcv,hcn⟩:=fy (T++S) (by omega);have J:Hid _:=hcn;clear hf hB hR B hcn;go_upto_region 3 with fail;have X6:Hid (lA (w.alloc (.cells #[.int .i64 d,.slice a c.length p] 66)) w.heap.size #[.int .i64 d,.slice a c.length p] 66):=lA.new _ _ _;have B0:Hid (Below w.heap.size w (w.alloc (.cells #[.int .i64 d,.slice a c.length p] 66))):=cA _ _;generalize w.alloc (.cells #[.int .i64 d,.slice a c.length p] 66)=H at *;have A:Hid (∀f,Below H.heap.size H f->f.cell? ⟨w.heap.size,0,none⟩=some (.int .i64 d)/\f.cell? ⟨w.heap.size,1,none⟩=some (.slice a c.length p)):=fun f h=>by
  have q:=X6.out.later h;exact⟨q.cell 0,q.cell 1⟩
 obtain⟨x0,x1⟩:=A.out H (Below.refl _ _);go_cut [3] (fun s wx=>iL wx H.heap.size s (T++S)/\Below H.heap.size H wx)
 case first=>
  rw[show Op.convert 9 160 (Operand.tmp 24)=aPn from rfl];have hop:aPn=Op.convert 9 160 (Operand.tmp 24):=rfl;go_region_held3 (fun f=>f.cell? ⟨w.heap.size,0,none⟩=some (.int .i64 d)/\f.cell? ⟨w.heap.size,1,none⟩=some (.slice a c.length p))
   (first|go_keep|exact A.out _ (pA k4 (J.out _).2)|exact A.out _ k4|exact A.out _ k3)
   (first
    |(go_at_call 85;(fail_if_success (have q:=k3));refine(M.out _).mono ?_;rintro e w3 ⟨rfl,U⟩;have k3:Below H.heap.size H w3:=(by exact pA (Below.refl _ _).drew U))
    |(go_at_call 85;have q:=k3;clear q;refine(L.out _).mono ?_;rintro e w4 ⟨rfl,V⟩;have k4:Below H.heap.size H w4:=(by exact pA k3 V)))
  all_goals(go_wp2_with fail;go_meet)
  all_goals exact⟨(J.out _).1.mono k4.size,pA k4 (J.out _).2⟩
 obtain⟨D,Y⟩:=hcut;rename World=>w5;have B5:Hid _:=pA B0.out Y;have HBL:Hid (iL w5 w.heap.size u3 (T++S)):=D.mono B0.out.size;have HK5:Hid _:=fun f h=>A.out f (pA Y h);obtain⟨y0,y1⟩:=HK5.out w5 (Below.refl _ _);clear x0 x1 A X6 D Y B0 M L HK5 J hcv;go_wp2;go_loopw [3,5,29] (fun out _ i wr=>∃(k:Nat) (G:ByteArray),k<=c.length/\i=.int .i64 k/\G.size<=10+k*3000000000/\Hid (G=T++S++oG (c.take k))/\Hid (∀j (h:j<c.length),j<k->aM c[j])/\Hid (iL wr w.heap.size out G)/\Below w.heap.size w wr) (fun _ _ i _=>c.length-(intOf i).toNat)
 case atStart=>
  exact⟨0,T++S,Ha _,rfl,by omega,by show _=_;simp[oG],fun j _ h=>absurd h (by omega),HBL.out,B5.out⟩
 case round=>
  obtain⟨k,G,hk,rfl,hst,HST,u,g,l⟩:=hrel;by_cases C:k<c.length
  ·obtain⟨b,o,rfl,hb,c0,c1,c2,c3⟩:=(HF.out.later l).at C;obtain⟨hn1,hn2⟩:=HB.out k C;obtain⟨b0,d0⟩:=HR.out k C;have v:Hid (∀W,Calls prog 90 #[.agg #[.int .i64 c[k].kind,.string c[k].n9,.string c[k].text,.int .i64 c[k].num]] W fun e f=>e=.returned (.bool (mm c[k]))/\Below W.heap.size W f):=fun W=>oe _ _ _ _ W hn1 hn2;by_cases y:aM c[k]
   ·rw[WN y]at v;have HK1:Hid (∀W,Calls prog 85 #[.int .i64 1,.int .i64 c[k].kind] W fun e f=>e=.returned (.string (aB 1 c[k].kind))/\Below W.heap.size W f):=fun W=>aE 1 _ W (by omega) b0.1 b0.2;have HS8:Hid _:=fun W=>BP c[k].n9 W hn1;have HS16:Hid _:=fun W=>bY c[k].text W hn2;have HN8:Hid (∀W,Calls prog 85 #[.int .i64 8,.int .i64 c[k].num] W fun e f=>e=.returned (.string (aB 8 c[k].num))/\Below W.heap.size W f):=fun W=>aE 8 _ W (by omega) d0.1 d0.2;have hq1:=bB 1 c[k].kind;have hq2:=yO c[k].n9;have hq3:=jK c[k].text;have hq4:=bB 8 c[k].num;have HA2:Hid (∀j (h:j<c.length),j<k+1->aM c[j]):=fun j h hj=>by
     rcases Ac j k with h1|h1
     ·exact u.out j h h1
     ·obtain rfl:j=k:=by omega
      exact y
    have HT:=qr c k C;have E2:Hid (G++(aB 1 c[k].kind++xV c[k].n9++nG c[k].text++aB 8 c[k].num)=T++S++oG (c.take (k+1))):=by show _=_;rw[HT,HST.out,LP,Ob]
    clear HT y u b0 d0;generalize aB 1 c[k].kind=m at *;generalize xV c[k].n9=n at *;generalize nG c[k].text=z at *;generalize aB 8 c[k].num=K at *;generalize c[k].kind=ki at *;generalize c[k].n9=te at *;generalize c[k].text=tx at *;generalize c[k].num=nu at *;have hq5:(m++n).size=m.size+n.size:=Ia;have hq6:(m++n++z).size=m.size+n.size+z.size:=by rw[Ia,hq5]
    have hq7:(m++n++z++K).size=m.size+n.size+z.size+K.size:=by rw[Ia,hq6]
    have hq8:(G++(m++n++z++K)).size=G.size+(m.size+n.size+z.size+K.size):=by rw[Ia,hq7]
    have n1:¬(9223372036854775807<m.size+n.size):=by omega
    have n2:¬(9223372036854775807<m.size+n.size+z.size):=by omega
    have n3:¬(9223372036854775807<m.size+n.size+z.size+K.size):=by omega
    have HQ:Hid (m.size=1/\n.size=1+te.size/\z.size=2+tx.size/\K.size=8):=⟨hq1,hq2,hq3,hq4⟩
    clear hq1 hq2 hq3 hq4;obtain⟨gv,hgv,hgv1,hgv2⟩:=g.out.lt;have P:=bA (lA.new wr #[.int .i64 ki,.string te,.string tx,.int .i64 nu] 122);have HBW:=bA (cA wr (.cells #[.int .i64 ki,.string te,.string tx,.int .i64 nu] 122));go_wp2_with fail;refine(v.out _).mono ?_;rintro e W ⟨rfl,r⟩;have A:=bA (fun f (h:Below W.heap.size W f)=>(P.out.later r).later h);have X:=pA HBW.out r;have R:=bA (Ee (g.out.later X) (pA l X));have hBX:=aA (P.out.later r);have hww:=R.out.2.size;have hngv:gv≠wr.heap.size:=by omega
    have HGV:=bA hgv;clear g P hb c0 c1 c2 c3 l r X HBW v hgv hgv1 hgv2;go_wp2_with fail;generalize wr.heap.size=I at *;clear wr;have x:Hid (∀f,Below W.heap.size W f->f.cell? ⟨I,0,none⟩=some (.int .i64 ki)/\f.cell? ⟨I,1,none⟩=some (.string te)/\f.cell? ⟨I,2,none⟩=some (.string tx)/\f.cell? ⟨I,3,none⟩=some (.int .i64 nu)):=fun f h=>⟨(A.out f h).cell 0,(A.out f h).cell 1,(A.out f h).cell 2,(A.out f h).cell 3⟩
    obtain⟨x0,x1,x2,x3⟩:=x.out W (Below.refl _ _);go_region_held3 (fun f=>f.cell? ⟨I,0,none⟩=some (.int .i64 ki)/\f.cell? ⟨I,1,none⟩=some (.string te)/\f.cell? ⟨I,2,none⟩=some (.string tx)/\f.cell? ⟨I,3,none⟩=some (.int .i64 nu))
     (first|go_keep|exact O|exact x.out _ t|exact x.out _ a0|exact x.out _ hc2|exact x.out _ Z)
     ((first
       |(go_at_call 85;(fail_if_success (have q:=Z));refine(HK1.out _).mono ?_;rintro e w1 ⟨rfl,hb1⟩;have Z:Below W.heap.size W w1:=(Below.refl _ W).drew.trans hb1)
       |(go_at_call 86;refine(HS8.out _).mono ?_;rintro e w2 ⟨rfl,hb2⟩;have hc2:=pA Z hb2)
       |(go_at_call 87;refine(HS16.out _).mono ?_;rintro e w3 ⟨rfl,U⟩;have a0:=pA hc2 U)
       |(go_at_call 85;have q:=a0;clear q;refine(HN8.out _).mono ?_;rintro e w4 ⟨rfl,V⟩;have t:=pA a0 V)
       |(have q:=t;clear q;refine TU _ (by rfl) _ _ (by rfl) w.heap.size _ G (m++n++z++K) (by rfl) (by exact R.out.1.later t) (by rfl) (by have:=t.size;omega) (by have:=HQ.out;omega) ?_;intro v5 w5 F hB5 hk5;have O:=UM (hk5 I (by have:=t.size;omega) (fun e=>hngv (Qc (HGV.out.symm.trans e)))) (x.out _ t))))
    have HO5:=bA (Ee F ((pA R.out.2 t).trans hB5));clear F hB5 hk5 O;have hst5:(G++(m++n++z++K)).size<=10+(k+1)*3000000000:=by have:=HQ.out;omega
    clear hq5 hq6 hq7 hq8 n1 n2 n3;generalize G++(m++n++z++K)=st5 at *;go_wp2;exact⟨⟨k+1,st5,by omega,by go_num,hst5,E2.out,HA2.out,HO5.out.1,HO5.out.2⟩,by simp[intOf];omega⟩
   ·have E:Hid _:=vt C y d;rw[pZ y]at v;generalize c[k].kind=ki at *;generalize c[k].n9=te at *;generalize c[k].text=tx at *;generalize c[k].num=nu at *;clear y u g;go_wp2_with fail;refine(v.out _).mono ?_;rintro e W ⟨rfl,r⟩;have BW:Hid _:=pA (pA l (cA _ _)) r;clear r v;go_wp2;go_ret;exact⟨by rw[E.out];rfl,BW.out⟩
  ·have N:qb c:=fun j h=>u.out j h (by omega);have E2:Hid (G=uK d c):=by
    show _=_;rw[HST.out,Pa (by omega),HKB.out (HOK.out N)]
   have hbk:=aEk g.out;rw[E2.out]at hbk;clear g N;go_wp2;go_ret;exact⟨rfl,l⟩
