import Derived.Test.YtcneojllbkacoaaGreatDoorJ04StrL
import Derived.Test.YtcneojllbkacoaaGreatDoorJ05Cells
import Derived.Lib.AppendIntMem
set_option maxRecDepth 100000
set_option maxHeartbeats 4000000
namespace Go.Proofs.YtcneojllbkacoaaGreatDoor
open Go.RowKit
theorem lH {w:World}{B:Nat}{e:TypeId}{size:Nat}{v:Value}{n:Nat}{xs:List Value} (h:w.ownsRow B e size v n xs):∀g,v.ownBlock=some g→B≤g:=by
 intro g hg;rcases h.2 with ⟨rfl,_⟩ | ⟨g',cap,cur,rfl,hB,_⟩
 ·simp [Value.ownBlock] at hg
 ·simp [Value.ownBlock] at hg;subst hg;exact hB
def bS (w:World) (ad:Option Addr) (m:Nat) (news:List Value):Prop:=m=0∨∃A,ad=some A∧∀j u,news[j]?=some u→w.cell? (A.add j)=some u
theorem DL (b o j:Nat):(⟨b,o,none⟩:Addr).add j=⟨b,o+j,none⟩:=by unfold Addr.add;split<;>simp_all
theorem eW (W:World) (x:Obj):Below W.heap.size W (W.alloc x).drew:=(bA _ _).drew
theorem tN (W:World) (x y:Obj):Below W.heap.size W ((W.alloc x).alloc y).drew:=(rA (bA _ _) (bA _ _)).drew
theorem mH {P:Program} (w:World){ops:Array Oper}{o:Oper}{a:Act}{K:Act→World→Prop}{Q:Exit→Act→World→Prop}{E:Prop} (hgd:o.guard=none) (s x:Operand) (t:TypeId)
 (ho:o.op=.call { callee:=.builtin .append,args:=#[s,x],argTypes:=#[t,t] })
 (base:Nat) (e:TypeId) (i:TypeInfo) (z:Value) (size bytes:Nat) (ht:P.underlying t=some (.slice e)) (hi:P.info? e=some i) (hz:i.zero=some z)
 (hsize:i.size=size) (hby:i.bytes=bytes) (hzs:z.cells.size=size) (hsz:0<size)
 (g0 n c0:Nat) (xs:List Value) (hs:a.eval s=.slice (some ⟨g0,0,none⟩) n c0) (hown:w.ownsRow base e size (.slice (some ⟨g0,0,none⟩) n c0) n xs)
 (ad:Option Addr) (m c:Nat) (news:List Value) (hx:a.eval x=.slice ad m c) (hl:news.length=m * size) (hsrc:bS w ad m news) (h1:∀u∈news,u.oneCell'=true)
 (h63:n+m≤maxLen) (hbytes:(n+m) * bytes≤140737488355328) (hbase:base≤w.heap.size)
 (h:∀g cap w',w'.ownsRow base e size (.slice (some ⟨g,0,none⟩) (n+m) cap) (n+m) (xs++news)→Below base w w'→(∀k,k<w.heap.size→k≠g0→w'.heap[k]?=w.heap[k]?)→base≤g→(g=g0∨g=w.heap.size)→g<w'.heap.size→K (a.put o.dst (.slice (some ⟨g,0,none⟩) (n+m) cap)) w'):
 if Region.wanted o (yielded ops a.tmps)=true then Oper.wp P o a w K Q else E:=by
 have hg0:base≤g0:=lH hown g0 rfl;rcases Nat.eq_zero_or_pos m with rfl | hm
 ·have hw:Region.wanted o (yielded ops a.tmps)=true:=by simp [Region.wanted,hgd]
  rw [if_pos hw];have hnil:news=[]:=List.length_eq_zero_iff.1 (by omega);subst hnil;have hrun:=lZ (P:=P) (w:=w) base t o.type e i size ht hi _ n xs hown ad c;have hK:=h g0 c0 w (by rw [List.append_nil];exact hown) (Below.refl _ _) (fun _ _ _=>rfl) hg0 (Or.inl rfl) (by
   rcases hown.2 with ⟨he,_⟩ | ⟨g',cap',cur,he,_,hb,_⟩
   ·simp at he
   ·simp only [Value.slice.injEq,Option.some.injEq,Addr.mk.injEq,and_true] at he;rw [he.1];exact aA hb)
  unfold Oper.wp execOp;simp only [ho,resolve,invoke,builtin,Sem.run_bind,Sem.run_pure,Result.andThen_ok,List.map_toArray,List.map_cons,List.map_nil,hs,hx,hrun];exact hK
 ·rcases hsrc with h0 | ⟨A,rfl,hnews⟩
  ·omega
  refine step_append_lies w hgd s x t ho base e i z size bytes ht hi hz hsize hby hzs hsz _ n xs hs hown A m c news hx hl hnews h1 hm h63 hbytes hbase w.heap.size rfl fun g cap w' h2 h3 h4 h5=>?_;have hg:g=g0∨g=w.heap.size:=by
   rcases h4 with h4 | h4
   ·left;simpa [Value.ownBlock] using h4.symm
   ·exact Or.inr h4
  refine h g cap w' h2 ((Below.refl base w).grown h3 hbase (fun q hq=>lH hown q hq)) (fun k hk hne=>h3.block k hk (by simp [Value.ownBlock];omega)) ?_ hg h5;rcases hg with rfl | rfl
  ·exact hg0
  ·exact hbase
theorem YP (B g cap i:Nat) (fs:List eA) (w:World) (hown:w.ownsRow B 116 3 (.slice (some ⟨g,0,none⟩) fs.length cap) fs.length (flat fs)) (hi:i<fs.length) (hlen:fs.length≤1048576):
 Calls Tryz.prog 211 #[.slice (some ⟨g,0,none⟩) fs.length cap,.int .i64 i,.int .i64 ((i:Int)+1)] w fun e w'=>
  e=.returned (.slice (some ⟨g,0,none⟩) (fs.length - 1) cap)∧w'.ownsRow B 116 3 (.slice (some ⟨g,0,none⟩) (fs.length - 1) cap) (fs.length - 1) (flat (fs.eraseIdx i))∧oC (fun k=>k=g) w w':=by
 obtain ⟨cur,hB,_,hblk,hnc,hcm,hsz,hcs⟩:=xM hown;obtain ⟨i0,hi0,hz0,hz1,hz2⟩:=cH;obtain ⟨n,hn⟩:∃n,fs.length=n:=⟨_,rfl⟩
 obtain ⟨news,hnews⟩:∃news,news=flat (fs.drop (i+1)):=⟨_,rfl⟩
 have hlenN:news.length=(n - (i+1)) * 3:=by rw [hnews,cD,List.length_drop,hn]
 have hfl:(flat fs).length=n * 3:=by rw [cD,hn]
 have hthere:∀j,j<n * 3→(w.cell? ⟨g,j,none⟩).isSome=true:=fun j hj=>by rw [hcs j _ (List.getElem?_eq_getElem (by omega))];rfl
 obtain ⟨A,hA,hsrc⟩:∃A:Addr,(if cap=i+1 then some (⟨g,0,none⟩:Addr) else some ⟨g,(i+1) * 3,none⟩)=some A∧Hid (∀j u,news[j]?=some u→w.drew.cell? (A.add j)=some u):=by
  by_cases h:cap=i+1
  ·refine ⟨⟨g,0,none⟩,by simp [h],fun j u hu=>?_⟩;have h0:news.length=0:=by rw [hlenN];omega
   rw [List.length_eq_zero_iff.1 h0] at hu;simp at hu
  ·refine ⟨⟨g,(i+1) * 3,none⟩,by simp [h],fun j u hu=>?_⟩;rw [hnews,eP fs (i+1) j (by omega)] at hu;rw [Addr.add_lit];exact hcs _ _ hu
 have s1:Hid _:=hlenN;have s2:Hid (∀u∈news,u.oneCell'=true):=by rw [hnews];exact aE _
 have s3:Hid (∀j,j<news.length→(w.drew.cell? ⟨g,0+i * 3+j,none⟩).isSome=true∧w.drew.frozen? ⟨g,0+i * 3+j,none⟩=false):=by
  intro j hj;rw [hlenN] at hj;exact ⟨hthere _ (by omega),hblk.free _⟩
 obtain ⟨W1,hW1⟩:∃W1,W1=w.drew.setCells g (0+i * 3) news:=⟨_,rfl⟩
 have hblk1:lA w.drew g cur 116:=hblk;obtain ⟨cur1,hb1,hs1⟩:=lA.setCells news (0+i * 3) hblk1;rw [←hW1] at hb1;have hcl:∀ty c,(Builtin.clear_ #[37] ty #[.slice (some ⟨g,(n - 1) * 3,none⟩) 1 c]).run Tryz.prog W1=.ok (.tuple #[]) (W1.setCells g ((n - 1) * 3) aT):=fun ty c=>
  JE W1 _ ty _ i0 Tryz.underlying37 hi0 hz0 g _ c (fun j hj=>by obtain ⟨v,hv⟩:=hb1.there (j:=(n - 1) * 3+j) (by rw [hs1,hsz];omega);rw [hv];rfl) (fun j _=>hb1.free _)
 obtain ⟨cur2,hb2,hs2⟩:=lA.setCells aT ((n - 1) * 3) hb1;have HK:Hid (oC (fun k=>k=g) w (W1.setCells g ((n - 1) * 3) aT)):=by
  show oC _ _ _;rw [hW1];exact oC.setCells (S:=fun k=>k=g) rfl _ _ (oC.setCells (S:=fun k=>k=g) rfl _ _ (oC.refl _ _).drew)
 have HO:Hid ((W1.setCells g ((n - 1) * 3) aT).ownsRow B 116 3 (.slice (some ⟨g,0,none⟩) (n - 1) cap) (n - 1) (flat (fs.eraseIdx i))):=by
  refine bN hB hb2 (by omega) hcm (by rw [hs2,hs1,hsz]) (by rw [cD,List.length_eraseIdx,if_pos hi,hn]) fun j u hu=>?_;have hjl:=(List.getElem?_eq_some_iff.1 hu).1;rw [cD,List.length_eraseIdx,if_pos hi,hn] at hjl;rw [World.cell?_setCells_out g aT ((n - 1) * 3) W1 _ (fun _ _=>Or.inl (by show j<_;omega)),hW1];rw [YX] at hu;have htl:(flat (fs.take i)).length=i * 3:=by rw [cD,List.length_take];omega
  by_cases hji:j<i * 3
  ·rw [World.cell?_setCells_out g news (0+i * 3) _ _ (fun _ _=>Or.inl (by show j<_;omega))];rw [List.getElem?_append_left (by omega),rL fs i j (by omega) hji] at hu;exact hcs j u hu
  ·rw [List.getElem?_append_right (by omega),htl,←hnews] at hu;have hin:=World.cell?_setCells_in g news (0+i * 3) w.drew (fun k hk=>(s3.out k hk).1) (j - i * 3) (by omega);rw [show 0+i * 3+(j - i * 3)=j by omega] at hin;rw [hin,←hu,List.getElem?_eq_getElem]
 have hic:i≤cap:=by omega
 have hjc:i+1≤cap:=by omega
 have hp0:(0:Int)≤(i:Int)+1:=by omega
 have hp1:(i:Int)+1≤(n:Int):=by omega
 have hp2:((i:Int)+1).toNat=i+1:=by omega
 have hp3:¬((i:Int)=(i:Int)+1):=by omega
 have hcm2:(cap:Int)≤9223372036854775807:=by unfold maxLen at hcm;omega
 have e1:i+(n - (i+1))=n - 1:=by omega
 have e2:n - (n - 1)=1:=by omega
 have hW:Hid _:=hW1;rw [hn];clear hW1 hown hblk hblk1 hb1 hb2 hcs hthere hnews hfl hlenN hs1 hs2 hsz;go_enter Tryz.func211,Tryz.ntmps211;go_wp2_with fail;go_region_law (refine step_append_room rfl (.tmp 22) (.tmp 25) 37 rfl 116 i0 3 Tryz.underlying37 hi0 hz1 g 0 i cap (by simp [Act.eval,Act.put]) A (n - (i+1)) (cap - (i+1)) news (by simp [Act.eval,Act.put]) s1.out hsrc.out s2.out (by omega) s3.out ?_;rw [←hW.out])
 go_wp2;go_ret;exact ⟨rfl,HO.out,HK.out⟩
def mK (w w':World):Prop:=∀b cur t,lA w b cur t→t≠116→t≠185→lA w' b cur t
theorem mK.trans {a b c:World} (h:mK a b) (k:mK b c):mK a c:=fun x cur t hx h1 h2=>k x cur t (h x cur t hx h1 h2) h1 h2
theorem mK.of {w w':World} (h:Below w.heap.size w w'):mK w w':=fun _ _ _ hx _ _=>hx.later h
theorem mK.keeps {S:Nat→Prop}{w w':World} (h:oC S w w') (hS:∀k,S k→∃cur t,lA w k cur t∧(t=116∨t=185)):mK w w':=fun x cur t hx h1 h2=>hx.keeps h (fun hs=>by
 obtain ⟨cur',t',hb,ht⟩:=hS x hs;have e:=(show w.heap[x]?=_ from hx).symm.trans hb;simp only [Option.some.injEq,Obj.cells.injEq] at e;rcases ht with ht | ht
 ·exact h1 (e.2.1.trans ht)
 ·exact h2 (e.2.1.trans ht))
theorem mK.set {w:World}{g o:Nat}{cur:Array Value}{t:TypeId} (hb:lA w g cur t) (ht:t=116∨t=185) (v:Value):mK w (w.setCell ⟨g,o,none⟩ v):=
 mK.keeps (S:=fun k=>k=g) ((oC.refl (fun k=>k=g) w).setCell (g:=g) rfl o v) (fun k e=>⟨cur,t,by rw [e];exact hb,ht⟩)
theorem GF {w:World}{B:Nat}{v:Value}{n:Nat}{xs:List Value} (h:w.ownsRow B 116 3 v n xs):∀g,v.ownBlock=some g→∃cur,lA w g cur 116:=by
 intro g hg;rcases h.2 with ⟨rfl,_⟩ | ⟨g',cap,cur,rfl,_,hb,_⟩
 ·simp [Value.ownBlock] at hg
 ·simp [Value.ownBlock] at hg;subst hg;exact ⟨cur,hb⟩
structure vG (B:Nat) (w w':World):Prop where
 below:Below B w w'
 other:mK w w'
theorem vG.trans {B:Nat}{a b c:World} (h:vG B a b) (k:vG B b c):vG B a c:=⟨h.below.trans k.below,h.other.trans k.other⟩
theorem vG.of {B:Nat}{w w':World} (h:Below w.heap.size w w') (hB:B≤w.heap.size):vG B w w':=⟨h.mono hB,mK.of h⟩
theorem vG.on {B:Nat}{a w w':World} (h:vG B a w) (k:Below w.heap.size w w') (hB:B≤w.heap.size):vG B a w':=h.trans (vG.of k hB)
theorem vG.set {B g o:Nat}{a w:World}{cur:Array Value}{t:TypeId} (h:vG B a w) (hb:lA w g cur t) (ht:t=116∨t=185) (hg:B≤g) (v:Value):vG B a (w.setCell ⟨g,o,none⟩ v):=
 ⟨h.below.setCell (by show B≤g;exact hg) _,h.other.trans (mK.set hb ht v)⟩
theorem vG.but {B g:Nat}{a w w':World}{cur:Array Value}{t:TypeId} (h:vG B a w) (k:bE g w w') (hb:lA w g cur t) (ht:t=116∨t=185) (hg:B≤g) (hB:B≤w.heap.size):vG B a w':=
 ⟨h.below.trans (k.below hg hB),h.other.trans (mK.keeps (oC.but k) (fun j e=>⟨cur,t,by rw [e];exact hb,ht⟩))⟩
theorem vG.charge {B D:Nat}{fs:List eA}{c k cr fl:Int}{dn:Bool}{v:Value}{w w1:World}{o:Obj} (h:dB w B D fs c k cr fl dn v) (hB:B≤w.heap.size) (hbut:bE D (w.alloc o) w1):vG B w w1:=
 (vG.of (bA w o) hB).but hbut (h.later (bA w o)).blk (Or.inr rfl) h.from' (by simp;omega)
structure gA where
 s:ByteArray
 n:Int
def bT (w:World) (b o:Nat) (ls:List gA):Prop:=
 ∀i (h:i<ls.length),w.cell? ⟨b,o+i * 2,none⟩=some (.string ls[i].s)∧w.cell? ⟨b,o+i * 2+1,none⟩=some (.int .i64 ls[i].n)
def sA (w:World) (a:Option Addr) (ls:List gA):Prop:=ls=[]∨∃b o,a=some ⟨b,o,none⟩∧b<w.heap.size∧bT w b o ls
theorem sA.later {w w':World}{a:Option Addr}{ls:List gA} (h:sA w a ls) (hb:Below w.heap.size w w'):sA w' a ls:=by
 rcases h with h | ⟨b,o,rfl,hlt,h⟩
 ·exact Or.inl h
 ·refine Or.inr ⟨b,o,rfl,Nat.lt_of_lt_of_le hlt hb.size,fun i hi=>?_⟩;obtain ⟨h1,h2⟩:=h i hi;exact ⟨by rw [←h1];exact hb.cell hlt,by rw [←h2];exact hb.cell hlt⟩
theorem sA.at {w:World}{a:Option Addr}{ls:List gA} (h:sA w a ls){i:Nat} (hi:i<ls.length):
 ∃b o,a=some ⟨b,o,none⟩∧b<w.heap.size∧w.cell? ⟨b,o+i * 2,none⟩=some (.string ls[i].s)∧w.cell? ⟨b,o+i * 2+1,none⟩=some (.int .i64 ls[i].n):=by
 rcases h with rfl | ⟨b,o,rfl,hlt,h⟩
 ·exact absurd hi (by simp)
 ·exact ⟨b,o,rfl,hlt,h i hi⟩
def fB (w:World) (B:Nat) (a:Option Addr) (ls:List gA):Prop:=
 ls=[]∨∃g o cur t,a=some ⟨g,o,none⟩∧B≤g∧w.heap[g]?=some (.cells cur t (0,0))∧bT w g o ls
theorem fB.pairs {w:World}{B:Nat}{a:Option Addr}{ls:List gA} (h:fB w B a ls):sA w a ls:=by
 rcases h with h | ⟨g,o,cur,t,rfl,_,hb,h⟩
 ·exact Or.inl h
 ·exact Or.inr ⟨g,o,rfl,aA hb,h⟩
theorem fB.later {w w':World}{B:Nat}{a:Option Addr}{ls:List gA} (h:fB w B a ls) (hb:Below w.heap.size w w'):fB w' B a ls:=by
 rcases h with h | ⟨g,o,cur,t,rfl,hB,hg,h⟩
 ·exact Or.inl h
 ·have hlt:=aA hg;have hk:∀j,w'.cell? ⟨g,j,none⟩=w.cell? ⟨g,j,none⟩:=fun j=>World.cell?_of_block (hb.block g hlt);exact Or.inr ⟨g,o,cur,t,rfl,hB,(hb.block g hlt).trans hg,fun i hi=>by simp only [hk];exact h i hi⟩
theorem fB.mono {w:World}{B B':Nat}{a:Option Addr}{ls:List gA} (h:fB w B a ls) (hB:B'≤B):fB w B' a ls:=by
 rcases h with h | ⟨g,o,cur,t,rfl,hB',hg,h⟩
 ·exact Or.inl h
 ·exact Or.inr ⟨g,o,cur,t,rfl,Nat.le_trans hB hB',hg,h⟩
def oL (cur:Array Value) (o j:Nat) (f:gA):Prop:=cur[o+j * 2]?=some (.string f.s)∧cur[o+j * 2+1]?=some (.int .i64 f.n)
theorem oL.set {cur:Array Value}{o j:Nat}{f:gA} (h:oL cur o j f){p:Nat} (hp:p<o+j * 2∨o+j * 2+1<p) (v:Value):oL (cur.setIfInBounds p v) o j f:=by
 obtain ⟨a1,a2⟩:=h;refine ⟨?_,?_⟩
 ·rw [Array.getElem?_setIfInBounds_ne (by omega)];exact a1
 ·rw [Array.getElem?_setIfInBounds_ne (by omega)];exact a2
theorem oL.made (cur:Array Value) (o j:Nat) (f:gA) (h:o+j * 2+1<cur.size):
 oL ((cur.setIfInBounds (o+j * 2) (.string f.s)).setIfInBounds (o+j * 2+1) (.int .i64 f.n)) o j f:=by
 refine ⟨?_,?_⟩<;>simp [Array.getElem?_setIfInBounds]<;>omega
theorem CO {w:World}{g o:Nat}{cur:Array Value}{t:TypeId}{fs:List gA} (h:lA w g cur t) (hr:∀j (hj:j<fs.length),oL cur o j fs[j]):bT w g o fs:=by
 intro j hj;simp only [h.cell];exact hr j hj
theorem CQ {w:World}{g o:Nat}{cur:Array Value}{t:TypeId}{fs:List gA} (h:lA w g cur t) (hf:bT w g o fs):∀j (hj:j<fs.length),oL cur o j fs[j]:=by
 intro j hj;have:=hf j hj;simp only [h.cell] at this;exact this
theorem aAj {cur:Array Value}{o:Nat}{fs:List gA} (hr:∀j (hj:j<fs.length),oL cur o j fs[j]):fs.length=0∨o+fs.length * 2≤cur.size:=by
 by_cases h:fs.length=0
 ·exact Or.inl h
 ·right;have:=(hr (fs.length - 1) (by omega)).2;have:=(Array.getElem?_eq_some_iff.1 this).1;omega
theorem lC {w:World}{B:Nat}{e:TypeId}{a:Option Addr}{cap:Nat}{l:List gA}
 (h:w.ownsRow B e 2 (.slice a l.length cap) l.length (l.flatMap fun x=>[.string x.s,.int .i64 x.n])):fB w B a l:=by
 rcases h.2 with ⟨_,hl⟩ | ⟨g,cap',cur,he,hB,hg,_,_,hsz,htk⟩
 ·exact Or.inl (List.length_eq_zero_iff.1 hl)
 ·simp only [Value.slice.injEq] at he;have hf:∀(l:List gA) i (hi:i<l.length),(l.flatMap fun x=>[Value.string x.s,.int .i64 x.n])[i * 2]?=some (.string l[i].s)∧(l.flatMap fun x=>[Value.string x.s,.int .i64 x.n])[i * 2+1]?=some (.int .i64 l[i].n):=by
   intro l;induction l with
   | nil=>intro i hi;exact absurd hi (by simp)
   | cons x r ih=>
     intro i hi;cases i with
     | zero=>simp
     | succ i=>
       have:=ih i (by simpa using hi);simp only [List.flatMap_cons,List.cons_append,List.nil_append,List.getElem_cons_succ];rw [show (i+1) * 2=i * 2+1+1 by omega,List.getElem?_cons_succ,List.getElem?_cons_succ,List.getElem?_cons_succ,List.getElem?_cons_succ];exact this
  refine Or.inr ⟨g,0,cur,e,he.1,hB,hg,fun i hi=>?_⟩;have h2:∀j,j<l.length * 2→cur[j]?=(l.flatMap fun x=>[Value.string x.s,.int .i64 x.n])[j]?:=fun j hj=>by
   rw [←htk,List.getElem?_take_of_lt hj,Array.getElem?_toList]
  rw [cell_of_row w g _ cur _ _ hg,cell_of_row w g _ cur _ _ hg,Nat.zero_add,h2 _ (by omega),h2 _ (by omega)];exact hf l i hi
def bB:List gA→Nat
 | []=>0
 | f :: r=>f.s.size+bB r
theorem tR (a b:List gA):bB (a++b)=bB a+bB b:=by
 induction a with
 | nil=>simp [bB]
 | cons f r ih=>simp [bB,ih];omega
theorem gJ (fs:List gA) (k:Nat) (h:k<fs.length):bB (fs.take (k+1))=bB (fs.take k)+fs[k].s.size:=by
 rw [List.take_succ_eq_append_getElem h,tR];simp [bB]
theorem bL (fs:List gA) (k:Nat):bB (fs.take k)≤bB fs:=by
 have:=tR (fs.take k) (fs.drop k);rw [List.take_append_drop] at this;omega
def kR (left:Int) (f:gA):Int:=if (f.s.size:Int)≤left then left - f.s.size else -1
def eH (left:Int) (fs:List gA):Int:=if (fs.length+bB fs:Int)≤left then left - fs.length - bB fs else -1
def nY (fs:List gA):Prop:=∀i (h:i<fs.length),fs[i].s.size≤maxLen
def VI (k:Nat) (i:Nat):gA:=⟨mt (k+2 * i),((k+2 * i+1:Nat):Int)⟩
def aF (k n:Nat):List gA:=(List.range n).map (VI k)
theorem pG (k n:Nat):(aF k n).length=n:=by simp [aF]
theorem gU (k n i:Nat) (h:i<(aF k n).length):(aF k n)[i]=VI k i:=by simp [aF]
theorem fB.but {g b o B:Nat}{w w':World}{fs:List gA} (h:fB w B (some ⟨b,o,none⟩) fs) (hb:bE g w w') (hg:b≠g):fB w' B (some ⟨b,o,none⟩) fs:=by
 rcases h with h | ⟨b',o',cur,t,e,hB,hblk,h⟩
 ·exact Or.inl h
 ·simp only [Option.some.injEq,Addr.mk.injEq,and_true] at e;obtain ⟨rfl,rfl⟩:=e;have hk:=hb.block b (aA hblk) hg;have hc:∀j,w'.cell? ⟨b,j,none⟩=w.cell? ⟨b,j,none⟩:=fun j=>World.cell?_of_block hk;exact Or.inr ⟨b,o,cur,t,rfl,hB,hk.trans hblk,fun i hi=>by simp only [hc];exact h i hi⟩
structure cA where
 name:ByteArray
 limit:Int
 mets:List gA
 sers:List gA
def DK (w:World) (b o:Nat) (t:cA):Prop:=
 ∃a1 c1 a2 c2,w.cell? ⟨b,o,none⟩=some (.string t.name)∧w.cell? ⟨b,o+1,none⟩=some (.int .i64 t.limit)∧w.cell? ⟨b,o+2,none⟩=some (.slice a1 t.mets.length c1)∧w.cell? ⟨b,o+3,none⟩=some (.slice a2 t.sers.length c2)∧
  sA w a1 t.mets∧sA w a2 t.sers
def aOa (w:World) (b o:Nat) (ts:List cA):Prop:=∀i (h:i<ts.length),DK w b (o+i * 4) ts[i]
def pB (w:World) (a:Option Addr) (ts:List cA):Prop:=ts=[]∨∃b o,a=some ⟨b,o,none⟩∧b<w.heap.size∧aOa w b o ts
theorem DK.later {w w':World}{b o:Nat}{t:cA} (h:DK w b o t) (hlt:b<w.heap.size) (hb:Below w.heap.size w w'):DK w' b o t:=by
 obtain ⟨a1,c1,a2,c2,h0,h1,h2,h3,h4,h5⟩:=h;exact ⟨a1,c1,a2,c2,(hb.cell hlt).trans h0,(hb.cell hlt).trans h1,(hb.cell hlt).trans h2,(hb.cell hlt).trans h3,h4.later hb,h5.later hb⟩
theorem pB.later {w w':World}{a:Option Addr}{ts:List cA} (h:pB w a ts) (hb:Below w.heap.size w w'):pB w' a ts:=by
 rcases h with h | ⟨b,o,rfl,hlt,h⟩
 ·exact Or.inl h
 ·exact Or.inr ⟨b,o,rfl,Nat.lt_of_lt_of_le hlt hb.size,fun i hi=>(h i hi).later hlt hb⟩
theorem pB.at {w:World}{a:Option Addr}{ts:List cA} (h:pB w a ts){i:Nat} (hi:i<ts.length):
 ∃b o a1 c1 a2 c2,a=some ⟨b,o,none⟩∧b<w.heap.size∧w.cell? ⟨b,o+i * 4,none⟩=some (.string ts[i].name)∧w.cell? ⟨b,o+i * 4+1,none⟩=some (.int .i64 ts[i].limit)∧
  w.cell? ⟨b,o+i * 4+2,none⟩=some (.slice a1 ts[i].mets.length c1)∧w.cell? ⟨b,o+i * 4+3,none⟩=some (.slice a2 ts[i].sers.length c2)∧sA w a1 ts[i].mets∧sA w a2 ts[i].sers:=by
 rcases h with rfl | ⟨b,o,rfl,hlt,h⟩
 ·exact absurd hi (by simp)
 ·obtain ⟨a1,c1,a2,c2,h⟩:=h i hi;exact ⟨b,o,a1,c1,a2,c2,rfl,hlt,h⟩
def fC (w:World) (B:Nat) (T:Nat→Nat) (n:Nat) (a:Option Addr) (ps:List gA):Prop:=
 ps=[]∨∃g o cur t,a=some ⟨g,o,none⟩∧B≤g∧T g=n∧w.heap[g]?=some (.cells cur t (0,0))∧bT w g o ps
theorem fC.pairs {w:World}{B n:Nat}{T:Nat→Nat}{a:Option Addr}{ps:List gA} (h:fC w B T n a ps):sA w a ps:=by
 rcases h with h | ⟨g,o,cur,t,rfl,_,_,hb,h⟩
 ·exact Or.inl h
 ·exact Or.inr ⟨g,o,rfl,aA hb,h⟩
theorem fC.keep {w w':World}{B n:Nat}{T T':Nat→Nat}{a:Option Addr}{ps:List gA} (h:fC w B T n a ps)
 (hk:∀g,g<w.heap.size→B≤g→T g=n→w'.heap[g]?=w.heap[g]?∧T' g=n):fC w' B T' n a ps:=by
 rcases h with h | ⟨g,o,cur,t,e,hB,hT,hb,h⟩
 ·exact Or.inl h
 ·obtain ⟨h1,h2⟩:=hk g (aA hb) hB hT;have hc:∀j,w'.cell? ⟨g,j,none⟩=w.cell? ⟨g,j,none⟩:=fun j=>World.cell?_of_block h1;exact Or.inr ⟨g,o,cur,t,e,hB,h2,h1.trans hb,fun i hi=>by simp only [hc];exact h i hi⟩
theorem fB.tag {w:World}{B n:Nat}{T:Nat→Nat}{a:Option Addr}{ps:List gA} (h:fB w B a ps) (hT:∀g o,a=some ⟨g,o,none⟩→T g=n):fC w B T n a ps:=by
 rcases h with h | ⟨g,o,cur,t,e,hB,hb,h⟩
 ·exact Or.inl h
 ·exact Or.inr ⟨g,o,cur,t,e,hB,hT g o e,hb,h⟩
def pK (w:World) (B:Nat) (T:Nat→Nat) (i b o:Nat) (t:cA):Prop:=
 ∃a1 c1 a2 c2,w.cell? ⟨b,o,none⟩=some (.string t.name)∧w.cell? ⟨b,o+1,none⟩=some (.int .i64 t.limit)∧w.cell? ⟨b,o+2,none⟩=some (.slice a1 t.mets.length c1)∧w.cell? ⟨b,o+3,none⟩=some (.slice a2 t.sers.length c2)∧
  fC w B T (2 * i+1) a1 t.mets∧fC w B T (2 * i+2) a2 t.sers
def eB (w:World) (B:Nat) (a:Option Addr) (ts:List cA):Prop:=
 ts=[]∨∃g o cur t T,a=some ⟨g,o,none⟩∧B≤g∧w.heap[g]?=some (.cells cur t (0,0))∧T g=0∧∀i (h:i<ts.length),pK w B T i g (o+i * 4) ts[i]
theorem pK.at {w:World}{B i b o:Nat}{T:Nat→Nat}{t:cA} (h:pK w B T i b o t):DK w b o t:=by
 obtain ⟨a1,c1,a2,c2,h0,h1,h2,h3,h4,h5⟩:=h;exact ⟨a1,c1,a2,c2,h0,h1,h2,h3,h4.pairs,h5.pairs⟩
theorem eB.tens {w:World}{B:Nat}{a:Option Addr}{ts:List cA} (h:eB w B a ts):pB w a ts:=by
 rcases h with h | ⟨g,o,cur,t,T,rfl,_,hb,_,h⟩
 ·exact Or.inl h
 ·exact Or.inr ⟨g,o,rfl,aA hb,fun i hi=>(h i hi).at⟩
theorem pK.keep {w w':World}{B i b o:Nat}{T T':Nat→Nat}{t:cA} (h:pK w B T i b o t) (hc:∀j,j<4→w'.cell? ⟨b,o+j,none⟩=w.cell? ⟨b,o+j,none⟩)
 (hk:∀g,g<w.heap.size→B≤g→(T g=2 * i+1∨T g=2 * i+2)→w'.heap[g]?=w.heap[g]?∧T' g=T g):pK w' B T' i b o t:=by
 obtain ⟨a1,c1,a2,c2,h0,h1,h2,h3,h4,h5⟩:=h;refine ⟨a1,c1,a2,c2,(hc 0 (by omega)).trans h0,(hc 1 (by omega)).trans h1,(hc 2 (by omega)).trans h2,(hc 3 (by omega)).trans h3,h4.keep fun g hg hB hT=>?_,h5.keep fun g hg hB hT=>?_⟩
 ·obtain ⟨q1,q2⟩:=hk g hg hB (Or.inl hT);exact ⟨q1,q2.trans hT⟩
 ·obtain ⟨q1,q2⟩:=hk g hg hB (Or.inr hT);exact ⟨q1,q2.trans hT⟩
theorem eB.later {w w':World}{B:Nat}{a:Option Addr}{ts:List cA} (h:eB w B a ts) (hb:Below w.heap.size w w'):eB w' B a ts:=by
 rcases h with h | ⟨g,o,cur,t,T,rfl,hB,hg,hT,h⟩
 ·exact Or.inl h
 ·have hlt:=aA hg;exact Or.inr ⟨g,o,cur,t,T,rfl,hB,(hb.block g hlt).trans hg,hT,fun i hi=>(h i hi).keep (fun j _=>World.cell?_of_block (hb.block g hlt)) fun g' hg' _ _=>⟨hb.block g' hg',rfl⟩⟩
def zC (t:cA):Nat:=t.name.size+(t.mets.length+bB t.mets)+(t.sers.length+bB t.sers)
def nA:List cA→Nat
 | []=>0
 | f :: r=>zC f+nA r
theorem yR (a b:List cA):nA (a++b)=nA a+nA b:=by
 induction a with
 | nil=>simp [nA]
 | cons f r ih=>simp [nA,ih];omega
theorem lJ (fs:List cA) (k:Nat) (h:k<fs.length):nA (fs.take (k+1))=nA (fs.take k)+zC fs[k]:=by
 rw [List.take_succ_eq_append_getElem h,yR];simp [nA]
theorem jL (fs:List cA) (k:Nat):nA (fs.take k)≤nA fs:=by
 have:=yR (fs.take k) (fs.drop k);rw [List.take_append_drop] at this;omega
def xO (left:Int) (f:cA):Int:=if (zC f:Int)≤left then left - zC f else -1
def uG (left:Int) (fs:List cA):Int:=if (fs.length+nA fs:Int)≤left then left - fs.length - nA fs else -1
def cW (t:cA):Prop:=t.name.size≤maxLen∧nY t.mets∧t.mets.length≤maxLen∧nY t.sers∧t.sers.length≤maxLen
def rU (fs:List cA):Prop:=∀i (h:i<fs.length),cW fs[i]
theorem oR (fs:List cA) (k:Nat) (h:k<fs.length):zC fs[k]≤nA fs:=by
 have h1:=lJ fs k h;have h2:=jL fs (k+1);omega
def gM (w : World) : Prop := Lib.TabIs Tryz.prog w "internal/strconv.uint64pow10" .u64 Lib.pow10Tab
theorem gM.later {w w':World} (h:gM w) (hb:Below w.heap.size w w'):gM w':=by
 unfold gM Lib.TabIs World.var? at h ⊢;cases hg : Tryz.prog.globalNamed "internal/strconv.uint64pow10" with
 | none=>rw [hg] at h;cases h
 | some g=>
   rw [hg] at h;simp only [Option.bind_some] at h ⊢;have hlt:g<w.heap.size:=by
    rcases Nat.lt_or_ge g w.heap.size with h' | h'
    ·exact h'
    ·rw [Array.getElem?_eq_none h'] at h;cases h
   rw [hb.block g hlt];exact h
theorem aNb (n:Nat) (h:n<1000000):(⟨#[119,97,108,45]⟩:ByteArray)++(⟨(Lib.itoa ((1000000+n:Nat):Int)).toArray⟩:ByteArray).extract 1 7=JF n:=by
 rw [US n h];apply ByteArray.ext;simp [JF,sV]
theorem nS (n:Int) (w:World) (htab:gM w):
 Calls Tryz.prog 127 #[.int .i64 n] w fun e w'=>e=.returned (.string (gL n))∧Below w.heap.size w w':=by
 by_cases h:1≤n∧n≤999999
 ·obtain ⟨N,rfl⟩:=Int.eq_ofNat_of_zero_le (show 0≤n by omega);have E:Hid (gL N=JF N):=if_pos h;have hN0:1≤N:=by omega
  have hN1:N≤999999:=by omega
  have HI:Hid (Calls Tryz.prog 174 #[.int .i64 (1000000+(N:Int))] w fun e w'=>e=.returned (.string ⟨(Lib.itoa ((1000000+N:Nat):Int)).toArray⟩)∧Below w.heap.size w w'):=
   (Tryz.strconv_Itoa ((1000000+N:Nat):Int) (by omega) (by omega) w htab).mono (by
    rintro e w' ⟨rfl,k,os,rfl⟩;exact ⟨rfl,Lib.below_grow _ _ (Nat.le_refl _) _ _⟩)
  have HX:Hid ((⟨#[119,97,108,45]⟩:ByteArray)++(⟨(Lib.itoa ((1000000+N:Nat):Int)).toArray⟩:ByteArray).extract 1 7=JF N):=aNb N (by omega);have hz:(⟨(Lib.itoa ((1000000+N:Nat):Int)).toArray⟩:ByteArray).size=7:=by
   rw [US N (by omega)];simp [sV,ByteArray.size]
  generalize (⟨(Lib.itoa ((1000000+N:Nat):Int)).toArray⟩:ByteArray)=X at *;clear h htab;go_enter Tryz.func127,Tryz.ntmps127;go_wp2_with fail;refine HI.out.mono ?_;rintro e w1 ⟨rfl,hb1⟩;have HB:Hid (Below w.heap.size w w1):=hb1;clear hb1;go_wp2;go_ret;refine ⟨?_,HB.out⟩;rw [E.out,←HX.out];rfl
 ·have E:Hid (gL n=ByteArray.empty):=if_neg h;by_cases h1:n<1
  ·go_enter Tryz.func127,Tryz.ntmps127;go_wp2;go_ret;exact ⟨by rw [E.out];rfl,Below.refl _ _⟩
  ·have h2:999999<n:=by omega
   clear h;go_enter Tryz.func127,Tryz.ntmps127;go_wp2;go_ret;exact ⟨by rw [E.out];rfl,Below.refl _ _⟩
def tP (x:Nat):Nat:=if x % 2=1 then (x / 2) ^^^ 2197175160 else x / 2
def wJ (x:Nat):Nat→Nat
 | 0=>x
 | k+1=>tP (wJ x k)
def YN (i:Nat):Nat:=wJ i 8
theorem aIl {x:Nat} (h:x<4294967296):tP x<4294967296:=by
 unfold tP;split
 ·exact Nat.xor_lt_two_pow (n:=32) (by omega) (by omega)
 ·omega
theorem KI {x:Nat} (h:x<4294967296):∀k,wJ x k<4294967296
 | 0=>h
 | k+1=>aIl (KI h k)
theorem aLy {i:Nat} (h:i<256):YN i<4294967296:=KI (by omega) 8
theorem aDd (a b:Nat):(a ^^^ b) % 2=(a+b) % 2:=by
 have:=Nat.xor_mod_two_eq_one (a:=a) (b:=b);omega
theorem aEd (r x:Nat):tP (r ^^^ x)=eS r x ^^^ (x / 2):=by
 unfold tP eS;rw [aDd,Nat.xor_div_two];split
 ·rw [Nat.xor_assoc,Nat.xor_comm (x / 2),←Nat.xor_assoc]
 ·rfl
theorem AA (r b:Nat):∀k,wJ (r ^^^ b) k=pL r b k ^^^ (b / 2 ^ k)
 | 0=>by simp [wJ,pL]
 | k+1=>by
   show tP (wJ (r ^^^ b) k)=eS (pL r b k) (b / 2 ^ k) ^^^ (b / 2 ^ (k+1));rw [AA r b k,aEd,Nat.div_div_eq_div_mul,Nat.pow_succ]
theorem YM (x z:Nat):tP (x ^^^ (2 * z))=tP x ^^^ z:=by
 unfold tP;rw [aDd,Nat.xor_div_two,show (x+2 * z) % 2=x % 2 by omega,show 2 * z / 2=z by omega];split
 ·rw [Nat.xor_assoc,Nat.xor_comm z,←Nat.xor_assoc]
 ·rfl
theorem qq (x z:Nat):∀k,wJ (x ^^^ (2 ^ k * z)) k=wJ x k ^^^ z
 | 0=>by simp [wJ]
 | k+1=>by
   show tP (wJ (x ^^^ (2 ^ (k+1) * z)) k)=tP (wJ x k) ^^^ z;rw [Nat.pow_succ,Nat.mul_assoc,qq x (2 * z) k,YM]
theorem aEe (r:Nat):r=(r % 256) ^^^ (256 * (r / 256)):=by
 have h:256 * (r / 256)+r % 256=(2 ^ 8 * (r / 256)) ||| (r % 256):=Nat.two_pow_add_eq_or_of_lt (i:=8) (b:=r % 256) (by omega) (r / 256)
 have h2:(r % 256) ^^^ (256 * (r / 256))=(2 ^ 8 * (r / 256)) ||| (r % 256):=by
  apply Nat.eq_of_testBit_eq;intro i;rw [Nat.testBit_xor,Nat.testBit_or,show 256 * (r / 256)=2 ^ 8 * (r / 256) from rfl,Nat.testBit_two_pow_mul,show r % 256=r % 2 ^ 8 from rfl,Nat.testBit_mod_two_pow];by_cases hi:i<8
  ·simp [hi,Nat.not_le.2 hi]
  ·simp [hi,Nat.not_lt.1 hi]
 omega
theorem aEf (r b:Nat) (hb:b<256):pL r b 8=(r / 256) ^^^ YN ((r % 256) ^^^ b):=by
 have h1:=AA r b 8;rw [show b / 2 ^ 8=0 by omega,Nat.xor_zero] at h1;rw [←h1];have h2:=qq ((r % 256) ^^^ b) (r / 256) 8;rw [show ((r % 256) ^^^ b) ^^^ (2 ^ 8 * (r / 256))=r ^^^ b by
  rw [Nat.xor_assoc,Nat.xor_comm b,←Nat.xor_assoc,show (2 ^ 8 * (r / 256))=256 * (r / 256) from rfl,←aEe r]] at h2
 rw [h2,Nat.xor_comm];rfl
theorem aLk:∃Z:Array Value,Z=Array.replicate 256 (.int .u32 0)∧∀w,(zeroValue 299).run Tryz.prog w=.ok (.agg Z) w:=⟨_,rfl,fun _=>by kernel_rfl⟩
theorem aBc (P:Program) (w:World) (Z:Array Value) (t:TypeId) (h1:∀v∈Z.toList,v.oneCell'=true):
 (storeCells ⟨w.heap.size,0,none⟩ Z.toList).run P (w.alloc (.cells Z t))=.ok () (w.alloc (.cells Z t)):=by
 have hg:(w.alloc (.cells Z t)).heap[w.heap.size]?=some (.cells Z t (0,0)):=heap_alloc_new _ _;have h:=run_storeCells_from (P:=P) w.heap.size t Z.toList 0 Z _ hg (by simp) h1;rw [h];simp only [List.take_zero,List.nil_append,Array.toArray_toList];rw [setRow_self _ _ Z t (0,0) hg]
theorem RR (a:Nat) (ha:a<4294967296):bits .and .u32 (a:Int) 1=((a % 2:Nat):Int):=by
 show IntKind.u32.wrap ((BitVec.ofInt 32 (a:Int) &&& BitVec.ofInt 32 ((1:Nat):Int)).toNat:Int)=_;rw [BitVec.toNat_and,BitVec.ofInt_natCast,BitVec.ofInt_natCast,BitVec.toNat_ofNat,BitVec.toNat_ofNat,Nat.mod_eq_of_lt (by omega),Nat.mod_eq_of_lt (by omega),Nat.and_one_is_mod];simp only [IntKind.wrap,IntKind.bits,IntKind.signed];simp;omega
theorem RG (a b:Nat) (ha:a<4294967296) (hb:b<4294967296):bits .xor .u32 (a:Int) (b:Int)=((a ^^^ b:Nat):Int):=by
 have hx:a ^^^ b<2 ^ 32:=Nat.xor_lt_two_pow (by omega) (by omega);show IntKind.u32.wrap ((BitVec.ofInt 32 (a:Int) ^^^ BitVec.ofInt 32 (b:Int)).toNat:Int)=_;rw [BitVec.toNat_xor,BitVec.ofInt_natCast,BitVec.ofInt_natCast,BitVec.toNat_ofNat,BitVec.toNat_ofNat,Nat.mod_eq_of_lt (by omega),Nat.mod_eq_of_lt (by omega)];simp only [IntKind.wrap,IntKind.bits,IntKind.signed];simp;omega
theorem VG (w:World):
 Calls Tryz.prog 175 #[] w fun e w'=>∃b cur,e=.returned (.pointer (some ⟨b,0,none⟩))∧w.heap.size≤b∧lA w' b cur 299∧(∀i,i<256→cur[i]?=some (.int .u32 (YN i:Nat)))∧Below w.heap.size w w':=by
 obtain ⟨Z,hZ,hz⟩:=aLk;have HZ:Hid _:=hZ;have hzs:Z.size=256:=by rw [hZ];simp
 have hst:=aBc Tryz.prog w Z 299 (by rw [hZ];simp [Value.oneCell']);have hB:lA (w.alloc (.cells Z 299)) w.heap.size Z 299:=heap_alloc_new _ _;have HB:Hid (lA (w.alloc (.cells Z 299)) w.heap.size Z 299):=hB;clear hZ hB;go_enter Tryz.func175,Tryz.ntmps175;go_wp2;go_loopw [2,3,5] (fun _ _ c wr=>∃(k:Nat) (cur:Array Value),k≤256∧c=.int .i64 k∧Hid (lA wr w.heap.size cur 299)∧cur.size=256∧Hid (∀i,i<k→cur[i]?=some (.int .u32 (YN i:Nat)))∧Hid (Below w.heap.size w wr)) (fun _ _ c _=>256 - (intOf c).toNat)
 case atStart=>exact ⟨0,Z,by omega,rfl,HB,hzs,fun i hi=>absurd hi (by omega),bA _ _⟩
 case round=>
  obtain ⟨k,cur,hk,rfl,hblk,hcs,hcur,hbel⟩:=hrel;by_cases hlt:k<256
  ·go_wp2;go_loop [3,10] (fun x c=>∃(j X:Nat),j≤8∧c=.int .i64 j∧x=.int .u32 X∧X<4294967296∧Hid (X=wJ k j)) (fun _ c=>8 - (intOf c).toNat)
   case atStart=>exact ⟨0,k,by omega,rfl,by go_num,by omega,rfl⟩
   case round=>
    obtain ⟨j,X,hj,rfl,rfl,hX,hx⟩:=hrel;have ha:=RR X hX;have hxr:=RG (X / 2) 2197175160 (by omega) (by omega);by_cases h8:j<8
    ·by_cases hodd:X % 2=1
     ·rw [hodd] at ha;go_wp2;refine ⟨⟨j+1,(X / 2) ^^^ 2197175160,by omega,by go_num,?_,Nat.xor_lt_two_pow (n:=32) (by omega) (by omega),?_⟩,by simp [intOf];omega⟩
      ·rw [←hxr];congr 2
      ·show _=_;rw [wJ,←hx.out,tP,if_pos hodd]
     ·have h0:X % 2=0:=by omega
      rw [h0] at ha;go_wp2;refine ⟨⟨j+1,X / 2,by omega,by go_num,?_,by omega,?_⟩,by simp [intOf];omega⟩
      ·go_num
      ·show _=_;rw [wJ,←hx.out,tP,if_neg hodd]
    ·have e:j=8:=by omega
     subst e;have hc:wr.cell? ⟨w.heap.size,k,none⟩=some (cur[k]'(by omega)):=by rw [hblk.out.cell];exact Array.getElem?_eq_getElem _
     have hf:=hblk.out.free k;go_wp2;refine ⟨⟨k+1,cur.setIfInBounds k (.int .u32 X),by omega,by go_num,hblk.out.set k _,by simp [hcs],?_,?_⟩,by simp [intOf];omega⟩
     ·intro i hi;rw [Array.getElem?_setIfInBounds];split
      ·rename_i e;subst e;rw [if_pos (by omega),hx.out];rfl
      ·exact hcur.out i (by omega)
     ·exact hbel.out.setCell (p:=⟨w.heap.size,k,none⟩) (Nat.le_refl _) _
  ·have e:k=256:=by omega
   subst e;go_wp2;go_ret;exact ⟨w.heap.size,cur,rfl,Nat.le_refl _,hblk.out,hcur.out,hbel.out⟩
theorem WV (s:ByteArray) (w:World) (hs:s.size≤maxLen):
 Calls Tryz.prog 102 #[.string s] w fun e w'=>e=.returned (.int .i64 (uQ s:Nat))∧w'=w:=by
 unfold maxLen at hs;go_enter Tryz.func102,Tryz.ntmps102;go_wp2;go_loop [3,4,5,6,7,8] (fun r i _ _ _ _=>∃(j R:Nat),j≤s.size∧i=.int .i64 j∧r=.int .i64 R∧Hid (R=SR (s.data.toList.take j))) (fun _ i _ _ _ _=>s.size - (intOf i).toNat)
 case atStart=>exact ⟨0,4294967295,Nat.zero_le _,rfl,rfl,rfl⟩
 case round=>
  obtain ⟨j,R,hj,rfl,rfl,hR⟩:=hrel;have hRlt:R<4294967296:=by rw [hR.out];exact aLx _
  by_cases hlt:j<s.size
  ·have hU:s[j].toNat<256:=s[j].toNat_lt;go_wp2;go_loop [3,5,6,7,8] (fun r k _ _ _=>∃(m S:Nat),m≤8∧k=.int .i64 m∧r=.int .i64 S∧Hid (S=pL R s[j].toNat m)) (fun _ k _ _ _=>8 - (intOf k).toNat)
   case atStart=>exact ⟨0,R,by omega,rfl,rfl,rfl⟩
   case round=>
    obtain ⟨m,S,hm,rfl,rfl,hS⟩:=hrel;have hSlt:S<4294967296:=by rw [hS.out];exact wU hRlt _
    by_cases hm8:m<8
    ·go_wp2;go_loop [6,7] (fun x q=>∃(t X:Nat),t≤m∧q=.int .i64 t∧x=.int .i64 X∧Hid (X=s[j].toNat / 2 ^ t)) (fun _ q=>m - (intOf q).toNat)
     case atStart=>exact ⟨0,s[j].toNat,by omega,rfl,rfl,by show _=_;simp⟩
     case round=>
      obtain ⟨t,X,ht,rfl,rfl,hX⟩:=hrel;have hXlt:X<256:=by
       have:X≤s[j].toNat:=by rw [hX.out];exact Nat.div_le_self _ _
       omega
      by_cases htm:t<m
      ·go_wp2;exact ⟨⟨t+1,X / 2,by omega,by go_num,by go_num,by show _=_;rw [hX.out,Nat.div_div_eq_div_mul,Nat.pow_succ]⟩,by simp [intOf];omega⟩
      ·have e:t=m:=by omega
       subst e;by_cases hodd:(S+X) % 2=1
       ·go_wp2;have e2:bits BinOp.xor IntKind.i64 ((S:Int) / 2) 2197175160=(((S / 2) ^^^ 2197175160:Nat):Int):=aNp (S / 2) 2197175160 (by omega) (by omega);rw [e2];exact ⟨⟨t+1,_,by omega,by go_num,rfl,by show _=_;rw [pL,eS,←hS.out,←hX.out,if_pos hodd]⟩,by simp [intOf];omega⟩
       ·go_wp2;exact ⟨⟨t+1,S / 2,by omega,by go_num,by go_num,by show _=_;rw [pL,eS,←hS.out,←hX.out,if_neg hodd]⟩,by simp [intOf];omega⟩
    ·go_wp2;have e:m=8:=by omega
     subst e;exact ⟨⟨j+1,S,by omega,by go_num,rfl,by show _=_;rw [iQ s j hlt,KH,←hR.out,kW,hS.out]⟩,by simp [intOf];omega⟩
  ·go_wp2;go_ret;refine ⟨jB ?_,rfl⟩;rw [uQ,←List.take_of_length_le (l:=s.data.toList) (i:=j) (by simp;omega),←hR.out];omega
theorem aPl (a b:Nat) (ha:a<256) (hb:b<256):bits .xor .u8 (a:Int) (b:Int)=((a ^^^ b:Nat):Int):=by
 have hx:a ^^^ b<2 ^ 8:=Nat.xor_lt_two_pow (by omega) (by omega);show IntKind.u8.wrap ((BitVec.ofInt 8 (a:Int) ^^^ BitVec.ofInt 8 (b:Int)).toNat:Int)=_;rw [BitVec.toNat_xor,BitVec.ofInt_natCast,BitVec.ofInt_natCast,BitVec.toNat_ofNat,BitVec.toNat_ofNat,Nat.mod_eq_of_lt (by omega),Nat.mod_eq_of_lt (by omega)];simp only [IntKind.wrap,IntKind.bits,IntKind.signed];simp;omega
theorem aMs (a:Nat) (ha:a<4294967296):bits .xor .u32 IntKind.u32.max (a:Int)=((4294967295 - a:Nat):Int):=by
 have h1:bits .xor .u32 IntKind.u32.max (a:Int)=((4294967295 ^^^ a:Nat):Int):=RG 4294967295 a (by omega) ha;have h2:(4294967295 ^^^ a:Nat)=4294967295 - a:=by
  have e:(BitVec.allOnes 32 ^^^ BitVec.ofNat 32 a).toNat=(~~~ BitVec.ofNat 32 a).toNat:=by rw [BitVec.allOnes_xor]
  rw [BitVec.toNat_xor,BitVec.toNat_allOnes,BitVec.toNat_not,BitVec.toNat_ofNat,Nat.mod_eq_of_lt (by omega)] at e;exact e
 rw [h1,h2]
theorem aBh (b:Nat) (cur:Array Value) (s:ByteArray) (w:World) (hs:s.size≤maxLen) (hB:lA w b cur 299) (hcur:∀i,i<256→cur[i]?=some (.int .u32 (YN i:Nat))):
 Calls Tryz.prog 176 #[.pointer (some ⟨b,0,none⟩),.string s] w fun e w'=>e=.returned (.int .i64 (uQ s:Nat))∧Below w.heap.size w w':=by
 have HB:Hid (lA w b cur 299∧∀i,i<256→cur[i]?=some (.int .u32 (YN i:Nat))):=⟨hB,hcur⟩
 clear hB hcur;unfold maxLen at hs;go_enter Tryz.func176,Tryz.ntmps176;go_wp2;go_loopw [5,6,9] (fun x _ c wr=>∃(k X:Nat),k≤s.size∧c=.int .i64 k∧x=.int .u32 X∧X<4294967296∧Hid (X=SR (s.data.toList.take k))∧Hid (Below w.heap.size w wr)) (fun _ _ c _=>s.size - (intOf c).toNat)
 case atStart=>exact ⟨0,4294967295,by omega,rfl,rfl,by omega,by show _=_;simp [SR],Below.refl _ _⟩
 case round=>
  obtain ⟨k,X,hk,rfl,rfl,hX,hx,hbel⟩:=hrel;by_cases hlt:k<s.size
  ·have hc:=(s[k]).toNat_lt;obtain ⟨N,T,Y,hN,hT,hY,hxr,hxt,hcell,hcr⟩:∃N T Y:Nat,N<256∧T<4294967296∧Y<4294967296∧bits .xor .u8 ((X:Int) % 256) ((s[k]).toNat:Int)=(N:Int)∧bits .xor .u32 ((X:Int) / 256) (T:Int)=(Y:Int)∧wr.cell? ⟨b,N,none⟩=some (.int .u32 (T:Nat))∧Hid (kW X s[k]=Y):=by
    have hxr:=aPl (X % 256) (s[k]).toNat (by omega) (by omega);have hi:(X % 256) ^^^ (s[k]).toNat<256:=Nat.xor_lt_two_pow (n:=8) (by omega) (by omega);have hb':=HB.out.1.later hbel.out;have hT:=aLy hi;refine ⟨_,_,_,hi,hT,Nat.xor_lt_two_pow (n:=32) (by omega) hT,hxr,RG (X / 256) _ (by omega) hT,by rw [hb'.cell];exact HB.out.2 _ hi,aEf X _ (by omega)⟩
   go_wp2;go_region
   go_wp2;refine ⟨⟨k+1,Y,by omega,by go_num,rfl,hY,?_,hbel.out.drew⟩,by simp [intOf];omega⟩;show _=_;rw [iQ s k hlt,KH,←hx.out,hcr.out]
  ·have e:k=s.size:=by omega
   subst e;have hn:=aMs X hX;go_wp2;refine bodyPost_ret (v:=.int .i64 (uQ s:Nat)) ?_ rfl ⟨rfl,hbel.out⟩;have e2:wrap64 ((4294967295 - X:Nat):Int)=((4294967295 - X:Nat):Int):=by simp only [wrap64];omega
   rw [e2,show uQ s=4294967295 - X by rw [uQ,hx.out,List.take_of_length_le (by simp)]];simp [results,Tryz.results176,go_sem]
end Go.Proofs.YtcneojllbkacoaaGreatDoor
