import Derived.Test.YtcneojllbkacoaaGreatDoorJ01IFits
import Derived.Deep.RegionHeld3
set_option maxRecDepth 100000
set_option maxHeartbeats 2000000
namespace Go.Proofs.YtcneojllbkacoaaGreatDoor
open Go.RowKit
theorem eK {w:World}{B:Nat}{e:TypeId}{size:Nat}{v:Value}{n:Nat}{xs:List Value} (h:w.ownsRow B e size v n xs):∀g,v.ownBlock=some g→g<w.heap.size:=by
 intro g hg;rcases h.2 with ⟨rfl,_⟩ | ⟨g',cap,cur,rfl,_,hb,_⟩
 ·simp [Value.ownBlock] at hg
 ·simp [Value.ownBlock] at hg;subst hg;exact aA hb
theorem GJ {w:World}{B:Nat}{e:TypeId}{size:Nat}{v:Value}{n:Nat}{xs:List Value} (h:w.ownsRow B e size v n xs):∃a cap,v=.slice a n cap:=by
 rcases h.2 with ⟨rfl,rfl⟩ | ⟨g',cap,cur,rfl,_⟩
 ·exact ⟨none,0,rfl⟩
 ·exact ⟨_,cap,rfl⟩
theorem GK {w:World}{B B':Nat}{e:TypeId}{size:Nat}{v:Value}{n:Nat}{xs:List Value} (h:w.ownsRow B e size v n xs) (hB:B'≤B):w.ownsRow B' e size v n xs:=by
 refine ⟨h.1,?_⟩;rcases h.2 with h2 | ⟨g,cap,cur,hv,hb,r⟩
 ·exact Or.inl h2
 ·exact Or.inr ⟨g,cap,cur,hv,Nat.le_trans hB hb,r⟩
structure dB (w:World) (B D:Nat) (fs:List eA) (c k cr fl:Int) (dn:Bool) (v:Value):Prop where
 from':B≤D
 blk:lA w D #[.int .i64 k,.int .i64 cr,.int .i64 fl,.bool dn,v,.int .i64 c] 185
 row:w.ownsRow B 116 3 v fs.length (flat fs)
 apart:∀g,v.ownBlock=some g→g≠D
theorem dB.later {w w':World}{B D:Nat}{fs:List eA}{c k cr fl:Int}{dn:Bool}{v:Value} (h:dB w B D fs c k cr fl dn v) (hb:Below w.heap.size w w'):dB w' B D fs c k cr fl dn v:=
 ⟨h.from',h.blk.later hb,yA h.row hb,h.apart⟩
theorem aGa (a:Option Addr) (cap:Nat) (fs:List eA) (c k cr fl:Int) (dn:Bool) (w:World) (hf:kA w a fs) (hlen:fs.length≤1048576):
 Calls Tryz.prog 78 #[.agg #[.slice a fs.length cap,.int .i64 c,.int .i64 k,.int .i64 cr,.int .i64 fl,.bool dn]] w fun e w'=>
  ∃D v,e=.returned (.pointer (some ⟨D,0,none⟩))∧dB w' w.heap.size D fs c k cr fl dn v∧Below w.heap.size w w':=by
 have HF:Hid (kA w a fs):=hf;clear hf;obtain ⟨k0,k1,k2,k3,k4,k5⟩:=wT.new w (.slice a fs.length cap) (.int .i64 c) (.int .i64 k) (.int .i64 cr) (.int .i64 fl) (.bool dn) 39;have HK:Hid (∀w',Below (w.alloc (.cells #[.slice a fs.length cap,.int .i64 c,.int .i64 k,.int .i64 cr,.int .i64 fl,.bool dn] 39)).heap.size (w.alloc (.cells #[.slice a fs.length cap,.int .i64 c,.int .i64 k,.int .i64 cr,.int .i64 fl,.bool dn] 39)) w'→w'.cell? ⟨w.heap.size,0,none⟩=some (.slice a fs.length cap)∧w'.cell? ⟨w.heap.size,1,none⟩=some (.int .i64 c)∧w'.cell? ⟨w.heap.size,2,none⟩=some (.int .i64 k)∧w'.cell? ⟨w.heap.size,3,none⟩=some (.int .i64 cr)∧w'.cell? ⟨w.heap.size,4,none⟩=some (.int .i64 fl)∧w'.cell? ⟨w.heap.size,5,none⟩=some (.bool dn)):=fun w' h=>
  (wT.new w (.slice a fs.length cap) (.int .i64 c) (.int .i64 k) (.int .i64 cr) (.int .i64 fl) (.bool dn) 39).later h
 go_enter Tryz.func78,Tryz.ntmps78;go_wp2_with fail;go_region_held3 (fun w'=>w'.cell? ⟨w.heap.size,0,none⟩=some (.slice a fs.length cap)∧w'.cell? ⟨w.heap.size,1,none⟩=some (.int .i64 c)∧w'.cell? ⟨w.heap.size,2,none⟩=some (.int .i64 k)∧w'.cell? ⟨w.heap.size,3,none⟩=some (.int .i64 cr)∧w'.cell? ⟨w.heap.size,4,none⟩=some (.int .i64 fl)∧w'.cell? ⟨w.heap.size,5,none⟩=some (.bool dn))
  (first | (exact HK.out _ (rA (rA (Below.refl _ _).drew hb7) (bA _ _))) | (exact HK.out _ (rA (Below.refl _ _).drew hb7)) | (exact HK.out _ (Below.refl _ _).drew))
  (first
  | (go_at_call 66;refine (KE a cap fs _ ((HF.out.later (bA _ _)).later (Below.refl _ _).drew) hlen).mono ?_;rintro e w7 ⟨v,rfl,hrow,hb7⟩;obtain ⟨a7,cap7,rfl⟩:=GJ hrow))
 go_wp2;go_ret;have hb8:=hb7.size;have hlt:=eK hrow;refine ⟨w7.heap.size,_,rfl,⟨?_,heap_alloc_new _ _,GK (yA hrow (bA _ _)) (by simp),?_⟩,rA (rA (bA _ _) (rA (Below.refl _ _).drew hb7)) (bA _ _)⟩
 ·simp at hb8;omega
 ·intro g hg;have:=hlt g hg;omega
theorem XD (b o:Nat) (cur:Array Value) (t:TypeId) (d:ByteArray) (w:World) (hb:lA w b cur t) (h1:cur[o+1]?=some (.string d)) (h2:o+2<cur.size):
 Calls Tryz.prog 170 #[.pointer (some ⟨b,o,none⟩)] w fun e w'=>e=.returned (.tuple #[])∧w'=w.setCell ⟨b,o+2,none⟩ (.int .i64 d.size):=by
 have c1:=hb.cell (o+1);rw [h1] at c1;obtain ⟨v2,c2⟩:=hb.there h2;have f2:=hb.free (o+2);clear hb h1 h2;go_enter Tryz.func170,Tryz.ntmps170;go_wp2;go_end0;exact ⟨rfl,rfl⟩
theorem CC (D:Nat) (t:TypeId) (a:Option Addr) (n cap:Nat) (c k cr fl:Int) (dn:Bool) (w:World) (hb:lA w D #[.int .i64 k,.int .i64 cr,.int .i64 fl,.bool dn,.slice a n cap,.int .i64 c] t):
 Calls Tryz.prog 80 #[.pointer (some ⟨D,0,none⟩)] w fun e w'=>e=.returned (.agg #[.slice a n cap,.int .i64 c,.int .i64 k,.int .i64 cr,.int .i64 fl,.bool dn])∧Below w.heap.size w w':=by
 have hD:=aA hb;have hb1:=hb.later (bA w (.cells #[.slice none 0 0,.int .i64 0,.int .i64 0,.int .i64 0,.int .i64 0,.bool false] 39));have c0:=hb1.cell 0;have c1:=hb1.cell 1;have c2:=hb1.cell 2;have c3:=hb1.cell 3;have c4:=hb1.cell 4;have c5:=hb1.cell 5;simp only [List.getElem?_toArray,List.getElem?_cons_zero,List.getElem?_cons_succ] at c0 c1 c2 c3 c4 c5;clear hb hb1;go_enter Tryz.func80,Tryz.ntmps80;go_wp2_with fail;go_region
 go_wp2;exact bodyPost_ret (v:=.agg #[.slice a n cap,.int .i64 c,.int .i64 k,.int .i64 cr,.int .i64 fl,.bool dn]) (by simp [results,Tryz.results80,go_sem]) rfl ⟨rfl,(bA _ _).drew⟩
structure oC (S:Nat→Prop) (w w':World):Prop where
 os:w'.os=w.os
 tape:w'.tape=w.tape
 output:w'.output=w.output
 size:w.heap.size≤w'.heap.size
 block:∀k,k<w.heap.size→¬S k→w'.heap[k]?=w.heap[k]?
theorem oC.refl (S:Nat→Prop) (w:World):oC S w w:=⟨rfl,rfl,rfl,Nat.le_refl _,fun _ _ _=>rfl⟩
theorem oC.trans {S:Nat→Prop}{a b c:World} (h:oC S a b) (k:oC S b c):oC S a c:=
 ⟨k.os.trans h.os,k.tape.trans h.tape,k.output.trans h.output,Nat.le_trans h.size k.size,fun i hi hg=>(k.block i (Nat.lt_of_lt_of_le hi h.size) hg).trans (h.block i hi hg)⟩
theorem oC.of {S:Nat→Prop}{w w':World} (h:Below w.heap.size w w'):oC S w w':=⟨h.os,h.tape,h.output,h.size,fun k hk _=>h.block k hk⟩
theorem oC.mono {S T:Nat→Prop}{w w':World} (h:oC S w w') (hs:∀k,S k→T k):oC T w w':=⟨h.os,h.tape,h.output,h.size,fun k hk ht=>h.block k hk (fun x=>ht (hs k x))⟩
theorem oC.below {S:Nat→Prop}{B:Nat}{w w':World} (h:oC S w w') (hB:∀k,S k→B≤k) (hs:B≤w.heap.size):Below B w w':=
 ⟨h.os,h.tape,h.output,h.size,fun k hk=>h.block k (by omega) (fun x=>by have:=hB k x;omega)⟩
theorem oC.but {g:Nat}{w w':World} (h:bE g w w'):oC (fun k=>k=g) w w':=⟨h.os,h.tape,h.output,h.size,h.block⟩
theorem oC.setCell {S:Nat→Prop}{a w:World} (h:oC S a w){g:Nat} (hg:S g) (o:Nat) (v:Value):oC S a (w.setCell ⟨g,o,none⟩ v):=
 h.trans ⟨rfl,rfl,rfl,by simp [World.setCell],fun k _ hk=>Below.heap_setCell _ _ _ _ (fun e=>hk (by rw [e];exact hg))⟩
theorem oC.setCells {S:Nat→Prop}{g:Nat} (hg:S g):∀(vs:List Value) (o:Nat){a w:World},oC S a w→oC S a (w.setCells g o vs)
 | [],_,_,_,h=>h
 | v :: r,o,_,_,h=>oC.setCells hg r (o+1) (h.setCell hg o v)
theorem oC.drew {S:Nat→Prop}{a w:World} (h:oC S a w):oC S a w.drew:=⟨h.os,h.tape,h.output,h.size,h.block⟩
theorem oC.grown {S:Nat→Prop}{w w':World}{row:Option Nat} (h:w.grownBy w' row) (hs:∀g,row=some g→S g):oC S w w':=
 ⟨h.os,h.tape,h.output,h.size,fun k hk hS=>h.block k hk (fun e=>hS (hs k e.symm))⟩
theorem lA.keeps {S:Nat→Prop}{w w':World}{g:Nat}{cur:Array Value}{t:TypeId} (h:lA w g cur t) (hb:oC S w w') (hne:¬S g):lA w' g cur t:=(hb.block g (aA h) hne).trans h
theorem lA.setCells {g:Nat}{t:TypeId}:∀(vs:List Value) (o:Nat){w:World}{cur:Array Value},lA w g cur t→∃cur',lA (w.setCells g o vs) g cur' t∧cur'.size=cur.size
 | [],_,_,cur,h=>⟨cur,h,rfl⟩
 | v :: r,o,_,cur,h=>by
   obtain ⟨c,hc,hs⟩:=lA.setCells r (o+1) (h.set o v);exact ⟨c,hc,by rw [hs];simp⟩
theorem bN {w:World}{B g n cap:Nat}{cur:Array Value}{e:TypeId}{xs:List Value} (hB:B≤g) (h:lA w g cur e) (hn:n≤cap) (hm:cap≤maxLen) (hs:cur.size=cap * 3) (hx:xs.length=n * 3)
 (hc:∀j u,xs[j]?=some u→w.cell? ⟨g,j,none⟩=some u):w.ownsRow B e 3 (.slice (some ⟨g,0,none⟩) n cap) n xs:=by
 refine ⟨hx,Or.inr ⟨g,cap,cur,rfl,hB,h,hn,hm,hs,?_⟩⟩;apply List.ext_getElem?;intro j;by_cases hj:j<n * 3
 ·rw [List.getElem?_take_of_lt hj];have h1:=hc j xs[j] (List.getElem?_eq_getElem (by omega));rw [h.cell] at h1;rw [Array.getElem?_toList,h1,List.getElem?_eq_getElem (by omega)]
 ·rw [List.getElem?_eq_none (by simp;omega),List.getElem?_eq_none (by omega)]
theorem xM {w:World}{B g n m cap:Nat}{e:TypeId}{xs:List Value} (h:w.ownsRow B e 3 (.slice (some ⟨g,0,none⟩) m cap) n xs):
 ∃cur,B≤g∧m=n∧lA w g cur e∧n≤cap∧cap≤maxLen∧cur.size=cap * 3∧∀j u,xs[j]?=some u→w.cell? ⟨g,j,none⟩=some u:=by
 rcases h.2 with ⟨hv,_⟩ | ⟨g',cap',cur,hv,hB,hg,hn,hm,hs,ht⟩
 ·exact absurd hv (by simp)
 ·simp only [Value.slice.injEq,Option.some.injEq,Addr.mk.injEq,and_true] at hv;obtain ⟨rfl,rfl,rfl⟩:=hv;refine ⟨cur,hB,rfl,hg,hn,hm,hs,fun j u hu=>?_⟩;rw [lA.cell hg];rw [←ht] at hu;have hlt:=(List.getElem?_eq_some_iff.1 hu).1;rw [List.length_take] at hlt;rw [List.getElem?_take_of_lt (by omega)] at hu;simpa using hu
theorem tL {P:Program} (w:World) (dT sT ty elem:TypeId) (b o dLen dCap:Nat) (a:Addr) (sLen sCap k size:Nat) (cs:List Value)
 (hu:P.underlying dT=some (.slice elem)) (hs:(P.info? elem).map (·.size)=some size) (hk:Nat.min sLen dLen=k) (hn:cs.length=k * size)
 (hsrc:∀j v,cs[j]?=some v→w.cell? (a.add j)=some v) (hc:∀j,j<cs.length→(w.cell? ⟨b,o+j,none⟩).isSome=true) (hf:∀j,j<cs.length→w.frozen? ⟨b,o+j,none⟩=false) (h1:∀v∈cs,v.oneCell'=true):
 (Builtin.copy_ #[dT,sT] ty #[.slice (some ⟨b,o,none⟩) dLen dCap,.slice (some a) sLen sCap]).run P w=.ok (goInt k) (w.setCells b o cs):=by
 have hl:=run_loadCells_list (P:=P) w a cs hsrc;have hst:=run_storeCells_cells (P:=P) b o cs 0 w (by simpa using hc) (by simpa using hf) h1;obtain ⟨i,hq,hi⟩:=Option.map_eq_some_iff.1 hs;simp [Builtin.copy_,run_underlying hu,Builtin.lenOf,Builtin.firstCells,sizeOf,typeInfo,hq,hi,hk,←hn,hl,hst]
def aT:List Value:=[.string ByteArray.empty,.string ByteArray.empty,.int .i64 0]
theorem JE {P:Program} (w:World) (t ty e:TypeId) (i:TypeInfo) (ht:P.underlying t=some (.slice e)) (hi:P.info? e=some i) (hz:i.zero=some (.agg #[.string ByteArray.empty,.string ByteArray.empty,.int .i64 0]))
 (b o c:Nat) (hc:∀j,j<3→(w.cell? ⟨b,o+j,none⟩).isSome=true) (hf:∀j,j<3→w.frozen? ⟨b,o+j,none⟩=false):
 (Builtin.clear_ #[t] ty #[.slice (some ⟨b,o,none⟩) 1 c]).run P w=.ok (.tuple #[]) (w.setCells b o aT):=by
 have hst:=run_storeCells_cells (P:=P) b o aT 0 w (by simpa [aT] using hc) (by simpa [aT] using hf) (by simp [aT,Value.oneCell']);have e1:(Builtin.zeroCells (Value.agg #[.string ByteArray.empty,.string ByteArray.empty,.int .i64 0]).cells 1).toList=aT:=by kernel_rfl
 simp [Builtin.clear_,run_underlying ht,zeroValue,typeInfo,hi,hz,e1,hst]
theorem YX (fs:List eA) (i:Nat):flat (fs.eraseIdx i)=flat (fs.take i)++flat (fs.drop (i+1)):=by
 rw [List.eraseIdx_eq_take_drop_succ,tE]
theorem EY (fs:List eA) (i:Nat):flat fs=flat (fs.take i)++flat (fs.drop i):=by
 rw [←tE,List.take_append_drop]
theorem eP (fs:List eA) (i j:Nat) (h:i≤fs.length):(flat (fs.drop i))[j]?=(flat fs)[i * 3+j]?:=by
 have hl:(flat (fs.take i)).length=i * 3:=by rw [cD,List.length_take];omega
 rw [EY fs i,List.getElem?_append_right (by omega),hl];congr 1;omega
theorem rL (fs:List eA) (i j:Nat) (h:i≤fs.length) (hj:j<i * 3):(flat (fs.take i))[j]?=(flat fs)[j]?:=by
 have hl:(flat (fs.take i)).length=i * 3:=by rw [cD,List.length_take];omega
 rw [EY fs i,List.getElem?_append_left (by omega)]
end Go.Proofs.YtcneojllbkacoaaGreatDoor
