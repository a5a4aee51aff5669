import Derived.Test.YtcneojllbkacoaaGreatDoorJ35NdS
import Derived.Deep.WholeRow
import Derived.Test.YtcneojllbkacoaaGreatDoorJ36AppS
import Derived.Test.YtcneojllbkacoaaGreatDoorJ33LTell
import Derived.Test.YtcneojllbkacoaaGreatDoorJ39SWth
import Derived.Test.YtcneojllbkacoaaGreatDoorJ38RecT
set_option maxRecDepth 100000
set_option maxHeartbeats 2000000
namespace Go.Proofs.YtcneojllbkacoaaGreatDoor
open Go.RowKit
def tD (a:Option Addr) (ca:Nat) (b:Option Addr) (cb:Nat) (N:bD):Array Value:=#[.slice a N.d.fs.length ca,.int .i64 N.d.c,.int .i64 N.d.k,.int .i64 N.d.cr,.int .i64 N.d.fl,.bool N.d.dn,.int .i64 N.l.first,.int .i64 N.l.last,.int .i64 N.l.size,.int .i64 N.now,.slice b N.ts.length cb,.int .i64 N.lsn,.bool N.deg,.bool N.up]
def bQ:bD:=⟨⟨[],0,0,0,0,false⟩,⟨0,0,0⟩,0,[],0,false,false⟩
structure C14 (cs:Array Value):Prop where
 size:cs.size=14
 one:cs.all (·.oneCell')=true
theorem GB (a b:Option Addr) (ca cb:Nat) (N:bD):C14 (tD a ca b cb N):=⟨rfl,by simp [tD,Value.oneCell']⟩
def XW (W:World) (X:Nat):Prop:=∃zs T,lA W X zs T∧zs.size=14
theorem lA.box {W:World}{X:Nat}{cs:Array Value}{T:TypeId} (h:lA W X cs T) (hc:cs.size=14):XW W X:=⟨cs,T,h,hc⟩
theorem oX (a:Option Addr) (ca:Nat) (b:Option Addr) (cb:Nat) (N:bD):#[.slice a N.d.fs.length ca,.int .i64 N.d.c,.int .i64 N.d.k,.int .i64 N.d.cr,.int .i64 N.d.fl,.bool N.d.dn,.int .i64 N.l.first,.int .i64 N.l.last,.int .i64 N.l.size,.int .i64 N.now,.slice b N.ts.length cb,.int .i64 N.lsn,.bool N.deg,.bool N.up]=tD a ca b cb N:=rfl
theorem PN:#[.slice none 0 0,.int .i64 0,.int .i64 0,.int .i64 0,.int .i64 0,.bool false,.int .i64 0,.int .i64 0,.int .i64 0,.int .i64 0,.slice none 0 0,.int .i64 0,.bool false,.bool false]=tD none 0 none 0 bQ:=rfl
theorem aOv (a b:Option Addr) (ca cb:Nat) (N:bD):(tD a ca b cb N).size=14:=rfl
theorem PK (a:Option Addr) (ca:Nat) (b:Option Addr) (cb:Nat) (N:bD) (T:TypeId):∀W X,lA W X (tD a ca b cb N) T→W.cell? ⟨X,0,none⟩=some (.slice a N.d.fs.length ca)∧W.cell? ⟨X,1,none⟩=some (.int .i64 N.d.c)∧W.cell? ⟨X,2,none⟩=some (.int .i64 N.d.k)∧W.cell? ⟨X,3,none⟩=some (.int .i64 N.d.cr)∧W.cell? ⟨X,4,none⟩=some (.int .i64 N.d.fl)∧W.cell? ⟨X,5,none⟩=some (.bool N.d.dn)∧W.cell? ⟨X,6,none⟩=some (.int .i64 N.l.first)∧W.cell? ⟨X,7,none⟩=some (.int .i64 N.l.last)∧W.cell? ⟨X,8,none⟩=some (.int .i64 N.l.size)∧W.cell? ⟨X,9,none⟩=some (.int .i64 N.now)∧W.cell? ⟨X,10,none⟩=some (.slice b N.ts.length cb)∧W.cell? ⟨X,11,none⟩=some (.int .i64 N.lsn)∧W.cell? ⟨X,12,none⟩=some (.bool N.deg)∧W.cell? ⟨X,13,none⟩=some (.bool N.up):=fun _ _ h=>h.n14
theorem aPz {W:World}{X:Nat}{cs:Array Value} (h:XW W X) (hc:C14 cs):(storeCells ⟨X,0,none⟩ cs.toList 0).run Tryz.prog W=.ok () (W.setRow X cs):=by
 obtain ⟨zs,T,hz,hs⟩:=h;have:=run_storeCells_from (P:=Tryz.prog) X T cs.toList 0 zs W hz (by simp [hs,hc.size]) (fun v hv=>(Array.all_eq_true_iff_forall_mem.1 hc.one) v (by simpa using hv));simpa using this
theorem lA.drewI {W:World}{X:Nat}{cs:Array Value}{T:TypeId}:lA W.drew X cs T ↔ lA W X cs T:=Iff.rfl
theorem XW.drewI {W:World}{X:Nat}:XW W.drew X ↔ XW W X:=Iff.rfl
theorem XW.new (w:World) (a b:Option Addr) (ca cb:Nat) (N:bD) (T:TypeId):XW (w.alloc (.cells (tD a ca b cb N) T)) w.heap.size:=(lA.new w _ T).box rfl
theorem XW.alloc {W:World}{X:Nat} (h:XW W X) (o:Obj):XW (W.alloc o) X:=by
 obtain ⟨zs,T,hz,hs⟩:=h;exact ⟨zs,T,hz.alloc o,hs⟩
theorem XW.alloc2 {W:World}{X:Nat} (h:XW W X) (o o':Obj):XW ((W.alloc o).alloc o') X:=(h.alloc o).alloc o'
theorem lA.row {W:World}{X:Nat}{zs cs:Array Value}{T:TypeId} (h:lA W X zs T):lA (W.setRow X cs) X cs T:=setRow_heap _ _ _ _ _ _ h
theorem kQ (W:World) (X:Nat) (cs:Array Value):dA (·=X) W (W.setRow X cs):=⟨rfl,rfl,rfl,by simp,fun k _ hk=>setRow_other _ _ _ _ hk⟩
theorem aOd {C:World→Prop}{w:World}{X:Nat}{zs cs:Array Value}{T:TypeId} (h:lA w X zs T) (k:∀W,lA W X cs T→dA (·=X) w W→C W):C (w.setRow X cs):=k _ h.row (kQ _ _ _)
theorem PM (a b:Option Addr) (ca cb:Nat) (N:bD):∀(j:Nat) (s:ByteArray),(tD a ca b cb N)[j]?≠some (Value.string s):=fun j s=>by
 unfold tD;match j with
 | 0 | 1 | 2 | 3 | 4 | 5 | 6 | 7 | 8 | 9 | 10 | 11 | 12 | 13=>simp
 | j+14=>simp
section
variable {w W:World}{P:Nat}{cs:Array Value}{t:TypeId}
theorem fV (hz:lA w P cs t) (hn:∀(j:Nat) (s:ByteArray),cs[j]?≠some (Value.string s)) (ht:dA (·=P) w W){b o:Nat}{s:ByteArray} (hb:b<w.heap.size) (h:w.cell? ⟨b,o,none⟩=some (.string s)):b<W.heap.size∧∀j,W.cell? ⟨b,j,none⟩=w.cell? ⟨b,j,none⟩:=by
 have hne:b≠P:=fun e=>by subst e;rw [hz.cell] at h;exact hn _ _ h
 exact ⟨Nat.lt_of_lt_of_le hb ht.size,fun j=>World.cell?_of_block (ht.block b hb hne)⟩
theorem kA.store (hz:lA w P cs t) (hn:∀(j:Nat) (s:ByteArray),cs[j]?≠some (Value.string s)) (ht:dA (·=P) w W){a:Option Addr}{fs:List eA} (h:kA w a fs):kA W a fs:=by
 rcases h with h | ⟨b,o,e,hb,h⟩
 ·exact Or.inl h
 ·cases fs with
  | nil=>exact Or.inl rfl
  | cons f r=>
    obtain ⟨k1,k2⟩:=fV hz hn ht hb (h 0 (by simp)).1;exact Or.inr ⟨b,o,e,k1,fun i hi=>by simp only [k2];exact h i hi⟩
theorem sA.store (hz:lA w P cs t) (hn:∀(j:Nat) (s:ByteArray),cs[j]?≠some (Value.string s)) (ht:dA (·=P) w W){a:Option Addr}{ps:List gA} (h:sA w a ps):sA W a ps:=by
 rcases h with h | ⟨b,o,e,hb,h⟩
 ·exact Or.inl h
 ·cases ps with
  | nil=>exact Or.inl rfl
  | cons f r=>
    obtain ⟨k1,k2⟩:=fV hz hn ht hb (h 0 (by simp)).1;exact Or.inr ⟨b,o,e,k1,fun i hi=>by simp only [k2];exact h i hi⟩
theorem pB.store (hz:lA w P cs t) (hn:∀(j:Nat) (s:ByteArray),cs[j]?≠some (Value.string s)) (ht:dA (·=P) w W){a:Option Addr}{ts:List cA} (h:pB w a ts):pB W a ts:=by
 rcases h with h | ⟨b,o,e,hb,h⟩
 ·exact Or.inl h
 ·cases ts with
  | nil=>exact Or.inl rfl
  | cons f r=>
    obtain ⟨_,_,_,_,h1,_⟩:=h 0 (by simp);obtain ⟨k1,k2⟩:=fV hz hn ht hb h1;refine Or.inr ⟨b,o,e,k1,fun i hi=>?_⟩;obtain ⟨a1,c1,a2,c2,h0,h1,h2,h3,h4,h5⟩:=h i hi;exact ⟨a1,c1,a2,c2,(k2 _).trans h0,(k2 _).trans h1,(k2 _).trans h2,(k2 _).trans h3,h4.store hz hn ht,h5.store hz hn ht⟩
end
def FN (w:World) (N:bD) (cs:Array Value):Prop:=∃a ca b cb,cs=tD a ca b cb N∧kA w a N.d.fs∧pB w b N.ts
def AN (w:World) (A:Nat→Prop) (N:bD) (cs:Array Value):Prop:=∃a ca b cb,cs=tD a ca b cb N∧wH w A a b N
def HN (w:World) (N:bD) (cs:Array Value):Prop:=∃a ca b cb,cs=tD a ca b cb N∧kA w a (uM 1 N.d.fs.length)∧pB w b (eE (1+3 * N.d.fs.length) N.ts)
section
variable {w w':World}{N:bD}{cs:Array Value}{A S:Nat→Prop}
theorem AN.fn (h:AN w A N cs):FN w N cs:=by
 obtain ⟨a,ca,b,cb,e,h⟩:=h;exact ⟨a,ca,b,cb,e,h.files,h.tens⟩
theorem FN.later (h:FN w N cs) (hb:Below w.heap.size w w'):FN w' N cs:=by
 obtain ⟨a,ca,b,cb,e,h1,h2⟩:=h;exact ⟨a,ca,b,cb,e,h1.later hb,h2.later hb⟩
theorem FN.store {X:Nat}{zs:Array Value}{T:TypeId} (h:FN w N cs) (hz:lA w X zs T) (hn:∀(j:Nat) (s:ByteArray),zs[j]?≠some (Value.string s)) (ht:dA (·=X) w w'):FN w' N cs:=by
 obtain ⟨a,ca,b,cb,e,h1,h2⟩:=h;exact ⟨a,ca,b,cb,e,h1.store hz hn ht,h2.store hz hn ht⟩
theorem AN.turned (h:AN w A N cs) (ht:dA S w w') (hS:∀g,A g→g<w.heap.size→¬S g):AN w' A N cs:=by
 obtain ⟨a,ca,b,cb,e,h⟩:=h;exact ⟨a,ca,b,cb,e,h.turned ht hS⟩
theorem AN.later (h:AN w A N cs) (hb:Below w.heap.size w w'):AN w' A N cs:=h.turned (dA.of (S:=fun _=>False) hb) fun _ _ _ e=>e
theorem FN.c14 (h:FN w N cs):C14 cs:=by
 obtain ⟨a,ca,b,cb,rfl,-⟩:=h;exact GB _ _ _ _ _
theorem FN.r (h:FN w N cs) (T:TypeId):∃v0 v1 v2 v3 v4 v5 v6 v7 v8 v9 v10 v11 v12 v13,#[v0,v1,v2,v3,v4,v5,v6,v7,v8,v9,v10,v11,v12,v13]=cs∧∀W X,lA W X cs T→W.cell? ⟨X,0,none⟩=some v0∧W.cell? ⟨X,1,none⟩=some v1∧W.cell? ⟨X,2,none⟩=some v2∧W.cell? ⟨X,3,none⟩=some v3∧W.cell? ⟨X,4,none⟩=some v4∧W.cell? ⟨X,5,none⟩=some v5∧W.cell? ⟨X,6,none⟩=some v6∧W.cell? ⟨X,7,none⟩=some v7∧W.cell? ⟨X,8,none⟩=some v8∧W.cell? ⟨X,9,none⟩=some v9∧W.cell? ⟨X,10,none⟩=some v10∧W.cell? ⟨X,11,none⟩=some v11∧W.cell? ⟨X,12,none⟩=some v12∧W.cell? ⟨X,13,none⟩=some v13:=by
 obtain ⟨a,ca,b,cb,rfl,-⟩:=h;exact ⟨_,_,_,_,_,_,_,_,_,_,_,_,_,_,rfl,fun _ _ h=>h.n14⟩
end
def qR (V:Int×List cA×Bool) (w:World) (e:Ending) (w':World):Prop:=
 ∃a cap,e=.returned (.tuple #[.agg #[.int .i64 V.1,.slice a V.2.1.length cap],.bool V.2.2])∧eB w' w.heap.size a V.2.1∧Below w.heap.size w w'
def aQa (x:cA):Prop:=x.name.size≤1100000∧(∀p∈x.mets,p.s.size≤1100000)∧(∀p∈x.sers,p.s.size≤1100000)∧x.mets.length≤1100001∧x.sers.length≤1100001
theorem rW {ts:List cA} (h:ts.length+nA ts≤1100000):∀x∈ts,x.name.size≤1100000∧(∀p∈x.mets,p.s.size≤1100000)∧(∀p∈x.sers,p.s.size≤1100000)∧x.mets.length≤1100000∧x.sers.length≤1100000:=by
 intro x hx;obtain ⟨i,hi,rfl⟩:=List.getElem_of_mem hx;have hb:=oR ts i hi;unfold zC at hb;refine ⟨by omega,fun p hp=>?_,fun p hp=>?_,by omega,by omega⟩
 ·obtain ⟨j,hj,rfl⟩:=List.getElem_of_mem hp;have:=aN _ j hj;omega
 ·obtain ⟨j,hj,rfl⟩:=List.getElem_of_mem hp;have:=aN _ j hj;omega
theorem aMe {ts:List cA} (h:∀x∈ts,aQa x):aPn ts:=fun x hx=>by
 obtain ⟨h1,h2,h3,h4,h5⟩:=h x hx;exact ⟨by unfold maxLen;omega,fun i hi=>by have:=h2 _ (List.getElem_mem hi);unfold maxLen;omega,fun i hi=>by have:=h3 _ (List.getElem_mem hi);unfold maxLen;omega,by omega,by omega⟩
theorem MO {ts:List cA} (h:∀x∈ts,x.name.size≤1100000∧(∀p∈x.mets,p.s.size≤1100000)∧(∀p∈x.sers,p.s.size≤1100000)∧x.mets.length≤1100000∧x.sers.length≤1100000){tenant:ByteArray} (hn:tenant.size≤1100000):
 (xA ts tenant).name.size≤1100000∧(∀p∈(xA ts tenant).mets,p.s.size≤1100000)∧(∀p∈(xA ts tenant).sers,p.s.size≤1100000)∧(xA ts tenant).mets.length≤1100000∧(xA ts tenant).sers.length≤1100000:=by
 rcases dM (ts:=ts) (name:=tenant) with ⟨hm,_⟩ | ⟨e,_⟩
 ·exact h _ hm
 ·rw [e];exact ⟨hn,fun p hp=>(by cases hp),fun p hp=>(by cases hp),Nat.zero_le _,Nat.zero_le _⟩
theorem bX {α:Type}{key:α→ByteArray}{a:α} (l:List α):(tA key a l).length≤l.length+1:=by
 induction l with
 | nil=>simp [tA]
 | cons p r ih=>
   rw [tA];split
   ·simp only [List.length_cons];omega
   ·split<;>simp
theorem aDm {C:World→Prop}{w:World}{O:Nat}{v0 v1 v2 v3 v4 v5 v6 v7 v8 v9 va vb vc vd u0 u1 u2 u3 u4 u5 u6 u7 u8 u9 ua ub uc ud:Value}{t:TypeId} (h:lA w O #[v0,v1,v2,v3,v4,v5,v6,v7,v8,v9,va,vb,vc,vd] t)
 (k:∀w2,lA w2 O #[u0,u1,u2,u3,u4,u5,u6,u7,u8,u9,ua,ub,uc,ud] t→dA (·=O) w w2→C w2):C ((((((((((((((w.setCell ⟨O,0,none⟩ u0).setCell ⟨O,1,none⟩ u1).setCell ⟨O,2,none⟩ u2).setCell ⟨O,3,none⟩ u3).setCell ⟨O,4,none⟩ u4).setCell ⟨O,5,none⟩ u5).setCell ⟨O,6,none⟩ u6).setCell ⟨O,7,none⟩ u7).setCell ⟨O,8,none⟩ u8).setCell ⟨O,9,none⟩ u9).setCell ⟨O,10,none⟩ ua).setCell ⟨O,11,none⟩ ub).setCell ⟨O,12,none⟩ uc).setCell ⟨O,13,none⟩ ud):=
 k _ (by have:=((((((((((((((h.set 0 u0).set 1 u1).set 2 u2).set 3 u3).set 4 u4).set 5 u5).set 6 u6).set 7 u7).set 8 u8).set 9 u9).set 10 ua).set 11 ub).set 12 uc).set 13 ud);simpa using this) (((((((((((((((dA.refl (·=O) w).setCell (Or.inl rfl) 0 u0).setCell (Or.inl rfl) 1 u1).setCell (Or.inl rfl) 2 u2).setCell (Or.inl rfl) 3 u3).setCell (Or.inl rfl) 4 u4).setCell (Or.inl rfl) 5 u5).setCell (Or.inl rfl) 6 u6).setCell (Or.inl rfl) 7 u7).setCell (Or.inl rfl) 8 u8).setCell (Or.inl rfl) 9 u9).setCell (Or.inl rfl) 10 ua).setCell (Or.inl rfl) 11 ub).setCell (Or.inl rfl) 12 uc).setCell (Or.inl rfl) 13 ud)
theorem VO {c:eC}{now:Int}{ts:List cA} (h:vB c now ts=true):∀p∈ts,p.name≠⟨#[]⟩:=fun p hp e=>by
 have h1:=(qH (fH (gH h).2.2.2.2 p hp)).1;rw [e] at h1;simp only [dC,Bool.and_eq_true,decide_eq_true_eq] at h1;have h2:(⟨#[]⟩:ByteArray).size=0:=rfl;omega
theorem CZ {c:eC}{now:Int}{ts:List cA} (h:vB c now ts=true) (hb:ts.length+nA ts≤1100000):∀x∈ts,MX x:=fun x hx=>by
 obtain ⟨_,h0,h1,_,ht⟩:=gH h;obtain ⟨_,_,_,h4,h5⟩:=rW hb x hx;refine ⟨by omega,by omega,fun i hi=>?_⟩;have:=zX (qH (fH ht x hx)).2.2.1 _ (List.getElem_mem hi);omega
theorem aKt {c:eC}{now:Int}{ts:List cA} (h:vB c now ts=true):mC c.w now (gY ⟨⟨#[]⟩,0,[],[]⟩ true ts)=ts:=by
 rw [zO (t:=⟨⟨#[]⟩,0,[],[]⟩) (VO h)];exact UU (gH h).2.2.2.2
theorem aO (c:eC) (now:Int) (a:Option Addr) (cap:Nat) (ts:List cA) (w:World) (hf:pB w a ts) (hst:vB c now ts=true) (hb:ts.length+nA ts≤1100000):
 Calls Tryz.prog 51 #[wG c,.agg #[.int .i64 now,.slice a ts.length cap]] w fun e w'=>∃a' cap',e=.returned (.agg #[.int .i64 now,.slice a' ts.length cap'])∧eB w' w.heap.size a' ts∧Below w.heap.size w w':=by
 obtain ⟨_,hn0,hn1,_,_⟩:=gH hst;have HW:Hid (∀W,Below w.heap.size w W→Calls Tryz.prog 97 #[wG c,.agg #[.int .i64 now,.slice a ts.length cap],.int .i64 now,.agg #[.string ⟨#[]⟩,.int .i64 0,.slice none 0 0,.slice none 0 0]] W fun e w'=>∃a' cap',e=.returned (.agg #[.int .i64 now,.slice a' ts.length cap'])∧eB w' W.heap.size a' ts∧Below W.heap.size W w'):=fun W hW=>by
  have:=iV c now now a cap ts ⟨⟨#[]⟩,0,[],[]⟩ none none 0 0 W (hf.later hW) (Or.inl rfl) (Or.inl rfl) (by omega) (fun x hx=>by
   rcases hx with rfl | hx
   ·exact ⟨Nat.zero_le _,Nat.zero_le _,fun i h=>absurd h (by simp)⟩
   ·exact CZ hst hb x hx) hn0 (by omega)
  have e:(⟨⟨#[]⟩,0,[],[]⟩:cA).name.toList.isEmpty=true:=by kernel_rfl
  rw [e,aKt hst] at this;exact this
 clear hf hst hb;unfold wG at *;go_enter Tryz.func51,Tryz.ntmps51;have B1:Hid (Below w.heap.size w (((w.alloc (.cells #[.int .i64 c.w,.int .i64 c.tl,.int .i64 c.ml,.int .i64 c.sh,.int .i64 c.ha,.int .i64 c.sg] 48)).alloc (.cells #[.int .i64 now,.slice a ts.length cap] 43)).alloc (.cells #[.int .i64 0,.slice none 0 0] 43))):=rA (rA (bA _ _) (bA _ _)) (bA _ _);have R1:Hid _:=iA (by have:=lA.new ((w.alloc (.cells #[.int .i64 c.w,.int .i64 c.tl,.int .i64 c.ml,.int .i64 c.sh,.int .i64 c.ha,.int .i64 c.sg] 48)).alloc (.cells #[.int .i64 now,.slice a ts.length cap] 43)) #[.int .i64 0,.slice none 0 0] 43;simpa using this);go_wp2_with fail;refine (HW.out _ B1.out).mono ?_;rintro e w3 ⟨ra,rc,rfl,ho3,hb3⟩;have HO3:Hid _:=iA (by simpa using ho3);have R3:Hid (lA w3 (w.heap.size+1+1) #[.int .i64 0,.slice none 0 0] 43):=R1.out.later hb3;have B3:Hid _:=rA B1.out hb3;have y0:w3.cell? ⟨w.heap.size+1+1,0,none⟩=some (.int .i64 0):=R3.out.cell 0;have y1:w3.cell? ⟨w.heap.size+1+1,1,none⟩=some (.slice none 0 0):=R3.out.cell 1;have f0:=R3.out.free 0;have f1:=R3.out.free 1;have hwl:=aA R3.out;clear ho3 hb3;go_wp2;have HTE:dA (·=w.heap.size+1+1) w3 ((w3.setCell ⟨w.heap.size+1+1,0,none⟩ (.int .i64 now)).setCell ⟨w.heap.size+1+1,1,none⟩ (.slice ra ts.length rc)):=((dA.refl (·=w.heap.size+1+1) w3).setCell (Or.inl rfl) 0 _).setCell (Or.inl rfl) 1 _;have ho:eB ((w3.setCell ⟨w.heap.size+1+1,0,none⟩ (.int .i64 now)).setCell ⟨w.heap.size+1+1,1,none⟩ (.slice ra ts.length rc)) w.heap.size ra ts:=(eB.turned HO3.out HTE (fun g h1 h2 e=>by omega)).mono (by omega);have hbe:=((dA.of (S:=fun i=>w.heap.size≤i) B3.out).trans' (HTE.mono fun i _ e=>by omega)).below (Nat.le_refl _) fun i hi h=>by omega
 refine bodyPost_ret (v:=.agg #[.int .i64 now,.slice ra ts.length rc]) (by simp [results,Tryz.results51,go_sem,y0,y1]) rfl ?_;first
  | exact ⟨ra,⟨rc,rfl⟩,ho,hbe⟩
  | exact ⟨ra,rc,rfl,ho,hbe⟩
def KX (w2:World) (X:Nat) (K:cA) (wx:World):Prop:=
 ∃q1 e1 q2 e2,lA wx X #[.string K.name,.int .i64 K.limit,.slice q1 K.mets.length e1,.slice q2 K.sers.length e2] 95∧(∀W,dA (·=X) wx W→sA W q1 K.mets∧sA W q2 K.sers)∧w2.heap.size≤X∧Below w2.heap.size w2 wx
theorem qX {w W:World}{B X:Nat}{q:Option Addr}{ps:List gA} (h:fB w B q ps) (ht:dA (·=X) w W) (hX:X<B∨w.heap.size≤X):sA W q ps:=by
 rcases h with h | ⟨g,o,cur,t,rfl,hB,hg,h⟩
 ·exact Or.inl h
 ·have hlt:=aA hg;have hk:=ht.block g hlt (by omega);have hc:∀j,W.cell? ⟨g,j,none⟩=w.cell? ⟨g,j,none⟩:=fun j=>World.cell?_of_block hk;exact Or.inr ⟨g,o,rfl,by have:=ht.size;omega,fun i hi=>by simp only [hc];exact h i hi⟩
theorem aOn {w2 w4:World}{K:cA}{B M:Nat}{q1 q2:Option Addr}{e1 e2:Nat} (h1:fB w4 B q1 K.mets) (h2:fB w4 M q2 K.sers) (hb:Below w2.heap.size w2 w4):
 KX w2 w4.heap.size K (w4.alloc (.cells #[.string K.name,.int .i64 K.limit,.slice q1 K.mets.length e1,.slice q2 K.sers.length e2] 95)):=by
 refine ⟨q1,e1,q2,e2,lA.new _ _ _,fun W ht=>?_,hb.size,rA hb (bA _ _)⟩;have t2:=(dA.of (bA _ _)).trans' ht;exact ⟨qX h1 t2 (Or.inr (Nat.le_refl _)),qX h2 t2 (Or.inr (Nat.le_refl _))⟩
theorem aJd {w2 w4:World}{K:cA}{B M X:Nat}{q1 q2:Option Addr}{e1 e2:Nat} (h1:fB w4 B q1 K.mets) (h2:fB w4 M q2 K.sers) (hX:X<B) (hM:B≤M) (hx:w2.heap.size≤X) (hbx:lA w4 X #[.string ⟨#[]⟩,.int .i64 0,.slice none 0 0,.slice none 0 0] 95) (hb:Below w2.heap.size w2 w4):
 KX w2 X K ((((w4.setCell ⟨X,0,none⟩ (.string K.name)).setCell ⟨X,1,none⟩ (.int .i64 K.limit)).setCell ⟨X,2,none⟩ (.slice q1 K.mets.length e1)).setCell ⟨X,3,none⟩ (.slice q2 K.sers.length e2)):=by
 have ht:dA (·=X) w4 ((((w4.setCell ⟨X,0,none⟩ (.string K.name)).setCell ⟨X,1,none⟩ (.int .i64 K.limit)).setCell ⟨X,2,none⟩ (.slice q1 K.mets.length e1)).setCell ⟨X,3,none⟩ (.slice q2 K.sers.length e2)):=((((dA.refl (·=X) w4).setCell (Or.inl rfl) 0 _).setCell (Or.inl rfl) 1 _).setCell (Or.inl rfl) 2 _).setCell (Or.inl rfl) 3 _;refine ⟨q1,e1,q2,e2,?_,fun W h=>⟨qX h1 (ht.trans' h) (Or.inl hX),qX h2 (ht.trans' h) (Or.inl (by omega))⟩,hx,QA hb hx⟩;have:=(((hbx.set 0 (.string K.name)).set 1 (.int .i64 K.limit)).set 2 (.slice q1 K.mets.length e1)).set 3 (.slice q2 K.sers.length e2);simpa using this
structure qT (w W:World) (c:eC) (now:Int) (a:Option Addr) (n cap:Nat):Prop where
 C:lA W w.heap.size #[.int .i64 c.w,.int .i64 c.tl,.int .i64 c.ml,.int .i64 c.sh,.int .i64 c.ha,.int .i64 c.sg] 48
 S:lA W (w.heap.size+1) #[.int .i64 now,.slice a n cap] 43
 R:lA W (w.heap.size+1+1) #[.int .i64 0,.slice none 0 0] 43
 B:Below w.heap.size w W
section
variable {w W W':World}{c:eC}{now:Int}{a:Option Addr}{n cap:Nat}
theorem qT.new:qT w (((w.alloc (.cells #[.int .i64 c.w,.int .i64 c.tl,.int .i64 c.ml,.int .i64 c.sh,.int .i64 c.ha,.int .i64 c.sg] 48)).alloc (.cells #[.int .i64 now,.slice a n cap] 43)).alloc (.cells #[.int .i64 0,.slice none 0 0] 43)) c now a n cap:=
 ⟨((lA.new _ _ _).alloc _).alloc _,by have:=(lA.new (w.alloc (.cells #[.int .i64 c.w,.int .i64 c.tl,.int .i64 c.ml,.int .i64 c.sh,.int .i64 c.ha,.int .i64 c.sg] 48)) #[.int .i64 now,.slice a n cap] 43).alloc (.cells #[.int .i64 0,.slice none 0 0] 43);simpa using this,
   by have:=lA.new ((w.alloc (.cells #[.int .i64 c.w,.int .i64 c.tl,.int .i64 c.ml,.int .i64 c.sh,.int .i64 c.ha,.int .i64 c.sg] 48)).alloc (.cells #[.int .i64 now,.slice a n cap] 43)) #[.int .i64 0,.slice none 0 0] 43;simpa using this,rA (rA (bA _ _) (bA _ _)) (bA _ _)⟩
theorem qT.later (h:qT w W c now a n cap) (hb:Below W.heap.size W W'):qT w W' c now a n cap:=⟨h.C.later hb,h.S.later hb,h.R.later hb,rA h.B hb⟩
theorem qT.lt (h:qT w W c now a n cap):w.heap.size+1+1<W.heap.size:=aA h.R
theorem qT.turn {X:Nat} (h:qT w W c now a n cap) (ht:dA (·=X) W W') (hX:w.heap.size+1+1<X):qT w W' c now a n cap:=
 ⟨ht.blk h.C (by omega),ht.blk h.S (by omega),ht.blk h.R (by omega),h.B.trans (ht.below (by have:=h.B.size;omega) fun i hi e=>by omega)⟩
theorem qT.cells (h:qT w W c now a n cap):W.cell? ⟨w.heap.size,0,none⟩=some (.int .i64 c.w)∧W.cell? ⟨w.heap.size,1,none⟩=some (.int .i64 c.tl)∧W.cell? ⟨w.heap.size,2,none⟩=some (.int .i64 c.ml)∧W.cell? ⟨w.heap.size,3,none⟩=some (.int .i64 c.sh)∧W.cell? ⟨w.heap.size,4,none⟩=some (.int .i64 c.ha)∧W.cell? ⟨w.heap.size,5,none⟩=some (.int .i64 c.sg)∧W.cell? ⟨w.heap.size+1,0,none⟩=some (.int .i64 now)∧W.cell? ⟨w.heap.size+1,1,none⟩=some (.slice a n cap)∧W.cell? ⟨w.heap.size+1+1,0,none⟩=some (.int .i64 0)∧W.cell? ⟨w.heap.size+1+1,1,none⟩=some (.slice none 0 0)∧W.frozen? ⟨w.heap.size+1+1,0,none⟩=false∧W.frozen? ⟨w.heap.size+1+1,1,none⟩=false∧w.heap.size+1+1<W.heap.size:=
 ⟨h.C.cell 0,h.C.cell 1,h.C.cell 2,h.C.cell 3,h.C.cell 4,h.C.cell 5,h.S.cell 0,h.S.cell 1,h.R.cell 0,h.R.cell 1,h.R.free 0,h.R.free 1,h.lt⟩
theorem qT.done {N rc:Nat}{v:Int}{ra:Option Addr}{RL:List cA} (h:qT w W c now a n cap) (ho:eB W N ra RL) (hN:w.heap.size+1+1<N):
 eB ((W.setCell ⟨w.heap.size+1+1,0,none⟩ (.int .i64 v)).setCell ⟨w.heap.size+1+1,1,none⟩ (.slice ra RL.length rc)) w.heap.size ra RL∧Below w.heap.size w ((W.setCell ⟨w.heap.size+1+1,0,none⟩ (.int .i64 v)).setCell ⟨w.heap.size+1+1,1,none⟩ (.slice ra RL.length rc)):=by
 have ht:dA (·=w.heap.size+1+1) W ((W.setCell ⟨w.heap.size+1+1,0,none⟩ (.int .i64 v)).setCell ⟨w.heap.size+1+1,1,none⟩ (.slice ra RL.length rc)):=((dA.refl (·=w.heap.size+1+1) W).setCell (Or.inl rfl) 0 _).setCell (Or.inl rfl) 1 _;exact ⟨(eB.turned ho ht (fun g h1 h2 e=>by omega)).mono (by omega),((dA.of (S:=fun i=>w.heap.size≤i) h.B).trans' (ht.mono fun i _ e=>by omega)).below (Nat.le_refl _) fun i hi h=>by omega⟩
end
def KXR (w2:World) (X:Nat) (K:cA) (wx:World):Prop:=
 ∃M q1 e1 q2 e2,lA wx X #[.string K.name,.int .i64 K.limit,.slice q1 K.mets.length e1,.slice q2 K.sers.length e2] 95∧fB wx w2.heap.size q1 K.mets∧(∀g o,q1=some ⟨g,o,none⟩→g<M)∧wx.ownsRow M 151 2 (.slice q2 K.sers.length e2) K.sers.length (flatK K.sers)∧(∀q,(Value.slice q2 K.sers.length e2).ownBlock=some q→q≠X)∧(∀g o,q1=some ⟨g,o,none⟩→K.mets≠[]→g≠X)∧w2.heap.size≤X∧w2.heap.size≤M∧Below w2.heap.size w2 wx
theorem aMh {w2 w4:World}{K:cA}{B M:Nat}{q1 q2:Option Addr}{e1 e2:Nat} (hB:w2.heap.size≤B) (h1:fB w4 B q1 K.mets) (h1M:∀g o,q1=some ⟨g,o,none⟩→g<M) (h2:w4.ownsRow M 151 2 (.slice q2 K.sers.length e2) K.sers.length (flatK K.sers)) (hM:B≤M) (hb:Below w2.heap.size w2 w4):
 KXR w2 w4.heap.size K (w4.alloc (.cells #[.string K.name,.int .i64 K.limit,.slice q1 K.mets.length e1,.slice q2 K.sers.length e2] 95)):=by
 refine ⟨M,q1,e1,q2,e2,lA.new _ _ _,(h1.mono hB).later (bA _ _),h1M,yA h2 (bA _ _),fun q hq e=>?_,fun g o e hne e'=>?_,hb.size,by omega,rA hb (bA _ _)⟩
 ·have:=(h2.lt q hq).2;omega
 ·rcases h1 with h | ⟨g',o',cur,t,e1,_,hg,_⟩
  ·exact hne h
  ·rw [e1] at e;simp only [Option.some.injEq,Addr.mk.injEq,and_true] at e;have:=aA hg;omega
theorem aCf {w2 w4:World}{K:cA}{B M X:Nat}{q1 q2:Option Addr}{e1 e2:Nat} (h1:fB w4 B q1 K.mets) (h1M:∀g o,q1=some ⟨g,o,none⟩→g<M) (h2:w4.ownsRow M 151 2 (.slice q2 K.sers.length e2) K.sers.length (flatK K.sers)) (hX:X<B) (hM:B≤M) (hx:w2.heap.size≤X) (hbx:lA w4 X #[.string ⟨#[]⟩,.int .i64 0,.slice none 0 0,.slice none 0 0] 95) (hb:Below w2.heap.size w2 w4):
 KXR w2 X K ((((w4.setCell ⟨X,0,none⟩ (.string K.name)).setCell ⟨X,1,none⟩ (.int .i64 K.limit)).setCell ⟨X,2,none⟩ (.slice q1 K.mets.length e1)).setCell ⟨X,3,none⟩ (.slice q2 K.sers.length e2)):=by
 have ht:dA (·=X) w4 ((((w4.setCell ⟨X,0,none⟩ (.string K.name)).setCell ⟨X,1,none⟩ (.int .i64 K.limit)).setCell ⟨X,2,none⟩ (.slice q1 K.mets.length e1)).setCell ⟨X,3,none⟩ (.slice q2 K.sers.length e2)):=((((dA.refl (·=X) w4).setCell (Or.inl rfl) 0 _).setCell (Or.inl rfl) 1 _).setCell (Or.inl rfl) 2 _).setCell (Or.inl rfl) 3 _;refine ⟨M,q1,e1,q2,e2,?_,?_,h1M,ht.row h2 (fun q hq e=>by have:=(h2.lt q hq).1;omega),fun q hq e=>by have:=(h2.lt q hq).1;omega,fun g o e hne e'=>?_,hx,by omega,QA hb hx⟩
 ·have:=(((hbx.set 0 (.string K.name)).set 1 (.int .i64 K.limit)).set 2 (.slice q1 K.mets.length e1)).set 3 (.slice q2 K.sers.length e2);simpa using this
 ·rcases h1 with h | ⟨g,o,cur,t,rfl,hB',hg,h⟩
  ·exact Or.inl h
  ·have hk:=ht.block g (aA hg) (by omega);have hc:∀j,((((w4.setCell ⟨X,0,none⟩ (.string K.name)).setCell ⟨X,1,none⟩ (.int .i64 K.limit)).setCell ⟨X,2,none⟩ (.slice (some ⟨g,o,none⟩) K.mets.length e1)).setCell ⟨X,3,none⟩ (.slice q2 K.sers.length e2)).cell? ⟨g,j,none⟩=w4.cell? ⟨g,j,none⟩:=fun j=>World.cell?_of_block hk;exact Or.inr ⟨g,o,cur,t,rfl,by omega,hk.trans hg,fun i hi=>by simp only [hc];exact h i hi⟩
 ·rcases h1 with h | ⟨g',o',cur,t,e1,hB',hg,_⟩
  ·exact hne h
  ·rw [e1] at e;simp only [Option.some.injEq,Addr.mk.injEq,and_true] at e;omega
theorem VX {S:Nat→Prop}{w W:World}{B:Nat}{q:Option Addr}{ps:List gA} (h:fB w B q ps) (ht:dA S w W) (hS:∀g o,q=some ⟨g,o,none⟩→ps≠[]→¬S g):sA W q ps:=by
 rcases h with h | ⟨g,o,cur,t,rfl,hB,hg,h⟩
 ·exact Or.inl h
 ·by_cases hn:ps=[]
  ·exact Or.inl hn
  ·have hk:=ht.block g (aA hg) (hS g o rfl hn);have hc:∀j,W.cell? ⟨g,j,none⟩=w.cell? ⟨g,j,none⟩:=fun j=>World.cell?_of_block hk;exact Or.inr ⟨g,o,rfl,by have:=ht.size;have:=aA hg;omega,fun i hi=>by simp only [hc];exact h i hi⟩
theorem aIx {l:List gA} (hr:oB (·.s) l){k:ByteArray}{n:Int}{i:Nat} (hi:i<l.length) (h:l[i].s=k):tA (·.s) ⟨k,n⟩ l=l.set i ⟨k,n⟩:=by
 induction l generalizing i with
 | nil=>simp at hi
 | cons p r ih=>
   cases i with
   | zero=>
     have hp:p.s=k:=h;rw [tA,if_neg (by show ¬nG p.s k=true;rw [hp,rK];simp),if_pos (by exact (rC _ _).2 hp)];rfl
   | succ i=>
     have hi':i<r.length:=by simpa using hi
     have hk:r[i].s=k:=by simpa using h
     have hb:nG p.s k=true:=by rw [←hk];exact hr.head _ (List.getElem_mem hi')
     rw [tA,if_pos hb,ih hr.tail hi' hk];rfl
theorem aEo (l:List gA) (i:Nat) (hi:i<l.length) (n:Int):flatK (l.set i ⟨l[i].s,n⟩)=(flatK l).set (i * 2+1) (.int .i64 n):=by
 induction l generalizing i with
 | nil=>simp at hi
 | cons p r ih=>
   cases i with
   | zero=>rfl
   | succ i=>
     have hi':i<r.length:=by simpa using hi
     have:=ih i hi';simp only [flatK,List.set_cons_succ,List.flatMap_cons,List.getElem_cons_succ] at this ⊢;rw [this];have e:(i+1) * 2+1=(i * 2+1)+2:=by omega
     rw [e];rfl
theorem aKp {w:World}{M g n cap:Nat}{xs:List Value}{j:Nat}{v:Value} (h:w.ownsRow M 151 2 (.slice (some ⟨g,0,none⟩) n cap) n xs):(w.setCell ⟨g,j,none⟩ v).ownsRow M 151 2 (.slice (some ⟨g,0,none⟩) n cap) n (xs.set j v):=by
 refine ⟨by rw [List.length_set];exact h.1,?_⟩;rcases h.2 with ⟨e,_⟩ | ⟨g',cap',cur,e,hB,hb,h1,h2,h3,h4⟩
 ·cases e
 ·simp only [Value.slice.injEq,Option.some.injEq,Addr.mk.injEq,and_true] at e;obtain ⟨rfl,_,rfl⟩:=e;have hb':lA w g cur 151:=hb;refine Or.inr ⟨g,cap,cur.setIfInBounds j v,rfl,hB,hb'.set j v,h1,h2,by simp [h3],?_⟩;have hl:=h.1;rw [Array.toList_setIfInBounds,List.take_set,h4]
theorem WH {w:World}{M n cap:Nat}{a:Option Addr}{xs:List Value} (h:w.ownsRow M 151 2 (.slice a n cap) n xs) (hn:0<n):∃g,a=some ⟨g,0,none⟩:=by
 rcases h.2 with ⟨_,e⟩ | ⟨g,cap',cur,e,_⟩
 ·omega
 ·simp only [Value.slice.injEq] at e;exact ⟨g,e.1⟩
theorem aPe {w:World}{M n cap:Nat}{a:Option Addr}{xs:List Value} (h:w.ownsRow M 151 2 (.slice a n cap) n xs):(a=none∧cap=0∧n=0)∨∃g,a=some ⟨g,0,none⟩:=by
 rcases h.2 with ⟨e,e2⟩ | ⟨g,cap',cur,e,_⟩
 ·simp only [Value.slice.injEq] at e;exact Or.inl ⟨e.1,e.2.2,e2⟩
 ·simp only [Value.slice.injEq] at e;exact Or.inr ⟨g,e.1⟩
theorem aMz {w:World}{M n cap g:Nat}{xs:List Value} (h:w.ownsRow M 151 2 (.slice (some ⟨g,0,none⟩) n cap) n xs):n≤cap:=by
 rcases h.2 with ⟨e,_⟩ | ⟨g',cap',cur,e,_,_,h1,_⟩
 ·cases e
 ·simp only [Value.slice.injEq] at e;rw [e.2.2];exact h1
theorem aNi {w:World}{M g cap j:Nat}{l:List gA} (h:w.ownsRow M 151 2 (.slice (some ⟨g,0,none⟩) l.length cap) l.length (flatK l)) (hj:j≤l.length):bS w (some ⟨g,0,none⟩) j (flatK (l.take j))∧bS w (some ⟨g,j * 2,none⟩) (l.length - j) (flatK (l.drop j)):=by
 have hp:=lC h;by_cases hn:l=[]
 ·subst hn;exact ⟨Or.inl (by simpa using hj),Or.inl (by simp)⟩
 rcases hp with h0 | ⟨g',o,cur,t,e,_,_,hc⟩
 ·exact absurd h0 hn
 simp only [Option.some.injEq,Addr.mk.injEq,and_true] at e;obtain ⟨rfl,rfl⟩:=e;refine ⟨Or.inr ⟨_,rfl,hJ fun i hi=>?_⟩,Or.inr ⟨_,rfl,hJ fun i hi=>?_⟩⟩
 ·rw [List.length_take] at hi;have:=hc i (by omega);simpa [List.getElem_take] using this
 ·rw [List.length_drop] at hi;have:=hc (j+i) (by omega);have e1:0+(j+i) * 2=j * 2+i * 2:=by omega
  rw [e1] at this;simpa [List.getElem_drop] using this
theorem zV {P:Program} (w:World){ops:Array Oper}{rest:List Oper}{o:Oper}{a:Act}{Q:Exit→Act→World→Prop} (hgd:o.guard=none) (s x:Operand) (t:TypeId)
 (ho:o.op=.call { callee:=.builtin .append,args:=#[s,x],argTypes:=#[t,t] })
 (base:Nat) (e:TypeId) (i:TypeInfo) (z:Value) (size bytes:Nat) (ht:P.underlying t=some (.slice e)) (hi:P.info? e=some i) (hz:i.zero=some z)
 (hsize:i.size=size) (hby:i.bytes=bytes) (hzs:z.cells.size=size) (hsz:0<size)
 (g0 n c0:Nat) (xs:List Value) (hs:a.eval s=.slice (some ⟨g0,0,none⟩) n c0) (hown:w.ownsRow base e size (.slice (some ⟨g0,0,none⟩) n c0) n xs)
 (ad:Option Addr) (m c:Nat) (news:List Value) (hx:a.eval x=.slice ad m c) (hl:news.length=m * size) (hsrc:bS w ad m news) (h1:∀u∈news,u.oneCell'=true)
 (h63:n+m≤maxLen) (hbytes:(n+m) * bytes≤140737488355328) (hbase:base≤w.heap.size)
 (h:∀g cap w',w'.ownsRow base e size (.slice (some ⟨g,0,none⟩) (n+m) cap) (n+m) (xs++news)→Below base w w'→(∀k,k<w.heap.size→k≠g0→w'.heap[k]?=w.heap[k]?)→base≤g→(g=g0∨g=w.heap.size)→g<w'.heap.size→wpList P ops Q rest (a.put o.dst (.slice (some ⟨g,0,none⟩) (n+m) cap)) w'):wpList P ops Q (o :: rest) a w:=
 wpList_plain hgd fun _ hK=>rH w hgd s x t ho base e i z size bytes ht hi hz hsize hby hzs hsz g0 n c0 xs hs hown ad m c news hx hl hsrc h1 h63 hbytes hbase fun g cap w' h2 h3 h4 h5 h6 h7=>hK _ _ (h g cap w' h2 h3 h4 h5 h6 h7)
theorem JX {w w':World}{cs:Array Value}{t:TypeId} (h:Below (w.alloc (.cells cs t)).drew.heap.size (w.alloc (.cells cs t)).drew w'):lA w' w.heap.size cs t:=(lA.new w cs t).later ⟨h.os,h.tape,h.output,h.size,h.block⟩
theorem aBj {s:ByteArray} (h:dC s=true):s.toList.isEmpty=false:=by
 refine GU.2 fun e=>?_;simp only [dC,Bool.and_eq_true,decide_eq_true_eq] at h;rw [e,ByteArray.size_empty] at h;omega
structure SC (w:World) (c:eC) (now:Int) (a:Option Addr) (cap:Nat) (ts:List cA) (tenant:ByteArray) (tn:cA):Prop where
 ok:∀W,Below w.heap.size w W→Calls Tryz.prog 50 #[.agg #[.int .i64 c.w,.int .i64 c.tl,.int .i64 c.ml,.int .i64 c.sh,.int .i64 c.ha,.int .i64 c.sg],.agg #[.int .i64 now,.slice a ts.length cap]] W fun e w'=>e=.returned (.bool true)∧Below W.heap.size W w'
 nm:∀W,Calls Tryz.prog 93 #[.string tenant] W fun e w'=>e=.returned (.bool true)∧w'=W
 sm:∀W,Below w.heap.size w W→Calls Tryz.prog 51 #[.agg #[.int .i64 c.w,.int .i64 c.tl,.int .i64 c.ml,.int .i64 c.sh,.int .i64 c.ha,.int .i64 c.sg],.agg #[.int .i64 now,.slice a ts.length cap]] W fun e w'=>∃a' cap',e=.returned (.agg #[.int .i64 now,.slice a' ts.length cap'])∧eB w' W.heap.size a' ts∧Below W.heap.size W w'
 te:∀W,Below w.heap.size w W→Calls Tryz.prog 99 #[.agg #[.int .i64 now,.slice a ts.length cap],.string tenant] W fun e w'=>(∃a1 c1 a2 c2,e=.returned (.agg #[.string tn.name,.int .i64 tn.limit,.slice a1 tn.mets.length c1,.slice a2 tn.sers.length c2])∧sA w' a1 tn.mets∧sA w' a2 tn.sers)∧Below W.heap.size W w'
 kp:∀W a1 a2 c1 c2,sA W a1 tn.mets→sA W a2 tn.sers→Calls Tryz.prog 98 #[.agg #[.string tn.name,.int .i64 tn.limit,.slice a1 tn.mets.length c1,.slice a2 tn.sers.length c2],.int .i64 now,.int .i64 c.w] W fun e w'=>∃M a1 c1 a2 c2,e=.returned (.agg #[.string tn.name,.int .i64 tn.limit,.slice a1 tn.mets.length c1,.slice a2 tn.sers.length c2])∧W.heap.size≤M∧fB w' W.heap.size a1 tn.mets∧(∀g o,a1=some ⟨g,o,none⟩→g<M)∧w'.ownsRow M 151 2 (.slice a2 tn.sers.length c2) tn.sers.length (flatK tn.sers)∧M≤w'.heap.size∧Below W.heap.size W w'
 wi:∀W L ms ss q1 q2 e1 e2,Below w.heap.size w W→sA W q1 ms→sA W q2 ss→MX ⟨tn.name,L,ms,ss⟩→Calls Tryz.prog 97 #[.agg #[.int .i64 c.w,.int .i64 c.tl,.int .i64 c.ml,.int .i64 c.sh,.int .i64 c.ha,.int .i64 c.sg],.agg #[.int .i64 now,.slice a ts.length cap],.int .i64 now,.agg #[.string tn.name,.int .i64 L,.slice q1 ms.length e1,.slice q2 ss.length e2]] W fun e w'=>∃a' cap',e=.returned (.agg #[.int .i64 now,.slice a' (mC c.w now (tA (·.name) ⟨tn.name,L,ms,ss⟩ ts)).length cap'])∧eB w' W.heap.size a' (mC c.w now (tA (·.name) ⟨tn.name,L,ms,ss⟩ ts))∧Below W.heap.size W w'
 fit:MX tn
 len:tn.mets.length≤1100000∧tn.sers.length≤1100000
 rm:oB (·.s) tn.mets
 rs:oB (·.s) tn.sers
 now0:0≤now∧now≤1000000000000
theorem aNx {c:eC}{now:Int}{a:Option Addr}{cap:Nat}{ts:List cA}{tenant:ByteArray}{w:World} (hf:pB w a ts) (hbk:ts.length+nA ts≤1100000) (hn:tenant.size≤1100000) (h0:vB c now ts=true) (ht:dC tenant=true):SC w c now a cap ts tenant (xA ts tenant):=by
 obtain ⟨f1,f2,f3,f4⟩:=kS hbk;obtain ⟨-,hn0,hn1,-,htens⟩:=gH h0;obtain ⟨-,-,-,l1,l2⟩:=MO (rW hbk) hn;have hfw:MX (xA ts tenant)∧oB (·.s) (xA ts tenant).mets∧oB (·.s) (xA ts tenant).sers:=by
  rcases dM (ts:=ts) (name:=tenant) with ⟨hmm,_⟩ | ⟨e,_⟩
  ·obtain ⟨-,h1,h2,-⟩:=qH (fH htens _ hmm);have r1:=dZ (n:=(xA ts tenant).mets.length) h1 (Nat.le_refl _);have r2:=mZ (n:=(xA ts tenant).sers.length) h2 (Nat.le_refl _);rw [List.take_length] at r1 r2;exact ⟨CZ h0 hbk _ hmm,r1,r2⟩
  ·rw [e];exact ⟨⟨Nat.zero_le _,Nat.zero_le _,fun i h=>absurd h (by simp)⟩,List.Pairwise.nil,List.Pairwise.nil⟩
 refine ⟨fun W hW=>?_,fun W=>?_,fun W hW=>aO c now a cap ts W (hf.later hW) h0 hbk,fun W hW=>OY now a cap ts tenant W (hf.later hW) (by omega),fun W a1 a2 c1 c2 p1 p2=>?_,fun W L ms ss q1 q2 e1 e2 hW p1 p2 hft=>?_,hfw.1,⟨l1,l2⟩,hfw.2.1,hfw.2.2,hn0,hn1⟩
 ·have:=aJ c now a cap ts W (hf.later hW) f2 (by omega);rw [h0] at this;exact this
 ·have:=jI tenant W (by unfold maxLen;omega);rw [ht] at this;exact this
 ·have:=AZ (xA ts tenant) a1 a2 c1 c2 now c.w W p1 p2 (by omega) (by omega) hn0 (by omega) hfw.1.2.2;rw [kT (yV htens)] at this;exact this
 ·have:=iV c now now a cap ts ⟨(xA ts tenant).name,L,ms,ss⟩ q1 q2 e1 e2 W (hf.later hW) p1 p2 (by omega) (fun x hx=>hx.elim (fun e=>e ▸ hft) (CZ h0 hbk x)) hn0 (by omega);rw [show (⟨(xA ts tenant).name,L,ms,ss⟩:cA).name.toList.isEmpty=false from by show (xA ts tenant).name.toList.isEmpty=false;rw [gG];exact aBj ht,aLg (yO htens)] at this;exact this
theorem SC.wn {w:World}{c:eC}{now:Int}{a:Option Addr}{cap:Nat}{ts RL:List cA}{tenant:ByteArray}{tn:cA} (h:SC w c now a cap ts tenant tn){W:World}{L:Int}{ms ss:List gA}{q1 q2:Option Addr}{e1 e2 n1 n2:Nat} (hK:mC c.w now (tA (·.name) ⟨tn.name,L,ms,ss⟩ ts)=RL) (h1:ms.length=n1) (h2:ss.length=n2) (hW:Below w.heap.size w W) (p1:sA W q1 ms) (p2:sA W q2 ss) (hf:MX ⟨tn.name,L,ms,ss⟩):
 Calls Tryz.prog 97 #[.agg #[.int .i64 c.w,.int .i64 c.tl,.int .i64 c.ml,.int .i64 c.sh,.int .i64 c.ha,.int .i64 c.sg],.agg #[.int .i64 now,.slice a ts.length cap],.int .i64 now,.agg #[.string tn.name,.int .i64 L,.slice q1 n1 e1,.slice q2 n2 e2]] W fun e w'=>∃a' cap',e=.returned (.agg #[.int .i64 now,.slice a' RL.length cap'])∧eB w' W.heap.size a' RL∧Below W.heap.size W w':=by
 subst hK h1 h2;exact h.wi W L ms ss q1 q2 e1 e2 hW p1 p2 hf
theorem qT.kin {w W:World}{c:eC}{now:Int}{a:Option Addr}{n cap:Nat} (h:qT w W c now a n cap):∀W',Below W.heap.size W W'→W'.cell? ⟨w.heap.size+1,0,none⟩=some (.int .i64 now)∧W'.cell? ⟨w.heap.size+1,1,none⟩=some (.slice a n cap)∧W'.cell? ⟨w.heap.size,0,none⟩=some (.int .i64 c.w):=fun W' hb=>by
 have k:=h.later hb;exact ⟨k.S.cell 0,k.S.cell 1,k.C.cell 0⟩
end Go.Proofs.YtcneojllbkacoaaGreatDoor
namespace Go.Proofs.YtcneojllbkacoaaGreatDoor
def jG (t:gA) (s:List gA×Bool) (p:gA):List gA×Bool:=
 (s.1++(if s.2=true then [] else if nG p.s t.s=true then [] else [t])++(if (p.s.toList==t.s.toList)=true then [] else [p]),if s.2=true then true else !nG p.s t.s)
def sR (t:gA) (b:Bool) (ps:List gA):List gA×Bool:=ps.foldl (jG t) ([],b)
def VY (t:gA) (b:Bool) (ps:List gA):List gA:=(sR t b ps).1++if (sR t b ps).2=true then [] else [t]
theorem aAi (t:gA) (b:Bool) (ps:List gA) (k:Nat) (h:k<ps.length):sR t b (ps.take (k+1))=jG t (sR t b (ps.take k)) ps[k]:=by
 rw [List.take_succ_eq_append_getElem h,sR,List.foldl_append];rfl
theorem aGm (t:gA) (ps:List gA):∀(acc:List gA) (b:Bool),ps.foldl (jG t) (acc,b)=(acc++(ps.foldl (jG t) ([],b)).1,(ps.foldl (jG t) ([],b)).2):=by
 induction ps with
 | nil=>intro acc b;simp
 | cons p r ih=>
   intro acc b;simp only [List.foldl_cons];rw [ih (jG t (acc,b) p).1 (jG t (acc,b) p).2,ih (jG t ([],b) p).1 (jG t ([],b) p).2];simp [jG]
theorem LY (t p:gA) (r:List gA) (b:Bool):VY t b (p :: r)=(jG t ([],b) p).1++VY t (jG t ([],b) p).2 r:=by
 unfold VY sR;rw [List.foldl_cons,aGm t r (jG t ([],b) p).1 (jG t ([],b) p).2];simp
theorem uO (t:gA) (ps:List gA):VY t true ps=aD (·.s) t.s ps:=by
 induction ps with
 | nil=>rfl
 | cons p r ih=>
   rw [LY];by_cases h1:(p.s.toList==t.s.toList)=true
   ·simp only [jG,h1,if_true,List.nil_append,ih];unfold aD;rw [List.filter_cons_of_neg (by rw [h1];simp)]
   ·have h1':(p.s.toList==t.s.toList)=false:=by simpa using h1
    simp only [jG,h1',if_true,List.nil_append,ih];unfold aD;rw [List.filter_cons_of_pos (by rw [h1'];rfl)];rfl
theorem VZ {t:gA}{ps:List gA} (hr:oB (·.s) ps):VY t false ps=tA (·.s) t ps:=by
 induction ps with
 | nil=>rfl
 | cons p r ih=>
   have ihr:=ih hr.tail;rw [LY,tA];by_cases h2:nG p.s t.s=true
   ·have h3:(p.s.toList==t.s.toList)=false:=iC (cG h2);simp only [jG,h2,h3,if_true];simp [ihr]
   ·have h2':nG p.s t.s=false:=by simpa using h2
    have hnone:∀q∈r,q.s≠t.s:=fun q hq e=>by
     have hb:=hr.head q hq;rw [e] at hb;exact h2 hb
    have hdel:aD (·.s) t.s r=r:=List.filter_eq_self.2 fun q hq=>by rw [iC (hnone q hq)];rfl
    by_cases h3:p.s=t.s
    ·have h4:(p.s.toList==t.s.toList)=true:=(rC _ _).2 h3;simp only [jG,h2',h4,if_true];simp [uO,hdel]
    ·have h4:(p.s.toList==t.s.toList)=false:=iC h3;simp only [jG,h2',h4];simp [uO,hdel]
theorem aJm {t:cA}{metric:ByteArray}{limit:Int} (hr:oB (·.s) t.mets) (he:metric.toList.isEmpty=false):cF t metric limit=⟨t.name,t.limit,VY ⟨metric,limit⟩ (decide (limit<0)) t.mets,t.sers⟩:=by
 unfold cF;rw [if_neg (by rw [he];simp)];by_cases h:limit<0
 ·rw [if_pos h,decide_eq_true h,uO]
 ·rw [if_neg h,decide_eq_false h,VZ hr]
end Go.Proofs.YtcneojllbkacoaaGreatDoor
namespace Go.Proofs.YtcneojllbkacoaaGreatDoor
open Go.RowKit Go.Maps
def RH (V:Int×List cA×Nat) (w:World) (e:Ending) (w':World):Prop:=
 ∃a cap,e=.returned (.tuple #[.agg #[.int .i64 V.1,.slice a V.2.1.length cap],.int .i64 (V.2.2:Nat)])∧eB w' w.heap.size a V.2.1∧Below w.heap.size w w'
end Go.Proofs.YtcneojllbkacoaaGreatDoor
namespace Go.Proofs.YtcneojllbkacoaaGreatDoor
open Go.RowKit
def DE (v:Int):Prop:=-9223372036854775808≤v∧v≤9223372036854775807
def RM (ps:List gA):Prop:=∀i (h:i<ps.length),DE ps[i].n
def aPp (ts:List cA):Prop:=∀i (h:i<ts.length),DE ts[i].limit∧RM ts[i].mets∧RM ts[i].sers
end Go.Proofs.YtcneojllbkacoaaGreatDoor
namespace Go.Proofs.YtcneojllbkacoaaGreatDoor
open Go.ChangeShapes Go.WideShapes Go.ChangeAt Go.RowKit Go.Deep
theorem uN:Tryz.prog.cellsOf 3=1:=by kernel_rfl
theorem iY {n:Int} (h:(Lit.int .i64 n).wf=true):DE n:=by
 simp only [Lit.wf,Bool.and_eq_true,decide_eq_true_eq] at h;exact h
theorem vU:Tryz.prog.cellsOf 9=1:=by kernel_rfl
theorem KC:Tryz.prog.cellsOf 145=4:=by kernel_rfl
theorem aDq:Tryz.prog.cellsOf 142=1:=by kernel_rfl
theorem aDr:Tryz.prog.cellsOf 143=1:=by kernel_rfl
theorem YH:Tryz.prog.cellsOf 29=1:=by kernel_rfl
theorem aDs:Tryz.prog.cellsOf 31=2:=by kernel_rfl
section
variable {H:Type}{enc:TypeId×Value→H}{W:World}
theorem SH:Tryz.prog.cellsOf 256=2:=by kernel_rfl
theorem aCk {fuel:Nat}{cs:List Value}{x:DataW H×List MemPlace} (h:DataW.trod enc Tryz.prog W 0 (fun _=>true) true fuel 256 cs=some x):
 ∃f:gA,cs=[.string f.s,.int .i64 f.n]∧f.s.size≤maxLen∧DE f.n:=by
 obtain ⟨y0,y1,n,_,hl,h0,h1⟩:=trod_struct2 Tryz.underlying256 h;rw [SH] at hl;match cs,hl with
 | [c0,c1],_=>
   simp [vU,uN] at h0 h1;obtain ⟨s0,e0,_,z0⟩:=DataW.trod_string Tryz.underlying9 h0;obtain ⟨i1,e1,_,y1'⟩:=DataW.trod_int Tryz.underlying3 h1;simp at e0 e1;exact ⟨⟨s0,i1⟩,by simp [e0,e1],z0,iY y1'⟩
theorem aKa {fuel:Nat}{v:Value}{x:DataW H×List MemPlace} (h:DataW.trod enc Tryz.prog W 0 (fun _=>true) true fuel 142 [v]=some x):
 ∃(a:Option Addr) (cap:Nat) (fs:List gA),v=.slice a fs.length cap∧sA W a fs∧nY fs∧RM fs∧fs.length≤maxLen:=by
 rcases open_slice Tryz.underlying142 h with ⟨hc,_⟩ | ⟨a,len,cap,m,n,D,Pl,hc,_,hl,hm,hmm,_,hx⟩
 ·simp at hc;exact ⟨none,0,[],by simpa using hc,Or.inl rfl,fun i h=>absurd h (by simp),fun i h=>absurd h (by simp),by simp⟩
 ·simp at hc;simp only [if_true] at hmm;have hin:Inhabited gA:=⟨⟨ByteArray.empty,0⟩⟩
  obtain ⟨b,o,spot⟩:=a;rw [SH] at hx;have hsp:0<len→spot=none:=fun h0=>by
   obtain ⟨cs',h1,h2⟩:=hx 0 (by omega);obtain ⟨f,rfl,_⟩:=aCk h2;obtain ⟨_,_,hcell⟩:=World.cells?_some h1;have hc0:=hcell 0 (by omega);simp only [List.getElem?_cons_zero] at hc0;have:=World.cell?_spot hc0;simpa [Addr.add] using this
  obtain ⟨F,hF⟩:=choose_lt (α:=gA) (n:=len) (p:=fun i f=>W.cell? ⟨b,o+i * 2,none⟩=some (.string f.s)∧
   W.cell? ⟨b,o+i * 2+1,none⟩=some (.int .i64 f.n)∧f.s.size≤maxLen∧DE f.n) (fun i hi=>by
   obtain ⟨cs',h1,h2⟩:=hx i (by omega);obtain ⟨f,rfl,z0⟩:=aCk h2;obtain ⟨_,_,hcell⟩:=World.cells?_some h1;have hspot:=hsp (by omega);subst hspot;refine ⟨f,?_,?_,z0⟩
   ·simpa [add_plain] using hcell 0 (by omega)
   ·simpa [add_plain] using hcell 1 (by omega))
  refine ⟨some ⟨b,o,spot⟩,cap,(List.range len).map F,by simp [hc],?_,?_,?_,by simp;omega⟩
  ·by_cases h0:len=0
   ·subst h0;exact Or.inl rfl
   ·have hs:=hsp (by omega);subst hs;have hlt:b<W.heap.size:=by
     have hc0:=(hF 0 (by omega)).1;rcases Nat.lt_or_ge b W.heap.size with hlt | hge
     ·exact hlt
     ·simp [World.cell?,Array.getElem?_eq_none hge] at hc0
    refine Or.inr ⟨b,o,rfl,hlt,fun i hi=>?_⟩;simp only [List.length_map,List.length_range] at hi;obtain ⟨q1,q2,_⟩:=hF i hi;simpa using ⟨q1,q2⟩
  ·intro i hi;simp only [List.length_map,List.length_range] at hi;obtain ⟨_,_,z0,_⟩:=hF i hi;simpa using z0
  ·intro i hi;simp only [List.length_map,List.length_range] at hi;obtain ⟨_,_,_,z0⟩:=hF i hi;simpa using z0
theorem SI:Tryz.prog.cellsOf 258=2:=by kernel_rfl
theorem aCl {fuel:Nat}{cs:List Value}{x:DataW H×List MemPlace} (h:DataW.trod enc Tryz.prog W 0 (fun _=>true) true fuel 258 cs=some x):
 ∃f:gA,cs=[.string f.s,.int .i64 f.n]∧f.s.size≤maxLen∧DE f.n:=by
 obtain ⟨y0,y1,n,_,hl,h0,h1⟩:=trod_struct2 Tryz.underlying258 h;rw [SI] at hl;match cs,hl with
 | [c0,c1],_=>
   simp [vU,uN] at h0 h1;obtain ⟨s0,e0,_,z0⟩:=DataW.trod_string Tryz.underlying9 h0;obtain ⟨i1,e1,_,y1'⟩:=DataW.trod_int Tryz.underlying3 h1;simp at e0 e1;exact ⟨⟨s0,i1⟩,by simp [e0,e1],z0,iY y1'⟩
theorem aKb {fuel:Nat}{v:Value}{x:DataW H×List MemPlace} (h:DataW.trod enc Tryz.prog W 0 (fun _=>true) true fuel 143 [v]=some x):
 ∃(a:Option Addr) (cap:Nat) (fs:List gA),v=.slice a fs.length cap∧sA W a fs∧nY fs∧RM fs∧fs.length≤maxLen:=by
 rcases open_slice Tryz.underlying143 h with ⟨hc,_⟩ | ⟨a,len,cap,m,n,D,Pl,hc,_,hl,hm,hmm,_,hx⟩
 ·simp at hc;exact ⟨none,0,[],by simpa using hc,Or.inl rfl,fun i h=>absurd h (by simp),fun i h=>absurd h (by simp),by simp⟩
 ·simp at hc;simp only [if_true] at hmm;have hin:Inhabited gA:=⟨⟨ByteArray.empty,0⟩⟩
  obtain ⟨b,o,spot⟩:=a;rw [SI] at hx;have hsp:0<len→spot=none:=fun h0=>by
   obtain ⟨cs',h1,h2⟩:=hx 0 (by omega);obtain ⟨f,rfl,_⟩:=aCl h2;obtain ⟨_,_,hcell⟩:=World.cells?_some h1;have hc0:=hcell 0 (by omega);simp only [List.getElem?_cons_zero] at hc0;have:=World.cell?_spot hc0;simpa [Addr.add] using this
  obtain ⟨F,hF⟩:=choose_lt (α:=gA) (n:=len) (p:=fun i f=>W.cell? ⟨b,o+i * 2,none⟩=some (.string f.s)∧
   W.cell? ⟨b,o+i * 2+1,none⟩=some (.int .i64 f.n)∧f.s.size≤maxLen∧DE f.n) (fun i hi=>by
   obtain ⟨cs',h1,h2⟩:=hx i (by omega);obtain ⟨f,rfl,z0⟩:=aCl h2;obtain ⟨_,_,hcell⟩:=World.cells?_some h1;have hspot:=hsp (by omega);subst hspot;refine ⟨f,?_,?_,z0⟩
   ·simpa [add_plain] using hcell 0 (by omega)
   ·simpa [add_plain] using hcell 1 (by omega))
  refine ⟨some ⟨b,o,spot⟩,cap,(List.range len).map F,by simp [hc],?_,?_,?_,by simp;omega⟩
  ·by_cases h0:len=0
   ·subst h0;exact Or.inl rfl
   ·have hs:=hsp (by omega);subst hs;have hlt:b<W.heap.size:=by
     have hc0:=(hF 0 (by omega)).1;rcases Nat.lt_or_ge b W.heap.size with hlt | hge
     ·exact hlt
     ·simp [World.cell?,Array.getElem?_eq_none hge] at hc0
    refine Or.inr ⟨b,o,rfl,hlt,fun i hi=>?_⟩;simp only [List.length_map,List.length_range] at hi;obtain ⟨q1,q2,_⟩:=hF i hi;simpa using ⟨q1,q2⟩
  ·intro i hi;simp only [List.length_map,List.length_range] at hi;obtain ⟨_,_,z0,_⟩:=hF i hi;simpa using z0
  ·intro i hi;simp only [List.length_map,List.length_range] at hi;obtain ⟨_,_,_,z0⟩:=hF i hi;simpa using z0
theorem VV {fuel:Nat}{cs:List Value}{x:DataW H×List MemPlace} (h:DataW.trod enc Tryz.prog W 0 (fun _=>true) true fuel 145 cs=some x):
 ∃(t:cA) (a1 a2:Option Addr) (c1 c2:Nat),cs=[.string t.name,.int .i64 t.limit,.slice a1 t.mets.length c1,.slice a2 t.sers.length c2]∧sA W a1 t.mets∧sA W a2 t.sers∧cW t∧(DE t.limit∧RM t.mets∧RM t.sers):=by
 obtain ⟨xs,n,_,_,hl,hlen,hfl⟩:=DataW.trod_struct Tryz.underlying145 h;rw [KC] at hl;match cs,hl with
 | [c0,c1,c2,c3],_=>
   match xs,hlen with
   | [y0,y1,y2,y3],_=>
     have h0:=hfl 0 _ rfl;have h1:=hfl 1 _ rfl;have h2:=hfl 2 _ rfl;have h3:=hfl 3 _ rfl;simp [vU,uN,aDq,aDr] at h0 h1 h2 h3;obtain ⟨s0,e0,_,z0⟩:=DataW.trod_string Tryz.underlying9 h0;obtain ⟨i1,e1,_,y1'⟩:=DataW.trod_int Tryz.underlying3 h1;obtain ⟨a2,k2,f2,e2,p2,s2,g2,l2⟩:=aKa h2;obtain ⟨a3,k3,f3,e3,p3,s3,g3,l3⟩:=aKb h3;simp at e0 e1;exact ⟨⟨s0,i1,f2,f3⟩,a2,a3,k2,k3,by simp [e0,e1,e2,e3],p2,p3,⟨z0,s2,l2,s3,l3⟩,iY y1',g2,g3⟩
theorem aGl {fuel:Nat}{v:Value}{x:DataW H×List MemPlace} (h:DataW.trod enc Tryz.prog W 0 (fun _=>true) true fuel 29 [v]=some x):
 ∃(a:Option Addr) (cap:Nat) (fs:List cA),v=.slice a fs.length cap∧pB W a fs∧rU fs∧aPp fs∧fs.length≤maxLen:=by
 rcases open_slice Tryz.underlying29 h with ⟨hc,_⟩ | ⟨a,len,cap,m,n,D,Pl,hc,_,hl,hm,hmm,_,hx⟩
 ·simp at hc;exact ⟨none,0,[],by simpa using hc,Or.inl rfl,fun i h=>absurd h (by simp),fun i h=>absurd h (by simp),by simp⟩
 ·simp at hc;simp only [if_true] at hmm;have hin:Inhabited cA:=⟨⟨ByteArray.empty,0,[],[]⟩⟩
  obtain ⟨b,o,spot⟩:=a;rw [KC] at hx;have hsp:0<len→spot=none:=fun h0=>by
   obtain ⟨cs',h1,h2⟩:=hx 0 (by omega);obtain ⟨f,_,_,_,_,rfl,_⟩:=VV h2;obtain ⟨_,_,hcell⟩:=World.cells?_some h1;have hc0:=hcell 0 (by omega);simp only [List.getElem?_cons_zero] at hc0;have:=World.cell?_spot hc0;simpa [Addr.add] using this
  obtain ⟨F,hF⟩:=choose_lt (α:=cA) (n:=len) (p:=fun i f=>(spot=none→DK W b (o+i * 4) f)∧(cW f∧(DE f.limit∧RM f.mets∧RM f.sers))∧(spot=none→b<W.heap.size)) (fun i hi=>by
   obtain ⟨cs',h1,h2⟩:=hx i (by omega);obtain ⟨f,a1,a2,c1,c2,rfl,p1,p2,z⟩:=VV h2;obtain ⟨_,_,hcell⟩:=World.cells?_some h1;have hspot:=hsp (by omega);subst hspot;have q0:W.cell? ⟨b,o+i * 4,none⟩=some (.string f.name):=by simpa [add_plain] using hcell 0 (by omega)
   refine ⟨f,fun _=>⟨a1,c1,a2,c2,q0,?_,?_,?_,p1,p2⟩,z,fun _=>?_⟩
   ·simpa [add_plain] using hcell 1 (by omega)
   ·simpa [add_plain] using hcell 2 (by omega)
   ·simpa [add_plain] using hcell 3 (by omega)
   ·rcases Nat.lt_or_ge b W.heap.size with hlt | hge
    ·exact hlt
    ·simp [World.cell?,Array.getElem?_eq_none hge] at q0)
  refine ⟨some ⟨b,o,spot⟩,cap,(List.range len).map F,by simp [hc],?_,?_,?_,by simp;omega⟩
  ·by_cases h0:len=0
   ·subst h0;exact Or.inl rfl
   ·have hs:=hsp (by omega);subst hs;refine Or.inr ⟨b,o,rfl,(hF 0 (by omega)).2.2 rfl,fun i hi=>?_⟩;simp only [List.length_map,List.length_range] at hi;have:=(hF i hi).1 rfl;simpa using this
  ·intro i hi;simp only [List.length_map,List.length_range] at hi;have:=(hF i hi).2.1.1;simpa using this
  ·intro i hi;simp only [List.length_map,List.length_range] at hi;have:=(hF i hi).2.1.2;simpa using this
end
end Go.Proofs.YtcneojllbkacoaaGreatDoor
namespace Go.Proofs.YtcneojllbkacoaaGreatDoor
open Go.ChangeShapes Go.WideShapes Go.ChangeAt Go.RowKit
theorem SE:Tryz.prog.cellsOf 26=6:=by kernel_rfl
theorem YF:Tryz.prog.cellsOf 28=3:=by kernel_rfl
theorem yZ:Tryz.prog.cellsOf 4=1:=by kernel_rfl
theorem YG:Tryz.prog.cellsOf 33=14:=by kernel_rfl
section
variable {H:Type}{enc:TypeId×Value→H}{W:World}
theorem aGj {r:Reach}{b0:Nat}{v:Value}{d:DataW H}{p:List MemPlace} (hv:Value.okWide Tryz.prog W r b0 33 v) (h:DataW.Trod enc Tryz.prog W 0 (fun _=>true) true 33 v d p):
 ∃(a b:Option Addr) (ca cb:Nat) (N:bD),v=.agg #[.slice a N.d.fs.length ca,.int .i64 N.d.c,.int .i64 N.d.k,.int .i64 N.d.cr,.int .i64 N.d.fl,.bool N.d.dn,.int .i64 N.l.first,.int .i64 N.l.last,.int .i64 N.l.size,.int .i64 N.now,.slice b N.ts.length cb,.int .i64 N.lsn,.bool N.deg,.bool N.up]∧kA W a N.d.fs∧qI N.d.fs∧N.d.fs.length≤maxLen∧pB W b N.ts∧rU N.ts∧aPp N.ts∧DE N.lsn∧DE N.now∧N.ts.length≤maxLen:=by
 obtain ⟨cs,rfl,hsz⟩:=okWide_struct Tryz.underlying33 hv;obtain ⟨fuel,hf⟩:=h;obtain ⟨xs,n,_,_,_,hlen,hfl⟩:=DataW.trod_struct Tryz.underlying33 hf;rw [YG] at hsz;obtain ⟨l⟩:=cs;simp at hsz;match l,hsz with
 | [c0,c1,c2,c3,c4,c5,c6,c7,c8,c9,c10,c11,c12,c13],_=>
   match xs,hlen with
   | [y0,y1,y2,y3,y4,y5],_=>
     have h0:=hfl 0 _ rfl;have h1:=hfl 1 _ rfl;have h2:=hfl 2 _ rfl;have h3:=hfl 3 _ rfl;have h4:=hfl 4 _ rfl;have h5:=hfl 5 _ rfl;simp [Value.cells,SE,YF,aDs,uN,yZ] at h0 h1 h2 h3 h4 h5;obtain ⟨xd,nd,_,_,_,hld,hfd⟩:=DataW.trod_struct Tryz.underlying26 h0;obtain ⟨xl,nl,_,_,_,hll,hfl2⟩:=DataW.trod_struct Tryz.underlying28 h1;obtain ⟨xs,ns,_,_,_,hls,hfs⟩:=DataW.trod_struct Tryz.underlying31 h2;match xd,hld with
     | [z0,z1,z2,z3,z4,z5],_=>
       match xl,hll with
       | [l0,l1,l2],_=>
         match xs,hls with
         | [s0,s1],_=>
           have d0:=hfd 0 _ rfl;have d1:=hfd 1 _ rfl;have d2:=hfd 2 _ rfl;have d3:=hfd 3 _ rfl;have d4:=hfd 4 _ rfl;have d5:=hfd 5 _ rfl;have k0:=hfl2 0 _ rfl;have k1:=hfl2 1 _ rfl;have k2:=hfl2 2 _ rfl;have t0:=hfs 0 _ rfl;have t1:=hfs 1 _ rfl;simp [SF,uN,yZ,YH] at d0 d1 d2 d3 d4 d5 k0 k1 k2 t0 t1;obtain ⟨a,cap,fs,e0,hF,hS,hL⟩:=aAh d0;obtain ⟨i1,e1,_,_⟩:=DataW.trod_int Tryz.underlying3 d1;obtain ⟨i2,e2,_,_⟩:=DataW.trod_int Tryz.underlying3 d2;obtain ⟨i3,e3,_,_⟩:=DataW.trod_int Tryz.underlying3 d3;obtain ⟨i4,e4,_,_⟩:=DataW.trod_int Tryz.underlying3 d4;obtain ⟨b5,e5,_⟩:=DataW.trod_bool Tryz.underlying4 d5;obtain ⟨i6,e6,_,_⟩:=DataW.trod_int Tryz.underlying3 k0;obtain ⟨i7,e7,_,_⟩:=DataW.trod_int Tryz.underlying3 k1;obtain ⟨i8,e8,_,_⟩:=DataW.trod_int Tryz.underlying3 k2;obtain ⟨i9,e9,_,w9⟩:=DataW.trod_int Tryz.underlying3 t0;obtain ⟨b,cb,ts,e10,q1,q2,q4,q3⟩:=aGl t1;obtain ⟨i11,e11,_,w11⟩:=DataW.trod_int Tryz.underlying3 h3;obtain ⟨b12,e12,_⟩:=DataW.trod_bool Tryz.underlying4 h4;obtain ⟨b13,e13,_⟩:=DataW.trod_bool Tryz.underlying4 h5;simp at e1 e2 e3 e4 e5 e6 e7 e8 e9 e11 e12 e13;exact ⟨a,b,cap,cb,⟨⟨fs,i1,i2,i3,i4,b5⟩,⟨i6,i7,i8⟩,i9,ts,i11,b12,b13⟩,by simp [e0,e1,e2,e3,e4,e5,e6,e7,e8,e9,e10,e11,e12,e13],hF,hS,hL,q1,q2,q4,iY w11,iY w9,q3⟩
end
end Go.Proofs.YtcneojllbkacoaaGreatDoor
