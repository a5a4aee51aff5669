import Derived.Test.YtcneojllbkacoaaGreatDoorJ24SSeg
import Derived.Test.YtcneojllbkacoaaGreatDoorJ22SDecK
set_option maxRecDepth 100000
set_option maxHeartbeats 8000000
namespace Go.Proofs.YtcneojllbkacoaaGreatDoor
open Go.RowKit
theorem LR {p:FuncId} (hp:p=131∨p=132) (kI:Int) (a:Option Addr) (cap:Nat) (ps:List gA) (k B n0:Nat) (T:Nat→Nat) (w:World) (hkI:kI=(k:Int)) (hk:0<k) (hk2:k+2 * ps.length≤100000000) (hf:fC w B T n0 a ps):
 Calls Tryz.prog p #[.slice a ps.length cap,.int .i64 kI] w fun e w'=>e=.returned (.int .i64 ((k+2 * ps.length:Nat):Int))∧dA (fun g=>B≤g∧T g=n0) w w'∧fC w' B T n0 a (aF k ps.length):=by
 subst hkI;have hf3:ps=[]∨(0<ps.length∧∃g o cur t,a=some ⟨g,o,none⟩∧B≤g∧T g=n0∧w.heap[g]?=some (.cells cur t (0,0))∧bT w g o ps):=by
  rcases hf with h | h
  ·exact Or.inl h
  ·by_cases h0:ps=[]
   ·exact Or.inl h0
   ·exact Or.inr ⟨List.length_pos_iff.2 h0,h⟩
 clear hf;rcases hf3 with rfl | ⟨hpos,g,o,cur,t,rfl,hB,hT,hg,hfs⟩
 ·rcases hp with rfl | rfl
  go_enter Tryz.func131,Tryz.ntmps131;rotate_left;go_enter Tryz.func132,Tryz.ntmps132;all_goals
   go_wp2;go_loopw [1,5] (fun l i wr=>l=.int .i64 (k:Int)∧i=.int .i64 0∧wr=w) (fun _ i _=>0)
   case atStart=>exact ⟨rfl,rfl,rfl⟩
   case round=>
    obtain ⟨rfl,rfl,rfl⟩:=hrel;go_wp2;go_ret;exact ⟨rfl,dA.of (Below.refl _ _),Or.inl rfl⟩
 have hrow:=CQ hg hfs;have hsz:=aAj hrow;have HG:Hid (lA w g cur t):=hg;have HBT:Hid (B≤g∧T g=n0):=⟨hB,hT⟩
 clear hrow hg hfs hB hT;generalize ps.length=n at *;rcases hp with rfl | rfl
 go_enter Tryz.func131,Tryz.ntmps131;rotate_left;go_enter Tryz.func132,Tryz.ntmps132;all_goals
  go_wp2;go_loopw [1,5] (fun l i wr=>∃(j:Nat) (c:Array Value),j≤n∧i=.int .i64 j∧l=.int .i64 ((k+2 * j:Nat):Int)∧lA wr g c t∧c.size=cur.size∧(∀m,m<j→oL c o m (VI k m))∧bE g w wr) (fun _ i _=>n - (intOf i).toNat)
  case atStart=>exact ⟨0,cur,Nat.zero_le _,rfl,rfl,HG.out,rfl,fun m h=>absurd h (by omega),bE.refl _ _⟩
  case round=>
   obtain ⟨j,c,hj,rfl,rfl,hblk,hcs,hrows,hbut⟩:=hrel;have HBLK:Hid (lA wr g c t):=hblk;have HROWS:Hid _:=hrows;have HCS:Hid _:=hcs;clear hblk hrows;by_cases hlt:j<n
   ·have hbd:o+j * 2+1<c.size:=by rcases hsz with h | h<;>omega
    clear hcs hsz;go_wp2_with fail;refine (mE _ (k+2 * j) (by omega) _ (by omega) (by omega)).mono ?_;rintro e w1 ⟨rfl,hb1⟩;have hB1:=HBLK.out.later hb1;obtain ⟨v0,d0⟩:=hB1.there (j:=o+j * 2) (by omega);have f0:=hB1.free (o+j * 2);obtain ⟨v1,d1⟩:=hB1.there (j:=o+j * 2+1) (by omega);have f1:=hB1.free (o+j * 2+1);have HB1:Hid (lA w1 g c t):=hB1;have HBUT:Hid _:=hbut.trans (bE.of hb1);clear hB1 hb1 hbut;go_wp2;refine ⟨⟨j+1,_,by omega,by go_num,by go_num,(HB1.out.set (o+j * 2) (.string (mt (k+2 * j)))).set (o+j * 2+1) (.int .i64 ((k+2 * j+1:Nat):Int)),by simp [HCS.out],?_,(HBUT.out.setCell _ _).setCell _ _⟩,by simp [intOf];omega⟩;intro m hm;by_cases e:m=j
    ·subst e;exact oL.made c o m (VI k m) hbd
    ·exact ((HROWS.out m (by omega)).set (by omega) _).set (by omega) _
   ·go_wp2;go_ret;have e:j=n:=by omega
    subst e;refine ⟨jB (by omega),(dA.but hbut).mono fun i _ e=>by subst e;exact HBT.out,Or.inr ⟨g,o,c,t,rfl,HBT.out.1,HBT.out.2,HBLK.out,CO HBLK.out ?_⟩⟩;intro m hm;rw [gU];exact HROWS.out m (by rw [pG] at hm;exact hm)
theorem LD {p:FuncId} (hp:p=133∨p=134) (kI:Int) (a:Option Addr) (cap:Nat) (k n:Nat) (w:World) (hkI:kI=(k:Int)) (hk:0<k) (hk2:k+2 * n≤100000000) (hf:sA w a (aF k n)):
 Calls Tryz.prog p #[.slice a n cap,.int .i64 kI] w fun e w'=>e=.returned (.int .i64 ((k+2 * n:Nat):Int))∧Below w.heap.size w w':=by
 subst hkI;have HF:Hid (sA w a (aF k n)):=hf;clear hf;rcases hp with rfl | rfl
 go_enter Tryz.func133,Tryz.ntmps133;rotate_left;go_enter Tryz.func134,Tryz.ntmps134;all_goals
  go_wp2;go_loopw [1,5] (fun l i wr=>∃j:Nat,j≤n∧i=.int .i64 j∧l=.int .i64 ((k+2 * j:Nat):Int)∧Below w.heap.size w wr) (fun _ i _=>n - (intOf i).toNat)
  case atStart=>exact ⟨0,Nat.zero_le _,rfl,rfl,Below.refl _ _⟩
  case round=>
   obtain ⟨j,hj,rfl,rfl,hbel⟩:=hrel;by_cases hlt:j<n
   ·obtain ⟨b,o,rfl,hb,c0,c1⟩:=(HF.out.later hbel).at (i:=j) (by rw [pG];exact hlt)
    rw [gU] at c0 c1;simp only [VI] at c0 c1;have d0:=pA.cells c0;have hne:=pA.there wr;have HC:Hid _:=c1;clear c0 c1;go_wp2_with fail;refine fA (by kernel_rfl) (by kernel_rfl) ?_;repeat (go_big_quiet_step (first | (go_at_call 44;exact oA (mE _ (k+2 * j) (by omega) _ (by omega) (by omega)))))
    refine wpQuiet_nil ?_;rintro _ ⟨x,rfl⟩;have d1:x.w'.cell? ⟨b,o+j * 2+1,none⟩=some (.int .i64 ((k:Int)+2 * (j:Int)+1)):=by rw [x.cell HC.out];simp
    have HX:Hid _:=rA hbel x.h;clear d0 hne HC hbel;generalize x.w'=W at *;clear x;go_wp2;exact ⟨⟨j+1,by omega,by go_num,by go_num,HX.out⟩,by simp [intOf];omega⟩
   ·go_wp2;go_ret;have e:j=n:=by omega
    subst e;exact ⟨jB (by omega),hbel⟩
def iL (t:cA):Nat:=2+2 * t.mets.length+2 * t.sers.length
def kB:List cA→Nat
 | []=>0
 | t :: r=>iL t+kB r
theorem zS (a b:List cA):kB (a++b)=kB a+kB b:=by
 induction a with
 | nil=>simp [kB]
 | cons f r ih=>simp [kB,ih];omega
theorem fY (ts:List cA) (j:Nat) (h:j<ts.length):kB (ts.take (j+1))=kB (ts.take j)+iL ts[j]:=by
 rw [List.take_succ_eq_append_getElem h,zS];simp [kB]
theorem IF (ts:List cA) (j:Nat):kB (ts.take j)≤kB ts:=by
 have:=zS (ts.take j) (ts.drop j);rw [List.take_append_drop] at this;omega
def sL (k:Nat) (t:cA):cA:=⟨mt k,((k+1:Nat):Int),aF (k+2) t.mets.length,aF (k+2+2 * t.mets.length) t.sers.length⟩
def aJr (k:Nat) (ts:List cA) (i:Nat) (t:cA):cA:=sL (k+kB (ts.take i)) t
def eE (k:Nat) (ts:List cA):List cA:=ts.mapIdx (aJr k ts)
theorem rR (k:Nat) (ts:List cA):(eE k ts).length=ts.length:=by simp [eE]
theorem kX {k:Nat}{ts:List cA}{i:Nat} (h:i<(eE k ts).length) (h':i<ts.length):(eE k ts)[i]=sL (k+kB (ts.take i)) ts[i]:=by simp [eE,aJr]
def mY (c:Array Value) (p:Nat) (t:cA) (a1:Option Addr) (c1:Nat) (a2:Option Addr) (c2:Nat):Prop:=
 c[p]?=some (.string t.name)∧c[p+1]?=some (.int .i64 t.limit)∧c[p+2]?=some (.slice a1 t.mets.length c1)∧c[p+3]?=some (.slice a2 t.sers.length c2)
def pY (w:World) (B:Nat) (T:Nat→Nat) (c:Array Value) (o i:Nat) (t:cA):Prop:=
 ∃a1 c1 a2 c2,mY c (o+i * 4) t a1 c1 a2 c2∧fC w B T (2 * i+1) a1 t.mets∧fC w B T (2 * i+2) a2 t.sers
theorem pK.row {w:World}{B i g o:Nat}{T:Nat→Nat}{t:cA}{c:Array Value}{ty:TypeId} (h:pK w B T i g (o+i * 4) t) (hb:lA w g c ty):pY w B T c o i t:=by
 obtain ⟨a1,c1,a2,c2,h0,h1,h2,h3,h4,h5⟩:=h;rw [hb.cell] at h0 h1 h2 h3;exact ⟨a1,c1,a2,c2,⟨h0,h1,h2,h3⟩,h4,h5⟩
theorem pY.own {w:World}{B i g o:Nat}{T:Nat→Nat}{t:cA}{c:Array Value}{ty:TypeId} (h:pY w B T c o i t) (hb:lA w g c ty):pK w B T i g (o+i * 4) t:=by
 obtain ⟨a1,c1,a2,c2,⟨h0,h1,h2,h3⟩,h4,h5⟩:=h;exact ⟨a1,c1,a2,c2,(hb.cell _).trans h0,(hb.cell _).trans h1,(hb.cell _).trans h2,(hb.cell _).trans h3,h4,h5⟩
theorem mY.set {c:Array Value}{p:Nat}{t:cA}{a1 a2:Option Addr}{c1 c2:Nat} (h:mY c p t a1 c1 a2 c2){q:Nat} (hq:q<p∨p+3<q) (v:Value):mY (c.setIfInBounds q v) p t a1 c1 a2 c2:=by
 obtain ⟨h0,h1,h2,h3⟩:=h;refine ⟨?_,?_,?_,?_⟩
 ·rw [Array.getElem?_setIfInBounds_ne (by omega)];exact h0
 ·rw [Array.getElem?_setIfInBounds_ne (by omega)];exact h1
 ·rw [Array.getElem?_setIfInBounds_ne (by omega)];exact h2
 ·rw [Array.getElem?_setIfInBounds_ne (by omega)];exact h3
theorem fC.turn {S:Nat→Prop}{w w':World}{B n:Nat}{T:Nat→Nat}{a:Option Addr}{ps:List gA} (h:fC w B T n a ps) (ht:dA S w w') (hS:∀g,T g=n→¬S g):fC w' B T n a ps:=
 h.keep fun g hg _ hT=>⟨ht.block g hg (hS g hT),hT⟩
theorem aFu {w w2 w3 w4:World}{B o j K k:Nat}{T:Nat→Nat}{g:Nat}{c:Array Value}{ts:List cA}{a1 a2:Option Addr}{c1 c2:Nat} (hTg:T g=0) (hj:j<ts.length)
 (hr:∀i (h:i<ts.length),i≠j→pY w B T c o i (if i<j then sL (k+kB (ts.take i)) ts[i] else ts[i])) (hrow:mY c (o+j * 4) ts[j] a1 c1 a2 c2) (hK:K=k+kB (ts.take j))
 (h2:bE g w w2) (h3:dA (fun g=>B≤g∧T g=2 * j+1) w2 w3) (h4:dA (fun g=>B≤g∧T g=2 * j+2) w3 w4) (p1:fC w3 B T (2 * j+1) a1 (aF (K+2) ts[j].mets.length)) (p2:fC w4 B T (2 * j+2) a2 (aF (K+2+2 * ts[j].mets.length) ts[j].sers.length)):
 ∀i (h:i<ts.length),pY w4 B T ((c.setIfInBounds (o+j * 4) (.string (mt K))).setIfInBounds (o+j * 4+1) (.int .i64 ((K+1:Nat):Int))) o i (if i<j+1 then sL (k+kB (ts.take i)) ts[i] else ts[i]):=by
 intro i hi;by_cases e:i=j
 ·subst e;rw [if_pos (by omega),←hK];obtain ⟨q0,q1,q2,q3⟩:=hrow;have s3:=(Array.getElem?_eq_some_iff.1 q3).1;refine ⟨a1,c1,a2,c2,⟨?_,?_,?_,?_⟩,p1.turn h4 fun g' hg' hs=>by omega,p2⟩
  ·rw [Array.getElem?_setIfInBounds_ne (by omega),Array.getElem?_setIfInBounds_self_of_lt (by omega)];rfl
  ·rw [Array.getElem?_setIfInBounds_self_of_lt (by simp;omega)];rfl
  ·rw [Array.getElem?_setIfInBounds_ne (by omega),Array.getElem?_setIfInBounds_ne (by omega),q2];simp [sL,pG]
  ·rw [Array.getElem?_setIfInBounds_ne (by omega),Array.getElem?_setIfInBounds_ne (by omega),q3];simp [sL,pG]
 ·obtain ⟨b1,d1,b2,d2,hrow',r1,r2⟩:=hr i hi e;have hif:(if i<j+1 then sL (k+kB (ts.take i)) ts[i] else ts[i])=(if i<j then sL (k+kB (ts.take i)) ts[i] else ts[i]):=by
   by_cases h:i<j
   ·rw [if_pos h,if_pos (by omega)]
   ·rw [if_neg h,if_neg (by omega)]
  rw [hif];refine ⟨b1,d1,b2,d2,(hrow'.set (by omega) _).set (by omega) _,?_,?_⟩
  ·exact ((r1.turn (dA.but h2) fun g' hg' e=>by subst e;omega).turn h3 fun g' hg' hs=>by omega).turn h4 fun g' hg' hs=>by omega
  ·exact ((r2.turn (dA.but h2) fun g' hg' e=>by subst e;omega).turn h3 fun g' hg' hs=>by omega).turn h4 fun g' hg' hs=>by omega
theorem CL (g o cap:Nat) (ts:List cA) (k B:Nat) (T:Nat→Nat) (cur:Array Value) (ty:TypeId) (w:World) (hk:0<k) (hk2:k+kB ts≤100000000) (hB:B≤g) (hg:lA w g cur ty) (hT:T g=0) (hf:∀i (h:i<ts.length),pK w B T i g (o+i * 4) ts[i]):
 Calls Tryz.prog 88 #[.slice (some ⟨g,o,none⟩) ts.length cap,.int .i64 (k:Int)] w fun e w'=>e=.returned (.int .i64 ((k+kB ts:Nat):Int))∧dA (fun g'=>B≤g'∧T g'≤2 * ts.length) w w'∧(∃c,lA w' g c ty∧∀i (h:i<(eE k ts).length),pK w' B T i g (o+i * 4) (eE k ts)[i]):=by
 have H0:Hid _:=fun i h=>(hf i h).row hg;have HG:Hid (lA w g cur ty):=hg;have HT:Hid (B≤g∧T g=0):=⟨hB,hT⟩
 have HK2:Hid _:=hk2;clear hf hg hB hT hk2;have hlen:ts.length≤100000000:=by
  have h1:ts.length≤kB ts:=by
   clear H0 HK2;induction ts with
   | nil=>exact Nat.zero_le _
   | cons t r ih=>simp only [List.length_cons,kB,iL];omega
  have:=HK2.out;omega
 go_enter Tryz.func88,Tryz.ntmps88;go_wp2;go_loopw [1,5] (fun l i wr=>∃(j K:Nat) (c:Array Value),j≤ts.length∧i=.int .i64 j∧l=.int .i64 (K:Int)∧Hid (K=k+kB (ts.take j))∧Hid (lA wr g c ty)∧Hid (∀i (h:i<ts.length),pY wr B T c o i (if i<j then sL (k+kB (ts.take i)) ts[i] else ts[i]))∧Hid (dA (fun g'=>B≤g'∧T g'≤2 * ts.length) w wr)) (fun _ i _=>ts.length - (intOf i).toNat)
 case atStart=>exact ⟨0,k,cur,Nat.zero_le _,rfl,rfl,by show _=_;simp [kB],HG.out,fun i h=>by rw [if_neg (by omega)];exact H0.out i h,dA.refl _ _⟩
 case round=>
  obtain ⟨j,K,c,hj,rfl,rfl,HK,HBLK,HR,HTU⟩:=hrel;by_cases hlt:j<ts.length
  ·obtain ⟨a1,c1,a2,c2,hrow,p1,p2⟩:=HR.out j hlt;rw [if_neg (Nat.lt_irrefl _)] at hrow p1 p2;have HROW:Hid (mY c (o+j * 4) ts[j] a1 c1 a2 c2):=hrow;have P1:Hid (fC wr B T (2 * j+1) a1 ts[j].mets):=p1;have P2:Hid (fC wr B T (2 * j+2) a2 ts[j].sers):=p2;have HLE:Hid (K+iL ts[j]≤100000000∧k+kB (ts.take (j+1))=K+iL ts[j]):=by
    have h1:=fY ts j hlt;have h2:=IF ts (j+1);have h3:=HK.out;have h4:=HK2.out;exact ⟨by omega,by omega⟩
   have hkb:K+2+2 * ts[j].mets.length+2 * ts[j].sers.length≤100000000:=by have:=HLE.out.1;unfold iL at this;omega
   have hKp:0<K:=by have:=HK.out;omega
   clear hrow p1 p2;go_wp2_with fail;refine (mE _ K (by omega) _ (by omega) (by omega)).mono ?_;rintro e w1 ⟨rfl,hb1⟩;have HB1:Hid (lA w1 g c ty):=HBLK.out.later hb1;have hcs:=(Array.getElem?_eq_some_iff.1 HROW.out.2.2.2).1;obtain ⟨v0,d0⟩:=HB1.out.there (j:=o+j * 4) (by omega);have f0:=HB1.out.free (o+j * 4);obtain ⟨v1,d1⟩:=HB1.out.there (j:=o+j * 4+1) (by omega);have f1:=HB1.out.free (o+j * 4+1);have d2:=(HB1.out.cell _).trans HROW.out.2.2.1;have BU1:Hid (bE g wr w1):=bE.of hb1;clear hb1;go_wp2_with fail;have BU2:Hid (bE g wr ((w1.setCell ⟨g,o+j * 4,none⟩ (.string (mt K))).setCell ⟨g,o+j * 4+1,none⟩ (.int .i64 ((K:Int)+1)))):=(BU1.out.setCell _ _).setCell _ _;have HB2:Hid (lA ((w1.setCell ⟨g,o+j * 4,none⟩ (.string (mt K))).setCell ⟨g,o+j * 4+1,none⟩ (.int .i64 ((K:Int)+1))) g ((c.setIfInBounds (o+j * 4) (.string (mt K))).setIfInBounds (o+j * 4+1) (.int .i64 ((K+1:Nat):Int))) ty):=iA (by have:=(HB1.out.set (o+j * 4) (.string (mt K))).set (o+j * 4+1) (.int .i64 ((K:Int)+1));simpa using this);refine (LR (.inl rfl) _ a1 c1 ts[j].mets (K+2) B (2 * j+1) T _ (by omega) (by omega) (by omega) (P1.out.turn (dA.but BU2.out) fun g' hg' e=>by subst e;have:=HT.out.2;omega)).mono ?_;rintro e w3 ⟨rfl,ht3,q1⟩;have HT3:=iA ht3;have Q1:=iA q1;have HB3:Hid (lA w3 g ((c.setIfInBounds (o+j * 4) (.string (mt K))).setIfInBounds (o+j * 4+1) (.int .i64 ((K+1:Nat):Int))) ty):=ht3.blk HB2.out (fun h=>by have:=HT.out.2;omega);have e3:w3.cell? ⟨g,o+j * 4+3,none⟩=some (.slice a2 ts[j].sers.length c2):=by
    rw [HB3.out.cell,Array.getElem?_setIfInBounds_ne (by omega),Array.getElem?_setIfInBounds_ne (by omega)];exact HROW.out.2.2.2
   clear ht3 q1 d0 d1 d2 f0 f1;go_wp2_with fail;refine (LR (.inr rfl) _ a2 c2 ts[j].sers (K+2+2 * ts[j].mets.length) B (2 * j+2) T _ (by omega) (by omega) (by omega) ((P2.out.turn (dA.but BU2.out) fun g' hg' e=>by subst e;have:=HT.out.2;omega).turn HT3.out fun g' hg' hs=>by omega)).mono ?_;rintro e w4 ⟨rfl,ht4,q2⟩;have HB4:Hid (lA w4 g ((c.setIfInBounds (o+j * 4) (.string (mt K))).setIfInBounds (o+j * 4+1) (.int .i64 ((K+1:Nat):Int))) ty):=ht4.blk HB3.out (fun h=>by have:=HT.out.2;omega);have HR4:Hid _:=aFu HT.out.2 hlt (fun i h _=>HR.out i h) HROW.out HK.out BU2.out HT3.out ht4 Q1.out q2;have HTU4:Hid (dA (fun g'=>B≤g'∧T g'≤2 * ts.length) w w4):=by
    refine ((HTU.out.trans' ((dA.but BU2.out).mono fun i _ e=>?_)).trans' (HT3.out.mono fun i _ h=>?_)).trans' (ht4.mono fun i _ h=>?_)
    ·subst e;exact ⟨HT.out.1,by rw [HT.out.2];omega⟩
    ·exact ⟨h.1,by omega⟩
    ·exact ⟨h.1,by omega⟩
   have HEND:Hid (((K+2+2 * ts[j].mets.length+2 * ts[j].sers.length:Nat):Int)=((k+kB (ts.take (j+1)):Nat):Int)):=by
    show _=_;have:=HLE.out.2;unfold iL at this;omega
   clear ht4 q2 e3;go_wp2;exact ⟨⟨j+1,k+kB (ts.take (j+1)),_,by omega,by go_num,congrArg (Value.int .i64) (by have:=HEND.out;omega),rfl,HB4.out,HR4.out,HTU4.out⟩,by simp [intOf];omega⟩
  ·have ej:j=ts.length:=by omega
   have HE:Hid (((K:Nat):Int)=((k+kB ts:Nat):Int)):=by show _=_;rw [HK.out,ej,List.take_length]
   go_wp2;go_ret;refine ⟨jB HE.out,HTU.out,c,HBLK.out,fun i hi=>?_⟩;have hi':i<ts.length:=by rw [rR] at hi;exact hi
   have:=HR.out i hi';rw [if_pos (by omega)] at this;rw [kX hi hi'];exact this.own HBLK.out
theorem CM (a:Option Addr) (cap:Nat) (k:Nat) (w:World):
 Calls Tryz.prog 88 #[.slice a 0 cap,.int .i64 (k:Int)] w fun e w'=>e=.returned (.int .i64 (k:Int))∧w'=w:=by
 go_enter Tryz.func88,Tryz.ntmps88;go_wp2;go_loopw [1,5] (fun l i wr=>l=.int .i64 (k:Int)∧i=.int .i64 0∧wr=w) (fun _ i _=>0)
 case atStart=>exact ⟨rfl,rfl,rfl⟩
 case round=>
  obtain ⟨rfl,rfl,rfl⟩:=hrel;go_wp2;go_ret;exact ⟨rfl,rfl⟩
theorem XK (ts:List cA):ts.length≤kB ts:=by
 induction ts with
 | nil=>exact Nat.zero_le _
 | cons t r ih=>simp only [List.length_cons,kB,iL];omega
theorem CG (a:Option Addr) (cap:Nat) (ts:List cA) (k:Nat) (w:World) (hk:0<k) (hk2:k+kB ts≤100000000) (hf:pB w a (eE k ts)):
 Calls Tryz.prog 90 #[.slice a ts.length cap,.int .i64 (k:Int)] w fun e w'=>e=.returned (.int .i64 ((k+kB ts:Nat):Int))∧Below w.heap.size w w':=by
 have HF:Hid (pB w a (eE k ts)):=hf;have HK2:Hid _:=hk2;have hlen:ts.length≤100000000:=by have:=XK ts;omega
 clear hf hk2;go_enter Tryz.func90,Tryz.ntmps90;go_wp2;go_loopw [1,5] (fun l i wr=>∃(j K:Nat),j≤ts.length∧i=.int .i64 j∧l=.int .i64 (K:Int)∧Hid (K=k+kB (ts.take j))∧Hid (Below w.heap.size w wr)) (fun _ i _=>ts.length - (intOf i).toNat)
 case atStart=>exact ⟨0,k,Nat.zero_le _,rfl,rfl,by show _=_;simp [kB],Below.refl _ _⟩
 case round=>
  obtain ⟨j,K,hj,rfl,rfl,HK,HB⟩:=hrel;by_cases hlt:j<ts.length
  ·have hlt':j<(eE k ts).length:=by rw [rR];exact hlt
   obtain ⟨b,o,a1,c1,a2,c2,rfl,hb,z0,z1,z2,z3,p1,p2⟩:=(HF.out.later HB.out).at hlt';rw [kX hlt' hlt,←HK.out] at z0 z1 z2 z3 p1 p2;simp only [sL,pG] at z0 z1 z2 z3 p1 p2;have HLE:Hid (K+iL ts[j]≤100000000∧k+kB (ts.take (j+1))=K+iL ts[j]):=by
    have h1:=fY ts j hlt;have h2:=IF ts (j+1);have h3:=HK.out;have h4:=HK2.out;exact ⟨by omega,by omega⟩
   have hkb:K+2+2 * ts[j].mets.length+2 * ts[j].sers.length≤100000000:=by have:=HLE.out.1;unfold iL at this;omega
   have hKp:0<K:=by have:=HK.out;omega
   have P1:Hid (sA wr a1 (aF (K+2) ts[j].mets.length)):=p1;have P2:Hid (sA wr a2 (aF (K+2+2 * ts[j].mets.length) ts[j].sers.length)):=p2;have HZ:Hid (∀W,Below wr.heap.size wr W→W.cell? ⟨b,o+j * 4+1,none⟩=some (.int .i64 ((K:Int)+1))∧W.cell? ⟨b,o+j * 4+2,none⟩=some (.slice a1 ts[j].mets.length c1)∧W.cell? ⟨b,o+j * 4+3,none⟩=some (.slice a2 ts[j].sers.length c2)):=fun W hW=>⟨by rw [hW.cell hb,z1];simp,(hW.cell hb).trans z2,(hW.cell hb).trans z3⟩
   have d0:=pA.cells z0;have hne:=pA.there wr;clear z0 z1 z2 z3 p1 p2;go_wp2_with fail;refine fA (by kernel_rfl) (by kernel_rfl) ?_;repeat (go_big_quiet_step (first | (go_at_call 44;exact oA (mE _ K (by omega) _ (by omega) (by omega)))))
   refine wpQuiet_nil ?_;rintro _ ⟨x,rfl⟩;have HX:Hid _:=x.h;clear d0 hne;generalize x.w'=W1 at *;clear x;obtain ⟨y1,y2,y3⟩:=HZ.out W1 HX.out;go_wp2_with fail;refine (LD (.inl rfl) _ a1 c1 (K+2) ts[j].mets.length _ (by omega) (by omega) (by omega) (P1.out.later HX.out)).mono ?_;rintro e w3 ⟨rfl,hb3⟩;have HX3:Hid _:=rA HX.out hb3;clear hb3 y1 y2 y3;obtain ⟨y1,y2,y3⟩:=HZ.out w3 HX3.out;go_wp2_with fail;refine (LD (.inr rfl) _ a2 c2 (K+2+2 * ts[j].mets.length) ts[j].sers.length _ (by omega) (by omega) (by omega) (P2.out.later HX3.out)).mono ?_;rintro e w4 ⟨rfl,hb4⟩;have HX4:Hid _:=rA HB.out (rA HX3.out hb4);have HEND:Hid (((K+2+2 * ts[j].mets.length+2 * ts[j].sers.length:Nat):Int)=((k+kB (ts.take (j+1)):Nat):Int)):=by
    show _=_;have:=HLE.out.2;unfold iL at this;omega
   clear hb4 y1 y2 y3;go_wp2;exact ⟨⟨j+1,k+kB (ts.take (j+1)),by omega,by go_num,congrArg (Value.int .i64) (by have:=HEND.out;omega),rfl,HX4.out⟩,by simp [intOf];omega⟩
  ·have ej:j=ts.length:=by omega
   have HE:Hid (((K:Nat):Int)=((k+kB ts:Nat):Int)):=by show _=_;rw [HK.out,ej,List.take_length]
   go_wp2;go_ret;exact ⟨jB HE.out,HB.out⟩
theorem vq (now:Int) (a:Option Addr) (cap:Nat) (ts:List cA) (k:Nat) (w:World) (hk:0<k) (hk2:k+kB ts≤100000000) (hf:pB w a (eE k ts)):
 Calls Tryz.prog 46 #[.agg #[.int .i64 now,.slice a ts.length cap],.int .i64 (k:Int)] w fun e w'=>e=.returned (.int .i64 ((k+kB ts:Nat):Int))∧Below w.heap.size w w':=by
 have HM:Hid _:=fun W hW=>CG a cap ts k W hk hk2 (hf.later hW);clear hf;go_enter Tryz.func46,Tryz.ntmps46;go_wp2_with fail;refine (HM.out _ (bA _ _)).mono ?_;rintro e w1 ⟨rfl,hb⟩;have HB:Hid _:=rA (bA _ _) hb;clear hb;go_wp2;go_ret;exact ⟨jB (by omega),HB.out⟩
theorem QP (f:cA) (a1 a2:Option Addr) (c1 c2:Nat) (left:Int) (w:World) (h0:0≤left) (h1:left≤1048576) (hs:cW f) (p1:sA w a1 f.mets) (p2:sA w a2 f.sers):
 Calls Tryz.prog 92 #[.agg #[.string f.name,.int .i64 f.limit,.slice a1 f.mets.length c1,.slice a2 f.sers.length c2],.int .i64 left] w fun e w'=>e=.returned (.int .i64 (xO left f))∧Below w.heap.size w w':=by
 obtain ⟨hn,hsm,hlm,hss,hls⟩:=hs;unfold maxLen at hn;by_cases k1:left - f.name.size<0
 ·have E:Hid (xO left f = -1):=by show _=_;unfold xO zC;rw [if_neg];omega
  clear p1 p2 hsm hlm hss hls;go_enter Tryz.func92,Tryz.ntmps92;go_wp2;go_ret;exact ⟨jB E.out.symm,bA _ _⟩
 have HM:=iA (fun (W:World) (hW:Below w.heap.size w W)=>XE (p:=135) (.inl rfl) a1 c1 f.mets (left - f.name.size) W (by omega) (by omega) (p1.later hW) hsm hlm);by_cases k2:(f.mets.length+bB f.mets:Int)≤left - f.name.size
 ·have e2:eH (left - f.name.size) f.mets=left - f.name.size - f.mets.length - bB f.mets:=by unfold eH;rw [if_pos k2]
  rw [e2] at HM;have k2':¬(left - f.name.size - f.mets.length - bB f.mets<0):=by omega
  have HS:=iA (fun (W:World) (hW:Below w.heap.size w W)=>XE (p:=136) (.inr rfl) a2 c2 f.sers (left - f.name.size - f.mets.length - bB f.mets) W (by omega) (by omega) (p2.later hW) hss hls);by_cases k3:(f.sers.length+bB f.sers:Int)≤left - f.name.size - f.mets.length - bB f.mets
  ·have e3:eH (left - f.name.size - f.mets.length - bB f.mets) f.sers=left - f.name.size - f.mets.length - bB f.mets - f.sers.length - bB f.sers:=by unfold eH;rw [if_pos k3]
   rw [e3] at HS;have k3':¬(left - f.name.size - f.mets.length - bB f.mets - f.sers.length - bB f.sers<0):=by omega
   have E:Hid (xO left f=left - f.name.size - f.mets.length - bB f.mets - f.sers.length - bB f.sers):=by show _=_;unfold xO zC;rw [if_pos]<;>omega
   clear p1 p2 hsm hlm hss hls e2 e3 k2 k3;go_enter Tryz.func92,Tryz.ntmps92;go_wp2_with fail;refine (HM.out _ (bA _ _)).mono ?_;rintro e w1 ⟨rfl,hb1⟩;have B1:Hid _:=rA (bA _ _) hb1;obtain ⟨hc,hf⟩:=aBz hb1;clear hb1;go_wp2_with fail;refine (HS.out _ B1.out).mono ?_;rintro e w2 ⟨rfl,hb2⟩;have B2:Hid _:=rA B1.out hb2;clear hb2 hc hf;go_wp2;go_ret;exact ⟨jB E.out.symm,B2.out⟩
  ·have e3:eH (left - f.name.size - f.mets.length - bB f.mets) f.sers = -1:=by unfold eH;rw [if_neg k3]
   rw [e3] at HS;have E:Hid (xO left f = -1):=by show _=_;unfold xO zC;rw [if_neg];omega
   clear p1 p2 hsm hlm hss hls e2 e3 k2 k3;go_enter Tryz.func92,Tryz.ntmps92;go_wp2_with fail;refine (HM.out _ (bA _ _)).mono ?_;rintro e w1 ⟨rfl,hb1⟩;have B1:Hid _:=rA (bA _ _) hb1;obtain ⟨hc,hf⟩:=aBz hb1;clear hb1;go_wp2_with fail;refine (HS.out _ B1.out).mono ?_;rintro e w2 ⟨rfl,hb2⟩;have B2:Hid _:=rA B1.out hb2;clear hb2 hc hf;go_wp2;go_ret;exact ⟨jB E.out.symm,B2.out⟩
 ·have e2:eH (left - f.name.size) f.mets = -1:=by unfold eH;rw [if_neg k2]
  rw [e2] at HM;have E:Hid (xO left f = -1):=by show _=_;unfold xO zC;rw [if_neg];omega
  clear p1 p2 hsm hlm hss hls e2 k2;go_enter Tryz.func92,Tryz.ntmps92;go_wp2_with fail;refine (HM.out _ (bA _ _)).mono ?_;rintro e w1 ⟨rfl,hb1⟩;have B1:Hid _:=rA (bA _ _) hb1;clear hb1;go_wp2;go_ret;exact ⟨jB E.out.symm,B1.out⟩
theorem JQ (a:Option Addr) (cap:Nat) (fs:List cA) (left:Int) (w:World) (h0:0≤left) (h1:left≤1048576) (hf:pB w a fs) (hs:rU fs) (hlen:fs.length≤maxLen):
 Calls Tryz.prog 48 #[.slice a fs.length cap,.int .i64 left] w fun e w'=>e=.returned (.int .i64 (uG left fs))∧Below w.heap.size w w':=by
 unfold maxLen at hlen;by_cases c1:left - fs.length<0
 ·have e:uG left fs = -1:=by unfold uG;rw [if_neg];omega
  rw [e];clear hf hs;go_enter Tryz.func48,Tryz.ntmps48;go_wp2;go_ret;exact ⟨rfl,Below.refl _ _⟩
 ·have hne:=c1;have HF:Hid (pB w a fs):=hf;have HS:Hid (rU fs):=hs;clear hf hs;go_enter Tryz.func48,Tryz.ntmps48;go_wp2;go_loopw [1,5] (fun l i wr=>∃k:Nat,k≤fs.length∧i=.int .i64 k∧(nA (fs.take k):Int)≤left - fs.length∧l=.int .i64 (left - fs.length - nA (fs.take k))∧Below w.heap.size w wr) (fun _ i _=>fs.length - (intOf i).toNat)
  case atStart=>exact ⟨0,Nat.zero_le _,rfl,by simp [nA];omega,by simp [nA],Below.refl _ _⟩
  case round=>
   obtain ⟨k,hk,rfl,hle,rfl,hbel⟩:=hrel;by_cases hlt:k<fs.length
   ·obtain ⟨b,o,a1,q1,a2,q2,rfl,hb,c0,c1,c2,c3,p1,p2⟩:=(HF.out.later hbel).at hlt;have hss:=HS.out k hlt;have hts:=lJ fs k hlt;have htl:=jL fs (k+1);have HC:Hid (∀L:Int,0≤L→L≤1048576→Calls Tryz.prog 92 #[.agg #[.string fs[k].name,.int .i64 fs[k].limit,.slice a1 fs[k].mets.length q1,.slice a2 fs[k].sers.length q2],.int .i64 L] wr fun e w'=>e=.returned (.int .i64 (xO L fs[k]))∧Below wr.heap.size wr w'):=
     fun L g0 g1=>QP fs[k] a1 a2 q1 q2 L wr g0 g1 hss p1 p2
    clear p1 p2 hss;by_cases c3:(zC fs[k]:Int)≤left - fs.length - nA (fs.take k)
    ·have E:Hid (xO (left - fs.length - nA (fs.take k)) fs[k]=left - fs.length - nA (fs.take (k+1))):=by
      show _=_;unfold xO;rw [if_pos (by omega),hts];omega
     have hle2:(nA (fs.take (k+1)):Int)≤left - fs.length:=by omega
     clear hts;go_wp2_with fail;refine (HC.out _ (by omega) (by omega)).mono ?_;rintro e w' ⟨rfl,hb2⟩;rw [E.out];clear HC;go_wp2;exact ⟨⟨k+1,by omega,by go_num,hle2,rfl,hbel.trans (hb2.mono hbel.size)⟩,by simp [intOf];omega⟩
    ·have E:Hid (xO (left - fs.length - nA (fs.take k)) fs[k]= -1):=by
      show _=_;unfold xO;rw [if_neg (by omega)]
     have E2:Hid (uG left fs = -1):=by show uG left fs = -1;unfold uG;rw [if_neg (by omega)]
     clear hts;go_wp2_with fail;refine (HC.out _ (by omega) (by omega)).mono ?_;rintro e w' ⟨rfl,hb2⟩;rw [E.out];clear HC;go_wp2;go_ret;exact ⟨jB E2.out.symm,hbel.trans (hb2.mono hbel.size)⟩
   ·go_wp2;go_ret;have e:fs.take k=fs:=List.take_of_length_le (by omega);rw [e] at hle ⊢;exact ⟨jB (by unfold uG;rw [if_pos (by omega)]),hbel⟩
theorem XF (a:Option Addr) (cap:Nat) (fs:List cA) (now:Int) (left:Int) (w:World) (h0:0≤left) (h1:left≤1048576) (hf:pB w a fs) (hs:rU fs) (hlen:fs.length≤maxLen):
 Calls Tryz.prog 17 #[.agg #[.int .i64 now,.slice a fs.length cap],.int .i64 left] w fun e w'=>e=.returned (.int .i64 (uG left fs))∧Below w.heap.size w w':=by
 have HC:Hid (∀W,Below w.heap.size w W→Calls Tryz.prog 48 #[.slice a fs.length cap,.int .i64 left] W fun e w'=>e=.returned (.int .i64 (uG left fs))∧Below W.heap.size W w'):=
  fun W hW=>JQ a cap fs left W h0 h1 (hf.later hW) hs hlen
 clear hf hs;by_cases c:(fs.length+nA fs:Int)≤left
 ·have e:uG left fs=left - fs.length - nA fs:=by unfold uG;rw [if_pos c]
  rw [e] at HC ⊢;have hn:¬(left - fs.length - nA fs<0):=by omega
  generalize left - fs.length - nA fs=L at *;clear e;go_enter Tryz.func17,Tryz.ntmps17;go_wp2_with fail;refine (HC.out _ (bA _ _)).mono ?_;rintro e w1 ⟨rfl,hb1⟩;have B1:Hid _:=rA (bA _ _) hb1;clear hb1;go_wp2;go_ret;exact ⟨rfl,B1.out⟩
 ·have e:uG left fs = -1:=by unfold uG;rw [if_neg c]
  rw [e] at HC ⊢;clear e;go_enter Tryz.func17,Tryz.ntmps17;go_wp2_with fail;refine (HC.out _ (bA _ _)).mono ?_;rintro e w1 ⟨rfl,hb1⟩;have B1:Hid _:=rA (bA _ _) hb1;clear hb1;go_wp2;go_ret;exact ⟨rfl,B1.out⟩
theorem cC {P:Program}{w:World}{ops:Array Oper}{o:Oper}{a:Act}{K:Act→World→Prop}{Q:Exit→Act→World→Prop}{E:Prop}{f:FuncId}{args:Array Value} (hgd:o.guard=none) (hx:(execOp a.eval o).run P w=.ok (.enter f args) w)
 (h:Calls P f args w (fun e w'=>∃v,e=.returned v∧K (a.put o.dst v) w')):if Region.wanted o (yielded ops a.tmps)=true then Oper.wp P o a w K Q else E:=by
 have hw:Region.wanted o (yielded ops a.tmps)=true:=by simp [Region.wanted,hgd]
 rw [if_pos hw];unfold Oper.wp;rw [hx];refine h.mono ?_;rintro e w' ⟨v,rfl,hK⟩;exact hK
structure CpR (w wr:World) (B g n cap:Nat) (T:Nat→Nat) (ys:List TV) (k:Nat) (m:Bool):Prop where
 row:wr.ownsRow B 95 4 (.slice (some ⟨g,0,none⟩) n cap) n (fD ys)
 len:ys.length=n
 tg:T g=0
 own:∀i (h:i<ys.length),i<k→fC wr B T (2 * i+1) ys[i].a1 ys[i].t.mets∧fC wr B T (2 * i+2) ys[i].a2 ys[i].t.sers
 half:m=true→∀h:k<ys.length,fC wr B T (2 * k+1) ys[k].a1 ys[k].t.mets
 old:∀i (h:i<ys.length),k≤i→sA w ys[i].a2 ys[i].t.sers∧(m=false∨k<i→sA w ys[i].a1 ys[i].t.mets)
theorem ZE (l:List TV) (i:Nat) (hi:i<l.length) (a:Option Addr) (c:Nat):fD (l.set i ⟨l[i].t,a,c,l[i].a2,l[i].c2⟩)=(fD l).set (i * 4+2) (.slice a l[i].t.mets.length c):=by
 induction l generalizing i with
 | nil=>simp at hi
 | cons p r ih=>
   cases i with
   | zero=>rfl
   | succ i=>
     have hi':i<r.length:=by simpa using hi
     have:=ih i hi';simp only [fD,List.set_cons_succ,List.flatMap_cons,List.getElem_cons_succ] at this ⊢;rw [this,show (i+1) * 4+2=(i * 4+2)+4 by omega];rfl
theorem ZF (l:List TV) (i:Nat) (hi:i<l.length) (a:Option Addr) (c:Nat):fD (l.set i ⟨l[i].t,l[i].a1,l[i].c1,a,c⟩)=(fD l).set (i * 4+3) (.slice a l[i].t.sers.length c):=by
 induction l generalizing i with
 | nil=>simp at hi
 | cons p r ih=>
   cases i with
   | zero=>rfl
   | succ i=>
     have hi':i<r.length:=by simpa using hi
     have:=ih i hi';simp only [fD,List.set_cons_succ,List.flatMap_cons,List.getElem_cons_succ] at this ⊢;rw [this,show (i+1) * 4+3=(i * 4+3)+4 by omega];rfl
theorem WJ {w:World}{M g n cap:Nat}{xs:List Value}{j:Nat}{v:Value} (h:w.ownsRow M 95 4 (.slice (some ⟨g,0,none⟩) n cap) n xs):(w.setCell ⟨g,j,none⟩ v).ownsRow M 95 4 (.slice (some ⟨g,0,none⟩) n cap) n (xs.set j v):=by
 refine ⟨by rw [List.length_set];exact h.1,?_⟩;rcases h.2 with ⟨e,_⟩ | ⟨g',cap',cur,e,hB,hb,h1,h2,h3,h4⟩
 ·cases e
 ·simp only [Value.slice.injEq,Option.some.injEq,Addr.mk.injEq,and_true] at e;obtain ⟨rfl,_,rfl⟩:=e;have hb':lA w g cur 95:=hb;refine Or.inr ⟨g,cap,cur.setIfInBounds j v,rfl,hB,hb'.set j v,h1,h2,by simp [h3],?_⟩;rw [Array.toList_setIfInBounds,List.take_set,h4]
theorem LZ {w:World}{B b n:Nat}{T:Nat→Nat}{a:Option Addr}{ps:List gA} (h:fB w B a ps) (hb:b≤B) (hT:∀g,B≤g→g<w.heap.size→T g=n):fC w b T n a ps:=by
 rcases h with h | ⟨g,o,cur,t,e,hB,hg,h⟩
 ·exact Or.inl h
 ·exact Or.inr ⟨g,o,cur,t,e,by omega,hT g hB (aA hg),hg,h⟩
theorem CpR.limits {w wr w5:World}{B g n cap k:Nat}{T:Nat→Nat}{ys:List TV}{a:Option Addr}{c:Nat} (h:CpR w wr B g n cap T ys k false) (hk:k<ys.length) (hb:Below wr.heap.size wr w5) (hB:B≤wr.heap.size) (ho:w5.ownsRow wr.heap.size 149 2 (.slice a ys[k].t.mets.length c) ys[k].t.mets.length (flatK ys[k].t.mets)):
 CpR w (w5.setCell ⟨g,k * 4+2,none⟩ (.slice a ys[k].t.mets.length c)) B g n cap (fun g=>if g<wr.heap.size then T g else 2 * k+1) (ys.set k ⟨ys[k].t,a,c,ys[k].a2,ys[k].c2⟩) k true:=by
 have hgl:=(h.row.lt g rfl).2;have ht:dA (·=g) w5 (w5.setCell ⟨g,k * 4+2,none⟩ (.slice a ys[k].t.mets.length c)):=(dA.refl (·=g) w5).setCell (Or.inl rfl) _ _;have hkeep:∀q,q<wr.heap.size→q≠g→(w5.setCell ⟨g,k * 4+2,none⟩ (.slice a ys[k].t.mets.length c)).heap[q]?=wr.heap[q]?:=fun q hq hne=>by
  rw [ht.block q (by have:=hb.size;omega) hne,hb.block q hq]
 have htag:∀{q:Option Addr}{ps:List gA}{m:Nat},0<m→fC wr B T m q ps→fC (w5.setCell ⟨g,k * 4+2,none⟩ (.slice a ys[k].t.mets.length c)) B (fun g=>if g<wr.heap.size then T g else 2 * k+1) m q ps:=fun hm hp=>hp.keep fun q hq _ hT=>⟨hkeep q hq (fun e=>by rw [e,h.tg] at hT;omega),by simp only [if_pos hq];exact hT⟩
 exact {
  row:=by rw [ZE ys k hk];exact WJ (yA h.row hb)
  len:=by rw [List.length_set];exact h.len
  tg:=by simp only [if_pos hgl];exact h.tg
  own:=fun i hi hik=>by
   have hi':i<ys.length:=by simpa using hi
   rw [List.getElem_set_ne (by omega)];obtain ⟨p1,p2⟩:=h.own i hi' hik;exact ⟨htag (by omega) p1,htag (by omega) p2⟩
  half:=fun _ hi=>by
   rw [List.getElem_set_self];have:=lC (l:=ys[k].t.mets) ho;have hp:=LZ (b:=B) (n:=2 * k+1) (T:=fun g=>if g<wr.heap.size then T g else 2 * k+1) this hB (fun q hq _=>by simp only [if_neg (show ¬q<wr.heap.size by omega)]);refine hp.keep fun q hq _ hT=>⟨ht.block q hq (fun e=>?_),hT⟩
   subst e;simp only [if_pos hgl,h.tg] at hT;omega
  old:=fun i hi hik=>by
   have hi':i<ys.length:=by simpa using hi
   obtain ⟨o1,o2⟩:=h.old i hi' hik;by_cases e:i=k
   ·subst e;rw [List.getElem_set_self];exact ⟨o1,fun h=>by rcases h with h | h;cases h;omega⟩
   ·rw [List.getElem_set_ne (by omega)];exact ⟨o1,fun _=>o2 (Or.inl rfl)⟩ }
theorem CpR.series {w wr w5:World}{B g n cap k:Nat}{T:Nat→Nat}{ys:List TV}{a:Option Addr}{c:Nat} (h:CpR w wr B g n cap T ys k true) (hk:k<ys.length) (hb:Below wr.heap.size wr w5) (hB:B≤wr.heap.size) (ho:w5.ownsRow wr.heap.size 151 2 (.slice a ys[k].t.sers.length c) ys[k].t.sers.length (flatK ys[k].t.sers)):
 CpR w (w5.setCell ⟨g,k * 4+3,none⟩ (.slice a ys[k].t.sers.length c)) B g n cap (fun g=>if g<wr.heap.size then T g else 2 * k+2) (ys.set k ⟨ys[k].t,ys[k].a1,ys[k].c1,a,c⟩) (k+1) false:=by
 have hgl:=(h.row.lt g rfl).2;have ht:dA (·=g) w5 (w5.setCell ⟨g,k * 4+3,none⟩ (.slice a ys[k].t.sers.length c)):=(dA.refl (·=g) w5).setCell (Or.inl rfl) _ _;have hkeep:∀q,q<wr.heap.size→q≠g→(w5.setCell ⟨g,k * 4+3,none⟩ (.slice a ys[k].t.sers.length c)).heap[q]?=wr.heap[q]?:=fun q hq hne=>by
  rw [ht.block q (by have:=hb.size;omega) hne,hb.block q hq]
 have htag:∀{q:Option Addr}{ps:List gA}{m:Nat},0<m→fC wr B T m q ps→fC (w5.setCell ⟨g,k * 4+3,none⟩ (.slice a ys[k].t.sers.length c)) B (fun g=>if g<wr.heap.size then T g else 2 * k+2) m q ps:=fun hm hp=>hp.keep fun q hq _ hT=>⟨hkeep q hq (fun e=>by rw [e,h.tg] at hT;omega),by simp only [if_pos hq];exact hT⟩
 exact {
  row:=by rw [ZF ys k hk];exact WJ (yA h.row hb)
  len:=by rw [List.length_set];exact h.len
  tg:=by simp only [if_pos hgl];exact h.tg
  own:=fun i hi hik=>by
   have hi':i<ys.length:=by simpa using hi
   by_cases e:i=k
   ·subst e;rw [List.getElem_set_self];refine ⟨htag (by omega) (h.half rfl hk),?_⟩;have:=lC (l:=ys[i].t.sers) ho;have hp:=LZ (b:=B) (n:=2 * i+2) (T:=fun g=>if g<wr.heap.size then T g else 2 * i+2) this hB (fun q hq _=>by simp only [if_neg (show ¬q<wr.heap.size by omega)]);refine hp.keep fun q hq _ hT=>⟨ht.block q hq (fun e=>?_),hT⟩
    subst e;simp only [if_pos hgl,h.tg] at hT;omega
   ·rw [List.getElem_set_ne (by omega)];obtain ⟨p1,p2⟩:=h.own i hi' (by omega);exact ⟨htag (by omega) p1,htag (by omega) p2⟩
  half:=fun h=>by cases h
  old:=fun i hi hik=>by
   have hi':i<ys.length:=by simpa using hi
   obtain ⟨o1,o2⟩:=h.old i hi' (by omega);rw [List.getElem_set_ne (by omega)];exact ⟨o1,fun _=>o2 (Or.inr (by omega))⟩ }
theorem CpR.keep {w wr w':World}{S:Nat→Prop}{B g n cap k:Nat}{T:Nat→Nat}{ys:List TV}{m:Bool} (h:CpR w wr B g n cap T ys k m) (ht:dA S wr w') (hS:∀q,S q→q<B):CpR w w' B g n cap T ys k m:=by
 have hk:∀q,q<wr.heap.size→B≤q→w'.heap[q]?=wr.heap[q]?:=fun q hq hb=>ht.block q hq (fun e=>by have:=hS q e;omega);exact { h with
  row:=ht.row h.row (fun q hq e=>by have:=(h.row.lt q hq).1;have:=hS q e;omega)
  own:=fun i hi hik=>⟨(h.own i hi hik).1.keep fun q hq hb hT=>⟨hk q hq hb,hT⟩,(h.own i hi hik).2.keep fun q hq hb hT=>⟨hk q hq hb,hT⟩⟩
  half:=fun hm hi=>(h.half hm hi).keep fun q hq hb hT=>⟨hk q hq hb,hT⟩ }
theorem CpR.done {w wr:World}{B g n cap:Nat}{T:Nat→Nat}{ys:List TV}{ts:List cA} (h:CpR w wr B g n cap T ys n false) (hts:ys.map (·.t)=ts):eB wr B (some ⟨g,0,none⟩) ts:=
 qN.own (e:=95) (n:=n) (cap:=cap) ⟨T,ys,h.row,hts,fun q hq=>by simp only [Value.ownBlock,Option.some.injEq] at hq;rw [←hq];exact h.tg,fun i hi=>h.own i hi (by rw [h.len] at hi;exact hi)⟩ (by rw [←hts,List.length_map];exact h.len)
end Go.Proofs.YtcneojllbkacoaaGreatDoor
namespace Go.Proofs.YtcneojllbkacoaaGreatDoor
def iG (win now:Int) (left:ByteArray→Bool) (ts:List cA):List cA:=(ts.map fun t=>if left t.name=true then t else eD win now t).filter fun t=>left t.name||!dD t
theorem FY {win now:Int}{left:ByteArray→Bool} (t:cA):(if left t.name=true then t else eD win now t).name=t.name:=by split<;>rfl
theorem aFz {win now:Int}{left:ByteArray→Bool}{ts:List cA} (h:∀t∈ts,left t.name=true):iG win now left ts=ts:=by
 have h1:ts.map (fun t=>if left t.name=true then t else eD win now t)=ts:=by
  have:∀t∈ts,(if left t.name=true then t else eD win now t)=id t:=fun t ht=>by rw [if_pos (h t ht)];rfl
  rw [List.map_congr_left this,List.map_id]
 unfold iG;rw [h1];exact List.filter_eq_self.2 fun t ht=>by rw [h t ht];rfl
theorem aAc {win now:Int}{left:ByteArray→Bool}{ts:List cA} (h:∀n,left n=false):iG win now left ts=mC win now ts:=by
 unfold iG mC;simp only [h,Bool.false_or,Bool.false_eq_true,if_false]
theorem aL {win now:Int}{left:ByteArray→Bool}{p:cA}{r:List cA}:iG win now left (p :: r)=if (left p.name||!dD (if left p.name=true then p else eD win now p))=true then (if left p.name=true then p else eD win now p):: iG win now left r else iG win now left r:=by
 unfold iG;rw [List.map_cons,List.filter_cons,FY]
theorem wq {win now:Int}{left:ByteArray→Bool}{ts:List cA}{q:cA} (h:q∈iG win now left ts):∃t∈ts,q=(if left t.name=true then t else eD win now t)∧q.name=t.name:=by
 have:=(List.mem_filter.1 h).1;obtain ⟨t,ht,rfl⟩:=List.mem_map.1 this;exact ⟨t,ht,rfl,FY t⟩
theorem VN {win now:Int}{left left':ByteArray→Bool}{ts:List cA} (h:∀t∈ts,left t.name=left' t.name):iG win now left ts=iG win now left' ts:=by
 induction ts with
 | nil=>rfl
 | cons p r ih=>
   rw [aL,aL,ih fun t ht=>h t (List.mem_cons_of_mem _ ht),h p (List.mem_cons_self ..)]
theorem aAd {win now:Int}{left left':ByteArray→Bool}{ts:List cA} (hr:oB (·.name) ts){t:cA} (ht:t∈ts) (hl:left t.name=true) (hl':∀n,left' n=(left n&&!(n.toList==t.name.toList))):
 iG win now left' ts=if dD (eD win now t)=true then aD (·.name) t.name (iG win now left ts) else tA (·.name) (eD win now t) (iG win now left ts):=by
 induction ts with
 | nil=>cases ht
 | cons p r ih=>
   have hself:left' t.name=false:=by rw [hl',(rC t.name t.name).2 rfl];simp
   have hoth:∀n,n≠t.name→left' n=left n:=fun n hne=>by rw [hl',iC hne];simp
   rcases List.mem_cons.1 ht with rfl | ht
   ·have hrest:iG win now left' r=iG win now left r:=VN fun q hq=>hoth q.name (fun e=>cG (hr.head q hq) e.symm);have hne:∀q∈iG win now left r,q.name≠t.name:=fun q hq=>by
     obtain ⟨s,hs,_,e⟩:=wq hq;rw [e];exact fun e'=>cG (hr.head s hs) e'.symm
    rw [aL,aL,hself,hl,hrest];simp only [Bool.false_eq_true,if_false,Bool.false_or,if_true,Bool.true_or];by_cases hi:dD (eD win now t)=true
    ·rw [if_pos hi,hi];have hd:aD (·.name) t.name (iG win now left r)=iG win now left r:=List.filter_eq_self.2 fun q hq=>by rw [iC (hne q hq)];rfl
     unfold aD at hd ⊢;rw [List.filter_cons_of_neg (by simp),hd];simp
    ·have hi':dD (eD win now t)=false:=by simpa using hi
     rw [if_neg hi,hi',if_pos (by rfl),tA,if_neg (by show ¬nG t.name t.name=true;rw [rK];simp),if_pos (by exact (rC t.name t.name).2 rfl)]
   ·have hb:=hr.head t ht;have hpn:p.name≠t.name:=cG hb;have ihr:=ih hr.tail ht;rw [aL,aL,hoth p.name hpn,ihr];by_cases hk:(left p.name||!dD (if left p.name=true then p else eD win now p))=true
    ·rw [if_pos hk,if_pos hk];have hn:=FY (win:=win) (now:=now) (left:=left) p;generalize (if left p.name=true then p else eD win now p)=q at *;by_cases hi:dD (eD win now t)=true
     ·rw [if_pos hi,if_pos hi];unfold aD;rw [List.filter_cons_of_pos (by show (!(q.name.toList==t.name.toList))=true;rw [hn,iC hpn];rfl)]
     ·rw [if_neg hi,if_neg hi,tA,if_pos (by show nG q.name t.name=true;rw [hn];exact hb)]
    ·rw [if_neg hk,if_neg hk]
def tH (win now:Int) (ts:List cA) (by_:Int):Int×List cA×Bool:=if by_<1∨1000000000000 - now<by_ then (now,ts,false) else (now+by_,mC win (now+by_) ts,true)
theorem aLb {c:eC}{now:Int}{ts:List cA} (h:vB c now ts=true) (by_:Int):IH c now ts by_=tH c.w now ts by_:=by
 unfold IH tH;rw [if_neg (by rw [h];simp)]
theorem aFh {win now u:Int}{t:cA}{xs:List gA} (hu:u=now - win) (hk:xs.filter (fun p=>decide (u<p.n))=t.sers.filter (fun p=>decide (u<p.n))) (ha:∀p∈xs,u<p.n):eD win now t=⟨t.name,t.limit,t.mets,xs⟩:=by
 unfold eD;have e:(fun p:gA=>decide (now - p.n<win))=fun p=>decide (u<p.n):=by
  funext p;rw [decide_eq_decide];omega
 rw [e,←hk,List.filter_eq_self.2 fun p hp=>decide_eq_true (ha p hp)]
theorem EG {α:Type}{key:α→ByteArray}{l:List α} (hr:oB key l){a:α} (h:a∈l):(a :: aD key (key a) l).Perm l:=by
 induction l with
 | nil=>cases h
 | cons p r ih=>
   unfold aD at ih ⊢;rcases List.mem_cons.1 h with rfl | h
   ·rw [List.filter_cons_of_neg (by simp)];have:r.filter (fun q=>!((key q).toList==(key a).toList))=r:=List.filter_eq_self.2 fun q hq=>by rw [iC (fun e=>cG (hr.head q hq) e.symm)];rfl
    rw [this]
   ·rw [List.filter_cons_of_pos (by rw [iC (cG (hr.head a h))];rfl)];exact (List.Perm.swap _ _ _).trans ((ih hr.tail h).cons p)
theorem SM {met:ByteArray→ByteArray}{l:List gA} (hr:oB (·.s) l){p:gA} (h:p∈l) (m:ByteArray):mF met l m=mF met (aD (·.s) p.s l) m+if met p.s=m then 1 else 0:=by
 rw [←KF];exact KG (EG hr h).symm m
theorem DN {f:Nat→Bool}{n:Nat} (h:∀k,k<n→f k=true):xG f n=true:=by
 induction n with
 | zero=>rfl
 | succ n ih=>rw [xH,ih fun k hk=>h k (by omega),h n (by omega)];rfl
theorem GI {l:List gA} (hr:oB (·.s) l){k:Nat} (hk:k<l.length):eI l k=true:=by
 cases k with
 | zero=>rfl
 | succ k=>
   rw [eO (by omega) hk];have:=List.pairwise_iff_getElem.1 hr k (k+1) (by omega) hk (by omega);simpa using this
theorem aAo {l:List cA} (hr:oB (·.name) l){k:Nat} (hk:k<l.length):pJ l k=true:=by
 cases k with
 | zero=>rfl
 | succ k=>
   rw [cQ (by omega) hk];have:=List.pairwise_iff_getElem.1 hr k (k+1) (by omega) hk (by omega);simpa using this
theorem VM {ms:List gA} (hr:oB (·.s) ms) (h:∀m∈ms,oD m.s=true∧mA m.n 0 1000000=true):oJ ms=true:=DN fun k hk=>by
 rw [pS hk,GI hr hk,(h _ (List.getElem_mem hk)).1,(h _ (List.getElem_mem hk)).2];rfl
theorem WM {win now:Int}{xs:List gA} (hr:oB (·.s) xs) (h:∀x∈xs,yF x.s=true∧mA x.n 0 now=true∧now - x.n<win):zI win now xs=true:=DN fun k hk=>by
 obtain ⟨h1,h2,h3⟩:=h _ (List.getElem_mem hk);rw [fQ hk,GI hr hk,h1,h2,decide_eq_true h3];rfl
theorem IE {win now:Int}{ts:List cA} (hr:oB (·.name) ts) (h:∀t∈ts,qM win now t=true):iK win now ts=true:=DN fun k hk=>by
 rw [jQ hk,aAo hr hk,h _ (List.getElem_mem hk)];rfl
theorem gQ {c:eC}{now:Int}{ts:List cA} (h1:jH c=true) (h2:mA now 0 1000000000000=true) (h3:ts.length≤10000) (h4:iK c.w now ts=true):vB c now ts=true:=by
 unfold vB;rw [h1,h2,h4,decide_eq_true h3];rfl
theorem aMn {ms:List gA} (h:oJ ms=true):(∀m∈ms,oD m.s=true∧mA m.n 0 1000000=true)∧oB (·.s) ms:=by
 refine ⟨fun m hm=>?_,?_⟩
 ·obtain ⟨i,hi,rfl⟩:=List.getElem_of_mem hm;have:=vL h hi;rw [pS hi] at this;simp only [Bool.and_eq_true] at this;exact ⟨this.1.2,this.2⟩
 ·have:=dZ (n:=ms.length) h (Nat.le_refl _);rwa [List.take_length] at this
theorem WN {win now:Int}{xs:List gA} (h:zI win now xs=true):(∀x∈xs,yF x.s=true∧mA x.n 0 now=true∧now - x.n<win)∧oB (·.s) xs:=by
 refine ⟨fun x hx=>?_,?_⟩
 ·obtain ⟨i,hi,rfl⟩:=List.getElem_of_mem hx;have:=vL h hi;rw [fQ hi] at this;simp only [Bool.and_eq_true,decide_eq_true_eq] at this;exact ⟨this.1.1.2,this.1.2,this.2⟩
 ·have:=mZ (n:=xs.length) h (Nat.le_refl _);rwa [List.take_length] at this
theorem XJ {win now:Int}{t:cA} (h:qM win now t=true):dC t.name=true∧mA t.limit (-1) 1000000=true∧oJ t.mets=true∧zI win now t.sers=true∧dD t=false:=by
 simp only [qM,Bool.and_eq_true] at h;obtain ⟨⟨⟨⟨h1,h5⟩,h2⟩,h3⟩,h4⟩:=h;exact ⟨h1,h5,h2,h3,by simpa using h4⟩
theorem QU {win now:Int}{t:cA} (h1:dC t.name=true) (h2:mA t.limit (-1) 1000000=true) (h3:oJ t.mets=true) (h4:zI win now t.sers=true) (h5:dD t=false):qM win now t=true:=by
 unfold qM;rw [h1,h2,h3,h4,h5];rfl
theorem vY {n a b:Int} (h1:a≤n) (h2:n≤b):mA n a b=true:=by
 unfold mA;rw [decide_eq_true h1,decide_eq_true h2];rfl
theorem aDb {c:eC} (h:jH c=true):1≤c.w∧c.w≤1000000000:=by
 simp only [jH,Bool.and_eq_true] at h;exact yH h.1.1.1.1.1
theorem BV {win now:Int}{ts:List cA} (h:iK win now ts=true){name:ByteArray}:mA (xA ts name).limit (-1) 1000000=true∧oJ (xA ts name).mets=true∧zI win now (xA ts name).sers=true:=by
 rcases dM (ts:=ts) (name:=name) with ⟨h1,_⟩ | ⟨h1,_⟩
 ·obtain ⟨_,h2,h3,h4,_⟩:=XJ (fH h _ h1);exact ⟨h2,h3,h4⟩
 ·rw [h1];exact ⟨rfl,rfl,rfl⟩
theorem OT {ts:List cA}{t:cA} (hr:oB (·.name) ts) (hl:ts.length≤10000) (h:((cB (·.name) t.name ts).isNone&&decide (10000≤ts.length))=false):(tA (·.name) t ts).length≤10000:=by
 have hi:=cX (a:=t) hr;cases hg:cB (·.name) t.name ts with
 | some q=>simp only [hg,Option.isSome_some,if_true] at hi;omega
 | none=>
   rw [hg] at h;simp only [hg,Option.isSome_none,Bool.false_eq_true,if_false] at hi;simp only [Option.isNone_none,Bool.true_and,decide_eq_false_iff_not] at h;omega
theorem FE {win now:Int}{ts:List cA}{t:cA} (h:iK win now ts=true) (ht:qM win now t=true):iK win now (tA (·.name) t ts)=true:=
 IE (dH (yO h)) fun q hq=>by
  rcases pH hq with rfl | hq
  ·exact ht
  ·exact fH h q hq
theorem aBq {c:eC}{now:Int}{ts:List cA} (hst:vB c now ts=true){tenant key:ByteArray} (hn:(dC tenant&&yF key)=true):qM c.w now (pE (xA ts tenant) key now)=true:=by
 obtain ⟨hc,h0,h1,hl,ht⟩:=gH hst;obtain ⟨p1,p2,p3⟩:=BV ht (name:=tenant);obtain ⟨q1,q2⟩:=WN p3;rw [Bool.and_eq_true] at hn;refine QU (by show dC (xA ts tenant).name=true;rw [gG];exact hn.1) p1 p2 ?_ JU;refine WM (dH q2) fun x hx=>?_;rcases pH (show x∈tA (·.s) ⟨key,now⟩ (xA ts tenant).sers from hx) with rfl | hx
 ·exact ⟨hn.2,vY h0 (Int.le_refl _),by have:=(aDb hc).1;show now - now<_;omega⟩
 ·exact q1 x hx
theorem aLp {c:eC}{now:Int}{ts:List cA} (hst:vB c now ts=true){tenant key:ByteArray} (hv:(tJ c now ts tenant key).2=1∨(tJ c now ts tenant key).2=2):vB c now (tJ c now ts tenant key).1=true:=by
 obtain ⟨hc,h0,h1,hl,ht⟩:=gH hst;have hb:mA now 0 1000000000000=true:=vY h0 h1;have hr:=yO ht;have hnm:(pE (xA ts tenant) key now).name=tenant:=gG;unfold tJ at hv ⊢;by_cases e1:(dC tenant&&yF key)=false
 ·rw [if_pos e1] at hv;omega
 rw [if_neg e1] at hv ⊢;have e1':(dC tenant&&yF key)=true:=by simpa using e1
 by_cases e2:(cB (·.s) key (xA ts tenant).sers).isSome=true
 ·rw [if_pos e2];refine gQ hc hb (OT hr hl ?_) (FE ht (aBq hst e1'));rw [hnm];rcases dM (ts:=ts) (name:=tenant) with ⟨_,hs⟩ | ⟨e,_⟩
  ·cases hg:cB (·.name) tenant ts with
   | none=>rw [hg] at hs;cases hs
   | some q=>rfl
  ·rw [e] at e2;cases e2
 rw [if_neg e2] at hv ⊢;by_cases e3:(if (xA ts tenant).limit = -1 then c.tl else (xA ts tenant).limit)≤((xA ts tenant).sers.length:Nat)∨((cB (·.name) tenant ts).isNone&&decide (10000≤ts.length))=true
 ·rw [if_pos e3] at hv;omega
 rw [if_neg e3] at hv ⊢;by_cases e4:iE (xA ts tenant).mets (bC key) c.ml≤(mF bC (xA ts tenant).sers (bC key):Nat)
 ·rw [if_pos e4] at hv;omega
 rw [if_neg e4];refine gQ hc hb (OT hr hl ?_) (FE ht (aBq hst e1'));rw [hnm];cases hd:((cB (·.name) tenant ts).isNone&&decide (10000≤ts.length)) with
 | false=>rfl
 | true=>exact absurd (Or.inr hd) e3
theorem aNf {c:eC}{now:Int}{ts:List cA} (hst:vB c now ts=true){tenant metric:ByteArray}{limit:Int}:vB c now (jO ts tenant metric limit).1=true:=by
 obtain ⟨hc,h0,h1,hl,ht⟩:=gH hst;have hb:mA now 0 1000000000000=true:=vY h0 h1;have hr:=yO ht;obtain ⟨p1,p2,p3⟩:=BV ht (name:=tenant);obtain ⟨q1,q2⟩:=aMn p2;unfold jO;by_cases e1:(dC tenant&&(metric.toList.isEmpty||oD metric) &&mA limit (-1) 1000000)=false
 ·rw [if_pos e1];exact hst
 rw [if_neg e1];have e1':(dC tenant&&(metric.toList.isEmpty||oD metric) &&mA limit (-1) 1000000)=true:=(Bool.not_eq_false _).mp e1;simp only [Bool.and_eq_true] at e1';by_cases e2:dD (cF (xA ts tenant) metric limit)=true
 ·rw [if_pos e2];refine gQ hc hb (Nat.le_trans (List.length_filter_le _ _) hl) (IE (tK hr) fun t ht'=>fH ht t (jN.1 ht').1)
 rw [if_neg e2];by_cases e3:((cB (·.name) tenant ts).isNone&&decide (10000≤ts.length))=true
 ·rw [if_pos e3];exact hst
 rw [if_neg e3];have hnm:(cF (xA ts tenant) metric limit).name=tenant:=by rw [iN,gG]
 refine gQ hc hb (OT hr hl (by rw [hnm];simpa using e3)) (FE ht ?_);refine QU (by rw [hnm];exact e1'.1.1) ?_ ?_ (by rw [LK];exact p3) (by simpa using e2)
 ·unfold cF;split
  ·exact e1'.2
  ·exact p1
 ·unfold cF;split
  ·exact p2
  ·rename_i hme;have hmn:oD metric=true:=by
    have:=e1'.1.2;rw [Bool.or_eq_true] at this;rcases this with h | h
    ·exact absurd h hme
    ·exact h
   simp only;split
   ·exact VM (tK q2) fun m hm=>q1 m (jN.1 hm).1
   ·rename_i hneg;refine VM (dH q2) fun m hm=>?_;rcases pH hm with rfl | hm
    ·have:=yH e1'.2;exact ⟨hmn,vY (by show 0≤limit;omega) this.2⟩
    ·exact q1 m hm
theorem aLc {c:eC}{now:Int}{ts:List cA} (hst:vB c now ts=true){by_:Int}:vB c (tH c.w now ts by_).1 (tH c.w now ts by_).2.1=true:=by
 obtain ⟨hc,h0,h1,hl,ht⟩:=gH hst;have hr:=yO ht;unfold tH;split
 ·exact hst
 ·rename_i hb;have hle:(mC c.w (now+by_) ts).length≤ts.length:=by
   unfold mC;have:=List.length_filter_le (fun t=>!dD t) (ts.map (eD c.w (now+by_)));rw [List.length_map] at this;exact this
  refine gQ hc (vY (by omega) (by omega)) (Nat.le_trans hle hl) (IE ?_ fun t ht'=>?_)
  ·exact List.Pairwise.filter _ (List.pairwise_map.2 hr)
  ·obtain ⟨h2,h3⟩:=List.mem_filter.1 ht';obtain ⟨q,hq,rfl⟩:=List.mem_map.1 h2;obtain ⟨r1,r2,r3,r4,_⟩:=XJ (fH ht q hq);obtain ⟨s1,s2⟩:=WN r4;refine QU r1 r2 r3 (WM (List.Pairwise.filter _ s2) fun x hx=>?_) (by simpa using h3);obtain ⟨x1,x2⟩:=List.mem_filter.1 hx;obtain ⟨y1,y2,_⟩:=s1 x x1;have:=yH y2;exact ⟨y1,vY this.1 (by omega),by simpa using x2⟩
def gD (c:eC) (now:Int) (ts:List cA) (r:pC):Int×List cA×Bool:=
 if r.kind=1 then (now,(tJ c now ts r.tenant r.text).1,decide ((tJ c now ts r.tenant r.text).2=1) ||decide ((tJ c now ts r.tenant r.text).2=2))
 else if r.kind=2 then tH c.w now ts r.num
 else if r.kind=3 then (now,(jO ts r.tenant r.text r.num).1,(jO ts r.tenant r.text r.num).2)
 else (now,ts,false)
def eF (c:eC):Int→List cA→List pC→Int×List cA×Bool
 | now,ts,[]=>(now,ts,true)
 | now,ts,r :: rs=>if (gD c now ts r).2.2=true then eF c (gD c now ts r).1 (gD c now ts r).2.1 rs else ((gD c now ts r).1,(gD c now ts r).2.1,false)
def rE (c:eC) (now:Int) (ts:List cA) (rs:List pC):Int×List cA×Bool:=
 if vB c now ts=false then (0,[],false) else if 500<rs.length then (now,ts,false) else if (eF c now ts rs).2.2=true then eF c now ts rs else (now,ts,false)
theorem GS {c:eC}{now:Int}{ts:List cA} (h:vB c now ts=true){r:pC} (hs:(gD c now ts r).2.2=true):vB c (gD c now ts r).1 (gD c now ts r).2.1=true:=by
 unfold gD at hs ⊢;split
 ·rename_i hk;rw [if_pos hk] at hs;simp only [Bool.or_eq_true,decide_eq_true_eq] at hs;exact aLp h hs
 ·rename_i hk;rw [if_neg hk] at hs;split
  ·exact aLc h
  ·rename_i hk2;rw [if_neg hk2] at hs;split
   ·exact aNf h
   ·exact h
theorem sX {p:gA} (l:List gA):bB (tA (·.s) p l)≤bB l+p.s.size∧(tA (·.s) p l).length≤l.length+1:=by
 induction l with
 | nil=>simp [tA,bB]
 | cons q r ih=>
   rw [tA];split
   ·simp only [bB,List.length_cons];omega
   ·split<;>(simp only [bB,List.length_cons];omega)
theorem lM (f:gA→Bool) (l:List gA):bB (l.filter f)≤bB l∧(l.filter f).length≤l.length:=by
 induction l with
 | nil=>exact ⟨Nat.le_refl _,Nat.le_refl _⟩
 | cons q r ih=>
   rw [List.filter_cons];split<;>(simp only [bB,List.length_cons];omega)
theorem rM (f:cA→Bool) (l:List cA):nA (l.filter f)≤nA l∧(l.filter f).length≤l.length:=by
 induction l with
 | nil=>exact ⟨Nat.le_refl _,Nat.le_refl _⟩
 | cons q r ih=>
   rw [List.filter_cons];split<;>(simp only [nA,List.length_cons];omega)
theorem eY {ts:List cA} (hr:oB (·.name) ts){t:cA}{k:Nat} (h:zC t≤zC (xA ts t.name)+k):(tA (·.name) t ts).length+nA (tA (·.name) t ts)≤ts.length+nA ts+1+t.name.size+k:=by
 have hz:zC ⟨t.name,-1,[],[]⟩=t.name.size:=by simp [zC,bB]
 have key:(∃q∈ts,q.name=t.name∧zC t≤zC q+k)∨(zC t≤t.name.size+k):=by
  rcases dM (ts:=ts) (name:=t.name) with ⟨hm,_⟩ | ⟨e,_⟩
  ·exact Or.inl ⟨_,hm,gG,h⟩
  ·rw [e,hz] at h;exact Or.inr h
 clear h hz;rcases key with ⟨q,hq,hn,hb⟩ | hb
 ·have:(tA (·.name) t ts).length+nA (tA (·.name) t ts)≤ts.length+nA ts+k:=by
   induction ts with
   | nil=>cases hq
   | cons p r ih=>
     rw [tA];rcases List.mem_cons.1 hq with rfl | hq
     ·rw [if_neg (by rw [hn,rK];simp),if_pos ((rC _ _).2 hn)];simp only [List.length_cons,nA];omega
     ·have hbl:=hr.head q hq;simp only [hn] at hbl;rw [if_pos hbl];have:=ih hr.tail hq;simp only [List.length_cons,nA];omega
  omega
 ·have:∀l:List cA,(tA (·.name) t l).length+nA (tA (·.name) t l)≤l.length+nA l+1+zC t:=fun l=>by
   induction l with
   | nil=>simp [tA,nA]
   | cons p r ih=>
     rw [tA];split
     ·simp only [List.length_cons,nA];omega
     ·split<;>(simp only [List.length_cons,nA];omega)
  have:=this ts;omega
theorem aDg {ts:List cA}{tenant key:ByteArray}{now:Int}:zC (pE (xA ts tenant) key now)≤zC (xA ts (pE (xA ts tenant) key now).name)+(1+key.size):=by
 have e:(pE (xA ts tenant) key now).name=tenant:=gG;rw [e];have:=sX (p:=⟨key,now⟩) (xA ts tenant).sers;simp only [zC,pE] at this ⊢;omega
theorem aFn {ts:List cA}{tenant metric:ByteArray}{limit:Int}:zC (cF (xA ts tenant) metric limit)≤zC (xA ts (cF (xA ts tenant) metric limit).name)+(1+metric.size):=by
 have e:(cF (xA ts tenant) metric limit).name=tenant:=by rw [iN,gG]
 rw [e];have h1:=sX (p:=⟨metric,limit⟩) (xA ts tenant).mets;have h2:=lM (fun p=>!((fun q:gA=>q.s) p).toList==metric.toList) (xA ts tenant).mets;have h3:bB (aD (·.s) metric (xA ts tenant).mets)≤bB (xA ts tenant).mets∧(aD (·.s) metric (xA ts tenant).mets).length≤(xA ts tenant).mets.length:=lM _ _;simp only at h1;unfold cF;split
 ·simp only [zC];omega
 ·simp only [zC];split<;>omega
theorem aFi {win now:Int} (ts:List cA):(mC win now ts).length+nA (mC win now ts)≤ts.length+nA ts:=by
 have h1:=rM (fun t=>!dD t) (ts.map (eD win now));have h2:nA (ts.map (eD win now))≤nA ts:=by
  induction ts with
  | nil=>exact Nat.le_refl _
  | cons t r ih=>
    have:=lM (fun p=>decide (now - p.n<win)) t.sers;have ih':=ih (rM _ _);simp only [List.map_cons,nA,zC,eD] at ih' ⊢;omega
 unfold mC;rw [List.length_map] at h1;omega
theorem uV {c:eC}{now:Int}{ts:List cA} (h:vB c now ts=true) (r:pC):(gD c now ts r).2.1.length+nA (gD c now ts r).2.1≤ts.length+nA ts+2+r.tenant.size+r.text.size:=by
 have hr:=yO (gH h).2.2.2.2;have hs:ts.length+nA ts≤ts.length+nA ts+2+r.tenant.size+r.text.size:=by omega
 have ha:(tA (·.name) (pE (xA ts r.tenant) r.text now) ts).length+nA (tA (·.name) (pE (xA ts r.tenant) r.text now) ts)≤ts.length+nA ts+2+r.tenant.size+r.text.size:=by
  have:=eY hr (t:=pE (xA ts r.tenant) r.text now) aDg;have e:(pE (xA ts r.tenant) r.text now).name=r.tenant:=gG;rw [e] at this;omega
 have hl:(tA (·.name) (cF (xA ts r.tenant) r.text r.num) ts).length+nA (tA (·.name) (cF (xA ts r.tenant) r.text r.num) ts)≤ts.length+nA ts+2+r.tenant.size+r.text.size:=by
  have:=eY hr (t:=cF (xA ts r.tenant) r.text r.num) aFn;have e:(cF (xA ts r.tenant) r.text r.num).name=r.tenant:=by rw [iN,gG]
  rw [e] at this;omega
 unfold gD;split
 ·unfold tJ;split
  ·exact hs
  ·split
   ·exact ha
   ·generalize (if (xA ts r.tenant).limit = -1 then c.tl else (xA ts r.tenant).limit)=LM;split
    ·exact hs
    ·split
     ·exact hs
     ·exact ha
 ·split
  ·unfold tH;split
   ·exact hs
   ·have:=aFi (win:=c.w) (now:=now+r.num) ts;show (mC c.w (now+r.num) ts).length+nA (mC c.w (now+r.num) ts)≤_;omega
  ·split
   ·unfold jO;split
    ·exact hs
    ·split
     ·have:=rM (fun p=>!((fun q:cA=>q.name) p).toList==r.tenant.toList) ts;show (aD (·.name) r.tenant ts).length+nA (aD (·.name) r.tenant ts)≤_;unfold aD;omega
     ·split
      ·exact hs
      ·exact hl
   ·exact hs
end Go.Proofs.YtcneojllbkacoaaGreatDoor
namespace Go.Proofs.YtcneojllbkacoaaGreatDoor
open Go.RowKit
theorem aX:(Tryz.prog.info? 149).map (fun i=>(i.zero,i.size,i.bytes))=some (some (.agg #[.string ⟨#[]⟩,.int .i64 0]),2,24):=by kernel_rfl
theorem EZ:(Tryz.prog.info? 151).map (fun i=>(i.zero,i.size,i.bytes))=some (some (.agg #[.string ⟨#[]⟩,.int .i64 0]),2,24):=by kernel_rfl
theorem aFg (p:gA→Bool) (ks:List gA) (j:Nat) (h:j<ks.length):(ks.take (j+1)).filter p=(ks.take j).filter p++if p ks[j]=true then [ks[j]] else []:=by
 rw [List.take_succ_eq_append_getElem h,List.filter_append];congr 1;by_cases e:p ks[j]=true
 ·rw [if_pos e,List.filter_cons_of_pos e];rfl
 ·rw [if_neg e,List.filter_cons_of_neg e];rfl
theorem aMg (p:gA→Bool) (ks:List gA) (j:Nat):((ks.take j).filter p).length≤ks.length:=by
 have h1:=List.length_filter_le p (ks.take j);rw [List.length_take] at h1;omega
def aNs (w1:World) (t:cA) (X:Nat) (wx:World):Prop:=
 ∃g1 d1,lA wx X #[.string t.name,.int .i64 t.limit,.slice (some ⟨g1,0,none⟩) t.mets.length d1,.slice none 0 0] 95∧wx.ownsRow w1.heap.size 149 2 (.slice (some ⟨g1,0,none⟩) t.mets.length d1) t.mets.length (flatK t.mets)∧w1.heap.size≤X∧g1≠X∧Below w1.heap.size w1 wx
theorem aMp (W:World) (cs cs':Array Value){t t':TypeId}:((W.alloc (.cells cs t)).alloc (.cells cs' t')).drew.heap[W.heap.size+1]?=some (.cells cs' t' (0,0)):=by
 have h:lA ((W.alloc (.cells cs t)).alloc (.cells cs' t')) (W.alloc (.cells cs t)).heap.size cs' t':=lA.new _ _ _;have e:(W.alloc (.cells cs t)).heap.size=W.heap.size+1:=by simp
 rw [e] at h;exact h
theorem aMo (W:World) (cs:Array Value){t:TypeId} (o:Obj):((W.alloc (.cells cs t)).alloc o).drew.heap[W.heap.size]?=some (.cells cs t (0,0)):=((lA.new W cs t).alloc o)
theorem QA {w1 w5:World}{X:Nat}{v0 v1 v2 v3:Value} (h:Below w1.heap.size w1 w5) (hX:w1.heap.size≤X):Below w1.heap.size w1 ((((w5.setCell ⟨X,0,none⟩ v0).setCell ⟨X,1,none⟩ v1).setCell ⟨X,2,none⟩ v2).setCell ⟨X,3,none⟩ v3):=(((h.setCell hX _).setCell hX _).setCell hX _).setCell hX _
theorem aCe {w1 w5:World}{t:cA}{X g5 cap5 n:Nat} (hb:lA w5 X #[.string ⟨#[]⟩,.int .i64 0,.slice none 0 0,.slice none 0 0] 95) (hX:w1.heap.size≤X) (k5:Below w1.heap.size w1 w5) (ho:w5.ownsRow w1.heap.size 149 2 (.slice (some ⟨g5,0,none⟩) (0+t.mets.length) cap5) (0+t.mets.length) ([]++flatK t.mets)) (hg:g5≠X) (hn:n=t.mets.length):
 aNs w1 t X ((((w5.setCell ⟨X,0,none⟩ (.string t.name)).setCell ⟨X,1,none⟩ (.int .i64 t.limit)).setCell ⟨X,2,none⟩ (.slice (some ⟨g5,0,none⟩) n cap5)).setCell ⟨X,3,none⟩ (.slice none 0 0)):=by
 subst hn;rw [Nat.zero_add,List.nil_append] at ho;have ht:dA (·=X) w5 ((((w5.setCell ⟨X,0,none⟩ (.string t.name)).setCell ⟨X,1,none⟩ (.int .i64 t.limit)).setCell ⟨X,2,none⟩ (.slice (some ⟨g5,0,none⟩) t.mets.length cap5)).setCell ⟨X,3,none⟩ (.slice none 0 0)):=((((dA.refl (·=X) w5).setCell (Or.inl rfl) 0 _).setCell (Or.inl rfl) 1 _).setCell (Or.inl rfl) 2 _).setCell (Or.inl rfl) 3 _;refine ⟨g5,cap5,?_,ht.row ho (fun q hq e=>by simp [Value.ownBlock] at hq;omega),hX,hg,QA k5 hX⟩;have:=(((hb.set 0 (.string t.name)).set 1 (.int .i64 t.limit)).set 2 (.slice (some ⟨g5,0,none⟩) t.mets.length cap5)).set 3 (.slice none 0 0);simpa using this
theorem aQg (W:World):(W.alloc (.cells #[] 149)).drew.ownsRow W.heap.size 149 2 (.slice (some ⟨W.heap.size,0,none⟩) 0 0) 0 []:=(World.ownsRow_made W #[] 0 (Nat.le_refl _) (by simp [maxLen]) (by simp)).drew
theorem aQh (W:World) (o:Obj):((W.alloc (.cells #[] 149)).alloc o).drew.ownsRow W.heap.size 149 2 (.slice (some ⟨W.heap.size,0,none⟩) 0 0) 0 []:=((World.ownsRow_made W #[] 0 (Nat.le_refl _) (by simp [maxLen]) (by simp)).alloc o).drew
theorem aQi (W:World) (o:Obj):((W.alloc o).alloc (.cells #[] 149)).drew.ownsRow W.heap.size 149 2 (.slice (some ⟨W.heap.size+1,0,none⟩) 0 0) 0 []:=by
 have:=(World.ownsRow_made (e:=149) (size:=2) (base:=W.heap.size) (W.alloc o) #[] 0 (by simp) (by simp [maxLen]) (by simp)).drew;simpa using this
theorem AZ (t:cA) (a1 a2:Option Addr) (c1 c2:Nat) (now win:Int) (w:World) (p1:sA w a1 t.mets) (p2:sA w a2 t.sers) (hl1:t.mets.length≤2000000) (hl2:t.sers.length≤2000000) (hn0:0≤now) (hn1:now≤2000000000000) (hx:∀i (h:i<t.sers.length),0≤t.sers[i].n∧t.sers[i].n≤2000000000000):
 Calls Tryz.prog 98 #[.agg #[.string t.name,.int .i64 t.limit,.slice a1 t.mets.length c1,.slice a2 t.sers.length c2],.int .i64 now,.int .i64 win] w fun e w'=>yq w t.name (eD win now t) e w':=by
 have P1:=iA p1;have P2:=iA p2;have HX0:=iA hx;obtain ⟨ti,hti,hz0,hz1,hz2⟩:=info_parts aX;have HI:Hid _:=hti;obtain ⟨tj,htj,hy0,hy1,hy2⟩:=info_parts EZ;have HJ:Hid _:=htj;clear p1 p2 hx hti htj;go_enter Tryz.func98,Tryz.ntmps98;have B1:Hid (Below w.heap.size w ((w.alloc (.cells #[.string t.name,.int .i64 t.limit,.slice a1 t.mets.length c1,.slice a2 t.sers.length c2] 95)).alloc (.cells #[.string ⟨#[]⟩,.int .i64 0,.slice none 0 0,.slice none 0 0] 95))):=rA (bA _ _) (bA _ _);have T1:Hid (lA ((w.alloc (.cells #[.string t.name,.int .i64 t.limit,.slice a1 t.mets.length c1,.slice a2 t.sers.length c2] 95)).alloc (.cells #[.string ⟨#[]⟩,.int .i64 0,.slice none 0 0,.slice none 0 0] 95)) w.heap.size #[.string t.name,.int .i64 t.limit,.slice a1 t.mets.length c1,.slice a2 t.sers.length c2] 95):=(lA.new _ _ _).alloc _;have R1:Hid _:=iA (by have:=lA.new (w.alloc (.cells #[.string t.name,.int .i64 t.limit,.slice a1 t.mets.length c1,.slice a2 t.sers.length c2] 95)) #[.string ⟨#[]⟩,.int .i64 0,.slice none 0 0,.slice none 0 0] 95;simpa using this);go_upto_region 1 with fail;generalize (w.alloc (.cells #[.string t.name,.int .i64 t.limit,.slice a1 t.mets.length c1,.slice a2 t.sers.length c2] 95)).alloc (.cells #[.string ⟨#[]⟩,.int .i64 0,.slice none 0 0,.slice none 0 0] 95)=w1 at *;have HFL:Hid ((flatK t.mets).length=t.mets.length * 2):=fI _;have HSRC:Hid (∀W,Below w1.heap.size w1 W→bS W a1 t.mets.length (flatK t.mets)):=fun W hW=>by
  rcases P1.out.later (rA B1.out hW) with h0 | ⟨b,o,rfl,hlt,h⟩
  ·exact Or.inl (by rw [h0];rfl)
  ·exact Or.inr ⟨_,rfl,hJ h⟩
 have HK:Hid (∀w',Below w1.heap.size w1 w'→w'.cell? ⟨w.heap.size,0,none⟩=some (.string t.name)∧w'.cell? ⟨w.heap.size,1,none⟩=some (.int .i64 t.limit)∧w'.cell? ⟨w.heap.size,2,none⟩=some (.slice a1 t.mets.length c1)):=fun w' h=>by
  have q:=T1.out.later h;exact ⟨q.cell 0,q.cell 1,q.cell 2⟩
 obtain ⟨x0,x1,x2⟩:=HK.out w1 (Below.refl _ _);have hw1:=aA R1.out;go_cut [7] (fun p wx=>∃X,p=.pointer (some ⟨X,0,none⟩)∧aNs w1 t X wx)
 case first=>
  go_region_held3 (fun w'=>w'.cell? ⟨w.heap.size,0,none⟩=some (.string t.name)∧w'.cell? ⟨w.heap.size,1,none⟩=some (.int .i64 t.limit)∧w'.cell? ⟨w.heap.size,2,none⟩=some (.slice a1 t.mets.length c1))
   (first | go_keep | exact HK.out _ k5 | exact HK.out _ (QA k5 (Nat.le_refl _)) | exact HK.out _ (QA k5 (Nat.le_succ _)) | exact HK.out _ (eW w1 _) | exact HK.out _ (tN w1 _ _))
   (first
    | (refine mH _ (by rfl) _ _ _ (by rfl) w1.heap.size 149 ti _ 2 24 Tryz.underlying92 HI.out hz0 hz1 hz2 rfl (by omega) w1.heap.size 0 0 [] (by rfl) (by exact aQg w1) a1 t.mets.length c1 (flatK t.mets) (by rfl) HFL.out (by exact HSRC.out _ (eW w1 _)) (aI _) (by simp [maxLen];omega) (by omega) (by exact (eW w1 _).size) ?_;intro g5 cap5 w5 hown5 hB5 hk5 hg5 hat5 hlt5;have k5:Below w1.heap.size w1 w5:=(eW w1 _).trans hB5;have c5:=HK.out _ k5)
    | (refine mH _ (by rfl) _ _ _ (by rfl) w1.heap.size 149 ti _ 2 24 Tryz.underlying92 HI.out hz0 hz1 hz2 rfl (by omega) w1.heap.size 0 0 [] (by rfl) (by exact aQh w1 _) a1 t.mets.length c1 (flatK t.mets) (by rfl) HFL.out (by exact HSRC.out _ (tN w1 _ _)) (aI _) (by simp [maxLen];omega) (by omega) (by exact (tN w1 _ _).size) ?_;intro g5 cap5 w5 hown5 hB5 hk5 hg5 hat5 hlt5;have k5:Below w1.heap.size w1 w5:=(tN w1 _ _).trans hB5;have c5:=HK.out _ k5;have BX5:Hid (lA w5 (w1.heap.size+1) #[.string ⟨#[]⟩,.int .i64 0,.slice none 0 0,.slice none 0 0] 95):=(hk5 (w1.heap.size+1) (by show _<(World.alloc _ _).heap.size;simp) (by omega)).trans (aMp w1 _ _);have s0:=BX5.out.cell 0;have s1:=BX5.out.cell 1;have s2:=BX5.out.cell 2;have s3:=BX5.out.cell 3;have f0:=BX5.out.free 0;have f1:=BX5.out.free 1;have f2:=BX5.out.free 2;have f3:=BX5.out.free 3)
    | (refine mH _ (by rfl) _ _ _ (by rfl) w1.heap.size 149 ti _ 2 24 Tryz.underlying92 HI.out hz0 hz1 hz2 rfl (by omega) (w1.heap.size+1) 0 0 [] (by rfl) (by exact aQi w1 _) a1 t.mets.length c1 (flatK t.mets) (by rfl) HFL.out (by exact HSRC.out _ (tN w1 _ _)) (aI _) (by simp [maxLen];omega) (by omega) (by exact (tN w1 _ _).size) ?_;intro g5 cap5 w5 hown5 hB5 hk5 hg5 hat5 hlt5;have k5:Below w1.heap.size w1 w5:=(tN w1 _ _).trans hB5;have c5:=HK.out _ k5;have BX5:Hid (lA w5 w1.heap.size #[.string ⟨#[]⟩,.int .i64 0,.slice none 0 0,.slice none 0 0] 95):=(hk5 w1.heap.size (by show _<(World.alloc _ _).heap.size;simp;omega) (by omega)).trans (aMo w1 _ _);have s0:=BX5.out.cell 0;have s1:=BX5.out.cell 1;have s2:=BX5.out.cell 2;have s3:=BX5.out.cell 3;have f0:=BX5.out.free 0;have f1:=BX5.out.free 1;have f2:=BX5.out.free 2;have f3:=BX5.out.free 3))
  all_goals (go_wp2_with fail;go_meet)
  ·rw [Nat.zero_add,List.nil_append] at hown5;exact ⟨_,rfl,g5,cap5,lA.new _ _ _,yA hown5 (bA _ _),k5.size,by omega,rA k5 (bA _ _)⟩
  all_goals (
   have hsA:g5=w1.heap.size∨g5=w1.heap.size+1∨g5=w1.heap.size+2:=by
    have e:∀o o':Obj,((w1.alloc o).alloc o').drew.heap.size=w1.heap.size+1+1:=fun o o'=>by show (World.alloc _ _).heap.size=_;simp
    rw [e] at hat5;omega)
  ·exact ⟨_,rfl,aCe BX5.out (Nat.le_succ _) k5 hown5 (by have e:∀o o':Obj,((w1.alloc o).alloc o').drew.heap.size=w1.heap.size+1+1:=(fun o o'=>by show (World.alloc _ _).heap.size=_;simp);rw [e] at hat5;omega) rfl⟩
  ·exact ⟨_,rfl,aCe BX5.out (Nat.le_refl _) k5 hown5 (by have e:∀o o':Obj,((w1.alloc o).alloc o').drew.heap.size=w1.heap.size+1+1:=(fun o o'=>by show (World.alloc _ _).heap.size=_;simp);rw [e] at hat5;omega) rfl⟩
 obtain ⟨X,rfl,g1,d1,hX,hO,hXw,hgX,hb2⟩:=hcut;rename World=>w2;have HXB:=iA hX;have HO1:=iA hO;have B2:Hid _:=hb2;have y3:w2.cell? ⟨w.heap.size,3,none⟩=some (.slice a2 t.sers.length c2):=(T1.out.later hb2).cell 3;have hX2:=aA hX;have HR2:Hid (lA w2 (w.heap.size+1) #[.string ⟨#[]⟩,.int .i64 0,.slice none 0 0,.slice none 0 0] 95):=R1.out.later hb2;have HG1:Hid (∀q,(Value.slice (some ⟨g1,0,none⟩) t.mets.length d1).ownBlock=some q→q<w2.heap.size∧q≠X):=fun q hq=>⟨(hO.lt q hq).2,by simp [Value.ownBlock] at hq;omega⟩
 clear hX hO hb2 HK HSRC HFL x0 x1 x2 P1 HI;go_wp2;clear y3;go_loopw [9,22] (fun _ i wr=>∃(k:Nat) (v:Value),k≤t.sers.length∧i=.int .i64 k∧Hid (lA wr X #[.string t.name,.int .i64 t.limit,.slice (some ⟨g1,0,none⟩) t.mets.length d1,v] 95)∧Hid (wr.ownsRow w2.heap.size 151 2 v ((t.sers.take k).filter fun p=>decide (now - p.n<win)).length (flatK ((t.sers.take k).filter fun p=>decide (now - p.n<win))))∧Hid (dA (·=X) w2 wr)) (fun _ i _=>t.sers.length - (intOf i).toNat)
 case atStart=>exact ⟨0,.slice none 0 0,Nat.zero_le _,rfl,HXB.out,World.ownsRow_nil _ _ _ _,dA.refl _ _⟩
 case round=>
  obtain ⟨k,v,hk,rfl,HB,HRW,HTU⟩:=hrel;have hs2:=HTU.out.size;have HBW:Hid _:=(rA B1.out B2.out).trans (HTU.out.below (by omega) fun i hi e=>by omega);by_cases hlt:k<t.sers.length
  ·obtain ⟨pb,po,rfl,hpl,z0,z1⟩:=(P2.out.later HBW.out).at hlt;have HYS:Hid ((t.sers.take (k+1)).filter (fun p=>decide (now - p.n<win))=(t.sers.take k).filter (fun p=>decide (now - p.n<win))++if decide (now - t.sers[k].n<win)=true then [t.sers[k]] else []):=aFg _ _ _ hlt;have hyl:((t.sers.take k).filter fun p=>decide (now - p.n<win)).length≤2000000:=by
    have:=aMg (fun p=>decide (now - p.n<win)) t.sers k;omega
   obtain ⟨hb0,hb1⟩:=HX0.out k hlt;generalize (t.sers.take k).filter (fun p=>decide (now - p.n<win))=ys at *;generalize t.sers[k]=P at *;have hwrp:IntKind.i64.wrap (now - P.n)=now - P.n:=by
    simp only [IntKind.wrap,IntKind.bits,IntKind.signed];simp;omega
   by_cases hc:now - P.n<win
   ·have HY:Hid ((t.sers.take (k+1)).filter (fun p=>decide (now - p.n<win))=ys++[P]):=by show _=_;rw [HYS.out,if_pos (by simpa using hc)]
    go_upto_region 6 with fail;have HB5:Hid (Below wr.heap.size wr (wr.alloc (.cells #[.string P.s,.int .i64 P.n] 151))):=bA _ _;have u0:(wr.alloc (.cells #[.string P.s,.int .i64 P.n] 151)).cell? ⟨wr.heap.size,0,none⟩=some (.string P.s):=(lA.new _ _ _).cell 0;have u1:(wr.alloc (.cells #[.string P.s,.int .i64 P.n] 151)).cell? ⟨wr.heap.size,1,none⟩=some (.int .i64 P.n):=(lA.new _ _ _).cell 1;have hs5:wr.heap.size<(wr.alloc (.cells #[.string P.s,.int .i64 P.n] 151)).heap.size:=by simp
    clear z0 z1;generalize wr.alloc (.cells #[.string P.s,.int .i64 P.n] 151)=w5 at *;have BX5:Hid (lA w5 X #[.string t.name,.int .i64 t.limit,.slice (some ⟨g1,0,none⟩) t.mets.length d1,v] 95):=HB.out.later HB5.out;have x3:w5.cell? ⟨X,3,none⟩=some v:=BX5.out.cell 3;have R5:Hid (w5.ownsRow w2.heap.size 151 2 v ys.length (flatK ys)):=yA HRW.out HB5.out;have T5:Hid _:=HTU.out.trans (dA.of HB5.out);go_wp2_with (at_builtin;refine wpList_append_lies _ rfl _ _ _ rfl w2.heap.size 151 tj _ 2 24 Tryz.underlying93 HJ.out hy0 hy1 hy2 rfl (by omega) v ys.length (flatK ys) rfl (by exact yA R5.out (bA _ _)) ⟨w5.heap.size,0,none⟩ 1 1 [.string P.s,.int .i64 P.n] rfl rfl (by exact World.news_of_block (cs:=#[.string P.s,.int .i64 P.n]) (heap_alloc_new _ _)) (by simp [Value.oneCell']) (by omega) (by simp [maxLen];omega) (by omega) (by simp;omega) (w5.heap.size+1) (by simp) ?_;intro gg cap6 w6 hown6 hgrow6 hat6 hlt6;have hag:v.ownBlock≠some X:=(fun e=>by have:=(R5.out.lt X e).1;omega);have BX6:Hid (lA w6 X #[.string t.name,.int .i64 t.limit,.slice (some ⟨g1,0,none⟩) t.mets.length d1,v] 95):=(dA.grown hgrow6).blk (BX5.out.alloc _) hag;have s6:=BX6.out.cell 3;have f6:=BX6.out.free 3;have HO6:=iA hown6;have HGR6:=iA hgrow6;have HAT6:=iA hat6;clear hown6 hgrow6 hat6 hlt6 hag);have hgg:w2.heap.size≤gg:=by
     rcases HAT6.out with h | h
     ·exact (R5.out.lt gg h).1
     ·have:=T5.out.size;omega
    have hset:dA (·=X) w6 (w6.setCell ⟨X,3,none⟩ (.slice (some ⟨gg,0,none⟩) (ys.length+1) cap6)):=(dA.refl (·=X) w6).setCell (Or.inl rfl) 3 _;refine ⟨⟨k+1,.slice (some ⟨gg,0,none⟩) (ys.length+1) cap6,by omega,by go_num,?_,?_,?_⟩,by simp [intOf];omega⟩
    ·refine iA ?_;have:=BX6.out.set 3 (.slice (some ⟨gg,0,none⟩) (ys.length+1) cap6);simpa using this
    ·rw [HY.out,xQ,List.length_append];exact hset.row HO6.out (fun q hq e=>by simp [Value.ownBlock] at hq;omega)
    ·exact ((T5.out.trans (dA.of (bA _ _))).trans ((dA.grown HGR6.out).mono fun i _ e=>Or.inr (R5.out.lt i e).1)).trans' hset
   ·have HY:Hid ((t.sers.take (k+1)).filter (fun p=>decide (now - p.n<win))=ys):=by show _=_;rw [HYS.out,if_neg (by simpa using hc),List.append_nil]
    have BX5:Hid (lA (wr.alloc (.cells #[.string P.s,.int .i64 P.n] 151)) X #[.string t.name,.int .i64 t.limit,.slice (some ⟨g1,0,none⟩) t.mets.length d1,v] 95):=HB.out.alloc _;have R5:Hid ((wr.alloc (.cells #[.string P.s,.int .i64 P.n] 151)).ownsRow w2.heap.size 151 2 v ys.length (flatK ys)):=yA HRW.out (bA _ _);have T5:Hid (dA (·=X) w2 (wr.alloc (.cells #[.string P.s,.int .i64 P.n] 151))):=HTU.out.trans (dA.of (bA _ _));go_wp2;refine ⟨⟨k+1,v,by omega,by go_num,BX5.out,?_,T5.out⟩,by simp [intOf];omega⟩;rw [HY.out];exact R5
  ·have ek:t.sers.take k=t.sers:=List.take_of_length_le (by omega);rw [ek] at HRW;have HRF:Hid (wr.ownsRow w2.heap.size 151 2 v (eD win now t).sers.length (flatK (eD win now t).sers)):=HRW.out;obtain ⟨sa,sc,hv⟩:∃a c,v=.slice a (eD win now t).sers.length c:=by
    rcases HRF.out.2 with ⟨e1,e2⟩ | ⟨g,cap,_,e1,_⟩
    ·exact ⟨none,0,by rw [e1,e2]⟩
    ·exact ⟨_,_,e1⟩
   rw [hv] at HB HRF;clear HRW hv ek;have HK2:Hid (eD win now t=⟨t.name,t.limit,t.mets,(eD win now t).sers⟩):=rfl;generalize hKS:(eD win now t).sers=KS at *;have YW:Hid (lA wr (w.heap.size+1) #[.string ⟨#[]⟩,.int .i64 0,.slice none 0 0,.slice none 0 0] 95):=HTU.out.blk HR2.out (by omega);have a0:wr.cell? ⟨X,0,none⟩=some (.string t.name):=HB.out.cell 0;have a1':wr.cell? ⟨X,1,none⟩=some (.int .i64 t.limit):=HB.out.cell 1;have a2':wr.cell? ⟨X,2,none⟩=some (.slice (some ⟨g1,0,none⟩) t.mets.length d1):=HB.out.cell 2;have a3:wr.cell? ⟨X,3,none⟩=some (.slice sa KS.length sc):=HB.out.cell 3;have b0:wr.cell? ⟨w.heap.size+1,0,none⟩=some (.string ⟨#[]⟩):=YW.out.cell 0;have b1:wr.cell? ⟨w.heap.size+1,1,none⟩=some (.int .i64 0):=YW.out.cell 1;have b2:wr.cell? ⟨w.heap.size+1,2,none⟩=some (.slice none 0 0):=YW.out.cell 2;have b3:wr.cell? ⟨w.heap.size+1,3,none⟩=some (.slice none 0 0):=YW.out.cell 3;have e0:=YW.out.free 0;have e1:=YW.out.free 1;have e2:=YW.out.free 2;have e3:=YW.out.free 3;have hwl:=aA YW.out;have HOM:Hid (wr.ownsRow w1.heap.size 149 2 (.slice (some ⟨g1,0,none⟩) t.mets.length d1) t.mets.length (flatK t.mets)):=HTU.out.row HO1.out (fun q hq e=>(HG1.out q hq).2 e);go_wp2;have HTE:dA (·=w.heap.size+1) wr ((((wr.setCell ⟨w.heap.size+1,0,none⟩ (.string t.name)).setCell ⟨w.heap.size+1,1,none⟩ (.int .i64 t.limit)).setCell ⟨w.heap.size+1,2,none⟩ (.slice (some ⟨g1,0,none⟩) t.mets.length d1)).setCell ⟨w.heap.size+1,3,none⟩ (.slice sa KS.length sc)):=((((dA.refl (·=w.heap.size+1) wr).setCell (Or.inl rfl) 0 _).setCell (Or.inl rfl) 1 _).setCell (Or.inl rfl) 2 _).setCell (Or.inl rfl) 3 _;refine bodyPost_ret (v:=.agg #[.string t.name,.int .i64 t.limit,.slice (some ⟨g1,0,none⟩) t.mets.length d1,.slice sa KS.length sc]) (by simp [results,Tryz.results98,go_sem,b0,b1,b2,b3]) rfl ⟨w2.heap.size,some ⟨g1,0,none⟩,d1,sa,sc,by rw [hKS];rfl,by omega,?_,fun g o e=>(HG1.out g (by cases e;rfl)).1,?_,?_,?_⟩
   ·exact (lC (HTE.row HOM.out (fun q hq e=>by have:=(HOM.out.lt q hq).1;omega))).mono (by omega)
   ·rw [hKS];exact HTE.row HRF.out (fun q hq e=>by have:=(HRF.out.lt q hq).1;omega)
   ·have:=HTE.size;omega
   ·exact ((dA.of (S:=fun i=>w.heap.size≤i) HBW.out).trans' (HTE.mono fun i _ e=>by omega)).below (Nat.le_refl _) fun i hi h=>by omega
theorem ZS (t:cA) (a1 a2:Option Addr) (c1 c2:Nat) (now win:Int) (w:World) (p1:sA w a1 t.mets) (p2:sA w a2 t.sers) (hl1:t.mets.length≤2000000) (hl2:t.sers.length≤2000000) (hn0:0≤now) (hn1:now≤2000000000000) (hx:∀i (h:i<t.sers.length),0≤t.sers[i].n∧t.sers[i].n≤2000000000000):
 Calls Tryz.prog 98 #[.agg #[.string t.name,.int .i64 t.limit,.slice a1 t.mets.length c1,.slice a2 t.sers.length c2],.int .i64 now,.int .i64 win] w fun e w'=>oY w t.name (eD win now t) e w':=
 (AZ t a1 a2 c1 c2 now win w p1 p2 hl1 hl2 hn0 hn1 hx).mono fun _ _ h=>h.tel
end Go.Proofs.YtcneojllbkacoaaGreatDoor
