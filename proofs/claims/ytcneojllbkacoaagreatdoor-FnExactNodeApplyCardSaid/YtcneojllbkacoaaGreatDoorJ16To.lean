import Derived.Test.YtcneojllbkacoaaGreatDoorJ14Eq
import Derived.Test.YtcneojllbkacoaaGreatDoorJ10ISum
set_option maxRecDepth 100000
set_option maxHeartbeats 4000000
namespace Go.Proofs.YtcneojllbkacoaaGreatDoor
open Go.RowKit
theorem dG {s:ByteArray}{b:Bool} (h:lF s=b) (w:World) (hs:s.size≤maxLen):Calls Tryz.prog 104 #[.string s] w fun e w'=>e=.returned (.bool b)∧w'=w:=h ▸ FL s w hs
theorem JN (a:Option Addr) (cap:Nat) (fs:List eA) (c k0 cr fl:Int) (dn:Bool) (w:World) (hf:kA w a fs) (hs:qI fs) (hlen:fs.length≤maxLen) (hsum:aB fs≤1000000000):
 Calls Tryz.prog 103 #[.agg #[.slice a fs.length cap,.int .i64 c,.int .i64 k0,.int .i64 cr,.int .i64 fl,.bool dn]] w fun e w'=>e=.returned (.bool (sD fs c k0 cr fl))∧Below w.heap.size w w':=by
 obtain ⟨z0,z1,z2,z3,z4,z5⟩:=JY w (.slice a fs.length cap) (.int .i64 c) (.int .i64 k0) (.int .i64 cr) (.int .i64 fl) (.bool dn) 39;have d0:=pA.cells z0;have d1:=pA.cells z1;have d2:=pA.cells z2;have d3:=pA.cells z3;have d4:=pA.cells z4;have d5:=pA.cells z5;have hb0:Below w.heap.size w (w.alloc (.cells #[.slice a fs.length cap,.int .i64 c,.int .i64 k0,.int .i64 cr,.int .i64 fl,.bool dn] 39)):=(Below.refl _ _).alloc (Nat.le_refl _) _;have hne:=pA.there (w.alloc (.cells #[.slice a fs.length cap,.int .i64 c,.int .i64 k0,.int .i64 cr,.int .i64 fl,.bool dn] 39));have HFx:Hid (∀x:pA (w.alloc (.cells #[.slice a fs.length cap,.int .i64 c,.int .i64 k0,.int .i64 cr,.int .i64 fl,.bool dn] 39)),kA x.w' a fs):=fun x=>(hf.later hb0).later x.h;have HB:Hid (∀x:pA (w.alloc (.cells #[.slice a fs.length cap,.int .i64 c,.int .i64 k0,.int .i64 cr,.int .i64 fl,.bool dn] 39)),Below w.heap.size w x.w'):=fun x=>hb0.trans (x.h.mono hb0.size);have HS:Hid (qI fs):=hs;have HL:Hid _:=hlen;unfold maxLen at hlen;clear z0 z1 z2 z3 z4 z5 hb0 hf hs;by_cases hA0:(1000:Int)<fs.length
 ·have E:Hid (sD fs c k0 cr fl=false):=by
   show _=_;have e:decide (fs.length≤1000)=false:=by simp;omega
   simp only [sD,e,Bool.false_and]
  go_enter Tryz.func103,Tryz.ntmps103;go_wp2_with fail;refine fA (by kernel_rfl) (by kernel_rfl) ?_;repeat (go_big_quiet_step (fail))
  refine wpQuiet_nil ?_;rintro _ ⟨x,rfl⟩;go_wp2;go_ret;exact ⟨jA E.out.symm,HB.out x⟩
 have hA1:decide ((1000:Int)<fs.length)=false:=by simp;omega
 have hA2:decide (1000<fs.length)=false:=by simp;omega
 have qA:decide (fs.length≤1000)=true:=by simp;omega
 by_cases hB0:mA c 0 1000000000=false
 ·have E:Hid (sD fs c k0 cr fl=false):=by show _=_;simp only [sD,hB0,Bool.and_false,Bool.false_and]
  have HB1:Hid _:=hB0;clear hB0 qA;go_enter Tryz.func103,Tryz.ntmps103;go_wp2_with fail;refine fA (by kernel_rfl) (by kernel_rfl) ?_;repeat (go_big_quiet_step (first | (go_at_call 22;apply uA;apply gC;exact HB1.out)))
  refine wpQuiet_nil ?_;rintro _ ⟨x,rfl⟩;go_wp2;go_ret;exact ⟨jA E.out.symm,HB.out x⟩
 have qB:mA c 0 1000000000=true:=by simpa using hB0
 have HB1:Hid _:=qB;clear hB0;by_cases hC0:c<(aB fs:Int)
 ·have E:Hid (sD fs c k0 cr fl=false):=by
   show _=_;have e:decide ((aB fs:Int)≤c)=false:=by simp;omega
   simp only [sD,e,Bool.and_false,Bool.false_and]
  clear qA qB;go_enter Tryz.func103,Tryz.ntmps103;go_wp2_with fail;refine fA (by kernel_rfl) (by kernel_rfl) ?_;repeat (go_big_quiet_step (first | (go_at_call 22;apply uA;apply gC;exact HB1.out) | (go_at_call 139;exact oA (oS _ _ _ _ _ _ _ _ _ (HFx.out _) HL.out hsum))))
  refine wpQuiet_nil ?_;rintro _ ⟨x,rfl⟩;go_wp2;go_ret;exact ⟨jA E.out.symm,HB.out x⟩
 have hC1:decide (c<(aB fs:Int))=false:=by simp;omega
 have qC:decide ((aB fs:Int)≤c)=true:=by simp;omega
 have E:Hid (sD fs c k0 cr fl=(oF fs&&mA k0 0 1000000000000000&&mA cr 0 1000000000000000&&mA fl 0 1000000000000000)):=by show _=_;simp only [sD,qA,qB,qC,Bool.true_and,Bool.and_true]
 clear qA qB qC;go_enter Tryz.func103,Tryz.ntmps103;go_wp2_with fail;refine fA (by kernel_rfl) (by kernel_rfl) ?_;repeat (go_big_quiet_step (first | (go_at_call 22;apply uA;apply gC;exact HB1.out) | (go_at_call 139;exact oA (oS _ _ _ _ _ _ _ _ _ (HFx.out _) HL.out hsum))))
 refine wpQuiet_nil ?_;rintro _ ⟨x,rfl⟩;have HF:Hid (kA x.w' a fs):=HFx.out x;have HBx:Hid (Below w.heap.size w x.w'):=HB.out x;have hbox:w.heap.size<x.w'.heap.size:=by have:=x.h.size;simp at this;omega
 have e0:=d0 x;have e1:=d1 x;have e2:=d2 x;have e3:=d3 x;have e4:=d4 x;clear d0 d1 d2 d3 d4 d5 HFx HB hne HB1;generalize x.w'=W at *;clear x;have HC:Hid (∀wr,Below W.heap.size W wr→wr.cell? ⟨w.heap.size,0,none⟩=some (.slice a fs.length cap)∧wr.cell? ⟨w.heap.size,2,none⟩=some (.int .i64 k0)∧
  wr.cell? ⟨w.heap.size,3,none⟩=some (.int .i64 cr)∧wr.cell? ⟨w.heap.size,4,none⟩=some (.int .i64 fl)):=fun wr h=>
  ⟨(h.cell hbox).trans e0,(h.cell hbox).trans e2,(h.cell hbox).trans e3,(h.cell hbox).trans e4⟩
 go_wp2;go_loopw [3,4,25] (fun _ _ i wr=>∃k:Nat,k≤fs.length∧i=.int .i64 k∧bO fs k=true∧Below W.heap.size W wr) (fun _ _ i _=>fs.length - (intOf i).toNat)
 case atStart=>exact ⟨0,Nat.zero_le _,rfl,rfl,Below.refl _ _⟩
 case round=>
  obtain ⟨k,hk,rfl,hok,hbel⟩:=hrel;obtain ⟨e0',e2',e3',e4'⟩:=HC.out wr hbel;have HOK:Hid _:=hok;have HBw:Hid _:=HBx.out.trans (hbel.mono (Nat.le_of_lt hbox));have HSZ:w.heap.size<wr.heap.size:=by have:=hbel.size;omega
  have hsz2:¬w.heap.size=wr.heap.size:=by omega
  clear hok e0 e1 e2 e3 e4 HBx HC;by_cases hlt:k<fs.length
  ·obtain ⟨b,o,rfl,hb,c0,c1,c2⟩:=(HF.out.later hbel).at hlt;have hsh:=(HS.out k hlt).1;have hsd:=(HS.out k hlt).2;have HSH:Hid _:=hsh;unfold maxLen at hsd;clear hsh;by_cases hn:lF fs[k].name=false
   ·have hat:iP fs k=false:=by simp [iP,List.getElem?_eq_getElem hlt,xJ,hn]
    have HT:Hid _:=sS hat hlt;have HN:Hid _:=hn;clear hat hn;go_wp2_with (first | (go_at_call 104;refine (dG HN.out _ HSH.out).mono ?_;rintro e w' ⟨rfl,rfl⟩));go_ret;exact ⟨jA (by rw [E.out,oF,HT.out];simp),HBw.out.alloc (Nat.le_of_lt HSZ) _⟩
   ·have hn':lF fs[k].name=true:=by simpa using hn
    have HN:Hid _:=hn';by_cases hs2:mA fs[k].synced 0 fs[k].data.size=false
    ·have hat:iP fs k=false:=by simp [iP,List.getElem?_eq_getElem hlt,xJ,hs2]
     have HT:Hid _:=sS hat hlt;have HN2:Hid _:=hs2;clear hat hn hn' hs2;go_wp2_with (first | (go_at_call 104;refine (dG HN.out _ HSH.out).mono ?_;rintro e w' ⟨rfl,rfl⟩) | (go_at_call 22;refine (gC HN2.out _).mono ?_;rintro e w' ⟨rfl,rfl⟩));go_ret;exact ⟨jA (by rw [E.out,oF,HT.out];simp),HBw.out.alloc (Nat.le_of_lt HSZ) _⟩
    ·have hs2':mA fs[k].synced 0 fs[k].data.size=true:=by simpa using hs2
     have HN2:Hid _:=hs2';have hfb:xJ fs[k]=true:=by simp [xJ,hn',hs2']
     clear hn hn' hs2 hs2';by_cases hk0:(0:Int)<k
     ·obtain ⟨b2,o2,e2,q1,c0',q2,q3⟩:=(HF.out.later hbel).at (i:=k - 1) (by omega)
      simp only [Option.some.injEq,Addr.mk.injEq,and_true] at e2;obtain ⟨rfl,rfl⟩:=e2;have hat:iP fs k=Op.bytesLess fs[k - 1].name.toList fs[k].name.toList:=by
       obtain ⟨j,rfl⟩:∃j,k=j+1:=⟨k - 1,by omega⟩
       simp [iP,List.getElem?_eq_getElem hlt,List.getElem?_eq_getElem (show j<fs.length by omega),hfb]
      generalize fs[k - 1].name=gn at c0' hat;have hk1:0<k:=by omega
      have hb3:¬b=wr.heap.size:=by omega
      clear q1 q2 q3 hfb;by_cases hl:Op.bytesLess gn.toList fs[k].name.toList=true
      ·have HT:Hid (bO fs (k+1)=true):=by show bO fs (k+1)=true;rw [mT,HOK.out,hat,hl];rfl
       clear hat;go_wp2_with (first | (go_at_call 104;refine (dG HN.out _ HSH.out).mono ?_;rintro e w' ⟨rfl,rfl⟩) | (go_at_call 22;refine (gC HN2.out _).mono ?_;rintro e w' ⟨rfl,rfl⟩));go_quiet (fail)
       go_wp2;exact ⟨⟨k+1,by omega,by go_num,HT.out,below_drewN (hbel.alloc hbel.size _) _⟩,by simp [intOf];omega⟩
      ·have hl':Op.bytesLess gn.toList fs[k].name.toList=false:=by simpa using hl
       have HT:Hid _:=sS (by rw [hat];exact hl') hlt;clear hat hl;go_wp2_with (first | (go_at_call 104;refine (dG HN.out _ HSH.out).mono ?_;rintro e w' ⟨rfl,rfl⟩) | (go_at_call 22;refine (gC HN2.out _).mono ?_;rintro e w' ⟨rfl,rfl⟩));go_quiet (fail)
       go_wp2;go_ret;exact ⟨jA (by rw [E.out,oF,HT.out];simp),below_drewN (HBw.out.alloc (Nat.le_of_lt HSZ) _) _⟩
     ·have hat:iP fs k=true:=by
       obtain rfl:k=0:=by omega
       simp [iP,List.getElem?_eq_getElem hlt,hfb]
      have HT:Hid (bO fs (k+1)=true):=by show bO fs (k+1)=true;rw [mT,HOK.out,hat];rfl
      have hk1:decide (0<k)=false:=by simp;omega
      clear hat hfb;go_wp2_with (first | (go_at_call 104;refine (dG HN.out _ HSH.out).mono ?_;rintro e w' ⟨rfl,rfl⟩) | (go_at_call 22;refine (gC HN2.out _).mono ?_;rintro e w' ⟨rfl,rfl⟩));go_quiet (fail)
      go_wp2;exact ⟨⟨k+1,by omega,by go_num,HT.out,below_drewN (hbel.alloc hbel.size _) _⟩,by simp [intOf];omega⟩
  ·have ek:k=fs.length:=by omega
   have E2:Hid (sD fs c k0 cr fl=(mA k0 0 1000000000000000&&mA cr 0 1000000000000000&&mA fl 0 1000000000000000)):=by
    show _=_;have:=HOK.out;rw [ek] at this;rw [E.out,oF,this,Bool.true_and]
   by_cases h1:mA k0 0 1000000000000000=false
   ·have H1:Hid _:=h1;clear h1;go_wp2_with (first | (go_at_call 22;refine (gC H1.out _).mono ?_;rintro e w' ⟨rfl,rfl⟩));go_ret;exact ⟨jA (by rw [E2.out,H1.out];rfl),HBw.out⟩
   have H1:Hid (mA k0 0 1000000000000000=true):=by show _=_;simpa using h1
   clear h1;by_cases h2:mA cr 0 1000000000000000=false
   ·have H2:Hid _:=h2;clear h2;go_wp2_with fail;refine (gC H1.out _).mono ?_;rintro e w' ⟨rfl,rfl⟩;go_wp2_with fail;refine (gC H2.out _).mono ?_;rintro e w' ⟨rfl,rfl⟩;go_wp2;go_ret;exact ⟨jA (by rw [E2.out,H1.out,H2.out];rfl),HBw.out⟩
   have H2:Hid (mA cr 0 1000000000000000=true):=by show _=_;simpa using h2
   clear h2;go_wp2_with fail;refine (gC H1.out _).mono ?_;rintro e w' ⟨rfl,rfl⟩;go_wp2_with fail;refine (gC H2.out _).mono ?_;rintro e w' ⟨rfl,rfl⟩;go_wp2_with fail;refine (sC _ _ _ _).mono ?_;rintro e w' ⟨rfl,rfl⟩;go_wp2;go_ret;exact ⟨jA (by rw [E2.out,H1.out,H2.out];rfl),HBw.out⟩
theorem yW {a:Option Addr}{cap:Nat}{fs:List eA}{c k cr fl:Int}{dn b:Bool} (h:sD fs c k cr fl=b) (w:World) (hf:kA w a fs) (hs:qI fs) (hlen:fs.length≤maxLen) (hsum:aB fs≤1000000000):
 Calls Tryz.prog 82 #[.agg #[.slice a fs.length cap,.int .i64 c,.int .i64 k,.int .i64 cr,.int .i64 fl,.bool dn]] w fun e w'=>e=.returned (.bool b)∧Below w.heap.size w w':=h ▸ IX a cap fs c k cr fl dn w hf hs hlen hsum
theorem cY {a:Option Addr}{cap:Nat}{fs:List eA}{c k cr fl:Int}{dn b:Bool} (h:sD fs c k cr fl=b) (w:World) (hf:kA w a fs) (hs:qI fs) (hlen:fs.length≤maxLen) (hsum:aB fs≤1000000000):
 Calls Tryz.prog 103 #[.agg #[.slice a fs.length cap,.int .i64 c,.int .i64 k,.int .i64 cr,.int .i64 fl,.bool dn]] w fun e w'=>e=.returned (.bool b)∧Below w.heap.size w w':=h ▸ JN a cap fs c k cr fl dn w hf hs hlen hsum
theorem qL {fs:List eA}{c k cr fl:Int} (h:sD fs c k cr fl=true):oF fs=true∧fs.length≤1000∧0≤c∧c≤1000000000∧(aB fs:Int)≤c∧0≤k∧k≤1000000000000000∧0≤cr∧cr≤1000000000000000∧0≤fl∧fl≤1000000000000000:=by
 simp only [sD,mA,Bool.and_eq_true,decide_eq_true_eq] at h;obtain ⟨⟨⟨⟨⟨⟨h1,h2⟩,h3,h4⟩,h5⟩,h6,h7⟩,h8,h9⟩,h10,h11⟩:=h;exact ⟨h2,h1,h3,h4,h5,h6,h7,h8,h9,h10,h11⟩
structure cE where
 fs:List eA
 c:Int
 k:Int
 cr:Int
 fl:Int
 dn:Bool
structure fF where
 first:Int
 last:Int
 size:Int
structure bD where
 d:cE
 l:fF
 now:Int
 ts:List cA
 lsn:Int
 deg:Bool
 up:Bool
theorem lA.n14 {w:World}{b:Nat}{v0 v1 v2 v3 v4 v5 v6 v7 v8 v9 va vb vc vd:Value}{t:TypeId} (h:lA w b #[v0,v1,v2,v3,v4,v5,v6,v7,v8,v9,va,vb,vc,vd] t):
 w.cell? ⟨b,0,none⟩=some v0∧w.cell? ⟨b,1,none⟩=some v1∧w.cell? ⟨b,2,none⟩=some v2∧w.cell? ⟨b,3,none⟩=some v3∧w.cell? ⟨b,4,none⟩=some v4∧w.cell? ⟨b,5,none⟩=some v5∧w.cell? ⟨b,6,none⟩=some v6∧
 w.cell? ⟨b,7,none⟩=some v7∧w.cell? ⟨b,8,none⟩=some v8∧w.cell? ⟨b,9,none⟩=some v9∧w.cell? ⟨b,10,none⟩=some va∧w.cell? ⟨b,11,none⟩=some vb∧w.cell? ⟨b,12,none⟩=some vc∧w.cell? ⟨b,13,none⟩=some vd:=by
 refine ⟨?_,?_,?_,?_,?_,?_,?_,?_,?_,?_,?_,?_,?_,?_⟩<;>(rw [lA.cell h];rfl)
theorem lA.frees {w:World}{b:Nat}{cs:Array Value}{t:TypeId} (h:lA w b cs t):w.frozen? ⟨b,0,none⟩=false∧w.frozen? ⟨b,1,none⟩=false∧w.frozen? ⟨b,2,none⟩=false∧w.frozen? ⟨b,3,none⟩=false∧w.frozen? ⟨b,4,none⟩=false∧w.frozen? ⟨b,5,none⟩=false∧w.frozen? ⟨b,6,none⟩=false∧
 w.frozen? ⟨b,7,none⟩=false∧w.frozen? ⟨b,8,none⟩=false∧w.frozen? ⟨b,9,none⟩=false∧w.frozen? ⟨b,10,none⟩=false∧w.frozen? ⟨b,11,none⟩=false∧w.frozen? ⟨b,12,none⟩=false∧w.frozen? ⟨b,13,none⟩=false:=
 ⟨h.free 0,h.free 1,h.free 2,h.free 3,h.free 4,h.free 5,h.free 6,h.free 7,h.free 8,h.free 9,h.free 10,h.free 11,h.free 12,h.free 13⟩
theorem aBx {C:World→Prop}{w:World}{O:Nat}{v0 v1 v2 v3 v4 v5 v6 v7 v8 v9 va vb vc vd u0 u1 u2 u3 u4 u5:Value}{t:TypeId} (h:lA w O #[v0,v1,v2,v3,v4,v5,v6,v7,v8,v9,va,vb,vc,vd] t)
 (k:∀w2,lA w2 O #[u0,u1,u2,u3,u4,u5,v6,v7,v8,v9,va,vb,vc,vd] t→dA (·=O) w w2→C w2):C ((((((w.setCell ⟨O,0,none⟩ u0).setCell ⟨O,1,none⟩ u1).setCell ⟨O,2,none⟩ u2).setCell ⟨O,3,none⟩ u3).setCell ⟨O,4,none⟩ u4).setCell ⟨O,5,none⟩ u5):=
 k _ (by have:=((((((h.set 0 u0).set 1 u1).set 2 u2).set 3 u3).set 4 u4).set 5 u5);simpa using this) (((((((dA.refl (·=O) w).setCell (Or.inl rfl) 0 u0).setCell (Or.inl rfl) 1 u1).setCell (Or.inl rfl) 2 u2).setCell (Or.inl rfl) 3 u3).setCell (Or.inl rfl) 4 u4).setCell (Or.inl rfl) 5 u5)
theorem aLv {C:World→Prop}{w:World}{O:Nat}{v0 v1 v2 v3 v4 v5 v6 v7 v8 v9 va vb vc vd u6 u7 u8:Value}{t:TypeId} (h:lA w O #[v0,v1,v2,v3,v4,v5,v6,v7,v8,v9,va,vb,vc,vd] t)
 (k:∀w2,lA w2 O #[v0,v1,v2,v3,v4,v5,u6,u7,u8,v9,va,vb,vc,vd] t→dA (·=O) w w2→C w2):C (((w.setCell ⟨O,6,none⟩ u6).setCell ⟨O,7,none⟩ u7).setCell ⟨O,8,none⟩ u8):=
 k _ (by have:=(((h.set 6 u6).set 7 u7).set 8 u8);simpa using this) ((((dA.refl (·=O) w).setCell (Or.inl rfl) 6 u6).setCell (Or.inl rfl) 7 u7).setCell (Or.inl rfl) 8 u8)
theorem TZ (s:ByteArray) (w:World) (hs:s.size≤maxLen):
 Calls Tryz.prog 128 #[.string s] w fun e w'=>e=.returned (.int .i64 (uQ s:Nat))∧Below w.heap.size w w':=by
 have HS:Hid (s.size≤maxLen):=hs;clear hs;go_enter Tryz.func128,Tryz.ntmps128;go_wp2_with fail;refine (VG _).mono ?_;rintro e w1 ⟨b,cur,rfl,_,hB,hcur,hb1⟩;have HB:Hid (lA w1 b cur 299∧(∀i,i<256→cur[i]?=some (.int .u32 (YN i:Nat)))∧Below w.heap.size w w1):=⟨hB,hcur,hb1⟩
 clear hB hcur hb1;go_wp2_with fail;refine (aBh b cur s _ HS.out HB.out.1 HB.out.2.1).mono ?_;rintro e w2 ⟨rfl,hb2⟩;have HB2:Hid (Below w.heap.size w w2):=rA HB.out.2.2 hb2;clear hb2;go_wp2;go_ret;exact ⟨rfl,HB2.out⟩
theorem SP (w:World) (n:Int):(convert 102 9 (.slice (some ⟨w.heap.size,0,none⟩) 1 1)).run Tryz.prog (w.alloc (.cells #[.int .u8 n] 5))=.ok (.string ⟨#[UInt8.ofNat n.toNat]⟩) (w.alloc (.cells #[.int .u8 n] 5)):=by
 rw [run_convert_bytes_string _ 102 9 5 _ 1 1 Tryz.underlying102 Tryz.underlying5 Tryz.underlying9,run_bytesToString _ _ 1 1 [n] (by simp [go_sem,loadCells])];rfl
theorem QL (c:UInt8) (s:ByteArray):((⟨#[c]⟩:ByteArray)++s).data.toList=c :: s.data.toList:=by
 simp
theorem dY (c:UInt8) (s:ByteArray):((⟨#[c]⟩:ByteArray)++s).size=s.size+1:=by
 rw [ByteArray.size_append];show 1+s.size=_;omega
theorem LV (s:ByteArray) (l:List UInt8) (h:s.data.toList=l):s=⟨l.toArray⟩:=by
 subst h;simp
theorem aBl (nm da:ByteArray) (sy:Int) (w:World):
 Calls Tryz.prog 106 #[.agg #[.string nm,.string da,.int .i64 sy]] w fun e w'=>e=.returned (.agg #[.string nm,.string da,.int .i64 sy])∧Below w.heap.size w w':=by
 go_enter Tryz.func106,Tryz.ntmps106;go_wp2;exact bodyPost_ret (v:=.agg #[.string nm,.string da,.int .i64 sy]) (by simp [results,Tryz.results106,go_sem]) rfl ⟨rfl,(((Below.refl _ _).alloc (Nat.le_refl _) _).alloc (by simp) _).alloc (by simp;omega) _⟩
theorem aEw:(Tryz.prog.info? 116).map (fun i=>(i.zero,i.size,i.bytes))=some (some (.agg #[.string ByteArray.empty,.string ByteArray.empty,.int .i64 0]),3,40):=by kernel_rfl
theorem ZZ (n:Nat) (hn:n≤1048576) (w:World):
 (Instr.makeSlice 37 (.int .i64 (n:Int)) (.int .i64 (n:Int))).run Tryz.prog w=.ok (.slice (some ⟨w.heap.size,0,none⟩) n n) (w.alloc (.cells (madeCells #[.string ByteArray.empty,.string ByteArray.empty,.int .i64 0] (n * 3)) 116)):=by
 obtain ⟨i,hi,hzz⟩:=Option.map_eq_some_iff.1 aEw;simp only [Prod.mk.injEq] at hzz;obtain ⟨hz,hs,hb⟩:=hzz;have hr:=run_make (P:=Tryz.prog) w 37 116 i _ Tryz.underlying37 hi hz .i64 .i64 n n (by omega) (Int.le_refl _) (by rw [hb];omega) (by omega);simp only [Int.toNat_natCast,hs] at hr;exact hr
def lY (w:World) (g n:Nat) (fs:List eA) (k:Nat):Prop:=∃cur:Array Value,w.heap[g]?=some (.cells cur 116 (0,0))∧cur.size=n * 3∧
 ∀i (h:i<fs.length),i<k→cur[i * 3]?=some (.string fs[i].name)∧cur[i * 3+1]?=some (.string fs[i].data)∧cur[i * 3+2]?=some (.int .i64 fs[i].synced)
theorem lY.later {w w':World}{g n k:Nat}{fs:List eA}{B:Nat} (h:lY w g n fs k) (hb:Below B w w') (hg:g<B):lY w' g n fs k:=by
 obtain ⟨cur,h1,h2⟩:=h;exact ⟨cur,by rw [hb.block g hg];exact h1,h2⟩
theorem lY.cells {w:World}{g n k:Nat}{fs:List eA} (h:lY w g n fs k){j:Nat} (hj:j<n * 3):(∃v,w.cell? ⟨g,j,none⟩=some v)∧w.frozen? ⟨g,j,none⟩=false:=by
 obtain ⟨cur,h1,h2,_⟩:=h;refine ⟨⟨cur[j],?_⟩,frozen_of_row w g j cur _ h1⟩;rw [cell_of_row w g j cur _ _ h1];exact Array.getElem?_eq_getElem (by omega)
theorem lY.step {w:World}{g n k:Nat}{fs:List eA} (h:lY w g n fs k) (hk:k<fs.length) (hn:fs.length≤n):
 lY (((w.setCell ⟨g,k * 3,none⟩ (.string fs[k].name)).setCell ⟨g,k * 3+1,none⟩ (.string fs[k].data)).setCell ⟨g,k * 3+2,none⟩ (.int .i64 fs[k].synced)) g n fs (k+1):=by
 obtain ⟨cur,h1,h2,h3⟩:=h;refine ⟨_,heap_setCell_same _ _ _ _ _ _ (heap_setCell_same _ _ _ _ _ _ (heap_setCell_same _ _ _ _ _ _ h1)),by simp [h2],fun i hi hlt=>?_⟩;by_cases e:i=k
 ·subst e;refine ⟨?_,?_,?_⟩<;>simp [Array.getElem?_setIfInBounds]<;>omega
 ·obtain ⟨a1,a2,a3⟩:=h3 i hi (by omega);refine ⟨?_,?_,?_⟩
  ·rw [Array.getElem?_setIfInBounds_ne (by omega),Array.getElem?_setIfInBounds_ne (by omega),Array.getElem?_setIfInBounds_ne (by omega)];exact a1
  ·rw [Array.getElem?_setIfInBounds_ne (by omega),Array.getElem?_setIfInBounds_ne (by omega),Array.getElem?_setIfInBounds_ne (by omega)];exact a2
  ·rw [Array.getElem?_setIfInBounds_ne (by omega),Array.getElem?_setIfInBounds_ne (by omega),Array.getElem?_setIfInBounds_ne (by omega)];exact a3
theorem lY.done {w:World}{g:Nat}{fs:List eA} (h:lY w g fs.length fs fs.length):kA w (some ⟨g,0,none⟩) fs:=by
 obtain ⟨cur,h1,h2,h3⟩:=h;have hg:g<w.heap.size:=by
  rcases Nat.lt_or_ge g w.heap.size with h | h
  ·exact h
  ·rw [Array.getElem?_eq_none h] at h1;exact absurd h1 (by simp)
 refine Or.inr ⟨g,0,rfl,hg,fun i hi=>?_⟩;obtain ⟨a1,a2,a3⟩:=h3 i hi hi;simp only [cell_of_row w g _ cur _ _ h1,Nat.zero_add];exact ⟨a1,a2,a3⟩
theorem XN (a:Option Addr) (cap:Nat) (fs:List eA) (w:World) (hf:kA w a fs) (hlen:fs.length≤1048576):
 Calls Tryz.prog 63 #[.slice a fs.length cap] w fun e w'=>e=.returned (.slice (some ⟨w.heap.size,0,none⟩) fs.length fs.length)∧(∃cur t,w'.heap[w.heap.size]?=some (.cells cur t (0,0)))∧kA w' (some ⟨w.heap.size,0,none⟩) fs∧Below w.heap.size w w':=by
 have HF:Hid (kA w a fs):=hf;clear hf;have hmk:=ZZ fs.length hlen;go_enter Tryz.func63,Tryz.ntmps63;go_wp2;go_loopw [4] (fun i wr=>∃k:Nat,k≤fs.length∧i=.int .i64 k∧lY wr w.heap.size fs.length fs k∧Below w.heap.size w wr∧w.heap.size<wr.heap.size) (fun i _=>fs.length - (intOf i).toNat)
 case atStart=>exact ⟨0,Nat.zero_le _,rfl,⟨_,heap_alloc_new _ _,size_madeCells _ _,fun i _ h=>absurd h (by omega)⟩,(Below.refl _ _).alloc (Nat.le_refl _) _,by simp⟩
 case round=>
  obtain ⟨k,hk,rfl,hfill,hbel,hsz⟩:=hrel;have HFill:Hid (lY wr w.heap.size fs.length fs k):=hfill;clear hfill hmk;by_cases hlt:k<fs.length
  ·obtain ⟨b,o,rfl,hb,c0,c1,c2⟩:=(HF.out.later hbel).at hlt;go_wp2_with fail;refine (aBl _ _ _ _).mono ?_;rintro e w' ⟨rfl,hb2⟩;have hF2:=HFill.out.later hb2 hsz;obtain ⟨⟨v0,d0⟩,f0⟩:=hF2.cells (j:=k * 3) (by omega);obtain ⟨⟨v1,d1⟩,f1⟩:=hF2.cells (j:=k * 3+1) (by omega);obtain ⟨⟨v2,d2⟩,f2⟩:=hF2.cells (j:=k * 3+2) (by omega);have HF2:Hid (lY w' w.heap.size fs.length fs k):=hF2;clear hF2;go_wp2;exact ⟨⟨k+1,by omega,by go_num,HF2.out.step hlt (Nat.le_refl _),(((hbel.trans (hb2.mono hbel.size)).setCell (Nat.le_refl _) _).setCell (Nat.le_refl _) _).setCell (Nat.le_refl _) _,by have:=hb2.size;simp;omega⟩,by simp [intOf];omega⟩
  ·go_wp2;go_ret;have e:k=fs.length:=by omega
   exact ⟨rfl,by obtain ⟨cur,h,_⟩:=HFill.out;exact ⟨cur,_,h⟩,by have:=HFill.out;rw [e] at this;exact this.done,hbel⟩
theorem aBk (a:Option Addr) (cap:Nat) (fs:List eA) (c k cr fl:Int) (dn:Bool) (w:World) (hf:kA w a fs) (hlen:fs.length≤1048576):
 Calls Tryz.prog 26 #[.agg #[.slice a fs.length cap,.int .i64 c,.int .i64 k,.int .i64 cr,.int .i64 fl,.bool dn]] w fun e w'=>
  ∃g,e=.returned (.agg #[.slice (some ⟨g,0,none⟩) fs.length fs.length,.int .i64 c,.int .i64 k,.int .i64 cr,.int .i64 fl,.bool dn])∧w.heap.size≤g∧(∃cur t,w'.heap[g]?=some (.cells cur t (0,0)))∧kA w' (some ⟨g,0,none⟩) fs∧Below w.heap.size w w':=by
 have HF:Hid (kA w a fs):=hf;clear hf;go_enter Tryz.func26,Tryz.ntmps26;go_wp2_with fail;refine (XN a cap fs _ (HF.out.later ((((Below.refl _ _).alloc (Nat.le_refl _) _).alloc (by simp) _).alloc (by simp;omega) _)) hlen).mono ?_;rintro e w' ⟨rfl,hx1,hf1,hb1⟩;have HX1:Hid (∃cur t,w'.heap[w.heap.size+1+1+1]?=some (.cells cur t (0,0))):=by show ∃_,_;simpa using hx1
 clear hx1;obtain ⟨hc,hz⟩:=aBz hb1;have hf2:kA w' (some ⟨w.heap.size+1+1+1,0,none⟩) fs:=by simpa using hf1
 have HF1:Hid (kA w' (some ⟨w.heap.size+1+1+1,0,none⟩) fs):=hf2;clear hf2;clear hf1;have hb0:Below w.heap.size w w':=((((Below.refl _ _).alloc (Nat.le_refl _) _).alloc (by simp) _).alloc (by simp;omega) _).trans (hb1.mono (by simp;omega));have HB:Hid (Below w.heap.size w w'):=hb0;clear hb0 hb1;go_wp2;refine bodyPost_ret (v:=.agg #[.slice (some ⟨w.heap.size+1+1+1,0,none⟩) fs.length fs.length,.int .i64 c,.int .i64 k,.int .i64 cr,.int .i64 fl,.bool dn]) (by simp [results,Tryz.results26,go_sem,hc]) rfl ⟨w.heap.size+1+1+1,rfl,by omega,?_,?_,?_⟩
 ·obtain ⟨cu,tt,hx⟩:=HX1.out;refine ⟨cu,tt,?_⟩;iterate 12 (refine (Below.heap_setCell _ _ _ _ (by first | omega | (simp;done) | (simp;omega))).trans ?_)
  exact hx
 ·have h:=HF1.out;iterate 12 (refine kA.setCell ?_ (by simp) _)
  exact h
 ·have h:=HB.out;iterate 12 (refine Below.setCell ?_ (by first | (simp;done) | (simp;omega)) _)
  exact h
end Go.Proofs.YtcneojllbkacoaaGreatDoor
