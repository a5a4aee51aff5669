import Derived.Test.YtcneojllbkacoaaGreatDoorJ09Fv
set_option maxHeartbeats 4000000
namespace Go.Proofs.YtcneojllbkacoaaGreatDoor
open Go.RowKit
theorem yG (a:Option Addr) (cap:Nat) (fs:List eA) (w:World) (hf:kA w a fs) (hlen:fs.length≤maxLen) (hsum:aB fs≤1000000000):
 Calls Tryz.prog 125 #[.slice a fs.length cap] w fun e w'=>e=.returned (.int .i64 (aB fs))∧Below w.heap.size w w':=by
 unfold maxLen at hlen;have HF:Hid (kA w a fs):=hf;clear hf;go_enter Tryz.func125,Tryz.ntmps125;go_wp2;go_loopw [3,8,5] (fun s i _ wr=>∃k:Nat,k≤fs.length∧i=.int .i64 k∧s=.int .i64 (aB (fs.take k))∧Below w.heap.size w wr) (fun _ i _ _=>fs.length - (intOf i).toNat)
 case atStart=>exact ⟨0,Nat.zero_le _,rfl,rfl,Below.refl _ _⟩
 case round=>
  obtain ⟨k,hk,rfl,rfl,hbel⟩:=hrel;have hl1:=xE fs k;by_cases hlt:k<fs.length
  ·obtain ⟨b,o,rfl,hb,c0,c1,c2⟩:=(HF.out.later hbel).at hlt;have hts:=nF fs k hlt;have htl:=xE fs (k+1);have hd:fs[k].data.size≤1000000000:=by omega
   have HS:Hid (aB (fs.take (k+1))=aB (fs.take k)+fs[k].data.size):=hts;clear hts;go_wp2;exact ⟨⟨k+1,by omega,by go_num,by rw [HS.out];go_num,hbel.alloc hbel.size _⟩,by simp [intOf];omega⟩
  ·go_wp2;go_ret;have e:fs.take k=fs:=List.take_of_length_le (by omega);exact ⟨jB (by rw [e]),hbel⟩
theorem oS (a:Option Addr) (cap:Nat) (fs:List eA) (c k0 cr fl:Int) (dn:Bool) (w:World) (hf:kA w a fs) (hlen:fs.length≤maxLen) (hsum:aB fs≤1000000000):
 Calls Tryz.prog 139 #[.agg #[.slice a fs.length cap,.int .i64 c,.int .i64 k0,.int .i64 cr,.int .i64 fl,.bool dn]] w fun e w'=>e=.returned (.int .i64 (aB fs))∧Below w.heap.size w w':=by
 unfold maxLen at hlen;have HF:Hid (kA w a fs):=hf;clear hf;go_enter Tryz.func139,Tryz.ntmps139;go_wp2;go_loopw [3,9,5] (fun s i _ wr=>∃k:Nat,k≤fs.length∧i=.int .i64 k∧s=.int .i64 (aB (fs.take k))∧Below w.heap.size w wr) (fun _ i _ _=>fs.length - (intOf i).toNat)
 case atStart=>exact ⟨0,Nat.zero_le _,rfl,rfl,(Below.refl _ _).alloc (Nat.le_refl _) _⟩
 case round=>
  obtain ⟨k,hk,rfl,rfl,hbel⟩:=hrel;have hl1:=xE fs k;by_cases hlt:k<fs.length
  ·obtain ⟨b,o,rfl,hb,c0,c1,c2⟩:=(HF.out.later hbel).at hlt;have hts:=nF fs k hlt;have htl:=xE fs (k+1);have hd:fs[k].data.size≤1000000000:=by omega
   have HS:Hid (aB (fs.take (k+1))=aB (fs.take k)+fs[k].data.size):=hts;clear hts;go_wp2;exact ⟨⟨k+1,by omega,by go_num,by rw [HS.out];go_num,hbel.alloc hbel.size _⟩,by simp [intOf];omega⟩
  ·go_wp2;go_ret;have e:fs.take k=fs:=List.take_of_length_le (by omega);exact ⟨jB (by rw [e]),hbel⟩
theorem qJ {x hi:Int}{b:Bool} (h:mA x 0 hi=b) (w:World):Calls Tryz.prog 34 #[.int .i64 x,.int .i64 hi] w fun e w'=>e=.returned (.bool b)∧w'=w:=h ▸ rD x hi w
theorem nH {a:Option Addr}{cap:Nat}{fs:List eA}{b:Bool} (h:(decide (fs.length≤1000) &&oF fs)=b) (w:World) (hf:kA w a fs) (hs:qI fs) (hlen:fs.length≤maxLen):
 Calls Tryz.prog 124 #[.slice a fs.length cap] w fun e w'=>e=.returned (.bool b)∧Below w.heap.size w w':=h ▸ ES a cap fs w hf hs hlen
def sD (fs:List eA) (c k cr fl:Int):Bool:=
 (decide (fs.length≤1000) &&oF fs) &&mA c 0 1000000000&&decide ((aB fs:Int)≤c) &&mA k 0 1000000000000000&&mA cr 0 1000000000000000&&mA fl 0 1000000000000000
theorem JY (w:World) (v0 v1 v2 v3 v4 v5:Value) (t:TypeId):let W:=w.alloc (.cells #[v0,v1,v2,v3,v4,v5] t)
 W.cell? ⟨w.heap.size,0,none⟩=some v0∧W.cell? ⟨w.heap.size,1,none⟩=some v1∧W.cell? ⟨w.heap.size,2,none⟩=some v2∧
 W.cell? ⟨w.heap.size,3,none⟩=some v3∧W.cell? ⟨w.heap.size,4,none⟩=some v4∧W.cell? ⟨w.heap.size,5,none⟩=some v5:=by
 simp [go_sem]
theorem IX (a:Option Addr) (cap:Nat) (fs:List eA) (c k cr fl:Int) (dn:Bool) (w:World) (hf:kA w a fs) (hs:qI fs) (hlen:fs.length≤maxLen) (hsum:aB fs≤1000000000):
 Calls Tryz.prog 82 #[.agg #[.slice a fs.length cap,.int .i64 c,.int .i64 k,.int .i64 cr,.int .i64 fl,.bool dn]] w fun e w'=>e=.returned (.bool (sD fs c k cr fl))∧Below w.heap.size w w':=by
 obtain ⟨k0,k1,k2,k3,k4,k5⟩:=JY w (.slice a fs.length cap) (.int .i64 c) (.int .i64 k) (.int .i64 cr) (.int .i64 fl) (.bool dn) 39;have d0:=pA.cells k0;have d1:=pA.cells k1;have d2:=pA.cells k2;have d3:=pA.cells k3;have d4:=pA.cells k4;have hb0:Below w.heap.size w (w.alloc (.cells #[.slice a fs.length cap,.int .i64 c,.int .i64 k,.int .i64 cr,.int .i64 fl,.bool dn] 39)):=(Below.refl _ _).alloc (Nat.le_refl _) _;have hne:=pA.there (w.alloc (.cells #[.slice a fs.length cap,.int .i64 c,.int .i64 k,.int .i64 cr,.int .i64 fl,.bool dn] 39));have HFx:Hid (∀x:pA (w.alloc (.cells #[.slice a fs.length cap,.int .i64 c,.int .i64 k,.int .i64 cr,.int .i64 fl,.bool dn] 39)),kA x.w' a fs):=fun x=>(hf.later hb0).later x.h;have HB:Hid (∀x:pA (w.alloc (.cells #[.slice a fs.length cap,.int .i64 c,.int .i64 k,.int .i64 cr,.int .i64 fl,.bool dn] 39)),Below w.heap.size w x.w'):=fun x=>hb0.trans (x.h.mono hb0.size);have HS:Hid (qI fs):=hs;have HL:Hid _:=hlen;clear k0 k1 k2 k3 k4 k5 hb0 hf hs hlen;by_cases hA0:(decide (fs.length≤1000) &&oF fs)=false
 ·have E:Hid (sD fs c k cr fl=false):=by show _=_;simp only [sD,hA0,Bool.false_and]
  have HA:Hid _:=hA0;clear hA0;go_enter Tryz.func82,Tryz.ntmps82;go_wp2_with fail;refine fA (by kernel_rfl) (by kernel_rfl) ?_;repeat (go_big_quiet_step (first | (go_at_call 124;exact oA (nH HA.out _ (HFx.out _) HS.out HL.out)) | (go_at_call 125;exact oA (yG _ _ _ _ (HFx.out _) HL.out hsum)) | (go_at_call 34;apply uA;apply qJ;first | exact HB1.out | exact HD.out | exact HE.out | exact HG.out)))
  refine wpQuiet_nil ?_;rintro _ ⟨x,rfl⟩;go_wp2;go_ret;exact ⟨jA E.out.symm,HB.out x⟩
 have qA:(decide (fs.length≤1000) &&oF fs)=true:=by simpa using hA0
 have HA:Hid _:=qA;clear hA0;by_cases hB0:mA c 0 1000000000=false
 ·have E:Hid (sD fs c k cr fl=false):=by show _=_;simp only [sD,hB0,qA,Bool.false_and,Bool.true_and]
  have HB1:Hid _:=hB0;clear hB0 qA;go_enter Tryz.func82,Tryz.ntmps82;go_wp2_with fail;refine fA (by kernel_rfl) (by kernel_rfl) ?_;repeat (go_big_quiet_step (first | (go_at_call 124;exact oA (nH HA.out _ (HFx.out _) HS.out HL.out)) | (go_at_call 125;exact oA (yG _ _ _ _ (HFx.out _) HL.out hsum)) | (go_at_call 34;apply uA;apply qJ;first | exact HB1.out | exact HD.out | exact HE.out | exact HG.out)))
  refine wpQuiet_nil ?_;rintro _ ⟨x,rfl⟩;go_wp2;go_ret;exact ⟨jA E.out.symm,HB.out x⟩
 have qB:mA c 0 1000000000=true:=by simpa using hB0
 have HB1:Hid _:=qB;clear hB0;by_cases hC0:decide ((aB fs:Int)≤c)=false
 ·have E:Hid (sD fs c k cr fl=false):=by show _=_;simp only [sD,hC0,qA,qB,Bool.false_and,Bool.true_and]
  have hC1:=hC0;clear hC0 qA qB;go_enter Tryz.func82,Tryz.ntmps82;go_wp2_with fail;refine fA (by kernel_rfl) (by kernel_rfl) ?_;repeat (go_big_quiet_step (first | (go_at_call 124;exact oA (nH HA.out _ (HFx.out _) HS.out HL.out)) | (go_at_call 125;exact oA (yG _ _ _ _ (HFx.out _) HL.out hsum)) | (go_at_call 34;apply uA;apply qJ;first | exact HB1.out | exact HD.out | exact HE.out | exact HG.out)))
  refine wpQuiet_nil ?_;rintro _ ⟨x,rfl⟩;go_wp2;go_ret;exact ⟨jA E.out.symm,HB.out x⟩
 have qC:decide ((aB fs:Int)≤c)=true:=by simpa using hC0
 have hC:(aB fs:Int)≤c:=by simpa using qC
 clear hC0;by_cases hD0:mA k 0 1000000000000000=false
 ·have E:Hid (sD fs c k cr fl=false):=by show _=_;simp only [sD,hD0,qA,qB,qC,Bool.false_and,Bool.true_and]
  have HD:Hid _:=hD0;clear hD0 qA qB qC;go_enter Tryz.func82,Tryz.ntmps82;go_wp2_with fail;refine fA (by kernel_rfl) (by kernel_rfl) ?_;repeat (go_big_quiet_step (first | (go_at_call 124;exact oA (nH HA.out _ (HFx.out _) HS.out HL.out)) | (go_at_call 125;exact oA (yG _ _ _ _ (HFx.out _) HL.out hsum)) | (go_at_call 34;apply uA;apply qJ;first | exact HB1.out | exact HD.out | exact HE.out | exact HG.out)))
  refine wpQuiet_nil ?_;rintro _ ⟨x,rfl⟩;go_wp2;go_ret;exact ⟨jA E.out.symm,HB.out x⟩
 have qD:mA k 0 1000000000000000=true:=by simpa using hD0
 have HD:Hid _:=qD;clear hD0;by_cases hE0:mA cr 0 1000000000000000=false
 ·have E:Hid (sD fs c k cr fl=false):=by show _=_;simp only [sD,hE0,qA,qB,qC,qD,Bool.false_and,Bool.true_and]
  have HE:Hid _:=hE0;clear hE0 qA qB qC qD;go_enter Tryz.func82,Tryz.ntmps82;go_wp2_with fail;refine fA (by kernel_rfl) (by kernel_rfl) ?_;repeat (go_big_quiet_step (first | (go_at_call 124;exact oA (nH HA.out _ (HFx.out _) HS.out HL.out)) | (go_at_call 125;exact oA (yG _ _ _ _ (HFx.out _) HL.out hsum)) | (go_at_call 34;apply uA;apply qJ;first | exact HB1.out | exact HD.out | exact HE.out | exact HG.out)))
  refine wpQuiet_nil ?_;rintro _ ⟨x,rfl⟩;go_wp2;go_ret;exact ⟨jA E.out.symm,HB.out x⟩
 have qE:mA cr 0 1000000000000000=true:=by simpa using hE0
 have HE:Hid _:=qE;clear hE0;have E:Hid (sD fs c k cr fl=mA fl 0 1000000000000000):=by show _=_;simp only [sD,qA,qB,qC,qD,qE,Bool.true_and]
 clear qA qB qC qD qE;obtain ⟨g,hg⟩:∃g,mA fl 0 1000000000000000=g:=⟨_,rfl⟩
 rw [hg] at E;have HG:Hid _:=hg;clear hg;go_enter Tryz.func82,Tryz.ntmps82;go_wp2_with fail;refine fA (by kernel_rfl) (by kernel_rfl) ?_;repeat (go_big_quiet_step (first | (go_at_call 124;exact oA (nH HA.out _ (HFx.out _) HS.out HL.out)) | (go_at_call 125;exact oA (yG _ _ _ _ (HFx.out _) HL.out hsum)) | (go_at_call 34;apply uA;apply qJ;first | exact HB1.out | exact HD.out | exact HE.out | exact HG.out)))
 refine wpQuiet_nil ?_;rintro _ ⟨x,rfl⟩;go_wp2;go_ret;exact ⟨jA E.out.symm,HB.out x⟩
theorem TA (nm da:ByteArray) (sy:Int) (w:World):
 Calls Tryz.prog 129 #[.agg #[.string nm,.string da,.int .i64 sy],.agg #[.string nm,.string da,.int .i64 sy]] w fun e w'=>e=.returned (.bool true)∧Below w.heap.size w w':=by
 go_enter Tryz.func129,Tryz.ntmps129;go_wp2;go_ret;exact ⟨rfl,((Below.refl _ _).alloc (Nat.le_refl _) _).alloc (by simp) _⟩
theorem OE (a a':Option Addr) (cap cap':Nat) (fs:List eA) (w:World) (hf:kA w a fs) (hf':kA w a' fs) (hlen:fs.length≤maxLen):
 Calls Tryz.prog 85 #[.slice a fs.length cap,.slice a' fs.length cap'] w fun e w'=>e=.returned (.bool true)∧Below w.heap.size w w':=by
 unfold maxLen at hlen;have HF:Hid (kA w a fs):=hf;have HF':Hid (kA w a' fs):=hf';clear hf hf';go_enter Tryz.func85,Tryz.ntmps85;go_wp2;go_loopw [5] (fun i wr=>∃k:Nat,k≤fs.length∧i=.int .i64 k∧Below w.heap.size w wr) (fun i _=>fs.length - (intOf i).toNat)
 case atStart=>exact ⟨0,Nat.zero_le _,rfl,Below.refl _ _⟩
 case round=>
  obtain ⟨k,hk,rfl,hbel⟩:=hrel;by_cases hlt:k<fs.length
  ·obtain ⟨b,o,rfl,hb,c0,c1,c2⟩:=(HF.out.later hbel).at hlt;obtain ⟨b',o',rfl,hb',c0',c1',c2'⟩:=(HF'.out.later hbel).at hlt;have d0:=pA.cells c0;have d1:=pA.cells c1;have d2:=pA.cells c2;have d0':=pA.cells c0';have d1':=pA.cells c1';have d2':=pA.cells c2';clear c0 c1 c2 c0' c1' c2';have hne:=pA.there wr;go_wp2_with fail;refine fA (by kernel_rfl) (by kernel_rfl) ?_;repeat (go_big_quiet_step (refine oA (TA _ _ _ _)))
   refine wpQuiet_nil ?_;rintro _ ⟨x,rfl⟩;go_wp2;exact ⟨⟨k+1,by omega,by go_num,hbel.trans (x.h.mono hbel.size)⟩,by simp [intOf];omega⟩
  ·go_wp2;go_ret;exact ⟨rfl,hbel⟩
theorem SZ (a a':Option Addr) (cap cap':Nat) (fs:List eA) (c k cr fl:Int) (dn:Bool) (w:World) (hf:kA w a fs) (hf':kA w a' fs) (hlen:fs.length≤maxLen):
 Calls Tryz.prog 38 #[.agg #[.slice a fs.length cap,.int .i64 c,.int .i64 k,.int .i64 cr,.int .i64 fl,.bool dn],.agg #[.slice a' fs.length cap',.int .i64 c,.int .i64 k,.int .i64 cr,.int .i64 fl,.bool dn]] w
  fun e w'=>e=.returned (.bool true)∧Below w.heap.size w w':=by
 have HF:Hid (kA w a fs):=hf;have HF':Hid (kA w a' fs):=hf';clear hf hf';go_enter Tryz.func38,Tryz.ntmps38;go_wp2_with fail;have hb0:=fun o1 o2=>((Below.refl w.heap.size w).alloc (Nat.le_refl _) o1).alloc (by simp) o2;refine (OE a a' cap cap' fs _ (HF.out.later (hb0 _ _)) (HF'.out.later (hb0 _ _)) hlen).mono ?_;rintro e w' ⟨rfl,hb1⟩;obtain ⟨hc,_⟩:=aBz hb1;have HB:Hid (Below w.heap.size w w'):=(hb0 _ _).trans (hb1.mono (by simp;omega));clear hb0 hb1;go_wp2;go_ret;exact ⟨rfl,HB.out⟩
end Go.Proofs.YtcneojllbkacoaaGreatDoor
