import Derived.Test.YtcneojllbkacoaaGreatDoorJ20Step
namespace Go.Proofs.YtcneojllbkacoaaGreatDoor
open Go.RowKit
theorem pT {w w1:World}{x y:Array Value}{tx ty:TypeId} (hb:Below ((w.alloc (.cells x tx)).alloc (.cells y ty)).heap.size ((w.alloc (.cells x tx)).alloc (.cells y ty)) w1):
 lA w1 w.heap.size x tx∧lA w1 (w.heap.size+1) y ty∧Below w.heap.size w w1:=by
 refine ⟨?_,?_,rA (rA (bA _ _) (bA _ _)) hb⟩
 ·exact (lA.later (lA.later (g:=w.heap.size) (heap_alloc_new w (.cells x tx)) (Below.refl _ _)) (bA _ _)).later hb
 ·have h:=lA.later (g:=(w.alloc (.cells x tx)).heap.size) (heap_alloc_new (w.alloc (.cells x tx)) (.cells y ty)) hb;simpa using h
def aHr (w:World) (b:Nat) (a:Option Addr) (n cap:Nat) (c k cr fl:Int) (dn:Bool):Prop:=lA w b #[.slice a n cap,.int .i64 c,.int .i64 k,.int .i64 cr,.int .i64 fl,.bool dn] 39
structure JT (w:World) (a:Option Addr) (fs:List eA) (c:Int) (op:lO):Prop where
 files:kA w a fs
 asc:pR fs
 len:fs.length≤1000
 sum:(aB fs:Int)≤c
 cap:c≤1000000000
 data:op.data.size≤200000000
def MV (w:World) (a:Option Addr) (cap:Nat) (fs:List eA) (c k cr fl:Int) (dn:Bool) (op:lO):Prop:=
 Calls Tryz.prog 105 #[.agg #[.slice a fs.length cap,.int .i64 c,.int .i64 k,.int .i64 cr,.int .i64 fl,.bool dn],.agg #[.int .i64 op.kind,.string op.name,.string op.to,.string op.data,.int .i64 op.size]] w fun e w'=>
  ∃a' cap',e=.returned (.tuple #[.slice a' (kK fs c op).2.length cap',.int .i64 (kK fs c op).1])∧kA w' a' (kK fs c op).2∧Below w.heap.size w w'
section
variable {w:World}{a:Option Addr}{cap:Nat}{fs:List eA}{c k cr fl:Int}{dn:Bool}{op:lO}
theorem lT {k0:Int}{t:ByteArray}{x:Int} (h:dF t fs 0=x) (w:World) (hf:kA w a fs) (hlen:fs.length≤maxLen):
 Calls Tryz.prog 140 #[.agg #[.slice a fs.length cap,.int .i64 c,.int .i64 k0,.int .i64 cr,.int .i64 fl,.bool dn],.string t] w fun e w'=>e=.returned (.int .i64 x)∧Below w.heap.size w w':=h ▸ ZO a cap fs c k0 cr fl dn t w hf hlen
theorem RA (f:eA) (hf:kA w a fs) (hl:fs.length≤1048576):Calls Tryz.prog 141 #[.slice a fs.length cap,.agg #[.string f.name,.string f.data,.int .i64 f.synced]] w fun e w'=>∃a' cap',e=.returned (.slice a' (qF fs f).length cap')∧kA w' a' (qF fs f)∧Below w.heap.size w w':=
 (ZP a cap fs f w hf hl).mono fun e w' ⟨v,he,hr,hb⟩=>by obtain ⟨a',cap',rfl,ho⟩:=kF hr;exact ⟨a',cap',he,ho.files,hb⟩
theorem aNn {x:Nat×List eA}{f:eA} (_:x=(0,qF fs f)) (hf:kA w a fs) (hl:fs.length≤1048576):Calls Tryz.prog 141 #[.slice a fs.length cap,.agg #[.string f.name,.string f.data,.int .i64 f.synced]] w fun e w'=>∃a' cap',e=.returned (.slice a' (qF fs f).length cap')∧kA w' a' (qF fs f)∧Below w.heap.size w w':=RA f hf hl
theorem MU (t:ByteArray) (hf:kA w a fs) (hl:fs.length≤1048576):Calls Tryz.prog 142 #[.slice a fs.length cap,.string t] w fun e w'=>∃a' cap',e=.returned (.slice a' (tB fs t).length cap')∧kA w' a' (tB fs t)∧Below w.heap.size w w':=
 (fU a cap fs t w hf hl).mono fun e w' ⟨v,he,hr,hb⟩=>by obtain ⟨a',cap',rfl,ho⟩:=kF hr;exact ⟨a',cap',he,ho.files,hb⟩
theorem OC (ha:pR fs) (hk:op.kind≠1) (hq:mG fs op.name (vA op.name fs)=true):∃(hi:vA op.name fs<fs.length) (f0:eA),fs[vA op.name fs]=f0∧dF op.name fs 0=(vA op.name fs:Int)∧
 kK fs c op=if op.kind=2 then (if c<aB fs+op.data.size then (3,fs) else (0,qF fs ⟨f0.name,f0.data++op.data,f0.synced⟩)) else if op.kind=3 then (0,qF fs ⟨f0.name,f0.data,f0.data.size⟩)
  else if op.kind=4 then (if mA op.size 0 f0.data.size=true then (0,qF fs ⟨f0.name,f0.data.extract 0 op.size.toNat,op.size⟩) else (6,fs)) else if op.kind=5 then (0,qF (tB fs op.name) ⟨op.to,f0.data,f0.synced⟩) else (0,tB fs op.name):=by
 obtain ⟨hi,hnm⟩:=DA hq;have W:=fun f e=>IK (f:=f) ha hi e;refine ⟨hi,_,rfl,by rw [TI ha (dI op.name ha),if_pos hq],?_⟩;rw [KQ hk hq hi,show fs.eraseIdx (vA op.name fs)=tB fs op.name by rw [←lP ha hi,hnm],W ⟨_,fs[vA op.name fs].data++op.data,_⟩ rfl,W ⟨_,_,fs[vA op.name fs].data.size⟩ rfl,W ⟨_,fs[vA op.name fs].data.extract 0 op.size.toNat,_⟩ rfl]
end
set_option maxRecDepth 100000
set_option maxHeartbeats 4000000
theorem aNt (w:World) (a:Option Addr) (cap:Nat) (fs:List eA) (c k cr fl:Int) (dn:Bool) (op:lO) (h:JT w a fs c op) (h1:op.kind=1∨op.kind≠1∧mG fs op.name (vA op.name fs)=false):MV w a cap fs c k cr fl dn op:=by
 unfold MV;have hcs:∃x,dF op.name fs 0=x∧(op.kind=1∧(x=(vA op.name fs:Int)∧kK fs c op=(5,fs)∨x = -1∧((fs.length:Int)=1000∧kK fs c op=(3,fs)∨¬(fs.length:Int)=1000∧kK fs c op=(0,qF fs ⟨op.name,ByteArray.empty,0⟩)))∨(op.kind==1)=false∧x = -1∧kK fs c op=(4,fs)):=by
  refine ⟨_,TI h.asc (dI op.name h.asc),?_⟩;rcases h1 with hk | ⟨hk,hq⟩
  ·cases hq:mG fs op.name (vA op.name fs)
   ·refine Or.inl ⟨hk,Or.inr ⟨by simp,?_⟩⟩;have:=h.len;by_cases hl:fs.length=1000
    ·exact Or.inl ⟨by omega,by simp [kK,hk,hq,hl]⟩
    ·refine Or.inr ⟨by omega,?_⟩;rw [IJ (f:=⟨op.name,ByteArray.empty,0⟩) h.asc hq];simp only [kK,if_pos hk,hq,Bool.false_eq_true,if_false];rw [if_neg (by omega)]
   ·exact Or.inl ⟨hk,Or.inl ⟨by simp,by simp [kK,hk,hq]⟩⟩
  ·exact Or.inr ⟨by simpa using hk,by simp [hq],AG hk hq⟩
 obtain ⟨x,hfd,hcs⟩:=hcs;have HF:=iA h.files;have HFD:=iA hfd;have hlen:=h.len;have hml:fs.length≤maxLen:=by simp [maxLen];omega
 obtain ⟨kd,nm,to,dat,sz⟩:=op;clear h h1 hfd;dsimp only at hcs HFD ⊢;rcases hcs with ⟨rfl,⟨rfl,EQ⟩ | ⟨rfl,⟨hl,EQ⟩ | ⟨hl,EQ⟩⟩⟩ | ⟨hk,rfl,EQ⟩
 all_goals
  have EQ:=iA EQ;go_enter Tryz.func105,Tryz.ntmps105;go_wp2_with fail;refine (lT HFD.out _ ((HF.out.later (bA _ _)).later (bA _ _)) hml).mono ?_;rintro e w1 ⟨rfl,hb1⟩;obtain ⟨hdk,hop,hbel⟩:=pT hb1;have HB:=iA hbel;have HF1:=iA (HF.out.later hbel);obtain ⟨o0,o1,-⟩:=hop.c5;obtain ⟨d0,-⟩:=hdk.c6;clear hb1 hdk hop hbel;go_wp2_with (go_at_call 141;refine (RA ⟨nm,ByteArray.empty,0⟩ HF1.out (by omega)).mono ?_;rintro e w5 ⟨a5,cap5,rfl,h5,hb5⟩;have HF5:=iA h5;have HB5:=iA (rA HB.out hb5);clear h5 hb5);go_ret2;rw [EQ.out];first
   | exact ⟨a,cap,rfl,HF1.out,HB.out⟩
   | exact ⟨a5,cap5,rfl,HF5.out,HB5.out⟩
theorem aIp (w:World) (a:Option Addr) (cap:Nat) (fs:List eA) (c k cr fl:Int) (dn:Bool) (op:lO) (h:JT w a fs c op) (hk:op.kind=3∨op.kind=4∨op.kind=6) (hq:mG fs op.name (vA op.name fs)=true):MV w a cap fs c k cr fl dn op:=by
 unfold MV;obtain ⟨hi,f0,hff,hfd,ED⟩:=OC (c:=c) h.asc (by omega) hq;have hcs:op.kind=3∧kK fs c op=(0,qF fs ⟨f0.name,f0.data,f0.data.size⟩)∨op.kind=4∧(mA op.size 0 f0.data.size=false∧kK fs c op=(6,fs)∨mA op.size 0 f0.data.size=true∧(0≤op.size∧op.size≤f0.data.size)∧kK fs c op=(0,qF fs ⟨f0.name,f0.data.extract 0 op.size.toNat,op.size⟩))∨op.kind=6∧kK fs c op=(0,tB fs op.name):=by
  rcases hk with hk | hk | hk
  ·exact Or.inl ⟨hk,by rw [ED];simp [hk]⟩
  ·refine Or.inr (Or.inl ⟨hk,?_⟩);cases hs:mA op.size 0 f0.data.size
   ·exact Or.inl ⟨rfl,by rw [ED];simp [hk,hs]⟩
   ·exact Or.inr ⟨rfl,by simpa [mA] using hs,by rw [ED];simp [hk,hs]⟩
  ·exact Or.inr (Or.inr ⟨hk,by rw [ED];simp [hk]⟩)
 have HF:=iA h.files;have HFD:=iA hfd;have hlen:=h.len;have hml:fs.length≤maxLen:=by simp [maxLen];omega
 have HFF:=iA hff;obtain ⟨kd,nm,to,dat,sz⟩:=op;clear h hk hfd hq ED hff;dsimp only at hcs HFD HFF hi ⊢;rcases hcs with ⟨rfl,EQ⟩ | ⟨rfl,⟨hs,EQ⟩ | ⟨hs,⟨hs0,hs1⟩,EQ⟩⟩ | ⟨rfl,EQ⟩
 all_goals
  have EQ:=iA EQ;go_enter Tryz.func105,Tryz.ntmps105;go_wp2_with fail;refine (lT HFD.out _ ((HF.out.later (bA _ _)).later (bA _ _)) hml).mono ?_;rintro e w1 ⟨rfl,hb1⟩;obtain ⟨hdk,hop,hbel⟩:=pT hb1;have HB:=iA hbel;have HF1:=iA (HF.out.later hbel);obtain ⟨o0,o1,o2,o3,o4⟩:=hop.c5;obtain ⟨d0,-⟩:=hdk.c6;obtain ⟨b,o,rfl,hb,c0,c1,c2⟩:=HF1.out.at hi;rw [HFF.out] at c0 c1 c2;have hdl:=aA hop;have hnb:¬b=w1.heap.size:=by omega
  have hnd:¬w.heap.size=w1.heap.size:=by omega
  have hnd1:¬w.heap.size+1=w1.heap.size:=by omega
  have hdl2:w.heap.size<w1.heap.size:=by omega
  try have HWT:=iA (fun W (hW:Below w1.heap.size w1 W)=>aNn (cap:=cap) EQ.out (HF1.out.later hW) (by omega))
  have HWO:=iA (fun W (hW:Below w1.heap.size w1 W)=>MU (cap:=cap) nm (HF1.out.later hW) (by omega));clear hb1 hdk hop hbel;go_wp2_with (first
   | (go_at_call 22;refine (gC (by assumption) _).mono ?_;rintro e w3 ⟨rfl,rfl⟩)
   | (go_at_call 141;refine (HWT.out _ (bA _ _)).mono ?_;rintro e w5 ⟨a5,cap5,rfl,h5,hb5⟩;have HF5:=iA h5;have HB5:=iA (rA HB.out (rA (bA _ _) hb5));clear h5 hb5)
   | (go_at_call 142;refine (HWO.out _ (bA _ _)).mono ?_;rintro e w5 ⟨a5,cap5,rfl,h5,hb5⟩;have HF5:=iA h5;have HB5:=iA (rA HB.out (rA (bA _ _) hb5));clear h5 hb5))
  go_ret2;rw [EQ.out];first
   | exact ⟨a5,cap5,rfl,HF5.out,HB5.out⟩
   | exact ⟨_,cap,rfl,HF1.out.later (bA _ _),rA HB.out (bA _ _)⟩
set_option maxRecDepth 100000
set_option maxHeartbeats 4000000
theorem aEj (w:World) (a:Option Addr) (cap:Nat) (fs:List eA) (c k cr fl:Int) (dn:Bool) (op:lO) (h:JT w a fs c op) (hk:op.kind=2) (hq:mG fs op.name (vA op.name fs)=true):MV w a cap fs c k cr fl dn op:=by
 unfold MV;obtain ⟨hi,f0,hff,hfd,ED⟩:=OC (c:=c) h.asc (by omega) hq;rw [if_pos hk] at ED;have HF:=iA h.files;have HFD:=iA hfd;obtain ⟨-,-,hlen,hsum,hcap,hdat⟩:=h;have hml:fs.length≤maxLen:=by simp [maxLen];omega
 have hsl:aB fs≤1000000000:=by omega
 have hdz:f0.data.size≤1000000000:=by
  have h1:=nF fs _ hi;have h2:=xE fs (vA op.name fs+1);rw [hff] at h1;omega
 have HFF:=iA hff;obtain ⟨kd,nm,to,dat,sz⟩:=op;dsimp only at *;subst hk;have hcs:c<(aB fs:Int)+(dat.size:Int)∧kK fs c ⟨2,nm,to,dat,sz⟩=(3,fs)∨¬c<(aB fs:Int)+(dat.size:Int)∧kK fs c ⟨2,nm,to,dat,sz⟩=(0,qF fs ⟨f0.name,f0.data++dat,f0.synced⟩):=by
  by_cases h:c<(aB fs:Int)+(dat.size:Int)
  ·exact Or.inl ⟨h,by rw [ED,if_pos h]⟩
  ·exact Or.inr ⟨h,by rw [ED,if_neg h]⟩
 clear hfd hq ED hff;go_enter Tryz.func105,Tryz.ntmps105;go_wp2_with fail;refine (lT HFD.out _ ((HF.out.later (bA _ _)).later (bA _ _)) hml).mono ?_;rintro e w1 ⟨rfl,hb1⟩;obtain ⟨hdk,hop,hbel⟩:=pT hb1;have HDK:=iA hdk;have HOP:=iA hop;have HB1:=iA hbel;have HF1:=iA (HF.out.later hbel);obtain ⟨o0,o1,o2,o3,o4⟩:=hop.c5;obtain ⟨d0,-⟩:=hdk.c6;obtain ⟨b,o,rfl,hb,c0,c1,c2⟩:=HF1.out.at hi;rw [HFF.out] at c0 c1 c2;have hdl:=aA hop;have hnb:¬b=w1.heap.size:=by omega
 have hnd:¬w.heap.size=w1.heap.size:=by omega
 have hnd1:¬w.heap.size+1=w1.heap.size:=by omega
 have hdl2:w.heap.size<w1.heap.size:=by omega
 clear hb1 hdk hop hbel;go_wp2_with fail;have hbn:Below w1.heap.size w1 (w1.alloc (.cells #[.string f0.name,.string f0.data,.int .i64 f0.synced] 116)):=bA _ _;have hfb:lA (w1.alloc (.cells #[.string f0.name,.string f0.data,.int .i64 f0.synced] 116)) w1.heap.size #[.string f0.name,.string f0.data,.int .i64 f0.synced] 116:=heap_alloc_new _ _;generalize w1.alloc (.cells #[.string f0.name,.string f0.data,.int .i64 f0.synced] 116)=W2 at *;have HX:=iA (fun x:pA W2=>(⟨(HF1.out.later hbn).later x.h,lA.later (lA.later HDK.out hbn) x.h,lA.later (lA.later HOP.out hbn) x.h,hfb.later x.h,rA (rA HB1.out hbn) x.h⟩:kA x.w' _ fs∧lA x.w' _ _ _∧lA x.w' _ _ _∧lA x.w' _ _ _∧Below w.heap.size w x.w'));have p:=fun x=>(HX.out x).2.1.c6;have po:=fun x=>(HX.out x).2.2.1.c5.2.2.2.1;simp only [forall_and] at p;obtain ⟨p0,p1,p2,p3,p4,p5⟩:=p;have hne:=pA.there W2;clear hfb hbn c0 c1 c2 o0 o1 o2 o3 o4 d0 hnb hnd hnd1;rcases hcs with ⟨hfull,EQ⟩ | ⟨hfull,EQ⟩
 all_goals
  have EQ:=iA EQ;refine fA (by kernel_rfl) (by kernel_rfl) ?_;repeat (go_big_quiet_step (first | (go_at_call 139;exact oA (oS _ _ _ _ _ _ _ _ _ (HX.out _).1 hml hsl))))
  refine wpQuiet_nil ?_;rintro _ ⟨y,rfl⟩;have HY:=iA (HX.out y);have d0:=p0 y;have o3:=po y;clear p0 p1 p2 p3 p4 p5 po hne HX;generalize y.w'=W at *;clear y;obtain ⟨q0,q1,q2⟩:=HY.out.2.2.2.1.c3;have r1:=HY.out.2.2.2.1.free;have hne1:¬w1.heap.size=w.heap.size:=by omega
  go_wp2_with (go_at_call 141;refine (RA ⟨f0.name,f0.data++dat,f0.synced⟩ (HY.out.1.setCell (by show w1.heap.size≠b;omega) _) (by omega)).mono ?_;rintro e w5 ⟨a5,cap5,rfl,h5,hb5⟩;have HF5:=iA h5;have HB5:=iA (rA (HY.out.2.2.2.2.setCell (by show w.heap.size≤w1.heap.size;omega) _) hb5);clear h5 hb5);go_ret2;rw [EQ.out];first
   | exact ⟨a5,cap5,rfl,HF5.out,HB5.out⟩
   | exact ⟨_,cap,rfl,HY.out.1,HY.out.2.2.2.2⟩
theorem aEk (w:World) (a:Option Addr) (cap:Nat) (fs:List eA) (c k cr fl:Int) (dn:Bool) (op:lO) (h:JT w a fs c op) (hk:op.kind=5) (hq:mG fs op.name (vA op.name fs)=true):MV w a cap fs c k cr fl dn op:=by
 unfold MV;obtain ⟨hi,f0,hff,hfd,ED⟩:=OC (c:=c) h.asc (by omega) hq;have HF:=iA h.files;have HFD:=iA hfd;have hlen:=h.len;have hml:fs.length≤maxLen:=by simp [maxLen];omega
 have HFF:=iA hff;obtain ⟨kd,nm,to,dat,sz⟩:=op;dsimp only at *;subst hk;have EQ:Hid (kK fs c ⟨5,nm,to,dat,sz⟩=(0,qF (tB fs nm) ⟨to,f0.data,f0.synced⟩)):=by show _=_;rw [ED];simp
 clear h hfd hq ED hff;go_enter Tryz.func105,Tryz.ntmps105;go_wp2_with fail;refine (lT HFD.out _ ((HF.out.later (bA _ _)).later (bA _ _)) hml).mono ?_;rintro e w1 ⟨rfl,hb1⟩;obtain ⟨hdk,hop,hbel⟩:=pT hb1;have HDK:=iA hdk;have HOP:=iA hop;have HB1:=iA hbel;have HF1:=iA (HF.out.later hbel);obtain ⟨o0,o1,o2,o3,o4⟩:=hop.c5;obtain ⟨d0,-⟩:=hdk.c6;obtain ⟨b,o,rfl,hb,c0,c1,c2⟩:=HF1.out.at hi;rw [HFF.out] at c0 c1 c2;have hdl:=aA hop;have hnb:¬b=w1.heap.size:=by omega
 have hnd:¬w.heap.size=w1.heap.size:=by omega
 have hnd1:¬w.heap.size+1=w1.heap.size:=by omega
 have hdl2:w.heap.size<w1.heap.size:=by omega
 have hesl:(tB fs nm).length≤1048576:=by have:=kO fs nm;omega
 have HWO:=iA (fun W (hW:Below w1.heap.size w1 W)=>MU (cap:=cap) nm (HF1.out.later hW) (by omega));clear hb1 hdk hop hbel;generalize tB fs nm=es at *;go_wp2_with fail;have hbn:Below w1.heap.size w1 (w1.alloc (.cells #[.string to,.string f0.data,.int .i64 f0.synced] 116)):=bA _ _;have hfb:lA (w1.alloc (.cells #[.string to,.string f0.data,.int .i64 f0.synced] 116)) w1.heap.size #[.string to,.string f0.data,.int .i64 f0.synced] 116:=heap_alloc_new _ _;generalize w1.alloc (.cells #[.string to,.string f0.data,.int .i64 f0.synced] 116)=W2 at *;have HB2:=iA hbn;have HG2:=iA hfb;obtain ⟨e0,-⟩:=(lA.later HDK.out hbn).c6;obtain ⟨-,e1,-⟩:=(lA.later HOP.out hbn).c5;obtain ⟨g0,g1,g2⟩:=hfb.c3;clear hfb hbn c0 c1 c2 o0 o1 o2 o3 o4 d0 hnb hnd hnd1;go_region_with (first
  | (go_at_call 142;refine (HWO.out _ (rA HB2.out (Below.refl _ _).drew)).mono ?_;rintro e w5 ⟨a5,cap5,rfl,h5,hb5⟩;have HF5:=iA h5;obtain ⟨k0,k1,k2⟩:=(HG2.out.later (rA (Below.refl _ _).drew hb5)).c3)
  | (go_at_call 141;refine (RA ⟨to,f0.data,f0.synced⟩ HF5.out hesl).mono ?_;rintro e w6 ⟨a6,cap6,rfl,h6,hb6⟩;have HF6:=iA h6))
 all_goals
  clear h6 h5;go_wp2;go_ret2;rw [EQ.out];exact ⟨a6,cap6,rfl,HF6.out,rA (rA HB1.out HB2.out) (rA (rA (Below.refl _ _).drew hb5) hb6)⟩
theorem aJe (w:World) (a:Option Addr) (cap:Nat) (fs:List eA) (c k cr fl:Int) (dn:Bool) (op:lO) (h:JT w a fs c op) (hop:mA op.kind 1 6=true):MV w a cap fs c k cr fl dn op:=by
 have hb:1≤op.kind∧op.kind≤6:=by simpa [mA] using hop
 by_cases h1:op.kind=1
 ·exact aNt w a cap fs c k cr fl dn op h (Or.inl h1)
 ·cases hq:mG fs op.name (vA op.name fs)
  ·exact aNt w a cap fs c k cr fl dn op h (Or.inr ⟨h1,hq⟩)
  ·by_cases h2:op.kind=2
   ·exact aEj w a cap fs c k cr fl dn op h h2 hq
   by_cases h5:op.kind=5
   ·exact aEk w a cap fs c k cr fl dn op h h5 hq
   ·exact aIp w a cap fs c k cr fl dn op h (by omega) hq
end Go.Proofs.YtcneojllbkacoaaGreatDoor
