import Derived.Test.YtcneojllbkacoaaGreatDoorJ20Step
import Derived.Test.YtcneojllbkacoaaGreatDoorJ16To
set_option maxRecDepth 100000
set_option maxHeartbeats 4000000
namespace Go.Proofs.YtcneojllbkacoaaGreatDoor
open Go.RowKit
theorem aBa (w:World) (B D:Nat) (fs:List eA) (c k cr fl:Int) (dn:Bool) (v:Value) (op:lO) (h:RK w B D fs c k cr fl dn v op) (hr:(wB k cr fl dn).1=0) (h1:op.kind≠1) (hop:1≤op.kind∧op.kind≤6) (hq:mG fs op.name (vA op.name fs)=true):dW w B D fs c k cr fl dn v op:=by
 unfold dW;have HD:=iA h.drive;have HA:=iA h.asc;obtain ⟨-,-,hlen,hsum,hcap,hk0,hk1⟩:=h;have E:Hid (kG fs c k cr fl dn op=((kK fs c op).1,(kK fs c op).2,(wB k cr fl dn).2)):=by show _=_;rw [kG,if_pos hr]
 have HR:=iA hr;obtain ⟨hi,-⟩:=DA hq;have ED0:=iA (KQ (c:=c) h1 hq hi);have HQ:=iA hq;have h1b:(op.kind==1)=false:=by simpa using h1
 have HKS:Hid (op.kind=2∨op.kind=3∨op.kind=4∨op.kind=5∨op.kind=6):=by show _∨_;omega
 clear hr hq hop;go_enter Tryz.func126,Tryz.ntmps126;go_wp2_with fail;refine (tQ D 185 v (.int .i64 c) k cr fl dn _ (HD.out.later (bA _ _)).blk hk0 hk1).mono ?_;rintro e w1 ⟨rfl,hbut,hblk⟩;have HD1:Hid _:=(HD.out.later (bA _ _)).charged hbut hblk;have HB1:Hid _:=vG.charge HD.out HD.out.size hbut;have hOD:¬(w.heap.size=D):=by have:=aA HD.out.blk;omega
 have HO:Hid (ND w1 w.heap.size op 110):=lA.keeps (S:=fun k=>k=D) (g:=w.heap.size) (heap_alloc_new w (.cells #[.int .i64 op.kind,.string op.name,.string op.to,.string op.data,.int .i64 op.size] 110)) (oC.but hbut) hOD;obtain ⟨o0,o1,o2,o3,o4⟩:=HO.out.cells;clear hbut hblk;rw [HR.out];simp only [xF];obtain ⟨a,cap,rfl,hfin⟩:=HD1.out.files;have p1:=pA.cells o1;have p4:=pA.cells HD1.out.cell4;have hne:=pA.there w1;have HFx:Hid (∀x:pA w1,kA x.w' a fs):=fun x=>hfin.later x.h;have HDx:Hid (∀x:pA w1,dB x.w' B D fs c (wB k cr fl dn).2.1 cr fl (wB k cr fl dn).2.2 (.slice a fs.length cap)):=fun x=>HD1.out.later x.h;have HOx:Hid (∀x:pA w1,ND x.w' w.heap.size op 110):=fun x=>lA.later HO.out x.h;have hl2:fs.length≤1048576:=by omega
 clear o1 o2 o3 o4 hfin HO;go_wp2_with fail;refine fA (by kernel_rfl) (by kernel_rfl) ?_;repeat (go_big_quiet_step (first | (go_at_call 168;exact oA (AM _ _ _ _ _ (HFx.out _) HA.out hl2))))
 refine wpQuiet_nil ?_;rintro _ ⟨y,rfl⟩;have HD2:Hid _:=HDx.out y;have HO2:Hid (ND y.w' w.heap.size op 110):=HOx.out y;have HB2:Hid _:=HB1.out.on y.h HD1.out.size;clear o0 p1 p4 hne HDx HFx HOx HD1 HB1;generalize y.w'=W at *;clear y;rw [HQ.out];clear h1b h1;rcases HKS.out with hk | hk | hk | hk | hk
 all_goals
  have HKD:=iA hk;clear HKS
 ·have ED:Hid (kK fs c op=if c<aB fs+op.data.size then (3,fs) else (0,fs.set (vA op.name fs) ⟨fs[vA op.name fs].name,fs[vA op.name fs].data++op.data,fs[vA op.name fs].synced⟩)):=by show _=_;rw [ED0.out];simp [hk]
  obtain ⟨o0,o1,o2,o3,o4⟩:=HO2.out.cells;clear o1 o2 o4;go_wp2_with fail;refine (NF B D _ fs c _ cr fl _ _ op.data _ HD2.out hi hl2 hsum hcap).mono ?_;rintro e w3 ⟨hd3,hb3⟩;have HB3:Hid _:=HB2.out.trans hb3;clear hb3 o0 o3;rcases hd3 with ⟨hlt,rfl,hd⟩ | ⟨hge,rfl,hd⟩
  ·have EQ:Hid (kK fs c op=(3,fs)):=by show _=_;rw [ED.out,if_pos hlt]
   have HD3:Hid _:=hd;clear hd hlt;go_wp2;go_ret;rw [E.out,EQ.out];exact ⟨rfl,HB3.out.below,fun _=>HB3.out.other,_,HD3.out,fun _=>rfl⟩
  ·have EQ:Hid (kK fs c op=(0,fs.set (vA op.name fs) ⟨fs[vA op.name fs].name,fs[vA op.name fs].data++op.data,fs[vA op.name fs].synced⟩)):=by show _=_;rw [ED.out,if_neg (by omega)]
   have HD3:Hid _:=hd;clear hd hge;go_wp2;go_ret;rw [E.out,EQ.out];exact ⟨rfl,HB3.out.below,fun _=>HB3.out.other,_,HD3.out,fun _=>rfl⟩
 ·have EQ:Hid (kK fs c op=(0,fs.set (vA op.name fs) ⟨fs[vA op.name fs].name,fs[vA op.name fs].data,fs[vA op.name fs].data.size⟩)):=by show _=_;rw [ED0.out];simp [hk]
  obtain ⟨o0,o1,o2,o3,o4⟩:=HO2.out.cells;obtain ⟨g,cap',ev,hgD,hBg⟩:=HD2.out.slice (by omega);simp only [Value.slice.injEq] at ev;obtain ⟨rfl,_,rfl⟩:=ev;obtain ⟨cur,_,hblk,hnc,hcm,hcs,hrows⟩:=aH HD2.out.row;have r1:=(hrows _ hi).2.1;rw [Nat.zero_add] at r1;have q4:=HD2.out.cell4;have HS:Hid (Calls Tryz.prog 170 #[.pointer (some ⟨g,vA op.name fs * 3,none⟩)] W fun e w'=>e=.returned (.tuple #[])∧w'=W.setCell ⟨g,vA op.name fs * 3+2,none⟩ (.int .i64 fs[vA op.name fs].data.size)):=XD g _ cur 116 _ W hblk r1 (by omega);have HD3:Hid (dB (W.setCell ⟨g,vA op.name fs * 3+2,none⟩ (.int .i64 fs[vA op.name fs].data.size)) B D (fs.set (vA op.name fs) ⟨fs[vA op.name fs].name,fs[vA op.name fs].data,fs[vA op.name fs].data.size⟩) c (wB k cr fl dn).2.1 cr fl (wB k cr fl dn).2.2 (.slice (some ⟨g,0,none⟩) fs.length cap)):=
   HD2.out.put ((bE.refl _ _).setCell _ _) (hblk.set _ _) (by simp [hcs]) (aGz hi hrows _)
  have HB3:Hid (vG B w (W.setCell ⟨g,vA op.name fs * 3+2,none⟩ (.int .i64 fs[vA op.name fs].data.size))):=HB2.out.set hblk (Or.inl rfl) hBg _;clear hblk hrows r1 o1 o2 o3 o4;go_wp2_with fail;refine HS.out.mono ?_;rintro e w3 ⟨rfl,rfl⟩;go_wp2;go_ret;rw [E.out,EQ.out];exact ⟨rfl,HB3.out.below,fun _=>HB3.out.other,_,HD3.out,fun _=>rfl⟩
 ·cases hb:mA op.size 0 fs[vA op.name fs].data.size
  ·have EQ:Hid (kK fs c op=(6,fs)):=by show _=_;rw [ED0.out];simp [hk,hb]
   obtain ⟨o0,o1,o2,o3,o4⟩:=HO2.out.cells;obtain ⟨g,cap',ev,hgD,hBg⟩:=HD2.out.slice (by omega);simp only [Value.slice.injEq] at ev;obtain ⟨rfl,_,rfl⟩:=ev;obtain ⟨cur,_,hblk,hnc,hcm,hcs,hrows⟩:=aH HD2.out.row;have r1:=(hrows _ hi).2.1;rw [Nat.zero_add] at r1;have q4:=HD2.out.cell4;have HS:Hid _:=fun W' h=>QZ g _ cur 116 _ op.size W' h r1 hb;have HBK:Hid (lA W g cur 116):=hblk;clear hblk hrows r1 o1 o2 o3 hb;go_wp2_with fail;go_region_with (go_at_call 171;refine (HS.out _ (HBK.out.later (Below.refl _ _).drew)).mono ?_;rintro e w3 ⟨rfl,hb3⟩)
   all_goals (
    simp only [xF]
    go_wp2
    go_ret
    rw [E.out,EQ.out]
    have hR:vG B w _:=(HB2.out.on (Below.refl _ _).drew HD2.out.size).on hb3 HD2.out.size
    exact ⟨rfl,hR.below,fun _=>hR.other,_,(HD2.out.later (Below.refl _ _).drew).later hb3,fun _=>rfl⟩)
  ·have EQ:Hid (kK fs c op=(0,fs.set (vA op.name fs) ⟨fs[vA op.name fs].name,fs[vA op.name fs].data.extract 0 op.size.toNat,op.size⟩)):=by show _=_;rw [ED0.out];simp [hk,hb]
   have hdl:fs[vA op.name fs].data.size≤1000000000:=by
    have h1:=nF fs _ hi;have h2:=xE fs (vA op.name fs+1);omega
   obtain ⟨o0,o1,o2,o3,o4⟩:=HO2.out.cells;obtain ⟨g,cap',ev,hgD,hBg⟩:=HD2.out.slice (by omega);simp only [Value.slice.injEq] at ev;obtain ⟨rfl,_,rfl⟩:=ev;obtain ⟨cur,_,hblk,hnc,hcm,hcs,hrows⟩:=aH HD2.out.row;have r1:=(hrows _ hi).2.1;rw [Nat.zero_add] at r1;have q4:=HD2.out.cell4;have HS:Hid (∀W',lA W' g cur 116→Calls Tryz.prog 171 #[.pointer (some ⟨g,vA op.name fs * 3,none⟩),.int .i64 op.size] W' fun e w'=>e=.returned (xF 0)∧bE g W' w'∧
    lA w' g ((cur.setIfInBounds (vA op.name fs * 3+1) (.string (fs[vA op.name fs].data.extract 0 op.size.toNat))).setIfInBounds (vA op.name fs * 3+2) (.int .i64 op.size)) 116):=fun W' h=>XQ g _ cur 116 _ op.size W' h r1 (by omega) hb hdl
   have HBK:Hid (lA W g cur 116):=hblk;have HRW:Hid _:=hrows;clear hblk hrows r1 o1 o2 o3 hb hdl;go_wp2_with fail;go_region_with (go_at_call 171;refine (HS.out _ (HBK.out.later (Below.refl _ _).drew)).mono ?_;rintro e w3 ⟨rfl,hbut,hb3⟩)
   all_goals (
    simp only [xF]
    go_wp2
    go_ret
    rw [E.out,EQ.out]
    have hR:vG B w _:=(HB2.out.on (Below.refl _ _).drew HD2.out.size).but hbut (HBK.out.later (Below.refl _ _).drew) (Or.inl rfl) hBg HD2.out.size
    exact ⟨rfl,hR.below,fun _=>hR.other,_,(HD2.out.later (Below.refl _ _).drew).put hbut hb3 (by simp [hcs]) (aKq hi HRW.out _ _),fun _=>rfl⟩)
 ·have EQ:Hid (kK fs c op=(0,qF (fs.eraseIdx (vA op.name fs)) ⟨op.to,fs[vA op.name fs].data,fs[vA op.name fs].synced⟩)):=by show _=_;rw [ED0.out];simp [hk]
  obtain ⟨o0,o1,o2,o3,o4⟩:=HO2.out.cells;clear o1 o3 o4;go_wp2_with fail;refine (aAn B D _ fs c _ cr fl _ _ op.to _ HD2.out hi (HA.out.erase _) hl2).mono ?_;rintro e w3 ⟨rfl,j,v3,hp,hb3,hd3⟩;obtain rfl:=hp.uniq (dI op.to (HA.out.erase _));have HB3:Hid _:=HB2.out.trans hb3;have HD3:Hid (dB w3 B D (qF (fs.eraseIdx (vA op.name fs)) ⟨op.to,fs[vA op.name fs].data,fs[vA op.name fs].synced⟩) c (wB k cr fl dn).2.1 cr fl (wB k cr fl dn).2.2 v3):=by
   rcases hd3 with ⟨h1,h2⟩ | ⟨h1,h2⟩
   ·obtain ⟨hlt,hnm⟩:=DA h1;show dB _ _ _ _ _ _ _ _ _ _;rw [IK (HA.out.erase _) hlt hnm];exact h2
   ·show dB _ _ _ _ _ _ _ _ _ _;rw [IJ (HA.out.erase _) h1];exact h2
  clear hd3 hb3 hp;go_wp2;go_ret;rw [E.out,EQ.out];exact ⟨rfl,HB3.out.below,fun _=>HB3.out.other,v3,HD3.out,fun h=>(by have:=HKD.out;omega)⟩
 ·have EQ:Hid (kK fs c op=(0,fs.eraseIdx (vA op.name fs))):=by show _=_;rw [ED0.out];simp [hk]
  obtain ⟨o0,o1,o2,o3,o4⟩:=HO2.out.cells;clear o1 o2 o3 o4;go_wp2_with fail;refine (GH B D _ fs c _ cr fl _ _ _ HD2.out hi hl2).mono ?_;rintro e w3 ⟨rfl,v3,hd3,_,hk3⟩;have HD3:Hid _:=hd3;have HB3:Hid _:=HB2.out.trans (vG.removed HD2.out hk3);clear hd3 hk3;go_wp2;go_ret;rw [E.out,EQ.out];exact ⟨rfl,HB3.out.below,fun _=>HB3.out.other,v3,HD3.out,fun h=>(by have:=HKD.out;omega)⟩
theorem aKw (w:World) (B D:Nat) (fs:List eA) (c k cr fl:Int) (dn:Bool) (v:Value) (op:lO) (h:RK w B D fs c k cr fl dn v op) (hop:mA op.kind 1 6=true):dW w B D fs c k cr fl dn v op:=by
 have hb:1≤op.kind∧op.kind≤6:=by simpa [mA] using hop
 by_cases hr:(wB k cr fl dn).1=0
 ·by_cases h1:op.kind=1
  ·exact WZ w B D fs c k cr fl dn v op h hr h1
  ·cases hq:mG fs op.name (vA op.name fs) with
   | false=>exact QI w B D fs c k cr fl dn v op h hr h1 hq
   | true=>exact aBa w B D fs c k cr fl dn v op h hr h1 hb hq
 ·exact QJ w B D fs c k cr fl dn v op h hr
theorem aAy (fs:List eA) (c k cr fl:Int) (dn:Bool) (op:lO):(kG fs c k cr fl dn op).1≤6:=by
 unfold kG;split
 ·show (kK fs c op).1≤6;unfold kK;simp only;repeat' split
  all_goals simp
 ·rcases iW k cr fl dn with h | h | h<;>simp [h]
theorem yE.set_below {w:World}{B:Nat}{a:Option Addr}{fs:List eA} (h:yE w B a fs){p:Addr} (hp:p.block<B) (v:Value):yE (w.setCell p v) B a fs:=by
 rcases h with h | ⟨g,o,cur,t,rfl,hB,hg,h⟩
 ·exact Or.inl h
 ·have hb:=Below.heap_setCell w p v g (by omega);have hk:∀j,(w.setCell p v).cell? ⟨g,j,none⟩=w.cell? ⟨g,j,none⟩:=fun j=>World.cell?_of_block hb;exact Or.inr ⟨g,o,cur,t,rfl,hB,hb.trans hg,fun i hi=>by simp only [hk];exact h i hi⟩
theorem CA {w w1:World}{x y z:Array Value}{tx ty tz:TypeId} (hb:Below (((w.alloc (.cells x tx)).alloc (.cells y ty)).alloc (.cells z tz)).heap.size (((w.alloc (.cells x tx)).alloc (.cells y ty)).alloc (.cells z tz)) w1):
 lA w1 w.heap.size x tx∧lA w1 (w.heap.size+1) y ty∧lA w1 (w.heap.size+1+1) z tz∧Below w.heap.size w w1:=by
 refine ⟨?_,?_,?_,rA (rA (rA (bA _ _) (bA _ _)) (bA _ _)) hb⟩
 ·exact (lA.later (lA.later (lA.later (g:=w.heap.size) (heap_alloc_new w (.cells x tx)) (Below.refl _ _)) (bA _ _)) (bA _ _)).later hb
 ·have h:=lA.later (g:=(w.alloc (.cells x tx)).heap.size) (heap_alloc_new (w.alloc (.cells x tx)) (.cells y ty)) (rA (bA _ _) hb);simpa using h
 ·have h:=lA.later (g:=((w.alloc (.cells x tx)).alloc (.cells y ty)).heap.size) (heap_alloc_new ((w.alloc (.cells x tx)).alloc (.cells y ty)) (.cells z tz)) hb;simpa using h
def zM (fs:List eA) (c k cr fl:Int) (dn:Bool) (op:lO):Nat×List eA×Int×Int×Int×Int×Bool:=
 if (sD fs c k cr fl&&XV op)=true then ((kG fs c k cr fl dn op).1,(kG fs c k cr fl dn op).2.1,c,(kG fs c k cr fl dn op).2.2.1,cr,fl,(kG fs c k cr fl dn op).2.2.2) else (6,[],0,0,0,0,false)
def aQf (R:Nat×List eA×Int×Int×Int×Int×Bool) (a:Option Addr) (cap:Nat):Value:=
 .tuple #[.agg #[.slice a R.2.1.length cap,.int .i64 R.2.2.1,.int .i64 R.2.2.2.1,.int .i64 R.2.2.2.2.1,.int .i64 R.2.2.2.2.2.1,.bool R.2.2.2.2.2.2],.int .i64 R.1]
def xD (D:cE) (op:lO):cE×Nat:=
 (⟨(zM D.fs D.c D.k D.cr D.fl D.dn op).2.1,(zM D.fs D.c D.k D.cr D.fl D.dn op).2.2.1,(zM D.fs D.c D.k D.cr D.fl D.dn op).2.2.2.1,(zM D.fs D.c D.k D.cr D.fl D.dn op).2.2.2.2.1,(zM D.fs D.c D.k D.cr D.fl D.dn op).2.2.2.2.2.1,(zM D.fs D.c D.k D.cr D.fl D.dn op).2.2.2.2.2.2⟩,(zM D.fs D.c D.k D.cr D.fl D.dn op).1)
structure IL (fs:List eA):Prop where
 short:qI fs
 len:fs.length≤1048576
 sum:aB fs≤1000000000
theorem aCd:IL []:=⟨fun i h=>absurd h (by simp),by simp,by simp [aB]⟩
theorem kJ (fs:List eA) (i:Nat) (f:eA) (h:i<fs.length):aB (fs.set i f)+fs[i].data.size=aB fs+f.data.size:=by
 induction fs generalizing i with
 | nil=>exact absurd h (by simp)
 | cons g r ih=>
   cases i with
   | zero=>simp [aB];omega
   | succ i=>
     have:=ih i (by simpa using h);simp only [List.set_cons_succ,List.getElem_cons_succ,aB];omega
theorem aBd {fs:List eA} (i:Nat) (hi:i<fs.length):fs[i].data.size≤aB fs:=by
 have h1:=nF fs i hi;have h2:=xE fs (i+1);omega
theorem mN {fs:List eA} (h:qI fs){f:eA} (hf:f∈fs):f.name.size≤maxLen∧f.data.size≤maxLen:=by
 obtain ⟨i,hi,rfl⟩:=List.getElem_of_mem hf;exact h i hi
theorem aY {fs:List eA} (h:∀f∈fs,f.name.size≤maxLen∧f.data.size≤maxLen):qI fs:=fun _ hi=>h _ (List.getElem_mem hi)
theorem nZ {fs:List eA} (h:qI fs){i:Nat}{f:eA} (hf:f.name.size≤maxLen∧f.data.size≤maxLen):qI (fs.set i f):=aY fun _ hg=>by
 rcases List.mem_or_eq_of_mem_set hg with hg | rfl
 ·exact mN h hg
 ·exact hf
theorem QN (fs:List eA) (i:Nat):aB (fs.eraseIdx i)≤aB fs:=by
 induction fs generalizing i with
 | nil=>simp
 | cons g r ih=>
   cases i with
   | zero=>simp [aB]
   | succ i=>have:=ih i;simp only [List.eraseIdx_cons_succ,aB];omega
theorem xR (fs:List eA) (i:Nat) (h:i<fs.length):aB (fs.eraseIdx i)+fs[i].data.size=aB fs:=by
 induction fs generalizing i with
 | nil=>exact absurd h (by simp)
 | cons g r ih=>
   cases i with
   | zero=>simp [aB];omega
   | succ i=>
     have:=ih i (by simpa using h);simp only [List.eraseIdx_cons_succ,List.getElem_cons_succ,aB];omega
theorem JP (p:eA→Bool) (fs:List eA):aB (fs.filter p)≤aB fs:=by
 induction fs with
 | nil=>simp
 | cons g r ih=>
   rw [List.filter_cons];split
   ·simp only [aB];omega
   ·simp only [aB];omega
theorem QO (fs:List eA) (f:eA):aB (jE fs f)=aB fs+f.data.size:=by
 induction fs with
 | nil=>simp [jE,aB]
 | cons g r ih=>
   unfold jE;split
   ·simp only [aB];omega
   ·simp only [aB,ih];omega
theorem aFv {fs:List eA}{f g:eA} (h:g∈jE fs f):g=f∨g∈fs:=by
 induction fs with
 | nil=>simp [jE] at h;exact Or.inl h
 | cons x r ih=>
   unfold jE at h;split at h
   ·simpa using h
   ·rcases List.mem_cons.1 h with rfl | h
    ·simp
    ·rcases ih h with h | h
     ·exact Or.inl h
     ·exact Or.inr (List.mem_cons_of_mem _ h)
theorem vV (fs:List eA) (i:Nat) (f:eA):aB (iI fs i f)=aB fs+f.data.size:=by
 have h:=uL (fs.take i) (fs.drop i);rw [List.take_append_drop] at h;rw [iI,uL];simp only [aB];omega
theorem aOg {fs:List eA}{c:Int}{op:lO} (h:IL fs) (h1:fs.length≤1000) (h3:c≤1000000000) (hn:op.name.size≤maxLen) (ht:op.to.size≤maxLen):IL (kK fs c op).2:=by
 have hM:(1000000000:Nat)≤maxLen:=by unfold maxLen;omega
 unfold kK;simp only;split
 ·split
  ·exact h
  ·split
   ·exact h
   ·refine ⟨aY fun f hf=>?_,?_,?_⟩
    ·simp only [iI,List.mem_append,List.mem_cons] at hf;rcases hf with hf | rfl | hf
     ·exact mN h.short (List.mem_of_mem_take hf)
     ·exact ⟨hn,by simp [maxLen]⟩
     ·exact mN h.short (List.mem_of_mem_drop hf)
    ·show (iI fs _ _).length≤_;rw [iI];simp only [List.length_append,List.length_take,List.length_cons,List.length_drop];omega
    ·show aB (iI fs _ _)≤_;rw [vV];have:=h.sum;simpa using this
 ·split
  ·exact h
  ·rename_i f hf;obtain ⟨hi,rfl⟩:=List.getElem?_eq_some_iff.1 hf;have hmem:=mN h.short (List.getElem_mem hi);have hle:=aBd _ hi;have hs:=h.sum;split
   ·exact h
   ·split
    ·split
     ·exact h
     ·rename_i hc;have hset:=kJ fs (vA op.name fs) ⟨fs[vA op.name fs].name,fs[vA op.name fs].data++op.data,fs[vA op.name fs].synced⟩ hi;simp only [ByteArray.size_append] at hset;refine ⟨nZ h.short ⟨hmem.1,?_⟩,?_,?_⟩
      ·show (fs[vA op.name fs].data++op.data).size≤maxLen;rw [ByteArray.size_append];omega
      ·show (fs.set _ _).length≤_;rw [List.length_set];omega
      ·show aB (fs.set _ _)≤_;omega
    ·split
     ·have hset:=kJ fs (vA op.name fs) ⟨fs[vA op.name fs].name,fs[vA op.name fs].data,fs[vA op.name fs].data.size⟩ hi;refine ⟨nZ h.short hmem,?_,?_⟩
      ·show (fs.set _ _).length≤_;rw [List.length_set];omega
      ·show aB (fs.set _ _)≤_;simp only at hset;omega
     ·split
      ·split
       ·have hset:=kJ fs (vA op.name fs) ⟨fs[vA op.name fs].name,fs[vA op.name fs].data.extract 0 op.size.toNat,op.size⟩ hi;have hx:(fs[vA op.name fs].data.extract 0 op.size.toNat).size≤fs[vA op.name fs].data.size:=by rw [ByteArray.size_extract];omega
        refine ⟨nZ h.short ⟨hmem.1,?_⟩,?_,?_⟩
        ·show (fs[vA op.name fs].data.extract 0 op.size.toNat).size≤maxLen;omega
        ·show (fs.set _ _).length≤_;rw [List.length_set];omega
        ·show aB (fs.set _ _)≤_;simp only at hset;omega
       ·exact h
      ·split
       ·have hlen:(fs.eraseIdx (vA op.name fs)).length≤fs.length:=by rw [List.length_eraseIdx];split<;>omega
        have her:=xR fs (vA op.name fs) hi;refine ⟨aY fun g hg=>?_,?_,?_⟩
        ·rcases aFv (fs:=tB (fs.eraseIdx (vA op.name fs)) op.to) (f:=⟨op.to,fs[vA op.name fs].data,fs[vA op.name fs].synced⟩) hg with rfl | hg
         ·exact ⟨ht,hmem.2⟩
         ·exact mN h.short (List.mem_of_mem_eraseIdx (List.mem_filter.1 hg).1)
        ·show (qF _ _).length≤_;have hpl:∀(l:List eA) (f:eA),(jE l f).length=l.length+1:=fun l f=>by
          induction l with
          | nil=>rfl
          | cons g r ih=>unfold jE;split<;>simp [ih]
         have:(tB (fs.eraseIdx (vA op.name fs)) op.to).length≤(fs.eraseIdx (vA op.name fs)).length:=List.length_filter_le _ _;rw [qF,hpl];simp only;omega
        ·show aB (qF _ _)≤_;have:=JP (fun f=>!(f.name.toList==op.to.toList)) (fs.eraseIdx (vA op.name fs));rw [qF,QO];simp only [tB];omega
       ·refine ⟨aY fun g hg=>mN h.short (List.mem_of_mem_eraseIdx hg),?_,?_⟩
        ·show (fs.eraseIdx _).length≤_;rw [List.length_eraseIdx];split<;>omega
        ·show aB (fs.eraseIdx _)≤_;have:=QN fs (vA op.name fs);omega
theorem sW {D:cE}{op:lO} (h:IL D.fs) (hn:op.name.size≤maxLen) (ht:op.to.size≤maxLen):IL (xD D op).1.fs:=by
 show IL (zM D.fs D.c D.k D.cr D.fl D.dn op).2.1;unfold zM;split
 ·rename_i hq;simp only [Bool.and_eq_true] at hq;obtain ⟨_,h1,_,h3,_⟩:=qL hq.1;unfold kG;split
  ·exact aOg h h1 h3 hn ht
  ·exact h
 ·exact aCd
def mI (L:fF):Bool:=mA L.last 1 999999&&mA L.first 1 L.last&&mA L.size 0 1000000000
def sG (n:Int):lO:=⟨1,gL n,⟨#[]⟩,⟨#[]⟩,0⟩
def pF (n:Int) (f:ByteArray):lO:=⟨2,gL n,⟨#[]⟩,f,0⟩
def cO (n:Int):lO:=⟨3,gL n,⟨#[]⟩,⟨#[]⟩,0⟩
def gF (D:cE) (L:fF) (f:ByteArray):cE×fF×Nat:=
 if (xD D (pF L.last f)).2≠0 then ((xD D (pF L.last f)).1,L,(xD D (pF L.last f)).2)
 else if (xD (xD D (pF L.last f)).1 (cO L.last)).2≠0 then ((xD (xD D (pF L.last f)).1 (cO L.last)).1,L,(xD (xD D (pF L.last f)).1 (cO L.last)).2)
 else ((xD (xD D (pF L.last f)).1 (cO L.last)).1,⟨L.first,L.last,L.size+f.size⟩,0)
def yC (D:cE) (L:fF) (p:ByteArray) (most:Int):cE×fF×Nat:=
 if (mI L&&mA most 1 1000000000)=false then (D,L,21)
 else if mD p=ByteArray.empty then (D,L,22)
 else if L.size≠0∧most<L.size+(mD p).size then
  if L.last=999999 then (D,L,23)
  else if (xD D (sG (L.last+1))).2≠0 then ((xD D (sG (L.last+1))).1,L,(xD D (sG (L.last+1))).2)
  else gF (xD D (sG (L.last+1))).1 ⟨L.first,L.last+1,0⟩ (mD p)
 else gF D L (mD p)
theorem XZ {D D1:cE}{L:fF}{p F:ByteArray}{most:Int}{x:Nat} (hF:mD p=F) (h1:¬(mI L&&mA most 1 1000000000)=false) (h2:¬mD p=ByteArray.empty) (h3:L.size≠0∧most<L.size+F.size) (h4:¬L.last=999999) (hs:xD D (sG (L.last+1))=(D1,x)):
 yC D L p most=if x≠0 then (D1,L,x) else gF D1 ⟨L.first,L.last+1,0⟩ F:=by
 subst hF;unfold yC;rw [if_neg h1,if_neg h2,if_pos h3,if_neg h4,hs]
theorem pQ {D D1:cE}{L:fF}{f:ByteArray}{x:Nat} (hs:xD D (pF L.last f)=(D1,x)) (hx:¬x=0):gF D L f=(D1,L,x):=by
 unfold gF;rw [hs,if_pos hx]
theorem qQ {D D1 D2:cE}{L:fF}{f:ByteArray}{x y:Nat} (hs:xD D (pF L.last f)=(D1,x)) (hx:x=0) (hs2:xD D1 (cO L.last)=(D2,y)):gF D L f=if y≠0 then (D2,L,y) else (D2,⟨L.first,L.last,L.size+f.size⟩,0):=by
 unfold gF;rw [hs,if_neg (by simp [hx])];simp only;rw [hs2]
theorem uK {fs:List eA} (h1:∀f∈fs,xJ f=true) (h2:pR fs):oF fs=true:=by
 simp only [oF,bO,List.all_eq_true,List.mem_range];intro i hi;unfold iP;rw [List.getElem?_eq_getElem hi];simp only [h1 _ (List.getElem_mem hi),Bool.true_and];cases i with
 | zero=>rfl
 | succ j=>
   simp only [List.getElem?_eq_getElem (show j<fs.length by omega)];exact h2 j (j+1) (by omega) hi
theorem nW {fs:List eA} (h:oF fs=true):∀f∈fs,xJ f=true:=by
 intro f hf;obtain ⟨i,hi,rfl⟩:=List.getElem_of_mem hf;simp only [oF,bO,List.all_eq_true,List.mem_range] at h;have:=h i hi;unfold iP at this;rw [List.getElem?_eq_getElem hi] at this;simp only [Bool.and_eq_true] at this;exact this.1
def ltF (a b:eA):Prop:=Op.bytesLess a.name.toList b.name.toList=true
theorem RV {fs:List eA}:pR fs ↔ fs.Pairwise ltF:=by
 rw [List.pairwise_iff_getElem];exact ⟨fun h i j _ hj hij=>h i j hij hj,fun h i j hij hj=>h i j (by omega) hj hij⟩
theorem aBw {fs:List eA}{f:eA} (h:pR fs) (hno:mG fs f.name (vA f.name fs)=false):pR (iI fs (vA f.name fs) f):=by
 have hp:=dI f.name h;have hne:=LC h hno;have h':=RV.1 h;rw [←List.take_append_drop (vA f.name fs) fs,List.pairwise_append] at h';rw [RV,iI,List.pairwise_append,List.pairwise_cons];refine ⟨h'.1,⟨fun b hb=>?_,h'.2.1⟩,fun a ha b hb=>?_⟩
 ·obtain ⟨j,hj,rfl⟩:=List.getElem_of_mem hb;rw [List.length_drop] at hj;rw [List.getElem_drop];have h1:=hp.2.2 (vA f.name fs+j) (by omega) (by omega);exact cI _ _ h1 (fun e=>hne _ (by omega) (toList_inj e))
 ·rcases List.mem_cons.1 hb with rfl | hb
  ·obtain ⟨j,hj,rfl⟩:=List.getElem_of_mem ha;rw [List.length_take] at hj;rw [List.getElem_take];exact hp.2.1 j (by omega) (by omega)
  ·exact h'.2.2 a ha b hb
theorem CW {fs:List eA}{i:Nat}{f:eA} (h:pR fs) (hi:i<fs.length) (hn:f.name=fs[i].name):pR (fs.set i f):=by
 have rB:∀a (ha:a<(fs.set i f).length) (ha':a<fs.length),(fs.set i f)[a].name=fs[a].name:=fun a ha ha'=>by
  rw [List.getElem_set];split
  ·rename_i e;subst e;exact hn
  ·rfl
 intro a b hab hb;have hb':b<fs.length:=by simpa using hb
 rw [rB a (by omega) (by omega),rB b hb hb'];exact h a b hab hb'
theorem jS {n d:ByteArray}{s:Int} (hn:lF n=true) (h0:0≤s) (h1:s≤d.size):xJ ⟨n,d,s⟩=true:=by
 simp [xJ,mA,hn,h0,h1]
theorem cR {fs:List eA}{i:Nat}{f g:eA} (h:g∈fs.set i f):g=f∨g∈fs:=(List.mem_or_eq_of_mem_set h).symm
theorem SW {fs:List eA}{c k cr fl:Int} (h1:fs.length≤1000) (h2:oF fs=true) (h3:0≤c∧c≤1000000000) (h4:(aB fs:Int)≤c) (h5:0≤k∧k≤1000000000000000) (h6:0≤cr∧cr≤1000000000000000) (h7:0≤fl∧fl≤1000000000000000):sD fs c k cr fl=true:=by
 simp [sD,mA,h1,h2,h3,h4,h5,h6,h7]
theorem aIq {fs:List eA}{c:Int}{op:lO} (hf:oF fs=true) (hl:fs.length≤1000) (hs:(aB fs:Int)≤c) (ho:lF op.name=true) (ht:op.kind=5→lF op.to=true):
 oF (kK fs c op).2=true∧(kK fs c op).2.length≤1000∧(aB (kK fs c op).2:Int)≤c:=by
 have ha:=YA hf;have hb:=nW hf;unfold kK;simp only;split
 ·split
  ·exact ⟨hf,hl,hs⟩
  ·rename_i hno;split
   ·exact ⟨hf,hl,hs⟩
   ·rename_i hlt;have hp:=dI op.name ha;refine ⟨uK (fun f hm=>?_) (aBw (f:=⟨op.name,ByteArray.empty,0⟩) ha (by simpa using hno)),?_,?_⟩
    ·simp only [iI,List.mem_append,List.mem_cons] at hm;rcases hm with hm | rfl | hm
     ·exact hb _ (List.mem_of_mem_take hm)
     ·exact jS ho (by omega) (by simp)
     ·exact hb _ (List.mem_of_mem_drop hm)
    ·rw [xL _ _ _ hp.1];omega
    ·rw [vV];simpa using hs
 ·split
  ·exact ⟨hf,hl,hs⟩
  ·rename_i f hfi;obtain ⟨hi,rfl⟩:=List.getElem?_eq_some_iff.1 hfi;have hbi:=hb _ (List.getElem_mem hi);simp only [xJ,mA,Bool.and_eq_true,decide_eq_true_eq] at hbi;split
   ·exact ⟨hf,hl,hs⟩
   ·split
    ·split
     ·exact ⟨hf,hl,hs⟩
     ·rename_i hc;have hset:=kJ fs (vA op.name fs) ⟨fs[vA op.name fs].name,fs[vA op.name fs].data++op.data,fs[vA op.name fs].synced⟩ hi;simp only [ByteArray.size_append] at hset;refine ⟨uK (fun g hg=>?_) (CW ha hi rfl),by simpa using hl,by simp only;omega⟩;rcases cR hg with rfl | hg
      ·exact jS hbi.1 hbi.2.1 (by rw [ByteArray.size_append];omega)
      ·exact hb _ hg
    ·split
     ·have hset:=kJ fs (vA op.name fs) ⟨fs[vA op.name fs].name,fs[vA op.name fs].data,fs[vA op.name fs].data.size⟩ hi;simp only at hset;refine ⟨uK (fun g hg=>?_) (CW ha hi rfl),by simpa using hl,by simp only;omega⟩;rcases cR hg with rfl | hg
      ·exact jS hbi.1 (by omega) (by omega)
      ·exact hb _ hg
     ·split
      ·split
       ·rename_i hz;simp only [mA,Bool.and_eq_true,decide_eq_true_eq] at hz;have hset:=kJ fs (vA op.name fs) ⟨fs[vA op.name fs].name,fs[vA op.name fs].data.extract 0 op.size.toNat,op.size⟩ hi;simp only at hset;have hx:(fs[vA op.name fs].data.extract 0 op.size.toNat).size=op.size.toNat:=by rw [ByteArray.size_extract];omega
        refine ⟨uK (fun g hg=>?_) (CW ha hi rfl),by simpa using hl,by simp only;omega⟩;rcases cR hg with rfl | hg
        ·exact jS hbi.1 hz.1 (by rw [hx];omega)
        ·exact hb _ hg
       ·exact ⟨hf,hl,hs⟩
      ·have he:oF (fs.eraseIdx (vA op.name fs))=true:=uK (fun g hg=>hb _ (List.mem_of_mem_eraseIdx hg)) (ha.erase _);have hll:(fs.eraseIdx (vA op.name fs)).length=fs.length - 1:=by rw [List.length_eraseIdx,if_pos hi]
       have hse:=xR fs _ hi;split
       ·rename_i h5;have hz:=(dI op.to (ha.erase (vA op.name fs)))
        have hf5:=jS (n:=op.to) (d:=fs[vA op.name fs].data) (s:=fs[vA op.name fs].synced) (ht h5) hbi.2.1 hbi.2.2;cases hq:mG (fs.eraseIdx (vA op.name fs)) op.to (vA op.to (fs.eraseIdx (vA op.name fs))) with
        | true=>
          obtain ⟨hj,hjn⟩:=DA hq;have hset:=kJ (fs.eraseIdx (vA op.name fs)) (vA op.to (fs.eraseIdx (vA op.name fs))) ⟨op.to,fs[vA op.name fs].data,fs[vA op.name fs].synced⟩ hj;simp only at hset;rw [IK (f:=⟨op.to,fs[vA op.name fs].data,fs[vA op.name fs].synced⟩) (ha.erase _) hj hjn];refine ⟨uK (fun g hg=>?_) (CW (ha.erase _) hj hjn.symm),by simp only [List.length_set];omega,by simp only;omega⟩;rcases cR hg with rfl | hg
          ·exact hf5
          ·exact nW he _ hg
        | false=>
          rw [IJ (f:=⟨op.to,fs[vA op.name fs].data,fs[vA op.name fs].synced⟩) (ha.erase _) hq];refine ⟨uK (fun f hm=>?_) (aBw (f:=⟨op.to,fs[vA op.name fs].data,fs[vA op.name fs].synced⟩) (ha.erase _) hq),?_,?_⟩
          ·simp only [iI,List.mem_append,List.mem_cons] at hm;rcases hm with hm | rfl | hm
           ·exact nW he _ (List.mem_of_mem_take hm)
           ·exact hf5
           ·exact nW he _ (List.mem_of_mem_drop hm)
          ·rw [xL _ _ _ hz.1];omega
          ·rw [vV];simp only;omega
       ·exact ⟨he,by simp only;omega,by simp only;omega⟩
theorem NR {k cr fl:Int}{dn:Bool} (h0:0≤k) (h1:k≤1000000000000000):0≤(wB k cr fl dn).2.1∧(wB k cr fl dn).2.1≤1000000000000000:=by
 unfold wB;split
 ·exact ⟨h0,h1⟩
 ·split
  ·exact ⟨h0,h1⟩
  ·split
   ·simp only;omega
   ·split<;>(simp only;omega)
theorem YR {fs:List eA}{c k cr fl:Int}{dn:Bool}{op:lO} (h:sD fs c k cr fl=true) (ho:XV op=true):
 sD (kG fs c k cr fl dn op).2.1 c (kG fs c k cr fl dn op).2.2.1 cr fl=true:=by
 obtain ⟨h1,h2,h3,h4,h5,h6,h7,h8,h9,h10,h11⟩:=qL h;have hop:lF op.name=true∧(op.kind=5→lF op.to=true):=by
  simp only [XV,mA,Bool.and_eq_true,Bool.or_eq_true,decide_eq_true_eq] at ho;exact ⟨ho.1.2,fun h=>ho.2.resolve_left (fun k=>k h)⟩
 have hc:=NR (cr:=cr) (fl:=fl) (dn:=dn) h6 h7;unfold kG;split
 ·obtain ⟨d1,d2,d3⟩:=aIq (op:=op) h1 h2 h5 hop.1 hop.2;exact SW d2 d1 ⟨h3,h4⟩ d3 hc ⟨h8,h9⟩ ⟨h10,h11⟩
 ·exact SW h2 h1 ⟨h3,h4⟩ h5 hc ⟨h8,h9⟩ ⟨h10,h11⟩
def GZ:ByteArray:=⟨#[97,32,115,101,103,109,101,110,116,32,97,104,101,97,100,32,111,102,32,116,104,101,32,108,97,115,116,32,105,115,32,116,111,114,110]⟩
def aPj:ByteArray:=⟨#[116,104,101,32,115,101,103,109,101,110,116,115,32,97,114,101,32,110,111,32,108,111,103]⟩
def QT:ByteArray:=⟨#[116,104,101,32,112,97,121,108,111,97,100,32,104,97,115,32,110,111,32,102,114,97,109,101]⟩
def aPi:ByteArray:=⟨#[116,104,101,32,108,111,103,32,104,97,115,32,110,111,32,115,101,103,109,101,110,116,115,32,108,101,102,116]⟩
def aMc (code:Nat):Value:=match code with
 | 20=>.iface 187 (.string GZ)
 | 21=>.iface 187 (.string aPj)
 | 22=>.iface 187 (.string QT)
 | 23=>.iface 187 (.string aPi)
 | c=>xF c
theorem xX {P:Program} (w:World){t tx:TypeId}{ms:Array (String×TypeId)} (b:ByteArray) (ht:P.underlying t=some (.interface ms)):
 (binOp .eql t .nilIface (.iface tx (.string b))).run P w=.ok (.bool false) w:=by
 have h:∀d:Nat,(Op.equalIn (d+2) t .nilIface (.iface tx (.string b))).run P w=.ok false w:=fun d=>by
  simp [Op.equalIn,run_underlying ht]
 simp only [binOp];simp [Op.equal,Op.maxDepth,h 9998]
theorem aOl (b:ByteArray) (w:World):
 Calls Tryz.prog 122 #[.nilIface,.iface 187 (.string b)] w fun e w'=>e=.returned (.bool false)∧w'=w:=by
 have heq:(binOp .eql 130 .nilIface (.iface 187 (.string b))).run Tryz.prog w=.ok (.bool false) w:=xX w b Tryz.underlying130;go_enter Tryz.func122,Tryz.ntmps122;go_wp2;go_ret;exact ⟨rfl,rfl⟩
theorem OX (code:Nat) (h:code≤6) (b:ByteArray) (w:World) (h1:(aKy==b)=false) (h2:(QR==b)=false) (h3:(aKz==b)=false) (h4:(IA==b)=false) (h5:(QQ==b)=false) (h6:(aPh==b)=false):
 Calls Tryz.prog 122 #[xF code,.iface 187 (.string b)] w fun e w'=>e=.returned (.bool false)∧w'=w:=by
 match code,h with
 | 0,_=>exact aOl b w
 | 1,_=>exact nD _ _ false h1 w
 | 2,_=>exact nD _ _ false h2 w
 | 3,_=>exact nD _ _ false h3 w
 | 4,_=>exact nD _ _ false h4 w
 | 5,_=>exact nD _ _ false h5 w
 | 6,_=>exact nD _ _ false h6 w
theorem zF (code:Nat) (h:code≤6) (w:World):Calls Tryz.prog 81 #[xF code] w fun e w'=>e=.returned (.int .i64 code)∧w'=w:=by
 have H1:Hid (∀W,Calls Tryz.prog 122 #[xF code,.iface 187 (.string GZ)] W fun e w'=>e=.returned (.bool false)∧w'=W):=fun W=>OX code h _ W (by kernel_rfl) (by kernel_rfl) (by kernel_rfl) (by kernel_rfl) (by kernel_rfl) (by kernel_rfl);have H2:Hid (∀W,Calls Tryz.prog 122 #[xF code,.iface 187 (.string aPj)] W fun e w'=>e=.returned (.bool false)∧w'=W):=fun W=>OX code h _ W (by kernel_rfl) (by kernel_rfl) (by kernel_rfl) (by kernel_rfl) (by kernel_rfl) (by kernel_rfl);have H3:Hid (∀W,Calls Tryz.prog 122 #[xF code,.iface 187 (.string QT)] W fun e w'=>e=.returned (.bool false)∧w'=W):=fun W=>OX code h _ W (by kernel_rfl) (by kernel_rfl) (by kernel_rfl) (by kernel_rfl) (by kernel_rfl) (by kernel_rfl);have H4:Hid (∀W,Calls Tryz.prog 122 #[xF code,.iface 187 (.string aPi)] W fun e w'=>e=.returned (.bool false)∧w'=W):=fun W=>OX code h _ W (by kernel_rfl) (by kernel_rfl) (by kernel_rfl) (by kernel_rfl) (by kernel_rfl) (by kernel_rfl);have H5:Hid _:=fun W=>aIh code h W;generalize xF code=E at *;go_enter Tryz.func81,Tryz.ntmps81;go_wp2_with fail;refine (H1.out _).mono ?_;rintro e w' ⟨rfl,hw⟩;replace hw:=hw.symm;subst hw;go_wp2_with fail;refine (H2.out _).mono ?_;rintro e w' ⟨rfl,hw⟩;replace hw:=hw.symm;subst hw;go_wp2_with fail;refine (H3.out _).mono ?_;rintro e w' ⟨rfl,hw⟩;replace hw:=hw.symm;subst hw;go_wp2_with fail;refine (H4.out _).mono ?_;rintro e w' ⟨rfl,hw⟩;replace hw:=hw.symm;subst hw;go_wp2_with fail;refine (H5.out _).mono ?_;rintro e w' ⟨rfl,hw⟩;replace hw:=hw.symm;subst hw;go_wp2;go_ret;exact ⟨rfl,rfl⟩
theorem CJ (w:World):Calls Tryz.prog 81 #[.iface 187 (.string GZ)] w fun e w'=>e=.returned (.int .i64 20)∧w'=w:=by
 go_enter Tryz.func81,Tryz.ntmps81;go_wp2_with fail;refine (nD _ _ true (by kernel_rfl) _).mono ?_;rintro e w' ⟨rfl,rfl⟩;go_wp2;go_ret;exact ⟨rfl,rfl⟩
theorem VB (w:World):Calls Tryz.prog 81 #[.iface 187 (.string aPj)] w fun e w'=>e=.returned (.int .i64 21)∧w'=w:=by
 go_enter Tryz.func81,Tryz.ntmps81;go_wp2_with fail;refine (nD _ _ false (by kernel_rfl) _).mono ?_;rintro e w' ⟨rfl,rfl⟩;go_wp2_with fail;refine (nD _ _ true (by kernel_rfl) _).mono ?_;rintro e w' ⟨rfl,rfl⟩;go_wp2;go_ret;exact ⟨rfl,rfl⟩
theorem FT (w:World):Calls Tryz.prog 81 #[.iface 187 (.string QT)] w fun e w'=>e=.returned (.int .i64 22)∧w'=w:=by
 go_enter Tryz.func81,Tryz.ntmps81;go_wp2_with fail;refine (nD _ _ false (by kernel_rfl) _).mono ?_;rintro e w' ⟨rfl,rfl⟩;go_wp2_with fail;refine (nD _ _ false (by kernel_rfl) _).mono ?_;rintro e w' ⟨rfl,rfl⟩;go_wp2_with fail;refine (nD _ _ true (by kernel_rfl) _).mono ?_;rintro e w' ⟨rfl,rfl⟩;go_wp2;go_ret;exact ⟨rfl,rfl⟩
theorem VA (w:World):Calls Tryz.prog 81 #[.iface 187 (.string aPi)] w fun e w'=>e=.returned (.int .i64 23)∧w'=w:=by
 go_enter Tryz.func81,Tryz.ntmps81;go_wp2_with fail;refine (nD _ _ false (by kernel_rfl) _).mono ?_;rintro e w' ⟨rfl,rfl⟩;go_wp2_with fail;refine (nD _ _ false (by kernel_rfl) _).mono ?_;rintro e w' ⟨rfl,rfl⟩;go_wp2_with fail;refine (nD _ _ false (by kernel_rfl) _).mono ?_;rintro e w' ⟨rfl,rfl⟩;go_wp2_with fail;refine (nD _ _ true (by kernel_rfl) _).mono ?_;rintro e w' ⟨rfl,rfl⟩;go_wp2;go_ret;exact ⟨rfl,rfl⟩
theorem VC (code:Nat) (h:code≤6∨code=20∨code=21∨code=22∨code=23) (w:World):Calls Tryz.prog 81 #[aMc code] w fun e w'=>e=.returned (.int .i64 code)∧w'=w:=by
 rcases h with h | rfl | rfl | rfl | rfl
 rotate_left
 ·exact CJ w
 ·exact VB w
 ·exact FT w
 ·exact VA w
 match code,h with
 | 0,_=>exact zF 0 (by omega) w
 | 1,_=>exact zF 1 (by omega) w
 | 2,_=>exact zF 2 (by omega) w
 | 3,_=>exact zF 3 (by omega) w
 | 4,_=>exact zF 4 (by omega) w
 | 5,_=>exact zF 5 (by omega) w
 | 6,_=>exact zF 6 (by omega) w
theorem DB {a b:ByteArray} (h:a=b):Ending.returned (.string a)=.returned (.string b):=by rw [h]
theorem JL (p:ByteArray) (w:World) (hs:p.size≤maxLen):
 Calls Tryz.prog 59 #[.string p] w fun e w'=>e=.returned (.string (mD p))∧Below w.heap.size w w':=by
 by_cases h:1≤p.size∧p.size≤60000
 ·have hB:mA (p.size:Int) 1 60000=true:=by unfold mA;simp;omega
  have E:Hid (mD p=nC 4 p.size++nC 4 (uQ p:Nat)++p):=if_pos h;have h1:=yB 4 (p.size:Int);have h2:=yB 4 ((uQ p:Nat):Int);have hc:=aLz p;have hp:=h.2;have HS:Hid (p.size≤maxLen):=hs;clear hs h;go_enter Tryz.func59,Tryz.ntmps59;go_wp2_with (go_at_call 22;refine (sC _ _ _ _).mono ?_;rintro e w' ⟨rfl,hw⟩;replace hw:=hw.symm;subst hw);refine (bG 4 (p.size:Int) _ (by omega) (by omega) (by omega)).mono ?_;rintro e w1 ⟨rfl,hb1⟩;go_wp2_with fail;refine (WV p _ HS.out).mono ?_;rintro e w' ⟨rfl,hw⟩;replace hw:=hw.symm;subst hw;go_wp2_with fail;refine (bG 4 ((uQ p:Nat):Int) _ (by omega) (by omega) (by omega)).mono ?_;rintro e w2 ⟨rfl,hb2⟩;generalize nC 4 (p.size:Int)=A at *;generalize nC 4 ((uQ p:Nat):Int)=B at *;have HB:Hid (Below w.heap.size w w2):=rA hb1 hb2;clear hb1 hb2;go_wp2;go_ret;exact ⟨DB E.out.symm,HB.out⟩
 ·have hB:mA (p.size:Int) 1 60000=false:=by unfold mA;simp;omega
  have E:Hid (mD p=ByteArray.empty):=if_neg h;go_enter Tryz.func59,Tryz.ntmps59;go_wp2_with (go_at_call 22;refine (sC _ _ _ _).mono ?_;rintro e w' ⟨rfl,hw⟩;replace hw:=hw.symm;subst hw);go_ret;exact ⟨DB E.out.symm,Below.refl _ _⟩
theorem IW (p:ByteArray) (w:World) (hs:p.size≤maxLen):
 Calls Tryz.prog 84 #[.string p] w fun e w'=>e=.returned (.string (mD p))∧Below w.heap.size w w':=by
 have HS:Hid _:=hs;unfold maxLen at hs;have HF:Hid (∀W,Calls Tryz.prog 120 #[.int .i64 (p.size:Int)] W fun e w'=>e=.returned (.bool (mA p.size 1 60000))∧w'=W):=fun W=>TK _ W;by_cases h:1≤p.size∧p.size≤60000
 ·have hb:mA p.size 1 60000=true:=by simp [mA];omega
  rw [hb] at HF;have E:Hid (mD p=nC 4 p.size++nC 4 (uQ p:Nat)++p):=if_pos h;have h4:=yB 4 (p.size:Int);have h4':=yB 4 ((uQ p:Nat):Int);have H1:Hid (∀W,Calls Tryz.prog 117 #[.int .i64 (p.size:Int),.int .i64 4] W fun e w'=>e=.returned (.string (nC 4 p.size))∧Below W.heap.size W w'):=fun W=>bH 4 _ W (by omega);have H2:Hid (∀W,Calls Tryz.prog 117 #[.int .i64 (uQ p:Nat),.int .i64 4] W fun e w'=>e=.returned (.string (nC 4 (uQ p:Nat)))∧Below W.heap.size W w'):=fun W=>bH 4 _ W (by omega);generalize nC 4 (p.size:Int)=A at *;generalize nC 4 ((uQ p:Nat):Int)=B at *;go_enter Tryz.func84,Tryz.ntmps84;go_wp2_with (go_at_call 120;refine (HF.out _).mono ?_;rintro e w' ⟨rfl,hw⟩;replace hw:=hw.symm;subst hw);refine (H1.out _).mono ?_;rintro e w1 ⟨rfl,hb1⟩;go_wp2_with fail;refine (TZ p _ HS.out).mono ?_;rintro e w2 ⟨rfl,hb2⟩;go_wp2_with fail;refine (H2.out _).mono ?_;rintro e w3 ⟨rfl,hb3⟩;have HB:Hid _:=rA (rA hb1 hb2) hb3;clear hb1 hb2 hb3;go_wp2;go_ret;exact ⟨DB E.out.symm,HB.out⟩
 ·have hb:mA p.size 1 60000=false:=by simp [mA];omega
  rw [hb] at HF;have E:Hid (mD p=ByteArray.empty):=if_neg h;go_enter Tryz.func84,Tryz.ntmps84;go_wp2_with (go_at_call 120;refine (HF.out _).mono ?_;rintro e w' ⟨rfl,hw⟩;replace hw:=hw.symm;subst hw);go_ret;exact ⟨DB E.out.symm,Below.refl _ _⟩
theorem YQ {n:Nat} (h:0<n) (acc:List UInt8):tI n n acc=tI (n / 10) (n / 10) ((48+UInt8.ofNat (n % 10)):: acc):=by
 obtain ⟨m,rfl⟩:∃m,n=m+1:=⟨n - 1,by omega⟩
 conv=>lhs;rw [tI]
 rw [if_neg (by omega)];exact AF _ _ _ _ (by omega) (Nat.le_refl _)
theorem PF (k:Nat) (w:World) (h0:0<k) (h1:k≤1000000000):
 Calls Tryz.prog 44 #[.int .i64 (k:Int)] w fun e w'=>e=.returned (.string (mt k))∧Below w.heap.size w w':=by
 have hk:¬((k:Int)≤0):=by omega
 have hcv:=SP;go_enter Tryz.func44,Tryz.ntmps44;go_wp2;go_loopw [0,3] (fun a s wr=>∃(n:Nat) (st:ByteArray),st.size+n≤k∧a=.int .i64 n∧s=.string st∧tI n n st.data.toList=tI k k []∧Below w.heap.size w wr) (fun a _ _=>(intOf a).toNat)
 case atStart=>exact ⟨k,ByteArray.empty,by simp,rfl,rfl,rfl,Below.refl _ _⟩
 case round=>
  obtain ⟨n,st,hn,rfl,rfl,hd,hbel⟩:=hrel;have HD:Hid (tI n n st.data.toList=tI k k []):=hd;clear hd;have hsz:(st.size:Int)≤1000000000:=by omega
  by_cases hp:0<n
  ·go_wp2;refine ⟨⟨n / 10,_,?_,by go_num,rfl,?_,hbel.alloc hbel.size _⟩,by simp [intOf];omega⟩
   ·rw [dY];omega
   ·rw [QL,←YQ hp];exact HD.out
  ·go_wp2;go_ret;refine ⟨?_,hbel⟩;have e0:n=0:=by omega
   have hd:=HD.out;rw [e0] at hd;have e:st.data.toList=tI k k []:=by rw [←hd];rfl
   have e2:((⟨#[109]⟩:ByteArray)++st)=mt k:=by
    unfold mt;exact LV _ _ (by rw [QL,e])
   exact congrArg (fun x=>Ending.returned (.string x)) e2
theorem mE (k:Int) (n:Nat) (hk:k=(n:Int)) (w:World) (h0:0<n) (h1:n≤1000000000):
 Calls Tryz.prog 44 #[.int .i64 k] w fun e w'=>e=.returned (.string (mt n))∧Below w.heap.size w w':=hk ▸ PF n w h0 h1
theorem JB (a:Option Addr) (cap:Nat) (fs:List eA) (k B:Nat) (w:World) (hk:0<k) (hk2:k+3 * fs.length≤100000000) (hf:yE w B a fs):
 Calls Tryz.prog 87 #[.slice a fs.length cap,.int .i64 (k:Int)] w fun e w'=>e=.returned (.int .i64 ((k+3 * fs.length:Nat):Int))∧qU w w' B a fs.length∧yE w' B a (uM k fs.length):=by
 have hf2:yE w B a fs∧(fs=[]∨0<fs.length):=⟨hf,by rcases fs with _ | ⟨f,r⟩<;>simp⟩
 have hf3:fs=[]∨(0<fs.length∧∃g o cur t,a=some ⟨g,o,none⟩∧B≤g∧w.heap[g]?=some (.cells cur t (0,0))∧mQ w g o fs):=by
  rcases hf2.2 with h | h
  ·exact Or.inl h
  ·rcases hf2.1 with h' | h'
   ·exact Or.inl h'
   ·exact Or.inr ⟨h,h'⟩
 clear hf hf2;rcases hf3 with rfl | ⟨hpos,g,o,cur,t,rfl,hB,hg,hfs⟩
 ·go_enter Tryz.func87,Tryz.ntmps87;go_wp2;go_loopw [1,5] (fun l i wr=>l=.int .i64 (k:Int)∧i=.int .i64 0∧wr=w) (fun _ i _=>0)
  case atStart=>exact ⟨rfl,rfl,rfl⟩
  case round=>
   obtain ⟨rfl,rfl,rfl⟩:=hrel;go_wp2;go_ret;exact ⟨rfl,Or.inl ⟨rfl,Below.refl _ _⟩,Or.inl rfl⟩
 have hrow:=CP hg hfs;have hsz:=aHb hrow;have HG:Hid (lA w g cur t):=hg;clear hrow hg hfs;generalize hn:fs.length=n at *;have hsz2:n=0∨o+n * 3≤cur.size:=by
  rcases hsz with h | h
  ·left;rw [←hn,h];rfl
  ·exact Or.inr h
 clear hsz hn;go_enter Tryz.func87,Tryz.ntmps87;go_wp2;go_loopw [1,5] (fun l i wr=>∃(j:Nat) (c:Array Value),j≤n∧i=.int .i64 j∧l=.int .i64 ((k+3 * j:Nat):Int)∧lA wr g c t∧c.size=cur.size∧(∀m,m<j→kE c o m (VH k m))∧bE g w wr) (fun _ i _=>n - (intOf i).toNat)
 case atStart=>exact ⟨0,cur,Nat.zero_le _,rfl,rfl,HG.out,rfl,fun m h=>absurd h (by omega),bE.refl _ _⟩
 case round=>
  obtain ⟨j,c,hj,rfl,rfl,hblk,hcs,hrows,hbut⟩:=hrel;have HBLK:Hid (lA wr g c t):=hblk;have HROWS:Hid _:=hrows;have HCS:Hid _:=hcs;clear hblk hrows;by_cases hlt:j<n
  ·have hbd:o+j * 3+2<c.size:=by rcases hsz2 with h | h<;>omega
   clear hcs hsz2;go_wp2_with fail;refine (mE _ (k+3 * j) (by omega) _ (by omega) (by omega)).mono ?_;rintro e w1 ⟨rfl,hb1⟩;have hB1:=HBLK.out.later hb1;obtain ⟨v0,d0⟩:=hB1.there (j:=o+j * 3) (by omega);have f0:=hB1.free (o+j * 3);have HB1:Hid (lA w1 g c t):=hB1;clear hB1;go_wp2_with fail;refine (mE _ (k+3 * j+1) (by omega) _ (by omega) (by omega)).mono ?_;rintro e w2 ⟨rfl,hb2⟩;have hB2:=(HB1.out.set (o+j * 3) (.string (mt (k+3 * j)))).later hb2;obtain ⟨v1,d1⟩:=hB2.there (j:=o+j * 3+1) (by simp;omega);have f1:=hB2.free (o+j * 3+1);obtain ⟨v2,d2⟩:=hB2.there (j:=o+j * 3+2) (by simp;omega);have f2:=hB2.free (o+j * 3+2);have HB2:Hid (lA w2 g (c.setIfInBounds (o+j * 3) (.string (mt (k+3 * j)))) t):=hB2;have HBUT:Hid _:=((hbut.trans (bE.of hb1)).setCell _ _).trans (bE.of hb2);clear hB2 d0 f0 hb1 hb2 hbut;go_wp2;refine ⟨⟨j+1,_,by omega,by go_num,by go_num,(HB2.out.set (o+j * 3+1) (.string (mt (k+3 * j+1)))).set (o+j * 3+2) (.int .i64 ((k+3 * j+2:Nat):Int)),by simp [HCS.out],?_,(HBUT.out.setCell _ _).setCell _ _⟩,by simp [intOf];omega⟩;intro m hm;by_cases e:m=j
   ·subst e;exact kE.made c o m (VH k m) hbd
   ·exact (((HROWS.out m (by omega)).set (by omega) _).set (by omega) _).set (by omega) _
  ·go_wp2;go_ret;have e:j=n:=by omega
   subst e;refine ⟨jB (by omega),Or.inr ⟨hpos,g,o,rfl,hB,hbut⟩,Or.inr ⟨g,o,c,t,rfl,hB,HBLK.out,kM HBLK.out ?_⟩⟩;intro m hm;rw [LQ];exact HROWS.out m (by rw [iX] at hm;exact hm)
theorem qU.from {w w1 w':World}{B n:Nat}{a:Option Addr} (hb:Below w.heap.size w w1) (h:qU w1 w' B a n):qU w w' B a n:=by
 rcases h with ⟨h0,h⟩ | ⟨hp,g,o,e,hB,h⟩
 ·exact Or.inl ⟨h0,rA hb h⟩
 ·exact Or.inr ⟨hp,g,o,e,hB,(bE.of hb).trans h⟩
theorem gX (a:Option Addr) (cap:Nat) (fs:List eA) (c k0 cr fl:Int) (dn:Bool) (k B:Nat) (w:World) (hk:0<k) (hk2:k+3 * fs.length≤100000000) (hf:yE w B a fs):
 Calls Tryz.prog 42 #[.agg #[.slice a fs.length cap,.int .i64 c,.int .i64 k0,.int .i64 cr,.int .i64 fl,.bool dn],.int .i64 (k:Int)] w fun e w'=>
  e=.returned (.int .i64 ((k+3 * fs.length:Nat):Int))∧qU w w' B a fs.length∧yE w' B a (uM k fs.length):=by
 have HF:Hid (yE w B a fs):=hf;clear hf;go_enter Tryz.func42,Tryz.ntmps42;go_wp2_with fail;refine (JB a cap fs k B _ hk hk2 (HF.out.later (bA _ _))).mono ?_;rintro e w1 ⟨rfl,hm,ho⟩;have HM:Hid (qU w w1 B a fs.length∧yE w1 B a (uM k fs.length)):=⟨hm.from (bA _ _),ho⟩
 clear hm ho;go_wp2;go_ret;exact ⟨rfl,HM.out.1,HM.out.2⟩
theorem IQ (a:Option Addr) (cap:Nat) (k n:Nat) (w:World) (hk:0<k) (hk2:k+3 * n≤100000000) (hf:kA w a (uM k n)):
 Calls Tryz.prog 89 #[.slice a n cap,.int .i64 (k:Int)] w fun e w'=>e=.returned (.int .i64 ((k+3 * n:Nat):Int))∧Below w.heap.size w w':=by
 have HF:Hid (kA w a (uM k n)):=hf;clear hf;go_enter Tryz.func89,Tryz.ntmps89;go_wp2;go_loopw [1,5] (fun l i wr=>∃j:Nat,j≤n∧i=.int .i64 j∧l=.int .i64 ((k+3 * j:Nat):Int)∧Below w.heap.size w wr) (fun _ i _=>n - (intOf i).toNat)
 case atStart=>exact ⟨0,Nat.zero_le _,rfl,rfl,Below.refl _ _⟩
 case round=>
  obtain ⟨j,hj,rfl,rfl,hbel⟩:=hrel;by_cases hlt:j<n
  ·obtain ⟨b,o,rfl,hb,c0,c1,c2⟩:=(HF.out.later hbel).at (i:=j) (by rw [iX];exact hlt)
   rw [LQ] at c0 c1 c2;simp only [VH] at c0 c1 c2;have d0:=pA.cells c0;have hne:=pA.there wr;have HC:Hid (wr.cell? ⟨b,o+j * 3+1,none⟩=some (.string (mt (k+3 * j+1)))∧wr.cell? ⟨b,o+j * 3+2,none⟩=some (.int .i64 ((k+3 * j+2:Nat):Int))):=⟨c1,c2⟩
   clear c0 c1 c2;go_wp2_with fail;refine fA (by kernel_rfl) (by kernel_rfl) ?_;repeat (go_big_quiet_step (first | (go_at_call 44;exact oA (mE _ (k+3 * j) (by omega) _ (by omega) (by omega)))))
   refine wpQuiet_nil ?_;rintro _ ⟨x,rfl⟩;have d1:=pA.cells (x.cell HC.out.1);have d2:∀y:pA x.w',y.w'.cell? ⟨b,o+j * 3+2,none⟩=some (.int .i64 ((k:Int)+3 * (j:Int)+2)):=fun y=>by rw [y.cell (x.cell HC.out.2)];simp
   have hne2:=pA.there x.w';have HX:Hid _:=rA hbel x.h;clear d0 hne HC hbel;generalize x.w'=W at *;clear x;go_wp2_with fail;refine fA (by kernel_rfl) (by kernel_rfl) ?_;repeat (go_big_quiet_step (first | (go_at_call 44;exact oA (mE _ (k+3 * j+1) (by omega) _ (by omega) (by omega)))))
   refine wpQuiet_nil ?_;rintro _ ⟨y,rfl⟩;have e2:=d2 y;have HY:Hid _:=rA HX.out y.h;clear d1 d2 hne2;generalize y.w'=W2 at *;clear y;go_wp2;exact ⟨⟨j+1,by omega,by go_num,by go_num,HY.out⟩,by simp [intOf];omega⟩
  ·go_wp2;go_ret;have e:j=n:=by omega
   subst e;exact ⟨jB (by omega),hbel⟩
theorem OM (a:Option Addr) (cap:Nat) (c k0 cr fl:Int) (dn:Bool) (k n:Nat) (w:World) (hk:0<k) (hk2:k+3 * n≤100000000) (hf:kA w a (uM k n)):
 Calls Tryz.prog 45 #[.agg #[.slice a n cap,.int .i64 c,.int .i64 k0,.int .i64 cr,.int .i64 fl,.bool dn],.int .i64 (k:Int)] w fun e w'=>
  e=.returned (.int .i64 ((k+3 * n:Nat):Int))∧Below w.heap.size w w':=by
 have HF:Hid (kA w a (uM k n)):=hf;clear hf;go_enter Tryz.func45,Tryz.ntmps45;go_wp2_with fail;refine (IQ a cap k n _ hk hk2 (HF.out.later (bA _ _))).mono ?_;rintro e w1 ⟨rfl,hb⟩;have HB:Hid _:=rA (bA _ _) hb;clear hb;go_wp2;go_ret;exact ⟨jB (by omega),HB.out⟩
theorem DR {x lo hi:Int}{b:Bool} (h:mA x lo hi=b) (w:World):Calls Tryz.prog 22 #[.int .i64 x,.int .i64 lo,.int .i64 hi] w fun e w'=>e=.returned (.bool b)∧w'=w:=h ▸ sC x lo hi w
theorem JM (L:fF) (w:World):
 Calls Tryz.prog 60 #[.agg #[.int .i64 L.first,.int .i64 L.last,.int .i64 L.size]] w fun e w'=>e=.returned (.bool (mI L))∧Below w.heap.size w w':=by
 have HB:Hid (Below w.heap.size w (w.alloc (.cells #[.int .i64 L.first,.int .i64 L.last,.int .i64 L.size] 40))):=bA _ _;cases h1:mA L.last 1 999999 with
 | false=>
   have E:Hid (mI L=false):=by show _=_;simp [mI,h1]
   have H1:Hid _:=h1;clear h1;go_enter Tryz.func60,Tryz.ntmps60;go_wp2_with fail;refine (DR H1.out _).mono ?_;rintro e w' ⟨rfl,rfl⟩;go_wp2;go_ret;exact ⟨jA E.out.symm,HB.out⟩
 | true=>
   have H1:Hid _:=h1;cases h2:mA L.first 1 L.last with
   | false=>
     have E:Hid (mI L=false):=by show _=_;simp [mI,h2]
     have H2:Hid _:=h2;clear h1 h2;go_enter Tryz.func60,Tryz.ntmps60;go_wp2_with fail;refine (DR H1.out _).mono ?_;rintro e w' ⟨rfl,rfl⟩;go_wp2_with fail;refine (DR H2.out _).mono ?_;rintro e w' ⟨rfl,rfl⟩;go_wp2;go_ret;exact ⟨jA E.out.symm,HB.out⟩
   | true=>
     have H2:Hid _:=h2;have E:Hid (mI L=mA L.size 0 1000000000):=by show _=_;simp [mI,h1,h2]
     clear h1 h2;go_enter Tryz.func60,Tryz.ntmps60;go_wp2_with fail;refine (DR H1.out _).mono ?_;rintro e w' ⟨rfl,rfl⟩;go_wp2_with fail;refine (DR H2.out _).mono ?_;rintro e w' ⟨rfl,rfl⟩;go_wp2_with fail;refine (sC L.size 0 1000000000 _).mono ?_;rintro e w' ⟨rfl,rfl⟩;go_wp2;go_ret;exact ⟨jA E.out.symm,HB.out⟩
theorem yS (n:Int) (w:World):
 Calls Tryz.prog 62 #[.int .i64 n] w fun e w'=>e=.returned (.string (gL n))∧Below w.heap.size w w':=by
 by_cases h:1≤n∧n≤999999
 ·have hB:mA n 1 999999=true:=by unfold mA;simp;omega
  have E:Hid (gL n=JF n.toNat):=if_pos h;obtain ⟨N,rfl⟩:=Int.eq_ofNat_of_zero_le (show 0≤n by omega);have hN:N≤999999:=by omega
  have hcv:=SP;clear h;go_enter Tryz.func62,Tryz.ntmps62;go_wp2_with (go_at_call 22;refine (sC _ _ _ _).mono ?_;rintro e w' ⟨rfl,hw⟩;replace hw:=hw.symm;subst hw);go_loopw [0,3,4] (fun m s i wr=>∃(j M:Nat) (st:ByteArray),j≤6∧i=.int .i64 j∧m=.int .i64 M∧s=.string st∧Hid (M=N / 10 ^ j)∧M≤999999∧st.size=j∧Hid (st.data.toList=sV N j)∧Below w.heap.size w wr) (fun _ _ i _=>6 - (intOf i).toNat)
  case atStart=>exact ⟨0,N,ByteArray.empty,by omega,rfl,rfl,rfl,by show _=_;simp,hN,rfl,rfl,Below.refl _ _⟩
  case round=>
   obtain ⟨j,M,st,hj,rfl,rfl,rfl,hM,hM2,hsz,hst,hbel⟩:=hrel;by_cases hlt:j<6
   ·go_wp2;refine ⟨⟨j+1,M / 10,_,by omega,by go_num,by go_num,rfl,?_,by omega,?_,?_,rA hbel (bA _ _)⟩,by simp [intOf];omega⟩
    ·show _=_;rw [hM.out,Nat.div_div_eq_div_mul,Nat.pow_succ]
    ·rw [dY,hsz]
    ·show _=_;rw [QL,hst.out,sV,hM.out]
   ·go_wp2;go_ret;have e:j=6:=by omega
    subst e;refine ⟨congrArg (fun x=>Ending.returned (.string x)) ?_,hbel⟩;rw [E.out,JF];refine LV _ _ ?_;rw [Int.toNat_natCast,←hst.out];simp
 ·have hB:mA n 1 999999=false:=by unfold mA;simp;omega
  have E:Hid (gL n=ByteArray.empty):=if_neg h;go_enter Tryz.func62,Tryz.ntmps62;go_wp2_with (go_at_call 22;refine (sC _ _ _ _).mono ?_;rintro e w' ⟨rfl,hw⟩;replace hw:=hw.symm;subst hw);go_ret;exact ⟨congrArg (fun x=>Ending.returned (.string x)) E.out.symm,Below.refl _ _⟩
end Go.Proofs.YtcneojllbkacoaaGreatDoor
