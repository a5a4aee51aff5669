import Derived.Test.YtcneojllbkacoaaGreatDoorJ25SDo2
import Derived.Test.YtcneojllbkacoaaGreatDoorJ24SSeg
set_option maxRecDepth 100000
set_option maxHeartbeats 4000000
namespace Go.Proofs.YtcneojllbkacoaaGreatDoor
open Go.RowKit
theorem SQ (W:World) (a:Option Addr) (cap:Nat) (fs:List eA) (hf:kA W a fs) (hlen:fs.length≤1048576):
 ∃a1 cap1 w2,(Builtin.append_ #[37,37] 37 #[.slice (some ⟨W.heap.size,0,none⟩) 0 0,.slice a fs.length cap]).run Tryz.prog (W.alloc (.cells #[] 116))=.ok (.slice a1 fs.length cap1) w2∧
  kA w2 a1 fs∧Below W.heap.size W w2∧∀b o,a1=some ⟨b,o,none⟩→W.heap.size≤b:=by
 obtain ⟨i,hi,hz0,hz1,hz2⟩:=cH;cases a with
 | none=>
   have h0:fs=[]:=by
    rcases hf with h | ⟨b,o,e,_⟩
    ·exact h
    ·exact absurd e (by simp)
   subst h0;refine ⟨some ⟨W.heap.size,0,none⟩,0,W.alloc (.cells #[] 116),?_,Or.inl rfl,bA _ _,fun b o e=>by simp at e;omega⟩;simp [Builtin.append_,run_underlying Tryz.underlying37,sizeOf,typeInfo,hi,Builtin.lenOf,Builtin.firstCells,storeCells]
 | some ad=>
   have hown:(W.alloc (.cells #[] 116)).ownsRow W.heap.size 116 3 (.slice (some ⟨W.heap.size,0,none⟩) 0 0) 0 []:=
    ⟨rfl,Or.inr ⟨W.heap.size,0,#[],rfl,Nat.le_refl _,heap_alloc_new _ _,Nat.le_refl _,Nat.zero_le _,rfl,rfl⟩⟩
   have hnews:∀j u,(flat fs)[j]?=some u→(W.alloc (.cells #[] 116)).cell? (ad.add j)=some u:=by
    rcases hf.later (bA W (.cells #[] 116)) with rfl | ⟨b,o,e,_,h⟩
    ·intro j u h;simp [flat] at h
    ·simp only [Option.some.injEq] at e;subst e;exact uJ h
   obtain ⟨v',w',hr,h2,h3,_,_⟩:=run_append_own_at (P:=Tryz.prog) (W.alloc (.cells #[] 116)) W.heap.size 37 37 116 i _ 3 40 Tryz.underlying37 hi hz0 hz1 hz2 rfl (by omega) (.slice (some ⟨W.heap.size,0,none⟩) 0 0) 0 [] hown ad fs.length cap (flat fs) (cD fs) hnews (aE fs) (by simp [maxLen];omega) (by omega) (by simp);simp only [Nat.zero_add,List.nil_append] at h2;obtain ⟨a1,cap1,rfl,ho⟩:=kF h2;refine ⟨a1,cap1,w',hr,ho.files,(bA _ _).grown h3 (by simp) (fun k hk=>?_),fun b o e=>lH h2 b (by rw [e];rfl)⟩;simp [Value.ownBlock] at hk;omega
def RN (w:World) (a:Option Addr) (cap:Nat) (fs:List eA) (c k cr fl:Int) (dn:Bool) (op:lO):Prop:=
 Calls Tryz.prog 61 #[.agg #[.slice a fs.length cap,.int .i64 c,.int .i64 k,.int .i64 cr,.int .i64 fl,.bool dn],.agg #[.int .i64 op.kind,.string op.name,.string op.to,.string op.data,.int .i64 op.size]] w fun e w'=>
  ∃a' cap',e=.returned (aQf (zM fs c k cr fl dn op) a' cap')∧kA w' a' (zM fs c k cr fl dn op).2.1∧Below w.heap.size w w'
structure aHs (w:World) (a:Option Addr) (fs:List eA) (op:lO):Prop where
 files:kA w a fs
 short:qI fs
 len:fs.length≤1048576
 sum:aB fs≤1000000000
 name:op.name.size≤maxLen
 to:op.to.size≤maxLen
 data:op.data.size≤200000000
theorem wY {w:World}{a:Option Addr}{fs:List eA} (h:kA w a fs){p:Addr} (hp:∀b o,a=some ⟨b,o,none⟩→p.block<b) (v:Value):kA (w.setCell p v) a fs:=by
 rcases h with h | ⟨b,o,rfl,hlt,h⟩
 ·exact Or.inl h
 ·have hb:=Below.heap_setCell w p v b (by have:=hp b o rfl;omega);have hk:∀j,(w.setCell p v).cell? ⟨b,j,none⟩=w.cell? ⟨b,j,none⟩:=fun j=>World.cell?_of_block hb;exact Or.inr ⟨b,o,rfl,by simpa [World.setCell] using hlt,fun i hi=>by simp only [hk];exact h i hi⟩
theorem VW {fs:List eA}{c k cr fl:Int}{dn:Bool}{op:lO}{code:Nat}{k':Int}{dn':Bool} (hq:sD fs c k cr fl=true) (ho:XV op=true) (hc:wB k cr fl dn=(code,k',dn')) (h0:code≠0):zM fs c k cr fl dn op=(code,fs,c,k',cr,fl,dn'):=by
 unfold zM;rw [if_pos (by rw [hq,ho];rfl)];unfold kG;rw [hc,if_neg h0]
theorem aKc {fs:List eA}{c k cr fl:Int}{dn:Bool}{op:lO}{k':Int}{dn':Bool} (hq:sD fs c k cr fl=true) (ho:XV op=true) (hc:wB k cr fl dn=(0,k',dn')):zM fs c k cr fl dn op=((kK fs c op).1,(kK fs c op).2,c,k',cr,fl,dn'):=by
 unfold zM;rw [if_pos (by rw [hq,ho];rfl)];unfold kG;rw [hc,if_pos rfl]
theorem aOu (a:Option Addr) (n cap:Nat) (c k cr fl:Int) (dn:Bool) (j:Nat) (s:ByteArray):(#[.slice a n cap,.int .i64 c,.int .i64 k,.int .i64 cr,.int .i64 fl,.bool dn]:Array Value)[j]?≠some (.string s):=by
 rcases j with _ | _ | _ | _ | _ | _ | j<;>simp
theorem KW {w:World}{D:Nat}{a:Option Addr}{fs:List eA} (h:kA w a fs){a':Option Addr}{n cap:Nat}{c k cr fl:Int}{dn:Bool} (hb:aHr w D a' n cap c k cr fl dn):fs=[]∨∀b o,a=some ⟨b,o,none⟩→b≠D:=by
 by_cases h0:fs=[]
 ·exact Or.inl h0
 ·right;intro b o e hbD;have hpos:0<fs.length:=List.length_pos_iff.2 h0;obtain ⟨b',o',e',_,c0,_,_⟩:=h.at hpos;rw [e] at e';simp only [Option.some.injEq,Addr.mk.injEq,and_true] at e';obtain ⟨rfl,rfl⟩:=e';subst hbD;rw [lA.cell hb] at c0;exact aOu _ _ _ _ _ _ _ _ _ _ c0
theorem ZA {w:World}{a:Option Addr}{fs:List eA} (h:kA w a fs){p:Addr} (hp:fs=[]∨∀b o,a=some ⟨b,o,none⟩→b≠p.block) (v:Value):kA (w.setCell p v) a fs:=by
 rcases h with h | ⟨b,o,rfl,hlt,h⟩
 ·exact Or.inl h
 ·rcases hp with hp | hp
  ·exact Or.inl hp
  ·have hb:=Below.heap_setCell w p v b (hp b o rfl);have hk:∀j,(w.setCell p v).cell? ⟨b,j,none⟩=w.cell? ⟨b,j,none⟩:=fun j=>World.cell?_of_block hb;exact Or.inr ⟨b,o,rfl,by simpa [World.setCell] using hlt,fun i hi=>by simp only [hk];exact h i hi⟩
set_option maxRecDepth 100000
set_option maxHeartbeats 8000000
theorem aQj (w:World) (a:Option Addr) (cap:Nat) (fs:List eA) (c k cr fl:Int) (dn:Bool) (op:lO) (h:aHs w a fs op) (hb:(sD fs c k cr fl&&XV op)=false):RN w a cap fs c k cr fl dn op:=by
 have EO:Hid (zM fs c k cr fl dn op=(6,[],0,0,0,0,false)):=by show _=_;unfold zM;rw [if_neg (by rw [hb];simp)]
 unfold RN;obtain ⟨kd,nm,to,dat,sz⟩:=op;obtain ⟨hf,hs,hl,hsum,hn,ht,-⟩:=h;have HF:=iA hf;have hml:fs.length≤maxLen:=by simp [maxLen];omega
 have hc:sD fs c k cr fl=false∨sD fs c k cr fl=true∧(mA kd 1 6=false∨mA kd 1 6=true∧(lF nm=false∨lF nm=true∧kd=5∧lF to=false)):=by
  simp only [XV] at hb;cases e1:sD fs c k cr fl<;>cases e2:mA kd 1 6<;>cases e3:lF nm<;>simp_all
 clear hb hf;dsimp only at hn ht ⊢;rcases hc with hq | ⟨hq,hb | ⟨hb,hnm | ⟨hnm,rfl,hto⟩⟩⟩
 all_goals
  go_enter Tryz.func61,Tryz.ntmps61;go_wp2_with fail;refine (cY hq _ (((HF.out.later (bA _ _)).later (bA _ _)).later (bA _ _)) hs hml hsum).mono ?_;rintro e w1 ⟨rfl,hb1⟩;obtain ⟨hdk,hop,hR,hbel⟩:=CA hb1;have HB:=iA hbel;obtain ⟨o0,o1,o2,o3,o4⟩:=hop.c5;obtain ⟨r0,r1,r2,r3,r4,r5⟩:=hR.c6;have q:=hR.free;clear hdk hop hR hbel hb1;go_wp2_with (first
   | (go_at_call 22;refine (gC (by assumption) _).mono ?_;rintro e w2 ⟨rfl,rfl⟩)
   | (go_at_call 104;refine (dG (by assumption) _ (by assumption)).mono ?_;rintro e w2 ⟨rfl,rfl⟩))
  refine bodyPost_ret (v:=.tuple #[.agg #[.slice none 0 0,.int .i64 0,.int .i64 0,.int .i64 0,.int .i64 0,.bool false],.int .i64 6]) (by simp [results,Tryz.results61,go_sem,r0,r1,r2,r3,r4,r5]) rfl ?_;rw [EO.out];refine ⟨none,0,rfl,Or.inl rfl,?_⟩;have h:=HB.out;iterate 6 (refine Below.setCell ?_ (by first | (simp;done) | (simp;omega)) _)
  exact h
theorem aPx (w:World) (a:Option Addr) (cap:Nat) (fs:List eA) (c k cr fl:Int) (dn:Bool) (op:lO) (h:aHs w a fs op) (hq:sD fs c k cr fl=true) (ho:XV op=true):RN w a cap fs c k cr fl dn op:=by
 obtain ⟨hfb,hl1000,-,hc1,hsc,hk0,hk1,-⟩:=qL hq;have hcs:dn=true∧zM fs c k cr fl dn op=(1,fs,c,k,cr,fl,true)∨dn=false∧(k=1000000000000000∧zM fs c k cr fl dn op=(2,fs,c,k,cr,fl,false)∨(k==1000000000000000)=false∧
  (cr=k+1∧decide (k+1=0)=false∧zM fs c k cr fl dn op=(1,fs,c,k+1,cr,fl,true)∨(cr=0∨decide (cr=0)=false∧(k+1==cr)=false)∧
   (fl=k+1∧decide (k+1=0)=false∧zM fs c k cr fl dn op=(2,fs,c,k+1,cr,fl,false)∨(fl=0∨decide (fl=0)=false∧(k+1==fl)=false)∧zM fs c k cr fl dn op=((kK fs c op).1,(kK fs c op).2,c,k+1,cr,fl,false)))):=by
  have hp:k+1≠0:=by omega
  have hr:=fun c' k' d'=>@VW fs c k cr fl dn op c' k' d' hq ho;have hd:=fun k' d'=>@aKc fs c k cr fl dn op k' d' hq ho;cases dn
  ·refine Or.inr ⟨rfl,?_⟩;by_cases h1:k=1000000000000000
   ·exact Or.inl ⟨h1,hr _ _ _ (by simp [wB,h1]) (by decide)⟩
   refine Or.inr ⟨by simpa using h1,?_⟩;by_cases h2:k+1=cr
   ·exact Or.inl ⟨h2.symm,by simpa using hp,hr _ _ _ (by subst h2;simp [wB,h1,hp]) (by decide)⟩
   have h2':cr=0∨decide (cr=0)=false∧(k+1==cr)=false:=by by_cases h:cr=0<;>simp [h,h2]
   refine Or.inr ⟨h2',?_⟩;by_cases h3:k+1=fl
   ·exact Or.inl ⟨h3.symm,by simpa using hp,hr _ _ _ (by subst h3;simp [wB,h1,h2,hp]) (by decide)⟩
   ·exact Or.inr ⟨by by_cases h:fl=0<;>simp [h,h3],hd _ _ (by simp [wB,h1,h2,h3])⟩
  ·exact Or.inl ⟨rfl,hr _ _ _ (by simp [wB]) (by decide)⟩
 unfold RN;have hdat:=h.data;have hasc:=YA hfb;obtain ⟨hf,hs,hl,hsum,hn,ht,-⟩:=h;have h5:mA op.kind 1 6=true∧lF op.name=true∧(op.kind=5∧lF op.to=true∨(op.kind==5)=false):=by
  simp only [XV,Bool.and_eq_true,Bool.or_eq_true,decide_eq_true_eq] at ho;exact ⟨ho.1.1,ho.1.2,(Decidable.em (op.kind=5)).elim (fun h=>Or.inl ⟨h,ho.2.resolve_left (fun e=>e h)⟩) fun h=>Or.inr (by simpa using h)⟩
 obtain ⟨kd,nm,to,dat,sz⟩:=op;dsimp only at hn ht hdat h5 ⊢;obtain ⟨hb,hnm,h5⟩:=h5;have HF:=iA hf;have HCS:=iA hcs;have hml:fs.length≤maxLen:=by simp [maxLen];omega
 have hw1:IntKind.i64.wrap (k+1)=k+1:=by rw [IntKind.wrap_i64];omega
 have HAS:=iA (fun W b (hF:kA W b fs)=>(⟨hF,hasc,hl1000,hsc,hc1,hdat⟩:JT W b fs c ⟨kd,nm,to,dat,sz⟩));clear hf hcs ho hfb hasc hc1 hsc hdat;rcases h5 with ⟨rfl,hto⟩ | h5
 all_goals
  go_enter Tryz.func61,Tryz.ntmps61;go_wp2_with fail;refine (cY hq _ (((HF.out.later (bA _ _)).later (bA _ _)).later (bA _ _)) hs hml hsum).mono ?_;rintro e w1 ⟨rfl,hb1⟩;obtain ⟨hdk,hop,hR,hbel⟩:=CA hb1;obtain ⟨o0,o1,o2,o3,o4⟩:=hop.c5;obtain ⟨x0,-,-,-,-,-⟩:=hdk.c6;have hRlt:=aA hR;have hn1:w.heap.size<w1.heap.size:=by omega
  have hn2:¬w.heap.size=w1.heap.size:=by omega
  obtain ⟨a1,cap1,W2,hrun,hfi,hb2,hap⟩:=SQ w1 a cap fs (HF.out.later hbel) hl;have HRUN:=iA hrun;have HFI:=iA hfi;have HAP:=iA hap;have HD2:=iA (hdk.later hb2);have HR2:=iA (hR.later hb2);have HB2:=iA (rA hbel hb2);obtain ⟨d0,d1,d2,d3,d4,d5⟩:=HD2.out.c6;obtain ⟨z0,z1,z2,z3,z4⟩:=(hop.later hb2).c5;have y:=HD2.out.free;obtain ⟨r0,r1,r2,r3,r4,r5⟩:=HR2.out.c6;have q:=HR2.out.free;clear hb1 hdk hop hR hbel hrun hfi hb2 hap;go_upto_region 4 with (first
   | (go_at_call 22;refine (gC (by assumption) _).mono ?_;rintro e w3 ⟨rfl,rfl⟩)
   | (go_at_call 104;refine (dG (by assumption) _ (by assumption)).mono ?_;rintro e w3 ⟨rfl,rfl⟩)
   | (at_builtin;refine Lib.wpList_append_run _ rfl _ _ _ _ rfl _ _ rfl rfl _ _ HRUN.out ?_))
  clear o0 o1 o2 o3 o4 x0 hq;rcases HCS.out with ⟨rfl,EO⟩ | ⟨rfl,⟨rfl,EO⟩ | ⟨hm,⟨rfl,hp,EO⟩ | ⟨rfl | ⟨hc1,hc2⟩,⟨rfl,hp,EO⟩ | ⟨rfl | ⟨hf1,hf2⟩,EO⟩⟩⟩⟩
  all_goals
   have EO:=iA EO;clear HCS;try have hc3:(cr != 0)=true:=by simpa using hc1
   try have hf3:(fl != 0)=true:=by simpa using hf1
   go_wp2_with (go_at_call 105;refine Calls.mono (aJe _ a1 cap1 fs c (k+1) _ _ false ⟨_,nm,to,dat,sz⟩ (HAS.out _ _ (wY (wY HFI.out (fun b o e=>by have:=HAP.out b o e;show w.heap.size<b;omega) _) (fun b o e=>by have:=HAP.out b o e;show w.heap.size<b;omega) _)) hb) ?_;rintro e w5 ⟨a5,cap5,rfl,hf5,hb5⟩;have hd5:=((HD2.out.set 0 (.slice a1 fs.length cap1)).set 2 (.int .i64 (k+1))).later hb5;have hr5:=(HR2.out.but (((bE.refl w.heap.size W2).setCell 0 (.slice a1 fs.length cap1)).setCell 2 (.int .i64 (k+1))) (by omega)).later hb5;have HX1:=iA (KW hf5 (by simpa [aHr] using hd5));have HX2:=iA (KW hf5 hr5);have HF5:=iA hf5;have HB5:=iA (rA ((HB2.out.setCell (by simp) _).setCell (by simp) _) hb5);clear d0 d1 d2 d3 d4 d5 y z0 z1 z2 z3 z4 r0 r1 r2 r3 r4 r5 q hf5 hb5;obtain ⟨d0,d1,d2,d3,d4,d5⟩:=lA.c6 (by simpa using hd5);obtain ⟨r0,r1,r2,r3,r4,r5⟩:=hr5.c6;have y:=hd5.free;have q:=hr5.free;clear hd5 hr5;generalize kK fs c _=R at *;obtain ⟨code,fs'⟩:=R);refine bodyPost_ret (v:=?_) (by simp [results,Tryz.results61,go_sem,r0,r1,r2,r3,r4,r5];rfl) rfl ?_;rw [EO.out];first
    | refine ⟨a5,cap5,rfl,?_,?_⟩
      ·have h:=HF5.out
       repeat (refine ZA ?_ (by first | exact HX2.out | exact HX1.out) _)
       exact h
      ·have h:=HB5.out
       repeat (refine Below.setCell ?_ (by first | (simp;done) | (simp;omega)) _)
       exact h
    | refine ⟨a1,cap1,rfl,?_,?_⟩
      ·have h:=HFI.out
       repeat (refine wY ?_ (fun b o e=>by have:=HAP.out b o e;simp;omega) _)
       exact h
      ·have h:=HB2.out
       repeat (refine Below.setCell ?_ (by first | (simp;done) | (simp;omega)) _)
       exact h
theorem QG (w:World) (a:Option Addr) (cap:Nat) (fs:List eA) (c k cr fl:Int) (dn:Bool) (op:lO) (h:aHs w a fs op):RN w a cap fs c k cr fl dn op:=by
 by_cases hb:(sD fs c k cr fl&&XV op)=true
 ·rw [Bool.and_eq_true] at hb;exact aPx w a cap fs c k cr fl dn op h hb.1 hb.2
 ·exact aQj w a cap fs c k cr fl dn op h (by simpa using hb)
def qY (w:World) (P D:Nat) (L:fF):Prop:=lA w P #[.pointer (some ⟨D,0,none⟩),.int .i64 L.first,.int .i64 L.last,.int .i64 L.size] 128
theorem qY.later {w w':World}{P D:Nat}{L:fF} (h:qY w P D L) (hb:Below w.heap.size w w'):qY w' P D L:=lA.later h hb
theorem qY.cells {w:World}{P D:Nat}{L:fF} (h:qY w P D L):w.cell? ⟨P,0,none⟩=some (.pointer (some ⟨D,0,none⟩))∧w.cell? ⟨P,1,none⟩=some (.int .i64 L.first)∧w.cell? ⟨P,2,none⟩=some (.int .i64 L.last)∧w.cell? ⟨P,3,none⟩=some (.int .i64 L.size):=by
 refine ⟨?_,?_,?_,?_⟩<;>rw [lA.cell h]<;>rfl
theorem aFf (L:fF) (w:World):Calls Tryz.prog 119 #[.agg #[.int .i64 L.first,.int .i64 L.last,.int .i64 L.size]] w fun e w'=>e=.returned (.bool (mI L))∧Below w.heap.size w w':=by
 obtain ⟨a,b,c⟩:=L;have HB:Hid (Below w.heap.size w (w.alloc (.cells #[.int .i64 a,.int .i64 b,.int .i64 c] 40))):=bA _ _;by_cases h1:1≤a
 ·by_cases h2:a≤b
  ·by_cases h3:b≤999999
   ·have e:Hid (mI ⟨a,b,c⟩=mA c 0 1000000000):=by
     show _=_;have e1:mA b 1 999999=true:=by simp [mA];omega
     have e2:mA a 1 b=true:=by simp [mA];omega
     simp only [mI,e1,e2,Bool.true_and]
    go_enter Tryz.func119,Tryz.ntmps119;go_wp2_with fail;refine (rD _ _ _).mono ?_;rintro e w' ⟨rfl,hw⟩;replace hw:=hw.symm;subst hw;go_wp2;go_ret;exact ⟨jA e.out.symm,HB.out⟩
   ·have e:Hid (mI ⟨a,b,c⟩=false):=by
     show _=_;have e1:mA b 1 999999=false:=by simp [mA];omega
     simp [mI,e1]
    go_enter Tryz.func119,Tryz.ntmps119;go_wp2;go_ret;exact ⟨jA e.out.symm,HB.out⟩
  ·have e:Hid (mI ⟨a,b,c⟩=false):=by
    show _=_;have e1:mA a 1 b=false:=by simp [mA];omega
    simp [mI,e1]
   go_enter Tryz.func119,Tryz.ntmps119;go_wp2;go_ret;exact ⟨jA e.out.symm,HB.out⟩
 ·have e:Hid (mI ⟨a,b,c⟩=false):=by
   show _=_;have e1:mA a 1 b=false:=by simp [mA];omega
   simp [mI,e1]
  go_enter Tryz.func119,Tryz.ntmps119;go_wp2;go_ret;exact ⟨jA e.out.symm,HB.out⟩
def nK (L:fF) (z most:Int):Bool:=decide (L.size≠0) &&decide (most<L.size+z)
theorem iT (P D:Nat) (L:fF) (z most:Int) (w:World) (h:qY w P D L) (h0:0≤L.size∧L.size≤1000000000) (hz:0≤z∧z≤1000000000):
 Calls Tryz.prog 121 #[.pointer (some ⟨P,0,none⟩),.int .i64 z,.int .i64 most] w fun e w'=>e=.returned (.bool (nK L z most))∧w'=w:=by
 obtain ⟨c0,c1,c2,c3⟩:=h.cells;clear h c0 c1 c2;obtain ⟨a,b,c⟩:=L;simp only at h0 c3;have hw:IntKind.i64.wrap (c+z)=c+z:=by rw [IntKind.wrap_i64];omega
 by_cases h1:c=0
 ·subst h1;have e:Hid (nK ⟨a,b,0⟩ z most=false):=by show _=_;simp [nK]
  go_enter Tryz.func121,Tryz.ntmps121;go_wp2;go_ret;exact ⟨jA e.out.symm,rfl⟩
 ·have h1b:(c==0)=false:=by simpa using h1
  have e:Hid (nK ⟨a,b,c⟩ z most=decide (most<c+z)):=by show _=_;simp [nK,h1]
  go_enter Tryz.func121,Tryz.ntmps121;go_wp2;go_ret;exact ⟨jA (by rw [e.out];simp [h1]),rfl⟩
def bM (L:fF) (p:ByteArray) (most:Int):Nat:=
 if (mI L&&mA most 1 1000000000)=false then 21
 else if mA p.size 1 60000=false then 22
 else if L.last=999999∧nK L (8+p.size) most=true then 23 else 0
theorem FU {L:fF} (h:mI L=true):0≤L.size∧L.size≤1000000000∧1≤L.first∧L.first≤L.last∧1≤L.last∧L.last≤999999:=by
 simp only [mI,mA,Bool.and_eq_true,decide_eq_true_eq] at h;omega
theorem aAm (P D:Nat) (L:fF) (p:ByteArray) (most:Int) (w:World) (h:qY w P D L) (hp:p.size≤1100000):
 Calls Tryz.prog 79 #[.pointer (some ⟨P,0,none⟩),.string p,.int .i64 most] w fun e w'=>e=.returned (aMc (bM L p most))∧Below w.heap.size w w':=by
 obtain ⟨c0,c1,c2,c3⟩:=h.cells;have HW:Hid (qY w P D L):=h;clear h c0;have HL:Hid _:=fun W=>aFf L W;have HF:Hid (∀W,Calls Tryz.prog 120 #[.int .i64 (p.size:Int)] W fun e w'=>e=.returned (.bool (mA p.size 1 60000))∧w'=W):=fun W=>TK _ W;cases hl:mI L with
 | false=>
   have E:Hid (bM L p most=21):=by show _=_;rw [bM,hl];rfl
   rw [hl] at HL;clear hl;go_enter Tryz.func79,Tryz.ntmps79;go_wp2_with fail;refine (HL.out _).mono ?_;rintro e w1 ⟨rfl,hb1⟩;have HB:Hid _:=hb1;clear hb1;go_wp2;go_ret;rw [E.out];exact ⟨rfl,HB.out⟩
 | true=>
   obtain ⟨hs0,hs1,_,_,hl1,hl2⟩:=FU hl;rw [hl] at HL;by_cases hm:1≤most∧most≤1000000000
   ·have hmb:mA most 1 1000000000=true:=by simp [mA];omega
    cases hf:mA p.size 1 60000 with
    | false=>
      have E:Hid (bM L p most=22):=by show _=_;simp [bM,hl,hmb,hf]
      rw [hf] at HF;clear hf hl hmb;go_enter Tryz.func79,Tryz.ntmps79;go_wp2_with fail;refine (HL.out _).mono ?_;rintro e w1 ⟨rfl,hb1⟩;have HB:Hid _:=hb1;clear hb1;go_wp2_with fail;refine (HF.out _).mono ?_;rintro e w' ⟨rfl,hw⟩;replace hw:=hw.symm;subst hw;go_wp2;go_ret;rw [E.out];exact ⟨rfl,HB.out⟩
    | true=>
      have hz:1≤p.size∧p.size≤60000:=by
       simp only [mA,Bool.and_eq_true,decide_eq_true_eq] at hf;omega
      have E0:Hid (bM L p most=if L.last=999999∧nK L (8+p.size) most=true then 23 else 0):=by show _=_;simp [bM,hl,hmb,hf]
      rw [hf] at HF;clear hf hl hmb;go_enter Tryz.func79,Tryz.ntmps79;go_wp2_with fail;refine (HL.out _).mono ?_;rintro e w1 ⟨rfl,hb1⟩;have HB:Hid _:=hb1;have HW1:Hid (qY w1 P D L):=HW.out.later hb1;obtain ⟨_,_,d2,_⟩:=HW1.out.cells;clear hb1 c1 c2 c3;go_wp2_with fail;refine (HF.out _).mono ?_;rintro e w' ⟨rfl,hw⟩;replace hw:=hw.symm;subst hw;by_cases h9:L.last=999999
      ·have h9b:(L.last==999999)=true:=by simpa using h9
       cases hfu:nK L (8+p.size) most with
       | true=>
         have E:Hid (bM L p most=23):=by show _=_;rw [E0.out,if_pos ⟨h9,hfu⟩]
         have HFU:Hid (Calls Tryz.prog 121 #[.pointer (some ⟨P,0,none⟩),.int .i64 (8+(p.size:Int)),.int .i64 most] w1 fun e w'=>e=.returned (.bool true)∧w'=w1):=by
          have:=iT P D L (8+(p.size:Int)) most w1 HW1.out ⟨hs0,hs1⟩ (by omega);rw [hfu] at this;exact this
         clear hfu h9;go_wp2_with fail;refine HFU.out.mono ?_;rintro e w' ⟨rfl,hw⟩;replace hw:=hw.symm;subst hw;go_wp2;go_ret;rw [E.out];exact ⟨rfl,HB.out⟩
       | false=>
         have E:Hid (bM L p most=0):=by show _=_;rw [E0.out,if_neg (fun h=>by rw [hfu] at h;cases h.2)]
         have HFU:Hid (Calls Tryz.prog 121 #[.pointer (some ⟨P,0,none⟩),.int .i64 (8+(p.size:Int)),.int .i64 most] w1 fun e w'=>e=.returned (.bool false)∧w'=w1):=by
          have:=iT P D L (8+(p.size:Int)) most w1 HW1.out ⟨hs0,hs1⟩ (by omega);rw [hfu] at this;exact this
         clear hfu h9;go_wp2_with fail;refine HFU.out.mono ?_;rintro e w' ⟨rfl,hw⟩;replace hw:=hw.symm;subst hw;go_wp2;go_ret;rw [E.out];exact ⟨rfl,HB.out⟩
      ·have h9b:(L.last==999999)=false:=by simpa using h9
       have E:Hid (bM L p most=0):=by show _=_;rw [E0.out,if_neg (fun h=>h9 h.1)]
       clear h9;go_wp2;go_ret;rw [E.out];exact ⟨rfl,HB.out⟩
   ·have E:Hid (bM L p most=21):=by
     show _=_;have hmb:mA most 1 1000000000=false:=by simp [mA];omega
     simp [bM,hmb]
    by_cases hm1:most<1
    ·go_enter Tryz.func79,Tryz.ntmps79;go_wp2_with fail;refine (HL.out _).mono ?_;rintro e w1 ⟨rfl,hb1⟩;have HB:Hid _:=hb1;clear hb1;go_wp2;go_ret;rw [E.out];exact ⟨rfl,HB.out⟩
    ·have hm2:1000000000<most:=by omega
     clear hm;go_enter Tryz.func79,Tryz.ntmps79;go_wp2_with fail;refine (HL.out _).mono ?_;rintro e w1 ⟨rfl,hb1⟩;have HB:Hid _:=hb1;clear hb1;go_wp2;go_ret;rw [E.out];exact ⟨rfl,HB.out⟩
theorem aAg (k:Nat) (h:k<10):lV (48+UInt8.ofNat k)=true:=by
 rcases (show k=0∨k=1∨k=2∨k=3∨k=4∨k=5∨k=6∨k=7∨k=8∨k=9 by omega) with rfl | rfl | rfl | rfl | rfl | rfl | rfl | rfl | rfl | rfl<;>decide
theorem BE (n:Nat):∀i,sH (sV n i)=true
 | 0=>rfl
 | i+1=>by
   have h1:=BE n i;simp only [sH,sV,List.all_cons,Bool.and_eq_true] at h1 ⊢;exact ⟨aAg _ (by omega),h1⟩
theorem aNc (n:Int) (h1:1≤n) (h2:n≤999999):gL n=JF n.toNat:=if_pos ⟨h1,h2⟩
theorem aGb (n:Int) (h1:1≤n) (h2:n≤999999):lF (gL n)=true:=by
 rw [aNc n h1 h2];have hz:(JF n.toNat).size=10:=by
  show (119 :: 97 :: 108 :: 45 :: sV n.toNat 6).toArray.size=10;simp [wS]
 have hd:(JF n.toNat).data.toList=119 :: 97 :: 108 :: 45 :: sV n.toNat 6:=rfl;have hb:=BE n.toNat 6;unfold lF;rw [hz,hd];simp only [sH,List.all_cons] at hb ⊢;rw [hb];decide
theorem xq {k:Int}{n:Int}{d:ByteArray}{z:Int} (hk:1≤k∧k≤4) (h1:1≤n) (h2:n≤999999):XV ⟨k,gL n,⟨#[]⟩,d,z⟩=true:=by
 have hn:=aGb n h1 h2;have hb:mA k 1 6=true:=by simp [mA];omega
 have h5:decide (k≠5)=true:=by simp;omega
 simp only [XV,hb,hn,h5,Bool.true_and,Bool.true_or]
structure sU (w0 w:World) (B P D:Nat) (K:cE) (L:fF):Prop where
 pow:gM w0
 below:Below w0.heap.size w0 w
 hB:w0.heap.size≤B
 hP:w0.heap.size≤P
 wr:qY w P D L
 drive:∃v,dB w B D K.fs K.c K.k K.cr K.fl K.dn v
 valid:sD K.fs K.c K.k K.cr K.fl=true
theorem sU.later {w0 w w':World}{B P D:Nat}{K:cE}{L:fF} (h:sU w0 w B P D K L) (hb:Below w.heap.size w w'):sU w0 w' B P D K L:=
 ⟨h.pow,rA h.below hb,h.hB,h.hP,h.wr.later hb,by obtain ⟨v,hv⟩:=h.drive;exact ⟨v,hv.later hb⟩,h.valid⟩
theorem sU.tab {w0 w:World}{B P D:Nat}{K:cE}{L:fF} (h:sU w0 w B P D K L):gM w:=h.pow.later h.below
theorem sU.set {w0 w:World}{B P D:Nat}{K:cE}{L L':fF} (h:sU w0 w B P D K L) (j:Nat) (x:Value) (hj:#[Value.pointer (some ⟨D,0,none⟩),.int .i64 L'.first,.int .i64 L'.last,.int .i64 L'.size]=(#[Value.pointer (some ⟨D,0,none⟩),.int .i64 L.first,.int .i64 L.last,.int .i64 L.size]:Array Value).setIfInBounds j x):sU w0 (w.setCell ⟨P,j,none⟩ x) B P D K L':=by
 refine ⟨h.pow,h.below.setCell (by show w0.heap.size≤P;exact h.hP) _,h.hB,h.hP,?_,?_,h.valid⟩
 ·show lA _ _ _ _;rw [hj];exact lA.set h.wr j x
 ·obtain ⟨v,hv⟩:=h.drive;refine ⟨v,hv.from',?_,?_,hv.apart⟩
  ·refine (Below.heap_setCell _ _ _ D (fun e=>?_)).trans hv.blk;have e2:D=P:=e;have e4:=hv.blk;rw [e2] at e4;have e3:=(show w.heap[P]?=_ from e4).symm.trans h.wr;simp at e3
  ·refine iZ (S:=fun k=>k=P) hv.row ((oC.refl (fun k=>k=P) w).setCell (g:=P) rfl j x) (fun g hg e=>?_);obtain ⟨cur,hc⟩:=GF hv.row g hg;rw [e] at hc;have e3:=(show w.heap[P]?=_ from hc).symm.trans h.wr;simp at e3
theorem aKv {K:cE}{op:lO} (h:sD K.fs K.c K.k K.cr K.fl=true) (ho:XV op=true):
 xD K op=(⟨(kG K.fs K.c K.k K.cr K.fl K.dn op).2.1,K.c,(kG K.fs K.c K.k K.cr K.fl K.dn op).2.2.1,K.cr,K.fl,(kG K.fs K.c K.k K.cr K.fl K.dn op).2.2.2⟩,(kG K.fs K.c K.k K.cr K.fl K.dn op).1):=by
 unfold xD zM;rw [if_pos (by simp [h,ho])]
theorem aPy {w0 w:World}{B P D:Nat}{K:cE}{L:fF} (op:lO) (h:sU w0 w B P D K L) (ho:XV op=true) (hk:op.kind≤4):
 Calls Tryz.prog 126 #[.pointer (some ⟨D,0,none⟩),.agg #[.int .i64 op.kind,.string op.name,.string op.to,.string op.data,.int .i64 op.size]] w fun e w'=>
  e=.returned (xF (xD K op).2)∧(xD K op).2≤6∧sU w0 w' B P D (xD K op).1 L:=by
 obtain ⟨v,hv⟩:=h.drive;obtain ⟨f1,f2,f3,f4,f5,f6,f7,_⟩:=qL h.valid;have hop:mA op.kind 1 6=true:=by simp only [XV,Bool.and_eq_true] at ho;exact ho.1.1
 rw [aKv h.valid ho];refine (aKw w B D K.fs K.c K.k K.cr K.fl K.dn v op ⟨hv,YA f1,f2,f5,f4,f6,f7⟩ hop).mono ?_;rintro e w' ⟨rfl,hb,hko,v',hd',hkv⟩;have hd:=Exists.intro v' hd';exact ⟨rfl,aAy _ _ _ _ _ _ _,h.pow,h.below.trans (hb.mono h.hB),h.hB,h.hP,hko (by omega) P _ _ h.wr (by decide) (by decide),hd,YR h.valid ho⟩
def sJ (K:cE) (L:fF) (f:ByteArray) (most:Int):cE×fF×Nat:=
 if nK L f.size most=true then
  if (xD K (sG (L.last+1))).2≠0 then ((xD K (sG (L.last+1))).1,L,(xD K (sG (L.last+1))).2)
  else gF (xD K (sG (L.last+1))).1 ⟨L.first,L.last+1,0⟩ f
 else gF K L f
theorem xN {x:Nat} (h0:¬x=0) (h6:x≤6):∃t,xF x=.iface 187 (.string t):=by
 match x,h0,h6 with
 | 1,_,_=>exact ⟨_,rfl⟩
 | 2,_,_=>exact ⟨_,rfl⟩
 | 3,_,_=>exact ⟨_,rfl⟩
 | 4,_,_=>exact ⟨_,rfl⟩
 | 5,_,_=>exact ⟨_,rfl⟩
 | 6,_,_=>exact ⟨_,rfl⟩
theorem GR {w0 w:World}{B P D:Nat}{K K':cE}{L:fF}{x:Nat} (op:lO) (h:sU w0 w B P D K L) (ho:XV op=true) (hk:op.kind≤4) (e:xD K op=(K',x)):
 Calls Tryz.prog 126 #[.pointer (some ⟨D,0,none⟩),.agg #[.int .i64 op.kind,.string op.name,.string op.to,.string op.data,.int .i64 op.size]] w fun e w'=>
  e=.returned (xF x)∧x≤6∧sU w0 w' B P D K' L:=by
 have:=aPy op h ho hk;rw [e] at this;exact this
theorem aDi {w0 w:World}{B P D:Nat}{K:cE}{L:fF} (f:ByteArray) (most:Int) (h:sU w0 w B P D K L) (hl:mI L=true) (hf:f.size≤60008) (hn:nK L f.size most=false):
 Calls Tryz.prog 83 #[.pointer (some ⟨P,0,none⟩),.string f,.int .i64 most] w fun e w'=>
  e=.returned (xF (sJ K L f most).2.2)∧(sJ K L f most).2.2≤6∧sU w0 w' B P D (sJ K L f most).1 (sJ K L f most).2.1:=by
 obtain ⟨hs0,hs1,_,_,hl1,hl2⟩:=FU hl;have E0:Hid (sJ K L f most=gF K L f):=by show _=_;rw [sJ,if_neg (by rw [hn];simp)]
 have HFU:Hid (Calls Tryz.prog 121 #[.pointer (some ⟨P,0,none⟩),.int .i64 (f.size:Int),.int .i64 most] w fun e w'=>e=.returned (.bool false)∧w'=w):=by
  have:=iT P D L (f.size:Int) most w h.wr ⟨hs0,hs1⟩ (by omega);rw [hn] at this;exact this
 have HW:Hid _:=h;clear h hl hn;obtain ⟨c0,c1,c2,c3⟩:=HW.out.wr.cells;go_enter Tryz.func83,Tryz.ntmps83;go_wp2_with fail;refine HFU.out.mono ?_;rintro e w' ⟨rfl,hw⟩;replace hw:=hw.symm;subst hw;go_wp2_with fail;refine (nS L.last _ HW.out.tab).mono ?_;rintro e w1 ⟨rfl,hb1⟩;have HW1:Hid _:=HW.out.later hb1;clear hb1 c0 c1 c2 c3 HFU HW;obtain ⟨c0,_,_,_⟩:=HW1.out.wr.cells;obtain ⟨⟨K1,x1⟩,hS1⟩:∃R,xD K (pF L.last f)=R:=⟨_,rfl⟩
 have HS1:Hid _:=hS1;have HC1:Hid (Calls Tryz.prog 126 #[.pointer (some ⟨D,0,none⟩),.agg #[.int .i64 2,.string (gL L.last),.string ⟨#[]⟩,.string f,.int .i64 0]] w1 fun e w'=>e=.returned (xF x1)∧x1≤6∧sU w0 w' B P D K1 L):=GR (pF L.last f) HW1.out (xq (by omega) (by omega) (by omega)) (by show (2:Int)≤4;omega) hS1;clear hS1;go_wp2_with fail;refine HC1.out.mono ?_;rintro e w2 ⟨rfl,h6,hw2⟩;have HW2:Hid _:=hw2;clear hw2 c0 HC1;by_cases hx:x1=0
 ·subst hx;simp only [xF];obtain ⟨c0,_,_,_⟩:=HW2.out.wr.cells;obtain ⟨⟨K2,x2⟩,hS2⟩:∃R,xD K1 (cO L.last)=R:=⟨_,rfl⟩
  have HS2:Hid _:=hS2;have HC2:Hid (Calls Tryz.prog 126 #[.pointer (some ⟨D,0,none⟩),.agg #[.int .i64 3,.string (gL L.last),.string ⟨#[]⟩,.string ⟨#[]⟩,.int .i64 0]] w2 fun e w'=>e=.returned (xF x2)∧x2≤6∧sU w0 w' B P D K2 L):=GR (cO L.last) HW2.out (xq (by omega) (by omega) (by omega)) (by show (3:Int)≤4;omega) hS2;clear hS2 h6;go_wp2_with fail;refine HC2.out.mono ?_;rintro e w3 ⟨rfl,h6,hw3⟩;have HW3:Hid _:=hw3;have EA:Hid _:=qQ (L:=L) HS1.out rfl HS2.out;clear hw3 c0 HC2;by_cases hx:x2=0
  ·subst hx;simp only [xF];have EB:Hid (sJ K L f most=(K2,⟨L.first,L.last,L.size+f.size⟩,0)):=by show _=_;rw [E0.out,EA.out,if_neg (by simp)]
   have HWF:Hid (sU w0 (w3.setCell ⟨P,3,none⟩ (.int .i64 (L.size+(f.size:Int)))) B P D K2 ⟨L.first,L.last,L.size+f.size⟩):=HW3.out.set 3 _ (by simp);obtain ⟨_,_,_,c3⟩:=HW3.out.wr.cells;have q3:=lA.free HW3.out.wr 3;have hwz:IntKind.i64.wrap (L.size+(f.size:Int))=L.size+(f.size:Int):=by rw [IntKind.wrap_i64];omega
   go_wp2;go_ret;rw [EB.out];exact ⟨rfl,by omega,HWF.out⟩
  ·obtain ⟨t,ht⟩:=xN hx h6;have EB:Hid (sJ K L f most=(K2,L,x2)):=by show _=_;rw [E0.out,EA.out,if_pos hx]
   have HT:Hid _:=ht;rw [ht];clear ht;go_wp2;go_ret;rw [EB.out];exact ⟨by rw [HT.out];rfl,h6,HW3.out⟩
 ·obtain ⟨t,ht⟩:=xN hx h6;have EB:Hid (sJ K L f most=(K1,L,x1)):=by show _=_;rw [E0.out,pQ (L:=L) HS1.out hx]
  have HT:Hid _:=ht;rw [ht];clear ht;go_wp2;go_ret;rw [EB.out];exact ⟨by rw [HT.out];rfl,h6,HW2.out⟩
theorem aHz {w0 w:World}{B P D:Nat}{K:cE}{L:fF} (f:ByteArray) (most:Int) (h:sU w0 w B P D K L) (hl:mI L=true) (hf:f.size≤60008) (hn:nK L f.size most=true) (h9:L.last≠999999):
 Calls Tryz.prog 83 #[.pointer (some ⟨P,0,none⟩),.string f,.int .i64 most] w fun e w'=>
  e=.returned (xF (sJ K L f most).2.2)∧(sJ K L f most).2.2≤6∧sU w0 w' B P D (sJ K L f most).1 (sJ K L f most).2.1:=by
 obtain ⟨hs0,hs1,_,_,hl1,hl2⟩:=FU hl;have HFU:Hid (Calls Tryz.prog 121 #[.pointer (some ⟨P,0,none⟩),.int .i64 (f.size:Int),.int .i64 most] w fun e w'=>e=.returned (.bool true)∧w'=w):=by
  have:=iT P D L (f.size:Int) most w h.wr ⟨hs0,hs1⟩ (by omega);rw [hn] at this;exact this
 obtain ⟨⟨K0,x0⟩,hS0⟩:∃R,xD K (sG (L.last+1))=R:=⟨_,rfl⟩
 have E0:Hid (sJ K L f most=if x0≠0 then (K0,L,x0) else gF K0 ⟨L.first,L.last+1,0⟩ f):=by show _=_;rw [sJ,if_pos hn,hS0]
 have HC0:Hid (∀W,sU w0 W B P D K L→Calls Tryz.prog 126 #[.pointer (some ⟨D,0,none⟩),.agg #[.int .i64 1,.string (gL (L.last+1)),.string ⟨#[]⟩,.string ⟨#[]⟩,.int .i64 0]] W fun e w'=>e=.returned (xF x0)∧x0≤6∧sU w0 w' B P D K0 L):=fun W hW=>GR (sG (L.last+1)) hW (xq (by omega) (by omega) (by omega)) (by show (1:Int)≤4;omega) hS0;have HW:Hid _:=h;have hwl:IntKind.i64.wrap (L.last+1)=L.last+1:=by rw [IntKind.wrap_i64];omega
 clear h hl hn hS0;obtain ⟨c0,c1,c2,c3⟩:=HW.out.wr.cells;have HK:Hid (∀W K',sU w0 W B P D K' L→W.cell? ⟨P,0,none⟩=some (.pointer (some ⟨D,0,none⟩))∧W.cell? ⟨P,2,none⟩=some (.int .i64 L.last)):=fun W K' h=>⟨h.wr.cells.1,h.wr.cells.2.2.1⟩
 go_enter Tryz.func83,Tryz.ntmps83;go_wp2_with fail;refine HFU.out.mono ?_;rintro e w' ⟨rfl,hw⟩;replace hw:=hw.symm;subst hw;go_wp2_with fail;go_region_held3 (fun w'=>w'.cell? ⟨P,0,none⟩=some (.pointer (some ⟨D,0,none⟩))∧w'.cell? ⟨P,2,none⟩=some (.int .i64 L.last))
  (first | exact HK.out _ _ HW8.out | exact HK.out _ _ HW7.out | exact HK.out _ _ (HW.out.later (Below.refl _ _).drew))
  (first
  | (go_at_call 127;refine (nS (L.last+1) _ (HW.out.later (Below.refl _ _).drew).tab).mono ?_;rintro e w7 ⟨rfl,hb7⟩;have HW7:Hid (sU w0 w7 B P D K L):=(HW.out.later (Below.refl _ _).drew).later hb7)
  | (go_at_call 126;refine (HC0.out _ HW7.out).mono ?_;rintro e w8 ⟨rfl,h6,hw8⟩;have HW8:Hid (sU w0 w8 B P D K0 L):=hw8))
 clear c0 c1 c2 c3 HK HC0 HFU HW HW7 hb7 hw8;by_cases hx0:x0=0
 ·subst hx0;simp only [xF];have E1:Hid (sJ K L f most=gF K0 ⟨L.first,L.last+1,0⟩ f):=by show _=_;rw [E0.out,if_neg (by simp)]
  obtain ⟨_,_,c2,c3⟩:=HW8.out.wr.cells;have q2:=lA.free HW8.out.wr 2;have HWA:Hid (sU w0 (w8.setCell ⟨P,2,none⟩ (.int .i64 (L.last+1))) B P D K0 ⟨L.first,L.last+1,L.size⟩):=HW8.out.set 2 _ (by simp);have c3':=HWA.out.wr.cells.2.2.2;have q3:=lA.free HWA.out.wr 3;have HWB0:Hid (sU w0 ((w8.setCell ⟨P,2,none⟩ (.int .i64 (L.last+1))).setCell ⟨P,3,none⟩ (.int .i64 0)) B P D K0 ⟨L.first,L.last+1,0⟩):=HWA.out.set 3 _ (by simp);have c2':=HWB0.out.wr.cells.2.2.1;go_wp2_with fail;refine (nS (L.last+1) _ HWB0.out.tab).mono ?_;rintro e w9 ⟨rfl,hb9⟩;have HWB:Hid _:=HWB0.out.later hb9;clear hb9 HWB0 HWA HW8 c2 c3 c3' q2 q3 c2';obtain ⟨c0,_,_,_⟩:=HWB.out.wr.cells;obtain ⟨⟨K1,x1⟩,hS1⟩:∃R,xD K0 (pF (L.last+1) f)=R:=⟨_,rfl⟩
  have HS1:Hid _:=hS1;have HC1:Hid (Calls Tryz.prog 126 #[.pointer (some ⟨D,0,none⟩),.agg #[.int .i64 2,.string (gL (L.last+1)),.string ⟨#[]⟩,.string f,.int .i64 0]] w9 fun e w'=>e=.returned (xF x1)∧x1≤6∧sU w0 w' B P D K1 ⟨L.first,L.last+1,0⟩):=GR (pF (L.last+1) f) HWB.out (xq (by omega) (by omega) (by omega)) (by show (2:Int)≤4;omega) hS1;clear hS1;go_wp2_with fail;refine HC1.out.mono ?_;rintro e w2 ⟨rfl,h6,hw2⟩;have HW2:Hid _:=hw2;clear hw2 c0 HC1;by_cases hx:x1=0
  ·subst hx;simp only [xF];obtain ⟨c0,_,_,_⟩:=HW2.out.wr.cells;obtain ⟨⟨K2,x2⟩,hS2⟩:∃R,xD K1 (cO (L.last+1))=R:=⟨_,rfl⟩
   have HS2:Hid _:=hS2;have HC2:Hid (Calls Tryz.prog 126 #[.pointer (some ⟨D,0,none⟩),.agg #[.int .i64 3,.string (gL (L.last+1)),.string ⟨#[]⟩,.string ⟨#[]⟩,.int .i64 0]] w2 fun e w'=>e=.returned (xF x2)∧x2≤6∧sU w0 w' B P D K2 ⟨L.first,L.last+1,0⟩):=GR (cO (L.last+1)) HW2.out (xq (by omega) (by omega) (by omega)) (by show (3:Int)≤4;omega) hS2;clear hS2 h6;go_wp2_with fail;refine HC2.out.mono ?_;rintro e w3 ⟨rfl,h6,hw3⟩;have HW3:Hid _:=hw3;have EA:Hid (gF K0 ⟨L.first,L.last+1,0⟩ f=if x2≠0 then (K2,⟨L.first,L.last+1,0⟩,x2) else (K2,⟨L.first,(L.last+1),0+f.size⟩,0)):=qQ (L:=⟨L.first,L.last+1,0⟩) HS1.out rfl HS2.out;clear hw3 c0 HC2;by_cases hx:x2=0
   ·subst hx;simp only [xF];have EB:Hid (sJ K L f most=(K2,⟨L.first,(L.last+1),0+f.size⟩,0)):=by show _=_;rw [E1.out,EA.out,if_neg (by simp)]
    have HWF:Hid (sU w0 (w3.setCell ⟨P,3,none⟩ (.int .i64 (f.size:Int))) B P D K2 ⟨L.first,(L.last+1),0+f.size⟩):=HW3.out.set 3 _ (by simp);obtain ⟨_,_,_,c3⟩:=HW3.out.wr.cells;have q3:=lA.free HW3.out.wr 3;have hwz:IntKind.i64.wrap ((0:Int)+(f.size:Int))=(0:Int)+(f.size:Int):=by rw [IntKind.wrap_i64];omega
    go_wp2;go_ret;rw [EB.out];exact ⟨rfl,by omega,HWF.out⟩
   ·obtain ⟨t,ht⟩:=xN hx h6;have EB:Hid (sJ K L f most=(K2,⟨L.first,L.last+1,0⟩,x2)):=by show _=_;rw [E1.out,EA.out,if_pos hx]
    have HT:Hid _:=ht;rw [ht];clear ht;go_wp2;go_ret;rw [EB.out];exact ⟨by rw [HT.out];rfl,h6,HW3.out⟩
  ·obtain ⟨t,ht⟩:=xN hx h6;have EB:Hid (sJ K L f most=(K1,⟨L.first,L.last+1,0⟩,x1)):=by show _=_;rw [E1.out,pQ (L:=⟨L.first,L.last+1,0⟩) HS1.out hx]
   have HT:Hid _:=ht;rw [ht];clear ht;go_wp2;go_ret;rw [EB.out];exact ⟨by rw [HT.out];rfl,h6,HW2.out⟩
 ·obtain ⟨t,ht⟩:=xN hx0 h6;have EB:Hid (sJ K L f most=(K0,L,x0)):=by show _=_;rw [E0.out,if_pos hx0]
  have HT:Hid _:=ht;rw [ht];clear ht;go_wp2;go_ret;rw [EB.out];exact ⟨by rw [HT.out];rfl,h6,HW8.out⟩
theorem sQ (w:World) (cs:Array Value) (t:TypeId):lA (w.alloc (.cells cs t)) w.heap.size cs t:=heap_alloc_new _ _
theorem lA.six {w:World}{b:Nat}{v0 v1 v2 v3 v4 v5:Value}{t:TypeId} (h:lA w b #[v0,v1,v2,v3,v4,v5] t):
 w.cell? ⟨b,0,none⟩=some v0∧w.cell? ⟨b,1,none⟩=some v1∧w.cell? ⟨b,2,none⟩=some v2∧w.cell? ⟨b,3,none⟩=some v3∧w.cell? ⟨b,4,none⟩=some v4∧w.cell? ⟨b,5,none⟩=some v5:=by
 simp [h.cell]
def JS (a:Option Addr) (fs:List eA) (P:Nat):Prop:=fs=[]∨∃b o,a=some ⟨b,o,none⟩∧b≠P
theorem gW {w w':World}{cs:Array Value}{t:TypeId} (h:Below (w.alloc (.cells cs t)).heap.size (w.alloc (.cells cs t)) w'):lA w' w.heap.size cs t:=(sQ w cs t).later h
theorem fW {w:World}{P:Nat}{z0 z1 z2 z3 z4 z5 v0 v1 v2 v3 v4 v5:Value}{t:TypeId} (h:lA w P #[z0,z1,z2,z3,z4,z5] t):
 lA ((((((w.setCell ⟨P,0,none⟩ v0).setCell ⟨P,1,none⟩ v1).setCell ⟨P,2,none⟩ v2).setCell ⟨P,3,none⟩ v3).setCell ⟨P,4,none⟩ v4).setCell ⟨P,5,none⟩ v5) P #[v0,v1,v2,v3,v4,v5] t:=by
 have h6:=(((((h.set 0 v0).set 1 v1).set 2 v2).set 3 v3).set 4 v4).set 5 v5;simpa using h6
theorem pO {w w':World}{cs:Array Value}{t:TypeId} (h:Below (w.alloc (.cells cs t)).drew.heap.size (w.alloc (.cells cs t)).drew w'):lA w' w.heap.size cs t:=(sQ w cs t).later ⟨h.os,h.tape,h.output,h.size,h.block⟩
theorem XY {w:World}{a:Option Addr}{fs:List eA}{P:Nat}{t:TypeId} (h:kA w a fs) (hz:lA w P #[.slice none 0 0,.int .i64 0,.int .i64 0,.int .i64 0,.int .i64 0,.bool false] t):JS a fs P:=by
 rcases h with h | ⟨b,o,e,_,h⟩
 ·exact Or.inl h
 ·by_cases hn:fs=[]
  ·exact Or.inl hn
  ·refine Or.inr ⟨b,o,e,fun hb=>?_⟩;subst hb;have hl:0<fs.length:=by
    cases fs with
    | nil=>exact absurd rfl hn
    | cons _ _=>simp
   have h0:=(h 0 hl).1;rw [hz.cell] at h0;simp only [Nat.zero_mul,Nat.add_zero] at h0;match o,h0 with
   | 0,h0=>simp at h0
   | 1,h0=>simp at h0
   | 2,h0=>simp at h0
   | 3,h0=>simp at h0
   | 4,h0=>simp at h0
   | 5,h0=>simp at h0
   | n+6,h0=>simp at h0
theorem iH {w:World}{P:Nat} (v0 v1 v2 v3 v4 v5:Value):
 bE P w ((((((w.setCell ⟨P,0,none⟩ v0).setCell ⟨P,1,none⟩ v1).setCell ⟨P,2,none⟩ v2).setCell ⟨P,3,none⟩ v3).setCell ⟨P,4,none⟩ v4).setCell ⟨P,5,none⟩ v5):=
 ((((((bE.refl P w).setCell 0 v0).setCell 1 v1).setCell 2 v2).setCell 3 v3).setCell 4 v4).setCell 5 v5
theorem kA.apart {w w':World}{P:Nat}{a:Option Addr}{fs:List eA} (h:kA w a fs) (ha:JS a fs P) (hb:bE P w w'):kA w' a fs:=by
 rcases ha with hn | ⟨b,o,rfl,hne⟩
 ·exact Or.inl hn
 ·exact h.but hb hne
theorem tZ {w:World}{a:Option Addr}{fs:List eA}{P:Nat}{cs:Array Value}{t:TypeId} (h:kA w a fs) (hz:lA w P cs t) (hn:∀(j:Nat) (s:ByteArray),cs[j]?≠some (Value.string s)):JS a fs P:=by
 rcases h with h | ⟨b,o,e,_,h⟩
 ·exact Or.inl h
 ·by_cases hn':fs=[]
  ·exact Or.inl hn'
  ·refine Or.inr ⟨b,o,e,fun hb=>?_⟩;subst hb;have hl:0<fs.length:=List.length_pos_iff.2 hn';have h0:=(h 0 hl).1;rw [hz.cell] at h0;exact hn _ _ h0
theorem oQ {w:World}{a:Option Addr}{fs:List eA}{P:Nat}{x:Option Addr}{n cp:Nat}{i1 i2 i3 i4:Int}{k1 k2 k3 k4:IntKind}{b:Bool}{t:TypeId} (h:kA w a fs) (hz:lA w P #[.slice x n cp,.int k1 i1,.int k2 i2,.int k3 i3,.int k4 i4,.bool b] t):JS a fs P:=
 tZ h hz fun j _=>by
  match j with
  | 0=>simp
  | 1=>simp
  | 2=>simp
  | 3=>simp
  | 4=>simp
  | 5=>simp
  | n+6=>simp
theorem JV {w:World}{a:Option Addr}{fs:List eA}{P:Nat}{i1 i2 i3:Int}{k1 k2 k3:IntKind}{t:TypeId} (h:kA w a fs) (hz:lA w P #[.int k1 i1,.int k2 i2,.int k3 i3] t):JS a fs P:=
 tZ h hz fun j _=>by
  match j with
  | 0=>simp
  | 1=>simp
  | 2=>simp
  | n+3=>simp
theorem lA.three {w:World}{b:Nat}{v0 v1 v2:Value}{t:TypeId} (h:lA w b #[v0,v1,v2] t):w.cell? ⟨b,0,none⟩=some v0∧w.cell? ⟨b,1,none⟩=some v1∧w.cell? ⟨b,2,none⟩=some v2:=by
 simp [h.cell]
theorem LB {w w1:World}{x y z u:Array Value}{tx ty tz tu:TypeId} (hb:Below ((((w.alloc (.cells x tx)).alloc (.cells y ty)).alloc (.cells z tz)).alloc (.cells u tu)).heap.size ((((w.alloc (.cells x tx)).alloc (.cells y ty)).alloc (.cells z tz)).alloc (.cells u tu)) w1):
 lA w1 w.heap.size x tx∧lA w1 (w.heap.size+1) y ty∧lA w1 (w.heap.size+1+1) z tz∧lA w1 (w.heap.size+1+1+1) u tu∧Below w.heap.size w w1:=by
 refine ⟨?_,?_,?_,?_,rA (rA (rA (rA (bA _ _) (bA _ _)) (bA _ _)) (bA _ _)) hb⟩
 ·exact ((((sQ w x tx).later (bA _ _)).later (bA _ _)).later (bA _ _)).later hb
 ·have h:=(((sQ (w.alloc (.cells x tx)) y ty).later (bA _ (.cells z tz))).later (bA _ (.cells u tu))).later hb;simpa using h
 ·have h:=((sQ ((w.alloc (.cells x tx)).alloc (.cells y ty)) z tz).later (bA _ (.cells u tu))).later hb;simpa using h
 ·have h:=(sQ (((w.alloc (.cells x tx)).alloc (.cells y ty)).alloc (.cells z tz)) u tu).later hb;simpa using h
def DJ (D:cE) (op:lO) (D':cE) (code:Nat):Prop:=
 ∀a cap W,kA W a D.fs→Calls Tryz.prog 61 #[.agg #[.slice a D.fs.length cap,.int .i64 D.c,.int .i64 D.k,.int .i64 D.cr,.int .i64 D.fl,.bool D.dn],.agg #[.int .i64 op.kind,.string op.name,.string op.to,.string op.data,.int .i64 op.size]] W fun e w'=>
  ∃a' cap',e=.returned (.tuple #[.agg #[.slice a' D'.fs.length cap',.int .i64 D'.c,.int .i64 D'.k,.int .i64 D'.cr,.int .i64 D'.fl,.bool D'.dn],.int .i64 code])∧kA w' a' D'.fs∧Below W.heap.size W w'
theorem aPg {D:cE}{op:lO} (h:IL D.fs) (hn:op.name.size≤maxLen) (ht:op.to.size≤maxLen) (hd:op.data.size≤1048576):DJ D op (xD D op).1 (xD D op).2:=fun a cap W hf=>
 QG W a cap D.fs D.c D.k D.cr D.fl D.dn op ⟨hf,h.short,h.len,h.sum,hn,ht,Nat.le_trans hd (by decide)⟩
end Go.Proofs.YtcneojllbkacoaaGreatDoor
