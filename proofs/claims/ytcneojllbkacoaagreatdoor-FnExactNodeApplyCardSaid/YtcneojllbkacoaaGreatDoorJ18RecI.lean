import Derived.Test.YtcneojllbkacoaaGreatDoorJ12SName
import Derived.Test.YtcneojllbkacoaaGreatDoorJ15LabF
set_option maxRecDepth 100000
set_option maxHeartbeats 2000000
namespace Go.Proofs.YtcneojllbkacoaaGreatDoor
open Go.RowKit
theorem LO {g r:TypeId} (hg:(g=149∧r=92)∨(g=151∧r=93)) (n:Nat) (hn:n≤1048576) (w:World):
 (Instr.makeSlice r (.int .i64 (n:Int)) (.int .i64 (n:Int))).run Tryz.prog w=.ok (.slice (some ⟨w.heap.size,0,none⟩) n n) (w.alloc (.cells (madeCells #[.string ByteArray.empty,.int .i64 0] (n * 2)) g)):=by
 have h:(Tryz.prog.info? g).map (fun i=>(i.zero,i.size,i.bytes))=some (some (.agg #[.string ByteArray.empty,.int .i64 0]),2,24):=by rcases hg with ⟨rfl,-⟩ | ⟨rfl,-⟩<;>kernel_rfl
 obtain ⟨i,hi,hzz⟩:=Option.map_eq_some_iff.1 h;simp only [Prod.mk.injEq] at hzz;obtain ⟨hz,hs,hb⟩:=hzz;have hr:=run_make (P:=Tryz.prog) w r g i _ (by rcases hg with ⟨rfl,rfl⟩ | ⟨rfl,rfl⟩;exact Tryz.underlying92;exact Tryz.underlying93) hi hz .i64 .i64 n n (by omega) (Int.le_refl _) (by rw [hb];omega) (by omega);simp only [Int.toNat_natCast,hs] at hr;exact hr
def oP (t:TypeId) (w:World) (g n:Nat) (fs:List gA) (k:Nat):Prop:=∃cur:Array Value,w.heap[g]?=some (.cells cur t (0,0))∧cur.size=n * 2∧
 ∀i (h:i<fs.length),i<k→cur[i * 2]?=some (.string fs[i].s)∧cur[i * 2+1]?=some (.int .i64 fs[i].n)
theorem oP.later {t:TypeId}{w w':World}{g n k:Nat}{fs:List gA}{B:Nat} (h:oP t w g n fs k) (hb:Below B w w') (hg:g<B):oP t w' g n fs k:=by
 obtain ⟨cur,h1,h2⟩:=h;exact ⟨cur,by rw [hb.block g hg];exact h1,h2⟩
theorem oP.cells {t:TypeId}{w:World}{g n k:Nat}{fs:List gA} (h:oP t w g n fs k){j:Nat} (hj:j<n * 2):(∃v,w.cell? ⟨g,j,none⟩=some v)∧w.frozen? ⟨g,j,none⟩=false:=by
 obtain ⟨cur,h1,h2,_⟩:=h;refine ⟨⟨cur[j],?_⟩,frozen_of_row w g j cur _ h1⟩;rw [cell_of_row w g j cur _ _ h1];exact Array.getElem?_eq_getElem (by omega)
theorem oP.step {t:TypeId}{w:World}{g n k:Nat}{fs:List gA} (h:oP t w g n fs k) (hk:k<fs.length) (hn:fs.length≤n):
 oP t ((w.setCell ⟨g,k * 2,none⟩ (.string fs[k].s)).setCell ⟨g,k * 2+1,none⟩ (.int .i64 fs[k].n)) g n fs (k+1):=by
 obtain ⟨cur,h1,h2,h3⟩:=h;refine ⟨_,heap_setCell_same _ _ _ _ _ _ (heap_setCell_same _ _ _ _ _ _ h1),by simp [h2],fun i hi hlt=>?_⟩;by_cases e:i=k
 ·subst e;refine ⟨?_,?_⟩<;>simp [Array.getElem?_setIfInBounds]<;>omega
 ·obtain ⟨a1,a2⟩:=h3 i hi (by omega);refine ⟨?_,?_⟩
  ·rw [Array.getElem?_setIfInBounds_ne (by omega),Array.getElem?_setIfInBounds_ne (by omega)];exact a1
  ·rw [Array.getElem?_setIfInBounds_ne (by omega),Array.getElem?_setIfInBounds_ne (by omega)];exact a2
theorem oP.done {t:TypeId}{w:World}{g B:Nat}{fs:List gA} (h:oP t w g fs.length fs fs.length) (hB:B≤g):fB w B (some ⟨g,0,none⟩) fs:=by
 obtain ⟨cur,h1,h2,h3⟩:=h;refine Or.inr ⟨g,0,cur,_,rfl,hB,h1,fun i hi=>?_⟩;obtain ⟨a1,a2⟩:=h3 i hi hi;simp only [cell_of_row w g _ cur _ _ h1,Nat.zero_add];exact ⟨a1,a2⟩
theorem aCx {p:FuncId} (hp:p=179∨p=180) (f:gA) (left:Int) (w:World) (h0:0≤left) (h1:left≤1048576) (hn:f.s.size≤maxLen):
 Calls Tryz.prog p #[.agg #[.string f.s,.int .i64 f.n],.int .i64 left] w fun e w'=>e=.returned (.int .i64 (kR left f))∧Below w.heap.size w w':=by
 unfold maxLen at hn;obtain ⟨nm,da⟩:=f;simp only at hn ⊢;by_cases c1:left - nm.size<0
 ·have e:kR left ⟨nm,da⟩= -1:=by unfold kR;rw [if_neg];simp only;omega
  rw [e];rcases hp with rfl | rfl
  go_enter Tryz.func179,Tryz.ntmps179;rotate_left;go_enter Tryz.func180,Tryz.ntmps180;all_goals
   go_wp2;go_ret;exact ⟨rfl,(Below.refl _ _).alloc (Nat.le_refl _) _⟩
 ·have e:kR left ⟨nm,da⟩=left - nm.size:=by unfold kR;rw [if_pos];simp only;omega
  rw [e];rcases hp with rfl | rfl
  go_enter Tryz.func179,Tryz.ntmps179;rotate_left;go_enter Tryz.func180,Tryz.ntmps180;all_goals
   go_wp2;go_ret;exact ⟨rfl,(Below.refl _ _).alloc (Nat.le_refl _) _⟩
theorem XE {p:FuncId} (hp:p=135∨p=136) (a:Option Addr) (cap:Nat) (fs:List gA) (left:Int) (w:World) (h0:0≤left) (h1:left≤1048576) (hf:sA w a fs) (hs:nY fs) (hlen:fs.length≤maxLen):
 Calls Tryz.prog p #[.slice a fs.length cap,.int .i64 left] w fun e w'=>e=.returned (.int .i64 (eH left fs))∧Below w.heap.size w w':=by
 unfold maxLen at hlen;by_cases c1:left - fs.length<0
 ·have e:eH left fs = -1:=by unfold eH;rw [if_neg];omega
  rw [e];clear hf hs;rcases hp with rfl | rfl
  go_enter Tryz.func135,Tryz.ntmps135;rotate_left;go_enter Tryz.func136,Tryz.ntmps136;all_goals
   go_wp2;go_ret;exact ⟨rfl,Below.refl _ _⟩
 ·have hne:=c1;have HF:Hid (sA w a fs):=hf;have HS:Hid (nY fs):=hs;clear hf hs;rcases hp with rfl | rfl
  go_enter Tryz.func135,Tryz.ntmps135;rotate_left;go_enter Tryz.func136,Tryz.ntmps136;all_goals
   go_wp2;go_loopw [1,5] (fun l i wr=>∃k:Nat,k≤fs.length∧i=.int .i64 k∧(bB (fs.take k):Int)≤left - fs.length∧l=.int .i64 (left - fs.length - bB (fs.take k))∧Below w.heap.size w wr) (fun _ i _=>fs.length - (intOf i).toNat)
   case atStart=>exact ⟨0,Nat.zero_le _,rfl,by simp [bB];omega,by simp [bB],Below.refl _ _⟩
   case round=>
    obtain ⟨k,hk,rfl,hle,rfl,hbel⟩:=hrel;by_cases hlt:k<fs.length
    ·obtain ⟨b,o,rfl,hb,c0,c1⟩:=(HF.out.later hbel).at hlt;have hss:=HS.out k hlt;have hts:=gJ fs k hlt;have htl:=bL fs (k+1);by_cases c3:((fs[k].s.size:Nat):Int)≤left - fs.length - bB (fs.take k)
     ·have e:kR (left - fs.length - bB (fs.take k)) fs[k]=left - fs.length - bB (fs.take (k+1)):=by
       unfold kR;rw [if_pos (by omega),hts];omega
      have E:Hid _:=e;have hle2:(bB (fs.take (k+1)):Int)≤left - fs.length:=by omega
      clear e hts;go_wp2_with fail;refine (aCx (by simp) fs[k] _ _ (by omega) (by omega) hss).mono ?_;rintro e w' ⟨rfl,hb2⟩;rw [E.out];go_wp2;exact ⟨⟨k+1,by omega,by go_num,hle2,rfl,hbel.trans (hb2.mono hbel.size)⟩,by simp [intOf];omega⟩
     ·have e:kR (left - fs.length - bB (fs.take k)) fs[k]= -1:=by
       unfold kR;rw [if_neg (by omega)]
      have E:Hid _:=e;have E2:Hid (eH left fs = -1):=by show eH left fs = -1;unfold eH;rw [if_neg (by omega)]
      clear e hts;go_wp2_with fail;refine (aCx (by simp) fs[k] _ _ (by omega) (by omega) hss).mono ?_;rintro e w' ⟨rfl,hb2⟩;rw [E.out];go_wp2;go_ret;exact ⟨jB E2.out.symm,hbel.trans (hb2.mono hbel.size)⟩
    ·go_wp2;go_ret;have e:fs.take k=fs:=List.take_of_length_le (by omega);rw [e] at hle ⊢;exact ⟨jB (by unfold eH;rw [if_pos (by omega)]),hbel⟩
theorem aNl {p:FuncId} (hp:p=184∨p=185) (nm:ByteArray) (da:Int) (w:World):
 Calls Tryz.prog p #[.agg #[.string nm,.int .i64 da]] w fun e w'=>e=.returned (.agg #[.string nm,.int .i64 da])∧Below w.heap.size w w':=by
 rcases hp with rfl | rfl
 go_enter Tryz.func184,Tryz.ntmps184;rotate_left;go_enter Tryz.func185,Tryz.ntmps185;all_goals
  go_wp2;exact bodyPost_ret (v:=.agg #[.string nm,.int .i64 da]) (by simp [results,Tryz.results184,Tryz.results185,go_sem]) rfl ⟨rfl,(((Below.refl _ _).alloc (Nat.le_refl _) _).alloc (by simp) _).alloc (by simp;omega) _⟩
theorem XO {p:FuncId} (hp:p=143∨p=144) (a:Option Addr) (cap:Nat) (fs:List gA) (w:World) (hf:sA w a fs) (hlen:fs.length≤1048576):
 Calls Tryz.prog p #[.slice a fs.length cap] w fun e w'=>e=.returned (.slice (some ⟨w.heap.size,0,none⟩) fs.length fs.length)∧fB w' w.heap.size (some ⟨w.heap.size,0,none⟩) fs∧Below w.heap.size w w'∧w.heap.size<w'.heap.size:=by
 have HF:Hid (sA w a fs):=hf;clear hf;rcases hp with rfl | rfl
 have hmk:=LO (r:=92) (.inl ⟨rfl,rfl⟩) fs.length hlen;go_enter Tryz.func143,Tryz.ntmps143;rotate_left;have hmk:=LO (r:=93) (.inr ⟨rfl,rfl⟩) fs.length hlen;go_enter Tryz.func144,Tryz.ntmps144;all_goals
  go_wp2;go_loopw [4] (fun i wr=>∃k:Nat,k≤fs.length∧i=.int .i64 k∧(∃t,oP t wr w.heap.size fs.length fs k)∧Below w.heap.size w wr∧w.heap.size<wr.heap.size) (fun i _=>fs.length - (intOf i).toNat)
  case atStart=>exact ⟨0,Nat.zero_le _,rfl,⟨_,_,heap_alloc_new _ _,size_madeCells _ _,fun i _ h=>absurd h (by omega)⟩,(Below.refl _ _).alloc (Nat.le_refl _) _,by simp⟩
  case round=>
   obtain ⟨k,hk,rfl,⟨t,hfill⟩,hbel,hsz⟩:=hrel;have HFill:Hid (oP t wr w.heap.size fs.length fs k):=hfill;clear hfill hmk;by_cases hlt:k<fs.length
   ·obtain ⟨b,o,rfl,hb,c0,c1⟩:=(HF.out.later hbel).at hlt;go_wp2_with fail;refine (aNl (by simp) _ _ _).mono ?_;rintro e w' ⟨rfl,hb2⟩;have hF2:=HFill.out.later hb2 hsz;obtain ⟨⟨v0,d0⟩,f0⟩:=hF2.cells (j:=k * 2) (by omega);obtain ⟨⟨v1,d1⟩,f1⟩:=hF2.cells (j:=k * 2+1) (by omega);have HF2:Hid (oP t w' w.heap.size fs.length fs k):=hF2;clear hF2;go_wp2;exact ⟨⟨k+1,by omega,by go_num,⟨t,HF2.out.step hlt (Nat.le_refl _)⟩,((hbel.trans (hb2.mono hbel.size)).setCell (Nat.le_refl _) _).setCell (Nat.le_refl _) _,by have:=hb2.size;simp;omega⟩,by simp [intOf];omega⟩
   ·go_wp2;go_ret;have e:k=fs.length:=by omega
    exact ⟨rfl,by have:=HFill.out;rw [e] at this;exact this.done (Nat.le_refl _),hbel,hsz⟩
theorem QY (f:cA) (a1 a2:Option Addr) (c1 c2:Nat) (w:World) (p1:sA w a1 f.mets) (p2:sA w a2 f.sers) (l1:f.mets.length≤1048576) (l2:f.sers.length≤1048576):
 Calls Tryz.prog 107 #[.agg #[.string f.name,.int .i64 f.limit,.slice a1 f.mets.length c1,.slice a2 f.sers.length c2]] w fun e w'=>∃g1 g2,e=.returned (.agg #[.string f.name,.int .i64 f.limit,.slice (some ⟨g1,0,none⟩) f.mets.length f.mets.length,.slice (some ⟨g2,0,none⟩) f.sers.length f.sers.length])∧
  w.heap.size≤g1∧g1<g2∧fB w' w.heap.size (some ⟨g1,0,none⟩) f.mets∧fB w' w.heap.size (some ⟨g2,0,none⟩) f.sers∧Below w.heap.size w w':=by
 have HM:=iA (fun (W:World) (hW:Below w.heap.size w W)=>XO (p:=143) (.inl rfl) a1 c1 f.mets W (p1.later hW) l1);have HS:=iA (fun (W:World) (hW:Below w.heap.size w W)=>XO (p:=144) (.inr rfl) a2 c2 f.sers W (p2.later hW) l2);clear p1 p2;go_enter Tryz.func107,Tryz.ntmps107;go_wp2_with fail;refine (HM.out _ (rA (rA (bA _ _) (bA _ _)) (bA _ _))).mono ?_;rintro e w1 ⟨rfl,o1,hb1,z1⟩;have B1:Hid _:=rA (rA (rA (bA _ _) (bA _ _)) (bA _ _)) hb1;have P1:Hid (lA w1 w.heap.size #[.string f.name,.int .i64 f.limit,.slice a1 f.mets.length c1,.slice a2 f.sers.length c2] 145):=(((lA.new _ _ _).alloc _).alloc _).later hb1;have R1:Hid (lA w1 (w.heap.size+1) #[.string ByteArray.empty,.int .i64 0,.slice none 0 0,.slice none 0 0] 95):=by have:=((lA.new (w.alloc (.cells #[.string f.name,.int .i64 f.limit,.slice a1 f.mets.length c1,.slice a2 f.sers.length c2] 145)) #[.string ByteArray.empty,.int .i64 0,.slice none 0 0,.slice none 0 0] 95).alloc (.cells #[.string f.name,.int .i64 f.limit,.slice none 0 0,.slice none 0 0] 95)).later hb1;exact iA (by simpa using this)
 have X1:Hid (lA w1 (w.heap.size+1+1) #[.string f.name,.int .i64 f.limit,.slice none 0 0,.slice none 0 0] 95):=by have:=(lA.new ((w.alloc (.cells #[.string f.name,.int .i64 f.limit,.slice a1 f.mets.length c1,.slice a2 f.sers.length c2] 145)).alloc (.cells #[.string ByteArray.empty,.int .i64 0,.slice none 0 0,.slice none 0 0] 95)) #[.string f.name,.int .i64 f.limit,.slice none 0 0,.slice none 0 0] 95).later hb1;exact iA (by simpa using this)
 have O1:Hid (fB w1 (w.heap.size+1+1+1) (some ⟨w.heap.size+1+1+1,0,none⟩) f.mets):=by show fB _ _ _ _;simpa using o1
 have z1':w.heap.size+1+1+1<w1.heap.size:=by simpa using z1
 have q1:w1.cell? ⟨w.heap.size,3,none⟩=some (.slice a2 f.sers.length c2):=P1.out.cell 3;have q2:w1.cell? ⟨w.heap.size+1+1,2,none⟩=some (.slice none 0 0):=X1.out.cell 2;have q3:=X1.out.free 2;clear o1 z1 hb1 P1 HM;go_wp2_with fail;have B1':Hid (Below w.heap.size w (w1.setCell ⟨w.heap.size+1+1,2,none⟩ (.slice (some ⟨w.heap.size+1+1+1,0,none⟩) f.mets.length f.mets.length))):=B1.out.setCell (by simp;omega) _;refine (HS.out _ B1'.out).mono ?_;rintro e w2 ⟨rfl,o2,hb2,z2⟩;have B2:Hid _:=rA B1'.out hb2;have O1':Hid (fB w2 (w.heap.size+1+1+1) (some ⟨w.heap.size+1+1+1,0,none⟩) f.mets):=(O1.out.but ((bE.refl _ _).setCell _ _) (by omega)).later hb2;have O2:Hid (fB w2 w1.heap.size (some ⟨w1.heap.size,0,none⟩) f.sers):=by show fB _ _ _ _;simpa using o2
 have X2:Hid (lA w2 (w.heap.size+1+1) #[.string f.name,.int .i64 f.limit,.slice (some ⟨w.heap.size+1+1+1,0,none⟩) f.mets.length f.mets.length,.slice none 0 0] 95):=(X1.out.set 2 _).later hb2;have R2:Hid (lA w2 (w.heap.size+1) #[.string ByteArray.empty,.int .i64 0,.slice none 0 0,.slice none 0 0] 95):=(R1.out.but ((bE.refl _ _).setCell _ _) (by omega)).later hb2;have r0:w2.cell? ⟨w.heap.size+1+1,0,none⟩=some (.string f.name):=X2.out.cell 0;have r1:w2.cell? ⟨w.heap.size+1+1,1,none⟩=some (.int .i64 f.limit):=X2.out.cell 1;have r2:w2.cell? ⟨w.heap.size+1+1,2,none⟩=some (.slice (some ⟨w.heap.size+1+1+1,0,none⟩) f.mets.length f.mets.length):=X2.out.cell 2;have r3:w2.cell? ⟨w.heap.size+1+1,3,none⟩=some (.slice none 0 0):=X2.out.cell 3;have r4:=X2.out.free 3;have s0:w2.cell? ⟨w.heap.size+1,0,none⟩=some (.string ByteArray.empty):=R2.out.cell 0;have s1:w2.cell? ⟨w.heap.size+1,1,none⟩=some (.int .i64 0):=R2.out.cell 1;have s2:w2.cell? ⟨w.heap.size+1,2,none⟩=some (.slice none 0 0):=R2.out.cell 2;have s3:w2.cell? ⟨w.heap.size+1,3,none⟩=some (.slice none 0 0):=R2.out.cell 3;have u0:=R2.out.free 0;have u1:=R2.out.free 1;have u2:=R2.out.free 2;have u3:=R2.out.free 3;clear o2 z2 B1 B1' O1 hb2 q1 q2 q3 X1 R1;go_wp2;refine bodyPost_ret (v:=.agg #[.string f.name,.int .i64 f.limit,.slice (some ⟨w.heap.size+1+1+1,0,none⟩) f.mets.length f.mets.length,.slice (some ⟨w1.heap.size,0,none⟩) f.sers.length f.sers.length]) (by simp [results,Tryz.results107,go_sem,s0,s1,s2,s3]) rfl ⟨_,_,rfl,by omega,z1',?_,?_,?_⟩
 ·exact ((((((O1'.out.but ((bE.refl _ _).setCell _ _) (by omega)).but ((bE.refl _ _).setCell _ _) (by omega)).but ((bE.refl _ _).setCell _ _) (by omega)).but ((bE.refl _ _).setCell _ _) (by omega)).but ((bE.refl _ _).setCell _ _) (by omega))).mono (by omega)
 ·exact ((((((O2.out.but ((bE.refl _ _).setCell _ _) (by omega)).but ((bE.refl _ _).setCell _ _) (by omega)).but ((bE.refl _ _).setCell _ _) (by omega)).but ((bE.refl _ _).setCell _ _) (by omega)).but ((bE.refl _ _).setCell _ _) (by omega))).mono (by omega)
 ·exact ((((B2.out.setCell (by simp;omega) _).setCell (by simp) _).setCell (by simp) _).setCell (by simp) _).setCell (by simp) _
theorem yU (nm:ByteArray) (da:Int) (w:World):
 Calls Tryz.prog 213 #[.agg #[.string nm,.int .i64 da],.agg #[.string nm,.int .i64 da]] w fun e w'=>e=.returned (.bool true)∧Below w.heap.size w w':=by
 go_enter Tryz.func213,Tryz.ntmps213;go_wp2;go_ret;exact ⟨rfl,((Below.refl _ _).alloc (Nat.le_refl _) _).alloc (by simp) _⟩
theorem uT (a a':Option Addr) (cap cap':Nat) (fs:List gA) (w:World) (hf:sA w a fs) (hf':sA w a' fs) (hlen:fs.length≤maxLen):
 Calls Tryz.prog 177 #[.slice a fs.length cap,.slice a' fs.length cap'] w fun e w'=>e=.returned (.bool true)∧Below w.heap.size w w':=by
 unfold maxLen at hlen;have HF:Hid (sA w a fs):=hf;have HF':Hid (sA w a' fs):=hf';clear hf hf';go_enter Tryz.func177,Tryz.ntmps177;go_wp2;go_loopw [5] (fun i wr=>∃k:Nat,k≤fs.length∧i=.int .i64 k∧Below w.heap.size w wr) (fun i _=>fs.length - (intOf i).toNat)
 case atStart=>exact ⟨0,Nat.zero_le _,rfl,Below.refl _ _⟩
 case round=>
  obtain ⟨k,hk,rfl,hbel⟩:=hrel;by_cases hlt:k<fs.length
  ·obtain ⟨b,o,rfl,hb,c0,c1⟩:=(HF.out.later hbel).at hlt;obtain ⟨b',o',rfl,hb',c0',c1'⟩:=(HF'.out.later hbel).at hlt;have d0:=pA.cells c0;have d1:=pA.cells c1;have d0':=pA.cells c0';have d1':=pA.cells c1';clear c0 c1 c0' c1';have hne:=pA.there wr;go_wp2_with fail;refine fA (by kernel_rfl) (by kernel_rfl) ?_;repeat (go_big_quiet_step (refine oA (yU _ _ _)))
   refine wpQuiet_nil ?_;rintro _ ⟨x,rfl⟩;go_wp2;exact ⟨⟨k+1,by omega,by go_num,hbel.trans (x.h.mono hbel.size)⟩,by simp [intOf];omega⟩
  ·go_wp2;go_ret;exact ⟨rfl,hbel⟩
theorem IM (nm:ByteArray) (da:Int) (w:World):
 Calls Tryz.prog 214 #[.agg #[.string nm,.int .i64 da],.agg #[.string nm,.int .i64 da]] w fun e w'=>e=.returned (.bool true)∧Below w.heap.size w w':=by
 go_enter Tryz.func214,Tryz.ntmps214;go_wp2;go_ret;exact ⟨rfl,((Below.refl _ _).alloc (Nat.le_refl _) _).alloc (by simp) _⟩
theorem EK (a a':Option Addr) (cap cap':Nat) (fs:List gA) (w:World) (hf:sA w a fs) (hf':sA w a' fs) (hlen:fs.length≤maxLen):
 Calls Tryz.prog 178 #[.slice a fs.length cap,.slice a' fs.length cap'] w fun e w'=>e=.returned (.bool true)∧Below w.heap.size w w':=by
 unfold maxLen at hlen;have HF:Hid (sA w a fs):=hf;have HF':Hid (sA w a' fs):=hf';clear hf hf';go_enter Tryz.func178,Tryz.ntmps178;go_wp2;go_loopw [5] (fun i wr=>∃k:Nat,k≤fs.length∧i=.int .i64 k∧Below w.heap.size w wr) (fun i _=>fs.length - (intOf i).toNat)
 case atStart=>exact ⟨0,Nat.zero_le _,rfl,Below.refl _ _⟩
 case round=>
  obtain ⟨k,hk,rfl,hbel⟩:=hrel;by_cases hlt:k<fs.length
  ·obtain ⟨b,o,rfl,hb,c0,c1⟩:=(HF.out.later hbel).at hlt;obtain ⟨b',o',rfl,hb',c0',c1'⟩:=(HF'.out.later hbel).at hlt;have d0:=pA.cells c0;have d1:=pA.cells c1;have d0':=pA.cells c0';have d1':=pA.cells c1';clear c0 c1 c0' c1';have hne:=pA.there wr;go_wp2_with fail;refine fA (by kernel_rfl) (by kernel_rfl) ?_;repeat (go_big_quiet_step (refine oA (IM _ _ _)))
   refine wpQuiet_nil ?_;rintro _ ⟨x,rfl⟩;go_wp2;exact ⟨⟨k+1,by omega,by go_num,hbel.trans (x.h.mono hbel.size)⟩,by simp [intOf];omega⟩
  ·go_wp2;go_ret;exact ⟨rfl,hbel⟩
structure TV where
 t:cA
 a1:Option Addr
 c1:Nat
 a2:Option Addr
 c2:Nat
def fD (ys:List TV):List Value:=ys.flatMap fun y=>[.string y.t.name,.int .i64 y.t.limit,.slice y.a1 y.t.mets.length y.c1,.slice y.a2 y.t.sers.length y.c2]
theorem OJ (a b:List TV):fD (a++b)=fD a++fD b:=by simp [fD]
def aHv (w:World) (b:Nat) (T:Nat→Nat) (ys:List TV):Prop:=
 ∀i (h:i<ys.length),fC w b T (2 * i+1) ys[i].a1 ys[i].t.mets∧fC w b T (2 * i+2) ys[i].a2 ys[i].t.sers
def qN (w:World) (b:Nat) (e:TypeId) (v:Value) (n:Nat) (ts:List cA):Prop:=
 ∃T ys,w.ownsRow b e 4 v n (fD ys)∧ys.map (·.t)=ts∧(∀g,v.ownBlock=some g→T g=0)∧aHv w b T ys
theorem qN.nil (w:World) (b:Nat) (e:TypeId):qN w b e (.slice none 0 0) 0 []:=
 ⟨fun _=>0,[],World.ownsRow_nil _ _ _ _,rfl,fun _ _=>rfl,fun i h=>absurd h (by simp)⟩
theorem qN.row {w:World}{b:Nat}{e:TypeId}{v:Value}{n:Nat}{ts:List cA} (h:qN w b e v n ts):∃a c,v=.slice a n c:=by
 obtain ⟨_,_,h,_⟩:=h;rcases h.2 with ⟨rfl,rfl⟩ | ⟨g,cap,cur,rfl,_⟩
 ·exact ⟨none,0,rfl⟩
 ·exact ⟨_,_,rfl⟩
theorem qN.turn {w w':World}{S:Nat→Prop}{b:Nat}{e:TypeId}{v:Value}{n:Nat}{ts:List cA} (h:qN w b e v n ts) (ht:dA S w w') (hS:∀g,S g→g<b):qN w' b e v n ts:=by
 obtain ⟨T,ys,h1,h2,h3,h4⟩:=h;refine ⟨T,ys,ht.row h1 (fun g hg e=>by have:=(h1.lt g hg).1;have:=hS g e;omega),h2,h3,fun i hi=>?_⟩;have hk:∀g,g<w.heap.size→b≤g→w'.heap[g]?=w.heap[g]?:=fun g hg hb=>ht.block g hg (fun e=>by have:=hS g e;omega);exact ⟨(h4 i hi).1.keep fun g hg hb hT=>⟨hk g hg hb,hT⟩,(h4 i hi).2.keep fun g hg hb hT=>⟨hk g hg hb,hT⟩⟩
theorem qN.snoc {wr w4 w6:World}{b M gg cap k:Nat}{e:TypeId}{v:Value}{T:Nat→Nat}{ys:List TV}{ts:List cA}{t:cA}{a1 a2:Option Addr}{c1 c2:Nat}
 (hrow:w6.ownsRow b e 4 (.slice (some ⟨gg,0,none⟩) (k+1) cap) (k+1) (fD ys++[.string t.name,.int .i64 t.limit,.slice a1 t.mets.length c1,.slice a2 t.sers.length c2]))
 (hys:ys.map (·.t)=ts) (hyk:ys.length=k) (hv:∀g,v.ownBlock=some g→T g=0) (hp:aHv wr b T ys) (hb:b≤wr.heap.size) (hM:wr.heap.size≤M)
 (hk0:∀g,g<wr.heap.size→b≤g→v.ownBlock≠some g→w6.heap[g]?=wr.heap[g]?) (hk4:∀g,wr.heap.size≤g→g<w4.heap.size→w6.heap[g]?=w4.heap[g]?)
 (h1:fB w4 wr.heap.size a1 t.mets) (h1M:∀g o,a1=some ⟨g,o,none⟩→g<M) (h2:fB w4 M a2 t.sers)
 (hgg:(v.ownBlock=some gg∧gg<wr.heap.size)∨w4.heap.size≤gg) (h4r:wr.heap.size≤w4.heap.size) (hM4:M≤w4.heap.size):qN w6 b e (.slice (some ⟨gg,0,none⟩) (k+1) cap) (k+1) (ts++[t]):=by
 have own6:∀{B n:Nat}{T':Nat→Nat}{a:Option Addr}{ps:List gA},wr.heap.size≤B→fB w4 B a ps→(∀g o,a=some ⟨g,o,none⟩→B≤g→g<w4.heap.size→T' g=n)→fC w6 b T' n a ps:=by
  intro B n T' a ps hB h hT;rcases h with h | ⟨g,o,cur,ty,rfl,hBg,hblk,hat⟩
  ·exact Or.inl h
  ·have hlt:=aA hblk;have hke:=hk4 g (by omega) hlt;have hc:∀j,w6.cell? ⟨g,j,none⟩=w4.cell? ⟨g,j,none⟩:=fun j=>World.cell?_of_block hke;exact Or.inr ⟨g,o,cur,ty,rfl,by omega,hT g o rfl hBg hlt,hke.trans hblk,fun i hi=>by simp only [hc];exact hat i hi⟩
 refine ⟨fun g=>if g<wr.heap.size then T g else if g<M then 2 * k+1 else if g<w4.heap.size then 2 * k+2 else 0,ys++[⟨t,a1,c1,a2,c2⟩],?_,?_,?_,?_⟩
 ·rw [OJ];exact hrow
 ·rw [List.map_append,hys];rfl
 ·intro g hg;simp only [Value.ownBlock,Option.some.injEq] at hg;subst hg;rcases hgg with ⟨h,hl⟩ | h
  ·simp only [if_pos hl];exact hv _ h
  ·simp only [if_neg (show ¬gg<wr.heap.size by omega),if_neg (show ¬gg<M by omega),if_neg (show ¬gg<w4.heap.size by omega)]
 ·intro i hi;by_cases hik:i<ys.length
  ·rw [List.getElem_append_left hik];obtain ⟨p1,p2⟩:=hp i hik;refine ⟨p1.keep fun g hg hbg hT=>⟨hk0 g hg hbg (fun e=>by have:=hv g e;omega),by simp only [if_pos hg];exact hT⟩,p2.keep fun g hg hbg hT=>⟨hk0 g hg hbg (fun e=>by have:=hv g e;omega),by simp only [if_pos hg];exact hT⟩⟩
  ·have e:i=k:=by simp at hi;omega
   subst e;rw [List.getElem_append_right (by omega)];simp only [hyk,Nat.sub_self,List.getElem_cons_zero];refine ⟨own6 (Nat.le_refl _) h1 fun g o ha hg _=>?_,own6 hM h2 fun g o ha hg hl=>?_⟩
   ·simp only [if_neg (show ¬g<wr.heap.size by omega),if_pos (h1M g o ha)]
   ·simp only [if_neg (show ¬g<wr.heap.size by omega),if_neg (show ¬g<M by omega),if_pos hl]
theorem qN.own {w:World}{b:Nat}{e:TypeId}{a:Option Addr}{n cap:Nat}{ts:List cA} (h:qN w b e (.slice a n cap) n ts) (hn:ts.length=n):eB w b a ts:=by
 obtain ⟨T,ys,h1,h2,h3,h4⟩:=h;have hyl:ys.length=n:=by rw [←hn,←h2,List.length_map]
 rcases h1.2 with ⟨_,hl⟩ | ⟨g,cap',cur,he,hB,hg,_,_,hsz,htk⟩
 ·exact Or.inl (List.length_eq_zero_iff.1 (by omega))
 ·simp only [Value.slice.injEq] at he;have hT:T g=0:=h3 g (by rw [he.1];rfl);have hf:∀(l:List TV) i (hi:i<l.length),(fD l)[i * 4]?=some (.string l[i].t.name)∧(fD l)[i * 4+1]?=some (.int .i64 l[i].t.limit)∧(fD l)[i * 4+2]?=some (.slice l[i].a1 l[i].t.mets.length l[i].c1)∧(fD l)[i * 4+3]?=some (.slice l[i].a2 l[i].t.sers.length l[i].c2):=by
   intro l;unfold fD;induction l with
   | nil=>intro i hi;exact absurd hi (by simp)
   | cons x r ih=>
     intro i hi;cases i with
     | zero=>simp
     | succ i=>
       have:=ih i (by simpa using hi);simp only [List.flatMap_cons,List.cons_append,List.nil_append,List.getElem_cons_succ];refine ⟨?_,?_,?_,?_⟩
       ·rw [show (i+1) * 4=i * 4+1+1+1+1 by omega,List.getElem?_cons_succ,List.getElem?_cons_succ,List.getElem?_cons_succ,List.getElem?_cons_succ];exact this.1
       ·rw [show (i+1) * 4+1=i * 4+1+1+1+1+1 by omega,List.getElem?_cons_succ,List.getElem?_cons_succ,List.getElem?_cons_succ,List.getElem?_cons_succ];exact this.2.1
       ·rw [show (i+1) * 4+2=i * 4+2+1+1+1+1 by omega,List.getElem?_cons_succ,List.getElem?_cons_succ,List.getElem?_cons_succ,List.getElem?_cons_succ];exact this.2.2.1
       ·rw [show (i+1) * 4+3=i * 4+3+1+1+1+1 by omega,List.getElem?_cons_succ,List.getElem?_cons_succ,List.getElem?_cons_succ,List.getElem?_cons_succ];exact this.2.2.2
  have hc:∀j,j<n * 4→w.cell? ⟨g,j,none⟩=(fD ys)[j]?:=fun j hj=>by
   rw [lA.cell (show lA w g cur e from hg) j,←Array.getElem?_toList,←htk,List.getElem?_take_of_lt hj]
  refine Or.inr ⟨g,0,cur,e,T,he.1,hB,hg,hT,fun i hi=>?_⟩;have hiy:i<ys.length:=by omega
  have et:ts[i]=ys[i].t:=by simp only [←h2,List.getElem_map]
  obtain ⟨f0,f1,f2,f3⟩:=hf ys i hiy;rw [et];refine ⟨ys[i].a1,ys[i].c1,ys[i].a2,ys[i].c2,?_,?_,?_,?_,(h4 i hiy).1,(h4 i hiy).2⟩
  ·rw [Nat.zero_add,hc _ (by omega)];exact f0
  ·rw [Nat.zero_add,hc _ (by omega)];exact f1
  ·rw [Nat.zero_add,hc _ (by omega)];exact f2
  ·rw [Nat.zero_add,hc _ (by omega)];exact f3
def MZ (w:World) (ys:List TV):Prop:=∀y∈ys,sA w y.a1 y.t.mets∧sA w y.a2 y.t.sers
theorem MZ.snoc {w:World}{ys:List TV} (h:MZ w ys){y:TV} (h1:sA w y.a1 y.t.mets) (h2:sA w y.a2 y.t.sers):MZ w (ys++[y]):=fun z hz=>by
 rcases List.mem_append.1 hz with hz | hz
 ·exact h z hz
 ·rw [List.mem_singleton.1 hz];exact ⟨h1,h2⟩
theorem KZ:∀(l:List TV) (i:Nat) (hi:i<l.length),(fD l)[i * 4]?=some (.string l[i].t.name)∧(fD l)[i * 4+1]?=some (.int .i64 l[i].t.limit)∧(fD l)[i * 4+2]?=some (.slice l[i].a1 l[i].t.mets.length l[i].c1)∧(fD l)[i * 4+3]?=some (.slice l[i].a2 l[i].t.sers.length l[i].c2):=by
 intro l;unfold fD;induction l with
 | nil=>intro i hi;exact absurd hi (by simp)
 | cons x r ih=>
   intro i hi;cases i with
   | zero=>simp
   | succ i=>
     have:=ih i (by simpa using hi);simp only [List.flatMap_cons,List.cons_append,List.nil_append,List.getElem_cons_succ];refine ⟨?_,?_,?_,?_⟩
     ·rw [show (i+1) * 4=i * 4+1+1+1+1 by omega,List.getElem?_cons_succ,List.getElem?_cons_succ,List.getElem?_cons_succ,List.getElem?_cons_succ];exact this.1
     ·rw [show (i+1) * 4+1=i * 4+1+1+1+1+1 by omega,List.getElem?_cons_succ,List.getElem?_cons_succ,List.getElem?_cons_succ,List.getElem?_cons_succ];exact this.2.1
     ·rw [show (i+1) * 4+2=i * 4+2+1+1+1+1 by omega,List.getElem?_cons_succ,List.getElem?_cons_succ,List.getElem?_cons_succ,List.getElem?_cons_succ];exact this.2.2.1
     ·rw [show (i+1) * 4+3=i * 4+3+1+1+1+1 by omega,List.getElem?_cons_succ,List.getElem?_cons_succ,List.getElem?_cons_succ,List.getElem?_cons_succ];exact this.2.2.2
theorem aNa {w w8:World}{B:Nat}{e:TypeId}{a:Option Addr}{cap:Nat}{ys:List TV} (h:w8.ownsRow B e 4 (.slice a ys.length cap) ys.length (fD ys)) (ho:MZ w ys):
 ∀i (hi:i<ys.length),∃b,a=some ⟨b,0,none⟩∧b<w8.heap.size∧w8.cell? ⟨b,i * 4,none⟩=some (.string ys[i].t.name)∧w8.cell? ⟨b,i * 4+1,none⟩=some (.int .i64 ys[i].t.limit)∧w8.cell? ⟨b,i * 4+2,none⟩=some (.slice ys[i].a1 ys[i].t.mets.length ys[i].c1)∧w8.cell? ⟨b,i * 4+3,none⟩=some (.slice ys[i].a2 ys[i].t.sers.length ys[i].c2)∧sA w ys[i].a1 ys[i].t.mets∧sA w ys[i].a2 ys[i].t.sers:=by
 intro i hi;rcases h.2 with ⟨_,hl⟩ | ⟨g,cap',cur,he,hB,hg,_,_,hsz,htk⟩
 ·omega
 ·simp only [Value.slice.injEq] at he;obtain ⟨f0,f1,f2,f3⟩:=KZ ys i hi;have hc:∀j,j<ys.length * 4→w8.cell? ⟨g,j,none⟩=(fD ys)[j]?:=fun j hj=>by
   rw [lA.cell (show lA w8 g cur e from hg) j,←Array.getElem?_toList,←htk,List.getElem?_take_of_lt hj]
  obtain ⟨o1,o2⟩:=ho ys[i] (List.getElem_mem hi);refine ⟨g,he.1,aA hg,?_,?_,?_,?_,o1,o2⟩
  ·rw [hc _ (by omega)];exact f0
  ·rw [hc _ (by omega)];exact f1
  ·rw [hc _ (by omega)];exact f2
  ·rw [hc _ (by omega)];exact f3
theorem OO (s:ByteArray) (w:World) (hs:s.size≤maxLen):
 Calls Tryz.prog 285 #[.string s] w fun e w'=>e=.returned (.bool (cZ s))∧w'=w:=by
 unfold maxLen at hs;by_cases h1:1≤s.size∧s.size≤64
 ·have h0:¬((s.size:Int)<1):=by omega
  have h64:¬((64:Int)<s.size):=by omega
  go_enter Tryz.func285,Tryz.ntmps285;go_wp2;apply wp_scope_straight;go_wp2;apply wp_label;go_wp2;go_loop [3,4,20,35] (fun i _ _ _=>∃j:Nat,j≤s.size∧i=.int .i64 j∧Hid (∀k,k<j→iU s k)) (fun i _ _ _=>s.size - (intOf i).toNat)
  case atStart=>exact ⟨0,Nat.zero_le _,rfl,fun k hk=>absurd hk (by omega)⟩
  case round=>
   obtain ⟨j,hj,rfl,HA⟩:=hrel;by_cases hlt:j<s.size
   ·have hU2:s[j].toNat<256:=s[j].toNat_lt;have HE:Hid (s[j].toNat=gB s j):=sP s j hlt;have hje:((j:Int)==(s.size:Int))=false:=by simp;omega
    by_cases hc:s[j].toNat=95
    ·have hcb:((s[j].toNat:Int)==95)=true:=by simp;omega
     go_wp2;all_goals
      refine ⟨⟨j+1,by omega,by go_num,?_⟩,by simp [intOf];omega⟩;show ∀k,_;intro k hk;by_cases e:k=j
      ·subst e;unfold iU cS;rw [←HE.out];omega
      ·exact HA.out k (by omega)
    ·have hcb:((s[j].toNat:Int)==95)=false:=by simp;omega
     go_wp2;all_goals first
      | (go_ret
         refine ⟨jA (aQ ?_).symm,rfl⟩
         intro h
         have:=h.2.2 j hlt
         unfold iU cS EH at this
         rw [←HE.out] at this
         omega)
      | (refine ⟨⟨j+1,by omega,by go_num,?_⟩,by simp [intOf];omega⟩
         show ∀k,_
         intro k hk
         by_cases e:k=j
         ·subst e
          unfold iU cS EH
          rw [←HE.out]
          omega
         ·exact HA.out k (by omega))
   ·have hje:((j:Int)==(s.size:Int))=true:=by simp;omega
    go_wp2;go_ret;exact ⟨jA (LW ⟨by omega,by omega,fun i hi=>HA.out i (by omega)⟩).symm,rfl⟩
 ·have E:Hid (cZ s=false):=aQ (fun h=>h1 ⟨h.1,h.2.1⟩);by_cases h2:(s.size:Int)<1
  ·clear h1;go_enter Tryz.func285,Tryz.ntmps285;go_wp2;apply wp_scope_straight;go_wp2;rw [Exit.noGoto_ret];show bodyPost Tryz.prog Tryz.f285 _ Exit.ret _ _;go_ret;exact ⟨jA E.out.symm,rfl⟩
  ·have h3:(64:Int)<s.size:=by omega
   clear h1;go_enter Tryz.func285,Tryz.ntmps285;go_wp2;apply wp_scope_straight;go_wp2;rw [Exit.noGoto_ret];show bodyPost Tryz.prog Tryz.f285 _ Exit.ret _ _;go_ret;exact ⟨jA E.out.symm,rfl⟩
abbrev aOp:Inhabited zA:=⟨⟨ByteArray.empty,ByteArray.empty⟩⟩
def wN (x:zA):List Value:=[.string x.name,.string x.value]
theorem IZ (l:zA) (w:World) (hn:l.name.size≤1000000000) (hv:l.value.size≤1000000000) (hT:wF w):
 Calls Tryz.prog 282 #[.agg #[.string l.name,.string l.value]] w fun e w'=>e=.returned (.int .i64 (zR l:Nat))∧Below w.heap.size w w':=by
 have HT:Hid (wF w):=hT;have HN:Hid _:=fun W=>OO l.name W (by unfold maxLen;omega);have HV:Hid _:=fun W h=>AW l.value W hv h;clear hT hn hv;by_cases h:cZ l.name=true
 ·have E:Hid (zR l=rJ l.value):=by show _=_;rw [zR,if_pos h]
  rw [E.out];have HH:Hid _:=h;clear h E;generalize l.name=nm at *;generalize l.value=va at *;generalize rJ va=V at *;go_enter Tryz.func282,Tryz.ntmps282;go_wp2_with fail;refine (HN.out _).mono ?_;rintro e w1 ⟨rfl,hw⟩;rw [HH.out];replace hw:=hw.symm;subst hw;go_wp2_with fail;refine (HV.out _ (HT.out.later (bA _ _))).mono ?_;rintro e w2 ⟨rfl,hb⟩;have HB:Hid _:=rA (bA _ _) hb;clear hb;go_wp2;go_ret;exact ⟨rfl,HB.out⟩
 ·have HH:Hid (cZ l.name=false):=by show _=_;simpa using h
  have E:Hid (zR l=41):=by show _=_;rw [zR,if_neg h]
  rw [E.out];clear h E;generalize l.name=nm at *;generalize l.value=va at *;go_enter Tryz.func282,Tryz.ntmps282;go_wp2_with fail;refine (HN.out _).mono ?_;rintro e w1 ⟨rfl,hw⟩;rw [HH.out];replace hw:=hw.symm;subst hw;go_wp2;go_ret;exact ⟨rfl,bA _ _⟩
theorem aEt (t:ByteArray) (B:Nat) (w:World) (hB:B<w.heap.size) (hcell:w.cell? ⟨B,0,none⟩=some (.string t)):
 PredBelow Tryz.prog 287 #[.pointer (some ⟨B,0,none⟩)] (fun x=>.agg (wN x).toArray) (fun x:zA=>x.name.toList==t.toList) w:=fun W x hb=>by
 have hc:=(hb.cell (p:=⟨B,0,none⟩) hB).trans hcell;have hBW:=Nat.lt_of_lt_of_le hB hb.size;have hne:B≠W.heap.size:=by omega
 show Calls Tryz.prog 287 #[.agg #[.string x.name,.string x.value],.pointer (some ⟨B,0,none⟩)] W _;go_enter Tryz.func287,Tryz.ntmps287;go_wp2;go_ret;exact ⟨rfl,hb.alloc hb.size _⟩
theorem TO (b o n c:Nat) (ls:List zA) (t:ByteArray) (w:World) (hb:b<w.heap.size) (hl:bP w b o ls) (hn:n≤ls.length) (hlen:ls.length≤2000000):
 Calls Tryz.prog 283 #[.slice (some ⟨b,o,none⟩) n c,.string t] w fun e w'=>e=.returned (.bool ((ls.take n).any fun x=>x.name.toList==t.toList))∧Below w.heap.size w w':=by
 have eg:∀args w,(callFunc 287 args).run Tryz.prog w=.ok (.enter 287 args) w:=enters_of Tryz.func287 (by kernel_rfl) rfl;haveI:=aOp
 have hcon:=AnyQ.slices_ContainsFunc Tryz.contL 2 Tryz.isAgg202 Tryz.sizeOf202 wN (fun _=>rfl) (fun x:zA=>x.name.toList==t.toList) 287 #[.pointer (some ⟨w.heap.size,0,none⟩)] eg b o n c ls (w.alloc (.cells #[.string t] 9))
  (aEt t w.heap.size _ (by simp) (by simp)) hn (by omega) (by simp;omega) (fun j hj i v hi=>by
   refine Lib.cell?_alloc_some _ ?_;have h1:=hl j hj;have e:ls[j]! = ls[j]:=getElem!_pos ls j hj;rw [e] at hi;match i,hi with
   | 0,hi=>simp [wN] at hi;rw [←hi];exact h1.1
   | 1,hi=>simp [wN] at hi;rw [←hi];exact h1.2
   | i+2,hi=>simp [wN] at hi)
 change Calls Tryz.prog 286 _ _ _ at hcon;clear hl;generalize ((ls.take n).any fun x=>x.name.toList==t.toList)=r at hcon ⊢;go_enter Tryz.func283,Tryz.ntmps283;go_wp2_with (go_at_call 286;refine hcon.mono ?_;rintro e w' ⟨rfl,hb'⟩);go_ret;exact ⟨rfl,((Below.refl _ w).alloc (Nat.le_refl _) _).trans (hb'.mono (by simp))⟩
theorem GA:FZ.toList=[95,95,110,97,109,101,95,95]:=by rw [FZ,ByteArray.toList_eq]
theorem mX (a:Option Addr) (cap:Nat) (ls:List zA) (w:World) (hf:lD w a ls) (hlen:ls.length≤2000000):
 Calls Tryz.prog 221 #[.slice a ls.length cap] w fun e w'=>e=.returned (.string (uH ls))∧Below w.heap.size w w':=by
 have HF:Hid (lD w a ls):=hf;clear hf;go_enter Tryz.func221,Tryz.ntmps221;go_wp2;go_loopw [4,7] (fun _ i wr=>∃k:Nat,k≤ls.length∧i=.int .i64 k∧Hid (uH ls=uH (ls.drop k))∧Below w.heap.size w wr) (fun _ i _=>ls.length - (intOf i).toNat)
 case atStart=>exact ⟨0,Nat.zero_le _,rfl,rfl,Below.refl _ _⟩
 case round=>
  obtain ⟨k,hk,rfl,HK,hbel⟩:=hrel;by_cases hlt:k<ls.length
  ·obtain ⟨b,o,rfl,hb,c0,c1⟩:=(HF.out.later hbel).at hlt;have HS:=LS ls k hlt;have HM:Hid (oK ls[k]=(ls[k].name.toList==[95,95,110,97,109,101,95,95])):=by show _=_;rw [oK,GA]
   generalize ls[k].name=nm at *;by_cases hm:oK ls[k]=true
   ·have hmb:(nm.toList==[95,95,110,97,109,101,95,95])=true:=by rw [←HM.out];exact hm
    have E:Hid (uH ls=ls[k].value):=by show _=_;rw [HK.out,HS,if_pos hm]
    clear HS hm;generalize ls[k].value=va at *;go_wp2;go_ret;exact ⟨by rw [E.out];rfl,rA hbel (bA _ _)⟩
   ·have hmb:(nm.toList==[95,95,110,97,109,101,95,95])=false:=by rw [←HM.out];simpa using hm
    have E:Hid (uH ls=uH (ls.drop (k+1))):=by show _=_;rw [HK.out,HS,if_neg hm]
    clear HS hm;generalize ls[k].value=va at *;go_wp2;exact ⟨⟨k+1,by omega,by go_num,E.out,rA hbel (bA _ _)⟩,by simp [intOf];omega⟩
  ·have E:Hid (uH ls=ByteArray.empty):=by
    show _=_;rw [HK.out,List.drop_of_length_le (by omega)];rfl
   go_wp2;go_ret;exact ⟨by rw [E.out];rfl,hbel⟩
def aHq (ls:List zA):Prop:=∀i (h:i<ls.length),ls[i].name.size≤1000000000∧ls[i].value.size≤1000000000
def iF (ls:List zA):Nat×Nat:=
 if 16<ls.length then (40,0) else match jC ls 0 with
 | some (c,i)=>(c,i)
 | none=>match uD [] ls 0 with
   | some i=>(45,i)
   | none=>if ((uH ls).toList==ByteArray.empty.toList)=true then (46,0) else (0,0)
theorem aCs {a b c d:Nat} (h1:a=c) (h2:b=d):Ending.returned (.tuple #[.int .i64 (a:Nat),.int .i64 (b:Nat)])=.returned (.tuple #[.int .i64 (c:Nat),.int .i64 (d:Nat)]):=by rw [h1,h2]
theorem ER {ls:List zA} (h:16<ls.length):iF ls=(40,0):=by unfold iF;rw [if_pos h]
theorem KT {ls:List zA} (h:¬16<ls.length){c i:Nat} (hb:jC ls 0=some (c,i)):iF ls=(c,i):=by unfold iF;rw [if_neg h,hb]
theorem AL {ls:List zA} (h:¬16<ls.length) (hb:jC ls 0=none){i:Nat} (ht:uD [] ls 0=some i):iF ls=(45,i):=by unfold iF;rw [if_neg h,hb,ht]
theorem KU {ls:List zA} (h:¬16<ls.length) (hb:jC ls 0=none) (ht:uD [] ls 0=none):iF ls=if ((uH ls).toList==ByteArray.empty.toList)=true then (46,0) else (0,0):=by unfold iF;rw [if_neg h,hb,ht]
theorem TF (a:Option Addr) (cap:Nat) (ls:List zA) (w:World) (hf:lD w a ls) (hB:aHq ls) (hlen:ls.length≤2000000) (hcap:ls.length≤cap) (hT:wF w):
 Calls Tryz.prog 277 #[.slice a ls.length cap] w fun e w'=>e=.returned (.tuple #[.int .i64 ((iF ls).1:Nat),.int .i64 ((iF ls).2:Nat)])∧Below w.heap.size w w':=by
 have HF:Hid (lD w a ls):=hf;have HB:Hid (aHq ls):=hB;have HT:Hid (wF w):=hT;clear hf hB hT;by_cases h16:16<ls.length
 ·rw [ER h16];go_enter Tryz.func277,Tryz.ntmps277;go_wp2;go_ret2;exact ⟨rfl,Below.refl _ _⟩
 have H16:Hid (¬16<ls.length):=h16;go_enter Tryz.func277,Tryz.ntmps277;go_wp2;go_loopw [4,5,6,14] (fun _ _ _ i wr=>∃k:Nat,k≤ls.length∧i=.int .i64 k∧Hid (jC ls 0=jC (ls.drop k) k)∧Below w.heap.size w wr) (fun _ _ _ i _=>ls.length - (intOf i).toNat)
 case atStart=>exact ⟨0,Nat.zero_le _,rfl,rfl,Below.refl _ _⟩
 case round=>
  obtain ⟨k,hk,rfl,HK,hbel⟩:=hrel;by_cases hlt:k<ls.length
  ·obtain ⟨b,o,rfl,hb,c0,c1⟩:=(HF.out.later hbel).at hlt;obtain ⟨hs1,hs2⟩:=HB.out k hlt;have HLC:Hid _:=fun W h=>IZ ls[k] W hs1 hs2 h;have HS:=cU ls k hlt;have hnb:¬b=wr.heap.size:=by omega
   by_cases h0:zR ls[k]=0
   ·have E:Hid (jC ls 0=jC (ls.drop (k+1)) (k+1)):=by show _=_;rw [HK.out,HS,if_pos h0]
    have HLC2:Hid (∀W,wF W→Calls Tryz.prog 282 #[.agg #[.string ls[k].name,.string ls[k].value]] W fun e w'=>e=.returned (.int .i64 0)∧Below W.heap.size W w'):=by
     show ∀_,_;have:=HLC.out;rw [h0] at this;exact this
    clear HS HLC h0 hs1 hs2;generalize ls[k].name=nm at *;generalize ls[k].value=va at *;go_wp2_with fail;refine (HLC2.out _ ((HT.out.later hbel).later (bA _ _))).mono ?_;rintro e w1 ⟨rfl,hb1⟩;have HB1:Hid _:=rA (rA hbel (bA _ _)) hb1;clear hb1;go_wp2;exact ⟨⟨k+1,by omega,by go_num,E.out,HB1.out⟩,by simp [intOf];omega⟩
   ·have E:Hid _:=KT H16.out (by rw [HK.out,HS,if_neg h0]);have h0b:((zR ls[k]:Int) != 0)=true:=by simp;omega
    clear HS h0 hs1 hs2;generalize zR ls[k]=V at *;generalize ls[k].name=nm at *;generalize ls[k].value=va at *;go_wp2_with fail;refine (HLC.out _ ((HT.out.later hbel).later (bA _ _))).mono ?_;rintro e w1 ⟨rfl,hb1⟩;have HB1:Hid _:=rA (rA hbel (bA _ _)) hb1;clear hb1;go_wp2;go_ret2;exact ⟨aCs (by rw [E.out]) (by rw [E.out]),HB1.out⟩
  ·have HN:Hid (jC ls 0=none):=by
    show _=_;rw [HK.out,List.drop_of_length_le (by omega)];rfl
   clear HK;go_wp2;clear hlt hk;go_loopw [7,8,28] (fun _ _ i wr=>∃k:Nat,k≤ls.length∧i=.int .i64 k∧Hid (uD [] ls 0=uD (ls.take k) (ls.drop k) k)∧Below w.heap.size w wr) (fun _ _ i _=>ls.length - (intOf i).toNat)
   case atStart=>exact ⟨0,Nat.zero_le _,rfl,rfl,hbel⟩
   case round=>
    clear hbel;obtain ⟨k,hk,rfl,HK,hbel⟩:=hrel;by_cases hlt:k<ls.length
    ·obtain ⟨b,o,rfl,hb,c0,c1⟩:=(HF.out.later hbel).at hlt;have HS:=qW ls k hlt;have hnb:¬b=wr.heap.size:=by omega
     have hat:bP wr b o ls:=by
      rcases HF.out.later hbel with h | ⟨b',o',e,_,h⟩
      ·rw [h] at hlt;exact absurd hlt (by simp)
      ·simp only [Option.some.injEq,Addr.mk.injEq,and_true] at e;obtain ⟨rfl,rfl⟩:=e;exact h
     have HHN:Hid (∀W,Below wr.heap.size wr W→Calls Tryz.prog 283 #[.slice (some ⟨b,o,none⟩) k cap,.string ls[k].name] W fun e w'=>e=.returned (.bool ((ls.take k).any fun x=>iO x ls[k]))∧Below W.heap.size W w'):=fun W hW=>by
      have h2:bP W b o ls:=fun i hi=>by
       have:=hat i hi;exact ⟨(hW.cell hb).trans this.1,(hW.cell hb).trans this.2⟩
      exact TO b o k cap ls ls[k].name W (Nat.lt_of_lt_of_le hb hW.size) h2 (by omega) hlen
     have hk0:(0:Int)≤(k:Int):=by omega
     have hkc:(k:Int)≤(cap:Int):=by omega
     clear hat;by_cases ht:((ls.take k).any fun x=>iO x ls[k])=true
     ·have E:Hid _:=AL H16.out HN.out (by rw [HK.out,HS,if_pos ht]);have HHN2:Hid (∀W,Below wr.heap.size wr W→Calls Tryz.prog 283 #[.slice (some ⟨b,o,none⟩) k cap,.string ls[k].name] W fun e w'=>e=.returned (.bool true)∧Below W.heap.size W w'):=by
       show ∀_,_;have:=HHN.out;rw [ht] at this;exact this
      clear HS HHN ht;generalize ls[k].name=nm at *;generalize ls[k].value=va at *;have d0:∀x:pA (wr.alloc (.cells #[.string nm,.string va] 202)),x.w'.cell? ⟨wr.heap.size,0,none⟩=some (.string nm):=pA.cells (by simp);have hne:=pA.there (wr.alloc (.cells #[.string nm,.string va] 202));go_wp2_with fail;refine fA (by kernel_rfl) (by kernel_rfl) ?_;repeat (go_big_quiet_step (first | (go_at_call 283;exact oA (HHN2.out _ (rA (bA _ _) (pA.h _))))))
      refine wpQuiet_nil ?_;rintro _ ⟨x,rfl⟩;have HX:Hid _:=rA (rA hbel (bA _ _)) x.h;clear d0 hne;generalize x.w'=W at *;clear x;go_wp2;go_ret2;exact ⟨aCs (by rw [E.out]) (by rw [E.out]),HX.out⟩
     ·have E:Hid (uD [] ls 0=uD (ls.take (k+1)) (ls.drop (k+1)) (k+1)):=by show _=_;rw [HK.out,HS,if_neg ht]
      have HHN2:Hid (∀W,Below wr.heap.size wr W→Calls Tryz.prog 283 #[.slice (some ⟨b,o,none⟩) k cap,.string ls[k].name] W fun e w'=>e=.returned (.bool false)∧Below W.heap.size W w'):=by
       show ∀_,_;have h1:((ls.take k).any fun x=>iO x ls[k])=false:=by simpa using ht
       have:=HHN.out;rw [h1] at this;exact this
      clear HS HHN ht;generalize ls[k].name=nm at *;generalize ls[k].value=va at *;have d0:∀x:pA (wr.alloc (.cells #[.string nm,.string va] 202)),x.w'.cell? ⟨wr.heap.size,0,none⟩=some (.string nm):=pA.cells (by simp);have hne:=pA.there (wr.alloc (.cells #[.string nm,.string va] 202));go_wp2_with fail;refine fA (by kernel_rfl) (by kernel_rfl) ?_;repeat (go_big_quiet_step (first | (go_at_call 283;exact oA (HHN2.out _ (rA (bA _ _) (pA.h _))))))
      refine wpQuiet_nil ?_;rintro _ ⟨x,rfl⟩;have HX:Hid _:=rA (rA hbel (bA _ _)) x.h;clear d0 hne;generalize x.w'=W at *;clear x;go_wp2;exact ⟨⟨k+1,by omega,by go_num,E.out,HX.out⟩,by simp [intOf];omega⟩
    ·have HN2:Hid (uD [] ls 0=none):=by
      show _=_;rw [HK.out,List.drop_of_length_le (by omega)];rfl
     have HM:Hid (Calls Tryz.prog 221 #[.slice a ls.length cap] wr fun e w'=>e=.returned (.string (uH ls))∧Below wr.heap.size wr w'):=mX a cap ls wr (HF.out.later hbel) hlen;have E:=KU H16.out HN.out HN2.out;have HEM:Hid (ByteArray.empty.toList=[]):=by show _=_;rw [ByteArray.toList_eq];rfl
     generalize uH ls=M at *;by_cases hm:(M.toList==ByteArray.empty.toList)=true
     ·have E2:Hid (iF ls=(46,0)):=by show _=_;rw [E,if_pos hm]
      have hmb:M.toList.isEmpty=true:=by rw [HEM.out] at hm;simpa using hm
      clear hm E;go_wp2_with fail;refine HM.out.mono ?_;rintro e w1 ⟨rfl,hb1⟩;have HB1:Hid _:=rA hbel hb1;clear hb1;go_wp2;go_ret2;exact ⟨aCs (by rw [E2.out]) (by rw [E2.out]),HB1.out⟩
     ·have E2:Hid (iF ls=(0,0)):=by show _=_;rw [E,if_neg hm]
      have hmb:M.toList.isEmpty=false:=by rw [HEM.out] at hm;simpa using hm
      clear hm E;go_wp2_with fail;refine HM.out.mono ?_;rintro e w1 ⟨rfl,hb1⟩;have HB1:Hid _:=rA hbel hb1;clear hb1;go_wp2;go_ret2;exact ⟨aCs (by rw [E2.out]) (by rw [E2.out]),HB1.out⟩
end Go.Proofs.YtcneojllbkacoaaGreatDoor
namespace Go.Proofs.YtcneojllbkacoaaGreatDoor
open Go.RowKit Go.Sort
def cfL (x y:zA):Int:=dS x.name y.name
theorem ltL (x y:zA):ltOf cfL x y=zJ x y:=by
 unfold ltOf cfL dS zJ;split
 ·rename_i h;rw [h];rfl
 ·rename_i h;have h':Op.bytesLess x.name.toList y.name.toList=false:=by simpa using h
  rw [h'];split<;>rfl
theorem aQk:SWO (ltOf cfL) where
 irrefl x:=by rw [ltL];exact gE _
 trans x y z h1 h2:=by rw [ltL] at *;exact eG _ _ _ h1 h2
 ntrans x y z h1 h2:=by rw [ltL] at *;exact FP (x:=z) (y:=y) (z:=x) h2 h1
theorem aAv (x y:zA) (W:World):Calls Tryz.prog 279 #[.agg #[.string x.name,.string x.value],.agg #[.string y.name,.string y.value]] W fun e w'=>e=.returned (.int .i64 (cfL x y))∧∃q os',w'=grow (W.drewN q) os':=by
 have hcon:=fun W'=>zZ x.name y.name W';unfold cfL;generalize dS x.name y.name=r at hcon ⊢;go_enter Tryz.func279,Tryz.ntmps279;go_wp2_with (go_at_call 209;refine (hcon _).mono ?_;rintro e w' ⟨rfl,rfl⟩);go_ret;exact ⟨rfl,0,_,by rw [alloc_eq_grow,alloc_eq_grow,grow_grow];rfl⟩
section
variable [Inhabited zA]
theorem SK (blk off size:Nat) (w:World):CmpLays Tryz.prog 279 #[] wN 2 cfL blk off size w:=
 fun _ _ _ _ x y=>aAv x y _
theorem aAx {w:World}{g n:Nat}{cur:Array Value}{t:TypeId} (h:lA w g cur t) (d:Array zA) (os:Array Obj):∃cur',lA (sortWorldK wN 2 w g 0 n d os) g cur' t:=by
 have hg:=aA h;refine ⟨putCells id 0 (flatK wN 2 d) cur,?_⟩;unfold lA sortWorldK putRowK putRow mapBlock;rw [heap_grow_old _ _ (by simpa [ahead] using hg)];show (Array.modify w.heap g _)[g]?=_;rw [Array.getElem?_modify,if_pos rfl];unfold lA at h;rw [h];rfl
theorem aAw {w:World}{g n B:Nat} (hB:B≤g) (hg:g<w.heap.size) (d:Array zA) (os:Array Obj):Below B w (sortWorldK wN 2 w g 0 n d os):=by
 refine ⟨rfl,rfl,rfl,?_,fun k hk=>?_⟩
 ·simp [sortWorldK,putRowK,putRow,mapBlock]
 ·unfold sortWorldK putRowK putRow mapBlock;rw [heap_grow_old _ _ (by simp;omega)];show (Array.modify w.heap g _)[k]?=_;rw [Array.getElem?_modify,if_neg (by omega)]
theorem TR {w:World}{g:Nat}{cur:Array Value}{t:TypeId}{ls:List zA} (h:lA w g cur t) (hl:bP w g 0 ls):HoldsK wN 2 w g 0 ls.toArray:=by
 intro j hj;rw [size_flatK] at hj;have hj2:j / 2<ls.length:=by simp at hj;omega
 refine ⟨?_,h.free _⟩;rw [get_flatK _ _ _ _ hj];have e:ls.toArray[j / 2]! = ls[j / 2]:=by simp [getElem!_pos,hj2]
 rw [e];have hc:=hl (j / 2) hj2;rcases Nat.mod_two_eq_zero_or_one j with hm | hm
 ·rw [hm];have:=hc.1;rw [show 0+j / 2 * 2=0+j by omega] at this;rw [this];rfl
 ·rw [hm];have:=hc.2;rw [show 0+j / 2 * 2+1=0+j by omega] at this;rw [this];rfl
theorem aMk {w:World}{g B:Nat}{cur:Array Value}{t:TypeId}{d:Array zA} (h:lA w g cur t) (hB:B≤g) (hd:HoldsK wN 2 w g 0 d):pD w B (some ⟨g,0,none⟩) d.toList:=by
 refine Or.inr ⟨g,0,cur,t,rfl,hB,h,fun i hi=>?_⟩;have hi':i<d.size:=by simpa using hi
 have h0:=(hd.cell (c:=0) hi' (by omega)).1;have h1:=(hd.cell (c:=1) hi' (by omega)).1;have e:d[i]! = d[i]:=getElem!_pos d i hi';rw [e] at h0 h1;rw [Array.getElem_toList];exact ⟨h0,h1⟩
theorem WR {d:Array zA} (h:SortedIn (ltOf cfL) 0 d.size d):d.toList.Pairwise Le:=by
 rw [List.pairwise_iff_getElem];intro i j hi hj hij;have hj':j<d.size:=by simpa using hj
 have:=h i j (Nat.zero_le _) hij hj';rw [ltL,getElem!_pos d i (by omega),getElem!_pos d j hj'] at this;rw [Array.getElem_toList,Array.getElem_toList];exact this
theorem QB (g cap:Nat) (ls:List zA) (w:World) (B:Nat) (hB:B≤g){cur:Array Value}{t:TypeId} (hb:lA w g cur t) (hl:bP w g 0 ls) (hlen:ls.length≤2000000):
 Calls Tryz.prog 278 #[.slice (some ⟨g,0,none⟩) ls.length cap,.func (.func 279) #[] #[]] w fun e w'=>
  e=.returned (.tuple #[])∧∃ls',ls'.Perm ls∧ls'.Pairwise Le∧pD w' B (some ⟨g,0,none⟩) ls'∧Below B w w':=by
 have eg:∀args w,(callFunc 279 args).run Tryz.prog w=.ok (.enter 279 args) w:=enters_of Tryz.func279 (by kernel_rfl) rfl;have hg:=aA hb;have hcon:=AnyQ.slices_SortFunc Tryz.sortL 2 Tryz.isAgg202 Tryz.sizeOf202 wN (fun _=>rfl) (fun x v hv=>by simp [wN] at hv;rcases hv with rfl | rfl<;>rfl) cfL aQk 279 #[] g 0 cap ls.toArray w eg (SK g 0 _ w) (TR hb hl) hg (by simp;omega);change Calls Tryz.prog 278 _ _ _ at hcon;refine hcon.mono ?_;rintro e w' ⟨rfl,d',n,os,hp,hs,rfl⟩;obtain ⟨hsz,_,hpp⟩:=hp;obtain ⟨cur',hb'⟩:=aAx (n:=n) hb d' os;have hd:HoldsK wN 2 (sortWorldK wN 2 w g 0 n d' os) g 0 d':=
  holdsK_grow wN 2 _ _ _ _ _ (by simpa [putRowK,putRow,mapBlock,ahead] using hg) (holdsK_putRowK wN 2 _ _ _ ls.toArray d' (holdsK_ahead wN 2 _ _ _ _ _ (TR hb hl)) hsz)
 have hsz':d'.size=ls.length:=by simpa using hsz
 refine ⟨rfl,d'.toList,?_,WR (by rw [hsz'];simpa using hs),aMk hb' hB hd,aAw hB hg d' os⟩;have e1:d'.extract 0 ls.toArray.size=d':=by rw [←hsz];simp
 have e2:ls.toArray.extract 0 ls.toArray.size=ls.toArray:=by simp
 rw [e1,e2] at hpp;exact hpp
end
end Go.Proofs.YtcneojllbkacoaaGreatDoor
namespace Go.Proofs.YtcneojllbkacoaaGreatDoor
open Go.RowKit
theorem aIw:(Tryz.prog.info? 77).map (fun i=>(i.zero,i.size,i.bytes))=some (some (.agg #[.int .i64 0,.string ByteArray.empty,.string ByteArray.empty,.int .i64 0]),4,48):=by kernel_rfl
theorem aFr (n:Nat) (hn:n≤1048576) (w:World):
 (Instr.makeSlice 51 (.int .i64 (n:Int)) (.int .i64 (n:Int))).run Tryz.prog w=.ok (.slice (some ⟨w.heap.size,0,none⟩) n n) (w.alloc (.cells (madeCells #[.int .i64 0,.string ByteArray.empty,.string ByteArray.empty,.int .i64 0] (n * 4)) 77)):=by
 obtain ⟨i,hi,hzz⟩:=Option.map_eq_some_iff.1 aIw;simp only [Prod.mk.injEq] at hzz;obtain ⟨hz,hs,hb⟩:=hzz;have hr:=run_make (P:=Tryz.prog) w 51 77 i _ Tryz.underlying51 hi hz .i64 .i64 n n (by omega) (Int.le_refl _) (by rw [hb];omega) (by omega);simp only [Int.toNat_natCast,hs] at hr;exact hr
def pP (w:World) (g n:Nat) (fs:List pC) (k:Nat):Prop:=∃cur:Array Value,w.heap[g]?=some (.cells cur 77 (0,0))∧cur.size=n * 4∧
 ∀i (h:i<fs.length),i<k→cur[i * 4]?=some (.int .i64 fs[i].kind)∧cur[i * 4+1]?=some (.string fs[i].tenant)∧cur[i * 4+2]?=some (.string fs[i].text)∧cur[i * 4+3]?=some (.int .i64 fs[i].num)
theorem pP.later {w w':World}{g n k:Nat}{fs:List pC}{B:Nat} (h:pP w g n fs k) (hb:Below B w w') (hg:g<B):pP w' g n fs k:=by
 obtain ⟨cur,h1,h2⟩:=h;exact ⟨cur,by rw [hb.block g hg];exact h1,h2⟩
theorem pP.cells {w:World}{g n k:Nat}{fs:List pC} (h:pP w g n fs k){j:Nat} (hj:j<n * 4):(∃v,w.cell? ⟨g,j,none⟩=some v)∧w.frozen? ⟨g,j,none⟩=false:=by
 obtain ⟨cur,h1,h2,_⟩:=h;refine ⟨⟨cur[j],?_⟩,frozen_of_row w g j cur _ h1⟩;rw [cell_of_row w g j cur _ _ h1];exact Array.getElem?_eq_getElem (by omega)
theorem pP.step {w:World}{g n k:Nat}{fs:List pC} (h:pP w g n fs k) (hk:k<fs.length) (hn:fs.length≤n):
 pP ((((w.setCell ⟨g,k * 4,none⟩ (.int .i64 fs[k].kind)).setCell ⟨g,k * 4+1,none⟩ (.string fs[k].tenant)).setCell ⟨g,k * 4+2,none⟩ (.string fs[k].text)).setCell ⟨g,k * 4+3,none⟩ (.int .i64 fs[k].num)) g n fs (k+1):=by
 obtain ⟨cur,h1,h2,h3⟩:=h;refine ⟨_,heap_setCell_same _ _ _ _ _ _ (heap_setCell_same _ _ _ _ _ _ (heap_setCell_same _ _ _ _ _ _ (heap_setCell_same _ _ _ _ _ _ h1))),by simp [h2],fun i hi hlt=>?_⟩;by_cases e:i=k
 ·subst e;refine ⟨?_,?_,?_,?_⟩<;>simp [Array.getElem?_setIfInBounds]<;>omega
 ·obtain ⟨a1,a2,a3,a4⟩:=h3 i hi (by omega);refine ⟨?_,?_,?_,?_⟩
  ·rw [Array.getElem?_setIfInBounds_ne (by omega),Array.getElem?_setIfInBounds_ne (by omega),Array.getElem?_setIfInBounds_ne (by omega),Array.getElem?_setIfInBounds_ne (by omega)];exact a1
  ·rw [Array.getElem?_setIfInBounds_ne (by omega),Array.getElem?_setIfInBounds_ne (by omega),Array.getElem?_setIfInBounds_ne (by omega),Array.getElem?_setIfInBounds_ne (by omega)];exact a2
  ·rw [Array.getElem?_setIfInBounds_ne (by omega),Array.getElem?_setIfInBounds_ne (by omega),Array.getElem?_setIfInBounds_ne (by omega),Array.getElem?_setIfInBounds_ne (by omega)];exact a3
  ·rw [Array.getElem?_setIfInBounds_ne (by omega),Array.getElem?_setIfInBounds_ne (by omega),Array.getElem?_setIfInBounds_ne (by omega),Array.getElem?_setIfInBounds_ne (by omega)];exact a4
theorem pP.done {w:World}{g B:Nat}{fs:List pC} (h:pP w g fs.length fs fs.length) (hB:B≤g):nQ w B (some ⟨g,0,none⟩) fs:=by
 obtain ⟨cur,h1,h2,h3⟩:=h;refine Or.inr ⟨g,0,cur,_,rfl,hB,h1,fun i hi=>?_⟩;obtain ⟨a1,a2,a3,a4⟩:=h3 i hi hi;simp only [cell_of_row w g _ cur _ _ h1,Nat.zero_add];exact ⟨a1,a2,a3,a4⟩
end Go.Proofs.YtcneojllbkacoaaGreatDoor
