import Derived.Test.YtcneojllbkacoaaGreatDoorJ26KeysM
set_option maxRecDepth 100000
set_option maxHeartbeats 8000000
namespace Go.Proofs.YtcneojllbkacoaaGreatDoor
open Go.RowKit Go.Maps
theorem aAa (ms:List gA) (k:Nat) (hk:k<ms.length) (hr:oB (·.s) (ms.take (k+1))):
 DataW.put (kC ((ms.take k).map fun p=>(p.s,uF p.n))) (kL ms[k].s) (uF ms[k].n)=kC ((ms.take (k+1)).map fun p=>(p.s,uF p.n)):=by
 obtain ⟨h1,_⟩:=FD hk hr;have:=fZ (key:=fun p:gA=>p.s) (fun p=>uF p.n) ms[k] (aGv k (l:=ms.take (k+1)) hr);rw [List.take_take,Nat.min_eq_left (by omega)] at this;rw [this,h1]
theorem FQ (x:Nat) (a:Option Addr) (cap:Nat) (ms:List gA) (t:cA) (S:Nat→Prop) (M:Nat) (w0 w:World) (h:zB w S x { t with mets:=[] } M) (h0:Below w0.heap.size w0 w) (hU:wF w0) (hp:sA w0 a ms) (hS:∀g,S g→w0.heap.size≤g) (hb:∀i (h:i<ms.length),ms[i].s.size≤1000000000) (hl:ms.length≤1000000000):
 Calls Tryz.prog 148 #[.pointer (some ⟨x,0,none⟩),.slice a ms.length cap] w fun e w'=>e=.returned (.bool (oJ ms))∧(oJ ms=true→zB w' (fun g=>S g∨w.heap.size≤g) x { t with mets:=ms} M)∧dA S w w':=by
 have HI:Hid (zB w S x { t with mets:=[] } M):=h;have H0:Hid _:=h0;have HU:Hid (wF w0):=hU;have HPI:Hid (sA w0 a ms):=hp;have HSS:Hid _:=hS;have HBB:Hid _:=hb;clear h h0 hU hp hS hb;go_enter Tryz.func148,Tryz.ntmps148;go_wp2;go_loopw [5,6,9] (fun _ _ j wr=>∃k:Nat,k≤ms.length∧j=.int .i64 k∧xG (qG ms) k=true∧zB wr (fun g=>S g∨w.heap.size≤g) x { t with mets:=ms.take k} M∧dA S w wr) (fun _ _ j _=>ms.length - (intOf j).toNat)
 case atStart=>exact ⟨0,Nat.zero_le _,rfl,rfl,HI.out.keep (fun g _ hs=>⟨rfl,Or.inl hs⟩),dA.refl _ _⟩
 case round=>
  obtain ⟨k,hk,rfl,hok,hidx,htn⟩:=hrel;have HOK:Hid _:=hok;have HIX:Hid (zB wr (fun g=>S g∨w.heap.size≤g) x { t with mets:=ms.take k} M):=hidx;have HTN:Hid _:=htn;have B0:Hid _:=H0.out.trans (htn.below H0.out.size (fun k hk hs=>by have:=HSS.out k hs;omega));clear hok hidx htn;by_cases hlt:k<ms.length
  ·obtain ⟨pb,po,rfl,hpl,c0,c1⟩:=(HPI.out.later B0.out).at hlt;have HMF:Hid (qG ms k=false→oJ ms=false):=fun h=>qK h hlt;have HMA:Hid _:=pS hlt;have hsz:=HBB.out k hlt;have HPRE:Hid (0<k→∃pn:ByteArray,eI ms k=nG pn ms[k].s∧wr.cell? ⟨pb,po+(k - 1) * 2,none⟩=some (.string pn)):=fun h0=>by
    refine ⟨_,eO h0 hlt,?_⟩;obtain ⟨b',o',e,_,u0,_⟩:=(HPI.out.later B0.out).at (i:=k - 1) (by omega)
    simp only [Option.some.injEq,Addr.mk.injEq,and_true] at e;rw [e.1,e.2];exact u0
   have HPZ:Hid (k=0→eI ms k=true):=fun h0=>by subst h0;rfl
   have HMP:=aAa ms k hlt;have HTK:Hid (qG ms k=true→xG (qG ms) (k+1)=true∧oB (·.s) (ms.take (k+1))):=fun h=>by
    have h1:xG (qG ms) (k+1)=true:=by rw [xH,HOK.out,h];rfl
    exact ⟨h1,dZ h1 (by omega)⟩
   have HMPP:Hid _:=HMP;clear HMP;have HMN:Hid _:=fun W hW=>vP ms[k].s W hsz hW;generalize ms[k]=P at *;go_upto_region 4 with fail;have MBX:Hid (lA (wr.alloc (.cells #[.string P.s,.int .i64 P.n] 149)) wr.heap.size #[.string P.s,.int .i64 P.n] 149):=lA.new _ _ _;have HB6:Hid (Below wr.heap.size wr (wr.alloc (.cells #[.string P.s,.int .i64 P.n] 149))):=bA _ _;have HPR6:Hid (0<k→∃pn:ByteArray,eI ms k=nG pn P.s∧(wr.alloc (.cells #[.string P.s,.int .i64 P.n] 149)).cell? ⟨pb,po+(k - 1) * 2,none⟩=some (.string pn)):=fun h0=>by
    obtain ⟨pn,e1,e2⟩:=HPRE.out h0;exact ⟨pn,e1,((bA _ _).cell hpl).trans e2⟩
   generalize wr.alloc (.cells #[.string P.s,.int .i64 P.n] 149)=W at *;have HIW:Hid (zB W (fun g=>S g∨w.heap.size≤g) x { t with mets:=ms.take k} M):=HIX.out.later HB6.out;have HTW:Hid _:=HTN.out.trans' (dA.of HB6.out);have B0W:Hid _:=B0.out.trans (HB6.out.mono B0.out.size);generalize wr.heap.size=mb at *;clear c0 c1 HPRE hpl HIX HTN B0 HB6 wr;go_cut [38] (fun s wx=>s=.bool (!(qG ms k))∧Below W.heap.size W wx)
   case first=>
    have d0:=pA.cells (show W.cell? ⟨mb,0,none⟩=some (.string P.s) from MBX.out.cell 0);have d1:=pA.cells (show W.cell? ⟨mb,1,none⟩=some (.int .i64 P.n) from MBX.out.cell 1);have hnel:=pA.there W;have HMN2:Hid (∀x:pA W,Calls Tryz.prog 187 #[.string P.s] x.w' fun e w'=>e=.returned (.bool (oD P.s))∧Below x.w'.heap.size x.w' w'):=fun x=>HMN.out _ (HU.out.later (B0W.out.trans (x.h.mono B0W.out.size)));have HLI:Hid _:=fun W=>yD P.n W;clear HMN;by_cases h0:(0:Int)<k
    ·have h0':0<k:=by omega
     obtain ⟨pn,hp,cp⟩:=HPR6.out h0';have d3:=pA.cells cp;by_cases hb:Op.bytesLess pn.toList P.s.toList=true
     ·have HPT:Hid (eI ms k=true):=by show _=_;rw [hp];exact hb
      clear cp hp;by_cases f1:oD P.s=false
      ·have HV:Hid (qG ms k=false):=by show _=_;rw [HMA.out,f1];simp
       rw [f1] at HMN2;clear f1;refine fA (by kernel_rfl) (by kernel_rfl) ?_;repeat (go_big_quiet_step (first | (go_at_call 187;exact oA (HMN2.out _)) | (go_at_call 65;exact uA (HLI.out _))))
       refine wpQuiet_nil ?_;rintro _ ⟨x,rfl⟩;go_wp2_with fail;go_meet;exact ⟨by rw [HV.out];rfl,x.h⟩
      have f1':oD P.s=true:=by simpa using f1
      rw [f1'] at HMN2 HMA;clear f1 f1';by_cases f2:mA P.n 0 1000000=false
      ·have HV:Hid (qG ms k=false):=by show _=_;rw [HMA.out,f2];simp
       rw [f2] at HLI;clear f2;refine fA (by kernel_rfl) (by kernel_rfl) ?_;repeat (go_big_quiet_step (first | (go_at_call 187;exact oA (HMN2.out _)) | (go_at_call 65;exact uA (HLI.out _))))
       refine wpQuiet_nil ?_;rintro _ ⟨x,rfl⟩;go_wp2_with fail;go_meet;exact ⟨by rw [HV.out];rfl,x.h⟩
      have f2':mA P.n 0 1000000=true:=by simpa using f2
      have HV:Hid (qG ms k=true):=by show _=_;rw [HMA.out,f2',HPT.out];rfl
      rw [f2'] at HLI;clear f2 f2';refine fA (by kernel_rfl) (by kernel_rfl) ?_;repeat (go_big_quiet_step (first | (go_at_call 187;exact oA (HMN2.out _)) | (go_at_call 65;exact uA (HLI.out _))))
      refine wpQuiet_nil ?_;rintro _ ⟨x,rfl⟩;go_wp2_with fail;go_meet;exact ⟨by rw [HV.out];rfl,x.h⟩
     ·have hb':Op.bytesLess pn.toList P.s.toList=false:=by simpa using hb
      have HV:Hid (qG ms k=false):=by show _=_;rw [HMA.out,hp,nG,hb'];simp
      clear cp hp hb;refine fA (by kernel_rfl) (by kernel_rfl) ?_;repeat (go_big_quiet_step (first | (go_at_call 187;exact oA (HMN2.out _)) | (go_at_call 65;exact uA (HLI.out _))))
      refine wpQuiet_nil ?_;rintro _ ⟨x,rfl⟩;go_wp2_with fail;go_meet;exact ⟨by rw [HV.out];rfl,x.h⟩
    ·have hd:decide ((0:Int)<k)=false:=by simpa using h0
     have hd':decide (0<k)=false:=by simp;omega
     have HPT:Hid _:=HPZ.out (by omega);by_cases f1:oD P.s=false
     ·have HV:Hid (qG ms k=false):=by show _=_;rw [HMA.out,f1];simp
      rw [f1] at HMN2;clear f1;refine fA (by kernel_rfl) (by kernel_rfl) ?_;repeat (go_big_quiet_step (first | (go_at_call 187;exact oA (HMN2.out _)) | (go_at_call 65;exact uA (HLI.out _))))
      refine wpQuiet_nil ?_;rintro _ ⟨x,rfl⟩;go_wp2_with fail;go_meet;exact ⟨by rw [HV.out];rfl,x.h⟩
     have f1':oD P.s=true:=by simpa using f1
     rw [f1'] at HMN2 HMA;clear f1 f1';by_cases f2:mA P.n 0 1000000=false
     ·have HV:Hid (qG ms k=false):=by show _=_;rw [HMA.out,f2];simp
      rw [f2] at HLI;clear f2;refine fA (by kernel_rfl) (by kernel_rfl) ?_;repeat (go_big_quiet_step (first | (go_at_call 187;exact oA (HMN2.out _)) | (go_at_call 65;exact uA (HLI.out _))))
      refine wpQuiet_nil ?_;rintro _ ⟨x,rfl⟩;go_wp2_with fail;go_meet;exact ⟨by rw [HV.out];rfl,x.h⟩
     have f2':mA P.n 0 1000000=true:=by simpa using f2
     have HV:Hid (qG ms k=true):=by show _=_;rw [HMA.out,f2',HPT.out];rfl
     rw [f2'] at HLI;clear f2 f2';refine fA (by kernel_rfl) (by kernel_rfl) ?_;repeat (go_big_quiet_step (first | (go_at_call 187;exact oA (HMN2.out _)) | (go_at_call 65;exact uA (HLI.out _))))
     refine wpQuiet_nil ?_;rintro _ ⟨x,rfl⟩;go_wp2_with fail;go_meet;exact ⟨by rw [HV.out];rfl,x.h⟩
   obtain ⟨rfl,hb7⟩:=hcut;rename World=>w7;have MB7:Hid (lA w7 mb #[.string P.s,.int .i64 P.n] 149):=MBX.out.later hb7;have HI7:Hid (zB w7 (fun g=>S g∨w.heap.size≤g) x { t with mets:=ms.take k} M):=HIW.out.later hb7;have HT7:Hid _:=HTW.out.trans' (dA.of hb7);clear hb7 MBX HIW HTW B0W HPR6 HMN;by_cases f4:qG ms k=false
   ·have HF4:Hid _:=HMF.out f4;rw [f4];clear f4;go_wp2;go_ret;exact ⟨jA HF4.out.symm,fun h=>absurd h (by rw [HF4.out];simp),HT7.out⟩
   ·have f4':qG ms k=true:=by simpa using f4
    obtain ⟨g1,g2⟩:=HTK.out f4';have hbn:mA P.n 0 1000000=true:=by
     have:=HMA.out;rw [f4'] at this;cases hb:mA P.n 0 1000000 with
     | true=>rfl
     | false=>rw [hb] at this;simp at this
    obtain ⟨hbn0,hbn1⟩:=yH hbn;have G1:Hid _:=g1;have hput:=HMPP.out g2;rw [f4'];clear f4 f4' g1 HMF HMA HPZ HTK HMPP;obtain ⟨lm,sm,cm,iv,Q,hs,D,hI⟩:=HI7.out;have hkey:keyOf Tryz.prog 9 (.string P.s)=some (kL P.s):=uI (by unfold maxLen;omega);obtain ⟨w8,run8,own8,gr8⟩:=hI.lims.drew.update zG Tryz.underlying223 (by simp only [List.length_take];unfold maxLen;omega) (val:=.int .i64 P.n) hkey (plainElem_int Tryz.underlying3 (WalkArith.wf_i64 (by omega)));have x0:w7.cell? ⟨x,1,none⟩=some (.map (some lm)):=hI.blk.cell 1;have x1:w7.cell? ⟨mb,0,none⟩=some (.string P.s):=MB7.out.cell 0;have x2:w7.cell? ⟨mb,1,none⟩=some (.int .i64 P.n):=MB7.out.cell 1;go_wp2_with fail;go_region
    have ht8:dA (·=lm) w7 w8:=(dA.grown (a:=w7) ⟨gr8.os,gr8.tape,gr8.output,gr8.size,gr8.block⟩).mono fun i _ e=>by simp only [Option.some.injEq] at e;exact e.symm
    have HN:Hid (zB w8 (fun g=>S g∨w.heap.size≤g) x { t with mets:=ms.take (k+1) } M):=hI.newLims ht8 own8 hput g2;have HT8:Hid _:=HT7.out.trans (ht8.mono fun i _ e=>by subst e;exact hI.sl);clear hI own8 gr8 ht8 hput g2 x0 x1 x2 run8 hbn;go_wp2;exact ⟨⟨k+1,by omega,by go_num,G1.out,HN.out,HT8.out⟩,by simp [intOf];omega⟩
  ·have ek:k=ms.length:=by omega
   have HEND:Hid (oJ ms=true):=by have:=HOK.out;rw [ek] at this;exact this
   have HIE:Hid (zB wr (fun g=>S g∨w.heap.size≤g) x { t with mets:=ms} M):=by have:=HIX.out;rw [ek,List.take_length] at this;exact this
   clear ek;go_wp2;go_ret;exact ⟨jA HEND.out.symm,fun _=>HIE.out,HTN.out⟩
theorem aFy (ls:List zA) (h:∀l∈ls,l.value.size≤1000000):(uH ls).size≤1000000:=by
 induction ls with
 | nil=>simp [uH]
 | cons l r ih=>
   rw [uH];split
   ·exact h l (List.mem_cons_self ..)
   ·exact ih fun q hq=>h q (List.mem_cons_of_mem _ hq)
theorem kN (s:ByteArray):(bC s).size≤maxLen:=by
 have h:∀l∈(zD s).1,l.value.size≤1000000:=fun l hl=>by
  cases hd:(zD s).2 with
  | false=>rw [(CY hd).1] at hl;simp at hl
  | true=>
    obtain ⟨i,hi,rfl⟩:=List.getElem_of_mem hl;have:=(fT (NZ hd).1 i hi).2;omega
 have:=aFy _ h;unfold bC maxLen;omega
def yP (c:eC) (now:Int) (m:Nat):Array Value:=#[.int .i64 c.w,.int .i64 c.tl,.int .i64 c.ml,.int .i64 c.sh,.int .i64 c.ha,.int .i64 c.sg,.int .i64 now,.map (some m)]
theorem AJ (l m:Nat) (c:eC) (now:Int) (w:World) (h:lA w l (yP c now m) 168) (h0:0≤now) (h1:now≤1000000000000) (hw0:1≤c.w) (hw1:c.w≤1000000000):
 Calls Tryz.prog 189 #[.pointer (some ⟨l,0,none⟩)] w fun e w'=>e=.returned (.int .i64 (now - c.w))∧Below w.heap.size w w':=by
 have x0:w.cell? ⟨l,6,none⟩=some (.int .i64 now):=h.cell 6;have x1:w.cell? ⟨l,0,none⟩=some (.int .i64 c.w):=h.cell 0;clear h;go_enter Tryz.func189,Tryz.ntmps189;go_wp2_with fail;go_quiet (fail)
 go_wp2;go_ret;exact ⟨rfl,below_drewN (Below.refl _ _) _⟩
theorem FR (l m x:Nat) (a:Option Addr) (cap:Nat) (xs:List gA) (t:cA) (c:eC) (now:Int) (S:Nat→Prop) (M:Nat) (w0 w:World) (hl:lA w l (yP c now m) 168) (hSl:¬S l) (h:zB w S x { t with sers:=[] } M) (h0:Below w0.heap.size w0 w) (hU:wF w0) (hp:sA w0 a xs) (hS:∀g,S g→w0.heap.size≤g)
 (hb:∀i (h:i<xs.length),xs[i].s.size≤1000000000) (hlen:xs.length≤500000000) (hM:M≤500000000) (h1:0≤now) (h2:now≤1000000000000) (hw0:1≤c.w) (hw1:c.w≤1000000000):
 Calls Tryz.prog 149 #[.pointer (some ⟨l,0,none⟩),.pointer (some ⟨x,0,none⟩),.slice a xs.length cap] w fun e w'=>e=.returned (.bool (zI c.w now xs))∧(zI c.w now xs=true→zB w' (fun g=>S g∨w.heap.size≤g) x { t with sers:=xs} (M+xs.length))∧dA S w w':=by
 have HLB:Hid (lA w l (yP c now m) 168):=hl;have HSL:Hid (¬S l):=hSl;have HI:Hid (zB w S x { t with sers:=[] } M):=h;have H0:Hid _:=h0;have HU:Hid (wF w0):=hU;have HPI:Hid (sA w0 a xs):=hp;have HSS:Hid _:=hS;have HBB:Hid _:=hb;clear h h0 hU hp hS hb hl hSl;go_enter Tryz.func149,Tryz.ntmps149;go_wp2;go_loopw [7,8,9,12] (fun _ _ _ j wr=>∃k:Nat,k≤xs.length∧j=.int .i64 k∧xG (sF c.w now xs) k=true∧zB wr (fun g=>S g∨w.heap.size≤g) x { t with sers:=xs.take k} (M+k)∧dA S w wr) (fun _ _ _ j _=>xs.length - (intOf j).toNat)
 case atStart=>exact ⟨0,Nat.zero_le _,rfl,rfl,HI.out.keep (fun g _ hs=>⟨rfl,Or.inl hs⟩),dA.refl _ _⟩
 case round=>
  obtain ⟨k,hk,rfl,hok,hidx,htn⟩:=hrel;have HOK:Hid _:=hok;have HIX:Hid (zB wr (fun g=>S g∨w.heap.size≤g) x { t with sers:=xs.take k} (M+k)):=hidx;have HTN:Hid _:=htn;have B0:Hid _:=H0.out.trans (htn.below H0.out.size (fun k hk hs=>by have:=HSS.out k hs;omega));clear hok hidx htn;by_cases hlt:k<xs.length
  ·obtain ⟨pb,po,rfl,hpl,c0,c1⟩:=(HPI.out.later B0.out).at hlt;have HMF:Hid (sF c.w now xs k=false→zI c.w now xs=false):=fun h=>qK h hlt;have HMA:Hid (sF c.w now xs k=(eI xs k&&yF xs[k].s&&mA xs[k].n 0 now&&decide (now - xs[k].n<c.w))):=fQ hlt;have hsz:=HBB.out k hlt;have HPRE:Hid (0<k→∃pn:ByteArray,eI xs k=nG pn xs[k].s∧wr.cell? ⟨pb,po+(k - 1) * 2,none⟩=some (.string pn)):=fun h0=>by
    refine ⟨_,eO h0 hlt,?_⟩;obtain ⟨b',o',e,_,u0,_⟩:=(HPI.out.later B0.out).at (i:=k - 1) (by omega)
    simp only [Option.some.injEq,Addr.mk.injEq,and_true] at e;rw [e.1,e.2];exact u0
   have HPZ:Hid (k=0→eI xs k=true):=fun h0=>by subst h0;rfl
   have HTK:Hid (sF c.w now xs k=true→xG (sF c.w now xs) (k+1)=true∧tA (·.s) xs[k] (xs.take k)=xs.take (k+1)∧cB (·.s) xs[k].s (xs.take k)=none):=fun h=>by
    have h1:xG (sF c.w now xs) (k+1)=true:=by rw [xH,HOK.out,h];rfl
    exact ⟨h1,FD (key:=fun p:gA=>p.s) hlt (mZ h1 (by omega))⟩
   have HLW:Hid (lA wr l (yP c now m) 168):=HTN.out.blk HLB.out HSL.out;have HMT:Hid (∀W,wF W→Calls Tryz.prog 188 #[.string xs[k].s] W fun e w'=>e=.returned (.string (bC xs[k].s))∧Below W.heap.size W w'):=fun W hW=>mS xs[k].s W hsz hW;have hms:=kN xs[k].s;have HTL:Hid ((xs.take k).length≤1000000000):=by show _≤_;rw [List.length_take];omega
   generalize xs[k]=P at *;go_upto_region 4 with fail;have MBX:Hid (lA (wr.alloc (.cells #[.string P.s,.int .i64 P.n] 151)) wr.heap.size #[.string P.s,.int .i64 P.n] 151):=lA.new _ _ _;have HB6:Hid (Below wr.heap.size wr (wr.alloc (.cells #[.string P.s,.int .i64 P.n] 151))):=bA _ _;have x0:(wr.alloc (.cells #[.string P.s,.int .i64 P.n] 151)).cell? ⟨wr.heap.size,0,none⟩=some (.string P.s):=MBX.out.cell 0;generalize wr.alloc (.cells #[.string P.s,.int .i64 P.n] 151)=W0 at *;go_wp2_with fail;refine (HMT.out _ (HU.out.later (B0.out.trans (HB6.out.mono B0.out.size)))).mono ?_;rintro e W ⟨rfl,hbW⟩;have HPR6:Hid (0<k→∃pn:ByteArray,eI xs k=nG pn P.s∧W.cell? ⟨pb,po+(k - 1) * 2,none⟩=some (.string pn)):=fun h0=>by
    obtain ⟨pn,e1,e2⟩:=HPRE.out h0;exact ⟨pn,e1,((rA HB6.out hbW).cell hpl).trans e2⟩
   have MBW:Hid (lA W wr.heap.size #[.string P.s,.int .i64 P.n] 151):=MBX.out.later hbW;have HIW:Hid (zB W (fun g=>S g∨w.heap.size≤g) x { t with sers:=xs.take k} (M+k)):=HIX.out.later (rA HB6.out hbW);have HTW:Hid _:=HTN.out.trans' (dA.of (rA HB6.out hbW));have HLX:Hid (lA W l (yP c now m) 168):=HLW.out.later (rA HB6.out hbW);generalize wr.heap.size=mb at *;clear c0 c1 HPRE hpl HIX HTN B0 HB6 hbW x0 MBX HLW HMT wr W0;go_upto_region 5 with fail;go_cut [53] (fun s wx=>s=.bool (!(sF c.w now xs k))∧Below W.heap.size W wx)
   case first=>
    have d0:=pA.cells (show W.cell? ⟨mb,0,none⟩=some (.string P.s) from MBW.out.cell 0);have d1:=pA.cells (show W.cell? ⟨mb,1,none⟩=some (.int .i64 P.n) from MBW.out.cell 1);have d2:=pA.cells (show W.cell? ⟨l,6,none⟩=some (.int .i64 now) from HLX.out.cell 6);have hnel:=pA.there W;have HLI:Hid _:=fun W=>rD P.n now W;have HEX:Hid (∀x:pA W,Calls Tryz.prog 189 #[.pointer (some ⟨l,0,none⟩)] x.w' fun e w'=>e=.returned (.int .i64 (now - c.w))∧Below x.w'.heap.size x.w' w'):=fun x=>AJ l m c now x.w' (HLX.out.later x.h) h1 h2 hw0 hw1;by_cases h0:(0:Int)<k
    ·have h0':0<k:=by omega
     obtain ⟨pn,hp,cp⟩:=HPR6.out h0';have d3:=pA.cells cp;by_cases hb:Op.bytesLess pn.toList P.s.toList=true
     ·have HPT:Hid (eI xs k=true):=by show _=_;rw [hp];exact hb
      clear cp hp;by_cases f1:(bC P.s).toList.isEmpty=true
      ·have HV:Hid (sF c.w now xs k=false):=by show _=_;rw [HMA.out,yF,f1];simp
       refine fA (by kernel_rfl) (by kernel_rfl) ?_;repeat (go_big_quiet_step (first | (go_at_call 34;exact uA (HLI.out _)) | (go_at_call 189;exact oA (HEX.out _))))
       refine wpQuiet_nil ?_;rintro _ ⟨x,rfl⟩;go_wp2_with fail;go_meet;exact ⟨by rw [HV.out];rfl,x.h⟩
      have f1':(bC P.s).toList.isEmpty=false:=by simpa using f1
      rw [yF,f1'] at HMA;clear f1;by_cases f2:mA P.n 0 now=false
      ·have HV:Hid (sF c.w now xs k=false):=by show _=_;rw [HMA.out,f2];simp
       rw [f2] at HLI;clear f2;refine fA (by kernel_rfl) (by kernel_rfl) ?_;repeat (go_big_quiet_step (first | (go_at_call 34;exact uA (HLI.out _)) | (go_at_call 189;exact oA (HEX.out _))))
       refine wpQuiet_nil ?_;rintro _ ⟨x,rfl⟩;go_wp2_with fail;go_meet;exact ⟨by rw [HV.out];rfl,x.h⟩
      have f2':mA P.n 0 now=true:=by simpa using f2
      obtain ⟨r0,r1⟩:=yH f2';rw [f2'] at HLI HMA;clear f2 f2';have HV:Hid (sF c.w now xs k=decide (now - P.n<c.w)):=by show _=_;rw [HMA.out,HPT.out];simp
      by_cases f3:P.n≤now - c.w
      ·have hx:decide (now - P.n<c.w)=false:=by simp;omega
       rw [hx] at HV;clear hx;refine fA (by kernel_rfl) (by kernel_rfl) ?_;repeat (go_big_quiet_step (first | (go_at_call 34;exact uA (HLI.out _)) | (go_at_call 189;exact oA (HEX.out _))))
       refine wpQuiet_nil ?_;rintro _ ⟨x,rfl⟩;go_wp2_with fail;go_meet;exact ⟨by rw [HV.out];rfl,x.h⟩
      have hx:decide (now - P.n<c.w)=true:=by simp;omega
      rw [hx] at HV;have hx2:decide (P.n≤now - c.w)=false:=by simpa using f3
      clear hx;refine fA (by kernel_rfl) (by kernel_rfl) ?_;repeat (go_big_quiet_step (first | (go_at_call 34;exact uA (HLI.out _)) | (go_at_call 189;exact oA (HEX.out _))))
      refine wpQuiet_nil ?_;rintro _ ⟨x,rfl⟩;go_wp2_with fail;go_meet;exact ⟨by rw [HV.out];rfl,x.h⟩
     ·have hb':Op.bytesLess pn.toList P.s.toList=false:=by simpa using hb
      have HV:Hid (sF c.w now xs k=false):=by show _=_;rw [HMA.out,hp,nG,hb'];simp
      clear cp hp hb;refine fA (by kernel_rfl) (by kernel_rfl) ?_;repeat (go_big_quiet_step (first | (go_at_call 34;exact uA (HLI.out _)) | (go_at_call 189;exact oA (HEX.out _))))
      refine wpQuiet_nil ?_;rintro _ ⟨x,rfl⟩;go_wp2_with fail;go_meet;exact ⟨by rw [HV.out];rfl,x.h⟩
    ·have hd:decide ((0:Int)<k)=false:=by simpa using h0
     have hd':decide (0<k)=false:=by simp;omega
     have HPT:Hid _:=HPZ.out (by omega);by_cases f1:(bC P.s).toList.isEmpty=true
     ·have HV:Hid (sF c.w now xs k=false):=by show _=_;rw [HMA.out,yF,f1];simp
      refine fA (by kernel_rfl) (by kernel_rfl) ?_;repeat (go_big_quiet_step (first | (go_at_call 34;exact uA (HLI.out _)) | (go_at_call 189;exact oA (HEX.out _))))
      refine wpQuiet_nil ?_;rintro _ ⟨x,rfl⟩;go_wp2_with fail;go_meet;exact ⟨by rw [HV.out];rfl,x.h⟩
     have f1':(bC P.s).toList.isEmpty=false:=by simpa using f1
     rw [yF,f1'] at HMA;clear f1;by_cases f2:mA P.n 0 now=false
     ·have HV:Hid (sF c.w now xs k=false):=by show _=_;rw [HMA.out,f2];simp
      rw [f2] at HLI;clear f2;refine fA (by kernel_rfl) (by kernel_rfl) ?_;repeat (go_big_quiet_step (first | (go_at_call 34;exact uA (HLI.out _)) | (go_at_call 189;exact oA (HEX.out _))))
      refine wpQuiet_nil ?_;rintro _ ⟨x,rfl⟩;go_wp2_with fail;go_meet;exact ⟨by rw [HV.out];rfl,x.h⟩
     have f2':mA P.n 0 now=true:=by simpa using f2
     obtain ⟨r0,r1⟩:=yH f2';rw [f2'] at HLI HMA;clear f2 f2';have HV:Hid (sF c.w now xs k=decide (now - P.n<c.w)):=by show _=_;rw [HMA.out,HPT.out];simp
     by_cases f3:P.n≤now - c.w
     ·have hx:decide (now - P.n<c.w)=false:=by simp;omega
      rw [hx] at HV;clear hx;refine fA (by kernel_rfl) (by kernel_rfl) ?_;repeat (go_big_quiet_step (first | (go_at_call 34;exact uA (HLI.out _)) | (go_at_call 189;exact oA (HEX.out _))))
      refine wpQuiet_nil ?_;rintro _ ⟨x,rfl⟩;go_wp2_with fail;go_meet;exact ⟨by rw [HV.out];rfl,x.h⟩
     have hx:decide (now - P.n<c.w)=true:=by simp;omega
     rw [hx] at HV;have hx2:decide (P.n≤now - c.w)=false:=by simpa using f3
     clear hx;refine fA (by kernel_rfl) (by kernel_rfl) ?_;repeat (go_big_quiet_step (first | (go_at_call 34;exact uA (HLI.out _)) | (go_at_call 189;exact oA (HEX.out _))))
     refine wpQuiet_nil ?_;rintro _ ⟨x,rfl⟩;go_wp2_with fail;go_meet;exact ⟨by rw [HV.out];rfl,x.h⟩
   obtain ⟨rfl,hb7⟩:=hcut;rename World=>w7;have MB7:Hid (lA w7 mb #[.string P.s,.int .i64 P.n] 151):=MBW.out.later hb7;have HI7:Hid (zB w7 (fun g=>S g∨w.heap.size≤g) x { t with sers:=xs.take k} (M+k)):=HIW.out.later hb7;have HT7:Hid _:=HTW.out.trans' (dA.of hb7);clear hb7 MBW HIW HTW HPR6 HLX;by_cases f4:sF c.w now xs k=false
   ·have HF4:Hid _:=HMF.out f4;rw [f4];clear f4;go_wp2;go_ret;exact ⟨jA HF4.out.symm,fun h=>absurd h (by rw [HF4.out];simp),HT7.out⟩
   ·have f4':sF c.w now xs k=true:=by simpa using f4
    obtain ⟨g1,g2,g3⟩:=HTK.out f4';have G1:Hid _:=g1;have G2:Hid _:=g2;have HADD:Hid (Calls Tryz.prog 190 #[.pointer (some ⟨x,0,none⟩),.string P.s,.string (bC P.s),.int .i64 P.n] w7 fun e w'=>e=.returned (.tuple #[])∧zB w' (fun g=>(S g∨w.heap.size≤g)∨w7.heap.size≤g) x { t with sers:=tA (·.s) ⟨P.s,P.n⟩ (xs.take k) } (M+k+1)∧dA (fun g=>S g∨w.heap.size≤g) w7 w'):=
     aBr x { t with sers:=xs.take k} P.s P.n _ (M+k) w7 HI7.out g3 (by unfold maxLen;omega) hms (by omega) HTL.out
    have x1:w7.cell? ⟨mb,0,none⟩=some (.string P.s):=MB7.out.cell 0;have x2:w7.cell? ⟨mb,1,none⟩=some (.int .i64 P.n):=MB7.out.cell 1;rw [f4'];clear f4 f4' g1 g2 g3 HMF HMA HPZ HTK;go_wp2_with fail;refine HADD.out.mono ?_;rintro e w8 ⟨rfl,hi8,ht8⟩;have HN:Hid (zB w8 (fun g=>S g∨w.heap.size≤g) x { t with sers:=xs.take (k+1) } (M+(k+1))):=by
     have:=hi8.keep (w':=w8) (S':=fun g=>S g∨w.heap.size≤g) (fun g _ hs=>⟨rfl,by rcases hs with hs | hs;exact hs;exact Or.inr (by have:=HT7.out.size;omega)⟩);rw [show (⟨P.s,P.n⟩:gA)=P from rfl,G2.out] at this;exact this
    have HT8:Hid _:=HT7.out.trans ht8;clear hi8 ht8 HADD x1 x2 HI7 HT7;go_wp2;exact ⟨⟨k+1,by omega,by go_num,G1.out,HN.out,HT8.out⟩,by simp [intOf];omega⟩
  ·have ek:k=xs.length:=by omega
   have HEND:Hid (zI c.w now xs=true):=by have:=HOK.out;rw [ek] at this;exact this
   have HIE:Hid (zB wr (fun g=>S g∨w.heap.size≤g) x { t with sers:=xs} (M+xs.length)):=by have:=HIX.out;rw [ek,List.take_length] at this;exact this
   clear ek;go_wp2;go_ret;exact ⟨jA HEND.out.symm,fun _=>HIE.out,HTN.out⟩
structure vI (w:World) (B:Nat) (T:Nat→Option Nat) (l m:Nat) (c:eC) (now:Int) (L:List (cA×Nat)) (M:Nat):Prop where
 blk:lA w l (yP c now m) 168
 ten:w.ownsMap Tryz.prog 9 wC m L.length (kC (L.map fun p=>(p.1.name,kD p.2)))
 rise:oB (fun p:cA×Nat=>p.1.name) L
 idx:∀p∈L,zB w (fun g=>B≤g∧T g=some p.2) p.2 p.1 M
 nd:(L.map (·.2)).Nodup
 tl:T l=none
 tm:T m=none
 lB:B≤l
 mB:B≤m
def tC (w:World) (B l m:Nat) (c:eC) (now:Int) (ts:List cA) (M:Nat):Prop:=∃T L,vI w B T l m c now L M∧L.map (·.1)=ts
theorem vI.lm {w:World}{B:Nat}{T:Nat→Option Nat}{l m:Nat}{c:eC}{now:Int}{L:List (cA×Nat)}{M:Nat} (h:vI w B T l m c now L M):m≠l:=nB h.ten h.blk
theorem vI.keep {w w':World}{B:Nat}{T:Nat→Option Nat}{l m:Nat}{c:eC}{now:Int}{L:List (cA×Nat)}{M:Nat} (h:vI w B T l m c now L M) (hk:∀g,g<w.heap.size→B≤g→w'.heap[g]?=w.heap[g]?):vI w' B T l m c now L M:=
 { h with
  blk:=(hk l (aA h.blk) h.lB).trans h.blk
  ten:=by
   have hlt:=h.ten.lt;obtain ⟨es,clock,hb,r⟩:=h.ten;exact ⟨es,clock,(hk m hlt h.mB).trans hb,r⟩
  idx:=fun p hp=>(h.idx p hp).keep fun g hg hs=>⟨hk g hg hs.1,hs⟩ }
theorem tC.later {w w':World}{B l m:Nat}{c:eC}{now:Int}{ts:List cA}{M:Nat} (h:tC w B l m c now ts M) (hb:Below w.heap.size w w'):tC w' B l m c now ts M:=by
 obtain ⟨T,L,h,e⟩:=h;exact ⟨T,L,h.keep fun g hg _=>hb.block g hg,e⟩
theorem zq {w w1 w2 w3 w5:World}{B:Nat}{T:Nat→Option Nat}{l m x n:Nat}{c:eC}{now:Int}{L:List (cA×Nat)}{M M':Nat}{t:cA} (h:vI w B T l m c now L M) (hB:B≤w.heap.size) (hnew:cB (fun p:cA×Nat=>p.1.name) t.name L=none)
 (b1:Below w.heap.size w w1) (b2:Below w1.heap.size w1 w2) (hx:w1.heap.size≤x) (t3:dA (·=m) w2 w3) (own3:w3.ownsMap Tryz.prog 9 wC m n (DataW.put (kC (L.map fun p=>(p.1.name,kD p.2))) (kL t.name) (kD x)))
 (t5:dA (fun g=>w1.heap.size≤g) w3 w5) (hi5:zB w5 (fun g=>w1.heap.size≤g) x t M') (hM:M'≤M):
 tC w5 B l m c now ((tA (fun p:cA×Nat=>p.1.name) (t,x) L).map (·.1)) M:=by
 have hl:=aA h.blk;have hm:=h.ten.lt;have h1:=b1.size;have h2:=b2.size;have h3:=t3.size;have hmem:∀p,p∈tA (fun p:cA×Nat=>p.1.name) (t,x) L→p=(t,x)∨p∈L:=fun p hp=>pH hp;have hperm:=zY (key:=fun p:cA×Nat=>p.1.name) (a:=(t,x)) hnew;have hblk:∀g,g<w.heap.size→g≠m→w5.heap[g]?=w.heap[g]?:=fun g hg hne=>by
  rw [t5.block g (by omega) (by omega),t3.block g (by omega) hne,b2.block g (by omega),b1.block g hg]
 have hput:DataW.put (kC (L.map fun p=>(p.1.name,kD p.2))) (kL t.name) (kD x)=kC ((tA (fun p:cA×Nat=>p.1.name) (t,x) L).map fun p=>(p.1.name,kD p.2)):=
  fZ (key:=fun p:cA×Nat=>p.1.name) (fun p=>kD p.2) (t,x) h.rise
 refine ⟨fun g=>if g<w.heap.size then T g else some x,_,?_,rfl⟩;exact {
  blk:=(hblk l hl h.lm.symm).trans h.blk
  ten:=by
   have:=II (t5.map own3 (by omega));rw [hput,oI] at this;exact this
  rise:=dH h.rise
  idx:=fun p hp=>by
   rcases hmem p hp with rfl | hp
   ·refine (hi5.mono hM).keep fun g _ hs=>⟨rfl,by omega,?_⟩
    show (if g<w.heap.size then T g else some x)=some x;rw [if_neg (by omega)]
   ·refine (h.idx p hp).keep fun g hg hs=>⟨hblk g hg (fun e=>by rw [e,h.tm] at hs;cases hs.2),hs.1,?_⟩
    show (if g<w.heap.size then T g else some x)=_;rw [if_pos hg];exact hs.2
  nd:=by
   rw [(hperm.map _).nodup_iff,List.map_cons,List.nodup_cons];refine ⟨fun hq=>?_,h.nd⟩;obtain ⟨p,hp,e⟩:=List.mem_map.1 hq;have:=(h.idx p hp).lt;simp only at e;omega
  tl:=by show (if l<w.heap.size then T l else _)=none;rw [if_pos hl];exact h.tl
  tm:=by show (if m<w.heap.size then T m else _)=none;rw [if_pos hm];exact h.tm
  lB:=h.lB
  mB:=h.mB}
theorem aEs {L:List (cA×Nat)}{k:ByteArray} (h:cB (·.name) k (L.map (·.1))=none):cB (fun p:cA×Nat=>p.1.name) k L=none:=by
 have:=wK (key:=fun p:cA×Nat=>p.1.name) (key':=fun t:cA=>t.name) (fun p=>p.1) (fun _=>rfl) k L;rw [h] at this;cases hg:cB (fun p:cA×Nat=>p.1.name) k L with
 | none=>rfl
 | some q=>rw [hg] at this;cases this
theorem aJn (l m:Nat) (t:cA) (a1 a2:Option Addr) (c1 c2:Nat) (c:eC) (now:Int) (ts:List cA) (M:Nat) (w0 w:World) (h:tC w w0.heap.size l m c now ts M) (h0:Below w0.heap.size w0 w) (hU:wF w0) (p1:sA w0 a1 t.mets) (p2:sA w0 a2 t.sers)
 (hnew:cB (·.name) t.name ts=none) (hn:t.name.size≤maxLen) (hb1:∀i (h:i<t.mets.length),t.mets[i].s.size≤1000000000) (hb2:∀i (h:i<t.sers.length),t.sers[i].s.size≤1000000000) (hl1:t.mets.length≤500000000) (hl2:t.sers.length≤500000000) (hLL:ts.length≤1000000000) (hM:t.sers.length≤M)
 (hn0:0≤now) (hn1:now≤1000000000000) (hw0:1≤c.w) (hw1:c.w≤1000000000):
 Calls Tryz.prog 111 #[.pointer (some ⟨l,0,none⟩),.agg #[.string t.name,.int .i64 t.limit,.slice a1 t.mets.length c1,.slice a2 t.sers.length c2]] w fun e w'=>e=.returned (.bool (qM c.w now t))∧
  (qM c.w now t=true→tC w' w0.heap.size l m c now (tA (·.name) t ts) M)∧dA (·=m) w w':=by
 obtain ⟨T,L,h,hL⟩:=h;have HTB:Hid (qM c.w now t=(dC t.name&&mA t.limit (-1) 1000000&&oJ t.mets&&zI c.w now t.sers&&!dD t)):=rfl;have HNM:Hid _:=fun W=>xK t.name W hn;by_cases e1:dC t.name=false
 ·rw [e1] at HNM HTB;clear h;go_enter Tryz.func111,Tryz.ntmps111;go_wp2_with fail;refine (HNM.out _).mono ?_;rintro e w1 ⟨rfl,hw⟩;replace hw:=hw.symm;subst hw;go_wp2;go_ret;exact ⟨jA (by rw [HTB.out];simp),fun h=>absurd h (by rw [HTB.out];simp),dA.of (bA _ _)⟩
 have e1':dC t.name=true:=by simpa using e1
 rw [e1'] at HNM HTB;clear e1 e1';have HLM:Hid _:=fun W=>tO t.limit W;by_cases e2:mA t.limit (-1) 1000000=false
 ·rw [e2] at HLM HTB;clear h;go_enter Tryz.func111,Tryz.ntmps111;go_wp2_with fail;refine (HNM.out _).mono ?_;rintro e w1 ⟨rfl,hw⟩;replace hw:=hw.symm;subst hw;go_wp2_with fail;refine (HLM.out _).mono ?_;rintro e w1 ⟨rfl,hw⟩;replace hw:=hw.symm;subst hw;go_wp2;go_ret;exact ⟨jA (by rw [HTB.out];simp),fun h=>absurd h (by rw [HTB.out];simp),dA.of (bA _ _)⟩
 have e2':mA t.limit (-1) 1000000=true:=by simpa using e2
 rw [e2'] at HLM HTB;clear e2 e2';have HH:Hid _:=h;have hml:=h.ten.lt;have hll:=aA h.blk;have hw0l:=h0.size;have HLE:Hid _:=hL;have hLn:L.length=ts.length:=by rw [←hL,List.length_map]
 have HGN:Hid _:=aEs (by rw [hL];exact hnew);have HK:Hid _:=uI hn;have HNI:Hid _:=fun W=>nX t.limit t.name W;have HLL:Hid (∀(S:Nat→Prop) (x:Nat) (W:World),zB W S x ⟨t.name,t.limit,[],[]⟩ 0→Below w0.heap.size w0 W→(∀g,S g→w0.heap.size≤g)→Calls Tryz.prog 148 #[.pointer (some ⟨x,0,none⟩),.slice a1 t.mets.length c1] W fun e w'=>e=.returned (.bool (oJ t.mets))∧(oJ t.mets=true→zB w' (fun g=>S g∨W.heap.size≤g) x ⟨t.name,t.limit,t.mets,[]⟩ 0)∧dA S W w'):=
  fun S x W hi hb hs=>FQ x a1 c1 t.mets ⟨t.name,t.limit,[],[]⟩ S 0 w0 W hi hb hU p1 hs hb1 (by omega)
 have HSS:Hid (∀(S:Nat→Prop) (x:Nat) (W:World),zB W S x ⟨t.name,t.limit,t.mets,[]⟩ 0→Below w0.heap.size w0 W→(∀g,S g→w0.heap.size≤g)→lA W l (yP c now m) 168→¬S l→Calls Tryz.prog 149 #[.pointer (some ⟨l,0,none⟩),.pointer (some ⟨x,0,none⟩),.slice a2 t.sers.length c2] W fun e w'=>e=.returned (.bool (zI c.w now t.sers))∧(zI c.w now t.sers=true→zB w' (fun g=>S g∨W.heap.size≤g) x ⟨t.name,t.limit,t.mets,t.sers⟩ (0+t.sers.length))∧dA S W w'):=
  fun S x W hi hb hs hbl hsl=>FR l m x a2 c2 t.sers ⟨t.name,t.limit,t.mets,[]⟩ c now S 0 w0 W hbl hsl hi hb hU p2 hs hb2 hl2 (by omega) hn0 hn1 hw0 hw1
 have H0:Hid _:=h0;clear h p1 p2 hnew hn hb1 hb2 hl1 hl2 hL h0 hU;go_enter Tryz.func111,Tryz.ntmps111;go_wp2_with fail;refine (HNM.out _).mono ?_;rintro e w1 ⟨rfl,hw⟩;replace hw:=hw.symm;subst hw;go_wp2_with fail;refine (HLM.out _).mono ?_;rintro e w1 ⟨rfl,hw⟩;replace hw:=hw.symm;subst hw;go_wp2_with fail;have B1:Hid (Below w.heap.size w (w.alloc (.cells #[.string t.name,.int .i64 t.limit,.slice a1 t.mets.length c1,.slice a2 t.sers.length c2] 95))):=bA _ _;have X1:Hid (lA (w.alloc (.cells #[.string t.name,.int .i64 t.limit,.slice a1 t.mets.length c1,.slice a2 t.sers.length c2] 95)) w.heap.size #[.string t.name,.int .i64 t.limit,.slice a1 t.mets.length c1,.slice a2 t.sers.length c2] 95):=lA.new _ _ _;have hz1:w.heap.size<(w.alloc (.cells #[.string t.name,.int .i64 t.limit,.slice a1 t.mets.length c1,.slice a2 t.sers.length c2] 95)).heap.size:=by simp
 generalize w.alloc (.cells #[.string t.name,.int .i64 t.limit,.slice a1 t.mets.length c1,.slice a2 t.sers.length c2] 95)=w1 at *;refine (HNI.out w1).mono ?_;rintro e w2 ⟨x,rfl,hx,hi2,hb2⟩;have B2:Hid _:=hb2;have b12:=rA B1.out hb2;have X2:Hid (lA w2 w.heap.size #[.string t.name,.int .i64 t.limit,.slice a1 t.mets.length c1,.slice a2 t.sers.length c2] 95):=X1.out.later hb2;have L2:Hid (lA w2 l (yP c now m) 168):=HH.out.blk.later b12;have ten2:=(dA.of (S:=fun _=>False) b12).map HH.out.ten (fun e=>e);obtain ⟨w3,run3,own3,gr3⟩:=ten2.drew.update zG Tryz.underlying166 (by unfold maxLen;omega) HK.out (dL x);have t3:dA (·=m) w2 w3:=(dA.grown (a:=w2) ⟨gr3.os,gr3.tape,gr3.output,gr3.size,gr3.block⟩).mono fun i _ e=>by simp only [Option.some.injEq] at e;exact e.symm
 have T3:Hid _:=t3;have OWN3:Hid (w3.ownsMap Tryz.prog 9 wC m (L.length+1) (DataW.put (kC (L.map fun p=>(p.1.name,kD p.2))) (kL t.name) (kD x))):=own3;have HI3:Hid (zB w3 (fun g=>w1.heap.size≤g) x ⟨t.name,t.limit,[],[]⟩ 0):=hi2.keep fun g hg hs=>⟨t3.block g hg (by omega),hs⟩
 have hmb:=HH.out.mB;have hlb:=HH.out.lB;have B3:Hid _:=(H0.out.trans (b12.mono hw0l)).trans (t3.below (by have:=b12.size;omega) (fun k hk=>by omega));have X3:Hid (lA w3 w.heap.size #[.string t.name,.int .i64 t.limit,.slice a1 t.mets.length c1,.slice a2 t.sers.length c2] 95):=t3.blk X2.out (by omega);have L3:Hid (lA w3 l (yP c now m) 168):=t3.blk L2.out HH.out.lm.symm;have x0:w2.cell? ⟨l,7,none⟩=some (.map (some m)):=L2.out.cell 7;have x1:w2.cell? ⟨w.heap.size,0,none⟩=some (.string t.name):=X2.out.cell 0;have hz2:=hb2.size;have hz3:=t3.size;have TW3:Hid _:=(dA.of b12).trans' t3;clear hb2 b12 ten2 own3 gr3 t3 hi2 X1 X2 L2 HNI HNM HLM;go_upto_region 4 with fail;go_cut [25] (fun _ wx=>wx=w3)
 case first=>
  go_region
  go_wp2_with fail;go_meet;exact rfl
 subst hcut;clear run3 x0 x1;have y0:wc.cell? ⟨w.heap.size,2,none⟩=some (.slice a1 t.mets.length c1):=X3.out.cell 2;go_wp2_with fail;refine (HLL.out _ x wc HI3.out B3.out (fun g hg=>by omega)).mono ?_;rintro e w4 ⟨rfl,hi4,t4⟩;have HI4:Hid _:=hi4;have T4:Hid _:=t4;have TW4:Hid _:=TW3.out.trans (t4.mono fun i _ e=>Or.inr (by omega));have X4:Hid (lA w4 w.heap.size #[.string t.name,.int .i64 t.limit,.slice a1 t.mets.length c1,.slice a2 t.sers.length c2] 95):=t4.blk X3.out (by omega);have L4:Hid (lA w4 l (yP c now m) 168):=t4.blk L3.out (by omega);have B4:Hid _:=B3.out.trans (t4.below (by omega) (fun k hk=>by omega));clear hi4 t4 y0 HLL X3 L3 HI3 B3 TW3;by_cases e3:oJ t.mets=false
 ·rw [e3] at HTB ⊢;go_wp2;go_ret;exact ⟨jA (by rw [HTB.out];simp),fun h=>absurd h (by rw [HTB.out];simp),TW4.out⟩
 have e3':oJ t.mets=true:=by simpa using e3
 have HI4':Hid (zB w4 (fun g=>w1.heap.size≤g) x ⟨t.name,t.limit,t.mets,[]⟩ 0):=(HI4.out e3').keep fun g _ hs=>⟨rfl,by rcases hs with hs | hs<;>omega⟩
 rw [e3'] at HTB ⊢;clear e3 e3' HI4;have y1:w4.cell? ⟨w.heap.size,3,none⟩=some (.slice a2 t.sers.length c2):=X4.out.cell 3;go_wp2_with fail;refine (HSS.out _ x w4 HI4'.out B4.out (fun g hg=>by omega) L4.out (by omega)).mono ?_;rintro e w5 ⟨rfl,hi5,t5⟩;have TW5:Hid _:=TW4.out.trans (t5.mono fun i _ e=>Or.inr (by omega));have hz4:=T4.out.size;by_cases e4:zI c.w now t.sers=false
 ·rw [e4] at HTB ⊢;clear hi5 t5;go_wp2;go_ret;exact ⟨jA (by rw [HTB.out];simp),fun h=>absurd h (by rw [HTB.out];simp),TW5.out⟩
 have e4':zI c.w now t.sers=true:=by simpa using e4
 have HI5:Hid (zB w5 (fun g=>w1.heap.size≤g) x t t.sers.length):=by
  have:=(hi5 e4').keep (w':=w5) (S':=fun g=>w1.heap.size≤g) fun g _ hs=>⟨rfl,by rcases hs with hs | hs<;>omega⟩
  rw [Nat.zero_add] at this;exact this
 have T35:Hid _:=T4.out.trans' t5;rw [e4'] at HTB ⊢;have HEND:Hid (tC w5 w0.heap.size l m c now (tA (·.name) t ts) M):=by
  have:=zq HH.out hw0l HGN.out B1.out B2.out hx T3.out OWN3.out T35.out HI5.out hM;rw [oH (key':=fun t:cA=>t.name) (fun p:cA×Nat=>p.1) (fun _=>rfl),HLE.out] at this;exact this
 clear e4 e4' hi5 t5 T35 T4 HSS HI4' B4 L4 X4 TW4 y1 OWN3 T3 HH;have HID:Hid (Calls Tryz.prog 150 #[.pointer (some ⟨x,0,none⟩)] w5 fun e w'=>e=.returned (.bool (dD t))∧w'=w5):=xW x t _ _ w5 HI5.out;go_wp2_with fail;refine HID.out.mono ?_;rintro e w6 ⟨rfl,hw⟩;replace hw:=hw.symm;subst hw;clear HID HI5;cases iA:dD t with
 | true=>
   rw [iA] at HTB;go_wp2;go_ret;exact ⟨jA (by rw [HTB.out];rfl),fun h=>absurd h (by rw [HTB.out];simp),TW5.out⟩
 | false=>
   rw [iA] at HTB;go_wp2;go_ret;exact ⟨jA (by rw [HTB.out];rfl),fun _=>HEND.out,TW5.out⟩
theorem tC.base {w:World}{B B' l m:Nat}{c:eC}{now:Int}{ts:List cA}{M:Nat} (h:tC w B l m c now ts M) (hB:B'≤B):tC w B' l m c now ts M:=by
 obtain ⟨T,L,h,e⟩:=h;refine ⟨T,L,{ h with idx:=fun p hp=>(h.idx p hp).keep fun g _ hs=>⟨rfl,Nat.le_trans hB hs.1,hs.2⟩,lB:=Nat.le_trans hB h.lB,mB:=Nat.le_trans hB h.mB},e⟩
def aNz (ts:List cA) (M:Nat):Prop:=∀i (h:i<ts.length),ts[i].name.size≤maxLen∧(∀j (h':j<ts[i].mets.length),ts[i].mets[j].s.size≤1000000000)∧(∀j (h':j<ts[i].sers.length),ts[i].sers[j].s.size≤1000000000)∧ts[i].mets.length≤500000000∧ts[i].sers.length≤500000000∧ts[i].sers.length≤M
def aBp (c:eC) (now:Int) (ts:List cA) (M:Nat) (w:World) (e:Ending) (w':World):Prop:=
 (vB c now ts=false∧e=.returned (.tuple #[.pointer none,.bool false])∧Below w.heap.size w w')∨
 (vB c now ts=true∧∃l m,e=.returned (.tuple #[.pointer (some ⟨l,0,none⟩),.bool true])∧w.heap.size≤l∧tC w' w.heap.size l m c now ts M∧Below w.heap.size w w')
theorem aJz (c:eC) (now:Int) (a:Option Addr) (cap:Nat) (ts:List cA) (M:Nat) (w:World) (hf:pB w a ts) (hfit:aNz ts M) (hlen:ts.length≤1000000000) (hU:wF w):
 Calls Tryz.prog 68 #[wG c,.agg #[.int .i64 now,.slice a ts.length cap]] w fun e w'=>aBp c now ts M w e w':=by
 have HC:Hid _:=fun W=>AR c W;have HSB:Hid (vB c now ts=(jH c&&mA now 0 1000000000000&&decide (ts.length≤10000) &&iK c.w now ts)):=rfl;have HF:Hid (pB w a ts):=hf;have HB:Hid (aNz ts M):=hfit;have HU:Hid (wF w):=hU;have HWI:Hid _:=fun W=>rD now 1000000000000 W;have HCW:Hid (jH c=true→1≤c.w∧c.w≤1000000000):=fun h=>by
  have:mA c.w 1 1000000000=true:=by
   cases hb:mA c.w 1 1000000000 with
   | true=>rfl
   | false=>rw [jH,hb] at h;simp at h
  exact yH this
 clear hf hfit hU;unfold wG at *;by_cases g0:jH c=false
 ·rw [g0] at HC HSB;go_enter Tryz.func68,Tryz.ntmps68;go_wp2_with fail;refine (HC.out _).mono ?_;rintro e w1 ⟨rfl,hb1⟩;go_wp2;go_ret2;exact Or.inl ⟨by rw [HSB.out];simp,rfl,rA (rA (bA _ _) (bA _ _)) hb1⟩
 have g0':jH c=true:=by simpa using g0
 obtain ⟨hw0,hw1⟩:=HCW.out g0';rw [g0'] at HC HSB;clear g0 g0' HCW;by_cases g1:mA now 0 1000000000000=false
 ·rw [g1] at HSB HWI;clear g1;go_enter Tryz.func68,Tryz.ntmps68;go_wp2_with fail;refine (HC.out _).mono ?_;rintro e w1 ⟨rfl,hb1⟩;have B1:Hid _:=rA (rA (bA _ _) (bA _ _)) hb1;have S1:Hid _:=iA (by have:=(lA.new (w.alloc (.cells #[.int .i64 c.w,.int .i64 c.tl,.int .i64 c.ml,.int .i64 c.sh,.int .i64 c.ha,.int .i64 c.sg] 48)) #[.int .i64 now,.slice a ts.length cap] 43).later hb1;simpa using this);have s0:w1.cell? ⟨w.heap.size+1,0,none⟩=some (.int .i64 now):=S1.out.cell 0;clear hb1;go_wp2_with fail;refine (HWI.out _).mono ?_;rintro e w2 ⟨rfl,hw⟩;replace hw:=hw.symm;subst hw;go_wp2;go_ret2;exact Or.inl ⟨by rw [HSB.out];simp,rfl,B1.out⟩
 have g1':mA now 0 1000000000000=true:=by simpa using g1
 obtain ⟨hn0,hn1⟩:=yH g1';rw [g1'] at HSB HWI;clear g1 g1';by_cases g2:(10000:Int)<ts.length
 ·have e2:decide (ts.length≤10000)=false:=by simp;omega
  rw [e2] at HSB;go_enter Tryz.func68,Tryz.ntmps68;go_wp2_with fail;refine (HC.out _).mono ?_;rintro e w1 ⟨rfl,hb1⟩;have B1:Hid _:=rA (rA (bA _ _) (bA _ _)) hb1;have S1:Hid _:=iA (by have:=(lA.new (w.alloc (.cells #[.int .i64 c.w,.int .i64 c.tl,.int .i64 c.ml,.int .i64 c.sh,.int .i64 c.ha,.int .i64 c.sg] 48)) #[.int .i64 now,.slice a ts.length cap] 43).later hb1;simpa using this);have s0:w1.cell? ⟨w.heap.size+1,0,none⟩=some (.int .i64 now):=S1.out.cell 0;have s1:w1.cell? ⟨w.heap.size+1,1,none⟩=some (.slice a ts.length cap):=S1.out.cell 1;clear hb1;go_wp2_with fail;refine (HWI.out _).mono ?_;rintro e w2 ⟨rfl,hw⟩;replace hw:=hw.symm;subst hw;go_wp2;go_ret2;exact Or.inl ⟨by rw [HSB.out];simp,rfl,B1.out⟩
 have e2:decide (ts.length≤10000)=true:=by simp;omega
 rw [e2] at HSB;clear e2;have HSB2:Hid (vB c now ts=iK c.w now ts):=by show _=_;rw [HSB.out];simp
 clear HSB;have hmm:=@run_makeMap Tryz.prog;go_enter Tryz.func68,Tryz.ntmps68;go_wp2_with fail;refine (HC.out _).mono ?_;rintro e w1 ⟨rfl,hb1⟩;have B1:Hid _:=rA (rA (bA _ _) (bA _ _)) hb1;have C1:Hid (lA w1 w.heap.size #[.int .i64 c.w,.int .i64 c.tl,.int .i64 c.ml,.int .i64 c.sh,.int .i64 c.ha,.int .i64 c.sg] 48):=iA (((lA.new _ _ _).alloc _).later hb1);have S1:Hid _:=iA (by have:=(lA.new (w.alloc (.cells #[.int .i64 c.w,.int .i64 c.tl,.int .i64 c.ml,.int .i64 c.sh,.int .i64 c.ha,.int .i64 c.sg] 48)) #[.int .i64 now,.slice a ts.length cap] 43).later hb1;simpa using this);have s0:w1.cell? ⟨w.heap.size+1,0,none⟩=some (.int .i64 now):=S1.out.cell 0;have s1:w1.cell? ⟨w.heap.size+1,1,none⟩=some (.slice a ts.length cap):=S1.out.cell 1;have k0:w1.cell? ⟨w.heap.size,0,none⟩=some (.int .i64 c.w):=C1.out.cell 0;have k1:w1.cell? ⟨w.heap.size,1,none⟩=some (.int .i64 c.tl):=C1.out.cell 1;have k2:w1.cell? ⟨w.heap.size,2,none⟩=some (.int .i64 c.ml):=C1.out.cell 2;have k3:w1.cell? ⟨w.heap.size,3,none⟩=some (.int .i64 c.sh):=C1.out.cell 3;have k4:w1.cell? ⟨w.heap.size,4,none⟩=some (.int .i64 c.ha):=C1.out.cell 4;have k5:w1.cell? ⟨w.heap.size,5,none⟩=some (.int .i64 c.sg):=C1.out.cell 5;have hs1l:=aA S1.out;clear hb1 HC;go_wp2_with fail;refine (HWI.out _).mono ?_;rintro e w2 ⟨rfl,hw⟩;replace hw:=hw.symm;subst hw;clear HWI;go_upto_region 3 with fail;go_cut [6] (fun s wx=>s=.pointer (some ⟨w1.heap.size+1,0,none⟩)∧wx=(w1.alloc (.map #[] 0)).alloc (.cells (yP c now w1.heap.size) 168))
 case first=>
  go_wp2;go_meet;exact ⟨rfl,rfl⟩
 obtain ⟨rfl,hwc⟩:=hcut;have L0:Hid (tC wc w1.heap.size (w1.heap.size+1) w1.heap.size c now (ts.take 0) M):=by
  rw [hwc];refine ⟨fun _=>none,[],?_,rfl⟩;exact {
   blk:=by have:=lA.new (w1.alloc (.map #[] 0)) (yP c now w1.heap.size) 168;simpa using this
   ten:=(World.ownsMap_made w1 _ _ _).alloc _
   rise:=List.Pairwise.nil
   idx:=fun p hp=>by cases hp
   nd:=List.nodup_nil
   tl:=rfl
   tm:=rfl
   lB:=by omega
   mB:=Nat.le_refl _}
 have BC:Hid (Below w1.heap.size w1 wc):=by rw [hwc];exact rA (bA _ _) (bA _ _)
 have s2:=(BC.out.cell hs1l).trans s1;have SC:Hid (lA wc (w.heap.size+1) #[.int .i64 now,.slice a ts.length cap] 43):=S1.out.later BC.out;have HU1:Hid (wF w1):=HU.out.later B1.out;have HF1:Hid (pB w1 a ts):=HF.out.later B1.out;clear hwc hmm s0 s1 k0 k1 k2 k3 k4 k5 C1 HU HF;go_wp2;clear s2;go_loopw [7,8,33] (fun _ _ i wr=>∃k:Nat,k≤ts.length∧i=.int .i64 k∧xG (gK c.w now ts) k=true∧tC wr w1.heap.size (w1.heap.size+1) w1.heap.size c now (ts.take k) M∧Below w1.heap.size w1 wr) (fun _ _ i _=>ts.length - (intOf i).toNat)
 case atStart=>exact ⟨0,Nat.zero_le _,rfl,rfl,L0.out,BC.out⟩
 case round=>
  obtain ⟨k,hk,rfl,hok,hled,hbel⟩:=hrel;have HOK:Hid _:=hok;have HLED:Hid (tC wr w1.heap.size (w1.heap.size+1) w1.heap.size c now (ts.take k) M):=hled;have HBEL:Hid _:=hbel;clear hok hled hbel L0 BC SC;by_cases hlt:k<ts.length
  ·obtain ⟨b,o,a1,q1,a2,q2,rfl,hbl,t0,t1,t2,t3,p1,p2⟩:=HF1.out.at hlt;obtain ⟨n1,n2,n3,n4,n5,n6⟩:=HB.out k hlt;have HAT:Hid (gK c.w now ts k=(pJ ts k&&qM c.w now ts[k])):=jQ hlt;have HFAIL:Hid (gK c.w now ts k=false→vB c now ts=false):=fun h=>by rw [HSB2.out];exact qK h hlt
   have HPRE:Hid (0<k→∃pn:ByteArray,pJ ts k=nG pn ts[k].name∧w1.cell? ⟨b,o+(k - 1) * 4,none⟩=some (.string pn)):=fun h0=>by
    refine ⟨_,cQ h0 hlt,?_⟩;obtain ⟨b',o',_,_,_,_,e,_,u0,_⟩:=HF1.out.at (i:=k - 1) (by omega)
    simp only [Option.some.injEq,Addr.mk.injEq,and_true] at e;rw [e.1,e.2];exact u0
   have HPZ:Hid (k=0→pJ ts k=true):=fun h0=>by subst h0;rfl
   have HTK:Hid (pJ ts k=true→tA (·.name) ts[k] (ts.take k)=ts.take (k+1)∧cB (·.name) ts[k].name (ts.take k)=none):=fun h=>FD (key:=fun t:cA=>t.name) hlt (by
    apply gO;intro j hj;simp only [List.length_take] at hj;by_cases e:j+1=k
    ·subst e;rw [cQ (by omega) hlt] at h;simpa using h
    ·have:=vL HOK.out (k:=j+1) (by omega);rw [jQ (by omega),Bool.and_eq_true] at this;have h1:=this.1;rw [cQ (by omega) (by omega)] at h1;simpa using h1)
   have HTL:Hid ((ts.take k).length≤1000000000):=by show _≤_;rw [List.length_take];omega
   have z0:=(HBEL.out.cell hbl).trans t0;have z1:=(HBEL.out.cell hbl).trans t1;have z2:=(HBEL.out.cell hbl).trans t2;have z3:=(HBEL.out.cell hbl).trans t3;generalize ts[k]=T at *;have HLDA:Hid (∀W,tC W w1.heap.size (w1.heap.size+1) w1.heap.size c now (ts.take k) M→Below w1.heap.size w1 W→pJ ts k=true→Calls Tryz.prog 111 #[.pointer (some ⟨w1.heap.size+1,0,none⟩),.agg #[.string T.name,.int .i64 T.limit,.slice a1 T.mets.length q1,.slice a2 T.sers.length q2]] W fun e w'=>e=.returned (.bool (qM c.w now T))∧(qM c.w now T=true→tC w' w1.heap.size (w1.heap.size+1) w1.heap.size c now (ts.take (k+1)) M)∧dA (·=w1.heap.size) W w'):=fun W hW hb hp=>by
    refine (aJn (w1.heap.size+1) w1.heap.size T a1 a2 q1 q2 c now (ts.take k) M w1 W hW hb HU1.out p1 p2 (HTK.out hp).2 n1 n2 n3 n4 n5 HTL.out n6 hn0 hn1 hw0 hw1).mono ?_;rintro e w' ⟨h1,h2,h3⟩;rw [(HTK.out hp).1] at h2;exact ⟨h1,h2,h3⟩
   have hTBG:w1.heap.size+1<wr.heap.size:=by obtain ⟨_,_,hz,_⟩:=HLED.out;exact aA hz.blk
   go_upto_region 7 with fail;have TBX:Hid (lA (wr.alloc (.cells #[.string T.name,.int .i64 T.limit,.slice a1 T.mets.length q1,.slice a2 T.sers.length q2] 95)) wr.heap.size #[.string T.name,.int .i64 T.limit,.slice a1 T.mets.length q1,.slice a2 T.sers.length q2] 95):=lA.new _ _ _;have HB2:Hid (Below w1.heap.size w1 (wr.alloc (.cells #[.string T.name,.int .i64 T.limit,.slice a1 T.mets.length q1,.slice a2 T.sers.length q2] 95))):=HBEL.out.trans ((bA _ _).mono HBEL.out.size);have HL2:Hid (tC (wr.alloc (.cells #[.string T.name,.int .i64 T.limit,.slice a1 T.mets.length q1,.slice a2 T.sers.length q2] 95)) w1.heap.size (w1.heap.size+1) w1.heap.size c now (ts.take k) M):=HLED.out.later (bA _ _);generalize wr.alloc (.cells #[.string T.name,.int .i64 T.limit,.slice a1 T.mets.length q1,.slice a2 T.sers.length q2] 95)=W at *;generalize wr.heap.size=tb at *;have x0:W.cell? ⟨w.heap.size+1,1,none⟩=some (.slice (some ⟨b,o,none⟩) ts.length cap):=(HB2.out.cell hs1l).trans (S1.out.cell 1);have x1:W.cell? ⟨tb,0,none⟩=some (.string T.name):=TBX.out.cell 0;have x2:W.cell? ⟨tb,1,none⟩=some (.int .i64 T.limit):=TBX.out.cell 1;have x3:W.cell? ⟨tb,2,none⟩=some (.slice a1 T.mets.length q1):=TBX.out.cell 2;have x4:W.cell? ⟨tb,3,none⟩=some (.slice a2 T.sers.length q2):=TBX.out.cell 3;have HPR2:Hid (0<k→∃pn:ByteArray,pJ ts k=nG pn T.name∧W.cell? ⟨b,o+(k - 1) * 4,none⟩=some (.string pn)):=fun h0=>by
    obtain ⟨pn,e1,e2⟩:=HPRE.out h0;exact ⟨pn,e1,(HB2.out.cell hbl).trans e2⟩
   have HLD0:Hid _:=fun hp W' hW=>HLDA.out W' (HL2.out.later hW) (HB2.out.trans (hW.mono HB2.out.size)) hp;have hTBL:=aA TBX.out;have hTB1:=hTBG;have hWs:=HB2.out.size;have HBT:Hid (∀w',dA (·=w1.heap.size) W w'→Below w1.heap.size w1 w'):=fun w' hw=>HB2.out.trans (hw.below hWs (fun k hk=>by omega));clear z0 z1 z2 z3 t0 t1 t2 t3 p1 p2 HPRE HLDA HLED HBEL TBX wr;go_cut [57] (fun s wx=>s=.bool (!(gK c.w now ts k))∧(gK c.w now ts k=true→tC wx w1.heap.size (w1.heap.size+1) w1.heap.size c now (ts.take (k+1)) M)∧Below w1.heap.size w1 wx)
   case first=>
    by_cases h0:(0:Int)<k
    ·have h0':0<k:=by omega
     obtain ⟨pn,hp,cp⟩:=HPR2.out h0';obtain ⟨j,hj⟩:∃j,j=k - 1:=⟨_,rfl⟩
     rw [←hj] at cp;have hi0:IntKind.i64.wrap ((k:Int) - 1)=(j:Int):=by
      have:(k:Int) - 1=(j:Int):=by omega
      rw [this];simp only [IntKind.wrap,IntKind.bits,IntKind.signed];simp;omega
     have hi1:(j:Int)<ts.length:=by omega
     have hi2:j<ts.length:=by omega
     clear hj;by_cases hb:Op.bytesLess pn.toList T.name.toList=true
     ·have hpt:pJ ts k=true:=by rw [hp];exact hb
      have HLD:=iA (HLD0.out hpt);have HV:Hid (gK c.w now ts k=qM c.w now T):=by show _=_;rw [HAT.out,hpt,Bool.true_and]
      clear hp hpt;have HKS:Hid (∀w',dA (·=w1.heap.size) W w'→w'.cell? ⟨w.heap.size+1,1,none⟩=some (.slice (some ⟨b,o,none⟩) ts.length cap)∧w'.cell? ⟨b,o+j * 4,none⟩=some (.string pn)∧w'.cell? ⟨tb,0,none⟩=some (.string T.name)∧w'.cell? ⟨tb,1,none⟩=some (.int .i64 T.limit)∧w'.cell? ⟨tb,2,none⟩=some (.slice a1 T.mets.length q1)∧w'.cell? ⟨tb,3,none⟩=some (.slice a2 T.sers.length q2)):=fun w' hw=>by
       have hg:∀g,g<W.heap.size→g≠w1.heap.size→∀q,w'.cell? ⟨g,q,none⟩=W.cell? ⟨g,q,none⟩:=fun g h1 h2 q=>World.cell?_of_block (hw.block g h1 h2);exact ⟨(hg _ (by omega) (by omega) _).trans x0,(hg _ (by omega) (by omega) _).trans cp,(hg _ hTBL (by omega) _).trans x1,(hg _ hTBL (by omega) _).trans x2,(hg _ hTBL (by omega) _).trans x3,(hg _ hTBL (by omega) _).trans x4⟩
      go_region_held3 (fun w'=>w'.cell? ⟨w.heap.size+1,1,none⟩=some (.slice (some ⟨b,o,none⟩) ts.length cap)∧w'.cell? ⟨b,o+j * 4,none⟩=some (.string pn)∧w'.cell? ⟨tb,0,none⟩=some (.string T.name)∧w'.cell? ⟨tb,1,none⟩=some (.int .i64 T.limit)∧w'.cell? ⟨tb,2,none⟩=some (.slice a1 T.mets.length q1)∧w'.cell? ⟨tb,3,none⟩=some (.slice a2 T.sers.length q2))
       (first | go_keep | exact HKS.out _ hs8)
       (first | (go_at_call 111;refine (HLD.out _ (by repeat (first | with_reducible exact Below.refl _ _ | exact (Below.refl _ _).drew | with_reducible refine Below.drew ?_))).mono ?_;rintro e w8 ⟨rfl,hl8,ht8⟩;have hs8:dA (·=w1.heap.size) W w8:=(dA.refl _ _).drew.trans' ht8))
      all_goals (go_wp2_with fail;go_meet)
      all_goals exact ⟨by rw [HV.out],fun h=>by rw [HV.out] at h;exact hl8 h,HBT.out _ hs8⟩
     ·have hb':Op.bytesLess pn.toList T.name.toList=false:=by simpa using hb
      have HV:Hid (gK c.w now ts k=false):=by show _=_;rw [HAT.out,hp,nG,hb'];rfl
      clear hp hb;go_quiet (fail)
      go_wp2_with fail;go_meet;exact ⟨by rw [HV.out];rfl,fun h=>absurd h (by rw [HV.out];simp),below_drewN HB2.out _⟩
    ·have hd:decide ((0:Int)<k)=false:=by simpa using h0
     have hd':decide (0<k)=false:=by simp;omega
     have hnk:¬0<k:=by omega
     have hpt:=HPZ.out (by omega);have HLD:=iA (HLD0.out hpt);have HV:Hid (gK c.w now ts k=qM c.w now T):=by show _=_;rw [HAT.out,hpt,Bool.true_and]
     clear hpt;refine eM 17 (by kernel_rfl) (by kernel_rfl) ?_;simp only [List.take_succ_cons,List.take_zero,List.drop_succ_cons,List.drop_zero];have hnel:Nonempty Unit:=⟨()⟩
     repeat (go_big_quiet_step (fail))
     refine wpQuiet_nil ?_;go_wp2_with (first | (go_at_call 111;refine (HLD.out _ ((Below.refl _ _).drew)).mono ?_;rintro e w8 ⟨rfl,hl8,ht8⟩));go_meet;exact ⟨by rw [HV.out],fun h=>by rw [HV.out] at h;exact hl8 h,HBT.out _ ((dA.refl _ _).drew.trans' ht8)⟩
   obtain ⟨rfl,hl8,hb8⟩:=hcut;rename World=>w8;have HB8:Hid _:=hb8;by_cases f4:gK c.w now ts k=false
   ·have HF4:Hid _:=HFAIL.out f4;rw [f4];clear f4 hl8 hb8;go_wp2;go_ret2;exact Or.inl ⟨HF4.out,rfl,rA B1.out HB8.out⟩
   ·have f4':gK c.w now ts k=true:=by simpa using f4
    have HF4:Hid (xG (gK c.w now ts) (k+1)=true):=by show _=_;rw [xH,HOK.out,f4'];rfl
    have HL8:Hid (tC w8 w1.heap.size (w1.heap.size+1) w1.heap.size c now (ts.take (k+1)) M):=hl8 f4';rw [f4'];clear f4 f4' hl8 hb8;go_wp2;exact ⟨⟨k+1,by omega,by go_num,HF4.out,HL8.out,HB8.out⟩,by simp [intOf];omega⟩
  ·have ek:k=ts.length:=by omega
   have HEND:Hid (vB c now ts=true):=by show _=_;rw [HSB2.out];have:=HOK.out;rw [ek] at this;exact this
   have HLE:Hid (tC wr w1.heap.size (w1.heap.size+1) w1.heap.size c now ts M):=by have:=HLED.out;rw [ek,List.take_length] at this;exact this
   have hz:=B1.out.size;go_wp2;go_ret2;exact Or.inr ⟨HEND.out,_,_,rfl,by omega,HLE.out.base hz,rA B1.out HBEL.out⟩
theorem aM {v:Value}{g:Nat}{ps:List MemPlace} (h:wC v=some (kD g,ps)):v=.pointer (some ⟨g,0,none⟩):=by
 unfold wC at h;split at h
 ·rename_i g';simp only [Option.some.injEq,Prod.mk.injEq,kD,DataW.lit.injEq,Lit.int.injEq,true_and] at h;have:=h.1;have:g'=g:=by omega
  rw [this]
 ·simp [kD] at h
 ·cases h
theorem BF {v:Value}{ps:List MemPlace} (h:wC v=some (DataW.nil,ps)):v=.pointer none:=by
 unfold wC at h;split at h
 ·simp [kD] at h
 ·rfl
 ·cases h
theorem aNq (w:World):(zeroValue 178).run Tryz.prog w=.ok (.pointer none) w:=by kernel_rfl
def MW (L:List (cA×Nat)) (tenant:ByteArray) (w:World) (e:Ending) (w':World):Prop:=
 (∃p,cB (fun p:cA×Nat=>p.1.name) tenant L=some p∧e=.returned (.tuple #[.pointer (some ⟨p.2,0,none⟩),.bool true])∧w'=w)∨
 (cB (fun p:cA×Nat=>p.1.name) tenant L=none∧∃x,e=.returned (.tuple #[.pointer (some ⟨x,0,none⟩),.bool false])∧w.heap.size≤x∧zB w' (fun g=>w.heap.size≤g) x ⟨tenant,-1,[],[]⟩ 0∧Below w.heap.size w w')
theorem TH (l m:Nat) (tenant:ByteArray) (c:eC) (now:Int) (B:Nat) (T:Nat→Option Nat) (L:List (cA×Nat)) (M:Nat) (w:World) (h:vI w B T l m c now L M) (hn:tenant.size≤maxLen):
 Calls Tryz.prog 191 #[.pointer (some ⟨l,0,none⟩),.string tenant] w fun e w'=>MW L tenant w e w':=by
 have x0:w.cell? ⟨l,7,none⟩=some (.map (some m)):=h.blk.cell 7;obtain ⟨v,ps,hrun,hv⟩:=h.ten.look_ok zG Tryz.underlying166 (aNq w) (zd:=.nil) (zp:=[]) rfl (uI hn);rw [OL,sN (key:=fun p:cA×Nat=>p.1.name) (fun p=>kD p.2)] at *;clear h;cases hg:cB (fun p:cA×Nat=>p.1.name) tenant L with
 | some p=>
   rw [hg] at hrun hv;have hve:=aM hv;subst hve;have HG:Hid _:=hg;clear hg hv;simp only [Option.isSome_some] at hrun;go_enter Tryz.func191,Tryz.ntmps191;go_wp2;go_ret2;exact Or.inl ⟨p,HG.out,rfl,rfl⟩
 | none=>
   rw [hg] at hrun hv;have hve:=BF hv;subst hve;have HG:Hid _:=hg;clear hg hv;simp only [Option.isSome_none] at hrun;have HNI:Hid _:=fun W=>nX (-1) tenant W;go_enter Tryz.func191,Tryz.ntmps191;go_wp2_with fail;refine (HNI.out _).mono ?_;rintro e w1 ⟨x,rfl,hx,hi,hb⟩;have HI:=iA hi;clear hi HNI;go_wp2;go_ret2;exact Or.inr ⟨HG.out,x,rfl,hx,HI.out,hb⟩
theorem BA (l m x:Nat) (c:eC) (now:Int) (t:cA) (S:Nat→Prop) (M:Nat) (w:World) (hl:lA w l (yP c now m) 168) (h:zB w S x t M):
 Calls Tryz.prog 192 #[.pointer (some ⟨l,0,none⟩),.pointer (some ⟨x,0,none⟩)] w fun e w'=>e=.returned (.int .i64 (if t.limit = -1 then c.tl else t.limit))∧w'=w:=by
 obtain ⟨lm,sm,cm,iv,Q,hs,D,h⟩:=h;have c0:w.cell? ⟨x,0,none⟩=some (.int .i64 t.limit):=h.blk.cell 0;have c1:w.cell? ⟨l,1,none⟩=some (.int .i64 c.tl):=hl.cell 1;clear h hl;by_cases hd:t.limit = -1
 ·rw [if_pos hd];go_enter Tryz.func192,Tryz.ntmps192;go_wp2;go_ret;exact ⟨rfl,rfl⟩
 ·rw [if_neg hd];go_enter Tryz.func192,Tryz.ntmps192;go_wp2;go_ret;exact ⟨rfl,rfl⟩
theorem aJo {w:World}{lm:Nat}{ms:List gA} (h:w.ownsMap Tryz.prog 9 (plainElem Tryz.prog 3) lm ms.length (kC (ms.map fun p=>(p.s,uF p.n)))){m:ByteArray} (hm:m.size≤maxLen):
 ∃v:Int,(Instr.lookup 223 (.map (some lm)) (.string m) true).run Tryz.prog w=.ok (.tuple #[.int .i64 v,.bool (cB (·.s) m ms).isSome]) w∧∀p,cB (·.s) m ms=some p→v=p.n:=by
 obtain ⟨v,ps,hrun,hv⟩:=h.look_ok zG Tryz.underlying223 (DC w) (zd:=uF 0) (zp:=[]) (plainElem_int Tryz.underlying3 (by decide)) (uI hm);rw [OL (key:=fun p:gA=>p.s) (val:=fun p=>uF p.n)] at hrun;obtain ⟨a,rfl,ha,_⟩:=plainElem_int_inv Tryz.underlying3 hv;refine ⟨a,hrun,fun p hp=>?_⟩;rw [sN (key:=fun p:gA=>p.s) (fun p=>uF p.n),hp] at ha;simp [uF] at ha;exact ha.1.symm
theorem lX (l m x:Nat) (c:eC) (now:Int) (t:cA) (S:Nat→Prop) (M:Nat) (met:ByteArray) (w:World) (hl:lA w l (yP c now m) 168) (h:zB w S x t M) (hm:met.size≤maxLen):
 Calls Tryz.prog 194 #[.pointer (some ⟨l,0,none⟩),.pointer (some ⟨x,0,none⟩),.string met] w fun e w'=>e=.returned (.int .i64 (iE t.mets met c.ml))∧w'=w:=by
 obtain ⟨lm,sm,cm,iv,Q,hs,D,h⟩:=h;have c0:w.cell? ⟨x,1,none⟩=some (.map (some lm)):=h.blk.cell 1;have c1:w.cell? ⟨l,2,none⟩=some (.int .i64 c.ml):=hl.cell 2;obtain ⟨v,hrun,hv⟩:=aJo h.lims hm;have HV:Hid _:=aFx h.rm met c.ml;clear h hl;cases hg:cB (fun p:gA=>p.s) met t.mets with
 | some p=>
   rw [hg] at hrun HV;have hvp:=hv p hg;subst hvp;simp only [Option.isSome_some] at hrun;clear hv hg;go_enter Tryz.func194,Tryz.ntmps194;go_wp2;go_ret;exact ⟨jB (by rw [HV.out];rfl),rfl⟩
 | none=>
   rw [hg] at hrun HV;simp only [Option.isSome_none] at hrun;clear hv hg;go_enter Tryz.func194,Tryz.ntmps194;go_wp2;go_ret;exact ⟨jB (by rw [HV.out];rfl),rfl⟩
end Go.Proofs.YtcneojllbkacoaaGreatDoor
