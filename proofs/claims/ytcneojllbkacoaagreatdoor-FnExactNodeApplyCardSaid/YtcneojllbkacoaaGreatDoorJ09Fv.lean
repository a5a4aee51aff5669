import Derived.Test.YtcneojllbkacoaaGreatDoorJ04StrL
set_option maxRecDepth 100000
set_option maxHeartbeats 1000000
namespace Go.Proofs.YtcneojllbkacoaaGreatDoor
open Go.RowKit
def lV (c:UInt8):Bool:=(97≤c&&c≤122) ||(48≤c&&c≤57) ||c==45||c==46
def sH (l:List UInt8):Bool:=l.all lV
def lF (s:ByteArray):Bool:=decide (1≤s.size) &&decide (s.size≤40) &&sH s.data.toList
theorem PQ (l:List UInt8) (c:UInt8):sH (l++[c])=(sH l&&lV c):=by simp [sH]
theorem VS {l:List UInt8}{k:Nat} (h:sH (l.take k)=false):sH l=false:=by
 rw [Bool.eq_false_iff] at h ⊢;intro h';apply h;simp only [sH,List.all_eq_true] at h' ⊢;intro x hx;exact h' x (List.mem_of_mem_take hx)
theorem aGi (c:UInt8):lV c=decide ((97≤(c.toNat:Int)∧(c.toNat:Int)≤122)∨(48≤(c.toNat:Int)∧(c.toNat:Int)≤57)∨(c.toNat:Int)=45∨(c.toNat:Int)=46):=by
 have e45:(c==45)=decide (c.toNat=45):=by rw [Bool.eq_iff_iff];simp [←UInt8.toNat_inj]
 have e46:(c==46)=decide (c.toNat=46):=by rw [Bool.eq_iff_iff];simp [←UInt8.toNat_inj]
 rw [Bool.eq_iff_iff];simp [lV,e45,e46,UInt8.le_iff_toNat_le];omega
theorem FL (s:ByteArray) (w:World) (hs:s.size≤maxLen):
 Calls Tryz.prog 104 #[.string s] w fun e w'=>e=.returned (.bool (lF s))∧w'=w:=by
 unfold maxLen at hs;by_cases h1:1≤s.size∧s.size≤40
 ·have hB:mA (s.size:Int) 1 40=true:=by unfold mA;simp;omega
  have HN:Hid (lF s=sH s.data.toList):=by show lF s=_;simp [lF,h1.1,h1.2]
  have hl:=h1.1;have hu:=h1.2;clear h1;go_enter Tryz.func104,Tryz.ntmps104;go_wp2_with (go_at_call 22;refine (sC _ _ _ _).mono ?_;rintro e w' ⟨rfl,rfl⟩);go_loop [3,4] (fun i _=>∃k:Nat,k≤s.size∧i=.int .i64 k∧sH (s.data.toList.take k)=true) (fun i _=>s.size - (intOf i).toNat)
  case atStart=>exact ⟨0,Nat.zero_le _,rfl,by simp [sH]⟩
  case round=>
   obtain ⟨k,hk,rfl,hok⟩:=hrel;have HOK:Hid _:=hok;clear hok hB;by_cases hlt:k<s.size
   ·have hsn:=PQ (s.data.toList.take k) s[k];rw [←iQ s k hlt,HOK.out,Bool.true_and,aGi] at hsn;have HS:Hid _:=hsn;clear hsn;go_wp2;all_goals first
     | (go_ret
        refine ⟨jA ?_,rfl⟩
        rw [HN.out]
        refine (VS (k:=k+1) ?_).symm
        rw [HS.out,decide_eq_false_iff_not]
        simp at *
        omega)
     | (refine ⟨⟨k+1,by omega,by go_num,?_⟩,by simp [intOf];omega⟩
        rw [HS.out,decide_eq_true_iff]
        simp at *
        omega)
   ·go_wp2;go_ret;exact ⟨jA (by rw [HN.out,←HOK.out,List.take_of_length_le (by simp;omega)]),rfl⟩
 ·have hB:mA (s.size:Int) 1 40=false:=by unfold mA;simp;omega
  have HN:Hid (lF s=false):=by show lF s=_;simp [lF];omega
  go_enter Tryz.func104,Tryz.ntmps104;go_wp2_with (go_at_call 22;refine (sC _ _ _ _).mono ?_;rintro e w' ⟨rfl,rfl⟩);go_ret;exact ⟨jA HN.out.symm,rfl⟩
theorem PO (c:UInt8):okM [45,46] c=lV c:=by
 have e:decide (0≤Lib.indexByte [45,46] c)=(c==45||c==46):=by
  by_cases h:c=45
  ·subst h;rfl
  ·by_cases h':c=46
   ·subst h';rfl
   ·have h1:((45:UInt8)==c)=false:=by simpa using fun e=>h e.symm
    have h2:(c==45)=false:=by simpa using h
    have h3:((46:UInt8)==c)=false:=by simpa using fun e=>h' e.symm
    have h4:(c==46)=false:=by simpa using h'
    simp [Lib.indexByte,h1,h2,h3,h4]
 rw [okM,lV,e,Bool.or_assoc (_||_)]
theorem aAe (s:ByteArray):dO s 40 ⟨#[45,46]⟩=lF s:=by
 have e:=funext PO;rw [dO,lF,sH,e];congr 2;rw [Bool.eq_iff_iff];simp;omega
theorem FI (s:ByteArray) (w:World) (hs:s.size≤maxLen):
 Calls Tryz.prog 205 #[.string s] w fun e w'=>e=.returned (.bool (lF s))∧w'=w:=by
 have H:Hid _:=fun W=>aAe s ▸ AX s 40 ⟨#[45,46]⟩ W hs;generalize lF s=R at *;go_enter Tryz.func205,Tryz.ntmps205;go_wp2_with fail;refine (H.out _).mono ?_;rintro e w' ⟨rfl,hw⟩;replace hw:=hw.symm;subst hw;go_wp2;go_ret;exact ⟨rfl,rfl⟩
def xJ (f:eA):Bool:=lF f.name&&mA f.synced 0 f.data.size
theorem aHm (b o:Nat) (f:eA) (w:World) (c0:w.cell? ⟨b,o,none⟩=some (.string f.name)) (c1:w.cell? ⟨b,o+1,none⟩=some (.string f.data)) (c2:w.cell? ⟨b,o+2,none⟩=some (.int .i64 f.synced))
 (hn:f.name.size≤maxLen):
 Calls Tryz.prog 165 #[.pointer (some ⟨b,o,none⟩)] w fun e w'=>e=.returned (.bool (xJ f))∧Below w.heap.size w w':=by
 have d0:=pA.cells c0;have d1:=pA.cells c1;have d2:=pA.cells c2;have hne:=pA.there w;have hA:=fun w'=>FI f.name w' hn;clear c0 c1 c2 hn;by_cases h1:lF f.name=true
 ·simp only [h1] at hA;have hB:=fun w'=>rD f.synced f.data.size w';have E:Hid (xJ f=mA f.synced 0 f.data.size):=by show xJ f=_;simp [xJ,h1]
  clear h1;go_enter Tryz.func165,Tryz.ntmps165;go_wp2_with fail;refine fA (by kernel_rfl) (by kernel_rfl) ?_;repeat (go_big_quiet_step (first | (go_at_call 205;exact uA (hA _)) | (go_at_call 34;exact uA (hB _))))
  refine wpQuiet_nil ?_;rintro _ ⟨x,rfl⟩;go_wp2;go_ret;exact ⟨jA E.out.symm,x.h⟩
 ·have h1':lF f.name=false:=by simpa using h1
  simp only [h1'] at hA;have E:Hid (xJ f=false):=by show xJ f=_;simp [xJ,h1']
  clear h1 h1';go_enter Tryz.func165,Tryz.ntmps165;go_wp2_with fail;refine fA (by kernel_rfl) (by kernel_rfl) ?_;repeat (go_big_quiet_step (first | (go_at_call 205;exact uA (hA _))))
  refine wpQuiet_nil ?_;rintro _ ⟨x,rfl⟩;go_wp2;go_ret;exact ⟨jA E.out.symm,x.h⟩
def iP (fs:List eA) (i:Nat):Bool:=
 match fs[i]? with
 | none=>true
 | some f=>xJ f&&(match i with
   | 0=>true
   | j+1=>match fs[j]? with
     | none=>true
     | some g=>Op.bytesLess g.name.toList f.name.toList)
def bO (fs:List eA) (k:Nat):Bool:=(List.range k).all (iP fs)
def oF (fs:List eA):Bool:=bO fs fs.length
theorem mT (fs:List eA) (k:Nat):bO fs (k+1)=(bO fs k&&iP fs k):=by simp [bO,List.range_succ]
theorem sS {fs:List eA}{k n:Nat} (h:iP fs k=false) (hk:k<n):bO fs n=false:=by
 rw [Bool.eq_false_iff];intro h';simp only [bO,List.all_eq_true,List.mem_range] at h';rw [h' k hk] at h;exact absurd h (by simp)
theorem ES (a:Option Addr) (cap:Nat) (fs:List eA) (w:World) (hf:kA w a fs) (hs:qI fs) (hlen:fs.length≤maxLen):
 Calls Tryz.prog 124 #[.slice a fs.length cap] w fun e w'=>e=.returned (.bool (decide (fs.length≤1000) &&oF fs))∧Below w.heap.size w w':=by
 unfold maxLen at hlen;by_cases h0:(1000:Int)<fs.length
 ·have E:Hid ((decide (fs.length≤1000) &&oF fs)=false):=by
   show _=_;rw [decide_eq_false (by omega)];rfl
  clear hf hs;go_enter Tryz.func124,Tryz.ntmps124;go_wp2;go_ret;exact ⟨jA E.out.symm,Below.refl _ _⟩
 have E:Hid ((decide (fs.length≤1000) &&oF fs)=bO fs fs.length):=by
  show _=_;rw [decide_eq_true (by omega)];rfl
 have HF:Hid (kA w a fs):=hf;have HS:Hid (qI fs):=hs;clear hf hs;go_enter Tryz.func124,Tryz.ntmps124;go_wp2;go_loopw [3,9] (fun _ i wr=>∃k:Nat,k≤fs.length∧i=.int .i64 k∧bO fs k=true∧Below w.heap.size w wr) (fun _ i _=>fs.length - (intOf i).toNat)
 case atStart=>exact ⟨0,Nat.zero_le _,rfl,rfl,Below.refl _ _⟩
 case round=>
  obtain ⟨k,hk,rfl,hok,hbel⟩:=hrel;have HOK:Hid (bO fs k=true):=hok;clear hok;by_cases hlt:k<fs.length
  ·obtain ⟨b,o,rfl,hb,c0,c1,c2⟩:=(HF.out.later hbel).at hlt;have hsh:=HS.out k hlt;have hV:=fun x:pA wr=>aHm b (o+k * 3) fs[k] x.w' (x.cell c0) (x.cell c1) (x.cell c2) hsh.1;have d0:=pA.cells c0;have hne:=pA.there wr;clear c0 c1 c2 hsh;by_cases hfb:xJ fs[k]=true
   ·simp only [hfb] at hV;by_cases hk0:(0:Int)<k
    ·obtain ⟨b2,o2,e2,q1,c0',q2,q3⟩:=(HF.out.later hbel).at (i:=k - 1) (by omega)
     simp only [Option.some.injEq,Addr.mk.injEq,and_true] at e2;obtain ⟨rfl,rfl⟩:=e2;have hat:iP fs k=Op.bytesLess fs[k - 1].name.toList fs[k].name.toList:=by
      obtain ⟨j,rfl⟩:∃j,k=j+1:=⟨k - 1,by omega⟩
      simp [iP,List.getElem?_eq_getElem hlt,List.getElem?_eq_getElem (show j<fs.length by omega),hfb]
     generalize fs[k - 1].name=gn at c0' hat;generalize fs[k].name=fn at d0 hat;have d0p:=pA.cells c0';have hk1:0<k:=by omega
     clear q1 q2 q3 c0' hfb;by_cases hl:Op.bytesLess gn.toList fn.toList=true
     ·have HT:Hid (bO fs (k+1)=true):=by show bO fs (k+1)=true;rw [mT,HOK.out,hat,hl];rfl
      clear hat;go_wp2_with fail;refine fA (by kernel_rfl) (by kernel_rfl) ?_;repeat (go_big_quiet_step (first | (go_at_call 165;exact oA (hV _))))
      refine wpQuiet_nil ?_;rintro _ ⟨x,rfl⟩;go_wp2;exact ⟨⟨k+1,by omega,by go_num,HT.out,hbel.trans (x.h.mono hbel.size)⟩,by simp [intOf];omega⟩
     ·have hl':Op.bytesLess gn.toList fn.toList=false:=by simpa using hl
      have HT:Hid (bO fs fs.length=false):=sS (by rw [hat];exact hl') hlt;clear hat hl;go_wp2_with fail;refine fA (by kernel_rfl) (by kernel_rfl) ?_;repeat (go_big_quiet_step (first | (go_at_call 165;exact oA (hV _))))
      refine wpQuiet_nil ?_;rintro _ ⟨x,rfl⟩;go_wp2;go_ret;exact ⟨jA (by rw [E.out,HT.out]),hbel.trans (x.h.mono hbel.size)⟩
    ·have hat:iP fs k=true:=by
      obtain rfl:k=0:=by omega
      simp [iP,List.getElem?_eq_getElem hlt,hfb]
     have HT:Hid (bO fs (k+1)=true):=by show bO fs (k+1)=true;rw [mT,HOK.out,hat];rfl
     have hk1:decide (0<k)=false:=by simp;omega
     clear hat hfb;go_wp2_with fail;refine fA (by kernel_rfl) (by kernel_rfl) ?_;repeat (go_big_quiet_step (first | (go_at_call 165;exact oA (hV _))))
     refine wpQuiet_nil ?_;rintro _ ⟨x,rfl⟩;go_wp2;exact ⟨⟨k+1,by omega,by go_num,HT.out,hbel.trans (x.h.mono hbel.size)⟩,by simp [intOf];omega⟩
   ·have hfb':xJ fs[k]=false:=by simpa using hfb
    simp only [hfb'] at hV;have hat:iP fs k=false:=by simp [iP,List.getElem?_eq_getElem hlt,hfb']
    have HT:Hid (bO fs fs.length=false):=sS hat hlt;clear hat hfb hfb';go_wp2_with fail;refine fA (by kernel_rfl) (by kernel_rfl) ?_;repeat (go_big_quiet_step (first | (go_at_call 165;exact oA (hV _))))
    refine wpQuiet_nil ?_;rintro _ ⟨x,rfl⟩;go_wp2;go_ret;exact ⟨jA (by rw [E.out,HT.out]),hbel.trans (x.h.mono hbel.size)⟩
  ·go_wp2;go_ret;have e:k=fs.length:=by omega
   exact ⟨jA (by rw [E.out,←e];exact HOK.out.symm),hbel⟩
end Go.Proofs.YtcneojllbkacoaaGreatDoor
