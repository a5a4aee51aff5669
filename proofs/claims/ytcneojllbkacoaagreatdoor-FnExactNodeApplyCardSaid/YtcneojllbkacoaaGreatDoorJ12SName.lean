import Derived.Test.YtcneojllbkacoaaGreatDoorJ07SRune
set_option maxRecDepth 100000
set_option maxHeartbeats 1000000
namespace Go.Proofs.YtcneojllbkacoaaGreatDoor
open Go.RowKit
theorem aQ {s:ByteArray} (h:¬PJ s):cZ s=false:=decide_eq_false h
theorem LW {s:ByteArray} (h:PJ s):cZ s=true:=decide_eq_true h
theorem QD (s:ByteArray) (w:World) (hs:s.size≤maxLen):
 Calls Tryz.prog 243 #[.string s] w fun e w'=>e=.returned (.bool (cZ s))∧w'=w:=by
 unfold maxLen at hs;by_cases h1:1≤s.size∧s.size≤64
 ·have hb:mA (s.size:Int) 1 64=true:=by simp [mA];omega
  have HB:Hid (mA (s.size:Int) 1 64=true):=hb;clear hb;have h0:0<s.size:=by omega
  have h64:s.size≤64:=h1.2;have hU:s[0].toNat<256:=s[0].toNat_lt;have HE0:Hid (s[0].toNat=gB s 0):=sP s 0 h0;by_cases hd:48≤s[0].toNat∧s[0].toNat≤57
  ·have E:Hid (cZ s=false):=aQ (fun h=>by
    have:=h.2.2 0 h0;unfold iU cS at this;rw [←HE0.out] at this;omega)
   have hd1:¬((s[0].toNat:Int)<48):=by omega
   have hd2:¬((57:Int)<(s[0].toNat:Int)):=by omega
   clear hd h1;go_enter Tryz.func243,Tryz.ntmps243;go_wp2_with fail;refine (sC _ _ _ _).mono ?_;rintro e w1 ⟨rfl,hw⟩;rw [HB.out];replace hw:=hw.symm;subst hw;go_wp2;go_ret;exact ⟨jA E.out.symm,rfl⟩
  ·have HD:Hid (¬(48≤gB s 0∧gB s 0≤57)):=by show ¬_;rw [←HE0.out];exact hd
   have hd1:(s[0].toNat:Int)<48∨(57:Int)<(s[0].toNat:Int):=by omega
   clear hd h1;go_enter Tryz.func243,Tryz.ntmps243;go_wp2_with fail;refine (sC _ _ _ _).mono ?_;rintro e w1 ⟨rfl,hw⟩;rw [HB.out];replace hw:=hw.symm;subst hw;go_wp2;all_goals
    go_loop [3,4] (fun i _=>∃j:Nat,j≤s.size∧i=.int .i64 j∧Hid (∀k,k<j→iU s k)) (fun i _=>s.size - (intOf i).toNat)
    case atStart=>exact ⟨0,Nat.zero_le _,rfl,fun k hk=>absurd hk (by omega)⟩
    case round=>
     obtain ⟨j,hj,rfl,HA⟩:=hrel;by_cases hlt:j<s.size
     ·have hU2:s[j].toNat<256:=s[j].toNat_lt;have HE:Hid (s[j].toNat=gB s j):=sP s j hlt;have HD2:Hid (j=0→¬(48≤s[j].toNat∧s[j].toNat≤57)):=fun e=>by subst e;rw [HE.out];exact HD.out
      clear hd1 hU;by_cases hc:s[j].toNat=95
      ·have hcb:((s[j].toNat:Int) != 95)=false:=by simp;omega
       go_wp2;all_goals
        refine ⟨⟨j+1,by omega,by go_num,?_⟩,by simp [intOf];omega⟩;show ∀k,_;intro k hk;by_cases e:k=j
        ·subst e;unfold iU cS;rw [←HE.out];omega
        ·exact HA.out k (by omega)
      ·have hcb:((s[j].toNat:Int) != 95)=true:=by simp;omega
       go_wp2;all_goals first
        | (go_ret
           refine ⟨jA (aQ ?_).symm,rfl⟩
           intro h
           have:=h.2.2 j hlt
           unfold iU cS EH at this
           rw [←HE.out] at this
           omega)
        | (refine ⟨⟨j+1,by omega,by go_num,?_⟩,by simp [intOf];omega⟩
           show ∀k,_
           intro k hk
           by_cases e:k=j
           ·subst e
            have:=HD2.out
            unfold iU cS EH
            rw [←HE.out]
            omega
           ·exact HA.out k (by omega))
        | (exfalso;rename_i hx;simp at hx;omega)
     ·go_wp2;go_ret;exact ⟨jA (LW ⟨by omega,h64,fun i hi=>HA.out i (by omega)⟩).symm,rfl⟩
 ·have hb:mA (s.size:Int) 1 64=false:=by simp [mA];omega
  have HB:Hid (mA (s.size:Int) 1 64=false):=hb;have E:Hid (cZ s=false):=aQ (fun h=>h1 ⟨h.1,h.2.1⟩);clear hb h1;go_enter Tryz.func243,Tryz.ntmps243;go_wp2_with fail;refine (sC _ _ _ _).mono ?_;rintro e w1 ⟨rfl,hw⟩;rw [HB.out];replace hw:=hw.symm;subst hw;go_wp2;go_ret;exact ⟨jA E.out.symm,rfl⟩
end Go.Proofs.YtcneojllbkacoaaGreatDoor
