import Derived.Test.YtkmdbpaeeagccaaGreatDoorProg
import Derived.Test.YtkmdbpaeeagccaaGreatDoorJ04Cfg
import Derived.Test.YtkmdbpaeeagccaaGreatDoorJ07Shelf
import Derived.Test.YtkmdbpaeeagccaaGreatDoorJ03SNum
import Derived.Test.YtkmdbpaeeagccaaGreatDoorJ01Own
import Derived.Shelf.Unicode.DecodeAny
import Derived.Laws.RangeAny
import Derived.Deep.AppendLies
namespace Go.Proofs.YtkmdbpaeeagccaaGreatDoor
open Go.RowKit
def okM (marks : List UInt8) (c : UInt8) : Bool:=(97 ≤ c && c ≤ 122) || (48 ≤ c && c ≤ 57) || decide (0 ≤ Lib.indexByte marks c)
def plainB (s : ByteArray) (most : Int) (marks : ByteArray) : Bool:=decide (1 ≤ s.size) && decide ((s.size : Int) ≤ most) && s.data.toList.all (okM marks.data.toList)
theorem index_any (mk : ByteArray) (c : UInt8) (w : World) : Calls Tryz.prog 119 #[.string mk,.int .u8 (c.toNat : Int)] w fun e w'=>e = .returned (.int .i64 (Lib.indexByte mk.data.toList c)) ∧ w' = w:=by
  have:=Tryz.strings_IndexByte mk (c.toNat : Int) w
  simpa using this
theorem all_take_succ {s : ByteArray} {f : UInt8 → Bool} {k : Nat} (h : k < s.size) : (s.data.toList.take (k + 1)).all f = ((s.data.toList.take k).all f && f s[k]):=by
  rw [take_snoc s k h]; simp
theorem all_not {l : List UInt8} {f : UInt8 → Bool} {k : Nat} (h : (l.take k).all f = false) : l.all f = false:=by
  rw [Bool.eq_false_iff] at h ⊢
  intro h'
  apply h
  simp only [List.all_eq_true] at h' ⊢
  exact fun x hx=>h' x (List.mem_of_mem_take hx)
theorem letter_eq (c : UInt8) : (97 ≤ c && c ≤ 122) = decide (97 ≤ (c.toNat : Int) ∧ (c.toNat : Int) ≤ 122):=by rw [Bool.eq_iff_iff]; simp [UInt8.le_iff_toNat_le]; omega
theorem digit_eq (c : UInt8) : (48 ≤ c && c ≤ 57) = decide (48 ≤ (c.toNat : Int) ∧ (c.toNat : Int) ≤ 57):=by rw [Bool.eq_iff_iff]; simp [UInt8.le_iff_toNat_le]; omega
set_option maxRecDepth 100000 in
set_option maxHeartbeats 2000000 in
theorem isPlain_any (s : ByteArray) (most : Int) (mk : ByteArray) (w : World) (hs : s.size ≤ maxLen) :
    Calls Tryz.prog 94 #[.string s,.int .i64 most,.string mk] w fun e w'=>e = .returned (.bool (plainB s most mk)) ∧ w' = w:=by
  unfold maxLen at hs
  by_cases h0 : (s.size : Int) < 1
  · have HN : Hid (plainB s most mk = false):=by show _ = _; simp [plainB]; omega
    go_enter Tryz.func94,Tryz.ntmps94
    go_wp2
    go_ret
    exact ⟨ret_bool HN.out.symm,rfl⟩
  by_cases h1 : most < (s.size : Int)
  · have HN : Hid (plainB s most mk = false):=by
      show _ = _
      have : decide ((s.size : Int) ≤ most) = false:=by simp; omega
      simp [plainB,this]
    go_enter Tryz.func94,Tryz.ntmps94
    go_wp2
    go_ret
    exact ⟨ret_bool HN.out.symm,rfl⟩
  have HN : Hid (plainB s most mk = s.data.toList.all (okM mk.data.toList)):=by
    show _ = _
    have e1 : 1 ≤ s.size:=by omega
    have e2 : (s.size : Int) ≤ most:=by omega
    simp [plainB,e1,e2]
  go_enter Tryz.func94,Tryz.ntmps94
  go_wp2
  go_loop [7,8,20] (fun _ _ i=>∃ k : Nat,k ≤ s.size ∧ i = .int .i64 k ∧ (s.data.toList.take k).all (okM mk.data.toList) = true) (fun _ _ i=>s.size - (intOf i).toNat)
  case atStart=>exact ⟨0,Nat.zero_le _,rfl,by simp⟩
  case round =>
    obtain ⟨k,hk,rfl,hok⟩:=hrel
    have HOK : Hid ((s.data.toList.take k).all (okM mk.data.toList) = true):=hok
    clear hok
    by_cases hlt : k < s.size
    · have hsn:=all_take_succ (f:=okM mk.data.toList) hlt
      rw [HOK.out,Bool.true_and,okM,letter_eq,digit_eq] at hsn
      have HS : Hid ((s.data.toList.take (k + 1)).all (okM mk.data.toList) = (decide (97 ≤ (s[k].toNat : Int) ∧ (s[k].toNat : Int) ≤ 122) || decide (48 ≤ (s[k].toNat : Int) ∧ (s[k].toNat : Int) ≤ 57) || decide (0 ≤ Lib.indexByte mk.data.toList s[k]))):=hsn
      clear hsn
      have HX:=fun W=>index_any mk s[k] W
      generalize Lib.indexByte mk.data.toList s[k] = ix at *
      have HXX : Hid (∀ W,Calls Tryz.prog 119 #[.string mk,.int .u8 (s[k].toNat : Int)] W fun e w'=>e = .returned (.int .i64 ix) ∧ w' = W):=HX
      clear HX
      go_wp2_with (go_at_call 119; refine (HXX.out _).mono ?_; rintro e w' ⟨rfl,rfl⟩)
      all_goals first
        | (go_ret
           refine ⟨ret_bool ?_,rfl⟩
           rw [HN.out]
           refine (all_not (k:=k + 1) ?_).symm
           rw [HS.out]
           simp at *
           omega)
        | (refine ⟨⟨k + 1,by omega,by go_num,?_⟩,by simp [intOf]; omega⟩
           rw [HS.out]
           simp at *
           omega)
    · go_wp2
      go_ret
      exact ⟨ret_bool (by rw [HN.out,← HOK.out,List.take_of_length_le (by simp; omega)]),rfl⟩
end Go.Proofs.YtkmdbpaeeagccaaGreatDoor
namespace Go.Proofs.YtkmdbpaeeagccaaGreatDoor
open Go.RowKit
theorem isControl_any (r : Nat) (w : World) (hr : r ≤ 1114111) : Calls Tryz.prog 141 #[.int .i32 (r : Nat)] w fun e w'=>e = .returned (.bool (ctl r)) ∧ w' = w:=by
  by_cases h1 : r < 32
  · have E : Hid (ctl r = true):=by show _ = _; simp [ctl,h1]
    go_enter Tryz.func141,Tryz.ntmps141
    go_wp2
    go_ret
    exact ⟨ret_bool (by rw [E.out]),rfl⟩
  by_cases h2 : 127 ≤ r
  · by_cases h3 : r ≤ 159
    · have E : Hid (ctl r = true):=by show _ = _; simp [ctl,h2,h3]
      go_enter Tryz.func141,Tryz.ntmps141
      go_wp2
      go_ret
      exact ⟨ret_bool (by rw [E.out]; simp; omega),rfl⟩
    · have E : Hid (ctl r = false):=by show _ = _; simp [ctl,h1,h3]
      go_enter Tryz.func141,Tryz.ntmps141
      go_wp2
      go_ret
      exact ⟨ret_bool (by rw [E.out]; simp; omega),rfl⟩
  · have E : Hid (ctl r = false):=by show _ = _; simp [ctl,h1,h2]
    go_enter Tryz.func141,Tryz.ntmps141
    go_wp2
    go_ret
    exact ⟨ret_bool (by rw [E.out]; simp; omega),rfl⟩
abbrev UTab (w : World) : Prop:=Lib.Utf8Tabs 1 2 w
theorem UTab.later {w w' : World} (h : UTab w) (hb : Below w.heap.size w w') : UTab w':=Utf8Tabs_below h hb
set_option maxRecDepth 100000 in
theorem widthAt_any (s : ByteArray) (p : Nat) (w : World) (hp : p < s.size) (hT : UTab w) :
    Calls Tryz.prog 140 #[.string s,.int .i64 (p : Nat)] w fun e w'=>e = .returned (.int .i64 ((Utf8.decode s p).2 : Nat)) ∧ Below w.heap.size w w':=by
  have hz : (s.extract p s.size).size = s.size - p:=by simp
  have e : Lib.decodeGo (s.extract p s.size) = Utf8.decode s p:=by
    rw [Lib.decodeGo,if_neg (by omega),decode_at]
  have hc : ∀ W,UTab W → Calls Tryz.prog 154 #[.string (s.extract p s.size)] W fun e w'=>e = .returned (.tuple #[.int .i32 (Utf8.decode s p).1,.int .i64 (Utf8.decode s p).2]) ∧ Below W.heap.size W w':=fun W hW=>by
    have:=Tryz.utf8_DecodeRuneInString (s.extract p s.size) W hW
    rw [e] at this
    exact this
  generalize (Utf8.decode s p).1 = R at *
  generalize (Utf8.decode s p).2 = N at *
  have HC : Hid (∀ W,UTab W → Calls Tryz.prog 154 #[.string (s.extract p s.size)] W fun e w'=>e = .returned (.tuple #[.int .i32 R,.int .i64 N]) ∧ Below W.heap.size W w'):=hc
  have HT : Hid (UTab w):=hT
  clear hc hT e hz
  go_enter Tryz.func140,Tryz.ntmps140
  go_wp2_with fail
  refine (HC.out _ HT.out).mono ?_
  rintro e w1 ⟨rfl,hb1⟩
  have HB : Hid (Below w.heap.size w w1):=hb1
  clear hb1
  go_wp2
  go_ret
  exact ⟨rfl,HB.out⟩
theorem lt_of_heap {w : World} {g : Nat} {x : Obj} (h : w.heap[g]? = some x) : g < w.heap.size:=by
  rcases Nat.lt_or_ge g w.heap.size with hlt | hge
  · exact hlt
  · rw [Array.getElem?_eq_none hge] at h; exact absurd h (by simp)
def IterAt (W : World) (B : Nat) (s : ByteArray) (p : Nat) : Prop:=W.heap[B]? = some (.stringIter s p)
def iterSet (W : World) (B : Nat) (s : ByteArray) (p : Nat) : World:={ W with heap:=W.heap.setIfInBounds B (.stringIter s p) }
theorem next_any {P : Program} (W : World) (B : Nat) (s : ByteArray) (pos : Nat) (ty : TypeId) (hB : IterAt W B s pos) (h : pos < s.size) :
    (Instr.next (.pointer (some ⟨B,0,none⟩)) true ty).run P W = .ok (.tuple #[.bool true,.int .i64 pos,.int .i32 (Utf8.decode s pos).1]) (iterSet W B s (pos + (Utf8.decode s pos).2)):=by
  unfold IterAt at hB
  simp only [Instr.next,getObj,setObj,Sem.run_bind,Sem.run,hB,Result.andThen,h,if_true]
  simp [goInt,iterSet]
theorem next_end {P : Program} (W : World) (B : Nat) (s : ByteArray) (pos : Nat) (ty : TypeId) (hB : IterAt W B s pos) (h : ¬ pos < s.size) :
    (Instr.next (.pointer (some ⟨B,0,none⟩)) true ty).run P W = .ok (.tuple #[.bool false]) W:=by
  unfold IterAt at hB
  simp [Instr.next,getObj,Sem.run,hB,h]
theorem IterAt.set {W : World} {B : Nat} {s : ByteArray} {p : Nat} (h : IterAt W B s p) (q : Nat) : IterAt (iterSet W B s q) B s q:=by
  have:=lt_of_heap h
  unfold IterAt iterSet
  simp [this]
theorem IterAt.later {W W' : World} {B : Nat} {s : ByteArray} {p : Nat} (h : IterAt W B s p) (hb : Below W.heap.size W W') : IterAt W' B s p:=(hb.block B (lt_of_heap h)).trans h
theorem iterSet_below {w W : World} {B C : Nat} (h : Below C w W) (hB : C ≤ B) (s : ByteArray) (q : Nat) : Below C w (iterSet W B s q) :=
  h.trans ⟨rfl,rfl,rfl,by simp [iterSet],fun k hk=>by simp only [iterSet]; rw [Array.getElem?_setIfInBounds_ne (by omega)]⟩
end Go.Proofs.YtkmdbpaeeagccaaGreatDoor
namespace Go.Proofs.YtkmdbpaeeagccaaGreatDoor
open Go.RowKit
set_option maxRecDepth 100000 in
set_option maxHeartbeats 2000000 in
theorem implVal_any (s : ByteArray) (w : World) (hs : s.size ≤ 1000000000) (hT : UTab w) :
    Calls Tryz.prog 120 #[.string s] w fun e w'=>e = .returned (.int .i64 (valV s : Nat)) ∧ Below w.heap.size w w':=by
  have HT : Hid (UTab w):=hT
  clear hT
  have hrg : (Instr.range 9 (.string s)).run Tryz.prog w = .ok (.pointer (some ⟨w.heap.size,0,none⟩)) (w.iter s 0):=run_range_string w 9 s Tryz.underlying9
  have HI0 : Hid (IterAt (w.iter s 0) w.heap.size s 0 ∧ Below w.heap.size w (w.iter s 0)):=⟨World.iter_heap _ _ _,bnew _ _⟩
  generalize w.iter s 0 = w0 at *
  go_enter Tryz.func120,Tryz.ntmps120
  go_wp2
  clear hrg
  go_loopw [3,4,5,6] (fun cnt con _ _ wr=>∃ (p : Nat) (acc : List Nat) (bc : Bool),p ≤ s.size ∧ acc.length ≤ p ∧ Hid (RInv s p acc ∧ bc = acc.any ctl) ∧ cnt = .int .i64 (acc.length : Nat) ∧ con = .bool bc ∧ Hid (IterAt wr w.heap.size s p ∧ Below w.heap.size w wr)) (fun _ _ _ _ wr=>s.size - wr.iterPos w.heap.size)
  case atStart =>
    exact ⟨0,[],false,Nat.zero_le _,Nat.le_refl _,⟨RInv.start s,rfl⟩,rfl,rfl,HI0.out⟩
  case round =>
    obtain ⟨p,acc,bc,hp,hac,HR,rfl,rfl,HW⟩:=hrel
    have HM : Hid (wr.iterPos w.heap.size = p):=by show _ = _; unfold World.iterPos; rw [HW.out.1]
    clear HI0
    by_cases hlt : p < s.size
    · have hnx : ∀ ty,(Instr.next (.pointer (some ⟨w.heap.size,0,none⟩)) true ty).run Tryz.prog wr = _:=fun ty=>next_any wr w.heap.size s p ty HW.out.1 hlt
      have hpos:=decode_pos s p
      have hrun:=decode_rune s p
      have HWA : Hid (∀ W,UTab W → Calls Tryz.prog 140 #[.string s,.int .i64 (p : Nat)] W fun e w'=>e = .returned (.int .i64 ((Utf8.decode s p).2 : Nat)) ∧ Below W.heap.size W w'):=fun W h=>widthAt_any s p W hlt h
      have HFIT : Hid (Utf8.decode s p ≠ (65533,1) → p + (Utf8.decode s p).2 ≤ s.size):=decode_fits s p hlt
      have HST : Hid (Utf8.decode s p ≠ (65533,1) → RInv s (p + (Utf8.decode s p).2) (acc ++ [(Utf8.decode s p).1])):=fun hd=>HR.out.1.step hlt hd
      have HBAD : Hid (Utf8.decode s p = (65533,1) → valV s = 42):=fun hd=>HR.out.1.bad hlt hd
      have HAN : Hid (∀ r,(acc ++ [r]).any ctl = (bc || ctl r)):=fun r=>by rw [List.any_append,← HR.out.2]; simp
      have HW1 : Hid (IterAt (iterSet wr w.heap.size s (p + (Utf8.decode s p).2)) w.heap.size s (p + (Utf8.decode s p).2) ∧ Below w.heap.size w (iterSet wr w.heap.size s (p + (Utf8.decode s p).2))):=⟨HW.out.1.set _,iterSet_below HW.out.2 (Nat.le_refl _) _ _⟩
      obtain ⟨R,hR⟩ : ∃ R,(Utf8.decode s p).1 = R:=⟨_,rfl⟩
      obtain ⟨N,hN⟩ : ∃ N,(Utf8.decode s p).2 = N:=⟨_,rfl⟩
      have HD : Hid (Utf8.decode s p = (R,N)):=by show _ = _; rw [← hR,← hN]
      rw [hR] at hrun hnx
      rw [hN] at hrun hnx hpos
      have HWA2 : Hid (∀ W,UTab W → Calls Tryz.prog 140 #[.string s,.int .i64 (p : Nat)] W fun e w'=>e = .returned (.int .i64 (N : Nat)) ∧ Below W.heap.size W w'):=by show ∀ _,_; rw [← hN]; exact HWA.out
      have HST2 : Hid ((R,N) ≠ (65533,1) → RInv s (p + N) (acc ++ [R]) ∧ p + N ≤ s.size):=fun h=>by
        have hd : Utf8.decode s p ≠ (65533,1):=by rw [HD.out]; exact h
        have h1:=HST.out hd
        have h2:=HFIT.out hd
        rw [hR,hN] at h1
        rw [hN] at h2
        exact ⟨h1,h2⟩
      have HW2 : Hid (IterAt (iterSet wr w.heap.size s (p + N)) w.heap.size s (p + N) ∧ Below w.heap.size w (iterSet wr w.heap.size s (p + N))):=by show _ ∧ _; rw [← hN]; exact HW1.out
      clear HWA HST HFIT HW1 hR hN HW
      obtain ⟨hr1,hr2⟩:=hrun
      generalize iterSet wr w.heap.size s (p + N) = W1 at *
      have HGO : Hid (∀ W,(R,N) ≠ (65533,1) → Below W1.heap.size W1 W → ∃ (p' : Nat) (acc' : List Nat) (bc' : Bool),p' ≤ s.size ∧ acc'.length ≤ p' ∧ Hid (RInv s p' acc' ∧ bc' = acc'.any ctl) ∧ Value.int .i64 ((acc.length : Int) + 1) = .int .i64 (acc'.length : Nat) ∧ Value.bool (bc || ctl R) = .bool bc' ∧ Hid (IterAt W w.heap.size s p' ∧ Below w.heap.size w W)):=fun W hne hb =>
        ⟨p + N,acc ++ [R],bc || ctl R,(HST2.out hne).2,(HST2.out hne).1.1,⟨(HST2.out hne).1,(HAN.out R).symm⟩,by simp,rfl,HW2.out.1.later hb,bto HW2.out.2 hb⟩
      have HME : Hid (∀ W,(R,N) ≠ (65533,1) → Below W1.heap.size W1 W → s.size - W.iterPos w.heap.size < s.size - wr.iterPos w.heap.size):=fun W hne hb=>by
        have h1 : W.iterPos w.heap.size = p + N:=by unfold World.iterPos; rw [HW2.out.1.later hb]
        rw [h1,HM.out]
        omega
      by_cases hf : R = 65533
      · have hfb : ((R : Int) == 65533) = true:=by simp; omega
        by_cases h1 : N = 1
        · have hnb : ((N : Int) == 1) = true:=by simp; omega
          have HV : Hid (valV s = 42):=HBAD.out (by rw [HD.out,hf,h1])
          clear HGO HME
          go_wp2_with fail
          refine (HWA2.out _ (HT.out.later HW2.out.2)).mono ?_
          rintro e w2 ⟨rfl,hb2⟩
          have HB2 : Hid (Below w.heap.size w w2):=bto HW2.out.2 hb2
          clear hb2
          go_wp2
          go_ret
          exact ⟨ret_int (by rw [HV.out]; rfl),HB2.out⟩
        · have hnb : ((N : Int) == 1) = false:=by simp; omega
          have hne : (R,N) ≠ (65533,1):=by simp; omega
          have HNE : Hid ((R,N) ≠ (65533,1)):=hne
          clear hne hf h1
          cases bc with
          | true =>
            go_wp2_with fail
            refine (HWA2.out _ (HT.out.later HW2.out.2)).mono ?_
            rintro e w2 ⟨rfl,hb2⟩
            have HB2 : Hid (Below W1.heap.size W1 w2):=hb2
            clear hb2
            go_wp2
            have hg:=HGO.out _ HNE.out HB2.out
            rw [Bool.true_or] at hg
            exact ⟨hg,HME.out _ HNE.out HB2.out⟩
          | false =>
            go_wp2_with fail
            refine (HWA2.out _ (HT.out.later HW2.out.2)).mono ?_
            rintro e w2 ⟨rfl,hb2⟩
            have HB2 : Hid (Below W1.heap.size W1 w2):=hb2
            clear hb2
            go_wp2_with fail
            refine (isControl_any R _ hr1).mono ?_
            rintro e w3 ⟨rfl,hw⟩
            replace hw:=hw.symm
            subst hw
            go_wp2
            have hg:=HGO.out _ HNE.out HB2.out
            rw [Bool.false_or] at hg
            exact ⟨hg,HME.out _ HNE.out HB2.out⟩
      · have hfb : ((R : Int) == 65533) = false:=by simp; omega
        have HNE : Hid ((R,N) ≠ (65533,1)):=by show _ ≠ _; simp; omega
        cases bc with
        | true =>
          go_wp2
          have hg:=HGO.out _ HNE.out (Below.refl _ _)
          rw [Bool.true_or] at hg
          exact ⟨hg,HME.out _ HNE.out (Below.refl _ _)⟩
        | false =>
          go_wp2_with fail
          refine (isControl_any R _ hr1).mono ?_
          rintro e w3 ⟨rfl,hw⟩
          replace hw:=hw.symm
          subst hw
          go_wp2
          have hg:=HGO.out _ HNE.out (Below.refl _ _)
          rw [Bool.false_or] at hg
          exact ⟨hg,HME.out _ HNE.out (Below.refl _ _)⟩
    · have hnx : ∀ ty,(Instr.next (.pointer (some ⟨w.heap.size,0,none⟩)) true ty).run Tryz.prog wr = _:=fun ty=>next_end wr w.heap.size s p ty HW.out.1 hlt
      have HV : Hid (valV s = endV acc):=HR.out.1.done (by omega)
      have HC : Hid (bc = acc.any ctl):=HR.out.2
      have HB : Hid (Below w.heap.size w wr):=HW.out.2
      clear HR HW HM
      by_cases h128 : 128 < acc.length
      · have HE2 : Hid (valV s = 43):=by show _ = _; rw [HV.out,endV,if_pos h128]
        go_wp2
        go_ret
        exact ⟨ret_int (by rw [HE2.out]; rfl),HB.out⟩
      · cases bc with
        | true =>
          have HE2 : Hid (valV s = 44):=by show _ = _; rw [HV.out,endV,if_neg h128,← HC.out]; rfl
          go_wp2
          go_ret
          exact ⟨ret_int (by rw [HE2.out]; rfl),HB.out⟩
        | false =>
          have HE2 : Hid (valV s = 0):=by show _ = _; rw [HV.out,endV,if_neg h128,← HC.out]; rfl
          go_wp2
          go_ret
          exact ⟨ret_int (by rw [HE2.out]; rfl),HB.out⟩
end Go.Proofs.YtkmdbpaeeagccaaGreatDoor
namespace Go.Proofs.YtkmdbpaeeagccaaGreatDoor
open Go.RowKit
theorem if_iff {C D : Prop} [Decidable C] [Decidable D] {α : Type} {x y : α} (h : C ↔ D) : (if C then x else y) = if D then x else y:=by
  by_cases c : C
  · rw [if_pos c,if_pos (h.1 c)]
  · rw [if_neg c,if_neg (fun d=>c (h.2 d))]
theorem ret_two {a b c d : Int} (h1 : a = c) (h2 : b = d) : Ending.returned (.tuple #[.int .i64 a,.int .i64 b]) = .returned (.tuple #[.int .i64 c,.int .i64 d]):=by rw [h1,h2]
def bitsN (t : ByteArray) (v : Nat) : Nat → Nat
  | 0=>v
  | j + 1=>bitsN t v j * 64 + byteAt t (j + 1) % 64
def runeIf (t : ByteArray) (n v least : Nat) : Nat × Nat :=
  if n ≤ t.size ∧ (∀ k,k < n → 1 ≤ k → byteAt t k / 64 = 2) ∧ least ≤ bitsN t v (n - 1) ∧ okR (bitsN t v (n - 1)) then (bitsN t v (n - 1),n) else (0,0)
theorem l3r_2 (t : ByteArray) (h : byteAt t 0 / 32 = 6) : l3r t = runeIf t 2 (byteAt t 0 % 32) 128:=by
  have h0:=byteAt_lt t 0
  rw [l3r_two t h,runeIf]
  have e : bitsN t (byteAt t 0 % 32) (2 - 1) = byteAt t 0 % 32 * 64 + byteAt t 1 % 64:=rfl
  rw [e]
  refine if_iff ?_
  constructor
  · rintro ⟨h1,h2,h3⟩
    refine ⟨h1,fun k _ _=>?_,h3,by unfold okR okRb; simp; omega⟩
    have : k = 1:=by omega
    subst this; exact h2
  · rintro ⟨h1,h2,h3,_⟩; exact ⟨h1,h2 1 (by omega) (by omega),h3⟩
theorem l3r_3 (t : ByteArray) (h : byteAt t 0 / 16 = 14) : l3r t = runeIf t 3 (byteAt t 0 % 16) 2048:=by
  rw [l3r_three t h,runeIf]
  have e : bitsN t (byteAt t 0 % 16) (3 - 1) = (byteAt t 0 % 16 * 64 + byteAt t 1 % 64) * 64 + byteAt t 2 % 64:=rfl
  rw [e]
  refine if_iff ?_
  constructor
  · rintro ⟨h1,h2,h3,h4,h5⟩
    refine ⟨h1,fun k _ _=>?_,h4,h5⟩
    have : k = 1 ∨ k = 2:=by omega
    rcases this with rfl | rfl
    · exact h2
    · exact h3
  · rintro ⟨h1,h2,h3,h4⟩; exact ⟨h1,h2 1 (by omega) (by omega),h2 2 (by omega) (by omega),h3,h4⟩
theorem l3r_4 (t : ByteArray) (h : byteAt t 0 / 8 = 30) : l3r t = runeIf t 4 (byteAt t 0 % 8) 65536:=by
  rw [l3r_four t h,runeIf]
  have e : bitsN t (byteAt t 0 % 8) (4 - 1) = ((byteAt t 0 % 8 * 64 + byteAt t 1 % 64) * 64 + byteAt t 2 % 64) * 64 + byteAt t 3 % 64:=rfl
  rw [e]
  refine if_iff ?_
  constructor
  · rintro ⟨h1,h2,h3,h4,h5,h6⟩
    refine ⟨h1,fun k _ _=>?_,h5,h6⟩
    have : k = 1 ∨ k = 2 ∨ k = 3:=by omega
    rcases this with rfl | rfl | rfl
    · exact h2
    · exact h3
    · exact h4
  · rintro ⟨h1,h2,h3,h4⟩; exact ⟨h1,h2 1 (by omega) (by omega),h2 2 (by omega) (by omega),h2 3 (by omega) (by omega),h3,h4⟩
theorem bitsN_lt (t : ByteArray) (v : Nat) : ∀ j,bitsN t v j < (v + 1) * 64 ^ j
  | 0=>by simp [bitsN]
  | j + 1=>by
    have:=bitsN_lt t v j
    rw [bitsN,Nat.pow_succ,← Nat.mul_assoc]
    omega
set_option maxRecDepth 100000 in
set_option maxHeartbeats 2000000 in
theorem specRune_any (t : ByteArray) (w : World) (h0 : 0 < t.size) (hs : t.size ≤ maxLen) :
    Calls Tryz.prog 89 #[.string t] w fun e w'=>e = .returned (.tuple #[.int .i64 ((l3r t).1 : Nat),.int .i64 ((l3r t).2 : Nat)]) ∧ w' = w:=by
  unfold maxLen at hs
  have hU : t[0].toNat < 256:=t[0].toNat_lt
  have HE0 : Hid (t[0].toNat = byteAt t 0):=byteAt_eq t 0 h0
  by_cases h1 : t[0].toNat < 128
  · have E : Hid (l3r t = (t[0].toNat,1)):=by show _ = _; rw [HE0.out]; exact l3r_one t (by rw [← HE0.out]; exact h1)
    rw [E.out]
    go_enter Tryz.func89,Tryz.ntmps89
    go_wp2
    go_ret2
    exact ⟨rfl,rfl⟩
  by_cases h2 : t[0].toNat / 32 = 6
  · have E : Hid (l3r t = runeIf t 2 (t[0].toNat % 32) 128):=by show _ = _; rw [HE0.out]; exact l3r_2 t (by rw [← HE0.out]; exact h2)
    by_cases hz : t.size < 2
    · have E2 : Hid (l3r t = (0,0)):=by show _ = _; rw [E.out,runeIf,if_neg (fun h=>by have:=h.1; omega)]
      rw [E2.out]
      go_enter Tryz.func89,Tryz.ntmps89
      go_wp2
      go_ret2
      exact ⟨rfl,rfl⟩
    have hb0 : ((t[0].toNat : Int) / 32 == 6) = true:=by simp; omega
    go_enter Tryz.func89,Tryz.ntmps89
    go_wp2
    go_loop [6,8] (fun v i=>∃ j V : Nat,1 ≤ j ∧ j ≤ 2 ∧ i = .int .i64 j ∧ v = .int .i64 V ∧ V < 8388608 ∧ Hid (V = bitsN t (t[0].toNat % 32) (j - 1) ∧ ∀ k,k < j → 1 ≤ k → byteAt t k / 64 = 2)) (fun _ i=>2 - (intOf i).toNat)
    case atStart=>exact ⟨1,t[0].toNat % 32,by omega,by omega,rfl,by go_num,by omega,rfl,fun k hk h=>absurd h (by omega)⟩
    case round =>
      obtain ⟨j,V,hj1,hj,rfl,rfl,hV,HR⟩:=hrel
      by_cases hlt : j < 2
      · have hjs : j < t.size:=by omega
        have hU2 : t[j].toNat < 256:=t[j].toNat_lt
        have HE : Hid (t[j].toNat = byteAt t j):=byteAt_eq t j hjs
        by_cases hc : t[j].toNat / 64 = 2
        · have hcb : ((t[j].toNat : Int) / 64 != 2) = false:=by simp; omega
          go_wp2
          refine ⟨⟨j + 1,V * 64 + t[j].toNat % 64,by omega,by omega,by go_num,by go_num,?_,?_,?_⟩,by simp [intOf]; omega⟩
          · have h1:=bitsN_lt t (t[0].toNat % 32) j
            have h2 : bitsN t (t[0].toNat % 32) j = V * 64 + t[j].toNat % 64:=by
              obtain ⟨m,rfl⟩ : ∃ m,j = m + 1:=⟨j - 1,by omega⟩
              rw [bitsN,HE.out,HR.out.1]; rfl
            rw [h2] at h1
            have h3 : 64 ^ j ≤ 64 ^ 1:=Nat.pow_le_pow_right (by omega) (by omega)
            have h4 : (t[0].toNat % 32 + 1) * 64 ^ j ≤ 32 * 64 ^ 1:=Nat.mul_le_mul (by omega) h3
            omega
          · obtain ⟨m,rfl⟩ : ∃ m,j = m + 1:=⟨j - 1,by omega⟩
            show _ = bitsN t _ (m + 1)
            rw [bitsN,HE.out,HR.out.1]; rfl
          · intro k hk hk1
            by_cases e : k = j
            · subst e; rw [← HE.out]; exact hc
            · exact HR.out.2 k (by omega) hk1
        · have hcb : ((t[j].toNat : Int) / 64 != 2) = true:=by simp; omega
          have E2 : Hid (l3r t = (0,0)):=by show _ = _; rw [E.out,runeIf,if_neg (fun h=>hc (by rw [HE.out]; exact h.2.1 j hlt hj1))]
          go_wp2
          go_ret2
          exact ⟨ret_two (by simp [E2.out]) (by simp [E2.out]),rfl⟩
      · have ej : j = 2:=by omega
        subst ej
        have HV : Hid (bitsN t (t[0].toNat % 32) (2 - 1) = V):=HR.out.1.symm
        by_cases c1 : V < 128
        · have E2 : Hid (l3r t = (0,0)):=by show _ = _; rw [E.out,runeIf,HV.out,if_neg (fun h=>by have:=h.2.2.1; omega)]
          go_wp2
          go_ret2
          exact ⟨ret_two (by simp [E2.out]) (by simp [E2.out]),rfl⟩
        by_cases c2 : 1114111 < V
        · have E2 : Hid (l3r t = (0,0)):=by show _ = _; rw [E.out,runeIf,HV.out,if_neg (fun h=>by have:=(okR_is h.2.2.2).1; omega)]
          go_wp2
          go_ret2
          exact ⟨ret_two (by simp [E2.out]) (by simp [E2.out]),rfl⟩
        by_cases c3 : 55296 ≤ V ∧ V ≤ 57343
        · have E2 : Hid (l3r t = (0,0)):=by show _ = _; rw [E.out,runeIf,HV.out,if_neg (fun h=>(okR_is h.2.2.2).2 c3)]
          have HB : Hid (btwB (V : Int) 55296 57343 = true):=by show _ = _; simp [btwB]; omega
          go_wp2_with fail
          refine (between_any _ _ _ _).mono ?_
          rintro e w1 ⟨rfl,hw⟩
          rw [HB.out]
          replace hw:=hw.symm
          subst hw
          go_wp2
          go_ret2
          exact ⟨ret_two (by simp [E2.out]) (by simp [E2.out]),rfl⟩
        · have E2 : Hid (l3r t = (V,2)):=by show _ = _; rw [E.out,runeIf,HV.out,if_pos ⟨by omega,HR.out.2,by omega,okR_mk ⟨by omega,c3⟩⟩]
          have HB : Hid (btwB (V : Int) 55296 57343 = false):=by show _ = _; simp [btwB]; omega
          go_wp2_with fail
          refine (between_any _ _ _ _).mono ?_
          rintro e w1 ⟨rfl,hw⟩
          rw [HB.out]
          replace hw:=hw.symm
          subst hw
          go_wp2
          go_ret2
          exact ⟨ret_two (by simp [E2.out]) (by simp [E2.out]),rfl⟩
  by_cases h3 : t[0].toNat / 16 = 14
  · have E : Hid (l3r t = runeIf t 3 (t[0].toNat % 16) 2048):=by show _ = _; rw [HE0.out]; exact l3r_3 t (by rw [← HE0.out]; exact h3)
    by_cases hz : t.size < 3
    · have E2 : Hid (l3r t = (0,0)):=by show _ = _; rw [E.out,runeIf,if_neg (fun h=>by have:=h.1; omega)]
      rw [E2.out]
      go_enter Tryz.func89,Tryz.ntmps89
      go_wp2
      go_ret2
      exact ⟨rfl,rfl⟩
    have hb0 : ((t[0].toNat : Int) / 16 == 14) = true:=by simp; omega
    have hb2 : ((t[0].toNat : Int) / 32 == 6) = false:=by simp; omega
    go_enter Tryz.func89,Tryz.ntmps89
    go_wp2
    go_loop [6,8] (fun v i=>∃ j V : Nat,1 ≤ j ∧ j ≤ 3 ∧ i = .int .i64 j ∧ v = .int .i64 V ∧ V < 8388608 ∧ Hid (V = bitsN t (t[0].toNat % 16) (j - 1) ∧ ∀ k,k < j → 1 ≤ k → byteAt t k / 64 = 2)) (fun _ i=>3 - (intOf i).toNat)
    case atStart=>exact ⟨1,t[0].toNat % 16,by omega,by omega,rfl,by go_num,by omega,rfl,fun k hk h=>absurd h (by omega)⟩
    case round =>
      obtain ⟨j,V,hj1,hj,rfl,rfl,hV,HR⟩:=hrel
      by_cases hlt : j < 3
      · have hjs : j < t.size:=by omega
        have hU2 : t[j].toNat < 256:=t[j].toNat_lt
        have HE : Hid (t[j].toNat = byteAt t j):=byteAt_eq t j hjs
        by_cases hc : t[j].toNat / 64 = 2
        · have hcb : ((t[j].toNat : Int) / 64 != 2) = false:=by simp; omega
          go_wp2
          refine ⟨⟨j + 1,V * 64 + t[j].toNat % 64,by omega,by omega,by go_num,by go_num,?_,?_,?_⟩,by simp [intOf]; omega⟩
          · have h1:=bitsN_lt t (t[0].toNat % 16) j
            have h2 : bitsN t (t[0].toNat % 16) j = V * 64 + t[j].toNat % 64:=by
              obtain ⟨m,rfl⟩ : ∃ m,j = m + 1:=⟨j - 1,by omega⟩
              rw [bitsN,HE.out,HR.out.1]; rfl
            rw [h2] at h1
            have h3 : 64 ^ j ≤ 64 ^ 2:=Nat.pow_le_pow_right (by omega) (by omega)
            have h4 : (t[0].toNat % 16 + 1) * 64 ^ j ≤ 16 * 64 ^ 2:=Nat.mul_le_mul (by omega) h3
            omega
          · obtain ⟨m,rfl⟩ : ∃ m,j = m + 1:=⟨j - 1,by omega⟩
            show _ = bitsN t _ (m + 1)
            rw [bitsN,HE.out,HR.out.1]; rfl
          · intro k hk hk1
            by_cases e : k = j
            · subst e; rw [← HE.out]; exact hc
            · exact HR.out.2 k (by omega) hk1
        · have hcb : ((t[j].toNat : Int) / 64 != 2) = true:=by simp; omega
          have E2 : Hid (l3r t = (0,0)):=by show _ = _; rw [E.out,runeIf,if_neg (fun h=>hc (by rw [HE.out]; exact h.2.1 j hlt hj1))]
          go_wp2
          go_ret2
          exact ⟨ret_two (by simp [E2.out]) (by simp [E2.out]),rfl⟩
      · have ej : j = 3:=by omega
        subst ej
        have HV : Hid (bitsN t (t[0].toNat % 16) (3 - 1) = V):=HR.out.1.symm
        by_cases c1 : V < 2048
        · have E2 : Hid (l3r t = (0,0)):=by show _ = _; rw [E.out,runeIf,HV.out,if_neg (fun h=>by have:=h.2.2.1; omega)]
          go_wp2
          go_ret2
          exact ⟨ret_two (by simp [E2.out]) (by simp [E2.out]),rfl⟩
        by_cases c2 : 1114111 < V
        · have E2 : Hid (l3r t = (0,0)):=by show _ = _; rw [E.out,runeIf,HV.out,if_neg (fun h=>by have:=(okR_is h.2.2.2).1; omega)]
          go_wp2
          go_ret2
          exact ⟨ret_two (by simp [E2.out]) (by simp [E2.out]),rfl⟩
        by_cases c3 : 55296 ≤ V ∧ V ≤ 57343
        · have E2 : Hid (l3r t = (0,0)):=by show _ = _; rw [E.out,runeIf,HV.out,if_neg (fun h=>(okR_is h.2.2.2).2 c3)]
          have HB : Hid (btwB (V : Int) 55296 57343 = true):=by show _ = _; simp [btwB]; omega
          go_wp2_with fail
          refine (between_any _ _ _ _).mono ?_
          rintro e w1 ⟨rfl,hw⟩
          rw [HB.out]
          replace hw:=hw.symm
          subst hw
          go_wp2
          go_ret2
          exact ⟨ret_two (by simp [E2.out]) (by simp [E2.out]),rfl⟩
        · have E2 : Hid (l3r t = (V,3)):=by show _ = _; rw [E.out,runeIf,HV.out,if_pos ⟨by omega,HR.out.2,by omega,okR_mk ⟨by omega,c3⟩⟩]
          have HB : Hid (btwB (V : Int) 55296 57343 = false):=by show _ = _; simp [btwB]; omega
          go_wp2_with fail
          refine (between_any _ _ _ _).mono ?_
          rintro e w1 ⟨rfl,hw⟩
          rw [HB.out]
          replace hw:=hw.symm
          subst hw
          go_wp2
          go_ret2
          exact ⟨ret_two (by simp [E2.out]) (by simp [E2.out]),rfl⟩
  by_cases h4 : t[0].toNat / 8 = 30
  · have E : Hid (l3r t = runeIf t 4 (t[0].toNat % 8) 65536):=by show _ = _; rw [HE0.out]; exact l3r_4 t (by rw [← HE0.out]; exact h4)
    by_cases hz : t.size < 4
    · have E2 : Hid (l3r t = (0,0)):=by show _ = _; rw [E.out,runeIf,if_neg (fun h=>by have:=h.1; omega)]
      rw [E2.out]
      go_enter Tryz.func89,Tryz.ntmps89
      go_wp2
      go_ret2
      exact ⟨rfl,rfl⟩
    have hb0 : ((t[0].toNat : Int) / 8 == 30) = true:=by simp; omega
    have hb2 : ((t[0].toNat : Int) / 32 == 6) = false:=by simp; omega
    have hb3 : ((t[0].toNat : Int) / 16 == 14) = false:=by simp; omega
    go_enter Tryz.func89,Tryz.ntmps89
    go_wp2
    go_loop [6,8] (fun v i=>∃ j V : Nat,1 ≤ j ∧ j ≤ 4 ∧ i = .int .i64 j ∧ v = .int .i64 V ∧ V < 8388608 ∧ Hid (V = bitsN t (t[0].toNat % 8) (j - 1) ∧ ∀ k,k < j → 1 ≤ k → byteAt t k / 64 = 2)) (fun _ i=>4 - (intOf i).toNat)
    case atStart=>exact ⟨1,t[0].toNat % 8,by omega,by omega,rfl,by go_num,by omega,rfl,fun k hk h=>absurd h (by omega)⟩
    case round =>
      obtain ⟨j,V,hj1,hj,rfl,rfl,hV,HR⟩:=hrel
      by_cases hlt : j < 4
      · have hjs : j < t.size:=by omega
        have hU2 : t[j].toNat < 256:=t[j].toNat_lt
        have HE : Hid (t[j].toNat = byteAt t j):=byteAt_eq t j hjs
        by_cases hc : t[j].toNat / 64 = 2
        · have hcb : ((t[j].toNat : Int) / 64 != 2) = false:=by simp; omega
          go_wp2
          refine ⟨⟨j + 1,V * 64 + t[j].toNat % 64,by omega,by omega,by go_num,by go_num,?_,?_,?_⟩,by simp [intOf]; omega⟩
          · have h1:=bitsN_lt t (t[0].toNat % 8) j
            have h2 : bitsN t (t[0].toNat % 8) j = V * 64 + t[j].toNat % 64:=by
              obtain ⟨m,rfl⟩ : ∃ m,j = m + 1:=⟨j - 1,by omega⟩
              rw [bitsN,HE.out,HR.out.1]; rfl
            rw [h2] at h1
            have h3 : 64 ^ j ≤ 64 ^ 3:=Nat.pow_le_pow_right (by omega) (by omega)
            have h4 : (t[0].toNat % 8 + 1) * 64 ^ j ≤ 8 * 64 ^ 3:=Nat.mul_le_mul (by omega) h3
            omega
          · obtain ⟨m,rfl⟩ : ∃ m,j = m + 1:=⟨j - 1,by omega⟩
            show _ = bitsN t _ (m + 1)
            rw [bitsN,HE.out,HR.out.1]; rfl
          · intro k hk hk1
            by_cases e : k = j
            · subst e; rw [← HE.out]; exact hc
            · exact HR.out.2 k (by omega) hk1
        · have hcb : ((t[j].toNat : Int) / 64 != 2) = true:=by simp; omega
          have E2 : Hid (l3r t = (0,0)):=by show _ = _; rw [E.out,runeIf,if_neg (fun h=>hc (by rw [HE.out]; exact h.2.1 j hlt hj1))]
          go_wp2
          go_ret2
          exact ⟨ret_two (by simp [E2.out]) (by simp [E2.out]),rfl⟩
      · have ej : j = 4:=by omega
        subst ej
        have HV : Hid (bitsN t (t[0].toNat % 8) (4 - 1) = V):=HR.out.1.symm
        by_cases c1 : V < 65536
        · have E2 : Hid (l3r t = (0,0)):=by show _ = _; rw [E.out,runeIf,HV.out,if_neg (fun h=>by have:=h.2.2.1; omega)]
          go_wp2
          go_ret2
          exact ⟨ret_two (by simp [E2.out]) (by simp [E2.out]),rfl⟩
        by_cases c2 : 1114111 < V
        · have E2 : Hid (l3r t = (0,0)):=by show _ = _; rw [E.out,runeIf,HV.out,if_neg (fun h=>by have:=(okR_is h.2.2.2).1; omega)]
          go_wp2
          go_ret2
          exact ⟨ret_two (by simp [E2.out]) (by simp [E2.out]),rfl⟩
        by_cases c3 : 55296 ≤ V ∧ V ≤ 57343
        · exfalso; omega
        · have E2 : Hid (l3r t = (V,4)):=by show _ = _; rw [E.out,runeIf,HV.out,if_pos ⟨by omega,HR.out.2,by omega,okR_mk ⟨by omega,c3⟩⟩]
          have HB : Hid (btwB (V : Int) 55296 57343 = false):=by show _ = _; simp [btwB]; omega
          go_wp2_with fail
          refine (between_any _ _ _ _).mono ?_
          rintro e w1 ⟨rfl,hw⟩
          rw [HB.out]
          replace hw:=hw.symm
          subst hw
          go_wp2
          go_ret2
          exact ⟨ret_two (by simp [E2.out]) (by simp [E2.out]),rfl⟩
  have E : Hid (l3r t = (0,0)):=by
    show _ = _
    rw [HE0.out] at h1 h2 h3 h4
    exact l3r_none t (by omega) h2 h3 h4
  have hb2 : ((t[0].toNat : Int) / 32 == 6) = false:=by simp; omega
  have hb3 : ((t[0].toNat : Int) / 16 == 14) = false:=by simp; omega
  have hb4 : ((t[0].toNat : Int) / 8 == 30) = false:=by simp; omega
  rw [E.out]
  go_enter Tryz.func89,Tryz.ntmps89
  go_wp2
  go_ret2
  exact ⟨rfl,rfl⟩
end Go.Proofs.YtkmdbpaeeagccaaGreatDoor
namespace Go.Proofs.YtkmdbpaeeagccaaGreatDoor
open Go.RowKit
def NumsIn (w : World) (a : Option Addr) (l : List Int) : Prop:=l = [] ∨ ∃ b o,a = some ⟨b,o,none⟩ ∧ b < w.heap.size ∧ ∀ i (h : i < l.length),w.cell? ⟨b,o + i,none⟩ = some (.int .i64 l[i])
theorem NumsIn.later {w w' : World} {a : Option Addr} {l : List Int} (h : NumsIn w a l) (hb : Below w.heap.size w w') : NumsIn w' a l:=by
  rcases h with h | ⟨b,o,rfl,hlt,h⟩
  · exact Or.inl h
  · exact Or.inr ⟨b,o,rfl,Nat.lt_of_lt_of_le hlt hb.size,fun i hi=>by rw [← h i hi]; exact hb.cell hlt⟩
theorem NumsIn.at {w : World} {a : Option Addr} {l : List Int} (h : NumsIn w a l) {i : Nat} (hi : i < l.length) : ∃ b o,a = some ⟨b,o,none⟩ ∧ b < w.heap.size ∧ w.cell? ⟨b,o + i,none⟩ = some (.int .i64 l[i]):=by
  rcases h with rfl | ⟨b,o,rfl,hlt,h⟩
  · exact absurd hi (by simp)
  · exact ⟨b,o,rfl,hlt,h i hi⟩
theorem nums_of_row {w : World} {B : Nat} {e : TypeId} {a : Option Addr} {cap : Nat} {l : List Int} (h : w.ownsRow B e 1 (.slice a l.length cap) l.length (l.map (Value.int .i64))) : NumsIn w a l:=by
  rcases h.2 with ⟨_,hl⟩ | ⟨g,cap',cur,he,hB,hg,_,_,hsz,htk⟩
  · exact Or.inl (List.length_eq_zero_iff.1 hl)
  · simp only [Value.slice.injEq] at he
    refine Or.inr ⟨g,0,he.1,lt_of_block hg,fun i hi=>?_⟩
    rw [Nat.zero_add,cell_of_row w g i cur _ _ hg]
    have h2 : (cur.toList.take (l.length * 1))[i]? = (l.map (Value.int .i64))[i]?:=by rw [htk]
    rw [List.getElem?_take_of_lt (by omega)] at h2
    rw [← Array.getElem?_toList,h2]
    simp [List.getElem?_eq_getElem hi]
theorem info_num : ∃ i,Tryz.prog.info? 3 = some i ∧ i.zero = some (.int .i64 0) ∧ i.size = 1 ∧ i.bytes = 8:=by
  have h : (Tryz.prog.info? 3).map (fun i=>(i.zero,i.size,i.bytes)) = some (some (.int .i64 0),1,8):=by kernel_rfl
  obtain ⟨i,hi,hz⟩:=Option.map_eq_some_iff.1 h
  simp only [Prod.mk.injEq] at hz
  exact ⟨i,hi,hz.1,hz.2.1,hz.2.2⟩
end Go.Proofs.YtkmdbpaeeagccaaGreatDoor
