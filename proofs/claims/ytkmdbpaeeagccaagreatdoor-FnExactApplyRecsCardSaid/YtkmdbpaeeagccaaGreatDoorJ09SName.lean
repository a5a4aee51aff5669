import Derived.Test.YtkmdbpaeeagccaaGreatDoorProg
import Derived.Test.YtkmdbpaeeagccaaGreatDoorJ08IntsL
import Derived.Test.YtkmdbpaeeagccaaGreatDoorJ04Cfg
import Derived.Test.YtkmdbpaeeagccaaGreatDoorJ01Own
import Derived.Test.YtkmdbpaeeagccaaGreatDoorJ02LabB
import Derived.Deep.OwnRows
import Derived.Laws.OwnMore
import Derived.Tactics
import Derived.Deep.AppendLies
import Derived.Test.YtkmdbpaeeagccaaGreatDoorJ03SNum
namespace Go.Proofs.YtkmdbpaeeagccaaGreatDoor
open Go.RowKit
def runI (acc : List Nat) : List Int:=acc.map fun (r : Nat)=>(r : Int)
theorem runI_len (acc : List Nat) : (runI acc).length = acc.length:=by simp [runI]
theorem runI_snoc (acc : List Nat) (r : Nat) : runI (acc ++ [r]) = runI acc ++ [(r : Int)]:=by simp [runI]
theorem ctl_btw (r : Nat) (h : ¬ r < 32) : btwB (r : Int) 127 159 = ctl r:=by
  unfold btwB ctl
  rw [Bool.eq_iff_iff]
  simp
  omega
theorem any_split (l : List Nat) (k : Nat) (h : k < l.length) : l.any ctl = ((l.take k).any ctl || (ctl l[k] || (l.drop (k + 1)).any ctl)):=by
  have e:=List.take_append_drop k l
  rw [List.drop_eq_getElem_cons h] at e
  rw [← List.any_cons,← List.any_append,e]
set_option maxRecDepth 100000 in
set_option maxHeartbeats 2000000 in
theorem specVal_any (s : ByteArray) (w : World) (hs : s.size ≤ 1000000000) :
    Calls Tryz.prog 65 #[.string s] w fun e w'=>e = .returned (.int .i64 (valV s : Nat)) ∧ Below w.heap.size w w':=by
  obtain ⟨ti,hti,hz0,hz1,hz2⟩:=info_num
  have HI : Hid (Tryz.prog.info? 3 = some ti):=hti
  clear hti
  go_enter Tryz.func65,Tryz.ntmps65
  go_wp2
  go_loopw [3,4,5,6] (fun out at_ _ _ wr=>∃ (p : Nat) (acc : List Nat) (av : Option Addr) (cv : Nat),p ≤ s.size ∧ acc.length ≤ p ∧ Hid (RInv s p acc ∧ ∀ i (h : i < acc.length),acc[i] ≤ 1114111) ∧ at_ = .int .i64 p ∧ out = .slice av acc.length cv ∧ Hid (wr.ownsRow w.heap.size 3 1 (.slice av acc.length cv) acc.length ((runI acc).map (Value.int .i64))) ∧ Below w.heap.size w wr) (fun _ at_ _ _ _=>s.size - (intOf at_).toNat)
  case atStart =>
    exact ⟨0,[],_,_,Nat.zero_le _,Nat.zero_le _,⟨RInv.start s,fun i h=>absurd h (by simp)⟩,rfl,rfl,World.ownsRow_made w #[] 0 (Nat.le_refl _) (by simp [maxLen]) (by simp),bnew _ _⟩
  case round =>
    obtain ⟨p,acc,av,cv,hp,hac,HR,rfl,rfl,hrow,hbel⟩:=hrel
    have hsz:=hbel.size
    by_cases hlt : p < s.size
    · have hz : (s.extract p s.size).size = s.size - p:=by simp
      have hfi:=fun W=>specRune_any (s.extract p s.size) W (by omega) (by unfold maxLen; omega)
      rw [l3r_at] at hfi
      by_cases hd : Utf8.decode s p = (65533,1)
      · rw [if_pos hd] at hfi
        have HFI : Hid (∀ W,Calls Tryz.prog 89 #[.string (s.extract p s.size)] W fun e w'=>e = .returned (.tuple #[.int .i64 0,.int .i64 0]) ∧ w' = W):=hfi
        have HE : Hid (valV s = 42):=HR.out.1.bad hlt hd
        clear hfi hd hz
        go_wp2_with fail
        refine (HFI.out _).mono ?_
        rintro e w1 ⟨rfl,hw⟩
        replace hw:=hw.symm
        subst hw
        go_wp2
        go_ret
        exact ⟨ret_int (by rw [HE.out]; rfl),hbel⟩
      · rw [if_neg hd] at hfi
        have hpos:=decode_pos s p
        have hfit:=decode_fits s p hlt hd
        have hrun:=decode_rune s p
        have HST : Hid (RInv s (p + (Utf8.decode s p).2) (acc ++ [(Utf8.decode s p).1])):=HR.out.1.step hlt hd
        generalize (Utf8.decode s p).1 = R at *
        generalize (Utf8.decode s p).2 = N at *
        have HFI : Hid (∀ W,Calls Tryz.prog 89 #[.string (s.extract p s.size)] W fun e w'=>e = .returned (.tuple #[.int .i64 (R : Nat),.int .i64 (N : Nat)]) ∧ w' = W):=hfi
        have hn0 : ((N : Int) == 0) = false:=by simp; omega
        obtain ⟨hr1,hr2⟩:=hrun
        clear hfi hd hz
        go_wp2_with fail
        refine (HFI.out _).mono ?_
        rintro e w1 ⟨rfl,hw⟩
        replace hw:=hw.symm
        subst hw
        go_wp2_with (at_builtin; refine wpList_append_lies _ rfl _ _ _ rfl w.heap.size 3 ti _ 1 8 Tryz.underlying157 HI.out hz0 hz1 hz2 rfl (by omega) (.slice av acc.length cv) acc.length ((runI acc).map (Value.int .i64)) rfl (by exact row_later hrow.out (bnew _ _)) ⟨wr.heap.size,0,none⟩ 1 1 [.int .i64 (R : Int)] rfl rfl (by exact World.news_of_block (heap_alloc_new _ _)) (by simp [Value.oneCell']) (by omega) (by simp [maxLen]; omega) (by omega) (by simp; omega) (wr.heap.size + 1) (by simp) ?_; intro g5 cap5 w5 hown5 hgrow5 hat5 hlt5)
        have hB5 : Below w.heap.size w w5:=(bto hbel (bnew _ _)).grown hgrow5 (by simp; omega) (fun q hq=>by
          rcases hrow.out.2 with ⟨he,_⟩ | ⟨g,cap,cur,he,hB,_⟩
          · rw [he] at hq; simp [Value.ownBlock] at hq
          · rw [he] at hq; simp [Value.ownBlock] at hq; omega)
        have hxs : (runI acc).map (Value.int .i64) ++ [Value.int .i64 (R : Int)] = (runI (acc ++ [R])).map (Value.int .i64):=by simp [runI_snoc]
        have hle : (acc ++ [R]).length = acc.length + 1:=by simp
        rw [hxs,← hle] at hown5
        refine ⟨⟨p + N,acc ++ [R],some ⟨g5,0,none⟩,cap5,by omega,by rw [hle]; omega,⟨HST.out,fun i hi=>?_⟩,by go_num,by rw [hle],hown5,hB5⟩,by simp [intOf]; omega⟩
        by_cases e : i < acc.length
        · rw [List.getElem_append_left e]; exact HR.out.2 i e
        · rw [List.getElem_append_right (by omega)]; simp; exact hr1
    · have HE : Hid (valV s = endV acc):=HR.out.1.done (by omega)
      by_cases h128 : 128 < acc.length
      · have HE2 : Hid (valV s = 43):=by show _ = _; rw [HE.out,endV,if_pos h128]
        go_wp2
        go_ret
        exact ⟨ret_int (by rw [HE2.out]; rfl),hbel⟩
      · have HE2 : Hid (valV s = if acc.any ctl = true then 44 else 0):=by show _ = _; rw [HE.out,endV,if_neg h128]
        have HN : Hid (NumsIn wr av (runI acc)):=nums_of_row (by rw [runI_len]; exact hrow.out)
        have HA : Hid (∀ i (h : i < acc.length),acc[i] ≤ 1114111):=HR.out.2
        clear hrow HR HE
        go_wp2
        go_loop [8,35] (fun _ i=>∃ k : Nat,k ≤ acc.length ∧ i = .int .i64 k ∧ Hid ((acc.take k).any ctl = false)) (fun _ i=>acc.length - (intOf i).toNat)
        case atStart=>exact ⟨0,Nat.zero_le _,rfl,by show _ = _; simp⟩
        case round =>
          obtain ⟨k,hk,rfl,HK⟩:=hrel
          by_cases hlk : k < acc.length
          · obtain ⟨b,o,rfl,hb,c0⟩:=HN.out.at (i:=k) (by rw [runI_len]; exact hlk)
            have hr:=HA.out k hlk
            have e0 : (runI acc)[k]'(by rw [runI_len]; exact hlk) = ((acc[k] : Nat) : Int):=by simp [runI]
            rw [e0] at c0
            have HYES : Hid (ctl acc[k] = true → valV s = 44):=fun h=>by rw [HE2.out,any_split acc k hlk,h]; simp
            have HNO : Hid (ctl acc[k] = false → (acc.take (k + 1)).any ctl = false):=fun h=>by rw [List.take_succ_eq_append_getElem hlk,List.any_append,HK.out]; simp [h]
            have HB:=ctl_btw acc[k]
            clear e0
            generalize acc[k] = R at *
            by_cases h32 : R < 32
            · have E : Hid (ctl R = true):=by show _ = _; simp [ctl,h32]
              clear HB
              go_wp2
              go_ret
              exact ⟨ret_int (by rw [HYES.out E.out]; rfl),hbel⟩
            · have HBT : Hid (btwB (R : Int) 127 159 = ctl R):=HB h32
              clear HB
              by_cases hc : ctl R = true
              · have HB2 : Hid (btwB (R : Int) 127 159 = true):=HBT.out.trans hc
                have HC : Hid (ctl R = true):=hc
                clear hc
                go_wp2_with fail
                refine (between_any _ _ _ _).mono ?_
                rintro e w1 ⟨rfl,hw⟩
                rw [HB2.out]
                replace hw:=hw.symm
                subst hw
                go_wp2
                go_ret
                exact ⟨ret_int (by rw [HYES.out HC.out]; rfl),hbel⟩
              · have HC : Hid (ctl R = false):=by show _ = _; simpa using hc
                have HB2 : Hid (btwB (R : Int) 127 159 = false):=HBT.out.trans HC.out
                clear hc
                go_wp2_with fail
                refine (between_any _ _ _ _).mono ?_
                rintro e w1 ⟨rfl,hw⟩
                rw [HB2.out]
                replace hw:=hw.symm
                subst hw
                go_wp2
                exact ⟨⟨k + 1,by omega,by go_num,HNO.out HC.out⟩,by simp [intOf]; omega⟩
          · have HV : Hid (valV s = 0):=by
              show _ = _
              have:=HK.out
              rw [List.take_of_length_le (by omega)] at this
              rw [HE2.out,this]; rfl
            go_wp2
            go_ret
            exact ⟨ret_int (by rw [HV.out]; rfl),hbel⟩
end Go.Proofs.YtkmdbpaeeagccaaGreatDoor
namespace Go.Proofs.YtkmdbpaeeagccaaGreatDoor
open Go.RowKit
theorem or_i64 (a b : Nat) (ha : a < 4611686018427387904) (hb : b < 4611686018427387904) : bits .or .i64 (a : Int) (b : Int) = ((a ||| b : Nat) : Int):=by
  have hx : a ||| b < 2 ^ 62:=Nat.or_lt_two_pow (by omega) (by omega)
  show IntKind.i64.wrap ((BitVec.ofInt 64 (a : Int) ||| BitVec.ofInt 64 (b : Int)).toNat : Int) = _
  rw [BitVec.toNat_or,BitVec.ofInt_natCast,BitVec.ofInt_natCast,BitVec.toNat_ofNat,BitVec.toNat_ofNat,Nat.mod_eq_of_lt (by omega),Nat.mod_eq_of_lt (by omega)]
  simp only [IntKind.wrap,IntKind.bits,IntKind.signed]
  simp
  omega
theorem or_low (a b : Nat) (hb : b < 256) (ha : a < 281474976710656) : bits .or .i64 ((a : Int) * 256) (b : Int) = ((a * 256 + b : Nat) : Int):=by
  have hx : a * 256 ||| b = a * 256 + b:=by
    have:=Nat.two_pow_add_eq_or_of_lt (i:=8) (b:=b) (by omega) a
    rw [show 2 ^ 8 * a = a * 256 by omega] at this
    exact this.symm
  rw [← hx]
  exact or_i64 (a * 256) b (by omega) (by omega)
set_option maxRecDepth 100000 in
set_option maxHeartbeats 1000000 in
theorem implNum_any (s : ByteArray) (w : World) (hs : s.size ≤ 7) :
    Calls Tryz.prog 161 #[.string s] w fun e w'=>e = .returned (.int .i64 (beL s.data.toList : Nat)) ∧ w' = w:=by
  go_enter Tryz.func161,Tryz.ntmps161
  go_wp2
  go_loopw [3,4,7] (fun x _ c wr=>∃ (k X : Nat),k ≤ s.size ∧ c = .int .i64 k ∧ x = .int .i64 X ∧ X < 256 ^ k ∧ Hid (X = beL (s.data.toList.take k)) ∧ wr = w) (fun _ _ c _=>s.size - (intOf c).toNat)
  case atStart=>exact ⟨0,0,by omega,rfl,rfl,by simp,by show _ = _; simp [beL],rfl⟩
  case round =>
    obtain ⟨k,X,hk,rfl,rfl,hX,hx,rfl⟩:=hrel
    by_cases hlt : k < s.size
    · have hc:=(s[k]).toNat_lt
      have hX6 : X < 281474976710656:=Nat.lt_of_lt_of_le hX (Nat.pow_le_pow_right (n:=256) (by omega) (show k ≤ 6 by omega))
      have ho:=or_low X (s[k]).toNat (by omega) (by omega)
      go_wp2
      refine ⟨⟨k + 1,X * 256 + (s[k]).toNat,by omega,by go_num,?_,?_,?_,trivial⟩,by simp [intOf]; omega⟩
      · go_num
      · rw [Nat.pow_succ]; omega
      · show _ = _
        rw [take_snoc s k hlt,beL_snoc,← hx.out]
    · have e : k = s.size:=by omega
      subst e
      go_wp2
      go_ret
      refine ⟨?_,rfl⟩
      show Ending.returned (.int .i64 (X : Nat)) = _
      rw [hx.out,List.take_of_length_le (by simp)]
end Go.Proofs.YtkmdbpaeeagccaaGreatDoor
namespace Go.Proofs.YtkmdbpaeeagccaaGreatDoor
open Go.RowKit
def RB (w : World) (B : Nat) (r : Rd) : Prop:=Blk w B #[.string r.rest,.bool r.short] 208
set_option maxRecDepth 100000 in
set_option maxHeartbeats 1000000 in
theorem take_any (B : Nat) (r : Rd) (n : Nat) (w : World) (hB : RB w B r) (hn : n ≤ 70000) (hs : r.rest.size ≤ 1000000000) :
    Calls Tryz.prog 162 #[.pointer (some ⟨B,0,none⟩),.int .i64 (n : Nat)] w fun e w'=>e = .returned (.string (takeR n r).1) ∧ RB w' B (takeR n r).2 ∧ But B w w':=by
  have HB : Hid (RB w B r):=hB
  have x0:=Blk.cell hB 0
  have x1:=Blk.cell hB 1
  simp only [List.getElem?_toArray,List.getElem?_cons_zero,List.getElem?_cons_succ] at x0 x1
  have f0:=Blk.free hB 0
  have f1:=Blk.free hB 1
  obtain ⟨rest,short⟩:=r
  simp only at x0 x1 hs
  clear hB
  by_cases h : rest.size < n
  · have E : Hid (takeR n ⟨rest,short⟩ = (ByteArray.empty,⟨rest,true⟩)):=by show _ = _; unfold takeR; rw [if_pos h]
    rw [E.out]
    go_enter Tryz.func162,Tryz.ntmps162
    go_wp2
    go_ret
    exact ⟨rfl,Blk.set HB.out 1 (.bool true),(But.refl _ _).setCell _ _⟩
  · have E : Hid (takeR n ⟨rest,short⟩ = (rest.extract 0 n,⟨rest.extract n rest.size,short⟩)):=by show _ = _; unfold takeR; rw [if_neg h]
    have h' : ¬ ((rest.size : Int) < (n : Int)):=by omega
    rw [E.out]
    go_enter Tryz.func162,Tryz.ntmps162
    go_wp2
    go_ret
    exact ⟨rfl,Blk.set HB.out 0 (.string (rest.extract n rest.size)),(But.refl _ _).setCell _ _⟩
set_option maxRecDepth 100000 in
theorem number_any (B : Nat) (r : Rd) (k : Nat) (w : World) (hB : RB w B r) (hk : k ≤ 2) (hs : r.rest.size ≤ 1000000000) :
    Calls Tryz.prog 155 #[.pointer (some ⟨B,0,none⟩),.int .i64 (k : Nat)] w fun e w'=>e = .returned (.int .i64 ((numR k r).1 : Nat)) ∧ RB w' B (numR k r).2 ∧ But B w w':=by
  have HC : Hid (Calls Tryz.prog 162 #[.pointer (some ⟨B,0,none⟩),.int .i64 (k : Nat)] w fun e w'=>e = .returned (.string (takeR k r).1) ∧ RB w' B (takeR k r).2 ∧ But B w w'):=take_any B r k w hB (by omega) hs
  have HN : Hid (∀ W,Calls Tryz.prog 161 #[.string (takeR k r).1] W fun e w'=>e = .returned (.int .i64 (beL (takeR k r).1.data.toList : Nat)) ∧ w' = W):=fun W=>implNum_any _ W (by have:=(take_le k r).1; omega)
  show Calls _ _ _ _ fun e w'=>e = .returned (.int .i64 (beL (takeR k r).1.data.toList : Nat)) ∧ RB w' B (takeR k r).2 ∧ But B w w'
  clear hB
  generalize beL (takeR k r).1.data.toList = N at *
  generalize (takeR k r).1 = T at *
  generalize (takeR k r).2 = r' at *
  go_enter Tryz.func155,Tryz.ntmps155
  go_wp2_with fail
  refine HC.out.mono ?_
  rintro e w1 ⟨rfl,hr1,hb1⟩
  have H1 : Hid (RB w1 B r' ∧ But B w w1):=⟨hr1,hb1⟩
  clear hr1 hb1 HC
  go_wp2_with fail
  refine (HN.out _).mono ?_
  rintro e w2 ⟨rfl,hw⟩
  replace hw:=hw.symm
  subst hw
  go_wp2
  go_ret
  exact ⟨rfl,H1.out⟩
set_option maxRecDepth 100000 in
theorem text_any (B : Nat) (r : Rd) (k : Nat) (w : World) (hB : RB w B r) (hk : k ≤ 2) (hs : r.rest.size ≤ 1000000000) :
    Calls Tryz.prog 156 #[.pointer (some ⟨B,0,none⟩),.int .i64 (k : Nat)] w fun e w'=>e = .returned (.string (textR k r).1) ∧ RB w' B (textR k r).2 ∧ But B w w':=by
  have HC : Hid (Calls Tryz.prog 155 #[.pointer (some ⟨B,0,none⟩),.int .i64 (k : Nat)] w fun e w'=>e = .returned (.int .i64 ((numR k r).1 : Nat)) ∧ RB w' B (numR k r).2 ∧ But B w w'):=number_any B r k w hB hk hs
  have hlt : (numR k r).1 < 65536:=by
    have h1:=num_lt k r
    have h2 : 256 ^ k ≤ 256 ^ 2:=Nat.pow_le_pow_right (by omega) hk
    omega
  have hsz : (numR k r).2.rest.size ≤ 1000000000:=by
    have:=(take_le k r).2.2
    show (takeR k r).2.rest.size ≤ _
    omega
  have HT : Hid (∀ W,RB W B (numR k r).2 → Calls Tryz.prog 162 #[.pointer (some ⟨B,0,none⟩),.int .i64 ((numR k r).1 : Nat)] W fun e w'=>e = .returned (.string (textR k r).1) ∧ RB w' B (textR k r).2 ∧ But B W w'):=fun W h=>take_any B _ _ W h (by omega) hsz
  clear hB
  generalize (textR k r).1 = T at *
  generalize (textR k r).2 = r' at *
  generalize (numR k r).1 = N at *
  generalize (numR k r).2 = r1 at *
  go_enter Tryz.func156,Tryz.ntmps156
  go_wp2_with fail
  refine HC.out.mono ?_
  rintro e w1 ⟨rfl,hr1,hb1⟩
  have H1 : Hid (RB w1 B r1 ∧ But B w w1):=⟨hr1,hb1⟩
  clear hr1 hb1 HC
  go_wp2_with fail
  refine (HT.out _ H1.out.1).mono ?_
  rintro e w2 ⟨rfl,hr2,hb2⟩
  have H2 : Hid (RB w2 B r' ∧ But B w w2):=⟨hr2,H1.out.2.trans hb2⟩
  clear hr2 hb2
  go_wp2
  go_ret
  exact ⟨rfl,H2.out⟩
theorem row_but0 {w w' : World} {B base : Nat} {e : TypeId} {size : Nat} {v : Value} {n : Nat} {xs : List Value} (h : w.ownsRow base e size v n xs) (hb : But B w w') (hB : B < base) : w'.ownsRow base e size v n xs:=by
  obtain ⟨h1,h2⟩:=h
  refine ⟨h1,?_⟩
  rcases h2 with h2 | ⟨g,cap,cur,hv,hg,hh,r⟩
  · exact Or.inl h2
  · exact Or.inr ⟨g,cap,cur,hv,hg,(hb.block g (lt_of_block hh) (by omega)).trans hh,r⟩
theorem But.alloc {B : Nat} {w w' : World} (h : But B w w') (o : Obj) : But B w (w'.alloc o):=h.trans (But.of (bnew _ _))
end Go.Proofs.YtkmdbpaeeagccaaGreatDoor
namespace Go.Proofs.YtkmdbpaeeagccaaGreatDoor
open Go.RowKit
theorem info_label : (Tryz.prog.info? 122).map (fun i=>(i.zero,i.size,i.bytes)) = some (some (.agg #[.string ByteArray.empty,.string ByteArray.empty]),2,32):=by kernel_rfl
def FillL (w : World) (g n : Nat) (fs : List LabD) (k : Nat) : Prop:=∃ cur : Array Value,w.heap[g]? = some (.cells cur 122 (0,0)) ∧ cur.size = n * 2 ∧
  ∀ i (h : i < fs.length),i < k → cur[i * 2]? = some (.string fs[i].name) ∧ cur[i * 2 + 1]? = some (.string fs[i].value)
theorem FillL.later {w w' : World} {g n k : Nat} {fs : List LabD} {B : Nat} (h : FillL w g n fs k) (hb : Below B w w') (hg : g < B) : FillL w' g n fs k:=by
  obtain ⟨cur,h1,h2⟩:=h
  exact ⟨cur,by rw [hb.block g hg]; exact h1,h2⟩
theorem FillL.cells {w : World} {g n k : Nat} {fs : List LabD} (h : FillL w g n fs k) {j : Nat} (hj : j < n * 2) : (∃ v,w.cell? ⟨g,j,none⟩ = some v) ∧ w.frozen? ⟨g,j,none⟩ = false:=by
  obtain ⟨cur,h1,h2,_⟩:=h
  refine ⟨⟨cur[j],?_⟩,frozen_of_row w g j cur _ h1⟩
  rw [cell_of_row w g j cur _ _ h1]
  exact Array.getElem?_eq_getElem (by omega)
theorem FillL.step {w : World} {g n k : Nat} {fs : List LabD} (h : FillL w g n fs k) (hk : k < fs.length) (hn : fs.length ≤ n) :
    FillL ((w.setCell ⟨g,k * 2,none⟩ (.string fs[k].name)).setCell ⟨g,k * 2 + 1,none⟩ (.string fs[k].value)) g n fs (k + 1):=by
  obtain ⟨cur,h1,h2,h3⟩:=h
  refine ⟨_,heap_setCell_same _ _ _ _ _ _ (heap_setCell_same _ _ _ _ _ _ h1),by simp [h2],fun i hi hlt=>?_⟩
  by_cases e : i = k
  · subst e
    refine ⟨?_,?_⟩ <;> simp [Array.getElem?_setIfInBounds] <;> omega
  · obtain ⟨a1,a2⟩:=h3 i hi (by omega)
    refine ⟨?_,?_⟩
    · rw [Array.getElem?_setIfInBounds_ne (by omega),Array.getElem?_setIfInBounds_ne (by omega)]; exact a1
    · rw [Array.getElem?_setIfInBounds_ne (by omega),Array.getElem?_setIfInBounds_ne (by omega)]; exact a2
theorem FillL.done {w : World} {g B : Nat} {fs : List LabD} (h : FillL w g fs.length fs fs.length) (hB : B ≤ g) : LabsOwn w B (some ⟨g,0,none⟩) fs:=by
  obtain ⟨cur,h1,h2,h3⟩:=h
  refine Or.inr ⟨g,0,cur,_,rfl,hB,h1,fun i hi=>?_⟩
  obtain ⟨a1,a2⟩:=h3 i hi hi
  simp only [cell_of_row w g _ cur _ _ h1,Nat.zero_add]
  exact ⟨a1,a2⟩
end Go.Proofs.YtkmdbpaeeagccaaGreatDoor
namespace Go.Proofs.YtkmdbpaeeagccaaGreatDoor
open Go.RowKit
theorem run_append_empty {P : Program} {w : World} (base : Nat) (t ty e : TypeId) (i : TypeInfo) (size : Nat) (ht : P.underlying t = some (.slice e)) (hi : P.info? e = some i)
    (v : Value) (n : Nat) (xs : List Value) (hown : w.ownsRow base e size v n xs) (a2 : Option Addr) (c2 : Nat) :
    (Builtin.append_ #[t,t] ty #[v,.slice a2 0 c2]).run P w = .ok v w:=by
  have hl : ∀ ad : Addr,(loadCells ad 0).run P w = .ok #[] w:=fun ad=>by
    simp [loadCells,loadCellsFrom]
  rcases hown.2 with ⟨rfl,rfl⟩ | ⟨g,cap,cur,rfl,_,_,hnc,_⟩
  · cases a2 <;> simp [Builtin.append_,run_underlying ht,sizeOf,typeInfo,hi,Builtin.lenOf,Builtin.firstCells,hl]
  · cases a2 <;> simp [Builtin.append_,run_underlying ht,sizeOf,typeInfo,hi,Builtin.lenOf,Builtin.firstCells,hnc,storeCells,hl]
end Go.Proofs.YtkmdbpaeeagccaaGreatDoor
namespace Go.Proofs.YtkmdbpaeeagccaaGreatDoor
open Go.RowKit
theorem row_from {w : World} {B : Nat} {e : TypeId} {size : Nat} {v : Value} {n : Nat} {xs : List Value} (h : w.ownsRow B e size v n xs) : ∀ g,v.ownBlock = some g → B ≤ g:=by
  intro g hg
  rcases h.2 with ⟨rfl,_⟩ | ⟨g',cap,cur,rfl,hB,_⟩
  · simp [Value.ownBlock] at hg
  · simp [Value.ownBlock] at hg
    subst hg
    exact hB
def SrcAt (w : World) (ad : Option Addr) (m : Nat) (news : List Value) : Prop:=m = 0 ∨ ∃ A,ad = some A ∧ ∀ j u,news[j]? = some u → w.cell? (A.add j) = some u
theorem addr_add (b o j : Nat) : (⟨b,o,none⟩ : Addr).add j = ⟨b,o + j,none⟩:=by unfold Addr.add; split <;> simp_all
theorem bel_a (W : World) (x : Obj) : Below W.heap.size W (W.alloc x).drew:=(bnew _ _).drew
theorem bel_b (W : World) (x y : Obj) : Below W.heap.size W ((W.alloc x).alloc y).drew:=(bto (bnew _ _) (bnew _ _)).drew
theorem step_append_any {P : Program} (w : World) {ops : Array Oper} {o : Oper} {a : Act} {K : Act → World → Prop} {Q : Exit → Act → World → Prop} {E : Prop} (hgd : o.guard = none) (s x : Operand) (t : TypeId)
    (ho : o.op = .call { callee:=.builtin .append,args:=#[s,x],argTypes:=#[t,t] })
    (base : Nat) (e : TypeId) (i : TypeInfo) (z : Value) (size bytes : Nat) (ht : P.underlying t = some (.slice e)) (hi : P.info? e = some i) (hz : i.zero = some z)
    (hsize : i.size = size) (hby : i.bytes = bytes) (hzs : z.cells.size = size) (hsz : 0 < size)
    (g0 n c0 : Nat) (xs : List Value) (hs : a.eval s = .slice (some ⟨g0,0,none⟩) n c0) (hown : w.ownsRow base e size (.slice (some ⟨g0,0,none⟩) n c0) n xs)
    (ad : Option Addr) (m c : Nat) (news : List Value) (hx : a.eval x = .slice ad m c) (hl : news.length = m * size) (hsrc : SrcAt w ad m news) (h1 : ∀ u ∈ news,u.oneCell' = true)
    (h63 : n + m ≤ maxLen) (hbytes : (n + m) * bytes ≤ 140737488355328) (hbase : base ≤ w.heap.size)
    (h : ∀ g cap w',w'.ownsRow base e size (.slice (some ⟨g,0,none⟩) (n + m) cap) (n + m) (xs ++ news) → Below base w w' → (∀ k,k < w.heap.size → k ≠ g0 → w'.heap[k]? = w.heap[k]?) → base ≤ g → (g = g0 ∨ g = w.heap.size) → g < w'.heap.size → K (a.put o.dst (.slice (some ⟨g,0,none⟩) (n + m) cap)) w') :
    if Region.wanted o (yielded ops a.tmps) = true then Oper.wp P o a w K Q else E:=by
  have hg0 : base ≤ g0:=row_from hown g0 rfl
  rcases Nat.eq_zero_or_pos m with rfl | hm
  · have hw : Region.wanted o (yielded ops a.tmps) = true:=by simp [Region.wanted,hgd]
    rw [if_pos hw]
    have hnil : news = []:=List.length_eq_zero_iff.1 (by omega)
    subst hnil
    have hrun:=run_append_empty (P:=P) (w:=w) base t o.type e i size ht hi _ n xs hown ad c
    have hK:=h g0 c0 w (by rw [List.append_nil]; exact hown) (Below.refl _ _) (fun _ _ _=>rfl) hg0 (Or.inl rfl) (by
      rcases hown.2 with ⟨he,_⟩ | ⟨g',cap',cur,he,_,hb,_⟩
      · simp at he
      · simp only [Value.slice.injEq,Option.some.injEq,Addr.mk.injEq,and_true] at he
        rw [he.1]; exact lt_of_block hb)
    unfold Oper.wp execOp
    simp only [ho,resolve,invoke,builtin,Sem.run_bind,Sem.run_pure,Result.andThen_ok,List.map_toArray,List.map_cons,List.map_nil,hs,hx,hrun]
    exact hK
  · rcases hsrc with h0 | ⟨A,rfl,hnews⟩
    · omega
    refine step_append_lies w hgd s x t ho base e i z size bytes ht hi hz hsize hby hzs hsz _ n xs hs hown A m c news hx hl hnews h1 hm h63 hbytes hbase w.heap.size rfl fun g cap w' h2 h3 h4 h5=>?_
    have hg : g = g0 ∨ g = w.heap.size:=by
      rcases h4 with h4 | h4
      · left; simpa [Value.ownBlock] using h4.symm
      · exact Or.inr h4
    refine h g cap w' h2 ((Below.refl base w).grown h3 hbase (fun q hq=>row_from hown q hq)) (fun k hk hne=>h3.block k hk (by simp [Value.ownBlock]; omega)) ?_ hg h5
    rcases hg with rfl | rfl
    · exact hg0
    · exact hbase
end Go.Proofs.YtkmdbpaeeagccaaGreatDoor
namespace Go.Proofs.YtkmdbpaeeagccaaGreatDoor
open Go.RowKit
def flatL (ls : List LabD) : List Value:=ls.flatMap fun x=>[.string x.name,.string x.value]
theorem flatL_append (a b : List LabD) : flatL (a ++ b) = flatL a ++ flatL b:=by simp [flatL]
theorem flatL_length (ls : List LabD) : (flatL ls).length = ls.length * 2:=by
  induction ls with
  | nil=>rfl
  | cons f r ih=>simp [flatL] at *; omega
theorem info_lab : ∃ i,Tryz.prog.info? 122 = some i ∧ i.zero = some (.agg #[.string ByteArray.empty,.string ByteArray.empty]) ∧ i.size = 2 ∧ i.bytes = 32:=by
  obtain ⟨i,hi,hz⟩:=Option.map_eq_some_iff.1 info_label
  simp only [Prod.mk.injEq] at hz
  exact ⟨i,hi,hz.1,hz.2.1,hz.2.2⟩
theorem news_twoL (W : World) (x : Obj) (cs : Array Value) (t : TypeId) : ∀ j u,cs.toList[j]? = some u → ((W.alloc x).alloc (.cells cs t)).cell? ((⟨W.heap.size + 1,0,none⟩ : Addr).add j) = some u :=
  World.news_of_block (fr:=(0,0)) (by have h:=heap_alloc_new (W.alloc x) (.cells cs t); simpa using h)
theorem isEmp_eq (l : LabD) : isEmp l = l.value.toList.isEmpty:=by
  have e : ByteArray.empty.toList = []:=by rw [ByteArray.toList_eq]; rfl
  unfold isEmp
  rw [e]
  cases l.value.toList <;> rfl
theorem flatL_cell (ls : List LabD) : ∀ u ∈ flatL ls,u.oneCell' = true:=by
  intro u hu
  simp only [flatL,List.mem_flatMap,List.mem_cons,List.not_mem_nil,or_false] at hu
  obtain ⟨f,_,rfl | rfl⟩:=hu <;> rfl
theorem flatL_at {w : World} {g : Nat} {ys : List LabD} (h : ∀ j u,(flatL ys)[j]? = some u → w.cell? ⟨g,j,none⟩ = some u) (p : Nat) : ∀ j u,(flatL (ys.drop p))[j]? = some u → w.cell? ⟨g,p * 2 + j,none⟩ = some u:=by
  intro j u hu
  refine h _ _ ?_
  by_cases hp : p ≤ ys.length
  · have e : flatL ys = flatL (ys.take p) ++ flatL (ys.drop p):=by rw [← flatL_append,List.take_append_drop]
    have hl : (flatL (ys.take p)).length = p * 2:=by rw [flatL_length,List.length_take]; omega
    rw [e,List.getElem?_append_right (by omega),hl,Nat.add_sub_cancel_left]
    exact hu
  · rw [List.drop_of_length_le (by omega)] at hu
    simp [flatL] at hu
theorem flatL_take {ys : List LabD} {p : Nat} : ∀ (j : Nat) (u : Value),(flatL (ys.take p))[j]? = some u → (flatL ys)[j]? = some u:=by
  intro j u hu
  have e : flatL ys = flatL (ys.take p) ++ flatL (ys.drop p):=by rw [← flatL_append,List.take_append_drop]
  have hj : j < (flatL (ys.take p)).length:=(List.getElem?_eq_some_iff.1 hu).1
  rw [e,List.getElem?_append_left hj]
  exact hu
theorem row_cells {w : World} {B : Nat} {e : TypeId} {g cv : Nat} {ys : List LabD} (h : w.ownsRow B e 2 (.slice (some ⟨g,0,none⟩) ys.length cv) ys.length (flatL ys)) : ys.length ≤ cv ∧ g < w.heap.size ∧ B ≤ g ∧ ∀ j u,(flatL ys)[j]? = some u → w.cell? ⟨g,j,none⟩ = some u:=by
  rcases h.2 with ⟨he,_⟩ | ⟨g',cap',cur,he,hB,hb,hc,_,_,ht⟩
  · simp at he
  · simp only [Value.slice.injEq,Option.some.injEq,Addr.mk.injEq,and_true] at he
    obtain ⟨rfl,_,rfl⟩:=he
    refine ⟨hc,lt_of_block hb,hB,fun j u hu=>?_⟩
    rw [cell_of_row w g j cur _ _ hb,← Array.getElem?_toList]
    rw [← ht] at hu
    have hj:=(List.getElem?_eq_some_iff.1 hu).1
    rw [List.length_take] at hj
    rw [List.getElem?_take_of_lt (by omega)] at hu
    exact hu
theorem src_head {w : World} {g : Nat} {ys : List LabD} (h : ∀ j u,(flatL ys)[j]? = some u → w.cell? ⟨g,j,none⟩ = some u) (p : Nat) : SrcAt w (some ⟨g,0,none⟩) p (flatL (ys.take p)) :=
  Or.inr ⟨_,rfl,fun j u hu=>by rw [addr_add,Nat.zero_add]; exact h _ _ (flatL_take j u hu)⟩
theorem src_tail {w : World} {g cv : Nat} {ys : List LabD} (h : ∀ j u,(flatL ys)[j]? = some u → w.cell? ⟨g,j,none⟩ = some u) (p : Nat) (hc : ys.length ≤ cv) : SrcAt w (if cv = p then some ⟨g,0,none⟩ else some ⟨g,p * 2,none⟩) (ys.length - p) (flatL (ys.drop p)):=by
  by_cases e : cv = p
  · exact Or.inl (by omega)
  · rw [if_neg e]
    exact Or.inr ⟨_,rfl,fun j u hu=>by rw [addr_add]; exact flatL_at h p j u hu⟩
theorem src_one {w : World} {g : Nat} {x y : Value} {t : TypeId} (h : w.heap[g]? = some (.cells #[x,y] t (0,0))) : SrcAt w (some ⟨g,0,none⟩) 1 [x,y] :=
  Or.inr ⟨_,rfl,World.news_of_block (cs:=#[x,y]) h⟩
theorem cells_later {W w : World} {g : Nat} {ys : List LabD} (h : ∀ j u,(flatL ys)[j]? = some u → W.cell? ⟨g,j,none⟩ = some u) (hg : g < W.heap.size) (hb : Below W.heap.size W w) : ∀ j u,(flatL ys)[j]? = some u → w.cell? ⟨g,j,none⟩ = some u :=
  fun j u hu=>(hb.cell hg).trans (h j u hu)
theorem two_new (W : World) (x y : Obj) : ((W.alloc x).alloc y).drew.heap[W.heap.size + 1]? = some y:=by
  have h:=heap_alloc_new (W.alloc x) y
  have e : (W.alloc x).heap.size = W.heap.size + 1:=by simp
  rw [e] at h
  exact h
theorem two_old (W : World) (x y : Obj) : ((W.alloc x).alloc y).drew.heap[W.heap.size]? = some x:=by
  have h:=heap_alloc_new W x
  have h2:=(bnew (W.alloc x) y).block W.heap.size (by simp)
  exact h2.trans h
theorem rowE_a (W : World) (t : TypeId) : (W.alloc (.cells #[] t)).drew.ownsRow W.heap.size t 2 (.slice (some ⟨W.heap.size,0,none⟩) 0 0) 0 [] :=
  ⟨rfl,Or.inr ⟨W.heap.size,0,#[],rfl,Nat.le_refl _,heap_alloc_new _ _,Nat.le_refl _,Nat.zero_le _,rfl,rfl⟩⟩
theorem rowE_b (W : World) (t : TypeId) (x : Obj) : ((W.alloc (.cells #[] t)).alloc x).drew.ownsRow W.heap.size t 2 (.slice (some ⟨W.heap.size,0,none⟩) 0 0) 0 [] :=
  ⟨rfl,Or.inr ⟨W.heap.size,0,#[],rfl,Nat.le_refl _,two_old _ _ _,Nat.le_refl _,Nat.zero_le _,rfl,rfl⟩⟩
theorem rowE_c (W : World) (t : TypeId) (x : Obj) : ((W.alloc x).alloc (.cells #[] t)).drew.ownsRow W.heap.size t 2 (.slice (some ⟨W.heap.size + 1,0,none⟩) 0 0) 0 [] :=
  ⟨rfl,Or.inr ⟨W.heap.size + 1,0,#[],rfl,by omega,two_new _ _ _,Nat.le_refl _,Nat.zero_le _,rfl,rfl⟩⟩
end Go.Proofs.YtkmdbpaeeagccaaGreatDoor
namespace Go.Proofs.YtkmdbpaeeagccaaGreatDoor
open Go.RowKit
set_option maxRecDepth 100000 in
theorem whole_any (B : Nat) (r : Rd) (w : World) (hB : RB w B r) :
    Calls Tryz.prog 143 #[.pointer (some ⟨B,0,none⟩)] w fun e w'=>e = .returned (.bool (wholeB r)) ∧ w' = w:=by
  have x0:=Blk.cell hB 0
  have x1:=Blk.cell hB 1
  simp only [List.getElem?_toArray,List.getElem?_cons_zero,List.getElem?_cons_succ] at x0 x1
  have HE : Hid (ByteArray.empty.toList = []):=by show _ = _; rw [ByteArray.toList_eq]; rfl
  obtain ⟨rest,short⟩:=r
  simp only at x0 x1
  clear hB
  cases short with
  | true =>
    have E : Hid (wholeB ⟨rest,true⟩ = false):=rfl
    go_enter Tryz.func143,Tryz.ntmps143
    go_wp2
    go_ret
    exact ⟨ret_bool E.out.symm,rfl⟩
  | false =>
    have E : Hid (wholeB ⟨rest,false⟩ = rest.toList.isEmpty):=by
      show _ = _
      unfold wholeB
      rw [HE.out]
      cases rest.toList <;> rfl
    go_enter Tryz.func143,Tryz.ntmps143
    go_wp2
    go_ret
    exact ⟨ret_bool E.out.symm,rfl⟩
end Go.Proofs.YtkmdbpaeeagccaaGreatDoor
namespace Go.Proofs.YtkmdbpaeeagccaaGreatDoor
open Go.RowKit
theorem nameB_not {s : ByteArray} (h : ¬ nameOK s) : nameB s = false:=decide_eq_false h
theorem nameB_yes {s : ByteArray} (h : nameOK s) : nameB s = true:=decide_eq_true h
set_option maxRecDepth 100000 in
set_option maxHeartbeats 1000000 in
theorem specName_any (s : ByteArray) (w : World) (hs : s.size ≤ maxLen) :
    Calls Tryz.prog 138 #[.string s] w fun e w'=>e = .returned (.bool (nameB s)) ∧ w' = w:=by
  unfold maxLen at hs
  by_cases h1 : 1 ≤ s.size ∧ s.size ≤ 64
  · have hb : btwB (s.size : Int) 1 64 = true:=by simp [btwB]; omega
    have HB : Hid (btwB (s.size : Int) 1 64 = true):=hb
    clear hb
    have h0 : 0 < s.size:=by omega
    have h64 : s.size ≤ 64:=h1.2
    have hU : s[0].toNat < 256:=s[0].toNat_lt
    have HE0 : Hid (s[0].toNat = byteAt s 0):=byteAt_eq s 0 h0
    by_cases hd : 48 ≤ s[0].toNat ∧ s[0].toNat ≤ 57
    · have E : Hid (nameB s = false):=nameB_not (fun h=>by
        have:=h.2.2 0 h0
        unfold nameC alphaN at this
        rw [← HE0.out] at this
        omega)
      have hd1 : ¬ ((s[0].toNat : Int) < 48):=by omega
      have hd2 : ¬ ((57 : Int) < (s[0].toNat : Int)):=by omega
      clear hd h1
      go_enter Tryz.func138,Tryz.ntmps138
      go_wp2_with fail
      refine (between_any _ _ _ _).mono ?_
      rintro e w1 ⟨rfl,hw⟩
      rw [HB.out]
      replace hw:=hw.symm
      subst hw
      go_wp2
      go_ret
      exact ⟨ret_bool E.out.symm,rfl⟩
    · have HD : Hid (¬ (48 ≤ byteAt s 0 ∧ byteAt s 0 ≤ 57)):=by show ¬ _; rw [← HE0.out]; exact hd
      have hd1 : (s[0].toNat : Int) < 48 ∨ (57 : Int) < (s[0].toNat : Int):=by omega
      clear hd h1
      go_enter Tryz.func138,Tryz.ntmps138
      go_wp2_with fail
      refine (between_any _ _ _ _).mono ?_
      rintro e w1 ⟨rfl,hw⟩
      rw [HB.out]
      replace hw:=hw.symm
      subst hw
      go_wp2
      all_goals
        go_loop [3,4] (fun i _=>∃ j : Nat,j ≤ s.size ∧ i = .int .i64 j ∧ Hid (∀ k,k < j → nameC s k)) (fun i _=>s.size - (intOf i).toNat)
        case atStart=>exact ⟨0,Nat.zero_le _,rfl,fun k hk=>absurd hk (by omega)⟩
        case round =>
          obtain ⟨j,hj,rfl,HA⟩:=hrel
          by_cases hlt : j < s.size
          · have hU2 : s[j].toNat < 256:=s[j].toNat_lt
            have HE : Hid (s[j].toNat = byteAt s j):=byteAt_eq s j hlt
            have HD2 : Hid (j = 0 → ¬ (48 ≤ s[j].toNat ∧ s[j].toNat ≤ 57)):=fun e=>by subst e; rw [HE.out]; exact HD.out
            clear hd1 hU
            by_cases hc : s[j].toNat = 95
            · have hcb : ((s[j].toNat : Int) != 95) = false:=by simp; omega
              go_wp2
              all_goals
                refine ⟨⟨j + 1,by omega,by go_num,?_⟩,by simp [intOf]; omega⟩
                show ∀ k,_
                intro k hk
                by_cases e : k = j
                · subst e; unfold nameC alphaN; rw [← HE.out]; omega
                · exact HA.out k (by omega)
            · have hcb : ((s[j].toNat : Int) != 95) = true:=by simp; omega
              go_wp2
              all_goals first
                | (go_ret
                   refine ⟨ret_bool (nameB_not ?_).symm,rfl⟩
                   intro h
                   have:=h.2.2 j hlt
                   unfold nameC alphaN digitN at this
                   rw [← HE.out] at this
                   omega)
                | (refine ⟨⟨j + 1,by omega,by go_num,?_⟩,by simp [intOf]; omega⟩
                   show ∀ k,_
                   intro k hk
                   by_cases e : k = j
                   · subst e
                     have:=HD2.out
                     unfold nameC alphaN digitN
                     rw [← HE.out]
                     omega
                   · exact HA.out k (by omega))
                | (exfalso; rename_i hx; simp at hx; omega)
          · go_wp2
            go_ret
            exact ⟨ret_bool (nameB_yes ⟨by omega,h64,fun i hi=>HA.out i (by omega)⟩).symm,rfl⟩
  · have hb : btwB (s.size : Int) 1 64 = false:=by simp [btwB]; omega
    have HB : Hid (btwB (s.size : Int) 1 64 = false):=hb
    have E : Hid (nameB s = false):=nameB_not (fun h=>h1 ⟨h.1,h.2.1⟩)
    clear hb h1
    go_enter Tryz.func138,Tryz.ntmps138
    go_wp2_with fail
    refine (between_any _ _ _ _).mono ?_
    rintro e w1 ⟨rfl,hw⟩
    rw [HB.out]
    replace hw:=hw.symm
    subst hw
    go_wp2
    go_ret
    exact ⟨ret_bool E.out.symm,rfl⟩
end Go.Proofs.YtkmdbpaeeagccaaGreatDoor
