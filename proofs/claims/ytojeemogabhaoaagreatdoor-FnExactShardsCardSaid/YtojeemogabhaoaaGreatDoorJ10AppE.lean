import Derived.Test.YtojeemogabhaoaaGreatDoorProg
import Derived.Test.YtojeemogabhaoaaGreatDoorJ01BlkN
import Derived.Test.YtojeemogabhaoaaGreatDoorJ04SNum
import Derived.Deep.AppendLies
import Derived.Test.YtojeemogabhaoaaGreatDoorJ09SRune
import Derived.Test.YtojeemogabhaoaaGreatDoorJ05Cfg
import Derived.Test.YtojeemogabhaoaaGreatDoorJ03LabB
import Derived.Deep.OwnRows
import Derived.Laws.OwnMore
import Derived.Tactics
namespace Go.Proofs.YtojeemogabhaoaaGreatDoor
open Go.RowKit
def NumsIn (w : World) (a : Option Addr) (l : List Int) : Prop := l = [] ∨ ∃ b o, a = some ⟨b, o, none⟩ ∧ b < w.heap.size ∧ ∀ i (h : i < l.length), w.cell? ⟨b, o + i, none⟩ = some (.int .i64 l[i])
theorem NumsIn.later {w w' : World} {a : Option Addr} {l : List Int} (h : NumsIn w a l) (hb : Below w.heap.size w w') : NumsIn w' a l := by
  rcases h with h | ⟨b, o, rfl, hlt, h⟩
  · exact Or.inl h
  · exact Or.inr ⟨b, o, rfl, Nat.lt_of_lt_of_le hlt hb.size, fun i hi => by rw [← h i hi]; exact hb.cell hlt⟩
theorem NumsIn.at {w : World} {a : Option Addr} {l : List Int} (h : NumsIn w a l) {i : Nat} (hi : i < l.length) : ∃ b o, a = some ⟨b, o, none⟩ ∧ b < w.heap.size ∧ w.cell? ⟨b, o + i, none⟩ = some (.int .i64 l[i]) := by
  rcases h with rfl | ⟨b, o, rfl, hlt, h⟩
  · exact absurd hi (by simp)
  · exact ⟨b, o, rfl, hlt, h i hi⟩
theorem nums_of_row {w : World} {B : Nat} {e : TypeId} {a : Option Addr} {cap : Nat} {l : List Int} (h : w.ownsRow B e 1 (.slice a l.length cap) l.length (l.map (Value.int .i64))) : NumsIn w a l := by
  rcases h.2 with ⟨_, hl⟩ | ⟨g, cap', cur, he, hB, hg, _, _, hsz, htk⟩
  · exact Or.inl (List.length_eq_zero_iff.1 hl)
  · simp only [Value.slice.injEq] at he
    refine Or.inr ⟨g, 0, he.1, lt_of_block hg, fun i hi => ?_⟩
    rw [Nat.zero_add, cell_of_row w g i cur _ _ hg]
    have h2 : (cur.toList.take (l.length * 1))[i]? = (l.map (Value.int .i64))[i]? := by rw [htk]
    rw [List.getElem?_take_of_lt (by omega)] at h2
    rw [← Array.getElem?_toList, h2]
    simp [List.getElem?_eq_getElem hi]
theorem info_num : ∃ i, Tryz.prog.info? 3 = some i ∧ i.zero = some (.int .i64 0) ∧ i.size = 1 ∧ i.bytes = 8 := by
  have h : (Tryz.prog.info? 3).map (fun i => (i.zero, i.size, i.bytes)) = some (some (.int .i64 0), 1, 8) := by kernel_rfl
  obtain ⟨i, hi, hz⟩ := Option.map_eq_some_iff.1 h
  simp only [Prod.mk.injEq] at hz
  exact ⟨i, hi, hz.1, hz.2.1, hz.2.2⟩
end Go.Proofs.YtojeemogabhaoaaGreatDoor
namespace Go.Proofs.YtojeemogabhaoaaGreatDoor
open Go.RowKit
def runI (acc : List Nat) : List Int := acc.map fun (r : Nat) => (r : Int)
theorem runI_len (acc : List Nat) : (runI acc).length = acc.length := by simp [runI]
theorem runI_snoc (acc : List Nat) (r : Nat) : runI (acc ++ [r]) = runI acc ++ [(r : Int)] := by simp [runI]
theorem ctl_btw (r : Nat) (h : ¬ r < 32) : btwB (r : Int) 127 159 = ctl r := by
  unfold btwB ctl
  rw [Bool.eq_iff_iff]
  simp
  omega
theorem any_split (l : List Nat) (k : Nat) (h : k < l.length) : l.any ctl = ((l.take k).any ctl || (ctl l[k] || (l.drop (k + 1)).any ctl)) := by
  have e := List.take_append_drop k l
  rw [List.drop_eq_getElem_cons h] at e
  rw [← List.any_cons, ← List.any_append, e]
set_option maxRecDepth 100000 in
set_option maxHeartbeats 2000000 in
theorem specVal_any (s : ByteArray) (w : World) (hs : s.size ≤ 1000000000) :
    Calls Tryz.prog 55 #[.string s] w fun e w' => e = .returned (.int .i64 (valV s : Nat)) ∧ Below w.heap.size w w' := by
  obtain ⟨ti, hti, hz0, hz1, hz2⟩ := info_num
  have HI : Hid (Tryz.prog.info? 3 = some ti) := hti
  clear hti
  go_enter Tryz.func55, Tryz.ntmps55
  go_wp2
  go_loopw [3, 4, 5, 6] (fun out at_ _ _ wr => ∃ (p : Nat) (acc : List Nat) (av : Option Addr) (cv : Nat), p ≤ s.size ∧ acc.length ≤ p ∧ Hid (RInv s p acc ∧ ∀ i (h : i < acc.length), acc[i] ≤ 1114111) ∧ at_ = .int .i64 p ∧ out = .slice av acc.length cv ∧ Hid (wr.ownsRow w.heap.size 3 1 (.slice av acc.length cv) acc.length ((runI acc).map (Value.int .i64))) ∧ Below w.heap.size w wr) (fun _ at_ _ _ _ => s.size - (intOf at_).toNat)
  case atStart =>
    exact ⟨0, [], _, _, Nat.zero_le _, Nat.zero_le _, ⟨RInv.start s, fun i h => absurd h (by simp)⟩, rfl, rfl, World.ownsRow_made w #[] 0 (Nat.le_refl _) (by simp [maxLen]) (by simp), bnew _ _⟩
  case round =>
    obtain ⟨p, acc, av, cv, hp, hac, HR, rfl, rfl, hrow, hbel⟩ := hrel
    have hsz := hbel.size
    by_cases hlt : p < s.size
    · have hz : (s.extract p s.size).size = s.size - p := by simp
      have hfi := fun W => specRune_any (s.extract p s.size) W (by omega) (by unfold maxLen; omega)
      rw [l3r_at] at hfi
      by_cases hd : Utf8.decode s p = (65533, 1)
      · rw [if_pos hd] at hfi
        have HFI : Hid (∀ W, Calls Tryz.prog 84 #[.string (s.extract p s.size)] W fun e w' => e = .returned (.tuple #[.int .i64 0, .int .i64 0]) ∧ w' = W) := hfi
        have HE : Hid (valV s = 42) := HR.out.1.bad hlt hd
        clear hfi hd hz
        go_wp2_with fail
        refine (HFI.out _).mono ?_
        rintro e w1 ⟨rfl, hw⟩
        replace hw := hw.symm
        subst hw
        go_wp2
        go_ret
        exact ⟨ret_int (by rw [HE.out]; rfl), hbel⟩
      · rw [if_neg hd] at hfi
        have hpos := decode_pos s p
        have hfit := decode_fits s p hlt hd
        have hrun := decode_rune s p
        have HST : Hid (RInv s (p + (Utf8.decode s p).2) (acc ++ [(Utf8.decode s p).1])) := HR.out.1.step hlt hd
        generalize (Utf8.decode s p).1 = R at *
        generalize (Utf8.decode s p).2 = N at *
        have HFI : Hid (∀ W, Calls Tryz.prog 84 #[.string (s.extract p s.size)] W fun e w' => e = .returned (.tuple #[.int .i64 (R : Nat), .int .i64 (N : Nat)]) ∧ w' = W) := hfi
        have hn0 : ((N : Int) == 0) = false := by simp; omega
        obtain ⟨hr1, hr2⟩ := hrun
        clear hfi hd hz
        go_wp2_with fail
        refine (HFI.out _).mono ?_
        rintro e w1 ⟨rfl, hw⟩
        replace hw := hw.symm
        subst hw
        go_wp2_with (at_builtin; refine wpList_append_lies _ rfl _ _ _ rfl w.heap.size 3 ti _ 1 8 Tryz.underlying130 HI.out hz0 hz1 hz2 rfl (by omega) (.slice av acc.length cv) acc.length ((runI acc).map (Value.int .i64)) rfl (by exact row_later hrow.out (bnew _ _)) ⟨wr.heap.size, 0, none⟩ 1 1 [.int .i64 (R : Int)] rfl rfl (by exact World.news_of_block (heap_alloc_new _ _)) (by simp [Value.oneCell']) (by omega) (by simp [maxLen]; omega) (by omega) (by simp; omega) (wr.heap.size + 1) (by simp) ?_; intro g5 cap5 w5 hown5 hgrow5 hat5 hlt5)
        have hB5 : Below w.heap.size w w5 := (bto hbel (bnew _ _)).grown hgrow5 (by simp; omega) (fun q hq => by
          rcases hrow.out.2 with ⟨he, _⟩ | ⟨g, cap, cur, he, hB, _⟩
          · rw [he] at hq; simp [Value.ownBlock] at hq
          · rw [he] at hq; simp [Value.ownBlock] at hq; omega)
        have hxs : (runI acc).map (Value.int .i64) ++ [Value.int .i64 (R : Int)] = (runI (acc ++ [R])).map (Value.int .i64) := by simp [runI_snoc]
        have hle : (acc ++ [R]).length = acc.length + 1 := by simp
        rw [hxs, ← hle] at hown5
        refine ⟨⟨p + N, acc ++ [R], some ⟨g5, 0, none⟩, cap5, by omega, by rw [hle]; omega, ⟨HST.out, fun i hi => ?_⟩, by go_num, by rw [hle], hown5, hB5⟩, by simp [intOf]; omega⟩
        by_cases e : i < acc.length
        · rw [List.getElem_append_left e]; exact HR.out.2 i e
        · rw [List.getElem_append_right (by omega)]; simp; exact hr1
    · have HE : Hid (valV s = endV acc) := HR.out.1.done (by omega)
      by_cases h128 : 128 < acc.length
      · have HE2 : Hid (valV s = 43) := by show _ = _; rw [HE.out, endV, if_pos h128]
        go_wp2
        go_ret
        exact ⟨ret_int (by rw [HE2.out]; rfl), hbel⟩
      · have HE2 : Hid (valV s = if acc.any ctl = true then 44 else 0) := by show _ = _; rw [HE.out, endV, if_neg h128]
        have HN : Hid (NumsIn wr av (runI acc)) := nums_of_row (by rw [runI_len]; exact hrow.out)
        have HA : Hid (∀ i (h : i < acc.length), acc[i] ≤ 1114111) := HR.out.2
        clear hrow HR HE
        go_wp2
        go_loop [8, 35] (fun _ i => ∃ k : Nat, k ≤ acc.length ∧ i = .int .i64 k ∧ Hid ((acc.take k).any ctl = false)) (fun _ i => acc.length - (intOf i).toNat)
        case atStart => exact ⟨0, Nat.zero_le _, rfl, by show _ = _; simp⟩
        case round =>
          obtain ⟨k, hk, rfl, HK⟩ := hrel
          by_cases hlk : k < acc.length
          · obtain ⟨b, o, rfl, hb, c0⟩ := HN.out.at (i := k) (by rw [runI_len]; exact hlk)
            have hr := HA.out k hlk
            have e0 : (runI acc)[k]'(by rw [runI_len]; exact hlk) = ((acc[k] : Nat) : Int) := by simp [runI]
            rw [e0] at c0
            have HYES : Hid (ctl acc[k] = true → valV s = 44) := fun h => by rw [HE2.out, any_split acc k hlk, h]; simp
            have HNO : Hid (ctl acc[k] = false → (acc.take (k + 1)).any ctl = false) := fun h => by rw [List.take_succ_eq_append_getElem hlk, List.any_append, HK.out]; simp [h]
            have HB := ctl_btw acc[k]
            clear e0
            generalize acc[k] = R at *
            by_cases h32 : R < 32
            · have E : Hid (ctl R = true) := by show _ = _; simp [ctl, h32]
              clear HB
              go_wp2
              go_ret
              exact ⟨ret_int (by rw [HYES.out E.out]; rfl), hbel⟩
            · have HBT : Hid (btwB (R : Int) 127 159 = ctl R) := HB h32
              clear HB
              by_cases hc : ctl R = true
              · have HB2 : Hid (btwB (R : Int) 127 159 = true) := HBT.out.trans hc
                have HC : Hid (ctl R = true) := hc
                clear hc
                go_wp2_with fail
                refine (between_any _ _ _ _).mono ?_
                rintro e w1 ⟨rfl, hw⟩
                rw [HB2.out]
                replace hw := hw.symm
                subst hw
                go_wp2
                go_ret
                exact ⟨ret_int (by rw [HYES.out HC.out]; rfl), hbel⟩
              · have HC : Hid (ctl R = false) := by show _ = _; simpa using hc
                have HB2 : Hid (btwB (R : Int) 127 159 = false) := HBT.out.trans HC.out
                clear hc
                go_wp2_with fail
                refine (between_any _ _ _ _).mono ?_
                rintro e w1 ⟨rfl, hw⟩
                rw [HB2.out]
                replace hw := hw.symm
                subst hw
                go_wp2
                exact ⟨⟨k + 1, by omega, by go_num, HNO.out HC.out⟩, by simp [intOf]; omega⟩
          · have HV : Hid (valV s = 0) := by
              show _ = _
              have := HK.out
              rw [List.take_of_length_le (by omega)] at this
              rw [HE2.out, this]; rfl
            go_wp2
            go_ret
            exact ⟨ret_int (by rw [HV.out]; rfl), hbel⟩
end Go.Proofs.YtojeemogabhaoaaGreatDoor
namespace Go.Proofs.YtojeemogabhaoaaGreatDoor
open Go.RowKit
theorem or_i64 (a b : Nat) (ha : a < 4611686018427387904) (hb : b < 4611686018427387904) : bits .or .i64 (a : Int) (b : Int) = ((a ||| b : Nat) : Int) := by
  have hx : a ||| b < 2 ^ 62 := Nat.or_lt_two_pow (by omega) (by omega)
  show IntKind.i64.wrap ((BitVec.ofInt 64 (a : Int) ||| BitVec.ofInt 64 (b : Int)).toNat : Int) = _
  rw [BitVec.toNat_or, BitVec.ofInt_natCast, BitVec.ofInt_natCast, BitVec.toNat_ofNat, BitVec.toNat_ofNat, Nat.mod_eq_of_lt (by omega), Nat.mod_eq_of_lt (by omega)]
  simp only [IntKind.wrap, IntKind.bits, IntKind.signed]
  simp
  omega
theorem or_low (a b : Nat) (hb : b < 256) (ha : a < 281474976710656) : bits .or .i64 ((a : Int) * 256) (b : Int) = ((a * 256 + b : Nat) : Int) := by
  have hx : a * 256 ||| b = a * 256 + b := by
    have := Nat.two_pow_add_eq_or_of_lt (i := 8) (b := b) (by omega) a
    rw [show 2 ^ 8 * a = a * 256 by omega] at this
    exact this.symm
  rw [← hx]
  exact or_i64 (a * 256) b (by omega) (by omega)
set_option maxRecDepth 100000 in
set_option maxHeartbeats 1000000 in
theorem implNum_any (s : ByteArray) (w : World) (hs : s.size ≤ 7) :
    Calls Tryz.prog 156 #[.string s] w fun e w' => e = .returned (.int .i64 (beL s.data.toList : Nat)) ∧ w' = w := by
  go_enter Tryz.func156, Tryz.ntmps156
  go_wp2
  go_loopw [3, 4, 7] (fun x _ c wr => ∃ (k X : Nat), k ≤ s.size ∧ c = .int .i64 k ∧ x = .int .i64 X ∧ X < 256 ^ k ∧ Hid (X = beL (s.data.toList.take k)) ∧ wr = w) (fun _ _ c _ => s.size - (intOf c).toNat)
  case atStart => exact ⟨0, 0, by omega, rfl, rfl, by simp, by show _ = _; simp [beL], rfl⟩
  case round =>
    obtain ⟨k, X, hk, rfl, rfl, hX, hx, rfl⟩ := hrel
    by_cases hlt : k < s.size
    · have hc := (s[k]).toNat_lt
      have hX6 : X < 281474976710656 := Nat.lt_of_lt_of_le hX (Nat.pow_le_pow_right (n := 256) (by omega) (show k ≤ 6 by omega))
      have ho := or_low X (s[k]).toNat (by omega) (by omega)
      go_wp2
      refine ⟨⟨k + 1, X * 256 + (s[k]).toNat, by omega, by go_num, ?_, ?_, ?_, trivial⟩, by simp [intOf]; omega⟩
      · go_num
      · rw [Nat.pow_succ]; omega
      · show _ = _
        rw [take_snoc s k hlt, beL_snoc, ← hx.out]
    · have e : k = s.size := by omega
      subst e
      go_wp2
      go_ret
      refine ⟨?_, rfl⟩
      show Ending.returned (.int .i64 (X : Nat)) = _
      rw [hx.out, List.take_of_length_le (by simp)]
end Go.Proofs.YtojeemogabhaoaaGreatDoor
namespace Go.Proofs.YtojeemogabhaoaaGreatDoor
open Go.RowKit
def RB (w : World) (B : Nat) (r : Rd) : Prop := Blk w B #[.string r.rest, .bool r.short] 184
set_option maxRecDepth 100000 in
set_option maxHeartbeats 1000000 in
theorem take_any (B : Nat) (r : Rd) (n : Nat) (w : World) (hB : RB w B r) (hn : n ≤ 70000) (hs : r.rest.size ≤ 1000000000) :
    Calls Tryz.prog 157 #[.pointer (some ⟨B, 0, none⟩), .int .i64 (n : Nat)] w fun e w' => e = .returned (.string (takeR n r).1) ∧ RB w' B (takeR n r).2 ∧ But B w w' := by
  have HB : Hid (RB w B r) := hB
  have x0 := Blk.cell hB 0
  have x1 := Blk.cell hB 1
  simp only [List.getElem?_toArray, List.getElem?_cons_zero, List.getElem?_cons_succ] at x0 x1
  have f0 := Blk.free hB 0
  have f1 := Blk.free hB 1
  obtain ⟨rest, short⟩ := r
  simp only at x0 x1 hs
  clear hB
  by_cases h : rest.size < n
  · have E : Hid (takeR n ⟨rest, short⟩ = (ByteArray.empty, ⟨rest, true⟩)) := by show _ = _; unfold takeR; rw [if_pos h]
    rw [E.out]
    go_enter Tryz.func157, Tryz.ntmps157
    go_wp2
    go_ret
    exact ⟨rfl, Blk.set HB.out 1 (.bool true), (But.refl _ _).setCell _ _⟩
  · have E : Hid (takeR n ⟨rest, short⟩ = (rest.extract 0 n, ⟨rest.extract n rest.size, short⟩)) := by show _ = _; unfold takeR; rw [if_neg h]
    have h' : ¬ ((rest.size : Int) < (n : Int)) := by omega
    rw [E.out]
    go_enter Tryz.func157, Tryz.ntmps157
    go_wp2
    go_ret
    exact ⟨rfl, Blk.set HB.out 0 (.string (rest.extract n rest.size)), (But.refl _ _).setCell _ _⟩
set_option maxRecDepth 100000 in
theorem number_any (B : Nat) (r : Rd) (k : Nat) (w : World) (hB : RB w B r) (hk : k ≤ 2) (hs : r.rest.size ≤ 1000000000) :
    Calls Tryz.prog 151 #[.pointer (some ⟨B, 0, none⟩), .int .i64 (k : Nat)] w fun e w' => e = .returned (.int .i64 ((numR k r).1 : Nat)) ∧ RB w' B (numR k r).2 ∧ But B w w' := by
  have HC : Hid (Calls Tryz.prog 157 #[.pointer (some ⟨B, 0, none⟩), .int .i64 (k : Nat)] w fun e w' => e = .returned (.string (takeR k r).1) ∧ RB w' B (takeR k r).2 ∧ But B w w') := take_any B r k w hB (by omega) hs
  have HN : Hid (∀ W, Calls Tryz.prog 156 #[.string (takeR k r).1] W fun e w' => e = .returned (.int .i64 (beL (takeR k r).1.data.toList : Nat)) ∧ w' = W) := fun W => implNum_any _ W (by have := (take_le k r).1; omega)
  show Calls _ _ _ _ fun e w' => e = .returned (.int .i64 (beL (takeR k r).1.data.toList : Nat)) ∧ RB w' B (takeR k r).2 ∧ But B w w'
  clear hB
  generalize beL (takeR k r).1.data.toList = N at *
  generalize (takeR k r).1 = T at *
  generalize (takeR k r).2 = r' at *
  go_enter Tryz.func151, Tryz.ntmps151
  go_wp2_with fail
  refine HC.out.mono ?_
  rintro e w1 ⟨rfl, hr1, hb1⟩
  have H1 : Hid (RB w1 B r' ∧ But B w w1) := ⟨hr1, hb1⟩
  clear hr1 hb1 HC
  go_wp2_with fail
  refine (HN.out _).mono ?_
  rintro e w2 ⟨rfl, hw⟩
  replace hw := hw.symm
  subst hw
  go_wp2
  go_ret
  exact ⟨rfl, H1.out⟩
set_option maxRecDepth 100000 in
theorem text_any (B : Nat) (r : Rd) (k : Nat) (w : World) (hB : RB w B r) (hk : k ≤ 2) (hs : r.rest.size ≤ 1000000000) :
    Calls Tryz.prog 152 #[.pointer (some ⟨B, 0, none⟩), .int .i64 (k : Nat)] w fun e w' => e = .returned (.string (textR k r).1) ∧ RB w' B (textR k r).2 ∧ But B w w' := by
  have HC : Hid (Calls Tryz.prog 151 #[.pointer (some ⟨B, 0, none⟩), .int .i64 (k : Nat)] w fun e w' => e = .returned (.int .i64 ((numR k r).1 : Nat)) ∧ RB w' B (numR k r).2 ∧ But B w w') := number_any B r k w hB hk hs
  have hlt : (numR k r).1 < 65536 := by
    have h1 := num_lt k r
    have h2 : 256 ^ k ≤ 256 ^ 2 := Nat.pow_le_pow_right (by omega) hk
    omega
  have hsz : (numR k r).2.rest.size ≤ 1000000000 := by
    have := (take_le k r).2.2
    show (takeR k r).2.rest.size ≤ _
    omega
  have HT : Hid (∀ W, RB W B (numR k r).2 → Calls Tryz.prog 157 #[.pointer (some ⟨B, 0, none⟩), .int .i64 ((numR k r).1 : Nat)] W fun e w' => e = .returned (.string (textR k r).1) ∧ RB w' B (textR k r).2 ∧ But B W w') := fun W h => take_any B _ _ W h (by omega) hsz
  clear hB
  generalize (textR k r).1 = T at *
  generalize (textR k r).2 = r' at *
  generalize (numR k r).1 = N at *
  generalize (numR k r).2 = r1 at *
  go_enter Tryz.func152, Tryz.ntmps152
  go_wp2_with fail
  refine HC.out.mono ?_
  rintro e w1 ⟨rfl, hr1, hb1⟩
  have H1 : Hid (RB w1 B r1 ∧ But B w w1) := ⟨hr1, hb1⟩
  clear hr1 hb1 HC
  go_wp2_with fail
  refine (HT.out _ H1.out.1).mono ?_
  rintro e w2 ⟨rfl, hr2, hb2⟩
  have H2 : Hid (RB w2 B r' ∧ But B w w2) := ⟨hr2, H1.out.2.trans hb2⟩
  clear hr2 hb2
  go_wp2
  go_ret
  exact ⟨rfl, H2.out⟩
theorem row_but0 {w w' : World} {B base : Nat} {e : TypeId} {size : Nat} {v : Value} {n : Nat} {xs : List Value} (h : w.ownsRow base e size v n xs) (hb : But B w w') (hB : B < base) : w'.ownsRow base e size v n xs := by
  obtain ⟨h1, h2⟩ := h
  refine ⟨h1, ?_⟩
  rcases h2 with h2 | ⟨g, cap, cur, hv, hg, hh, r⟩
  · exact Or.inl h2
  · exact Or.inr ⟨g, cap, cur, hv, hg, (hb.block g (lt_of_block hh) (by omega)).trans hh, r⟩
theorem But.alloc {B : Nat} {w w' : World} (h : But B w w') (o : Obj) : But B w (w'.alloc o) := h.trans (But.of (bnew _ _))
end Go.Proofs.YtojeemogabhaoaaGreatDoor
namespace Go.Proofs.YtojeemogabhaoaaGreatDoor
open Go.RowKit
theorem info_label : (Tryz.prog.info? 135).map (fun i => (i.zero, i.size, i.bytes)) = some (some (.agg #[.string ByteArray.empty, .string ByteArray.empty]), 2, 32) := by kernel_rfl
theorem make_labels (n : Nat) (hn : n ≤ 1048576) (w : World) :
    (Instr.makeSlice 91 (.int .i64 (n : Int)) (.int .i64 (n : Int))).run Tryz.prog w = .ok (.slice (some ⟨w.heap.size, 0, none⟩) n n) (w.alloc (.cells (madeCells #[.string ByteArray.empty, .string ByteArray.empty] (n * 2)) 135)) := by
  obtain ⟨i, hi, hzz⟩ := Option.map_eq_some_iff.1 info_label
  simp only [Prod.mk.injEq] at hzz
  obtain ⟨hz, hs, hb⟩ := hzz
  have hr := run_make (P := Tryz.prog) w 91 135 i _ Tryz.underlying91 hi hz .i64 .i64 n n (by omega) (Int.le_refl _) (by rw [hb]; omega) (by omega)
  simp only [Int.toNat_natCast, hs] at hr
  exact hr
def FillL (w : World) (g n : Nat) (fs : List LabD) (k : Nat) : Prop := ∃ cur : Array Value, w.heap[g]? = some (.cells cur 135 (0, 0)) ∧ cur.size = n * 2 ∧
  ∀ i (h : i < fs.length), i < k → cur[i * 2]? = some (.string fs[i].name) ∧ cur[i * 2 + 1]? = some (.string fs[i].value)
theorem FillL.later {w w' : World} {g n k : Nat} {fs : List LabD} {B : Nat} (h : FillL w g n fs k) (hb : Below B w w') (hg : g < B) : FillL w' g n fs k := by
  obtain ⟨cur, h1, h2⟩ := h
  exact ⟨cur, by rw [hb.block g hg]; exact h1, h2⟩
theorem FillL.cells {w : World} {g n k : Nat} {fs : List LabD} (h : FillL w g n fs k) {j : Nat} (hj : j < n * 2) : (∃ v, w.cell? ⟨g, j, none⟩ = some v) ∧ w.frozen? ⟨g, j, none⟩ = false := by
  obtain ⟨cur, h1, h2, _⟩ := h
  refine ⟨⟨cur[j], ?_⟩, frozen_of_row w g j cur _ h1⟩
  rw [cell_of_row w g j cur _ _ h1]
  exact Array.getElem?_eq_getElem (by omega)
theorem FillL.step {w : World} {g n k : Nat} {fs : List LabD} (h : FillL w g n fs k) (hk : k < fs.length) (hn : fs.length ≤ n) :
    FillL ((w.setCell ⟨g, k * 2, none⟩ (.string fs[k].name)).setCell ⟨g, k * 2 + 1, none⟩ (.string fs[k].value)) g n fs (k + 1) := by
  obtain ⟨cur, h1, h2, h3⟩ := h
  refine ⟨_, heap_setCell_same _ _ _ _ _ _ (heap_setCell_same _ _ _ _ _ _ h1), by simp [h2], fun i hi hlt => ?_⟩
  by_cases e : i = k
  · subst e
    refine ⟨?_, ?_⟩ <;> simp [Array.getElem?_setIfInBounds] <;> omega
  · obtain ⟨a1, a2⟩ := h3 i hi (by omega)
    refine ⟨?_, ?_⟩
    · rw [Array.getElem?_setIfInBounds_ne (by omega), Array.getElem?_setIfInBounds_ne (by omega)]; exact a1
    · rw [Array.getElem?_setIfInBounds_ne (by omega), Array.getElem?_setIfInBounds_ne (by omega)]; exact a2
theorem FillL.done {w : World} {g B : Nat} {fs : List LabD} (h : FillL w g fs.length fs fs.length) (hB : B ≤ g) : LabsOwn w B (some ⟨g, 0, none⟩) fs := by
  obtain ⟨cur, h1, h2, h3⟩ := h
  refine Or.inr ⟨g, 0, cur, _, rfl, hB, h1, fun i hi => ?_⟩
  obtain ⟨a1, a2⟩ := h3 i hi hi
  simp only [cell_of_row w g _ cur _ _ h1, Nat.zero_add]
  exact ⟨a1, a2⟩
end Go.Proofs.YtojeemogabhaoaaGreatDoor
namespace Go.Proofs.YtojeemogabhaoaaGreatDoor
open Go.RowKit
theorem run_append_empty {P : Program} {w : World} (base : Nat) (t ty e : TypeId) (i : TypeInfo) (size : Nat) (ht : P.underlying t = some (.slice e)) (hi : P.info? e = some i)
    (v : Value) (n : Nat) (xs : List Value) (hown : w.ownsRow base e size v n xs) (a2 : Option Addr) (c2 : Nat) :
    (Builtin.append_ #[t, t] ty #[v, .slice a2 0 c2]).run P w = .ok v w := by
  have hl : ∀ ad : Addr, (loadCells ad 0).run P w = .ok #[] w := fun ad => by
    simp [loadCells, loadCellsFrom]
  rcases hown.2 with ⟨rfl, rfl⟩ | ⟨g, cap, cur, rfl, _, _, hnc, _⟩
  · cases a2 <;> simp [Builtin.append_, run_underlying ht, sizeOf, typeInfo, hi, Builtin.lenOf, Builtin.firstCells, hl]
  · cases a2 <;> simp [Builtin.append_, run_underlying ht, sizeOf, typeInfo, hi, Builtin.lenOf, Builtin.firstCells, hnc, storeCells, hl]
theorem wpList_append_empty {P : Program} {w : World} {ops : Array Oper} {rest : List Oper} {o : Oper} {a : Act} {Q : Exit → Act → World → Prop} (hgd : o.guard = none) (s x : Operand) (t : TypeId)
    (ho : o.op = .call { callee := .builtin .append, args := #[s, x], argTypes := #[t, t] })
    (base : Nat) (e : TypeId) (i : TypeInfo) (size : Nat) (ht : P.underlying t = some (.slice e)) (hi : P.info? e = some i)
    (v : Value) (n : Nat) (xs : List Value) (hs : a.eval s = v) (hown : w.ownsRow base e size v n xs) (a2 : Option Addr) (c2 : Nat) (hx : a.eval x = .slice a2 0 c2)
    (h : wpList P ops Q rest (a.put o.dst v) w) : wpList P ops Q (o :: rest) a w := by
  refine wpList_plain hgd fun K hK => ?_
  have hrun := run_append_empty (P := P) (w := w) base t o.type e i size ht hi v n xs hown a2 c2
  unfold Oper.wp
  simp [execOp, ho, resolve, invoke, builtin, hs, hx, hrun, Result.andThen]
  exact hK _ _ h
end Go.Proofs.YtojeemogabhaoaaGreatDoor
