import Derived.Test.YtgpgacncmoiefaaProg
import Derived.Test.YtgpgacncmoiefaaSNumL
import Derived.Test.YtgpgacncmoiefaaLooL
import Derived.Test.YtgpgacncmoiefaaSBat
import Derived.Test.YtgpgacncmoiefaaRecI
import Derived.Test.YtgpgacncmoiefaaTurn
import Derived.Deep.AppendLies
namespace Go.Proofs.Ytgpgacncmoiefaa
open Go.RowKit

def flatQ (rs : List RecD) : List Value := rs.flatMap fun x => [.int .i64 x.kind, .string x.tenant, .string x.text, .int .i64 x.num]
theorem flatQ_append (a b : List RecD) : flatQ (a ++ b) = flatQ a ++ flatQ b := by simp [flatQ]
theorem info_recQ : ∃ i, Try.prog.info? 67 = some i ∧ i.zero = some (.agg #[.int .i64 0, .string ByteArray.empty, .string ByteArray.empty, .int .i64 0]) ∧ i.size = 4 ∧ i.bytes = 48 := by
  obtain ⟨i, hi, hz⟩ := Option.map_eq_some_iff.1 info_rec
  simp only [Prod.mk.injEq] at hz
  exact ⟨i, hi, hz.1, hz.2.1, hz.2.2⟩
theorem row_formQ {W : World} {B : Nat} {e : TypeId} {size : Nat} {v : Value} {n : Nat} {xs : List Value} (h : W.ownsRow B e size v n xs) : ∃ a c, v = .slice a n c := by
  rcases h.2 with ⟨rfl, rfl⟩ | ⟨g, cap, cur, rfl, _⟩
  · exact ⟨none, 0, rfl⟩
  · exact ⟨_, _, rfl⟩
theorem own_setQ {w : World} {B g o : Nat} {v : Value} {a : Option Addr} {xs : List RecD} (h : RecsOwn w B a xs) (hg : g < B) : RecsOwn (w.setCell ⟨g, o, none⟩ v) B a xs := by
  rcases h with h | ⟨g', o', cur, t, rfl, hB, hb, hat⟩
  · exact Or.inl h
  · have hk : (w.setCell ⟨g, o, none⟩ v).heap[g']? = w.heap[g']? := ((But.refl g w).setCell o v).block g' (lt_of_block hb) (by omega)
    have hc : ∀ j, (w.setCell ⟨g, o, none⟩ v).cell? ⟨g', j, none⟩ = w.cell? ⟨g', j, none⟩ := fun j => World.cell?_of_block hk
    exact Or.inr ⟨g', o', cur, t, rfl, hB, hk.trans hb, fun i hi => by simp only [hc]; exact hat i hi⟩
theorem lK_le {s : ByteArray} {p0 : Option Nat} (h0 : ∀ q, p0 = some q → q ≤ s.size) : ∀ k q, (lK s p0 k).2 = some q → q ≤ s.size
  | 0, q, h => h0 q h
  | k + 1, q, h => by
    cases hh : (lK s p0 k).2 with
    | none => rw [lK_none hh, hh] at h; simp at h
    | some p => rw [lK_some hh, lRec] at h; exact lNum_le h
theorem lPart_size (s : ByteArray) (n : Nat) (p : Option Nat) : (lPart s n p).1.size ≤ s.size := by
  cases p with
  | none => simp [lPart]
  | some p =>
    cases hh : partN s p n with
    | none => rw [lPart_not hh]; simp
    | some tr =>
      obtain ⟨t, r⟩ := tr
      rw [lPart_at hh]
      exact (part_le hh).2.1
theorem lK_sizes {s : ByteArray} {p0 : Option Nat} : ∀ k i (h : i < (lK s p0 k).1.length), (lK s p0 k).1[i].tenant.size ≤ s.size ∧ (lK s p0 k).1[i].text.size ≤ s.size
  | 0, i, h => absurd h (by simp [lK])
  | k + 1, i, h => by
    cases hh : (lK s p0 k).2 with
    | none =>
      simp only [lK_none hh] at h ⊢
      exact lK_sizes k i h
    | some p =>
      simp only [lK_some hh]
      rw [List.getElem_append]
      split
      · rename_i h2; exact lK_sizes k i h2
      · simp only [List.getElem_singleton]
        rw [lRec]
        exact ⟨lPart_size _ _ _, lPart_size _ _ _⟩
theorem lCnt_lt (s : ByteArray) : (lCnt s).1 < 65536 := by
  unfold lCnt
  cases (lLsn s).2 with
  | none => simp [lNum]
  | some p =>
    rw [lNum_some]
    split
    · rename_i hh
      have := beL_lt (sectL s p 2)
      rw [sectL_length hh] at this
      simpa using this
    · simp

set_option maxRecDepth 100000 in
set_option maxHeartbeats 8000000 in
theorem specDecB_any (s : ByteArray) (w : World) (hs : s.size ≤ 1000000000) :
    Calls Try.prog 23 #[.string s] w fun e w' => ∃ av cap, e = .returned (.tuple #[.agg #[.int .i64 (decB s).1, .slice av (decB s).2.1.length cap], .bool (decB s).2.2]) ∧ RecsIn w' av (decB s).2.1 ∧ Below w.heap.size w w' := by
  have HN1 : Hid (∀ W, Calls Try.prog 54 #[.string s, .int .i64 0, .int .i64 8] W fun e w' => e = .returned (.tuple #[.int .i64 (wrapN (lLsn s).1), .int .i64 (posV (lLsn s).2)]) ∧ w' = W) := fun W => specNumL_any s 8 (some 0) W hs (fun q h => by cases h; omega) (by omega)
  have hp1 : ∀ q, (lLsn s).2 = some q → q ≤ s.size := fun q h => lNum_le h
  have hcl := lCnt_lt s
  have HN2 : Hid (∀ W, Calls Try.prog 54 #[.string s, .int .i64 (posV (lLsn s).2), .int .i64 2] W fun e w' => e = .returned (.tuple #[.int .i64 ((lCnt s).1 : Nat), .int .i64 (posV (lCnt s).2)]) ∧ w' = W) := fun W => by
    have := specNumL_any s 2 (lLsn s).2 W hs (fun q h => by have := hp1 q h; omega) (by omega)
    rw [show lNum s 2 (lLsn s).2 = lCnt s from rfl, wrapN_small (by omega)] at this
    exact this
  have hp2 : ∀ q, (lCnt s).2 = some q → q ≤ s.size := fun q h => lNum_le h
  have hKle := lK_le hp2
  have HKL : Hid (∀ k q, (lK s (lCnt s).2 k).2 = some q → q ≤ s.size) := hKle
  have HLR : Hid (RngR (lBat s) ∧ BigRs (lBat s) ∧ I64 (wrapN (lLsn s).1) ∧ (lBat s).length ≤ 65536) := ⟨lK_rng _, fun i h => by have := lK_sizes (s := s) (p0 := (lCnt s).2) (lCnt s).1 i h; exact ⟨by have := this.1; exact Nat.le_trans this hs, by have := this.2; exact Nat.le_trans this hs⟩, wrapN_rng _, by have := lK_length (s := s) (p0 := (lCnt s).2) (lCnt s).1; unfold lBat; omega⟩
  have HEN : Hid (∀ W av cap, RecsIn W av (lBat s) → Calls Try.prog 19 #[.agg #[.int .i64 (wrapN (lLsn s).1), .slice av (lBat s).length cap]] W fun e w' => e = .returned (.string (batB (wrapN (lLsn s).1) (lBat s))) ∧ Below W.heap.size W w') := fun W av cap h => specBat_any _ av cap (lBat s) W h HLR.out.2.1 HLR.out.1 HLR.out.2.2.1 (by have := HLR.out.2.2.2; omega)
  have HLB : Hid (lBat s = (lK s (lCnt s).2 (lCnt s).1).1) := rfl
  have HYES : Hid (s.size ≠ 0 → batB (wrapN (lLsn s).1) (lBat s) = s → decB s = (wrapN (lLsn s).1, lBat s, true)) := fun h1 h2 => loose_yes h1 h2
  have HNOT : Hid (s.size = 0 ∨ batB (wrapN (lLsn s).1) (lBat s) ≠ s → decB s = (0, [], false)) := fun h => loose_no h
  have HPOST : Hid (∀ (e : Ending) (w' : World) (D : Int × List RecD × Bool), decB s = D → (∃ av cap, e = .returned (.tuple #[.agg #[.int .i64 D.1, .slice av D.2.1.length cap], .bool D.2.2]) ∧ RecsIn w' av D.2.1 ∧ Below w.heap.size w w') → ∃ av cap, e = .returned (.tuple #[.agg #[.int .i64 (decB s).1, .slice av (decB s).2.1.length cap], .bool (decB s).2.2]) ∧ RecsIn w' av (decB s).2.1 ∧ Below w.heap.size w w') := fun e w' D h hh => by subst h; exact hh
  clear hp1 hp2 hKle HLR
  generalize batB (wrapN (lLsn s).1) (lBat s) = EB at *
  generalize wrapN (lLsn s).1 = L at *
  generalize posV (lLsn s).2 = pL at *
  generalize (lCnt s).1 = n at *
  generalize (lCnt s).2 = p0 at *
  generalize lBat s = LL at *
  obtain ⟨i0, hi0, hq0, hq1, hq2⟩ := info_recQ
  have HI : Hid (Try.prog.info? 67 = some i0) := hi0
  clear hi0
  go_enter Try.func23, Try.ntmps23
  go_wp2_with fail
  refine (HN1.out _).mono ?_
  rintro e w1 ⟨rfl, hw⟩
  replace hw := hw.symm
  subst hw
  go_wp2_with fail
  refine (HN2.out _).mono ?_
  rintro e w1 ⟨rfl, hw⟩
  replace hw := hw.symm
  subst hw
  go_wp2
  go_loopw [6, 9] (fun at_ i wr => ∃ (k : Nat) (v : Value), k ≤ n ∧ i = .int .i64 k ∧ at_ = .int .i64 (posV (lK s p0 k).2) ∧ Hid (Blk wr (w.heap.size + 1) #[.int .i64 L, v] 37 ∧ Blk wr w.heap.size #[.int .i64 0, .slice none 0 0] 37 ∧ wr.ownsRow (w.heap.size + 1 + 1) 67 4 v (lK s p0 k).1.length (flatQ (lK s p0 k).1) ∧ Below w.heap.size w wr)) (fun _ i _ => n - (intOf i).toNat)
  case atStart =>
    refine ⟨0, .slice none 0 0, Nat.zero_le _, rfl, rfl, ?_, ?_, World.ownsRow_nil _ _ _ _, bto (bnew _ _) (bnew _ _)⟩
    · have := Blk.new (w.alloc (.cells #[.int .i64 0, .slice none 0 0] 37)) #[.int .i64 L, .slice none 0 0] 37
      simpa using this
    · exact (Blk.new _ _ _).alloc _
  case round =>
    obtain ⟨k, v, hk, rfl, rfl, HG⟩ := hrel
    have hend : ∀ (_ : LL = (lK s p0 k).1), True := fun _ => trivial
    clear hend
    by_cases hgo : k < n ∧ ∃ p, (lK s p0 k).2 = some p
    · obtain ⟨hlt, p, hp⟩ := hgo
      have hple := HKL.out k p hp
      have hsome := lK_some hp
      have hpv : posV (lK s p0 k).2 = (p : Int) := by rw [hp]; rfl
      have hr : lRec s (some p) = (⟨((lNum s 1 (some p)).1 : Nat), (lPart s 1 (lNum s 1 (some p)).2).1, (lPart s 2 (lPart s 1 (lNum s 1 (some p)).2).2).1, wrapN (lNum s 8 (lPart s 2 (lPart s 1 (lNum s 1 (some p)).2).2).2).1⟩, (lNum s 8 (lPart s 2 (lPart s 1 (lNum s 1 (some p)).2).2).2).2) := by rw [lRec]
      have P1 : Hid (∀ W, Calls Try.prog 54 #[.string s, .int .i64 (p : Nat), .int .i64 1] W fun e w' => e = .returned (.tuple #[.int .i64 ((lNum s 1 (some p)).1 : Nat), .int .i64 (posV (lNum s 1 (some p)).2)]) ∧ w' = W) := fun W => by
        have h := specNumL_any s 1 (some p) W hs (fun q h => by cases h; omega) (by omega)
        have h2 : (lNum s 1 (some p)).1 < 9223372036854775808 := by
          rw [lNum_some]
          split
          · rename_i hh
            have := beL_lt (sectL s p 1)
            rw [sectL_length hh] at this
            simp at this ⊢
            omega
          · simp
        rw [wrapN_small h2] at h
        exact h
      have P2 : Hid (∀ W, Calls Try.prog 55 #[.string s, .int .i64 (posV (lNum s 1 (some p)).2), .int .i64 1] W fun e w' => e = .returned (.tuple #[.string (lPart s 1 (lNum s 1 (some p)).2).1, .int .i64 (posV (lPart s 1 (lNum s 1 (some p)).2).2)]) ∧ w' = W) := fun W => specPartL_any s 1 _ W hs (fun q h => by have := lNum_le h; omega) (by omega)
      have P3 : Hid (∀ W, Calls Try.prog 55 #[.string s, .int .i64 (posV (lPart s 1 (lNum s 1 (some p)).2).2), .int .i64 2] W fun e w' => e = .returned (.tuple #[.string (lPart s 2 (lPart s 1 (lNum s 1 (some p)).2).2).1, .int .i64 (posV (lPart s 2 (lPart s 1 (lNum s 1 (some p)).2).2).2)]) ∧ w' = W) := fun W => specPartL_any s 2 _ W hs (fun q h => by have := lPart_le h; omega) (by omega)
      have P4 : Hid (∀ W, Calls Try.prog 54 #[.string s, .int .i64 (posV (lPart s 2 (lPart s 1 (lNum s 1 (some p)).2).2).2), .int .i64 8] W fun e w' => e = .returned (.tuple #[.int .i64 (wrapN (lNum s 8 (lPart s 2 (lPart s 1 (lNum s 1 (some p)).2).2).2).1), .int .i64 (posV (lNum s 8 (lPart s 2 (lPart s 1 (lNum s 1 (some p)).2).2).2).2)]) ∧ w' = W) := fun W => specNumL_any s 8 _ W hs (fun q h => by have := lPart_le h; omega) (by omega)
      rw [hr] at hsome
      rw [hpv]
      have e1 : (lK s p0 (k + 1)).1 = (lK s p0 k).1 ++ [⟨((lNum s 1 (some p)).1 : Nat), (lPart s 1 (lNum s 1 (some p)).2).1, (lPart s 2 (lPart s 1 (lNum s 1 (some p)).2).2).1, wrapN (lNum s 8 (lPart s 2 (lPart s 1 (lNum s 1 (some p)).2).2).2).1⟩] := by rw [hsome]
      have e2 : (lK s p0 (k + 1)).2 = (lNum s 8 (lPart s 2 (lPart s 1 (lNum s 1 (some p)).2).2).2).2 := by rw [hsome]
      have hlk := lK_length (s := s) (p0 := p0) k
      clear hsome hr hpv hp
      generalize (lNum s 1 (some p)).1 = ki at *
      generalize wrapN (lNum s 8 (lPart s 2 (lPart s 1 (lNum s 1 (some p)).2).2).2).1 = nu at *
      generalize (lNum s 8 (lPart s 2 (lPart s 1 (lNum s 1 (some p)).2).2).2).2 = q4 at *
      generalize (lPart s 2 (lPart s 1 (lNum s 1 (some p)).2).2).1 = tx at *
      generalize (lPart s 2 (lPart s 1 (lNum s 1 (some p)).2).2).2 = q3 at *
      generalize (lPart s 1 (lNum s 1 (some p)).2).1 = te at *
      generalize (lPart s 1 (lNum s 1 (some p)).2).2 = q2 at *
      generalize (lNum s 1 (some p)).2 = q1 at *
      have E1 : Hid (flatQ (lK s p0 (k + 1)).1 = flatQ (lK s p0 k).1 ++ [.int .i64 (ki : Nat), .string te, .string tx, .int .i64 nu] ∧ (lK s p0 (k + 1)).1.length = (lK s p0 k).1.length + 1 ∧ (lK s p0 (k + 1)).2 = q4) := ⟨by rw [e1, flatQ_append]; rfl, by rw [e1]; simp, e2⟩
      clear e1 e2
      generalize posV q1 = z1 at *
      generalize posV q2 = z2 at *
      generalize posV q3 = z3 at *
      generalize hz4 : posV q4 = z4 at *
      have HZ4 : Hid (posV q4 = z4) := hz4
      clear hz4
      generalize hlen : (lK s p0 k).1.length = m at *
      have HLEN : Hid ((lK s p0 k).1.length = m) := hlen
      clear hlen
      have hob : ∀ q, v.ownBlock = some q → w.heap.size + 1 + 1 ≤ q := fun q hq => (HG.out.2.2.1.lt q hq).1
      have agv : v.ownBlock ≠ some (w.heap.size + 1) := fun e => by have := hob _ e; omega
      have hRw : w.heap.size + 1 < wr.heap.size := lt_of_block HG.out.1
      have c1 : wr.cell? ⟨w.heap.size + 1, 1, none⟩ = some v := HG.out.1.cell 1
      go_wp2_with fail
      refine (P1.out _).mono ?_
      rintro e w1 ⟨rfl, hw⟩
      replace hw := hw.symm
      subst hw
      go_wp2_with fail
      refine (P2.out _).mono ?_
      rintro e w1 ⟨rfl, hw⟩
      replace hw := hw.symm
      subst hw
      go_wp2_with fail
      refine (P3.out _).mono ?_
      rintro e w1 ⟨rfl, hw⟩
      replace hw := hw.symm
      subst hw
      go_wp2_with fail
      refine (P4.out _).mono ?_
      rintro e w1 ⟨rfl, hw⟩
      replace hw := hw.symm
      subst hw
      go_wp2_with (at_builtin; refine wpList_append_lies _ rfl _ _ _ rfl (w.heap.size + 1 + 1) 67 i0 _ 4 48 Try.underlying35 HI.out hq0 hq1 hq2 rfl (by omega) v m (flatQ (lK s p0 k).1) rfl (by exact (HG.out.2.2.1.alloc _).alloc _) ⟨wr.heap.size + 1, 0, none⟩ 1 1 [.int .i64 (ki : Nat), .string te, .string tx, .int .i64 nu] rfl rfl (by have := World.news_of_block (cs := #[.int .i64 (ki : Nat), .string te, .string tx, .int .i64 nu]) (t := 67) (fr := (0, 0)) (heap_alloc_new (wr.alloc (.cells #[.int .i64 (ki : Nat), .string te, .string tx, .int .i64 nu] 67)) (.cells #[.int .i64 (ki : Nat), .string te, .string tx, .int .i64 nu] 67)); simpa using this) (by simp [Value.oneCell']) (by omega) (by simp [maxLen]; omega) (by omega) (by simp; omega) (wr.heap.size + 1 + 1) (by simp) ?_; intro g5 cap5 w5 hown5 hgrow5 hat5 hlt5; have HX5 : Hid (Blk w5 (w.heap.size + 1) #[.int .i64 L, v] 37) := (Turn.grown hgrow5).blk ((HG.out.1.alloc _).alloc _) agv; have s5 := HX5.out.cell 1; have f5 := HX5.out.free 1)
      have hgg : w.heap.size + 1 + 1 ≤ g5 := by
        rcases hat5 with h | h
        · exact hob _ h
        · omega
      refine ⟨⟨k + 1, .slice (some ⟨g5, 0, none⟩) (m + 1) cap5, by omega, by go_num, ?_, ?_, ?_, ?_, ?_⟩, by simp [intOf]; omega⟩
      · rw [E1.out.2.2, HZ4.out]
      · have := HX5.out.set 1 (.slice (some ⟨g5, 0, none⟩) (m + 1) cap5); simpa using this
      · exact Blk.but ((Turn.grown hgrow5).blk ((HG.out.2.1.alloc _).alloc _) (fun e => by have := hob _ e; omega)) ((But.refl (w.heap.size + 1) w5).setCell 1 _) (by omega)
      · rw [E1.out.1, E1.out.2.1]; exact ((Turn.refl (· = w.heap.size + 1) w5).setCell (Or.inl rfl) 1 _).row hown5 (fun q hq e => by simp [Value.ownBlock] at hq; omega)
      · exact ((bto (bto HG.out.2.2.2 (bnew _ _)) (bnew _ _)).grown hgrow5 (by have := HG.out.2.2.2.size; simp; omega) (fun q hq => by have := hob q hq; omega)).setCell (by simp) _
    · have hLL : LL = (lK s p0 k).1 := by
        rw [HLB.out]
        rcases Nat.lt_or_ge k n with h | h
        · have hn : (lK s p0 k).2 = none := by
            cases hh : (lK s p0 k).2 with
            | none => rfl
            | some p => exact absurd ⟨h, p, hh⟩ hgo
          rw [lK_stay hn n (by omega)]
        · rw [show k = n by omega]
      have hgb : ¬ k < n ∨ (k < n ∧ posV (lK s p0 k).2 = -1) := by
        rcases Nat.lt_or_ge k n with h | h
        · have hn : (lK s p0 k).2 = none := by
            cases hh : (lK s p0 k).2 with
            | none => rfl
            | some p => exact absurd ⟨h, p, hh⟩ hgo
          exact Or.inr ⟨h, by rw [hn]; rfl⟩
        · exact Or.inl (by omega)
      rw [← hLL] at HG
      have HLL : Hid (LL = (lK s p0 k).1) := hLL
      clear hLL hgo
      obtain ⟨ra, rc, rfl⟩ := row_formQ HG.out.2.2.1
      have x0 : wr.cell? ⟨w.heap.size + 1, 0, none⟩ = some (.int .i64 L) := HG.out.1.cell 0
      have x1 : wr.cell? ⟨w.heap.size + 1, 1, none⟩ = some (.slice ra LL.length rc) := HG.out.1.cell 1
      have y0 : wr.cell? ⟨w.heap.size, 0, none⟩ = some (.int .i64 0) := HG.out.2.1.cell 0
      have y1 : wr.cell? ⟨w.heap.size, 1, none⟩ = some (.slice none 0 0) := HG.out.2.1.cell 1
      have f0 := HG.out.2.1.free 0
      have f1 := HG.out.2.1.free 1
      have HRO : Hid (RecsOwn wr (w.heap.size + 1 + 1) ra LL) := recs_of_row HG.out.2.2.1
      generalize posV (lK s p0 k).2 = zz at *
      by_cases hs0 : s.size = 0
      · have E : Hid (decB s = (0, [], false)) := HNOT.out (Or.inl hs0)
        have hd : (s.toList == []) = true := by rw [bempty']; exact decide_eq_true hs0
        have hde : s.toList.isEmpty = true := by simpa using hd
        clear hs0
        rcases hgb with hg | ⟨hg, rfl⟩
        · go_wp2
          refine bodyPost_ret (v := .tuple #[.agg #[.int .i64 0, .slice none 0 0], .bool false]) (by simp [results, Try.results23, go_sem, y0, y1]) rfl (HPOST.out _ _ _ E.out ⟨none, 0, rfl, Or.inl rfl, ?_⟩)
          exact (HG.out.2.2.2.setCell (by simp) _).setCell (by simp) _
        · go_wp2
          refine bodyPost_ret (v := .tuple #[.agg #[.int .i64 0, .slice none 0 0], .bool false]) (by simp [results, Try.results23, go_sem, y0, y1]) rfl (HPOST.out _ _ _ E.out ⟨none, 0, rfl, Or.inl rfl, ?_⟩)
          exact (HG.out.2.2.2.setCell (by simp) _).setCell (by simp) _
      · have hd : (s.toList == []) = false := by rw [bempty']; exact decide_eq_false hs0
        have hde : s.toList.isEmpty = false := by simpa using hd
        by_cases heq : EB = s
        · have E : Hid (decB s = (L, LL, true)) := HYES.out hs0 heq
          subst heq
          have hR : (EB.toList != EB.toList) = false := by simp
          clear hs0
          rcases hgb with hg | ⟨hg, rfl⟩
          · go_wp2_with fail
            refine (HEN.out _ ra rc HRO.out.recs).mono ?_
            rintro e w3 ⟨rfl, hb3⟩
            have HG3 : Hid (Blk w3 (w.heap.size + 1) #[.int .i64 L, .slice ra LL.length rc] 37 ∧ Blk w3 w.heap.size #[.int .i64 0, .slice none 0 0] 37 ∧ Below w.heap.size w w3 ∧ RecsOwn w3 (w.heap.size + 1 + 1) ra LL) := ⟨HG.out.1.later hb3, HG.out.2.1.later hb3, bto HG.out.2.2.2 hb3, HRO.out.later hb3⟩
            clear x0 x1 y0 y1 f0 f1 hb3 HEN
            have x0 : w3.cell? ⟨w.heap.size + 1, 0, none⟩ = some (.int .i64 L) := HG3.out.1.cell 0
            have x1 : w3.cell? ⟨w.heap.size + 1, 1, none⟩ = some (.slice ra LL.length rc) := HG3.out.1.cell 1
            have y0 : w3.cell? ⟨w.heap.size, 0, none⟩ = some (.int .i64 0) := HG3.out.2.1.cell 0
            have y1 : w3.cell? ⟨w.heap.size, 1, none⟩ = some (.slice none 0 0) := HG3.out.2.1.cell 1
            have f0 := HG3.out.2.1.free 0
            have f1 := HG3.out.2.1.free 1
            go_wp2
            refine bodyPost_ret (v := .tuple #[.agg #[.int .i64 L, .slice ra LL.length rc], .bool true]) (by simp [results, Try.results23, go_sem, y0, y1]) rfl (HPOST.out _ _ _ E.out ⟨ra, rc, rfl, ?_, ?_⟩)
            · exact (own_setQ (own_setQ HG3.out.2.2.2 (by omega)) (by omega)).recs
            · exact (HG3.out.2.2.1.setCell (by simp) _).setCell (by simp) _
          · go_wp2_with fail
            refine (HEN.out _ ra rc HRO.out.recs).mono ?_
            rintro e w3 ⟨rfl, hb3⟩
            have HG3 : Hid (Blk w3 (w.heap.size + 1) #[.int .i64 L, .slice ra LL.length rc] 37 ∧ Blk w3 w.heap.size #[.int .i64 0, .slice none 0 0] 37 ∧ Below w.heap.size w w3 ∧ RecsOwn w3 (w.heap.size + 1 + 1) ra LL) := ⟨HG.out.1.later hb3, HG.out.2.1.later hb3, bto HG.out.2.2.2 hb3, HRO.out.later hb3⟩
            clear x0 x1 y0 y1 f0 f1 hb3 HEN
            have x0 : w3.cell? ⟨w.heap.size + 1, 0, none⟩ = some (.int .i64 L) := HG3.out.1.cell 0
            have x1 : w3.cell? ⟨w.heap.size + 1, 1, none⟩ = some (.slice ra LL.length rc) := HG3.out.1.cell 1
            have y0 : w3.cell? ⟨w.heap.size, 0, none⟩ = some (.int .i64 0) := HG3.out.2.1.cell 0
            have y1 : w3.cell? ⟨w.heap.size, 1, none⟩ = some (.slice none 0 0) := HG3.out.2.1.cell 1
            have f0 := HG3.out.2.1.free 0
            have f1 := HG3.out.2.1.free 1
            go_wp2
            refine bodyPost_ret (v := .tuple #[.agg #[.int .i64 L, .slice ra LL.length rc], .bool true]) (by simp [results, Try.results23, go_sem, y0, y1]) rfl (HPOST.out _ _ _ E.out ⟨ra, rc, rfl, ?_, ?_⟩)
            · exact (own_setQ (own_setQ HG3.out.2.2.2 (by omega)) (by omega)).recs
            · exact (HG3.out.2.2.1.setCell (by simp) _).setCell (by simp) _
        · have E : Hid (decB s = (0, [], false)) := HNOT.out (Or.inr heq)
          have hR : (EB.toList == s.toList) = false := by
            apply Bool.eq_false_iff.2
            intro h
            replace h := eq_of_beq h
            apply heq
            apply bext
            rw [ByteArray.toList_eq, ByteArray.toList_eq] at h
            exact h
          clear hs0 heq
          rcases hgb with hg | ⟨hg, rfl⟩
          · go_wp2_with fail
            refine (HEN.out _ ra rc HRO.out.recs).mono ?_
            rintro e w3 ⟨rfl, hb3⟩
            have HG3 : Hid (Blk w3 (w.heap.size + 1) #[.int .i64 L, .slice ra LL.length rc] 37 ∧ Blk w3 w.heap.size #[.int .i64 0, .slice none 0 0] 37 ∧ Below w.heap.size w w3 ∧ RecsOwn w3 (w.heap.size + 1 + 1) ra LL) := ⟨HG.out.1.later hb3, HG.out.2.1.later hb3, bto HG.out.2.2.2 hb3, HRO.out.later hb3⟩
            clear x0 x1 y0 y1 f0 f1 hb3 HEN
            have x0 : w3.cell? ⟨w.heap.size + 1, 0, none⟩ = some (.int .i64 L) := HG3.out.1.cell 0
            have x1 : w3.cell? ⟨w.heap.size + 1, 1, none⟩ = some (.slice ra LL.length rc) := HG3.out.1.cell 1
            have y0 : w3.cell? ⟨w.heap.size, 0, none⟩ = some (.int .i64 0) := HG3.out.2.1.cell 0
            have y1 : w3.cell? ⟨w.heap.size, 1, none⟩ = some (.slice none 0 0) := HG3.out.2.1.cell 1
            have f0 := HG3.out.2.1.free 0
            have f1 := HG3.out.2.1.free 1
            go_wp2
            refine bodyPost_ret (v := .tuple #[.agg #[.int .i64 0, .slice none 0 0], .bool false]) (by simp [results, Try.results23, go_sem, y0, y1]) rfl (HPOST.out _ _ _ E.out ⟨none, 0, rfl, Or.inl rfl, ?_⟩)
            exact (HG3.out.2.2.1.setCell (by simp) _).setCell (by simp) _
          · go_wp2_with fail
            refine (HEN.out _ ra rc HRO.out.recs).mono ?_
            rintro e w3 ⟨rfl, hb3⟩
            have HG3 : Hid (Blk w3 (w.heap.size + 1) #[.int .i64 L, .slice ra LL.length rc] 37 ∧ Blk w3 w.heap.size #[.int .i64 0, .slice none 0 0] 37 ∧ Below w.heap.size w w3 ∧ RecsOwn w3 (w.heap.size + 1 + 1) ra LL) := ⟨HG.out.1.later hb3, HG.out.2.1.later hb3, bto HG.out.2.2.2 hb3, HRO.out.later hb3⟩
            clear x0 x1 y0 y1 f0 f1 hb3 HEN
            have x0 : w3.cell? ⟨w.heap.size + 1, 0, none⟩ = some (.int .i64 L) := HG3.out.1.cell 0
            have x1 : w3.cell? ⟨w.heap.size + 1, 1, none⟩ = some (.slice ra LL.length rc) := HG3.out.1.cell 1
            have y0 : w3.cell? ⟨w.heap.size, 0, none⟩ = some (.int .i64 0) := HG3.out.2.1.cell 0
            have y1 : w3.cell? ⟨w.heap.size, 1, none⟩ = some (.slice none 0 0) := HG3.out.2.1.cell 1
            have f0 := HG3.out.2.1.free 0
            have f1 := HG3.out.2.1.free 1
            go_wp2
            refine bodyPost_ret (v := .tuple #[.agg #[.int .i64 0, .slice none 0 0], .bool false]) (by simp [results, Try.results23, go_sem, y0, y1]) rfl (HPOST.out _ _ _ E.out ⟨none, 0, rfl, Or.inl rfl, ?_⟩)
            exact (HG3.out.2.2.1.setCell (by simp) _).setCell (by simp) _
end Go.Proofs.Ytgpgacncmoiefaa
