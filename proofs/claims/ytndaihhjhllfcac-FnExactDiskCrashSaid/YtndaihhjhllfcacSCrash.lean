import Derived.Test.YtndaihhjhllfcacProg
import Derived.Test.YtndaihhjhllfcacCrash
namespace Go.Proofs.Ytndaihhjhllfcac
open Go.RowKit

set_option maxHeartbeats 1000000 in
theorem specCrash_bad (a ak : Option Addr) (cap ck : Nat) (fs : List FileD) (zs : List Int) (c k cr fl : Int) (dn : Bool) (w : World) (hf : FilesIn w a fs) (hs : Short fs) (hlen : fs.length ≤ maxLen) (hsum : sumLen fs ≤ 1000000000) (hd : diskB fs c k cr fl = false) :
    Calls Try.prog 6 #[.agg #[.slice a fs.length cap, .int .i64 c, .int .i64 k, .int .i64 cr, .int .i64 fl, .bool dn], .slice ak zs.length ck] w fun e w' =>
      e = .returned (.agg #[.slice none 0 0, .int .i64 0, .int .i64 0, .int .i64 0, .int .i64 0, .bool false]) ∧ Below w.heap.size w w' := by
  have HF : Hid (FilesIn w a fs) := hf
  have HD : Hid (diskB fs c k cr fl = false) := hd
  clear hf hd
  go_enter Try.func6, Try.ntmps6
  go_wp2_with fail
  refine (specValid_is HD.out _ ((HF.out.later (bnew _ _)).later (bnew _ _)) hs hlen hsum).mono ?_
  rintro e w1 ⟨rfl, hb1⟩
  obtain ⟨hc, hz⟩ := bcell hb1
  have HB : Hid (Below w.heap.size w w1) := bto (bto (bnew _ _) (bnew _ _)) hb1
  clear hb1
  go_wp2
  refine bodyPost_ret (v := .agg #[.slice none 0 0, .int .i64 0, .int .i64 0, .int .i64 0, .int .i64 0, .bool false]) (by simp [results, Try.results6, go_sem, hc]) rfl ⟨rfl, ?_⟩
  have h := HB.out
  iterate 6 (refine Below.setCell ?_ (by first | (simp; done) | (simp; omega)) _)
  exact h

theorem crash_take {fs : List FileD} {zs : List Int} {j : Nat} (h : j < fs.length) : (crashL fs zs).take (j + 1) = (crashL fs zs).take j ++ [crashF zs j fs[j]] := by
  have h' : j < (crashL fs zs).length := by rw [crashL_length]; exact h
  rw [List.take_succ_eq_append_getElem h', crashL_get]

theorem kept_le {d : ByteArray} {s keep : Int} (h0 : 0 ≤ s) (h1 : s ≤ d.size) : 0 ≤ keptN d s keep ∧ keptN d s keep ≤ d.size := by unfold keptN; omega

theorem extract_size {d : ByteArray} {x : Int} (h0 : 0 ≤ x) (h1 : x ≤ d.size) : ((d.extract 0 x.toNat).size : Int) = x := by
  rw [ByteArray.size_extract]; omega

theorem news_two (w : World) (X : Obj) (cs : Array Value) (t : TypeId) : ∀ j u, cs.toList[j]? = some u → ((w.alloc X).alloc (.cells cs t)).cell? ((⟨w.heap.size + 1, 0, none⟩ : Addr).add j) = some u :=
  World.news_of_block (t := t) (fr := (0, 0)) (by have := heap_alloc_new (w.alloc X) (.cells cs t); simpa using this)

theorem Owned.set {w : World} {B : Nat} {a : Option Addr} {fs : List FileD} (h : Owned w B a fs) {p : Addr} (hp : p.block < B) (v : Value) : Owned (w.setCell p v) B a fs := by
  rcases h with h | ⟨g, o, cur, t, rfl, hB, hg, hf⟩
  · exact Or.inl h
  · have he : (w.setCell p v).heap[g]? = w.heap[g]? := Below.heap_setCell w p v g (by omega)
    have hk : ∀ j, (w.setCell p v).cell? ⟨g, j, none⟩ = w.cell? ⟨g, j, none⟩ := fun j => World.cell?_of_block he
    exact Or.inr ⟨g, o, cur, t, rfl, hB, he.trans hg, fun i hi => by simp only [hk]; exact hf i hi⟩

theorem row_ne {w : World} {B : Nat} {e : TypeId} {size : Nat} {v : Value} {n : Nat} {xs : List Value} (h : w.ownsRow B e size v n xs) {D : Nat} (hD : D < B) : some D ≠ v.ownBlock := by
  rcases h.2 with ⟨rfl, _⟩ | ⟨g, cap, cur, rfl, hB, _⟩
  · simp [Value.ownBlock]
  · simp [Value.ownBlock]; omega

theorem blk_grown {w w' w2 : World} {D : Nat} {cur : Array Value} {t : TypeId} {row : Option Nat} (h : Blk w D cur t) (hb : Below w.heap.size w w') (hg : w'.grownBy w2 row) (hne : some D ≠ row) : Blk w2 D cur t :=
  (hg.block D (lt_of_block (h.later hb)) hne).trans (h.later hb)

set_option maxRecDepth 100000 in
set_option maxHeartbeats 4000000 in
theorem specCrash_ok (a ak : Option Addr) (cap ck : Nat) (fs : List FileD) (zs : List Int) (c k cr fl : Int) (dn : Bool) (w : World) (hf : FilesIn w a fs) (hz : IntsIn w ak zs) (hs : Short fs) (hlen : fs.length ≤ maxLen) (hsum : sumLen fs ≤ 1000000000) (hd : diskB fs c k cr fl = true) :
    Calls Try.prog 6 #[.agg #[.slice a fs.length cap, .int .i64 c, .int .i64 k, .int .i64 cr, .int .i64 fl, .bool dn], .slice ak zs.length ck] w fun e w' =>
      ∃ a' cap', e = .returned (.agg #[.slice a' fs.length cap', .int .i64 c, .int .i64 k, .int .i64 0, .int .i64 0, .bool false]) ∧ Owned w' w.heap.size a' (crashL fs zs) ∧ Below w.heap.size w w' := by
  have hfd := files_of_disk hd
  have HFB : Hid (filesB fs = true) := hfd.1
  have hl1000 : fs.length ≤ 1000 := hfd.2.1
  have HF : Hid (FilesIn w a fs) := hf
  have HZ : Hid (IntsIn w ak zs) := hz
  have HD : Hid (diskB fs c k cr fl = true) := hd
  clear hf hd hfd hz
  go_enter Try.func6, Try.ntmps6
  go_wp2_with fail
  refine (specValid_is HD.out _ ((HF.out.later (bnew _ _)).later (bnew _ _)) hs hlen hsum).mono ?_
  rintro e w1 ⟨rfl, hb1⟩
  obtain ⟨x0, x1, x2, x3, x4, x5⟩ := ((BoxAt.new w (.slice a fs.length cap) (.int .i64 c) (.int .i64 k) (.int .i64 cr) (.int .i64 fl) (.bool dn) 29).later (bnew _ _)).later hb1
  have HB1 : Hid (Below w.heap.size w w1) := bto (bto (bnew _ _) (bnew _ _)) hb1
  have hR : Blk w1 (w.heap.size + 1) #[.slice none 0 0, .int .i64 0, .int .i64 0, .int .i64 0, .int .i64 0, .bool false] 29 := by
    have h := Blk.later (w := (w.alloc (.cells #[.slice a fs.length cap, .int .i64 c, .int .i64 k, .int .i64 cr, .int .i64 fl, .bool dn] 29)).alloc (.cells #[.slice none 0 0, .int .i64 0, .int .i64 0, .int .i64 0, .int .i64 0, .bool false] 29)) (g := (w.alloc (.cells #[.slice a fs.length cap, .int .i64 c, .int .i64 k, .int .i64 cr, .int .i64 fl, .bool dn] 29)).heap.size) (heap_alloc_new _ _) hb1
    simpa using h
  have HR1 : Hid (Blk w1 (w.heap.size + 1) #[.slice none 0 0, .int .i64 0, .int .i64 0, .int .i64 0, .int .i64 0, .bool false] 29) := hR
  have hRlt : w.heap.size + 1 < w1.heap.size := lt_of_block hR
  have hsz2 : ¬ w.heap.size = w1.heap.size := by omega
  have hsz3 : w.heap.size < w1.heap.size := by omega
  have HM0 : Hid (Blk (w1.alloc (.cells #[.slice none 0 0, .int .i64 c, .int .i64 k, .int .i64 0, .int .i64 0, .bool false] 29)) w1.heap.size #[.slice none 0 0, .int .i64 c, .int .i64 k, .int .i64 0, .int .i64 0, .bool false] 29) := heap_alloc_new _ _
  clear hR hb1
  obtain ⟨ti, hti, hz0, hz1, hz2⟩ := info_filex
  have HI : Hid (Try.prog.info? 49 = some ti) := hti
  clear hti
  go_wp2
  go_loopw [6, 7, 8, 21] (fun _ _ _ i wr => ∃ (j : Nat) (av : Option Addr) (cv : Nat), j ≤ fs.length ∧ i = .int .i64 j ∧ wr.ownsRow (w1.heap.size + 1) 49 3 (.slice av j cv) j (flat ((crashL fs zs).take j)) ∧
      Blk wr w1.heap.size #[.slice av j cv, .int .i64 c, .int .i64 k, .int .i64 0, .int .i64 0, .bool false] 29 ∧ Blk wr (w.heap.size + 1) #[.slice none 0 0, .int .i64 0, .int .i64 0, .int .i64 0, .int .i64 0, .bool false] 29 ∧ Below w.heap.size w wr) (fun _ _ _ i _ => fs.length - (intOf i).toNat)
  case atStart => exact ⟨0, none, 0, Nat.zero_le _, rfl, ⟨rfl, Or.inl ⟨rfl, rfl⟩⟩, HM0.out, HR1.out.later (bnew _ _), bto HB1.out (bnew _ _)⟩
  case round =>
    obtain ⟨j, av, cv, hj, rfl, hrow, hm, hr, hbel⟩ := hrel
    have H1 : Hid (wr.ownsRow (w1.heap.size + 1) 49 3 (.slice av j cv) j (flat ((crashL fs zs).take j))) := hrow
    have H2 : Hid (Blk wr w1.heap.size #[.slice av j cv, .int .i64 c, .int .i64 k, .int .i64 0, .int .i64 0, .bool false] 29) := hm
    have H3 : Hid (Blk wr (w.heap.size + 1) #[.slice none 0 0, .int .i64 0, .int .i64 0, .int .i64 0, .int .i64 0, .bool false] 29) := hr
    have hlM : w1.heap.size < wr.heap.size := lt_of_block hm
    have hneM : ¬ w1.heap.size = wr.heap.size := by omega
    have m0 := hm.cell 0
    simp only [List.getElem?_toArray, List.getElem?_cons_zero] at m0
    clear hrow hm hr HM0 HR1 HB1
    by_cases hlt : j < fs.length
    · obtain ⟨b, o, rfl, hb, c0, c1, c2⟩ := (HF.out.later hbel).at hlt
      obtain ⟨s0, s1⟩ := file_of_files HFB.out j hlt
      have hdz : fs[j].data.size ≤ 1000000000 := by have := data_le_sum (fs := fs) j hlt; omega
      have hnb : ¬ b = wr.heap.size := by omega
      have HT : Hid (flat ((crashL fs zs).take (j + 1)) = flat ((crashL fs zs).take j) ++ [.string fs[j].name, .string (fs[j].data.extract 0 (keptN fs[j].data fs[j].synced (keepAt zs j)).toNat), .int .i64 (keptN fs[j].data fs[j].synced (keepAt zs j))]) := by
        show _ = _
        rw [crash_take hlt, flat_append, flat_one]; rfl
      generalize fs[j].name = nm at c0 HT
      generalize fs[j].data = d at c1 HT s1 hdz
      generalize fs[j].synced = sy at c2 HT s0 s1
      by_cases hk : j < zs.length
      · obtain ⟨bz, oz, rfl, hbz, cz⟩ := (HZ.out.later hbel).at hk
        have EK : Hid (keepAt zs j = zs[j]) := by show _ = _; simp [keepAt, List.getElem?_eq_getElem hk]
        have hnz : ¬ bz = wr.heap.size := by omega
        generalize zs[j] = kp at cz EK
        by_cases hk0 : 0 < kp
        · by_cases hk1 : (d.size : Int) - sy < kp
          · have HX : Hid (keptN d sy (keepAt zs j) = (d.size : Nat)) := by show _ = _; rw [EK.out]; unfold keptN; omega
            have hw : sy + ((d.size : Int) - sy) = (d.size : Int) := by omega
            have HE : Hid ([.string nm, .string (d.extract 0 (keptN d sy (keepAt zs j)).toNat), .int .i64 (keptN d sy (keepAt zs j))] = [Value.string nm, .string (d), .int .i64 ((d.size : Nat))]) := by
              show _ = _
              rw [HX.out]; simp
            have HW : Hid (Below wr.heap.size wr ((wr.alloc (.cells #[.string nm, .string (d), .int .i64 ((d.size : Nat))] 49)).alloc (.cells #[.string nm, .string (d), .int .i64 ((d.size : Nat))] 49))) := bto (bnew _ _) (bnew _ _)
            go_wp2_with (at_builtin; refine wpList_append_lies _ rfl _ _ _ rfl (w1.heap.size + 1) 49 ti _ 3 40 Try.underlying27 HI.out hz0 hz1 hz2 rfl (by omega) (.slice av j cv) j (flat ((crashL fs zs).take j)) rfl (by exact row_later H1.out HW.out) ⟨wr.heap.size + 1, 0, none⟩ 1 1 [.string nm, .string (d), .int .i64 ((d.size : Nat))] rfl rfl (by exact news_two _ _ #[.string nm, .string (d), .int .i64 ((d.size : Nat))] _) (by simp [Value.oneCell']) (by omega) (by simp [maxLen]; omega) (by omega) (by simp; omega) (wr.heap.size + 1 + 1) (by simp) ?_; intro g5 cap5 w5 hown5 hgrow5 hat5 hlt5; have hM5 := blk_grown H2.out HW.out hgrow5 (row_ne H1.out (by omega)); have hR5 := blk_grown H3.out HW.out hgrow5 (row_ne H1.out (by omega)); have n0 := hM5.cell 0; have f0 := hM5.free 0; simp only [List.getElem?_toArray, List.getElem?_cons_zero] at n0)
            have hB5 : Below w.heap.size w w5 := (hbel.trans (HW.out.mono hbel.size)).grown hgrow5 (by have := HW.out.size; have := hbel.size; omega) (fun q hq => by
              rcases H1.out.2 with ⟨he, _⟩ | ⟨g, cap, cur, he, hB, _⟩
              · rw [he] at hq; simp [Value.ownBlock] at hq
              · rw [he] at hq; simp [Value.ownBlock] at hq; omega)
            refine ⟨⟨j + 1, _, _, by omega, by go_num, ?_, by have h := hM5.set 0 (.slice (some ⟨g5, 0, none⟩) (j + 1) cap5); simpa using h, hR5.but ((But.refl w1.heap.size _).setCell _ _) (by omega), hB5.setCell (by simp; omega) _⟩, by simp [intOf]; omega⟩
            rw [HT.out, HE.out]
            exact row_set_below hown5 (by simp) _
          · obtain ⟨x, hx⟩ : ∃ x : Nat, sy + kp = (x : Int) := ⟨(sy + kp).toNat, by omega⟩
            have HX : Hid (keptN d sy (keepAt zs j) = (x : Int)) := by show _ = _; rw [EK.out, ← hx]; unfold keptN; omega
            have hxl : x ≤ d.size := by omega
            have hmin : min x d.size = x := by omega
            have HE : Hid ([.string nm, .string (d.extract 0 (keptN d sy (keepAt zs j)).toNat), .int .i64 (keptN d sy (keepAt zs j))] = [Value.string nm, .string (d.extract 0 x), .int .i64 ((x : Int))]) := by
              show _ = _
              rw [HX.out]; simp
            have HW : Hid (Below wr.heap.size wr ((wr.alloc (.cells #[.string nm, .string (d.extract 0 x), .int .i64 ((x : Int))] 49)).alloc (.cells #[.string nm, .string (d.extract 0 x), .int .i64 ((x : Int))] 49))) := bto (bnew _ _) (bnew _ _)
            go_wp2_with (at_builtin; refine wpList_append_lies _ rfl _ _ _ rfl (w1.heap.size + 1) 49 ti _ 3 40 Try.underlying27 HI.out hz0 hz1 hz2 rfl (by omega) (.slice av j cv) j (flat ((crashL fs zs).take j)) rfl (by exact row_later H1.out HW.out) ⟨wr.heap.size + 1, 0, none⟩ 1 1 [.string nm, .string (d.extract 0 x), .int .i64 ((x : Int))] rfl rfl (by exact news_two _ _ #[.string nm, .string (d.extract 0 x), .int .i64 ((x : Int))] _) (by simp [Value.oneCell']) (by omega) (by simp [maxLen]; omega) (by omega) (by simp; omega) (wr.heap.size + 1 + 1) (by simp) ?_; intro g5 cap5 w5 hown5 hgrow5 hat5 hlt5; have hM5 := blk_grown H2.out HW.out hgrow5 (row_ne H1.out (by omega)); have hR5 := blk_grown H3.out HW.out hgrow5 (row_ne H1.out (by omega)); have n0 := hM5.cell 0; have f0 := hM5.free 0; simp only [List.getElem?_toArray, List.getElem?_cons_zero] at n0)
            have hB5 : Below w.heap.size w w5 := (hbel.trans (HW.out.mono hbel.size)).grown hgrow5 (by have := HW.out.size; have := hbel.size; omega) (fun q hq => by
              rcases H1.out.2 with ⟨he, _⟩ | ⟨g, cap, cur, he, hB, _⟩
              · rw [he] at hq; simp [Value.ownBlock] at hq
              · rw [he] at hq; simp [Value.ownBlock] at hq; omega)
            refine ⟨⟨j + 1, _, _, by omega, by go_num, ?_, by have h := hM5.set 0 (.slice (some ⟨g5, 0, none⟩) (j + 1) cap5); simpa using h, hR5.but ((But.refl w1.heap.size _).setCell _ _) (by omega), hB5.setCell (by simp; omega) _⟩, by simp [intOf]; omega⟩
            rw [HT.out, HE.out]
            exact row_set_below hown5 (by simp) _
        · obtain ⟨x, rfl⟩ : ∃ x : Nat, sy = (x : Int) := ⟨sy.toNat, by omega⟩
          have HX : Hid (keptN d x (keepAt zs j) = (x : Int)) := by show _ = _; rw [EK.out]; unfold keptN; omega
          have hxl : x ≤ d.size := by omega
          have hmin : min x d.size = x := by omega
          have HE : Hid ([.string nm, .string (d.extract 0 (keptN d x (keepAt zs j)).toNat), .int .i64 (keptN d x (keepAt zs j))] = [Value.string nm, .string (d.extract 0 x), .int .i64 ((x : Int))]) := by
            show _ = _
            rw [HX.out]; simp
          have HW : Hid (Below wr.heap.size wr ((wr.alloc (.cells #[.string nm, .string (d.extract 0 x), .int .i64 ((x : Int))] 49)).alloc (.cells #[.string nm, .string (d.extract 0 x), .int .i64 ((x : Int))] 49))) := bto (bnew _ _) (bnew _ _)
          go_wp2_with (at_builtin; refine wpList_append_lies _ rfl _ _ _ rfl (w1.heap.size + 1) 49 ti _ 3 40 Try.underlying27 HI.out hz0 hz1 hz2 rfl (by omega) (.slice av j cv) j (flat ((crashL fs zs).take j)) rfl (by exact row_later H1.out HW.out) ⟨wr.heap.size + 1, 0, none⟩ 1 1 [.string nm, .string (d.extract 0 x), .int .i64 ((x : Int))] rfl rfl (by exact news_two _ _ #[.string nm, .string (d.extract 0 x), .int .i64 ((x : Int))] _) (by simp [Value.oneCell']) (by omega) (by simp [maxLen]; omega) (by omega) (by simp; omega) (wr.heap.size + 1 + 1) (by simp) ?_; intro g5 cap5 w5 hown5 hgrow5 hat5 hlt5; have hM5 := blk_grown H2.out HW.out hgrow5 (row_ne H1.out (by omega)); have hR5 := blk_grown H3.out HW.out hgrow5 (row_ne H1.out (by omega)); have n0 := hM5.cell 0; have f0 := hM5.free 0; simp only [List.getElem?_toArray, List.getElem?_cons_zero] at n0)
          have hB5 : Below w.heap.size w w5 := (hbel.trans (HW.out.mono hbel.size)).grown hgrow5 (by have := HW.out.size; have := hbel.size; omega) (fun q hq => by
            rcases H1.out.2 with ⟨he, _⟩ | ⟨g, cap, cur, he, hB, _⟩
            · rw [he] at hq; simp [Value.ownBlock] at hq
            · rw [he] at hq; simp [Value.ownBlock] at hq; omega)
          refine ⟨⟨j + 1, _, _, by omega, by go_num, ?_, by have h := hM5.set 0 (.slice (some ⟨g5, 0, none⟩) (j + 1) cap5); simpa using h, hR5.but ((But.refl w1.heap.size _).setCell _ _) (by omega), hB5.setCell (by simp; omega) _⟩, by simp [intOf]; omega⟩
          rw [HT.out, HE.out]
          exact row_set_below hown5 (by simp) _
      · have EK : Hid (keepAt zs j = 0) := by show _ = _; simp [keepAt, List.getElem?_eq_none (Nat.not_lt.1 hk)]
        obtain ⟨x, rfl⟩ : ∃ x : Nat, sy = (x : Int) := ⟨sy.toNat, by omega⟩
        have HX : Hid (keptN d x (keepAt zs j) = (x : Int)) := by show _ = _; rw [EK.out]; unfold keptN; omega
        have hxl : x ≤ d.size := by omega
        have hmin : min x d.size = x := by omega
        have HE : Hid ([.string nm, .string (d.extract 0 (keptN d x (keepAt zs j)).toNat), .int .i64 (keptN d x (keepAt zs j))] = [Value.string nm, .string (d.extract 0 x), .int .i64 ((x : Int))]) := by
          show _ = _
          rw [HX.out]; simp
        have HW : Hid (Below wr.heap.size wr ((wr.alloc (.cells #[.string nm, .string (d.extract 0 x), .int .i64 ((x : Int))] 49)).alloc (.cells #[.string nm, .string (d.extract 0 x), .int .i64 ((x : Int))] 49))) := bto (bnew _ _) (bnew _ _)
        go_wp2_with (at_builtin; refine wpList_append_lies _ rfl _ _ _ rfl (w1.heap.size + 1) 49 ti _ 3 40 Try.underlying27 HI.out hz0 hz1 hz2 rfl (by omega) (.slice av j cv) j (flat ((crashL fs zs).take j)) rfl (by exact row_later H1.out HW.out) ⟨wr.heap.size + 1, 0, none⟩ 1 1 [.string nm, .string (d.extract 0 x), .int .i64 ((x : Int))] rfl rfl (by exact news_two _ _ #[.string nm, .string (d.extract 0 x), .int .i64 ((x : Int))] _) (by simp [Value.oneCell']) (by omega) (by simp [maxLen]; omega) (by omega) (by simp; omega) (wr.heap.size + 1 + 1) (by simp) ?_; intro g5 cap5 w5 hown5 hgrow5 hat5 hlt5; have hM5 := blk_grown H2.out HW.out hgrow5 (row_ne H1.out (by omega)); have hR5 := blk_grown H3.out HW.out hgrow5 (row_ne H1.out (by omega)); have n0 := hM5.cell 0; have f0 := hM5.free 0; simp only [List.getElem?_toArray, List.getElem?_cons_zero] at n0)
        have hB5 : Below w.heap.size w w5 := (hbel.trans (HW.out.mono hbel.size)).grown hgrow5 (by have := HW.out.size; have := hbel.size; omega) (fun q hq => by
          rcases H1.out.2 with ⟨he, _⟩ | ⟨g, cap, cur, he, hB, _⟩
          · rw [he] at hq; simp [Value.ownBlock] at hq
          · rw [he] at hq; simp [Value.ownBlock] at hq; omega)
        refine ⟨⟨j + 1, _, _, by omega, by go_num, ?_, by have h := hM5.set 0 (.slice (some ⟨g5, 0, none⟩) (j + 1) cap5); simpa using h, hR5.but ((But.refl w1.heap.size _).setCell _ _) (by omega), hB5.setCell (by simp; omega) _⟩, by simp [intOf]; omega⟩
        rw [HT.out, HE.out]
        exact row_set_below hown5 (by simp) _
    · have ej : j = fs.length := by omega
      have hmb := H2.out
      have hrb := H3.out
      have m1 := hmb.cell 1
      have m2 := hmb.cell 2
      have m3 := hmb.cell 3
      have m4 := hmb.cell 4
      have m5 := hmb.cell 5
      have r0 := hrb.cell 0
      have r1 := hrb.cell 1
      have r2 := hrb.cell 2
      have r3 := hrb.cell 3
      have r4 := hrb.cell 4
      have r5 := hrb.cell 5
      simp only [List.getElem?_toArray, List.getElem?_cons_zero, List.getElem?_cons_succ] at m1 m2 m3 m4 m5 r0 r1 r2 r3 r4 r5
      have q0 := hrb.free 0
      have q1 := hrb.free 1
      have q2 := hrb.free 2
      have q3 := hrb.free 3
      have q4 := hrb.free 4
      have q5 := hrb.free 5
      have hne1 : ¬ w.heap.size + 1 = w1.heap.size := by omega
      have hne2 : ¬ w1.heap.size = w.heap.size + 1 := by omega
      have HO : Hid (∃ g c5, Value.slice av j cv = .slice g fs.length c5 ∧ Owned wr (w1.heap.size + 1) g (crashL fs zs)) := by
        have h := H1.out
        rw [ej, List.take_of_length_le (by rw [crashL_length]; exact Nat.le_refl _)] at h
        have h2 := owned_of_row (fs := crashL fs zs) (by rw [crashL_length]; exact h)
        rw [crashL_length] at h2
        rw [ej]
        exact h2
      obtain ⟨g, c5, e5, hown⟩ := HO.out
      have HO2 : Hid (Owned wr (w1.heap.size + 1) g (crashL fs zs)) := hown
      simp only [Value.slice.injEq] at e5
      obtain ⟨rfl, _, rfl⟩ := e5
      have HBE : Hid (Below w.heap.size w wr) := hbel
      clear hmb hrb HO hown hbel
      go_wp2
      refine bodyPost_ret (v := .agg #[.slice av fs.length cv, .int .i64 c, .int .i64 k, .int .i64 0, .int .i64 0, .bool false]) (by simp [results, Try.results6, go_sem, r0, r1, r2, r3, r4, r5]) rfl ⟨_, _, rfl, ?_, ?_⟩
      · refine Owned.mono (B := w1.heap.size + 1) ?_ (by omega)
        have h := HO2.out
        iterate 6 (refine Owned.set ?_ (by simp; omega) _)
        exact h
      · have h := HBE.out
        iterate 6 (refine Below.setCell ?_ (by first | (simp; done) | (simp; omega)) _)
        exact h

theorem specCrash_any (a ak : Option Addr) (cap ck : Nat) (fs : List FileD) (zs : List Int) (c k cr fl : Int) (dn : Bool) (w : World) (hf : FilesIn w a fs) (hz : IntsIn w ak zs) (hs : Short fs) (hlen : fs.length ≤ maxLen) (hsum : sumLen fs ≤ 1000000000) :
    Calls Try.prog 6 #[.agg #[.slice a fs.length cap, .int .i64 c, .int .i64 k, .int .i64 cr, .int .i64 fl, .bool dn], .slice ak zs.length ck] w fun e w' =>
      ∃ a' cap', e = .returned (.agg #[.slice a' (crashFs fs zs (diskB fs c k cr fl)).length cap', .int .i64 (pick0 (diskB fs c k cr fl) c), .int .i64 (pick0 (diskB fs c k cr fl) k), .int .i64 0, .int .i64 0, .bool false]) ∧
        Owned w' w.heap.size a' (crashFs fs zs (diskB fs c k cr fl)) ∧ Below w.heap.size w w' := by
  by_cases hd : diskB fs c k cr fl = true
  · rw [hd]
    simp only [crashFs, pick0, if_true, crashL_length]
    exact specCrash_ok a ak cap ck fs zs c k cr fl dn w hf hz hs hlen hsum hd
  · have hd' : diskB fs c k cr fl = false := by simpa using hd
    rw [hd']
    refine (specCrash_bad a ak cap ck fs zs c k cr fl dn w hf hs hlen hsum hd').mono ?_
    rintro e w' ⟨rfl, hb⟩
    exact ⟨none, 0, rfl, Or.inl rfl, hb⟩
end Go.Proofs.Ytndaihhjhllfcac
