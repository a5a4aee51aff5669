import Derived.Test.YtflfopienjjlbaaGreatDoorJ32FlL
import Derived.Test.YtflfopienjjlbaaGreatDoorJ01Drive
import Derived.Test.YtflfopienjjlbaaGreatDoorProg
import Derived.Test.YtflfopienjjlbaaGreatDoorJ11IFrames
import Derived.Test.YtflfopienjjlbaaGreatDoorJ13Ins2
namespace Go.Proofs.YtflfopienjjlbaaGreatDoor
open Go.RowKit

theorem nmd_nums {fs : List FileD} (h : Nmd fs) (hl : fs.length ≤ 1000) : (numsL fs).length = fs.length ∧ ∀ i (hi : i < (numsL fs).length), (numsL fs)[i] = (i : Int) + 1 := by
  have ho : ∀ i (hi : i < fs.length), segOf fs[i].name = i + 1 := fun i hi => by
    rw [h i hi, segS_is _ (by omega) (by omega), show ((i : Int) + 1).toNat = i + 1 by omega, segOf_segN (by omega)]
  have hf : fs.filter (fun f => decide (0 < segOf f.name)) = fs := by
    rw [List.filter_eq_self]
    intro f hf
    obtain ⟨i, hi, rfl⟩ := List.getElem_of_mem hf
    rw [ho i hi]
    simp
  have e : numsL fs = fs.map fun f => (segOf f.name : Int) := by unfold numsL; rw [hf]
  rw [e]
  refine ⟨by simp, fun i hi => ?_⟩
  have hi' : i < fs.length := by simpa using hi
  simp only [List.getElem_map, ho i hi']
  omega
theorem nmd_open {K : DiskD} (h : Nmd K.fs) (hl : K.fs.length ≤ 1000) (h0 : 0 < K.fs.length) : openN K (numsL K.fs) = openG K 1 K.fs.length K.fs.length := by
  obtain ⟨hn, hg⟩ := nmd_nums h hl
  revert hn hg
  cases numsL K.fs with
  | nil => intro hn _; simp at hn; omega
  | cons x l =>
    intro hn hg
    have hx : x = 1 := by have := hg 0 (by simp); simpa using this
    have hy : (x :: l).getLast (by simp) = K.fs.length := by
      rw [List.getLast_eq_getElem, hg _ (by simp)]
      simp only [List.length_cons] at hn ⊢
      omega
    show openG K x ((x :: l).getLast (by simp)) (l.length + 1) = _
    rw [hy, hx, show l.length + 1 = K.fs.length by simpa using hn]
theorem read_go {fs : List FileD} {g : List ByteArray} {t : ByteArray} {last : Int} (ht : ¬ FrameAt t) (hg : Pays g) : ∀ (hs : List (List ByteArray)) (n : Int) (all : List ByteArray) (sz : Nat), (∀ x ∈ hs, Pays x) →
    (∀ j (h : j < hs.length), datAt fs (n + (j : Nat)) = joinF hs[j]) → datAt fs (n + (hs.length : Nat)) = joinF g ++ t → n + (hs.length : Nat) = last →
    readR fs last (hs.length + 1) n all sz = some (all ++ (hs.flatten ++ g), (joinF g).size)
  | [], n, all, sz, _, _, hd, he => by
    have e0 : n + (([] : List (List ByteArray)).length : Nat) = n := by simp
    rw [e0] at hd he
    rw [List.length_nil, Nat.zero_add, readR, hd, scanV_join ht hg, if_neg (fun h => by have := h.2; omega), readR]
    simp
  | x :: hs, n, all, sz, hp, hj, hd, he => by
    have hx : datAt fs n = joinF x ++ ByteArray.empty := by
      have := hj 0 (by simp)
      rw [ByteArray.append_empty]
      simpa using this
    have hP : Pays x := hp x (by simp)
    have ih := read_go (last := last) ht hg hs (n + 1) (all ++ x) (joinF x).size (fun y hy => hp y (by simp [hy])) (fun j h => by
      have := hj (j + 1) (by simpa using h)
      rw [show n + 1 + (j : Nat) = n + ((j + 1 : Nat) : Int) by omega]
      simpa using this) (by rw [show n + 1 + (hs.length : Nat) = n + (((x :: hs).length : Nat) : Int) by simp; omega]; exact hd) (by rw [← he]; simp; omega)
    rw [List.length_cons, readR, hx, scanV_join none_no hP, if_neg (fun h => by have := h.1; simp at this), ih]
    simp
theorem LogIn.file {gs : List (List ByteArray)} {g : List ByteArray} {t : ByteArray} {s k : Int} (h : LogIn gs g t s k) : fileAt (logK gs g t s k).fs ((gs.length : Int) + 1) = ⟨segS ((gs.length : Int) + 1), joinF g ++ t, s⟩ := by
  have hl : (logFs gs g t s).length ≤ 1000 := by rw [logFs_length]; have := h.len; omega
  have hi : gs.length < (logFs gs g t s).length := by rw [logFs_length]; omega
  have := fileAt_eq (n := (gs.length : Int) + 1) ((logFs_nmd gs g t s).asc hl) hi (logFs_nmd gs g t s _ hi)
  show fileAt (logFs gs g t s) _ = _
  rw [this, logFs_end hi]
theorem LogIn.read {gs : List (List ByteArray)} {g : List ByteArray} {t : ByteArray} {s k : Int} (h : LogIn gs g t s k) (ht : ¬ FrameAt t) (hp : Pays (gs.flatten ++ g)) : readR (logK gs g t s k).fs ((gs.length : Int) + 1) (gs.length + 1) 1 [] 0 = some (gs.flatten ++ g, (joinF g).size) := by
  have hl : (logFs gs g t s).length ≤ 1000 := by rw [logFs_length]; have := h.len; omega
  have ha := (logFs_nmd gs g t s).asc hl
  have := read_go (fs := logFs gs g t s) (last := (gs.length : Int) + 1) ht (g := g) (fun p hm => hp p (by simp [hm])) gs 1 [] 0 (fun x hx p hm => hp p (List.mem_append_left _ (List.mem_flatten.2 ⟨x, hx, hm⟩)))
    (fun j hj => by
      have hi : j < (logFs gs g t s).length := by rw [logFs_length]; omega
      rw [datAt_eq (n := 1 + (j : Nat)) ha hi (by rw [logFs_nmd gs g t s _ hi, Int.add_comm])]
      rw [logFs_lt hj hi])
    (by
      have hi : gs.length < (logFs gs g t s).length := by rw [logFs_length]; omega
      rw [datAt_eq (n := 1 + (gs.length : Nat)) ha hi (by rw [logFs_nmd gs g t s _ hi, Int.add_comm])]
      rw [logFs_end hi])
    (by omega)
  show readR (logFs gs g t s) _ _ _ _ _ = _
  simpa using this
theorem open_step {K : DiskD} (h : Nmd K.fs) (hl : K.fs.length ≤ 1000) (h0 : 0 < K.fs.length) (hv : diskB K.fs K.c K.k K.cr K.fl = true) (hd : K.dn = false) {all : List ByteArray} {sz : Nat} (hr : readR K.fs (K.fs.length : Nat) K.fs.length 1 [] 0 = some (all, sz)) {KM : DiskD} (hm : mendD K (K.fs.length : Nat) (sz : Nat) = (KM, 0)) :
    openD K = (KM, ⟨1, (K.fs.length : Nat), (sz : Nat)⟩, all, 0) := by
  rw [openD_ok hv hd, nmd_open h hl h0, openG_read (by omega) (by rw [show (((K.fs.length : Nat) : Int) - 1).toNat + 1 = K.fs.length by omega]; exact hr) hm]
  rfl
/-- A log, its end torn or not, opens to what was written. -/
theorem LogIn.open {gs : List (List ByteArray)} {g : List ByteArray} {t : ByteArray} {k : Int} (h : LogIn gs g t ((joinF g ++ t).size : Nat) k) (ht : ¬ FrameAt t) (hp : Pays (gs.flatten ++ g)) : ∃ k', k ≤ k' ∧ k' ≤ k + 1 ∧
    openD (logK gs g t ((joinF g ++ t).size : Nat) k) = (logK gs g ByteArray.empty ((joinF g).size : Nat) k', ⟨1, (gs.length : Int) + 1, ((joinF g).size : Nat)⟩, gs.flatten ++ g, 0) := by
  have hlen : (logK gs g t ((joinF g ++ t).size : Nat) k).fs.length = gs.length + 1 := logFs_length _ _ _ _
  have hcast : ((((logK gs g t ((joinF g ++ t).size : Nat) k).fs.length : Nat)) : Int) = (gs.length : Int) + 1 := by rw [hlen]; omega
  have hl20 := h.len
  have key : ∀ KM, mendD (logK gs g t ((joinF g ++ t).size : Nat) k) ((gs.length : Int) + 1) ((joinF g).size : Nat) = (KM, 0) → openD (logK gs g t ((joinF g ++ t).size : Nat) k) = (KM, ⟨1, (gs.length : Int) + 1, ((joinF g).size : Nat)⟩, gs.flatten ++ g, 0) := by
    intro KM hm
    have := open_step (K := logK gs g t ((joinF g ++ t).size : Nat) k) (all := gs.flatten ++ g) (sz := (joinF g).size) (KM := KM) (logFs_nmd _ _ _ _) (by rw [hlen]; omega) (by rw [hlen]; omega) h.valid rfl (by rw [hcast, hlen]; exact h.read ht hp) (by rw [hcast]; exact hm)
    rw [hcast] at this
    exact this
  by_cases h0 : t.size = 0
  · have e : t = ByteArray.empty := by
      apply bytes_ext
      have := bytes_size t
      rw [h0] at this
      rw [List.length_eq_zero_iff.1 this]
      rfl
    subst e
    refine ⟨k, Int.le_refl _, by omega, ?_⟩
    rw [key (logK gs g ByteArray.empty ((joinF g ++ ByteArray.empty).size : Nat) k)]
    · rw [ByteArray.append_empty]
    · unfold mendD syncD
      rw [h.file]
      simp
  · have hz : (joinF g ++ t).size = (joinF g).size + t.size := ByteArray.size_append
    refine ⟨k + 1, by omega, Int.le_refl _, key _ ?_⟩
    unfold mendD
    rw [h.file, if_pos (by show ((joinF g).size : Int) < ((joinF g ++ t).size : Nat); omega), h.trunc, if_neg (by simp)]
    have h2 : LogIn gs g ByteArray.empty ((joinF g).size : Nat) 0 := ⟨hl20, by omega, by rw [ByteArray.append_empty]; exact Int.le_refl _, by have := h.sum; simp; omega, Int.le_refl _, by decide⟩
    have h3 := h2.file
    unfold syncD
    show (if (fileAt (logFs gs g ByteArray.empty ((joinF g).size : Nat)) ((gs.length : Int) + 1)).synced < _ then _ else _) = _
    have h4 : fileAt (logFs gs g ByteArray.empty ((joinF g).size : Nat)) ((gs.length : Int) + 1) = ⟨segS ((gs.length : Int) + 1), joinF g ++ ByteArray.empty, ((joinF g).size : Nat)⟩ := h3
    rw [h4, if_neg]
    show ¬ (((joinF g).size : Nat) : Int) < (((fileAt (logFs gs g ByteArray.empty ((joinF g).size : Nat)) ((gs.length : Int) + 1)).data.size : Nat) : Int)
    rw [h4]
    simp

/-- What stands after so many appends. -/
structure Inv (n : Nat) (K : DiskD) (L : LogD) (ps : List ByteArray) : Prop where
  ex : ∃ (gs : List (List ByteArray)) (g : List ByteArray) (k : Int), K = logK gs g ByteArray.empty ((joinF g).size : Nat) k ∧ L = ⟨1, (gs.length : Int) + 1, ((joinF g).size : Nat)⟩ ∧ ps = gs.flatten ++ g ∧ 0 ≤ k ∧ k ≤ 3 * n + 1 ∧ gs.length ≤ gs.flatten.length ∧ (0 < n → g ≠ [])
  pays : Pays ps
  len : ps.length = n
  size : (joinF ps).size ≤ 38 * n
theorem LogIn.mk' {gs : List (List ByteArray)} {g : List ByteArray} {n : Nat} {k : Int} (h1 : (gs.flatten ++ g).length = n) (h2 : gs.length ≤ gs.flatten.length) (h3 : (joinF (gs.flatten ++ g)).size ≤ 38 * n) (hn : n ≤ 13) (hk : 0 ≤ k) (hk2 : k ≤ 3 * (n : Int) + 3) {s : Int} (hs : 0 ≤ s) (hs2 : s ≤ (joinF g).size) : LogIn gs g ByteArray.empty s k :=
  ⟨by rw [List.length_append] at h1; omega, hs, by rw [ByteArray.append_empty]; exact hs2, by simp; omega, hk, by omega⟩
theorem Inv.fit {n : Nat} {K : DiskD} {L : LogD} {ps : List ByteArray} (h : Inv n K L ps) (hn : n ≤ 12) : Fit K.fs := by
  obtain ⟨⟨gs, g, k, rfl, rfl, rfl, hk0, hk1, hgl, hgn⟩, hP, hlen, hsz⟩ := h
  exact (LogIn.mk' hlen hgl hsz (by omega) hk0 (by omega) (s := ((joinF g).size : Nat)) (by omega) (Int.le_refl _)).fit
theorem Inv.step {n : Nat} {K : DiskD} {L : LogD} {ps : List ByteArray} (h : Inv n K L ps) {p : ByteArray} (hp : PayOK p) (hp2 : p.size ≤ 30) (hn : n < 12) : ∃ K' L', appendD K L p 60 = (K', L', 0) ∧ Inv (n + 1) K' L' (ps ++ [p]) := by
  obtain ⟨⟨gs, g, k, rfl, rfl, rfl, hk0, hk1, hgl, hgn⟩, hP, hlen, hsz⟩ := h
  have hin := LogIn.mk' hlen hgl hsz (by omega) hk0 (by omega) (s := ((joinF g).size : Nat)) (by omega) (Int.le_refl _)
  have hF := frameS_size hp
  have hF1 := hp.1
  have hP' : Pays (gs.flatten ++ g ++ [p]) := fun q hq => by
    rcases List.mem_append.1 hq with hq | hq
    · exact hP q hq
    · simp only [List.mem_cons, List.not_mem_nil, or_false] at hq
      rw [hq]; exact hp
  have hlen' : (gs.flatten ++ g ++ [p]).length = n + 1 := by rw [List.length_append, hlen]; rfl
  have hsz' : (joinF (gs.flatten ++ g ++ [p])).size ≤ 38 * (n + 1) := by
    rw [joinF_snoc, ByteArray.size_append, hF]; omega
  have hgz : (joinF g).size ≤ 38 * n := by rw [joinF_append, ByteArray.size_append] at hsz; omega
  have hgl2 : gs.length ≤ n := by rw [List.length_append] at hlen; omega
  have hlog : (logB ⟨1, (gs.length : Int) + 1, ((joinF g).size : Nat)⟩ && btwB 60 1 1000000000) = true := by simp [logB, btwB]; omega
  have hne : ¬ frameS p = ByteArray.empty := fun e => by rw [e, ByteArray.size_empty] at hF; omega
  unfold appendD
  rw [if_neg (by rw [hlog]; decide), if_neg hne]
  by_cases hr : (((joinF g).size : Nat) : Int) ≠ 0 ∧ (60 : Int) < ((joinF g).size : Nat) + (frameS p).size
  · have hgne : g ≠ [] := fun e => by rw [e] at hr; exact hr.1 (by simp [joinF])
    have hg1 : 0 < g.length := List.length_pos_iff.2 hgne
    rw [if_pos hr, if_neg (by show ¬ (gs.length : Int) + 1 = 999999; omega), hin.create, if_neg (by simp)]
    have hfl : (gs ++ [g]).flatten = gs.flatten ++ g := by simp
    have hin1 : LogIn (gs ++ [g]) [] ByteArray.empty 0 (k + 1) := by
      refine LogIn.mk' (n := n) (by rw [hfl, List.append_nil]; exact hlen) (by rw [hfl]; simp only [List.length_append, List.length_cons, List.length_nil]; omega) (by rw [hfl, List.append_nil]; exact hsz) (by omega) (by omega) (by omega) (Int.le_refl _) (by simp [joinF])
    have hc : ((gs ++ [g]).length : Int) + 1 = (gs.length : Int) + 1 + 1 := by simp
    have ha := hin1.append (u := frameS p) (by omega)
    rw [hc] at ha
    have hin2 : LogIn (gs ++ [g]) [] (ByteArray.empty ++ frameS p) 0 (k + 1 + 1) := by
      have h1 := hin1.sum
      refine ⟨hin1.len, Int.le_refl _, by omega, ?_, by omega, by omega⟩
      rw [hfl, List.append_nil, ByteArray.empty_append]
      omega
    have hs := hin2.sync
    rw [hc] at hs
    have e1 : joinF [] ++ (ByteArray.empty ++ frameS p) = joinF [p] := by simp [joinF]
    have hf : logK (gs ++ [g]) [] (ByteArray.empty ++ frameS p) ((joinF [] ++ (ByteArray.empty ++ frameS p)).size : Nat) (k + 1 + 1 + 1) = logK (gs ++ [g]) [p] ByteArray.empty ((joinF [p]).size : Nat) (k + 1 + 1 + 1) := by
      simp only [logK, logFs, e1, ByteArray.append_empty]
    rw [hf] at hs
    refine ⟨_, _, ?_, ⟨⟨gs ++ [g], [p], k + 1 + 1 + 1, rfl, rfl, by rw [hfl], by omega, by omega, by rw [hfl]; simp only [List.length_append, List.length_cons, List.length_nil]; omega, fun _ => by simp⟩, hP', hlen', hsz'⟩⟩
    unfold appendT
    show (if (stepD _ (opAppend ((gs.length : Int) + 1 + 1) _)).2 ≠ 0 then _ else _) = _
    simp only [ha]
    rw [if_neg (by simp)]
    simp only [hs]
    rw [if_neg (by simp)]
    simp [joinF, hF]
  · rw [if_neg hr]
    have ha := hin.append (u := frameS p) (by omega)
    have hin2 : LogIn gs g (ByteArray.empty ++ frameS p) ((joinF g).size : Nat) (k + 1) := by
      refine ⟨hin.len, by omega, by rw [ByteArray.size_append]; omega, ?_, by omega, by omega⟩
      rw [ByteArray.empty_append]
      omega
    have hs := hin2.sync
    have e1 : joinF g ++ (ByteArray.empty ++ frameS p) = joinF (g ++ [p]) := by rw [joinF_snoc, ByteArray.empty_append]
    have hf : logK gs g (ByteArray.empty ++ frameS p) ((joinF g ++ (ByteArray.empty ++ frameS p)).size : Nat) (k + 1 + 1) = logK gs (g ++ [p]) ByteArray.empty ((joinF (g ++ [p])).size : Nat) (k + 1 + 1) := by
      simp only [logK, logFs, e1, ByteArray.append_empty]
    rw [hf] at hs
    refine ⟨_, _, ?_, ⟨⟨gs, g ++ [p], k + 1 + 1, rfl, rfl, by rw [List.append_assoc], by omega, by omega, hgl, fun _ => by simp⟩, hP', hlen', hsz'⟩⟩
    unfold appendT
    show (if (stepD _ (opAppend ((gs.length : Int) + 1) _)).2 ≠ 0 then _ else _) = _
    simp only [ha]
    rw [if_neg (by simp)]
    simp only [hs]
    rw [if_neg (by simp)]
    simp [joinF_snoc]
theorem inv_zero : ∃ K L, openD ⟨[], 1000000, 0, 0, 0, false⟩ = (K, L, [], 0) ∧ Inv 0 K L [] := by
  have hv : diskB [] 1000000 0 0 0 = true := diskB_mk (by simp) (filesB_of (fun f hf => by simp at hf) (fun i j _ hj => by simp at hj)) ⟨by decide, by decide⟩ (by simp [sumLen]) ⟨by decide, by decide⟩ ⟨by decide, by decide⟩ ⟨by decide, by decide⟩
  have hs : stepD ⟨[], 1000000, 0, 0, 0, false⟩ (opCreate 1) = (logK [] [] ByteArray.empty 0 1, 0) := by
    rw [step_go (K := ⟨[], 1000000, 0, 0, 0, false⟩) (op := opCreate 1) hv (opB_mk (by decide) (by omega) (by omega)) rfl rfl rfl (by decide)]
    have hd := fl_create (fs := []) (c := 1000000) (fun i hi => by simp at hi) (by simp)
    have hd' : doR [] 1000000 (opCreate 1) = (0, [⟨segS 1, ByteArray.empty, 0⟩]) := by simpa using hd
    show (DiskD.mk (doR [] 1000000 (opCreate 1)).2 _ _ _ _ _, (doR [] 1000000 (opCreate 1)).1) = _
    rw [hd']
    simp [logK, logFs, segFrom, joinF]
  refine ⟨logK [] [] ByteArray.empty 0 1, ⟨1, 1, 0⟩, ?_, ⟨⟨[], [], 1, by simp [joinF], by simp [joinF], rfl, by decide, by decide, by simp, fun h => absurd h (by decide)⟩, fun p hp => by simp at hp, rfl, by simp [joinF]⟩⟩
  rw [openD_ok hv rfl]
  show (if (stepD ⟨[], 1000000, 0, 0, 0, false⟩ (opCreate 1)).2 ≠ 0 then ((stepD ⟨[], 1000000, 0, 0, 0, false⟩ (opCreate 1)).1, noLog, ([] : List ByteArray), (stepD ⟨[], 1000000, 0, 0, 0, false⟩ (opCreate 1)).2) else ((stepD ⟨[], 1000000, 0, 0, 0, false⟩ (opCreate 1)).1, (⟨1, 1, 0⟩ : LogD), ([] : List ByteArray), 0)) = _
  rw [hs, if_neg (by simp)]

/-- A crash that keeps all that is there. -/
theorem crash_all {fs : List FileD} {zs : List Int} (h : ∀ i (hi : i < fs.length), keptN fs[i].data fs[i].synced (keepAt zs i) = fs[i].data.size) : crashL fs zs = fs.map fun f => ⟨f.name, f.data, f.data.size⟩ := by
  apply List.ext_getElem
  · simp [crashL_length]
  · intro i h1 h2
    have hi : i < fs.length := by rw [crashL_length] at h1; exact h1
    rw [crashL_get, List.getElem_map, crashF, h i hi]
    simp
def nines : List Int := [99, 99, 99, 99, 99, 99, 99, 99, 99, 99, 99, 99]
theorem keep_nines {i : Nat} (h : i < 12) : keepAt nines i = 99 := by
  rcases (show i = 0 ∨ i = 1 ∨ i = 2 ∨ i = 3 ∨ i = 4 ∨ i = 5 ∨ i = 6 ∨ i = 7 ∨ i = 8 ∨ i = 9 ∨ i = 10 ∨ i = 11 by omega) with rfl | rfl | rfl | rfl | rfl | rfl | rfl | rfl | rfl | rfl | rfl | rfl <;> rfl
theorem segFrom_synced : ∀ (gs : List (List ByteArray)) (i : Nat), (segFrom i gs).map (fun f => (⟨f.name, f.data, f.data.size⟩ : FileD)) = segFrom i gs
  | [], _ => rfl
  | g :: r, i => by simp [segFrom, segFrom_synced r]
theorem LogIn.crash {gs : List (List ByteArray)} {g : List ByteArray} {t : ByteArray} {s k : Int} (h : LogIn gs g t s k) (hg : gs.length < 12) (hs : (((joinF g ++ t).size : Nat) : Int) - s ≤ 99) :
    crashFs (logK gs g t s k).fs nines (diskB (logK gs g t s k).fs (logK gs g t s k).c (logK gs g t s k).k (logK gs g t s k).cr (logK gs g t s k).fl) = logFs gs g t ((joinF g ++ t).size : Nat) := by
  rw [h.valid, crashFs, if_pos rfl]
  show crashL (logFs gs g t s) nines = _
  rw [crash_all]
  · simp only [logFs, List.map_append, segFrom_synced, List.map_cons, List.map_nil]
  · intro i hi0
    have hi := hi0
    rw [logFs_length] at hi
    rw [keep_nines (by omega)]
    unfold keptN
    have h1 := h.s1
    rcases Nat.lt_or_ge i gs.length with hj | hj
    · rw [logFs_lt hj hi0]
      show (((joinF gs[i]).size : Nat) : Int) + min (max 99 0) ((((joinF gs[i]).size : Nat) : Int) - ((joinF gs[i]).size : Nat)) = (((joinF gs[i]).size : Nat) : Int)
      omega
    · obtain rfl : i = gs.length := by omega
      rw [logFs_end hi0]
      show s + min (max 99 0) ((((joinF g ++ t).size : Nat) : Int) - s) = (((joinF g ++ t).size : Nat) : Int)
      omega

/-- The torn append, the crash and the two openings. -/
theorem Inv.end {n : Nat} {K : DiskD} {L : LogD} {ps : List ByteArray} (h : Inv n K L ps) (hn : 1 ≤ n) (hn2 : n ≤ 12) {t : ByteArray} (ht : ¬ FrameAt t) (htz : t.size ≤ 20) :
    1 ≤ L.last ∧ Fit K.fs ∧ ∃ K1, stepD K (opAppend L.last t) = (K1, 0) ∧ Fit K1.fs ∧
      ∃ K2 : DiskD, crashFs K1.fs nines (diskB K1.fs K1.c K1.k K1.cr K1.fl) = K2.fs ∧ diskB K1.fs K1.c K1.k K1.cr K1.fl = true ∧ K2.c = K1.c ∧ K2.k = K1.k ∧ K2.cr = 0 ∧ K2.fl = 0 ∧ K2.dn = false ∧ Fit K2.fs ∧
        ∃ K3, openD K2 = (K3, L, ps, 0) ∧ Fit K3.fs ∧ ∃ K4, openD K3 = (K4, L, ps, 0) := by
  obtain ⟨⟨gs, g, k, rfl, rfl, rfl, hk0, hk1, hgl, hgn⟩, hP, hlen, hsz⟩ := h
  have hin := LogIn.mk' hlen hgl hsz (by omega) hk0 (by omega) (s := ((joinF g).size : Nat)) (by omega) (Int.le_refl _)
  have hg1 : 0 < g.length := List.length_pos_iff.2 (hgn (by omega))
  have hgs : gs.length < 12 := by rw [List.length_append] at hlen; omega
  refine ⟨by show (1 : Int) ≤ (gs.length : Int) + 1; omega, hin.fit, _, hin.append (u := t) (by omega), ?_⟩
  rw [ByteArray.empty_append]
  have hz : (joinF g ++ t).size = (joinF g).size + t.size := ByteArray.size_append
  have hin1 : LogIn gs g t ((joinF g).size : Nat) (k + 1) := ⟨hin.len, by omega, by omega, by omega, by omega, by omega⟩
  have hin2 : LogIn gs g t ((joinF g ++ t).size : Nat) (k + 1) := ⟨hin.len, by omega, Int.le_refl _, by omega, by omega, by omega⟩
  refine ⟨hin1.fit, logK gs g t ((joinF g ++ t).size : Nat) (k + 1), hin1.crash hgs (by omega), hin1.valid, rfl, rfl, rfl, rfl, rfl, hin2.fit, ?_⟩
  obtain ⟨k', hk'0, hk'1, ho⟩ := hin2.open ht hP
  have hin3 : LogIn gs g ByteArray.empty ((joinF g ++ ByteArray.empty).size : Nat) k' := ⟨hin.len, by omega, Int.le_refl _, by have := hin.sum; exact this, by omega, by omega⟩
  have e3 : (joinF g ++ ByteArray.empty).size = (joinF g).size := by rw [ByteArray.append_empty]
  refine ⟨_, ho, ?_, ?_⟩
  · have := hin3.fit
    rw [e3] at this
    exact this
  · obtain ⟨k'', _, _, ho2⟩ := hin3.open none_no hP
    rw [e3] at ho2
    exact ⟨_, ho2⟩
theorem nines_in (w : World) : IntsIn (w.alloc (.cells #[.int .i64 99, .int .i64 99, .int .i64 99, .int .i64 99, .int .i64 99, .int .i64 99, .int .i64 99, .int .i64 99, .int .i64 99, .int .i64 99, .int .i64 99, .int .i64 99] 3)) (some ⟨w.heap.size, 0, none⟩) nines := by
  refine Or.inr ⟨w.heap.size, 0, rfl, by simp, fun i hi => ?_⟩
  have h12 : i < 12 := hi
  rw [Nat.zero_add, cell_of_row _ _ i _ _ _ (heap_alloc_new w _)]
  rcases (show i = 0 ∨ i = 1 ∨ i = 2 ∨ i = 3 ∨ i = 4 ∨ i = 5 ∨ i = 6 ∨ i = 7 ∨ i = 8 ∨ i = 9 ∨ i = 10 ∨ i = 11 by omega) with rfl | rfl | rfl | rfl | rfl | rfl | rfl | rfl | rfl | rfl | rfl | rfl <;> rfl
theorem nines_inL (w : World) : IntsIn (w.alloc (.cells (nines.map (Value.int .i64)).toArray 3)) (some ⟨w.heap.size, 0, none⟩) nines := nines_in w
end Go.Proofs.YtflfopienjjlbaaGreatDoor

namespace Go.Proofs.YtflfopienjjlbaaGreatDoor
open Go.RowKit

/-- The address holds n bytes, in a block below P that is not B. -/
def U8In (w : World) (B P : Nat) (a : Option Addr) (n : Nat) : Prop := n = 0 ∨ ∃ b o, a = some ⟨b, o, none⟩ ∧ b ≠ B ∧ b < P ∧ ∀ i, i < n → ∃ v : Nat, v < 256 ∧ w.cell? ⟨b, o + i, none⟩ = some (.int .u8 (v : Nat))
theorem U8In.but {w w' : World} {B P n : Nat} {a : Option Addr} (h : U8In w B P a n) (hP : P ≤ w.heap.size) (hb : But B w w') : U8In w' B P a n := by
  rcases h with h | ⟨b, o, e, hne, hlt, h⟩
  · exact Or.inl h
  · exact Or.inr ⟨b, o, e, hne, hlt, fun i hi => by
      obtain ⟨v, hv, hc⟩ := h i hi
      exact ⟨v, hv, by rw [World.cell?_of_block (hb.block b (by omega) hne)]; exact hc⟩⟩
theorem U8In.below {w w' : World} {B P n : Nat} {a : Option Addr} (h : U8In w B P a n) (hb : Below P w w') : U8In w' B P a n := by
  rcases h with h | ⟨b, o, e, hne, hlt, h⟩
  · exact Or.inl h
  · exact Or.inr ⟨b, o, e, hne, hlt, fun i hi => by
      obtain ⟨v, hv, hc⟩ := h i hi
      exact ⟨v, hv, by rw [World.cell?_of_block (hb.block b hlt)]; exact hc⟩⟩
theorem U8In.up {w w' : World} {B P P' n : Nat} {a : Option Addr} (h : U8In w B P a n) (hb : Below P w w') (hP : P ≤ P') : U8In w' P' P' a n := by
  rcases h with h | ⟨b, o, e, hne, hlt, h⟩
  · exact Or.inl h
  · exact Or.inr ⟨b, o, e, by omega, by omega, fun i hi => by
      obtain ⟨v, hv, hc⟩ := h i hi
      exact ⟨v, hv, by rw [World.cell?_of_block (hb.block b hlt)]; exact hc⟩⟩
end Go.Proofs.YtflfopienjjlbaaGreatDoor

namespace Go.Proofs.YtflfopienjjlbaaGreatDoor
open Go.RowKit

set_option maxRecDepth 100000 in
theorem hPick_n (B P : Nat) (a : Option Addr) (m cap n i : Nat) (w : World) (hU : U8In w B P a m) (hm : m ≤ 1048576) (h1 : 1 ≤ n) (hn : n ≤ 256) (hi : i ≤ 1000) :
    Calls Tryz.prog 16 #[.slice a m cap, .int .i64 (i : Nat), .int .i64 (n : Nat)] w fun e w' => ∃ v : Nat, v < n ∧ e = .returned (.int .i64 (v : Nat)) ∧ w' = w := by
  by_cases hm0 : m = 0
  · subst hm0
    clear hU
    go_enter Tryz.func16, Tryz.ntmps16
    go_wp2
    go_ret
    exact ⟨0, by omega, rfl, rfl⟩
  · rcases hU with h | ⟨b, o, rfl, _, _, hc⟩
    · exact absurd h hm0
    have hq0 : i % m < m := Nat.mod_lt _ (by omega)
    have hq : (i : Int) % (m : Int) = ((i % m : Nat) : Int) := by push_cast; rfl
    obtain ⟨v, hv, hcell⟩ := hc (i % m) hq0
    clear hc
    generalize i % m = q at hq hq0 hcell
    have hm1 : ¬ ((m : Int) = 0) := by omega
    have hm2 : (0 : Int) < (m : Int) := by omega
    by_cases hn1 : n ≤ 1
    · have hn' : (n : Int) ≤ 1 := by omega
      go_enter Tryz.func16, Tryz.ntmps16
      go_wp2
      go_ret
      exact ⟨0, by omega, rfl, rfl⟩
    · have hn' : ¬ ((n : Int) ≤ 1) := by omega
      have hn0 : ¬ ((n : Int) = 0) := by omega
      go_enter Tryz.func16, Tryz.ntmps16
      go_wp2
      go_ret
      exact ⟨v % n, Nat.mod_lt _ (by omega), rfl, rfl⟩
end Go.Proofs.YtflfopienjjlbaaGreatDoor

namespace Go.Proofs.YtflfopienjjlbaaGreatDoor
open Go.RowKit

set_option maxRecDepth 100000 in
set_option maxHeartbeats 1000000 in
theorem hStrings_same (a a' : Option Addr) (cap cap' : Nat) (l : List ByteArray) (w : World) (hf : StrsIn w a l) (hf' : StrsIn w a' l) (hlen : l.length ≤ maxLen) :
    Calls Tryz.prog 20 #[.slice a l.length cap, .slice a' l.length cap'] w fun e w' => e = .returned (.bool true) ∧ Below w.heap.size w w' := by
  unfold maxLen at hlen
  have HF : Hid (StrsIn w a l) := hf
  have HF' : Hid (StrsIn w a' l) := hf'
  clear hf hf'
  go_enter Tryz.func20, Tryz.ntmps20
  go_wp2
  go_loopw [5, 13] (fun _ i wr => ∃ k : Nat, k ≤ l.length ∧ i = .int .i64 k ∧ Below w.heap.size w wr) (fun _ i _ => l.length - (intOf i).toNat)
  case atStart => exact ⟨0, Nat.zero_le _, rfl, Below.refl _ _⟩
  case round =>
    obtain ⟨k, hk, rfl, hbel⟩ := hrel
    by_cases hlt : k < l.length
    · obtain ⟨b, o, rfl, hb, c0⟩ := (HF.out.later hbel).at hlt
      obtain ⟨b', o', rfl, hb', c0'⟩ := (HF'.out.later hbel).at hlt
      have d0 := Later.cells c0
      have d0' := Later.cells c0'
      clear c0 c0'
      have hne := Later.there wr
      go_wp2_with fail
      refine wp_region_later (by kernel_rfl) (by kernel_rfl) ?_
      repeat (go_big_quiet_step (fail))
      refine wpQuiet_nil ?_
      rintro _ ⟨x, rfl⟩
      go_wp2
      exact ⟨⟨k + 1, by omega, by go_num, hbel.trans (x.h.mono hbel.size)⟩, by simp [intOf]; omega⟩
    · go_wp2
      go_ret
      exact ⟨rfl, hbel⟩
end Go.Proofs.YtflfopienjjlbaaGreatDoor

namespace Go.Proofs.YtflfopienjjlbaaGreatDoor
open Go.RowKit

set_option maxRecDepth 100000 in
set_option maxHeartbeats 1000000 in
theorem opProper_any (op : OpD) (w : World) (hn : op.name.size ≤ maxLen) (ht : op.to.size ≤ maxLen) :
    Calls Tryz.prog 48 #[.agg #[.int .i64 op.kind, .string op.name, .string op.to, .string op.data, .int .i64 op.size]] w fun e w' => e = .returned (.bool (opB op)) ∧ Below w.heap.size w w' := by
  have HB : Hid (Below w.heap.size w (w.alloc (.cells #[.int .i64 op.kind, .string op.name, .string op.to, .string op.data, .int .i64 op.size] 52))) := bnew _ _
  by_cases h1 : op.kind < 1
  · have E : Hid (opB op = false) := by show _ = _; simp [opB, btwB]; omega
    go_enter Tryz.func48, Tryz.ntmps48
    go_wp2
    go_ret
    exact ⟨ret_bool E.out.symm, HB.out⟩
  · by_cases h2 : 6 < op.kind
    · have E : Hid (opB op = false) := by show _ = _; simp [opB, btwB]; omega
      go_enter Tryz.func48, Tryz.ntmps48
      go_wp2
      go_ret
      exact ⟨ret_bool E.out.symm, HB.out⟩
    · cases hq : nameB op.name with
      | false =>
        have HQ : Hid (nameB op.name = false) := hq
        have E : Hid (opB op = false) := by show _ = _; simp [opB, hq]
        clear hq
        go_enter Tryz.func48, Tryz.ntmps48
        go_wp2_with fail
        refine (isFileName_is HQ.out _ hn).mono ?_
        rintro e w' ⟨rfl, rfl⟩
        go_wp2
        go_ret
        exact ⟨ret_bool E.out.symm, HB.out⟩
      | true =>
        have HQ : Hid (nameB op.name = true) := hq
        have hbt : btwB op.kind 1 6 = true := by simp [btwB]; omega
        by_cases h5 : op.kind = 5
        · have E : Hid (opB op = nameB op.to) := by show _ = _; unfold opB; rw [hbt, hq]; simp [h5]
          clear hq hbt
          go_enter Tryz.func48, Tryz.ntmps48
          go_wp2_with fail
          refine (isFileName_is HQ.out _ hn).mono ?_
          rintro e w' ⟨rfl, rfl⟩
          go_wp2_with fail
          refine (isFileName_any op.to _ ht).mono ?_
          rintro e w' ⟨rfl, rfl⟩
          go_wp2
          go_ret
          exact ⟨ret_bool E.out.symm, bnew _ _⟩
        · have E : Hid (opB op = true) := by show _ = _; simp [opB, hq, hbt, h5]
          have h5' : (op.kind == 5) = false := by simpa using h5
          clear hq hbt
          go_enter Tryz.func48, Tryz.ntmps48
          go_wp2_with fail
          refine (isFileName_is HQ.out _ hn).mono ?_
          rintro e w' ⟨rfl, rfl⟩
          go_wp2
          go_ret
          exact ⟨ret_bool E.out.symm, HB.out⟩
end Go.Proofs.YtflfopienjjlbaaGreatDoor

