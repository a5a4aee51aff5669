import Derived.Test.YtndaihhjhllfcadFind
import Derived.Test.YtndaihhjhllfcadIns
namespace Go.Proofs.Ytndaihhjhllfcad
open Go.RowKit

theorem Asc.tail {f : FileD} {r : List FileD} (h : Asc (f :: r)) : Asc r := fun i j hi hj => by
  have := h (i + 1) (j + 1) (by omega) (by simp; omega)
  simpa using this

theorem Asc.head {f : FileD} {r : List FileD} (h : Asc (f :: r)) (j : Nat) (hj : j < r.length) : Op.bytesLess f.name.toList r[j].name.toList = true := by
  have := h 0 (j + 1) (by omega) (by simp; omega)
  simpa using this

theorem posOf_is : ∀ {fs : List FileD} (t : ByteArray), Asc fs → PosIs fs t (posOf t fs)
  | [], t, _ => ⟨Nat.le_refl _, fun j h => absurd h (by simp), fun j h => absurd h (by simp)⟩
  | f :: r, t, ha => by
    have ih := posOf_is t ha.tail
    unfold posOf
    by_cases hl : Op.bytesLess f.name.toList t.toList = true
    · rw [if_pos hl]
      refine ⟨by simp; exact ih.1, fun j hj hlt => ?_, fun j hj hge => ?_⟩
      · cases j with
        | zero => exact hl
        | succ j => simpa using ih.2.1 j (by simpa using hj) (by omega)
      · cases j with
        | zero => omega
        | succ j => simpa using ih.2.2 j (by simpa using hj) (by omega)
    · rw [if_neg hl]
      refine ⟨Nat.zero_le _, fun j _ h => absurd h (by omega), fun j hj _ => ?_⟩
      cases j with
      | zero => simpa using hl
      | succ j =>
        have hj' : j < r.length := by simpa using hj
        show Op.bytesLess r[j].name.toList t.toList = false
        rw [Bool.eq_false_iff]
        intro h
        exact hl (less_trans _ _ _ (ha.head j hj') h)

theorem findFile_is (a : Option Addr) (cap : Nat) (fs : List FileD) (t : ByteArray) (w : World) (hf : FilesIn w a fs) (hasc : Asc fs) (hlen : fs.length ≤ 1048576) :
    Calls Try.prog 41 #[.slice a fs.length cap, .string t] w fun e w' => e = .returned (.tuple #[.int .i64 (posOf t fs), .bool (hasB fs t (posOf t fs))]) ∧ Below w.heap.size w w' := by
  refine (findFile_any a cap fs t w hf hasc hlen).mono ?_
  rintro e w' ⟨i, hp, rfl, hb⟩
  obtain rfl := hp.uniq (posOf_is t hasc)
  exact ⟨rfl, hb⟩

theorem hasB_lt {fs : List FileD} {t : ByteArray} {i : Nat} (h : hasB fs t i = true) : ∃ hi : i < fs.length, fs[i].name = t := by
  unfold hasB at h
  split at h
  · exact absurd h (by simp)
  · rename_i f hf
    obtain ⟨hlt, rfl⟩ := List.getElem?_eq_some_iff.1 hf
    exact ⟨hlt, toList_inj (by simpa using h)⟩

/-- The files but those called t. -/
def withoutL (fs : List FileD) (t : ByteArray) : List FileD := fs.filter fun f => !(f.name.toList == t.toList)

/-- f among files that ascend, none of its name. -/
def placeL : List FileD → FileD → List FileD
  | [], f => [f]
  | g :: r, f => if Op.bytesLess f.name.toList g.name.toList = true then f :: g :: r else g :: placeL r f

theorem without_none {fs : List FileD} {t : ByteArray} (h : ∀ j (hj : j < fs.length), fs[j].name ≠ t) : withoutL fs t = fs := by
  unfold withoutL
  rw [List.filter_eq_self]
  intro f hf
  obtain ⟨j, hj, rfl⟩ := List.getElem_of_mem hf
  simp only [Bool.not_eq_true', beq_eq_false_iff_ne, ne_eq]
  exact fun e => h j hj (toList_inj e)

theorem without_erase : ∀ {fs : List FileD} {i : Nat} (_ : Asc fs) (hi : i < fs.length), withoutL fs fs[i].name = fs.eraseIdx i
  | f :: r, 0, ha, _ => by
    have e : withoutL (f :: r) f.name = withoutL r f.name := by simp [withoutL]
    show withoutL (f :: r) f.name = r
    rw [e]
    exact without_none fun j hj e => by
      have := ha.head j hj
      rw [e, less_irrefl] at this
      exact absurd this (by simp)
  | f :: r, i + 1, ha, hi => by
    have hi' : i < r.length := by simpa using hi
    have ih := without_erase ha.tail hi'
    have hne : (f.name.toList == (r[i]).name.toList) = false := by
      rw [beq_eq_false_iff_ne]
      intro e
      have := ha.head i hi'
      rw [e, less_irrefl] at this
      exact absurd this (by simp)
    show withoutL (f :: r) r[i].name = f :: r.eraseIdx i
    rw [← ih]
    simp [withoutL, hne]

theorem Asc.erase {fs : List FileD} (h : Asc fs) (i : Nat) : Asc (fs.eraseIdx i) := by
  intro a b hab hb
  have hlb : b < fs.length := by
    rw [List.length_eraseIdx] at hb; split at hb <;> omega
  rw [List.getElem_eraseIdx, List.getElem_eraseIdx]
  rw [List.length_eraseIdx] at hb
  split <;> split
  · exact h a b hab (by omega)
  · exact h a (b + 1) (by omega) (by split at hb <;> omega)
  · omega
  · exact h (a + 1) (b + 1) (by omega) (by split at hb <;> omega)

theorem hasB_none {fs : List FileD} {t : ByteArray} (ha : Asc fs) (hb : hasB fs t (posOf t fs) = false) : ∀ j (hj : j < fs.length), fs[j].name ≠ t := by
  intro j hj e
  have hp := posOf_is t ha
  rcases Nat.lt_trichotomy j (posOf t fs) with h | h | h
  · have := hp.2.1 j hj h
    rw [e, less_irrefl] at this; exact absurd this (by simp)
  · have : hasB fs t j = true := by simp [hasB, List.getElem?_eq_getElem hj, e]
    rw [← h, this] at hb; exact absurd hb (by simp)
  · have h1 := hp.2.2 (posOf t fs) (by omega) (Nat.le_refl _)
    have h2 := ha (posOf t fs) j h hj
    rw [e] at h2
    rw [h2] at h1; exact absurd h1 (by simp)

theorem place_ins : ∀ {fs : List FileD} (f : FileD), Asc fs → (∀ j (hj : j < fs.length), fs[j].name ≠ f.name) → placeL fs f = insL fs (posOf f.name fs) f
  | [], f, _, _ => rfl
  | g :: r, f, ha, hn => by
    have ih := place_ins f ha.tail (fun j hj => by have := hn (j + 1) (by simp; omega); simpa using this)
    unfold placeL posOf
    by_cases hl : Op.bytesLess g.name.toList f.name.toList = true
    · rw [if_neg (by rw [less_asymm hl]; simp), if_pos hl, ih]
      simp [insL]
    · have hne : g.name.toList ≠ f.name.toList := fun e => hn 0 (by simp) (toList_inj e)
      have hl2 := less_total _ _ (by simpa using hl) hne
      rw [if_pos hl2, if_neg hl]
      rfl

theorem ins_erase {fs : List FileD} {i : Nat} (hi : i < fs.length) (f : FileD) : insL (fs.eraseIdx i) i f = fs.set i f := by
  rw [insL, List.eraseIdx_eq_take_drop_succ, List.set_eq_take_append_cons_drop, if_pos hi]
  have h1 : (fs.take i).length = i := by rw [List.length_take]; omega
  rw [List.take_append_of_le_length (by omega), List.take_of_length_le (by omega), List.drop_append_of_le_length (by omega), List.drop_eq_nil_of_le (by omega), List.nil_append]

theorem pos_erase {fs : List FileD} {i : Nat} (ha : Asc fs) (hi : i < fs.length) : posOf fs[i].name (fs.eraseIdx i) = i := by
  refine (posOf_is _ (ha.erase i)).uniq ⟨by rw [List.length_eraseIdx, if_pos hi]; omega, fun j hj hlt => ?_, fun j hj hge => ?_⟩
  · rw [List.getElem_eraseIdx, dif_pos hlt]; exact ha j i hlt hi
  · rw [List.getElem_eraseIdx, dif_neg (by omega)]
    rw [List.length_eraseIdx, if_pos hi] at hj
    exact less_asymm (ha i (j + 1) (by omega) (by omega))

/-- The files with f, instead of any of its name. -/
def withL (fs : List FileD) (f : FileD) : List FileD := placeL (withoutL fs f.name) f

theorem with_new {fs : List FileD} {f : FileD} (ha : Asc fs) (hb : hasB fs f.name (posOf f.name fs) = false) : withL fs f = insL fs (posOf f.name fs) f := by
  have hn := hasB_none ha hb
  unfold withL
  rw [without_none hn]
  exact place_ins f ha hn

theorem with_old {fs : List FileD} {f : FileD} {i : Nat} (ha : Asc fs) (hi : i < fs.length) (he : fs[i].name = f.name) : withL fs f = fs.set i f := by
  unfold withL
  rw [← he, without_erase ha hi]
  have hn : ∀ j (hj : j < (fs.eraseIdx i).length), (fs.eraseIdx i)[j].name ≠ f.name := fun j hj e => by
    rw [List.getElem_eraseIdx] at e
    rw [← he] at e
    rw [List.length_eraseIdx, if_pos hi] at hj
    split at e
    · have := ha j i (by omega) hi
      rw [e, less_irrefl] at this; exact absurd this (by simp)
    · have := ha i (j + 1) (by omega) (by omega)
      rw [e, less_irrefl] at this; exact absurd this (by simp)
  rw [place_ins f (ha.erase i) hn, ← he, pos_erase ha hi, ins_erase hi]
end Go.Proofs.Ytndaihhjhllfcad
