import Derived.Test.YtoecnlhnfhongaaDoorOwn
import Derived.Deep.AppendLies
namespace Go.Proofs.YtoecnlhnfhongaaDoor
open Go.RowKit

def flat (fs : List FileD) : List Value := fs.flatMap fun f => [.string f.name, .string f.data, .int .i64 f.synced]

theorem flat_append (a b : List FileD) : flat (a ++ b) = flat a ++ flat b := by simp [flat]
theorem flat_one (f : FileD) : flat [f] = [.string f.name, .string f.data, .int .i64 f.synced] := rfl
theorem flat_length (fs : List FileD) : (flat fs).length = fs.length * 3 := by
  induction fs with
  | nil => rfl
  | cons f r ih => simp [flat] at *; omega

theorem flat_get : ∀ (fs : List FileD) (j : Nat) (h : j < fs.length), (flat fs)[j * 3]? = some (.string fs[j].name) ∧ (flat fs)[j * 3 + 1]? = some (.string fs[j].data) ∧ (flat fs)[j * 3 + 2]? = some (.int .i64 fs[j].synced)
  | [], _, h => absurd h (by simp)
  | f :: r, 0, _ => by simp [flat]
  | f :: r, j + 1, h => by
    have ih := flat_get r j (by simpa using h)
    have e : flat (f :: r) = [.string f.name, .string f.data, .int .i64 f.synced] ++ flat r := rfl
    rw [e]
    have e1 : (j + 1) * 3 = 3 + j * 3 := by omega
    have e2 : (j + 1) * 3 + 1 = 3 + (j * 3 + 1) := by omega
    have e3 : (j + 1) * 3 + 2 = 3 + (j * 3 + 2) := by omega
    have hq : ∀ p, ([.string f.name, .string f.data, .int .i64 f.synced] ++ flat r)[3 + p]? = (flat r)[p]? := fun p => by
      rw [List.getElem?_append_right (by simp)]; simp
    rw [e3, e2, e1, hq, hq, hq]
    exact ih

theorem flat_one_cell (fs : List FileD) : ∀ u ∈ flat fs, u.oneCell' = true := by
  intro u hu
  simp only [flat, List.mem_flatMap, List.mem_cons, List.not_mem_nil, or_false] at hu
  obtain ⟨f, _, rfl | rfl | rfl⟩ := hu <;> rfl

/-- A row of files that the call owns. -/
theorem owned_of_row {w : World} {B : Nat} {e : TypeId} {v : Value} {fs : List FileD} (h : w.ownsRow B e 3 v fs.length (flat fs)) : ∃ a cap, v = .slice a fs.length cap ∧ Owned w B a fs := by
  rcases h.2 with ⟨rfl, h0⟩ | ⟨g, cap, cur, rfl, hB, hg, _, _, _, ht⟩
  · have : fs = [] := List.length_eq_zero_iff.1 h0
    subst this
    exact ⟨none, 0, rfl, Or.inl rfl⟩
  · refine ⟨_, cap, rfl, Or.inr ⟨g, 0, cur, e, rfl, hB, hg, filesAt_of_rows hg fun j hj => ?_⟩⟩
    have key : ∀ p v, (flat fs)[p]? = some v → cur[p]? = some v := fun p v hp => by
      rw [← ht] at hp
      have hlt := (List.getElem?_eq_some_iff.1 hp).1
      rw [List.length_take] at hlt
      rw [List.getElem?_take_of_lt (by omega)] at hp
      simpa using hp
    obtain ⟨a1, a2, a3⟩ := flat_get fs j hj
    refine ⟨?_, ?_, ?_⟩
    · rw [Nat.zero_add]; exact key _ _ a1
    · rw [Nat.zero_add]; exact key _ _ a2
    · rw [Nat.zero_add]; exact key _ _ a3

theorem row_later {w w' : World} {B : Nat} {e : TypeId} {size : Nat} {v : Value} {n : Nat} {xs : List Value} (h : w.ownsRow B e size v n xs) (hb : Below w.heap.size w w') : w'.ownsRow B e size v n xs := by
  obtain ⟨h1, h2⟩ := h
  refine ⟨h1, ?_⟩
  rcases h2 with h2 | ⟨g, cap, cur, hv, hB, hg, r⟩
  · exact Or.inl h2
  · exact Or.inr ⟨g, cap, cur, hv, hB, (hb.block g (lt_of_block hg)).trans hg, r⟩

theorem row_set_below {w : World} {B : Nat} {e : TypeId} {size : Nat} {v : Value} {n : Nat} {xs : List Value} (h : w.ownsRow B e size v n xs) {p : Addr} (hp : p.block < B) (u : Value) : (w.setCell p u).ownsRow B e size v n xs := by
  obtain ⟨h1, h2⟩ := h
  refine ⟨h1, ?_⟩
  rcases h2 with h2 | ⟨g, cap, cur, hv, hB, hg, r⟩
  · exact Or.inl h2
  · exact Or.inr ⟨g, cap, cur, hv, hB, (Below.heap_setCell w p u g (by omega)).trans hg, r⟩

/-- The cells of files that lie behind an address. -/
theorem cells_of_files {w : World} {b o : Nat} {fs : List FileD} (h : FilesAt w b o fs) : ∀ j u, (flat fs)[j]? = some u → w.cell? ((⟨b, o, none⟩ : Addr).add j) = some u := by
  intro j u hu
  have hlt := (List.getElem?_eq_some_iff.1 hu).1
  rw [flat_length] at hlt
  have hj : j / 3 < fs.length := by omega
  obtain ⟨a1, a2, a3⟩ := flat_get fs (j / 3) hj
  obtain ⟨c1, c2, c3⟩ := h (j / 3) hj
  have hadd : (⟨b, o, none⟩ : Addr).add j = ⟨b, o + j, none⟩ := by unfold Addr.add; split <;> simp_all
  rw [hadd]
  have hm : j % 3 = 0 ∨ j % 3 = 1 ∨ j % 3 = 2 := by omega
  rcases hm with hm | hm | hm
  · have e : j = j / 3 * 3 := by omega
    rw [e] at hu
    rw [a1] at hu
    rw [show o + j = o + j / 3 * 3 by omega, c1]; exact hu
  · have e : j = j / 3 * 3 + 1 := by omega
    rw [e] at hu
    rw [a2] at hu
    rw [show o + j = o + j / 3 * 3 + 1 by omega, c2]; exact hu
  · have e : j = j / 3 * 3 + 2 := by omega
    rw [e] at hu
    rw [a3] at hu
    rw [show o + j = o + j / 3 * 3 + 2 by omega, c3]; exact hu
end Go.Proofs.YtoecnlhnfhongaaDoor
