/- Plans as plain data; how they lie in memory. -/
import Derived.Test.YthhkpgnjpieckaaBg
namespace Go.Proofs.Ythhkpgnjpieckaa
set_option linter.unusedVariables false
set_option maxRecDepth 100000
open Go.RowKit

structure PostD where
  name : ByteArray
  kind : Int
structure QueueD where
  name : ByteArray
  limit : Int
  dead : Int
structure BindD where
  src : Int
  toPost : Bool
  dst : Int
  pat : ByteArray
structure PlanD where
  posts : List PostD
  queues : List QueueD
  binds : List BindD

def PostsAt (W : World) (a : Option Addr) (xs : List PostD) : Prop := xs = [] ∨ ∃ g o, a = some ⟨g, o, none⟩ ∧ g < W.heap.size ∧ ∀ i (h : i < xs.length), W.cell? ⟨g, o + i * 2, none⟩ = some (.string xs[i].name) ∧ W.cell? ⟨g, o + i * 2 + 1, none⟩ = some (.int .i64 xs[i].kind)
def QueuesAt (W : World) (a : Option Addr) (xs : List QueueD) : Prop := xs = [] ∨ ∃ g o, a = some ⟨g, o, none⟩ ∧ g < W.heap.size ∧ ∀ i (h : i < xs.length), W.cell? ⟨g, o + i * 3, none⟩ = some (.string xs[i].name) ∧ W.cell? ⟨g, o + i * 3 + 1, none⟩ = some (.int .i64 xs[i].limit) ∧ W.cell? ⟨g, o + i * 3 + 2, none⟩ = some (.int .i64 xs[i].dead)
def BindsAt (W : World) (a : Option Addr) (xs : List BindD) : Prop := xs = [] ∨ ∃ g o, a = some ⟨g, o, none⟩ ∧ g < W.heap.size ∧ ∀ i (h : i < xs.length), W.cell? ⟨g, o + i * 4, none⟩ = some (.int .i64 xs[i].src) ∧ W.cell? ⟨g, o + i * 4 + 1, none⟩ = some (.bool xs[i].toPost) ∧ W.cell? ⟨g, o + i * 4 + 2, none⟩ = some (.int .i64 xs[i].dst) ∧ W.cell? ⟨g, o + i * 4 + 3, none⟩ = some (.string xs[i].pat)

theorem PostsAt.keep {W W' : World} {a : Option Addr} {xs : List PostD} (h : PostsAt W a xs) (hB : Below W.heap.size W W') : PostsAt W' a xs := by
  rcases h with h | ⟨g, o, ha, hg, h⟩
  · exact .inl h
  · exact .inr ⟨g, o, ha, Nat.lt_of_lt_of_le hg hB.size, fun i hi => ⟨(hB.cell (p := ⟨g, _, none⟩) hg).trans (h i hi).1, (hB.cell (p := ⟨g, _, none⟩) hg).trans (h i hi).2⟩⟩
theorem QueuesAt.keep {W W' : World} {a : Option Addr} {xs : List QueueD} (h : QueuesAt W a xs) (hB : Below W.heap.size W W') : QueuesAt W' a xs := by
  rcases h with h | ⟨g, o, ha, hg, h⟩
  · exact .inl h
  · exact .inr ⟨g, o, ha, Nat.lt_of_lt_of_le hg hB.size, fun i hi => ⟨(hB.cell (p := ⟨g, _, none⟩) hg).trans (h i hi).1, (hB.cell (p := ⟨g, _, none⟩) hg).trans (h i hi).2.1, (hB.cell (p := ⟨g, _, none⟩) hg).trans (h i hi).2.2⟩⟩
theorem BindsAt.keep {W W' : World} {a : Option Addr} {xs : List BindD} (h : BindsAt W a xs) (hB : Below W.heap.size W W') : BindsAt W' a xs := by
  rcases h with h | ⟨g, o, ha, hg, h⟩
  · exact .inl h
  · exact .inr ⟨g, o, ha, Nat.lt_of_lt_of_le hg hB.size, fun i hi => ⟨(hB.cell (p := ⟨g, _, none⟩) hg).trans (h i hi).1, (hB.cell (p := ⟨g, _, none⟩) hg).trans (h i hi).2.1, (hB.cell (p := ⟨g, _, none⟩) hg).trans (h i hi).2.2.1, (hB.cell (p := ⟨g, _, none⟩) hg).trans (h i hi).2.2.2⟩⟩

theorem take_all_snoc {α : Type} {p : α → Bool} {xs : List α} {k : Nat} (hk : k < xs.length) (h : ∀ x ∈ xs.take k, p x = true) (hx : p xs[k] = true) : ∀ x ∈ xs.take (k + 1), p x = true := by
  rw [List.take_succ_eq_append_getElem hk]
  intro x hx'
  rcases List.mem_append.1 hx' with h1 | h1
  · exact h x h1
  · rw [List.mem_singleton.1 h1]; exact hx
theorem all_of_take {α : Type} {p : α → Bool} {xs : List α} {k n : Nat} (hn : xs.length = n) (hk : ¬ k < n) (h : ∀ x ∈ xs.take k, p x = true) : xs.all p = true := by
  rw [List.take_of_length_le (by omega)] at h
  rw [List.all_eq_true]; exact h
theorem all_false_get {α : Type} {p : α → Bool} {xs : List α} {k : Nat} (hk : k < xs.length) (hx : p xs[k] = false) : xs.all p = false := by
  rw [List.all_eq_false]; exact ⟨xs[k], List.getElem_mem hk, by simp [hx]⟩

/-- A slice of texts out of a row that the call made. -/
theorem own_slice {W : World} {base : Nat} {v : Value} {xs : List ByteArray} (h : W.ownsRow base 9 1 v xs.length (xs.map Value.string)) :
    ∃ a c, v = .slice a xs.length c ∧ (xs.length ≤ c ∧ (a = none → c = 0 ∧ xs = [])) ∧ c ≤ maxLen ∧ TextsAt W a xs := by
  by_cases hne : xs = []
  · subst hne
    rcases h.2 with ⟨rfl, _⟩ | ⟨g, cap, cur, rfl, _, _, hn, hm, _⟩
    · exact ⟨none, 0, rfl, ⟨Nat.le_refl _, fun _ => ⟨rfl, rfl⟩⟩, Nat.zero_le _, .inl rfl⟩
    · exact ⟨_, cap, rfl, ⟨hn, fun h => by cases h⟩, hm, .inl rfl⟩
  · obtain ⟨g, cap, rfl, _, h1, h2, h3⟩ := own_texts h hne
    exact ⟨_, cap, rfl, ⟨h1, fun h => by cases h⟩, h2, .inr ⟨g, 0, rfl, h3⟩⟩
theorem TextsAt.keep {W W' : World} {a : Option Addr} {xs : List ByteArray} (h : TextsAt W a xs) (hB : Below W.heap.size W W') : TextsAt W' a xs := by
  rcases h with h | ⟨g, o, ha, h⟩
  · exact .inl h
  · by_cases hne : 0 < xs.length
    · exact .inr ⟨g, o, ha, h.keep hne hB⟩
    · exact .inl (List.length_eq_zero_iff.1 (by omega))
theorem TextsAt.cells {W : World} {a : Option Addr} {xs : List ByteArray} (h : TextsAt W a xs) (hne : 0 < xs.length) : ∃ g o, a = some ⟨g, o, none⟩ ∧ g < W.heap.size ∧ IsTexts W g o xs := by
  rcases h with h | ⟨g, o, ha, h⟩
  · rw [h] at hne; simp at hne
  · exact ⟨g, o, ha, h.lt hne, h⟩

end Go.Proofs.Ythhkpgnjpieckaa
