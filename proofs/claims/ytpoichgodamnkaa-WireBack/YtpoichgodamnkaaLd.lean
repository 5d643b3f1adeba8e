/- mailcoachref.laid: it calls itself. -/
import Derived.Test.YtpoichgodamnkaaPm
import Derived.Test.YtpoichgodamnkaaSt
namespace Go.Proofs.Ytpoichgodamnkaa
set_option linter.unusedVariables false
set_option maxRecDepth 100000
open Go.RowKit

/-- A slice of texts at whatever address, where there is none. -/
def TextsAt (W : World) (a : Option Addr) (xs : List ByteArray) : Prop := xs = [] ∨ ∃ g o, a = some ⟨g, o, none⟩ ∧ IsTexts W g o xs

theorem TextsAt.cut {W : World} {g o c n : Nat} {xs : List ByteArray} (h : IsTexts W g o xs) (hc : xs.length ≤ c) (A : Option Addr) (hA : A = if c = n then some ⟨g, o, none⟩ else some ⟨g, o + n, none⟩) : TextsAt W A (xs.drop n) := by
  by_cases hn : xs.length ≤ n
  · exact .inl (List.drop_eq_nil_of_le hn)
  · refine .inr ⟨g, o + n, by rw [hA, if_neg (by omega)], fun i hi => ?_⟩
    have := h (n + i) (by simp at hi; omega)
    rw [Nat.add_assoc, this]; simp

theorem TextsAt.cut2 {W : World} {a : Option Addr} {c n : Nat} {xs : List ByteArray} (h : TextsAt W a xs) (hc : xs.length ≤ c) : TextsAt W (if c = n then a else Option.map (fun x => x.add n) a) (xs.drop n) := by
  rcases h with rfl | ⟨g, o, rfl, h⟩
  · exact .inl (by simp)
  · exact TextsAt.cut h hc _ (by by_cases hn : n = 0 <;> simp [Addr.add, hn])

theorem TextsAt.drew {W : World} {a : Option Addr} {xs : List ByteArray} (h : TextsAt W a xs) (n : Nat) : TextsAt (W.drewN n) a xs := h

theorem data_ne {x : ByteArray} {l : List UInt8} (h : x.data.toList ≠ l) : (x.toList == l) = false := by rw [Lib.toList_data]; simpa using h
theorem data_eq {x : ByteArray} {l : List UInt8} (h : x.data.toList = l) : (x.toList == l) = true := by rw [Lib.toList_data]; simpa using h
