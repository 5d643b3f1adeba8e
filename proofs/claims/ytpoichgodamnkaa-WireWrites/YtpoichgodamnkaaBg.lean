/- mailcoachlaw.wordsBegun: what must be in any case. -/
import Derived.Test.YtpoichgodamnkaaMt
namespace Go.Proofs.Ytpoichgodamnkaa
set_option linter.unusedVariables false
set_option maxRecDepth 100000
open Go.RowKit

theorem isTexts_two (w : World) (a b : ByteArray) (t : TypeId) : IsTexts (w.alloc (.cells #[.string a, .string b] t)) w.heap.size 0 [a, b] := by
  have hh : (w.alloc (.cells #[.string a, .string b] t)).heap[w.heap.size]? = some (.cells #[.string a, .string b] t) := World.alloc_heap_new w _
  intro i hi
  match i, hi with
  | 0, _ => unfold World.cell?; simp only; rw [hh]; rfl
  | 1, _ => unfold World.cell?; simp only; rw [hh]; rfl

theorem two_words : [(⟨#[97]⟩ : ByteArray), ⟨#[98, 49]⟩] = wlB (⟨#[97, 46, 98, 49]⟩ : ByteArray).data.toList := by decide
