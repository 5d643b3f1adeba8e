/- How slices of structs that came in are read. -/
import Derived.Lib.SmallJoins
import Derived.Deep.Slices
import Derived.Deep.Strs
import Derived.Test.YthhkpgnjpieckaaWd
namespace Go.Proofs.Ythhkpgnjpieckaa
set_option linter.unusedVariables false
set_option maxRecDepth 100000
open Go.RowKit Go.Deep Go.Joins Go.ChangeShapes

theorem cells9 : Try.prog.cellsOf 9 = 1 := by kernel_rfl
theorem cells3 : Try.prog.cellsOf 3 = 1 := by kernel_rfl
theorem cells4 : Try.prog.cellsOf 4 = 1 := by kernel_rfl

variable {H : Type} {enc : TypeId × Value → H} {w : World} {base : Nat} {spare : Nat → Bool} {held : Bool}

theorem lt_of_cell {W : World} {b o : Nat} {v : Value} (h : W.cell? ⟨b, o, none⟩ = some v) : b < W.heap.size := by
  unfold World.cell? at h
  simp only at h
  cases hb : W.heap[b]? with
  | none => rw [hb] at h; cases h
  | some o => exact (Array.getElem?_eq_some_iff.1 hb).1

/-- The elements of a slice of structs, one by one. -/
theorem elems_read {α : Type} [Inhabited α] {sz : Nat} (hsz : 0 < sz) {a : Addr} {len : Nat} {vals : α → List Value} {q : α → Prop} (hv : ∀ x, (vals x).length = sz)
    (hx : ∀ i, i < len → ∃ cs, w.cells? base (a.add (i * sz)) sz = some cs ∧ ∃ x : α, cs = vals x ∧ q x) :
    ∃ xs : List α, xs.length = len ∧ (∀ x ∈ xs, q x) ∧ (xs = [] ∨ ∃ g o, a = ⟨g, o, none⟩ ∧ g < w.heap.size ∧ ∀ i (h : i < xs.length) j, j < sz → w.cell? ⟨g, o + i * sz + j, none⟩ = (vals xs[i])[j]?) := by
  obtain ⟨f, hf⟩ := choose_lt (α := α) (p := fun i x => w.cells? base (a.add (i * sz)) sz = some (vals x) ∧ q x) (fun i hi => by
    obtain ⟨cs, h1, x, rfl, h2⟩ := hx i hi
    exact ⟨x, h1, h2⟩)
  refine ⟨(List.range len).map f, by simp, ?_, ?_⟩
  · intro x hx'
    obtain ⟨i, hi, rfl⟩ := List.mem_map.1 hx'
    exact (hf i (by simpa using hi)).2
  · by_cases h0 : len = 0
    · left; subst h0; rfl
    · right
      obtain ⟨g, o, spot⟩ := a
      have hc0 := (World.cells?_some (hf 0 (by omega)).1).2.2 0 hsz
      have hne : (vals (f 0))[0]? = some ((vals (f 0))[0]'(by rw [hv]; exact hsz)) := List.getElem?_eq_getElem _
      rw [hne] at hc0
      have hsp : spot = none := by simpa [Addr.add] using World.cell?_spot hc0
      subst hsp
      have hg : g < w.heap.size := lt_of_cell (b := g) (o := o) (by simpa [Addr.add] using hc0)
      refine ⟨g, o, rfl, hg, fun i hi j hj => ?_⟩
      have hi' : i < len := by simpa using hi
      have h := (World.cells?_some (hf i hi').1).2.2 j hj
      have e : ((⟨g, o, none⟩ : Addr).add (i * sz)).add j = ⟨g, o + i * sz + j, none⟩ := by
        unfold Addr.add
        by_cases h1 : i * sz = 0 <;> by_cases h2 : j = 0 <;> simp [h1, h2]
      rw [e] at h
      rw [h]; simp
end Go.Proofs.Ythhkpgnjpieckaa
