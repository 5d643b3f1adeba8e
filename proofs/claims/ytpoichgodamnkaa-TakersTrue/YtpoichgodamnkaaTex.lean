import Derived.Deep.QuietTactic
import Derived.BigQuiet
import Derived.Test.YtpoichgodamnkaaTbx
import Derived.Test.YtpoichgodamnkaaTdx
namespace Go.Proofs.Ytpoichgodamnkaa
open Go.RowKit
set_option linter.unusedVariables false
set_option maxRecDepth 100000
def TextsAt (W : World) (a : Option Addr) (xs : List ByteArray) : Prop := xs = [] ∨ ∃ g o, a = some ⟨g, o, none⟩ ∧ IsTexts W g o xs
theorem TextsAt.drew {W : World} {a : Option Addr} {xs : List ByteArray} (h : TextsAt W a xs) (n : Nat) : TextsAt (W.drewN n) a xs := h
theorem IsTexts.below {W W' : World} {B g o : Nat} {xs : List ByteArray} (h : IsTexts W g o xs) (hB : Below B W W') (hg : g < B) : IsTexts W' g o xs :=
 fun i hi => (hB.cell (p := ⟨g, o + i, none⟩) hg).trans (h i hi)
theorem IsTexts.lt {W : World} {g o : Nat} {xs : List ByteArray} (h : IsTexts W g o xs) (hne : 0 < xs.length) : g < W.heap.size := by
 have := h 0 hne
 unfold World.cell? at this
 simp only at this
 cases hb : W.heap[g]? with
 | none => rw [hb] at this; cases this
 | some o => exact (Array.getElem?_eq_some_iff.1 hb).1
theorem IsTexts.keep {W W' : World} {g o : Nat} {xs : List ByteArray} (h : IsTexts W g o xs) (hne : 0 < xs.length) (hB : Below W.heap.size W W') : IsTexts W' g o xs := h.below hB (h.lt hne)
def IsBools (W : World) (g off : Nat) (bs : List Bool) : Prop := ∀ i (h : i < bs.length), W.cell? ⟨g, off + i, none⟩ = some (.bool bs[i])
def layN (x : ByteArray) (bs : List Bool) (ks : List ByteArray) : Nat → Bool
 | 0 => if x.data.toList = [35] then bs.getD 0 false else false
 | n + 1 => if x.data.toList = [35] then bs.getD (n + 1) false || layN x bs ks n else bs.getD n false && (x.data.toList == [42] || x.data.toList == (ks.getD n ⟨#[]⟩).data.toList)
def layB (x : ByteArray) (bs : List Bool) (ks : List ByteArray) : List Bool := (List.range bs.length).map (layN x bs ks)
def layTo (x : ByteArray) (bs : List Bool) (ks : List ByteArray) (k : Nat) : List Value := (List.range bs.length).map (fun i => Value.bool (if i < k then layN x bs ks i else false))
end Go.Proofs.Ytpoichgodamnkaa
namespace Go.Proofs.Ytpoichgodamnkaa
set_option linter.unusedVariables false
set_option maxRecDepth 100000
def reachB (xs pre : List ByteArray) : List Bool := (List.range (xs.length + 1)).map (fun n => laidB pre (xs.take n))
end Go.Proofs.Ytpoichgodamnkaa
namespace Go.Proofs.Ytpoichgodamnkaa
open Go.RowKit Go.Shelf
set_option linter.unusedVariables false
set_option maxRecDepth 100000
attribute [local go_sem] Oper.semAt_some
end Go.Proofs.Ytpoichgodamnkaa
