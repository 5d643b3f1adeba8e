/- words.lay: one word of a pattern more. -/
import Derived.Test.YtpoichgodamnkaaFi
namespace Go.Proofs.Ytpoichgodamnkaa
set_option linter.unusedVariables false
set_option maxRecDepth 100000
open Go.RowKit

theorem Try.info4 : (Try.prog.info? 4).map (fun i => (i.zero, i.size, i.bytes)) = some (some (.bool false), 1, 1) := by kernel_rfl

/-- The cells of a slice of bools. -/
def IsBools (W : World) (g off : Nat) (bs : List Bool) : Prop := ∀ i (h : i < bs.length), W.cell? ⟨g, off + i, none⟩ = some (.bool bs[i])

/-- What is reached at n behind one word more. -/
def layN (x : ByteArray) (bs : List Bool) (ks : List ByteArray) : Nat → Bool
  | 0 => if x.data.toList = [35] then bs.getD 0 false else false
  | n + 1 => if x.data.toList = [35] then bs.getD (n + 1) false || layN x bs ks n else bs.getD n false && (x.data.toList == [42] || x.data.toList == (ks.getD n ⟨#[]⟩).data.toList)
def layB (x : ByteArray) (bs : List Bool) (ks : List ByteArray) : List Bool := (List.range bs.length).map (layN x bs ks)
/-- The new row with k of its places told. -/
def layTo (x : ByteArray) (bs : List Bool) (ks : List ByteArray) (k : Nat) : List Value := (List.range bs.length).map (fun i => Value.bool (if i < k then layN x bs ks i else false))

theorem layTo_zero (x : ByteArray) (bs : List Bool) (ks : List ByteArray) : layTo x bs ks 0 = List.replicate bs.length (.bool false) := by
  apply List.ext_getElem <;> simp [layTo]
theorem layTo_set (x : ByteArray) (bs : List Bool) (ks : List ByteArray) (k : Nat) {b : Bool} (hb : layN x bs ks k = b) : (layTo x bs ks k).set k (.bool b) = layTo x bs ks (k + 1) := by
  apply List.ext_getElem
  · simp [layTo]
  · intro i h1 h2
    simp only [layTo, List.getElem_set, List.getElem_map, List.getElem_range]
    by_cases hi : k = i
    · subst hi; simp [hb]
    · rw [if_neg hi]
      by_cases h3 : i < k
      · rw [if_pos h3, if_pos (by omega)]
      · rw [if_neg h3, if_neg (by omega)]
theorem layTo_same (x : ByteArray) (bs : List Bool) (ks : List ByteArray) (k : Nat) (hb : layN x bs ks k = false) : layTo x bs ks k = layTo x bs ks (k + 1) := by
  apply List.ext_getElem
  · simp [layTo]
  · intro i h1 h2
    simp only [layTo, List.getElem_map, List.getElem_range]
    by_cases hi : k = i
    · subst hi; simp [hb]
    · by_cases h3 : i < k
      · rw [if_pos h3, if_pos (by omega)]
      · rw [if_neg h3, if_neg (by omega)]
theorem layTo_get (x : ByteArray) (bs : List Bool) (ks : List ByteArray) (k j : Nat) (hj : j < bs.length) : (layTo x bs ks k)[j]? = some (.bool (if j < k then layN x bs ks j else false)) := by
  simp [layTo, hj]
theorem layTo_full (x : ByteArray) (bs : List Bool) (ks : List ByteArray) : layTo x bs ks bs.length = (layB x bs ks).map Value.bool := by
  apply List.ext_getElem
  · simp [layTo, layB]
  · intro i h1 h2
    simp [layTo, layB]
    intro h; simp [layTo] at h1; omega

theorem made_bools (n : Nat) : (madeCells (Value.bool false).cells (n * 1)).toList = List.replicate n (.bool false) := by
  apply List.ext_getElem
  · simp [madeCells]
  · intro i h1 h2
    simp [madeCells, Value.cells, Nat.mod_one]
