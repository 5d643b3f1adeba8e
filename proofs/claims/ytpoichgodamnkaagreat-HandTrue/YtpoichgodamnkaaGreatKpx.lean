import Derived.Test.YtpoichgodamnkaaGreatKjx
import Derived.Deep.RegionHeld3
import Derived.Test.YtpoichgodamnkaaGreatKmx
import Derived.Test.YtpoichgodamnkaaGreatKcx
namespace Go.Proofs.YtpoichgodamnkaaGreat
open Go.RowKit Go.Maps
set_option linter.unusedVariables false
set_option maxRecDepth 100000
theorem row_keepN {w1 w2 : World} {base : Nat} {v : Value} {n : Nat} {xs : List Value} {e : TypeId} {size : Nat} (h : w1.ownsRow base e size v n xs) (hB : Below w1.heap.size w1 w2) : w2.ownsRow base e size v n xs := (Turn.of_below (fun _ => False) hB).row h (fun _ _ => id)
theorem bools_set {W : World} {base g n : Nat} {bs : List Bool} (h : W.ownsRow base 4 1 (.slice (some ⟨g, 0, none⟩) n n) n (bs.map Value.bool)) (i : Nat) : (W.setCell ⟨g, i, none⟩ (.bool true)).ownsRow base 4 1 (.slice (some ⟨g, 0, none⟩) n n) n ((bs.set i true).map Value.bool) := by
 have := (h.stored i (.bool true)).1
 rw [List.map_set]; exact this
theorem plan_box_keep {W W' : World} {b : Nat} {cs : Array Value} {t : TypeId} (h : W.heap[b]? = some (.cells cs t (0, 0))) (hB : Below W.heap.size W W') : W'.heap[b]? = some (.cells cs t (0, 0)) := (hB.block b (lth_ h)).trans h
theorem set_other {W : World} {b g i : Nat} {o : Obj} (h : W.heap[b]? = some o) (hne : b ≠ g) (u : Value) : (W.setCell ⟨g, i, none⟩ u).heap[b]? = some o := ((setCell_turn W g i u).block b (lth_ h) (by omega)).trans h
structure MSt (w : World) (pv : Array Value) (n1 : Nat) (bs : List Bool) (W : World) : Prop where
 len : bs.length = n1
 row : W.ownsRow (w.heap.size + 1) 4 1 (.slice (some ⟨w.heap.size + 1, 0, none⟩) n1 n1) n1 (bs.map Value.bool)
 box : W.heap[w.heap.size]? = some (.cells pv 26 (0, 0))
 below : Below w.heap.size w W
theorem MSt.keep {w : World} {pv : Array Value} {n1 : Nat} {bs : List Bool} {W W' : World} (h : MSt w pv n1 bs W) (hB : Below W.heap.size W W') : MSt w pv n1 bs W' :=
 ⟨h.len, row_keepN h.row hB, plan_box_keep h.box hB, h.below.trans (hB.mono h.below.size)⟩
theorem MSt.set {w : World} {pv : Array Value} {n1 : Nat} {bs : List Bool} {W : World} (h : MSt w pv n1 bs W) (i : Nat) : MSt w pv n1 (bs.set i true) (W.setCell ⟨w.heap.size + 1, i, none⟩ (.bool true)) :=
 ⟨by rw [List.length_set]; exact h.len, bools_set h.row i, set_other h.box (by omega) _, h.below.setCell (p := ⟨w.heap.size + 1, i, none⟩) (Nat.le_succ _) _⟩
theorem MSt.start {w w1 : World} {pv : Array Value} {n1 : Nat} (hgrow : (w.alloc (.cells pv 26)).grownBy w1 none) (hown : w1.ownsRow (w.heap.size + 1) 4 1 (.slice (some ⟨(w.alloc (.cells pv 26)).heap.size, 0, none⟩) n1 n1) n1 (madeCells (Value.bool false).cells (n1 * 1)).toList) : MSt w pv n1 (List.replicate n1 false) w1 := by
 refine ⟨by simp, ?_, ?_, ((Below.refl _ _).alloc (Nat.le_refl _) _).grown hgrow (by simp) (fun k e => by cases e)⟩
 ·rw [made_bools, World.size_alloc] at hown; rw [List.map_replicate]; exact hown
 ·exact (hgrow.block w.heap.size (by simp) (by simp)).trans (World.alloc_heap_new w _)
end Go.Proofs.YtpoichgodamnkaaGreat
