import Derived.Test.YtpoichgodamnkaaGreatVUn
import Derived.Test.YtpoichgodamnkaaGreatVLStateHeld
import Derived.Test.YtpoichgodamnkaaGreatKpx
import Derived.Test.YtpoichgodamnkaaGreatKcx
namespace Go.Proofs.YtpoichgodamnkaaGreat
open Go.RowKit Go.Maps
set_option linter.unusedVariables false
set_option maxRecDepth 100000
def quE (p : PlanD) (s : StateD) (q : Int) : Int := if stE p s ≠ 0 then stE p s else if isNum q p.queues.length = false then 5 else 0
structure HeadAt (W : World) (n g j gi oi L cl : Nat) (x : ItemD) (r : List ItemD) : Prop where
 cell : W.cell? ⟨g, j, none⟩ = some (.slice (some ⟨gi, oi, none⟩) (L + 1) cl)
 frz : W.frozen? ⟨g, j, none⟩ = false
 len : L = r.length
 le : L + 1 ≤ cl
 cm : cl ≤ maxLen
 it : ItemCells W gi oi x
 own : n ≤ gi ∧ ∃ cur, W.heap[gi]? = some (.cells cur 43 (0, 0))
 all : ItemsAt W (some ⟨gi, oi, none⟩) (x :: r)
 base : n ≤ g ∧ ∃ cur, W.heap[g]? = some (.cells cur 41 (0, 0))
theorem OwnSt.head {W : World} {n : Nat} {b1 b2 b3 : Option Addr} {m1 d1 m2 d2 m3 d3 : Nat} {s : StateD} (h : OwnSt W n b1 b2 b3 m1 d1 m2 d2 m3 d3 s) {j : Nat} (hj : j < s.ready.length) {x : ItemD} {r : List ItemD} (hl : lineAt s j = x :: r) : ∃ g gi oi L cl, b1 = some ⟨g, 0, none⟩ ∧ HeadAt W n g j gi oi L cl x r := by
 obtain ⟨vs, hr1, hlv⟩ := h.r1
 have hm1 := h.l1
 obtain ⟨g, rfl⟩ : ∃ g, b1 = some ⟨g, 0, none⟩ := by
  rcases hr1.2 with ⟨e, e0⟩ | ⟨g, cap, cur, e, _⟩
  ·omega
  ·cases e; exact ⟨g, rfl⟩
 obtain ⟨v, bl, cl, hv1, hlj⟩ := hlv.get j hj
 have hcell := hr1.cellAt j (by omega)
 rw [hv1, hlj.v] at hcell
 have hsj : s.ready[j]'hj = x :: r := by rw [← lineAt_get hj]; exact hl
 rw [hsj] at hcell hlj
 have hle := hlj.le
 simp only [List.length_cons] at hle hcell
 rcases hlj.own with e | ⟨gi, oi, cur, rfl, hgi, hgh⟩
 ·exfalso; have := hlj.nil e; omega
 ·refine ⟨g, gi, oi, r.length, cl, rfl, hcell, hr1.frozenAt j, rfl, hle, hlj.cm, ?_, ⟨hgi, cur, hgh⟩, hlj.it, own_block hr1⟩
  rcases hlj.it with e | ⟨g', o', e, _, hc⟩
  ·cases e
  ·cases e
   have := hc 0 (by simp)
   simpa only [List.getElem_cons_zero, Nat.zero_mul, Nat.add_zero] using this
theorem HeadAt.rest {W : World} {n g j gi oi L cl : Nat} {x : ItemD} {r : List ItemD} (h : HeadAt W n g j gi oi L cl x r) : LineV W n r (.slice (if cl = 1 then some (⟨gi, oi, none⟩ : Addr) else some ⟨gi, oi + 5, none⟩) L (cl - 1)) (if cl = 1 then some (⟨gi, oi, none⟩ : Addr) else some ⟨gi, oi + 5, none⟩) (cl - 1) := by
 obtain ⟨hn, cur, hg⟩ := h.own
 have hA2 : (if cl = 1 then some (⟨gi, oi, none⟩ : Addr) else some ⟨gi, oi + 5, none⟩) = if cl = 1 then some (⟨gi, oi, none⟩ : Addr) else Option.map (fun y : Addr => y.add (1 * 5)) (some (⟨gi, oi, none⟩ : Addr)) := by rw [Option.map_some, addr_add]
 obtain ⟨oA, hoA⟩ : ∃ oA, (if cl = 1 then some (⟨gi, oi, none⟩ : Addr) else some ⟨gi, oi + 5, none⟩) = some ⟨gi, oA, none⟩ := by split <;> exact ⟨_, rfl⟩
 have hle := h.le
 have hcm := h.cm
 refine ⟨by rw [h.len], by have := h.len; omega, by omega, (fun e => by rw [hoA] at e; cases e), ?_, .inr ⟨gi, oA, cur, hoA, hn, hg⟩⟩
 have := h.all.drop 1 cl (by have := h.len; simp; omega)
 rw [List.drop_one, List.tail_cons, ← hA2] at this
 exact this
def shedS (p : PlanD) (s : StateD) (q : Nat) : StateD := { s with ready := s.ready.set q (putL p q (lineAt s q)), dropped := s.dropped + putD p q (lineAt s q) }
theorem Keep2.of_below {W W' : World} (h : Below W.heap.size W W') : Keep2 W W' := fun k cur T hk _ _ => h.block k (lth_ hk)
theorem Keep2.trans {A B C : World} (h : Keep2 A B) (k : Keep2 B C) : Keep2 A C := fun i cur T hk h1 h2 => (k i cur T ((h i cur T hk h1 h2).trans hk) h1 h2).trans (h i cur T hk h1 h2)
theorem Keep2.row {W W' : World} {base n : Nat} {v : Value} {cs : List Value} (k : Keep2 W W') (h : W.ownsRow base 101 4 v n cs) : W'.ownsRow base 101 4 v n cs := row_keep h (fun i hi => by
 rcases h.2 with ⟨rfl, _⟩ | ⟨g, cap, cur, rfl, hb, hg, _⟩
 ·cases hi
 ·cases hi; exact k g cur _ hg (by decide) (by decide))
end Go.Proofs.YtpoichgodamnkaaGreat
