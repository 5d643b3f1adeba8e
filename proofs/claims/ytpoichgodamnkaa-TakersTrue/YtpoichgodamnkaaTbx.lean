import Derived.Test.YtpoichgodamnkaaTax
import Derived.RangeFuncWrites
import Derived.RangeFuncBox
import Derived.Deep.RegionHeld3
import Derived.ProofKit
import Derived.Laws.AppendOwnNone
import Derived.Lib.AppendZeros
namespace Go.Proofs.Ytpoichgodamnkaa
open Go.RowKit
set_option linter.unusedVariables false
set_option maxRecDepth 100000
set_option maxHeartbeats 400000
theorem wlB_len (l : List UInt8) : (wlB l).length = Lib.countByte l 46 + 1 := by simp [wlB, wsplit_length]
def IsTexts (W : World) (g off : Nat) (xs : List ByteArray) : Prop := ∀ i (h : i < xs.length), W.cell? ⟨g, off + i, none⟩ = some (.string xs[i])
theorem own_texts {W : World} {base : Nat} {v : Value} {xs : List ByteArray} (h : W.ownsRow base 9 1 v xs.length (xs.map Value.string)) (hne : xs ≠ []) :
 ∃ g cap, v = .slice (some ⟨g, 0, none⟩) xs.length cap ∧ base ≤ g ∧ xs.length ≤ cap ∧ cap ≤ maxLen ∧ IsTexts W g 0 xs := by
 obtain ⟨h1, h2⟩ := h
 rcases h2 with ⟨_, h0⟩ | ⟨g, cap, cur, rfl, hg, hh, hn, hm, hs, ht⟩
 ·exact absurd (List.length_eq_zero_iff.1 h0) hne
 ·refine ⟨g, cap, rfl, hg, hn, hm, fun i hi => ?_⟩
  have e : cur.toList[i]? = some (.string xs[i]) := by
   have : (cur.toList.take (xs.length * 1))[i]? = some (.string xs[i]) := by rw [ht]; simp [hi]
   rwa [List.getElem?_take_of_lt (by omega)] at this
  have e' : cur[i]? = some (.string xs[i]) := by simpa using e
  simp [World.cell?, hh, e']
theorem pattern_any (s : ByteArray) (w : World) :
 Calls Try.prog 107 #[.string s] w fun e w' => e = .returned (.int .i64 (perr s.data.toList)) ∧ Below w.heap.size w w' := by
 go_enter Try.func107, Try.ntmps107
 go_wp2_with (go_at_call 117; refine (check_pat _ _).mono ?_; rintro e w' ⟨rfl, hB⟩)
 go_ret
 exact ⟨rfl, hB⟩
end Go.Proofs.Ytpoichgodamnkaa
namespace Go.Proofs.Ytpoichgodamnkaa
open Go.RowKit Go.Shelf
set_option linter.unusedVariables false
set_option maxRecDepth 100000
set_option maxHeartbeats 2000000
attribute [local go_sem] Oper.semAt_some
theorem werr_zero {right : List UInt8 → Bool} {l : List UInt8} (h : werr right l = 0) : l.length ≤ 24 ∧ Lib.countByte l 46 < 6 := by
 unfold werr at h
 by_cases h1 : 24 < l.length ∨ 6 < (wsplit l).length
 ·rw [if_pos h1] at h; cases h
 ·rw [wsplit_length] at h1; omega
theorem splitK_err (s : ByteArray) (w : World) (h : kerr s.data.toList ≠ 0) :
 Calls Try.prog 120 #[.string s] w fun e w' => e = .returned (.tuple #[.slice none 0 0, .int .i64 (kerr s.data.toList)]) ∧ Below w.heap.size w w' := by
 have h' : (kerr s.data.toList != 0) = true := bne_iff_ne.2 h
 obtain ⟨c, hc⟩ : ∃ c, c = kerr s.data.toList := ⟨_, rfl⟩
 have HC : Hid (c = kerr s.data.toList) := hc
 rw [← hc] at h' ⊢
 clear hc h
 go_enter Try.func120, Try.ntmps120
 go_wp2_with (go_at_call 117; refine (check_key _ _).mono ?_; rintro e w' ⟨rfl, hB⟩; rw [show werr isW s.data.toList = c from HC.out.symm])
 go_ret2
 exact ⟨rfl, hB⟩
theorem splitK_in (s : ByteArray) (w : World) (h : kerr s.data.toList = 0) :
 CallsIn Fence.wide 5 Try.prog 120 #[.string s] w fun e w' => ∃ v, e = .returned (.tuple #[v, .int .i64 0]) ∧ w'.ownsRow w.heap.size 9 1 v (wlB s.data.toList).length ((wlB s.data.toList).map Value.string) ∧ Below w.heap.size w w' := by
 obtain ⟨h24, h6⟩ := werr_zero h
 have hm : s.size ≤ maxLen := by have : s.size ≤ 24 := by simpa using h24
                                 unfold maxLen; omega
 have hn7 : (wlB s.data.toList).length ≤ 6 := by rw [wlB_len]; omega
 have HC : Hid (kerr s.data.toList = 0) := h
 clear h
 obtain ⟨i0, hi, hz0, hz1, hz2⟩ := info_parts Try.info9
 refine callsIn_of_wp_marks Try.func120 rfl trivial ?_ rfl
 simp only [Try.ntmps120, List.size_toArray, List.length_cons, List.length_nil, Nat.reduceAdd, Nat.reduceSub, Array.replicate_succ, Array.replicate_zero, List.push_toArray, List.append_toArray, List.nil_append, List.cons_append]
 gi_wp2_with (first
  | (refine ⟨trivial, ?_⟩; gi_at_call 117; refine (callsIn_wide.2 (check_key _ _)).mono ?_; rintro e w1 ⟨rfl, hB1⟩; rw [show werr isW s.data.toList = 0 from HC.out])
  | (refine ⟨trivial, ?_⟩; gi_at_call 122; refine (each_in _ _ _).mono ?_; rintro e w' ⟨rfl, rfl⟩))
 have hs1 := hB1.size
 have bO := Boxed.new w1 68 (.slice none 0 0)
 have bN := Boxed.new (w1.alloc (.cells #[.slice none 0 0] 68)) 9 (.string s)
 rw [World.size_alloc] at bN
 have hB0 : Below w.heap.size w ((w1.alloc (.cells #[.slice none 0 0] 68)).alloc (.cells #[.string s] 9)) := (hB1.alloc hs1 _).alloc (by simp; omega) _
 refine wpIn_rangeFunc_ownG rfl (by omega) (gf := 126) (lb := #[.pointer (some ⟨w1.heap.size + 1, 0, none⟩)]) rfl trivial (enters_of Try.func126 (by kernel_rfl) rfl)
  (each_stops 4 (by omega) (w1.heap.size + 1) s hm _ (by simp) bN.cell) (fun _ _ => trivial) (fun _ _ _ _ _ _ _ _ => trivial) (Below.refl _ _) (fun _ => rfl)
  (fun pre W => (∃ v, Boxed W w1.heap.size 68 v ∧ W.ownsRow w.heap.size 9 1 v pre.length (pre.map (fun x : WB => Value.string x.1)) ∧ True) ∧ Below w.heap.size w W)
  (fun _ _ _ => False)
  (OwnFrom.and (Own.from (holdsRow_own w.heap.size w1.heap.size 68 9 1 (fun pre : List WB => pre.length) (fun pre : List WB => pre.map (fun x : WB => Value.string x.1)) (fun _ _ => True)) _) (ownFrom_below (Nat.le_refl _) (by simp; omega)))
  (fun _ _ _ _ _ hs _ _ => hs)
  ⟨⟨_, bO.alloc _, World.ownsRow_nil _ _ _ _, trivial⟩, hB0⟩
  (fun x => { tmps := #[.string s, undef, .slice none 0 0, .int .i64 0, .int .i64 0, .pointer (some ⟨w1.heap.size, 0, none⟩), .string x.1, .string s, .int .i64 0, .int .i64 0, .bool false, undef, .string s, .func (.func 126) #[] #[.pointer (some ⟨w1.heap.size + 1, 0, none⟩)], .string x.1, undef, undef, undef, undef, undef], defers := [] }) ?assign ?body ?done ?stop
 case assign =>
  intro l x W K hK
  gi_wp2
  exact hK
 case body =>
  rintro l pre x W ⟨⟨v, hv, hrow, _⟩, hB⟩ hlt
  have hc := hv.cell
  have hBs := hB.size
  gi_wp2_with (gi_at_builtin; refine wpListIn_append_own _ rfl _ _ 68 rfl w.heap.size 9 i0 (.string ⟨#[]⟩) 1 16 Try.underlying68 hi hz0 hz1 hz2 rfl (by decide) _ _ _ rfl (hrow.alloc _) ⟨W.heap.size, 0, none⟩ 1 1 [.string x.1] rfl rfl (cell_one_new _ _ _) (by simp [Value.oneCell']) (by unfold maxLen; omega) (by omega) (by simp; omega) ?_; intro v' w2 hown' hgrow _; obtain ⟨g', cap', rfl⟩ := ownsRow_succ hown'; obtain ⟨hv1, hv2, hr2, hk2, hb2⟩ := hv.appended (by decide) hrow hB.size hs1 hown' hgrow; have hc1 := hv1.cell; have hf1 := hv1.frozen)
  exact ⟨hk2.from _, trivial, ⟨_, hv2, by simpa using hr2, trivial⟩, hB.trans hb2⟩
 case done =>
  rintro D ys W hD hys ⟨⟨v, hv, hrow, _⟩, hB⟩ hK
  have hc := hv.cell
  have HY : Hid (List.map (fun x : WB => x.1) ys = wlB s.data.toList) := hys
  clear hys
  gi_wp2
  refine ⟨by simp, .inl ⟨_, _, rfl, run_takeDeferred hK, ?_⟩⟩
  have hrow' : W.ownsRow w.heap.size 9 1 v (wlB s.data.toList).length ((wlB s.data.toList).map Value.string) := by
   rw [← HY.out]; simpa [Function.comp_def] using hrow
  exact ⟨_, results_tmp2 rfl _ _ _, v, rfl, ownsRow_putObj hrow' _ hK rfl, hB.trans (belowK_b (w := w) (Nat.le_refl _) W D _ _ (by simp at hD; omega) hK rfl rfl)⟩
 case stop =>
  rintro D c pre W _ _ h _
  exact h.elim
theorem splitK_ok (s : ByteArray) (xs : List ByteArray) (hxs : xs = wlB s.data.toList) (w : World) (h : kerr s.data.toList = 0) :
 Calls Try.prog 120 #[.string s] w fun e w' => ∃ g cap, e = .returned (.tuple #[.slice (some ⟨g, 0, none⟩) xs.length cap, .int .i64 0]) ∧ w.heap.size ≤ g ∧ xs.length ≤ cap ∧ cap ≤ maxLen ∧ IsTexts w' g 0 xs ∧ Below w.heap.size w w' := by
 subst hxs
 refine (callsIn_wide.1 (splitK_in s w h)).mono ?_
 rintro e w' ⟨v, rfl, hown, hB⟩
 obtain ⟨g, cap, rfl, h1, h2, h3, h4⟩ := own_texts hown (by intro h; have := wlB_len s.data.toList; rw [h] at this; simp at this)
 exact ⟨g, cap, rfl, h1, h2, h3, h4, hB⟩
end Go.Proofs.Ytpoichgodamnkaa
namespace Go.Proofs.Ytpoichgodamnkaa
open Go.RowKit
set_option linter.unusedVariables false
set_option maxRecDepth 100000
set_option maxHeartbeats 2000000
structure ItemD where
 seq : Int
 key : ByteArray
 body : ByteArray
 again : Bool
 deaths : Int
def ItemD.val (x : ItemD) : Value := .agg #[.int .i64 x.seq, .string x.key, .string x.body, .bool x.again, .int .i64 x.deaths]
def itemNums (s d : Int) (b : Nat) : Bool := decide (0 ≤ s) && decide (s < 1048576) && decide (b ≤ 12) && decide (0 ≤ d) && decide (d ≤ 2)
def itemOk (x : ItemD) : Bool := itemNums x.seq x.deaths x.body.size && decide (kerr x.key.data.toList = 0)
theorem splitK_any (s : ByteArray) (w : World) :
 Calls Try.prog 120 #[.string s] w fun e w' => ∃ v, e = .returned (.tuple #[v, .int .i64 (kerr s.data.toList)]) ∧ Below w.heap.size w w' := by
 by_cases h : kerr s.data.toList = 0
 ·refine (splitK_ok s _ rfl w h).mono ?_
  rintro e w' ⟨g, cap, rfl, _, _, _, _, hB⟩
  exact ⟨_, by rw [h], hB⟩
 ·refine (splitK_err s w h).mono ?_
  rintro e w' ⟨rfl, hB⟩
  exact ⟨_, rfl, hB⟩
theorem item_box (w : World) (v0 v1 v2 v3 v4 : Value) (t : TypeId) : ∃ W1, W1 = w.alloc (.cells #[v0, v1, v2, v3, v4] t) ∧ Below w.heap.size w W1 ∧ W1.heap.size = w.heap.size + 1 ∧
 ∀ W, Below W1.heap.size W1 W → W.cell? ⟨w.heap.size, 0, none⟩ = some v0 ∧ W.cell? ⟨w.heap.size, 1, none⟩ = some v1 ∧ W.cell? ⟨w.heap.size, 2, none⟩ = some v2 ∧ W.cell? ⟨w.heap.size, 3, none⟩ = some v3 ∧ W.cell? ⟨w.heap.size, 4, none⟩ = some v4 := by
 have hh : (w.alloc (.cells #[v0, v1, v2, v3, v4] t)).heap[w.heap.size]? = some (.cells #[v0, v1, v2, v3, v4] t) := World.alloc_heap_new w _
 have hs : (w.alloc (.cells #[v0, v1, v2, v3, v4] t)).heap.size = w.heap.size + 1 := by simp
 have hc : ∀ i, (w.alloc (.cells #[v0, v1, v2, v3, v4] t)).cell? ⟨w.heap.size, i, none⟩ = #[v0, v1, v2, v3, v4][i]? := by intro i; unfold World.cell?; simp only; rw [hh]; rfl
 refine ⟨_, rfl, (Below.refl _ _).alloc (Nat.le_refl _) _, hs, fun W hW => ?_⟩
 have hk : ∀ i, W.cell? ⟨w.heap.size, i, none⟩ = #[v0, v1, v2, v3, v4][i]? := fun i => (hW.cell (p := ⟨w.heap.size, i, none⟩) (by show w.heap.size < _; omega)).trans (hc i)
 exact ⟨hk 0, hk 1, hk 2, hk 3, hk 4⟩
theorem itemNums_cases (s d : Int) (b : Nat) : (itemNums s d b = true ∧ ¬ s < 0 ∧ ¬ (1048576 : Int) ≤ s ∧ ¬ (12 : Int) < b ∧ ¬ d < 0 ∧ ¬ (2 : Int) < d) ∨
 (itemNums s d b = false ∧ (s < 0 ∨ (¬ s < 0 ∧ (1048576 : Int) ≤ s) ∨ (¬ s < 0 ∧ ¬ (1048576 : Int) ≤ s ∧ (12 : Int) < b) ∨ (¬ s < 0 ∧ ¬ (1048576 : Int) ≤ s ∧ ¬ (12 : Int) < b ∧ d < 0) ∨ (¬ s < 0 ∧ ¬ (1048576 : Int) ≤ s ∧ ¬ (12 : Int) < b ∧ ¬ d < 0 ∧ (2 : Int) < d))) := by
 by_cases h : itemNums s d b = true
 ·left; refine ⟨h, ?_⟩; unfold itemNums at h; simp at h; omega
 ·right; refine ⟨by simpa using h, ?_⟩; unfold itemNums at h; simp at h; omega
theorem ne0_dec {x : Int} : (x == 0) = decide (x = 0) := by by_cases h : x = 0 <;> simp [h]
theorem right_any (s d : Int) (k b : ByteArray) (a : Bool) (w : World) :
 Calls Try.prog 111 #[.agg #[.int .i64 s, .string k, .string b, .bool a, .int .i64 d]] w fun e w' => e = .returned (.bool (itemOk ⟨s, k, b, a, d⟩)) ∧ Below w.heap.size w w' := by
 rcases itemNums_cases s d b.size with ⟨h, q1, q2, q3, q4, q5⟩ | ⟨h, q⟩
 ·have E : Hid (itemOk ⟨s, k, b, a, d⟩ = decide (kerr k.data.toList = 0)) := by show itemOk _ = _; unfold itemOk; simp only [h, Bool.true_and]
  obtain ⟨c, hc⟩ : ∃ c, c = kerr k.data.toList := ⟨_, rfl⟩
  have HC : Hid (c = kerr k.data.toList) := hc
  clear h hc
  go_enter Try.func111, Try.ntmps111
  go_wp2_with fail
  refine (splitK_any _ _).mono ?_
  rintro e w2 ⟨v, rfl, hB2⟩
  rw [← HC.out]
  go_wp2_with fail
  go_ret
  exact ⟨ret_bool (by rw [E.out, ← HC.out]; exact ne0_dec), ((Below.refl _ _).alloc (Nat.le_refl _) _).trans (hB2.mono (by simp))⟩
 ·have E : Hid (itemOk ⟨s, k, b, a, d⟩ = false) := by show itemOk _ = _; unfold itemOk; simp only [h, Bool.false_and]
  rw [E.out]
  clear h E
  rcases q with q1 | ⟨q1, q2⟩ | ⟨q1, q2, q3⟩ | ⟨q1, q2, q3, q4⟩ | ⟨q1, q2, q3, q4, q5⟩
  all_goals
   go_enter Try.func111, Try.ntmps111
   go_wp2_with fail
   go_ret
   exact ⟨rfl, (Below.refl _ _).alloc (Nat.le_refl _) _⟩
def inR2 (a b c : Int) : Bool := decide (b ≤ a ∧ a ≤ c)
theorem tk (i : Nat) {P : Program} {ops : Array Oper} {Q : Exit → Act → World → Prop} {md : Region.Mode} {S : World → Prop} {oi : Oper} {v : Value} {fuel : Nat} {listed l' : Array Bool} {a a' : Act} {w : World} (h : wpAnyH P md ops Q S fuel l' a' w) (hi : ops[i]? = some oi := by rfl)
 (hs : Region.noSelect ops = true := by kernel_rfl) (hf : Region.free md ops listed i = true := by kernel_rfl) (hr : (Region.ready md ops listed).contains i = true := by kernel_rfl)
 (hy : YieldsIf P ops S oi v a := by refine Or.inl ⟨by kernel_rfl, ?_⟩; intro w hSw; (try dsimp only at hSw); go_simp; (try with_reducible rfl))
 (hQ : ∀ c a w, Q (.panic c) (a.put oi.dst v) w → Q (.panic c) a w := by exact fun _ _ _ h => h) (hS : S w := by assumption)
 (hl : listed.setIfInBounds i true = l' := by (try simp only [List.setIfInBounds_toArray, List.set_cons_zero, List.set_cons_succ]); exact rfl)
 (ha : a.put oi.dst v = a' := by (try simp only [Act.put, List.getElem_toArray, List.getElem_cons_succ, List.getElem_cons_zero, List.setIfInBounds_toArray, List.set_cons_zero, List.set_cons_succ]); exact rfl) :
 wpAnyH P md ops Q S (fuel + 1) listed a w :=
 wpAnyH_take hi hs hf hr hQ hy hS (by rw [hl, ha]; exact h)
theorem sk (i : Nat) {P : Program} {ops : Array Oper} {Q : Exit → Act → World → Prop} {md : Region.Mode} {S : World → Prop} {oi : Oper} {fuel : Nat} {listed l' : Array Bool} {a a' : Act} {w : World} (h : wpAnyH P md ops Q S fuel l' a' w) (hi : ops[i]? = some oi := by rfl)
 (hs : Region.noSelect ops = true := by kernel_rfl) (hf : Region.free md ops listed i = true := by kernel_rfl) (hr : (Region.ready md ops listed).contains i = true := by kernel_rfl)
 (hy : YieldsIf P ops S oi undef a := by exact Or.inr ⟨by kernel_rfl, rfl⟩)
 (hQ : ∀ c a w, Q (.panic c) (a.put oi.dst undef) w → Q (.panic c) a w := by exact fun _ _ _ h => h) (hS : S w := by assumption)
 (hl : listed.setIfInBounds i true = l' := by (try simp only [List.setIfInBounds_toArray, List.set_cons_zero, List.set_cons_succ]); exact rfl)
 (ha : a.put oi.dst undef = a' := by (try simp only [Act.put, List.getElem_toArray, List.getElem_cons_succ, List.getElem_cons_zero, List.setIfInBounds_toArray, List.set_cons_zero, List.set_cons_succ]); exact rfl) :
 wpAnyH P md ops Q S (fuel + 1) listed a w :=
 wpAnyH_take hi hs hf hr hQ hy hS (by rw [hl, ha]; exact h)
theorem nrm {P : Program} {ops : Array Oper} {Q : Exit → Act → World → Prop} {md : Region.Mode} {S : World → Prop} {fuel : Nat} {l l' : Array Bool} {a a' : Act} {w : World} (h : wpAnyH P md ops Q S fuel l' a' w)
 (hl : l = l' := by (try simp only [List.setIfInBounds_toArray, List.set_cons_zero, List.set_cons_succ]); exact rfl)
 (ha : a = a' := by (try simp only [Act.put, List.getElem_toArray, List.getElem_cons_succ, List.getElem_cons_zero, List.setIfInBounds_toArray, List.set_cons_zero, List.set_cons_succ]); exact rfl) :
 wpAnyH P md ops Q S fuel l a w := by rw [hl, ha]; exact h
theorem rdy (i : Nat) {P : Program} {ops : Array Oper} {Q : Exit → Act → World → Prop} {md : Region.Mode} {S : World → Prop} {o : Oper} {fuel : Nat} {listed : Array Bool} {a : Act} {w : World}
 (h : ∀ K' : Act → World → Prop, Shut (∀ a w, S w → (S w → wpAnyH P md ops Q S fuel (listed.setIfInBounds i true) a w) → K' a w) → if Region.wanted o (yielded ops a.tmps) = true then Oper.wp P o a w K' Q else K' (a.put o.dst undef) w)
 (ho : ops[i]? = some o := by rfl) (hr : Region.ready md ops listed = [i] := by kernel_rfl) : wpAnyH P md ops Q S (fuel + 1) listed a w :=
 wpAnyH_ready hr (by simp) (AllReadyH.cons ho h AllReadyH.nil)
def lineFrom : Int → List ItemD → Bool
 | _, [] => true
 | last, x :: r => itemOk x && decide (last < x.seq) && lineFrom x.seq r
def lineOk (xs : List ItemD) : Bool := lineFrom (-1) xs
def lineE (xs : List ItemD) : Int := if lineOk xs = true then 0 else 1
def ItemCells (W : World) (g o : Nat) (x : ItemD) : Prop :=
 W.cell? ⟨g, o, none⟩ = some (.int .i64 x.seq) ∧ W.cell? ⟨g, o + 1, none⟩ = some (.string x.key) ∧ W.cell? ⟨g, o + 2, none⟩ = some (.string x.body) ∧ W.cell? ⟨g, o + 3, none⟩ = some (.bool x.again) ∧ W.cell? ⟨g, o + 4, none⟩ = some (.int .i64 x.deaths)
theorem ItemCells.keep {W W' : World} {g o : Nat} {x : ItemD} {b : Nat} (h : ItemCells W g o x) (hB : Below b W W') (hg : g < b) : ItemCells W' g o x :=
 ⟨(hB.cell (p := ⟨g, _, none⟩) hg).trans h.1, (hB.cell (p := ⟨g, _, none⟩) hg).trans h.2.1, (hB.cell (p := ⟨g, _, none⟩) hg).trans h.2.2.1, (hB.cell (p := ⟨g, _, none⟩) hg).trans h.2.2.2.1, (hB.cell (p := ⟨g, _, none⟩) hg).trans h.2.2.2.2⟩
def ItemsAt (W : World) (a : Option Addr) (xs : List ItemD) : Prop := xs = [] ∨ ∃ g o, a = some ⟨g, o, none⟩ ∧ g < W.heap.size ∧ ∀ i (h : i < xs.length), ItemCells W g (o + i * 5) xs[i]
theorem ItemsAt.cells {W : World} {a : Option Addr} {xs : List ItemD} (h : ItemsAt W a xs) (hne : 0 < xs.length) : ∃ g o, a = some ⟨g, o, none⟩ ∧ g < W.heap.size ∧ ∀ i (h : i < xs.length), ItemCells W g (o + i * 5) xs[i] := by
 rcases h with h | h
 ·rw [h] at hne; simp at hne
 ·exact h
theorem ItemsAt.keep {W W' : World} {a : Option Addr} {xs : List ItemD} (h : ItemsAt W a xs) (hB : Below W.heap.size W W') : ItemsAt W' a xs := by
 rcases h with h | ⟨g, o, ha, hg, h⟩
 ·exact .inl h
 ·exact .inr ⟨g, o, ha, Nat.lt_of_lt_of_le hg hB.size, fun i hi => (h i hi).keep hB hg⟩
theorem lineFrom_no {last : Int} {x : ItemD} {r : List ItemD} (h : itemOk x = false ∨ x.seq ≤ last) : lineFrom last (x :: r) = false := by
 unfold lineFrom
 rcases h with h | h
 ·simp [h]
 ·have : ¬ last < x.seq := by omega
  simp [this]
theorem lineFrom_yes {last : Int} {x : ItemD} {r : List ItemD} (h : itemOk x = true) (h2 : ¬ x.seq ≤ last) : lineFrom last (x :: r) = lineFrom x.seq r := by
 have : last < x.seq := by omega
 conv => lhs; unfold lineFrom
 simp [h, this]
theorem lcheck_any (xs : List ItemD) (a : Option Addr) (n c : Nat) (w : World) (hn : xs.length = n) (hm : n ≤ maxLen) (hp : ItemsAt w a xs) :
 Calls Try.prog 92 #[.slice a n c] w fun e w' => e = .returned (.int .i64 (lineE xs)) ∧ Below w.heap.size w w' := by
 have HN : Hid (xs.length = n) := hn
 have HP : Hid (ItemsAt w a xs) := hp
 unfold maxLen at hm
 clear hn hp
 go_enter Try.func92, Try.ntmps92
 go_wp2
 go_loopw [3, 8] (fun l i wr => ∃ (k : Nat) (last : Int), k ≤ n ∧ i = .int .i64 k ∧ l = .int .i64 last ∧ lineOk xs = lineFrom last (xs.drop k) ∧ Below w.heap.size w wr) (fun _ i _ => n - (intOf i).toNat)
 case atStart => exact ⟨0, -1, Nat.zero_le _, rfl, rfl, rfl, Below.refl _ _⟩
 case round =>
  obtain ⟨k, last, hk, rfl, rfl, ha, hB⟩ := hrel
  have HA : Hid (lineOk xs = lineFrom last (xs.drop k)) := ha
  have hBs := hB.size
  clear ha
  by_cases hlt : k < n
  ·have hkl : k < xs.length := by rw [HN.out]; exact hlt
   obtain ⟨g, o, rfl, hg, hx⟩ := HP.out.cells (by omega)
   obtain ⟨x, hxx⟩ : ∃ x, x = xs[k] := ⟨_, rfl⟩
   have hc := (hx k hkl).keep hB hg
   rw [← hxx] at hc
   have hd : xs.drop k = x :: xs.drop (k + 1) := by rw [hxx]; exact List.drop_eq_getElem_cons hkl
   clear hx hxx
   obtain ⟨s, ky, b, ag, d⟩ := x
   obtain ⟨c0, c1, c2, c3, c4⟩ := hc
   dsimp only at c0 c1 c2 c3 c4
   obtain ⟨r, hr⟩ : ∃ r, r = itemOk ⟨s, ky, b, ag, d⟩ := ⟨_, rfl⟩
   have HR : Hid (r = itemOk ⟨s, ky, b, ag, d⟩) := hr
   obtain ⟨W1, hW1, hBw, hs1, hbx⟩ := item_box wr (.int .i64 s) (.string ky) (.string b) (.bool ag) (.int .i64 d) 51
   have HW1 : Hid (W1 = _) := hW1
   have BX : Hid (∀ W, Below W1.heap.size W1 W → _) := hbx
   clear hW1 hbx hs1
   have hB1 : Below w.heap.size w W1 := hB.trans (hBw.mono hBs)
   have s1 := hB1.size
   cases r with
   | false =>
     have HF : Hid (lineE xs = 1) := by show lineE xs = 1; unfold lineE; rw [HA.out, hd, lineFrom_no (.inl hr.symm)]; rfl
     clear hd hr
     go_wp2_with fail
     rw [← HW1.out]
     refine (right_any _ _ _ _ _ _).mono ?_
     rintro e w2 ⟨rfl, hB2⟩
     rw [← HR.out]
     go_wp2_with fail
     go_ret
     exact ⟨ret_int HF.out.symm, hB1.trans (hB2.mono s1)⟩
   | true =>
     by_cases hle : s ≤ last
     ·have HF : Hid (lineE xs = 1) := by show lineE xs = 1; unfold lineE; rw [HA.out, hd, lineFrom_no (.inr hle)]; rfl
      clear hd hr
      go_wp2_with fail
      rw [← HW1.out]
      refine (right_any _ _ _ _ _ _).mono ?_
      rintro e w2 ⟨rfl, hB2⟩
      obtain ⟨d0, d1, d2, d3, d4⟩ := BX.out w2 hB2
      rw [← HR.out]
      go_wp2_with fail
      go_ret
      exact ⟨ret_int HF.out.symm, hB1.trans (hB2.mono s1)⟩
     ·have HF : Hid (lineOk xs = lineFrom s (xs.drop (k + 1))) := by show lineOk xs = _; rw [HA.out, hd, lineFrom_yes hr.symm hle]
      clear hd hr
      go_wp2_with fail
      rw [← HW1.out]
      refine (right_any _ _ _ _ _ _).mono ?_
      rintro e w2 ⟨rfl, hB2⟩
      obtain ⟨d0, d1, d2, d3, d4⟩ := BX.out w2 hB2
      rw [← HR.out]
      go_wp2_with fail
      go_roundw
      case rel => exact ⟨k + 1, s, by omega, by go_num, rfl, HF.out, hB1.trans (hB2.mono s1)⟩
      case measure => simp [intOf]; omega
  ·have e : xs.drop k = [] := List.drop_eq_nil_of_le (by rw [HN.out]; omega)
   have HF : Hid (lineE xs = 0) := by show lineE xs = 0; unfold lineE; rw [HA.out, e]; rfl
   go_wp2
   go_ret
   exact ⟨ret_int HF.out.symm, hB⟩
theorem itemOk_seq {x : ItemD} (h : itemOk x = true) : 0 ≤ x.seq := by unfold itemOk itemNums at h; simp at h; omega
theorem bud_ {b : Nat} {W w' : World} (h : Below b W.drew w') : Below b W w' := ⟨h.os, h.tape, h.output, h.size, h.block⟩
def lastSeq (xs : List ItemD) (k : Nat) : Int := if k = 0 then -1 else (xs[k - 1]?.map ItemD.seq).getD (-1)
theorem Try.infoItem : (Try.prog.info? 51).map (fun i => (i.zero, i.size, i.bytes)) = some (some (.agg #[.int .i64 0, .string ⟨#[]⟩, .string ⟨#[]⟩, .bool false, .int .i64 0]), 5, 56) := by kernel_rfl
def ItemD.cells (x : ItemD) : List Value := [.int .i64 x.seq, .string x.key, .string x.body, .bool x.again, .int .i64 x.deaths]
def itemCells (xs : List ItemD) : List Value := xs.flatMap ItemD.cells
theorem itemCells_len (xs : List ItemD) : (itemCells xs).length = xs.length * 5 := by
 induction xs with
 | nil => rfl
 | cons x r ih => unfold itemCells at ih ⊢; rw [List.flatMap_cons, List.length_append, ih]; simp [ItemD.cells]; omega
theorem itemCells_at : ∀ (xs : List ItemD) (i : Nat) (h : i < xs.length) (j : Nat), j < 5 → (itemCells xs)[i * 5 + j]? = (xs[i].cells)[j]?
 | [], i, h, _, _ => by simp at h
 | x :: r, 0, h, j, hj => by
   unfold itemCells
   rw [List.flatMap_cons, List.getElem?_append_left (by simp [ItemD.cells]; omega)]
   simp
 | x :: r, i + 1, h, j, hj => by
   have ih := itemCells_at r i (by simpa using h) j hj
   unfold itemCells at ih ⊢
   rw [List.flatMap_cons, List.getElem?_append_right (by simp [ItemD.cells]; omega)]
   have e : (i + 1) * 5 + j - x.cells.length = i * 5 + j := by simp [ItemD.cells]; omega
   rw [e, ih]; simp
theorem itemCells_one (xs : List ItemD) : ∀ u ∈ itemCells xs, u.oneCell' = true := by
 intro u hu
 obtain ⟨x, _, hx⟩ := List.mem_flatMap.1 hu
 simp [ItemD.cells] at hx
 rcases hx with rfl | rfl | rfl | rfl | rfl <;> rfl
theorem ItemCells.of {W : World} {g o : Nat} {x : ItemD} (h : ∀ j, j < 5 → W.cell? ⟨g, o + j, none⟩ = x.cells[j]?) : ItemCells W g o x :=
 ⟨h 0 (by omega), h 1 (by omega), h 2 (by omega), h 3 (by omega), h 4 (by omega)⟩
theorem ItemCells.at {W : World} {g o : Nat} {x : ItemD} (h : ItemCells W g o x) {j : Nat} (hj : j < 5) : W.cell? ⟨g, o + j, none⟩ = x.cells[j]? := by
 obtain ⟨h0, h1, h2, h3, h4⟩ := h
 match j, hj with
 | 0, _ => exact h0
 | 1, _ => exact h1
 | 2, _ => exact h2
 | 3, _ => exact h3
 | 4, _ => exact h4
theorem addr_add (g o j : Nat) : (⟨g, o, none⟩ : Addr).add j = ⟨g, o + j, none⟩ := by unfold Addr.add; split <;> simp_all
theorem own_items {W : World} {base : Nat} {T : TypeId} {v : Value} {n : Nat} {xs : List ItemD} (h : W.ownsRow base T 5 v n (itemCells xs)) :
 n = xs.length ∧ ∃ a c, v = .slice a n c ∧ n ≤ c ∧ c ≤ maxLen ∧ (a = none → c = 0 ∧ xs = []) ∧ ItemsAt W a xs := by
 have hn : n = xs.length := by have := h.1; rw [itemCells_len] at this; omega
 refine ⟨hn, ?_⟩
 rcases h.2 with ⟨rfl, h0⟩ | ⟨g, cap, cur, rfl, hb, hg, h1, h2, _⟩
 ·have hx : xs = [] := List.length_eq_zero_iff.1 (by omega)
  exact ⟨none, 0, by rw [h0], by omega, by unfold maxLen; omega, fun _ => ⟨rfl, hx⟩, .inl hx⟩
 ·refine ⟨_, cap, rfl, h1, h2, (fun h => by cases h), .inr ⟨g, 0, rfl, (Array.getElem?_eq_some_iff.1 hg).1, fun i hi => ItemCells.of fun j hj => ?_⟩⟩
  have hc := itemCells_at xs i hi j hj
  have hv : xs[i].cells[j]? = some (xs[i].cells[j]'(by simpa [ItemD.cells] using hj)) := List.getElem?_eq_getElem _
  rw [hv] at hc ⊢
  have := h.cells (g := g) rfl _ _ hc
  rw [addr_add] at this
  rw [← Nat.add_assoc] at this
  exact this
theorem grown_same (w : World) (row : Option Nat) : w.grownBy w row := ⟨rfl, rfl, rfl, Nat.le_refl _, fun _ _ _ => rfl⟩
end Go.Proofs.Ytpoichgodamnkaa
