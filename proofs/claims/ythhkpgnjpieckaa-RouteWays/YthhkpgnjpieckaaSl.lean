/- words.Split. -/
import Derived.RangeFuncWrites
import Derived.RangeFuncBox
import Derived.Test.YthhkpgnjpieckaaWe
namespace Go.Proofs.Ythhkpgnjpieckaa
set_option linter.unusedVariables false
set_option maxRecDepth 100000
open Go.RowKit Go.Shelf
attribute [local go_sem] Oper.semAt_some

theorem werr_zero {right : List UInt8 → Bool} {l : List UInt8} (h : werr right l = 0) : l.length ≤ 24 ∧ Lib.countByte l 46 < 6 := by
  unfold werr at h
  by_cases h1 : 24 < l.length ∨ 6 < (wsplit l).length
  · rw [if_pos h1] at h; cases h
  · rw [wsplit_length] at h1; omega

set_option maxHeartbeats 1000000 in
theorem splitK_err (s : ByteArray) (w : World) (h : kerr s.data.toList ≠ 0) :
    Calls Try.prog 17 #[.string s] w fun e w' => e = .returned (.tuple #[.slice none 0 0, .int .i64 (kerr s.data.toList)]) ∧ Below w.heap.size w w' := by
  have h' : (kerr s.data.toList != 0) = true := bne_iff_ne.2 h
  obtain ⟨c, hc⟩ : ∃ c, c = kerr s.data.toList := ⟨_, rfl⟩
  have HC : Hid (c = kerr s.data.toList) := hc
  rw [← hc] at h' ⊢
  clear hc h
  go_enter Try.func17, Try.ntmps17
  go_wp2_with (go_at_call 53; refine (check_key _ _).mono ?_; rintro e w' ⟨rfl, hB⟩; rw [show werr isW s.data.toList = c from HC.out.symm])
  go_ret2
  exact ⟨rfl, hB⟩

set_option maxRecDepth 100000 in
set_option maxHeartbeats 2000000 in
theorem splitK_in (s : ByteArray) (w : World) (h : kerr s.data.toList = 0) :
    CallsIn Fence.wide 5 Try.prog 17 #[.string s] w fun e w' => ∃ v, e = .returned (.tuple #[v, .int .i64 0]) ∧ w'.ownsRow w.heap.size 9 1 v (wlB s.data.toList).length ((wlB s.data.toList).map Value.string) ∧ Below w.heap.size w w' := by
  obtain ⟨h24, h6⟩ := werr_zero h
  have hm : s.size ≤ maxLen := by have : s.size ≤ 24 := by simpa using h24
                                  unfold maxLen; omega
  have hn7 : (wlB s.data.toList).length ≤ 6 := by rw [wlB_len]; omega
  have HC : Hid (kerr s.data.toList = 0) := h
  clear h
  obtain ⟨i0, hi, hz0, hz1, hz2⟩ := info_parts Try.info9
  refine callsIn_of_wp_marks Try.func17 rfl trivial ?_ rfl
  simp only [Try.ntmps17, List.size_toArray, List.length_cons, List.length_nil, Nat.reduceAdd, Nat.reduceSub, Array.replicate_succ, Array.replicate_zero, List.push_toArray, List.append_toArray, List.nil_append, List.cons_append]
  gi_wp2_with (first
    | (refine ⟨trivial, ?_⟩; gi_at_call 53; refine (callsIn_wide.2 (check_key _ _)).mono ?_; rintro e w1 ⟨rfl, hB1⟩; rw [show werr isW s.data.toList = 0 from HC.out])
    | (refine ⟨trivial, ?_⟩; gi_at_call 55; refine (each_in _ _ _).mono ?_; rintro e w' ⟨rfl, rfl⟩))
  have hs1 := hB1.size
  have bO := Boxed.new w1 22 (.slice none 0 0)
  have bN := Boxed.new (w1.alloc (.cells #[.slice none 0 0] 22)) 9 (.string s)
  rw [World.size_alloc] at bN
  have hB0 : Below w.heap.size w ((w1.alloc (.cells #[.slice none 0 0] 22)).alloc (.cells #[.string s] 9)) := (hB1.alloc hs1 _).alloc (by simp; omega) _
  refine wpIn_rangeFunc_ownG rfl (by omega) (gf := 108) (lb := #[.pointer (some ⟨w1.heap.size + 1, 0, none⟩)]) rfl trivial (enters_of Try.func108 (by kernel_rfl) rfl)
    (each_stops 4 (by omega) (w1.heap.size + 1) s hm _ (by simp) bN.cell) (fun _ _ => trivial) (fun _ _ _ _ _ _ _ _ => trivial) (Below.refl _ _) (fun _ => rfl)
    (fun pre W => (∃ v, Boxed W w1.heap.size 22 v ∧ W.ownsRow w.heap.size 9 1 v pre.length (pre.map (fun x : WB => Value.string x.1)) ∧ True) ∧ Below w.heap.size w W)
    (fun _ _ _ => False)
    (OwnFrom.and (Own.from (holdsRow_own w.heap.size w1.heap.size 22 9 1 (fun pre : List WB => pre.length) (fun pre : List WB => pre.map (fun x : WB => Value.string x.1)) (fun _ _ => True)) _) (ownFrom_below (Nat.le_refl _) (by simp; omega)))
    (fun _ _ _ _ _ hs _ _ => hs)
    ⟨⟨_, bO.alloc _, World.ownsRow_nil _ _ _ _, trivial⟩, hB0⟩
    (fun x => { tmps := #[.string s, undef, .slice none 0 0, .int .i64 0, .int .i64 0, .pointer (some ⟨w1.heap.size, 0, none⟩), .string x.1, .string s, .int .i64 0, .int .i64 0, .bool false, undef, .string s, .func (.func 108) #[] #[.pointer (some ⟨w1.heap.size + 1, 0, none⟩)], .string x.1, undef, undef, undef, undef, undef], defers := [] }) ?assign ?body ?done ?stop
  case assign =>
    intro l x W K hK
    gi_wp2
    exact hK
  case body =>
    rintro l pre x W ⟨⟨v, hv, hrow, _⟩, hB⟩ hlt
    have hc := hv.cell
    have hBs := hB.size
    gi_wp2_with (gi_at_builtin; refine wpListIn_append_own _ rfl _ _ 22 rfl w.heap.size 9 i0 (.string ⟨#[]⟩) 1 16 Try.underlying22 hi hz0 hz1 hz2 rfl (by decide) _ _ _ rfl (hrow.alloc _) ⟨W.heap.size, 0, none⟩ 1 1 [.string x.1] rfl rfl (cell_one_new _ _ _) (by simp [Value.oneCell']) (by unfold maxLen; omega) (by omega) (by simp; omega) ?_; intro v' w2 hown' hgrow _; obtain ⟨g', cap', rfl⟩ := ownsRow_succ hown'; obtain ⟨hv1, hv2, hr2, hk2, hb2⟩ := hv.appended (by decide) hrow hB.size hs1 hown' hgrow; have hc1 := hv1.cell; have hf1 := hv1.frozen)
    exact ⟨hk2.from _, trivial, ⟨_, hv2, by simpa using hr2, trivial⟩, hB.trans hb2⟩
  case done =>
    rintro D ys W hD hys ⟨⟨v, hv, hrow, _⟩, hB⟩ hK
    have hc := hv.cell
    have HY : Hid (List.map (fun x : WB => x.1) ys = wlB s.data.toList) := hys
    clear hys
    gi_wp2
    refine ⟨by simp, .inl ⟨_, _, rfl, run_takeDeferred hK, ?_⟩⟩
    have hrow' : W.ownsRow w.heap.size 9 1 v (wlB s.data.toList).length ((wlB s.data.toList).map Value.string) := by
      rw [← HY.out]; simpa [Function.comp_def] using hrow
    exact ⟨_, results_tmp2 rfl _ _ _, v, rfl, ownsRow_putObj hrow' _ hK rfl, hB.trans (belowK_b (w := w) (Nat.le_refl _) W D _ _ (by simp at hD; omega) hK rfl rfl)⟩
  case stop =>
    rintro D c pre W _ _ h _
    exact h.elim

theorem splitK_ok (s : ByteArray) (xs : List ByteArray) (hxs : xs = wlB s.data.toList) (w : World) (h : kerr s.data.toList = 0) :
    Calls Try.prog 17 #[.string s] w fun e w' => ∃ g cap, e = .returned (.tuple #[.slice (some ⟨g, 0, none⟩) xs.length cap, .int .i64 0]) ∧ w.heap.size ≤ g ∧ xs.length ≤ cap ∧ cap ≤ maxLen ∧ IsTexts w' g 0 xs ∧ Below w.heap.size w w' := by
  subst hxs
  refine (callsIn_wide.1 (splitK_in s w h)).mono ?_
  rintro e w' ⟨v, rfl, hown, hB⟩
  obtain ⟨g, cap, rfl, h1, h2, h3, h4⟩ := own_texts hown (by intro h; have := wlB_len s.data.toList; rw [h] at this; simp at this)
  exact ⟨g, cap, rfl, h1, h2, h3, h4, hB⟩

set_option maxHeartbeats 1000000 in
theorem splitOf_err (s : ByteArray) (w : World) (h : kerr s.data.toList ≠ 0) :
    Calls Try.prog 18 #[.string s] w fun e w' => e = .returned (.tuple #[.slice none 0 0, .int .i64 (kerr s.data.toList)]) ∧ Below w.heap.size w w' := by
  have h' : (kerr s.data.toList != 0) = true := bne_iff_ne.2 h
  obtain ⟨c, hc⟩ : ∃ c, c = kerr s.data.toList := ⟨_, rfl⟩
  have HC : Hid (c = kerr s.data.toList) := hc
  rw [← hc] at h' ⊢
  clear hc h
  go_enter Try.func18, Try.ntmps18
  go_wp2_with (go_at_call 56; refine (keyError_any _ _).mono ?_; rintro e w' ⟨rfl, hB⟩; rw [← HC.out])
  go_ret2
  exact ⟨rfl, hB⟩

set_option maxHeartbeats 1000000 in
theorem splitOf_ok (s : ByteArray) (xs : List ByteArray) (hxs : xs = wlB s.data.toList) (w : World) (h : kerr s.data.toList = 0) :
    Calls Try.prog 18 #[.string s] w fun e w' => ∃ g cap, e = .returned (.tuple #[.slice (some ⟨g, 0, none⟩) xs.length cap, .int .i64 0]) ∧ w.heap.size ≤ g ∧ xs.length ≤ cap ∧ cap ≤ maxLen ∧ IsTexts w' g 0 xs ∧ Below w.heap.size w w' := by
  obtain ⟨h24, h6⟩ := werr_zero h
  have hs : s.size ≤ 24 := by simpa using h24
  have HX : Hid (xs = wlB s.data.toList) := hxs
  have HC : Hid (kerr s.data.toList = 0) := h
  clear h hxs
  go_enter Try.func18, Try.ntmps18
  go_wp2_with (first
    | (go_at_call 56; refine (keyError_any _ _).mono ?_; rintro e w1 ⟨rfl, hB1⟩; rw [HC.out])
    | (go_at_call 57; refine (split_texts s xs HX.out _ hs).mono ?_; rintro e w2 ⟨g, cap, rfl, hg, hcap, hcm, ht, hB2⟩))
  go_ret2
  have := hB1.size
  exact ⟨g, cap, rfl, by omega, hcap, hcm, ht, hB1.trans (hB2.mono hB1.size)⟩
end Go.Proofs.Ythhkpgnjpieckaa
