/- words.check at the two functions that it is handed. -/
import Derived.Test.YthhkpgnjpieckaaIt
namespace Go.Proofs.Ythhkpgnjpieckaa
set_option linter.unusedVariables false
set_option maxRecDepth 100000
open Go.RowKit Go.Shelf
attribute [local go_sem] Oper.semAt_some

theorem werr_len {right : List UInt8 → Bool} {l : List UInt8} (h : 24 < l.length) : werr right l = 2 := by unfold werr; rw [if_pos (.inl h)]
theorem werr_many {right : List UInt8 → Bool} {l : List UInt8} (h : 6 ≤ Lib.countByte l 46) : werr right l = 2 := by unfold werr; rw [if_pos (.inr (by rw [wsplit_length]; omega))]
theorem wlB_list (l : List UInt8) : (wlB l).map (fun x => x.data.toList) = wsplit l := by simp [wlB, Function.comp_def]
theorem werr_words {right : List UInt8 → Bool} {l : List UInt8} (h1 : l.length ≤ 24) (h2 : Lib.countByte l 46 < 6) (h : ∀ x ∈ wlB l, right x.data.toList = true) : werr right l = 0 := by
  unfold werr; rw [if_neg (by rw [wsplit_length]; omega), if_pos]
  rw [List.all_eq_true, ← wlB_list]; intro x hx
  obtain ⟨y, hy, rfl⟩ := List.mem_map.1 hx
  exact h y hy
theorem werr_form {right : List UInt8 → Bool} {l : List UInt8} (h1 : l.length ≤ 24) (h2 : Lib.countByte l 46 < 6) {x : ByteArray} (hx : x ∈ wlB l) (h : right x.data.toList = false) : werr right l = 1 := by
  unfold werr; rw [if_neg (by rw [wsplit_length]; omega), if_neg]
  rw [List.all_eq_true, ← wlB_list]; intro hh
  have := hh _ (List.mem_map.2 ⟨x, hx, rfl⟩)
  rw [h] at this; cases this
theorem ret_int {k : IntKind} {a b : Int} (h : a = b) : Ending.returned (.int k a) = .returned (.int k b) := by rw [h]

set_option maxHeartbeats 1000000 in
theorem check_key_len (s : ByteArray) (w : World) (h : 24 < s.size) :
    Calls Try.prog 53 #[.string s, .func (.func 54) #[] #[]] w fun e w' => e = .returned (.int .i64 (werr isW s.data.toList)) ∧ Below w.heap.size w w' := by
  rw [werr_len (by simpa using h)]
  have h' : (24 : Int) < s.size := by omega
  go_enter Try.func53, Try.ntmps53
  go_wp2
  exact bodyPost_ret (v := .int .i64 2) (by simp [results, Try.results53, go_sem]) rfl ⟨rfl, (by repeat (first | exact Below.refl _ _ | assumption | refine Below.drew ?_ | refine Below.alloc ?_ (by first | (simp; done) | (simp; omega) | omega) _ | refine Below.setCell ?_ (by first | (simp; done) | (simp; omega) | omega) _))⟩

set_option maxHeartbeats 1000000 in
theorem check_key_many (s : ByteArray) (w : World) (h : s.size ≤ 24) (hc : 6 ≤ Lib.countByte s.data.toList 46) :
    Calls Try.prog 53 #[.string s, .func (.func 54) #[] #[]] w fun e w' => e = .returned (.int .i64 (werr isW s.data.toList)) ∧ Below w.heap.size w w' := by
  rw [werr_many hc]
  have h' : ¬ (24 : Int) < s.size := by omega
  have hc' : (6 : Int) ≤ Lib.countByte s.data.toList 46 := by omega
  go_enter Try.func53, Try.ntmps53
  go_wp2_with (go_at_call 107; refine (count_any _ _).mono ?_; rintro e w' ⟨rfl, rfl⟩)
  exact bodyPost_ret (v := .int .i64 2) (by simp [results, Try.results53, go_sem]) rfl ⟨rfl, (by repeat (first | exact Below.refl _ _ | assumption | refine Below.drew ?_ | refine Below.alloc ?_ (by first | (simp; done) | (simp; omega) | omega) _ | refine Below.setCell ?_ (by first | (simp; done) | (simp; omega) | omega) _))⟩

set_option maxRecDepth 100000 in
set_option maxHeartbeats 2000000 in
theorem check_key_words (s : ByteArray) (w : World) (h : s.size ≤ 24) (hc : Lib.countByte s.data.toList 46 < 6) :
    CallsIn Fence.wide 5 Try.prog 53 #[.string s, .func (.func 54) #[] #[]] w fun e w' => e = .returned (.int .i64 (werr isW s.data.toList)) ∧ Below w.heap.size w w' := by
  have h' : ¬ (24 : Int) < s.size := by omega
  have hc' : decide ((6 : Int) ≤ Lib.countByte s.data.toList 46) = false := by simp; omega
  have hm : s.size ≤ maxLen := by unfold maxLen; omega
  have hl : s.data.toList.length ≤ 24 := by simpa using h
  refine callsIn_of_wp_marks Try.func53 rfl trivial ?_ rfl
  simp only [Try.ntmps53, List.size_toArray, List.length_cons, List.length_nil, Nat.reduceAdd, Nat.reduceSub, Array.replicate_succ, Array.replicate_zero, List.push_toArray, List.append_toArray, List.nil_append, List.cons_append]
  gi_wp2_with (first
    | (refine ⟨trivial, ?_⟩; gi_at_call 107; refine (callsIn_wide.2 (count_any _ _)).mono ?_; rintro e w' ⟨rfl, rfl⟩)
    | (refine ⟨trivial, ?_⟩; gi_at_call 55; refine (each_in _ _ _).mono ?_; rintro e w' ⟨rfl, rfl⟩))
  have c0 := cell_new_l w (.func (.func 54) #[] #[]) 29
  have c1 := cell_new_l (w.alloc (.cells #[.func (.func 54) #[] #[]] 29)) (.int .i64 0) 23
  have c2 := cell_new_l ((w.alloc (.cells #[.func (.func 54) #[] #[]] 29)).alloc (.cells #[.int .i64 0] 23)) (.string s) 9
  simp only [World.size_alloc] at c1 c2
  have hB0 : Below w.heap.size w (((w.alloc (.cells #[.func (.func 54) #[] #[]] 29)).alloc (.cells #[.int .i64 0] 23)).alloc (.cells #[.string s] 9)) := (by repeat (first | exact Below.refl _ _ | assumption | refine Below.drew ?_ | refine Below.alloc ?_ (by first | (simp; done) | (simp; omega) | omega) _ | refine Below.setCell ?_ (by first | (simp; done) | (simp; omega) | omega) _))
  refine wpIn_rangeFunc_ownF rfl (by omega) (gf := 108) (lb := #[.pointer (some ⟨w.heap.size + 1 + 1, 0, none⟩)]) rfl trivial (enters_of Try.func108 (by kernel_rfl) rfl)
    (each_stops 4 (by omega) (w.heap.size + 1 + 1) s hm _ (by simp) c2.1) (fun _ _ => trivial) (fun _ _ _ _ _ _ _ _ => trivial) (Below.refl _ _) (fun _ => rfl)
    (fun pre W => ((∀ y ∈ pre, isW y.1.data.toList = true) ∧ W.cell? ⟨w.heap.size, 0, none⟩ = some (.func (.func 54) #[] #[]) ∧ W.cell? ⟨w.heap.size + 1, 0, none⟩ = some (.int .i64 0) ∧ W.frozen? ⟨w.heap.size + 1, 0, none⟩ = false) ∧ Below w.heap.size w W)
    (fun c pre W => (c = .ret ∧ (∃ y ∈ pre, isW y.1.data.toList = false) ∧ W.cell? ⟨w.heap.size + 1, 0, none⟩ = some (.int .i64 1)) ∧ Below w.heap.size w W)
    (OwnFrom.and (Own.from (fun s A B row hs hg hr => ⟨hs.1, cell_kept hs.2.1 hg hr, cell_kept hs.2.2.1 hg hr, (frozen_kept hs.2.2.1 hg hr).trans hs.2.2.2⟩) _) (ownFrom_below (Nat.le_refl _) (by simp; omega)))
    (fun c => OwnFrom.and (Own.from (fun s A B row hs hg hr => ⟨hs.1, hs.2.1, cell_kept hs.2.2 hg hr⟩) _) (ownFrom_below (Nat.le_refl _) (by simp; omega)))
    ⟨⟨by simp, cell_alloc_l _ (cell_alloc_l _ c0.1), cell_alloc_l _ c1.1, frozen_alloc_l _ c1.1 c1.2⟩, hB0⟩
    (fun x => { tmps := #[.string s, .func (.func 54) #[] #[], undef, .pointer (some ⟨w.heap.size, 0, none⟩), .pointer (some ⟨w.heap.size + 1, 0, none⟩), .string x.1, .string s, .int .i64 s.size, .bool false, .bool false, .string s, .int .i64 (Lib.countByte s.data.toList 46), .bool false, .bool false, .string s, .func (.func 108) #[] #[.pointer (some ⟨w.heap.size + 1 + 1, 0, none⟩)], .string x.1, undef, undef, undef, undef], defers := [] }) ?assign ?body ?done ?stop
  case assign =>
    intro l x W K hK
    gi_wp2
    exact hK
  case body =>
    rintro l pre x W ⟨⟨hp, hcf, hcr, hfr⟩, hB⟩ _
    cases hx : isW x.1.data.toList with
    | false =>
      have HX : Hid (isW x.1.data.toList = false) := hx
      clear hp
      gi_wp2_with (refine ⟨trivial, ?_⟩; gi_at_call 54; refine (CallsIn.inRound l (callsIn_wide.2 (plain_any _ _ x.2))).mono ?_; rintro e w' ⟨rfl, rfl⟩)
      exact ⟨KeepsOthers.setCell _ _ _, ⟨rfl, ⟨x, by simp, HX.out⟩, World.cell?_setCell_same' _ _ _ (by rw [hcr]; rfl)⟩, hB.setCell (p := ⟨w.heap.size + 1, 0, none⟩) (by simp) _⟩
    | true =>
      have HP : Hid (∀ y ∈ pre ++ [x], isW y.1.data.toList = true) := fun y hy => (List.mem_append.1 hy).elim (hp y) (fun e => by simp at e; subst e; exact hx)
      clear hp
      gi_wp2_with (refine ⟨trivial, ?_⟩; gi_at_call 54; refine (CallsIn.inRound l (callsIn_wide.2 (plain_any _ _ x.2))).mono ?_; rintro e w' ⟨rfl, rfl⟩)
      exact ⟨KeepsOthers.refl _, trivial, ⟨HP.out, hcf, hcr, hfr⟩, hB⟩
  case done =>
    rintro D ys W hD hys ⟨⟨hp, _, hcr, hfr⟩, hB⟩ hK
    have HF : Hid (werr isW s.data.toList = 0) := werr_words hl hc (fun x hx => by rw [← hys] at hx; obtain ⟨y, hy, rfl⟩ := List.mem_map.1 hx; exact hp y hy)
    clear hp hys
    gi_wp2
    have hK' := (KeepsOthers.setCell W ⟨w.heap.size + 1, 0, none⟩ (.int .i64 0)).same D _ hK rfl
    refine ⟨by simp, .inl ⟨_, _, rfl, run_takeDeferred hK', ?_⟩⟩
    have hc5 := cell_kept (World.cell?_setCell_same' W ⟨w.heap.size + 1, 0, none⟩ (.int .i64 0) (by rw [hcr]; rfl)) (grownBy_putObj' _ D (.deferred none)) (fun r e => by cases e; exact ⟨_, hK', rfl⟩)
    refine ⟨.int .i64 0, ?_, by rw [HF.out], (hB.setCell (p := ⟨w.heap.size + 1, 0, none⟩) (by simp) _).trans (belowK_b (w := w) (Nat.le_refl _) _ D _ _ (by simp at hD; omega) hK' rfl rfl)⟩
    simp [results, Try.results53, go_sem, hc5]
  case stop =>
    rintro D c pre W hD hpre ⟨⟨rfl, ⟨y, hy, hyr⟩, hcr⟩, hB⟩ hK
    have HF : Hid (werr isW s.data.toList = 1) := werr_form hl hc (hpre.subset (List.mem_map.2 ⟨y, hy, rfl⟩)) hyr
    clear hyr hpre
    gi_wp2
    refine ⟨by simp, .inl ⟨_, _, rfl, run_takeDeferred hK, ?_⟩⟩
    have hc5 := cell_kept hcr (grownBy_putObj' _ D (.deferred none)) (fun r e => by cases e; exact ⟨_, hK, rfl⟩)
    refine ⟨.int .i64 1, ?_, by rw [HF.out], hB.trans (belowK_b (w := w) (Nat.le_refl _) W D _ _ (by simp at hD; omega) hK rfl rfl)⟩
    simp [results, Try.results53, go_sem, hc5]

theorem check_key (s : ByteArray) (w : World) :
    Calls Try.prog 53 #[.string s, .func (.func 54) #[] #[]] w fun e w' => e = .returned (.int .i64 (werr isW s.data.toList)) ∧ Below w.heap.size w w' := by
  by_cases h : 24 < s.size
  · exact check_key_len s w h
  · by_cases hc : 6 ≤ Lib.countByte s.data.toList 46
    · exact check_key_many s w (by omega) hc
    · exact callsIn_wide.1 (check_key_words s w (by omega) (by omega))
set_option maxHeartbeats 1000000 in
theorem check_pat_len (s : ByteArray) (w : World) (h : 24 < s.size) :
    Calls Try.prog 53 #[.string s, .func (.func 58) #[] #[]] w fun e w' => e = .returned (.int .i64 (werr isP s.data.toList)) ∧ Below w.heap.size w w' := by
  rw [werr_len (by simpa using h)]
  have h' : (24 : Int) < s.size := by omega
  go_enter Try.func53, Try.ntmps53
  go_wp2
  exact bodyPost_ret (v := .int .i64 2) (by simp [results, Try.results53, go_sem]) rfl ⟨rfl, (by repeat (first | exact Below.refl _ _ | assumption | refine Below.drew ?_ | refine Below.alloc ?_ (by first | (simp; done) | (simp; omega) | omega) _ | refine Below.setCell ?_ (by first | (simp; done) | (simp; omega) | omega) _))⟩

set_option maxHeartbeats 1000000 in
theorem check_pat_many (s : ByteArray) (w : World) (h : s.size ≤ 24) (hc : 6 ≤ Lib.countByte s.data.toList 46) :
    Calls Try.prog 53 #[.string s, .func (.func 58) #[] #[]] w fun e w' => e = .returned (.int .i64 (werr isP s.data.toList)) ∧ Below w.heap.size w w' := by
  rw [werr_many hc]
  have h' : ¬ (24 : Int) < s.size := by omega
  have hc' : (6 : Int) ≤ Lib.countByte s.data.toList 46 := by omega
  go_enter Try.func53, Try.ntmps53
  go_wp2_with (go_at_call 107; refine (count_any _ _).mono ?_; rintro e w' ⟨rfl, rfl⟩)
  exact bodyPost_ret (v := .int .i64 2) (by simp [results, Try.results53, go_sem]) rfl ⟨rfl, (by repeat (first | exact Below.refl _ _ | assumption | refine Below.drew ?_ | refine Below.alloc ?_ (by first | (simp; done) | (simp; omega) | omega) _ | refine Below.setCell ?_ (by first | (simp; done) | (simp; omega) | omega) _))⟩

set_option maxRecDepth 100000 in
set_option maxHeartbeats 2000000 in
theorem check_pat_words (s : ByteArray) (w : World) (h : s.size ≤ 24) (hc : Lib.countByte s.data.toList 46 < 6) :
    CallsIn Fence.wide 5 Try.prog 53 #[.string s, .func (.func 58) #[] #[]] w fun e w' => e = .returned (.int .i64 (werr isP s.data.toList)) ∧ Below w.heap.size w w' := by
  have h' : ¬ (24 : Int) < s.size := by omega
  have hc' : decide ((6 : Int) ≤ Lib.countByte s.data.toList 46) = false := by simp; omega
  have hm : s.size ≤ maxLen := by unfold maxLen; omega
  have hl : s.data.toList.length ≤ 24 := by simpa using h
  refine callsIn_of_wp_marks Try.func53 rfl trivial ?_ rfl
  simp only [Try.ntmps53, List.size_toArray, List.length_cons, List.length_nil, Nat.reduceAdd, Nat.reduceSub, Array.replicate_succ, Array.replicate_zero, List.push_toArray, List.append_toArray, List.nil_append, List.cons_append]
  gi_wp2_with (first
    | (refine ⟨trivial, ?_⟩; gi_at_call 107; refine (callsIn_wide.2 (count_any _ _)).mono ?_; rintro e w' ⟨rfl, rfl⟩)
    | (refine ⟨trivial, ?_⟩; gi_at_call 55; refine (each_in _ _ _).mono ?_; rintro e w' ⟨rfl, rfl⟩))
  have c0 := cell_new_l w (.func (.func 58) #[] #[]) 29
  have c1 := cell_new_l (w.alloc (.cells #[.func (.func 58) #[] #[]] 29)) (.int .i64 0) 23
  have c2 := cell_new_l ((w.alloc (.cells #[.func (.func 58) #[] #[]] 29)).alloc (.cells #[.int .i64 0] 23)) (.string s) 9
  simp only [World.size_alloc] at c1 c2
  have hB0 : Below w.heap.size w (((w.alloc (.cells #[.func (.func 58) #[] #[]] 29)).alloc (.cells #[.int .i64 0] 23)).alloc (.cells #[.string s] 9)) := (by repeat (first | exact Below.refl _ _ | assumption | refine Below.drew ?_ | refine Below.alloc ?_ (by first | (simp; done) | (simp; omega) | omega) _ | refine Below.setCell ?_ (by first | (simp; done) | (simp; omega) | omega) _))
  refine wpIn_rangeFunc_ownF rfl (by omega) (gf := 108) (lb := #[.pointer (some ⟨w.heap.size + 1 + 1, 0, none⟩)]) rfl trivial (enters_of Try.func108 (by kernel_rfl) rfl)
    (each_stops 4 (by omega) (w.heap.size + 1 + 1) s hm _ (by simp) c2.1) (fun _ _ => trivial) (fun _ _ _ _ _ _ _ _ => trivial) (Below.refl _ _) (fun _ => rfl)
    (fun pre W => ((∀ y ∈ pre, isP y.1.data.toList = true) ∧ W.cell? ⟨w.heap.size, 0, none⟩ = some (.func (.func 58) #[] #[]) ∧ W.cell? ⟨w.heap.size + 1, 0, none⟩ = some (.int .i64 0) ∧ W.frozen? ⟨w.heap.size + 1, 0, none⟩ = false) ∧ Below w.heap.size w W)
    (fun c pre W => (c = .ret ∧ (∃ y ∈ pre, isP y.1.data.toList = false) ∧ W.cell? ⟨w.heap.size + 1, 0, none⟩ = some (.int .i64 1)) ∧ Below w.heap.size w W)
    (OwnFrom.and (Own.from (fun s A B row hs hg hr => ⟨hs.1, cell_kept hs.2.1 hg hr, cell_kept hs.2.2.1 hg hr, (frozen_kept hs.2.2.1 hg hr).trans hs.2.2.2⟩) _) (ownFrom_below (Nat.le_refl _) (by simp; omega)))
    (fun c => OwnFrom.and (Own.from (fun s A B row hs hg hr => ⟨hs.1, hs.2.1, cell_kept hs.2.2 hg hr⟩) _) (ownFrom_below (Nat.le_refl _) (by simp; omega)))
    ⟨⟨by simp, cell_alloc_l _ (cell_alloc_l _ c0.1), cell_alloc_l _ c1.1, frozen_alloc_l _ c1.1 c1.2⟩, hB0⟩
    (fun x => { tmps := #[.string s, .func (.func 58) #[] #[], undef, .pointer (some ⟨w.heap.size, 0, none⟩), .pointer (some ⟨w.heap.size + 1, 0, none⟩), .string x.1, .string s, .int .i64 s.size, .bool false, .bool false, .string s, .int .i64 (Lib.countByte s.data.toList 46), .bool false, .bool false, .string s, .func (.func 108) #[] #[.pointer (some ⟨w.heap.size + 1 + 1, 0, none⟩)], .string x.1, undef, undef, undef, undef], defers := [] }) ?assign ?body ?done ?stop
  case assign =>
    intro l x W K hK
    gi_wp2
    exact hK
  case body =>
    rintro l pre x W ⟨⟨hp, hcf, hcr, hfr⟩, hB⟩ _
    cases hx : isP x.1.data.toList with
    | false =>
      have HX : Hid (isP x.1.data.toList = false) := hx
      clear hp
      gi_wp2_with (refine ⟨trivial, ?_⟩; gi_at_call 58; refine (CallsIn.inRound l (callsIn_wide.2 (patlit_any _ _ x.2))).mono ?_; rintro e w' ⟨rfl, rfl⟩)
      exact ⟨KeepsOthers.setCell _ _ _, ⟨rfl, ⟨x, by simp, HX.out⟩, World.cell?_setCell_same' _ _ _ (by rw [hcr]; rfl)⟩, hB.setCell (p := ⟨w.heap.size + 1, 0, none⟩) (by simp) _⟩
    | true =>
      have HP : Hid (∀ y ∈ pre ++ [x], isP y.1.data.toList = true) := fun y hy => (List.mem_append.1 hy).elim (hp y) (fun e => by simp at e; subst e; exact hx)
      clear hp
      gi_wp2_with (refine ⟨trivial, ?_⟩; gi_at_call 58; refine (CallsIn.inRound l (callsIn_wide.2 (patlit_any _ _ x.2))).mono ?_; rintro e w' ⟨rfl, rfl⟩)
      exact ⟨KeepsOthers.refl _, trivial, ⟨HP.out, hcf, hcr, hfr⟩, hB⟩
  case done =>
    rintro D ys W hD hys ⟨⟨hp, _, hcr, hfr⟩, hB⟩ hK
    have HF : Hid (werr isP s.data.toList = 0) := werr_words hl hc (fun x hx => by rw [← hys] at hx; obtain ⟨y, hy, rfl⟩ := List.mem_map.1 hx; exact hp y hy)
    clear hp hys
    gi_wp2
    have hK' := (KeepsOthers.setCell W ⟨w.heap.size + 1, 0, none⟩ (.int .i64 0)).same D _ hK rfl
    refine ⟨by simp, .inl ⟨_, _, rfl, run_takeDeferred hK', ?_⟩⟩
    have hc5 := cell_kept (World.cell?_setCell_same' W ⟨w.heap.size + 1, 0, none⟩ (.int .i64 0) (by rw [hcr]; rfl)) (grownBy_putObj' _ D (.deferred none)) (fun r e => by cases e; exact ⟨_, hK', rfl⟩)
    refine ⟨.int .i64 0, ?_, by rw [HF.out], (hB.setCell (p := ⟨w.heap.size + 1, 0, none⟩) (by simp) _).trans (belowK_b (w := w) (Nat.le_refl _) _ D _ _ (by simp at hD; omega) hK' rfl rfl)⟩
    simp [results, Try.results53, go_sem, hc5]
  case stop =>
    rintro D c pre W hD hpre ⟨⟨rfl, ⟨y, hy, hyr⟩, hcr⟩, hB⟩ hK
    have HF : Hid (werr isP s.data.toList = 1) := werr_form hl hc (hpre.subset (List.mem_map.2 ⟨y, hy, rfl⟩)) hyr
    clear hyr hpre
    gi_wp2
    refine ⟨by simp, .inl ⟨_, _, rfl, run_takeDeferred hK, ?_⟩⟩
    have hc5 := cell_kept hcr (grownBy_putObj' _ D (.deferred none)) (fun r e => by cases e; exact ⟨_, hK, rfl⟩)
    refine ⟨.int .i64 1, ?_, by rw [HF.out], hB.trans (belowK_b (w := w) (Nat.le_refl _) W D _ _ (by simp at hD; omega) hK rfl rfl)⟩
    simp [results, Try.results53, go_sem, hc5]

theorem check_pat (s : ByteArray) (w : World) :
    Calls Try.prog 53 #[.string s, .func (.func 58) #[] #[]] w fun e w' => e = .returned (.int .i64 (werr isP s.data.toList)) ∧ Below w.heap.size w w' := by
  by_cases h : 24 < s.size
  · exact check_pat_len s w h
  · by_cases hc : 6 ≤ Lib.countByte s.data.toList 46
    · exact check_pat_many s w (by omega) hc
    · exact callsIn_wide.1 (check_pat_words s w (by omega) (by omega))
end Go.Proofs.Ythhkpgnjpieckaa
