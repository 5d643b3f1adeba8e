/- words.Match. -/
import Derived.Test.YthhkpgnjpieckaaPr
namespace Go.Proofs.Ythhkpgnjpieckaa
set_option linter.unusedVariables false
set_option maxRecDepth 100000
open Go.RowKit Go.Shelf
attribute [local go_sem] Oper.semAt_some

/-- 'make([]T, n)' inside a fence. -/
theorem make_full_in {F : Fence} {n : Nat} {P : Program} (w : World) {ops : Array Oper} {rest : List Oper} {o : Oper} {a : Act} {Q : Exit → Act → World → Prop}
    (hg : o.guard = none) (l c : Operand) (t : TypeId) (hop : o.op = Op.makeSlice t l c)
    (base : Nat) (e : TypeId) (i : TypeInfo) (z : Value) (size : Nat) (h1 : P.underlying t = some (.slice e)) (h2 : P.info? e = some i) (h3 : i.zero = some z) (h4 : i.size = size)
    (kl kc : IntKind) (L C : Int) (m : Nat) (hl : a.eval l = .int kl L) (hc : a.eval c = .int kc C) (hL : L = (m : Int)) (hC : C = (m : Int)) (b2 : i.bytes * m ≤ 281474976710656) (b3 : m ≤ maxLen) (b4 : base ≤ w.heap.size)
    (hK : ∀ w', w'.ownsRow base e size (.slice (some ⟨w.heap.size, 0, none⟩) m m) m (madeCells z.cells (m * size)).toList → w.grownBy w' none → wpListIn F n P ops Q rest (a.put o.dst (.slice (some ⟨w.heap.size, 0, none⟩) m m)) w') :
    wpListIn F n P ops Q (o :: rest) a w := by
  subst hL hC
  obtain ⟨w', hrun, r1, r2⟩ := run_make_full (P := P) w base t e i z size h1 h2 h3 h4 kl kc m b2 b3 b4
  refine wpListIn_plain hg fun K hK' => ⟨by simp [Oper.about, hop], ?_⟩
  rw [Oper.semAt_plain F _ _ (by rw [hop]; intro c hc'; cases hc')]
  simp [execOp, hop, hl, hc, hrun, Result.andThen]
  exact hK' _ _ (hK w' r1 r2)

theorem keeps_below {W W' : World} (h : Below W.heap.size W W') : KeepsOthers W W' :=
  ⟨h.size, fun k _ hk _ => (h.block k (Array.getElem?_eq_some_iff.1 hk).1).trans hk⟩

theorem made_cell {w : World} {base g n : Nat} (h : w.ownsRow base 4 1 (.slice (some ⟨g, 0, none⟩) (n + 1) (n + 1)) (n + 1) (List.replicate (n + 1) (.bool false))) : ∀ o, (w.alloc o).cell? ⟨g, 0, none⟩ = some (.bool false) := by
  intro o; rw [(h.alloc o).cellAt 0 (by omega)]; simp
theorem made_free {w : World} {base g n : Nat} (h : w.ownsRow base 4 1 (.slice (some ⟨g, 0, none⟩) (n + 1) (n + 1)) (n + 1) (List.replicate (n + 1) (.bool false))) : ∀ o, (w.alloc o).frozen? ⟨g, 0, none⟩ = false := by
  intro o; exact (h.alloc o).frozenAt 0

theorem cell_other {W : World} {b o b' o' : Nat} {v : Value} (h : b ≠ b') : (W.setCell ⟨b, o, none⟩ v).cell? ⟨b', o', none⟩ = W.cell? ⟨b', o', none⟩ :=
  World.cell?_setCell_other _ _ _ _ (by intro e; cases e; exact h rfl)

theorem isBools_own {W : World} {base g cap : Nat} {bs : List Bool} (h : W.ownsRow base 4 1 (.slice (some ⟨g, 0, none⟩) bs.length cap) bs.length (bs.map Value.bool)) : IsBools W g 0 bs := by
  intro i hi; rw [Nat.zero_add, h.cellAt i (by omega)]; simp [hi]

theorem lay_at (x : ByteArray) (bs : List Bool) (ks : List ByteArray) (g1 c1 g2 c2 n : Nat) (w : World) (hn : bs.length = n) (hl : n = ks.length + 1) (h100 : n ≤ 100) (h1 : IsBools w g1 0 bs) (h2 : IsTexts w g2 0 ks) (hg1 : g1 < w.heap.size) (hg2 : g2 < w.heap.size) :
    Calls Try.prog 60 #[.string x, .slice (some ⟨g1, 0, none⟩) n c1, .slice (some ⟨g2, 0, none⟩) ks.length c2] w fun e w' =>
      e = .returned (.slice (some ⟨w.heap.size, 0, none⟩) n n) ∧ (IsBools w' w.heap.size 0 (layB x bs ks) ∧ w.heap.size < w'.heap.size) ∧ Below w.heap.size w w' := by
  subst hn
  refine (lay_any x bs ks g1 c1 g2 c2 w hl h100 h1 h2 hg1 hg2).mono ?_
  rintro e w' ⟨rfl, hown, hB⟩
  have hlt : w.heap.size < w'.heap.size := by
    rcases hown.2 with ⟨h, _⟩ | ⟨g, cap, cur, h, _, hh, _⟩
    · cases h
    · cases h; exact (Array.getElem?_eq_some_iff.1 hh).1
  refine ⟨rfl, ⟨isBools_own (base := w.heap.size) (cap := bs.length) ?_, hlt⟩, hB⟩
  rw [show (layB x bs ks).length = bs.length from by simp [layB]]
  exact hown

theorem match_start {w2 w3 : World} {xs : List ByteArray} {gk ck : Nat} {pv : Value}
    (hown : w3.ownsRow w2.heap.size 4 1 (.slice (some ⟨w2.heap.size + 1, 0, none⟩) (xs.length + 1) (xs.length + 1)) (xs.length + 1) (List.replicate (xs.length + 1) (.bool false)))
    (hgrow : (w2.alloc (.cells #[.slice (some ⟨gk, 0, none⟩) xs.length ck] 22)).grownBy w3 none) (ht : IsTexts w2 gk 0 xs) (hne : 0 < xs.length) :
    let W0 := (((w3.alloc (.cells #[.slice (some ⟨w2.heap.size + 1, 0, none⟩) (xs.length + 1) (xs.length + 1)] 87)).setCell ⟨w2.heap.size + 1, 0, none⟩ (.bool true)).alloc (.cells #[pv] 9))
    W0.cell? ⟨w3.heap.size, 0, none⟩ = some (.slice (some ⟨w2.heap.size + 1, 0, none⟩) (xs.length + 1) (xs.length + 1)) ∧ W0.frozen? ⟨w3.heap.size, 0, none⟩ = false ∧ IsBools W0 (w2.heap.size + 1) 0 (reachB xs []) ∧
      W0.cell? ⟨w2.heap.size, 0, none⟩ = some (.slice (some ⟨gk, 0, none⟩) xs.length ck) ∧ IsTexts W0 gk 0 xs ∧ Below w2.heap.size w2 W0 := by
  intro W0
  have hz := hgrow.size
  simp only [World.size_alloc] at hz
  have hlt : w2.heap.size + 1 < w3.heap.size := by
    rcases hown.2 with ⟨h, _⟩ | ⟨g, cap, cur, h, _, hh, _⟩
    · cases h
    · cases h; exact (Array.getElem?_eq_some_iff.1 hh).1
  have b3 : Boxed (w3.alloc (.cells #[.slice (some ⟨w2.heap.size + 1, 0, none⟩) (xs.length + 1) (xs.length + 1)] 87)) w3.heap.size 87 (.slice (some ⟨w2.heap.size + 1, 0, none⟩) (xs.length + 1) (xs.length + 1)) := Boxed.new w3 _ _
  have b3' : Boxed W0 w3.heap.size 87 (.slice (some ⟨w2.heap.size + 1, 0, none⟩) (xs.length + 1) (xs.length + 1)) := (b3.kept (grownBy_setCell' _ (w2.heap.size + 1) (.bool true)) (by simp; omega)).alloc _
  have b1 : Boxed W0 w2.heap.size 22 (.slice (some ⟨gk, 0, none⟩) xs.length ck) := ((((Boxed.new w2 22 _).kept hgrow (by simp)).alloc _).kept (grownBy_setCell' _ (w2.heap.size + 1) (.bool true)) (by simp)).alloc _
  have hB : Below w2.heap.size w2 W0 := ((((((Below.refl _ w2).alloc (Nat.le_refl _) _).grown hgrow (by simp) (fun k e => by cases e)).alloc (by omega) _).setCell (p := ⟨w2.heap.size + 1, 0, none⟩) (by simp) _).alloc (by simp; omega) _)
  refine ⟨b3'.cell, b3'.frozen, ?_, b1.cell, ht.keep hne hB, hB⟩
  have hst := (((hown.alloc (.cells #[.slice (some ⟨w2.heap.size + 1, 0, none⟩) (xs.length + 1) (xs.length + 1)] 87)).stored 0 (.bool true)).1).alloc (.cells #[pv] 9)
  have e : (List.replicate (xs.length + 1) (Value.bool false)).set 0 (.bool true) = (reachB xs []).map Value.bool := by
    rw [reachB_start]; simp [List.replicate_succ]
  rw [e] at hst
  have hl := reachB_length xs []
  refine isBools_own (base := w2.heap.size) (cap := xs.length + 1) ?_
  rw [hl]; exact hst

set_option maxHeartbeats 1000000 in
theorem match_perr (p k : ByteArray) (w : World) (h1 : perr p.data.toList ≠ 0) :
    Calls Try.prog 23 #[.string p, .string k] w fun e w' => e = .returned (.tuple #[.bool (mis p.data.toList k.data.toList), .int .i64 (merr p.data.toList k.data.toList)]) ∧ Below w.heap.size w w' := by
  rw [show mis p.data.toList k.data.toList = false from by simp [mis, merr, h1], show merr p.data.toList k.data.toList = perr p.data.toList from by simp [merr, h1]]
  have h' : (perr p.data.toList != 0) = true := bne_iff_ne.2 h1
  obtain ⟨c, hc⟩ : ∃ c, c = perr p.data.toList := ⟨_, rfl⟩
  have HC : Hid (c = perr p.data.toList) := hc
  rw [← hc] at h' ⊢
  clear hc h1
  go_enter Try.func23, Try.ntmps23
  go_wp2_with (go_at_call 21; refine (pattern_any _ _).mono ?_; rintro e w1 ⟨rfl, hB1⟩; rw [← HC.out])
  go_ret2
  exact ⟨rfl, hB1⟩

set_option maxHeartbeats 1000000 in
theorem match_kerr (p k : ByteArray) (w : World) (h1 : perr p.data.toList = 0) (h2 : kerr k.data.toList ≠ 0) :
    Calls Try.prog 23 #[.string p, .string k] w fun e w' => e = .returned (.tuple #[.bool (mis p.data.toList k.data.toList), .int .i64 (merr p.data.toList k.data.toList)]) ∧ Below w.heap.size w w' := by
  rw [show mis p.data.toList k.data.toList = false from by simp [mis, merr, h1, h2], show merr p.data.toList k.data.toList = kerr k.data.toList from by simp [merr, h1]]
  have h' : (kerr k.data.toList != 0) = true := bne_iff_ne.2 h2
  have HS := splitK_err k
  obtain ⟨c, hc⟩ : ∃ c, c = kerr k.data.toList := ⟨_, rfl⟩
  have HC : Hid (∀ w, Calls Try.prog 17 #[.string k] w fun e w' => e = .returned (.tuple #[.slice none 0 0, .int .i64 c]) ∧ Below w.heap.size w w') := fun w => by rw [hc]; exact HS w h2
  rw [← hc] at h' ⊢
  have H1 : Hid (perr p.data.toList = 0) := h1
  clear hc h1 h2 HS
  go_enter Try.func23, Try.ntmps23
  go_wp2_with (first
    | (go_at_call 21; refine (pattern_any _ _).mono ?_; rintro e w1 ⟨rfl, hB1⟩; rw [H1.out])
    | (go_at_call 17; refine (HC.out _).mono ?_; rintro e w2 ⟨rfl, hB2⟩))
  go_ret2
  have := hB1.size
  have := hB2.size
  exact ⟨rfl, (hB1.trans (hB2.mono hB1.size)).alloc (by omega) _⟩

set_option maxRecDepth 100000 in
set_option maxHeartbeats 2000000 in
theorem match_in (p k : ByteArray) (w : World) (h1 : perr p.data.toList = 0) (h2 : kerr k.data.toList = 0) :
    CallsIn Fence.wide 5 Try.prog 23 #[.string p, .string k] w fun e w' => e = .returned (.tuple #[.bool (fitL p.data.toList k.data.toList), .int .i64 0]) ∧ Below w.heap.size w w' := by
  obtain ⟨p24, _⟩ := werr_zero h1
  obtain ⟨k24, k6⟩ := werr_zero h2
  have hm : p.size ≤ maxLen := by have : p.size ≤ 24 := by simpa using p24
                                  unfold maxLen; omega
  have hn6 : (wlB k.data.toList).length ≤ 6 := by rw [wlB_len]; omega
  have hn1 : 1 ≤ (wlB k.data.toList).length := by rw [wlB_len]; omega
  rw [fitL_eq]
  obtain ⟨xs, hxs⟩ : ∃ xs, xs = wlB k.data.toList := ⟨_, rfl⟩
  rw [← hxs] at hn6 hn1 ⊢
  have HX : Hid (xs = wlB k.data.toList) := hxs
  have H1 : Hid (perr p.data.toList = 0) := h1
  have H2 : Hid (kerr k.data.toList = 0) := h2
  clear h1 h2 hxs p24 k24 k6
  obtain ⟨i0, hi, hz0, hz1, hz2⟩ := info_parts Try.info4
  refine callsIn_of_wp_marks Try.func23 rfl trivial ?_ rfl
  simp only [Try.ntmps23, List.size_toArray, List.length_cons, List.length_nil, Nat.reduceAdd, Nat.reduceSub, Array.replicate_succ, Array.replicate_zero, List.push_toArray, List.append_toArray, List.nil_append, List.cons_append]
  gi_wp2_with (first
    | (refine ⟨trivial, ?_⟩; gi_at_call 21; refine (callsIn_wide.2 (pattern_any _ _)).mono ?_; rintro e w1 ⟨rfl, hB1⟩; rw [H1.out])
    | (refine ⟨trivial, ?_⟩; gi_at_call 17; refine (callsIn_wide.2 (splitK_ok k xs HX.out _ H2.out)).mono ?_; rintro e w2 ⟨gk, ck, rfl, hgk, hck, hmk, htk, hB2⟩)
    | (gi_at_make; refine make_full_in _ rfl _ _ 87 rfl w2.heap.size 4 i0 (.bool false) 1 Try.underlying87 hi hz0 hz1 _ _ _ _ (xs.length + 1) rfl rfl (by go_num) (by go_num) (by rw [hz2]; omega) (by unfold maxLen; omega) (by simp) ?_; intro w3 hown3 hgrow3; simp only [World.size_alloc, made_bools] at hown3; have hc3 := made_cell hown3; have hf3 := made_free hown3; have hz3 := hgrow3.size; simp only [World.size_alloc] at hz3)
    | (refine ⟨trivial, ?_⟩; gi_at_call 55; refine (each_in _ _ _).mono ?_; rintro e w' ⟨rfl, rfl⟩))
  have hs1 := hB1.size
  have hs2 := hB2.size
  have hBw2 : Below w.heap.size w w2 := hB1.trans (hB2.mono hs1)
  have hgk2 : gk < w2.heap.size := htk.lt (by omega)
  obtain ⟨f1, f2, f3, f4, f5, f6⟩ := match_start hown3 hgrow3 htk (by omega)
  obtain ⟨W0, hW0⟩ : ∃ W0, (((w3.alloc (.cells #[.slice (some ⟨w2.heap.size + 1, 0, none⟩) (xs.length + 1) (xs.length + 1)] 87)).setCell ⟨w2.heap.size + 1, 0, none⟩ (.bool true)).alloc (.cells #[.string p] 9)) = W0 := ⟨_, rfl⟩
  rw [hW0] at f1 f2 f3 f4 f5 f6 ⊢
  have hW0s : W0.heap.size = w3.heap.size + 1 + 1 := by rw [← hW0]; simp
  have f7 : W0.cell? ⟨w3.heap.size + 1, 0, none⟩ = some (.string p) := by
    rw [← hW0]
    have := (cell_new_l ((w3.alloc (.cells #[.slice (some ⟨w2.heap.size + 1, 0, none⟩) (xs.length + 1) (xs.length + 1)] 87)).setCell ⟨w2.heap.size + 1, 0, none⟩ (.bool true)) (.string p) 9).1
    simpa using this
  have hBW : Below w.heap.size w W0 := hBw2.trans (f6.mono (by omega))
  clear hW0 hown3 hgrow3 hc3 hf3 hB1 hB2 htk f6
  refine wpIn_rangeFunc_ownG rfl (by omega) (gf := 108) (lb := #[.pointer (some ⟨w3.heap.size + 1, 0, none⟩)]) rfl trivial (enters_of Try.func108 (by kernel_rfl) rfl)
    (each_stops 4 (by omega) (w3.heap.size + 1) p hm _ (by omega) f7) (fun _ _ => trivial) (fun _ _ _ _ _ _ _ _ => trivial) (Below.refl _ _) (fun _ => rfl)
    (fun pre W => ((∃ g c, W.cell? ⟨w3.heap.size, 0, none⟩ = some (.slice (some ⟨g, 0, none⟩) (xs.length + 1) c) ∧ W.frozen? ⟨w3.heap.size, 0, none⟩ = false ∧ IsBools W g 0 (reachB xs (List.map (fun x : WB => x.1) pre)) ∧ g < W.heap.size) ∧
      W.cell? ⟨w2.heap.size, 0, none⟩ = some (.slice (some ⟨gk, 0, none⟩) xs.length ck) ∧ IsTexts W gk 0 xs ∧ W0.heap.size ≤ W.heap.size) ∧ Below w.heap.size w W)
    (fun _ _ _ => False)
    (OwnFrom.and (Own.from (by
      rintro s A B row ⟨⟨g, c, h1, h2, h3, h4⟩, h5, h6, h7⟩ hg hr
      exact ⟨⟨g, c, cell_kept h1 hg hr, (frozen_kept h1 hg hr).trans h2, fun i hi => cell_kept (h3 i hi) hg hr, Nat.lt_of_lt_of_le h4 hg.size⟩, cell_kept h5 hg hr, fun i hi => cell_kept (h6 i hi) hg hr, Nat.le_trans h7 hg.size⟩) _) (ownFrom_below (Nat.le_refl _) (by omega)))
    (fun _ _ _ _ _ hs _ _ => hs)
    ⟨⟨⟨w2.heap.size + 1, xs.length + 1, f1, f2, f3, by omega⟩, f4, f5, Nat.le_refl _⟩, hBW⟩
    (fun x => { tmps := #[.string p, .string k, undef, undef, .bool false, .int .i64 0, .int .i64 0, .pointer (some ⟨w2.heap.size, 0, none⟩), .int .i64 0, .pointer (some ⟨w3.heap.size, 0, none⟩), .string x.1, .string p, .int .i64 0, .int .i64 0, .bool false, undef,
      .tuple #[.slice (some ⟨gk, 0, none⟩) xs.length ck, .int .i64 0], .string k, .tuple #[.slice (some ⟨gk, 0, none⟩) xs.length ck, .int .i64 0], .slice (some ⟨gk, 0, none⟩) xs.length ck, .int .i64 0, .int .i64 0, .bool false, undef, .slice (some ⟨gk, 0, none⟩) xs.length ck, .int .i64 xs.length, .int .i64 (xs.length + 1),
      .slice (some ⟨w2.heap.size + 1, 0, none⟩) (xs.length + 1) (xs.length + 1), .slice (some ⟨w2.heap.size + 1, 0, none⟩) (xs.length + 1) (xs.length + 1), .pointer (some ⟨w2.heap.size + 1, 0, none⟩), .string p, .func (.func 108) #[] #[.pointer (some ⟨w3.heap.size + 1, 0, none⟩)], .string x.1, undef, undef, undef, undef, undef, undef, undef, undef, undef], defers := [] }) ?assign ?body ?done ?stop
  case assign =>
    intro l x W K hK
    gi_wp2
    exact hK
  case body =>
    rintro l pre x W ⟨⟨⟨g, c, h1, h2, h3, h4⟩, h5, h6, h7⟩, hB⟩ _
    have HL := lay_at x.1 (reachB xs (List.map (fun x : WB => x.1) pre)) xs g c gk ck (xs.length + 1) W (reachB_length _ _) rfl (by omega) h3 h6 h4 (by omega)
    rw [layB_reach] at HL
    have hq : w3.heap.size < W.heap.size := by omega
    have hq0 : w.heap.size ≤ W.heap.size := hB.size
    have H6 : Hid (IsTexts W gk 0 xs) := h6
    clear h3 h6
    gi_wp2_with (refine ⟨trivial, ?_⟩; gi_at_call 60; refine (CallsIn.inRound l (callsIn_wide.2 HL)).mono ?_; rintro e W1 ⟨rfl, ⟨hb1, hb2⟩, hBx⟩; have hq1 := (hBx.cell (p := ⟨w3.heap.size, 0, none⟩) hq).trans h1; have hq2 := (hBx.frozen (p := ⟨w3.heap.size, 0, none⟩) hq).trans h2)
    have hq3 := hBx.size
    refine ⟨((keeps_below hBx).trans (KeepsOthers.setCell _ _ _)).from _, trivial, ⟨⟨W.heap.size, xs.length + 1, World.cell?_setCell_same' _ _ _ (by rw [hq1]; rfl), by rw [World.frozen?_setCell]; exact hq2, ?_, ?_⟩, ?_, ?_, ?_⟩, ?_⟩
    · intro i hi
      rw [cell_other (by omega)]
      simp only [List.map_append, List.map_cons, List.map_nil]
      exact hb1 i (by simpa using hi)
    · simp [World.setCell]; omega
    · rw [cell_other (by omega)]; exact (hBx.cell (p := ⟨w2.heap.size, 0, none⟩) (by show w2.heap.size < _; omega)).trans h5
    · intro i hi
      rw [cell_other (by omega)]
      exact (hBx.cell (p := ⟨gk, 0 + i, none⟩) (by show gk < _; omega)).trans (H6.out i hi)
    · simp [World.setCell]; omega
    · exact (hB.trans (hBx.mono (by omega))).setCell (p := ⟨w3.heap.size, 0, none⟩) (by show w.heap.size ≤ w3.heap.size; omega) _
  case done =>
    rintro D ys W hD hys ⟨⟨⟨g, c, h1, h2, h3, h4⟩, h5, h6, h7⟩, hB⟩ hK
    have hl := reachB_length xs (List.map (fun x : WB => x.1) ys)
    have hc := h3 xs.length (by omega)
    rw [reachB_last] at hc
    rw [hys] at hc
    simp only [Nat.zero_add] at hc
    have hlt : (xs.length : Int) < xs.length + 1 := by omega
    clear h3 h6 hl hys
    gi_wp2
    refine ⟨by simp, .inl ⟨_, _, rfl, run_takeDeferred hK, ?_⟩⟩
    exact ⟨_, results_tmp2 rfl _ _ _, rfl, hB.trans (belowK_b (w := w) (Nat.le_refl _) W D _ _ (by omega) hK rfl rfl)⟩
  case stop =>
    rintro D c pre W _ _ h _
    exact h.elim

theorem match_any (p k : ByteArray) (w : World) :
    Calls Try.prog 23 #[.string p, .string k] w fun e w' => e = .returned (.tuple #[.bool (mis p.data.toList k.data.toList), .int .i64 (merr p.data.toList k.data.toList)]) ∧ Below w.heap.size w w' := by
  by_cases h1 : perr p.data.toList = 0
  · by_cases h2 : kerr k.data.toList = 0
    · rw [show mis p.data.toList k.data.toList = fitL p.data.toList k.data.toList from by simp [mis, merr, h1, h2], show merr p.data.toList k.data.toList = 0 from by simp [merr, h1, h2]]
      exact callsIn_wide.1 (match_in p k w h1 h2)
    · exact match_kerr p k w h1 h2
  · exact match_perr p k w h1
end Go.Proofs.Ythhkpgnjpieckaa
