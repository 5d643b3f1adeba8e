/- state.Held, state.Begin, mailcoachlaw.busy. -/
import Derived.Test.YthhkpgnjpieckaaTj
namespace Go.Proofs.Ythhkpgnjpieckaa
set_option linter.unusedVariables false
set_option maxRecDepth 100000
open Go.RowKit Go.Maps

theorem ret_ii {a b c d : Int} (h1 : a = b) (h2 : c = d) : Ending.returned (.tuple #[.int .i64 a, .int .i64 c]) = .returned (.tuple #[.int .i64 b, .int .i64 d]) := by rw [h1, h2]
def hdE (p : PlanD) (s : StateD) (t : Int) : Int := if stE p s = 0 then (if isNum t s.takers.length = true then 0 else 5) else stE p s
def hdN (p : PlanD) (s : StateD) (t : Int) : Int := if hdE p s t = 0 then (heldN s t : Int) else 0

set_option maxRecDepth 100000 in
set_option maxHeartbeats 1000000 in
theorem sheld_any (p : PlanD) (a1 a2 a3 : Option Addr) (n1 c1 n2 c2 n3 c3 : Nat) (s : StateD) (b1 b2 b3 : Option Addr) (m1 d1 m2 d2 m3 d3 : Nat) (t : Int) (w : World) (hp : PlanAt w a1 a2 a3 n1 n2 n3 p) (hs : StateAt w b1 b2 b3 m1 m2 m3 s) :
    Calls Try.prog 52 #[.agg #[.slice a1 n1 c1, .slice a2 n2 c2, .slice a3 n3 c3], .agg #[.slice b1 m1 d1, .slice b2 m2 d2, .slice b3 m3 d3, .int .i64 s.nextSeq, .int .i64 s.nextTag, .int .i64 s.came, .int .i64 s.acked, .int .i64 s.dropped], .int .i64 t] w fun e w' => e = .returned (.tuple #[.int .i64 (hdN p s t), .int .i64 (hdE p s t)]) ∧ Below w.heap.size w w' := by
  obtain ⟨D, hD⟩ : ∃ D : Int, D = hdE p s t := ⟨_, rfl⟩
  obtain ⟨N, hN⟩ : ∃ N : Int, N = hdN p s t := ⟨_, rfl⟩
  rw [← hD, ← hN]
  have HD := hidI hD
  have HN := hidI hN
  have HM3 : Hid (s.takers.length = m3) := hs.l3
  obtain ⟨W2, hW2, hBw, hs2, hbx⟩ := ps_boxed w #[.slice a1 n1 c1, .slice a2 n2 c2, .slice a3 n3 c3] #[.slice b1 m1 d1, .slice b2 m2 d2, .slice b3 m3 d3, .int .i64 s.nextSeq, .int .i64 s.nextTag, .int .i64 s.came, .int .i64 s.acked, .int .i64 s.dropped]
  have HW2 := hidI hW2
  have BX := hidI hbx
  have HS := hidI (hs.keep hBw)
  have HP := hidI (hp.keep hBw)
  have s0 := hBw.size
  obtain ⟨x0, x1, x2⟩ := pl_cells (hbx W2 (Below.refl _ _)).1
  obtain ⟨y0, y1, y2, y3, y4, y5, y6, y7⟩ := st_cells (hbx W2 (Below.refl _ _)).2
  clear hW2 hbx hs2 hp hs hD hN
  go_enter Try.func52, Try.ntmps52
  go_wp2_with fail
  rw [← HW2.out]
  refine (scheck_any p _ _ _ _ _ _ _ _ _ s _ _ _ _ _ _ _ _ _ _ HP.out HS.out).mono ?_
  rintro e w3 ⟨rfl, hB3⟩
  obtain ⟨E, hE⟩ : ∃ E : Int, E = stE p s := ⟨_, rfl⟩
  rw [← hE]
  have HE := hidI hE
  have s3 := hB3.size
  clear hE x0 x1 x2 y0 y1 y2 y3 y4 y5 y6 y7
  obtain ⟨y0, y1, y2, y3, y4, y5, y6, y7⟩ := st_cells (BX.out w3 hB3).2
  by_cases h0 : E = 0
  · subst h0
    have HDE : Hid (D = if isNum t m3 = true then 0 else 5) := by show D = _; rw [HD.out]; unfold hdE; rw [if_pos HE.out.symm, HM3.out]
    by_cases ht : 0 ≤ t ∧ t < m3
    · have HD0 : Hid (D = 0) := by show D = 0; rw [HDE.out, if_pos (isNum_iff.2 ht)]
      have HN0 : Hid (N = heldN s t) := by show N = _; rw [HN.out]; unfold hdN; rw [if_pos (by rw [← HD.out]; exact HD0.out)]
      have t1 : ¬ t < 0 := by omega
      have t2 : ¬ (m3 : Int) ≤ t := by omega
      clear ht
      go_wp2_with fail
      refine (held_any s _ _ _ _ _ _ _ _ _ t _ (HS.out.keep hB3)).mono ?_
      rintro e w4 ⟨rfl, hB4⟩
      rw [← HN0.out]
      go_wp2_with fail
      go_ret2
      exact ⟨ret_ii rfl HD0.out.symm, hBw.trans ((hB3.trans (hB4.mono s3)).mono s0)⟩
    · have HD0 : Hid (D = 5) := by show D = 5; rw [HDE.out, if_neg (fun h => ht (isNum_iff.1 h))]
      have HN0 : Hid (N = 0) := by show N = _; rw [HN.out]; unfold hdN; rw [if_neg (by rw [← HD.out, HD0.out]; decide)]
      have hor : t < 0 ∨ (¬ t < 0 ∧ (m3 : Int) ≤ t) := by omega
      clear ht
      rcases hor with g1 | ⟨g1, g2⟩
      all_goals
        go_wp2_with fail
        go_ret2
        exact ⟨ret_ii HN0.out.symm HD0.out.symm, hBw.trans (hB3.mono s0)⟩
  · have h0' : (E != 0) = true := bne_iff_ne.2 h0
    have HD0 : Hid (D = E) := by show D = E; rw [HD.out]; unfold hdE; rw [if_neg (by rw [← HE.out]; exact h0), ← HE.out]
    have HN0 : Hid (N = 0) := by show N = _; rw [HN.out]; unfold hdN; rw [if_neg (by rw [← HD.out, HD0.out]; exact h0)]
    clear h0
    go_wp2_with fail
    go_ret2
    exact ⟨ret_ii HN0.out.symm HD0.out.symm, hBw.trans (hB3.mono s0)⟩

/-- Of what was there only that block has turned. -/
structure TurnB (B : Nat) (W W' : World) : Prop where
  os : W'.os = W.os
  tape : W'.tape = W.tape
  output : W'.output = W.output
  size : W.heap.size ≤ W'.heap.size
  block : ∀ k, k < W.heap.size → k ≠ B → W'.heap[k]? = W.heap[k]?
theorem TurnB.below {B n : Nat} {W W' : World} (h : TurnB B W W') (hn : n ≤ W.heap.size) (hB : n ≤ B) : Below n W W' := ⟨h.os, h.tape, h.output, h.size, fun k hk => h.block k (by omega) (by omega)⟩
theorem setCell_turnB (W : World) (B i : Nat) (v : Value) : TurnB B W (W.setCell ⟨B, i, none⟩ v) := by
  have h : Below 0 W (W.setCell ⟨B, i, none⟩ v) := (Below.refl 0 W).setCell (p := ⟨B, i, none⟩) (Nat.zero_le _) v
  exact ⟨h.os, h.tape, h.output, h.size, fun k hk hne => heap_setCell_other W ⟨B, i, none⟩ k v hne⟩
theorem TurnB.trans {B : Nat} {A C E : World} (h : TurnB B A C) (k : TurnB B C E) : TurnB B A E :=
  ⟨k.os.trans h.os, k.tape.trans h.tape, k.output.trans h.output, Nat.le_trans h.size k.size, fun i hi hne => (k.block i (Nat.lt_of_lt_of_le hi h.size) hne).trans (h.block i hi hne)⟩
theorem store8 {W W' : World} {B : Nat} {v0 v1 v2 v3 v4 v5 v6 v7 u0 u1 u2 u3 u4 u5 u6 u7 : Value} {t : TypeId} (h : W.heap[B]? = some (.cells #[v0, v1, v2, v3, v4, v5, v6, v7] t (0, 0)))
    (hW : ((((((((W.setCell ⟨B, 0, none⟩ u0).setCell ⟨B, 1, none⟩ u1).setCell ⟨B, 2, none⟩ u2).setCell ⟨B, 3, none⟩ u3).setCell ⟨B, 4, none⟩ u4).setCell ⟨B, 5, none⟩ u5).setCell ⟨B, 6, none⟩ u6).setCell ⟨B, 7, none⟩ u7) = W') :
    W'.heap[B]? = some (.cells #[u0, u1, u2, u3, u4, u5, u6, u7] t (0, 0)) ∧ TurnB B W W' := by
  subst hW
  have h0 : (W.setCell ⟨B, 0, none⟩ u0).heap[B]? = some (.cells #[u0, v1, v2, v3, v4, v5, v6, v7] t (0, 0)) := setCell_block h u0
  have h1 : ((W.setCell ⟨B, 0, none⟩ u0).setCell ⟨B, 1, none⟩ u1).heap[B]? = some (.cells #[u0, u1, v2, v3, v4, v5, v6, v7] t (0, 0)) := setCell_block h0 u1
  have h2 : (((W.setCell ⟨B, 0, none⟩ u0).setCell ⟨B, 1, none⟩ u1).setCell ⟨B, 2, none⟩ u2).heap[B]? = some (.cells #[u0, u1, u2, v3, v4, v5, v6, v7] t (0, 0)) := setCell_block h1 u2
  have h3 : ((((W.setCell ⟨B, 0, none⟩ u0).setCell ⟨B, 1, none⟩ u1).setCell ⟨B, 2, none⟩ u2).setCell ⟨B, 3, none⟩ u3).heap[B]? = some (.cells #[u0, u1, u2, u3, v4, v5, v6, v7] t (0, 0)) := setCell_block h2 u3
  have h4 : (((((W.setCell ⟨B, 0, none⟩ u0).setCell ⟨B, 1, none⟩ u1).setCell ⟨B, 2, none⟩ u2).setCell ⟨B, 3, none⟩ u3).setCell ⟨B, 4, none⟩ u4).heap[B]? = some (.cells #[u0, u1, u2, u3, u4, v5, v6, v7] t (0, 0)) := setCell_block h3 u4
  have h5 : ((((((W.setCell ⟨B, 0, none⟩ u0).setCell ⟨B, 1, none⟩ u1).setCell ⟨B, 2, none⟩ u2).setCell ⟨B, 3, none⟩ u3).setCell ⟨B, 4, none⟩ u4).setCell ⟨B, 5, none⟩ u5).heap[B]? = some (.cells #[u0, u1, u2, u3, u4, u5, v6, v7] t (0, 0)) := setCell_block h4 u5
  have h6 : (((((((W.setCell ⟨B, 0, none⟩ u0).setCell ⟨B, 1, none⟩ u1).setCell ⟨B, 2, none⟩ u2).setCell ⟨B, 3, none⟩ u3).setCell ⟨B, 4, none⟩ u4).setCell ⟨B, 5, none⟩ u5).setCell ⟨B, 6, none⟩ u6).heap[B]? = some (.cells #[u0, u1, u2, u3, u4, u5, u6, v7] t (0, 0)) := setCell_block h5 u6
  have h7 : ((((((((W.setCell ⟨B, 0, none⟩ u0).setCell ⟨B, 1, none⟩ u1).setCell ⟨B, 2, none⟩ u2).setCell ⟨B, 3, none⟩ u3).setCell ⟨B, 4, none⟩ u4).setCell ⟨B, 5, none⟩ u5).setCell ⟨B, 6, none⟩ u6).setCell ⟨B, 7, none⟩ u7).heap[B]? = some (.cells #[u0, u1, u2, u3, u4, u5, u6, u7] t (0, 0)) := setCell_block h6 u7
  refine ⟨h7, ?_⟩
  exact (((((((setCell_turnB _ _ _ _).trans (setCell_turnB _ _ _ _)).trans (setCell_turnB _ _ _ _)).trans (setCell_turnB _ _ _ _)).trans (setCell_turnB _ _ _ _)).trans (setCell_turnB _ _ _ _)).trans (setCell_turnB _ _ _ _)).trans (setCell_turnB _ _ _ _)

def beginS (n : Nat) : StateD := ⟨List.replicate n [], [], [], 0, 0, 0, 0, 0⟩
theorem Try.infoLine : (Try.prog.info? 57).map (fun i => (i.zero, i.size, i.bytes)) = some (some (.slice none 0 0), 1, 24) := by kernel_rfl
theorem made_lines (n : Nat) : (madeCells (Value.slice none 0 0).cells (n * 1)).toList = List.replicate n (.slice none 0 0) := by
  apply List.ext_getElem
  · simp [madeCells]
  · intro i h1 h2
    simp [madeCells, Value.cells, Nat.mod_one]
theorem begin_lines {W : World} {base g n : Nat} (h : W.ownsRow base 57 1 (.slice (some ⟨g, 0, none⟩) n n) n (List.replicate n (.slice none 0 0))) (hg : g < W.heap.size) : LinesAt W (some ⟨g, 0, none⟩) (List.replicate n []) := by
  refine .inr ⟨g, 0, rfl, hg, fun i hi => ⟨none, 0, ?_, ?_, Nat.zero_le _, fun _ => rfl, .inl ?_⟩⟩
  · have hi' : i < n := by simpa using hi
    rw [Nat.zero_add, h.cellAt i (by omega), List.getElem?_replicate, if_pos hi']; simp
  · simp
  · simp

set_option maxRecDepth 100000 in
set_option maxHeartbeats 1000000 in
theorem begin_any (p : PlanD) (a1 a2 a3 : Option Addr) (n1 c1 n2 c2 n3 c3 : Nat) (w : World) (hp : PlanAt w a1 a2 a3 n1 n2 n3 p) :
    Calls Try.prog 104 #[.agg #[.slice a1 n1 c1, .slice a2 n2 c2, .slice a3 n3 c3]] w fun e w' => (chkP p = 0 → ∃ g, e = .returned (.tuple #[.agg #[.slice (some ⟨g, 0, none⟩) n2 n2, .slice none 0 0, .slice none 0 0, .int .i64 0, .int .i64 0, .int .i64 0, .int .i64 0, .int .i64 0], .int .i64 0]) ∧ StateAt w' (some ⟨g, 0, none⟩) none none n2 0 0 (beginS n2)) ∧ (chkP p ≠ 0 → e = .returned (.tuple #[.agg #[.slice none 0 0, .slice none 0 0, .slice none 0 0, .int .i64 0, .int .i64 0, .int .i64 0, .int .i64 0, .int .i64 0], .int .i64 (chkP p)])) ∧ Below w.heap.size w w' := by
  obtain ⟨i0, hi, hz0, hz1, hz2⟩ := info_parts Try.infoLine
  obtain ⟨W2, hW2, hBw, hs2, hbx⟩ := ps_boxed w #[.slice a1 n1 c1, .slice a2 n2 c2, .slice a3 n3 c3] #[.slice none 0 0, .slice none 0 0, .slice none 0 0, .int .i64 0, .int .i64 0, .int .i64 0, .int .i64 0, .int .i64 0]
  have HW2 := hidI hW2
  have BX := hidI hbx
  have HP := hidI (hp.keep hBw)
  have s0 := hBw.size
  have HL2 : Hid (p.queues.length = n2) := hp.l2
  obtain ⟨D, hD⟩ : ∃ D : Int, D = chkP p := ⟨_, rfl⟩
  rw [← hD]
  have HD := hidI hD
  obtain ⟨x0, x1, x2⟩ := pl_cells (hbx W2 (Below.refl _ _)).1
  have HS2 : Hid (W2.heap.size = w.heap.size + 2) := hs2
  clear hW2 hbx hs2 hp hD
  go_enter Try.func104, Try.ntmps104
  go_wp2_with fail
  rw [← HW2.out]
  refine (check_any p _ _ _ _ _ _ _ _ _ _ HP.out.l1 HP.out.l2 HP.out.l3 HP.out.sz HP.out.p1 HP.out.p2 HP.out.p3).mono ?_
  rintro e w1 ⟨rfl, k1⟩
  rw [← HD.out]
  have s1 := k1.size
  clear x0 x1 x2
  obtain ⟨p0, q0⟩ := BX.out w1 k1
  obtain ⟨x0, x1, x2⟩ := pl_cells p0
  obtain ⟨y0, y1, y2, y3, y4, y5, y6, y7⟩ := st_cells q0
  have f0 := free_of_cells q0 0
  have f1 := free_of_cells q0 1
  have f2 := free_of_cells q0 2
  have f3 := free_of_cells q0 3
  have f4 := free_of_cells q0 4
  have f5 := free_of_cells q0 5
  have f6 := free_of_cells q0 6
  have f7 := free_of_cells q0 7
  have HQ0 := hidI q0
  clear p0 q0
  by_cases h0 : D = 0
  · subst h0
    have hn4 : n2 ≤ 4 := by have := (chk_right HD.out.symm).few.2.1; rw [HL2.out] at this; exact this
    go_wp2_with (at_make; refine wpList_make_full _ rfl _ _ 70 rfl W2.heap.size 57 i0 (.slice none 0 0) 1 Try.underlying70 hi hz0 hz1 _ _ _ _ n2 rfl rfl rfl rfl (by rw [hz2]; omega) (by unfold maxLen; omega) s1 ?_; intro w3 hown3 hgrow3; have q3 := (hgrow3.block (w.heap.size + 1) (by have := HS2.out; omega) (by simp)).trans HQ0.out; clear y0 y1 y2 y3 y4 y5 y6 y7 f0 f1 f2 f3 f4 f5 f6 f7; obtain ⟨y0, y1, y2, y3, y4, y5, y6, y7⟩ := st_cells q3; have f0 := free_of_cells q3 0; have f1 := free_of_cells q3 1; have f2 := free_of_cells q3 2; have f3 := free_of_cells q3 3; have f4 := free_of_cells q3 4; have f5 := free_of_cells q3 5; have f6 := free_of_cells q3 6; have f7 := free_of_cells q3 7; have HQ3 := hidI q3; clear q3)
    generalize hW4 : World.setCell (World.setCell (World.setCell (World.setCell (World.setCell (World.setCell (World.setCell (World.setCell w3 _ _) _ _) _ _) _ _) _ _) _ _) _ _) _ _ = W4
    obtain ⟨b4, t4⟩ := store8 HQ3.out hW4
    obtain ⟨z0, z1, z2, z3, z4, z5, z6, z7⟩ := st_cells b4
    have l3 : Below W2.heap.size W2 w3 := k1.grown hgrow3 s1 (fun k e => by cases e)
    have hlt3 : w1.heap.size < w3.heap.size := (hown3.lt _ rfl).2
    have hL : LinesAt w3 (some ⟨w1.heap.size, 0, none⟩) (List.replicate n2 []) := begin_lines (by rw [← made_lines]; exact hown3) hlt3
    have l4 : Below w.heap.size w W4 := (hBw.trans (l3.mono s0)).trans (t4.below (by have := l3.size; omega) (by omega))
    have hL4 : LinesAt W4 (some ⟨w1.heap.size, 0, none⟩) (List.replicate n2 []) := by
      refine .inr ⟨w1.heap.size, 0, rfl, Nat.lt_of_lt_of_le hlt3 t4.size, fun i hi => ⟨none, 0, ?_, by simp, Nat.zero_le _, fun _ => rfl, .inl (by simp)⟩⟩
      have hi' : i < n2 := by simpa using hi
      have hb := t4.block w1.heap.size hlt3 (by have := HS2.out; omega)
      have hc := hown3.cellAt i (by omega)
      rw [made_lines, List.getElem?_replicate, if_pos hi'] at hc
      rw [Nat.zero_add]
      have : W4.cell? ⟨w1.heap.size, i, none⟩ = w3.cell? ⟨w1.heap.size, i, none⟩ := by unfold World.cell?; simp only [hb]
      rw [this, hc]; simp
    exact bodyPost_ret (v := .tuple #[.agg #[.slice (some ⟨w1.heap.size, 0, none⟩) n2 n2, .slice none 0 0, .slice none 0 0, .int .i64 0, .int .i64 0, .int .i64 0, .int .i64 0, .int .i64 0], .int .i64 0]) (by simp [results, Try.results104, go_sem, z0, z1, z2, z3, z4, z5, z6, z7]) rfl ⟨⟨w1.heap.size, rfl, ⟨by simp [beginS], rfl, rfl, by unfold maxLen; omega, by omega, by unfold maxLen; omega, hL4, .inl rfl, .inl rfl⟩⟩, l4⟩
  · have h0' : (D != 0) = true := bne_iff_ne.2 h0
    have H0 := hidI h0
    clear h0
    go_wp2_with fail
    generalize hW4 : World.setCell (World.setCell (World.setCell (World.setCell (World.setCell (World.setCell (World.setCell (World.setCell w1 _ _) _ _) _ _) _ _) _ _) _ _) _ _) _ _ = W4
    obtain ⟨b4, t4⟩ := store8 HQ0.out hW4
    obtain ⟨z0, z1, z2, z3, z4, z5, z6, z7⟩ := st_cells b4
    have l4 : Below w.heap.size w W4 := (hBw.trans (k1.mono s0)).trans (t4.below (by omega) (by omega))
    exact bodyPost_ret (v := .tuple #[.agg #[.slice none 0 0, .slice none 0 0, .slice none 0 0, .int .i64 0, .int .i64 0, .int .i64 0, .int .i64 0, .int .i64 0], .int .i64 D]) (by simp [results, Try.results104, go_sem, z0, z1, z2, z3, z4, z5, z6, z7]) rfl ⟨fun h => absurd h H0.out, fun _ => rfl, l4⟩
end Go.Proofs.Ythhkpgnjpieckaa
