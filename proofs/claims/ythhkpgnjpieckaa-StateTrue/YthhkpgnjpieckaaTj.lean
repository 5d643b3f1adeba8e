/- state.Check. -/
import Derived.Test.YthhkpgnjpieckaaTi
namespace Go.Proofs.Ythhkpgnjpieckaa
set_option linter.unusedVariables false
set_option maxRecDepth 100000
open Go.RowKit Go.Maps

theorem itemOk_rng {x : ItemD} (h : itemOk x = true) : 0 ≤ x.seq ∧ x.seq < 1048576 := by
  unfold itemOk itemNums at h; simp at h; omega
theorem lineFrom_len : ∀ {xs : List ItemD} {l : Int}, lineFrom l xs = true → l < 1048576 → (xs.length : Int) + l + 1 ≤ 1048576 ∧ ∀ x ∈ xs, itemOk x = true
  | [], l, _, hl => ⟨by simp; omega, by simp⟩
  | x :: r, l, h, hl => by
    unfold lineFrom at h
    simp only [Bool.and_eq_true, decide_eq_true_eq] at h
    have hq := itemOk_rng h.1.1
    obtain ⟨i1, i2⟩ := lineFrom_len h.2 hq.2
    refine ⟨by simp; omega, fun y hy => ?_⟩
    rcases List.mem_cons.1 hy with rfl | hy
    · exact h.1.1
    · exact i2 y hy
theorem outsFrom_len {ts : List TakerD} {nt : Int} : ∀ {xs : List OutD} {l : Int}, outsFrom ts nt l xs = true → l < nt → (xs.length : Int) + l + 1 ≤ nt ∧ ∀ x ∈ xs, itemOk x.item = true
  | [], l, _, hl => ⟨by simp; omega, by simp⟩
  | x :: r, l, h, hl => by
    unfold outsFrom outOk at h
    simp only [Bool.and_eq_true, decide_eq_true_eq] at h
    obtain ⟨i1, i2⟩ := outsFrom_len h.2 h.1.1.1.1.2
    refine ⟨by simp; have := h.1.1.1.1.1; omega, fun y hy => ?_⟩
    rcases List.mem_cons.1 hy with rfl | hy
    · exact h.1.2
    · exact i2 y hy
theorem flat_len : ∀ {xss : List (List ItemD)}, (∀ l ∈ xss, lineOk l = true) → (xss.flatMap (fun l => l.map ItemD.seq)).length ≤ xss.length * 1048576 ∧ ∀ z ∈ xss.flatMap (fun l => l.map ItemD.seq), 0 ≤ z ∧ z < 1048576
  | [], _ => by simp
  | l :: r, h => by
    obtain ⟨i1, i2⟩ := flat_len (xss := r) (fun x hx => h x (List.mem_cons_of_mem _ hx))
    obtain ⟨j1, j2⟩ := lineFrom_len (l := -1) (h l List.mem_cons_self) (by omega)
    rw [List.flatMap_cons]
    refine ⟨by rw [List.length_append, List.length_map, List.length_cons]; omega, fun z hz => ?_⟩
    rcases List.mem_append.1 hz with hz | hz
    · obtain ⟨x, hx, rfl⟩ := List.mem_map.1 hz; exact itemOk_rng (j2 x hx)
    · exact i2 z hz
theorem seqs_bound {p : PlanD} {s : StateD} (hr : RightP p) (h1 : linesOk p.queues.length s.ready = true) (h2 : outsFrom s.takers s.nextTag (-1) s.outs = true) (h3 : countsOk s = true) : (seqsOf s).length ≤ 100000000 ∧ (∀ z ∈ seqsOf s, 0 ≤ z ∧ z < 1048576) ∧ (s.outs.length : Int) ≤ 1048576 := by
  unfold linesOk at h1
  simp only [Bool.and_eq_true, decide_eq_true_eq, List.all_eq_true] at h1
  obtain ⟨i1, i2⟩ := flat_len h1.2
  unfold countsOk countOk at h3
  simp only [Bool.and_eq_true, decide_eq_true_eq] at h3
  obtain ⟨j1, j2⟩ := outsFrom_len h2 (by omega)
  have h4 := hr.few.2.1
  refine ⟨?_, fun z hz => ?_, by omega⟩
  · unfold seqsOf; rw [List.length_append, List.length_map]; rw [h1.1] at i1; omega
  · unfold seqsOf at hz
    rcases List.mem_append.1 hz with hz | hz
    · exact i2 z hz
    · obtain ⟨x, hx, rfl⟩ := List.mem_map.1 hz; exact itemOk_rng (j2 x hx)

/-- A call that may leave: on it goes, or it is left. -/
theorem stE_plan {p : PlanD} {s : StateD} (h : chkP p ≠ 0) : stE p s = chkP p := if_pos h
set_option maxRecDepth 100000 in
set_option maxHeartbeats 1000000 in
theorem check1_any (p : PlanD) (a1 a2 a3 : Option Addr) (n1 c1 n2 c2 n3 c3 : Nat) (s : StateD) (b1 b2 b3 : Option Addr) (m1 d1 m2 d2 m3 d3 : Nat) (B1 B2 : Nat) (w : World) (hp : PlanAt w a1 a2 a3 n1 n2 n3 p) (hs : StateAt w b1 b2 b3 m1 m2 m3 s) (h1 : w.heap[B1]? = some (.cells #[.slice a1 n1 c1, .slice a2 n2 c2, .slice a3 n3 c3] 40 (0, 0))) (h2 : w.heap[B2]? = some (.cells #[.slice b1 m1 d1, .slice b2 m2 d2, .slice b3 m3 d3, .int .i64 s.nextSeq, .int .i64 s.nextTag, .int .i64 s.came, .int .i64 s.acked, .int .i64 s.dropped] 74 (0, 0))) :
    Calls Try.prog 94 #[.pointer (some ⟨B1, 0, none⟩), .pointer (some ⟨B2, 0, none⟩)] w fun e w' => e = askE (stE p s) ∧ Below w.heap.size w w' := by
  obtain ⟨D, hD⟩ : ∃ D : Int, D = stE p s := ⟨_, rfl⟩
  rw [← hD]
  have HD := hidI hD
  have HP := hidI hp
  have HS := hidI hs
  have BX : Hid (∀ W, Below w.heap.size w W → W.heap[B1]? = some (.cells #[.slice a1 n1 c1, .slice a2 n2 c2, .slice a3 n3 c3] 40 (0, 0)) ∧ W.heap[B2]? = some (.cells #[.slice b1 m1 d1, .slice b2 m2 d2, .slice b3 m3 d3, .int .i64 s.nextSeq, .int .i64 s.nextTag, .int .i64 s.came, .int .i64 s.acked, .int .i64 s.dropped] 74 (0, 0))) := fun W hW => ⟨plan_keep h1 hW, plan_keep h2 hW⟩
  have HM3 : Hid (s.takers.length = m3) := hs.l3
  have HN2 : Hid (p.queues.length = n2) := hp.l2
  have HM1 : Hid (s.ready.length = m1) := hs.l1
  clear hD hp hs h1 h2
  obtain ⟨x0, x1, x2⟩ := pl_cells (BX.out w (Below.refl _ _)).1
  go_enter Try.func94, Try.ntmps94
  go_wp2_with fail
  refine (check_any p _ _ _ _ _ _ _ _ _ _ HP.out.l1 HP.out.l2 HP.out.l3 HP.out.sz HP.out.p1 HP.out.p2 HP.out.p3).mono ?_
  rintro e w1 ⟨rfl, k1⟩
  have s1 := k1.size
  obtain ⟨d0, hd0⟩ : ∃ d0, d0 = chkP p := ⟨_, rfl⟩
  rw [← hd0]
  have HD0 := hidI hd0
  have k1' := k1.alloc s1 (.cells #[.int .i64 d0] 23)
  have s1' := k1'.size
  clear hd0 x0 x1 x2
  by_cases hz0 : d0 = 0
  · subst hz0
    have HR : Hid (RightP p) := chk_right HD0.out.symm
    go_wp2_with (go_at_call 95; refine (ok_no _ _ (one_new _ _ _) (by simp)).mono ?_; rintro e w2 ⟨rfl, hB2⟩; have k2 := k1'.trans (hB2.mono s1'); obtain ⟨y0, y1, y2, y3, y4, y5, y6, y7⟩ := st_cells (BX.out w2 k2).2)
    have s2 := k2.size
    clear hB2
    by_cases hm : 4 < m3
    · refine (never_yes 2 [decide ((4 : Int) < (m3 : Int))] _ _ (by simp) (bools_newG w2 _ rfl) (by simp; omega)).mono ?_
      rintro e w3 ⟨rfl, hw3⟩
      refine ⟨rfl, ?_, by rw [hw3]; exact k2.alloc s2 _⟩
      rw [HD.out]; unfold stE
      rw [if_neg (by rw [← HD0.out]; simp), if_pos (by rw [HM3.out]; exact hm)]; rfl
    · refine (never_no 2 [decide ((4 : Int) < (m3 : Int))] _ _ (by simp) (bools_newG w2 _ rfl) (by simp; omega)).mono ?_
      rintro e w3 ⟨rfl, hw3⟩
      have HST : Hid (stE p s = if formedB p s = false then 1 else if (roomL p s && roomT s) = false then 3 else if sumsOk s = false then 10 else 0) := by
        show stE p s = _
        unfold stE
        rw [if_neg (by rw [← HD0.out]; simp), if_neg (by rw [HM3.out]; exact hm)]
      have HFO : Hid (formedB p s = (linesOk n2 s.ready && s.takers.all (takerOk n2) && outsFrom s.takers s.nextTag (-1) s.outs && countsOk s && seqsOk s)) := by show formedB p s = _; unfold formedB; rw [HN2.out]
      have HF1 : Hid (formedB p s = false → askE D = .panicked [{ v := .iface 23 (.int .i64 1), recovered := false }]) := fun h => by
        show askE D = _
        rw [HD.out, HST.out, if_pos h]; rfl
      have k3 : Below w.heap.size w w3 := by rw [hw3]; exact k2.alloc s2 _
      have s3 := k3.size
      clear hw3 hm y0 y1 y2 y3 y4 y5 y6 y7
      obtain ⟨x0, x1, x2⟩ := pl_cells (BX.out w3 k3).1
      obtain ⟨y0, y1, y2, y3, y4, y5, y6, y7⟩ := st_cells (BX.out w3 k3).2
      go_wp2_with fail
      refine (askLines_any p _ _ _ _ _ _ _ _ _ s _ _ _ _ _ _ _ _ _ _ (HP.out.keep k3) (HS.out.keep k3)).mono ?_
      rintro e w4 ⟨he4, hB4⟩
      have k4 := k3.trans (hB4.mono s3)
      have s4 := k4.size
      clear hB4 x0 x1 x2 y0 y1 y2 y3 y4 y5 y6 y7
      by_cases g1 : linesOk n2 s.ready = true
      · rw [if_pos g1, askE_ok] at he4
        subst he4
        unfold okE
        have G1 := hidI g1
        clear g1
        obtain ⟨x0, x1, x2⟩ := pl_cells (BX.out w4 k4).1
        obtain ⟨y0, y1, y2, y3, y4, y5, y6, y7⟩ := st_cells (BX.out w4 k4).2
        go_wp2_with fail
        refine (askTakers_any p _ _ _ _ _ _ _ _ _ s _ _ _ _ _ _ _ _ _ _ (HS.out.keep k4)).mono ?_
        rintro e w5 ⟨he5, hB5⟩
        have k5 := k4.trans (hB5.mono s4)
        have s5 := k5.size
        clear hB5 x0 x1 x2 y0 y1 y2 y3 y4 y5 y6 y7
        by_cases g2 : s.takers.all (takerOk n2) = true
        · rw [if_pos g2, askE_ok] at he5
          subst he5
          unfold okE
          have G2 := hidI g2
          clear g2
          obtain ⟨y0, y1, y2, y3, y4, y5, y6, y7⟩ := st_cells (BX.out w5 k5).2
          go_wp2_with fail
          refine (askOuts_any s _ _ _ _ _ _ _ _ _ _ (HS.out.keep k5)).mono ?_
          rintro e w6 ⟨he6, hB6⟩
          have k6 := k5.trans (hB6.mono s5)
          have s6 := k6.size
          clear hB6 y0 y1 y2 y3 y4 y5 y6 y7
          by_cases g3 : outsFrom s.takers s.nextTag (-1) s.outs = true
          · rw [if_pos g3, askE_ok] at he6
            subst he6
            unfold okE
            have G3 := hidI g3
            clear g3
            obtain ⟨y0, y1, y2, y3, y4, y5, y6, y7⟩ := st_cells (BX.out w6 k6).2
            go_wp2_with fail
            refine (askCounts_any s _ _ _ _ _ _ _ _ _ _).mono ?_
            rintro e w7 ⟨he7, hB7⟩
            have k7 := k6.trans (hB7.mono s6)
            have s7 := k7.size
            clear hB7 y0 y1 y2 y3 y4 y5 y6 y7
            by_cases g4 : countsOk s = true
            · rw [if_pos g4, askE_ok] at he7
              subst he7
              unfold okE
              have G4 := hidI g4
              have HBD := hidI (seqs_bound HR.out (by rw [HN2.out]; exact G1.out) G3.out g4)
              clear g4
              obtain ⟨y0, y1, y2, y3, y4, y5, y6, y7⟩ := st_cells (BX.out w7 k7).2
              go_wp2_with fail
              refine (askSeqs_any s _ _ _ _ _ _ _ _ _ _ (HS.out.keep k7) HBD.out.1 HBD.out.2.1).mono ?_
              rintro e w8 ⟨he8, hB8⟩
              have k8 := k7.trans (hB8.mono s7)
              have s8 := k8.size
              clear hB8 y0 y1 y2 y3 y4 y5 y6 y7
              by_cases g5 : seqsOk s = true
              · rw [if_pos g5, askE_ok] at he8
                subst he8
                unfold okE
                have HF2 : Hid (formedB p s = true) := by show formedB p s = true; rw [HFO.out, G1.out, G2.out, G3.out, G4.out, g5]; rfl
                clear g5
                obtain ⟨x0, x1, x2⟩ := pl_cells (BX.out w8 k8).1
                obtain ⟨y0, y1, y2, y3, y4, y5, y6, y7⟩ := st_cells (BX.out w8 k8).2
                have HMN : Hid (m1 = n2) := by
                  have := G1.out; unfold linesOk at this; simp only [Bool.and_eq_true, decide_eq_true_eq] at this
                  exact HM1.out.symm.trans this.1
                go_wp2_with fail
                refine (askRoom_any p _ _ _ _ _ _ _ _ _ s _ _ _ _ _ _ _ _ _ _ (HP.out.keep k8) (HS.out.keep k8) HMN.out).mono ?_
                rintro e w9 ⟨he9, hB9⟩
                have k9 := k8.trans (hB9.mono s8)
                have s9 := k9.size
                clear hB9 x0 x1 x2 y0 y1 y2 y3 y4 y5 y6 y7
                by_cases g6 : (roomL p s && roomT s) = true
                · rw [if_pos g6, askE_ok] at he9
                  subst he9
                  unfold okE
                  have G6 := hidI g6
                  clear g6
                  obtain ⟨y0, y1, y2, y3, y4, y5, y6, y7⟩ := st_cells (BX.out w9 k9).2
                  go_wp2_with fail
                  refine (askSums_any s _ _ _ _ _ _ _ _ _ _ (HS.out.keep k9) HBD.out.1 G4.out).mono ?_
                  rintro e w10 ⟨he10, hB10⟩
                  have k10 := k9.trans (hB10.mono s9)
                  clear hB10 y0 y1 y2 y3 y4 y5 y6 y7
                  by_cases g7 : sumsOk s = true
                  · rw [if_pos g7, askE_ok] at he10
                    subst he10
                    unfold okE
                    have HDZ : Hid (D = 0) := by show D = 0; rw [HD.out, HST.out, HF2.out, G6.out, g7]; rfl
                    clear g7
                    go_wp2_with fail
                    go_end0
                    exact ⟨by rw [HDZ.out]; rfl, k10⟩
                  · rw [if_neg g7] at he10
                    subst he10
                    refine ⟨rfl, ?_, k10⟩
                    rw [HD.out, HST.out, HF2.out, G6.out, if_neg (by decide), if_neg (by decide), if_pos (by simpa using g7)]; rfl
                · rw [if_neg g6] at he9
                  subst he9
                  refine ⟨rfl, ?_, k9⟩
                  rw [HD.out, HST.out, HF2.out, if_neg (by decide), if_pos (by simpa using g6)]; rfl
              · rw [if_neg g5] at he8
                subst he8
                exact ⟨rfl, (HF1.out (by rw [HFO.out, show seqsOk s = false by simpa using g5]; simp)).symm, k8⟩
            · rw [if_neg g4] at he7
              subst he7
              exact ⟨rfl, (HF1.out (by rw [HFO.out, show countsOk s = false by simpa using g4]; simp)).symm, k7⟩
          · rw [if_neg g3] at he6
            subst he6
            exact ⟨rfl, (HF1.out (by rw [HFO.out, show outsFrom s.takers s.nextTag (-1) s.outs = false by simpa using g3]; simp)).symm, k6⟩
        · rw [if_neg g2] at he5
          subst he5
          exact ⟨rfl, (HF1.out (by rw [HFO.out, show s.takers.all (takerOk n2) = false by simpa using g2]; simp)).symm, k5⟩
      · rw [if_neg g1] at he4
        subst he4
        exact ⟨rfl, (HF1.out (by rw [HFO.out, show linesOk n2 s.ready = false by simpa using g1]; simp)).symm, k4⟩
  · have HZ0 := hidI hz0
    go_wp2_with (go_at_call 95; refine (ok_yes d0 _ _ (one_new _ _ _) (by simp) HZ0.out).mono ?_; rintro e w2 ⟨rfl, hB2⟩)
    refine ⟨rfl, ?_, k1'.trans (hB2.mono s1')⟩
    rw [HD.out, stE_plan (by rw [← HD0.out]; exact HZ0.out), ← HD0.out, askE_pan HZ0.out]; rfl

set_option maxRecDepth 100000 in
set_option maxHeartbeats 1000000 in
theorem scheck_any (p : PlanD) (a1 a2 a3 : Option Addr) (n1 c1 n2 c2 n3 c3 : Nat) (s : StateD) (b1 b2 b3 : Option Addr) (m1 d1 m2 d2 m3 d3 : Nat) (w : World) (hp : PlanAt w a1 a2 a3 n1 n2 n3 p) (hs : StateAt w b1 b2 b3 m1 m2 m3 s) :
    Calls Try.prog 50 #[.agg #[.slice a1 n1 c1, .slice a2 n2 c2, .slice a3 n3 c3], .agg #[.slice b1 m1 d1, .slice b2 m2 d2, .slice b3 m3 d3, .int .i64 s.nextSeq, .int .i64 s.nextTag, .int .i64 s.came, .int .i64 s.acked, .int .i64 s.dropped]] w fun e w' => e = .returned (.int .i64 (stE p s)) ∧ Below w.heap.size w w' := by
  obtain ⟨D, hD⟩ : ∃ D : Int, D = stE p s := ⟨_, rfl⟩
  rw [← hD]
  have HD := hidI hD
  obtain ⟨W2, hW2, hBw, hs2, hbx⟩ := ps_boxed w #[.slice a1 n1 c1, .slice a2 n2 c2, .slice a3 n3 c3] #[.slice b1 m1 d1, .slice b2 m2 d2, .slice b3 m3 d3, .int .i64 s.nextSeq, .int .i64 s.nextTag, .int .i64 s.came, .int .i64 s.acked, .int .i64 s.dropped]
  have HW2 := hidI hW2
  have s0 := hBw.size
  have hmf : ∀ (fn : Fn) (first cap : Array Value) (w : World), (Instr.makeFunc fn first cap).run Try.prog w = .ok (.func fn first cap) w := fun _ _ _ _ => rfl
  have l3 : Below W2.heap.size W2 (W2.alloc (.cells #[.int .i64 0] 23)) := (Below.refl _ _).alloc (Nat.le_refl _) _
  have HDO := hidI (check1_any p a1 a2 a3 n1 c1 n2 c2 n3 c3 s b1 b2 b3 m1 d1 m2 d2 m3 d3 w.heap.size (w.heap.size + 1) (W2.alloc (.cells #[.int .i64 0] 23)) ((hp.keep hBw).keep l3) ((hs.keep hBw).keep l3) (hbx _ l3).1 (hbx _ l3).2)
  rw [← hD, World.size_alloc] at HDO
  clear hW2 hbx hs2 hp hs hD
  go_enter Try.func50, Try.ntmps50
  go_wp2_with fail
  rw [← HW2.out]
  refine (tried_check w.heap.size (w.heap.size + 1) D W2 HDO.out).mono ?_
  rintro e w3 ⟨rfl, hB3⟩
  go_wp2_with fail
  go_ret
  exact ⟨rfl, hBw.trans (hB3.mono s0)⟩
end Go.Proofs.Ythhkpgnjpieckaa
