/- state.askSums, askRoom. -/
import Derived.Deep.RegionHeld3
import Derived.Test.YthhkpgnjpieckaaTh
import Derived.Test.YthhkpgnjpieckaaHk
namespace Go.Proofs.Ythhkpgnjpieckaa
set_option linter.unusedVariables false
set_option maxRecDepth 100000
open Go.RowKit Go.Maps

set_option maxRecDepth 100000 in
set_option maxHeartbeats 1000000 in
theorem askSums_any (s : StateD) (b1 b2 b3 : Option Addr) (m1 d1 m2 d2 m3 d3 : Nat) (w : World) (hs : StateAt w b1 b2 b3 m1 m2 m3 s) (hb : (seqsOf s).length ≤ 100000000) (hc : countsOk s = true) :
    Calls Try.prog 103 #[.agg #[.slice b1 m1 d1, .slice b2 m2 d2, .slice b3 m3 d3, .int .i64 s.nextSeq, .int .i64 s.nextTag, .int .i64 s.came, .int .i64 s.acked, .int .i64 s.dropped]] w fun e w' => e = askE (if sumsOk s = true then 0 else 10) ∧ Below w.heap.size w w' := by
  obtain ⟨D, hD⟩ : ∃ D : Int, D = if sumsOk s = true then 0 else 10 := ⟨_, rfl⟩
  rw [← hD]
  have HD := hidI hD
  obtain ⟨W1, hW1, hBw, hs1, hbx⟩ := s_boxed w #[.slice b1 m1 d1, .slice b2 m2 d2, .slice b3 m3 d3, .int .i64 s.nextSeq, .int .i64 s.nextTag, .int .i64 s.came, .int .i64 s.acked, .int .i64 s.dropped]
  have HW1 := hidI hW1
  have BX := hidI hbx
  have HS := hidI (hs.keep hBw)
  have HBD := hidI hb
  have s0 := hBw.size
  obtain ⟨y0, y1, y2, y3, y4, y5, y6, y7⟩ := st_cells (hbx W1 (Below.refl _ _))
  unfold countsOk countOk at hc
  simp only [Bool.and_eq_true, decide_eq_true_eq] at hc
  have HC := hidI hc
  clear hW1 hbx hs1 hs hb hD hc
  go_enter Try.func103, Try.ntmps103
  go_wp2_with fail
  rw [← HW1.out]
  refine (seqs_any s _ _ _ _ _ _ _ _ _ _ HS.out HBD.out).mono ?_
  rintro e w3 ⟨a, c, rfl, -, -, hB3⟩
  obtain ⟨n, hn⟩ : ∃ n, n = (seqsOf s).length := ⟨_, rfl⟩
  rw [← hn] at HBD ⊢
  have hw1 : IntKind.i64.wrap ((n : Int) + s.acked) = (n : Int) + s.acked := by have h1 := HBD.out; have h2 := HC.out; rw [IntKind.wrap_i64]; omega
  have hw2 : IntKind.i64.wrap ((n : Int) + s.acked + s.dropped) = (n : Int) + s.acked + s.dropped := by have h1 := HBD.out; have h2 := HC.out; rw [IntKind.wrap_i64]; omega
  have HSM : Hid (sumsOk s = (decide (s.came = (n : Int) + s.acked + s.dropped) && decide (s.came = s.nextSeq))) := by show sumsOk s = _; unfold sumsOk; rw [hn]
  have s3 := hB3.size
  clear y0 y1 y2 y3 y4 y5 y6 y7 hn
  obtain ⟨y0, y1, y2, y3, y4, y5, y6, y7⟩ := st_cells (BX.out w3 hB3)
  go_wp2_with fail
  by_cases hbad : s.came ≠ (n : Int) + s.acked + s.dropped ∨ s.came ≠ s.nextSeq
  · refine (never_yes 10 [(s.came != (n : Int) + s.acked + s.dropped), (s.came != s.nextSeq)] _ _ (by simp) (bools_newG w3 _ rfl) (by simp; omega)).mono ?_
    rintro e w4 ⟨rfl, hw4⟩
    refine ⟨rfl, ?_, by rw [hw4]; exact hBw.trans ((hB3.alloc s3 _).mono s0)⟩
    rw [HD.out, HSM.out, show (decide (s.came = (n : Int) + s.acked + s.dropped) && decide (s.came = s.nextSeq)) = false by simp; omega]; rfl
  · refine (never_no 10 [(s.came != (n : Int) + s.acked + s.dropped), (s.came != s.nextSeq)] _ _ (by simp) (bools_newG w3 _ rfl) (by simp; omega)).mono ?_
    rintro e w4 ⟨rfl, hw4⟩
    have k4 : Below W1.heap.size W1 w4 := by rw [hw4]; exact hB3.alloc s3 _
    clear hw4
    go_wp2_with fail
    go_end0
    refine ⟨?_, hBw.trans (k4.mono s0)⟩
    rw [HD.out, HSM.out, show (decide (s.came = (n : Int) + s.acked + s.dropped) && decide (s.came = s.nextSeq)) = true by simp; omega]; rfl

theorem QueuesAt.get {W : World} {a : Option Addr} {xs : List QueueD} (h : QueuesAt W a xs) {k : Nat} (hk : k < xs.length) : ∃ g o, a = some ⟨g, o, none⟩ ∧ g < W.heap.size ∧ W.cell? ⟨g, o + k * 3, none⟩ = some (.string xs[k].name) ∧ W.cell? ⟨g, o + k * 3 + 1, none⟩ = some (.int .i64 xs[k].limit) ∧ W.cell? ⟨g, o + k * 3 + 2, none⟩ = some (.int .i64 xs[k].dead) := by
  rcases h with h | ⟨g, o, ha, hg, h⟩
  · rw [h] at hk; simp at hk
  · exact ⟨g, o, ha, hg, h k hk⟩
def roomLk (p : PlanD) (s : StateD) (q : Nat) : Bool := decide (((s.ready.getD q []).length : Int) ≤ (p.queues.getD q ⟨⟨#[]⟩, 0, 0⟩).limit)
def roomTk (s : StateD) (k : Nat) : Bool := decide ((heldN s k : Int) ≤ (s.takers.getD k ⟨0, 0⟩).most)
theorem range_all_yes {f : Nat → Bool} {n : Nat} (h : ∀ i, i < n → f i = true) : (List.range n).all f = true := by
  rw [List.all_eq_true]; intro i hi; exact h i (List.mem_range.1 hi)
theorem range_all_no {f : Nat → Bool} {n k : Nat} (hk : k < n) (h : f k = false) : (List.range n).all f = false :=
  List.all_eq_false.2 ⟨k, List.mem_range.2 hk, by simp [h]⟩

set_option maxRecDepth 100000 in
set_option maxHeartbeats 1000000 in
theorem askRoom_any (p : PlanD) (a1 a2 a3 : Option Addr) (n1 c1 n2 c2 n3 c3 : Nat) (s : StateD) (b1 b2 b3 : Option Addr) (m1 d1 m2 d2 m3 d3 : Nat) (w : World) (hp : PlanAt w a1 a2 a3 n1 n2 n3 p) (hs : StateAt w b1 b2 b3 m1 m2 m3 s) (hm : m1 = n2) :
    Calls Try.prog 102 #[.agg #[.slice a1 n1 c1, .slice a2 n2 c2, .slice a3 n3 c3], .agg #[.slice b1 m1 d1, .slice b2 m2 d2, .slice b3 m3 d3, .int .i64 s.nextSeq, .int .i64 s.nextTag, .int .i64 s.came, .int .i64 s.acked, .int .i64 s.dropped]] w fun e w' => e = askE (if (roomL p s && roomT s) = true then 0 else 3) ∧ Below w.heap.size w w' := by
  obtain ⟨D, hD⟩ : ∃ D : Int, D = if (roomL p s && roomT s) = true then 0 else 3 := ⟨_, rfl⟩
  rw [← hD]
  have HD := hidI hD
  obtain ⟨W2, hW2, hBw, hs2, hbx⟩ := ps_boxed w #[.slice a1 n1 c1, .slice a2 n2 c2, .slice a3 n3 c3] #[.slice b1 m1 d1, .slice b2 m2 d2, .slice b3 m3 d3, .int .i64 s.nextSeq, .int .i64 s.nextTag, .int .i64 s.came, .int .i64 s.acked, .int .i64 s.dropped]
  have HW2 := hidI hW2
  have BX := hidI hbx
  have HS := hidI (hs.keep hBw)
  have HP := hidI (hp.keep hBw)
  have HM1 : Hid (s.ready.length = m1) := hs.l1
  have HM3 : Hid (s.takers.length = m3) := hs.l3
  have HN2 : Hid (p.queues.length = n2) := hp.l2
  have hx1 := hs.x1
  have hx3 := hs.x3
  have HMN := hidI hm
  have s0 := hBw.size
  have hs2' : w.heap.size + 1 < W2.heap.size := by omega
  unfold maxLen at hx1 hx3
  clear hW2 hbx hs hp hs2 hD hm
  obtain ⟨p0, q0⟩ := BX.out W2 (Below.refl _ _)
  obtain ⟨x0, x1, x2⟩ := pl_cells p0
  obtain ⟨y0, y1, y2, y3, y4, y5, y6, y7⟩ := st_cells q0
  clear p0 q0
  go_enter Try.func102, Try.ntmps102
  go_wp2_with fail
  rw [← HW2.out]
  go_loopw [4, 5, 11] (fun _ _ i wr => ∃ k : Nat, k ≤ m1 ∧ i = .int .i64 k ∧ (∀ q, q < k → roomLk p s q = true) ∧ Below W2.heap.size W2 wr) (fun _ _ i _ => m1 - (intOf i).toNat)
  case atStart => exact ⟨0, Nat.zero_le _, rfl, fun q hq => absurd hq (Nat.not_lt_zero _), Below.refl _ _⟩
  case round =>
    obtain ⟨k, hk, rfl, ha, hB⟩ := hrel
    have HA := hidI ha
    have hBs := hB.size
    clear ha x0 x1 x2 y0 y1 y2 y3 y4 y5 y6 y7
    obtain ⟨p0, q0⟩ := BX.out wr hB
    obtain ⟨x0, x1, x2⟩ := pl_cells p0
    obtain ⟨y0, y1, y2, y3, y4, y5, y6, y7⟩ := st_cells q0
    clear p0 q0
    by_cases hlt : k < m1
    · have HLT := hidI hlt
      have hkl : k < s.ready.length := by rw [HM1.out]; exact hlt
      have hkq : k < p.queues.length := by rw [HN2.out, ← HMN.out]; exact hlt
      obtain ⟨g, o, b, c, ha, hg, hl⟩ := (HS.out.q1.keep hB).get hkl
      obtain ⟨g', o', ha', hg', e1, e2, e3⟩ := (HP.out.p2.keep hB).get hkq
      subst ha ha'
      have c1 := hl.cell
      have HRK : Hid (roomLk p s k = decide ((s.ready[k].length : Int) ≤ p.queues[k].limit)) := by
        show roomLk p s k = _
        unfold roomLk
        rw [List.getD_eq_getElem?_getD, List.getD_eq_getElem?_getD, List.getElem?_eq_getElem hkl, List.getElem?_eq_getElem hkq]; rfl
      obtain ⟨n, hn⟩ : ∃ n, n = s.ready[k].length := ⟨_, rfl⟩
      obtain ⟨lim, hlim⟩ : ∃ lim, lim = p.queues[k].limit := ⟨_, rfl⟩
      rw [← hn] at c1 HRK
      rw [← hlim] at e2 HRK
      have j1 : (0 : Int) ≤ (k : Int) := by omega
      have j2 : (k : Int) < m1 := by omega
      have j3 : (k : Int) < n2 := by have := HMN.out; omega
      clear hl hn hlim e1 e3 hkl hkq
      go_wp2_with fail
      by_cases hbad : lim < (n : Int)
      · have HNO : Hid ((roomL p s && roomT s) = false) := by
          show (roomL p s && roomT s) = false
          rw [show roomL p s = false from range_all_no (f := roomLk p s) (by rw [HM1.out]; exact hlt) (by rw [HRK.out]; exact decide_eq_false (by omega))]; rfl
        refine (never_yes 3 [decide (lim < (n : Int))] _ _ (by simp) (bools_newG wr _ rfl) (by simp; omega)).mono ?_
        rintro e w5 ⟨rfl, hw5⟩
        exact ⟨rfl, by rw [HD.out, HNO.out]; rfl, by rw [hw5]; exact hBw.trans ((hB.alloc hBs _).mono s0)⟩
      · refine (never_no 3 [decide (lim < (n : Int))] _ _ (by simp) (bools_newG wr _ rfl) (by simp; omega)).mono ?_
        rintro e w5 ⟨rfl, hw5⟩
        have k5 : Below W2.heap.size W2 w5 := by rw [hw5]; exact hB.alloc hBs _
        have HYK : Hid (roomLk p s k = true) := by show roomLk p s k = true; rw [HRK.out]; exact decide_eq_true (by omega)
        clear hw5
        go_wp2_with fail
        go_roundw
        case rel => exact ⟨k + 1, HLT.out, by have := HLT.out; go_num, fun q hq => by
          by_cases e : q = k
          · rw [e]; exact HYK.out
          · exact HA.out q (by omega), k5⟩
        case measure => have := HLT.out; simp [intOf]; omega
    · have hke : k = m1 := by omega
      subst hke
      have HRL : Hid (roomL p s = true) := by
        show (List.range s.ready.length).all (roomLk p s) = true
        exact range_all_yes (fun i hi => HA.out i (by rw [HM1.out] at hi; exact hi))
      clear hlt hk HA
      go_wp2_with fail
      go_loopw [6, 7, 31] (fun _ _ i wr => ∃ k : Nat, k ≤ m3 ∧ i = .int .i64 k ∧ (∀ q, q < k → roomTk s q = true) ∧ Below W2.heap.size W2 wr) (fun _ _ i _ => m3 - (intOf i).toNat)
      case atStart => exact ⟨0, Nat.zero_le _, rfl, fun q hq => absurd hq (Nat.not_lt_zero _), hB⟩
      case round =>
        clear x0 x1 x2 y0 y1 y2 y3 y4 y5 y6 y7 hB hBs
        obtain ⟨j, hj, rfl, ha, hB⟩ := hrel
        have HA := hidI ha
        have hBs := hB.size
        clear ha
        by_cases hlt : j < m3
        · have HLT := hidI hlt
          have hkl : j < s.takers.length := by rw [HM3.out]; exact hlt
          obtain ⟨g, o, ha, hg, e1, e2⟩ := (HS.out.q3.keep hB).get hkl
          subst ha
          have HRK : Hid (roomTk s j = decide ((heldN s j : Int) ≤ s.takers[j].most)) := by
            show roomTk s j = _
            unfold roomTk
            rw [List.getD_eq_getElem?_getD, List.getElem?_eq_getElem hkl]; rfl
          obtain ⟨t, ht⟩ : ∃ t, t = s.takers[j] := ⟨_, rfl⟩
          rw [← ht] at e1 e2 HRK
          obtain ⟨tq, tm⟩ := t
          dsimp only at e1 e2 HRK
          obtain ⟨p0, q0⟩ := BX.out wr hB
          obtain ⟨y0, y1, y2, y3, y4, y5, y6, y7⟩ := st_cells q0
          have j1 : (0 : Int) ≤ (j : Int) := by omega
          have j2 : (j : Int) < m3 := by omega
          have sk : w.heap.size + 1 < wr.heap.size := by omega
          obtain ⟨W3, hW3⟩ : ∃ W3, W3 = wr.alloc (.cells #[.int .i64 tq, .int .i64 tm] 79) := ⟨_, rfl⟩
          have HW3 := hidI hW3
          have k3 : Below W2.heap.size W2 W3 := by rw [hW3]; exact hB.alloc hBs _
          have b3' : W3.heap[wr.heap.size]? = some (.cells #[.int .i64 tq, .int .i64 tm] 79 (0, 0)) := by rw [hW3]; exact World.alloc_heap_new wr _
          have HB3 := hidI b3'
          have s3 := k3.size
          clear ht p0 q0 hW3 b3'
          go_wp2_with fail
          rw [← HW3.out]
          have SS : Hid (∀ W, Below W3.heap.size W3 W → W.cell? ⟨w.heap.size + 1, 0, none⟩ = some (.slice b1 k d1) ∧ W.cell? ⟨w.heap.size + 1, 1, none⟩ = some (.slice b2 m2 d2) ∧ W.cell? ⟨w.heap.size + 1, 2, none⟩ = some (.slice (some ⟨g, o, none⟩) m3 d3) ∧ W.cell? ⟨w.heap.size + 1, 3, none⟩ = some (.int .i64 s.nextSeq) ∧ W.cell? ⟨w.heap.size + 1, 4, none⟩ = some (.int .i64 s.nextTag) ∧ W.cell? ⟨w.heap.size + 1, 5, none⟩ = some (.int .i64 s.came) ∧ W.cell? ⟨w.heap.size + 1, 6, none⟩ = some (.int .i64 s.acked) ∧ W.cell? ⟨w.heap.size + 1, 7, none⟩ = some (.int .i64 s.dropped) ∧ W.cell? ⟨wr.heap.size, 1, none⟩ = some (.int .i64 tm)) := fun W hW => by
            have x := st_cells (BX.out W (k3.trans (hW.mono s3))).2
            exact ⟨x.1, x.2.1, x.2.2.1, x.2.2.2.1, x.2.2.2.2.1, x.2.2.2.2.2.1, x.2.2.2.2.2.2.1, x.2.2.2.2.2.2.2, cell_of_cells (plan_keep HB3.out hW) 1⟩
          refine wp_region_held_drew (S := fun W => W.cell? ⟨w.heap.size + 1, 0, none⟩ = some (.slice b1 k d1) ∧ W.cell? ⟨w.heap.size + 1, 1, none⟩ = some (.slice b2 m2 d2) ∧ W.cell? ⟨w.heap.size + 1, 2, none⟩ = some (.slice (some ⟨g, o, none⟩) m3 d3) ∧ W.cell? ⟨w.heap.size + 1, 3, none⟩ = some (.int .i64 s.nextSeq) ∧ W.cell? ⟨w.heap.size + 1, 4, none⟩ = some (.int .i64 s.nextTag) ∧ W.cell? ⟨w.heap.size + 1, 5, none⟩ = some (.int .i64 s.came) ∧ W.cell? ⟨w.heap.size + 1, 6, none⟩ = some (.int .i64 s.acked) ∧ W.cell? ⟨w.heap.size + 1, 7, none⟩ = some (.int .i64 s.dropped) ∧ W.cell? ⟨wr.heap.size, 1, none⟩ = some (.int .i64 tm)) (by kernel_rfl) (SS.out _ (Below.refl _ _).drew) (fun hHeld => ?_)
          obtain ⟨W4, hW4⟩ : ∃ W4, W4 = W3.drew := ⟨_, rfl⟩
          have KK : Hid (∀ W, Below W4.heap.size W4 W → Below W3.heap.size W3 W) := fun W hW => by rw [hW4] at hW; exact ⟨hW.os, hW.tape, hW.output, hW.size, hW.block⟩
          rw [← hW4] at hHeld ⊢
          clear hW4 y0 y1 y2 y3 y4 y5 y6 y7 e1 e2
          refine tk 0 ?_
          refine tk 1 ?_
          refine tk 3 ?_
          refine tk 4 ?_
          refine wpAnyH_ready (rs := [2]) (by kernel_rfl) (by simp) ?_
          refine AllReadyH.cons rfl (fun K hK => ?_) AllReadyH.nil
          go_simp
          refine (held_any s _ _ _ _ _ _ _ _ _ (j : Int) _ (HS.out.keep (k3.trans ((KK.out _ (Below.refl _ _)).mono s3)))).mono ?_
          rintro e w5 ⟨rfl, hB5⟩
          obtain ⟨hn, hhn⟩ : ∃ hn, hn = heldN s j := ⟨_, rfl⟩
          rw [← hhn] at HRK ⊢
          refine hK.out _ _ (SS.out _ (KK.out _ hB5)) (fun hH5 => ?_)
          clear hK K hhn
          (try simp only [Act.put, List.getElem_toArray, List.getElem_cons_succ, List.getElem_cons_zero, List.setIfInBounds_toArray, List.set_cons_zero, List.set_cons_succ])
          refine tk 5 ?_
          refine wpAnyH_ready (rs := [6]) (by kernel_rfl) (by simp) ?_
          refine AllReadyH.cons rfl (fun K hK => ?_) AllReadyH.nil
          go_simp
          have HIS := hidI (bools_new w5 [decide (tm < (hn : Int))])
          obtain ⟨w6, hw6⟩ : ∃ w6, w6 = w5.alloc (.cells #[.bool (decide (tm < (hn : Int)))] 4) := ⟨_, rfl⟩
          have l6 : Below W3.heap.size W3 w6 := by rw [hw6]; exact (KK.out _ hB5).alloc (KK.out _ hB5).size _
          have HI6 : Hid (IsBools w6 w5.heap.size 0 [decide (tm < (hn : Int))]) := by show IsBools w6 _ _ _; rw [hw6]; exact HIS.out
          rw [← hw6]
          refine hK.out _ _ (SS.out _ l6) (fun hH6 => ?_)
          clear hK K hw6
          (try simp only [Act.put, List.getElem_toArray, List.getElem_cons_succ, List.getElem_cons_zero, List.setIfInBounds_toArray, List.set_cons_zero, List.set_cons_succ])
          have k6 : Below W2.heap.size W2 w6 := k3.trans (l6.mono s3)
          refine wpAnyH_ready (rs := [7]) (by kernel_rfl) (by simp) ?_
          refine AllReadyH.cons rfl (fun K hK => ?_) AllReadyH.nil
          go_simp
          by_cases hbad : tm < (hn : Int)
          · have HNO : Hid ((roomL p s && roomT s) = false) := by
              show (roomL p s && roomT s) = false
              rw [show roomT s = false from range_all_no (f := roomTk s) (by rw [HM3.out]; exact hlt) (by rw [HRK.out]; exact decide_eq_false (by omega))]; simp
            refine (never_yes 3 [decide (tm < (hn : Int))] _ _ (by simp) HI6.out (by simp; omega)).mono ?_
            rintro e w7 ⟨rfl, hw7⟩
            have k7 : Below W2.heap.size W2 w7 := by rw [hw7]; exact k6
            exact ⟨rfl, by rw [HD.out, HNO.out]; rfl, hBw.trans (k7.mono s0)⟩
          · have HYK : Hid (roomTk s j = true) := by show roomTk s j = true; rw [HRK.out]; exact decide_eq_true (by omega)
            refine (never_no 3 [decide (tm < (hn : Int))] _ _ (by simp) HI6.out (by simp; omega)).mono ?_
            rintro e w7 ⟨rfl, hw7⟩
            have k7 : Below W2.heap.size W2 w7 := by rw [hw7]; exact k6
            refine hK.out _ _ (SS.out _ (by rw [hw7]; exact l6)) (fun hH7 => ?_)
            clear hK K hw7
            refine wpAnyH_done (by kernel_rfl) ?_ _
            go_wp2_with fail
            go_roundw
            case rel => exact ⟨j + 1, HLT.out, by have := HLT.out; go_num, fun q hq => by
              by_cases e : q = j
              · rw [e]; exact HYK.out
              · exact HA.out q (by omega), k7⟩
            case measure => have := HLT.out; simp [intOf]; omega
        · have hke : j = m3 := by omega
          subst hke
          have HRT : Hid (roomT s = true) := by
            show (List.range s.takers.length).all (roomTk s) = true
            exact range_all_yes (fun i hi => HA.out i (by rw [HM3.out] at hi; exact hi))
          clear hlt hj
          go_wp2_with fail
          go_end0
          exact ⟨by rw [HD.out, HRL.out, HRT.out]; rfl, hBw.trans (hB.mono s0)⟩
end Go.Proofs.Ythhkpgnjpieckaa
