/- The walk of the law StateTrue. -/
import Derived.Test.YthhkpgnjpieckaaTo
import Derived.Test.YthhkpgnjpieckaaTm
namespace Go.Proofs.Ythhkpgnjpieckaa
set_option linter.unusedVariables false
set_option maxRecDepth 100000
open Go.RowKit Go.Maps

set_option maxRecDepth 100000 in
set_option maxHeartbeats 1000000 in
theorem walk_StateTrue (p : PlanD) (a1 a2 a3 : Option Addr) (n1 c1 n2 c2 n3 c3 : Nat) (s : StateD) (b1 b2 b3 : Option Addr) (m1 d1 m2 d2 m3 d3 : Nat) (w : World) (hp : PlanAt w a1 a2 a3 n1 n2 n3 p) (hs : StateAt w b1 b2 b3 m1 m2 m3 s) :
    Calls Try.prog 16 #[.agg #[.slice a1 n1 c1, .slice a2 n2 c2, .slice a3 n3 c3], .agg #[.slice b1 m1 d1, .slice b2 m2 d2, .slice b3 m3 d3, .int .i64 s.nextSeq, .int .i64 s.nextTag, .int .i64 s.came, .int .i64 s.acked, .int .i64 s.dropped]] w fun e w' => e = .returned (.bool true) ∧ Below w.heap.size w w' := by
  obtain ⟨W2, hW2, hBw, hs2, hbx⟩ := ps_boxed w #[.slice a1 n1 c1, .slice a2 n2 c2, .slice a3 n3 c3] #[.slice b1 m1 d1, .slice b2 m2 d2, .slice b3 m3 d3, .int .i64 s.nextSeq, .int .i64 s.nextTag, .int .i64 s.came, .int .i64 s.acked, .int .i64 s.dropped]
  have HW2 := hidI hW2
  have BX := hidI hbx
  have HS := hidI (hs.keep hBw)
  have HP := hidI (hp.keep hBw)
  have HM1 : Hid (s.ready.length = m1) := hs.l1
  have HM2 : Hid (s.outs.length = m2) := hs.l2
  have HM3 : Hid (s.takers.length = m3) := hs.l3
  have HN2 : Hid (p.queues.length = n2) := hp.l2
  have s0 := hBw.size
  obtain ⟨x0, x1, x2⟩ := pl_cells (hbx W2 (Below.refl _ _)).1
  obtain ⟨y0, y1, y2, y3, y4, y5, y6, y7⟩ := st_cells (hbx W2 (Below.refl _ _)).2
  clear hW2 hbx hs2 hp hs
  go_enter Try.func16, Try.ntmps16
  go_wp2_with fail
  rw [← HW2.out]
  refine (scheck_any p _ _ _ _ _ _ _ _ _ s _ _ _ _ _ _ _ _ _ _ HP.out HS.out).mono ?_
  rintro e w3 ⟨rfl, k3⟩
  obtain ⟨E, hE⟩ : ∃ E : Int, E = stE p s := ⟨_, rfl⟩
  rw [← hE]
  have HE := hidI hE
  have s3 := k3.size
  clear hE x0 x1 x2 y0 y1 y2 y3 y4 y5 y6 y7
  by_cases h0 : E = 0
  · subst h0
    obtain ⟨g1, g2, g3, g4, g5, g6, g7, g8, g9, g10⟩ := stE_zero HE.out.symm
    have HBD := hidI (seqs_bound (chk_right g1) g3 g5 g6)
    have hx1 : m1 ≤ 4 := by
      have := g3; unfold linesOk at this; simp only [Bool.and_eq_true, decide_eq_true_eq] at this
      have h4 := (chk_right g1).few.2.1
      rw [← HM1.out]; omega
    have hx3 : m3 ≤ 4 := by rw [← HM3.out]; exact g2
    have HG := hidI (And.intro g5 g9)
    have HT : Hid (s.came = ((seqsOf s).length : Int) + s.acked + s.dropped) := by
      have := g10; unfold sumsOk at this; simp only [Bool.and_eq_true, decide_eq_true_eq] at this; exact this.1
    unfold countsOk countOk at g6
    simp only [Bool.and_eq_true, decide_eq_true_eq] at g6
    have HC := hidI g6
    obtain ⟨T, hT⟩ : ∃ T, T = (s.ready.flatMap (fun l => l.map ItemD.seq)).length := ⟨_, rfl⟩
    have HTT := hidI hT
    have HQ : Hid ((seqsOf s).length = T + m2) := by show (seqsOf s).length = _; unfold seqsOf; rw [List.length_append, List.length_map, HM2.out, hT]
    have hTb : T ≤ 100000000 := by have := HBD.out.1; rw [HQ.out] at this; omega
    have hm2 : m2 ≤ 1048576 := by have := HBD.out.2.2; rw [HM2.out] at this; omega
    clear g1 g2 g3 g4 g5 g6 g7 g8 g9 g10 hT
    obtain ⟨y0, y1, y2, y3, y4, y5, y6, y7⟩ := st_cells (BX.out w3 k3).2
    go_wp2_with fail
    go_loopw [5, 7] (fun u i wr => ∃ (k a : Nat), k ≤ m1 ∧ i = .int .i64 k ∧ u = .int .i64 a ∧ a + ((s.ready.drop k).flatMap (fun l => l.map ItemD.seq)).length = T ∧ wr = w3) (fun _ i _ => m1 - (intOf i).toNat)
    case atStart => exact ⟨0, 0, Nat.zero_le _, rfl, rfl, by rw [HTT.out]; simp, rfl⟩
    case round =>
      obtain ⟨k, a, hk, rfl, rfl, ha, rfl⟩ := hrel
      have HA := hidI ha
      have haT : a ≤ 100000000 := by omega
      clear ha
      by_cases hlt : k < m1
      · have HLT := hidI hlt
        have hkl : k < s.ready.length := by rw [HM1.out]; exact hlt
        obtain ⟨g, o, b, c, ha, hg, hl⟩ := (HS.out.q1.keep k3).get hkl
        have hdr : s.ready.drop k = s.ready[k] :: s.ready.drop (k + 1) := List.drop_eq_getElem_cons hkl
        subst ha
        have e1 := hl.cell
        have HSTEP : Hid (a + s.ready[k].length + ((s.ready.drop (k + 1)).flatMap (fun l => l.map ItemD.seq)).length = T) := by
          show a + s.ready[k].length + _ = T
          have := HA.out
          rw [hdr, List.flatMap_cons, List.length_append, List.length_map] at this; omega
        obtain ⟨n, hn⟩ : ∃ n, n = s.ready[k].length := ⟨_, rfl⟩
        rw [← hn] at e1 HSTEP
        have hnb : n ≤ 100000000 := by have := HSTEP.out; omega
        have hw : IntKind.i64.wrap ((a : Int) + n) = ((a + n : Nat) : Int) := by rw [IntKind.wrap_i64]; omega
        have j1 : (0 : Int) ≤ (k : Int) := by omega
        have j2 : (k : Int) < m1 := by omega
        clear hl hdr hn
        go_wp2_with fail
        go_roundw
        case rel => exact ⟨k + 1, a + n, HLT.out, by have := HLT.out; go_num, by go_num, HSTEP.out, by first | trivial | rfl⟩
        case measure => have := HLT.out; simp [intOf]; omega
      · have hke : k = m1 := by omega
        subst hke
        have haT2 : a = T := by
          have := HA.out
          rw [List.drop_eq_nil_of_le (by rw [HM1.out]; exact Nat.le_refl _)] at this
          simpa using this
        subst haT2
        clear hlt hk HA
        go_wp2_with fail
        go_loopw [6, 8, 9, 10] (fun u i _ _ wr => ∃ (j : Nat), j ≤ m3 ∧ i = .int .i64 j ∧ u = .int .i64 (sumH s j : Nat) ∧ Below W2.heap.size W2 wr) (fun _ i _ _ _ => m3 - (intOf i).toNat)
        case atStart => exact ⟨0, Nat.zero_le _, rfl, rfl, k3⟩
        case round =>
          clear y0 y1 y2 y3 y4 y5 y6 y7
          obtain ⟨j, hj, rfl, rfl, hB⟩ := hrel
          have hBs := hB.size
          have HB := hidI hB
          have hsl : sumH s j ≤ 1048576 := by have := sumH_le s j; rw [HM2.out] at this; omega
          obtain ⟨x0, x1, x2⟩ := pl_cells (BX.out wr hB).1
          obtain ⟨y0, y1, y2, y3, y4, y5, y6, y7⟩ := st_cells (BX.out wr hB).2
          by_cases hjl : j < m3
          · have HJL := hidI hjl
            have hkl : j < s.takers.length := by rw [HM3.out]; exact hjl
            have HHE : Hid (hdE p s (j : Int) = 0) := by show hdE p s (j : Int) = 0; unfold hdE; rw [if_pos HE.out.symm, if_pos (isNum_iff.2 ⟨by omega, by omega⟩)]
            have HHN : Hid (hdN p s (j : Int) = (heldN s (j : Int) : Int)) := by show hdN p s (j : Int) = _; unfold hdN; rw [if_pos HHE.out]
            go_wp2_with fail
            refine (sheld_any p _ _ _ _ _ _ _ _ _ s _ _ _ _ _ _ _ _ _ (j : Int) _ (HP.out.keep hB) (HS.out.keep hB)).mono ?_
            rintro e w5 ⟨rfl, hB5⟩
            rw [HHE.out, HHN.out]
            have k5 : Below W2.heap.size W2 w5 := HB.out.trans (hB5.mono hBs)
            obtain ⟨g, o, ha, hg, e1, e2⟩ := (HS.out.q3.keep k5).get hkl
            subst ha
            have hrm := room_at HG.out.2 hkl
            have HGN := hidI (fun h => held_gone HG.out.1 hkl h)
            obtain ⟨t, ht⟩ : ∃ t, t = s.takers[j] := ⟨_, rfl⟩
            rw [← ht] at e1 e2 hrm HGN
            obtain ⟨tq, tm⟩ := t
            dsimp only at e1 e2 hrm HGN
            have hhl : heldN s (j : Int) ≤ 1048576 := by have := held_le s (j : Int); rw [HM2.out] at this; omega
            have HSU : Hid (sumH s (j + 1) = sumH s j + heldN s (j : Int)) := rfl
            obtain ⟨n, hn⟩ : ∃ n, n = heldN s (j : Int) := ⟨_, rfl⟩
            rw [← hn] at hrm hhl HSU ⊢
            have HGN2 : Hid (tq = -1 → n = 0) := fun h => by rw [hn]; exact HGN.out h
            obtain ⟨S, hS⟩ : ∃ S, S = sumH s j := ⟨_, rfl⟩
            rw [← hS] at hsl HSU ⊢
            have hw : IntKind.i64.wrap ((S : Int) + n) = ((S + n : Nat) : Int) := by rw [IntKind.wrap_i64]; omega
            clear x0 x1 x2 y0 y1 y2 y3 y4 y5 y6 y7 hB hB5 ht hn hS
            obtain ⟨y0, y1, y2, y3, y4, y5, y6, y7⟩ := st_cells (BX.out w5 k5).2
            have j1 : (0 : Int) ≤ (j : Int) := by omega
            have j2 : (j : Int) < m3 := by omega
            have hnt : ¬ tm < (n : Int) := by omega
            by_cases hq : tq = -1
            · have hn0 : n = 0 := HGN2.out hq
              subst hn0
              have hq' : (tq == -1) = true := by simpa using hq
              have h00 : ¬ ((0 : Int) < 0) := by omega
              clear hq
              go_wp2_with fail
              go_roundw
              case rel => exact ⟨j + 1, HJL.out, by have := HJL.out; go_num, by rw [HSU.out]; go_num, k5⟩
              case measure => have := HJL.out; simp [intOf]; omega
            · have hq' : (tq == -1) = false := by simpa using hq
              clear hq
              go_wp2_with fail
              go_roundw
              case rel => exact ⟨j + 1, HJL.out, by have := HJL.out; go_num, by rw [HSU.out]; go_num, k5⟩
              case measure => have := HJL.out; simp [intOf]; omega
          · have hje : j = m3 := by omega
            subst hje
            have hsm : sumH s j = m2 := by have := sumH_all HG.out.1; rw [HM3.out, HM2.out] at this; exact this
            rw [hsm]
            have hw1 : IntKind.i64.wrap ((a : Int) + m2) = (a : Int) + m2 := by rw [IntKind.wrap_i64]; omega
            have hw2 : IntKind.i64.wrap ((a : Int) + m2 + s.acked) = (a : Int) + m2 + s.acked := by have := HC.out; rw [IntKind.wrap_i64]; omega
            have hw3 : IntKind.i64.wrap ((a : Int) + m2 + s.acked + s.dropped) = (a : Int) + m2 + s.acked + s.dropped := by have := HC.out; rw [IntKind.wrap_i64]; omega
            have hcm : (s.came == (a : Int) + m2 + s.acked + s.dropped) = true := by
              have := HT.out; rw [HQ.out] at this; simp; omega
            have hmm : ((m2 : Int) == (m2 : Int)) = true := by simp
            clear hsm hsl hjl hj x0 x1 x2 y0 y1 y2 y3 y4 y5 y6 y7
            obtain ⟨z0, z1, z2, z3, z4, z5, z6, z7⟩ := st_cells (BX.out wr hB).2
            go_wp2_with fail
            refine (stateBegun_any _).mono ?_
            rintro e w6 ⟨rfl, hB6⟩
            have k6 : Below W2.heap.size W2 w6 := HB.out.trans (hB6.mono hBs)
            clear z0 z1 z2 z3 z4 z5 z6 z7
            obtain ⟨z0, z1, z2, z3, z4, z5, z6, z7⟩ := st_cells (BX.out w6 k6).2
            go_wp2_with fail
            go_ret
            exact ⟨rfl, hBw.trans (k6.mono s0)⟩
  · have h0' : (E != 0) = true := bne_iff_ne.2 h0
    go_wp2_with fail
    refine (stateBegun_any _).mono ?_
    rintro e w4 ⟨rfl, hB4⟩
    go_wp2_with fail
    go_ret
    exact ⟨rfl, hBw.trans ((k3.trans (hB4.mono s3)).mono s0)⟩
end Go.Proofs.Ythhkpgnjpieckaa
