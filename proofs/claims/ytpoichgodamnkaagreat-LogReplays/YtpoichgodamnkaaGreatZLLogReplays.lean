/- The walk of the law LogReplays. -/
import Derived.Test.YtpoichgodamnkaaGreatKux
import Derived.Test.YtpoichgodamnkaaGreatKzx
namespace Go.Proofs.YtpoichgodamnkaaGreat
open Go.RowKit Go.Maps
set_option linter.unusedVariables false
set_option maxRecDepth 100000
set_option maxHeartbeats 8000000
theorem walk_LogReplays (x : ActD) (t : ByteArray) (w : World) :
 Calls Tryz.prog 15 #[x.val, .string t] w fun e w' => e = .returned (.bool true) ∧ Below w.heap.size w w' := by
 obtain ⟨F, hF⟩ : ∃ F, F = putE (actT x) := ⟨_, rfl⟩
 obtain ⟨b, hb⟩ : ∃ b, b = putV (actT x) := ⟨_, rfl⟩
 obtain ⟨G, hG⟩ : ∃ G, G = repE t := ⟨_, rfl⟩
 obtain ⟨R, hR⟩ : ∃ R, R = repN t := ⟨_, rfl⟩
 obtain ⟨L, hL⟩ : ∃ L, L = (repA t).length := ⟨_, rfl⟩
 have HF := hidI hF
 have Hb := hidI hb
 have HG := hidI hG
 have HR := hidI hR
 have HL := hidI hL
 clear hF hb hG hR hL
 obtain ⟨kd, ka, kb, ky, bd⟩ := x
 show Calls Tryz.prog 15 #[.agg #[.int .i64 kd, .int .i64 ka, .int .i64 kb, .string ky, .string bd], .string t] w _
 obtain ⟨W1, hW1⟩ : ∃ W1, W1 = w.alloc (.cells #[.int .i64 kd, .int .i64 ka, .int .i64 kb, .string ky, .string bd] 72) := ⟨_, rfl⟩
 have l1 : Below w.heap.size w W1 := by rw [hW1]; exact (Below.refl _ _).alloc (Nat.le_refl _) _
 have b1 : W1.heap[w.heap.size]? = some (.cells #[.int .i64 kd, .int .i64 ka, .int .i64 kb, .string ky, .string bd] 72 (0, 0)) := by rw [hW1]; exact World.alloc_heap_new w _
 have HW1 := hidI hW1
 have K1 := hidI l1
 have HB1 := hidI b1
 obtain ⟨c0, c1, c2, c3, c4⟩ := cells5 b1
 clear hW1 l1 b1
 go_enter Tryz.func15, Tryz.ntmps15
 go_wp2_with fail
 rw [← HW1.out]
 refine (lwrite_any ⟨kd, ka, kb, ky, bd⟩ _).mono ?_
 rintro e w2 ⟨rfl, l2⟩
 rw [← HF.out, ← Hb.out]
 have D2 := hidI l2
 clear c0 c1 c2 c3 c4 l2
 obtain ⟨c0, c1, c2, c3, c4⟩ := cells5 (pkp_ HB1.out D2.out)
 go_wp2_with fail
 refine (ractB_any ⟨kd, ka, kb, ky, bd⟩ _).mono ?_
 rintro e w3 ⟨rfl, l3⟩
 rw [← HF.out, ← Hb.out]
 have D3 := hidI (D2.out.trans (l3.mono D2.out.size))
 clear c0 c1 c2 c3 c4 l3
 go_wp2_with fail
 refine (replay_any t _).mono ?_
 rintro e w4 ⟨v4, rfl, ho4, l4⟩
 rw [← HG.out, ← HR.out]
 obtain ⟨r4, q4, hv4, -, -, -, rw4⟩ := own_row ho4
 rw [← HL.out] at hv4
 subst hv4
 have D4 := hidI (D3.out.trans (l4.mono D3.out.size))
 have RW4 := hidI rw4
 clear ho4 l4 rw4
 go_wp2_with fail
 refine (replayOf_any t _).mono ?_
 rintro e w5 ⟨v5, rfl, ho5, l5⟩
 rw [← HG.out, ← HR.out]
 obtain ⟨r5, q5, hv5, -, -, -, rw5⟩ := own_row ho5
 rw [← HL.out] at hv5
 subst hv5
 have D5 := hidI (D4.out.trans (l5.mono D4.out.size))
 have RW4' := hidI (RW4.out.keep l5)
 have RW5 := hidI rw5
 clear ho5 l5 rw5
 go_wp2_with fail
 refine (logBegun_any _).mono ?_
 rintro e w6 ⟨rfl, l6⟩
 have D6 := hidI (D5.out.trans (l6.mono D5.out.size))
 have hL60 : L ≤ 60 := by rw [HL.out]; unfold repA; split <;> first | exact repL_len _ _ _ | simp
 have SA := hidI (same_acts (repA t) r4 r5 L q4 q5 w6 HL.out.symm hL60 (RW4'.out.keep l6) (RW5.out.keep l6))
 have g1 : (F == F) = true := by simp
 have g2 : (G == G) = true := by simp
 have g3 : (R == R) = true := by simp
 clear l6
 go_wp2_with fail
 refine SA.out.mono ?_
 rintro e w7 ⟨rfl, m, rfl⟩
 go_wp2_with fail
 go_ret
 exact ⟨rfl, K1.out.trans ((below_drewL D6.out).mono K1.out.size)⟩
end Go.Proofs.YtpoichgodamnkaaGreat
