import Derived.Deep.DeepCutAuto
import Derived.Test.YtpoichgodamnkaaYm
/- LWireWrites -/
namespace Go.Proofs.Ytpoichgodamnkaa
set_option linter.unusedVariables false
set_option maxRecDepth 100000
open Go.RowKit Go.Maps

theorem oP_small {o : Option PlanD} (h : ∀ p, o = some p → chkP p = 0) : (oP o).posts.length ≤ 100000 ∧ (oP o).queues.length ≤ 100000 ∧ (oP o).binds.length ≤ 100000 := by
  cases o with
  | none => exact ⟨Nat.zero_le _, Nat.zero_le _, Nat.zero_le _⟩
  | some p => have := (chk_right (h p rfl)).few; exact ⟨by show p.posts.length ≤ _; omega, by show p.queues.length ≤ _; omega, by show p.binds.length ≤ _; omega⟩

set_option maxRecDepth 100000 in
set_option maxHeartbeats 4000000 in
theorem walk_WireWrites (p : PlanD) (a1 a2 a3 : Option Addr) (n1 c1 n2 c2 n3 c3 : Nat) (b : ByteArray) (w : World) (hp : PlanAt w a1 a2 a3 n1 n2 n3 p) :
    Calls Try.prog 9 #[.agg #[.slice a1 n1 c1, .slice a2 n2 c2, .slice a3 n3 c3], .string b] w fun e w' => e = .returned (.bool true) ∧ Below w.heap.size w w' := by
  obtain ⟨W1, hW1, hBw, hs1, hbx⟩ := plan_boxed w (.slice a1 n1 c1) (.slice a2 n2 c2) (.slice a3 n3 c3) 26
  have HW1 := hidI hW1
  have HBX := hidI hbx
  have HBW := hidI hBw
  have HP := hidI (hp.keep hBw)
  have s0 := hBw.size
  obtain ⟨x0, x1, x2⟩ := hbx W1 (Below.refl _ _)
  obtain ⟨E, hE⟩ : ∃ E, E = chkP p := ⟨_, rfl⟩
  obtain ⟨V, hV⟩ : ∃ V, V = wrV p := ⟨_, rfl⟩
  have HE := hidI hE
  have HV := hidI hV
  obtain ⟨F, hF⟩ : ∃ F, F = rdE b := ⟨_, rfl⟩
  have HF := hidI hF
  obtain ⟨L, hL⟩ : ∃ L, L = b.size := ⟨_, rfl⟩
  have HL := hidI hL
  clear hW1 hbx hp hBw hE hV hF hL
  go_enter Try.func9, Try.ntmps9
  go_wp2_with fail
  rw [← HW1.out]
  refine (write_any p _ _ _ _ _ _ _ _ _ W1 HP.out).mono ?_
  rintro e w2 ⟨rfl, k2⟩
  rw [← HE.out, ← HV.out]
  have K2 := hidI k2
  have HP2 := hidI (HP.out.keep k2)
  clear x0 x1 x2
  obtain ⟨x0, x1, x2⟩ := HBX.out w2 k2
  clear k2
  go_wp2_with fail
  refine (rcheck_any p _ _ _ _ _ _ _ _ _ w2 HP2.out.l1 HP2.out.l2 HP2.out.l3 HP2.out.sz HP2.out.p1 HP2.out.p2 HP2.out.p3).mono ?_
  rintro e w3 ⟨rfl, k3⟩
  rw [← HE.out]
  have K3 := hidI (K2.out.trans (k3.mono K2.out.size))
  have HP3 := hidI (HP2.out.keep k3)
  clear x0 x1 x2
  obtain ⟨x0, x1, x2⟩ := HBX.out w3 K3.out
  clear k3
  by_cases hz : E = 0
  · subst hz
    have HC0 : Hid (chkP p = 0) := HE.out.symm
    go_wp2_with fail
    refine (planBytes_any p _ _ _ _ _ _ _ _ _ w3 HP3.out HC0.out).mono ?_
    rintro e w4 ⟨rfl, k4⟩
    have hVV : bytesV (planB p) = V := by rw [HV.out]; unfold wrV; rw [if_pos HC0.out]
    rw [hVV]
    have K4 := hidI (K3.out.trans (k4.mono K3.out.size))
    clear k4 hVV x0 x1 x2
    go_wp2_with fail
    refine (read_any b w4).mono ?_
    rintro e w5 ⟨v5, rfl, hv5, k5⟩
    rw [← HF.out]
    obtain ⟨d1, d2, d3, m1, f1, m2, f2, m3, f3, rfl, hp5⟩ := hv5
    have K5 := hidI (K4.out.trans (k5.mono K4.out.size))
    obtain ⟨W6, hW6⟩ : ∃ W6, W6 = w5.alloc (.cells #[.slice d1 m1 f1, .slice d2 m2 f2, .slice d3 m3 f3] 26) := ⟨_, rfl⟩
    have k6 : Below w5.heap.size w5 W6 := by rw [hW6]; exact (Below.refl _ _).alloc (Nat.le_refl _) _
    have b6 : W6.heap[w5.heap.size]? = some (.cells #[.slice d1 m1 f1, .slice d2 m2 f2, .slice d3 m3 f3] 26 (0, 0)) := by rw [hW6]; exact World.alloc_heap_new w5 _
    have K6 := hidI (K5.out.trans (k6.mono K5.out.size))
    have HP6 := hidI (hp5.keep k6)
    have HW6 := hidI hW6
    have HB6 := hidI b6
    clear k5 hp5 hW6 k6 b6
    go_upto_region 7 with fail
    rw [← HW6.out]
    by_cases hbig : 4096 < L
    · have hb1 : (4096 : Int) < (L : Int) := by omega
      have hFF : F = 2 := by rw [HF.out]; unfold rdE; rw [if_pos (by rw [← HL.out]; exact hbig)]
      have HPP : Hid (rdP b = noP) := by show rdP b = noP; unfold rdP; rw [if_pos (by rw [← HL.out]; exact hbig)]
      subst hFF
      go_wp2_with (rw [← HL.out])
      refine (wireBegun_any W6).mono ?_
      rintro e w7 ⟨rfl, k7⟩
      obtain ⟨y0, y1, y2⟩ := pl_cells (plan_keep HB6.out k7)
      have HP7 := hidI (HP6.out.keep k7)
      have K7 := hidI (K6.out.trans (k7.mono K6.out.size))
      clear k7
      go_wp2_with fail
      refine (same_pl (p := rdP b) ⟨_, _, _, _, _, _, _, _, _, rfl, HP7.out⟩ (by rw [HPP.out]; exact noP_v _) (by rw [HPP.out]; decide)).mono ?_
      rintro e w8 ⟨rfl, k8⟩
      have K8 := hidI (K7.out.trans (k8.mono K7.out.size))
      clear k8
      go_wp2_with fail
      go_ret
      exact ⟨rfl, HBW.out.trans (K8.out.mono s0)⟩
    · have hb1 : ¬ (4096 : Int) < (L : Int) := by omega
      have HFF : Hid (F = oE (planOf b)) := by show F = _; rw [HF.out]; unfold rdE; rw [if_neg (by rw [← HL.out]; exact hbig)]
      have HPP : Hid (rdP b = oP (planOf b)) := by show rdP b = _; unfold rdP; rw [if_neg (by rw [← HL.out]; exact hbig)]
      have HPF := hidI (planFrom_any b W6 (by have := HL.out; omega))
      go_wp2_with (rw [← HL.out])
      refine HPF.out.mono ?_
      rintro e w7 ⟨v7, rfl, hv7, k7⟩
      obtain ⟨g1, g2, g3, i1, j1, i2, j2, i3, j3, rfl, hp7⟩ := hv7
      obtain ⟨FB, hFB⟩ : ∃ FB, FB = fromB b := ⟨_, rfl⟩
      rw [← hFB]
      obtain ⟨W8, hW8⟩ : ∃ W8, W8 = w7.alloc (.cells #[.slice g1 i1 j1, .slice g2 i2 j2, .slice g3 i3 j3] 26) := ⟨_, rfl⟩
      have k8 : Below w7.heap.size w7 W8 := by rw [hW8]; exact (Below.refl _ _).alloc (Nat.le_refl _) _
      have b8 : W8.heap[w7.heap.size]? = some (.cells #[.slice g1 i1 j1, .slice g2 i2 j2, .slice g3 i3 j3] 26 (0, 0)) := by rw [hW8]; exact World.alloc_heap_new w7 _
      have k68 := k7.trans (k8.mono k7.size)
      have K8 := hidI (K6.out.trans (k68.mono K6.out.size))
      have HP8 := hidI (hp7.keep k8)
      have HQ8 := hidI (HP6.out.keep k68)
      have HB8 := hidI b8
      have HC8 := hidI (plan_keep HB6.out k68)
      have HW8 := hidI hW8
      have HFE : Hid (F = if FB = true then 0 else 1) := by
        show F = _
        rw [HFF.out, hFB]; unfold fromB
        cases planOf b <;> rfl
      clear k7 hp7 hW8 k8 b8 k68 hFB
      cases FB with
      | true =>
        have hFF : F = 0 := by rw [HFE.out]; rfl
        subst hFF
        go_upto_region 13 with fail
        rw [← HW8.out]
        go_wp2_with fail
        refine (wireBegun_any W8).mono ?_
        rintro e w9 ⟨rfl, k9⟩
        obtain ⟨y0, y1, y2⟩ := pl_cells (plan_keep HB8.out k9)
        obtain ⟨z0, z1, z2⟩ := pl_cells (plan_keep HC8.out k9)
        have K9 := hidI (K8.out.trans (k9.mono K8.out.size))
        have HP9 := hidI (HP8.out.keep k9)
        have HQ9 := hidI (HQ8.out.keep k9)
        clear k9
        go_wp2_with fail
        refine (same_pl (p := rdP b) ⟨_, _, _, _, _, _, _, _, _, rfl, HQ9.out⟩ ⟨_, _, _, _, _, _, _, _, _, rfl, by rw [HPP.out]; exact HP9.out⟩ (by rw [HPP.out]; exact oP_small (fun p h => (planOf_some h).1))).mono ?_
        rintro e w10 ⟨rfl, k10⟩
        have K10 := hidI (K9.out.trans (k10.mono K9.out.size))
        clear k10
        go_wp2_with fail
        go_ret
        exact ⟨rfl, HBW.out.trans (K10.out.mono s0)⟩
      | false =>
        have hFF : F = 1 := by rw [HFE.out]; rfl
        subst hFF
        go_upto_region 13 with fail
        rw [← HW8.out]
        go_wp2_with fail
        refine (wireBegun_any W8).mono ?_
        rintro e w9 ⟨rfl, k9⟩
        obtain ⟨y0, y1, y2⟩ := pl_cells (plan_keep HB8.out k9)
        obtain ⟨z0, z1, z2⟩ := pl_cells (plan_keep HC8.out k9)
        have K9 := hidI (K8.out.trans (k9.mono K8.out.size))
        have HP9 := hidI (HP8.out.keep k9)
        have HQ9 := hidI (HQ8.out.keep k9)
        clear k9
        go_wp2_with fail
        refine (same_pl (p := rdP b) ⟨_, _, _, _, _, _, _, _, _, rfl, HQ9.out⟩ ⟨_, _, _, _, _, _, _, _, _, rfl, by rw [HPP.out]; exact HP9.out⟩ (by rw [HPP.out]; exact oP_small (fun p h => (planOf_some h).1))).mono ?_
        rintro e w10 ⟨rfl, k10⟩
        have K10 := hidI (K9.out.trans (k10.mono K9.out.size))
        clear k10
        go_wp2_with fail
        go_ret
        exact ⟨rfl, HBW.out.trans (K10.out.mono s0)⟩
  · have hz' : (E == 0) = false := by rw [beq_eq_false_iff_ne]; exact hz
    have hVV : V = ⟨#[]⟩ := by rw [HV.out]; unfold wrV; rw [if_neg (by rw [← HE.out]; exact hz)]
    subst hVV
    go_wp2_with fail
    refine (read_any b w3).mono ?_
    rintro e w5 ⟨v5, rfl, hv5, k5⟩
    rw [← HF.out]
    obtain ⟨d1, d2, d3, m1, f1, m2, f2, m3, f3, rfl, hp5⟩ := hv5
    have K5 := hidI (K3.out.trans (k5.mono K3.out.size))
    obtain ⟨W6, hW6⟩ : ∃ W6, W6 = w5.alloc (.cells #[.slice d1 m1 f1, .slice d2 m2 f2, .slice d3 m3 f3] 26) := ⟨_, rfl⟩
    have k6 : Below w5.heap.size w5 W6 := by rw [hW6]; exact (Below.refl _ _).alloc (Nat.le_refl _) _
    have b6 : W6.heap[w5.heap.size]? = some (.cells #[.slice d1 m1 f1, .slice d2 m2 f2, .slice d3 m3 f3] 26 (0, 0)) := by rw [hW6]; exact World.alloc_heap_new w5 _
    have K6 := hidI (K5.out.trans (k6.mono K5.out.size))
    have HP6 := hidI (hp5.keep k6)
    have HW6 := hidI hW6
    have HB6 := hidI b6
    clear k5 hp5 hW6 k6 b6
    go_upto_region 7 with fail
    rw [← HW6.out]
    by_cases hbig : 4096 < L
    · have hb1 : (4096 : Int) < (L : Int) := by omega
      have hFF : F = 2 := by rw [HF.out]; unfold rdE; rw [if_pos (by rw [← HL.out]; exact hbig)]
      have HPP : Hid (rdP b = noP) := by show rdP b = noP; unfold rdP; rw [if_pos (by rw [← HL.out]; exact hbig)]
      subst hFF
      go_wp2_with (rw [← HL.out])
      refine (wireBegun_any W6).mono ?_
      rintro e w7 ⟨rfl, k7⟩
      obtain ⟨y0, y1, y2⟩ := pl_cells (plan_keep HB6.out k7)
      have HP7 := hidI (HP6.out.keep k7)
      have K7 := hidI (K6.out.trans (k7.mono K6.out.size))
      clear k7
      go_wp2_with fail
      refine (same_pl (p := rdP b) ⟨_, _, _, _, _, _, _, _, _, rfl, HP7.out⟩ (by rw [HPP.out]; exact noP_v _) (by rw [HPP.out]; decide)).mono ?_
      rintro e w8 ⟨rfl, k8⟩
      have K8 := hidI (K7.out.trans (k8.mono K7.out.size))
      clear k8
      go_wp2_with fail
      go_ret
      exact ⟨rfl, HBW.out.trans (K8.out.mono s0)⟩
    · have hb1 : ¬ (4096 : Int) < (L : Int) := by omega
      have HFF : Hid (F = oE (planOf b)) := by show F = _; rw [HF.out]; unfold rdE; rw [if_neg (by rw [← HL.out]; exact hbig)]
      have HPP : Hid (rdP b = oP (planOf b)) := by show rdP b = _; unfold rdP; rw [if_neg (by rw [← HL.out]; exact hbig)]
      have HPF := hidI (planFrom_any b W6 (by have := HL.out; omega))
      go_wp2_with (rw [← HL.out])
      refine HPF.out.mono ?_
      rintro e w7 ⟨v7, rfl, hv7, k7⟩
      obtain ⟨g1, g2, g3, i1, j1, i2, j2, i3, j3, rfl, hp7⟩ := hv7
      obtain ⟨FB, hFB⟩ : ∃ FB, FB = fromB b := ⟨_, rfl⟩
      rw [← hFB]
      obtain ⟨W8, hW8⟩ : ∃ W8, W8 = w7.alloc (.cells #[.slice g1 i1 j1, .slice g2 i2 j2, .slice g3 i3 j3] 26) := ⟨_, rfl⟩
      have k8 : Below w7.heap.size w7 W8 := by rw [hW8]; exact (Below.refl _ _).alloc (Nat.le_refl _) _
      have b8 : W8.heap[w7.heap.size]? = some (.cells #[.slice g1 i1 j1, .slice g2 i2 j2, .slice g3 i3 j3] 26 (0, 0)) := by rw [hW8]; exact World.alloc_heap_new w7 _
      have k68 := k7.trans (k8.mono k7.size)
      have K8 := hidI (K6.out.trans (k68.mono K6.out.size))
      have HP8 := hidI (hp7.keep k8)
      have HQ8 := hidI (HP6.out.keep k68)
      have HB8 := hidI b8
      have HC8 := hidI (plan_keep HB6.out k68)
      have HW8 := hidI hW8
      have HFE : Hid (F = if FB = true then 0 else 1) := by
        show F = _
        rw [HFF.out, hFB]; unfold fromB
        cases planOf b <;> rfl
      clear k7 hp7 hW8 k8 b8 k68 hFB
      cases FB with
      | true =>
        have hFF : F = 0 := by rw [HFE.out]; rfl
        subst hFF
        go_upto_region 13 with fail
        rw [← HW8.out]
        go_wp2_with fail
        refine (wireBegun_any W8).mono ?_
        rintro e w9 ⟨rfl, k9⟩
        obtain ⟨y0, y1, y2⟩ := pl_cells (plan_keep HB8.out k9)
        obtain ⟨z0, z1, z2⟩ := pl_cells (plan_keep HC8.out k9)
        have K9 := hidI (K8.out.trans (k9.mono K8.out.size))
        have HP9 := hidI (HP8.out.keep k9)
        have HQ9 := hidI (HQ8.out.keep k9)
        clear k9
        go_wp2_with fail
        refine (same_pl (p := rdP b) ⟨_, _, _, _, _, _, _, _, _, rfl, HQ9.out⟩ ⟨_, _, _, _, _, _, _, _, _, rfl, by rw [HPP.out]; exact HP9.out⟩ (by rw [HPP.out]; exact oP_small (fun p h => (planOf_some h).1))).mono ?_
        rintro e w10 ⟨rfl, k10⟩
        have K10 := hidI (K9.out.trans (k10.mono K9.out.size))
        clear k10
        go_wp2_with fail
        go_ret
        exact ⟨rfl, HBW.out.trans (K10.out.mono s0)⟩
      | false =>
        have hFF : F = 1 := by rw [HFE.out]; rfl
        subst hFF
        go_upto_region 13 with fail
        rw [← HW8.out]
        go_wp2_with fail
        refine (wireBegun_any W8).mono ?_
        rintro e w9 ⟨rfl, k9⟩
        obtain ⟨y0, y1, y2⟩ := pl_cells (plan_keep HB8.out k9)
        obtain ⟨z0, z1, z2⟩ := pl_cells (plan_keep HC8.out k9)
        have K9 := hidI (K8.out.trans (k9.mono K8.out.size))
        have HP9 := hidI (HP8.out.keep k9)
        have HQ9 := hidI (HQ8.out.keep k9)
        clear k9
        go_wp2_with fail
        refine (same_pl (p := rdP b) ⟨_, _, _, _, _, _, _, _, _, rfl, HQ9.out⟩ ⟨_, _, _, _, _, _, _, _, _, rfl, by rw [HPP.out]; exact HP9.out⟩ (by rw [HPP.out]; exact oP_small (fun p h => (planOf_some h).1))).mono ?_
        rintro e w10 ⟨rfl, k10⟩
        have K10 := hidI (K9.out.trans (k10.mono K9.out.size))
        clear k10
        go_wp2_with fail
        go_ret
        exact ⟨rfl, HBW.out.trans (K10.out.mono s0)⟩

end Go.Proofs.Ytpoichgodamnkaa
