import Derived.Deep.DeepCutAuto
import Derived.Test.YtpoichgodamnkaaYo
import Derived.Test.YtpoichgodamnkaaRd
import Derived.Below
import Derived.Carry
import Derived.ProofKit
import Derived.OpenShut
import Derived.ShutString
import Derived.ChangeOld
/- LWireBack -/
namespace Go.Proofs.Ytpoichgodamnkaa
set_option linter.unusedVariables false
set_option maxRecDepth 100000
open Go.RowKit Go.Maps

theorem rd_zero {b : ByteArray} (h : rdE b = 0) : chkP (rdP b) = 0 ∧ wrV (rdP b) = b := by
  unfold rdE at h
  unfold rdP
  by_cases hb : 4096 < b.size
  · rw [if_pos hb] at h; cases h
  · rw [if_neg hb] at h ⊢
    cases ho : planOf b with
    | none => rw [ho] at h; cases h
    | some q =>
      obtain ⟨h1, h2⟩ := planOf_some ho
      refine ⟨h1, ?_⟩
      show wrV q = b
      unfold wrV
      rw [if_pos h1]
      apply ByteArray.ext
      apply Array.toList_inj.1
      exact h2

set_option maxRecDepth 100000 in
set_option maxHeartbeats 4000000 in
theorem walk_WireBack (p : PlanD) (a1 a2 a3 : Option Addr) (n1 c1 n2 c2 n3 c3 : Nat) (b : ByteArray) (w : World) (hp : PlanAt w a1 a2 a3 n1 n2 n3 p) :
    Calls Try.prog 10 #[.agg #[.slice a1 n1 c1, .slice a2 n2 c2, .slice a3 n3 c3], .string b] w fun e w' => e = .returned (.bool true) ∧ Below w.heap.size w w' := by
  obtain ⟨W1, hW1, hBw, hs1, hbx⟩ := plan_boxed w (.slice a1 n1 c1) (.slice a2 n2 c2) (.slice a3 n3 c3) 26
  have HW1 := hidI hW1
  have HBX := hidI hbx
  have HBW := hidI hBw
  have HP := hidI (hp.keep hBw)
  have s0 := hBw.size
  obtain ⟨x0, x1, x2⟩ := hbx W1 (Below.refl _ _)
  obtain ⟨E, hE⟩ : ∃ E, E = chkP p := ⟨_, rfl⟩
  obtain ⟨V, hV⟩ : ∃ V, V = wrV p := ⟨_, rfl⟩
  have HE := hidI hE
  have HV := hidI hV
  obtain ⟨F, hF⟩ : ∃ F, F = rdE b := ⟨_, rfl⟩
  have HF := hidI hF
  clear hW1 hbx hp hBw hE hV hF
  go_enter Try.func10, Try.ntmps10
  go_wp2_with fail
  rw [← HW1.out]
  refine (write_any p _ _ _ _ _ _ _ _ _ W1 HP.out).mono ?_
  rintro e w2 ⟨rfl, k2⟩
  rw [← HE.out, ← HV.out]
  have K2 := hidI k2
  have HP2 := hidI (HP.out.keep k2)
  clear x0 x1 x2 k2
  by_cases hz : E = 0
  · subst hz
    have HC0 : Hid (chkP p = 0) := HE.out.symm
    have HRB : Hid (rdE V = 0 ∧ rdP V = p) := by
      have e : V = bytesV (planB p) := by rw [HV.out]; unfold wrV; rw [if_pos HC0.out]
      rw [e]; exact read_back HC0.out
    go_wp2_with fail
    refine (read_any V w2).mono ?_
    rintro e w3 ⟨v3, rfl, hv3, k3⟩
    rw [HRB.out.1]
    rw [HRB.out.2] at hv3
    obtain ⟨r1, r2, r3, i1, j1, i2, j2, i3, j3, rfl, hp3⟩ := hv3
    obtain ⟨W4, hW4⟩ : ∃ W4, W4 = w3.alloc (.cells #[.slice r1 i1 j1, .slice r2 i2 j2, .slice r3 i3 j3] 26) := ⟨_, rfl⟩
    have k4 : Below w3.heap.size w3 W4 := by rw [hW4]; exact (Below.refl _ _).alloc (Nat.le_refl _) _
    have b4 : W4.heap[w3.heap.size]? = some (.cells #[.slice r1 i1 j1, .slice r2 i2 j2, .slice r3 i3 j3] 26 (0, 0)) := by rw [hW4]; exact World.alloc_heap_new w3 _
    have K4 := hidI (K2.out.trans ((k3.trans (k4.mono k3.size)).mono K2.out.size))
    have HP4 := hidI (hp3.keep k4)
    have HQ4 := hidI (HP2.out.keep (k3.trans (k4.mono k3.size)))
    have HW4 := hidI hW4
    obtain ⟨y0, y1, y2⟩ := pl_cells b4
    obtain ⟨z0, z1, z2⟩ := HBX.out W4 K4.out
    clear k3 hp3 hW4 k4 b4
    go_upto_region 4 with fail
    rw [← HW4.out]
    go_wp2_with fail
    refine (same_pl (p := p) ⟨_, _, _, _, _, _, _, _, _, rfl, HP4.out⟩ ⟨_, _, _, _, _, _, _, _, _, rfl, HQ4.out⟩ (by have := (chk_right HC0.out).few; omega)).mono ?_
    rintro e w5 ⟨rfl, k5⟩
    have K5 := hidI (K4.out.trans (k5.mono K4.out.size))
    clear k5 y0 y1 y2 z0 z1 z2
    go_wp2_with fail
    refine (read_any b w5).mono ?_
    rintro e w6 ⟨v6, rfl, hv6, k6⟩
    rw [← HF.out]
    obtain ⟨d1, d2, d3, m1, f1, m2, f2, m3, f3, rfl, hp6⟩ := hv6
    obtain ⟨W7, hW7⟩ : ∃ W7, W7 = w6.alloc (.cells #[.slice d1 m1 f1, .slice d2 m2 f2, .slice d3 m3 f3] 26) := ⟨_, rfl⟩
    have k7 : Below w6.heap.size w6 W7 := by rw [hW7]; exact (Below.refl _ _).alloc (Nat.le_refl _) _
    have b7 : W7.heap[w6.heap.size]? = some (.cells #[.slice d1 m1 f1, .slice d2 m2 f2, .slice d3 m3 f3] 26 (0, 0)) := by rw [hW7]; exact World.alloc_heap_new w6 _
    have K7 := hidI (K5.out.trans ((k6.trans (k7.mono k6.size)).mono K5.out.size))
    have HP7 := hidI (hp6.keep k7)
    have HW7 := hidI hW7
    have HB7 := hidI b7
    clear k6 hp6 hW7 k7 b7
    go_upto_region 7 with fail
    rw [← HW7.out]
    by_cases hg : F = 0
    · subst hg
      obtain ⟨hc, hw⟩ := rd_zero HF.out.symm
      have HC := hidI hc
      have HWV := hidI hw
      obtain ⟨y0, y1, y2⟩ := pl_cells HB7.out
      clear hc hw
      go_wp2_with fail
      refine (write_any (rdP b) _ _ _ _ _ _ _ _ _ W7 HP7.out).mono ?_
      rintro e w8 ⟨rfl, k8⟩
      rw [HC.out, HWV.out]
      have K8 := hidI (K7.out.trans (k8.mono K7.out.size))
      clear k8 y0 y1 y2
      go_wp2_with fail
      refine (wireBegun_any w8).mono ?_
      rintro e w9 ⟨rfl, k9⟩
      have K9 := hidI (K8.out.trans (k9.mono K8.out.size))
      clear k9
      go_wp2_with fail
      go_ret
      exact ⟨rfl, HBW.out.trans (K9.out.mono s0)⟩
    · have hg' : (F != 0) = true := bne_iff_ne.2 hg
      clear hg
      go_wp2_with fail
      refine (wireBegun_any W7).mono ?_
      rintro e w9 ⟨rfl, k9⟩
      have K9 := hidI (K7.out.trans (k9.mono K7.out.size))
      clear k9
      go_wp2_with fail
      go_ret
      exact ⟨rfl, HBW.out.trans (K9.out.mono s0)⟩
  · have hz' : (E == 0) = false := by rw [beq_eq_false_iff_ne]; exact hz
    go_wp2_with fail
    refine (read_any b w2).mono ?_
    rintro e w6 ⟨v6, rfl, hv6, k6⟩
    rw [← HF.out]
    obtain ⟨d1, d2, d3, m1, f1, m2, f2, m3, f3, rfl, hp6⟩ := hv6
    obtain ⟨W7, hW7⟩ : ∃ W7, W7 = w6.alloc (.cells #[.slice d1 m1 f1, .slice d2 m2 f2, .slice d3 m3 f3] 26) := ⟨_, rfl⟩
    have k7 : Below w6.heap.size w6 W7 := by rw [hW7]; exact (Below.refl _ _).alloc (Nat.le_refl _) _
    have b7 : W7.heap[w6.heap.size]? = some (.cells #[.slice d1 m1 f1, .slice d2 m2 f2, .slice d3 m3 f3] 26 (0, 0)) := by rw [hW7]; exact World.alloc_heap_new w6 _
    have K7 := hidI (K2.out.trans ((k6.trans (k7.mono k6.size)).mono K2.out.size))
    have HP7 := hidI (hp6.keep k7)
    have HW7 := hidI hW7
    have HB7 := hidI b7
    clear k6 hp6 hW7 k7 b7
    go_upto_region 7 with fail
    rw [← HW7.out]
    by_cases hg : F = 0
    · subst hg
      obtain ⟨hc, hw⟩ := rd_zero HF.out.symm
      have HC := hidI hc
      have HWV := hidI hw
      obtain ⟨y0, y1, y2⟩ := pl_cells HB7.out
      clear hc hw
      go_wp2_with fail
      refine (write_any (rdP b) _ _ _ _ _ _ _ _ _ W7 HP7.out).mono ?_
      rintro e w8 ⟨rfl, k8⟩
      rw [HC.out, HWV.out]
      have K8 := hidI (K7.out.trans (k8.mono K7.out.size))
      clear k8 y0 y1 y2
      go_wp2_with fail
      refine (wireBegun_any w8).mono ?_
      rintro e w9 ⟨rfl, k9⟩
      have K9 := hidI (K8.out.trans (k9.mono K8.out.size))
      clear k9
      go_wp2_with fail
      go_ret
      exact ⟨rfl, HBW.out.trans (K9.out.mono s0)⟩
    · have hg' : (F != 0) = true := bne_iff_ne.2 hg
      clear hg
      go_wp2_with fail
      refine (wireBegun_any W7).mono ?_
      rintro e w9 ⟨rfl, k9⟩
      have K9 := hidI (K7.out.trans (k9.mono K7.out.size))
      clear k9
      go_wp2_with fail
      go_ret
      exact ⟨rfl, HBW.out.trans (K9.out.mono s0)⟩

end Go.Proofs.Ytpoichgodamnkaa

/- QWireBack -/
namespace Go.Proofs.Ytpoichgodamnkaa.wireBack
open Go.ChangeShapes Go.WideShapes Go.ChangeAt Go.RowKit
open Go.ChangeMaps (open_string shut_string)
set_option linter.unusedVariables false
set_option maxRecDepth 100000

theorem laidOut : laidOutB Try.prog = true := by kernel_rfl
theorem own : ownKnob Try.prog.godebug = none := by kernel_rfl

set_option maxRecDepth 100000 in
theorem lifted (os : Os) (started : os.Started) (H : Type) (enc : TypeId × Value → H) :
    ReturnsInHanded {} Try.checked os 10 .any (Rows.wireBackSpec.pre6 enc Try.prog Try.f10 Rows.wireBackRow.domain false) (Rows.wireBackSpec.post enc Try.prog Try.f10 false true false false) := by
  refine returnsInHanded_of_change (C := Try.checked) own started (by kernel_rfl) Try.func10
    (ChangeSpec.witness6 (enc := enc) (C := Try.checked) false ⟨#[], #[.agg #[.slice none 0 0, .slice none 0 0, .slice none 0 0], .string ByteArray.empty], []⟩ 8 (by kernel_rfl) (by kernel_rfl) (by kernel_rfl) (by kernel_rfl)) ?_
  intro W base args ds gs before hval0 hW hcnd _
  have hval : ∀ (j : Nat) t v, Try.f10.params[j]? = some t → args[j]? = some v → Value.okWide Try.prog W .any base t v := hval0
  have hW' := hW
  obtain ⟨p, q, hA0, hV, rfl, hfz, hnd⟩ := hW
  have hA : DataW.TrodAll enc Try.prog W 0 (fun _ => true) true Try.f10.params.toList args.toList ds p := hA0
  rw [Try.params10] at hA hval
  obtain ⟨v0, vs0, d0, ds0, p0, q0, hargs, rfl, rfl, h0, r0⟩ := trodAll_cons hA
  obtain ⟨v1, vs1, d1, ds1, p1, q1, rfl, rfl, rfl, h1, r1⟩ := trodAll_cons r0
  obtain ⟨rfl, rfl, rfl⟩ := trodAll_nil r1
  obtain rfl : args = #[v0, v1] := by cases args; simp_all
  obtain ⟨rfl, rfl⟩ := trodVars_none hV
  have k0 := h0
  have lt0 : ∀ x ∈ p0, x.block < W.heap.size := by obtain ⟨m, hm⟩ := k0; exact DataW.trod_lt m _ _ _ hm
  obtain ⟨P0, x1, x2, x3, m1, y1, m2, y2, m3, y3, rfl, w0⟩ := plan_read (hval 0 26 v0 rfl rfl) h0
  obtain ⟨a1, rfl, rfl, rfl, w1⟩ := open_string Try.underlying9 (hval 1 9 v1 rfl rfl) h1
  clear hA0 hval0
  refine (walk_WireBack P0 x1 x2 x3 m1 y1 m2 y2 m3 y3 a1 W w0).mono fun e W' ⟨he, bel⟩ => ?_
  subst he
  exact ⟨_, rfl, _, _, _, [], _, [], hW', trodAll_mk1 (shut_bool Try.underlying4 _), (trodAll_cons_mk (Below.trod laidOut (by kernel_rfl) (of_decide_eq_true (by kernel_rfl)) k0 bel lt0) (trodAll_cons_mk (shut_string Try.underlying9 w1) trodAll_mk0)), rfl, bel.frame _, fun h => by cases h⟩

theorem over : Rows.wireBackRow.holds Try.pinned (OpenSpec.ofChange Rows.wireBackSpec) :=
  OpenClaim.holds_of_wide 10 Try.f10 rfl rfl rfl rfl rfl rfl rfl ⟨rfl, rfl, rfl, rfl, rfl⟩ rfl rfl rfl rfl rfl (by kernel_rfl) Try.func10 (by kernel_rfl)
    (of_decide_eq_true (by kernel_rfl)) (by unfold Func.isWrapper; first | (rw [if_pos (by decide +kernel)]; kernel_rfl) | (rw [if_neg (by decide +kernel)]; exact ⟨rfl, rfl⟩))
    (fun os started H enc _ => lifted os started H enc)
end Go.Proofs.Ytpoichgodamnkaa.wireBack
namespace Go.Proofs.Ytpoichgodamnkaa
theorem wireBack_holds : Rows.WireBackSaid := wireBack.over
#print axioms wireBack_holds

end Go.Proofs.Ytpoichgodamnkaa
