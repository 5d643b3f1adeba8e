/- plan.Check. -/
import Derived.Test.YthhkpgnjpieckaaRg
namespace Go.Proofs.Ythhkpgnjpieckaa
set_option linter.unusedVariables false
set_option maxRecDepth 100000
open Go.RowKit

/-- What Check tells of a plan. -/
def chkP (p : PlanD) : Int :=
  if 4 < p.posts.length ∨ 4 < p.queues.length ∨ 10 < p.binds.length then 2
  else if ((p.posts.map PostD.name).all (fun x => nameOk x.data.toList) && (p.queues.map QueueD.name).all (fun x => nameOk x.data.toList)) = false then 4
  else if (dupB (p.posts.map PostD.name) || dupB (p.queues.map QueueD.name)) = true then 6
  else if p.posts.all kindOk = false then 7
  else if (p.queues.all (qOk p.posts.length) && p.binds.all (bOk p.posts.length p.queues.length)) = false then 3
  else patErr p.binds

/-- Its names fit. -/
def Sized (p : PlanD) : Prop := (∀ x ∈ p.posts.map PostD.name, x.size ≤ maxLen) ∧ (∀ x ∈ p.queues.map QueueD.name, x.size ≤ maxLen)

theorem chk_many {p : PlanD} (h : 4 < p.posts.length ∨ 4 < p.queues.length ∨ 10 < p.binds.length) : chkP p = 2 := by unfold chkP; rw [if_pos h]

/-- A plan in a box of the call's own. -/
theorem plan_box (w : World) (v1 v2 v3 : Value) (t : TypeId) : (w.alloc (.cells #[v1, v2, v3] t)).cell? ⟨w.heap.size, 0, none⟩ = some v1 ∧ (w.alloc (.cells #[v1, v2, v3] t)).cell? ⟨w.heap.size, 1, none⟩ = some v2 ∧ (w.alloc (.cells #[v1, v2, v3] t)).cell? ⟨w.heap.size, 2, none⟩ = some v3 := by
  refine ⟨?_, ?_, ?_⟩ <;> simp

set_option maxRecDepth 100000 in
set_option maxHeartbeats 2000000 in
theorem check_many (p : PlanD) (a1 a2 a3 : Option Addr) (n1 c1 n2 c2 n3 c3 : Nat) (w : World) (h1 : p.posts.length = n1) (h2 : p.queues.length = n2) (h3 : p.binds.length = n3) (h : 4 < n1 ∨ 4 < n2 ∨ 10 < n3) :
    Calls Try.prog 27 #[.agg #[.slice a1 n1 c1, .slice a2 n2 c2, .slice a3 n3 c3]] w fun e w' => e = .returned (.int .i64 (chkP p)) ∧ Below w.heap.size w w' := by
  rw [chk_many (by rw [h1, h2, h3]; exact h)]
  clear h1 h2 h3
  have hc : (4 : Int) < n1 ∨ (¬ (4 : Int) < n1 ∧ (4 : Int) < n2) ∨ (¬ (4 : Int) < n1 ∧ ¬ (4 : Int) < n2 ∧ (10 : Int) < n3) := by omega
  clear h
  rcases hc with q1 | ⟨q1, q2⟩ | ⟨q1, q2, q3⟩
  all_goals
    go_enter Try.func27, Try.ntmps27
    go_wp2_with fail
    go_ret
    exact ⟨rfl, (Below.refl _ _).alloc (Nat.le_refl _) _⟩

set_option maxRecDepth 100000 in
set_option maxHeartbeats 4000000 in
theorem check_few (p : PlanD) (a1 a2 a3 : Option Addr) (n1 c1 n2 c2 n3 c3 : Nat) (w : World) (h1 : p.posts.length = n1) (h2 : p.queues.length = n2) (h3 : p.binds.length = n3) (h : ¬ (4 < n1 ∨ 4 < n2 ∨ 10 < n3))
    (hs : Sized p) (k1 : PostsAt w a1 p.posts) (k2 : QueuesAt w a2 p.queues) (k3 : BindsAt w a3 p.binds) :
    Calls Try.prog 27 #[.agg #[.slice a1 n1 c1, .slice a2 n2 c2, .slice a3 n3 c3]] w fun e w' => e = .returned (.int .i64 (chkP p)) ∧ Below w.heap.size w w' := by
  have hn : ¬ (4 < p.posts.length ∨ 4 < p.queues.length ∨ 10 < p.binds.length) := by rw [h1, h2, h3]; exact h
  have q1 : ¬ (4 : Int) < n1 := by omega
  have q2 : ¬ (4 : Int) < n2 := by omega
  have q3 : ¬ (10 : Int) < n3 := by omega
  have E : Hid (chkP p = if ((p.posts.map PostD.name).all (fun x => nameOk x.data.toList) && (p.queues.map QueueD.name).all (fun x => nameOk x.data.toList)) = false then 4
    else if (dupB (p.posts.map PostD.name) || dupB (p.queues.map QueueD.name)) = true then 6
    else if p.posts.all kindOk = false then 7
    else if (p.queues.all (qOk p.posts.length) && p.binds.all (bOk p.posts.length p.queues.length)) = false then 3
    else patErr p.binds) := by show chkP p = _; unfold chkP; rw [if_neg hn]
  have HL : Hid (p.posts.length = n1 ∧ p.queues.length = n2 ∧ p.binds.length = n3) := ⟨h1, h2, h3⟩
  have HS : Hid (Sized p) := hs
  have h4 : n1 ≤ 4 ∧ n2 ≤ 4 ∧ n3 ≤ 10 := by omega
  obtain ⟨h41, h42, h43⟩ := h4
  obtain ⟨b0, b1, b2⟩ := plan_box w (.slice a1 n1 c1) (.slice a2 n2 c2) (.slice a3 n3 c3) 40
  obtain ⟨W1, hW1⟩ : ∃ W1, W1 = w.alloc (.cells #[.slice a1 n1 c1, .slice a2 n2 c2, .slice a3 n3 c3] 40) := ⟨_, rfl⟩
  rw [← hW1] at b0 b1 b2
  have hBw : Below w.heap.size w W1 := by rw [hW1]; exact (Below.refl _ _).alloc (Nat.le_refl _) _
  have hW1s : W1.heap.size = w.heap.size + 1 := by rw [hW1]; simp
  have K1 : Hid (PostsAt W1 a1 p.posts) := k1.keep hBw
  have K2 : Hid (QueuesAt W1 a2 p.queues) := k2.keep hBw
  have K3 : Hid (BindsAt W1 a3 p.binds) := k3.keep hBw
  have B0 : Hid (W1.cell? ⟨w.heap.size, 0, none⟩ = some (.slice a1 n1 c1) ∧ W1.cell? ⟨w.heap.size, 1, none⟩ = some (.slice a2 n2 c2) ∧ W1.cell? ⟨w.heap.size, 2, none⟩ = some (.slice a3 n3 c3)) := ⟨b0, b1, b2⟩
  have boxed : ∀ W, Below W1.heap.size W1 W → W.cell? ⟨w.heap.size, 0, none⟩ = some (.slice a1 n1 c1) ∧ W.cell? ⟨w.heap.size, 1, none⟩ = some (.slice a2 n2 c2) ∧ W.cell? ⟨w.heap.size, 2, none⟩ = some (.slice a3 n3 c3) := fun W hW =>
    ⟨(hW.cell (p := ⟨w.heap.size, 0, none⟩) (by show w.heap.size < _; omega)).trans b0, (hW.cell (p := ⟨w.heap.size, 1, none⟩) (by show w.heap.size < _; omega)).trans b1, (hW.cell (p := ⟨w.heap.size, 2, none⟩) (by show w.heap.size < _; omega)).trans b2⟩
  have BX : Hid (∀ W, Below W1.heap.size W1 W → W.cell? ⟨w.heap.size, 0, none⟩ = some (.slice a1 n1 c1) ∧ W.cell? ⟨w.heap.size, 1, none⟩ = some (.slice a2 n2 c2) ∧ W.cell? ⟨w.heap.size, 2, none⟩ = some (.slice a3 n3 c3)) := boxed
  have HW1s : Hid (W1.heap.size = w.heap.size + 1) := hW1s
  clear boxed b0 b1 b2 k1 k2 k3 h1 h2 h3 h hn hs hW1s
  obtain ⟨ps, hps⟩ : ∃ ps, ps = p.posts.map PostD.name := ⟨_, rfl⟩
  obtain ⟨qs, hqs⟩ : ∃ qs, qs = p.queues.map QueueD.name := ⟨_, rfl⟩
  have HPS : Hid (ps = p.posts.map PostD.name) := hps
  have HQS : Hid (qs = p.queues.map QueueD.name) := hqs
  have LPS : Hid (ps.length = n1) := by rw [hps, List.length_map]; exact HL.out.1
  have LQS : Hid (qs.length = n2) := by rw [hqs, List.length_map]; exact HL.out.2.1
  rw [← hps, ← hqs] at E
  clear hps hqs
  go_enter Try.func27, Try.ntmps27
  go_wp2_with fail
  rw [← hW1]
  clear hW1
  refine (names_posts p.posts _ _ _ _ HL.out.1 (by omega) K1.out).mono ?_
  rintro e w2 ⟨v, rfl, hown, hB2⟩
  rw [← HPS.out] at hown
  rw [← LPS.out] at hown
  obtain ⟨ap, cp, rfl, ⟨hcp, _⟩, hmp, hap⟩ := own_slice hown
  rw [LPS.out]
  have HAP : Hid (TextsAt w2 ap ps) := hap
  clear hown hap
  have d1 := (BX.out w2 hB2).2.1
  go_wp2_with fail
  refine (names_queues p.queues _ _ _ _ HL.out.2.1 (by omega) (K2.out.keep hB2)).mono ?_
  rintro e w3 ⟨v, rfl, hown, hB3⟩
  clear d1
  rw [← HQS.out] at hown
  rw [← LQS.out] at hown
  obtain ⟨aq, cq, rfl, ⟨hcq, _⟩, hmq, haq⟩ := own_slice hown
  rw [LQS.out]
  have HAQ : Hid (TextsAt w3 aq qs) := haq
  have HAP3 : Hid (TextsAt w3 ap ps) := HAP.out.keep hB3
  have s2 := hB2.size
  have s3 := hB3.size
  have hB13 : Below W1.heap.size W1 w3 := hB2.trans (hB3.mono s2)
  have hB03 : Below w.heap.size w w3 := hBw.trans (hB13.mono hBw.size)
  have s0 := hBw.size
  clear hown haq HAP hB2 hB3
  go_wp2_with fail
  refine (allNames_any ps _ _ _ _ LPS.out (by omega) (by rw [HPS.out]; exact HS.out.1) HAP3.out).mono ?_
  rintro e w4 ⟨rfl, rfl⟩
  cases e1 : ps.all (fun x => nameOk x.data.toList) with
  | false =>
    go_wp2_with fail
    go_ret
    exact ⟨ret_int (by rw [E.out, e1]; simp), hB03⟩
  | true =>
    go_wp2_with fail
    refine (allNames_any qs _ _ _ _ LQS.out (by omega) (by rw [HQS.out]; exact HS.out.2) HAQ.out).mono ?_
    rintro e w5 ⟨rfl, rfl⟩
    cases e2 : qs.all (fun x => nameOk x.data.toList) with
    | false =>
      go_wp2_with fail
      go_ret
      exact ⟨ret_int (by rw [E.out, e1, e2]; simp), hB03⟩
    | true =>
      go_wp2_with fail
      refine (anyTwice_any ps _ _ _ _ LPS.out (by omega) (by rw [HPS.out]; exact HS.out.1) HAP3.out).mono ?_
      rintro e w6 ⟨rfl, hB6⟩
      have s6 := hB6.size
      cases e3 : dupB ps with
      | true =>
        go_wp2_with fail
        go_ret
        exact ⟨ret_int (by rw [E.out, e1, e2, e3]; simp), hB03.trans (hB6.mono (by omega))⟩
      | false =>
        go_wp2_with fail
        refine (anyTwice_any qs _ _ _ _ LQS.out (by omega) (by rw [HQS.out]; exact HS.out.2) (HAQ.out.keep hB6)).mono ?_
        rintro e w7 ⟨rfl, hB7⟩
        have s7 := hB7.size
        have hB17 : Below W1.heap.size W1 w7 := hB13.trans ((hB6.mono (by omega)).trans (hB7.mono (by omega)))
        have hB07 : Below w.heap.size w w7 := hBw.trans (hB17.mono hBw.size)
        cases e4 : dupB qs with
        | true =>
          go_wp2_with fail
          go_ret
          exact ⟨ret_int (by rw [E.out, e1, e2, e3, e4]; simp), hB07⟩
        | false =>
          have d0 := (BX.out w7 hB17).1
          go_wp2_with fail
          refine (kindsRight_any p.posts _ _ _ _ HL.out.1 (by omega) (K1.out.keep hB17)).mono ?_
          rintro e w8 ⟨rfl, hB8⟩
          clear d0
          have s8 := hB8.size
          have hB18 : Below W1.heap.size W1 w8 := hB17.trans (hB8.mono (by omega))
          have hB08 : Below w.heap.size w w8 := hBw.trans (hB18.mono hBw.size)
          cases e5 : p.posts.all kindOk with
          | false =>
            go_wp2_with fail
            go_ret
            exact ⟨ret_int (by rw [E.out, e1, e2, e3, e4, e5]; simp), hB08⟩
          | true =>
            obtain ⟨d0, d1, d2⟩ := BX.out w8 hB18
            go_wp2_with fail
            refine (queuesInRange_any p _ _ _ _ _ _ _ _ _ _ HL.out.1 HL.out.2.1 (by omega) (K2.out.keep hB18)).mono ?_
            rintro e w9 ⟨rfl, hB9⟩
            clear d0 d1 d2
            have s9 := hB9.size
            have hB19 : Below W1.heap.size W1 w9 := hB18.trans (hB9.mono (by omega))
            have hB09 : Below w.heap.size w w9 := hBw.trans (hB19.mono hBw.size)
            cases e6 : p.queues.all (qOk n1) with
            | false =>
              go_wp2_with fail
              go_ret
              exact ⟨ret_int (by rw [E.out, e1, e2, e3, e4, e5, HL.out.1, e6]; simp), hB09⟩
            | true =>
              obtain ⟨d0, d1, d2⟩ := BX.out w9 hB19
              go_wp2_with fail
              refine (bindsInRange_any p _ _ _ _ _ _ _ _ _ _ HL.out.2.2 (by omega) (K3.out.keep hB19)).mono ?_
              rintro e w10 ⟨rfl, hB10⟩
              clear d0 d1 d2
              have s10 := hB10.size
              have hB110 : Below W1.heap.size W1 w10 := hB19.trans (hB10.mono (by omega))
              have hB010 : Below w.heap.size w w10 := hBw.trans (hB110.mono hBw.size)
              cases e7 : p.binds.all (bOk n1 n2) with
              | false =>
                go_wp2_with fail
                go_ret
                exact ⟨ret_int (by rw [E.out, e1, e2, e3, e4, e5, HL.out.1, HL.out.2.1, e6, e7]; simp), hB010⟩
              | true =>
                obtain ⟨d0, d1, d2⟩ := BX.out w10 hB110
                go_wp2_with fail
                refine (patternError_plan p.binds _ _ _ _ HL.out.2.2 (by omega) (K3.out.keep hB110)).mono ?_
                rintro e w11 ⟨rfl, hB11⟩
                clear d0 d1 d2
                go_wp2_with fail
                go_ret
                exact ⟨ret_int (by rw [E.out, e1, e2, e3, e4, e5, HL.out.1, HL.out.2.1, e6, e7]; simp), hB010.trans (hB11.mono (by omega))⟩

theorem check_any (p : PlanD) (a1 a2 a3 : Option Addr) (n1 c1 n2 c2 n3 c3 : Nat) (w : World) (h1 : p.posts.length = n1) (h2 : p.queues.length = n2) (h3 : p.binds.length = n3)
    (hs : Sized p) (k1 : PostsAt w a1 p.posts) (k2 : QueuesAt w a2 p.queues) (k3 : BindsAt w a3 p.binds) :
    Calls Try.prog 27 #[.agg #[.slice a1 n1 c1, .slice a2 n2 c2, .slice a3 n3 c3]] w fun e w' => e = .returned (.int .i64 (chkP p)) ∧ Below w.heap.size w w' := by
  by_cases h : 4 < n1 ∨ 4 < n2 ∨ 10 < n3
  · exact check_many p a1 a2 a3 n1 c1 n2 c2 n3 c3 w h1 h2 h3 h
  · exact check_few p a1 a2 a3 n1 c1 n2 c2 n3 c3 w h1 h2 h3 h hs k1 k2 k3
end Go.Proofs.Ythhkpgnjpieckaa
