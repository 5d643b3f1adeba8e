/- mailcoachref.CheckPlan. -/
import Derived.Laws.AppendOwnNone
import Derived.Test.YthhkpgnjpieckaaCp
namespace Go.Proofs.Ythhkpgnjpieckaa
set_option linter.unusedVariables false
set_option maxRecDepth 100000
open Go.RowKit

theorem grown_refl (w : World) (row : Option Nat) : w.grownBy w row := ⟨rfl, rfl, rfl, Nat.le_refl _, fun _ _ _ => rfl⟩

/-- 'append(out, texts...)', out the call's own, the texts wherever they lie. -/
theorem append_texts {w : World} {ops : Array Oper} {rest : List Oper} {o : Oper} {act : Act} {Q : Exit → Act → World → Prop} (hgd : o.guard = none) (s x : Operand)
    (ho : o.op = .call { callee := .builtin .append, args := #[s, x], argTypes := #[22, 22] })
    (base : Nat) (i0 : TypeInfo) (hi : Try.prog.info? 9 = some i0) (hz0 : i0.zero = some (.string ⟨#[]⟩)) (hz1 : i0.size = 1) (hz2 : i0.bytes = 16)
    (v : Value) (n : Nat) (xs : List Value) (hs : act.eval s = v) (hown : w.ownsRow base 9 1 v n xs)
    (a : Option Addr) (m c : Nat) (ys : List ByteArray) (hx : act.eval x = .slice a m c) (hm : ys.length = m) (hz : a = none → c = 0 ∧ ys = []) (hT : TextsAt w a ys)
    (hb : n + m ≤ 1000) (hbase : base ≤ w.heap.size)
    (h : ∀ v' w', w'.ownsRow base 9 1 v' (n + m) (xs ++ ys.map Value.string) → w.grownBy w' v.ownBlock → wpList Try.prog ops Q rest (act.put o.dst v') w') : wpList Try.prog ops Q (o :: rest) act w := by
  cases a with
  | none =>
    obtain ⟨rfl, rfl⟩ := hz rfl
    simp at hm
    subst hm
    exact wpList_append_own_none hgd s x _ ho base 9 i0 1 Try.underlying22 hi v n xs hs hown hx (by
      have := h v w (by simpa using hown) (grown_refl _ _)
      exact this)
  | some ad =>
    refine wpList_append_own _ hgd s x _ ho base 9 i0 (.string ⟨#[]⟩) 1 16 Try.underlying22 hi hz0 hz1 hz2 rfl (by decide) v n xs hs hown ad m c (ys.map Value.string) hx (by simp [hm]) ?_ (by simp [Value.oneCell']) (by unfold maxLen; omega) (by omega) hbase (fun v' w' h1 h2 _ => h v' w' h1 h2)
    intro j u hj
    rcases hT with rfl | ⟨g, off, hg, hT⟩
    · simp at hj
    · cases hg
      have hjl : j < ys.length := by
        rcases Nat.lt_or_ge j ys.length with h | h
        · exact h
        · rw [List.getElem?_eq_none (by simpa using h)] at hj; cases hj
      have := hT j hjl
      simp [hjl] at hj
      rw [← hj]
      by_cases hj0 : j = 0
      · subst hj0; simpa [Addr.add] using this
      · simpa [Addr.add, hj0] using this

set_option maxRecDepth 100000 in
set_option maxHeartbeats 2000000 in
theorem rcheck_many (p : PlanD) (a1 a2 a3 : Option Addr) (n1 c1 n2 c2 n3 c3 : Nat) (w : World) (h1 : p.posts.length = n1) (h2 : p.queues.length = n2) (h3 : p.binds.length = n3) (h : 4 < n1 ∨ 4 < n2 ∨ 10 < n3) :
    Calls Try.prog 28 #[.agg #[.slice a1 n1 c1, .slice a2 n2 c2, .slice a3 n3 c3]] w fun e w' => e = .returned (.int .i64 (chkP p)) ∧ Below w.heap.size w w' := by
  rw [chk_many (by rw [h1, h2, h3]; exact h)]
  clear h1 h2 h3
  have hc : (4 : Int) < n1 ∨ (¬ (4 : Int) < n1 ∧ (4 : Int) < n2) ∨ (¬ (4 : Int) < n1 ∧ ¬ (4 : Int) < n2 ∧ (10 : Int) < n3) := by omega
  clear h
  rcases hc with q1 | ⟨q1, q2⟩ | ⟨q1, q2, q3⟩
  all_goals
    go_enter Try.func28, Try.ntmps28
    go_wp2_with fail
    go_ret
    exact ⟨rfl, (Below.refl _ _).alloc (Nat.le_refl _) _⟩

set_option maxRecDepth 100000 in
set_option maxHeartbeats 8000000 in
theorem rcheck_few (p : PlanD) (a1 a2 a3 : Option Addr) (n1 c1 n2 c2 n3 c3 : Nat) (w : World) (h1 : p.posts.length = n1) (h2 : p.queues.length = n2) (h3 : p.binds.length = n3) (h : ¬ (4 < n1 ∨ 4 < n2 ∨ 10 < n3))
    (hs : Sized p) (k1 : PostsAt w a1 p.posts) (k2 : QueuesAt w a2 p.queues) (k3 : BindsAt w a3 p.binds) :
    Calls Try.prog 28 #[.agg #[.slice a1 n1 c1, .slice a2 n2 c2, .slice a3 n3 c3]] w fun e w' => e = .returned (.int .i64 (chkP p)) ∧ Below w.heap.size w w' := by
  obtain ⟨i0, hi, hz0, hz1, hz2⟩ := info_parts Try.info9
  have hn : ¬ (4 < p.posts.length ∨ 4 < p.queues.length ∨ 10 < p.binds.length) := by rw [h1, h2, h3]; exact h
  have q1 : ¬ (4 : Int) < n1 := by omega
  have q2 : ¬ (4 : Int) < n2 := by omega
  have q3 : ¬ (10 : Int) < n3 := by omega
  have E : Hid (chkP p = if ((p.posts.map PostD.name).all (fun x => nameOk x.data.toList) && (p.queues.map QueueD.name).all (fun x => nameOk x.data.toList)) = false then 4
    else if (dupB (p.posts.map PostD.name) || dupB (p.queues.map QueueD.name)) = true then 6
    else if p.posts.all kindOk = false then 7
    else if (p.queues.all (qOk p.posts.length) && p.binds.all (bOk p.posts.length p.queues.length)) = false then 3
    else patErr p.binds) := by show chkP p = _; unfold chkP; rw [if_neg hn]
  have HL : Hid (p.posts.length = n1 ∧ p.queues.length = n2 ∧ p.binds.length = n3) := ⟨h1, h2, h3⟩
  have HS : Hid (Sized p) := hs
  have h4 : n1 ≤ 4 ∧ n2 ≤ 4 ∧ n3 ≤ 10 := by omega
  obtain ⟨h41, h42, h43⟩ := h4
  obtain ⟨b0, b1, b2⟩ := plan_box w (.slice a1 n1 c1) (.slice a2 n2 c2) (.slice a3 n3 c3) 40
  obtain ⟨W1, hW1⟩ : ∃ W1, W1 = w.alloc (.cells #[.slice a1 n1 c1, .slice a2 n2 c2, .slice a3 n3 c3] 40) := ⟨_, rfl⟩
  rw [← hW1] at b0 b1 b2
  have hBw : Below w.heap.size w W1 := by rw [hW1]; exact (Below.refl _ _).alloc (Nat.le_refl _) _
  have hW1s : W1.heap.size = w.heap.size + 1 := by rw [hW1]; simp
  have hlt1 : w.heap.size < W1.heap.size := by omega
  have K1 : Hid (PostsAt W1 a1 p.posts) := k1.keep hBw
  have K2 : Hid (QueuesAt W1 a2 p.queues) := k2.keep hBw
  have K3 : Hid (BindsAt W1 a3 p.binds) := k3.keep hBw
  have BX : Hid (∀ W, Below W1.heap.size W1 W → W.cell? ⟨w.heap.size, 0, none⟩ = some (.slice a1 n1 c1) ∧ W.cell? ⟨w.heap.size, 1, none⟩ = some (.slice a2 n2 c2) ∧ W.cell? ⟨w.heap.size, 2, none⟩ = some (.slice a3 n3 c3)) := fun W hW =>
    ⟨(hW.cell (p := ⟨w.heap.size, 0, none⟩) hlt1).trans b0, (hW.cell (p := ⟨w.heap.size, 1, none⟩) hlt1).trans b1, (hW.cell (p := ⟨w.heap.size, 2, none⟩) hlt1).trans b2⟩
  clear b0 b1 b2 k1 k2 k3 h1 h2 h3 h hn hs hW1s
  obtain ⟨ps, hps⟩ : ∃ ps, ps = p.posts.map PostD.name := ⟨_, rfl⟩
  obtain ⟨qs, hqs⟩ : ∃ qs, qs = p.queues.map QueueD.name := ⟨_, rfl⟩
  have HPS : Hid (ps = p.posts.map PostD.name) := hps
  have HQS : Hid (qs = p.queues.map QueueD.name) := hqs
  have LPS : Hid (ps.length = n1) := by rw [hps, List.length_map]; exact HL.out.1
  have LQS : Hid (qs.length = n2) := by rw [hqs, List.length_map]; exact HL.out.2.1
  rw [← hps, ← hqs] at E
  clear hps hqs
  have HW1 : Hid (W1 = w.alloc (.cells #[.slice a1 n1 c1, .slice a2 n2 c2, .slice a3 n3 c3] 40)) := hW1
  clear hW1
  go_enter Try.func28, Try.ntmps28
  go_wp2_with fail
  go_loopw [3, 5] (fun v i wr => ∃ k : Nat, k ≤ n1 ∧ i = .int .i64 k ∧ wr.ownsRow W1.heap.size 9 1 v k ((ps.take k).map Value.string) ∧ Below W1.heap.size W1 wr) (fun _ i _ => n1 - (intOf i).toNat)
  case atStart => exact ⟨0, Nat.zero_le _, rfl, World.ownsRow_nil _ _ _ _, by rw [HW1.out]; exact Below.refl _ _⟩
  case round =>
    obtain ⟨k, hk, rfl, hown, hB⟩ := hrel
    have hBs := hB.size
    obtain ⟨d0, d1, d2⟩ := BX.out wr hB
    by_cases hlt : k < n1
    · have hkl : k < p.posts.length := by rw [HL.out.1]; exact hlt
      obtain ⟨g, o, rfl, hg, hx⟩ := K1.out.cells (by omega)
      have c1 := (hB.cell (p := ⟨g, o + k * 2, none⟩) hg).trans (hx k hkl).1
      obtain ⟨nm, hnm⟩ : ∃ nm, nm = p.posts[k].name := ⟨_, rfl⟩
      rw [← hnm] at c1
      have HX : Hid (ps.take (k + 1) = ps.take k ++ [nm]) := by
        show ps.take (k + 1) = _
        rw [List.take_succ_eq_append_getElem (by rw [LPS.out]; exact hlt)]
        simp [HPS.out, hnm]
      clear hx hnm
      go_wp2_with (at_builtin; refine wpList_append_own _ rfl _ _ 22 rfl W1.heap.size 9 i0 (.string ⟨#[]⟩) 1 16 Try.underlying22 hi hz0 hz1 hz2 rfl (by decide) _ _ _ rfl (hown.alloc _) ⟨wr.heap.size, 0, none⟩ 1 1 [.string nm] rfl rfl (cell_one_new _ _ _) (by simp [Value.oneCell']) (by unfold maxLen; omega) (by omega) (by simp; omega) ?_; intro v' w2 hown' hgrow _)
      have hB2 : Below W1.heap.size W1 w2 := (hB.alloc hBs _).grown hgrow (by simp; omega) (own_ge hown)
      go_roundw
      case rel => exact ⟨k + 1, by omega, by go_num, by rw [HX.out]; simpa using hown', hB2⟩
      case measure => simp [intOf]; omega
    · obtain rfl : n1 = k := by omega
      have hrow : wr.ownsRow W1.heap.size 9 1 u3 ps.length (ps.map Value.string) := by
        have h := hown
        rw [List.take_of_length_le (by rw [LPS.out]; exact Nat.le_refl _), ← LPS.out] at h
        exact h
      have HR : Hid (wr.ownsRow W1.heap.size 9 1 u3 ps.length (ps.map Value.string)) := hrow
      clear hown hrow hk hlt
      go_wp2_with fail
      obtain ⟨w2, hw2⟩ : ∃ w2, w2 = wr := ⟨_, rfl⟩
      rw [← hw2] at hB HR d0 d1 d2 hBs ⊢
      clear hw2 d0 d1 d2
      clear wr
      go_loopw [4, 6] (fun v i wr => ∃ k : Nat, k ≤ n2 ∧ i = .int .i64 k ∧ wr.ownsRow w2.heap.size 9 1 v k ((qs.take k).map Value.string) ∧ Below w2.heap.size w2 wr) (fun _ i _ => n2 - (intOf i).toNat)
      case atStart => exact ⟨0, Nat.zero_le _, rfl, World.ownsRow_nil _ _ _ _, Below.refl _ _⟩
      case round =>
        obtain ⟨k, hk, rfl, hown, hB3⟩ := hrel
        have hBs3 := hB3.size
        have hB13 : Below W1.heap.size W1 wr := hB.trans (hB3.mono hBs)
        obtain ⟨d0, d1, d2⟩ := BX.out wr hB13
        by_cases hlt : k < n2
        · have hkl : k < p.queues.length := by rw [HL.out.2.1]; exact hlt
          obtain ⟨g, o, rfl, hg, hx⟩ := K2.out.cells (by omega)
          have c1 := (hB13.cell (p := ⟨g, o + k * 3, none⟩) hg).trans (hx k hkl).1
          obtain ⟨nm, hnm⟩ : ∃ nm, nm = p.queues[k].name := ⟨_, rfl⟩
          rw [← hnm] at c1
          have HX : Hid (qs.take (k + 1) = qs.take k ++ [nm]) := by
            show qs.take (k + 1) = _
            rw [List.take_succ_eq_append_getElem (by rw [LQS.out]; exact hlt)]
            simp [HQS.out, hnm]
          clear hx hnm
          go_wp2_with (at_builtin; refine wpList_append_own _ rfl _ _ 22 rfl w2.heap.size 9 i0 (.string ⟨#[]⟩) 1 16 Try.underlying22 hi hz0 hz1 hz2 rfl (by decide) _ _ _ rfl (hown.alloc _) ⟨wr.heap.size, 0, none⟩ 1 1 [.string nm] rfl rfl (cell_one_new _ _ _) (by simp [Value.oneCell']) (by unfold maxLen; omega) (by omega) (by simp; omega) ?_; intro v' w3 hown' hgrow _)
          have hB4 : Below w2.heap.size w2 w3 := (hB3.alloc hBs3 _).grown hgrow (by simp; omega) (own_ge hown)
          go_roundw
          case rel => exact ⟨k + 1, by omega, by go_num, by rw [HX.out]; simpa using hown', hB4⟩
          case measure => simp [intOf]; omega
        · obtain rfl : n2 = k := by omega
          have hrow : wr.ownsRow w2.heap.size 9 1 u4 qs.length (qs.map Value.string) := by
            have h := hown
            rw [List.take_of_length_le (by rw [LQS.out]; exact Nat.le_refl _), ← LQS.out] at h
            exact h
          obtain ⟨ap, cp, hu3, ⟨hcp, hzp⟩, hmp, hap⟩ := own_slice HR.out
          obtain ⟨aq, cq, hu4, ⟨hcq, hzq⟩, hmq, haq⟩ := own_slice hrow
          rw [LPS.out] at hu3 hcp
          rw [LQS.out] at hu4 hcq
          have HZ : Hid ((ap = none → cp = 0 ∧ ps = []) ∧ (aq = none → cq = 0 ∧ qs = [])) := ⟨hzp, hzq⟩
          have HAP : Hid (TextsAt wr ap ps) := hap.keep hB3
          have HAQ : Hid (TextsAt wr aq qs) := haq
          clear hown hrow hk hlt HR hap haq d0 d2 hzp hzq
          subst hu3 hu4
          go_wp2_with (first
            | (at_builtin; refine append_texts rfl (.tmp 64) (.tmp 65) rfl wr.heap.size i0 hi hz0 hz1 hz2 _ 0 [] rfl (World.ownsRow_made wr #[] 0 (Nat.le_refl _) (Nat.zero_le _) rfl) ap n1 cp ps rfl LPS.out HZ.out.1 (HAP.out.keep ((Below.refl _ _).alloc (Nat.le_refl _) _)) (by omega) (by simp) ?_; intro v5 w5 hown5 hgrow5; have hB5 : Below wr.heap.size wr w5 := ((Below.refl _ _).alloc (Nat.le_refl _) _).grown hgrow5 (by simp) (fun k e => by cases e; exact Nat.le_refl _))
            | (at_builtin; refine append_texts rfl (.tmp 66) (.tmp 67) rfl wr.heap.size i0 hi hz0 hz1 hz2 _ _ _ rfl hown5 aq n2 cq qs rfl LQS.out HZ.out.2 (HAQ.out.keep hB5) (by omega) hB5.size ?_; intro v6 w6 hown6 hgrow6; have hB6 : Below wr.heap.size wr w6 := hB5.grown hgrow6 hB5.size (own_ge hown5)))
          have hB1r : Below W1.heap.size W1 wr := hB13
          have hB16 : Below W1.heap.size W1 w6 := hB1r.trans (hB6.mono (by omega))
          have hown7 : w6.ownsRow wr.heap.size 9 1 v6 (ps ++ qs).length ((ps ++ qs).map Value.string) := by
            have h := hown6
            simp only [List.nil_append, Nat.zero_add] at h
            rw [List.length_append, LPS.out, LQS.out, List.map_append]; exact h
          obtain ⟨aa, ca, hv6, _, _, haa⟩ := own_slice hown7
          obtain ⟨nn, hnn⟩ : ∃ nn, nn = (ps ++ qs).length := ⟨_, rfl⟩
          have hn8 : nn ≤ 8 := by rw [hnn, List.length_append, LPS.out, LQS.out]; omega
          have HNN : Hid ((ps ++ qs).length = nn) := hnn.symm
          have HAA : Hid (TextsAt w6 aa (ps ++ qs)) := haa
          have HP6 : Hid (TextsAt w6 ap ps) := HAP.out.keep hB6
          have HQ6 : Hid (TextsAt w6 aq qs) := HAQ.out.keep hB6
          have HSZ : Hid (∀ x ∈ ps ++ qs, x.size ≤ maxLen) := by
            intro x hx
            rcases List.mem_append.1 hx with h | h
            · rw [HPS.out] at h; exact HS.out.1 x h
            · rw [HQS.out] at h; exact HS.out.2 x h
          have E2 : Hid (chkP p = if (ps ++ qs).all (fun x => nameOk x.data.toList) = false then 4
            else if (dupB ps || dupB qs) = true then 6
            else if p.posts.all kindOk = false then 7
            else if (p.queues.all (qOk p.posts.length) && p.binds.all (bOk p.posts.length p.queues.length)) = false then 3
            else patErr p.binds) := by show chkP p = _; rw [E.out, List.all_append]
          rw [← hnn] at hv6
          subst hv6
          clear hnn hown7 haa hown6 hgrow6 hown5 hgrow5 HAP HAQ HZ hB3 hB5 hBs3 d1 E
          have s6 := hB16.size
          clear hB13 hB1r hB6
          go_loop [8] (fun i => ∃ k : Nat, k ≤ nn ∧ i = .int .i64 k ∧ ∀ x ∈ (ps ++ qs).take k, nameOk x.data.toList = true) (fun i => nn - (intOf i).toNat)
          case atStart => exact ⟨0, Nat.zero_le _, rfl, by simp⟩
          case round =>
            obtain ⟨k, hk, rfl, ha⟩ := hrel
            have HA : Hid (∀ x ∈ (ps ++ qs).take k, nameOk x.data.toList = true) := ha
            clear ha
            have hB06 : Below w.heap.size w w6 := hBw.trans (hB16.mono hBw.size)
            by_cases hlt : k < nn
            · have hkl : k < (ps ++ qs).length := by rw [HNN.out]; exact hlt
              obtain ⟨g, o, rfl, hg, ht⟩ := HAA.out.cells (by omega)
              have c1 := ht k hkl
              obtain ⟨x, hxx⟩ : ∃ x, x = (ps ++ qs)[k] := ⟨_, rfl⟩
              have hxs : x.size ≤ maxLen := HSZ.out x (by rw [hxx]; exact List.getElem_mem hkl)
              rw [← hxx] at c1
              have HX : Hid (x = (ps ++ qs)[k]) := hxx
              have HKL : Hid (k < (ps ++ qs).length) := hkl
              clear ht hxx
              cases hb : nameOk x.data.toList with
              | true =>
                go_wp2_with (go_at_call 30; refine (isName_any _ _ hxs).mono ?_; rintro e w1 ⟨rfl, rfl⟩)
                go_round
                case rel => exact ⟨k + 1, by omega, by go_num, take_all_snoc (p := fun x => nameOk x.data.toList) HKL.out HA.out (by rw [← HX.out]; exact hb)⟩
                case measure => simp [intOf]; omega
              | false =>
                go_wp2_with (go_at_call 30; refine (isName_any _ _ hxs).mono ?_; rintro e w1 ⟨rfl, rfl⟩)
                go_ret
                exact ⟨ret_int (by rw [E2.out, all_false_get (p := fun x => nameOk x.data.toList) HKL.out (by rw [← HX.out]; exact hb)]; simp), hB06⟩
            · have E3 : Hid (chkP p = if (dupB ps || dupB qs) = true then 6
                else if p.posts.all kindOk = false then 7
                else if (p.queues.all (qOk p.posts.length) && p.binds.all (bOk p.posts.length p.queues.length)) = false then 3
                else patErr p.binds) := by
                show chkP p = _
                rw [E2.out, all_of_take (p := fun x => nameOk x.data.toList) HNN.out hlt HA.out]; simp
              clear E2 HA HAA
              go_wp2_with fail
              refine (twice_any ps _ _ _ _ LPS.out (by omega) HP6.out).mono ?_
              rintro e w7 ⟨rfl, m7, rfl⟩
              obtain ⟨w7, hw7⟩ : ∃ w7, w7 = w6.drewN m7 := ⟨_, rfl⟩
              have hB67 : Below w6.heap.size w6 w7 := by rw [hw7]; exact below_drewN _ _
              rw [← hw7]
              clear hw7
              have HQ7 : Hid (TextsAt w7 aq qs) := HQ6.out.keep hB67
              have s7 := hB67.size
              cases e3 : dupB ps with
              | true =>
                go_wp2_with fail
                go_ret
                exact ⟨ret_int (by rw [E3.out, e3]; simp), hB06.trans (hB67.mono (by have := hB06.size; omega))⟩
              | false =>
                go_wp2_with fail
                refine (twice_any qs _ _ _ _ LQS.out (by omega) HQ7.out).mono ?_
                rintro e w8 ⟨rfl, m8, rfl⟩
                obtain ⟨w8, hw8⟩ : ∃ w8, w8 = w7.drewN m8 := ⟨_, rfl⟩
                have hB78 : Below w7.heap.size w7 w8 := by rw [hw8]; exact below_drewN _ _
                rw [← hw8]
                clear hw8
                have s8 := hB78.size
                have hB18 : Below W1.heap.size W1 w8 := hB16.trans ((hB67.mono (by omega)).trans (hB78.mono (by omega)))
                have hB08 : Below w.heap.size w w8 := hBw.trans (hB18.mono hBw.size)
                cases e4 : dupB qs with
                | true =>
                  go_wp2_with fail
                  go_ret
                  exact ⟨ret_int (by rw [E3.out, e3, e4]; simp), hB08⟩
                | false =>
                  have E4 : Hid (chkP p = if p.posts.all kindOk = false then 7
                    else if (p.queues.all (qOk p.posts.length) && p.binds.all (bOk p.posts.length p.queues.length)) = false then 3
                    else patErr p.binds) := by show chkP p = _; rw [E3.out, e3, e4]; simp
                  clear E3 HQ7 HQ6 HP6 hB67 hB78 hB06 HNN HSZ
                  go_wp2_with fail
                  obtain ⟨d0, d1, d2⟩ := BX.out w8 hB18
                  go_loop [9] (fun i => ∃ k : Nat, k ≤ n1 ∧ i = .int .i64 k ∧ ∀ x ∈ p.posts.take k, kindOk x = true) (fun i => n1 - (intOf i).toNat)
                  case atStart => exact ⟨0, Nat.zero_le _, rfl, by simp⟩
                  case round =>
                    obtain ⟨k, hk, rfl, ha⟩ := hrel
                    have HA : Hid (∀ x ∈ p.posts.take k, kindOk x = true) := ha
                    clear ha
                    by_cases hlt : k < n1
                    · have hkl : k < p.posts.length := by rw [HL.out.1]; exact hlt
                      obtain ⟨g, o, rfl, hg, hx⟩ := K1.out.cells (by omega)
                      have c1 := (hB18.cell (p := ⟨g, o + k * 2 + 1, none⟩) hg).trans (hx k hkl).2
                      obtain ⟨kd, hkd⟩ : ∃ kd, kd = p.posts[k].kind := ⟨_, rfl⟩
                      rw [← hkd] at c1
                      have HK : Hid (kindOk p.posts[k] = inR kd 1 3) := by rw [hkd]; rfl
                      clear hx hkd
                      cases hb : inR kd 1 3 with
                      | true =>
                        go_wp2_with (go_at_call 74; refine (within_any _ _ _ _).mono ?_; rintro e w1 ⟨rfl, rfl⟩)
                        go_round
                        case rel => exact ⟨k + 1, by omega, by go_num, take_all_snoc hkl HA.out (by rw [HK.out]; exact hb)⟩
                        case measure => simp [intOf]; omega
                      | false =>
                        go_wp2_with (go_at_call 74; refine (within_any _ _ _ _).mono ?_; rintro e w1 ⟨rfl, rfl⟩)
                        go_ret
                        exact ⟨ret_int (by rw [E4.out, all_false_get hkl (by rw [HK.out]; exact hb)]; simp), hB08⟩
                    · have E5 : Hid (chkP p = if (p.queues.all (qOk n1) && p.binds.all (bOk n1 n2)) = false then 3 else patErr p.binds) := by
                        show chkP p = _
                        rw [E4.out, all_of_take HL.out.1 hlt HA.out, HL.out.1, HL.out.2.1]; simp
                      clear E4 HA
                      go_wp2_with fail
                      go_loop [10] (fun i => ∃ k : Nat, k ≤ n2 ∧ i = .int .i64 k ∧ ∀ x ∈ p.queues.take k, qOk n1 x = true) (fun i => n2 - (intOf i).toNat)
                      case atStart => exact ⟨0, Nat.zero_le _, rfl, by simp⟩
                      case round =>
                        obtain ⟨k, hk, rfl, ha⟩ := hrel
                        have HA : Hid (∀ x ∈ p.queues.take k, qOk n1 x = true) := ha
                        clear ha
                        by_cases hlt : k < n2
                        · have hkl : k < p.queues.length := by rw [HL.out.2.1]; exact hlt
                          obtain ⟨g, o, rfl, hg, hx⟩ := K2.out.cells (by omega)
                          have e1 := (hB18.cell (p := ⟨g, o + k * 3 + 1, none⟩) hg).trans (hx k hkl).2.1
                          have e2 := (hB18.cell (p := ⟨g, o + k * 3 + 2, none⟩) hg).trans (hx k hkl).2.2
                          obtain ⟨lm, hlm⟩ : ∃ lm, lm = p.queues[k].limit := ⟨_, rfl⟩
                          obtain ⟨dd, hdd⟩ : ∃ dd, dd = p.queues[k].dead := ⟨_, rfl⟩
                          rw [← hlm] at e1
                          rw [← hdd] at e2
                          have HK : Hid (qOk n1 p.queues[k] = (inR lm 1 6 && inR dd (-1) (n1 - 1))) := by rw [hlm, hdd]; rfl
                          clear hx hlm hdd
                          cases hb : inR lm 1 6 with
                          | false =>
                            go_wp2_with (go_at_call 74; refine (within_any _ _ _ _).mono ?_; rintro e w1 ⟨rfl, rfl⟩)
                            go_ret
                            exact ⟨ret_int (by rw [E5.out, all_false_get hkl (by rw [HK.out, hb]; rfl)]; simp), hB08⟩
                          | true =>
                            cases hb2 : inR dd (-1) (n1 - 1) with
                            | false =>
                              go_wp2_with (go_at_call 74; refine (within_any _ _ _ _).mono ?_; rintro e w1 ⟨rfl, rfl⟩)
                              go_ret
                              exact ⟨ret_int (by rw [E5.out, all_false_get hkl (by rw [HK.out, hb, hb2]; rfl)]; simp), hB08⟩
                            | true =>
                              go_wp2_with (go_at_call 74; refine (within_any _ _ _ _).mono ?_; rintro e w1 ⟨rfl, rfl⟩)
                              go_round
                              case rel => exact ⟨k + 1, by omega, by go_num, take_all_snoc hkl HA.out (by rw [HK.out, hb, hb2]; rfl)⟩
                              case measure => simp [intOf]; omega
                        · have E6 : Hid (chkP p = if p.binds.all (bOk n1 n2) = false then 3 else patErr p.binds) := by
                            show chkP p = _
                            rw [E5.out, all_of_take HL.out.2.1 hlt HA.out]; simp
                          clear E5 HA
                          go_wp2_with fail
                          clear d0 d1 d2
                          go_loopw [11, 12, 13] (fun i _ _ wr => ∃ k : Nat, k ≤ n3 ∧ i = .int .i64 k ∧ (∀ x ∈ p.binds.take k, bOk n1 n2 x = true) ∧ Below W1.heap.size W1 wr) (fun i _ _ _ => n3 - (intOf i).toNat)
                          case atStart => exact ⟨0, Nat.zero_le _, rfl, by simp, hB18⟩
                          case round =>
                            clear hB18 hB08
                            obtain ⟨k, hk, rfl, ha, hB9⟩ := hrel
                            have HA : Hid (∀ x ∈ p.binds.take k, bOk n1 n2 x = true) := ha
                            clear ha
                            have s9 := hB9.size
                            have hB09 : Below w.heap.size w wr := hBw.trans (hB9.mono hBw.size)
                            obtain ⟨d0, d1, d2⟩ := BX.out wr hB9
                            by_cases hlt : k < n3
                            · have hkl : k < p.binds.length := by rw [HL.out.2.2]; exact hlt
                              obtain ⟨g, o, rfl, hg, hx⟩ := K3.out.cells (by omega)
                              have e1 := (hB9.cell (p := ⟨g, o + k * 4, none⟩) hg).trans (hx k hkl).1
                              have e2 := (hB9.cell (p := ⟨g, o + k * 4 + 1, none⟩) hg).trans (hx k hkl).2.1
                              have e3' := (hB9.cell (p := ⟨g, o + k * 4 + 2, none⟩) hg).trans (hx k hkl).2.2.1
                              have e4' := (hB9.cell (p := ⟨g, o + k * 4 + 3, none⟩) hg).trans (hx k hkl).2.2.2
                              obtain ⟨x, hxx⟩ : ∃ x, x = p.binds[k] := ⟨_, rfl⟩
                              rw [← hxx] at e1 e2 e3' e4'
                              have HX : Hid (x = p.binds[k]) := hxx
                              clear hx hxx
                              obtain ⟨f, tp, t, pt⟩ := x
                              dsimp only at e1 e2 e3' e4'
                              have HK : Hid (bOk n1 n2 p.binds[k] = (inR f 0 (n1 - 1) && inR t 0 ((if tp then n1 else n2 : Nat) - 1))) := by
                                rw [← HX.out]; show bOk n1 n2 ⟨f, tp, t, pt⟩ = _; unfold bOk isNum inR; dsimp only; rw [Bool.eq_iff_iff]; simp; omega
                              clear HX
                              cases hb : inR f 0 (n1 - 1) with
                              | false =>
                                cases tp
                                all_goals
                                  go_wp2_with (go_at_call 74; refine (within_any _ _ _ _).mono ?_; rintro e w1 ⟨rfl, rfl⟩)
                                  go_ret
                                  exact ⟨ret_int (by rw [E6.out, all_false_get hkl (by rw [HK.out, hb]; rfl)]; simp), hB09.alloc (by have := hBw.size; omega) _⟩
                              | true =>
                                cases tp with
                                | false =>
                                  cases hb2 : inR t 0 (n2 - 1) with
                                  | false =>
                                    go_wp2_with (go_at_call 74; refine (within_any _ _ _ _).mono ?_; rintro e w1 ⟨rfl, rfl⟩)
                                    go_ret
                                    exact ⟨ret_int (by rw [E6.out, all_false_get hkl (by rw [HK.out, hb]; simpa using hb2)]; simp), hB09.alloc (by have := hBw.size; omega) _⟩
                                  | true =>
                                    go_wp2_with (go_at_call 74; refine (within_any _ _ _ _).mono ?_; rintro e w1 ⟨rfl, rfl⟩)
                                    go_roundw
                                    case rel => exact ⟨k + 1, by omega, by go_num, take_all_snoc hkl HA.out (by rw [HK.out, hb]; simpa using hb2), hB9.alloc s9 _⟩
                                    case measure => simp [intOf]; omega
                                | true =>
                                  cases hb2 : inR t 0 (n1 - 1) with
                                  | false =>
                                    go_wp2_with (go_at_call 74; refine (within_any _ _ _ _).mono ?_; rintro e w1 ⟨rfl, rfl⟩)
                                    go_ret
                                    exact ⟨ret_int (by rw [E6.out, all_false_get hkl (by rw [HK.out, hb]; simpa using hb2)]; simp), hB09.alloc (by have := hBw.size; omega) _⟩
                                  | true =>
                                    go_wp2_with (go_at_call 74; refine (within_any _ _ _ _).mono ?_; rintro e w1 ⟨rfl, rfl⟩)
                                    go_roundw
                                    case rel => exact ⟨k + 1, by omega, by go_num, take_all_snoc hkl HA.out (by rw [HK.out, hb]; simpa using hb2), hB9.alloc s9 _⟩
                                    case measure => simp [intOf]; omega
                            · have E7 : Hid (chkP p = patErr p.binds) := by
                                show chkP p = _
                                rw [E6.out, all_of_take HL.out.2.2 hlt HA.out]; simp
                              clear E6 HA
                              go_wp2_with fail
                              clear d0 d1 d2
                              go_loopw [14, 15] (fun i _ wr => ∃ k : Nat, k ≤ n3 ∧ i = .int .i64 k ∧ patErr p.binds = patErr (p.binds.drop k) ∧ Below W1.heap.size W1 wr) (fun i _ _ => n3 - (intOf i).toNat)
                              case atStart => exact ⟨0, Nat.zero_le _, rfl, rfl, hB9⟩
                              case round =>
                                clear hB9 hB09 s9
                                obtain ⟨k, hk, rfl, ha, hB9⟩ := hrel
                                have HA : Hid (patErr p.binds = patErr (p.binds.drop k)) := ha
                                clear ha
                                have s9 := hB9.size
                                have hB09 : Below w.heap.size w wr := hBw.trans (hB9.mono hBw.size)
                                obtain ⟨d0, d1, d2⟩ := BX.out wr hB9
                                by_cases hlt : k < n3
                                · have hkl : k < p.binds.length := by rw [HL.out.2.2]; exact hlt
                                  obtain ⟨g, o, rfl, hg, hx⟩ := K3.out.cells (by omega)
                                  have e4' := (hB9.cell (p := ⟨g, o + k * 4 + 3, none⟩) hg).trans (hx k hkl).2.2.2
                                  obtain ⟨pt, hpt⟩ : ∃ pt, pt = p.binds[k].pat := ⟨_, rfl⟩
                                  rw [← hpt] at e4'
                                  have hd : p.binds.drop k = p.binds[k] :: p.binds.drop (k + 1) := List.drop_eq_getElem_cons hkl
                                  obtain ⟨d, hd2⟩ : ∃ d, d = perr pt.data.toList := ⟨_, rfl⟩
                                  have HD : Hid (d = perr pt.data.toList) := hd2
                                  by_cases h0 : d = 0
                                  · have HF : Hid (patErr p.binds = patErr (p.binds.drop (k + 1))) := by
                                      show patErr p.binds = _
                                      rw [HA.out, hd, patErr, if_pos (by rw [← hpt, ← hd2]; exact h0)]
                                    clear hd hd2 hx hpt
                                    subst h0
                                    go_wp2_with (go_at_call 22; refine (patternError_any _ _).mono ?_; rintro e w1 ⟨rfl, hB10⟩; rw [← HD.out])
                                    go_roundw
                                    case rel => exact ⟨k + 1, by omega, by go_num, HF.out, hB9.trans (hB10.mono s9)⟩
                                    case measure => simp [intOf]; omega
                                  · have h0' : (d != 0) = true := bne_iff_ne.2 h0
                                    have HF : Hid (patErr p.binds = d) := by
                                      show patErr p.binds = _
                                      rw [HA.out, hd, patErr, if_neg (by rw [← hpt, ← hd2]; exact h0), ← hpt]; exact hd2.symm
                                    clear hd hd2 h0 hx hpt
                                    go_wp2_with (go_at_call 22; refine (patternError_any _ _).mono ?_; rintro e w1 ⟨rfl, hB10⟩; rw [← HD.out])
                                    go_ret
                                    exact ⟨ret_int (by rw [E7.out, HF.out]), hB09.trans (hB10.mono (by have := hB09.size; omega))⟩
                                · go_wp2_with fail
                                  go_ret
                                  have e : p.binds.drop k = [] := List.drop_eq_nil_of_le (by rw [HL.out.2.2]; omega)
                                  exact ⟨ret_int (by rw [E7.out, HA.out, e]; rfl), hB09⟩

theorem rcheck_any (p : PlanD) (a1 a2 a3 : Option Addr) (n1 c1 n2 c2 n3 c3 : Nat) (w : World) (h1 : p.posts.length = n1) (h2 : p.queues.length = n2) (h3 : p.binds.length = n3)
    (hs : Sized p) (k1 : PostsAt w a1 p.posts) (k2 : QueuesAt w a2 p.queues) (k3 : BindsAt w a3 p.binds) :
    Calls Try.prog 28 #[.agg #[.slice a1 n1 c1, .slice a2 n2 c2, .slice a3 n3 c3]] w fun e w' => e = .returned (.int .i64 (chkP p)) ∧ Below w.heap.size w w' := by
  by_cases h : 4 < n1 ∨ 4 < n2 ∨ 10 < n3
  · exact rcheck_many p a1 a2 a3 n1 c1 n2 c2 n3 c3 w h1 h2 h3 h
  · exact rcheck_few p a1 a2 a3 n1 c1 n2 c2 n3 c3 w h1 h2 h3 h hs k1 k2 k3
end Go.Proofs.Ythhkpgnjpieckaa
