/- mailcoachref.PushOf. -/
import Derived.Test.YthhkpgnjpieckaaLx
namespace Go.Proofs.Ythhkpgnjpieckaa
set_option linter.unusedVariables false
set_option maxRecDepth 100000
open Go.RowKit

theorem lineFrom_rise : ∀ {xs : List ItemD} {last : Int}, lineFrom last xs = true → xs.Pairwise (fun x y => x.seq < y.seq) ∧ ∀ x ∈ xs, last < x.seq
  | [], last, _ => ⟨List.Pairwise.nil, by simp⟩
  | x :: r, last, h => by
    unfold lineFrom at h
    simp only [Bool.and_eq_true, decide_eq_true_eq] at h
    obtain ⟨⟨h1, h2⟩, h3⟩ := h
    obtain ⟨h4, h5⟩ := lineFrom_rise h3
    refine ⟨List.pairwise_cons.2 ⟨h5, h4⟩, ?_⟩
    intro y hy
    rcases List.mem_cons.1 hy with rfl | hy
    · exact h2
    · have := h5 y hy; omega
theorem lineOk_rise {xs : List ItemD} (h : lineOk xs = true) {i j : Nat} (hj : j < xs.length) (hij : i < j) : (xs[i]'(by omega)).seq < xs[j].seq :=
  List.pairwise_iff_getElem.1 (lineFrom_rise h).1 i j (by omega) hj hij
theorem has_yes {xs : List ItemD} (hl : lineOk xs = true) {k : Nat} {s : Int} (hk : k < xs.length) (h : xs[k].seq = s) : pushHas s xs = true := by
  have h1 : idxSeq s xs ≤ k := by
    rcases Nat.lt_or_ge k (idxSeq s xs) with h1 | h1
    · obtain ⟨_, h2⟩ := idx_below h1; omega
    · exact h1
  have h2 := idx_at (s := s) (xs := xs) (by omega)
  have h3 : idxSeq s xs = k := by
    rcases Nat.lt_or_ge (idxSeq s xs) k with h3 | h3
    · have := lineOk_rise hl hk h3; omega
    · omega
  unfold pushHas
  rw [h3, List.getElem?_eq_getElem hk]; simp [h]
theorem has_no {xs : List ItemD} {n k : Nat} {s : Int} (hn : xs.length = n) (hk : ¬ k < n) (h : ∀ j (hj : j < xs.length), j < k → ¬ xs[j].seq = s) : pushHas s xs = false := by
  unfold pushHas
  by_cases h1 : idxSeq s xs < xs.length
  · rw [List.getElem?_eq_getElem h1]; simp [h _ h1 (by omega)]
  · rw [List.getElem?_eq_none (by omega)]; simp

set_option maxHeartbeats 4000000 in
theorem pushOf_any (xs : List ItemD) (a : Option Addr) (n c : Nat) (s d : Int) (ky b : ByteArray) (ag : Bool) (w : World) (hn : xs.length = n) (hm : n ≤ maxLen) (hp : ItemsAt w a xs) :
    Calls Try.prog 43 #[.slice a n c, .agg #[.int .i64 s, .string ky, .string b, .bool ag, .int .i64 d]] w fun e w' => ∃ v m, e = .returned (.tuple #[v, .int .i64 (pushE xs ⟨s, ky, b, ag, d⟩)]) ∧ w'.ownsRow w.heap.size 59 5 v m (itemCells (pushV xs ⟨s, ky, b, ag, d⟩)) ∧ Below w.heap.size w w' := by
  obtain ⟨W1, hW1, hBw, hs1, hbx⟩ := item_box w (.int .i64 s) (.string ky) (.string b) (.bool ag) (.int .i64 d) 59
  have HW1 : Hid (W1 = _) := hW1
  have BX : Hid (∀ W, Below W1.heap.size W1 W → _) := hbx
  have HP : Hid (ItemsAt W1 a xs) := hp.keep hBw
  have HN : Hid (xs.length = n) := hn
  have HM : Hid (n ≤ maxLen) := hm
  have s1 := hBw.size
  obtain ⟨x, hx⟩ : ∃ x : ItemD, x = ⟨s, ky, b, ag, d⟩ := ⟨_, rfl⟩
  have HX : Hid (x = ⟨s, ky, b, ag, d⟩) := hx
  rw [← hx]
  clear hW1 hbx hp hn hm hx
  cases hl : lineOk xs with
  | false =>
    have HE : Hid (pushE xs x = 1 ∧ pushV xs x = []) := by
      have e : pushE xs x = 1 := by unfold pushE; rw [hl]; rfl
      exact ⟨e, by unfold pushV; rw [e]; rfl⟩
    have HL : Hid (lineOk xs = false) := hl
    clear hl
    go_enter Try.func43, Try.ntmps43
    go_wp2_with fail
    rw [← HW1.out]
    refine (lineFine_any xs _ _ _ _ HN.out HM.out HP.out).mono ?_
    rintro e w2 ⟨rfl, hB2⟩
    rw [HL.out]
    go_wp2_with fail
    go_ret2
    exact ⟨_, 0, ret_vi HE.out.1.symm, by rw [HE.out.2]; exact World.ownsRow_nil _ _ _ _, hBw.trans (hB2.mono s1)⟩
  | true =>
    have HL : Hid (lineOk xs = true) := hl
    cases hr : itemOk x with
    | false =>
      have HE : Hid (pushE xs x = 1 ∧ pushV xs x = []) := by
        have e : pushE xs x = 1 := by unfold pushE; rw [hl, hr]; rfl
        exact ⟨e, by unfold pushV; rw [e]; rfl⟩
      have HR : Hid (itemOk ⟨s, ky, b, ag, d⟩ = false) := by show itemOk _ = false; rw [← HX.out]; exact hr
      clear hl hr
      go_enter Try.func43, Try.ntmps43
      go_wp2_with fail
      rw [← HW1.out]
      refine (lineFine_any xs _ _ _ _ HN.out HM.out HP.out).mono ?_
      rintro e w2 ⟨rfl, hB2⟩
      rw [HL.out]
      obtain ⟨d0, d1, d2, d3, d4⟩ := BX.out w2 hB2
      go_wp2_with fail
      refine (itemFine_any _ _ _ _ _ _).mono ?_
      rintro e w3 ⟨rfl, hB3⟩
      rw [HR.out]
      go_wp2_with fail
      go_ret2
      exact ⟨_, 0, ret_vi HE.out.1.symm, by rw [HE.out.2]; exact World.ownsRow_nil _ _ _ _, hBw.trans ((hB2.trans (hB3.mono hB2.size)).mono s1)⟩
    | true =>
      have HF : Hid (n ≤ 1048576) := by have := lineOk_few hl; rw [HN.out] at this; exact this
      have HR : Hid (itemOk ⟨s, ky, b, ag, d⟩ = true) := by show itemOk _ = true; rw [← HX.out]; exact hr
      have HQ : Hid (x.seq = s) := by show x.seq = s; rw [HX.out]
      have HE1 : Hid (pushHas s xs = true → pushE xs x = 6 ∧ pushV xs x = []) := by
        intro h
        have e : pushE xs x = 6 := by unfold pushE; rw [hl, hr, HQ.out, h]; rfl
        exact ⟨e, by unfold pushV; rw [e]; rfl⟩
      have HE0 : Hid (pushHas s xs = false → pushE xs x = 0 ∧ pushV xs x = pushL xs x) := by
        intro h
        have e : pushE xs x = 0 := by unfold pushE; rw [hl, hr, HQ.out, h]; rfl
        exact ⟨e, by unfold pushV; rw [e]; rfl⟩
      clear hl hr
      go_enter Try.func43, Try.ntmps43
      go_wp2_with fail
      rw [← HW1.out]
      refine (lineFine_any xs _ _ _ _ HN.out HM.out HP.out).mono ?_
      rintro e w2 ⟨rfl, hB2⟩
      rw [HL.out]
      obtain ⟨d0, d1, d2, d3, d4⟩ := BX.out w2 hB2
      go_wp2_with fail
      refine (itemFine_any _ _ _ _ _ _).mono ?_
      rintro e w3 ⟨rfl, hB3⟩
      rw [HR.out]
      have hB13 : Below W1.heap.size W1 w3 := hB2.trans (hB3.mono hB2.size)
      clear d0 d1 d2 d3 d4
      have hf' := HF.out
      go_wp2_with fail
      go_loopw [6] (fun i wr => ∃ (k : Nat), k ≤ n ∧ i = .int .i64 k ∧ (∀ j (hj : j < xs.length), j < k → ¬ xs[j].seq = s) ∧ Below W1.heap.size W1 wr) (fun i _ => n - (intOf i).toNat)
      case atStart => exact ⟨0, Nat.zero_le _, rfl, fun j _ h => by omega, hB13⟩
      case round =>
        obtain ⟨k, hk, rfl, hno, hB⟩ := hrel
        have HNO : Hid (∀ j (hj : j < xs.length), j < k → ¬ xs[j].seq = s) := hno
        have hBs := hB.size
        obtain ⟨d0, d1, d2, d3, d4⟩ := BX.out wr hB
        clear hno
        by_cases hlt : k < n
        · have hkl : k < xs.length := by rw [HN.out]; exact hlt
          obtain ⟨g, o, rfl, hg, hx⟩ := HP.out.cells (by omega)
          have c0 := ((hx k hkl).keep hB hg).1
          obtain ⟨q, hq⟩ : ∃ q, q = xs[k].seq := ⟨_, rfl⟩
          rw [← hq] at c0
          have HQ2 : Hid (q = xs[k].seq) := hq
          clear hx hq
          have j1 : (0 : Int) ≤ (k : Int) := by omega
          have j2 : (k : Int) < n := by omega
          by_cases he : q = s
          · have h2 : (q == s) = true := by simpa using he
            have HS : Hid (q = s) := he
            clear he
            go_wp2_with fail
            go_quiet (fail)
            go_wp2_with fail
            go_ret2
            have hh := HE1.out (has_yes HL.out hkl (by rw [← HQ2.out]; exact HS.out))
            exact ⟨_, 0, ret_vi hh.1.symm, by rw [hh.2]; exact World.ownsRow_nil _ _ _ _, hBw.trans ((below_drewL hB).mono s1)⟩
          · have h2 : (q == s) = false := by simpa using he
            have HS : Hid (¬ q = s) := he
            clear he
            go_wp2_with fail
            go_quiet (fail)
            go_wp2_with fail
            go_roundw
            case rel => exact ⟨k + 1, by omega, by go_num, fun j hj h => by
              by_cases e : j = k
              · subst e; rw [← HQ2.out]; exact HS.out
              · exact HNO.out j hj (by omega), below_drewL hB⟩
            case measure => simp [intOf]; omega
        · have HH : Hid (pushHas s xs = false) := has_no HN.out hlt HNO.out
          have HPr := HP.out.keep hB
          go_wp2_with fail
          refine (rpush_any xs _ _ _ _ _ _ _ _ _ HN.out HF.out HPr HH.out).mono ?_
          rintro e w5 ⟨v, m, rfl, hown, hB5⟩
          clear d0 d1 d2 d3 d4
          go_wp2_with fail
          go_ret2
          have hh := HE0.out HH.out
          exact ⟨v, m, ret_vi hh.1.symm, by rw [hh.2, HX.out]; exact own_base hown (by omega), hBw.trans ((hB.trans (hB5.mono hBs)).mono s1)⟩
end Go.Proofs.Ythhkpgnjpieckaa
