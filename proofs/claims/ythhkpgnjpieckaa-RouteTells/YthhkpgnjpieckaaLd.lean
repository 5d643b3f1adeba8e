/- mailcoachref.laid: it calls itself. -/
import Derived.Test.YthhkpgnjpieckaaPm
import Derived.Test.YthhkpgnjpieckaaSt
namespace Go.Proofs.Ythhkpgnjpieckaa
set_option linter.unusedVariables false
set_option maxRecDepth 100000
open Go.RowKit

/-- A slice of texts at whatever address, where there is none. -/
def TextsAt (W : World) (a : Option Addr) (xs : List ByteArray) : Prop := xs = [] ∨ ∃ g o, a = some ⟨g, o, none⟩ ∧ IsTexts W g o xs

theorem TextsAt.cut {W : World} {g o c n : Nat} {xs : List ByteArray} (h : IsTexts W g o xs) (hc : xs.length ≤ c) (A : Option Addr) (hA : A = if c = n then some ⟨g, o, none⟩ else some ⟨g, o + n, none⟩) : TextsAt W A (xs.drop n) := by
  by_cases hn : xs.length ≤ n
  · exact .inl (List.drop_eq_nil_of_le hn)
  · refine .inr ⟨g, o + n, by rw [hA, if_neg (by omega)], fun i hi => ?_⟩
    have := h (n + i) (by simp at hi; omega)
    rw [Nat.add_assoc, this]; simp

theorem TextsAt.cut2 {W : World} {a : Option Addr} {c n : Nat} {xs : List ByteArray} (h : TextsAt W a xs) (hc : xs.length ≤ c) : TextsAt W (if c = n then a else Option.map (fun x => x.add n) a) (xs.drop n) := by
  rcases h with rfl | ⟨g, o, rfl, h⟩
  · exact .inl (by simp)
  · exact TextsAt.cut h hc _ (by by_cases hn : n = 0 <;> simp [Addr.add, hn])

theorem TextsAt.drew {W : World} {a : Option Addr} {xs : List ByteArray} (h : TextsAt W a xs) (n : Nat) : TextsAt (W.drewN n) a xs := h

theorem data_ne {x : ByteArray} {l : List UInt8} (h : x.data.toList ≠ l) : (x.toList == l) = false := by rw [Lib.toList_data]; simpa using h
theorem data_eq {x : ByteArray} {l : List UInt8} (h : x.data.toList = l) : (x.toList == l) = true := by rw [Lib.toList_data]; simpa using h

set_option maxRecDepth 100000 in
set_option maxHeartbeats 2000000 in
theorem laid_any : ∀ (ps ks : List ByteArray) (a1 a2 : Option Addr) (n1 n2 c1 c2 : Nat) (w : World), ps.length = n1 → ks.length = n2 → n1 ≤ c1 → c1 ≤ maxLen → n2 ≤ c2 → c2 ≤ maxLen → n2 ≤ 100 → TextsAt w a1 ps → TextsAt w a2 ks →
    Calls Try.prog 111 #[.slice a1 n1 c1, .slice a2 n2 c2] w fun e w' => e = .returned (.bool (laidB ps ks)) ∧ ∃ n, w' = w.drewN n := by
  intro ps
  induction ps with
  | nil =>
    rintro ks a1 a2 n1 n2 c1 c2 w rfl hn2 _ _ _ _ _ _ _
    rw [laidB_nil]
    have e : ((n2 : Int) == 0) = ks.isEmpty := by cases ks <;> simp at hn2 <;> subst hn2 <;> simp; omega
    obtain ⟨b, hb⟩ : ∃ b, b = ks.isEmpty := ⟨_, rfl⟩
    rw [← hb] at e ⊢
    clear hb
    go_enter Try.func111, Try.ntmps111
    go_wp2_with fail
    go_ret
    exact ⟨rfl, 0, rfl⟩
  | cons x ps ih =>
    rintro ks a1 a2 n1 n2 c1 c2 w hn1 hn2 hc1 hm1 hc2 hm2 h100 h1 h2
    obtain ⟨g, o, rfl, ht⟩ : ∃ g o, a1 = some ⟨g, o, none⟩ ∧ IsTexts w g o (x :: ps) := by
      rcases h1 with h1 | h1
      · cases h1
      · exact h1
    have e0 : w.cell? ⟨g, o, none⟩ = some (.string x) := ht 0 (by simp)
    have hz : ((n1 : Int) == 0) = false := beq_eq_false_iff_ne.2 (by simp at hn1; omega)
    have hp : (0 : Int) < n1 := by simp at hn1; omega
    have hp1 : (1 : Int) ≤ n1 := by omega
    have IH : Hid (∀ (ks : List ByteArray) (a1 a2 : Option Addr) (n1 n2 c1 c2 : Nat) (w : World), ps.length = n1 → ks.length = n2 → n1 ≤ c1 → c1 ≤ maxLen → n2 ≤ c2 → c2 ≤ maxLen → n2 ≤ 100 → TextsAt w a1 ps → TextsAt w a2 ks →
      Calls Try.prog 111 #[.slice a1 n1 c1, .slice a2 n2 c2] w fun e w' => e = .returned (.bool (laidB ps ks)) ∧ ∃ n, w' = w.drewN n) := ih
    have HT : Hid (IsTexts w g o (x :: ps)) := ht
    have HN1 : Hid ((x :: ps).length = n1) := hn1
    have HN2 : Hid (ks.length = n2) := hn2
    have H2 : Hid (TextsAt w a2 ks) := h2
    have hm1' : c1 ≤ 9223372036854775807 := by unfold maxLen at hm1; omega
    have hm2' : c2 ≤ 9223372036854775807 := by unfold maxLen at hm2; omega
    have HM : Hid (c1 ≤ maxLen ∧ c2 ≤ maxLen) := ⟨hm1, hm2⟩
    clear ih ht hn1 hn2 h1 h2 hm1 hm2
    by_cases hx : x.data.toList = [35]
    · have hxb : (x.toList == [35]) = true := data_eq hx
      have HXX : Hid (x.data.toList = [35]) := hx
      clear hx
      go_enter Try.func111, Try.ntmps111
      go_wp2_with fail
      go_loopw [5] (fun i wr => ∃ k m : Nat, k ≤ n2 + 1 ∧ i = .int .i64 k ∧ wr = w.drewN m ∧ ∀ j, j < k → laidB ps (ks.drop j) = false) (fun i _ => n2 + 1 - (intOf i).toNat)
      case atStart => exact ⟨0, 0, Nat.zero_le _, rfl, rfl, by intro j hj; omega⟩
      case round =>
        obtain ⟨k, m, hk, rfl, hwr, ha⟩ := hrel
        have HA : Hid (∀ j, j < k → laidB ps (ks.drop j) = false) := ha
        have HW : Hid (wr = w.drewN m) := hwr
        clear ha hwr
        by_cases hlt : k ≤ n2
        · have hk0 : (0 : Int) ≤ k := by omega
          have hk1 : (k : Int) ≤ n2 := by omega
          obtain ⟨b, hb⟩ : ∃ b, b = laidB ps (ks.drop k) := ⟨_, rfl⟩
          have HBB : Hid (b = laidB ps (ks.drop k)) := hb
          have C : Hid (∀ m', Calls Try.prog 111 #[.slice (if c1 = 1 then some ⟨g, o, none⟩ else some ⟨g, o + 1, none⟩) (n1 - 1) (c1 - 1), .slice (if c2 = k then a2 else Option.map (fun x => x.add k) a2) (n2 - k) (c2 - k)] (wr.drewN m') (fun e w' => e = .returned (.bool b) ∧ ∃ n, w' = (wr.drewN m').drewN n)) := by
            intro m'
            have q1 := HN1.out; have q2 := HN2.out; have q3 := HM.out; simp at q1
            rw [hb, HW.out]
            exact IH.out (ks.drop k) _ _ _ _ _ _ _ (by omega) (by simp; omega) (by omega) (by omega) (by omega) (by omega) (by omega) (TextsAt.cut (W := w) (n := 1) HT.out (by simp; omega) _ rfl) (TextsAt.cut2 (W := w) H2.out (by omega))
          clear hb
          cases b with
          | true =>
            go_wp2_with fail
            go_quiet ((go_at_call 111; exact Calls.quiet_of (C.out _)))
            go_wp2_with fail
            all_goals
              go_ret
              exact ⟨ret_bool (laidB_any HXX.out (by have q2 := HN2.out; omega) HBB.out.symm).symm, _, by rw [HW.out, World.drewN_drewN]⟩
          | false =>
            go_wp2_with fail
            go_quiet ((go_at_call 111; exact Calls.quiet_of (C.out _)))
            go_wp2_with fail
            all_goals
              go_roundw
              case rel => exact ⟨k + 1, _, by omega, by go_num, by rw [HW.out, World.drewN_drewN], fun j hj => by
                by_cases hjk : j = k
                · rw [hjk]; exact HBB.out.symm
                · exact HA.out j (by omega)⟩
              case measure => simp [intOf]; omega
        · go_wp2_with fail
          go_ret
          have q2 := HN2.out
          exact ⟨ret_bool (laidB_all HXX.out (fun j hj => HA.out j (by omega))).symm, m, HW.out⟩
    · have hxb : (x.toList == [35]) = false := data_ne hx
      cases ks with
      | nil =>
        have hd : decide (0 < n2) = false := by have q2 := HN2.out; simp at q2; simp; omega
        rw [laidB_none hx]
        go_enter Try.func111, Try.ntmps111
        go_wp2_with fail
        go_quiet (fail)
        go_wp2_with fail
        go_ret
        exact ⟨rfl, _, rfl⟩
      | cons y ks =>
        obtain ⟨g2, o2, rfl, ht2⟩ : ∃ g o, a2 = some ⟨g, o, none⟩ ∧ IsTexts w g o (y :: ks) := by
          rcases H2.out with h1 | h1
          · cases h1
          · exact h1
        have f0 : w.cell? ⟨g2, o2, none⟩ = some (.string y) := ht2 0 (by simp)
        have q2 := HN2.out
        have q1 := HN1.out
        simp at q1 q2
        have hp2 : (0 : Int) < n2 := by omega
        have hd : decide (0 < n2) = true := by simp; omega
        have hp3 : (1 : Int) ≤ n2 := by omega
        rw [laidB_cons hx]
        obtain ⟨b, hb⟩ : ∃ b, b = laidB ps ks := ⟨_, rfl⟩
        have C : Hid (∀ m', Calls Try.prog 111 #[.slice (if c1 = 1 then some ⟨g, o, none⟩ else some ⟨g, o + 1, none⟩) (n1 - 1) (c1 - 1), .slice (if c2 = 1 then some ⟨g2, o2, none⟩ else some ⟨g2, o2 + 1, none⟩) (n2 - 1) (c2 - 1)] (w.drewN m') (fun e w' => e = .returned (.bool b) ∧ ∃ n, w' = (w.drewN m').drewN n)) := by
          intro m'
          have q3 := HM.out
          rw [hb]
          exact IH.out ks _ _ _ _ _ _ _ (by omega) (by omega) (by omega) (by omega) (by omega) (by omega) (by omega) (TextsAt.cut (W := w) (n := 1) HT.out (by simp; omega) _ rfl) (TextsAt.cut (W := w) (n := 1) ht2 (by simp; omega) _ rfl)
        rw [← hb]
        clear hb q1 q2 hx ht2
        by_cases s1 : x.data.toList = [42]
        · have s1b : (x.toList == [42]) = true := data_eq s1
          rw [show (x.data.toList == [42]) = true from by simpa using s1]
          clear s1
          go_enter Try.func111, Try.ntmps111
          go_wp2_with fail
          go_quiet ((go_at_call 111; exact Calls.quiet_of (C.out _)))
          go_wp2_with fail
          all_goals (go_ret; exact ⟨by simp, _, rfl⟩)
        · have s1b : (x.toList == [42]) = false := data_ne s1
          by_cases s2 : x.data.toList = y.data.toList
          · have s2b : (x.toList == y.toList) = true := by rw [Lib.toList_data, Lib.toList_data]; simpa using s2
            rw [show (x.data.toList == y.data.toList) = true from by simpa using s2]
            clear s1 s2
            go_enter Try.func111, Try.ntmps111
            go_wp2_with fail
            go_quiet ((go_at_call 111; exact Calls.quiet_of (C.out _)))
            go_wp2_with fail
            all_goals (go_ret; exact ⟨by simp, _, rfl⟩)
          · have s2b : (x.toList == y.toList) = false := by rw [Lib.toList_data, Lib.toList_data]; simpa using s2
            rw [show (x.data.toList == y.data.toList) = false from by simpa using s2, show (x.data.toList == [42]) = false from by simpa using s1]
            clear s1 s2
            go_enter Try.func111, Try.ntmps111
            go_wp2_with fail
            go_quiet ((go_at_call 111; exact Calls.quiet_of (C.out _)))
            go_wp2_with fail
            all_goals (go_ret; exact ⟨by simp, _, rfl⟩)
end Go.Proofs.Ythhkpgnjpieckaa
