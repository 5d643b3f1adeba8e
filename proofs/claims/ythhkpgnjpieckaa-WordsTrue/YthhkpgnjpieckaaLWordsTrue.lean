/- The walk of the law WordsTrue. -/
import Derived.Laws.Concat
import Derived.Test.YthhkpgnjpieckaaBg
import Derived.Test.YthhkpgnjpieckaaPt
namespace Go.Proofs.Ythhkpgnjpieckaa
open Go.RowKit
set_option linter.unusedVariables false
set_option maxRecDepth 100000

/-- What Match tells of p and k, by two names. -/
theorem match_names (p k : ByteArray) : ∃ (b : Bool) (d : Int), Hid (b = mis p.data.toList k.data.toList ∧ d = merr p.data.toList k.data.toList) ∧
    Hid (∀ w, Calls Try.prog 23 #[.string p, .string k] w fun e w' => e = .returned (.tuple #[.bool b, .int .i64 d]) ∧ Below w.heap.size w w') :=
  ⟨_, _, ⟨rfl, rfl⟩, fun w => match_any p k w⟩

theorem app_data (a b : ByteArray) : (a ++ b).data.toList = a.data.toList ++ b.data.toList := by simp

theorem beq_dec (a b : List UInt8) : (a == b) = decide (a = b) := by by_cases e : a = b <;> simp [e]
theorem int_cases (d : Int) : d = 0 ∨ ((d != 0) = true ∧ (d == 0) = false) := by
  by_cases h : d = 0
  · exact .inl h
  · exact .inr ⟨bne_iff_ne.2 h, beq_eq_false_iff_ne.2 h⟩

set_option maxRecDepth 100000 in
set_option maxHeartbeats 4000000 in
theorem walk_WordsTrue (p : ByteArray) (hp : p.size ≤ 140737488351232) (k : ByteArray) (hk : k.size ≤ 140737488351232) (o : ByteArray) (ho : o.size ≤ 140737488351232) (w : World) :
    Calls Try.prog 5 #[.string p, .string k, .string o] w fun e w' => e = .returned (.bool true) ∧ Below w.heap.size w w' := by
  obtain ⟨b1, d1, ⟨F1, G1⟩, H1⟩ := match_names ⟨#[35]⟩ k
  by_cases e1 : d1 = 0
  · obtain ⟨q, hq⟩ : ∃ q, q = p ++ (⟨#[46, 35]⟩ : ByteArray) := ⟨_, rfl⟩
    obtain ⟨r0, hr0⟩ : ∃ r, r = k ++ (⟨#[46]⟩ : ByteArray) := ⟨_, rfl⟩
    obtain ⟨r, hr⟩ : ∃ r', r' = r0 ++ o := ⟨_, rfl⟩
    have sz : ∀ a b : ByteArray, (a ++ b).size = a.size + b.size := fun a b => by simp
    have a1 : ∀ w, (Op.stringOp .add p ⟨#[46, 35]⟩).run Try.prog w = .ok (.string q) w := fun w => by rw [hq]; exact run_string_add_sum w _ _ (by show p.size + 2 ≤ _; omega)
    have a2 : ∀ w, (Op.stringOp .add k ⟨#[46]⟩).run Try.prog w = .ok (.string r0) w := fun w => by rw [hr0]; exact run_string_add_sum w _ _ (by show k.size + 1 ≤ _; omega)
    have a3 : ∀ w, (Op.stringOp .add r0 o).run Try.prog w = .ok (.string r) w := fun w => by
      rw [hr]; refine run_string_add_sum w _ _ ?_
      rw [hr0, sz]; show k.size + 1 + o.size ≤ _; omega
    have dq : q.data.toList = p.data.toList ++ [46, 35] := by rw [hq, app_data]
    have dr : r.data.toList = k.data.toList ++ 46 :: o.data.toList := by rw [hr, hr0, app_data, app_data]; simp
    obtain ⟨b2, d2, ⟨F2, G2⟩, H2⟩ := match_names k k
    obtain ⟨b3, d3, ⟨F3, G3⟩, H3⟩ := match_names k o
    obtain ⟨b4, d4, ⟨F4, G4⟩, H4⟩ := match_names p k
    obtain ⟨b5, d5, ⟨F5, G5⟩, H5⟩ := match_names q k
    obtain ⟨b6, d6, ⟨F6, G6⟩, H6⟩ := match_names q r
    obtain ⟨z1, z2⟩ := merr_zero (G1 ▸ e1)
    have zp := perr_of_kerr z2
    have q1 : b1 = true := by rw [F1, mis_mk z1 z2]; exact fitL_all _
    have q2 : d2 = 0 := by rw [G2]; exact merr_mk zp z2
    have q3 : b2 = true := by rw [F2, mis_mk zp z2, fitL_key z2]; simp
    have q4 : d3 = 0 → b3 = (k.toList == o.toList) := fun h => by
      obtain ⟨_, y⟩ := merr_zero (G3 ▸ h)
      rw [F3, mis_mk zp y, fitL_key z2, Lib.toList_data, Lib.toList_data]
      rw [beq_dec]
    have q5 : d4 = 0 → b4 = true → (d5 = 0 → b5 = true) ∧ (d6 = 0 → b6 = true) := fun h hb => by
      obtain ⟨y1, y2⟩ := merr_zero (G4 ▸ h)
      have hf : fitL p.data.toList k.data.toList = true := by rw [← mis_mk y1 y2, ← F4]; exact hb
      constructor
      · intro h5
        obtain ⟨y3, y4⟩ := merr_zero (G5 ▸ h5)
        rw [F5, mis_mk y3 y4, dq]; exact fitL_more hf
      · intro h6
        obtain ⟨y3, y4⟩ := merr_zero (G6 ▸ h6)
        rw [F6, mis_mk y3 y4, dq, dr]; exact fitL_longer hf
    clear F1 G1 F2 G2 F3 G3 F4 G4 F5 G5 F6 G6 z1 z2 zp dq dr hq hr hr0 sz
    subst q1 q2 q3 e1
    obtain ⟨t, ht⟩ : ∃ t, (k.toList == o.toList) = t := ⟨_, rfl⟩
    rw [ht] at q4
    have Q5 : Hid (d4 = 0 → b4 = true → (d5 = 0 → b5 = true) ∧ (d6 = 0 → b6 = true)) := q5
    have H3' : ∃ (b : Bool) (d : Int), (d = 0 ∧ b = t ∨ (d != 0) = true ∧ (d == 0) = false) ∧ Hid (∀ w, Calls Try.prog 23 #[.string k, .string o] w fun e w' => e = .returned (.tuple #[.bool b, .int .i64 d]) ∧ Below w.heap.size w w') := by
      refine ⟨b3, d3, ?_, H3⟩
      rcases int_cases d3 with h | h
      · exact .inl ⟨h, q4 h⟩
      · exact .inr h
    have H456 : ∃ (b4 b5 b6 : Bool) (d4 d5 d6 : Int), ((d4 != 0) = true ∨ d4 = 0 ∧ b4 = false ∨ (d4 = 0 ∧ b4 = true ∧ (d5 = 0 ∧ b5 = true ∨ (d5 != 0) = true) ∧ (d6 = 0 ∧ b6 = true ∨ (d6 != 0) = true))) ∧
        Hid (∀ w, Calls Try.prog 23 #[.string p, .string k] w fun e w' => e = .returned (.tuple #[.bool b4, .int .i64 d4]) ∧ Below w.heap.size w w') ∧
        Hid (∀ w, Calls Try.prog 23 #[.string q, .string k] w fun e w' => e = .returned (.tuple #[.bool b5, .int .i64 d5]) ∧ Below w.heap.size w w') ∧
        Hid (∀ w, Calls Try.prog 23 #[.string q, .string r] w fun e w' => e = .returned (.tuple #[.bool b6, .int .i64 d6]) ∧ Below w.heap.size w w') := by
      refine ⟨b4, b5, b6, d4, d5, d6, ?_, H4, H5, H6⟩
      rcases int_cases d4 with h4 | h4
      · cases hb : b4 with
        | false => exact .inr (.inl ⟨h4, rfl⟩)
        | true =>
          obtain ⟨x5, x6⟩ := Q5.out h4 hb
          refine .inr (.inr ⟨h4, rfl, ?_, ?_⟩)
          · rcases int_cases d5 with h | h
            · exact .inl ⟨h, x5 h⟩
            · exact .inr h.1
          · rcases int_cases d6 with h | h
            · exact .inl ⟨h, x6 h⟩
            · exact .inr h.1
      · exact .inl h4.1
    clear q4 q5 Q5 H3 H4 H5 H6
    clear b3 d3 b4 d4 b5 d5 b6 d6
    obtain ⟨b3, d3, h3, H3⟩ := H3'
    obtain ⟨b4, b5, b6, d4, d5, d6, h456, H4, H5, H6⟩ := H456
    rcases h3 with ⟨rfl, rfl⟩ | ⟨h3a, h3b⟩ <;> rcases h456 with h4 | ⟨rfl, rfl⟩ | ⟨rfl, rfl, ⟨rfl, rfl⟩ | h5, ⟨rfl, rfl⟩ | h6⟩
    all_goals
      go_enter Try.func5, Try.ntmps5
      go_wp2_with fail
      refine (H1.out _).mono ?_
      rintro e w1 ⟨rfl, hB1⟩
      go_wp2_with fail
      refine (H2.out _).mono ?_
      rintro e w2 ⟨rfl, hB2⟩
      go_wp2_with fail
      refine (H3.out _).mono ?_
      rintro e w3 ⟨rfl, hB3⟩
      go_wp2_with fail
      refine (H4.out _).mono ?_
      rintro e w4 ⟨rfl, hB4⟩
      go_wp2_with fail
      refine (H5.out _).mono ?_
      rintro e w5 ⟨rfl, hB5⟩
      go_wp2_with fail
      refine (H6.out _).mono ?_
      rintro e w6 ⟨rfl, hB6⟩
      go_wp2_with fail
      refine (wordsBegun_any _).mono ?_
      rintro e w7 ⟨rfl, hB7⟩
      go_wp2_with fail
      go_ret
      have s1 := hB1.size
      have s2 := hB2.size
      have s3 := hB3.size
      have s4 := hB4.size
      have s5 := hB5.size
      have s6 := hB6.size
      exact ⟨rfl, hB1.trans ((hB2.mono s1).trans ((hB3.mono (by omega)).trans ((hB4.mono (by omega)).trans ((hB5.mono (by omega)).trans ((hB6.mono (by omega)).trans (hB7.mono (by omega)))))))⟩
  · have e1' : (d1 != 0) = true := bne_iff_ne.2 e1
    clear F1 G1 e1
    go_enter Try.func5, Try.ntmps5
    go_wp2_with fail
    refine (H1.out _).mono ?_
    rintro e w1 ⟨rfl, hB1⟩
    go_wp2_with fail
    refine (wordsBegun_any _).mono ?_
    rintro e w2 ⟨rfl, hB2⟩
    go_wp2_with fail
    go_ret
    exact ⟨rfl, hB1.trans (hB2.mono hB1.size)⟩
end Go.Proofs.Ythhkpgnjpieckaa
