/- route.Way at whatever it is handed; mailcoachref.SameInts, in. -/
import Derived.Test.YthhkpgnjpieckaaSa
namespace Go.Proofs.Ythhkpgnjpieckaa
set_option linter.unusedVariables false
set_option maxRecDepth 100000
open Go.RowKit Go.Maps

set_option maxRecDepth 100000 in
set_option maxHeartbeats 1000000 in
theorem way_any (p : PlanD) (a1 a2 a3 : Option Addr) (n1 c1 n2 c2 n3 c3 : Nat) (v : Int) (key : ByteArray) (q : Int) (w : World) (hp : PlanAt w a1 a2 a3 n1 n2 n3 p) :
    Calls Try.prog 40 #[.agg #[.slice a1 n1 c1, .slice a2 n2 c2, .slice a3 n3 c3], .int .i64 v, .string key, .int .i64 q] w fun e w' => ∃ (ns : List Nat) (is : Bool) (u : Value), e = .returned (.tuple #[u, .bool is, .int .i64 (wayE p v key q)]) ∧ (is = true → wayE p v key q = 0 ∧ WayIs p key v.toNat q ns) ∧ (is = false → ns = [] ∧ (wayE p v key q = 0 → ∀ t, ¬ Way (arcOf p key) (finOf p key q) v.toNat t)) ∧ w'.ownsRow w.heap.size 3 1 u ns.length (natV ns) ∧ Below w.heap.size w w' := by
  obtain ⟨d, hd⟩ : ∃ d, d = rtE p v key := ⟨_, rfl⟩
  by_cases h0 : d = 0
  · obtain ⟨z1, z2, z3, z4⟩ := rt_zero (hd.symm.trans h0)
    have he : wayE p v key q = if isNum q n2 = true then 0 else 5 := by unfold wayE; rw [if_pos (hd.symm.trans h0), hp.l2]
    cases hn : isNum q n2 with
    | true =>
      rw [hn] at he
      rw [he]
      obtain ⟨x, rfl⟩ := Int.eq_ofNat_of_zero_le z3
      have hq := isNum_iff.1 hn
      refine (callsIn_wide.1 (way_in p a1 a2 a3 n1 c1 n2 c2 n3 c3 x q key w z1 z2 (by have := hp.l1; omega) (by omega) (by omega) hp)).mono ?_
      rintro e w' ⟨ns, is, u, rfl, h1, h2, h3, h4⟩
      exact ⟨ns, is, u, rfl, fun h => ⟨rfl, h1 h⟩, fun h => ⟨(h2 h).1, fun _ => (h2 h).2⟩, h3, h4⟩
    | false =>
      rw [hn] at he
      have he5 : wayE p v key q = 5 := he
      rw [he5]
      have hor : q < 0 ∨ (¬ q < 0 ∧ (n2 : Int) ≤ q) := by unfold isNum at hn; simp at hn; omega
      obtain ⟨W5, hW5⟩ : ∃ W5, W5 = ((((w.alloc (.cells #[.slice a1 n1 c1, .slice a2 n2 c2, .slice a3 n3 c3] 40)).alloc (.cells #[.int .i64 q] 3)).alloc (.cells #[.slice none 0 0] 45)).alloc (.cells #[.bool false] 4)).alloc (.cells #[.int .i64 0] 23) := ⟨_, rfl⟩
      obtain ⟨hs5, b0, b1, b2, b3, b4, hB5⟩ := five_heap w W5 _ _ _ _ _ hW5
      have HW5 : Hid (W5 = _) := hW5
      have HP5 : Hid (PlanAt W5 a1 a2 a3 n1 n2 n3 p) := hp.keep hB5
      have s5 := hB5.size
      have HRE : Hid (rtE p v key = 0) := hd.symm.trans h0
      have HB := hidIt (And.intro b0 (And.intro b1 (And.intro b2 (And.intro b3 b4))))
      clear hW5 hp b0 b1 b2 b3 b4 hn he he5 z1 z2 z3 z4 hd h0
      rcases hor with g1 | ⟨g1, g2⟩
      all_goals
        go_enter Try.func40, Try.ntmps40
        go_wp2_with fail
        rw [← HW5.out]
        refine (rtcheck_any p _ _ _ _ _ _ _ _ _ _ _ _ HP5.out).mono ?_
        rintro e w2 ⟨rfl, hB2⟩
        rw [HRE.out]
        have s2 := hB2.size
        have p2 := (hB2.block w.heap.size (by omega)).trans HB.out.1
        have e0 := cell_of p2 0
        have e1 := cell_of p2 1
        have e2 := cell_of p2 2
        have e3 := cell_of ((hB2.block (w.heap.size + 1) (by omega)).trans HB.out.2.1) 0
        simp at e0 e1 e2 e3
        have r2 : Boxed w2 (w.heap.size + 1 + 1) 45 (.slice none 0 0) := (hB2.block _ (by omega)).trans HB.out.2.2.1
        have r3 : Boxed w2 (w.heap.size + 1 + 1 + 1) 4 (.bool false) := (hB2.block _ (by omega)).trans HB.out.2.2.2.1
        have r4 : Boxed w2 (w.heap.size + 1 + 1 + 1 + 1) 23 (.int .i64 0) := (hB2.block _ (by omega)).trans HB.out.2.2.2.2
        have c2' := r2.cell
        have c3' := r3.cell
        have c4' := r4.cell
        have f2' := r2.frozen
        have f3' := r3.frozen
        have f4' := r4.frozen
        clear p2
        go_wp2_with fail
        obtain ⟨k2, k3, k4, tS⟩ := three_stores r2 r3 r4 (by omega) (by omega) (by omega) (.slice none 0 0) (.bool false) (.int .i64 5)
        have z2 := k2.cell
        have z3 := k3.cell
        have z4 := k4.cell
        exact bodyPost_ret (v := .tuple #[.slice none 0 0, .bool false, .int .i64 5]) (by simp [results, Try.results40, go_sem, z2, z3, z4]) rfl ⟨[], false, _, rfl, fun h => (nomatch h), fun _ => ⟨rfl, fun h => (nomatch h)⟩, World.ownsRow_nil _ _ _ _, (hB5.trans (hB2.mono s5)).trans (tS.below (by omega) (fun k e => by omega))⟩
  · have he : wayE p v key q = d := by unfold wayE; rw [if_neg (fun h => h0 (hd.trans h)), hd]
    rw [he]
    have HD : Hid (d = rtE p v key) := hd
    have H0 : Hid (¬ d = 0) := h0
    have h0' : (d != 0) = true := bne_iff_ne.2 h0
    obtain ⟨W5, hW5⟩ : ∃ W5, W5 = ((((w.alloc (.cells #[.slice a1 n1 c1, .slice a2 n2 c2, .slice a3 n3 c3] 40)).alloc (.cells #[.int .i64 q] 3)).alloc (.cells #[.slice none 0 0] 45)).alloc (.cells #[.bool false] 4)).alloc (.cells #[.int .i64 0] 23) := ⟨_, rfl⟩
    obtain ⟨hs5, b0, b1, b2, b3, b4, hB5⟩ := five_heap w W5 _ _ _ _ _ hW5
    have HW5 : Hid (W5 = _) := hW5
    have HP5 : Hid (PlanAt W5 a1 a2 a3 n1 n2 n3 p) := hp.keep hB5
    have s5 := hB5.size
    have HB := hidIt (And.intro b0 (And.intro b1 (And.intro b2 (And.intro b3 b4))))
    clear hW5 hp b0 b1 b2 b3 b4 he hd h0
    go_enter Try.func40, Try.ntmps40
    go_wp2_with fail
    rw [← HW5.out]
    refine (rtcheck_any p _ _ _ _ _ _ _ _ _ _ _ _ HP5.out).mono ?_
    rintro e w2 ⟨rfl, hB2⟩
    rw [← HD.out]
    have s2 := hB2.size
    have r2 : Boxed w2 (w.heap.size + 1 + 1) 45 (.slice none 0 0) := (hB2.block _ (by omega)).trans HB.out.2.2.1
    have r3 : Boxed w2 (w.heap.size + 1 + 1 + 1) 4 (.bool false) := (hB2.block _ (by omega)).trans HB.out.2.2.2.1
    have r4 : Boxed w2 (w.heap.size + 1 + 1 + 1 + 1) 23 (.int .i64 0) := (hB2.block _ (by omega)).trans HB.out.2.2.2.2
    have c2' := r2.cell
    have c3' := r3.cell
    have c4' := r4.cell
    have f2' := r2.frozen
    have f3' := r3.frozen
    have f4' := r4.frozen
    go_wp2_with fail
    obtain ⟨k2, k3, k4, tS⟩ := three_stores r2 r3 r4 (by omega) (by omega) (by omega) (.slice none 0 0) (.bool false) (.int .i64 d)
    have z2 := k2.cell
    have z3 := k3.cell
    have z4 := k4.cell
    exact bodyPost_ret (v := .tuple #[.slice none 0 0, .bool false, .int .i64 d]) (by simp [results, Try.results40, go_sem, z2, z3, z4]) rfl ⟨[], false, _, rfl, fun h => (nomatch h), fun _ => ⟨rfl, fun h => absurd h H0.out⟩, World.ownsRow_nil _ _ _ _, (hB5.trans (hB2.mono s5)).trans (tS.below (by omega) (fun k e => by omega))⟩

theorem below_drewN2 {b n : Nat} {W w' : World} (h : Below b W w') : Below b W (w'.drewN n) := ⟨h.os, h.tape, h.output, h.size, h.block⟩
set_option maxHeartbeats 1000000 in
theorem same_ints (zs : List Int) (a1 a2 : Option Addr) (n c1 c2 : Nat) (w : World) (hn : zs.length = n) (hm : n ≤ 1000) (h1 : IntsAt w a1 zs) (h2 : IntsAt w a2 zs) :
    Calls Try.prog 39 #[.slice a1 n c1, .slice a2 n c2] w fun e w' => e = .returned (.bool true) ∧ Below w.heap.size w w' := by
  have HN : Hid (zs.length = n) := hn
  have H12 := hidIt (And.intro h1 h2)
  clear hn h1 h2
  go_enter Try.func39, Try.ntmps39
  go_wp2
  go_loopw [5] (fun i wr => ∃ (k : Nat), k ≤ n ∧ i = .int .i64 k ∧ Below w.heap.size w wr) (fun i _ => n - (intOf i).toNat)
  case atStart => exact ⟨0, Nat.zero_le _, rfl, Below.refl _ _⟩
  case round =>
    obtain ⟨k, hk, rfl, hB⟩ := hrel
    by_cases hlt : k < n
    · have hkl : k < zs.length := by rw [HN.out]; exact hlt
      rcases H12.out.1 with h | ⟨g, rfl, hg, hx⟩
      · rw [h] at hkl; simp at hkl
      rcases H12.out.2 with h | ⟨g', rfl, hg', hx'⟩
      · rw [h] at hkl; simp at hkl
      have d1 := (hB.cell (p := ⟨g, k, none⟩) hg).trans (hx k hkl)
      have d2 := (hB.cell (p := ⟨g', k, none⟩) hg').trans (hx' k hkl)
      obtain ⟨z, hz⟩ : ∃ z, z = zs[k] := ⟨_, rfl⟩
      rw [← hz] at d1 d2
      have j1 : (0 : Int) ≤ (k : Int) := by omega
      have j2 : (k : Int) < n := by omega
      clear hx hx' hz
      go_wp2
      go_quiet (fail)
      go_wp2
      go_roundw
      case rel => exact ⟨k + 1, by omega, by go_num, below_drewN2 hB⟩
      case measure => simp [intOf]; omega
    · go_wp2
      go_ret
      exact ⟨rfl, hB⟩
end Go.Proofs.Ythhkpgnjpieckaa
