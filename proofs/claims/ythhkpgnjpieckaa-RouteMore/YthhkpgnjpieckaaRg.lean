/- plan.kindsRight, queuesInRange, bindsInRange, patternError. -/
import Derived.Test.YthhkpgnjpieckaaTw
namespace Go.Proofs.Ythhkpgnjpieckaa
set_option linter.unusedVariables false
set_option maxRecDepth 100000
open Go.RowKit

def kindOk (x : PostD) : Bool := inR x.kind 1 3
def qOk (np : Nat) (x : QueueD) : Bool := inR x.limit 1 6 && inR x.dead (-1) (np - 1)
def bOk (np nq : Nat) (x : BindD) : Bool := isNum x.src np && isNum x.dst (if x.toPost then np else nq)
def patErr : List BindD → Int
  | [] => 0
  | b :: r => if perr b.pat.data.toList = 0 then patErr r else perr b.pat.data.toList

theorem PostsAt.cells {W : World} {a : Option Addr} {xs : List PostD} (h : PostsAt W a xs) (hne : 0 < xs.length) : ∃ g o, a = some ⟨g, o, none⟩ ∧ g < W.heap.size ∧ ∀ i (h : i < xs.length), W.cell? ⟨g, o + i * 2, none⟩ = some (.string xs[i].name) ∧ W.cell? ⟨g, o + i * 2 + 1, none⟩ = some (.int .i64 xs[i].kind) := by
  rcases h with h | h
  · rw [h] at hne; simp at hne
  · exact h
theorem QueuesAt.cells {W : World} {a : Option Addr} {xs : List QueueD} (h : QueuesAt W a xs) (hne : 0 < xs.length) : ∃ g o, a = some ⟨g, o, none⟩ ∧ g < W.heap.size ∧ ∀ i (h : i < xs.length), W.cell? ⟨g, o + i * 3, none⟩ = some (.string xs[i].name) ∧ W.cell? ⟨g, o + i * 3 + 1, none⟩ = some (.int .i64 xs[i].limit) ∧ W.cell? ⟨g, o + i * 3 + 2, none⟩ = some (.int .i64 xs[i].dead) := by
  rcases h with h | h
  · rw [h] at hne; simp at hne
  · exact h
theorem BindsAt.cells {W : World} {a : Option Addr} {xs : List BindD} (h : BindsAt W a xs) (hne : 0 < xs.length) : ∃ g o, a = some ⟨g, o, none⟩ ∧ g < W.heap.size ∧ ∀ i (h : i < xs.length), W.cell? ⟨g, o + i * 4, none⟩ = some (.int .i64 xs[i].src) ∧ W.cell? ⟨g, o + i * 4 + 1, none⟩ = some (.bool xs[i].toPost) ∧ W.cell? ⟨g, o + i * 4 + 2, none⟩ = some (.int .i64 xs[i].dst) ∧ W.cell? ⟨g, o + i * 4 + 3, none⟩ = some (.string xs[i].pat) := by
  rcases h with h | h
  · rw [h] at hne; simp at hne
  · exact h

theorem inR_yes {a b c : Int} (h1 : b ≤ a) (h2 : a ≤ c) : inR a b c = true := by unfold inR; simp; omega
theorem inR_no {a b c : Int} (h : ¬ (b ≤ a ∧ a ≤ c)) : inR a b c = false := by unfold inR; simp; omega
theorem isNum_iff {i : Int} {n : Nat} : isNum i n = true ↔ 0 ≤ i ∧ i < n := by unfold isNum; simp
theorem isNum_no {i : Int} {n : Nat} : isNum i n = false ↔ ¬ (0 ≤ i ∧ i < n) := by unfold isNum; simp

set_option maxRecDepth 100000 in
set_option maxHeartbeats 1000000 in
theorem kindsRight_any (xs : List PostD) (a : Option Addr) (n c : Nat) (w : World) (hn : xs.length = n) (h100 : n ≤ 100) (hp : PostsAt w a xs) :
    Calls Try.prog 69 #[.slice a n c] w fun e w' => e = .returned (.bool (xs.all kindOk)) ∧ Below w.heap.size w w' := by
  have HN : Hid (xs.length = n) := hn
  have HP : Hid (PostsAt w a xs) := hp
  clear hn hp
  go_enter Try.func69, Try.ntmps69
  go_wp2
  go_loopw [7] (fun i wr => ∃ k : Nat, k ≤ n ∧ i = .int .i64 k ∧ (∀ x ∈ xs.take k, kindOk x = true) ∧ Below w.heap.size w wr) (fun i _ => n - (intOf i).toNat)
  case atStart => exact ⟨0, Nat.zero_le _, rfl, by simp, Below.refl _ _⟩
  case round =>
    obtain ⟨k, hk, rfl, ha, hB⟩ := hrel
    have HA : Hid (∀ x ∈ xs.take k, kindOk x = true) := ha
    have hBs := hB.size
    clear ha
    by_cases hlt : k < n
    · have hkl : k < xs.length := by rw [HN.out]; exact hlt
      obtain ⟨g, o, rfl, hg, hx⟩ := HP.out.cells (by omega)
      have c1 := (hB.cell (p := ⟨g, o + k * 2, none⟩) hg).trans (hx k hkl).1
      have c2 := (hB.cell (p := ⟨g, o + k * 2 + 1, none⟩) hg).trans (hx k hkl).2
      obtain ⟨x, hxx⟩ : ∃ x, x = xs[k] := ⟨_, rfl⟩
      rw [← hxx] at c1 c2
      clear hx
      have HX : Hid (x = xs[k]) := hxx
      clear hxx
      obtain ⟨nm, kd⟩ := x
      dsimp only at c1 c2
      by_cases k1 : kd = 1 ∨ kd = 2 ∨ kd = 3
      · have hok : kindOk ⟨nm, kd⟩ = true := inR_yes (by rcases k1 with h | h | h <;> simp [h]) (by rcases k1 with h | h | h <;> simp [h])
        have HOK : Hid (kindOk xs[k] = true) := by rw [← HX.out]; exact hok
        clear hok
        rcases k1 with rfl | rfl | rfl
        all_goals
          go_wp2
          go_roundw
          case rel => exact ⟨k + 1, by omega, by go_num, take_all_snoc hkl HA.out HOK.out, hB.alloc hBs _⟩
          case measure => simp [intOf]; omega
      · have k1' : (kd != 1) = true := bne_iff_ne.2 (by omega)
        have k2' : (kd != 2) = true := bne_iff_ne.2 (by omega)
        have k3' : (kd != 3) = true := bne_iff_ne.2 (by omega)
        have HOK : Hid (kindOk xs[k] = false) := by rw [← HX.out]; exact inR_no (by dsimp only; omega)
        clear k1
        go_wp2
        go_ret
        exact ⟨ret_bool (all_false_get hkl HOK.out).symm, hB.alloc hBs _⟩
    · go_wp2
      go_ret
      exact ⟨ret_bool (all_of_take HN.out hlt HA.out).symm, hB⟩

set_option maxRecDepth 100000 in
set_option maxHeartbeats 1000000 in
theorem patternError_plan (xs : List BindD) (a : Option Addr) (n c : Nat) (w : World) (hn : xs.length = n) (h100 : n ≤ 100) (hp : BindsAt w a xs) :
    Calls Try.prog 72 #[.slice a n c] w fun e w' => e = .returned (.int .i64 (patErr xs)) ∧ Below w.heap.size w w' := by
  have HN : Hid (xs.length = n) := hn
  have HP : Hid (BindsAt w a xs) := hp
  clear hn hp
  go_enter Try.func72, Try.ntmps72
  go_wp2
  go_loopw [8] (fun i wr => ∃ k : Nat, k ≤ n ∧ i = .int .i64 k ∧ patErr xs = patErr (xs.drop k) ∧ Below w.heap.size w wr) (fun i _ => n - (intOf i).toNat)
  case atStart => exact ⟨0, Nat.zero_le _, rfl, rfl, Below.refl _ _⟩
  case round =>
    obtain ⟨k, hk, rfl, ha, hB⟩ := hrel
    have HA : Hid (patErr xs = patErr (xs.drop k)) := ha
    have hBs := hB.size
    clear ha
    by_cases hlt : k < n
    · have hkl : k < xs.length := by rw [HN.out]; exact hlt
      obtain ⟨g, o, rfl, hg, hx⟩ := HP.out.cells (by omega)
      have c1 := (hB.cell (p := ⟨g, o + k * 4, none⟩) hg).trans (hx k hkl).1
      have c2 := (hB.cell (p := ⟨g, o + k * 4 + 1, none⟩) hg).trans (hx k hkl).2.1
      have c3 := (hB.cell (p := ⟨g, o + k * 4 + 2, none⟩) hg).trans (hx k hkl).2.2.1
      have c4 := (hB.cell (p := ⟨g, o + k * 4 + 3, none⟩) hg).trans (hx k hkl).2.2.2
      obtain ⟨x, hxx⟩ : ∃ x, x = xs[k] := ⟨_, rfl⟩
      rw [← hxx] at c1 c2 c3 c4
      have hd : xs.drop k = x :: xs.drop (k + 1) := by rw [hxx]; exact List.drop_eq_getElem_cons hkl
      clear hx hxx
      obtain ⟨f, tp, t, pt⟩ := x
      dsimp only at c1 c2 c3 c4
      obtain ⟨d, hd2⟩ : ∃ d, d = perr pt.data.toList := ⟨_, rfl⟩
      have HD : Hid (d = perr pt.data.toList) := hd2
      by_cases h0 : d = 0
      · have HF : Hid (patErr xs = patErr (xs.drop (k + 1))) := by
          show patErr xs = _
          rw [HA.out, hd, patErr, if_pos (by dsimp only; rw [← hd2]; exact h0)]
        clear hd hd2
        subst h0
        go_wp2_with (go_at_call 21; refine (pattern_any _ _).mono ?_; rintro e w1 ⟨rfl, hB1⟩; rw [← HD.out])
        have hB2 : Below w.heap.size w w1 := (hB.alloc hBs _).trans (hB1.mono (by simp; omega))
        go_roundw
        case rel => exact ⟨k + 1, by omega, by go_num, HF.out, hB2⟩
        case measure => simp [intOf]; omega
      · have h0' : (d != 0) = true := bne_iff_ne.2 h0
        have HF : Hid (patErr xs = d) := by
          show patErr xs = _
          rw [HA.out, hd, patErr, if_neg (by dsimp only; rw [← hd2]; exact h0)]; exact hd2.symm
        clear hd hd2 h0
        go_wp2_with (go_at_call 21; refine (pattern_any _ _).mono ?_; rintro e w1 ⟨rfl, hB1⟩; rw [← HD.out])
        go_ret
        exact ⟨ret_int HF.out.symm, (hB.alloc hBs _).trans (hB1.mono (by simp; omega))⟩
    · go_wp2
      go_ret
      have e : xs.drop k = [] := List.drop_eq_nil_of_le (by rw [HN.out]; omega)
      exact ⟨ret_int (by rw [HA.out, e]; rfl), hB⟩

/-- How a plan lies. -/
structure IsPlan (W : World) (v : Value) (p : PlanD) : Prop where
  ex : ∃ a1 c1 a2 c2 a3 c3, v = .agg #[.slice a1 p.posts.length c1, .slice a2 p.queues.length c2, .slice a3 p.binds.length c3] ∧ PostsAt W a1 p.posts ∧ QueuesAt W a2 p.queues ∧ BindsAt W a3 p.binds

set_option maxRecDepth 100000 in
set_option maxHeartbeats 2000000 in
theorem queuesInRange_any (p : PlanD) (a1 a2 a3 : Option Addr) (n1 c1 n2 c2 n3 c3 : Nat) (w : World) (h1 : p.posts.length = n1) (h2 : p.queues.length = n2) (h100 : n2 ≤ 100) (hp : QueuesAt w a2 p.queues) :
    Calls Try.prog 70 #[.agg #[.slice a1 n1 c1, .slice a2 n2 c2, .slice a3 n3 c3]] w fun e w' => e = .returned (.bool (p.queues.all (qOk n1))) ∧ Below w.heap.size w w' := by
  obtain ⟨posts, xs, binds⟩ := p
  dsimp only at h1 h2 hp ⊢
  have HN : Hid (xs.length = n2) := h2
  have HP : Hid (QueuesAt w a2 xs) := hp
  clear h1 h2 hp
  obtain ⟨W1, hW1⟩ : ∃ W1, W1 = w.alloc (.cells #[.slice a1 n1 c1, .slice a2 n2 c2, .slice a3 n3 c3] 40) := ⟨_, rfl⟩
  have b0 : W1.cell? ⟨w.heap.size, 0, none⟩ = some (.slice a1 n1 c1) := by rw [hW1]; simp
  have hW1s : W1.heap.size = w.heap.size + 1 := by rw [hW1]; simp
  have hBw : Below w.heap.size w W1 := by rw [hW1]; exact (Below.refl _ _).alloc (Nat.le_refl _) _
  have HW1 : Hid (W1 = w.alloc (.cells #[.slice a1 n1 c1, .slice a2 n2 c2, .slice a3 n3 c3] 40)) := hW1
  clear hW1
  go_enter Try.func70, Try.ntmps70
  go_wp2
  go_loopw [8] (fun i wr => ∃ k : Nat, k ≤ n2 ∧ i = .int .i64 k ∧ (∀ x ∈ xs.take k, qOk n1 x = true) ∧ Below W1.heap.size W1 wr) (fun i _ => n2 - (intOf i).toNat)
  case atStart => exact ⟨0, Nat.zero_le _, rfl, by simp, by rw [HW1.out]; exact Below.refl _ _⟩
  case round =>
    obtain ⟨k, hk, rfl, ha, hB⟩ := hrel
    have HA : Hid (∀ x ∈ xs.take k, qOk n1 x = true) := ha
    have hBs := hB.size
    have hBW : Below w.heap.size w wr := hBw.trans (hB.mono (by omega))
    have hq : w.heap.size < wr.heap.size := by omega
    have d0 := (hB.cell (p := ⟨w.heap.size, 0, none⟩) (by show w.heap.size < _; omega)).trans b0
    clear ha
    by_cases hlt : k < n2
    · have hkl : k < xs.length := by rw [HN.out]; exact hlt
      obtain ⟨g, o, rfl, hg, hx⟩ := HP.out.cells (by omega)
      have e1 := (hBW.cell (p := ⟨g, o + k * 3, none⟩) hg).trans (hx k hkl).1
      have e2 := (hBW.cell (p := ⟨g, o + k * 3 + 1, none⟩) hg).trans (hx k hkl).2.1
      have e3 := (hBW.cell (p := ⟨g, o + k * 3 + 2, none⟩) hg).trans (hx k hkl).2.2
      obtain ⟨x, hxx⟩ : ∃ x, x = xs[k] := ⟨_, rfl⟩
      rw [← hxx] at e1 e2 e3
      clear hx
      have HX : Hid (x = xs[k]) := hxx
      clear hxx b0
      obtain ⟨nm, l, d⟩ := x
      dsimp only at e1 e2 e3
      have hcase : l < 1 ∨ (1 ≤ l ∧ 6 < l) ∨ (1 ≤ l ∧ l ≤ 6 ∧ d = -1) ∨ (1 ≤ l ∧ l ≤ 6 ∧ (d != -1) = true ∧ isNum d n1 = true) ∨ (1 ≤ l ∧ l ≤ 6 ∧ (d != -1) = true ∧ isNum d n1 = false) := by
        rcases Bool.eq_false_or_eq_true (isNum d n1) with h | h <;> by_cases q : d = -1 <;> simp only [bne_iff_ne, h] <;> simp [q] <;> omega
      have hok : qOk n1 ⟨nm, l, d⟩ = (decide (1 ≤ l ∧ l ≤ 6) && (decide (d = -1) || isNum d n1)) := by
        unfold qOk inR isNum; dsimp only; rw [Bool.eq_iff_iff]; simp; omega
      rw [HX.out] at hok
      have HOK : Hid (qOk n1 xs[k] = (decide (1 ≤ l ∧ l ≤ 6) && (decide (d = -1) || isNum d n1))) := hok
      clear hok
      rcases hcase with q1 | ⟨q1, q2⟩ | ⟨q1, q2, rfl⟩ | ⟨q1, q2, q3, q4⟩ | ⟨q1, q2, q3, q4⟩
      · go_wp2_with (go_at_call 112; refine (numberOf_posts _ _ _ _ _).mono ?_; rintro e w1 ⟨rfl, rfl⟩)
        go_ret
        exact ⟨ret_bool (all_false_get hkl (by rw [HOK.out]; simp; omega)).symm, hBW.alloc (by omega) _⟩
      · go_wp2_with (go_at_call 112; refine (numberOf_posts _ _ _ _ _).mono ?_; rintro e w1 ⟨rfl, rfl⟩)
        go_ret
        exact ⟨ret_bool (all_false_get hkl (by rw [HOK.out]; simp; omega)).symm, hBW.alloc (by omega) _⟩
      · go_wp2_with (go_at_call 112; refine (numberOf_posts _ _ _ _ _).mono ?_; rintro e w1 ⟨rfl, rfl⟩)
        go_roundw
        case rel => exact ⟨k + 1, by omega, by go_num, take_all_snoc hkl HA.out (by rw [HOK.out]; simp; omega), hB.alloc hBs _⟩
        case measure => simp [intOf]; omega
      · go_wp2_with (go_at_call 112; refine (numberOf_posts _ _ _ _ _).mono ?_; rintro e w1 ⟨rfl, rfl⟩)
        go_roundw
        case rel => exact ⟨k + 1, by omega, by go_num, take_all_snoc hkl HA.out (by rw [HOK.out, q4]; simp; omega), hB.alloc hBs _⟩
        case measure => simp [intOf]; omega
      · have q5 : d ≠ -1 := bne_iff_ne.1 q3
        go_wp2_with (go_at_call 112; refine (numberOf_posts _ _ _ _ _).mono ?_; rintro e w1 ⟨rfl, rfl⟩)
        go_ret
        exact ⟨ret_bool (all_false_get hkl (by rw [HOK.out, q4]; simp; omega)).symm, hBW.alloc (by omega) _⟩
    · go_wp2
      go_ret
      exact ⟨ret_bool (all_of_take HN.out hlt HA.out).symm, hBW⟩

set_option maxRecDepth 100000 in
set_option maxHeartbeats 2000000 in
theorem bindsInRange_any (p : PlanD) (a1 a2 a3 : Option Addr) (n1 c1 n2 c2 n3 c3 : Nat) (w : World) (h3 : p.binds.length = n3) (h100 : n3 ≤ 100) (hp : BindsAt w a3 p.binds) :
    Calls Try.prog 71 #[.agg #[.slice a1 n1 c1, .slice a2 n2 c2, .slice a3 n3 c3]] w fun e w' => e = .returned (.bool (p.binds.all (bOk n1 n2))) ∧ Below w.heap.size w w' := by
  obtain ⟨posts, queues, xs⟩ := p
  dsimp only at h3 hp ⊢
  have HN : Hid (xs.length = n3) := h3
  have HP : Hid (BindsAt w a3 xs) := hp
  clear h3 hp
  obtain ⟨W1, hW1⟩ : ∃ W1, W1 = w.alloc (.cells #[.slice a1 n1 c1, .slice a2 n2 c2, .slice a3 n3 c3] 40) := ⟨_, rfl⟩
  have b0 : W1.cell? ⟨w.heap.size, 0, none⟩ = some (.slice a1 n1 c1) := by rw [hW1]; simp
  have b1 : W1.cell? ⟨w.heap.size, 1, none⟩ = some (.slice a2 n2 c2) := by rw [hW1]; simp
  have hW1s : W1.heap.size = w.heap.size + 1 := by rw [hW1]; simp
  have hBw : Below w.heap.size w W1 := by rw [hW1]; exact (Below.refl _ _).alloc (Nat.le_refl _) _
  have HW1 : Hid (W1 = w.alloc (.cells #[.slice a1 n1 c1, .slice a2 n2 c2, .slice a3 n3 c3] 40)) := hW1
  clear hW1
  go_enter Try.func71, Try.ntmps71
  go_wp2
  go_loopw [8] (fun i wr => ∃ k : Nat, k ≤ n3 ∧ i = .int .i64 k ∧ (∀ x ∈ xs.take k, bOk n1 n2 x = true) ∧ Below W1.heap.size W1 wr) (fun i _ => n3 - (intOf i).toNat)
  case atStart => exact ⟨0, Nat.zero_le _, rfl, by simp, by rw [HW1.out]; exact Below.refl _ _⟩
  case round =>
    obtain ⟨k, hk, rfl, ha, hB⟩ := hrel
    have HA : Hid (∀ x ∈ xs.take k, bOk n1 n2 x = true) := ha
    have hBs := hB.size
    have hBW : Below w.heap.size w wr := hBw.trans (hB.mono (by omega))
    have hq : w.heap.size < wr.heap.size := by omega
    have d0 := (hB.cell (p := ⟨w.heap.size, 0, none⟩) (by show w.heap.size < _; omega)).trans b0
    have d1 := (hB.cell (p := ⟨w.heap.size, 1, none⟩) (by show w.heap.size < _; omega)).trans b1
    clear ha
    by_cases hlt : k < n3
    · have hkl : k < xs.length := by rw [HN.out]; exact hlt
      obtain ⟨g, o, rfl, hg, hx⟩ := HP.out.cells (by omega)
      have e1 := (hBW.cell (p := ⟨g, o + k * 4, none⟩) hg).trans (hx k hkl).1
      have e2 := (hBW.cell (p := ⟨g, o + k * 4 + 1, none⟩) hg).trans (hx k hkl).2.1
      have e3 := (hBW.cell (p := ⟨g, o + k * 4 + 2, none⟩) hg).trans (hx k hkl).2.2.1
      have e4 := (hBW.cell (p := ⟨g, o + k * 4 + 3, none⟩) hg).trans (hx k hkl).2.2.2
      obtain ⟨x, hxx⟩ : ∃ x, x = xs[k] := ⟨_, rfl⟩
      rw [← hxx] at e1 e2 e3 e4
      clear hx
      have HX : Hid (x = xs[k]) := hxx
      clear hxx b0 b1
      obtain ⟨f, tp, t, pt⟩ := x
      dsimp only at e1 e2 e3 e4
      have HOK : Hid (bOk n1 n2 xs[k] = (isNum f n1 && isNum t (if tp then n1 else n2))) := by rw [← HX.out]; rfl
      obtain ⟨s1, hs1⟩ : ∃ s, isNum f n1 = s := ⟨_, rfl⟩
      obtain ⟨s2, hs2⟩ : ∃ s, isNum t n1 = s := ⟨_, rfl⟩
      obtain ⟨s3, hs3⟩ : ∃ s, isNum t n2 = s := ⟨_, rfl⟩
      cases s1 with
      | false =>
        go_wp2_with (go_at_call 112; refine (numberOf_posts _ _ _ _ _).mono ?_; rintro e w1 ⟨rfl, rfl⟩)
        go_ret
        exact ⟨ret_bool (all_false_get hkl (by rw [HOK.out, hs1]; rfl)).symm, hBW.alloc (by omega) _⟩
      | true =>
        cases tp with
        | true =>
          cases s2 with
          | true =>
            go_wp2_with (go_at_call 112; refine (numberOf_posts _ _ _ _ _).mono ?_; rintro e w1 ⟨rfl, rfl⟩)
            go_roundw
            case rel => exact ⟨k + 1, by omega, by go_num, take_all_snoc hkl HA.out (by rw [HOK.out, hs1]; simp [hs2]), hB.alloc hBs _⟩
            case measure => simp [intOf]; omega
          | false =>
            go_wp2_with (go_at_call 112; refine (numberOf_posts _ _ _ _ _).mono ?_; rintro e w1 ⟨rfl, rfl⟩)
            go_ret
            exact ⟨ret_bool (all_false_get hkl (by rw [HOK.out, hs1]; simp [hs2])).symm, hBW.alloc (by omega) _⟩
        | false =>
          cases s3 with
          | true =>
            go_wp2_with (first | (go_at_call 112; refine (numberOf_posts _ _ _ _ _).mono ?_; rintro e w1 ⟨rfl, rfl⟩) | (go_at_call 113; refine (numberOf_queues _ _ _ _ _).mono ?_; rintro e w1 ⟨rfl, rfl⟩))
            go_roundw
            case rel => exact ⟨k + 1, by omega, by go_num, take_all_snoc hkl HA.out (by rw [HOK.out, hs1]; simp [hs3]), hB.alloc hBs _⟩
            case measure => simp [intOf]; omega
          | false =>
            go_wp2_with (first | (go_at_call 112; refine (numberOf_posts _ _ _ _ _).mono ?_; rintro e w1 ⟨rfl, rfl⟩) | (go_at_call 113; refine (numberOf_queues _ _ _ _ _).mono ?_; rintro e w1 ⟨rfl, rfl⟩))
            go_ret
            exact ⟨ret_bool (all_false_get hkl (by rw [HOK.out, hs1]; simp [hs3])).symm, hBW.alloc (by omega) _⟩
    · go_wp2
      go_ret
      exact ⟨ret_bool (all_of_take HN.out hlt HA.out).symm, hBW⟩
end Go.Proofs.Ythhkpgnjpieckaa
