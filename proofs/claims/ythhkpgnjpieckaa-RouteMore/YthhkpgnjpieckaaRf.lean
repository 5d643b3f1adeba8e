/- route.check, mailcoachref.RouteError; route.fitting and its closure. -/
import Derived.RangeFuncNested
import Derived.RangeFuncBound
import Derived.RangeFuncCalls
import Derived.RangeFuncLeaves
import Derived.RangeFuncFrom
import Derived.Test.YthhkpgnjpieckaaRa
import Derived.Test.YthhkpgnjpieckaaFt
namespace Go.Proofs.Ythhkpgnjpieckaa
set_option linter.unusedVariables false
set_option maxRecDepth 100000
open Go.RowKit Go.Shelf
attribute [local go_sem] Oper.semAt_some

/-- What Posts, Queues and Way tell first. -/
def rtE (p : PlanD) (v : Int) (key : ByteArray) : Int := if chkP p = 0 then (if isNum v p.posts.length = true then kerr key.data.toList else 5) else chkP p
def bAt (p : PlanD) (n : Nat) : BindD := p.binds.getD n ⟨0, false, 0, ⟨#[]⟩⟩
def BindD.val (b : BindD) : Value := .agg #[.int .i64 b.src, .bool b.toPost, .int .i64 b.dst, .string b.pat]
/-- Does bind n lead from that post, and does the key fit? -/
def goesB (p : PlanD) (key : ByteArray) (v : Int) (n : Nat) : Bool := decide ((bAt p n).src = v) && fitP p n key
def fitTo (p : PlanD) (key : ByteArray) (v : Int) (k : Nat) : List Nat := (List.range k).filter (goesB p key v)
def fitIdx (p : PlanD) (key : ByteArray) (v : Int) : List Nat := fitTo p key v p.binds.length
theorem fitTo_succ (p : PlanD) (key : ByteArray) (v : Int) (k : Nat) : fitTo p key v (k + 1) = fitTo p key v k ++ if goesB p key v k = true then [k] else [] := by
  unfold fitTo; rw [List.range_succ, List.filter_append]
  cases h : goesB p key v k <;> simp [h]
theorem fitTo_yes {p : PlanD} {key : ByteArray} {v : Int} {k : Nat} (h : goesB p key v k = true) : fitTo p key v (k + 1) = fitTo p key v k ++ [k] := by rw [fitTo_succ, if_pos h]
theorem fitTo_no {p : PlanD} {key : ByteArray} {v : Int} {k : Nat} (h : goesB p key v k = false) : fitTo p key v (k + 1) = fitTo p key v k := by rw [fitTo_succ, h]; simp
theorem fitTo_pre (p : PlanD) (key : ByteArray) (v : Int) {k m : Nat} (h : k ≤ m) : fitTo p key v k <+: fitTo p key v m := by
  induction m with
  | zero => have : k = 0 := by omega
            subst this; exact List.prefix_refl _
  | succ m ih =>
    by_cases e : k = m + 1
    · subst e; exact List.prefix_refl _
    · rw [fitTo_succ]; exact (ih (by omega)).trans (List.prefix_append _ _)

set_option maxHeartbeats 1000000 in
theorem rtcheck_any (p : PlanD) (a1 a2 a3 : Option Addr) (n1 c1 n2 c2 n3 c3 : Nat) (v : Int) (key : ByteArray) (w : World) (hp : PlanAt w a1 a2 a3 n1 n2 n3 p) :
    Calls Try.prog 77 #[.agg #[.slice a1 n1 c1, .slice a2 n2 c2, .slice a3 n3 c3], .int .i64 v, .string key] w fun e w' => e = .returned (.int .i64 (rtE p v key)) ∧ Below w.heap.size w w' := by
  obtain ⟨W1, hW1, hBw, hs1, hbx⟩ := plan_boxed w (.slice a1 n1 c1) (.slice a2 n2 c2) (.slice a3 n3 c3) 40
  have HW1 : Hid (W1 = _) := hW1
  have HP1 : Hid (PlanAt W1 a1 a2 a3 n1 n2 n3 p) := hp.keep hBw
  have BX : Hid (∀ W, Below W1.heap.size W1 W → W.cell? ⟨w.heap.size, 0, none⟩ = some (.slice a1 n1 c1) ∧ W.cell? ⟨w.heap.size, 1, none⟩ = some (.slice a2 n2 c2) ∧ W.cell? ⟨w.heap.size, 2, none⟩ = some (.slice a3 n3 c3)) := hbx
  have s1 := hBw.size
  have hl1 := hp.l1
  clear hW1 hp hbx hs1
  obtain ⟨d, hd⟩ : ∃ d, d = chkP p := ⟨_, rfl⟩
  have HD : Hid (d = chkP p) := hd
  by_cases h0 : d = 0
  · have F1 : rtE p v key = if isNum v n1 = true then kerr key.data.toList else 5 := by unfold rtE; rw [if_pos (by rw [← hd]; exact h0), hl1]
    clear hd
    subst h0
    cases hnum : isNum v n1 with
    | false =>
      rw [hnum] at F1
      rw [F1]
      clear F1
      have hor : v < 0 ∨ (¬ v < 0 ∧ (n1 : Int) ≤ v) := by unfold isNum at hnum; simp at hnum; omega
      clear hnum hl1
      rcases hor with h | ⟨h, h2⟩
      all_goals
        go_enter Try.func77, Try.ntmps77
        go_wp2_with fail
        rw [← HW1.out]
        refine (check_any p _ _ _ _ _ _ _ _ _ _ HP1.out.l1 HP1.out.l2 HP1.out.l3 HP1.out.sz HP1.out.p1 HP1.out.p2 HP1.out.p3).mono ?_
        rintro e w2 ⟨rfl, hB2⟩
        rw [← HD.out]
        obtain ⟨d0, d1, d2⟩ := BX.out w2 hB2
        go_wp2_with fail
        go_ret
        exact ⟨rfl, hBw.trans (hB2.mono s1)⟩
    | true =>
      rw [hnum] at F1
      have h1 : ¬ v < 0 := by unfold isNum at hnum; simp at hnum; omega
      have h2 : ¬ (n1 : Int) ≤ v := by unfold isNum at hnum; simp at hnum; omega
      obtain ⟨dk, hdk⟩ : ∃ dk, dk = kerr key.data.toList := ⟨_, rfl⟩
      rw [if_pos rfl, ← hdk] at F1
      rw [F1]
      have HC : Hid (∀ w, Calls Try.prog 17 #[.string key] w fun e w' => ∃ v, e = .returned (.tuple #[v, .int .i64 dk]) ∧ Below w.heap.size w w') := fun w => by
        rw [hdk]
        by_cases hk : kerr key.data.toList = 0
        · refine (splitK_ok key _ rfl w hk).mono ?_
          rintro e w' ⟨g, cap, rfl, _, _, _, _, hB⟩
          exact ⟨_, by rw [hk], hB⟩
        · refine (splitK_err key w hk).mono ?_
          rintro e w' ⟨rfl, hB⟩
          exact ⟨_, rfl, hB⟩
      clear F1 hnum hl1 hdk
      go_enter Try.func77, Try.ntmps77
      go_wp2_with fail
      rw [← HW1.out]
      refine (check_any p _ _ _ _ _ _ _ _ _ _ HP1.out.l1 HP1.out.l2 HP1.out.l3 HP1.out.sz HP1.out.p1 HP1.out.p2 HP1.out.p3).mono ?_
      rintro e w2 ⟨rfl, hB2⟩
      rw [← HD.out]
      obtain ⟨d0, d1, d2⟩ := BX.out w2 hB2
      go_wp2_with fail
      refine (HC.out _).mono ?_
      rintro e w3 ⟨u, rfl, hB3⟩
      go_wp2_with fail
      go_ret
      exact ⟨rfl, hBw.trans ((hB2.trans (hB3.mono hB2.size)).mono s1)⟩
  · have F1 : rtE p v key = d := by unfold rtE; rw [if_neg (by rw [← hd]; exact h0), hd]
    have h0' : (d != 0) = true := bne_iff_ne.2 h0
    rw [F1]
    clear h0 hd F1 hl1
    go_enter Try.func77, Try.ntmps77
    go_wp2_with fail
    rw [← HW1.out]
    refine (check_any p _ _ _ _ _ _ _ _ _ _ HP1.out.l1 HP1.out.l2 HP1.out.l3 HP1.out.sz HP1.out.p1 HP1.out.p2 HP1.out.p3).mono ?_
    rintro e w2 ⟨rfl, hB2⟩
    rw [← HD.out]
    go_wp2_with fail
    go_ret
    exact ⟨rfl, hBw.trans (hB2.mono s1)⟩

set_option maxHeartbeats 1000000 in
theorem routeError_any (p : PlanD) (a1 a2 a3 : Option Addr) (n1 c1 n2 c2 n3 c3 : Nat) (v : Int) (key : ByteArray) (w : World) (hp : PlanAt w a1 a2 a3 n1 n2 n3 p) :
    Calls Try.prog 35 #[.agg #[.slice a1 n1 c1, .slice a2 n2 c2, .slice a3 n3 c3], .int .i64 v, .string key] w fun e w' => e = .returned (.int .i64 (rtE p v key)) ∧ Below w.heap.size w w' := by
  obtain ⟨W1, hW1, hBw, hs1, hbx⟩ := plan_boxed w (.slice a1 n1 c1) (.slice a2 n2 c2) (.slice a3 n3 c3) 40
  have HW1 : Hid (W1 = _) := hW1
  have HP1 : Hid (PlanAt W1 a1 a2 a3 n1 n2 n3 p) := hp.keep hBw
  have BX : Hid (∀ W, Below W1.heap.size W1 W → W.cell? ⟨w.heap.size, 0, none⟩ = some (.slice a1 n1 c1) ∧ W.cell? ⟨w.heap.size, 1, none⟩ = some (.slice a2 n2 c2) ∧ W.cell? ⟨w.heap.size, 2, none⟩ = some (.slice a3 n3 c3)) := hbx
  have s1 := hBw.size
  have hl1 := hp.l1
  clear hW1 hp hbx hs1
  obtain ⟨d, hd⟩ : ∃ d, d = chkP p := ⟨_, rfl⟩
  have HD : Hid (d = chkP p) := hd
  by_cases h0 : d = 0
  · have F1 : rtE p v key = if isNum v n1 = true then kerr key.data.toList else 5 := by unfold rtE; rw [if_pos (by rw [← hd]; exact h0), hl1]
    have h4 : n1 ≤ 4 := by have := (chk_right (by rw [← hd]; exact h0)).few.1; rw [hl1] at this; exact this
    clear hd
    subst h0
    cases hnum : isNum v n1 with
    | false =>
      have hin : inR v 0 ((n1 : Int) - 1) = false := by rw [inR_num]; exact hnum
      rw [hnum] at F1
      rw [F1]
      clear F1 hnum hl1
      go_enter Try.func35, Try.ntmps35
      go_wp2_with fail
      rw [← HW1.out]
      refine (rcheck_any p _ _ _ _ _ _ _ _ _ _ HP1.out.l1 HP1.out.l2 HP1.out.l3 HP1.out.sz HP1.out.p1 HP1.out.p2 HP1.out.p3).mono ?_
      rintro e w2 ⟨rfl, hB2⟩
      rw [← HD.out]
      obtain ⟨d0, d1, d2⟩ := BX.out w2 hB2
      go_wp2_with (go_at_call 74; refine (within_any _ _ _ _).mono ?_; rintro e w3 ⟨rfl, rfl⟩)
      go_ret
      exact ⟨rfl, hBw.trans (hB2.mono s1)⟩
    | true =>
      have hin : inR v 0 ((n1 : Int) - 1) = true := by rw [inR_num]; exact hnum
      obtain ⟨dk, hdk⟩ : ∃ dk, dk = kerr key.data.toList := ⟨_, rfl⟩
      have HK : Hid (dk = kerr key.data.toList) := hdk
      rw [hnum, if_pos rfl, ← hdk] at F1
      rw [F1]
      clear F1 hnum hl1 hdk
      go_enter Try.func35, Try.ntmps35
      go_wp2_with fail
      rw [← HW1.out]
      refine (rcheck_any p _ _ _ _ _ _ _ _ _ _ HP1.out.l1 HP1.out.l2 HP1.out.l3 HP1.out.sz HP1.out.p1 HP1.out.p2 HP1.out.p3).mono ?_
      rintro e w2 ⟨rfl, hB2⟩
      rw [← HD.out]
      obtain ⟨d0, d1, d2⟩ := BX.out w2 hB2
      go_wp2_with (first
        | (go_at_call 74; refine (within_any _ _ _ _).mono ?_; rintro e w3 ⟨rfl, rfl⟩)
        | (go_at_call 56; refine (keyError_any _ _).mono ?_; rintro e w4 ⟨rfl, hB4⟩; rw [← HK.out]))
      go_ret
      exact ⟨rfl, hBw.trans ((hB2.trans (hB4.mono hB2.size)).mono s1)⟩
  · have F1 : rtE p v key = d := by unfold rtE; rw [if_neg (by rw [← hd]; exact h0), hd]
    have h0' : (d != 0) = true := bne_iff_ne.2 h0
    rw [F1]
    clear h0 hd F1 hl1
    go_enter Try.func35, Try.ntmps35
    go_wp2_with fail
    rw [← HW1.out]
    refine (rcheck_any p _ _ _ _ _ _ _ _ _ _ HP1.out.l1 HP1.out.l2 HP1.out.l3 HP1.out.sz HP1.out.p1 HP1.out.p2 HP1.out.p3).mono ?_
    rintro e w2 ⟨rfl, hB2⟩
    rw [← HD.out]
    go_wp2_with fail
    go_ret
    exact ⟨rfl, hBw.trans (hB2.mono s1)⟩
end Go.Proofs.Ythhkpgnjpieckaa
