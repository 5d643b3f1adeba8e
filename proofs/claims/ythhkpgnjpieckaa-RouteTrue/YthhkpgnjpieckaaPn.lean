/- Names: plan.Name, mailcoachref.IsName, within, plan.numberOf, plan.names, plan.allNames. -/
import Derived.Test.YthhkpgnjpieckaaPd
namespace Go.Proofs.Ythhkpgnjpieckaa
set_option linter.unusedVariables false
set_option maxRecDepth 100000
open Go.RowKit

/-- A byte of a name; a name. -/
def nch (c : UInt8) : Bool := decide (97 ≤ c.toNat ∧ c.toNat ≤ 122)
def nameOk (l : List UInt8) : Bool := decide (1 ≤ l.length ∧ l.length ≤ 8) && l.all nch
theorem nch_yes {c : UInt8} (h : 97 ≤ (c.toNat : Int) ∧ (c.toNat : Int) ≤ 122) : nch c = true := by unfold nch; rw [decide_eq_true_iff]; omega
theorem nch_no {c : UInt8} (h : ¬ (97 ≤ (c.toNat : Int) ∧ (c.toNat : Int) ≤ 122)) : nch c = false := by unfold nch; rw [decide_eq_false_iff_not]; omega
theorem nall_take (s : ByteArray) (k : Nat) (h : k < s.size) (ha : (s.data.toList.take k).all nch = true) (hc : nch s[k] = true) : (s.data.toList.take (k + 1)).all nch = true := by
  rw [take_snoc s k h, List.all_append, ha]; simp [hc]
theorem nnot_all (s : ByteArray) (k : Nat) (h : k < s.size) (hc : nch s[k] = false) : s.data.toList.all nch = false := by
  rw [List.all_eq_false]
  exact ⟨s[k], by show s.data[k] ∈ _; simp, by simp [hc]⟩
theorem nall_whole (s : ByteArray) (k : Nat) (h : ¬ k < s.size) : (s.data.toList.take k).all nch = s.data.toList.all nch := by
  rw [List.take_of_length_le (by simp; omega)]

set_option maxHeartbeats 400000 in
theorem name_any (s : ByteArray) (w : World) (hs : s.size ≤ maxLen) :
    Calls Try.prog 29 #[.string s] w fun e w' => e = .returned (.bool (nameOk s.data.toList)) ∧ w' = w := by
  unfold maxLen at hs
  by_cases h1 : 1 ≤ s.size ∧ s.size ≤ 8
  · obtain ⟨h1, h2⟩ := h1
    have h1' : ¬ (s.size : Int) < 1 := by omega
    have h2' : ¬ (8 : Int) < s.size := by omega
    have HE : Hid (nameOk s.data.toList = s.data.toList.all nch) := by show nameOk s.data.toList = _; simp [nameOk, h1, h2]
    go_enter Try.func29, Try.ntmps29
    go_wp2
    go_loop [14] (fun i => ∃ k : Nat, k ≤ s.size ∧ i = .int .i64 k ∧ (s.data.toList.take k).all nch = true) (fun i => s.size - (intOf i).toNat)
    case atStart => exact ⟨0, Nat.zero_le _, rfl, rfl⟩
    case round =>
      obtain ⟨k, hk, rfl, ha⟩ := hrel
      have HA : Hid ((s.data.toList.take k).all nch = true) := ha
      clear ha
      by_cases hlt : k < s.size
      · by_cases q1 : 97 ≤ (s[k].toNat : Int) <;> by_cases q2 : (s[k].toNat : Int) ≤ 122 <;> first | (exfalso; omega) | skip
        all_goals
          go_wp2
          first
            | (go_ret; exact ⟨ret_bool (by rw [HE.out, nnot_all s k hlt (nch_no (by omega))]), rfl⟩)
            | exact ⟨⟨k + 1, by omega, by go_num, nall_take s k hlt HA.out (nch_yes (by omega))⟩, by simp [intOf]; omega⟩
      · go_wp2
        go_ret
        exact ⟨ret_bool (by rw [HE.out, ← nall_whole s k hlt, HA.out]), rfl⟩
  · have he : nameOk s.data.toList = false := by
      unfold nameOk; rw [show decide (1 ≤ s.data.toList.length ∧ s.data.toList.length ≤ 8) = false from by simp; omega]; rfl
    rw [he]
    by_cases h2 : s.size < 1
    · have h2' : (s.size : Int) < 1 := by omega
      go_enter Try.func29, Try.ntmps29
      go_wp2
      go_ret
      exact ⟨rfl, rfl⟩
    · have h2' : ¬ (s.size : Int) < 1 := by omega
      have h3' : (8 : Int) < s.size := by omega
      go_enter Try.func29, Try.ntmps29
      go_wp2
      go_ret
      exact ⟨rfl, rfl⟩

/-- low ≤ a ≤ high; a number of one of n. -/
def inR (a b c : Int) : Bool := decide (b ≤ a ∧ a ≤ c)
def isNum (i : Int) (n : Nat) : Bool := decide (0 ≤ i ∧ i < n)

set_option maxHeartbeats 400000 in
theorem within_any (a b c : Int) (w : World) :
    Calls Try.prog 74 #[.int .i64 a, .int .i64 b, .int .i64 c] w fun e w' => e = .returned (.bool (inR a b c)) ∧ w' = w := by
  by_cases h1 : b ≤ a <;> by_cases h2 : a ≤ c
  all_goals
    go_enter Try.func74, Try.ntmps74
    go_wp2
    go_ret
    exact ⟨ret_bool (by simp [inR] <;> omega), rfl⟩

set_option maxHeartbeats 400000 in
theorem numberOf_posts (i : Int) (a : Option Addr) (n c : Nat) (w : World) :
    Calls Try.prog 112 #[.int .i64 i, .slice a n c] w fun e w' => e = .returned (.bool (isNum i n)) ∧ w' = w := by
  by_cases h1 : 0 ≤ i <;> by_cases h2 : i < n
  all_goals
    go_enter Try.func112, Try.ntmps112
    go_wp2
    go_ret
    exact ⟨ret_bool (by simp [isNum] <;> omega), rfl⟩

set_option maxHeartbeats 400000 in
theorem numberOf_queues (i : Int) (a : Option Addr) (n c : Nat) (w : World) :
    Calls Try.prog 113 #[.int .i64 i, .slice a n c] w fun e w' => e = .returned (.bool (isNum i n)) ∧ w' = w := by
  by_cases h1 : 0 ≤ i <;> by_cases h2 : i < n
  all_goals
    go_enter Try.func113, Try.ntmps113
    go_wp2
    go_ret
    exact ⟨ret_bool (by simp [isNum] <;> omega), rfl⟩

set_option maxHeartbeats 400000 in
theorem numberOf_binds (i : Int) (a : Option Addr) (n c : Nat) (w : World) :
    Calls Try.prog 75 #[.int .i64 i, .slice a n c] w fun e w' => e = .returned (.bool (isNum i n)) ∧ w' = w := by
  by_cases h1 : 0 ≤ i <;> by_cases h2 : i < n
  all_goals
    go_enter Try.func75, Try.ntmps75
    go_wp2
    go_ret
    exact ⟨ret_bool (by simp [isNum] <;> omega), rfl⟩


set_option maxHeartbeats 400000 in
theorem isName_any (s : ByteArray) (w : World) (hs : s.size ≤ maxLen) :
    Calls Try.prog 30 #[.string s] w fun e w' => e = .returned (.bool (nameOk s.data.toList)) ∧ w' = w := by
  unfold maxLen at hs
  go_enter Try.func30, Try.ntmps30
  go_wp2
  go_loop [3] (fun i => ∃ k : Nat, k ≤ s.size ∧ i = .int .i64 k ∧ (s.data.toList.take k).all nch = true) (fun i => s.size - (intOf i).toNat)
  case atStart => exact ⟨0, Nat.zero_le _, rfl, rfl⟩
  case round =>
    obtain ⟨k, hk, rfl, ha⟩ := hrel
    have HA : Hid ((s.data.toList.take k).all nch = true) := ha
    clear ha
    by_cases hlt : k < s.size
    · by_cases q1 : 97 ≤ (s[k].toNat : Int) <;> by_cases q2 : (s[k].toNat : Int) ≤ 122 <;> first | (exfalso; omega) | skip
      all_goals
        go_wp2
        first
          | (go_ret; exact ⟨ret_bool (by simp [nameOk, nnot_all s k hlt (nch_no (by omega))]), rfl⟩)
          | exact ⟨⟨k + 1, by omega, by go_num, nall_take s k hlt HA.out (nch_yes (by omega))⟩, by simp [intOf]; omega⟩
    · go_wp2_with (go_at_call 74; refine (within_any _ _ _ _).mono ?_; rintro e w' ⟨rfl, rfl⟩)
      go_ret
      have h := HA.out
      rw [nall_whole s k hlt] at h
      exact ⟨ret_bool (by simp only [nameOk, h, Bool.and_true]; unfold inR; rw [Bool.eq_iff_iff, decide_eq_true_iff, decide_eq_true_iff]; simp; omega), rfl⟩

set_option maxHeartbeats 400000 in
theorem lit1_any (nm : ByteArray) (kd : Int) (w : World) :
    Calls Try.prog 64 #[.agg #[.string nm, .int .i64 kd]] w fun e w' => e = .returned (.string nm) ∧ w' = w.alloc (.cells #[.string nm, .int .i64 kd] 93) := by
  go_enter Try.func64, Try.ntmps64
  go_wp2
  go_ret
  exact ⟨rfl, rfl⟩

set_option maxHeartbeats 400000 in
theorem lit2_any (nm : ByteArray) (l d : Int) (w : World) :
    Calls Try.prog 66 #[.agg #[.string nm, .int .i64 l, .int .i64 d]] w fun e w' => e = .returned (.string nm) ∧ w' = w.alloc (.cells #[.string nm, .int .i64 l, .int .i64 d] 91) := by
  go_enter Try.func66, Try.ntmps66
  go_wp2
  go_ret
  exact ⟨rfl, rfl⟩

set_option maxRecDepth 100000 in
set_option maxHeartbeats 2000000 in
theorem names_posts (xs : List PostD) (a : Option Addr) (n c : Nat) (w : World) (hn : xs.length = n) (h100 : n ≤ 100) (hp : PostsAt w a xs) :
    Calls Try.prog 63 #[.slice a n c, .func (.func 64) #[] #[]] w fun e w' => ∃ v, e = .returned v ∧ w'.ownsRow w.heap.size 9 1 v n ((xs.map PostD.name).map Value.string) ∧ Below w.heap.size w w' := by
  obtain ⟨i0, hi, hz0, hz1, hz2⟩ := info_parts Try.info9
  have HN : Hid (xs.length = n) := hn
  have HP : Hid (PostsAt w a xs) := hp
  clear hn hp
  go_enter Try.func63, Try.ntmps63
  go_wp2
  go_loopw [5, 10] (fun v i wr => ∃ k : Nat, k ≤ n ∧ i = .int .i64 k ∧ wr.ownsRow w.heap.size 9 1 v k (((xs.take k).map PostD.name).map Value.string) ∧ Below w.heap.size w wr) (fun _ i _ => n - (intOf i).toNat)
  case atStart => exact ⟨0, Nat.zero_le _, rfl, World.ownsRow_nil _ _ _ _, Below.refl _ _⟩
  case round =>
    obtain ⟨k, hk, rfl, hown, hB⟩ := hrel
    have hBs := hB.size
    by_cases hlt : k < n
    · obtain ⟨g, o, rfl, hg, hx⟩ : ∃ g o, a = some ⟨g, o, none⟩ ∧ g < w.heap.size ∧ ∀ i (h : i < xs.length), w.cell? ⟨g, o + i * 2, none⟩ = some (.string xs[i].name) ∧ w.cell? ⟨g, o + i * 2 + 1, none⟩ = some (.int .i64 xs[i].kind) := by
        rcases HP.out with h | h
        · have := HN.out; rw [h] at this; simp at this; omega
        · exact h
      have hkl : k < xs.length := by rw [HN.out]; exact hlt
      have c1 := (hB.cell (p := ⟨g, o + k * 2, none⟩) hg).trans (hx k hkl).1
      have c2 := (hB.cell (p := ⟨g, o + k * 2 + 1, none⟩) hg).trans (hx k hkl).2
      obtain ⟨x, hxx⟩ : ∃ x, x = xs[k] := ⟨_, rfl⟩
      rw [← hxx] at c1 c2
      have HX : Hid ((xs.take (k + 1)).map PostD.name = (xs.take k).map PostD.name ++ [x.name]) := by
        show (xs.take (k + 1)).map PostD.name = _
        rw [List.take_succ_eq_append_getElem hkl, hxx, List.map_append]; rfl
      clear hx hxx
      obtain ⟨nm, kd⟩ := x
      dsimp only at c1 c2
      go_wp2_with (first
        | (go_at_call 64; refine (lit1_any _ _ _).mono ?_; rintro e w1 ⟨rfl, rfl⟩)
        | (at_builtin; refine wpList_append_own _ rfl _ _ 22 rfl w.heap.size 9 i0 (.string ⟨#[]⟩) 1 16 Try.underlying22 hi hz0 hz1 hz2 rfl (by decide) _ _ _ rfl (((hown.alloc _).alloc _).alloc _) ⟨wr.heap.size + 1 + 1, 0, none⟩ 1 1 [.string nm] rfl rfl (by have h := cell_one_new ((wr.alloc (.cells #[.string nm, .int .i64 kd] 93)).alloc (.cells #[.string nm, .int .i64 kd] 93)) (.string nm) 9; simpa only [World.size_alloc] using h) (by simp [Value.oneCell']) (by unfold maxLen; omega) (by omega) (by simp; omega) ?_; intro v' w2 hown' hgrow _))
      have hB2 : Below w.heap.size w w2 := (((hB.alloc hBs _).alloc (by simp; omega) _).alloc (by simp; omega) _).grown hgrow (by simp; omega) (own_ge hown)
      go_roundw
      case rel => exact ⟨k + 1, by omega, by go_num, by rw [HX.out]; simpa using hown', hB2⟩
      case measure => simp [intOf]; omega
    · go_wp2
      go_ret
      have e : xs.take k = xs := List.take_of_length_le (by rw [HN.out]; omega)
      have ek : k = n := by omega
      rw [e, ek] at hown
      exact ⟨_, rfl, hown, hB⟩
set_option maxRecDepth 100000 in
set_option maxHeartbeats 2000000 in
theorem names_queues (xs : List QueueD) (a : Option Addr) (n c : Nat) (w : World) (hn : xs.length = n) (h100 : n ≤ 100) (hp : QueuesAt w a xs) :
    Calls Try.prog 65 #[.slice a n c, .func (.func 66) #[] #[]] w fun e w' => ∃ v, e = .returned v ∧ w'.ownsRow w.heap.size 9 1 v n ((xs.map QueueD.name).map Value.string) ∧ Below w.heap.size w w' := by
  obtain ⟨i0, hi, hz0, hz1, hz2⟩ := info_parts Try.info9
  have HN : Hid (xs.length = n) := hn
  have HP : Hid (QueuesAt w a xs) := hp
  clear hn hp
  go_enter Try.func65, Try.ntmps65
  go_wp2
  go_loopw [5, 10] (fun v i wr => ∃ k : Nat, k ≤ n ∧ i = .int .i64 k ∧ wr.ownsRow w.heap.size 9 1 v k (((xs.take k).map QueueD.name).map Value.string) ∧ Below w.heap.size w wr) (fun _ i _ => n - (intOf i).toNat)
  case atStart => exact ⟨0, Nat.zero_le _, rfl, World.ownsRow_nil _ _ _ _, Below.refl _ _⟩
  case round =>
    obtain ⟨k, hk, rfl, hown, hB⟩ := hrel
    have hBs := hB.size
    by_cases hlt : k < n
    · obtain ⟨g, o, rfl, hg, hx⟩ : ∃ g o, a = some ⟨g, o, none⟩ ∧ g < w.heap.size ∧ ∀ i (h : i < xs.length), w.cell? ⟨g, o + i * 3, none⟩ = some (.string xs[i].name) ∧ w.cell? ⟨g, o + i * 3 + 1, none⟩ = some (.int .i64 xs[i].limit) ∧ w.cell? ⟨g, o + i * 3 + 2, none⟩ = some (.int .i64 xs[i].dead) := by
        rcases HP.out with h | h
        · have := HN.out; rw [h] at this; simp at this; omega
        · exact h
      have hkl : k < xs.length := by rw [HN.out]; exact hlt
      have c1 := (hB.cell (p := ⟨g, o + k * 3, none⟩) hg).trans (hx k hkl).1
      have c2 := (hB.cell (p := ⟨g, o + k * 3 + 1, none⟩) hg).trans (hx k hkl).2.1
      have c3 := (hB.cell (p := ⟨g, o + k * 3 + 2, none⟩) hg).trans (hx k hkl).2.2
      obtain ⟨x, hxx⟩ : ∃ x, x = xs[k] := ⟨_, rfl⟩
      rw [← hxx] at c1 c2 c3
      have HX : Hid ((xs.take (k + 1)).map QueueD.name = (xs.take k).map QueueD.name ++ [x.name]) := by
        show (xs.take (k + 1)).map QueueD.name = _
        rw [List.take_succ_eq_append_getElem hkl, hxx, List.map_append]; rfl
      clear hx hxx
      obtain ⟨nm, kd, kd2⟩ := x
      dsimp only at c1 c2 c3
      go_wp2_with (first
        | (go_at_call 66; refine (lit2_any _ _ _ _).mono ?_; rintro e w1 ⟨rfl, rfl⟩)
        | (at_builtin; refine wpList_append_own _ rfl _ _ 22 rfl w.heap.size 9 i0 (.string ⟨#[]⟩) 1 16 Try.underlying22 hi hz0 hz1 hz2 rfl (by decide) _ _ _ rfl (((hown.alloc _).alloc _).alloc _) ⟨wr.heap.size + 1 + 1, 0, none⟩ 1 1 [.string nm] rfl rfl (by have h := cell_one_new ((wr.alloc (.cells #[.string nm, .int .i64 kd, .int .i64 kd2] 91)).alloc (.cells #[.string nm, .int .i64 kd, .int .i64 kd2] 91)) (.string nm) 9; simpa only [World.size_alloc] using h) (by simp [Value.oneCell']) (by unfold maxLen; omega) (by omega) (by simp; omega) ?_; intro v' w2 hown' hgrow _))
      have hB2 : Below w.heap.size w w2 := (((hB.alloc hBs _).alloc (by simp; omega) _).alloc (by simp; omega) _).grown hgrow (by simp; omega) (own_ge hown)
      go_roundw
      case rel => exact ⟨k + 1, by omega, by go_num, by rw [HX.out]; simpa using hown', hB2⟩
      case measure => simp [intOf]; omega
    · go_wp2
      go_ret
      have e : xs.take k = xs := List.take_of_length_le (by rw [HN.out]; omega)
      have ek : k = n := by omega
      rw [e, ek] at hown
      exact ⟨_, rfl, hown, hB⟩
set_option maxRecDepth 100000 in
set_option maxHeartbeats 1000000 in
theorem allNames_any (xs : List ByteArray) (a : Option Addr) (n c : Nat) (w : World) (hn : xs.length = n) (h100 : n ≤ 100) (hsz : ∀ x ∈ xs, x.size ≤ maxLen) (hp : TextsAt w a xs) :
    Calls Try.prog 67 #[.slice a n c] w fun e w' => e = .returned (.bool (xs.all (fun x => nameOk x.data.toList))) ∧ w' = w := by
  have HN : Hid (xs.length = n) := hn
  have HP : Hid (TextsAt w a xs) := hp
  have HS : Hid (∀ x ∈ xs, x.size ≤ maxLen) := hsz
  clear hn hp hsz
  go_enter Try.func67, Try.ntmps67
  go_wp2
  go_loop [7] (fun i => ∃ k : Nat, k ≤ n ∧ i = .int .i64 k ∧ (∀ x ∈ xs.take k, nameOk x.data.toList = true)) (fun i => n - (intOf i).toNat)
  case atStart => exact ⟨0, Nat.zero_le _, rfl, by simp⟩
  case round =>
    obtain ⟨k, hk, rfl, ha⟩ := hrel
    have HA : Hid (∀ x ∈ xs.take k, nameOk x.data.toList = true) := ha
    clear ha
    by_cases hlt : k < n
    · have hkl : k < xs.length := by rw [HN.out]; exact hlt
      obtain ⟨g, o, rfl, hg, ht⟩ := HP.out.cells (by omega)
      have c1 := ht k hkl
      obtain ⟨x, hxx⟩ : ∃ x, x = xs[k] := ⟨_, rfl⟩
      have hxs : x.size ≤ maxLen := HS.out x (by rw [hxx]; exact List.getElem_mem hkl)
      rw [← hxx] at c1
      have HX : Hid (x = xs[k]) := hxx
      clear ht hxx
      cases hb : nameOk x.data.toList with
      | true =>
        go_wp2_with (go_at_call 29; refine (name_any _ _ hxs).mono ?_; rintro e w1 ⟨rfl, rfl⟩)
        go_round
        case rel => exact ⟨k + 1, by omega, by go_num, take_all_snoc (p := fun x => nameOk x.data.toList) hkl HA.out (by rw [← HX.out]; exact hb)⟩
        case measure => simp [intOf]; omega
      | false =>
        go_wp2_with (go_at_call 29; refine (name_any _ _ hxs).mono ?_; rintro e w1 ⟨rfl, rfl⟩)
        go_ret
        exact ⟨ret_bool (all_false_get (p := fun x => nameOk x.data.toList) hkl (by rw [← HX.out]; exact hb)).symm, rfl⟩
    · go_wp2_with fail
      go_ret
      exact ⟨ret_bool (all_of_take (p := fun x => nameOk x.data.toList) HN.out hlt HA.out).symm, rfl⟩
end Go.Proofs.Ythhkpgnjpieckaa
