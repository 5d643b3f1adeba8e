/- ask.Never, ask.OK: what may not be is left by a panic. -/
import Derived.WalkLawsBesides
import Derived.Test.YthhkpgnjpieckaaOf
namespace Go.Proofs.Ythhkpgnjpieckaa
set_option linter.unusedVariables false
set_option maxRecDepth 100000
open Go.RowKit

/-- How it is left: by a panic with that error; or at its end. -/
def panE (d : Int) : Ending := .panicked [{ v := .iface 23 (.int .i64 d), recovered := false }]
def okE : Ending := .returned (.tuple #[])
def askE (d : Int) : Ending := if d = 0 then okE else panE d
theorem askE_ok : askE 0 = okE := rfl
theorem askE_pan {d : Int} (h : d ≠ 0) : askE d = panE d := if_neg h

theorem bools_new (w : World) (bs : List Bool) : IsBools (w.alloc (.cells (bs.map Value.bool).toArray 4)) w.heap.size 0 bs := by
  intro i hi
  have h := World.alloc_heap_new w (.cells (bs.map Value.bool).toArray 4)
  rw [cell_of_cells h]; simp [hi]

set_option maxHeartbeats 1000000 in
theorem indexB_any (bs : List Bool) (g n c : Nat) (w : World) (hn : bs.length = n) (hm : n ≤ 100) (h : IsBools w g 0 bs) :
    Calls Try.prog 137 #[.slice (some ⟨g, 0, none⟩) n c, .bool true] w fun e w' => ∃ i : Int, e = .returned (.int .i64 i) ∧ (0 ≤ i ↔ true ∈ bs) ∧ w' = w := by
  have HN : Hid (bs.length = n) := hn
  have H : Hid (IsBools w g 0 bs) := h
  clear hn h
  go_enter Try.func137, Try.ntmps137
  go_wp2_with fail
  go_loopw [5, 8] (fun _ i wr => ∃ (k : Nat), k ≤ n ∧ i = .int .i64 k ∧ (true ∉ bs.take k) ∧ wr = w) (fun _ i _ => n - (intOf i).toNat)
  case atStart => exact ⟨0, Nat.zero_le _, rfl, by simp, rfl⟩
  case round =>
    obtain ⟨k, hk, rfl, hno, rfl⟩ := hrel
    have HNO : Hid (true ∉ bs.take k) := hno
    clear hno
    by_cases hlt : k < n
    · have hkl : k < bs.length := by rw [HN.out]; exact hlt
      have d1 := H.out k hkl
      rw [Nat.zero_add] at d1
      have HKM : Hid (bs[k] ∈ bs) := List.getElem_mem hkl
      have HTK : Hid (bs.take (k + 1) = bs.take k ++ [bs[k]]) := List.take_succ_eq_append_getElem hkl
      obtain ⟨y, hy⟩ : ∃ y, y = bs[k] := ⟨_, rfl⟩
      rw [← hy] at d1 HKM HTK
      have j1 : (0 : Int) ≤ (k : Int) := by omega
      have j2 : (k : Int) < n := by omega
      clear hy
      cases y with
      | true =>
        go_wp2_with fail
        go_ret
        exact ⟨k, rfl, ⟨fun _ => HKM.out, fun _ => by omega⟩, rfl⟩
      | false =>
        go_wp2_with fail
        go_roundw
        case rel => exact ⟨k + 1, by omega, by go_num, by rw [HTK.out, List.mem_append, List.mem_singleton]; exact fun h => h.elim HNO.out (fun e => nomatch e), by first | trivial | rfl⟩
        case measure => simp [intOf]; omega
    · have hke : k = n := by omega
      subst hke
      clear hlt hk
      go_wp2_with fail
      go_ret
      refine ⟨-1, rfl, ⟨fun h => by omega, fun h => ?_⟩, rfl⟩
      have := HNO.out
      rw [← HN.out, List.take_length] at this
      exact absurd h this

set_option maxHeartbeats 1000000 in
theorem never_yes (d : Int) (bs : List Bool) (g : Nat) (w : World) (hm : bs.length ≤ 100) (h : IsBools w g 0 bs) (hb : true ∈ bs) :
    Calls Try.prog 96 #[.int .i64 d, .slice (some ⟨g, 0, none⟩) bs.length bs.length] w fun e w' => e = .panicked [{ v := .iface 23 (.int .i64 d), recovered := false }] ∧ w' = w := by
  obtain ⟨n, hn⟩ : ∃ n, n = bs.length := ⟨_, rfl⟩
  rw [← hn] at hm ⊢
  have HN : Hid (n = bs.length) := hn
  have H : Hid (IsBools w g 0 bs) := h
  have HB : Hid (true ∈ bs) := hb
  clear hn h hb
  go_enter Try.func96, Try.ntmps96
  go_wp2_with (first | (go_at_call 137; refine (indexB_any bs g _ _ _ HN.out.symm hm H.out).mono ?_; rintro e w2 ⟨i, rfl, hi, rfl⟩; have hi0 : (0 : Int) ≤ i := hi.2 HB.out; clear hi) | go_in)
  first
    | exact ⟨rfl, rfl, rfl⟩
    | (go_end0; exact ⟨rfl, rfl⟩)

set_option maxHeartbeats 1000000 in
theorem never_no (d : Int) (bs : List Bool) (g : Nat) (w : World) (hm : bs.length ≤ 100) (h : IsBools w g 0 bs) (hb : true ∉ bs) :
    Calls Try.prog 96 #[.int .i64 d, .slice (some ⟨g, 0, none⟩) bs.length bs.length] w fun e w' => e = .returned (.tuple #[]) ∧ w' = w := by
  obtain ⟨n, hn⟩ : ∃ n, n = bs.length := ⟨_, rfl⟩
  rw [← hn] at hm ⊢
  have HN : Hid (n = bs.length) := hn
  have H : Hid (IsBools w g 0 bs) := h
  have HB : Hid (true ∉ bs) := hb
  clear hn h hb
  go_enter Try.func96, Try.ntmps96
  go_wp2_with (first | (go_at_call 137; refine (indexB_any bs g _ _ _ HN.out.symm hm H.out).mono ?_; rintro e w2 ⟨i, rfl, hi, rfl⟩; have hi0 : ¬ (0 : Int) ≤ i := fun h => HB.out (hi.1 h); clear hi) | go_in)
  first
    | exact ⟨rfl, rfl, rfl⟩
    | (go_end0; exact ⟨rfl, rfl⟩)


set_option maxHeartbeats 1000000 in
theorem ok_yes (d : Int) (g : Nat) (w : World) (hc : w.cell? ⟨g, 0, none⟩ = some (.int .i64 d)) (hg : g < w.heap.size) (hd : d ≠ 0) :
    Calls Try.prog 95 #[.slice (some ⟨g, 0, none⟩) 1 1] w fun e w' => e = .panicked [{ v := .iface 23 (.int .i64 d), recovered := false }] ∧ Below w.heap.size w w' := by
  have hd' : (d != 0) = true := bne_iff_ne.2 hd
  go_enter Try.func95, Try.ntmps95
  go_wp2_with fail
  go_loopw [3, 6] (fun _ i wr => i = .int .i64 0 ∧ wr = w) (fun _ _ _ => 0)
  case atStart => exact ⟨rfl, rfl⟩
  case round =>
    obtain ⟨rfl, rfl⟩ := hrel
    go_wp2_with (go_at_call 96; refine (never_yes d [true] _ _ (by simp) (bools_new _ [true]) (by simp)).mono ?_; rintro e w2 ⟨rfl, rfl⟩)
    exact ⟨rfl, rfl, (Below.refl _ _).alloc (Nat.le_refl _) _⟩

set_option maxHeartbeats 1000000 in
theorem ok_no (g : Nat) (w : World) (hc : w.cell? ⟨g, 0, none⟩ = some (.int .i64 0)) (hg : g < w.heap.size) :
    Calls Try.prog 95 #[.slice (some ⟨g, 0, none⟩) 1 1] w fun e w' => e = .returned (.tuple #[]) ∧ Below w.heap.size w w' := by
  go_enter Try.func95, Try.ntmps95
  go_wp2_with fail
  go_loopw [3, 6] (fun _ i wr => ∃ k : Nat, k ≤ 1 ∧ i = .int .i64 k ∧ Below w.heap.size w wr) (fun _ i _ => 1 - (intOf i).toNat)
  case atStart => exact ⟨0, by omega, rfl, Below.refl _ _⟩
  case round =>
    obtain ⟨k, hk, rfl, hB⟩ := hrel
    have hB' := hB.size
    by_cases hlt : k < 1
    · have hk0 : k = 0 := by omega
      subst hk0
      have hc' := (hB.cell (p := ⟨g, 0, none⟩) hg).trans hc
      go_wp2_with (go_at_call 96; refine (never_no 0 [false] _ _ (by simp) (bools_new _ [false]) (by simp)).mono ?_; rintro e w2 ⟨rfl, rfl⟩)
      go_roundw
      case rel => exact ⟨1, by omega, rfl, hB.alloc hB' _⟩
      case measure => simp [intOf]
    · have hk1 : k = 1 := by omega
      subst hk1
      go_wp2_with fail
      go_end0
      exact ⟨rfl, hB⟩
end Go.Proofs.Ythhkpgnjpieckaa
