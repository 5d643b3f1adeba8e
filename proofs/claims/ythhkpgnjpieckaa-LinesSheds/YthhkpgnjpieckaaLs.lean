/- mailcoachref.SameItems at the same letters; lines.copied. -/
import Derived.Laws.StructEq
import Derived.Test.YthhkpgnjpieckaaLw
import Derived.Test.YthhkpgnjpieckaaHk
namespace Go.Proofs.Ythhkpgnjpieckaa
set_option linter.unusedVariables false
set_option maxRecDepth 100000
open Go.RowKit

set_option maxHeartbeats 4000000 in
theorem same_items (xs : List ItemD) (a1 a2 : Option Addr) (n c1 c2 : Nat) (w : World) (hn : xs.length = n) (hm : n ≤ maxLen) (h1 : ItemsAt w a1 xs) (h2 : ItemsAt w a2 xs) :
    Calls Try.prog 47 #[.slice a1 n c1, .slice a2 n c2] w fun e w' => e = .returned (.bool true) ∧ Below w.heap.size w w' := by
  have HN : Hid (xs.length = n) := hn
  have HP : Hid (ItemsAt w a1 xs ∧ ItemsAt w a2 xs) := ⟨h1, h2⟩
  unfold maxLen at hm
  clear hn h1 h2
  go_enter Try.func47, Try.ntmps47
  go_wp2
  go_loopw [5] (fun i wr => ∃ (k : Nat), k ≤ n ∧ i = .int .i64 k ∧ Below w.heap.size w wr) (fun i _ => n - (intOf i).toNat)
  case atStart => exact ⟨0, Nat.zero_le _, rfl, Below.refl _ _⟩
  case round =>
    obtain ⟨k, hk, rfl, hB⟩ := hrel
    have hBs := hB.size
    by_cases hlt : k < n
    · have hkl : k < xs.length := by rw [HN.out]; exact hlt
      obtain ⟨g, o, rfl, hg, hx⟩ := HP.out.1.cells (by omega)
      obtain ⟨g', o', rfl, hg', hx'⟩ := HP.out.2.cells (by omega)
      obtain ⟨x, hxx⟩ : ∃ x, x = xs[k] := ⟨_, rfl⟩
      have hc := (hx k hkl).keep hB hg
      have hc' := (hx' k hkl).keep hB hg'
      rw [← hxx] at hc hc'
      clear hx hx' hxx
      obtain ⟨s, ky, b, ag, d⟩ := x
      have j1 : (0 : Int) ≤ (k : Int) := by omega
      have j2 : (k : Int) < n := by omega
      go_wp2_with fail
      refine wp_region_held_drew (S := fun w' => (w'.cell? ⟨g, o + k * 5, none⟩ = some (.int .i64 s) ∧ w'.cell? ⟨g, o + k * 5 + 1, none⟩ = some (.string ky) ∧ w'.cell? ⟨g, o + k * 5 + 2, none⟩ = some (.string b) ∧ w'.cell? ⟨g, o + k * 5 + 3, none⟩ = some (.bool ag) ∧ w'.cell? ⟨g, o + k * 5 + 4, none⟩ = some (.int .i64 d)) ∧
        (w'.cell? ⟨g', o' + k * 5, none⟩ = some (.int .i64 s) ∧ w'.cell? ⟨g', o' + k * 5 + 1, none⟩ = some (.string ky) ∧ w'.cell? ⟨g', o' + k * 5 + 2, none⟩ = some (.string b) ∧ w'.cell? ⟨g', o' + k * 5 + 3, none⟩ = some (.bool ag) ∧ w'.cell? ⟨g', o' + k * 5 + 4, none⟩ = some (.int .i64 d))) (by kernel_rfl) ⟨hc, hc'⟩ (fun hHeld => ?_)
      refine tk 0 ?_
      refine tk 1 ?_
      refine tk 2 ?_
      refine tk 3 ?_
      refine tk 4 ?_
      refine tk 5 ?_
      refine tk 6 ?_
      refine tk 7 ?_
      refine tk 8 ?_
      refine wpAnyH_done (by kernel_rfl) ?_ _
      go_wp2_with fail
      go_roundw
      case rel => exact ⟨k + 1, by omega, by go_num, ⟨hB.os, hB.tape, hB.output, hB.size, hB.block⟩⟩
      case measure => simp [intOf]; omega
    · go_wp2
      go_ret
      exact ⟨rfl, hB⟩

set_option maxHeartbeats 2000000 in
theorem copied_any (xs : List ItemD) (a : Option Addr) (n c : Nat) (w : World) (hn : xs.length = n) (hb : n ≤ 100000000) (hz : a = none → c = 0 ∧ xs = []) (hp : ItemsAt w a xs) :
    Calls Try.prog 92 #[.slice a n c] w fun e w' => ∃ v, e = .returned v ∧ w'.ownsRow w.heap.size 59 5 v n (itemCells xs) ∧ Below w.heap.size w w' := by
  have HN : Hid (xs.length = n) := hn
  have HP : Hid (ItemsAt w a xs) := hp
  have HZ : Hid (a = none → c = 0 ∧ xs = []) := hz
  clear hn hp hz
  go_enter Try.func92, Try.ntmps92
  go_wp2_with (at_builtin; refine append_items rfl _ _ rfl w.heap.size (.slice none 0 0) 0 [] rfl (World.ownsRow_nil _ _ _ _) a n c xs rfl HN.out HZ.out HP.out (by omega) (Nat.le_refl _) ?_; intro v' w3 hown3 hgrow3)
  go_ret
  exact ⟨v', rfl, by simpa using hown3, (Below.refl _ _).grown hgrow3 (Nat.le_refl _) (by simp [Value.ownBlock])⟩
end Go.Proofs.Ythhkpgnjpieckaa
