/- mailcoachlaw.letter, linesBegun. -/
import Derived.KernelRfl
import Derived.Test.YthhkpgnjpieckaaLt
namespace Go.Proofs.Ythhkpgnjpieckaa
set_option linter.unusedVariables false
set_option maxRecDepth 100000
open Go.RowKit

def xy : ByteArray := ⟨#[120, 46, 121]⟩
def mk (q : Int) (b : ByteArray) : ItemD := ⟨q, ⟨#[120, 46, 121]⟩, b, false, 0⟩
def tOne : ByteArray := ⟨#[111, 110, 101]⟩
def tTwo : ByteArray := ⟨#[116, 119, 111]⟩
def tFour : ByteArray := ⟨#[102, 111, 117, 114]⟩
def tX : ByteArray := ⟨#[120]⟩
def lineL : List ItemD := [mk 1 ⟨#[111, 110, 101]⟩, mk 4 ⟨#[102, 111, 117, 114]⟩]
def lineA : List ItemD := [mk 1 ⟨#[111, 110, 101]⟩, mk 2 ⟨#[116, 119, 111]⟩, mk 4 ⟨#[102, 111, 117, 114]⟩]

set_option maxHeartbeats 1000000 in
theorem letter_any (q : Int) (b : ByteArray) (w : World) :
    Calls Try.prog 91 #[.int .i64 q, .string b] w fun e w' => e = .returned (.agg #[.int .i64 q, .string ⟨#[120, 46, 121]⟩, .string b, .bool false, .int .i64 0]) ∧ Below w.heap.size w w' := by
  go_enter Try.func91, Try.ntmps91
  go_wp2
  exact bodyPost_ret (v := .agg #[.int .i64 q, .string ⟨#[120, 46, 121]⟩, .string b, .bool false, .int .i64 0]) (by simp [results, Try.results91, go_sem]) rfl ⟨rfl, (by repeat (first | exact Below.refl _ _ | assumption | refine Below.drew ?_ | refine Below.alloc ?_ (by first | (simp; done) | (simp; omega) | omega) _ | refine Below.setCell ?_ (by first | (simp; done) | (simp; omega) | omega) _))⟩

theorem facts_L : (pushE lineL (mk 2 ⟨#[116, 119, 111]⟩) = 0 ∧ pushE lineL (mk 4 ⟨#[120]⟩) = 6) ∧ (shedE lineA 1 = 0 ∧ lineE lineL = 0 ∧ lineE [⟨1, ⟨#[]⟩, ⟨#[111, 110, 101]⟩, false, 0⟩] = 1) := by decide +kernel
theorem facts_A : pushV lineL (mk 2 ⟨#[116, 119, 111]⟩) = lineA ∧ shedA lineA 1 = [mk 4 ⟨#[102, 111, 117, 114]⟩] ∧ shedB lineA 1 = [mk 1 ⟨#[111, 110, 101]⟩, mk 2 ⟨#[116, 119, 111]⟩] := ⟨by kernel_rfl, by kernel_rfl, by kernel_rfl⟩

/-- A row of letters that a literal laid. -/
theorem items_of {W : World} {b : Nat} {cs : Array Value} {t : TypeId} (h : W.heap[b]? = some (.cells cs t (0, 0))) (xs : List ItemD) (hc : itemCells xs = cs.toList) : ItemsAt W (some ⟨b, 0, none⟩) xs :=
  .inr ⟨b, 0, rfl, (Array.getElem?_eq_some_iff.1 h).1, fun i hi => ItemCells.of fun j hj => by
    rw [cell_blk h, Nat.zero_add, ← Array.getElem?_toList, ← hc, itemCells_at xs i hi j hj]⟩

set_option maxRecDepth 100000 in
set_option maxHeartbeats 8000000 in
theorem linesBegun_any (w : World) : Calls Try.prog 44 #[] w fun e w' => e = .returned (.bool true) ∧ Below w.heap.size w w' := by
  obtain ⟨⟨f1, f2⟩, f3, f4, f5⟩ := facts_L
  obtain ⟨f6, f7, f8⟩ := facts_A
  have F : Hid ((pushE lineL (mk 2 ⟨#[116, 119, 111]⟩) = 0 ∧ pushE lineL (mk 4 ⟨#[120]⟩) = 6) ∧ (shedE lineA 1 = 0 ∧ lineE lineL = 0 ∧ lineE [⟨1, ⟨#[]⟩, ⟨#[111, 110, 101]⟩, false, 0⟩] = 1)) := ⟨⟨f1, f2⟩, f3, f4, f5⟩
  have G : Hid (pushV lineL (mk 2 ⟨#[116, 119, 111]⟩) = lineA ∧ shedA lineA 1 = [mk 4 ⟨#[102, 111, 117, 114]⟩] ∧ shedB lineA 1 = [mk 1 ⟨#[111, 110, 101]⟩, mk 2 ⟨#[116, 119, 111]⟩]) := ⟨f6, f7, f8⟩
  clear f1 f2 f3 f4 f5 f6 f7 f8
  go_enter Try.func44, Try.ntmps44
  go_wp2_with fail
  refine (letter_any _ _ _).mono ?_
  rintro e w1 ⟨rfl, hB1⟩
  go_wp2_with fail
  refine (letter_any _ _ _).mono ?_
  rintro e w2 ⟨rfl, hB2⟩
  have hB02 : Below w.heap.size w w2 := hB1.trans (hB2.mono hB1.size)
  obtain ⟨W3, hW3⟩ : ∃ W3, W3 = w2.alloc (.cells #[.int .i64 1, .string ⟨#[120, 46, 121]⟩, .string ⟨#[111, 110, 101]⟩, .bool false, .int .i64 0, .int .i64 4, .string ⟨#[120, 46, 121]⟩, .string ⟨#[102, 111, 117, 114]⟩, .bool false, .int .i64 0] 59) := ⟨_, rfl⟩
  have hB3 : Below w2.heap.size w2 W3 := by rw [hW3]; exact (Below.refl _ _).alloc (Nat.le_refl _) _
  have hp3 : ItemsAt W3 (some ⟨w2.heap.size, 0, none⟩) lineL := by rw [hW3]; exact items_of (World.alloc_heap_new w2 _) _ rfl
  have HW3 : Hid (W3 = _) := hW3
  have HP3 : Hid (ItemsAt W3 (some ⟨w2.heap.size, 0, none⟩) lineL) := hp3
  have hB03 : Below w.heap.size w W3 := hB02.trans (hB3.mono hB02.size)
  clear hW3 hp3 hB1 hB2 hB02 hB3
  go_wp2_with fail
  rw [← HW3.out]
  refine (letter_any _ _ _).mono ?_
  rintro e w4 ⟨rfl, hB4⟩
  go_wp2_with fail
  refine (push_any lineL _ 2 2 2 0 ⟨#[120, 46, 121]⟩ ⟨#[116, 119, 111]⟩ false w4 rfl (by omega) (by unfold maxLen; omega) (fun e => by cases e) (HP3.out.keep hB4)).mono ?_
  rintro e w5 ⟨va, ma, rfl, ownA, hB5⟩
  rw [show pushE lineL ⟨2, ⟨#[120, 46, 121]⟩, ⟨#[116, 119, 111]⟩, false, 0⟩ = 0 from F.out.1.1]
  have ownA' : w5.ownsRow w4.heap.size 59 5 va ma (itemCells lineA) := by have := ownA; rw [show pushV lineL ⟨2, ⟨#[120, 46, 121]⟩, ⟨#[116, 119, 111]⟩, false, 0⟩ = lineA from G.out.1] at this; exact this
  obtain ⟨hma, aA, cA, rfl, hleA, hcmA, hzA, itA⟩ := own_items ownA'
  have hma' : ma = 3 := hma
  subst hma'
  have hB35 : Below W3.heap.size W3 w5 := hB4.trans (hB5.mono hB4.size)
  clear ownA ownA' hma hB4 hB5
  go_wp2_with fail
  refine (letter_any _ _ _).mono ?_
  rintro e w6 ⟨rfl, hB6⟩
  have hB36 : Below W3.heap.size W3 w6 := hB35.trans (hB6.mono hB35.size)
  go_wp2_with fail
  refine (push_any lineL _ 2 2 4 0 ⟨#[120, 46, 121]⟩ ⟨#[120]⟩ false w6 rfl (by omega) (by unfold maxLen; omega) (fun e => by cases e) (HP3.out.keep hB36)).mono ?_
  rintro e w7 ⟨vf, mf, rfl, _, hB7⟩
  rw [show pushE lineL ⟨4, ⟨#[120, 46, 121]⟩, ⟨#[120]⟩, false, 0⟩ = 6 from F.out.1.2]
  have hB57 : Below w5.heap.size w5 w7 := hB6.trans (hB7.mono hB6.size)
  have itA7 := itA.keep hB57
  go_wp2_with fail
  refine (shed_any lineA _ 3 _ 1 w7 rfl hleA hcmA (fun e => (hzA e).1) itA7 (by omega)).mono ?_
  rintro e w8 ⟨vb, vc, mb, mc, rfl, ownB, ownC, hB8⟩
  rw [F.out.2.1]
  rw [G.out.2.1] at ownB
  rw [G.out.2.2] at ownC
  obtain ⟨hmb, aB, cB, rfl, hleB, hcmB, hzB, itB⟩ := own_items ownB
  obtain ⟨hmc, aC, cC, rfl, hleC, hcmC, hzC, itC⟩ := own_items ownC
  have hmb' : mb = 1 := hmb
  have hmc' : mc = 2 := hmc
  subst hmb' hmc'
  clear ownB ownC hmb hmc hcmB hcmC hzB hzC hleB hleC itC
  have hB58 : Below w5.heap.size w5 w8 := hB57.trans (hB8.mono hB57.size)
  go_wp2_with fail
  refine (letter_any _ _ _).mono ?_
  rintro e w9 ⟨rfl, hB9⟩
  obtain ⟨gA, oA, rfl, hgA, hxA⟩ := itA.cells (by decide)
  obtain ⟨gB, oB, rfl, hgB, hxB⟩ := itB.cells (by decide)
  have cA1 := (hxA 1 (by decide)).2.2.1
  have cB0 := (hxB 0 (by decide)).1
  simp only [Nat.one_mul, Nat.zero_mul, Nat.add_zero] at cA1 cB0
  obtain ⟨W10, hW10, hB10, hs10, hbx⟩ := item_box w9 (.int .i64 1) (.string ⟨#[]⟩) (.string ⟨#[111, 110, 101]⟩) (.bool false) (.int .i64 0) 59
  have HW10 : Hid (W10 = _) := hW10
  have BX : Hid (∀ W, Below W10.heap.size W10 W → _) := hbx
  have hB810 : Below w8.heap.size w8 W10 := hB9.trans (hB10.mono hB9.size)
  have hB510 : Below w5.heap.size w5 W10 := hB58.trans (hB810.mono hB58.size)
  have hB310 : Below W3.heap.size W3 W10 := hB35.trans (hB510.mono hB35.size)
  have cA1' : W10.cell? ⟨gA, oA + 5 + 2, none⟩ = some (.string ⟨#[116, 119, 111]⟩) := (hB510.cell (p := ⟨gA, _, none⟩) hgA).trans cA1
  have cB0' : W10.cell? ⟨gB, oB, none⟩ = some (.int .i64 4) := (hB810.cell (p := ⟨gB, _, none⟩) hgB).trans cB0
  have HC : Hid (W10.cell? ⟨gA, oA + 5 + 2, none⟩ = some (.string ⟨#[116, 119, 111]⟩) ∧ W10.cell? ⟨gB, oB, none⟩ = some (.int .i64 4)) := ⟨cA1', cB0'⟩
  have hgA' : gA < W10.heap.size := Nat.lt_of_lt_of_le hgA hB510.size
  have hgB' : gB < W10.heap.size := Nat.lt_of_lt_of_le hgB hB810.size
  have hB010 : Below w.heap.size w W10 := hB03.trans (hB310.mono hB03.size)
  clear hW10 hbx hs10 hB10 hB9 hB8 hB7 hB6 hB36 hB57 hB58 hB810 hB510 cA1 cB0 cA1' cB0' hxA hxB itA itB itA7 hzA hB03 hB35 hgA hgB
  go_wp2_with fail
  rw [← HW10.out]
  refine (lcheck_any lineL _ 2 2 _ rfl (by unfold maxLen; omega) (HP3.out.keep hB310)).mono ?_
  rintro e w11 ⟨rfl, hB11⟩
  rw [F.out.2.2.1]
  obtain ⟨d0, d1, d2, d3, d4⟩ := BX.out w11 hB11
  obtain ⟨W12, hW12⟩ : ∃ W12, W12 = w11.alloc (.cells #[.int .i64 1, .string ⟨#[]⟩, .string ⟨#[111, 110, 101]⟩, .bool false, .int .i64 0] 59) := ⟨_, rfl⟩
  have hB12 : Below w11.heap.size w11 W12 := by rw [hW12]; exact (Below.refl _ _).alloc (Nat.le_refl _) _
  have HP12 : Hid (ItemsAt W12 (some ⟨w11.heap.size, 0, none⟩) [⟨1, ⟨#[]⟩, ⟨#[111, 110, 101]⟩, false, 0⟩]) := by show ItemsAt _ _ _; rw [hW12]; exact items_of (World.alloc_heap_new w11 _) _ rfl
  have HW12 : Hid (W12 = _) := hW12
  clear hW12
  go_wp2_with fail
  rw [← HW12.out]
  refine (lcheck_any [⟨1, ⟨#[]⟩, ⟨#[111, 110, 101]⟩, false, 0⟩] _ 1 1 _ rfl (by unfold maxLen; omega) HP12.out).mono ?_
  rintro e w13 ⟨rfl, hB13⟩
  rw [F.out.2.2.2]
  have hB1013 : Below W10.heap.size W10 w13 := hB11.trans ((hB12.trans (hB13.mono hB12.size)).mono hB11.size)
  have e1 := (hB1013.cell (p := ⟨gA, oA + 5 + 2, none⟩) hgA').trans HC.out.1
  have e2 := (hB1013.cell (p := ⟨gB, oB, none⟩) hgB').trans HC.out.2
  clear d0 d1 d2 d3 d4
  go_wp2_with fail
  go_ret
  exact ⟨rfl, hB010.trans (hB1013.mono hB010.size)⟩
end Go.Proofs.Ythhkpgnjpieckaa
