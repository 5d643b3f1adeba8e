import Derived.Test.YtpoichgodamnkaaGreatKtx
import Derived.Test.YtpoichgodamnkaaGreatVUr
namespace Go.Proofs.YtpoichgodamnkaaGreat
open Go.RowKit Go.Maps
set_option linter.unusedVariables false
set_option maxRecDepth 100000
set_option maxHeartbeats 8000000
def arr1 : List ArrD := [⟨0, ⟨#[120, 46, 121]⟩, ⟨#[110, 101, 119]⟩, 0⟩, ⟨1, ⟨#[122]⟩, ⟨#[111, 116, 104, 101, 114]⟩, 0⟩]
def arr2 : List ArrD := [⟨3, ⟨#[120]⟩, ⟨#[]⟩, 0⟩]
def arrA : StateD := arrS officeP 600 bS arr1
theorem facts_A : letE officeP bS arr1 = 0 ∧ letE officeP bS arr2 = 5 ∧ arrN officeP 600 bS arr1 = 3 ∧ arrA.came = 7 ∧ arrA.dropped = 1 ∧ arrA.ready.length = 3 := by decide +kernel
theorem facts_B : lineAt arrA 0 = [⟨3, ⟨#[120, 46, 121]⟩, ⟨#[116, 104, 114, 101, 101]⟩, false, 0⟩, ⟨4, ⟨#[120, 46, 121]⟩, ⟨#[110, 101, 119]⟩, false, 0⟩] ∧ (lineAt arrA 1).length = 1 ∧ lineAt arrA 2 = [⟨6, ⟨#[120, 46, 121]⟩, ⟨#[116, 119, 111]⟩, false, 1⟩] := by
 refine ⟨?_, ?_, ?_⟩ <;> kernel_rfl
theorem OwnSt.lineCell {W : World} {n : Nat} {b1 b2 b3 : Option Addr} {m1 d1 m2 d2 m3 d3 : Nat} {s : StateD} (h : OwnSt W n b1 b2 b3 m1 d1 m2 d2 m3 d3 s) {q : Nat} (hq : q < s.ready.length) : ∃ g bl cl, b1 = some ⟨g, 0, none⟩ ∧ W.cell? ⟨g, q, none⟩ = some (.slice bl (lineAt s q).length cl) ∧ ItemsAt W bl (lineAt s q) := by
 obtain ⟨vs, hr1, hlv⟩ := h.r1
 have hm1 := h.l1
 obtain ⟨g, rfl⟩ : ∃ g, b1 = some ⟨g, 0, none⟩ := by
  rcases hr1.2 with ⟨e, e0⟩ | ⟨g, cap, cur, e, _⟩
  ·omega
  ·cases e; exact ⟨g, rfl⟩
 obtain ⟨v, bl, cl, hv1, hlj⟩ := hlv.get q hq
 have hcell := hr1.cellAt q (by omega)
 rw [hv1, hlj.v] at hcell
 have hsj : s.ready[q]'hq = lineAt s q := (lineAt_get hq).symm
 rw [hsj] at hcell hlj
 exact ⟨g, bl, cl, rfl, hcell, hlj.it⟩
theorem arriveBegun_any (w : World) : Calls Tryz.prog 23 #[] w fun e w' => e = .returned (.bool true) ∧ Below w.heap.size w w' := by
 have F := hidI facts_A
 go_enter Tryz.func23, Tryz.ntmps23
 go_wp2_with fail
 refine (office_any _).mono ?_
 rintro e w1 ⟨rfl, k1, hp1⟩
 have HP1 := hidI hp1
 clear hp1
 go_wp2_with fail
 refine (busy_any _).mono ?_
 rintro e w2 ⟨gI, gR, gO, gT, rfl, hb2, -, -, k2'⟩
 have HS2 := hidI (hb2.state 1)
 have k2 := k1.trans (k2'.mono k1.size)
 have HP2 := hidI (HP1.out.keep k2')
 clear hb2 k2' HP1
 obtain ⟨w3, hw3⟩ : ∃ w3, w3 = w2.alloc (.cells #[.int .i64 0, .string ⟨#[120, 46, 121]⟩, .string ⟨#[110, 101, 119]⟩, .int .i64 0, .int .i64 1, .string ⟨#[122]⟩, .string ⟨#[111, 116, 104, 101, 114]⟩, .int .i64 0] 101) := ⟨_, rfl⟩
 have l3 : Below w2.heap.size w2 w3 := by rw [hw3]; exact (Below.refl _ _).alloc (Nat.le_refl _) _
 have ha3 : ArrsAt w3 (some ⟨w2.heap.size, 0, none⟩) arr1 := by rw [hw3]; exact row_lit (cs := arrCells arr1)
 have k3 := k2.trans (l3.mono k2.size)
 have HLT := hidI (letters_any officeP _ _ _ _ 3 _ 3 _ 5 bS _ _ _ _ 3 _ 1 _ 2 arr1 (some ⟨w2.heap.size, 0, none⟩) 2 2 w3 (HP2.out.keep l3) (HS2.out.keep l3) (fun h => by cases h) (fun h => by cases h) ha3 rfl (by unfold maxLen; omega) (fun h => by cases h))
 have HW3 := hidI hw3
 have K3 := hidI k3
 clear hw3 l3 ha3 k1 k2 k3 HP2 HS2
 go_wp2_with fail
 rw [← HW3.out]
 refine HLT.out.mono ?_
 rintro e w4 ⟨v4, rfl, hres4, k4'⟩
 rw [F.out.1] at hres4 ⊢
 rw [show numOf 0 ((arrN officeP 600 bS arr1 : Nat) : Int) = 3 by unfold numOf; rw [if_pos rfl, F.out.2.2.1]; rfl]
 have hres4' : StRes w4 w3.heap.size v4 0 arrA := hres4
 obtain ⟨x1, x2, x3, t1, e1, t2, e2, t3, e3, rfl, ho4⟩ := hres4'.1 rfl
 clear hres4' hres4 HLT
 have k4 := K3.out.trans (k4'.mono K3.out.size)
 obtain rfl : t1 = 3 := ho4.l1.symm.trans F.out.2.2.2.2.2
 obtain ⟨w5, hw5⟩ : ∃ w5, w5 = w4.alloc (.cells #[.slice x1 3 e1, .slice x2 t2 e2, .slice x3 t3 e3, .int .i64 arrA.nextSeq, .int .i64 arrA.nextTag, .int .i64 arrA.came, .int .i64 arrA.acked, .int .i64 arrA.dropped] 31) := ⟨_, rfl⟩
 have l5 : Below w4.heap.size w4 w5 := by rw [hw5]; exact (Below.refl _ _).alloc (Nat.le_refl _) _
 have b5 : w5.heap[w4.heap.size]? = some (.cells #[.slice x1 3 e1, .slice x2 t2 e2, .slice x3 t3 e3, .int .i64 arrA.nextSeq, .int .i64 arrA.nextTag, .int .i64 arrA.came, .int .i64 arrA.acked, .int .i64 arrA.dropped] 31 (0, 0)) := by rw [hw5]; exact World.alloc_heap_new w4 _
 have k5 := k4.trans (l5.mono k4.size)
 have HO5 := hidI (ho4.keep l5)
 obtain ⟨BA, hBA⟩ : ∃ BA, BA = w4.heap.size := ⟨_, rfl⟩
 have HBA := hidI hBA
 rw [← hBA] at b5
 have HB5 := hidI b5
 have HW5 := hidI hw5
 have K5 := hidI k5
 clear ho4 l5 b5 hw5 k4 k4' k5 hBA
 go_upto_region 2 with fail
 rw [← HW5.out, ← HBA.out]
 go_wp2_with fail
 refine (office_any _).mono ?_
 rintro e w6 ⟨rfl, k6, hp6⟩
 have HP6 := hidI hp6
 have K6 := hidI k6
 clear hp6 k6
 go_wp2_with fail
 refine (busy_any _).mono ?_
 rintro e w7 ⟨gI', gR', gO', gT', rfl, hb7, -, -, k7'⟩
 have HS7 := hidI (hb7.state 1)
 have HP7 := hidI (HP6.out.keep k7')
 have K7 := hidI (K6.out.trans (k7'.mono K6.out.size))
 clear hb7 k7' HP6
 obtain ⟨w8, hw8⟩ : ∃ w8, w8 = w7.alloc (.cells #[.int .i64 3, .string ⟨#[120]⟩, .string ⟨#[]⟩, .int .i64 0] 101) := ⟨_, rfl⟩
 have l8 : Below w7.heap.size w7 w8 := by rw [hw8]; exact (Below.refl _ _).alloc (Nat.le_refl _) _
 have ha8 : ArrsAt w8 (some ⟨w7.heap.size, 0, none⟩) arr2 := by rw [hw8]; exact row_lit (cs := arrCells arr2)
 have K8 := hidI (K7.out.trans (l8.mono K7.out.size))
 have HLU := hidI (letters_any officeP _ _ _ _ 3 _ 3 _ 5 bS _ _ _ _ 3 _ 1 _ 2 arr2 (some ⟨w7.heap.size, 0, none⟩) 1 1 w8 (HP7.out.keep l8) (HS7.out.keep l8) (fun h => by cases h) (fun h => by cases h) ha8 rfl (by unfold maxLen; omega) (fun h => by cases h))
 have HW8 := hidI hw8
 clear hw8 l8 ha8 HP7 HS7
 go_wp2_with fail
 rw [← HW8.out]
 refine HLU.out.mono ?_
 rintro e w9 ⟨v9, rfl, hres9, k9'⟩
 rw [F.out.2.1] at hres9 ⊢
 rw [show numOf 5 ((arrN officeP 600 bS arr2 : Nat) : Int) = 0 by unfold numOf; rw [if_neg (by decide)]]
 obtain rfl := hres9.2 (by decide)
 have K9 := hidI (K8.out.trans (k9'.mono K8.out.size))
 clear hres9 k9' HLU
 unfold zerS
 obtain ⟨wA, hwA⟩ : ∃ wA, wA = w9.alloc (.cells #[.slice none 0 0, .slice none 0 0, .slice none 0 0, .int .i64 0, .int .i64 0, .int .i64 0, .int .i64 0, .int .i64 0] 31) := ⟨_, rfl⟩
 have KA : Hid (Below w5.heap.size w5 wA) := by show Below w5.heap.size w5 wA; rw [hwA]; exact K9.out.alloc K9.out.size _
 have HWA := hidI hwA
 clear hwA
 have hbA := pkp_ HB5.out KA.out
 have hoA := HO5.out.keep KA.out
 obtain ⟨g, bl0, cl0, hg0, q0, i0⟩ := hoA.lineCell (q := 0) (by rw [F.out.2.2.2.2.2]; decide)
 subst hg0
 obtain ⟨g', bl1, cl1, hg1, q1, -⟩ := hoA.lineCell (q := 1) (by rw [F.out.2.2.2.2.2]; decide)
 cases hg1
 obtain ⟨g', bl2, cl2, hg2, q2, i2⟩ := hoA.lineCell (q := 2) (by rw [F.out.2.2.2.2.2]; decide)
 cases hg2
 have FB := facts_B
 rw [FB.1] at q0 i0
 rw [FB.2.1] at q1
 rw [FB.2.2] at q2 i2
 obtain ⟨ga, oa, rfl, hga, hxa⟩ := i0.cells (by simp)
 obtain ⟨gb, ob, rfl, hgb, hxb⟩ := i2.cells (by simp)
 obtain ⟨r0, r1, r2, r3, r4⟩ := hxa 1 (by simp)
 obtain ⟨s0, s1, s2, s3, s4⟩ := hxb 0 (by simp)
 simp at r0 r1 r2 r3 r4 s0 s1 s2 s3 s4 q0 q2
 obtain ⟨y0, y1, y2, y3, y4, y5, y6, y7⟩ := st_cells hbA
 rw [F.out.2.2.2.1] at y5
 rw [F.out.2.2.2.2.1] at y7
 have HKK := hidI (K5.out.trans (KA.out.mono K5.out.size))
 clear hbA hoA hxa hxb FB hga hgb
 go_upto_region 3 with fail
 rw [← HWA.out]
 go_wp2_with fail
 go_ret
 exact ⟨rfl, HKK.out⟩
end Go.Proofs.YtpoichgodamnkaaGreat
