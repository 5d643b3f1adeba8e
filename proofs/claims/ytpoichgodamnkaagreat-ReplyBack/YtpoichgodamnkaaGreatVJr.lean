import Derived.Test.YtpoichgodamnkaaGreatVJg
import Derived.Deep.RegionHeld3
import Derived.Laws.StructEq
import Derived.BigQuiet
import Derived.Test.YtpoichgodamnkaaGreatKxx
import Derived.Test.YtpoichgodamnkaaGreatVAn
namespace Go.Proofs.YtpoichgodamnkaaGreat
open Go.RowKit Go.Maps
set_option linter.unusedVariables false
set_option maxRecDepth 100000
set_option maxHeartbeats 16000000
def begA : StateD := ackS bS 5
def begB : StateD := rejS officeP bS 5 true
def begC : StateD := rejS officeP bS 5 false
def begD : StateD := leavS officeP bS 1
theorem facts_Rp : (ackE officeP bS 5 = 0 ∧ rejE officeP bS 5 = 0 ∧ leavE officeP bS 1 = 0 ∧ ackE officeP bS 4 = 5 ∧ leavE officeP bS 0 = 5) ∧ (begA.acked = 2 ∧ begA.outs.length = 0 ∧ begA.ready.length = 3) ∧ (begB.dropped = 1 ∧ begB.ready.length = 3 ∧ (lineAt begB 0).length = 2) ∧ (begC.dropped = 1 ∧ begC.ready.length = 3) ∧ (begD.outs.length = 0 ∧ begD.takers.length = 2 ∧ begD.ready.length = 3) := by decide +kernel
theorem facts_Rl : lineAt begB 2 = [⟨4, ⟨#[120, 46, 121]⟩, ⟨#[111, 110, 101]⟩, false, 1⟩] ∧ lineAt begC 2 = [⟨4, ⟨#[120, 46, 121]⟩, ⟨#[111, 110, 101]⟩, false, 1⟩] ∧ lineAt begD 0 = lineAt begB 0 ∧ begD.takers = [⟨-1, 1⟩, ⟨-1, 2⟩] := by
 refine ⟨?_, ?_, ?_, ?_⟩ <;> kernel_rfl
theorem cell_lt {W : World} {a : Addr} {v : Value} (h : W.cell? a = some v) : a.block < W.heap.size := by
 rcases Nat.lt_or_ge a.block W.heap.size with h' | h'
 ·exact h'
 ·simp [World.cell?, Array.getElem?_eq_none h'] at h
theorem replyBegun_any (w : World) : Calls Tryz.prog 36 #[] w fun e w' => e = .returned (.bool true) ∧ Below w.heap.size w w' := by
 have F := hidI facts_Rp
 go_enter Tryz.func36, Tryz.ntmps36
 go_wp2_with fail
 refine (office_any _).mono ?_
 rintro e a1 ⟨rfl, ka1, hp1⟩
 have HP1 := hidI hp1
 have KA1 := hidI (ka1)
 have JA1 := hidI ka1
 clear hp1 ka1
 go_wp2_with fail
 refine (busy_any _).mono ?_
 rintro e b1 ⟨gI1, gR1, gO1, gT1, rfl, hb1, -, -, kb1⟩
 have HS1 := hidI (hb1.state 1)
 have HPB1 := hidI (HP1.out.keep kb1)
 have KB1 := hidI (KA1.out.trans (kb1.mono KA1.out.size))
 have JB1 := hidI kb1
 clear hb1 kb1
 go_wp2_with fail
 refine (ack_any officeP _ _ _ _ _ _ _ _ _ bS _ _ _ _ _ _ _ _ _ 5 _ HPB1.out HS1.out (fun h => by cases h) (fun h => by cases h)).mono ?_
 rintro e c1 ⟨v1, rfl, hr1, kc1⟩
 rw [F.out.1.1] at hr1 ⊢
 have hr' : StRes c1 b1.heap.size v1 0 begA := hr1
 obtain ⟨x11, x12, x13, t11, e11, t12, e12, t13, e13, rfl, ho1⟩ := hr'.1 rfl
 clear hr'
 obtain rfl : t11 = 3 := ho1.l1.symm.trans F.out.2.1.2.2
 obtain rfl : t12 = 0 := ho1.l2.symm.trans F.out.2.1.2.1
 obtain ⟨d1, hd1⟩ : ∃ d1, d1 = c1.alloc (.cells #[.slice x11 3 e11, .slice x12 0 e12, .slice x13 t13 e13, .int .i64 begA.nextSeq, .int .i64 begA.nextTag, .int .i64 begA.came, .int .i64 begA.acked, .int .i64 begA.dropped] 31) := ⟨_, rfl⟩
 have bx1 : d1.heap[c1.heap.size]? = some (.cells #[.slice x11 3 e11, .slice x12 0 e12, .slice x13 t13 e13, .int .i64 begA.nextSeq, .int .i64 begA.nextTag, .int .i64 begA.came, .int .i64 begA.acked, .int .i64 begA.dropped] 31 (0, 0)) := by rw [hd1]; exact World.alloc_heap_new c1 _
 have ld1 : Below c1.heap.size c1 d1 := by rw [hd1]; exact (Below.refl _ _).alloc (Nat.le_refl _) _
 have HO1 := hidI (ho1.keep ld1)
 obtain ⟨BA1, hBA1⟩ : ∃ BA1, BA1 = c1.heap.size := ⟨_, rfl⟩
 have HBA1 := hidI hBA1
 rw [← hBA1] at bx1
 have HBX1 := hidI bx1
 clear bx1 ho1 hBA1
 have KC1 := hidI (KB1.out.trans (kc1.mono KB1.out.size))
 have KD1 := hidI (KC1.out.trans (ld1.mono KC1.out.size))
 have HD1 := hidI hd1
 have LD1 := hidI ld1
 have LC1 := hidI kc1
 clear hd1 ld1 hr1 kc1
 go_upto_region 2 with fail
 rw [← HD1.out, ← HBA1.out]
 go_wp2_with fail
 refine (office_any _).mono ?_
 rintro e a2 ⟨rfl, ka2, hp2⟩
 have HP2 := hidI hp2
 have KA2 := hidI (KD1.out.trans (ka2.mono KD1.out.size))
 have JA2 := hidI ka2
 clear hp2 ka2
 go_wp2_with fail
 refine (busy_any _).mono ?_
 rintro e b2 ⟨gI2, gR2, gO2, gT2, rfl, hb2, -, -, kb2⟩
 have HS2 := hidI (hb2.state 1)
 have HPB2 := hidI (HP2.out.keep kb2)
 have KB2 := hidI (KA2.out.trans (kb2.mono KA2.out.size))
 have JB2 := hidI kb2
 clear hb2 kb2
 go_wp2_with fail
 refine (reject_any officeP _ _ _ _ _ _ _ _ _ bS _ _ _ _ _ _ _ _ _ 5 true _ HPB2.out HS2.out (fun h => by cases h) (fun h => by cases h)).mono ?_
 rintro e c2 ⟨v2, rfl, hr2, kc2⟩
 rw [F.out.1.2.1] at hr2 ⊢
 have hr' : StRes c2 b2.heap.size v2 0 begB := hr2
 obtain ⟨x21, x22, x23, t21, e21, t22, e22, t23, e23, rfl, ho2⟩ := hr'.1 rfl
 clear hr'
 obtain rfl : t21 = 3 := ho2.l1.symm.trans F.out.2.2.1.2.1
 obtain ⟨d2, hd2⟩ : ∃ d2, d2 = c2.alloc (.cells #[.slice x21 3 e21, .slice x22 t22 e22, .slice x23 t23 e23, .int .i64 begB.nextSeq, .int .i64 begB.nextTag, .int .i64 begB.came, .int .i64 begB.acked, .int .i64 begB.dropped] 31) := ⟨_, rfl⟩
 have bx2 : d2.heap[c2.heap.size]? = some (.cells #[.slice x21 3 e21, .slice x22 t22 e22, .slice x23 t23 e23, .int .i64 begB.nextSeq, .int .i64 begB.nextTag, .int .i64 begB.came, .int .i64 begB.acked, .int .i64 begB.dropped] 31 (0, 0)) := by rw [hd2]; exact World.alloc_heap_new c2 _
 have ld2 : Below c2.heap.size c2 d2 := by rw [hd2]; exact (Below.refl _ _).alloc (Nat.le_refl _) _
 have HO2 := hidI (ho2.keep ld2)
 obtain ⟨BA2, hBA2⟩ : ∃ BA2, BA2 = c2.heap.size := ⟨_, rfl⟩
 have HBA2 := hidI hBA2
 rw [← hBA2] at bx2
 have HBX2 := hidI bx2
 clear bx2 ho2 hBA2
 have KC2 := hidI (KB2.out.trans (kc2.mono KB2.out.size))
 have KD2 := hidI (KC2.out.trans (ld2.mono KC2.out.size))
 have HD2 := hidI hd2
 have LD2 := hidI ld2
 have LC2 := hidI kc2
 clear hd2 ld2 hr2 kc2
 go_upto_region 3 with fail
 rw [← HD2.out, ← HBA2.out]
 go_wp2_with fail
 refine (office_any _).mono ?_
 rintro e a3 ⟨rfl, ka3, hp3⟩
 have HP3 := hidI hp3
 have KA3 := hidI (KD2.out.trans (ka3.mono KD2.out.size))
 have JA3 := hidI ka3
 clear hp3 ka3
 go_wp2_with fail
 refine (busy_any _).mono ?_
 rintro e b3 ⟨gI3, gR3, gO3, gT3, rfl, hb3, -, -, kb3⟩
 have HS3 := hidI (hb3.state 1)
 have HPB3 := hidI (HP3.out.keep kb3)
 have KB3 := hidI (KA3.out.trans (kb3.mono KA3.out.size))
 have JB3 := hidI kb3
 clear hb3 kb3
 go_wp2_with fail
 refine (reject_any officeP _ _ _ _ _ _ _ _ _ bS _ _ _ _ _ _ _ _ _ 5 false _ HPB3.out HS3.out (fun h => by cases h) (fun h => by cases h)).mono ?_
 rintro e c3 ⟨v3, rfl, hr3, kc3⟩
 rw [F.out.1.2.1] at hr3 ⊢
 have hr' : StRes c3 b3.heap.size v3 0 begC := hr3
 obtain ⟨x31, x32, x33, t31, e31, t32, e32, t33, e33, rfl, ho3⟩ := hr'.1 rfl
 clear hr'
 obtain rfl : t31 = 3 := ho3.l1.symm.trans F.out.2.2.2.1.2
 obtain ⟨d3, hd3⟩ : ∃ d3, d3 = c3.alloc (.cells #[.slice x31 3 e31, .slice x32 t32 e32, .slice x33 t33 e33, .int .i64 begC.nextSeq, .int .i64 begC.nextTag, .int .i64 begC.came, .int .i64 begC.acked, .int .i64 begC.dropped] 31) := ⟨_, rfl⟩
 have bx3 : d3.heap[c3.heap.size]? = some (.cells #[.slice x31 3 e31, .slice x32 t32 e32, .slice x33 t33 e33, .int .i64 begC.nextSeq, .int .i64 begC.nextTag, .int .i64 begC.came, .int .i64 begC.acked, .int .i64 begC.dropped] 31 (0, 0)) := by rw [hd3]; exact World.alloc_heap_new c3 _
 have ld3 : Below c3.heap.size c3 d3 := by rw [hd3]; exact (Below.refl _ _).alloc (Nat.le_refl _) _
 have HO3 := hidI (ho3.keep ld3)
 obtain ⟨BA3, hBA3⟩ : ∃ BA3, BA3 = c3.heap.size := ⟨_, rfl⟩
 have HBA3 := hidI hBA3
 rw [← hBA3] at bx3
 have HBX3 := hidI bx3
 clear bx3 ho3 hBA3
 have KC3 := hidI (KB3.out.trans (kc3.mono KB3.out.size))
 have KD3 := hidI (KC3.out.trans (ld3.mono KC3.out.size))
 have HD3 := hidI hd3
 have LD3 := hidI ld3
 have LC3 := hidI kc3
 clear hd3 ld3 hr3 kc3
 go_upto_region 4 with fail
 rw [← HD3.out, ← HBA3.out]
 go_wp2_with fail
 refine (office_any _).mono ?_
 rintro e a4 ⟨rfl, ka4, hp4⟩
 have HP4 := hidI hp4
 have KA4 := hidI (KD3.out.trans (ka4.mono KD3.out.size))
 have JA4 := hidI ka4
 clear hp4 ka4
 go_wp2_with fail
 refine (busy_any _).mono ?_
 rintro e b4 ⟨gI4, gR4, gO4, gT4, rfl, hb4, -, -, kb4⟩
 have HS4 := hidI (hb4.state 1)
 have HPB4 := hidI (HP4.out.keep kb4)
 have KB4 := hidI (KA4.out.trans (kb4.mono KA4.out.size))
 have JB4 := hidI kb4
 clear hb4 kb4
 go_wp2_with fail
 refine (leave_any officeP _ _ _ _ _ _ _ _ _ bS _ _ _ _ _ _ _ _ _ 1 _ HPB4.out HS4.out (fun h => by cases h) (fun h => by cases h)).mono ?_
 rintro e c4 ⟨v4, rfl, hr4, kc4⟩
 rw [F.out.1.2.2.1] at hr4 ⊢
 have hr' : StRes c4 b4.heap.size v4 0 begD := hr4
 obtain ⟨x41, x42, x43, t41, e41, t42, e42, t43, e43, rfl, ho4⟩ := hr'.1 rfl
 clear hr'
 obtain rfl : t41 = 3 := ho4.l1.symm.trans F.out.2.2.2.2.2.2
 obtain rfl : t42 = 0 := ho4.l2.symm.trans F.out.2.2.2.2.1
 obtain rfl : t43 = 2 := ho4.l3.symm.trans F.out.2.2.2.2.2.1
 obtain ⟨d4, hd4⟩ : ∃ d4, d4 = c4.alloc (.cells #[.slice x41 3 e41, .slice x42 0 e42, .slice x43 2 e43, .int .i64 begD.nextSeq, .int .i64 begD.nextTag, .int .i64 begD.came, .int .i64 begD.acked, .int .i64 begD.dropped] 31) := ⟨_, rfl⟩
 have bx4 : d4.heap[c4.heap.size]? = some (.cells #[.slice x41 3 e41, .slice x42 0 e42, .slice x43 2 e43, .int .i64 begD.nextSeq, .int .i64 begD.nextTag, .int .i64 begD.came, .int .i64 begD.acked, .int .i64 begD.dropped] 31 (0, 0)) := by rw [hd4]; exact World.alloc_heap_new c4 _
 have ld4 : Below c4.heap.size c4 d4 := by rw [hd4]; exact (Below.refl _ _).alloc (Nat.le_refl _) _
 have HO4 := hidI (ho4.keep ld4)
 obtain ⟨BA4, hBA4⟩ : ∃ BA4, BA4 = c4.heap.size := ⟨_, rfl⟩
 have HBA4 := hidI hBA4
 rw [← hBA4] at bx4
 have HBX4 := hidI bx4
 clear bx4 ho4 hBA4
 have KC4 := hidI (KB4.out.trans (kc4.mono KB4.out.size))
 have KD4 := hidI (KC4.out.trans (ld4.mono KC4.out.size))
 have HD4 := hidI hd4
 have LD4 := hidI ld4
 have LC4 := hidI kc4
 clear hd4 ld4 hr4 kc4
 go_upto_region 5 with fail
 rw [← HD4.out, ← HBA4.out]
 go_wp2_with fail
 refine (office_any _).mono ?_
 rintro e a5 ⟨rfl, ka5, hp5⟩
 have HP5 := hidI hp5
 have KA5 := hidI (KD4.out.trans (ka5.mono KD4.out.size))
 have JA5 := hidI ka5
 clear hp5 ka5
 go_wp2_with fail
 refine (busy_any _).mono ?_
 rintro e b5 ⟨gI5, gR5, gO5, gT5, rfl, hb5, -, -, kb5⟩
 have HS5 := hidI (hb5.state 1)
 have HPB5 := hidI (HP5.out.keep kb5)
 have KB5 := hidI (KA5.out.trans (kb5.mono KA5.out.size))
 have JB5 := hidI kb5
 clear hb5 kb5
 go_wp2_with fail
 refine (ack_any officeP _ _ _ _ _ _ _ _ _ bS _ _ _ _ _ _ _ _ _ 4 _ HPB5.out HS5.out (fun h => by cases h) (fun h => by cases h)).mono ?_
 rintro e c5 ⟨v5, rfl, hr5, kc5⟩
 rw [F.out.1.2.2.2.1] at hr5 ⊢
 obtain ⟨x51, x52, x53, k51, e51, k52, e52, k53, e53, i51, i52, i53, i54, i55, rfl⟩ := hr5.shape
 obtain ⟨d5, hd5⟩ : ∃ d5, d5 = c5.alloc (.cells #[.slice x51 k51 e51, .slice x52 k52 e52, .slice x53 k53 e53, .int .i64 i51, .int .i64 i52, .int .i64 i53, .int .i64 i54, .int .i64 i55] 31) := ⟨_, rfl⟩
 have ld5 : Below c5.heap.size c5 d5 := by rw [hd5]; exact (Below.refl _ _).alloc (Nat.le_refl _) _
 have KC5 := hidI (KB5.out.trans (kc5.mono KB5.out.size))
 have KD5 := hidI (KC5.out.trans (ld5.mono KC5.out.size))
 have HD5 := hidI hd5
 have LD5 := hidI ld5
 have LC5 := hidI kc5
 clear hd5 ld5 hr5 kc5
 go_upto_region 6 with fail
 rw [← HD5.out]
 go_cut [12] from 11 to 48 (fun s12 wx => s12 = .int .i64 5 ∧ Below d5.heap.size d5 wx)
 case first =>
  go_wp2_with fail
  refine (office_any _).mono ?_
  rintro e a6 ⟨rfl, ka6, hp6⟩
  have HP6 := hidI hp6
  have JA6 := hidI ka6
  clear hp6 ka6
  go_wp2_with fail
  refine (busy_any _).mono ?_
  rintro e b6 ⟨gI6, gR6, gO6, gT6, rfl, hb6, -, -, kb6⟩
  have HS6 := hidI (hb6.state 1)
  have HPB6 := hidI (HP6.out.keep kb6)
  have JB6 := hidI kb6
  clear hb6 kb6
  go_wp2_with fail
  refine (leave_any officeP _ _ _ _ _ _ _ _ _ bS _ _ _ _ _ _ _ _ _ 0 _ HPB6.out HS6.out (fun h => by cases h) (fun h => by cases h)).mono ?_
  rintro e c6 ⟨v6, rfl, hr6, kc6⟩
  rw [F.out.1.2.2.2.2] at hr6 ⊢
  obtain ⟨x61, x62, x63, k61, e61, k62, e62, k63, e63, i61, i62, i63, i64, i65, rfl⟩ := hr6.shape
  have LC6 := hidI kc6
  clear hr6 kc6
  go_wp2_with fail
  go_meet
  case rel =>
   have k1 := JA6.out.trans (JB6.out.mono JA6.out.size)
   have k2 := k1.trans (LC6.out.mono k1.size)
   exact ⟨rfl, k2.alloc k2.size _⟩
 case rest =>
  obtain ⟨rfl, q6⟩ := hcut
  obtain ⟨d6, hd6⟩ : ∃ d6, d6 = wc := ⟨_, rfl⟩
  rw [← hd6] at q6 ⊢
  have Q6 := hidI q6
  have KD6 := hidI (KD5.out.trans (q6.mono KD5.out.size))
  clear hd6 q6
  have st : Hid (∀ {A B C D E' : World}, Below A.heap.size A B → Below B.heap.size B C → Below C.heap.size C D → Below D.heap.size D E' → Below A.heap.size A E') := fun h1 h2 h3 h4 => by
   have k1 := h1.trans (h2.mono h1.size)
   have k2 := k1.trans (h3.mono k1.size)
   exact k2.trans (h4.mono k2.size)
  have q2 := st.out JA2.out JB2.out LC2.out LD2.out
  have q3 := st.out JA3.out JB3.out LC3.out LD3.out
  have q4 := st.out JA4.out JB4.out LC4.out LD4.out
  have q5 := st.out JA5.out JB5.out LC5.out LD5.out
  have r5 := Q6.out
  have r4 := q5.trans (r5.mono q5.size)
  have r3 := q4.trans (r4.mono q4.size)
  have r2 := q3.trans (r3.mono q3.size)
  have r1 := q2.trans (r2.mono q2.size)
  have h1 := pkp_ HBX1.out r1
  have h2 := pkp_ HBX2.out r2
  have h3 := pkp_ HBX3.out r3
  have h4 := pkp_ HBX4.out r4
  have o2 := HO2.out.keep r2
  have o3 := HO3.out.keep r3
  have o4 := HO4.out.keep r4
  clear q2 q3 q4 q5 r1 r2 r3 r4 r5
  have FB := facts_Rl
  obtain ⟨g2, bl20, cl20, hg, p20, j20⟩ := o2.lineCell (q := 0) (by rw [F.out.2.2.1.2.1]; decide)
  subst hg
  obtain ⟨g2', bl22, cl22, hg, p22, j22⟩ := o2.lineCell (q := 2) (by rw [F.out.2.2.1.2.1]; decide)
  cases hg
  obtain ⟨g3, bl32, cl32, hg, p32, j32⟩ := o3.lineCell (q := 2) (by rw [F.out.2.2.2.1.2]; decide)
  subst hg
  obtain ⟨g4, bl40, cl40, hg, p40, j40⟩ := o4.lineCell (q := 0) (by rw [F.out.2.2.2.2.2.2]; decide)
  subst hg
  rw [FB.2.2.1] at p40 j40
  rw [F.out.2.2.1.2.2] at p40 p20
  rw [FB.1] at p22 j22
  rw [FB.2.1] at p32 j32
  have J20 := hidI j20
  have J40 := hidI j40
  obtain ⟨ga, oa, rfl, hga, hxa⟩ := j22.cells (by simp)
  obtain ⟨gb, ob, rfl, hgb, hxb⟩ := j32.cells (by simp)
  obtain ⟨r0, r1, r2, r3, r4⟩ := hxa 0 (by simp)
  obtain ⟨s0, s1, s2, s3, s4⟩ := hxb 0 (by simp)
  simp at r0 r1 r2 r3 r4 s0 s1 s2 s3 s4 p22 p32
  have tk := o4.r3
  rw [FB.2.2.2] at tk
  obtain ⟨gt, rfl⟩ : ∃ gt, x43 = some ⟨gt, 0, none⟩ := by
   rcases tk.2 with ⟨e, e0⟩ | ⟨g, cap, cur, e, _⟩
   ·cases e0
   ·cases e; exact ⟨g, rfl⟩
  have tc := tk.cellAt 2 (by decide)
  simp [tkC_, TakerD.cells] at tc
  obtain ⟨u0, u1, u2, u3, u4, u5, u6, u7⟩ := st_cells h1
  obtain ⟨y0, y1, y2, y3, y4, y5, y6, y7⟩ := st_cells h2
  obtain ⟨z0, z1, z2, z3, z4, z5, z6, z7⟩ := st_cells h3
  obtain ⟨m0, m1, m2, m3, m4, m5, m6, m7⟩ := st_cells h4
  rw [F.out.2.1.1] at u6
  rw [F.out.2.2.1.1] at y7
  rw [F.out.2.2.2.1.1] at z7
  clear h1 h2 h3 h4 o2 o3 o4 hxa hxb FB hga hgb tk j22 j32 j20 j40
  have hj0 : (0 : Int) < (3 : Int) := by decide
  go_upto_region 7 with fail
  simp only [List.append]
  refine wp_region_quiet_lit (by kernel_rfl) (lexB_flat (by kernel_rfl) (by kernel_rfl)) ?_
  repeat (go_big_quiet_step (first | (go_at_call 27; refine Calls.quiet_of (same_itemsQ (lineAt begB 0) bl40 bl20 2 cl40 cl20 _ F.out.2.2.1.2.2 (by unfold maxLen; omega) (J40.out.keep (below_drewL (Below.refl _ _))) (J20.out.keep (below_drewL (Below.refl _ _)))))))
  refine wpQuiet_nil ?_
  intro _ hw'
  obtain ⟨nq, hw''⟩ := hw'
  subst hw''
  go_wp2_with fail
  go_ret
  exact ⟨rfl, below_drewL KD6.out⟩
end Go.Proofs.YtpoichgodamnkaaGreat
