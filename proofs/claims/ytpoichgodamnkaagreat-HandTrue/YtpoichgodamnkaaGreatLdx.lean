import Derived.Test.YtpoichgodamnkaaGreatKnx
import Derived.Test.YtpoichgodamnkaaGreatKtx
import Derived.Test.YtpoichgodamnkaaGreatVAn
import Derived.Test.YtpoichgodamnkaaGreatKux
namespace Go.Proofs.YtpoichgodamnkaaGreat
open Go.RowKit Go.Maps
set_option linter.unusedVariables false
set_option maxRecDepth 100000
set_option maxHeartbeats 8000000
def handA : StateD := arrS officeP 600 bS (pubL officeP 0 ⟨#[120, 46, 121]⟩ ⟨#[110, 101, 119]⟩)
theorem facts_H : (pubE officeP bS 0 ⟨#[120, 46, 121]⟩ ⟨#[110, 101, 119]⟩ = 0 ∧ pubE officeP bS 3 ⟨#[120, 46, 121]⟩ ⟨#[110, 101, 119]⟩ = 5 ∧ pubE officeP bS 0 ⟨#[120, 46, 121]⟩ ⟨#[97, 98, 99, 100, 101, 102, 103, 104, 105, 106, 107, 108, 109]⟩ = 1 ∧ pubE officeP bS 2 ⟨#[122]⟩ ⟨#[]⟩ = 0) ∧ (numOf 0 ((qsC officeP ⟨#[120, 46, 121]⟩ (Int.toNat 0)).length : Nat) = 2 ∧ numOf 5 ((qsC officeP ⟨#[120, 46, 121]⟩ (Int.toNat 3)).length : Nat) = 0 ∧ numOf 1 ((qsC officeP ⟨#[120, 46, 121]⟩ (Int.toNat 0)).length : Nat) = 0 ∧ numOf 0 ((qsC officeP ⟨#[122]⟩ (Int.toNat 2)).length : Nat) = 0) ∧ handA.came = 7 ∧ handA.ready.length = 3 := by decide +kernel
theorem facts_J : lineAt handA 0 = [⟨3, ⟨#[120, 46, 121]⟩, ⟨#[116, 104, 114, 101, 101]⟩, false, 0⟩, ⟨4, ⟨#[120, 46, 121]⟩, ⟨#[110, 101, 119]⟩, false, 0⟩] ∧ lineAt handA 1 = [⟨5, ⟨#[120, 46, 121]⟩, ⟨#[110, 101, 119]⟩, false, 0⟩] := by
 refine ⟨?_, ?_⟩ <;> kernel_rfl
theorem handBegun_any (w : World) : Calls Tryz.prog 30 #[] w fun e w' => e = .returned (.bool true) ∧ Below w.heap.size w w' := by
 have F := hidI facts_H
 go_enter Tryz.func30, Tryz.ntmps30
 go_wp2_with fail
 refine (office_any _).mono ?_
 rintro e a1 ⟨rfl, ka1, hp1⟩
 have HP1 := hidI hp1
 have KA1 := hidI (ka1)
 have JA1 := hidI ka1
 clear hp1 ka1
 go_wp2_with fail
 refine (busy_any _).mono ?_
 rintro e b1 ⟨gI1, gR1, gO1, gT1, rfl, hb1, -, -, kb1⟩
 have HS1 := hidI (hb1.state 1)
 have HPB1 := hidI (HP1.out.keep kb1)
 have KB1 := hidI (KA1.out.trans (kb1.mono KA1.out.size))
 have JB1 := hidI kb1
 clear hb1 kb1
 go_wp2_with fail
 refine (publish_any officeP _ _ _ _ _ _ _ _ _ bS _ _ _ _ _ _ _ _ _ 0 ⟨#[120, 46, 121]⟩ ⟨#[110, 101, 119]⟩ _ HPB1.out HS1.out (fun h => by cases h) (fun h => by cases h)).mono ?_
 rintro e c1 ⟨v1, rfl, hr1, kc1⟩
 rw [F.out.1.1] at hr1 ⊢
 rw [F.out.2.1.1]
 have hr' : StRes c1 b1.heap.size v1 0 handA := hr1
 obtain ⟨x1, x2, x3, t1, e1, t2, e2, t3, e3, rfl, ho4⟩ := hr'.1 rfl
 clear hr'
 obtain rfl : t1 = 3 := ho4.l1.symm.trans F.out.2.2.2
 obtain ⟨d1, hd1⟩ : ∃ d1, d1 = c1.alloc (.cells #[.slice x1 3 e1, .slice x2 t2 e2, .slice x3 t3 e3, .int .i64 handA.nextSeq, .int .i64 handA.nextTag, .int .i64 handA.came, .int .i64 handA.acked, .int .i64 handA.dropped] 31) := ⟨_, rfl⟩
 have bx1 : d1.heap[c1.heap.size]? = some (.cells #[.slice x1 3 e1, .slice x2 t2 e2, .slice x3 t3 e3, .int .i64 handA.nextSeq, .int .i64 handA.nextTag, .int .i64 handA.came, .int .i64 handA.acked, .int .i64 handA.dropped] 31 (0, 0)) := by rw [hd1]; exact World.alloc_heap_new c1 _
 have ld1 : Below c1.heap.size c1 d1 := by rw [hd1]; exact (Below.refl _ _).alloc (Nat.le_refl _) _
 have HO1 := hidI (ho4.keep ld1)
 obtain ⟨BA, hBA⟩ : ∃ BA, BA = c1.heap.size := ⟨_, rfl⟩
 have HBA := hidI hBA
 rw [← hBA] at bx1
 have HBX1 := hidI bx1
 clear bx1 ho4 hBA
 have KC1 := hidI (KB1.out.trans (kc1.mono KB1.out.size))
 have KD1 := hidI (KC1.out.trans (ld1.mono KC1.out.size))
 have HD1 := hidI hd1
 have LD1 := hidI ld1
 have LC1 := hidI kc1
 clear hd1 ld1 hr1 kc1
 go_upto_region 2 with fail
 rw [← HD1.out, ← HBA.out]
 go_wp2_with fail
 refine (office_any _).mono ?_
 rintro e a2 ⟨rfl, ka2, hp2⟩
 have HP2 := hidI hp2
 have KA2 := hidI (KD1.out.trans (ka2.mono KD1.out.size))
 have JA2 := hidI ka2
 clear hp2 ka2
 go_wp2_with fail
 refine (busy_any _).mono ?_
 rintro e b2 ⟨gI2, gR2, gO2, gT2, rfl, hb2, -, -, kb2⟩
 have HS2 := hidI (hb2.state 1)
 have HPB2 := hidI (HP2.out.keep kb2)
 have KB2 := hidI (KA2.out.trans (kb2.mono KA2.out.size))
 have JB2 := hidI kb2
 clear hb2 kb2
 go_wp2_with fail
 refine (publish_any officeP _ _ _ _ _ _ _ _ _ bS _ _ _ _ _ _ _ _ _ 3 ⟨#[120, 46, 121]⟩ ⟨#[110, 101, 119]⟩ _ HPB2.out HS2.out (fun h => by cases h) (fun h => by cases h)).mono ?_
 rintro e c2 ⟨v2, rfl, hr2, kc2⟩
 rw [F.out.1.2.1] at hr2 ⊢
 rw [F.out.2.1.2.1]
 obtain ⟨x21, x22, x23, k21, e21, k22, e22, k23, e23, i21, i22, i23, i24, i25, rfl⟩ := hr2.shape
 obtain ⟨d2, hd2⟩ : ∃ d2, d2 = c2.alloc (.cells #[.slice x21 k21 e21, .slice x22 k22 e22, .slice x23 k23 e23, .int .i64 i21, .int .i64 i22, .int .i64 i23, .int .i64 i24, .int .i64 i25] 31) := ⟨_, rfl⟩
 have ld2 : Below c2.heap.size c2 d2 := by rw [hd2]; exact (Below.refl _ _).alloc (Nat.le_refl _) _
 have KC2 := hidI (KB2.out.trans (kc2.mono KB2.out.size))
 have KD2 := hidI (KC2.out.trans (ld2.mono KC2.out.size))
 have HD2 := hidI hd2
 have LD2 := hidI ld2
 have LC2 := hidI kc2
 clear hd2 ld2 hr2 kc2
 go_upto_region 3 with fail
 rw [← HD2.out]
 go_wp2_with fail
 refine (office_any _).mono ?_
 rintro e a3 ⟨rfl, ka3, hp3⟩
 have HP3 := hidI hp3
 have KA3 := hidI (KD2.out.trans (ka3.mono KD2.out.size))
 have JA3 := hidI ka3
 clear hp3 ka3
 go_wp2_with fail
 refine (busy_any _).mono ?_
 rintro e b3 ⟨gI3, gR3, gO3, gT3, rfl, hb3, -, -, kb3⟩
 have HS3 := hidI (hb3.state 1)
 have HPB3 := hidI (HP3.out.keep kb3)
 have KB3 := hidI (KA3.out.trans (kb3.mono KA3.out.size))
 have JB3 := hidI kb3
 clear hb3 kb3
 go_wp2_with fail
 refine (publish_any officeP _ _ _ _ _ _ _ _ _ bS _ _ _ _ _ _ _ _ _ 0 ⟨#[120, 46, 121]⟩ ⟨#[97, 98, 99, 100, 101, 102, 103, 104, 105, 106, 107, 108, 109]⟩ _ HPB3.out HS3.out (fun h => by cases h) (fun h => by cases h)).mono ?_
 rintro e c3 ⟨v3, rfl, hr3, kc3⟩
 rw [F.out.1.2.2.1] at hr3 ⊢
 rw [F.out.2.1.2.2.1]
 obtain ⟨x31, x32, x33, k31, e31, k32, e32, k33, e33, i31, i32, i33, i34, i35, rfl⟩ := hr3.shape
 obtain ⟨d3, hd3⟩ : ∃ d3, d3 = c3.alloc (.cells #[.slice x31 k31 e31, .slice x32 k32 e32, .slice x33 k33 e33, .int .i64 i31, .int .i64 i32, .int .i64 i33, .int .i64 i34, .int .i64 i35] 31) := ⟨_, rfl⟩
 have ld3 : Below c3.heap.size c3 d3 := by rw [hd3]; exact (Below.refl _ _).alloc (Nat.le_refl _) _
 have KC3 := hidI (KB3.out.trans (kc3.mono KB3.out.size))
 have KD3 := hidI (KC3.out.trans (ld3.mono KC3.out.size))
 have HD3 := hidI hd3
 have LD3 := hidI ld3
 have LC3 := hidI kc3
 clear hd3 ld3 hr3 kc3
 go_upto_region 4 with fail
 rw [← HD3.out]
 go_wp2_with fail
 refine (office_any _).mono ?_
 rintro e a4 ⟨rfl, ka4, hp4⟩
 have HP4 := hidI hp4
 have KA4 := hidI (KD3.out.trans (ka4.mono KD3.out.size))
 have JA4 := hidI ka4
 clear hp4 ka4
 go_wp2_with fail
 refine (busy_any _).mono ?_
 rintro e b4 ⟨gI4, gR4, gO4, gT4, rfl, hb4, -, -, kb4⟩
 have HS4 := hidI (hb4.state 1)
 have HPB4 := hidI (HP4.out.keep kb4)
 have KB4 := hidI (KA4.out.trans (kb4.mono KA4.out.size))
 have JB4 := hidI kb4
 clear hb4 kb4
 go_wp2_with fail
 refine (publish_any officeP _ _ _ _ _ _ _ _ _ bS _ _ _ _ _ _ _ _ _ 2 ⟨#[122]⟩ ⟨#[]⟩ _ HPB4.out HS4.out (fun h => by cases h) (fun h => by cases h)).mono ?_
 rintro e c4 ⟨v4, rfl, hr4, kc4⟩
 rw [F.out.1.2.2.2] at hr4 ⊢
 rw [F.out.2.1.2.2.2]
 obtain ⟨x41, x42, x43, k41, e41, k42, e42, k43, e43, i41, i42, i43, i44, i45, rfl⟩ := hr4.shape
 obtain ⟨d4, hd4⟩ : ∃ d4, d4 = c4.alloc (.cells #[.slice x41 k41 e41, .slice x42 k42 e42, .slice x43 k43 e43, .int .i64 i41, .int .i64 i42, .int .i64 i43, .int .i64 i44, .int .i64 i45] 31) := ⟨_, rfl⟩
 have ld4 : Below c4.heap.size c4 d4 := by rw [hd4]; exact (Below.refl _ _).alloc (Nat.le_refl _) _
 have KC4 := hidI (KB4.out.trans (kc4.mono KB4.out.size))
 have KD4 := hidI (KC4.out.trans (ld4.mono KC4.out.size))
 have HD4 := hidI hd4
 have LD4 := hidI ld4
 have LC4 := hidI kc4
 clear hd4 ld4 hr4 kc4
 go_upto_region 5 with fail
 rw [← HD4.out]
 have HKK : Hid (Below d1.heap.size d1 d4) := by
  show Below d1.heap.size d1 d4
  have st : ∀ {A B C D E' : World}, Below A.heap.size A B → Below B.heap.size B C → Below C.heap.size C D → Below D.heap.size D E' → Below A.heap.size A E' := fun h1 h2 h3 h4 => by
   have k1 := h1.trans (h2.mono h1.size)
   have k2 := k1.trans (h3.mono k1.size)
   exact k2.trans (h4.mono k2.size)
  have q2 := st JA2.out JB2.out LC2.out LD2.out
  have q3 := st JA3.out JB3.out LC3.out LD3.out
  have q4 := st JA4.out JB4.out LC4.out LD4.out
  have q23 := q2.trans (q3.mono q2.size)
  exact q23.trans (q4.mono q23.size)
 have hbA := pkp_ HBX1.out HKK.out
 have hoA := HO1.out.keep HKK.out
 obtain ⟨g, bl0, cl0, hg0, q0, i0⟩ := hoA.lineCell (q := 0) (by rw [F.out.2.2.2]; decide)
 subst hg0
 obtain ⟨g', bl1, cl1, hg1, q1, i1⟩ := hoA.lineCell (q := 1) (by rw [F.out.2.2.2]; decide)
 cases hg1
 have FB := facts_J
 rw [FB.1] at q0 i0
 rw [FB.2] at q1 i1
 obtain ⟨ga, oa, rfl, hga, hxa⟩ := i0.cells (by simp)
 obtain ⟨gb, ob, rfl, hgb, hxb⟩ := i1.cells (by simp)
 obtain ⟨r0, r1, r2, r3, r4⟩ := hxa 1 (by simp)
 obtain ⟨s0, s1, s2, s3, s4⟩ := hxb 0 (by simp)
 simp at r0 r1 r2 r3 r4 s0 s1 s2 s3 s4 q0 q1
 obtain ⟨y0, y1, y2, y3, y4, y5, y6, y7⟩ := st_cells hbA
 rw [F.out.2.2.1] at y5
 clear hbA hoA hxa hxb FB hga hgb
 go_wp2_with fail
 go_ret
 exact ⟨rfl, KD4.out⟩
theorem recvB_none {p : PlanD} {s : StateD} {a : ArrD} (h : (qAt p a.queue.toNat).dead = -1) : recvB p s a = [] := by
 unfold recvB putB putA
 split
 ·rfl
 ·split
  ·rfl
  ·unfold dieL; rw [if_pos (.inl h)]
theorem arr_line {p : PlanD} {key body : ByteArray} (hd : ∀ q, q < p.queues.length → (qAt p q).dead = -1) : ∀ (qs : List Int) (f : Nat) (s : StateD), RightX p s 0 → (∀ a ∈ arrsOf qs key body 0, ArrOk p a) → qs.Pairwise (· < ·) → qs.length ≤ f → s.nextSeq + f ≤ 1048576 → ∀ c : Nat,
 ((c : Int) ∉ qs → lineAt (arrS p f s (arrsOf qs key body 0)) c = lineAt s c) ∧ ((c : Int) ∈ qs → ∃ sq, s.nextSeq ≤ sq ∧ lineAt (arrS p f s (arrsOf qs key body 0)) c = putL p c (lineAt s c ++ [⟨sq, key, body, false, 0⟩]))
 | [], f, s, _, _, _, _, _, c => by
   refine ⟨fun _ => ?_, fun h => absurd h (by simp)⟩
   show lineAt (arrS p f s []) c = _
   rw [arrS_nil]
 | z :: r, 0, s, _, _, _, hf, _, c => absurd hf (by simp)
 | z :: r, f + 1, s, hR, hok, hp, hf, hs, c => by
   have ha : ArrOk p ⟨z, key, body, 0⟩ := hok _ (List.mem_cons_self ..)
   have hs' : s.nextSeq < 1048576 := by omega
   have hq : 0 ≤ z ∧ z < p.queues.length := ha.q
   have hB : recvB p s ⟨z, key, body, 0⟩ = [] := recvB_none (hd _ (by show z.toNat < _; omega))
   have e : arrS p (f + 1) s (arrsOf (z :: r) key body 0) = arrS p f (recvS p s ⟨z, key, body, 0⟩) (arrsOf r key body 0) := by
    show arrS p f (recvS p s ⟨z, key, body, 0⟩) (arrsOf r key body 0 ++ recvB p s ⟨z, key, body, 0⟩) = _
    rw [hB, List.append_nil]
   have hp' := List.pairwise_cons.1 hp
   have ih := arr_line hd r f (recvS p s ⟨z, key, body, 0⟩) (hR.recv ha hs') (fun a h => hok a (List.mem_cons_of_mem _ h)) hp'.2 (by simpa using hf) (by rw [recv_seq]; omega) c
   rw [e]
   have hl := recv_line (r := c) hR ha
   dsimp only at hl
   by_cases hc : (c : Int) = z
   ·have hcr : (c : Int) ∉ r := fun h => by have := hp'.1 _ h; omega
    rw [if_pos (by omega)] at hl
    refine ⟨fun h => absurd (by rw [hc]; exact List.mem_cons_self ..) h, fun _ => ⟨s.nextSeq, Int.le_refl _, ?_⟩⟩
    rw [ih.1 hcr, hl]; rfl
   ·rw [if_neg (by omega)] at hl
    refine ⟨fun h => ?_, fun h => ?_⟩
    ·rw [ih.1 (fun h' => h (List.mem_cons_of_mem _ h')), hl]
    ·obtain ⟨sq, h1, h2⟩ := ih.2 ((List.mem_cons.1 h).resolve_left hc)
     rw [recv_seq] at h1
     exact ⟨sq, by omega, by rw [h2, hl]⟩
theorem putL_end {p : PlanD} {c : Nat} {a : List ItemD} {it : ItemD} (h1 : 1 ≤ (qAt p c).limit) (h2 : (a.length : Int) ≤ (qAt p c).limit) : ∃ d, d ≤ a.length ∧ putL p c (a ++ [it]) = a.drop d ++ [it] ∧ (((a.drop d).length + 1 : Nat) : Int) = min ((a.length : Int) + 1) (qAt p c).limit := by
 unfold putL
 by_cases h : ((a ++ [it]).length : Int) ≤ (qAt p c).limit
 ·rw [if_pos h]
  rw [List.length_append, List.length_singleton] at h
  exact ⟨0, Nat.zero_le _, by simp, by simp; omega⟩
 ·rw [if_neg h]
  rw [List.length_append, List.length_singleton] at h
  cases a with
  | nil => simp at h; omega
  | cons x r =>
    refine ⟨1, by simp, by simp, ?_⟩
    simp at h h2 ⊢
    omega
end Go.Proofs.YtpoichgodamnkaaGreat
