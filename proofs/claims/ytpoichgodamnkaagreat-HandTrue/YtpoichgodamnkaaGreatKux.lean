import Derived.Test.YtpoichgodamnkaaGreatVKf
import Derived.Test.YtpoichgodamnkaaGreatVAn
import Derived.Test.YtpoichgodamnkaaGreatVKa
import Derived.Test.YtpoichgodamnkaaGreatVUk
import Derived.Deep.RegionHeld3
import Derived.Laws.StructEq
import Derived.Test.YtpoichgodamnkaaGreatKox
import Derived.Test.YtpoichgodamnkaaGreatKcx
import Derived.Test.YtpoichgodamnkaaGreatKhx
import Derived.Test.YtpoichgodamnkaaGreatVUr
import Derived.Test.YtpoichgodamnkaaGreatKsx
namespace Go.Proofs.YtpoichgodamnkaaGreat
open Go.RowKit Go.Maps
set_option linter.unusedVariables false
set_option maxRecDepth 100000
set_option maxHeartbeats 8000000
def lgA : ActD := ⟨1, 0, 0, ⟨#[120, 46, 121]⟩, ⟨#[104, 105]⟩⟩
def lgB : ActD := ⟨2, 1, 2, ⟨#[]⟩, ⟨#[]⟩⟩
def lgC : ActD := ⟨0, 256, 0, ⟨#[]⟩, ⟨#[]⟩⟩
def lgS : ByteArray := ⟨#[1, 0, 0, 3, 120, 46, 121, 2, 104, 105]⟩
def lgT : ByteArray := ⟨#[2, 1, 2, 0, 0]⟩
def lgU : ByteArray := ⟨#[1, 0, 0, 3, 120, 46, 121, 2, 104, 105, 2, 1, 2, 0, 0]⟩
def lgV : ByteArray := ⟨#[1, 0, 0, 3, 120, 46, 121, 2, 104, 105, 2, 1, 2, 0, 0, 1]⟩
theorem facts_L1 : putE (actT lgA) = 0 ∧ putE (actT lgB) = 0 ∧ putE (actT lgC) = 3 ∧ repE lgV = 0 ∧ repN lgV = 15 ∧ (repA lgV).length = 2 := by decide +kernel
theorem facts_L2 : putV (actT lgA) = lgS ∧ putV (actT lgB) = lgT ∧ putV (actT lgC) = ⟨#[]⟩ := by
 refine ⟨?_, ?_, ?_⟩ <;> kernel_rfl
theorem facts_L3 : recE officeP lgU = 0 ∧ recN officeP lgU = 2 ∧ (recS officeP lgU).came = 2 ∧ (recS officeP lgU).takers.length = 1 ∧ doE officeP bS ⟨0, 0, 0, ⟨#[]⟩, ⟨#[]⟩⟩ = 7 := by decide +kernel
theorem join_U : ((⟨#[1, 0, 0, 3, 120, 46, 121, 2, 104, 105]⟩ : ByteArray) ++ (⟨#[2, 1, 2, 0, 0]⟩ : ByteArray)) = lgU := by kernel_rfl
theorem join_V : ((⟨#[1, 0, 0, 3, 120, 46, 121, 2, 104, 105]⟩ : ByteArray) ++ (⟨#[2, 1, 2, 0, 0]⟩ : ByteArray) ++ (⟨#[1]⟩ : ByteArray)) = lgV := by kernel_rfl
theorem logBegun_any (w : World) : Calls Tryz.prog 51 #[] w fun e w' => e = .returned (.bool true) ∧ Below w.heap.size w w' := by
 have F1 := hidI facts_L1
 have F2 := hidI facts_L2
 have F3 := hidI facts_L3
 go_enter Tryz.func51, Tryz.ntmps51
 go_wp2_with fail
 refine (lwrite_any lgA _).mono ?_
 rintro e w1 ⟨rfl, k1⟩
 rw [F1.out.1, F2.out.1]
 have K1 := hidI k1
 clear k1
 go_wp2_with fail
 refine (lwrite_any lgB _).mono ?_
 rintro e w2 ⟨rfl, k2⟩
 rw [F1.out.2.1, F2.out.2.1]
 have K2 := hidI (K1.out.trans (k2.mono K1.out.size))
 clear k2
 unfold lgS lgT
 go_wp2_with fail
 rw [join_V]
 refine (replay_any lgV _).mono ?_
 rintro e w3 ⟨v3, rfl, ho3, k3⟩
 rw [F1.out.2.2.2.1, F1.out.2.2.2.2.1]
 obtain ⟨a3, c3, hv3, -⟩ := own_row ho3
 rw [F1.out.2.2.2.2.2] at hv3
 subst hv3
 have K3 := hidI (K2.out.trans (k3.mono K2.out.size))
 clear k3 ho3
 go_wp2_with fail
 refine (office_any _).mono ?_
 rintro e w4 ⟨rfl, k4, hp4⟩
 have K4 := hidI (K3.out.trans (k4.mono K3.out.size))
 have HP4 := hidI hp4
 clear k4 hp4
 go_wp2_with fail
 rw [join_U]
 refine (recover_any officeP _ _ _ _ _ _ _ _ _ lgU _ HP4.out).mono ?_
 rintro e w5 ⟨v5, rfl, hr5, k5⟩
 rw [F3.out.1] at hr5 ⊢
 rw [F3.out.2.1]
 obtain ⟨b1, b2, b3, m1, d1, m2, d2, m3, d3, hv5, hrs⟩ := hr5.1 rfl
 obtain ⟨S5, hS5⟩ : ∃ S5, S5 = recS officeP lgU := ⟨_, rfl⟩
 rw [← hS5] at hv5 hrs
 have hl3 := hrs.state.1.l3
 have hca : S5.came = 2 := by rw [hS5]; exact F3.out.2.2.1
 have htk : m3 = 1 := by rw [← hl3, hS5]; exact F3.out.2.2.2.1
 subst hv5 htk
 rw [hca]
 have K5 := hidI (K4.out.trans (k5.mono K4.out.size))
 obtain ⟨w6, hw6⟩ : ∃ w6, w6 = w5.alloc (.cells #[.slice b1 m1 d1, .slice b2 m2 d2, .slice b3 1 d3, .int .i64 S5.nextSeq, .int .i64 S5.nextTag, .int .i64 2, .int .i64 S5.acked, .int .i64 S5.dropped] 31) := ⟨_, rfl⟩
 have l6 : Below w5.heap.size w5 w6 := by rw [hw6]; exact (Below.refl _ _).alloc (Nat.le_refl _) _
 have b6 : w6.heap[w5.heap.size]? = some (.cells #[.slice b1 m1 d1, .slice b2 m2 d2, .slice b3 1 d3, .int .i64 S5.nextSeq, .int .i64 S5.nextTag, .int .i64 2, .int .i64 S5.acked, .int .i64 S5.dropped] 31 (0, 0)) := by rw [hw6]; exact World.alloc_heap_new w5 _
 have HW6 := hidI hw6
 obtain ⟨B6, hB6⟩ : ∃ B6, B6 = w5.heap.size := ⟨_, rfl⟩
 have HBB := hidI hB6
 rw [← hB6] at b6
 have HB6 := hidI b6
 have K6 := hidI (K5.out.trans (l6.mono K5.out.size))
 clear hr5 k5 hrs hS5 hl3 hca hw6 l6 b6 hB6
 go_upto_region 5 with fail
 rw [← HW6.out, ← HBB.out]
 go_wp2_with fail
 refine (lwrite_any lgC _).mono ?_
 rintro e w7 ⟨rfl, k7⟩
 rw [F1.out.2.2.1, F2.out.2.2]
 have K7 := hidI (K6.out.trans (k7.mono K6.out.size))
 have HB7 := hidI (pkp_ HB6.out k7)
 clear k7
 go_wp2_with fail
 refine (office_any _).mono ?_
 rintro e w8 ⟨rfl, k8, hp8⟩
 have K8 := hidI (K7.out.trans (k8.mono K7.out.size))
 have HB8 := hidI (pkp_ HB7.out k8)
 have HP8 := hidI hp8
 clear k8 hp8
 go_wp2_with fail
 refine (busy_any _).mono ?_
 rintro e w9 ⟨gI, gR, gO, gT, rfl, hb9, -, -, k9⟩
 have K9 := hidI (K8.out.trans (k9.mono K8.out.size))
 have HB9 := hidI (pkp_ HB8.out k9)
 have HP9 := hidI (HP8.out.keep k9)
 have HS9 := hidI (hb9.state 1)
 clear k9 hb9
 go_wp2_with fail
 refine (do_any officeP _ _ _ _ _ _ _ _ _ bS _ _ _ _ _ _ _ _ _ ⟨0, 0, 0, ⟨#[]⟩, ⟨#[]⟩⟩ _ HP9.out HS9.out (fun h => by cases h) (fun h => by cases h)).mono ?_
 rintro e wa ⟨va, rfl, hra, ka⟩
 rw [F3.out.2.2.2.2] at hra ⊢
 obtain ⟨x1, x2, x3, k1, e1, k2, e2, k3, e3, i1, i2, i3, i4, i5, rfl⟩ := hra.shape
 have KA := hidI (K9.out.trans (ka.mono K9.out.size))
 have HBA := hidI (pkp_ HB9.out ka)
 obtain ⟨wb, hwb⟩ : ∃ wb, wb = wa.alloc (.cells #[.slice x1 k1 e1, .slice x2 k2 e2, .slice x3 k3 e3, .int .i64 i1, .int .i64 i2, .int .i64 i3, .int .i64 i4, .int .i64 i5] 31) := ⟨_, rfl⟩
 have lb : Below wa.heap.size wa wb := by rw [hwb]; exact (Below.refl _ _).alloc (Nat.le_refl _) _
 have HWB := hidI hwb
 have KB := hidI (KA.out.trans (lb.mono KA.out.size))
 have hbb := pkp_ HBA.out lb
 clear hra ka hwb lb
 go_upto_region 7 with fail
 rw [← HWB.out]
 obtain ⟨y0, y1, y2, y3, y4, y5, y6, y7⟩ := st_cells hbb
 clear hbb
 go_wp2_with fail
 go_ret
 exact ⟨rfl, KB.out⟩
structure Done (p : PlanD) (s t : StateD) : Prop where
 was : RightX p s 0
 right : RightX p t 0
 came : s.came ≤ t.came
 acked : s.acked ≤ t.acked
 dropped : s.dropped ≤ t.dropped
 tag : s.nextTag ≤ t.nextTag
 len : t.ready.length = s.ready.length
theorem joinZ {p : PlanD} {s : StateD} {q most : Int} (h : joinE p s q most = 0) : RightX p s 0 ∧ isNum q p.queues.length = true ∧ inR most 1 4 = true ∧ ¬ (goneIdx s.takers = s.takers.length ∧ 4 ≤ s.takers.length) := by
 unfold joinE at h
 by_cases h1 : stE p s = 0
 ·rw [if_neg (by simp [h1])] at h
  unfold joinX at h
  by_cases h2 : isNum q p.queues.length = false
  ·rw [if_pos h2] at h; cases h
  ·rw [if_neg h2] at h
   by_cases h3 : inR most 1 4 = false
   ·rw [if_pos h3] at h; cases h
   ·rw [if_neg h3] at h
    by_cases h4 : goneIdx s.takers = s.takers.length ∧ 4 ≤ s.takers.length
    ·rw [if_pos h4] at h; cases h
    ·exact ⟨right_of h1, by simpa using h2, by simpa using h3, h4⟩
 ·rw [if_pos h1] at h; exact absurd h h1
theorem pub_zero {p : PlanD} {s : StateD} {post : Int} {key body : ByteArray} (h : pubE p s post key body = 0) : RightX p s 0 ∧ rtE p post key = 0 ∧ body.size ≤ 12 ∧ (pubL p post key body).length ≤ 4 ∧ (∀ a ∈ pubL p post key body, ArrOk p a) ∧ s.nextSeq ≤ 524288 := by
 unfold pubE at h
 by_cases h1 : stE p s = 0
 ·rw [if_neg (by simp [h1])] at h
  unfold pubX at h
  by_cases h2 : rtE p post key = 0
  ·rw [if_neg (by simp [h2])] at h
   by_cases h3 : 12 < body.size
   ·rw [if_pos h3] at h; cases h
   ·rw [if_neg h3] at h
    unfold letE at h
    rw [if_neg (by simp [h1])] at h
    obtain ⟨g1, g2, g3⟩ := arE_zero h
    exact ⟨right_of h1, h2, by omega, g1, g2, g3⟩
  ·rw [if_pos h2] at h; exact absurd h h2
 ·rw [if_pos h1] at h; exact absurd h h1
theorem pub_done {p : PlanD} {s : StateD} {post : Int} {key body : ByteArray} (h : pubE p s post key body = 0) : ∃ n, Arrived p s (arrS p 600 s (pubL p post key body)) n := by
 obtain ⟨h1, h2, h3, h4, h5, h6⟩ := pub_zero h
 exact ⟨_, (arr_done 600 h1 h5 (Nat.le_trans (phi_le h1 h4) (by omega)) (by omega)).1⟩
theorem Arrived.fin {p : PlanD} {s t : StateD} {n : Nat} (hs : RightX p s 0) (h : Arrived p s t n) : Done p s t :=
 ⟨hs, h.right, by have := h.came; omega, by rw [h.acked]; exact Int.le_refl _, h.dropped, by rw [h.tag]; exact Int.le_refl _, h.len⟩
theorem do_done {p : PlanD} {s : StateD} {x : ActD} (h : doE p s x = 0) : Done p s (doS p s x) := by
 unfold doE at h; unfold doS
 by_cases h1 : x.kind = 1
 ·rw [if_pos h1] at h ⊢
  obtain ⟨n, hn⟩ := pub_done h
  exact hn.fin (pub_zero h).1
 rw [if_neg h1] at h ⊢
 by_cases h2 : x.kind = 2
 ·rw [if_pos h2] at h ⊢
  obtain ⟨g1, g2, g3, g4⟩ := joinZ h
  exact ⟨g1, g1.join g2 g3 g4, Int.le_refl _, Int.le_refl _, Int.le_refl _, Int.le_refl _, rfl⟩
 rw [if_neg h2] at h ⊢
 by_cases h3 : x.kind = 3
 ·rw [if_pos h3] at h ⊢
  have g := leaves h
  exact ⟨g.was, g.right, g.came, by rw [g.acked]; exact Int.le_refl _, g.dropped, by rw [g.tag]; exact Int.le_refl _, g.len⟩
 rw [if_neg h3] at h ⊢
 by_cases h4 : x.kind = 4
 ·rw [if_pos h4] at h ⊢
  obtain ⟨k, y, r, g⟩ := del_zero h
  exact ⟨g.right, g.done, Int.le_refl _, Int.le_refl _, Int.le_refl _, by show s.nextTag ≤ s.nextTag + 1; omega, List.length_set⟩
 rw [if_neg h4] at h ⊢
 by_cases h5 : x.kind = 5
 ·rw [if_pos h5] at h ⊢
  obtain ⟨g, i, o, ho⟩ := ack_zero h
  exact ⟨g, g.ack ho, Int.le_refl _, by show s.acked ≤ s.acked + 1; omega, Int.le_refl _, Int.le_refl _, rfl⟩
 rw [if_neg h5] at h ⊢
 by_cases h6 : x.kind = 6
 ·rw [if_pos h6] at h
  obtain ⟨i, o, n, ho, hn, g⟩ := rejected h (x.b != 0)
  exact ⟨(rej_zero h).1, g.right, by have := g.came; omega, by rw [g.acked]; exact Int.le_refl _, g.dropped, by rw [g.tag]; exact Int.le_refl _, g.len⟩
 ·rw [if_neg h6] at h; cases h
def sameA (x : ActD) (n : Int) (k : ByteArray) : ActD :=
 if x.kind = 1 then ⟨x.kind, x.a, n, x.key, x.body⟩ else if x.kind = 2 ∨ x.kind = 6 then ⟨x.kind, x.a, x.b, k, k⟩ else if x.kind = 3 ∨ x.kind = 4 ∨ x.kind = 5 then ⟨x.kind, x.a, n, k, k⟩ else x
theorem sameA_do (p : PlanD) (s : StateD) (x : ActD) (n : Int) (k : ByteArray) : doE p s (sameA x n k) = doE p s x ∧ doS p s (sameA x n k) = doS p s x := by
 obtain ⟨kd, a, b, ky, bd⟩ := x
 unfold sameA
 dsimp only
 by_cases h1 : kd = 1
 ·subst h1; exact ⟨rfl, rfl⟩
 rw [if_neg h1]
 by_cases h2 : kd = 2 ∨ kd = 6
 ·rw [if_pos h2]; rcases h2 with rfl | rfl <;> exact ⟨rfl, rfl⟩
 rw [if_neg h2]
 by_cases h3 : kd = 3 ∨ kd = 4 ∨ kd = 5
 ·rw [if_pos h3]; rcases h3 with rfl | rfl | rfl <;> exact ⟨rfl, rfl⟩
 rw [if_neg h3]; exact ⟨rfl, rfl⟩
def resV (E : Int) (s : StateD) : StateD := if E = 0 then s else beginS 0
theorem StRes.stV {W : World} {n : Nat} {v : Value} {E : Int} {s : StateD} (h : StRes W n v E s) : StV W v (resV E s) := by
 unfold resV
 by_cases hE : E = 0
 ·rw [if_pos hE]; exact (h.1 hE).st
 ·rw [if_neg hE, h.2 hE]
  exact ⟨none, none, none, 0, 0, 0, 0, 0, 0, rfl, ⟨rfl, rfl, rfl, Nat.zero_le _, Nat.zero_le _, Nat.zero_le _, .inl rfl, .inl rfl, .inl rfl⟩, fun _ => rfl, fun _ => rfl⟩
theorem StRes.boxV {W : World} {n : Nat} {v : Value} {E : Int} {S : StateD} (h : StRes W n v E S) {s : StateD} (hs : s = resV E S) : ∃ b1 b2 b3 m1 d1 m2 d2 m3 d3 W', v = .agg #[.slice b1 m1 d1, .slice b2 m2 d2, .slice b3 m3 d3, .int .i64 s.nextSeq, .int .i64 s.nextTag, .int .i64 s.came, .int .i64 s.acked, .int .i64 s.dropped] ∧ W' = W.alloc (.cells #[.slice b1 m1 d1, .slice b2 m2 d2, .slice b3 m3 d3, .int .i64 s.nextSeq, .int .i64 s.nextTag, .int .i64 s.came, .int .i64 s.acked, .int .i64 s.dropped] 31) ∧ Below W.heap.size W W' ∧ W'.heap[W.heap.size]? = some (.cells #[.slice b1 m1 d1, .slice b2 m2 d2, .slice b3 m3 d3, .int .i64 s.nextSeq, .int .i64 s.nextTag, .int .i64 s.came, .int .i64 s.acked, .int .i64 s.dropped] 31 (0, 0)) ∧ StateAt W' b1 b2 b3 m1 m2 m3 s ∧ (b2 = none → d2 = 0) ∧ (b3 = none → d3 = 0) := by
 subst hs
 obtain ⟨b1, b2, b3, m1, d1, m2, d2, m3, d3, h1, h2, h3⟩ := h.stV
 exact ⟨b1, b2, b3, m1, d1, m2, d2, m3, d3, _, h1, rfl, (Below.refl _ _).alloc (Nat.le_refl _) _, World.alloc_heap_new W _, h2.keep ((Below.refl _ _).alloc (Nat.le_refl _) _), h3⟩
theorem same_states (s : StateD) (b1 b2 b3 e1 e2 e3 : Option Addr) (m1 d1 m2 d2 m3 d3 f1 f2 f3 : Nat) (w : World) (ha : StateAt w b1 b2 b3 m1 m2 m3 s) (hb : StateAt w e1 e2 e3 m1 m2 m3 s) :
 Calls Tryz.prog 24 #[.agg #[.slice b1 m1 d1, .slice b2 m2 d2, .slice b3 m3 d3, .int .i64 s.nextSeq, .int .i64 s.nextTag, .int .i64 s.came, .int .i64 s.acked, .int .i64 s.dropped], .agg #[.slice e1 m1 f1, .slice e2 m2 f2, .slice e3 m3 f3, .int .i64 s.nextSeq, .int .i64 s.nextTag, .int .i64 s.came, .int .i64 s.acked, .int .i64 s.dropped]] w fun e w' => e = .returned (.bool true) ∧ Below w.heap.size w w' := by
 obtain ⟨W2, hW2, hBw, hs2, hbx⟩ := ss_boxed w #[.slice b1 m1 d1, .slice b2 m2 d2, .slice b3 m3 d3, .int .i64 s.nextSeq, .int .i64 s.nextTag, .int .i64 s.came, .int .i64 s.acked, .int .i64 s.dropped] #[.slice e1 m1 f1, .slice e2 m2 f2, .slice e3 m3 f3, .int .i64 s.nextSeq, .int .i64 s.nextTag, .int .i64 s.came, .int .i64 s.acked, .int .i64 s.dropped]
 have HW2 := hidI hW2
 have BX := hidI hbx
 have HA := hidI (ha.keep hBw)
 have HB := hidI (hb.keep hBw)
 have HBW := hidI hBw
 have HM1 : Hid (s.ready.length = m1) := ha.l1
 have HM2 : Hid (s.outs.length = m2) := ha.l2
 have HM3 : Hid (s.takers.length = m3) := ha.l3
 have hx1 := ha.x1
 have hx2 := ha.x2
 have hx3 := ha.x3
 unfold maxLen at hx1 hx3
 have s0 := hBw.size
 have g1 : ((m1 : Int) != (m1 : Int)) = false := by simp
 have g2 : ((m2 : Int) != (m2 : Int)) = false := by simp
 have g3 : ((m3 : Int) != (m3 : Int)) = false := by simp
 have g4 : (s.nextSeq != s.nextSeq) = false := by simp
 have g5 : (s.nextTag != s.nextTag) = false := by simp
 have g6 : (s.came != s.came) = false := by simp
 have g7 : (s.acked != s.acked) = false := by simp
 have g8 : (s.dropped != s.dropped) = false := by simp
 obtain ⟨y0, y1, y2, y3, y4, y5, y6, y7⟩ := st_cells (hbx W2 (Below.refl _ _)).1
 obtain ⟨z0, z1, z2, z3, z4, z5, z6, z7⟩ := st_cells (hbx W2 (Below.refl _ _)).2
 clear hW2 hbx hs2 ha hb hBw
 go_enter Tryz.func24, Tryz.ntmps24
 go_wp2_with fail
 rw [← HW2.out]
 clear y0 y1 y2 y3 y4 y5 y6 y7 z0 z1 z2 z3 z4 z5 z6 z7 g1 g2 g3 g4 g5 g6 g7 g8
 go_loopw [5] (fun i wr => ∃ k : Nat, k ≤ m1 ∧ i = .int .i64 k ∧ Below W2.heap.size W2 wr) (fun i _ => m1 - (intOf i).toNat)
 case atStart => exact ⟨0, Nat.zero_le _, rfl, Below.refl _ _⟩
 case round =>
  obtain ⟨k, hk, rfl, hB⟩ := hrel
  have hBs := hB.size
  have HBl := hidI hB
  obtain ⟨y0, y1, y2, y3, y4, y5, y6, y7⟩ := st_cells (BX.out wr hB).1
  obtain ⟨z0, z1, z2, z3, z4, z5, z6, z7⟩ := st_cells (BX.out wr hB).2
  by_cases hlt : k < m1
  ·have HLT := hidI hlt
   have hkl : k < s.ready.length := by rw [HM1.out]; exact hlt
   obtain ⟨g, o, b, c, ha, hg, hl⟩ := (HA.out.q1.keep hB).get hkl
   obtain ⟨g', o', b', c', ha', hg', hl'⟩ := (HB.out.q1.keep hB).get hkl
   subst ha ha'
   have c1 := hl.cell
   have c2 := hl'.cell
   obtain ⟨n, hn⟩ : ∃ n, n = (s.ready[k]'hkl).length := ⟨_, rfl⟩
   rw [← hn] at c1 c2
   have SI := hidI (same_items (s.ready[k]'hkl) b b' n c c' wr.drew hn.symm (by rw [hn]; exact Nat.le_trans hl.le hl.cm) (hl.it.keep (Below.refl _ _).drew) (hl'.it.keep (Below.refl _ _).drew))
   have j1 : (0 : Int) ≤ (k : Int) := by omega
   have j2 : (k : Int) < m1 := by omega
   have SS : Hid (∀ W', Below wr.heap.size wr W' → (W'.cell? ⟨w.heap.size, 0, none⟩ = some (.slice (some ⟨g, o, none⟩) m1 d1) ∧ W'.cell? ⟨w.heap.size + 1, 0, none⟩ = some (.slice (some ⟨g', o', none⟩) m1 f1) ∧ W'.cell? ⟨g, o + k, none⟩ = some (.slice b n c) ∧ W'.cell? ⟨g', o' + k, none⟩ = some (.slice b' n c'))) := fun W' hW' => by
    have q := BX.out W' (HBl.out.trans (hW'.mono hBs))
    exact ⟨coc_ q.1 0, coc_ q.2 0, (hW'.cell (p := ⟨g, o + k, none⟩) hg).trans c1, (hW'.cell (p := ⟨g', o' + k, none⟩) hg').trans c2⟩
   clear hl hl' hn
   go_wp2_with fail
   refine wp_region_held_drew (S := fun W' => (W'.cell? ⟨w.heap.size, 0, none⟩ = some (.slice (some ⟨g, o, none⟩) m1 d1) ∧ W'.cell? ⟨w.heap.size + 1, 0, none⟩ = some (.slice (some ⟨g', o', none⟩) m1 f1) ∧ W'.cell? ⟨g, o + k, none⟩ = some (.slice b n c) ∧ W'.cell? ⟨g', o' + k, none⟩ = some (.slice b' n c'))) (by kernel_rfl) (SS.out _ (Below.refl _ _).drew) (fun hHeld => ?_)
   refine tk 0 ?_
   refine tk 1 ?_
   refine tk 2 ?_
   refine tk 3 ?_
   refine tk 4 ?_
   refine tk 5 ?_
   refine tk 6 ?_
   refine tk 7 ?_
   refine tk 8 ?_
   refine tk 9 ?_
   refine rdy 10 (fun K hK => ?_)
   go_simp
   refine SI.out.mono ?_
   rintro e w3 ⟨rfl, k3'⟩
   have k3 : Below wr.heap.size wr w3 := bud_ k3'
   refine hK.out _ _ (SS.out _ k3) (fun hHeld2 => ?_)
   clear hHeld hK K k3'
   try simp only [Act.put, List.getElem_toArray, List.getElem_cons_succ, List.getElem_cons_zero, List.setIfInBounds_toArray, List.set_cons_zero, List.set_cons_succ]
   refine tk 11 ?_
   refine wpAnyH_done (by kernel_rfl) ?_ _
   clear hHeld2
   go_wp2_with fail
   go_roundw
   case rel => exact ⟨k + 1, HLT.out, by have := HLT.out; go_num, HBl.out.trans (k3.mono hBs)⟩
   case measure => have := HLT.out; simp [intOf]; omega
  ·have hke : m1 = k := by omega
   subst hke
   clear hlt hk
   go_wp2_with fail
   clear y0 y1 y2 y3 y4 y5 y6 y7 z0 z1 z2 z3 z4 z5 z6 z7
   go_loopw [6] (fun i wr => ∃ k : Nat, k ≤ m2 ∧ i = .int .i64 k ∧ Below W2.heap.size W2 wr) (fun i _ => m2 - (intOf i).toNat)
   case atStart => exact ⟨0, Nat.zero_le _, rfl, hB⟩
   case round =>
    clear hB hBs HBl
    obtain ⟨k, hk, rfl, hB⟩ := hrel
    have hBs := hB.size
    have HBl := hidI hB
    obtain ⟨y0, y1, y2, y3, y4, y5, y6, y7⟩ := st_cells (BX.out wr hB).1
    obtain ⟨z0, z1, z2, z3, z4, z5, z6, z7⟩ := st_cells (BX.out wr hB).2
    by_cases hlt : k < m2
    ·have HLT := hidI hlt
     have hkl : k < s.outs.length := by rw [HM2.out]; exact hlt
     obtain ⟨g, o, ha, hg, c0, c1, c2, c3, c4, c5, c6, c7⟩ := (HA.out.q2.keep hB).get hkl
     obtain ⟨g', o', ha', hg', c0', c1', c2', c3', c4', c5', c6', c7'⟩ := (HB.out.q2.keep hB).get hkl
     subst ha ha'
     have j1 : (0 : Int) ≤ (k : Int) := by omega
     have j2 : (k : Int) < m2 := by omega
     go_wp2_with fail
     go_quiet (fail)
     go_wp2_with fail
     go_roundw
     case rel => exact ⟨k + 1, HLT.out, by have := HLT.out; go_num, below_drewL HBl.out⟩
     case measure => have := HLT.out; simp [intOf]; omega
    ·have hke : m2 = k := by omega
     subst hke
     clear hlt hk
     go_wp2_with fail
     clear y0 y1 y2 y3 y4 y5 y6 y7 z0 z1 z2 z3 z4 z5 z6 z7
     go_loopw [7] (fun i wr => ∃ k : Nat, k ≤ m3 ∧ i = .int .i64 k ∧ Below W2.heap.size W2 wr) (fun i _ => m3 - (intOf i).toNat)
     case atStart => exact ⟨0, Nat.zero_le _, rfl, hB⟩
     case round =>
      clear hB hBs HBl
      obtain ⟨k, hk, rfl, hB⟩ := hrel
      have hBs := hB.size
      have HBl := hidI hB
      obtain ⟨y0, y1, y2, y3, y4, y5, y6, y7⟩ := st_cells (BX.out wr hB).1
      obtain ⟨z0, z1, z2, z3, z4, z5, z6, z7⟩ := st_cells (BX.out wr hB).2
      by_cases hlt : k < m3
      ·have HLT := hidI hlt
       have hkl : k < s.takers.length := by rw [HM3.out]; exact hlt
       obtain ⟨g, o, ha, hg, c0, c1⟩ := (HA.out.q3.keep hB).get hkl
       obtain ⟨g', o', ha', hg', c0', c1'⟩ := (HB.out.q3.keep hB).get hkl
       subst ha ha'
       have j1 : (0 : Int) ≤ (k : Int) := by omega
       have j2 : (k : Int) < m3 := by omega
       go_wp2_with fail
       go_quiet (fail)
       go_wp2_with fail
       go_roundw
       case rel => exact ⟨k + 1, HLT.out, by have := HLT.out; go_num, below_drewL HBl.out⟩
       case measure => have := HLT.out; simp [intOf]; omega
      ·have hke : m3 = k := by omega
       subst hke
       clear hlt hk
       go_wp2_with fail
       go_ret
       exact ⟨rfl, HBW.out.trans (HBl.out.mono s0)⟩
theorem same_res {s : StateD} {E : Int} {u v : Value} {w : World} {n n' : Nat} (hu : StRes w n u E s) (hv : StRes w n' v E s) : Calls Tryz.prog 24 #[u, v] w fun e w' => e = .returned (.bool true) ∧ Below w.heap.size w w' := by
 by_cases hE : E = 0
 ·obtain ⟨b1, b2, b3, m1, d1, m2, d2, m3, d3, rfl, h1⟩ := hu.1 hE
  obtain ⟨e1, e2, e3, k1, f1, k2, f2, k3, f3, rfl, h2⟩ := hv.1 hE
  have q1 : k1 = m1 := h2.l1.symm.trans h1.l1
  have q2 : k2 = m2 := h2.l2.symm.trans h1.l2
  have q3 : k3 = m3 := h2.l3.symm.trans h1.l3
  subst q1 q2 q3
  exact same_states s _ _ _ _ _ _ _ _ _ _ _ _ _ _ _ w h1.state h2.state
 ·rw [hu.2 hE, hv.2 hE]
  have h0 : StateAt w none none none 0 0 0 (beginS 0) := ⟨rfl, rfl, rfl, Nat.zero_le _, Nat.zero_le _, Nat.zero_le _, .inl rfl, .inl rfl, .inl rfl⟩
  exact same_states (beginS 0) _ _ _ _ _ _ _ _ _ _ _ _ _ _ _ w h0 h0
structure InBox (W : World) (B : Nat) (u : Array Value) (n : Nat) (E : Int) (s : StateD) : Prop where
 box : W.heap[B]? = some (.cells u 31 (0, 0))
 res : StRes W n (.agg u) E s
theorem InBox.keep {W W' : World} {B : Nat} {u : Array Value} {n : Nat} {E : Int} {s : StateD} (h : InBox W B u n E s) (hB : Below W.heap.size W W') : InBox W' B u n E s := ⟨pkp_ h.box hB, h.res.keep hB⟩
theorem boxed_res {W : World} {u : Array Value} {n : Nat} {E : Int} {s : StateD} (h : StRes W n (.agg u) E s) : ∃ W', W' = W.alloc (.cells u 31) ∧ Below W.heap.size W W' ∧ InBox W' W.heap.size u n E s :=
 ⟨_, rfl, (Below.refl _ _).alloc (Nat.le_refl _) _, World.alloc_heap_new W _, h.keep ((Below.refl _ _).alloc (Nat.le_refl _) _)⟩
end Go.Proofs.YtpoichgodamnkaaGreat
