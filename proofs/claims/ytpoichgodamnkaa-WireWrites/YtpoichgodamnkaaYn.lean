import Derived.Deep.DeepCutAuto
import Derived.Test.YtpoichgodamnkaaYl
/- Wn -/
namespace Go.Proofs.Ytpoichgodamnkaa
set_option linter.unusedVariables false
set_option maxRecDepth 100000
open Go.RowKit Go.Maps

set_option maxRecDepth 100000 in
set_option maxHeartbeats 2000000 in
theorem texted_any (s : ByteArray) (w : World) (hs : s.size ≤ 255) :
    Calls Try.prog 66 #[.string s] w fun e w' => ∃ v, e = .returned v ∧ w'.ownsRow w.heap.size 5 1 v (s.size + 1) (byteCells (textB s)) ∧ Below w.heap.size w w' := by
  obtain ⟨L, hL⟩ : ∃ L, L = s.size := ⟨_, rfl⟩
  have HL := hidI hL
  rw [← hL]
  rw [← hL] at hs
  have HU : Hid (((oct8 (L : Int)).toNat : Int) = (L : Int)) := u8_of (by omega) (by omega)
  obtain ⟨i0, hi, hz0, hz1, hz2⟩ := info_parts Try.infoByte
  obtain ⟨W1, hW1⟩ : ∃ W1, W1 = w.alloc (.cells #[.int .u8 (L : Int)] 5) := ⟨_, rfl⟩
  have HW1 := hidI hW1
  have k1 : Below w.heap.size w W1 := by rw [hW1]; exact (Below.refl _ _).alloc (Nat.le_refl _) _
  have HO1 : Hid (W1.ownsRow w.heap.size 5 1 (.slice (some ⟨w.heap.size, 0, none⟩) 1 1) 1 (byteCells [oct8 (L : Int)])) := by
    have := World.ownsRow_lit (base := w.heap.size) (e := 5) (size := 1) w #[.int .u8 (L : Int)] 1 (Nat.le_refl _) (by unfold maxLen; omega) rfl
    show W1.ownsRow _ _ _ _ _ _
    rw [hW1]
    have e : byteCells [oct8 (L : Int)] = [.int .u8 (L : Int)] := by unfold byteCells; simp [HU.out]
    rw [e]; exact this
  have K1 := hidI k1
  have hs1 := k1.size
  have h0 : (0 : Int) ≤ (L : Int) := by omega
  have h255 : (L : Int) ≤ 255 := by omega
  clear hL hW1 k1
  go_enter Try.func66, Try.ntmps66
  go_wp2_with (first | rw [← HL.out] | (at_builtin; rw [← HW1.out]; refine Lib.wpList_append_own_string _ rfl _ _ 97 9 rfl w.heap.size 5 i0 Try.underlying97 Try.underlying9 hi hz0 hz1 hz2 _ 1 _ rfl HO1.out s rfl (by have := HL.out; unfold maxLen; omega) (by have := HL.out; omega) hs1 ?_; intro v6 w6 ho6 hg6 _; rw [strCells_bytes, ← byteCells_append, ← HL.out] at ho6))
  go_ret
  refine ⟨v6, rfl, ?_, K1.out.grown hg6 hs1 (fun j hj => (HO1.out.lt j hj).1)⟩
  have e : textB s = [oct8 (L : Int)] ++ s.data.toList := by unfold textB; rw [HL.out]; rfl
  rw [e, Nat.add_comm]; exact ho6
def byP (p : PlanD) (k : Nat) : List UInt8 := oct8 p.posts.length :: (p.posts.take k).flatMap postB
def byQ (p : PlanD) (k : Nat) : List UInt8 := byP p p.posts.length ++ (oct8 p.queues.length :: (p.queues.take k).flatMap queueB)
def byB (p : PlanD) (k : Nat) : List UInt8 := byQ p p.queues.length ++ (oct8 p.binds.length :: (p.binds.take k).flatMap bindB)
theorem byB_all (p : PlanD) : byB p p.binds.length = planB p := by
  unfold byB byQ byP planB manyB
  rw [List.take_length, List.take_length, List.take_length]; simp
theorem next_byP {p : PlanD} {k : Nat} (hk : k < p.posts.length) : byP p (k + 1) = byP p k ++ postB p.posts[k] := by
  unfold byP; rw [List.take_succ_eq_append_getElem hk, List.flatMap_append, List.flatMap_singleton]; rfl
theorem next_byQ {p : PlanD} {k : Nat} (hk : k < p.queues.length) : byQ p (k + 1) = byQ p k ++ queueB p.queues[k] := by
  unfold byQ; rw [List.take_succ_eq_append_getElem hk, List.flatMap_append, List.flatMap_singleton]; simp
theorem next_byB {p : PlanD} {k : Nat} (hk : k < p.binds.length) : byB p (k + 1) = byB p k ++ bindB p.binds[k] := by
  unfold byB; rw [List.take_succ_eq_append_getElem hk, List.flatMap_append, List.flatMap_singleton]; simp
theorem flat_take_le {α : Type} (f : α → List UInt8) (xs : List α) (k : Nat) : ((xs.take k).flatMap f).length ≤ (xs.flatMap f).length := by
  conv => rhs; rw [← List.take_append_drop k xs]
  rw [List.flatMap_append, List.length_append]; omega
theorem by_short {p : PlanD} (h : chkP p = 0) (k : Nat) : (byP p k).length ≤ 4096 ∧ (byQ p k).length ≤ 4096 ∧ (byB p k).length ≤ 4096 := by
  have h1 := planB_short h
  rw [← byB_all] at h1
  have a1 := flat_take_le postB p.posts k
  have a2 := flat_take_le queueB p.queues k
  have a3 := flat_take_le bindB p.binds k
  unfold byB byQ byP at *
  simp only [List.length_append, List.length_cons, List.take_length] at *
  omega
theorem u8_wrap {n : Int} (h0 : 0 ≤ n) (h : n < 256) : IntKind.u8.wrap n = n := by rw [IntKind.wrap_u8]; omega
theorem byteCells_of {n : Int} (h0 : 0 ≤ n) (h : n < 256) : byteCells [oct8 n] = [.int .u8 n] := by unfold byteCells; simp [u8_of h0 h]
theorem byteCells_cons {n : Int} (h0 : 0 ≤ n) (h : n < 256) (l : List UInt8) : byteCells (oct8 n :: l) = .int .u8 n :: byteCells l := by unfold byteCells; simp [u8_of h0 h]

set_option maxRecDepth 100000 in
set_option maxHeartbeats 16000000 in
theorem planBytes_any (p : PlanD) (a1 a2 a3 : Option Addr) (n1 c1 n2 c2 n3 c3 : Nat) (w : World) (hp : PlanAt w a1 a2 a3 n1 n2 n3 p) (hc : chkP p = 0) :
    Calls Try.prog 30 #[.agg #[.slice a1 n1 c1, .slice a2 n2 c2, .slice a3 n3 c3]] w fun e w' => e = .returned (.string (bytesV (planB p))) ∧ Below w.heap.size w w' := by
  obtain ⟨W1, hW1, hBw, hs1, hbx⟩ := plan_boxed w (.slice a1 n1 c1) (.slice a2 n2 c2) (.slice a3 n3 c3) 26
  have HW1 := hidI hW1
  have HBX := hidI hbx
  have HBW := hidI hBw
  have HP := hidI (hp.keep hBw)
  have s0 := hBw.size
  have HC := hidI hc
  have HR := hidI (chk_right hc)
  have HSM := hidI (chk_small hc)
  have HL : Hid (p.posts.length = n1 ∧ p.queues.length = n2 ∧ p.binds.length = n3) := ⟨HP.out.l1, HP.out.l2, HP.out.l3⟩
  have hf : n1 ≤ 4 ∧ n2 ≤ 4 ∧ n3 ≤ 10 := by have h1 := HR.out.few; have h2 := HL.out; omega
  obtain ⟨hf1, hf2, hf3⟩ := hf
  obtain ⟨x0, x1, x2⟩ := hbx W1 (Below.refl _ _)
  have q1 : (0 : Int) ≤ (n1 : Int) := by omega
  have q1' : (n1 : Int) ≤ 255 := by omega
  have q2 : (0 : Int) ≤ (n2 : Int) := by omega
  have q2' : (n2 : Int) ≤ 255 := by omega
  have q3 : (0 : Int) ≤ (n3 : Int) := by omega
  have q3' : (n3 : Int) ≤ 255 := by omega
  have HS1 := hidI hs1
  clear hW1 hbx hp hBw hc hs1
  go_enter Try.func30, Try.ntmps30
  go_upto_region 2 with fail
  rw [← HW1.out]
  obtain ⟨W3, hW3⟩ : ∃ W3, W3 = W1.alloc (.cells #[.int .u8 n1] 5) := ⟨_, rfl⟩
  rw [← hW3]
  have k3' : Below W1.heap.size W1 W3 := by rw [hW3]; exact (Below.refl _ _).alloc (Nat.le_refl _) _
  have HO3 : Hid (W3.ownsRow W1.heap.size 5 1 (.slice (some ⟨w.heap.size + 1, 0, none⟩) 1 1) 1 (byteCells (byP p 0))) := by
    have := World.ownsRow_lit (base := W1.heap.size) (e := 5) (size := 1) W1 #[.int .u8 n1] 1 (Nat.le_refl _) (by unfold maxLen; omega) rfl
    show W3.ownsRow _ _ _ _ _ _
    rw [hW3, ← HS1.out]
    have e : byteCells (byP p 0) = [.int .u8 n1] := by unfold byP; rw [HL.out.1]; exact byteCells_of (by omega) (by omega)
    rw [e]; exact this
  have K3 := hidI k3'
  clear hW3 k3' x0 x1 x2
  go_wp2_with fail
  go_loopw [3, 4] (fun l i wr => ∃ (k m : Nat), k ≤ n1 ∧ i = .int .i64 k ∧ wr.ownsRow W1.heap.size 5 1 l m (byteCells (byP p k)) ∧ Below W1.heap.size W1 wr) (fun _ i _ => n1 - (intOf i).toNat)
  case atStart => exact ⟨0, _, Nat.zero_le _, rfl, HO3.out, K3.out⟩
  case round =>
    obtain ⟨k, m, hk, rfl, hown, hB⟩ := hrel
    have hmb : m ≤ 4096 := by have h1 := hown.1; rw [byteCells_len] at h1; have h2 := by_short HC.out k; omega
    obtain ⟨bb, cb, hbv, -⟩ := own_row hown
    subst hbv
    have HO := hidI hown
    have HB := hidI hB
    have hBs := hB.size
    clear hown
    obtain ⟨x0, x1, x2⟩ := HBX.out wr hB
    by_cases hlt : k < n1
    · have HLT := hidI hlt
      have hkl : k < p.posts.length := by rw [HL.out.1]; exact hlt
      have HKL := hidI hkl
      obtain ⟨g, o, ha, hg, e0, e1⟩ := HP.out.p1.get hkl
      have HNX := hidI (next_byP hkl)
      have HSX := hidI (HSM.out.posts.2 _ (List.getElem_mem hkl))
      have HIX : Hid (p.posts[k]'hkl ∈ p.posts) := List.getElem_mem hkl
      obtain ⟨x, hx⟩ : ∃ x, x = p.posts[k]'hkl := ⟨_, rfl⟩
      rw [← hx] at e0 e1 HNX HSX HIX
      subst ha
      have j1 : (0 : Int) ≤ (k : Int) := by omega
      have j2 : (k : Int) < n1 := by omega
      clear hx
      have HTX : Hid (x.name.size ≤ 255) := by have := HSX.out.1; show x.name.size ≤ 255; omega
      have HKD : Hid (0 ≤ x.kind ∧ x.kind < 256) := HSX.out.2
      have hk0 : 0 ≤ x.kind := HKD.out.1
      have hk1 : x.kind ≤ 255 := by have := HKD.out.2; omega
      have jk : IntKind.u8.wrap x.kind = x.kind := u8_wrap HKD.out.1 HKD.out.2
      have HB' := HB.out
      have SS : Hid (∀ W', Below W1.heap.size W1 W' → ((W'.cell? ⟨w.heap.size, 0, none⟩ = some (.slice (some ⟨g, o, none⟩) n1 c1) ∧ W'.cell? ⟨w.heap.size, 1, none⟩ = some (.slice a2 n2 c2) ∧ W'.cell? ⟨w.heap.size, 2, none⟩ = some (.slice a3 n3 c3)) ∧ W'.cell? ⟨g, o + k * 2, none⟩ = some (.string x.name) ∧ W'.cell? ⟨g, o + k * 2 + 1, none⟩ = some (.int .i64 x.kind))) := fun W' h => ⟨HBX.out W' h, (h.cell (p := ⟨g, _, none⟩) hg).trans e0, (h.cell (p := ⟨g, _, none⟩) hg).trans e1⟩
      have DSE : Hid (byteCells ([oct8 x.kind]) = [.int .u8 x.kind]) := byteCells_of HKD.out.1 HKD.out.2
      go_wp2_with fail
      clear x0 x1 x2
      refine wp_region_held_drew (S := fun W' => ((W'.cell? ⟨w.heap.size, 0, none⟩ = some (.slice (some ⟨g, o, none⟩) n1 c1) ∧ W'.cell? ⟨w.heap.size, 1, none⟩ = some (.slice a2 n2 c2) ∧ W'.cell? ⟨w.heap.size, 2, none⟩ = some (.slice a3 n3 c3)) ∧ W'.cell? ⟨g, o + k * 2, none⟩ = some (.string x.name) ∧ W'.cell? ⟨g, o + k * 2 + 1, none⟩ = some (.int .i64 x.kind))) (by kernel_rfl) (SS.out _ HB'.drew) (fun hHeld => ?_)
      (refine wpAnyH_take (i := 0) (v := ?_) rfl (by kernel_rfl) (by kernel_rfl) (by kernel_rfl) (fun _ _ _ h => h) (Or.inl ⟨by kernel_rfl, ?_⟩) (by assumption) ?_; rotate_left; (focus (intro w hSw; (try dsimp only at hSw); go_simp; (try with_reducible rfl))); (try simp only [Act.put, List.getElem_toArray, List.getElem_cons_zero, List.setIfInBounds_toArray, List.set_cons_zero, List.set_cons_succ]))
      (refine wpAnyH_take (i := 1) (v := ?_) rfl (by kernel_rfl) (by kernel_rfl) (by kernel_rfl) (fun _ _ _ h => h) (Or.inl ⟨by kernel_rfl, ?_⟩) (by assumption) ?_; rotate_left; (focus (intro w hSw; (try dsimp only at hSw); go_simp; (try with_reducible rfl))); (try simp only [Act.put, List.getElem_toArray, List.getElem_cons_succ, List.getElem_cons_zero, List.setIfInBounds_toArray, List.set_cons_zero, List.set_cons_succ]))
      (refine wpAnyH_take (i := 2) (v := ?_) rfl (by kernel_rfl) (by kernel_rfl) (by kernel_rfl) (fun _ _ _ h => h) (Or.inl ⟨by kernel_rfl, ?_⟩) (by assumption) ?_; rotate_left; (focus (intro w hSw; (try dsimp only at hSw); go_simp; (try with_reducible rfl))); (try simp only [Act.put, List.getElem_toArray, List.getElem_cons_succ, List.getElem_cons_zero, List.setIfInBounds_toArray, List.set_cons_zero, List.set_cons_succ]))
      (refine wpAnyH_take (i := 3) (v := ?_) rfl (by kernel_rfl) (by kernel_rfl) (by kernel_rfl) (fun _ _ _ h => h) (Or.inl ⟨by kernel_rfl, ?_⟩) (by assumption) ?_; rotate_left; (focus (intro w hSw; (try dsimp only at hSw); go_simp; (try with_reducible rfl))); (try simp only [Act.put, List.getElem_toArray, List.getElem_cons_succ, List.getElem_cons_zero, List.setIfInBounds_toArray, List.set_cons_zero, List.set_cons_succ]))
      (refine wpAnyH_take (i := 4) (v := ?_) rfl (by kernel_rfl) (by kernel_rfl) (by kernel_rfl) (fun _ _ _ h => h) (Or.inl ⟨by kernel_rfl, ?_⟩) (by assumption) ?_; rotate_left; (focus (intro w hSw; (try dsimp only at hSw); go_simp; (try with_reducible rfl))); (try simp only [Act.put, List.getElem_toArray, List.getElem_cons_succ, List.getElem_cons_zero, List.setIfInBounds_toArray, List.set_cons_zero, List.set_cons_succ]))
      (refine wpAnyH_take (i := 5) (v := ?_) rfl (by kernel_rfl) (by kernel_rfl) (by kernel_rfl) (fun _ _ _ h => h) (Or.inl ⟨by kernel_rfl, ?_⟩) (by assumption) ?_; rotate_left; (focus (intro w hSw; (try dsimp only at hSw); go_simp; (try with_reducible rfl))); (try simp only [Act.put, List.getElem_toArray, List.getElem_cons_succ, List.getElem_cons_zero, List.setIfInBounds_toArray, List.set_cons_zero, List.set_cons_succ]))
      (refine wpAnyH_take (i := 6) (v := ?_) rfl (by kernel_rfl) (by kernel_rfl) (by kernel_rfl) (fun _ _ _ h => h) (Or.inl ⟨by kernel_rfl, ?_⟩) (by assumption) ?_; rotate_left; (focus (intro w hSw; (try dsimp only at hSw); go_simp; (try with_reducible rfl))); (try simp only [Act.put, List.getElem_toArray, List.getElem_cons_succ, List.getElem_cons_zero, List.setIfInBounds_toArray, List.set_cons_zero, List.set_cons_succ]))
      (refine wpAnyH_take (i := 9) (v := ?_) rfl (by kernel_rfl) (by kernel_rfl) (by kernel_rfl) (fun _ _ _ h => h) (Or.inl ⟨by kernel_rfl, ?_⟩) (by assumption) ?_; rotate_left; (focus (intro w hSw; (try dsimp only at hSw); go_simp; (try with_reducible rfl))); (try simp only [Act.put, List.getElem_toArray, List.getElem_cons_succ, List.getElem_cons_zero, List.setIfInBounds_toArray, List.set_cons_zero, List.set_cons_succ]))
      (refine wpAnyH_take (i := 10) (v := ?_) rfl (by kernel_rfl) (by kernel_rfl) (by kernel_rfl) (fun _ _ _ h => h) (Or.inl ⟨by kernel_rfl, ?_⟩) (by assumption) ?_; rotate_left; (focus (intro w hSw; (try dsimp only at hSw); go_simp; (try with_reducible rfl))); (try simp only [Act.put, List.getElem_toArray, List.getElem_cons_succ, List.getElem_cons_zero, List.setIfInBounds_toArray, List.set_cons_zero, List.set_cons_succ]))
      (refine wpAnyH_take (i := 11) (v := ?_) rfl (by kernel_rfl) (by kernel_rfl) (by kernel_rfl) (fun _ _ _ h => h) (Or.inl ⟨by kernel_rfl, ?_⟩) (by assumption) ?_; rotate_left; (focus (intro w hSw; (try dsimp only at hSw); go_simp; (try with_reducible rfl))); (try simp only [Act.put, List.getElem_toArray, List.getElem_cons_succ, List.getElem_cons_zero, List.setIfInBounds_toArray, List.set_cons_zero, List.set_cons_succ]))
      (refine wpAnyH_take (i := 12) (v := ?_) rfl (by kernel_rfl) (by kernel_rfl) (by kernel_rfl) (fun _ _ _ h => h) (Or.inl ⟨by kernel_rfl, ?_⟩) (by assumption) ?_; rotate_left; (focus (intro w hSw; (try dsimp only at hSw); go_simp; (try with_reducible rfl))); (try simp only [Act.put, List.getElem_toArray, List.getElem_cons_succ, List.getElem_cons_zero, List.setIfInBounds_toArray, List.set_cons_zero, List.set_cons_succ]))
      (refine wpAnyH_take (i := 13) (v := ?_) rfl (by kernel_rfl) (by kernel_rfl) (by kernel_rfl) (fun _ _ _ h => h) (Or.inl ⟨by kernel_rfl, ?_⟩) (by assumption) ?_; rotate_left; (focus (intro w hSw; (try dsimp only at hSw); go_simp; (try with_reducible rfl))); (try simp only [Act.put, List.getElem_toArray, List.getElem_cons_succ, List.getElem_cons_zero, List.setIfInBounds_toArray, List.set_cons_zero, List.set_cons_succ]))
      (refine wpAnyH_take (i := 14) (v := ?_) rfl (by kernel_rfl) (by kernel_rfl) (by kernel_rfl) (fun _ _ _ h => h) (Or.inl ⟨by kernel_rfl, ?_⟩) (by assumption) ?_; rotate_left; (focus (intro w hSw; (try dsimp only at hSw); go_simp; (try with_reducible rfl))); (try simp only [Act.put, List.getElem_toArray, List.getElem_cons_succ, List.getElem_cons_zero, List.setIfInBounds_toArray, List.set_cons_zero, List.set_cons_succ]))
      (refine wpAnyH_take (i := 15) (v := ?_) rfl (by kernel_rfl) (by kernel_rfl) (by kernel_rfl) (fun _ _ _ h => h) (Or.inl ⟨by kernel_rfl, ?_⟩) (by assumption) ?_; rotate_left; (focus (intro w hSw; (try dsimp only at hSw); go_simp; (try with_reducible rfl))); (try simp only [Act.put, List.getElem_toArray, List.getElem_cons_succ, List.getElem_cons_zero, List.setIfInBounds_toArray, List.set_cons_zero, List.set_cons_succ]))
      refine wpAnyH_ready (rs := [7, 16]) (by kernel_rfl) (by simp) ?_
      refine AllReadyH.cons rfl (fun K hK => ?_) (AllReadyH.cons rfl (fun K hK => ?_) AllReadyH.nil)
      · go_simp
        refine (texted_any x.name _ HTX.out).mono ?_
        rintro e wt ⟨vt, rfl, hot, kt'⟩
        obtain ⟨at', ct, hvt, -, -, htn, hrt⟩ := own_row hot
        subst hvt
        have KT : Below W1.heap.size W1 wt := HB'.trans ((below_undrew kt').mono hBs)
        refine hK.out _ _ (SS.out _ KT) (fun _ => ?_)
        clear hK K
        (try simp only [Act.put, List.getElem_toArray, List.getElem_cons_succ, List.getElem_cons_zero, List.setIfInBounds_toArray, List.set_cons_zero, List.set_cons_succ])
        refine wpAnyH_ready (rs := [8, 16]) (by kernel_rfl) (by simp) ?_
        refine AllReadyH.cons rfl (fun K hK => ?_) (AllReadyH.cons rfl (fun K hK => ?_) AllReadyH.nil)
        · have hO1 := copied_two HO.out (below_undrew kt')
          refine stepB_row elemByte (by kernel_rfl) _ _ rfl W1.heap.size _ m (byteCells (byP p k)) rfl hO1 at' (x.name.size + 1) ct (byteCells (textB x.name)) rfl (by rw [byteCells_len]; unfold textB; rw [List.length_cons, size_list]; omega) htn hrt (byteCells_one _) (by have := HTX.out; unfold maxLen; omega) (by have := HTX.out; omega) KT.size ?_
          intro va wa hoa hga _
          rw [← byteCells_append] at hoa
          have KA : Below W1.heap.size W1 wa := KT.grown hga KT.size (fun j hj => (hO1.lt j hj).1)
          refine hK.out _ _ (SS.out _ KA) (fun _ => ?_)
          clear hK K
          (try simp only [Act.put, List.getElem_toArray, List.getElem_cons_succ, List.getElem_cons_zero, List.setIfInBounds_toArray, List.set_cons_zero, List.set_cons_succ])
          obtain ⟨ba, ca, hva, -⟩ := own_row hoa
          subst hva
          refine wpAnyH_ready (rs := [16]) (by kernel_rfl) (by simp) ?_
          refine AllReadyH.cons rfl (fun K hK => ?_) AllReadyH.nil
          go_simp
          refine hK.out _ _ (SS.out _ (KA.alloc KA.size _)) (fun _ => ?_)
          clear hK K
          (try simp only [Act.put, List.getElem_toArray, List.getElem_cons_succ, List.getElem_cons_zero, List.setIfInBounds_toArray, List.set_cons_zero, List.set_cons_succ])
          obtain ⟨Wb, hWb⟩ : ∃ Wb, Wb = wa.alloc (.cells #[.int .u8 x.kind] 5) := ⟨_, rfl⟩
          rw [← hWb]
          obtain ⟨pb, hpb⟩ : ∃ pb, pb = wa.heap.size := ⟨_, rfl⟩
          rw [← hpb]
          have kb0 : Below wa.heap.size wa Wb := by rw [hWb]; exact (Below.refl _ _).alloc (Nat.le_refl _) _
          have KQ : Below W1.heap.size W1 Wb := KA.trans (kb0.mono KA.size)
          have HRQ : RowAt Wb (some ⟨pb, 0, none⟩) (byteCells ([oct8 x.kind])) := by rw [DSE.out, hWb, hpb]; exact row_new (cs := [.int .u8 x.kind])
          have HOQ := copied_two hoa kb0
          clear hWb hpb
          refine wpAnyH_ready (rs := [17]) (by kernel_rfl) (by simp) ?_
          refine AllReadyH.cons rfl (fun K hK => ?_) AllReadyH.nil
          refine stepB_row elemByte (by kernel_rfl) _ _ rfl W1.heap.size _ (m + (x.name.size + 1)) (byteCells (byP p k ++ textB x.name)) rfl HOQ (some ⟨pb, 0, none⟩) 1 1 (byteCells ([oct8 x.kind])) rfl rfl (fun h => by cases h) HRQ (byteCells_one _) (by have := HTX.out; unfold maxLen; omega) (by have := HTX.out; omega) KQ.size ?_
          intro vz wz hoz hgz _
          rw [← byteCells_append] at hoz
          have KZ : Below W1.heap.size W1 wz := KQ.grown hgz KQ.size (fun j hj => (HOQ.lt j hj).1)
          refine hK.out _ _ (SS.out _ KZ) (fun _ => ?_)
          clear hK K
          (try simp only [Act.put, List.getElem_toArray, List.getElem_cons_succ, List.getElem_cons_zero, List.setIfInBounds_toArray, List.set_cons_zero, List.set_cons_succ])
          (refine wpAnyH_take (i := 18) (v := ?_) rfl (by kernel_rfl) (by kernel_rfl) (by kernel_rfl) (fun _ _ _ h => h) (Or.inl ⟨by kernel_rfl, ?_⟩) (by assumption) ?_; rotate_left; (focus (intro w hSw; (try dsimp only at hSw); go_simp; (try with_reducible rfl))); (try simp only [Act.put, List.getElem_toArray, List.getElem_cons_succ, List.getElem_cons_zero, List.setIfInBounds_toArray, List.set_cons_zero, List.set_cons_succ]))
          refine wpAnyH_done (by kernel_rfl) ?_ _
          have HOZ := hidI hoz
          have HKZ := hidI KZ
          clear hoz hgz KZ KQ HOQ HRQ
          go_wp2_with fail
          go_roundw
          case rel => exact ⟨k + 1, _, HLT.out, by have := HLT.out; go_num, by rw [HNX.out, show postB x = textB x.name ++ [oct8 x.kind] from rfl, ← List.append_assoc]; exact HOZ.out, HKZ.out⟩
          case measure => have := HLT.out; simp [intOf]; omega
        · go_simp
          refine hK.out _ _ (SS.out _ (KT.alloc KT.size _)) (fun _ => ?_)
          clear hK K
          (try simp only [Act.put, List.getElem_toArray, List.getElem_cons_succ, List.getElem_cons_zero, List.setIfInBounds_toArray, List.set_cons_zero, List.set_cons_succ])
          obtain ⟨Wb, hWb⟩ : ∃ Wb, Wb = wt.alloc (.cells #[.int .u8 x.kind] 5) := ⟨_, rfl⟩
          rw [← hWb]
          obtain ⟨pb, hpb⟩ : ∃ pb, pb = wt.heap.size := ⟨_, rfl⟩
          rw [← hpb]
          have kb0 : Below wt.heap.size wt Wb := by rw [hWb]; exact (Below.refl _ _).alloc (Nat.le_refl _) _
          have KB : Below W1.heap.size W1 Wb := KT.trans (kb0.mono KT.size)
          have hRB : RowAt Wb (some ⟨pb, 0, none⟩) (byteCells ([oct8 x.kind])) := by rw [DSE.out, hWb, hpb]; exact row_new (cs := [.int .u8 x.kind])
          have hpl : wr.heap.size ≤ pb := by have := kt'.size; rw [hpb]; exact this
          have hpw : pb < Wb.heap.size := by rw [hWb, hpb]; simp
          clear hWb hpb
          refine wpAnyH_ready (rs := [8]) (by kernel_rfl) (by simp) ?_
          refine AllReadyH.cons rfl (fun K hK => ?_) AllReadyH.nil
          have hO1 := copied_two HO.out ((below_undrew kt').trans (kb0.mono (below_undrew kt').size))
          refine stepB_row elemByte (by kernel_rfl) _ _ rfl W1.heap.size _ m (byteCells (byP p k)) rfl hO1 at' (x.name.size + 1) ct (byteCells (textB x.name)) rfl (by rw [byteCells_len]; unfold textB; rw [List.length_cons, size_list]; omega) htn (hrt.keep kb0) (byteCells_one _) (by have := HTX.out; unfold maxLen; omega) (by have := HTX.out; omega) KB.size ?_
          intro va wa hoa hga _
          rw [← byteCells_append] at hoa
          have KA : Below W1.heap.size W1 wa := KB.grown hga KB.size (fun j hj => (hO1.lt j hj).1)
          refine hK.out _ _ (SS.out _ KA) (fun _ => ?_)
          clear hK K
          (try simp only [Act.put, List.getElem_toArray, List.getElem_cons_succ, List.getElem_cons_zero, List.setIfInBounds_toArray, List.set_cons_zero, List.set_cons_succ])
          obtain ⟨ba, ca, hva, -⟩ := own_row hoa
          subst hva
          have KQ := KA
          have HOQ := hoa
          have HRQ : RowAt wa (some ⟨pb, 0, none⟩) (byteCells ([oct8 x.kind])) := hRB.keepBut hga.size (fun g' o' e => by cases e; exact hga.block _ hpw (fun e => by have := HO.out.lt _ e.symm; omega))
          refine wpAnyH_ready (rs := [17]) (by kernel_rfl) (by simp) ?_
          refine AllReadyH.cons rfl (fun K hK => ?_) AllReadyH.nil
          refine stepB_row elemByte (by kernel_rfl) _ _ rfl W1.heap.size _ (m + (x.name.size + 1)) (byteCells (byP p k ++ textB x.name)) rfl HOQ (some ⟨pb, 0, none⟩) 1 1 (byteCells ([oct8 x.kind])) rfl rfl (fun h => by cases h) HRQ (byteCells_one _) (by have := HTX.out; unfold maxLen; omega) (by have := HTX.out; omega) KQ.size ?_
          intro vz wz hoz hgz _
          rw [← byteCells_append] at hoz
          have KZ : Below W1.heap.size W1 wz := KQ.grown hgz KQ.size (fun j hj => (HOQ.lt j hj).1)
          refine hK.out _ _ (SS.out _ KZ) (fun _ => ?_)
          clear hK K
          (try simp only [Act.put, List.getElem_toArray, List.getElem_cons_succ, List.getElem_cons_zero, List.setIfInBounds_toArray, List.set_cons_zero, List.set_cons_succ])
          (refine wpAnyH_take (i := 18) (v := ?_) rfl (by kernel_rfl) (by kernel_rfl) (by kernel_rfl) (fun _ _ _ h => h) (Or.inl ⟨by kernel_rfl, ?_⟩) (by assumption) ?_; rotate_left; (focus (intro w hSw; (try dsimp only at hSw); go_simp; (try with_reducible rfl))); (try simp only [Act.put, List.getElem_toArray, List.getElem_cons_succ, List.getElem_cons_zero, List.setIfInBounds_toArray, List.set_cons_zero, List.set_cons_succ]))
          refine wpAnyH_done (by kernel_rfl) ?_ _
          have HOZ := hidI hoz
          have HKZ := hidI KZ
          clear hoz hgz KZ KQ HOQ HRQ
          go_wp2_with fail
          go_roundw
          case rel => exact ⟨k + 1, _, HLT.out, by have := HLT.out; go_num, by rw [HNX.out, show postB x = textB x.name ++ [oct8 x.kind] from rfl, ← List.append_assoc]; exact HOZ.out, HKZ.out⟩
          case measure => have := HLT.out; simp [intOf]; omega
      · go_simp
        refine hK.out _ _ (SS.out _ (by repeat (first | exact Below.refl _ _ | assumption | refine Below.drew ?_ | refine Below.alloc ?_ (by first | (simp; done) | (simp; omega) | omega) _ | refine Below.setCell ?_ (by first | (simp; done) | (simp; omega) | omega) _))) (fun _ => ?_)
        clear hK K
        (try simp only [Act.put, List.getElem_toArray, List.getElem_cons_succ, List.getElem_cons_zero, List.setIfInBounds_toArray, List.set_cons_zero, List.set_cons_succ])
        obtain ⟨Wb, hWb⟩ : ∃ Wb, Wb = (wr.alloc (.cells #[.int .u8 x.kind] 5)).drew := ⟨_, rfl⟩
        rw [← hWb]
        obtain ⟨pb, hpb⟩ : ∃ pb, pb = wr.heap.size := ⟨_, rfl⟩
        rw [← hpb]
        have kb0 : Below wr.heap.size wr Wb := by rw [hWb]; exact ((Below.refl _ _).alloc (Nat.le_refl _) _).drew
        have KB : Below W1.heap.size W1 Wb := HB'.trans (kb0.mono hBs)
        have hRB : RowAt Wb (some ⟨pb, 0, none⟩) (byteCells ([oct8 x.kind])) := by rw [DSE.out, hWb, hpb]; exact (row_new (cs := [.int .u8 x.kind])).keep (Below.refl _ _).drew
        have hpl : wr.heap.size ≤ pb := by omega
        clear hWb hpb
        refine wpAnyH_ready (rs := [7]) (by kernel_rfl) (by simp) ?_
        refine AllReadyH.cons rfl (fun K hK => ?_) AllReadyH.nil
        go_simp
        refine (texted_any x.name _ HTX.out).mono ?_
        rintro e wt ⟨vt, rfl, hot, kt'⟩
        obtain ⟨at', ct, hvt, -, -, htn, hrt⟩ := own_row hot
        subst hvt
        have KT : Below W1.heap.size W1 wt := KB.trans (kt'.mono KB.size)
        refine hK.out _ _ (SS.out _ KT) (fun _ => ?_)
        clear hK K
        (try simp only [Act.put, List.getElem_toArray, List.getElem_cons_succ, List.getElem_cons_zero, List.setIfInBounds_toArray, List.set_cons_zero, List.set_cons_succ])
        refine wpAnyH_ready (rs := [8]) (by kernel_rfl) (by simp) ?_
        refine AllReadyH.cons rfl (fun K hK => ?_) AllReadyH.nil
        have hO1 := copied_two HO.out (kb0.trans (kt'.mono kb0.size))
        refine stepB_row elemByte (by kernel_rfl) _ _ rfl W1.heap.size _ m (byteCells (byP p k)) rfl hO1 at' (x.name.size + 1) ct (byteCells (textB x.name)) rfl (by rw [byteCells_len]; unfold textB; rw [List.length_cons, size_list]; omega) htn hrt (byteCells_one _) (by have := HTX.out; unfold maxLen; omega) (by have := HTX.out; omega) KT.size ?_
        intro va wa hoa hga _
        rw [← byteCells_append] at hoa
        have KA : Below W1.heap.size W1 wa := KT.grown hga KT.size (fun j hj => (hO1.lt j hj).1)
        refine hK.out _ _ (SS.out _ KA) (fun _ => ?_)
        clear hK K
        (try simp only [Act.put, List.getElem_toArray, List.getElem_cons_succ, List.getElem_cons_zero, List.setIfInBounds_toArray, List.set_cons_zero, List.set_cons_succ])
        obtain ⟨ba, ca, hva, -⟩ := own_row hoa
        subst hva
        have KQ := KA
        have HOQ := hoa
        have HRQ : RowAt wa (some ⟨pb, 0, none⟩) (byteCells ([oct8 x.kind])) := (hRB.keep kt').keepBut hga.size (fun g' o' e => by cases e; exact hga.block _ (by have h1 := kb0.size; have h2 := kt'.size; rcases hRB with e | ⟨gg, oo, e, hl, _⟩; (rw [DSE.out] at e; cases e); (cases e; omega)) (fun e => by have := HO.out.lt _ e.symm; omega))
        refine wpAnyH_ready (rs := [17]) (by kernel_rfl) (by simp) ?_
        refine AllReadyH.cons rfl (fun K hK => ?_) AllReadyH.nil
        refine stepB_row elemByte (by kernel_rfl) _ _ rfl W1.heap.size _ (m + (x.name.size + 1)) (byteCells (byP p k ++ textB x.name)) rfl HOQ (some ⟨pb, 0, none⟩) 1 1 (byteCells ([oct8 x.kind])) rfl rfl (fun h => by cases h) HRQ (byteCells_one _) (by have := HTX.out; unfold maxLen; omega) (by have := HTX.out; omega) KQ.size ?_
        intro vz wz hoz hgz _
        rw [← byteCells_append] at hoz
        have KZ : Below W1.heap.size W1 wz := KQ.grown hgz KQ.size (fun j hj => (HOQ.lt j hj).1)
        refine hK.out _ _ (SS.out _ KZ) (fun _ => ?_)
        clear hK K
        (try simp only [Act.put, List.getElem_toArray, List.getElem_cons_succ, List.getElem_cons_zero, List.setIfInBounds_toArray, List.set_cons_zero, List.set_cons_succ])
        (refine wpAnyH_take (i := 18) (v := ?_) rfl (by kernel_rfl) (by kernel_rfl) (by kernel_rfl) (fun _ _ _ h => h) (Or.inl ⟨by kernel_rfl, ?_⟩) (by assumption) ?_; rotate_left; (focus (intro w hSw; (try dsimp only at hSw); go_simp; (try with_reducible rfl))); (try simp only [Act.put, List.getElem_toArray, List.getElem_cons_succ, List.getElem_cons_zero, List.setIfInBounds_toArray, List.set_cons_zero, List.set_cons_succ]))
        refine wpAnyH_done (by kernel_rfl) ?_ _
        have HOZ := hidI hoz
        have HKZ := hidI KZ
        clear hoz hgz KZ KQ HOQ HRQ
        go_wp2_with fail
        go_roundw
        case rel => exact ⟨k + 1, _, HLT.out, by have := HLT.out; go_num, by rw [HNX.out, show postB x = textB x.name ++ [oct8 x.kind] from rfl, ← List.append_assoc]; exact HOZ.out, HKZ.out⟩
        case measure => have := HLT.out; simp [intOf]; omega
    · have hke : k = n1 := by omega
      obtain rfl := hke.symm
      clear hlt hk
      obtain ⟨W4, hW4⟩ : ∃ W4, W4 = wr.alloc (.cells #[.int .u8 n2] 5) := ⟨_, rfl⟩
      have k4 : Below wr.heap.size wr W4 := by rw [hW4]; exact (Below.refl _ _).alloc (Nat.le_refl _) _
      have K4 := hidI (hB.trans (k4.mono hBs))
      have HO4 := hidI (copied_two HO.out k4)
      have HRW : Hid (RowAt W4 (some ⟨wr.heap.size, 0, none⟩) (byteCells [oct8 n2])) := by show RowAt W4 _ _; rw [byteCells_of (by omega) (by omega), hW4]; exact row_new (cs := [.int .u8 n2])
      have HW4 := hidI hW4
      have hs4 := K4.out.size
      clear hW4 k4
      go_upto_region 7 with (at_builtin; rw [← HW4.out]; refine append_row elemByte (by kernel_rfl) _ _ rfl W1.heap.size _ m (byteCells (byP p n1)) rfl HO4.out (some ⟨wr.heap.size, 0, none⟩) 1 1 (byteCells [oct8 n2]) rfl rfl (fun h => by cases h) HRW.out (byteCells_one _) (by unfold maxLen; omega) (by omega) hs4 ?_; intro v7 w7 hown7 hgrow7 hblk7; rw [← byteCells_append] at hown7; have k7 := K4.out.grown hgrow7 hs4 (fun j hj => (HO4.out.lt j hj).1); have K7 := hidI k7; have HO7 := hidI hown7; clear k7 hown7 hgrow7 hblk7)
      clear x0 x1 x2
      go_wp2_with fail
      go_loopw [3, 5] (fun l i wr => ∃ (k m : Nat), k ≤ n2 ∧ i = .int .i64 k ∧ wr.ownsRow W1.heap.size 5 1 l m (byteCells (byQ p k)) ∧ Below W1.heap.size W1 wr) (fun _ i _ => n2 - (intOf i).toNat)
      case atStart => exact ⟨0, _, Nat.zero_le _, rfl, by have e : byQ p 0 = byP p n1 ++ [oct8 n2] := by { unfold byQ; rw [HL.out.1, HL.out.2.1]; rfl }; rw [e]; exact HO7.out, K7.out⟩
      case round =>
        obtain ⟨k, m, hk, rfl, hown, hB⟩ := hrel
        have hmb : m ≤ 4096 := by have h1 := hown.1; rw [byteCells_len] at h1; have h2 := by_short HC.out k; omega
        obtain ⟨bb, cb, hbv, -⟩ := own_row hown
        subst hbv
        have HO := hidI hown
        have HB := hidI hB
        have hBs := hB.size
        clear hown
        obtain ⟨x0, x1, x2⟩ := HBX.out wr hB
        by_cases hlt : k < n2
        · have HLT := hidI hlt
          have hkl : k < p.queues.length := by rw [HL.out.2.1]; exact hlt
          have HKL := hidI hkl
          obtain ⟨g, o, ha, hg, e0, e1, e2⟩ := HP.out.p2.get hkl
          have HNX := hidI (next_byQ hkl)
          have HSX := hidI (HSM.out.queues.2 _ (List.getElem_mem hkl))
          have HIX : Hid (p.queues[k]'hkl ∈ p.queues) := List.getElem_mem hkl
          obtain ⟨x, hx⟩ : ∃ x, x = p.queues[k]'hkl := ⟨_, rfl⟩
          rw [← hx] at e0 e1 e2 HNX HSX HIX
          subst ha
          have j1 : (0 : Int) ≤ (k : Int) := by omega
          have j2 : (k : Int) < n2 := by omega
          clear hx
          have HTX : Hid (x.name.size ≤ 255) := by have := HSX.out.1; show x.name.size ≤ 255; omega
          have HKD : Hid (0 ≤ x.limit ∧ x.limit < 256) := ⟨HSX.out.2.1, HSX.out.2.2.1⟩
          have HKE : Hid (0 ≤ x.dead + 1 ∧ x.dead + 1 < 256) := by have h1 := HSX.out.2.2.2.1; have h2 := HSX.out.2.2.2.2; show 0 ≤ x.dead + 1 ∧ x.dead + 1 < 256; omega
          have jk : IntKind.u8.wrap x.limit = x.limit := u8_wrap HKD.out.1 HKD.out.2
          have jw : IntKind.i64.wrap (x.dead + 1) = x.dead + 1 := by have h1 := HKE.out; rw [IntKind.wrap_i64]; omega
          have jd : IntKind.u8.wrap (x.dead + 1) = x.dead + 1 := u8_wrap HKE.out.1 HKE.out.2
          have HB' := HB.out
          have SS : Hid (∀ W', Below W1.heap.size W1 W' → ((W'.cell? ⟨w.heap.size, 0, none⟩ = some (.slice a1 n1 c1) ∧ W'.cell? ⟨w.heap.size, 1, none⟩ = some (.slice (some ⟨g, o, none⟩) n2 c2) ∧ W'.cell? ⟨w.heap.size, 2, none⟩ = some (.slice a3 n3 c3)) ∧ W'.cell? ⟨g, o + k * 3, none⟩ = some (.string x.name) ∧ W'.cell? ⟨g, o + k * 3 + 1, none⟩ = some (.int .i64 x.limit) ∧ W'.cell? ⟨g, o + k * 3 + 2, none⟩ = some (.int .i64 x.dead))) := fun W' h => ⟨HBX.out W' h, (h.cell (p := ⟨g, _, none⟩) hg).trans e0, (h.cell (p := ⟨g, _, none⟩) hg).trans e1, (h.cell (p := ⟨g, _, none⟩) hg).trans e2⟩
          have DSE : Hid (byteCells ([oct8 x.limit, oct8 (x.dead + 1)]) = [.int .u8 x.limit, .int .u8 (x.dead + 1)]) := by show byteCells (oct8 x.limit :: [oct8 (x.dead + 1)]) = _; rw [byteCells_cons HKD.out.1 HKD.out.2, byteCells_of HKE.out.1 HKE.out.2]
          go_wp2_with fail
          clear x0 x1 x2
          refine wp_region_held_drew (S := fun W' => ((W'.cell? ⟨w.heap.size, 0, none⟩ = some (.slice a1 n1 c1) ∧ W'.cell? ⟨w.heap.size, 1, none⟩ = some (.slice (some ⟨g, o, none⟩) n2 c2) ∧ W'.cell? ⟨w.heap.size, 2, none⟩ = some (.slice a3 n3 c3)) ∧ W'.cell? ⟨g, o + k * 3, none⟩ = some (.string x.name) ∧ W'.cell? ⟨g, o + k * 3 + 1, none⟩ = some (.int .i64 x.limit) ∧ W'.cell? ⟨g, o + k * 3 + 2, none⟩ = some (.int .i64 x.dead))) (by kernel_rfl) (SS.out _ HB'.drew) (fun hHeld => ?_)
          (refine wpAnyH_take (i := 0) (v := ?_) rfl (by kernel_rfl) (by kernel_rfl) (by kernel_rfl) (fun _ _ _ h => h) (Or.inl ⟨by kernel_rfl, ?_⟩) (by assumption) ?_; rotate_left; (focus (intro w hSw; (try dsimp only at hSw); go_simp; (try with_reducible rfl))); (try simp only [Act.put, List.getElem_toArray, List.getElem_cons_zero, List.setIfInBounds_toArray, List.set_cons_zero, List.set_cons_succ]))
          (refine wpAnyH_take (i := 1) (v := ?_) rfl (by kernel_rfl) (by kernel_rfl) (by kernel_rfl) (fun _ _ _ h => h) (Or.inl ⟨by kernel_rfl, ?_⟩) (by assumption) ?_; rotate_left; (focus (intro w hSw; (try dsimp only at hSw); go_simp; (try with_reducible rfl))); (try simp only [Act.put, List.getElem_toArray, List.getElem_cons_succ, List.getElem_cons_zero, List.setIfInBounds_toArray, List.set_cons_zero, List.set_cons_succ]))
          (refine wpAnyH_take (i := 2) (v := ?_) rfl (by kernel_rfl) (by kernel_rfl) (by kernel_rfl) (fun _ _ _ h => h) (Or.inl ⟨by kernel_rfl, ?_⟩) (by assumption) ?_; rotate_left; (focus (intro w hSw; (try dsimp only at hSw); go_simp; (try with_reducible rfl))); (try simp only [Act.put, List.getElem_toArray, List.getElem_cons_succ, List.getElem_cons_zero, List.setIfInBounds_toArray, List.set_cons_zero, List.set_cons_succ]))
          (refine wpAnyH_take (i := 3) (v := ?_) rfl (by kernel_rfl) (by kernel_rfl) (by kernel_rfl) (fun _ _ _ h => h) (Or.inl ⟨by kernel_rfl, ?_⟩) (by assumption) ?_; rotate_left; (focus (intro w hSw; (try dsimp only at hSw); go_simp; (try with_reducible rfl))); (try simp only [Act.put, List.getElem_toArray, List.getElem_cons_succ, List.getElem_cons_zero, List.setIfInBounds_toArray, List.set_cons_zero, List.set_cons_succ]))
          (refine wpAnyH_take (i := 4) (v := ?_) rfl (by kernel_rfl) (by kernel_rfl) (by kernel_rfl) (fun _ _ _ h => h) (Or.inl ⟨by kernel_rfl, ?_⟩) (by assumption) ?_; rotate_left; (focus (intro w hSw; (try dsimp only at hSw); go_simp; (try with_reducible rfl))); (try simp only [Act.put, List.getElem_toArray, List.getElem_cons_succ, List.getElem_cons_zero, List.setIfInBounds_toArray, List.set_cons_zero, List.set_cons_succ]))
          (refine wpAnyH_take (i := 5) (v := ?_) rfl (by kernel_rfl) (by kernel_rfl) (by kernel_rfl) (fun _ _ _ h => h) (Or.inl ⟨by kernel_rfl, ?_⟩) (by assumption) ?_; rotate_left; (focus (intro w hSw; (try dsimp only at hSw); go_simp; (try with_reducible rfl))); (try simp only [Act.put, List.getElem_toArray, List.getElem_cons_succ, List.getElem_cons_zero, List.setIfInBounds_toArray, List.set_cons_zero, List.set_cons_succ]))
          (refine wpAnyH_take (i := 6) (v := ?_) rfl (by kernel_rfl) (by kernel_rfl) (by kernel_rfl) (fun _ _ _ h => h) (Or.inl ⟨by kernel_rfl, ?_⟩) (by assumption) ?_; rotate_left; (focus (intro w hSw; (try dsimp only at hSw); go_simp; (try with_reducible rfl))); (try simp only [Act.put, List.getElem_toArray, List.getElem_cons_succ, List.getElem_cons_zero, List.setIfInBounds_toArray, List.set_cons_zero, List.set_cons_succ]))
          (refine wpAnyH_take (i := 9) (v := ?_) rfl (by kernel_rfl) (by kernel_rfl) (by kernel_rfl) (fun _ _ _ h => h) (Or.inl ⟨by kernel_rfl, ?_⟩) (by assumption) ?_; rotate_left; (focus (intro w hSw; (try dsimp only at hSw); go_simp; (try with_reducible rfl))); (try simp only [Act.put, List.getElem_toArray, List.getElem_cons_succ, List.getElem_cons_zero, List.setIfInBounds_toArray, List.set_cons_zero, List.set_cons_succ]))
          (refine wpAnyH_take (i := 10) (v := ?_) rfl (by kernel_rfl) (by kernel_rfl) (by kernel_rfl) (fun _ _ _ h => h) (Or.inl ⟨by kernel_rfl, ?_⟩) (by assumption) ?_; rotate_left; (focus (intro w hSw; (try dsimp only at hSw); go_simp; (try with_reducible rfl))); (try simp only [Act.put, List.getElem_toArray, List.getElem_cons_succ, List.getElem_cons_zero, List.setIfInBounds_toArray, List.set_cons_zero, List.set_cons_succ]))
          (refine wpAnyH_take (i := 11) (v := ?_) rfl (by kernel_rfl) (by kernel_rfl) (by kernel_rfl) (fun _ _ _ h => h) (Or.inl ⟨by kernel_rfl, ?_⟩) (by assumption) ?_; rotate_left; (focus (intro w hSw; (try dsimp only at hSw); go_simp; (try with_reducible rfl))); (try simp only [Act.put, List.getElem_toArray, List.getElem_cons_succ, List.getElem_cons_zero, List.setIfInBounds_toArray, List.set_cons_zero, List.set_cons_succ]))
          (refine wpAnyH_take (i := 12) (v := ?_) rfl (by kernel_rfl) (by kernel_rfl) (by kernel_rfl) (fun _ _ _ h => h) (Or.inl ⟨by kernel_rfl, ?_⟩) (by assumption) ?_; rotate_left; (focus (intro w hSw; (try dsimp only at hSw); go_simp; (try with_reducible rfl))); (try simp only [Act.put, List.getElem_toArray, List.getElem_cons_succ, List.getElem_cons_zero, List.setIfInBounds_toArray, List.set_cons_zero, List.set_cons_succ]))
          (refine wpAnyH_take (i := 13) (v := ?_) rfl (by kernel_rfl) (by kernel_rfl) (by kernel_rfl) (fun _ _ _ h => h) (Or.inl ⟨by kernel_rfl, ?_⟩) (by assumption) ?_; rotate_left; (focus (intro w hSw; (try dsimp only at hSw); go_simp; (try with_reducible rfl))); (try simp only [Act.put, List.getElem_toArray, List.getElem_cons_succ, List.getElem_cons_zero, List.setIfInBounds_toArray, List.set_cons_zero, List.set_cons_succ]))
          (refine wpAnyH_take (i := 14) (v := ?_) rfl (by kernel_rfl) (by kernel_rfl) (by kernel_rfl) (fun _ _ _ h => h) (Or.inl ⟨by kernel_rfl, ?_⟩) (by assumption) ?_; rotate_left; (focus (intro w hSw; (try dsimp only at hSw); go_simp; (try with_reducible rfl))); (try simp only [Act.put, List.getElem_toArray, List.getElem_cons_succ, List.getElem_cons_zero, List.setIfInBounds_toArray, List.set_cons_zero, List.set_cons_succ]))
          (refine wpAnyH_take (i := 15) (v := ?_) rfl (by kernel_rfl) (by kernel_rfl) (by kernel_rfl) (fun _ _ _ h => h) (Or.inl ⟨by kernel_rfl, ?_⟩) (by assumption) ?_; rotate_left; (focus (intro w hSw; (try dsimp only at hSw); go_simp; (try with_reducible rfl))); (try simp only [Act.put, List.getElem_toArray, List.getElem_cons_succ, List.getElem_cons_zero, List.setIfInBounds_toArray, List.set_cons_zero, List.set_cons_succ]))
          (refine wpAnyH_take (i := 16) (v := ?_) rfl (by kernel_rfl) (by kernel_rfl) (by kernel_rfl) (fun _ _ _ h => h) (Or.inl ⟨by kernel_rfl, ?_⟩) (by assumption) ?_; rotate_left; (focus (intro w hSw; (try dsimp only at hSw); go_simp; (try with_reducible rfl))); (try simp only [Act.put, List.getElem_toArray, List.getElem_cons_succ, List.getElem_cons_zero, List.setIfInBounds_toArray, List.set_cons_zero, List.set_cons_succ]))
          (refine wpAnyH_take (i := 17) (v := ?_) rfl (by kernel_rfl) (by kernel_rfl) (by kernel_rfl) (fun _ _ _ h => h) (Or.inl ⟨by kernel_rfl, ?_⟩) (by assumption) ?_; rotate_left; (focus (intro w hSw; (try dsimp only at hSw); go_simp; (try with_reducible rfl))); (try simp only [Act.put, List.getElem_toArray, List.getElem_cons_succ, List.getElem_cons_zero, List.setIfInBounds_toArray, List.set_cons_zero, List.set_cons_succ]))
          (refine wpAnyH_take (i := 18) (v := ?_) rfl (by kernel_rfl) (by kernel_rfl) (by kernel_rfl) (fun _ _ _ h => h) (Or.inl ⟨by kernel_rfl, ?_⟩) (by assumption) ?_; rotate_left; (focus (intro w hSw; (try dsimp only at hSw); go_simp; (try with_reducible rfl))); (try simp only [Act.put, List.getElem_toArray, List.getElem_cons_succ, List.getElem_cons_zero, List.setIfInBounds_toArray, List.set_cons_zero, List.set_cons_succ]))
          (refine wpAnyH_take (i := 19) (v := ?_) rfl (by kernel_rfl) (by kernel_rfl) (by kernel_rfl) (fun _ _ _ h => h) (Or.inl ⟨by kernel_rfl, ?_⟩) (by assumption) ?_; rotate_left; (focus (intro w hSw; (try dsimp only at hSw); go_simp; (try with_reducible rfl))); (try simp only [Act.put, List.getElem_toArray, List.getElem_cons_succ, List.getElem_cons_zero, List.setIfInBounds_toArray, List.set_cons_zero, List.set_cons_succ]))
          (refine wpAnyH_take (i := 20) (v := ?_) rfl (by kernel_rfl) (by kernel_rfl) (by kernel_rfl) (fun _ _ _ h => h) (Or.inl ⟨by kernel_rfl, ?_⟩) (by assumption) ?_; rotate_left; (focus (intro w hSw; (try dsimp only at hSw); go_simp; (try with_reducible rfl))); (try simp only [Act.put, List.getElem_toArray, List.getElem_cons_succ, List.getElem_cons_zero, List.setIfInBounds_toArray, List.set_cons_zero, List.set_cons_succ]))
          (refine wpAnyH_take (i := 21) (v := ?_) rfl (by kernel_rfl) (by kernel_rfl) (by kernel_rfl) (fun _ _ _ h => h) (Or.inl ⟨by kernel_rfl, ?_⟩) (by assumption) ?_; rotate_left; (focus (intro w hSw; (try dsimp only at hSw); go_simp; (try with_reducible rfl))); (try simp only [Act.put, List.getElem_toArray, List.getElem_cons_succ, List.getElem_cons_zero, List.setIfInBounds_toArray, List.set_cons_zero, List.set_cons_succ]))
          (refine wpAnyH_take (i := 22) (v := ?_) rfl (by kernel_rfl) (by kernel_rfl) (by kernel_rfl) (fun _ _ _ h => h) (Or.inl ⟨by kernel_rfl, ?_⟩) (by assumption) ?_; rotate_left; (focus (intro w hSw; (try dsimp only at hSw); go_simp; (try with_reducible rfl))); (try simp only [Act.put, List.getElem_toArray, List.getElem_cons_succ, List.getElem_cons_zero, List.setIfInBounds_toArray, List.set_cons_zero, List.set_cons_succ]))
          (refine wpAnyH_take (i := 23) (v := ?_) rfl (by kernel_rfl) (by kernel_rfl) (by kernel_rfl) (fun _ _ _ h => h) (Or.inl ⟨by kernel_rfl, ?_⟩) (by assumption) ?_; rotate_left; (focus (intro w hSw; (try dsimp only at hSw); go_simp; (try with_reducible rfl))); (try simp only [Act.put, List.getElem_toArray, List.getElem_cons_succ, List.getElem_cons_zero, List.setIfInBounds_toArray, List.set_cons_zero, List.set_cons_succ]))
          refine wpAnyH_ready (rs := [7, 24]) (by kernel_rfl) (by simp) ?_
          refine AllReadyH.cons rfl (fun K hK => ?_) (AllReadyH.cons rfl (fun K hK => ?_) AllReadyH.nil)
          · go_simp
            refine (texted_any x.name _ HTX.out).mono ?_
            rintro e wt ⟨vt, rfl, hot, kt'⟩
            obtain ⟨at', ct, hvt, -, -, htn, hrt⟩ := own_row hot
            subst hvt
            have KT : Below W1.heap.size W1 wt := HB'.trans ((below_undrew kt').mono hBs)
            refine hK.out _ _ (SS.out _ KT) (fun _ => ?_)
            clear hK K
            (try simp only [Act.put, List.getElem_toArray, List.getElem_cons_succ, List.getElem_cons_zero, List.setIfInBounds_toArray, List.set_cons_zero, List.set_cons_succ])
            refine wpAnyH_ready (rs := [8, 24]) (by kernel_rfl) (by simp) ?_
            refine AllReadyH.cons rfl (fun K hK => ?_) (AllReadyH.cons rfl (fun K hK => ?_) AllReadyH.nil)
            · have hO1 := copied_two HO.out (below_undrew kt')
              refine stepB_row elemByte (by kernel_rfl) _ _ rfl W1.heap.size _ m (byteCells (byQ p k)) rfl hO1 at' (x.name.size + 1) ct (byteCells (textB x.name)) rfl (by rw [byteCells_len]; unfold textB; rw [List.length_cons, size_list]; omega) htn hrt (byteCells_one _) (by have := HTX.out; unfold maxLen; omega) (by have := HTX.out; omega) KT.size ?_
              intro va wa hoa hga _
              rw [← byteCells_append] at hoa
              have KA : Below W1.heap.size W1 wa := KT.grown hga KT.size (fun j hj => (hO1.lt j hj).1)
              refine hK.out _ _ (SS.out _ KA) (fun _ => ?_)
              clear hK K
              (try simp only [Act.put, List.getElem_toArray, List.getElem_cons_succ, List.getElem_cons_zero, List.setIfInBounds_toArray, List.set_cons_zero, List.set_cons_succ])
              obtain ⟨ba, ca, hva, -⟩ := own_row hoa
              subst hva
              refine wpAnyH_ready (rs := [24]) (by kernel_rfl) (by simp) ?_
              refine AllReadyH.cons rfl (fun K hK => ?_) AllReadyH.nil
              go_simp
              refine hK.out _ _ (SS.out _ (KA.alloc KA.size _)) (fun _ => ?_)
              clear hK K
              (try simp only [Act.put, List.getElem_toArray, List.getElem_cons_succ, List.getElem_cons_zero, List.setIfInBounds_toArray, List.set_cons_zero, List.set_cons_succ])
              obtain ⟨Wb, hWb⟩ : ∃ Wb, Wb = wa.alloc (.cells #[.int .u8 x.limit, .int .u8 (x.dead + 1)] 5) := ⟨_, rfl⟩
              rw [← hWb]
              obtain ⟨pb, hpb⟩ : ∃ pb, pb = wa.heap.size := ⟨_, rfl⟩
              rw [← hpb]
              have kb0 : Below wa.heap.size wa Wb := by rw [hWb]; exact (Below.refl _ _).alloc (Nat.le_refl _) _
              have KQ : Below W1.heap.size W1 Wb := KA.trans (kb0.mono KA.size)
              have HRQ : RowAt Wb (some ⟨pb, 0, none⟩) (byteCells ([oct8 x.limit, oct8 (x.dead + 1)])) := by rw [DSE.out, hWb, hpb]; exact row_new (cs := [.int .u8 x.limit, .int .u8 (x.dead + 1)])
              have HOQ := copied_two hoa kb0
              clear hWb hpb
              refine wpAnyH_ready (rs := [25]) (by kernel_rfl) (by simp) ?_
              refine AllReadyH.cons rfl (fun K hK => ?_) AllReadyH.nil
              refine stepB_row elemByte (by kernel_rfl) _ _ rfl W1.heap.size _ (m + (x.name.size + 1)) (byteCells (byQ p k ++ textB x.name)) rfl HOQ (some ⟨pb, 0, none⟩) 2 2 (byteCells ([oct8 x.limit, oct8 (x.dead + 1)])) rfl rfl (fun h => by cases h) HRQ (byteCells_one _) (by have := HTX.out; unfold maxLen; omega) (by have := HTX.out; omega) KQ.size ?_
              intro vz wz hoz hgz _
              rw [← byteCells_append] at hoz
              have KZ : Below W1.heap.size W1 wz := KQ.grown hgz KQ.size (fun j hj => (HOQ.lt j hj).1)
              refine hK.out _ _ (SS.out _ KZ) (fun _ => ?_)
              clear hK K
              (try simp only [Act.put, List.getElem_toArray, List.getElem_cons_succ, List.getElem_cons_zero, List.setIfInBounds_toArray, List.set_cons_zero, List.set_cons_succ])
              (refine wpAnyH_take (i := 26) (v := ?_) rfl (by kernel_rfl) (by kernel_rfl) (by kernel_rfl) (fun _ _ _ h => h) (Or.inl ⟨by kernel_rfl, ?_⟩) (by assumption) ?_; rotate_left; (focus (intro w hSw; (try dsimp only at hSw); go_simp; (try with_reducible rfl))); (try simp only [Act.put, List.getElem_toArray, List.getElem_cons_succ, List.getElem_cons_zero, List.setIfInBounds_toArray, List.set_cons_zero, List.set_cons_succ]))
              refine wpAnyH_done (by kernel_rfl) ?_ _
              have HOZ := hidI hoz
              have HKZ := hidI KZ
              clear hoz hgz KZ KQ HOQ HRQ
              go_wp2_with fail
              go_roundw
              case rel => exact ⟨k + 1, _, HLT.out, by have := HLT.out; go_num, by rw [HNX.out, show queueB x = textB x.name ++ [oct8 x.limit, oct8 (x.dead + 1)] from rfl, ← List.append_assoc]; exact HOZ.out, HKZ.out⟩
              case measure => have := HLT.out; simp [intOf]; omega
            · go_simp
              refine hK.out _ _ (SS.out _ (KT.alloc KT.size _)) (fun _ => ?_)
              clear hK K
              (try simp only [Act.put, List.getElem_toArray, List.getElem_cons_succ, List.getElem_cons_zero, List.setIfInBounds_toArray, List.set_cons_zero, List.set_cons_succ])
              obtain ⟨Wb, hWb⟩ : ∃ Wb, Wb = wt.alloc (.cells #[.int .u8 x.limit, .int .u8 (x.dead + 1)] 5) := ⟨_, rfl⟩
              rw [← hWb]
              obtain ⟨pb, hpb⟩ : ∃ pb, pb = wt.heap.size := ⟨_, rfl⟩
              rw [← hpb]
              have kb0 : Below wt.heap.size wt Wb := by rw [hWb]; exact (Below.refl _ _).alloc (Nat.le_refl _) _
              have KB : Below W1.heap.size W1 Wb := KT.trans (kb0.mono KT.size)
              have hRB : RowAt Wb (some ⟨pb, 0, none⟩) (byteCells ([oct8 x.limit, oct8 (x.dead + 1)])) := by rw [DSE.out, hWb, hpb]; exact row_new (cs := [.int .u8 x.limit, .int .u8 (x.dead + 1)])
              have hpl : wr.heap.size ≤ pb := by have := kt'.size; rw [hpb]; exact this
              have hpw : pb < Wb.heap.size := by rw [hWb, hpb]; simp
              clear hWb hpb
              refine wpAnyH_ready (rs := [8]) (by kernel_rfl) (by simp) ?_
              refine AllReadyH.cons rfl (fun K hK => ?_) AllReadyH.nil
              have hO1 := copied_two HO.out ((below_undrew kt').trans (kb0.mono (below_undrew kt').size))
              refine stepB_row elemByte (by kernel_rfl) _ _ rfl W1.heap.size _ m (byteCells (byQ p k)) rfl hO1 at' (x.name.size + 1) ct (byteCells (textB x.name)) rfl (by rw [byteCells_len]; unfold textB; rw [List.length_cons, size_list]; omega) htn (hrt.keep kb0) (byteCells_one _) (by have := HTX.out; unfold maxLen; omega) (by have := HTX.out; omega) KB.size ?_
              intro va wa hoa hga _
              rw [← byteCells_append] at hoa
              have KA : Below W1.heap.size W1 wa := KB.grown hga KB.size (fun j hj => (hO1.lt j hj).1)
              refine hK.out _ _ (SS.out _ KA) (fun _ => ?_)
              clear hK K
              (try simp only [Act.put, List.getElem_toArray, List.getElem_cons_succ, List.getElem_cons_zero, List.setIfInBounds_toArray, List.set_cons_zero, List.set_cons_succ])
              obtain ⟨ba, ca, hva, -⟩ := own_row hoa
              subst hva
              have KQ := KA
              have HOQ := hoa
              have HRQ : RowAt wa (some ⟨pb, 0, none⟩) (byteCells ([oct8 x.limit, oct8 (x.dead + 1)])) := hRB.keepBut hga.size (fun g' o' e => by cases e; exact hga.block _ hpw (fun e => by have := HO.out.lt _ e.symm; omega))
              refine wpAnyH_ready (rs := [25]) (by kernel_rfl) (by simp) ?_
              refine AllReadyH.cons rfl (fun K hK => ?_) AllReadyH.nil
              refine stepB_row elemByte (by kernel_rfl) _ _ rfl W1.heap.size _ (m + (x.name.size + 1)) (byteCells (byQ p k ++ textB x.name)) rfl HOQ (some ⟨pb, 0, none⟩) 2 2 (byteCells ([oct8 x.limit, oct8 (x.dead + 1)])) rfl rfl (fun h => by cases h) HRQ (byteCells_one _) (by have := HTX.out; unfold maxLen; omega) (by have := HTX.out; omega) KQ.size ?_
              intro vz wz hoz hgz _
              rw [← byteCells_append] at hoz
              have KZ : Below W1.heap.size W1 wz := KQ.grown hgz KQ.size (fun j hj => (HOQ.lt j hj).1)
              refine hK.out _ _ (SS.out _ KZ) (fun _ => ?_)
              clear hK K
              (try simp only [Act.put, List.getElem_toArray, List.getElem_cons_succ, List.getElem_cons_zero, List.setIfInBounds_toArray, List.set_cons_zero, List.set_cons_succ])
              (refine wpAnyH_take (i := 26) (v := ?_) rfl (by kernel_rfl) (by kernel_rfl) (by kernel_rfl) (fun _ _ _ h => h) (Or.inl ⟨by kernel_rfl, ?_⟩) (by assumption) ?_; rotate_left; (focus (intro w hSw; (try dsimp only at hSw); go_simp; (try with_reducible rfl))); (try simp only [Act.put, List.getElem_toArray, List.getElem_cons_succ, List.getElem_cons_zero, List.setIfInBounds_toArray, List.set_cons_zero, List.set_cons_succ]))
              refine wpAnyH_done (by kernel_rfl) ?_ _
              have HOZ := hidI hoz
              have HKZ := hidI KZ
              clear hoz hgz KZ KQ HOQ HRQ
              go_wp2_with fail
              go_roundw
              case rel => exact ⟨k + 1, _, HLT.out, by have := HLT.out; go_num, by rw [HNX.out, show queueB x = textB x.name ++ [oct8 x.limit, oct8 (x.dead + 1)] from rfl, ← List.append_assoc]; exact HOZ.out, HKZ.out⟩
              case measure => have := HLT.out; simp [intOf]; omega
          · go_simp
            refine hK.out _ _ (SS.out _ (by repeat (first | exact Below.refl _ _ | assumption | refine Below.drew ?_ | refine Below.alloc ?_ (by first | (simp; done) | (simp; omega) | omega) _ | refine Below.setCell ?_ (by first | (simp; done) | (simp; omega) | omega) _))) (fun _ => ?_)
            clear hK K
            (try simp only [Act.put, List.getElem_toArray, List.getElem_cons_succ, List.getElem_cons_zero, List.setIfInBounds_toArray, List.set_cons_zero, List.set_cons_succ])
            obtain ⟨Wb, hWb⟩ : ∃ Wb, Wb = (wr.alloc (.cells #[.int .u8 x.limit, .int .u8 (x.dead + 1)] 5)).drew := ⟨_, rfl⟩
            rw [← hWb]
            obtain ⟨pb, hpb⟩ : ∃ pb, pb = wr.heap.size := ⟨_, rfl⟩
            rw [← hpb]
            have kb0 : Below wr.heap.size wr Wb := by rw [hWb]; exact ((Below.refl _ _).alloc (Nat.le_refl _) _).drew
            have KB : Below W1.heap.size W1 Wb := HB'.trans (kb0.mono hBs)
            have hRB : RowAt Wb (some ⟨pb, 0, none⟩) (byteCells ([oct8 x.limit, oct8 (x.dead + 1)])) := by rw [DSE.out, hWb, hpb]; exact (row_new (cs := [.int .u8 x.limit, .int .u8 (x.dead + 1)])).keep (Below.refl _ _).drew
            have hpl : wr.heap.size ≤ pb := by omega
            clear hWb hpb
            refine wpAnyH_ready (rs := [7]) (by kernel_rfl) (by simp) ?_
            refine AllReadyH.cons rfl (fun K hK => ?_) AllReadyH.nil
            go_simp
            refine (texted_any x.name _ HTX.out).mono ?_
            rintro e wt ⟨vt, rfl, hot, kt'⟩
            obtain ⟨at', ct, hvt, -, -, htn, hrt⟩ := own_row hot
            subst hvt
            have KT : Below W1.heap.size W1 wt := KB.trans (kt'.mono KB.size)
            refine hK.out _ _ (SS.out _ KT) (fun _ => ?_)
            clear hK K
            (try simp only [Act.put, List.getElem_toArray, List.getElem_cons_succ, List.getElem_cons_zero, List.setIfInBounds_toArray, List.set_cons_zero, List.set_cons_succ])
            refine wpAnyH_ready (rs := [8]) (by kernel_rfl) (by simp) ?_
            refine AllReadyH.cons rfl (fun K hK => ?_) AllReadyH.nil
            have hO1 := copied_two HO.out (kb0.trans (kt'.mono kb0.size))
            refine stepB_row elemByte (by kernel_rfl) _ _ rfl W1.heap.size _ m (byteCells (byQ p k)) rfl hO1 at' (x.name.size + 1) ct (byteCells (textB x.name)) rfl (by rw [byteCells_len]; unfold textB; rw [List.length_cons, size_list]; omega) htn hrt (byteCells_one _) (by have := HTX.out; unfold maxLen; omega) (by have := HTX.out; omega) KT.size ?_
            intro va wa hoa hga _
            rw [← byteCells_append] at hoa
            have KA : Below W1.heap.size W1 wa := KT.grown hga KT.size (fun j hj => (hO1.lt j hj).1)
            refine hK.out _ _ (SS.out _ KA) (fun _ => ?_)
            clear hK K
            (try simp only [Act.put, List.getElem_toArray, List.getElem_cons_succ, List.getElem_cons_zero, List.setIfInBounds_toArray, List.set_cons_zero, List.set_cons_succ])
            obtain ⟨ba, ca, hva, -⟩ := own_row hoa
            subst hva
            have KQ := KA
            have HOQ := hoa
            have HRQ : RowAt wa (some ⟨pb, 0, none⟩) (byteCells ([oct8 x.limit, oct8 (x.dead + 1)])) := (hRB.keep kt').keepBut hga.size (fun g' o' e => by cases e; exact hga.block _ (by have h1 := kb0.size; have h2 := kt'.size; rcases hRB with e | ⟨gg, oo, e, hl, _⟩; (rw [DSE.out] at e; cases e); (cases e; omega)) (fun e => by have := HO.out.lt _ e.symm; omega))
            refine wpAnyH_ready (rs := [25]) (by kernel_rfl) (by simp) ?_
            refine AllReadyH.cons rfl (fun K hK => ?_) AllReadyH.nil
            refine stepB_row elemByte (by kernel_rfl) _ _ rfl W1.heap.size _ (m + (x.name.size + 1)) (byteCells (byQ p k ++ textB x.name)) rfl HOQ (some ⟨pb, 0, none⟩) 2 2 (byteCells ([oct8 x.limit, oct8 (x.dead + 1)])) rfl rfl (fun h => by cases h) HRQ (byteCells_one _) (by have := HTX.out; unfold maxLen; omega) (by have := HTX.out; omega) KQ.size ?_
            intro vz wz hoz hgz _
            rw [← byteCells_append] at hoz
            have KZ : Below W1.heap.size W1 wz := KQ.grown hgz KQ.size (fun j hj => (HOQ.lt j hj).1)
            refine hK.out _ _ (SS.out _ KZ) (fun _ => ?_)
            clear hK K
            (try simp only [Act.put, List.getElem_toArray, List.getElem_cons_succ, List.getElem_cons_zero, List.setIfInBounds_toArray, List.set_cons_zero, List.set_cons_succ])
            (refine wpAnyH_take (i := 26) (v := ?_) rfl (by kernel_rfl) (by kernel_rfl) (by kernel_rfl) (fun _ _ _ h => h) (Or.inl ⟨by kernel_rfl, ?_⟩) (by assumption) ?_; rotate_left; (focus (intro w hSw; (try dsimp only at hSw); go_simp; (try with_reducible rfl))); (try simp only [Act.put, List.getElem_toArray, List.getElem_cons_succ, List.getElem_cons_zero, List.setIfInBounds_toArray, List.set_cons_zero, List.set_cons_succ]))
            refine wpAnyH_done (by kernel_rfl) ?_ _
            have HOZ := hidI hoz
            have HKZ := hidI KZ
            clear hoz hgz KZ KQ HOQ HRQ
            go_wp2_with fail
            go_roundw
            case rel => exact ⟨k + 1, _, HLT.out, by have := HLT.out; go_num, by rw [HNX.out, show queueB x = textB x.name ++ [oct8 x.limit, oct8 (x.dead + 1)] from rfl, ← List.append_assoc]; exact HOZ.out, HKZ.out⟩
            case measure => have := HLT.out; simp [intOf]; omega
        · have hke : k = n2 := by omega
          obtain rfl := hke.symm
          clear hlt hk
          obtain ⟨W4, hW4⟩ : ∃ W4, W4 = wr.alloc (.cells #[.int .u8 n3] 5) := ⟨_, rfl⟩
          have k4 : Below wr.heap.size wr W4 := by rw [hW4]; exact (Below.refl _ _).alloc (Nat.le_refl _) _
          have K4 := hidI (hB.trans (k4.mono hBs))
          have HO4 := hidI (copied_two HO.out k4)
          have HRW : Hid (RowAt W4 (some ⟨wr.heap.size, 0, none⟩) (byteCells [oct8 n3])) := by show RowAt W4 _ _; rw [byteCells_of (by omega) (by omega), hW4]; exact row_new (cs := [.int .u8 n3])
          have HW4 := hidI hW4
          have hs4 := K4.out.size
          clear hW4 k4
          go_upto_region 12 with (at_builtin; rw [← HW4.out]; refine append_row elemByte (by kernel_rfl) _ _ rfl W1.heap.size _ m (byteCells (byQ p n2)) rfl HO4.out (some ⟨wr.heap.size, 0, none⟩) 1 1 (byteCells [oct8 n3]) rfl rfl (fun h => by cases h) HRW.out (byteCells_one _) (by unfold maxLen; omega) (by omega) hs4 ?_; intro v7 w7 hown7 hgrow7 hblk7; rw [← byteCells_append] at hown7; have k7 := K4.out.grown hgrow7 hs4 (fun j hj => (HO4.out.lt j hj).1); have K7 := hidI k7; have HO7 := hidI hown7; clear k7 hown7 hgrow7 hblk7)
          clear x0 x1 x2
          go_wp2_with fail
          go_loopw [3, 6] (fun l i wr => ∃ (k m : Nat), k ≤ n3 ∧ i = .int .i64 k ∧ wr.ownsRow W1.heap.size 5 1 l m (byteCells (byB p k)) ∧ Below W1.heap.size W1 wr) (fun _ i _ => n3 - (intOf i).toNat)
          case atStart => exact ⟨0, _, Nat.zero_le _, rfl, by have e : byB p 0 = byQ p n2 ++ [oct8 n3] := by { unfold byB; rw [HL.out.2.1, HL.out.2.2]; rfl }; rw [e]; exact HO7.out, K7.out⟩
          case round =>
            obtain ⟨k, m, hk, rfl, hown, hB⟩ := hrel
            have hmb : m ≤ 4096 := by have h1 := hown.1; rw [byteCells_len] at h1; have h2 := by_short HC.out k; omega
            obtain ⟨bb, cb, hbv, -⟩ := own_row hown
            subst hbv
            have HO := hidI hown
            have HB := hidI hB
            have hBs := hB.size
            clear hown
            obtain ⟨x0, x1, x2⟩ := HBX.out wr hB
            by_cases hlt : k < n3
            · have HLT := hidI hlt
              have hkl : k < p.binds.length := by rw [HL.out.2.2]; exact hlt
              have HKL := hidI hkl
              obtain ⟨g, o, ha, hg, e0, e1, e2, e3⟩ := HP.out.p3.get hkl
              have HNX := hidI (next_byB hkl)
              have HSX := hidI (HSM.out.binds.2 _ (List.getElem_mem hkl))
              have HIX : Hid (p.binds[k]'hkl ∈ p.binds) := List.getElem_mem hkl
              obtain ⟨x, hx⟩ : ∃ x, x = p.binds[k]'hkl := ⟨_, rfl⟩
              rw [← hx] at e0 e1 e2 e3 HNX HSX HIX
              subst ha
              have j1 : (0 : Int) ≤ (k : Int) := by omega
              have j2 : (k : Int) < n3 := by omega
              clear hx
              have HTX : Hid (x.pat.size ≤ 255) := by have := HSX.out.2.2.2.2; show x.pat.size ≤ 255; omega
              have HKD : Hid (0 ≤ x.src ∧ x.src < 256) := ⟨HSX.out.1, HSX.out.2.1⟩
              have HKE : Hid (0 ≤ x.dst ∧ x.dst < 256) := ⟨HSX.out.2.2.1, HSX.out.2.2.2.1⟩
              have jk : IntKind.u8.wrap x.src = x.src := u8_wrap HKD.out.1 HKD.out.2
              have jd : IntKind.u8.wrap x.dst = x.dst := u8_wrap HKE.out.1 HKE.out.2
              have e0' := ((hB.cell (p := ⟨g, _, none⟩) hg)).trans e0
              have e1' := ((hB.cell (p := ⟨g, _, none⟩) hg)).trans e1
              have e2' := ((hB.cell (p := ⟨g, _, none⟩) hg)).trans e2
              have e3' := ((hB.cell (p := ⟨g, _, none⟩) hg)).trans e3
              clear e0 e1 e2 e3
              obtain ⟨F, hFl⟩ : ∃ F : Int, F = flagN x.toPost := ⟨_, rfl⟩
              have HFL := hidI hFl
              obtain ⟨sr, tp, ds, pt⟩ := x
              dsimp only at *
              cases tp
              · go_upto_region 19 with fail
                obtain ⟨W4, hW4⟩ : ∃ W4, W4 = wr.alloc (.cells #[.int .i64 sr, .bool false, .int .i64 ds, .string pt] 77) := ⟨_, rfl⟩
                rw [← hW4]
                have k4 : Below wr.heap.size wr W4 := by rw [hW4]; exact (Below.refl _ _).alloc (Nat.le_refl _) _
                have b4 : W4.heap[wr.heap.size]? = some (.cells #[.int .i64 sr, .bool false, .int .i64 ds, .string pt] 77 (0, 0)) := by rw [hW4]; exact World.alloc_heap_new wr _
                have K4 : Below W1.heap.size W1 W4 := hB.trans (k4.mono hBs)
                have SS : Hid (∀ W' : World, W'.heap[wr.heap.size]? = some (.cells #[.int .i64 sr, .bool false, .int .i64 ds, .string pt] 77 (0, 0)) → (W'.cell? ⟨wr.heap.size, 0, none⟩ = some (.int .i64 sr) ∧ W'.cell? ⟨wr.heap.size, 2, none⟩ = some (.int .i64 ds) ∧ W'.cell? ⟨wr.heap.size, 3, none⟩ = some (.string pt))) := fun W' h => ⟨cell_of_cells h 0, cell_of_cells h 2, cell_of_cells h 3⟩
                have HK4 := hidI K4
                have Hk4 := hidI k4
                have hlb := lt_of_heap b4
                have Hb4 := hidI b4
                have HO4 := hidI (copied_two HO.out k4)
                have DSE : Hid (byteCells [oct8 sr, oct8 (flagN false), oct8 ds] = [.int .u8 sr, .int .u8 0, .int .u8 ds]) := by show byteCells (oct8 sr :: oct8 (flagN false) :: [oct8 ds]) = _; rw [byteCells_cons HKD.out.1 HKD.out.2, byteCells_cons (by decide) (by decide), byteCells_of HKE.out.1 HKE.out.2]; rfl
                clear hW4 k4 b4 K4 x0 x1 x2
                refine wp_region_held_drew (S := fun W' => (W'.cell? ⟨wr.heap.size, 0, none⟩ = some (.int .i64 sr) ∧ W'.cell? ⟨wr.heap.size, 2, none⟩ = some (.int .i64 ds) ∧ W'.cell? ⟨wr.heap.size, 3, none⟩ = some (.string pt))) (by kernel_rfl) (SS.out _ (plan_keep Hb4.out (Below.refl _ _).drew)) (fun hHeld => ?_)
                (refine wpAnyH_take (i := 0) (v := ?_) rfl (by kernel_rfl) (by kernel_rfl) (by kernel_rfl) (fun _ _ _ h => h) (Or.inl ⟨by kernel_rfl, ?_⟩) (by assumption) ?_; rotate_left; (focus (intro w hSw; (try dsimp only at hSw); go_simp; (try with_reducible rfl))); (try simp only [Act.put, List.getElem_toArray, List.getElem_cons_zero, List.setIfInBounds_toArray, List.set_cons_zero, List.set_cons_succ]))
                (refine wpAnyH_take (i := 1) (v := ?_) rfl (by kernel_rfl) (by kernel_rfl) (by kernel_rfl) (fun _ _ _ h => h) (Or.inl ⟨by kernel_rfl, ?_⟩) (by assumption) ?_; rotate_left; (focus (intro w hSw; (try dsimp only at hSw); go_simp; (try with_reducible rfl))); (try simp only [Act.put, List.getElem_toArray, List.getElem_cons_succ, List.getElem_cons_zero, List.setIfInBounds_toArray, List.set_cons_zero, List.set_cons_succ]))
                (refine wpAnyH_take (i := 2) (v := ?_) rfl (by kernel_rfl) (by kernel_rfl) (by kernel_rfl) (fun _ _ _ h => h) (Or.inl ⟨by kernel_rfl, ?_⟩) (by assumption) ?_; rotate_left; (focus (intro w hSw; (try dsimp only at hSw); go_simp; (try with_reducible rfl))); (try simp only [Act.put, List.getElem_toArray, List.getElem_cons_succ, List.getElem_cons_zero, List.setIfInBounds_toArray, List.set_cons_zero, List.set_cons_succ]))
                (refine wpAnyH_take (i := 3) (v := ?_) rfl (by kernel_rfl) (by kernel_rfl) (by kernel_rfl) (fun _ _ _ h => h) (Or.inl ⟨by kernel_rfl, ?_⟩) (by assumption) ?_; rotate_left; (focus (intro w hSw; (try dsimp only at hSw); go_simp; (try with_reducible rfl))); (try simp only [Act.put, List.getElem_toArray, List.getElem_cons_succ, List.getElem_cons_zero, List.setIfInBounds_toArray, List.set_cons_zero, List.set_cons_succ]))
                (refine wpAnyH_take (i := 4) (v := ?_) rfl (by kernel_rfl) (by kernel_rfl) (by kernel_rfl) (fun _ _ _ h => h) (Or.inl ⟨by kernel_rfl, ?_⟩) (by assumption) ?_; rotate_left; (focus (intro w hSw; (try dsimp only at hSw); go_simp; (try with_reducible rfl))); (try simp only [Act.put, List.getElem_toArray, List.getElem_cons_succ, List.getElem_cons_zero, List.setIfInBounds_toArray, List.set_cons_zero, List.set_cons_succ]))
                (refine wpAnyH_take (i := 5) (v := ?_) rfl (by kernel_rfl) (by kernel_rfl) (by kernel_rfl) (fun _ _ _ h => h) (Or.inl ⟨by kernel_rfl, ?_⟩) (by assumption) ?_; rotate_left; (focus (intro w hSw; (try dsimp only at hSw); go_simp; (try with_reducible rfl))); (try simp only [Act.put, List.getElem_toArray, List.getElem_cons_succ, List.getElem_cons_zero, List.setIfInBounds_toArray, List.set_cons_zero, List.set_cons_succ]))
                (refine wpAnyH_take (i := 6) (v := ?_) rfl (by kernel_rfl) (by kernel_rfl) (by kernel_rfl) (fun _ _ _ h => h) (Or.inl ⟨by kernel_rfl, ?_⟩) (by assumption) ?_; rotate_left; (focus (intro w hSw; (try dsimp only at hSw); go_simp; (try with_reducible rfl))); (try simp only [Act.put, List.getElem_toArray, List.getElem_cons_succ, List.getElem_cons_zero, List.setIfInBounds_toArray, List.set_cons_zero, List.set_cons_succ]))
                (refine wpAnyH_take (i := 7) (v := ?_) rfl (by kernel_rfl) (by kernel_rfl) (by kernel_rfl) (fun _ _ _ h => h) (Or.inl ⟨by kernel_rfl, ?_⟩) (by assumption) ?_; rotate_left; (focus (intro w hSw; (try dsimp only at hSw); go_simp; (try with_reducible rfl))); (try simp only [Act.put, List.getElem_toArray, List.getElem_cons_succ, List.getElem_cons_zero, List.setIfInBounds_toArray, List.set_cons_zero, List.set_cons_succ]))
                (refine wpAnyH_take (i := 10) (v := ?_) rfl (by kernel_rfl) (by kernel_rfl) (by kernel_rfl) (fun _ _ _ h => h) (Or.inl ⟨by kernel_rfl, ?_⟩) (by assumption) ?_; rotate_left; (focus (intro w hSw; (try dsimp only at hSw); go_simp; (try with_reducible rfl))); (try simp only [Act.put, List.getElem_toArray, List.getElem_cons_succ, List.getElem_cons_zero, List.setIfInBounds_toArray, List.set_cons_zero, List.set_cons_succ]))
                (refine wpAnyH_take (i := 11) (v := ?_) rfl (by kernel_rfl) (by kernel_rfl) (by kernel_rfl) (fun _ _ _ h => h) (Or.inl ⟨by kernel_rfl, ?_⟩) (by assumption) ?_; rotate_left; (focus (intro w hSw; (try dsimp only at hSw); go_simp; (try with_reducible rfl))); (try simp only [Act.put, List.getElem_toArray, List.getElem_cons_succ, List.getElem_cons_zero, List.setIfInBounds_toArray, List.set_cons_zero, List.set_cons_succ]))
                refine wpAnyH_ready (rs := [8]) (by kernel_rfl) (by simp) ?_
                refine AllReadyH.cons rfl (fun K hK => ?_) AllReadyH.nil
                go_simp
                refine hK.out _ _ (SS.out _ (plan_keep Hb4.out (by repeat (first | exact Below.refl _ _ | assumption | refine Below.drew ?_ | refine Below.alloc ?_ (by first | (simp; done) | (simp; omega) | omega) _ | refine Below.setCell ?_ (by first | (simp; done) | (simp; omega) | omega) _)))) (fun _ => ?_)
                clear hK K
                (try simp only [Act.put, List.getElem_toArray, List.getElem_cons_succ, List.getElem_cons_zero, List.setIfInBounds_toArray, List.set_cons_zero, List.set_cons_succ])
                obtain ⟨Wb, hWb⟩ : ∃ Wb, Wb = (W4.alloc (.cells #[.int .u8 sr, .int .u8 0, .int .u8 ds] 5)).drew := ⟨_, rfl⟩
                rw [← hWb]
                obtain ⟨pb, hpb⟩ : ∃ pb, pb = W4.heap.size := ⟨_, rfl⟩
                rw [← hpb]
                have kb0 : Below W4.heap.size W4 Wb := by rw [hWb]; exact ((Below.refl _ _).alloc (Nat.le_refl _) _).drew
                have KB : Below W1.heap.size W1 Wb := HK4.out.trans (kb0.mono HK4.out.size)
                have hRB : RowAt Wb (some ⟨pb, 0, none⟩) (byteCells [oct8 sr, oct8 (flagN false), oct8 ds]) := by rw [DSE.out, hWb, hpb]; exact (row_new (cs := [.int .u8 sr, .int .u8 0, .int .u8 ds])).keep (Below.refl _ _).drew
                have hbb := plan_keep Hb4.out kb0
                clear hWb hpb
                refine wpAnyH_ready (rs := [9]) (by kernel_rfl) (by simp) ?_
                refine AllReadyH.cons rfl (fun K hK => ?_) AllReadyH.nil
                have hO1 := copied_two HO4.out kb0
                refine stepB_row elemByte (by kernel_rfl) _ _ rfl W1.heap.size _ m (byteCells (byB p k)) rfl hO1 (some ⟨pb, 0, none⟩) 3 3 (byteCells [oct8 sr, oct8 (flagN false), oct8 ds]) rfl rfl (fun h => by cases h) hRB (byteCells_one _) (by unfold maxLen; omega) (by omega) KB.size ?_
                intro va wa hoa hga hwa
                rw [← byteCells_append] at hoa
                have KA : Below W1.heap.size W1 wa := KB.grown hga KB.size (fun j hj => (hO1.lt j hj).1)
                have hne : va.ownBlock ≠ some wr.heap.size := by rcases hwa with h | h; (rw [h]; intro e; have := HO.out.lt _ e; omega); (rw [h]; intro e; have h2 := lt_of_heap hbb; have e2 := Option.some.inj e; omega)
                have hba : wa.heap[wr.heap.size]? = _ := (hga.block _ (lt_of_heap hbb) (fun e => by have := HO.out.lt _ e.symm; omega)).trans hbb
                refine hK.out _ _ (SS.out _ hba) (fun _ => ?_)
                clear hK K
                (try simp only [Act.put, List.getElem_toArray, List.getElem_cons_succ, List.getElem_cons_zero, List.setIfInBounds_toArray, List.set_cons_zero, List.set_cons_succ])
                obtain ⟨ba, ca, hva, -⟩ := own_row hoa
                subst hva
                refine wpAnyH_ready (rs := [12]) (by kernel_rfl) (by simp) ?_
                refine AllReadyH.cons rfl (fun K hK => ?_) AllReadyH.nil
                go_simp
                refine (texted_any pt _ HTX.out).mono ?_
                rintro e wt ⟨vt, rfl, hot, kt'⟩
                obtain ⟨at', ct, hvt, -, -, htn, hrt⟩ := own_row hot
                subst hvt
                have KT : Below W1.heap.size W1 wt := KA.trans (kt'.mono KA.size)
                have hoa' := copied_two hoa kt'
                refine hK.out _ _ (SS.out _ (plan_keep hba kt')) (fun _ => ?_)
                clear hK K
                (try simp only [Act.put, List.getElem_toArray, List.getElem_cons_succ, List.getElem_cons_zero, List.setIfInBounds_toArray, List.set_cons_zero, List.set_cons_succ])
                refine wpAnyH_ready (rs := [13]) (by kernel_rfl) (by simp) ?_
                refine AllReadyH.cons rfl (fun K hK => ?_) AllReadyH.nil
                refine stepB_row elemByte (by kernel_rfl) _ _ rfl W1.heap.size _ (m + 3) (byteCells (byB p k ++ [oct8 sr, oct8 (flagN false), oct8 ds])) rfl hoa' at' (pt.size + 1) ct (byteCells (textB pt)) rfl (by rw [byteCells_len]; unfold textB; rw [List.length_cons, size_list]; omega) htn hrt (byteCells_one _) (by have := HTX.out; unfold maxLen; omega) (by have := HTX.out; omega) KT.size ?_
                intro vz wz hoz hgz _
                rw [← byteCells_append] at hoz
                have KZ : Below W1.heap.size W1 wz := KT.grown hgz KT.size (fun j hj => (hoa'.lt j hj).1)
                have hbz : wz.heap[wr.heap.size]? = _ := (hgz.block _ (lt_of_heap (plan_keep hba kt')) (fun e => hne e.symm)).trans (plan_keep hba kt')
                refine hK.out _ _ (SS.out _ hbz) (fun _ => ?_)
                clear hK K
                (try simp only [Act.put, List.getElem_toArray, List.getElem_cons_succ, List.getElem_cons_zero, List.setIfInBounds_toArray, List.set_cons_zero, List.set_cons_succ])
                (refine wpAnyH_take (i := 14) (v := ?_) rfl (by kernel_rfl) (by kernel_rfl) (by kernel_rfl) (fun _ _ _ h => h) (Or.inl ⟨by kernel_rfl, ?_⟩) (by assumption) ?_; rotate_left; (focus (intro w hSw; (try dsimp only at hSw); go_simp; (try with_reducible rfl))); (try simp only [Act.put, List.getElem_toArray, List.getElem_cons_succ, List.getElem_cons_zero, List.setIfInBounds_toArray, List.set_cons_zero, List.set_cons_succ]))
                refine wpAnyH_done (by kernel_rfl) ?_ _
                have HOZ := hidI hoz
                have HKZ := hidI KZ
                clear hoz hgz KZ hoa hoa' hba hbz hbb kb0 kt' KA KB KT
                go_wp2_with fail
                go_roundw
                case rel => exact ⟨k + 1, _, HLT.out, by have := HLT.out; go_num, by rw [HNX.out, show bindB ⟨sr, false, ds, pt⟩ = [oct8 sr, oct8 (flagN false), oct8 ds] ++ textB pt from rfl, ← List.append_assoc]; exact HOZ.out, HKZ.out⟩
                case measure => have := HLT.out; simp [intOf]; omega
              · go_upto_region 19 with fail
                obtain ⟨W4, hW4⟩ : ∃ W4, W4 = wr.alloc (.cells #[.int .i64 sr, .bool true, .int .i64 ds, .string pt] 77) := ⟨_, rfl⟩
                rw [← hW4]
                have k4 : Below wr.heap.size wr W4 := by rw [hW4]; exact (Below.refl _ _).alloc (Nat.le_refl _) _
                have b4 : W4.heap[wr.heap.size]? = some (.cells #[.int .i64 sr, .bool true, .int .i64 ds, .string pt] 77 (0, 0)) := by rw [hW4]; exact World.alloc_heap_new wr _
                have K4 : Below W1.heap.size W1 W4 := hB.trans (k4.mono hBs)
                have SS : Hid (∀ W' : World, W'.heap[wr.heap.size]? = some (.cells #[.int .i64 sr, .bool true, .int .i64 ds, .string pt] 77 (0, 0)) → (W'.cell? ⟨wr.heap.size, 0, none⟩ = some (.int .i64 sr) ∧ W'.cell? ⟨wr.heap.size, 2, none⟩ = some (.int .i64 ds) ∧ W'.cell? ⟨wr.heap.size, 3, none⟩ = some (.string pt))) := fun W' h => ⟨cell_of_cells h 0, cell_of_cells h 2, cell_of_cells h 3⟩
                have HK4 := hidI K4
                have Hk4 := hidI k4
                have hlb := lt_of_heap b4
                have Hb4 := hidI b4
                have HO4 := hidI (copied_two HO.out k4)
                have DSE : Hid (byteCells [oct8 sr, oct8 (flagN true), oct8 ds] = [.int .u8 sr, .int .u8 1, .int .u8 ds]) := by show byteCells (oct8 sr :: oct8 (flagN true) :: [oct8 ds]) = _; rw [byteCells_cons HKD.out.1 HKD.out.2, byteCells_cons (by decide) (by decide), byteCells_of HKE.out.1 HKE.out.2]; rfl
                clear hW4 k4 b4 K4 x0 x1 x2
                refine wp_region_held_drew (S := fun W' => (W'.cell? ⟨wr.heap.size, 0, none⟩ = some (.int .i64 sr) ∧ W'.cell? ⟨wr.heap.size, 2, none⟩ = some (.int .i64 ds) ∧ W'.cell? ⟨wr.heap.size, 3, none⟩ = some (.string pt))) (by kernel_rfl) (SS.out _ (plan_keep Hb4.out (Below.refl _ _).drew)) (fun hHeld => ?_)
                (refine wpAnyH_take (i := 0) (v := ?_) rfl (by kernel_rfl) (by kernel_rfl) (by kernel_rfl) (fun _ _ _ h => h) (Or.inl ⟨by kernel_rfl, ?_⟩) (by assumption) ?_; rotate_left; (focus (intro w hSw; (try dsimp only at hSw); go_simp; (try with_reducible rfl))); (try simp only [Act.put, List.getElem_toArray, List.getElem_cons_zero, List.setIfInBounds_toArray, List.set_cons_zero, List.set_cons_succ]))
                (refine wpAnyH_take (i := 1) (v := ?_) rfl (by kernel_rfl) (by kernel_rfl) (by kernel_rfl) (fun _ _ _ h => h) (Or.inl ⟨by kernel_rfl, ?_⟩) (by assumption) ?_; rotate_left; (focus (intro w hSw; (try dsimp only at hSw); go_simp; (try with_reducible rfl))); (try simp only [Act.put, List.getElem_toArray, List.getElem_cons_succ, List.getElem_cons_zero, List.setIfInBounds_toArray, List.set_cons_zero, List.set_cons_succ]))
                (refine wpAnyH_take (i := 2) (v := ?_) rfl (by kernel_rfl) (by kernel_rfl) (by kernel_rfl) (fun _ _ _ h => h) (Or.inl ⟨by kernel_rfl, ?_⟩) (by assumption) ?_; rotate_left; (focus (intro w hSw; (try dsimp only at hSw); go_simp; (try with_reducible rfl))); (try simp only [Act.put, List.getElem_toArray, List.getElem_cons_succ, List.getElem_cons_zero, List.setIfInBounds_toArray, List.set_cons_zero, List.set_cons_succ]))
                (refine wpAnyH_take (i := 3) (v := ?_) rfl (by kernel_rfl) (by kernel_rfl) (by kernel_rfl) (fun _ _ _ h => h) (Or.inl ⟨by kernel_rfl, ?_⟩) (by assumption) ?_; rotate_left; (focus (intro w hSw; (try dsimp only at hSw); go_simp; (try with_reducible rfl))); (try simp only [Act.put, List.getElem_toArray, List.getElem_cons_succ, List.getElem_cons_zero, List.setIfInBounds_toArray, List.set_cons_zero, List.set_cons_succ]))
                (refine wpAnyH_take (i := 4) (v := ?_) rfl (by kernel_rfl) (by kernel_rfl) (by kernel_rfl) (fun _ _ _ h => h) (Or.inl ⟨by kernel_rfl, ?_⟩) (by assumption) ?_; rotate_left; (focus (intro w hSw; (try dsimp only at hSw); go_simp; (try with_reducible rfl))); (try simp only [Act.put, List.getElem_toArray, List.getElem_cons_succ, List.getElem_cons_zero, List.setIfInBounds_toArray, List.set_cons_zero, List.set_cons_succ]))
                (refine wpAnyH_take (i := 5) (v := ?_) rfl (by kernel_rfl) (by kernel_rfl) (by kernel_rfl) (fun _ _ _ h => h) (Or.inl ⟨by kernel_rfl, ?_⟩) (by assumption) ?_; rotate_left; (focus (intro w hSw; (try dsimp only at hSw); go_simp; (try with_reducible rfl))); (try simp only [Act.put, List.getElem_toArray, List.getElem_cons_succ, List.getElem_cons_zero, List.setIfInBounds_toArray, List.set_cons_zero, List.set_cons_succ]))
                (refine wpAnyH_take (i := 6) (v := ?_) rfl (by kernel_rfl) (by kernel_rfl) (by kernel_rfl) (fun _ _ _ h => h) (Or.inl ⟨by kernel_rfl, ?_⟩) (by assumption) ?_; rotate_left; (focus (intro w hSw; (try dsimp only at hSw); go_simp; (try with_reducible rfl))); (try simp only [Act.put, List.getElem_toArray, List.getElem_cons_succ, List.getElem_cons_zero, List.setIfInBounds_toArray, List.set_cons_zero, List.set_cons_succ]))
                (refine wpAnyH_take (i := 7) (v := ?_) rfl (by kernel_rfl) (by kernel_rfl) (by kernel_rfl) (fun _ _ _ h => h) (Or.inl ⟨by kernel_rfl, ?_⟩) (by assumption) ?_; rotate_left; (focus (intro w hSw; (try dsimp only at hSw); go_simp; (try with_reducible rfl))); (try simp only [Act.put, List.getElem_toArray, List.getElem_cons_succ, List.getElem_cons_zero, List.setIfInBounds_toArray, List.set_cons_zero, List.set_cons_succ]))
                (refine wpAnyH_take (i := 10) (v := ?_) rfl (by kernel_rfl) (by kernel_rfl) (by kernel_rfl) (fun _ _ _ h => h) (Or.inl ⟨by kernel_rfl, ?_⟩) (by assumption) ?_; rotate_left; (focus (intro w hSw; (try dsimp only at hSw); go_simp; (try with_reducible rfl))); (try simp only [Act.put, List.getElem_toArray, List.getElem_cons_succ, List.getElem_cons_zero, List.setIfInBounds_toArray, List.set_cons_zero, List.set_cons_succ]))
                (refine wpAnyH_take (i := 11) (v := ?_) rfl (by kernel_rfl) (by kernel_rfl) (by kernel_rfl) (fun _ _ _ h => h) (Or.inl ⟨by kernel_rfl, ?_⟩) (by assumption) ?_; rotate_left; (focus (intro w hSw; (try dsimp only at hSw); go_simp; (try with_reducible rfl))); (try simp only [Act.put, List.getElem_toArray, List.getElem_cons_succ, List.getElem_cons_zero, List.setIfInBounds_toArray, List.set_cons_zero, List.set_cons_succ]))
                refine wpAnyH_ready (rs := [8]) (by kernel_rfl) (by simp) ?_
                refine AllReadyH.cons rfl (fun K hK => ?_) AllReadyH.nil
                go_simp
                refine hK.out _ _ (SS.out _ (plan_keep Hb4.out (by repeat (first | exact Below.refl _ _ | assumption | refine Below.drew ?_ | refine Below.alloc ?_ (by first | (simp; done) | (simp; omega) | omega) _ | refine Below.setCell ?_ (by first | (simp; done) | (simp; omega) | omega) _)))) (fun _ => ?_)
                clear hK K
                (try simp only [Act.put, List.getElem_toArray, List.getElem_cons_succ, List.getElem_cons_zero, List.setIfInBounds_toArray, List.set_cons_zero, List.set_cons_succ])
                obtain ⟨Wb, hWb⟩ : ∃ Wb, Wb = (W4.alloc (.cells #[.int .u8 sr, .int .u8 1, .int .u8 ds] 5)).drew := ⟨_, rfl⟩
                rw [← hWb]
                obtain ⟨pb, hpb⟩ : ∃ pb, pb = W4.heap.size := ⟨_, rfl⟩
                rw [← hpb]
                have kb0 : Below W4.heap.size W4 Wb := by rw [hWb]; exact ((Below.refl _ _).alloc (Nat.le_refl _) _).drew
                have KB : Below W1.heap.size W1 Wb := HK4.out.trans (kb0.mono HK4.out.size)
                have hRB : RowAt Wb (some ⟨pb, 0, none⟩) (byteCells [oct8 sr, oct8 (flagN true), oct8 ds]) := by rw [DSE.out, hWb, hpb]; exact (row_new (cs := [.int .u8 sr, .int .u8 1, .int .u8 ds])).keep (Below.refl _ _).drew
                have hbb := plan_keep Hb4.out kb0
                clear hWb hpb
                refine wpAnyH_ready (rs := [9]) (by kernel_rfl) (by simp) ?_
                refine AllReadyH.cons rfl (fun K hK => ?_) AllReadyH.nil
                have hO1 := copied_two HO4.out kb0
                refine stepB_row elemByte (by kernel_rfl) _ _ rfl W1.heap.size _ m (byteCells (byB p k)) rfl hO1 (some ⟨pb, 0, none⟩) 3 3 (byteCells [oct8 sr, oct8 (flagN true), oct8 ds]) rfl rfl (fun h => by cases h) hRB (byteCells_one _) (by unfold maxLen; omega) (by omega) KB.size ?_
                intro va wa hoa hga hwa
                rw [← byteCells_append] at hoa
                have KA : Below W1.heap.size W1 wa := KB.grown hga KB.size (fun j hj => (hO1.lt j hj).1)
                have hne : va.ownBlock ≠ some wr.heap.size := by rcases hwa with h | h; (rw [h]; intro e; have := HO.out.lt _ e; omega); (rw [h]; intro e; have h2 := lt_of_heap hbb; have e2 := Option.some.inj e; omega)
                have hba : wa.heap[wr.heap.size]? = _ := (hga.block _ (lt_of_heap hbb) (fun e => by have := HO.out.lt _ e.symm; omega)).trans hbb
                refine hK.out _ _ (SS.out _ hba) (fun _ => ?_)
                clear hK K
                (try simp only [Act.put, List.getElem_toArray, List.getElem_cons_succ, List.getElem_cons_zero, List.setIfInBounds_toArray, List.set_cons_zero, List.set_cons_succ])
                obtain ⟨ba, ca, hva, -⟩ := own_row hoa
                subst hva
                refine wpAnyH_ready (rs := [12]) (by kernel_rfl) (by simp) ?_
                refine AllReadyH.cons rfl (fun K hK => ?_) AllReadyH.nil
                go_simp
                refine (texted_any pt _ HTX.out).mono ?_
                rintro e wt ⟨vt, rfl, hot, kt'⟩
                obtain ⟨at', ct, hvt, -, -, htn, hrt⟩ := own_row hot
                subst hvt
                have KT : Below W1.heap.size W1 wt := KA.trans (kt'.mono KA.size)
                have hoa' := copied_two hoa kt'
                refine hK.out _ _ (SS.out _ (plan_keep hba kt')) (fun _ => ?_)
                clear hK K
                (try simp only [Act.put, List.getElem_toArray, List.getElem_cons_succ, List.getElem_cons_zero, List.setIfInBounds_toArray, List.set_cons_zero, List.set_cons_succ])
                refine wpAnyH_ready (rs := [13]) (by kernel_rfl) (by simp) ?_
                refine AllReadyH.cons rfl (fun K hK => ?_) AllReadyH.nil
                refine stepB_row elemByte (by kernel_rfl) _ _ rfl W1.heap.size _ (m + 3) (byteCells (byB p k ++ [oct8 sr, oct8 (flagN true), oct8 ds])) rfl hoa' at' (pt.size + 1) ct (byteCells (textB pt)) rfl (by rw [byteCells_len]; unfold textB; rw [List.length_cons, size_list]; omega) htn hrt (byteCells_one _) (by have := HTX.out; unfold maxLen; omega) (by have := HTX.out; omega) KT.size ?_
                intro vz wz hoz hgz _
                rw [← byteCells_append] at hoz
                have KZ : Below W1.heap.size W1 wz := KT.grown hgz KT.size (fun j hj => (hoa'.lt j hj).1)
                have hbz : wz.heap[wr.heap.size]? = _ := (hgz.block _ (lt_of_heap (plan_keep hba kt')) (fun e => hne e.symm)).trans (plan_keep hba kt')
                refine hK.out _ _ (SS.out _ hbz) (fun _ => ?_)
                clear hK K
                (try simp only [Act.put, List.getElem_toArray, List.getElem_cons_succ, List.getElem_cons_zero, List.setIfInBounds_toArray, List.set_cons_zero, List.set_cons_succ])
                (refine wpAnyH_take (i := 14) (v := ?_) rfl (by kernel_rfl) (by kernel_rfl) (by kernel_rfl) (fun _ _ _ h => h) (Or.inl ⟨by kernel_rfl, ?_⟩) (by assumption) ?_; rotate_left; (focus (intro w hSw; (try dsimp only at hSw); go_simp; (try with_reducible rfl))); (try simp only [Act.put, List.getElem_toArray, List.getElem_cons_succ, List.getElem_cons_zero, List.setIfInBounds_toArray, List.set_cons_zero, List.set_cons_succ]))
                refine wpAnyH_done (by kernel_rfl) ?_ _
                have HOZ := hidI hoz
                have HKZ := hidI KZ
                clear hoz hgz KZ hoa hoa' hba hbz hbb kb0 kt' KA KB KT
                go_wp2_with fail
                go_roundw
                case rel => exact ⟨k + 1, _, HLT.out, by have := HLT.out; go_num, by rw [HNX.out, show bindB ⟨sr, true, ds, pt⟩ = [oct8 sr, oct8 (flagN true), oct8 ds] ++ textB pt from rfl, ← List.append_assoc]; exact HOZ.out, HKZ.out⟩
                case measure => have := HLT.out; simp [intOf]; omega
            · have hke : k = n3 := by omega
              obtain rfl := hke.symm
              clear hlt hk
              have hcv := run_text wr HO.out
              rw [show byB p n3 = planB p by rw [← HL.out.2.2]; exact byB_all p] at hcv
              go_wp2_with fail
              go_ret
              exact ⟨rfl, HBW.out.trans (hB.mono s0)⟩

end Go.Proofs.Ytpoichgodamnkaa
