/- route.fitting and its closure. -/
import Derived.Test.YthhkpgnjpieckaaRf
namespace Go.Proofs.Ythhkpgnjpieckaa
set_option linter.unusedVariables false
set_option maxRecDepth 100000
open Go.RowKit Go.Shelf
attribute [local go_sem] Oper.semAt_some

theorem Below.grows {W W' : World} (h : Below W.heap.size W W') : W.grownBy W' none := ⟨h.os, h.tape, h.output, h.size, fun k hk _ => h.block k hk⟩
theorem hidIt {p : Prop} (h : p) : Hid p := h
/-- What a round keeps: all below n0, and the three boxes from B on. -/
structure KeepF (n0 B : Nat) (W W' : World) : Prop where
  below : Below n0 W W'
  box : ∀ j, j < 3 → W'.heap[B + j]? = W.heap[B + j]?
theorem KeepF.refl (n0 B : Nat) (W : World) : KeepF n0 B W W := ⟨Below.refl _ _, fun _ _ => rfl⟩
theorem KeepF.trans {n0 B : Nat} {X Y Z : World} (h : KeepF n0 B X Y) (k : KeepF n0 B Y Z) : KeepF n0 B X Z := ⟨h.below.trans k.below, fun j hj => (k.box j hj).trans (h.box j hj)⟩
theorem KeepF.of_below {n0 B b : Nat} {W W' : World} (h : Below b W W') (h0 : n0 ≤ b) (hb : B + 3 ≤ b) : KeepF n0 B W W' := ⟨h.mono h0, fun j hj => h.block _ (by omega)⟩

/-- The boxes of fitting, as they were laid. -/
structure FitBoxes (W : World) (B : Nat) (a1 a2 a3 : Option Addr) (n1 c1 n2 c2 n3 c3 : Nat) (v : Int) (key : ByteArray) : Prop where
  p : W.heap[B]? = some (.cells #[.slice a1 n1 c1, .slice a2 n2 c2, .slice a3 n3 c3] 40 (0, 0))
  v : W.heap[B + 1]? = some (.cells #[.int .i64 v] 3 (0, 0))
  k : W.heap[B + 2]? = some (.cells #[.string key] 9 (0, 0))
theorem FitBoxes.keep {W W' : World} {n0 B : Nat} {a1 a2 a3 : Option Addr} {n1 c1 n2 c2 n3 c3 : Nat} {v : Int} {key : ByteArray} (h : FitBoxes W B a1 a2 a3 n1 c1 n2 c2 n3 c3 v key) (k : KeepF n0 B W W') : FitBoxes W' B a1 a2 a3 n1 c1 n2 c2 n3 c3 v key :=
  ⟨(k.box 0 (by omega)).trans h.p, (k.box 1 (by omega)).trans h.v, (k.box 2 (by omega)).trans h.k⟩
theorem cell_of {W : World} {b : Nat} {cs : Array Value} {t : TypeId} (h : W.heap[b]? = some (.cells cs t (0, 0))) (i : Nat) : W.cell? ⟨b, i, none⟩ = cs[i]? := by
  unfold World.cell?; simp only; rw [h]; simp
theorem fitB_right {p : PlanD} {key : ByteArray} (hc : chkP p = 0) (hk : kerr key.data.toList = 0) {k : Nat} (h : k < p.binds.length) : fitB p k key = fitP p k key := by
  have e : fitE p k key = 0 := by
    unfold fitE; rw [if_pos hc, if_pos (by unfold isNum; simp; omega), hk]
  unfold fitB; rw [if_pos e, Int.toNat_natCast]
theorem bAt_get {p : PlanD} {k : Nat} (h : k < p.binds.length) : bAt p k = p.binds[k] := by unfold bAt; simp [List.getD, h]

set_option maxRecDepth 100000 in
set_option maxHeartbeats 1000000 in
theorem fitting_in (n : Nat) (v1 v2 v3 : Value) (v : Int) (key : ByteArray) (w : World) :
    CallsIn Fence.wide n Try.prog 80 #[.agg #[v1, v2, v3], .int .i64 v, .string key] w fun e w' => e = .returned (.func (.func 116) #[] #[.pointer (some ⟨w.heap.size, 0, none⟩), .pointer (some ⟨w.heap.size + 1, 0, none⟩), .pointer (some ⟨w.heap.size + 1 + 1, 0, none⟩)]) ∧ w' = ((w.alloc (.cells #[v1, v2, v3] 40)).alloc (.cells #[.int .i64 v] 3)).alloc (.cells #[.string key] 9) := by
  refine callsIn_of_wp Try.func80 rfl trivial ?_ rfl
  simp only [Try.ntmps80, List.size_toArray, List.length_cons, List.length_nil, Nat.reduceAdd, Nat.reduceSub, Array.replicate_succ, Array.replicate_zero, List.push_toArray, List.append_toArray, List.nil_append, List.cons_append]
  gi_wp2
  go_ret
  exact ⟨rfl, rfl⟩
theorem fitting_boxes (w : World) (a1 a2 a3 : Option Addr) (n1 c1 n2 c2 n3 c3 : Nat) (v : Int) (key : ByteArray) : ∃ W, W = ((w.alloc (.cells #[.slice a1 n1 c1, .slice a2 n2 c2, .slice a3 n3 c3] 40)).alloc (.cells #[.int .i64 v] 3)).alloc (.cells #[.string key] 9) ∧
    FitBoxes W w.heap.size a1 a2 a3 n1 c1 n2 c2 n3 c3 v key ∧ Below w.heap.size w W ∧ W.heap.size = w.heap.size + 3 := by
  refine ⟨_, rfl, ⟨?_, ?_, ?_⟩, ?_, by simp⟩
  · rw [Below.heap_alloc _ _ _ (by simp; omega), Below.heap_alloc _ _ _ (by simp)]; exact World.alloc_heap_new w _
  · rw [Below.heap_alloc _ _ _ (by simp)]; have := World.alloc_heap_new (w.alloc (.cells #[.slice a1 n1 c1, .slice a2 n2 c2, .slice a3 n3 c3] 40)) (.cells #[.int .i64 v] 3); rw [World.size_alloc] at this; exact this
  · have := World.alloc_heap_new ((w.alloc (.cells #[.slice a1 n1 c1, .slice a2 n2 c2, .slice a3 n3 c3] 40)).alloc (.cells #[.int .i64 v] 3)) (.cells #[.string key] 9); rw [World.size_alloc, World.size_alloc] at this; exact this
  · exact (((Below.refl _ _).alloc (Nat.le_refl _) _).alloc (by simp) _).alloc (by simp; omega) _

set_option maxRecDepth 100000 in
set_option maxHeartbeats 2000000 in
theorem fitting1_in (n : Nat) (hn : 1 ≤ n) (l B : Nat) (p : PlanD) (a1 a2 a3 : Option Addr) (n1 c1 n2 c2 n3 c3 : Nat) (v : Int) (key : ByteArray) (w0 : World) (hc : chkP p = 0) (hk : kerr key.data.toList = 0) (hp : PlanAt w0 a1 a2 a3 n1 n2 n3 p) (hB0 : w0.heap.size ≤ B)
    (J Jx : List Nat → World → Prop) (W : World) (hWB : B + 3 ≤ W.heap.size) (h0W : Below w0.heap.size w0 W) (hbx : FitBoxes W B a1 a2 a3 n1 c1 n2 c2 n3 c3 v key)
    (hJ : AbidesFrom W.heap.size J)
    (hY : ∀ pre x W1, J pre W1 → pre.length < (fitIdx p key v).length → YieldAt Fence.wide (n - 1) Try.prog l #[.int .i64 (x : Nat), (bAt p x).val] W1 fun e W' =>
      (e = .returned (.bool true) ∧ J (pre ++ [x]) W' ∧ KeepF w0.heap.size B W1 W') ∨ (e = .returned (.bool false) ∧ Jx (pre ++ [x]) W'))
    (h0 : J [] W) :
    CallsIn Fence.wide n Try.prog 116 #[.func (.yield l) #[] #[], .pointer (some ⟨B, 0, none⟩), .pointer (some ⟨B + 1, 0, none⟩), .pointer (some ⟨B + 1 + 1, 0, none⟩)] W fun e W' => (∃ v, e = .returned v) ∧
      ((∃ ys, ys = fitIdx p key v ∧ J ys W') ∨ (∃ pre, pre <+: fitIdx p key v ∧ Jx pre W')) := by
  have HP : Hid (PlanAt w0 a1 a2 a3 n1 n2 n3 p) := hp
  have HBX : Hid (FitBoxes W B a1 a2 a3 n1 c1 n2 c2 n3 c3 v key) := hbx
  have HFP : Hid (∀ k, k < p.binds.length → fitB p k key = fitP p k key) := fun k h => fitB_right hc hk h
  have hl3 : p.binds.length = n3 := hp.l3
  have HL3 : Hid (p.binds.length = n3) := hl3
  have h10 : n3 ≤ 10 := by have := (chk_right hc).few.2.2; omega
  have HJ : Hid (AbidesFrom W.heap.size J) := hJ
  have HY := hidIt hY
  have b0 := cell_of hbx.p 0
  have b2 := cell_of hbx.p 2
  simp at b0 b2
  clear hp hbx hc hk hl3 hJ hY
  refine callsIn_of_wp Try.func116 rfl trivial ?_ rfl
  simp only [Try.ntmps116, List.size_toArray, List.length_cons, List.length_nil, Nat.reduceAdd, Nat.reduceSub, Array.replicate_succ, Array.replicate_zero, List.push_toArray, List.append_toArray, List.nil_append, List.cons_append]
  gi_wp2
  gi_loopw [12] (fun iv wr => ∃ (k : Nat), k ≤ n3 ∧ iv = .int .i64 k ∧ J (fitTo p key v k) wr ∧ KeepF w0.heap.size B W wr) (fun iv _ => n3 - (intOf iv).toNat)
  case atStart => exact ⟨0, Nat.zero_le _, rfl, h0, KeepF.refl _ _ _⟩
  case round =>
    obtain ⟨k, hk, rfl, hJs, hKf⟩ := hrel
    have hwr := hKf.below.size
    obtain ⟨x0, x1, x2⟩ := HBX.out.keep hKf
    have e0 := cell_of x0 0
    have e1 := cell_of x0 1
    have e2 := cell_of x0 2
    have e3 := cell_of x1 0
    have e4 : wr.cell? ⟨B + 1 + 1, 0, none⟩ = some (.string key) := cell_of x2 0
    simp at e0 e1 e2 e3
    by_cases hlt : k < n3
    · have hkl : k < p.binds.length := by rw [HL3.out]; exact hlt
      have hB0r : Below w0.heap.size w0 wr := h0W.trans hKf.below
      obtain ⟨g, o, rfl, hg, hx⟩ := HP.out.p3.cells (by omega)
      obtain ⟨z1, z2, z3, z4⟩ := hx k hkl
      obtain ⟨y, hy⟩ : ∃ y, y = p.binds[k] := ⟨_, rfl⟩
      rw [← hy] at z1 z2 z3 z4
      have HYB : Hid (bAt p k = y) := by show bAt p k = y; rw [bAt_get hkl, hy]
      have y1 := (hB0r.cell (p := ⟨g, _, none⟩) hg).trans z1
      have y2 := (hB0r.cell (p := ⟨g, _, none⟩) hg).trans z2
      have y3 := (hB0r.cell (p := ⟨g, _, none⟩) hg).trans z3
      have y4 := (hB0r.cell (p := ⟨g, _, none⟩) hg).trans z4
      have hgr : g < wr.heap.size := Nat.lt_of_lt_of_le hg hB0r.size
      have k0 : B < wr.heap.size := by omega
      have k1 : B + 1 < wr.heap.size := by omega
      have k2 : B + 1 + 1 < wr.heap.size := by omega
      clear hx z1 z2 z3 z4 hy
      obtain ⟨f, tp, t, pt⟩ := y
      dsimp only at y1 y2 y3 y4
      have j1 : (0 : Int) ≤ (k : Int) := by omega
      have j2 : (k : Int) < n3 := by omega
      obtain ⟨W1, hW1⟩ : ∃ W1, W1 = wr.alloc (.cells #[.int .i64 f, .bool tp, .int .i64 t, .string pt] 55) := ⟨_, rfl⟩
      have HW1 : Hid (W1 = _) := hW1
      have hBa : Below wr.heap.size wr W1 := by rw [hW1]; exact (Below.refl _ _).alloc (Nat.le_refl _) _
      have hsa : wr.heap.size + 1 ≤ W1.heap.size := by rw [hW1]; simp
      have hnew : W1.heap[wr.heap.size]? = some (.cells #[.int .i64 f, .bool tp, .int .i64 t, .string pt] 55 (0, 0)) := by rw [hW1]; exact World.alloc_heap_new wr _
      clear hW1
      by_cases hf : f = v
      · subst hf
        have hJ1 : J (fitTo p key f k) W1 := HJ.out _ wr _ none hJs (Below.grows hBa) (fun r e => by cases e)
        have HPr : Hid (PlanAt W1 a1 a2 (some ⟨g, o, none⟩) n1 n2 n3 p) := HP.out.keep (hB0r.trans (hBa.mono hB0r.size))
        clear hJs
        gi_wp2_with fail
        refine ⟨trivial, ?_⟩
        rw [← HW1.out]
        refine (callsIn_wide.2 (fits_any p _ _ _ _ _ _ _ _ _ _ _ _ HPr.out)).mono ?_
        rintro e W2 ⟨rfl, hB2⟩
        rw [HFP.out k hkl]
        have hJ2 : J (fitTo p key f k) W2 := HJ.out _ W1 _ none hJ1 (Below.grows hB2) (fun r e => by cases e)
        have hB12 : Below wr.heap.size wr W2 := hBa.trans (hB2.mono hBa.size)
        have hK2 : KeepF w0.heap.size B W W2 := hKf.trans (KeepF.of_below hB12 (by omega) (by omega))
        have hnew2 : W2.heap[wr.heap.size]? = some (.cells #[.int .i64 f, .bool tp, .int .i64 t, .string pt] 55 (0, 0)) := (hB2.block _ (by omega)).trans hnew
        have m0 := cell_of hnew2 0
        have m1 := cell_of hnew2 1
        have m2 := cell_of hnew2 2
        have m3 := cell_of hnew2 3
        simp at m0 m1 m2 m3
        clear e0 e1 e2 e3 e4 x0 x1 x2 y1 y2 y3 y4 hnew hnew2 b0 b2 hJ1
        cases hfit : fitP p k key with
        | false =>
          have HG : Hid (fitTo p key f (k + 1) = fitTo p key f k) := fitTo_no (by unfold goesB; rw [hfit]; simp)
          clear hfit
          gi_wp2
          refine ⟨fun f h => (nomatch h), ?_⟩
          gi_wp2
          go_roundw
          case rel => exact ⟨k + 1, by omega, by go_num, by rw [HG.out]; exact hJ2, hK2⟩
          case measure => simp [intOf]; omega
        | true =>
          have hgo : goesB p key f k = true := by unfold goesB; rw [HYB.out, hfit]; simp
          have HG : Hid (fitTo p key f (k + 1) = fitTo p key f k ++ [k]) := fitTo_yes hgo
          have HPre : Hid (fitTo p key f k ++ [k] <+: fitIdx p key f) := by
            show fitTo p key f k ++ [k] <+: fitIdx p key f
            rw [← fitTo_yes hgo]; unfold fitIdx; exact fitTo_pre p key f (by omega)
          have hlen : (fitTo p key f k).length < (fitIdx p key f).length := by
            have := HPre.out.length_le; simp at this; omega
          obtain ⟨fn, tmps, assign, body, hy, hR⟩ := HY.out _ k W2 hJ2 hlen
          have hval : (bAt p k).val = .agg #[.int .i64 f, .bool tp, .int .i64 t, .string pt] := by rw [HYB.out]; rfl
          rw [hval] at hy
          clear hfit hgo hval hJ2 hlen
          gi_wp2
          refine hR.mono ?_
          rintro e W3 (⟨rfl, hJ3, hK3⟩ | ⟨rfl, hJx3⟩)
          · gi_wp2
            go_roundw
            case rel => exact ⟨k + 1, by omega, by go_num, by rw [HG.out]; exact hJ3, hK2.trans hK3⟩
            case measure => simp [intOf]; omega
          · gi_wp2
            refine bodyPost_ret (results_none rfl _ _ _) rfl ?_
            exact ⟨⟨_, rfl⟩, .inr ⟨_, HPre.out, hJx3⟩⟩
      · have HG : Hid (fitTo p key v (k + 1) = fitTo p key v k) := fitTo_no (by unfold goesB; rw [HYB.out]; simp [hf])
        have hf' : (f != v) = true := bne_iff_ne.2 hf
        have HJ1 : Hid (J (fitTo p key v k) W1) := HJ.out _ wr _ none hJs (Below.grows hBa) (fun r e => by cases e)
        clear hJs hf
        gi_wp2
        rw [← HW1.out]
        go_roundw
        case rel => exact ⟨k + 1, by omega, by go_num, by rw [HG.out]; exact HJ1.out, hKf.trans (KeepF.of_below hBa (by omega) (by omega))⟩
        case measure => simp [intOf]; omega
    · have HE : Hid (fitTo p key v k = fitIdx p key v) := by show fitTo p key v k = _; unfold fitIdx; rw [HL3.out]; congr 1; omega
      gi_wp2
      go_end0
      exact ⟨⟨_, rfl⟩, .inl ⟨_, HE.out, hJs⟩⟩

/-- fitting's closure as an iterator. -/
theorem fit_stops (n : Nat) (hn : 1 ≤ n) (B : Nat) (p : PlanD) (a1 a2 a3 : Option Addr) (n1 c1 n2 c2 n3 c3 : Nat) (v : Int) (key : ByteArray) (w0 w : World) (hc : chkP p = 0) (hk : kerr key.data.toList = 0) (hp : PlanAt w0 a1 a2 a3 n1 n2 n3 p) (hB0 : w0.heap.size ≤ B)
    (hWB : B + 3 ≤ w.heap.size) (h0W : Below w0.heap.size w0 w) (hbx : FitBoxes w B a1 a2 a3 n1 c1 n2 c2 n3 c3 v key) :
    SeqStopsK Fence.wide n Try.prog 116 #[.pointer (some ⟨B, 0, none⟩), .pointer (some ⟨B + 1, 0, none⟩), .pointer (some ⟨B + 1 + 1, 0, none⟩)] (fun x : Nat => #[.int .i64 (x : Nat), (bAt p x).val]) (KeepF w0.heap.size B) (fun ys => ys = fitIdx p key v) (fun pre => pre <+: fitIdx p key v) (fitIdx p key v).length w := fun l J Jx W hW hJ _ hY h0 =>
  fitting1_in n hn l B p a1 a2 a3 n1 c1 n2 c2 n3 c3 v key w0 hc hk hp hB0 J Jx W (by have := hW.size; omega) (h0W.trans (hW.mono h0W.size)) (hbx.keep (KeepF.of_below (n0 := 0) hW (Nat.zero_le _) hWB)) hJ hY h0
theorem keepF_b {n0 B : Nat} {w : World} (hn : n0 ≤ w.heap.size) (hB : B + 3 ≤ w.heap.size) (W : World) (l : Nat) (o o' : Obj) (hl : w.heap.size ≤ l) (h : W.heap[l]? = some o) : KeepF n0 B W (W.putObj l o') :=
  ⟨⟨rfl, rfl, rfl, by simp [World.putObj], fun k hk => World.putObj_heap_other (by omega)⟩, fun j hj => World.putObj_heap_other (by omega)⟩
end Go.Proofs.Ythhkpgnjpieckaa

