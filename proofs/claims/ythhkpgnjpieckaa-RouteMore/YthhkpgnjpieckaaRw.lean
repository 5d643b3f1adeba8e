/- route.Queues. -/
import Derived.Test.YthhkpgnjpieckaaRv
namespace Go.Proofs.Ythhkpgnjpieckaa
set_option linter.unusedVariables false
set_option maxRecDepth 100000
open Go.RowKit Go.Shelf Go.Maps
attribute [local go_sem] Oper.semAt_some

set_option maxRecDepth 100000 in
set_option maxHeartbeats 2000000 in
theorem queues_in (p : PlanD) (a1 a2 a3 : Option Addr) (n1 c1 n2 c2 n3 c3 : Nat) (v : Nat) (key : ByteArray) (w : World) (hc : chkP p = 0) (hk : kerr key.data.toList = 0) (hv : v < n1) (hp : PlanAt w a1 a2 a3 n1 n2 n3 p) :
    CallsIn Fence.wide 8 Try.prog 34 #[.agg #[.slice a1 n1 c1, .slice a2 n2 c2, .slice a3 n3 c3], .int .i64 (v : Nat), .string key] w fun e w' => ∃ zs a c, e = .returned (.tuple #[.slice a zs.length c, .int .i64 0]) ∧ QueuesIs p key v zs ∧ zs.length ≤ 12 ∧ IntsAt w' a zs ∧ Below w.heap.size w w' := by
  have hr := chk_right hc
  have h4 : n1 ≤ 4 := by have := hr.few.1; rw [hp.l1] at this; exact this
  have HRE : Hid (rtE p (v : Nat) key = 0) := by
    show rtE p (v : Nat) key = 0
    unfold rtE; rw [if_pos hc, if_pos (isNum_iff.2 ⟨by omega, by rw [hp.l1]; omega⟩), hk]
  have HR : Hid (∀ (L : Trails) (i : Nat), Reached (arcOf p key) p.binds.length v L i → (∀ x ∈ L, x.1 < n1) ∧ L.length ≤ n1 ∧ i ≤ L.length) := fun L i h => by
    have := reached_in hr (by rw [hp.l1]; exact hv) h; rw [hp.l1] at this; exact this
  have HRP : Hid (RightP p) := hr
  have HP : Hid (PlanAt w a1 a2 a3 n1 n2 n3 p) := hp
  have HCK : Hid (chkP p = 0 ∧ kerr key.data.toList = 0) := ⟨hc, hk⟩
  obtain ⟨W1, hW1, hBw, hs1, hbx⟩ := plan_boxed w (.slice a1 n1 c1) (.slice a2 n2 c2) (.slice a3 n3 c3) 40
  have HW1 : Hid (W1 = _) := hW1
  have hpb1 : W1.heap[w.heap.size]? = some (.cells #[.slice a1 n1 c1, .slice a2 n2 c2, .slice a3 n3 c3] 40 (0, 0)) := by rw [hW1]; exact World.alloc_heap_new w _
  have HP1 : Hid (PlanAt W1 a1 a2 a3 n1 n2 n3 p) := hp.keep hBw
  have BX : Hid (∀ W, Below W1.heap.size W1 W → W.cell? ⟨w.heap.size, 0, none⟩ = some (.slice a1 n1 c1) ∧ W.cell? ⟨w.heap.size, 1, none⟩ = some (.slice a2 n2 c2) ∧ W.cell? ⟨w.heap.size, 2, none⟩ = some (.slice a3 n3 c3)) := hbx
  have s1 := hBw.size
  clear hW1 hp hbx hc hk hr
  refine callsIn_of_wp_marks Try.func34 rfl trivial (Go.wpIn_mono ?_ calmly_out) rfl
  simp only [Try.ntmps34, List.size_toArray, List.length_cons, List.length_nil, Nat.reduceAdd, Nat.reduceSub, Array.replicate_succ, Array.replicate_zero, List.push_toArray, List.append_toArray, List.nil_append, List.cons_append]
  gi_wp2_with fail
  refine ⟨trivial, ?_⟩
  rw [← HW1.out]
  refine (callsIn_wide.2 (rtcheck_any p _ _ _ _ _ _ _ _ _ _ _ _ HP1.out)).mono ?_
  rintro e w2 ⟨rfl, hB2⟩
  rw [HRE.out]
  have s2 := hB2.size
  obtain ⟨d0, d1, d2⟩ := BX.out w2 hB2
  obtain ⟨W3, hW3⟩ : ∃ W3, W3 = w2.alloc (.cells #[.slice none 0 0] 45) := ⟨_, rfl⟩
  have HW3 : Hid (W3 = _) := hW3
  have hlb3 : Boxed W3 w2.heap.size 45 (.slice none 0 0) := by rw [hW3]; exact Boxed.new w2 _ _
  have hB3 : Below w2.heap.size w2 W3 := by rw [hW3]; exact (Below.refl _ _).alloc (Nat.le_refl _) _
  have hs3 : w2.heap.size + 1 ≤ W3.heap.size := by rw [hW3]; simp
  have hB13 : Below W1.heap.size W1 W3 := hB2.trans (hB3.mono s2)
  clear hW3
  have hww : w.heap.size < w2.heap.size := by omega
  gi_wp2_with fail
  refine ⟨trivial, ?_⟩
  rw [← HW3.out]
  clear d0 d1 d2
  refine (reach_in p _ _ _ _ _ _ _ _ _ v key W3 HCK.out.1 HCK.out.2 hv (HP1.out.keep hB13)).more (by omega) |>.mono ?_
  rintro e w4 ⟨up, bm, L, iL, rfl, hre, hiL, hrow, _, _, hB4⟩
  have hne : intsL L ≠ [] := fun e => by
    have := ((hre.came arc_lt).1).first
    have h0 : L = [] := by unfold intsL at e; exact List.map_eq_nil_iff.1 e
    rw [h0] at this; simp at this
  rw [ints_eq] at hrow
  obtain ⟨gp, cp, rfl, hgb, hgc, hgm, hir⟩ := row_ints hrow hne
  have hll : (intsL L).length = L.length := by unfold intsL; rw [List.length_map]
  have HLL : Hid ((intsL L).length = L.length) := hll
  have s4 := hB4.size
  have hB14 : Below W1.heap.size W1 w4 := hB13.trans (hB4.mono hB13.size)
  have hst : QSt w4 w2.heap.size (.slice none 0 0) (qL p (bindsOf p key (L.take 0))) [] w4 := ⟨Turn.refl _ _, (hB4.block _ (by omega)).trans hlb3, World.ownsRow_nil _ _ _ _, ⟨List.nodup_nil, fun D hD => by simp at hD⟩⟩
  have hpb4 : w4.heap[w.heap.size]? = some (.cells #[.slice a1 n1 c1, .slice a2 n2 c2, .slice a3 n3 c3] 40 (0, 0)) := (hB14.block _ (by omega)).trans hpb1
  have hB04 : Below w.heap.size w w4 := hBw.trans (hB14.mono s1)
  have HK := hidIt (And.intro hpb4 (And.intro hir hB04))
  have hgp := hir.lt
  have hLn := (HR.out L iL hre).2.1
  have HND : Hid ((L.map Prod.fst).Nodup) := ((hre.came arc_lt).1).once
  clear hrow hlb3 hB3 hB4 hB13 hB14 hpb1 hpb4 hir hB04 hll hne hB2
  gi_wp2_with fail
  refine wpIn_loop (fun a W => ∃ (i : Nat) (Ds : List Nat) (u u0 u1 u4 u5 u6 u7 u8 u10 u11 u12 u13 u14 u15 u16 u17 u18 u19 u20 u21 u22 u23 u24 u25 u26 u27 u28 u29 u33 u34 u35 u36 u37 u38 u39 u40 u41 u42 u43 u44 u45 u46 u47 u48 u49 u50 u51 u52 u53 u54 : Value), a = { tmps := #[u0, u1, .string key, .pointer (some ⟨w.heap.size, 0, none⟩), u4, u5, u6, u7, u8, .pointer (some ⟨w2.heap.size, 0, none⟩), u10, u11, u12, u13, u14, u15, u16, u17, u18, u19, u20, u21, u22, u23, u24, u25, u26, u27, u28, u29, .slice (some ⟨gp, 0, none⟩) (intsL L).length cp, .int .i64 ((intsL L).length : Nat), .int .i64 (i : Nat), u33, u34, u35, u36, u37, u38, u39, u40, u41, u42, u43, u44, u45, u46, u47, u48, u49, u50, u51, u52, u53, u54], defers := Ds.map markOf } ∧ i ≤ L.length ∧ QSt w4 w2.heap.size u (qL p (bindsOf p key (L.take i))) Ds W) (fun a _ => 5 - (intOf (a.tmps.getD 32 undef)).toNat) ⟨0, [], _, _, _, _, _, _, _, _, _, _, _, _, _, _, _, _, _, _, _, _, _, _, _, _, _, _, _, _, _, _, _, _, _, _, _, _, _, _, _, _, _, _, _, _, _, _, _, _, _, _, rfl, Nat.zero_le _, hst⟩ ?_
  rintro a W ⟨i, Ds, u, u0, u1, u4, u5, u6, u7, u8, u10, u11, u12, u13, u14, u15, u16, u17, u18, u19, u20, u21, u22, u23, u24, u25, u26, u27, u28, u29, u33, u34, u35, u36, u37, u38, u39, u40, u41, u42, u43, u44, u45, u46, u47, u48, u49, u50, u51, u52, u53, u54, rfl, hi, hs⟩
  have hW4 := hs.keep.size
  by_cases hlt' : i < (intsL L).length
  · have hlt : i < L.length := by have := HLL.out; omega
    obtain ⟨x, t, hxt⟩ : ∃ x t, L[i] = (x, t) := ⟨_, _, rfl⟩
    have e3 : W.cell? ⟨gp, i, none⟩ = some (.int .i64 (x : Nat)) := by
      have h1 := (HK.out.2.1.keep (hs.keep.block gp hgp (by omega))).cell (i := i) (by rw [HLL.out]; exact hlt)
      rw [h1]; simp [intsL, hxt]
    have hpb := (hs.keep.block w.heap.size (by omega) (by omega)).trans HK.out.1
    have e0 := cell_of hpb 0
    have e1 := cell_of hpb 1
    have e2 := cell_of hpb 2
    simp at e0 e1 e2
    have j1 : (0 : Int) ≤ (i : Int) := by omega
    have j2 : (i : Int) < ((intsL L).length : Int) := by have := HLL.out; omega
    obtain ⟨Wf, hWf, fb, hBW, hsW⟩ := fitting_boxes W a1 a2 a3 n1 c1 n2 c2 n3 c3 (x : Nat) key
    have HWF : Hid (Wf = _) := hWf
    have hsF := hs.below hBW
    have hDW := hs.marks.lt
    have hgu : ∀ g, u.ownBlock = some g → g < W.heap.size := fun g e => (hs.row.lt g e).2
    have HX : Hid (L[i] = (x, t)) := hxt
    have h0F : Below w.heap.size w Wf := HK.out.2.2.trans ((hs.keep.below (by omega) (fun k e => by omega)).trans (hBW.mono (by omega)))
    have hJ10 : (bindsOf p key (L.take i)).length ≤ 10 := by
      have hnd : ((L.take i).map Prod.fst).Nodup := (HND.out).sublist ((List.take_sublist i L).map _)
      have := bindsOf_len (p := p) (key := key) hnd; have := HRP.out.few.2.2; omega
    clear hWf hxt hpb
    gi_wp2_with fail
    refine ⟨trivial, ?_⟩
    refine (fitting_in _ _ _ _ _ _ _).mono ?_
    rintro e w' ⟨rfl, rfl⟩
    rw [← HWF.out]
    clear e0 e1 e2 e3
    gi_wp2_with fail
    refine wpIn_rangeFunc_ownH rfl (by omega) (gf := 116) (lb := #[.pointer (some ⟨W.heap.size, 0, none⟩), .pointer (some ⟨W.heap.size + 1, 0, none⟩), .pointer (some ⟨W.heap.size + 1 + 1, 0, none⟩)]) rfl trivial (enters_of Try.func116 (by kernel_rfl) rfl)
      (fit_stops 7 (by omega) W.heap.size p a1 a2 a3 n1 c1 n2 c2 n3 c3 (x : Nat) key w Wf HCK.out.1 HCK.out.2 HP.out (by omega) (by omega) h0F fb) (fun h k => h.trans k) (fun W' l o o' hl ho _ _ => keepF_b (by omega) (by omega) W' l o o' hl ho) (Below.refl _ _) (fun _ => rfl)
      (fun pre W' => ∃ u', QSt w4 w2.heap.size u' (qL p (bindsOf p key (L.take i) ++ pre)) Ds W' ∧ (∀ g', u'.ownBlock = some g' → g' < W.heap.size ∨ W.heap.size + 3 ≤ g') ∧ Wf.heap.size ≤ W'.heap.size)
      (fun _ _ _ => False)
      (fun pre W' W'' row hI hg hr => by
        obtain ⟨u', h1, h2, h3⟩ := hI
        exact ⟨u', h1.other hg hr (by omega) (by omega) (fun D hD => by have := hDW D hD; omega), h2, Nat.le_trans h3 hg.size⟩)
      (fun _ _ _ _ _ h _ _ => h)
      ⟨u, by rw [List.append_nil]; exact hsF, fun g' e => .inl (hgu g' e), Nat.le_refl _⟩
      (fun y a' W' => ∃ Bx, W.heap.size + 3 ≤ Bx ∧ W'.heap[Bx]? = some (.cells #[.int .i64 (bAt p y).src, .bool (bAt p y).toPost, .int .i64 (bAt p y).dst, .string (bAt p y).pat] 55 (0, 0)) ∧ a' = { tmps := #[u0, u1, .string key, .pointer (some ⟨w.heap.size, 0, none⟩), u4, u5, u6, u7, u8, .pointer (some ⟨w2.heap.size, 0, none⟩), u10, u11, u12, .int .i64 (x : Nat), u14, .pointer (some ⟨Bx, 0, none⟩), u16, u17, u18, u19, u20, u21, u22, u23, u24, u25, u26, u27, u28, u29, .slice (some ⟨gp, 0, none⟩) (intsL L).length cp, .int .i64 ((intsL L).length : Nat), .int .i64 (i : Nat), .bool true, .pointer (some ⟨gp, i, none⟩), .int .i64 (x : Nat), .agg #[.slice a1 n1 c1, .slice a2 n2 c2, .slice a3 n3 c3], .int .i64 (x : Nat), .string key, .func (.func 116) #[] #[.pointer (some ⟨W.heap.size, 0, none⟩), .pointer (some ⟨W.heap.size + 1, 0, none⟩), .pointer (some ⟨W.heap.size + 1 + 1, 0, none⟩)], .int .i64 (y : Nat), (bAt p y).val, u42, u43, u44, u45, u46, u47, u48, u49, u50, u51, u52, u53, u54], defers := [] })
      (fun y a' _ W' W'' row hA hg hr => by
        obtain ⟨Bx, h1, h2, h3⟩ := hA
        refine ⟨Bx, h1, (hg.block Bx (Array.getElem?_eq_some_iff.1 h2).1 (fun e => ?_)).trans h2, h3⟩
        obtain ⟨_, o, h4, h5⟩ := hr Bx e.symm
        rw [h2] at h4; cases h4; cases h5)
      ?assign ?body ?done ?stop
    case stop => rintro D c pre W' _ _ h _; exact h.elim
    case assign =>
      rintro l pre y W' K ⟨u', h1, h2, h3⟩ hK
      dsimp only [BindD.val]
      gi_wp2
      have hBa : Below W'.heap.size W' (W'.alloc (.cells #[.int .i64 (bAt p y).src, .bool (bAt p y).toPost, .int .i64 (bAt p y).dst, .string (bAt p y).pat] 55)) := (Below.refl _ _).alloc (Nat.le_refl _) _
      exact hK _ _ ((KeepsOthers.alloc _ _).from _) (KeepF.of_below hBa (by omega) (by omega)) ⟨u', h1.below hBa, h2, Nat.le_trans h3 hBa.size⟩ ⟨W'.heap.size, by omega, World.alloc_heap_new W' _, rfl⟩
    case body =>
      rintro l pre y a' W' hl _ ⟨u', h1, h2, h3⟩ ⟨Bx, hBx, hcell, rfl⟩ hlen
      have h10 := fitIdx_len (p := p) (key := key) (v := (x : Nat)) HRP.out.few.2.2
      have hql := qL_len p (bindsOf p key (L.take i) ++ pre)
      rw [List.length_append] at hql
      have hql' : (qL p (bindsOf p key (L.take i) ++ pre)).length ≤ 100 := by omega
      have m0 := cell_of hcell 0
      have m1 := cell_of hcell 1
      have m2 := cell_of hcell 2
      have m3 := cell_of hcell 3
      simp at m0 m1 m2 m3
      have lc' := h1.lbox.cell
      cases htp : (bAt p y).toPost with
      | true =>
        have HC : Hid (qL p (bindsOf p key (L.take i) ++ (pre ++ [y])) = qL p (bindsOf p key (L.take i) ++ pre)) := by show qL p _ = _; rw [← List.append_assoc]; exact qL_snoc_p htp
        rw [htp] at m1
        gi_wp2
        exact ⟨KeepsFrom.refl _ _, KeepF.refl _ _ _, u', by rw [HC.out]; exact h1, h2, h3⟩
      | false =>
        have HC : Hid (qL p (bindsOf p key (L.take i) ++ (pre ++ [y])) = qL p (bindsOf p key (L.take i) ++ pre) ++ [(bAt p y).dst]) := by show qL p _ = _; rw [← List.append_assoc]; exact qL_snoc_q htp
        rw [htp] at m1
        obtain ⟨i0, hi0, hz0, hz1, hz2⟩ := info_parts Try.infoInt
        have hW'4 := h1.keep.size
        obtain ⟨z, hz⟩ : ∃ z, z = (bAt p y).dst := ⟨_, rfl⟩
        rw [← hz] at m2 HC
        obtain ⟨ql, hqe⟩ : ∃ ql, ql = qL p (bindsOf p key (L.take i) ++ pre) := ⟨_, rfl⟩
        rw [← hqe] at h1 hql' HC
        clear htp hz hql hqe
        gi_wp2_with (gi_at_builtin; refine wpListIn_append_own_at _ rfl _ _ 45 rfl w4.heap.size 3 i0 (.int .i64 0) 1 8 Try.underlying45 hi0 hz0 hz1 hz2 rfl (by decide) _ _ _ rfl (h1.row.alloc _) ⟨W'.heap.size, 0, none⟩ 1 1 [.int .i64 z] rfl rfl (cell_one_new _ _ _) (by simp [Value.oneCell']) (by unfold maxLen; omega) (by omega) (by simp; omega) ?_; intro v' wc hown' hgrow _ hat'; obtain ⟨gn, capn, rfl⟩ := ownsRow_succ hown'; obtain ⟨hbx', hst', hturn⟩ := h1.push (by omega) hgrow (by simpa using hown'); have hc1 := hbx'.cell; have hf1 := hbx'.frozen)
        exact ⟨h1.keepsFrom hturn (by omega), h1.keepF hturn (by omega) (by omega) (by omega) (by omega) (by omega) h2, _, by rw [HC.out]; exact hst', fun g' e => by
          rcases (show Value.ownBlock (.slice (some ⟨gn, 0, none⟩) (ql.length + 1) capn) = u'.ownBlock ∨ Value.ownBlock (.slice (some ⟨gn, 0, none⟩) (ql.length + 1) capn) = some (W'.alloc _).heap.size from hat') with e2 | e2
          · exact h2 g' (e2.symm.trans e)
          · rw [e2] at e; simp only [Option.some.injEq, World.size_alloc] at e; omega, Nat.le_trans h3 hturn.size⟩
    case done =>
      rintro D ys W' hD hys ⟨u', h1, h2, h3⟩ hmark
      have hbt := bindsOf_take (p := p) (key := key) hlt
      rw [HX.out] at hbt
      rw [hys, ← hbt] at h1
      have h1' : QSt w4 w2.heap.size u' (qL p (bindsOf p key (L.take (i + 1)))) (D :: Ds) W' := ⟨h1.keep, h1.lbox, h1.row, h1.marks.cons (fun h => by have := hDW D h; omega) (by omega) hmark⟩
      clear h1 hys hbt
      gi_wp2_with fail
      exact ⟨⟨i + 1, D :: Ds, u', _, _, _, _, _, _, _, _, _, _, _, _, _, _, _, _, _, _, _, _, _, _, _, _, _, _, _, _, _, _, _, _, _, _, _, _, _, _, _, _, _, _, _, _, _, _, _, _, _, rfl, by omega, h1'⟩, by simp [intOf]; omega⟩
  · have lc := hs.lbox.cell
    have hiL' : i = L.length := by have := HLL.out; omega
    subst hiL'
    rw [List.take_length] at hs
    have hJ10 : (qL p (bindsOf p key L)).length ≤ 10 := by
      have h1 := qL_len p (bindsOf p key L)
      have h2 := bindsOf_len (p := p) (key := key) HND.out; have := HRP.out.few.2.2; omega
    have hB0W : Below w.heap.size w W := HK.out.2.2.trans (hs.keep.below (by omega) (fun k e => by omega))
    obtain ⟨ql, hqe⟩ : ∃ ql, ql = qL p (bindsOf p key L) := ⟨_, rfl⟩
    have HQ : Hid (ql = qL p (bindsOf p key L)) := hqe
    rw [← hqe] at hs hJ10
    clear hqe
    by_cases hq0 : ql = []
    · obtain ⟨au, cu, rfl⟩ : ∃ au cu, u = .slice au 0 cu := by
        rcases hs.row.2 with ⟨rfl, _⟩ | ⟨g, cap, cur, rfl, _⟩
        · exact ⟨none, 0, rfl⟩
        · exact ⟨_, cap, by rw [hq0]; rfl⟩
      gi_wp2_with fail
      refine ⟨trivial, ?_⟩
      refine (callsIn_wide.2 (sort_none _ _ _)).mono ?_
      rintro e w5 ⟨⟨q, rfl⟩, rfl⟩
      gi_wp2_with fail
      refine ⟨trivial, ?_⟩
      refine (callsIn_wide.2 (compact_none _ _ _)).mono ?_
      rintro e w6 ⟨rfl, rfl⟩
      gi_wp2_with fail
      refine leaves_marks (n0 := w4.heap.size) (Ds := Ds) hs.marks (fun W' hW' => ?_)
      exact ⟨_, results_tmp2 rfl _ _ _, [], au, cu, rfl, queues_of HRP.out hre hiL List.Pairwise.nil (fun z => by rw [← HQ.out, hq0]), by simp, .inl rfl, hB0W.trans (hW'.below hB0W.size (fun k h => by have := (hs.marks.there k h).1; omega))⟩
    · obtain ⟨g, cg, rfl, hgb, hgc, hgm, hir⟩ := row_ints hs.row hq0
      have hgne := hs.row_ne (g := g) rfl
      gi_wp2_with fail
      refine ⟨trivial, ?_⟩
      refine (callsIn_wide.2 (sort_any ql g _ cg _ rfl (by omega) hir)).mono ?_
      rintro e w5 ⟨⟨q, rfl⟩, ys, hpm, hso, hir5, ht5⟩
      have lc5 := (ht5.boxed hs.lbox (fun e => hgne.1 e.symm)).cell
      have hm5 := hs.marks.turn ht5 (fun D hD e => hgne.2 (by rw [← e]; exact hD))
      have hyl : ys.length = ql.length := hpm.length_eq
      have HYL : Hid (ys.length = ql.length) := hyl
      have HPM := hidIt (And.intro hpm hso)
      clear lc hyl hpm hso
      gi_wp2_with fail
      refine ⟨trivial, ?_⟩
      refine (callsIn_wide.2 (compact_any ys g _ cg _ HYL.out (by omega) hgc HPM.out.2 hir5)).mono ?_
      rintro e w6 ⟨zs, cz, rfl, hz12, hzr, hzm, hir6, ht6⟩
      have hm6 := hm5.turn ht6 (fun D hD e => hgne.2 (by rw [← e]; exact hD))
      clear lc5
      gi_wp2_with fail
      refine leaves_marks (n0 := w4.heap.size) (Ds := Ds) hm6 (fun W' hW' => ?_)
      have ht : Turn (fun k => w4.heap.size ≤ k) W W' := ((ht5.mono (fun k _ e => by rw [e]; exact hgb)).trans ht6 (fun k _ e => by rw [e]; exact hgb)).trans hW' (fun k _ h => (hm6.there k h).1)
      exact ⟨_, results_tmp2 rfl _ _ _, zs, _, cz, rfl, queues_of HRP.out hre hiL hzr (fun z => by rw [hzm, HPM.out.1.mem_iff, HQ.out]), hz12, (hir6.keep (hW'.block g hir6.lt hgne.2)).ints, hB0W.trans (ht.below hB0W.size (fun k h => by omega))⟩

set_option maxRecDepth 100000 in
set_option maxHeartbeats 1000000 in
theorem queues_any (p : PlanD) (a1 a2 a3 : Option Addr) (n1 c1 n2 c2 n3 c3 : Nat) (v : Int) (key : ByteArray) (w : World) (hp : PlanAt w a1 a2 a3 n1 n2 n3 p) :
    Calls Try.prog 34 #[.agg #[.slice a1 n1 c1, .slice a2 n2 c2, .slice a3 n3 c3], .int .i64 v, .string key] w fun e w' => ∃ zs a c, e = .returned (.tuple #[.slice a zs.length c, .int .i64 (rtE p v key)]) ∧ (rtE p v key = 0 → QueuesIs p key v.toNat zs) ∧ (rtE p v key ≠ 0 → zs = []) ∧ zs.length ≤ 12 ∧ IntsAt w' a zs ∧ Below w.heap.size w w' := by
  obtain ⟨d, hd⟩ : ∃ d, d = rtE p v key := ⟨_, rfl⟩
  rw [← hd]
  by_cases h0 : d = 0
  · obtain ⟨z1, z2, z3, z4⟩ := rt_zero (hd.symm.trans h0)
    obtain ⟨x, rfl⟩ := Int.eq_ofNat_of_zero_le z3
    refine (callsIn_wide.1 (queues_in p a1 a2 a3 n1 c1 n2 c2 n3 c3 x key w z1 z2 (by have := hp.l1; omega) hp)).mono ?_
    rintro e w' ⟨zs, a, c, rfl, h1, h2, h3, h4⟩
    exact ⟨zs, a, c, by rw [h0], fun _ => h1, fun h => absurd h0 h, h2, h3, h4⟩
  · obtain ⟨W1, hW1, hBw, hs1, hbx⟩ := plan_boxed w (.slice a1 n1 c1) (.slice a2 n2 c2) (.slice a3 n3 c3) 40
    have HW1 : Hid (W1 = _) := hW1
    have HP1 : Hid (PlanAt W1 a1 a2 a3 n1 n2 n3 p) := hp.keep hBw
    have HD : Hid (d = rtE p v key) := hd
    have s1 := hBw.size
    have h0' : (d != 0) = true := bne_iff_ne.2 h0
    have H0 : Hid (¬ d = 0) := h0
    clear h0 hd hW1 hp hbx hs1
    go_enter Try.func34, Try.ntmps34
    go_wp2_with fail
    rw [← HW1.out]
    refine (rtcheck_any p _ _ _ _ _ _ _ _ _ _ _ _ HP1.out).mono ?_
    rintro e w2 ⟨rfl, hB2⟩
    rw [← HD.out]
    go_wp2_with fail
    go_ret2
    exact ⟨[], none, 0, rfl, fun h => absurd h H0.out, fun _ => rfl, by simp, .inl rfl, hBw.trans (hB2.mono s1)⟩
end Go.Proofs.Ythhkpgnjpieckaa
