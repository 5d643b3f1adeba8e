import Derived.Test.YtpoichgodamnkaaGreatGlx
import Derived.Maps.OwnOps
import Derived.Test.YtpoichgodamnkaaGreatGgx
/- Rw -/
namespace Go.Proofs.YtpoichgodamnkaaGreat
set_option linter.unusedVariables false
set_option maxRecDepth 100000
open Go.RowKit Go.Shelf Go.Maps
attribute [local go_sem] Oper.semAt_some

set_option maxRecDepth 100000 in
set_option maxHeartbeats 2000000 in
theorem queues_in (p : PlanD) (a1 a2 a3 : Option Addr) (n1 c1 n2 c2 n3 c3 : Nat) (v : Nat) (key : ByteArray) (w : World) (hc : chkP p = 0) (hk : kerr key.data.toList = 0) (hv : v < n1) (hp : PlanAt w a1 a2 a3 n1 n2 n3 p) :
    CallsIn Fence.wide 8 Tryz.prog 31 #[.agg #[.slice a1 n1 c1, .slice a2 n2 c2, .slice a3 n3 c3], .int .i64 (v : Nat), .string key] w fun e w' => ∃ zs a c, e = .returned (.tuple #[.slice a zs.length c, .int .i64 0]) ∧ QueuesIs p key v zs ∧ zs.length ≤ 12 ∧ IntsAt w' a zs ∧ Below w.heap.size w w' := by
  have hr := chk_right hc
  have h4 : n1 ≤ 4 := by have := hr.few.1; rw [hp.l1] at this; exact this
  have HRE : Hid (rtE p (v : Nat) key = 0) := by
    show rtE p (v : Nat) key = 0
    unfold rtE; rw [if_pos hc, if_pos (isNum_iff.2 ⟨by omega, by rw [hp.l1]; omega⟩), hk]
  have HR : Hid (∀ (L : Trails) (i : Nat), Reached (arcOf p key) p.binds.length v L i → (∀ x ∈ L, x.1 < n1) ∧ L.length ≤ n1 ∧ i ≤ L.length) := fun L i h => by
    have := reached_in hr (by rw [hp.l1]; exact hv) h; rw [hp.l1] at this; exact this
  have HRP : Hid (RightP p) := hr
  have HP : Hid (PlanAt w a1 a2 a3 n1 n2 n3 p) := hp
  have HCK : Hid (chkP p = 0 ∧ kerr key.data.toList = 0) := ⟨hc, hk⟩
  obtain ⟨W1, hW1, hBw, hs1, hbx⟩ := plan_boxed w (.slice a1 n1 c1) (.slice a2 n2 c2) (.slice a3 n3 c3) 26
  have HW1 : Hid (W1 = _) := hW1
  have hpb1 : W1.heap[w.heap.size]? = some (.cells #[.slice a1 n1 c1, .slice a2 n2 c2, .slice a3 n3 c3] 26 (0, 0)) := by rw [hW1]; exact World.alloc_heap_new w _
  have HP1 : Hid (PlanAt W1 a1 a2 a3 n1 n2 n3 p) := hp.keep hBw
  have BX : Hid (∀ W, Below W1.heap.size W1 W → W.cell? ⟨w.heap.size, 0, none⟩ = some (.slice a1 n1 c1) ∧ W.cell? ⟨w.heap.size, 1, none⟩ = some (.slice a2 n2 c2) ∧ W.cell? ⟨w.heap.size, 2, none⟩ = some (.slice a3 n3 c3)) := hbx
  have s1 := hBw.size
  clear hW1 hp hbx hc hk hr
  refine callsIn_of_wp_marks Tryz.func31 rfl trivial (Go.wpIn_mono ?_ calmly_out) rfl
  simp only [Tryz.ntmps31, List.size_toArray, List.length_cons, List.length_nil, Nat.reduceAdd, Nat.reduceSub, Array.replicate_succ, Array.replicate_zero, List.push_toArray, List.append_toArray, List.nil_append, List.cons_append]
  gi_wp2_with fail
  refine ⟨trivial, ?_⟩
  rw [← HW1.out]
  refine (callsIn_wide.2 (rtcheck_any p _ _ _ _ _ _ _ _ _ _ _ _ HP1.out)).mono ?_
  rintro e w2 ⟨rfl, hB2⟩
  rw [HRE.out]
  have s2 := hB2.size
  obtain ⟨d0, d1, d2⟩ := BX.out w2 hB2
  obtain ⟨W3, hW3⟩ : ∃ W3, W3 = w2.alloc (.cells #[.slice none 0 0] 48) := ⟨_, rfl⟩
  have HW3 : Hid (W3 = _) := hW3
  have hlb3 : Boxed W3 w2.heap.size 48 (.slice none 0 0) := by rw [hW3]; exact Boxed.new w2 _ _
  have hB3 : Below w2.heap.size w2 W3 := by rw [hW3]; exact (Below.refl _ _).alloc (Nat.le_refl _) _
  have hs3 : w2.heap.size + 1 ≤ W3.heap.size := by rw [hW3]; simp
  have hB13 : Below W1.heap.size W1 W3 := hB2.trans (hB3.mono s2)
  clear hW3
  have hww : w.heap.size < w2.heap.size := by omega
  gi_wp2_with fail
  refine ⟨trivial, ?_⟩
  rw [← HW3.out]
  clear d0 d1 d2
  refine (reach_in p _ _ _ _ _ _ _ _ _ v key W3 HCK.out.1 HCK.out.2 hv (HP1.out.keep hB13)).more (by omega) |>.mono ?_
  rintro e w4 ⟨up, bm, L, iL, rfl, hre, hiL, hrow, _, _, hB4⟩
  have hne : intsL L ≠ [] := fun e => by
    have := ((hre.came arc_lt).1).first
    have h0 : L = [] := by unfold intsL at e; exact List.map_eq_nil_iff.1 e
    rw [h0] at this; simp at this
  rw [ints_eq] at hrow
  obtain ⟨gp, cp, rfl, hgb, hgc, hgm, hir⟩ := row_ints hrow hne
  have hll : (intsL L).length = L.length := by unfold intsL; rw [List.length_map]
  have HLL : Hid ((intsL L).length = L.length) := hll
  have s4 := hB4.size
  have hB14 : Below W1.heap.size W1 w4 := hB13.trans (hB4.mono hB13.size)
  have hst : QSt w4 w2.heap.size (.slice none 0 0) (qL p (bindsOf p key (L.take 0))) [] w4 := ⟨Turn.refl _ _, (hB4.block _ (by omega)).trans hlb3, World.ownsRow_nil _ _ _ _, ⟨List.nodup_nil, fun D hD => by simp at hD⟩⟩
  have hpb4 : w4.heap[w.heap.size]? = some (.cells #[.slice a1 n1 c1, .slice a2 n2 c2, .slice a3 n3 c3] 26 (0, 0)) := (hB14.block _ (by omega)).trans hpb1
  have hB04 : Below w.heap.size w w4 := hBw.trans (hB14.mono s1)
  have HK := hidIt (And.intro hpb4 (And.intro hir hB04))
  have hgp := hir.lt
  have hLn := (HR.out L iL hre).2.1
  have HND : Hid ((L.map Prod.fst).Nodup) := ((hre.came arc_lt).1).once
  clear hrow hlb3 hB3 hB4 hB13 hB14 hpb1 hpb4 hir hB04 hll hne hB2
  gi_wp2_with fail
  refine wpIn_loop (fun a W => ∃ (i : Nat) (Ds : List Nat) (u u0 u1 u4 u5 u6 u7 u8 u10 u11 u12 u13 u14 u15 u16 u17 u18 u19 u20 u21 u22 u23 u24 u25 u26 u27 u28 u29 u33 u34 u35 u36 u37 u38 u39 u40 u41 u42 u43 u44 u45 u46 u47 u48 u49 u50 u51 u52 u53 u54 : Value), a = { tmps := #[u0, u1, .string key, .pointer (some ⟨w.heap.size, 0, none⟩), u4, u5, u6, u7, u8, .pointer (some ⟨w2.heap.size, 0, none⟩), u10, u11, u12, u13, u14, u15, u16, u17, u18, u19, u20, u21, u22, u23, u24, u25, u26, u27, u28, u29, .slice (some ⟨gp, 0, none⟩) (intsL L).length cp, .int .i64 ((intsL L).length : Nat), .int .i64 (i : Nat), u33, u34, u35, u36, u37, u38, u39, u40, u41, u42, u43, u44, u45, u46, u47, u48, u49, u50, u51, u52, u53, u54], defers := Ds.map markOf } ∧ i ≤ L.length ∧ QSt w4 w2.heap.size u (qL p (bindsOf p key (L.take i))) Ds W) (fun a _ => 5 - (intOf (a.tmps.getD 32 undef)).toNat) ⟨0, [], _, _, _, _, _, _, _, _, _, _, _, _, _, _, _, _, _, _, _, _, _, _, _, _, _, _, _, _, _, _, _, _, _, _, _, _, _, _, _, _, _, _, _, _, _, _, _, _, _, _, rfl, Nat.zero_le _, hst⟩ ?_
  rintro a W ⟨i, Ds, u, u0, u1, u4, u5, u6, u7, u8, u10, u11, u12, u13, u14, u15, u16, u17, u18, u19, u20, u21, u22, u23, u24, u25, u26, u27, u28, u29, u33, u34, u35, u36, u37, u38, u39, u40, u41, u42, u43, u44, u45, u46, u47, u48, u49, u50, u51, u52, u53, u54, rfl, hi, hs⟩
  have hW4 := hs.keep.size
  by_cases hlt' : i < (intsL L).length
  · have hlt : i < L.length := by have := HLL.out; omega
    obtain ⟨x, t, hxt⟩ : ∃ x t, L[i] = (x, t) := ⟨_, _, rfl⟩
    have e3 : W.cell? ⟨gp, i, none⟩ = some (.int .i64 (x : Nat)) := by
      have h1 := (HK.out.2.1.keep (hs.keep.block gp hgp (by omega))).cell (i := i) (by rw [HLL.out]; exact hlt)
      rw [h1]; simp [intsL, hxt]
    have hpb := (hs.keep.block w.heap.size (by omega) (by omega)).trans HK.out.1
    have e0 := cell_of hpb 0
    have e1 := cell_of hpb 1
    have e2 := cell_of hpb 2
    simp at e0 e1 e2
    have j1 : (0 : Int) ≤ (i : Int) := by omega
    have j2 : (i : Int) < ((intsL L).length : Int) := by have := HLL.out; omega
    obtain ⟨Wf, hWf, fb, hBW, hsW⟩ := fitting_boxes W a1 a2 a3 n1 c1 n2 c2 n3 c3 (x : Nat) key
    have HWF : Hid (Wf = _) := hWf
    have hsF := hs.below hBW
    have hDW := hs.marks.lt
    have hgu : ∀ g, u.ownBlock = some g → g < W.heap.size := fun g e => (hs.row.lt g e).2
    have HX : Hid (L[i] = (x, t)) := hxt
    have h0F : Below w.heap.size w Wf := HK.out.2.2.trans ((hs.keep.below (by omega) (fun k e => by omega)).trans (hBW.mono (by omega)))
    have hJ10 : (bindsOf p key (L.take i)).length ≤ 10 := by
      have hnd : ((L.take i).map Prod.fst).Nodup := (HND.out).sublist ((List.take_sublist i L).map _)
      have := bindsOf_len (p := p) (key := key) hnd; have := HRP.out.few.2.2; omega
    clear hWf hxt hpb
    gi_wp2_with fail
    refine ⟨trivial, ?_⟩
    refine (fitting_in _ _ _ _ _ _ _).mono ?_
    rintro e w' ⟨rfl, rfl⟩
    rw [← HWF.out]
    clear e0 e1 e2 e3
    gi_wp2_with fail
    refine wpIn_rangeFunc_ownH rfl (by omega) (gf := 152) (lb := #[.pointer (some ⟨W.heap.size, 0, none⟩), .pointer (some ⟨W.heap.size + 1, 0, none⟩), .pointer (some ⟨W.heap.size + 1 + 1, 0, none⟩)]) rfl trivial (enters_of Tryz.func152 (by kernel_rfl) rfl)
      (fit_stops 7 (by omega) W.heap.size p a1 a2 a3 n1 c1 n2 c2 n3 c3 (x : Nat) key w Wf HCK.out.1 HCK.out.2 HP.out (by omega) (by omega) h0F fb) (fun h k => h.trans k) (fun W' l o o' hl ho _ _ => keepF_b (by omega) (by omega) W' l o o' hl ho) (Below.refl _ _) (fun _ => rfl)
      (fun pre W' => ∃ u', QSt w4 w2.heap.size u' (qL p (bindsOf p key (L.take i) ++ pre)) Ds W' ∧ (∀ g', u'.ownBlock = some g' → g' < W.heap.size ∨ W.heap.size + 3 ≤ g') ∧ Wf.heap.size ≤ W'.heap.size)
      (fun _ _ _ => False)
      (fun pre W' W'' row hI hg hr => by
        obtain ⟨u', h1, h2, h3⟩ := hI
        exact ⟨u', h1.other hg hr (by omega) (by omega) (fun D hD => by have := hDW D hD; omega), h2, Nat.le_trans h3 hg.size⟩)
      (fun _ _ _ _ _ h _ _ => h)
      ⟨u, by rw [List.append_nil]; exact hsF, fun g' e => .inl (hgu g' e), Nat.le_refl _⟩
      (fun y a' W' => ∃ Bx, W.heap.size + 3 ≤ Bx ∧ W'.heap[Bx]? = some (.cells #[.int .i64 (bAt p y).src, .bool (bAt p y).toPost, .int .i64 (bAt p y).dst, .string (bAt p y).pat] 122 (0, 0)) ∧ a' = { tmps := #[u0, u1, .string key, .pointer (some ⟨w.heap.size, 0, none⟩), u4, u5, u6, u7, u8, .pointer (some ⟨w2.heap.size, 0, none⟩), u10, u11, u12, .int .i64 (x : Nat), u14, .pointer (some ⟨Bx, 0, none⟩), u16, u17, u18, u19, u20, u21, u22, u23, u24, u25, u26, u27, u28, u29, .slice (some ⟨gp, 0, none⟩) (intsL L).length cp, .int .i64 ((intsL L).length : Nat), .int .i64 (i : Nat), .bool true, .pointer (some ⟨gp, i, none⟩), .int .i64 (x : Nat), .agg #[.slice a1 n1 c1, .slice a2 n2 c2, .slice a3 n3 c3], .int .i64 (x : Nat), .string key, .func (.func 152) #[] #[.pointer (some ⟨W.heap.size, 0, none⟩), .pointer (some ⟨W.heap.size + 1, 0, none⟩), .pointer (some ⟨W.heap.size + 1 + 1, 0, none⟩)], .int .i64 (y : Nat), (bAt p y).val, u42, u43, u44, u45, u46, u47, u48, u49, u50, u51, u52, u53, u54], defers := [] })
      (fun y a' _ W' W'' row hA hg hr => by
        obtain ⟨Bx, h1, h2, h3⟩ := hA
        refine ⟨Bx, h1, (hg.block Bx (Array.getElem?_eq_some_iff.1 h2).1 (fun e => ?_)).trans h2, h3⟩
        obtain ⟨_, o, h4, h5⟩ := hr Bx e.symm
        rw [h2] at h4; cases h4; cases h5)
      ?assign ?body ?done ?stop
    case stop => rintro D c pre W' _ _ h _; exact h.elim
    case assign =>
      rintro l pre y W' K ⟨u', h1, h2, h3⟩ hK
      dsimp only [BindD.val]
      gi_wp2
      have hBa : Below W'.heap.size W' (W'.alloc (.cells #[.int .i64 (bAt p y).src, .bool (bAt p y).toPost, .int .i64 (bAt p y).dst, .string (bAt p y).pat] 122)) := (Below.refl _ _).alloc (Nat.le_refl _) _
      exact hK _ _ ((KeepsOthers.alloc _ _).from _) (KeepF.of_below hBa (by omega) (by omega)) ⟨u', h1.below hBa, h2, Nat.le_trans h3 hBa.size⟩ ⟨W'.heap.size, by omega, World.alloc_heap_new W' _, rfl⟩
    case body =>
      rintro l pre y a' W' hl _ ⟨u', h1, h2, h3⟩ ⟨Bx, hBx, hcell, rfl⟩ hlen
      have h10 := fitIdx_len (p := p) (key := key) (v := (x : Nat)) HRP.out.few.2.2
      have hql := qL_len p (bindsOf p key (L.take i) ++ pre)
      rw [List.length_append] at hql
      have hql' : (qL p (bindsOf p key (L.take i) ++ pre)).length ≤ 100 := by omega
      have m0 := cell_of hcell 0
      have m1 := cell_of hcell 1
      have m2 := cell_of hcell 2
      have m3 := cell_of hcell 3
      simp at m0 m1 m2 m3
      have lc' := h1.lbox.cell
      cases htp : (bAt p y).toPost with
      | true =>
        have HC : Hid (qL p (bindsOf p key (L.take i) ++ (pre ++ [y])) = qL p (bindsOf p key (L.take i) ++ pre)) := by show qL p _ = _; rw [← List.append_assoc]; exact qL_snoc_p htp
        rw [htp] at m1
        gi_wp2
        exact ⟨KeepsFrom.refl _ _, KeepF.refl _ _ _, u', by rw [HC.out]; exact h1, h2, h3⟩
      | false =>
        have HC : Hid (qL p (bindsOf p key (L.take i) ++ (pre ++ [y])) = qL p (bindsOf p key (L.take i) ++ pre) ++ [(bAt p y).dst]) := by show qL p _ = _; rw [← List.append_assoc]; exact qL_snoc_q htp
        rw [htp] at m1
        obtain ⟨i0, hi0, hz0, hz1, hz2⟩ := info_parts Tryz.infoInt
        have hW'4 := h1.keep.size
        obtain ⟨z, hz⟩ : ∃ z, z = (bAt p y).dst := ⟨_, rfl⟩
        rw [← hz] at m2 HC
        obtain ⟨ql, hqe⟩ : ∃ ql, ql = qL p (bindsOf p key (L.take i) ++ pre) := ⟨_, rfl⟩
        rw [← hqe] at h1 hql' HC
        clear htp hz hql hqe
        gi_wp2_with (gi_at_builtin; refine wpListIn_append_own_at _ rfl _ _ 48 rfl w4.heap.size 3 i0 (.int .i64 0) 1 8 Tryz.underlying48 hi0 hz0 hz1 hz2 rfl (by decide) _ _ _ rfl (h1.row.alloc _) ⟨W'.heap.size, 0, none⟩ 1 1 [.int .i64 z] rfl rfl (cell_one_new _ _ _) (by simp [Value.oneCell']) (by unfold maxLen; omega) (by omega) (by simp; omega) ?_; intro v' wc hown' hgrow _ hat'; obtain ⟨gn, capn, rfl⟩ := ownsRow_succ hown'; obtain ⟨hbx', hst', hturn⟩ := h1.push (by omega) hgrow (by simpa using hown'); have hc1 := hbx'.cell; have hf1 := hbx'.frozen)
        exact ⟨h1.keepsFrom hturn (by omega), h1.keepF hturn (by omega) (by omega) (by omega) (by omega) (by omega) h2, _, by rw [HC.out]; exact hst', fun g' e => by
          rcases (show Value.ownBlock (.slice (some ⟨gn, 0, none⟩) (ql.length + 1) capn) = u'.ownBlock ∨ Value.ownBlock (.slice (some ⟨gn, 0, none⟩) (ql.length + 1) capn) = some (W'.alloc _).heap.size from hat') with e2 | e2
          · exact h2 g' (e2.symm.trans e)
          · rw [e2] at e; simp only [Option.some.injEq, World.size_alloc] at e; omega, Nat.le_trans h3 hturn.size⟩
    case done =>
      rintro D ys W' hD hys ⟨u', h1, h2, h3⟩ hmark
      have hbt := bindsOf_take (p := p) (key := key) hlt
      rw [HX.out] at hbt
      rw [hys, ← hbt] at h1
      have h1' : QSt w4 w2.heap.size u' (qL p (bindsOf p key (L.take (i + 1)))) (D :: Ds) W' := ⟨h1.keep, h1.lbox, h1.row, h1.marks.cons (fun h => by have := hDW D h; omega) (by omega) hmark⟩
      clear h1 hys hbt
      gi_wp2_with fail
      exact ⟨⟨i + 1, D :: Ds, u', _, _, _, _, _, _, _, _, _, _, _, _, _, _, _, _, _, _, _, _, _, _, _, _, _, _, _, _, _, _, _, _, _, _, _, _, _, _, _, _, _, _, _, _, _, _, _, _, _, rfl, by omega, h1'⟩, by simp [intOf]; omega⟩
  · have lc := hs.lbox.cell
    have hiL' : i = L.length := by have := HLL.out; omega
    subst hiL'
    rw [List.take_length] at hs
    have hJ10 : (qL p (bindsOf p key L)).length ≤ 10 := by
      have h1 := qL_len p (bindsOf p key L)
      have h2 := bindsOf_len (p := p) (key := key) HND.out; have := HRP.out.few.2.2; omega
    have hB0W : Below w.heap.size w W := HK.out.2.2.trans (hs.keep.below (by omega) (fun k e => by omega))
    obtain ⟨ql, hqe⟩ : ∃ ql, ql = qL p (bindsOf p key L) := ⟨_, rfl⟩
    have HQ : Hid (ql = qL p (bindsOf p key L)) := hqe
    rw [← hqe] at hs hJ10
    clear hqe
    by_cases hq0 : ql = []
    · obtain ⟨au, cu, rfl⟩ : ∃ au cu, u = .slice au 0 cu := by
        rcases hs.row.2 with ⟨rfl, _⟩ | ⟨g, cap, cur, rfl, _⟩
        · exact ⟨none, 0, rfl⟩
        · exact ⟨_, cap, by rw [hq0]; rfl⟩
      gi_wp2_with fail
      refine ⟨trivial, ?_⟩
      refine (callsIn_wide.2 (sort_none _ _ _)).mono ?_
      rintro e w5 ⟨⟨q, rfl⟩, rfl⟩
      gi_wp2_with fail
      refine ⟨trivial, ?_⟩
      refine (callsIn_wide.2 (compact_none _ _ _)).mono ?_
      rintro e w6 ⟨rfl, rfl⟩
      gi_wp2_with fail
      refine leaves_marks (n0 := w4.heap.size) (Ds := Ds) hs.marks (fun W' hW' => ?_)
      exact ⟨_, results_tmp2 rfl _ _ _, [], au, cu, rfl, queues_of HRP.out hre hiL List.Pairwise.nil (fun z => by rw [← HQ.out, hq0]), by simp, .inl rfl, hB0W.trans (hW'.below hB0W.size (fun k h => by have := (hs.marks.there k h).1; omega))⟩
    · obtain ⟨g, cg, rfl, hgb, hgc, hgm, hir⟩ := row_ints hs.row hq0
      have hgne := hs.row_ne (g := g) rfl
      gi_wp2_with fail
      refine ⟨trivial, ?_⟩
      refine (callsIn_wide.2 (sort_any ql g _ cg _ rfl (by omega) hir)).mono ?_
      rintro e w5 ⟨⟨q, rfl⟩, ys, hpm, hso, hir5, ht5⟩
      have lc5 := (ht5.boxed hs.lbox (fun e => hgne.1 e.symm)).cell
      have hm5 := hs.marks.turn ht5 (fun D hD e => hgne.2 (by rw [← e]; exact hD))
      have hyl : ys.length = ql.length := hpm.length_eq
      have HYL : Hid (ys.length = ql.length) := hyl
      have HPM := hidIt (And.intro hpm hso)
      clear lc hyl hpm hso
      gi_wp2_with fail
      refine ⟨trivial, ?_⟩
      refine (callsIn_wide.2 (compact_any ys g _ cg _ HYL.out (by omega) hgc HPM.out.2 hir5)).mono ?_
      rintro e w6 ⟨zs, cz, rfl, hz12, hzr, hzm, hir6, ht6⟩
      have hm6 := hm5.turn ht6 (fun D hD e => hgne.2 (by rw [← e]; exact hD))
      clear lc5
      gi_wp2_with fail
      refine leaves_marks (n0 := w4.heap.size) (Ds := Ds) hm6 (fun W' hW' => ?_)
      have ht : Turn (fun k => w4.heap.size ≤ k) W W' := ((ht5.mono (fun k _ e => by rw [e]; exact hgb)).trans ht6 (fun k _ e => by rw [e]; exact hgb)).trans hW' (fun k _ h => (hm6.there k h).1)
      exact ⟨_, results_tmp2 rfl _ _ _, zs, _, cz, rfl, queues_of HRP.out hre hiL hzr (fun z => by rw [hzm, HPM.out.1.mem_iff, HQ.out]), hz12, (hir6.keep (hW'.block g hir6.lt hgne.2)).ints, hB0W.trans (ht.below hB0W.size (fun k h => by omega))⟩

set_option maxRecDepth 100000 in
set_option maxHeartbeats 1000000 in
theorem queues_any (p : PlanD) (a1 a2 a3 : Option Addr) (n1 c1 n2 c2 n3 c3 : Nat) (v : Int) (key : ByteArray) (w : World) (hp : PlanAt w a1 a2 a3 n1 n2 n3 p) :
    Calls Tryz.prog 31 #[.agg #[.slice a1 n1 c1, .slice a2 n2 c2, .slice a3 n3 c3], .int .i64 v, .string key] w fun e w' => ∃ zs a c, e = .returned (.tuple #[.slice a zs.length c, .int .i64 (rtE p v key)]) ∧ (rtE p v key = 0 → QueuesIs p key v.toNat zs) ∧ (rtE p v key ≠ 0 → zs = []) ∧ zs.length ≤ 12 ∧ IntsAt w' a zs ∧ Below w.heap.size w w' := by
  obtain ⟨d, hd⟩ : ∃ d, d = rtE p v key := ⟨_, rfl⟩
  rw [← hd]
  by_cases h0 : d = 0
  · obtain ⟨z1, z2, z3, z4⟩ := rt_zero (hd.symm.trans h0)
    obtain ⟨x, rfl⟩ := Int.eq_ofNat_of_zero_le z3
    refine (callsIn_wide.1 (queues_in p a1 a2 a3 n1 c1 n2 c2 n3 c3 x key w z1 z2 (by have := hp.l1; omega) hp)).mono ?_
    rintro e w' ⟨zs, a, c, rfl, h1, h2, h3, h4⟩
    exact ⟨zs, a, c, by rw [h0], fun _ => h1, fun h => absurd h0 h, h2, h3, h4⟩
  · obtain ⟨W1, hW1, hBw, hs1, hbx⟩ := plan_boxed w (.slice a1 n1 c1) (.slice a2 n2 c2) (.slice a3 n3 c3) 26
    have HW1 : Hid (W1 = _) := hW1
    have HP1 : Hid (PlanAt W1 a1 a2 a3 n1 n2 n3 p) := hp.keep hBw
    have HD : Hid (d = rtE p v key) := hd
    have s1 := hBw.size
    have h0' : (d != 0) = true := bne_iff_ne.2 h0
    have H0 : Hid (¬ d = 0) := h0
    clear h0 hd hW1 hp hbx hs1
    go_enter Tryz.func31, Tryz.ntmps31
    go_wp2_with fail
    rw [← HW1.out]
    refine (rtcheck_any p _ _ _ _ _ _ _ _ _ _ _ _ HP1.out).mono ?_
    rintro e w2 ⟨rfl, hB2⟩
    rw [← HD.out]
    go_wp2_with fail
    go_ret2
    exact ⟨[], none, 0, rfl, fun h => absurd h H0.out, fun _ => rfl, by simp, .inl rfl, hBw.trans (hB2.mono s1)⟩

end Go.Proofs.YtpoichgodamnkaaGreat

/- Rx -/
namespace Go.Proofs.YtpoichgodamnkaaGreat
set_option linter.unusedVariables false
set_option maxRecDepth 100000
open Go.RowKit Go.Maps

/-- A row of numbers of one's own. -/
def OwnInts (W : World) (base : Nat) (g cap : Nat) (zs : List Int) : Prop := W.ownsRow base 3 1 (.slice (some ⟨g, 0, none⟩) zs.length cap) zs.length (zs.map (Value.int .i64))
theorem OwnInts.parts {W : World} {base g cap : Nat} {zs : List Int} (h : OwnInts W base g cap zs) : base ≤ g ∧ zs.length ≤ cap ∧ cap ≤ maxLen ∧ ∃ cur, W.heap[g]? = some (.cells cur 3 (0, 0)) ∧ cur.size = cap ∧ cur.toList.take zs.length = zs.map (Value.int .i64) := by
  rcases h.2 with ⟨h1, _⟩ | ⟨g', cap', cur, h1, h2, h3, h4, h5, h6, h7⟩
  · cases h1
  · simp only [Value.slice.injEq, Option.some.injEq, Addr.mk.injEq, and_true, true_and] at h1
    obtain ⟨rfl, rfl⟩ := h1
    exact ⟨h2, h4, h5, cur, h3, by simpa using h6, by simpa using h7⟩
theorem OwnInts.mk {W : World} {base g cap : Nat} {zs : List Int} {cur : Array Value} (h1 : base ≤ g) (h2 : zs.length ≤ cap) (h3 : cap ≤ maxLen) (h4 : W.heap[g]? = some (.cells cur 3 (0, 0))) (h5 : cur.size = cap) (h6 : cur.toList.take zs.length = zs.map (Value.int .i64)) : OwnInts W base g cap zs :=
  ⟨by simp, .inr ⟨g, cap, cur, rfl, h1, h4, h2, h3, by simpa using h5, by simpa using h6⟩⟩
theorem OwnInts.row {W : World} {base g cap : Nat} {zs : List Int} (h : OwnInts W base g cap zs) : IntRow W g zs := by
  obtain ⟨_, _, _, cur, h4, h5, h6⟩ := h.parts
  refine ⟨cur, h4, fun i hi => ?_⟩
  have : (cur.toList.take zs.length)[i]? = some (.int .i64 zs[i]) := by rw [h6]; simp [hi]
  rw [List.getElem?_take, if_pos hi, Array.getElem?_toList] at this
  exact this
theorem OwnInts.keep {W W' : World} {base g cap : Nat} {zs : List Int} (h : OwnInts W base g cap zs) (e : W'.heap[g]? = W.heap[g]?) : OwnInts W' base g cap zs := by
  obtain ⟨h1, h2, h3, cur, h4, h5, h6⟩ := h.parts
  exact OwnInts.mk h1 h2 h3 (e.trans h4) h5 h6
theorem OwnInts.set {W : World} {base g cap : Nat} {zs : List Int} (h : OwnInts W base g cap zs) (i : Nat) (x : Int) : OwnInts (W.setCell ⟨g, i, none⟩ (.int .i64 x)) base g cap (zs.set i x) := by
  obtain ⟨h1, h2, h3, cur, h4, h5, h6⟩ := h.parts
  refine OwnInts.mk h1 (by simpa using h2) h3 (heap_setCell_same W g i cur 3 _ h4) (by simpa using h5) ?_
  rw [Array.toList_setIfInBounds, List.length_set, List.take_set, h6, List.map_set]

theorem rev_set {zs ys : List Int} {n i : Nat} (hz : zs.length = n) (hy : ys.length = n) (hlt : i < n - 1 - i) (hi : i < n)
    (h : ∀ k (hk : k < n), ys[k]'(by omega) = if k < i ∨ n ≤ k + i then zs[n - 1 - k]'(by omega) else zs[k]'(by omega)) (x0 x1 : Int) (h0 : x0 = ys[i]'(by omega)) (h1 : x1 = ys[n - 1 - i]'(by omega)) :
    ∀ k (hk : k < n), ((ys.set i x1).set (n - 1 - i) x0)[k]'(by simp; omega) = if k < i + 1 ∨ n ≤ k + (i + 1) then zs[n - 1 - k]'(by omega) else zs[k]'(by omega) := by
  intro k hk
  rw [List.getElem_set]
  by_cases e : n - 1 - i = k
  · rw [if_pos e, if_pos (by omega), h0, h i hi, if_neg (by omega)]
    congr 1; omega
  · rw [if_neg e, List.getElem_set]
    by_cases e2 : i = k
    · rw [if_pos e2, if_pos (by omega), h1, h _ (by omega), if_neg (by omega)]
      congr 1; omega
    · rw [if_neg e2, h k hk]
      by_cases e3 : k < i ∨ n ≤ k + i
      · rw [if_pos e3, if_pos (by omega)]
      · rw [if_neg e3, if_neg (by omega)]
theorem rev_done {zs ys : List Int} {n i : Nat} (hz : zs.length = n) (hy : ys.length = n) (hge : ¬ (i : Int) < (n : Int) - 1 - i)
    (h : ∀ k (hk : k < n), ys[k]'(by omega) = if k < i ∨ n ≤ k + i then zs[n - 1 - k]'(by omega) else zs[k]'(by omega)) : ys = zs.reverse := by
  apply List.ext_getElem (by simp; omega)
  intro k hk1 hk2
  rw [h k (by omega), List.getElem_reverse]
  by_cases e : k < i ∨ n ≤ k + i
  · rw [if_pos e]; congr 1; omega
  · rw [if_neg e]; congr 1; omega

end Go.Proofs.YtpoichgodamnkaaGreat

/- Ry -/
namespace Go.Proofs.YtpoichgodamnkaaGreat
set_option linter.unusedVariables false
set_option maxRecDepth 100000
open Go.RowKit Go.Maps

def natV (l : List Nat) : List Value := l.map (fun n => .int .i64 (n : Nat))
def lenV : Value → Nat | .slice _ n _ => n | _ => 0
theorem natV_ints (l : List Nat) : natV l = (l.map (fun n : Nat => (n : Int))).map (Value.int .i64) := by simp [natV]

theorem own_ints {W : World} {base : Nat} {u : Value} {zs : List Int} {n : Nat} (h : W.ownsRow base 3 1 u n (zs.map (Value.int .i64))) (hne : zs ≠ []) : ∃ g c, u = .slice (some ⟨g, 0, none⟩) zs.length c ∧ OwnInts W base g c zs := by
  have hn : n = zs.length := by have := h.1; simp at this; omega
  subst hn
  rcases h.2 with ⟨rfl, h0⟩ | ⟨g, cap, cur, rfl, hr⟩
  · exact absurd (List.length_eq_zero_iff.1 h0) hne
  · exact ⟨g, cap, rfl, h⟩
theorem natV_snoc (l : List Nat) (m : Nat) : natV (m :: l).reverse = natV l.reverse ++ [.int .i64 (m : Nat)] := by simp [natV]

/-- The post ahead of a post's last bind. -/
theorem trail_prev {p : PlanD} {key : ByteArray} {r : Nat} {L : Trails} {i n v m : Nat} {s : List Nat} (hc : Came (arcOf p key) r L i n) (hx : (v, s ++ [m]) ∈ L) : ∃ u, (u, s) ∈ L ∧ m < p.binds.length ∧ (bAt p m).src.toNat = u := by
  rcases hc.prev _ hx with e | ⟨y, hy, m', e⟩
  · simp at e
  · have h1 := List.append_inj' e rfl
    simp at h1
    obtain ⟨h1, h2⟩ := h1
    subst h2
    obtain ⟨u, hp, ha⟩ := (hc.path _ hx).inv_snoc
    have hu : u = y.1 := Path_end hp (by rw [h1]; exact hc.path _ hy)
    unfold arcOf at ha
    split at ha
    · rename_i hh
      simp at ha
      refine ⟨y.1, by rw [h1]; exact hy, hh.1, by omega⟩
    · cases ha

end Go.Proofs.YtpoichgodamnkaaGreat

/- Sa -/
namespace Go.Proofs.YtpoichgodamnkaaGreat
set_option linter.unusedVariables false
set_option maxRecDepth 100000
open Go.RowKit Go.Shelf Go.Maps
attribute [local go_sem] Oper.semAt_some

/-- Does bind m lead to that queue? -/
def toQ (p : PlanD) (q : Int) (m : Nat) : Bool := !(bAt p m).toPost && decide ((bAt p m).dst = q)
/-- The binds by which the key goes on to that queue. -/
def finOf (p : PlanD) (key : ByteArray) (q : Int) (m : Nat) : Option Nat := if m < p.binds.length ∧ fitP p m key = true ∧ toQ p q m = true then some (bAt p m).src.toNat else none
structure WayIs (p : PlanD) (key : ByteArray) (v : Nat) (q : Int) (ns : List Nat) : Prop where
  way : Way (arcOf p key) (finOf p key q) v ns
  least : ∀ t, Way (arcOf p key) (finOf p key q) v t → ¬ Slt t ns
  few : ns.length ≤ p.posts.length
def wayE (p : PlanD) (v : Int) (key : ByteArray) (q : Int) : Int := if rtE p v key = 0 then (if isNum q p.queues.length = true then 0 else 5) else rtE p v key

theorem five_heap (w W5 : World) (A B C D E : Obj) (h : W5 = ((((w.alloc A).alloc B).alloc C).alloc D).alloc E) : W5.heap.size = w.heap.size + 5 ∧ W5.heap[w.heap.size]? = some A ∧ W5.heap[w.heap.size + 1]? = some B ∧ W5.heap[w.heap.size + 1 + 1]? = some C ∧ W5.heap[w.heap.size + 1 + 1 + 1]? = some D ∧ W5.heap[w.heap.size + 1 + 1 + 1 + 1]? = some E ∧ Below w.heap.size w W5 := by
  subst h
  have hB := World.alloc_heap_new (w.alloc A) B
  have hC := World.alloc_heap_new ((w.alloc A).alloc B) C
  have hD := World.alloc_heap_new (((w.alloc A).alloc B).alloc C) D
  have hE := World.alloc_heap_new ((((w.alloc A).alloc B).alloc C).alloc D) E
  simp only [World.size_alloc] at hB hC hD hE
  refine ⟨by simp only [World.size_alloc], ?_, ?_, ?_, ?_, hE, ?_⟩
  · rw [Below.heap_alloc _ _ _ (by simp only [World.size_alloc]; omega), Below.heap_alloc _ _ _ (by simp only [World.size_alloc]; omega), Below.heap_alloc _ _ _ (by simp only [World.size_alloc]; omega), Below.heap_alloc _ _ _ (by simp only [World.size_alloc]; omega)]; exact World.alloc_heap_new w A
  · rw [Below.heap_alloc _ _ _ (by simp only [World.size_alloc]; omega), Below.heap_alloc _ _ _ (by simp only [World.size_alloc]; omega), Below.heap_alloc _ _ _ (by simp only [World.size_alloc]; omega)]; exact hB
  · rw [Below.heap_alloc _ _ _ (by simp only [World.size_alloc]; omega), Below.heap_alloc _ _ _ (by simp only [World.size_alloc]; omega)]; exact hC
  · rw [Below.heap_alloc _ _ _ (by simp only [World.size_alloc]; omega)]; exact hD
  · exact (((((Below.refl _ _).alloc (Nat.le_refl _) _).alloc (by simp) _).alloc (by simp; omega) _).alloc (by simp; omega) _).alloc (by simp; omega) _

theorem three_stores {W : World} {A B C : Nat} {ta tb tc : TypeId} {u0 u1 u2 : Value} (hA : Boxed W A ta u0) (hB : Boxed W B tb u1) (hC : Boxed W C tc u2) (hAB : A ≠ B) (hAC : A ≠ C) (hBC : B ≠ C) (x y z : Value) :
    Boxed (((W.setCell ⟨A, 0, none⟩ x).setCell ⟨B, 0, none⟩ y).setCell ⟨C, 0, none⟩ z) A ta x ∧ Boxed (((W.setCell ⟨A, 0, none⟩ x).setCell ⟨B, 0, none⟩ y).setCell ⟨C, 0, none⟩ z) B tb y ∧ Boxed (((W.setCell ⟨A, 0, none⟩ x).setCell ⟨B, 0, none⟩ y).setCell ⟨C, 0, none⟩ z) C tc z ∧ Turn (fun k => k = A ∨ k = B ∨ k = C) W (((W.setCell ⟨A, 0, none⟩ x).setCell ⟨B, 0, none⟩ y).setCell ⟨C, 0, none⟩ z) := by
  have a1 := hA.set x
  have b1 := hB.other (B' := A) hAB.symm x
  have c1 := hC.other (B' := A) hAC.symm x
  have a2 := a1.other (B' := B) hAB y
  have b2 := b1.set y
  have c2 := c1.other (B' := B) hBC.symm y
  refine ⟨a2.other hAC z, b2.other hBC z, c2.set z, ?_⟩
  have t1 := setCell_turn W A 0 x
  have t2 := setCell_turn (W.setCell ⟨A, 0, none⟩ x) B 0 y
  have t3 := setCell_turn ((W.setCell ⟨A, 0, none⟩ x).setCell ⟨B, 0, none⟩ y) C 0 z
  exact ((t1.mono (fun k _ e => .inl e)).trans t2 (fun k _ e => .inr (.inl e))).trans t3 (fun k _ e => .inr (.inr e))
theorem toQ_cases {p : PlanD} {q : Int} {m : Nat} : (toQ p q m = true ∧ (bAt p m).toPost = false ∧ (bAt p m).dst = q) ∨ (toQ p q m = false ∧ ((bAt p m).toPost = true ∨ ((bAt p m).toPost = false ∧ ¬ (bAt p m).dst = q))) := by
  unfold toQ
  cases (bAt p m).toPost <;> by_cases h : (bAt p m).dst = q <;> simp [h]

theorem way_found {p : PlanD} {key : ByteArray} (hr : RightP p) {v : Nat} (hv : v < p.posts.length) {q : Int} {L : Trails} {i : Nat} (h : Reached (arcOf p key) p.binds.length v L i) (hi : ¬ i < L.length) {j m : Nat} (hj : j < L.length) {pre : List Nat} (hpre : pre ++ [m] <+: fitIdx p key (L[j].1 : Nat)) (hm : toQ p q m = true)
    (hno : ∀ j' (hj' : j' < j), ∀ n ∈ fitIdx p key (L[j'].1 : Nat), toQ p q n = false) (hno2 : ∀ n ∈ pre, toQ p q n = false) : WayIs p key v q (L[j].2 ++ [m]) := by
  have hf := h.found arc_lt hi
  obtain ⟨_, hlen, _⟩ := reached_in hr hv h
  have hmm : m ∈ fitIdx p key (L[j].1 : Nat) := hpre.subset (by simp)
  obtain ⟨h1, h2, h3⟩ := fitIdx_mem.1 hmm
  have hF : finOf p key q m = some L[j].1 := by unfold finOf; rw [if_pos ⟨h1, h3, hm⟩, h2]; simp
  have hfin : ∀ {m' u}, finOf p key q m' = some u → m' < p.binds.length ∧ fitP p m' key = true ∧ toQ p q m' = true ∧ (bAt p m').src = (u : Nat) := by
    intro m' u e
    unfold finOf at e
    split at e
    · rename_i hh
      simp at e
      have hs : 0 ≤ (bAt p m').src := by rw [bAt_get hh.1]; exact (hr.src _ (List.getElem_mem hh.1)).1
      exact ⟨hh.1, hh.2.1, hh.2.2, by omega⟩
    · cases e
  obtain ⟨k1, k2, k3⟩ := hf.least hj hF (fun j' hj' m' e => by
      obtain ⟨e1, e2, e3, e4⟩ := hfin e
      have := hno j' hj' m' (fitIdx_mem.2 ⟨e1, e4, e2⟩)
      rw [e3] at this; cases this) (fun m' hlt e => by
      obtain ⟨e1, e2, e3, e4⟩ := hfin e
      have hin : m' ∈ fitIdx p key (L[j].1 : Nat) := fitIdx_mem.2 ⟨e1, e4, e2⟩
      have hsorted : (fitIdx p key (L[j].1 : Nat)).Pairwise (· < ·) := by unfold fitIdx fitTo; exact List.Pairwise.filter _ List.pairwise_lt_range
      obtain ⟨suf, hsuf⟩ := hpre
      rw [← hsuf] at hin hsorted
      have : m' ∈ pre := by
        rw [List.append_assoc, List.mem_append] at hin
        rcases hin with hin | hin
        · exact hin
        · rw [List.pairwise_append] at hsorted
          rcases List.mem_append.1 hin with hin | hin
          · simp at hin; omega
          · have := hsorted.2.2 m (by simp) m' hin; omega
      have := hno2 m' this
      rw [e3] at this; cases this)
  exact ⟨k1, k2, by omega⟩
theorem way_none {p : PlanD} {key : ByteArray} (hr : RightP p) {v : Nat} {q : Int} {L : Trails} {i : Nat} (h : Reached (arcOf p key) p.binds.length v L i) (hi : ¬ i < L.length)
    (hno : ∀ j (hj : j < L.length), ∀ n ∈ fitIdx p key (L[j].1 : Nat), toQ p q n = false) (t : List Nat) : ¬ Way (arcOf p key) (finOf p key q) v t := by
  refine (h.found arc_lt hi).none (fun j hj m e => ?_) t
  unfold finOf at e
  split at e
  · rename_i hh
    simp at e
    have hs : 0 ≤ (bAt p m).src := by rw [bAt_get hh.1]; exact (hr.src _ (List.getElem_mem hh.1)).1
    have := hno j hj m (fitIdx_mem.2 ⟨hh.1, by omega, hh.2.1⟩)
    rw [hh.2.2] at this; cases this
  · cases e

end Go.Proofs.YtpoichgodamnkaaGreat

/- Sb -/
namespace Go.Proofs.YtpoichgodamnkaaGreat
set_option linter.unusedVariables false
set_option maxRecDepth 100000
open Go.RowKit Go.Maps

theorem below_drewN2 {b n : Nat} {W w' : World} (h : Below b W w') : Below b W (w'.drewN n) := ⟨h.os, h.tape, h.output, h.size, h.block⟩
set_option maxHeartbeats 1000000 in
theorem same_ints (zs : List Int) (a1 a2 : Option Addr) (n c1 c2 : Nat) (w : World) (hn : zs.length = n) (hm : n ≤ 1000) (h1 : IntsAt w a1 zs) (h2 : IntsAt w a2 zs) :
    Calls Tryz.prog 47 #[.slice a1 n c1, .slice a2 n c2] w fun e w' => e = .returned (.bool true) ∧ Below w.heap.size w w' := by
  have HN : Hid (zs.length = n) := hn
  have H12 := hidIt (And.intro h1 h2)
  clear hn h1 h2
  go_enter Tryz.func47, Tryz.ntmps47
  go_wp2
  go_loopw [5] (fun i wr => ∃ (k : Nat), k ≤ n ∧ i = .int .i64 k ∧ Below w.heap.size w wr) (fun i _ => n - (intOf i).toNat)
  case atStart => exact ⟨0, Nat.zero_le _, rfl, Below.refl _ _⟩
  case round =>
    obtain ⟨k, hk, rfl, hB⟩ := hrel
    by_cases hlt : k < n
    · have hkl : k < zs.length := by rw [HN.out]; exact hlt
      rcases H12.out.1 with h | ⟨g, rfl, hg, hx⟩
      · rw [h] at hkl; simp at hkl
      rcases H12.out.2 with h | ⟨g', rfl, hg', hx'⟩
      · rw [h] at hkl; simp at hkl
      have d1 := (hB.cell (p := ⟨g, k, none⟩) hg).trans (hx k hkl)
      have d2 := (hB.cell (p := ⟨g', k, none⟩) hg').trans (hx' k hkl)
      obtain ⟨z, hz⟩ : ∃ z, z = zs[k] := ⟨_, rfl⟩
      rw [← hz] at d1 d2
      have j1 : (0 : Int) ≤ (k : Int) := by omega
      have j2 : (k : Int) < n := by omega
      clear hx hx' hz
      go_wp2
      go_quiet (fail)
      go_wp2
      go_roundw
      case rel => exact ⟨k + 1, by omega, by go_num, below_drewN2 hB⟩
      case measure => simp [intOf]; omega
    · go_wp2
      go_ret
      exact ⟨rfl, hB⟩

end Go.Proofs.YtpoichgodamnkaaGreat

/- Sc -/
namespace Go.Proofs.YtpoichgodamnkaaGreat
set_option linter.unusedVariables false
set_option maxRecDepth 100000
open Go.RowKit Go.Maps

def kxy : ByteArray := ⟨#[120, 46, 121]⟩
def kz : ByteArray := ⟨#[122]⟩
theorem fits_xy : fitP officeP 0 kxy = true ∧ fitP officeP 1 kxy = true ∧ fitP officeP 2 kxy = true ∧ fitP officeP 3 kxy = true ∧ fitP officeP 4 kxy = true := by decide +kernel
theorem fits_z : fitP officeP 0 kz = false ∧ fitP officeP 1 kz = false ∧ fitP officeP 2 kz = true ∧ fitP officeP 3 kz = true ∧ fitP officeP 4 kz = false := by decide +kernel
theorem arc_xy (n : Nat) : arcOf officeP kxy n = if n = 1 then some (0, 1) else if n = 3 then some (1, 0) else none := by
  match n with
  | 0 => decide +kernel
  | 1 => decide +kernel
  | 2 => decide +kernel
  | 3 => decide +kernel
  | 4 => decide +kernel
  | n + 5 => unfold arcOf; rw [if_neg (fun h => by have := h.1; simp [officeP] at this; omega), if_neg (by omega), if_neg (by omega)]
theorem arc_z (n : Nat) : arcOf officeP kz n = if n = 3 then some (1, 0) else none := by
  match n with
  | 0 => decide +kernel
  | 1 => decide +kernel
  | 2 => decide +kernel
  | 3 => decide +kernel
  | 4 => decide +kernel
  | n + 5 => unfold arcOf; rw [if_neg (fun h => by have := h.1; simp [officeP] at this; omega), if_neg (by omega)]
theorem path_xy {s : List Nat} {v : Nat} (h : Path (arcOf officeP kxy) 0 s v) : v = 0 ∨ v = 1 := by
  rcases h.inv with ⟨_, rfl⟩ | ⟨s', u, n, _, _, h3⟩
  · exact .inl rfl
  · rw [arc_xy] at h3
    split at h3
    · cases h3; exact .inr rfl
    · split at h3
      · cases h3; exact .inl rfl
      · cases h3
theorem path_z {s : List Nat} {v : Nat} (h : Path (arcOf officeP kz) 1 s v) : v = 0 ∨ v = 1 := by
  rcases h.inv with ⟨_, rfl⟩ | ⟨s', u, n, _, _, h3⟩
  · exact .inr rfl
  · rw [arc_z] at h3
    split at h3
    · cases h3; exact .inl rfl
    · cases h3
theorem p_xy0 : Path (arcOf officeP kxy) 0 [] 0 := .nil
theorem p_xy1 : Path (arcOf officeP kxy) 0 [1] 1 := Path.snoc (s := []) (n := 1) .nil (by rw [arc_xy]; rfl)
theorem p_z1 : Path (arcOf officeP kz) 1 [] 1 := .nil
theorem posts_xy : PostsIs officeP kxy 0 [0, 1] := by
  refine ⟨by decide, fun z => ⟨fun h => ?_, ?_⟩⟩
  · simp at h
    rcases h with rfl | rfl
    · exact ⟨0, rfl, _, p_xy0⟩
    · exact ⟨1, rfl, _, p_xy1⟩
  · rintro ⟨x, rfl, s, hs⟩
    rcases path_xy hs with rfl | rfl <;> decide
theorem bind_lt {n : Nat} (h : n < officeP.binds.length) : n = 0 ∨ n = 1 ∨ n = 2 ∨ n = 3 ∨ n = 4 := by
  have : n < 5 := h
  omega
theorem queues_xy : QueuesIs officeP kxy 0 [0, 1] := by
  obtain ⟨f0, f1, f2, f3, f4⟩ := fits_xy
  refine ⟨by decide, fun z => ⟨fun h => ?_, ?_⟩⟩
  · simp at h
    rcases h with rfl | rfl
    · exact ⟨0, by decide, f0, rfl, rfl, _, p_xy0⟩
    · exact ⟨2, by decide, f2, rfl, rfl, _, p_xy1⟩
  · rintro ⟨n, hn, hf, ht, rfl, s, hs⟩
    rcases bind_lt hn with rfl | rfl | rfl | rfl | rfl
    · decide
    · exact absurd ht (by decide)
    · decide
    · exact absurd ht (by decide)
    · rcases path_xy hs with h | h <;> exact absurd h (by decide)
theorem queues_z : QueuesIs officeP kz 1 [1] := by
  obtain ⟨f0, f1, f2, f3, f4⟩ := fits_z
  refine ⟨by decide, fun z => ⟨fun h => ?_, ?_⟩⟩
  · simp at h
    subst h
    exact ⟨2, by decide, f2, rfl, rfl, _, p_z1⟩
  · rintro ⟨n, hn, hf, ht, rfl, s, hs⟩
    rcases bind_lt hn with rfl | rfl | rfl | rfl | rfl
    · rw [f0] at hf; cases hf
    · exact absurd ht (by decide)
    · decide
    · exact absurd ht (by decide)
    · rw [f4] at hf; cases hf
theorem fin_1 (n : Nat) : finOf officeP kxy 1 n = if n = 2 then some 1 else none := by
  match n with
  | 0 => decide +kernel
  | 1 => decide +kernel
  | 2 => decide +kernel
  | 3 => decide +kernel
  | 4 => decide +kernel
  | n + 5 => unfold finOf; rw [if_neg (fun h => by have := h.1; simp [officeP] at this; omega), if_neg (by omega)]
theorem fin_2 (n : Nat) : finOf officeP kxy 2 n = if n = 4 then some 2 else none := by
  match n with
  | 0 => decide +kernel
  | 1 => decide +kernel
  | 2 => decide +kernel
  | 3 => decide +kernel
  | 4 => decide +kernel
  | n + 5 => unfold finOf; rw [if_neg (fun h => by have := h.1; simp [officeP] at this; omega), if_neg (by omega)]
theorem way_1 : WayIs officeP kxy 0 1 [1, 2] := by
  refine ⟨⟨[1], 1, 2, rfl, p_xy1, by rw [fin_1]; rfl⟩, ?_, by decide⟩
  rintro t ⟨s', u, m, rfl, hp, hf⟩ hlt
  rw [fin_1] at hf
  split at hf
  · rename_i hm
    cases hf
    subst hm
    rcases hp.inv with ⟨_, h⟩ | ⟨s2, u2, n, rfl, hp2, h3⟩
    · cases h
    · have hn : n = 1 ∧ u2 = 0 := by
        rw [arc_xy] at h3
        split at h3
        · cases h3; rename_i h; exact ⟨h, rfl⟩
        · split at h3 <;> cases h3
      obtain ⟨rfl, rfl⟩ := hn
      rcases s2.eq_nil_or_concat with rfl | ⟨s3, k, rfl⟩
      · exact Slt_irr _ hlt
      · rcases hlt with h | ⟨h, _⟩ <;> simp at h <;> omega
  · cases hf
theorem way_2 (t : List Nat) : ¬ Way (arcOf officeP kxy) (finOf officeP kxy 2) 0 t := by
  rintro ⟨s', u, m, rfl, hp, hf⟩
  rw [fin_2] at hf
  split at hf
  · cases hf
    rcases path_xy hp with h | h <;> cases h
  · cases hf
theorem WayIs.uniq {p : PlanD} {key : ByteArray} {v : Nat} {q : Int} {s t : List Nat} (hs : WayIs p key v q s) (ht : WayIs p key v q t) : s = t := by
  rcases Slt_tri s t with h | h | h
  · exact absurd h (ht.least _ hs.way)
  · exact h
  · exact absurd h (hs.least _ ht.way)
theorem rt_facts : rtE officeP 0 kxy = 0 ∧ rtE officeP 1 kz = 0 ∧ rtE officeP 3 kz = 5 ∧ wayE officeP 0 kxy 1 = 0 ∧ wayE officeP 0 kxy 2 = 0 := by decide +kernel


end Go.Proofs.YtpoichgodamnkaaGreat
