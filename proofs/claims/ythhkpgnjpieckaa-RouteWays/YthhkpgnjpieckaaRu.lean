/- route.Posts. -/
import Derived.Test.YthhkpgnjpieckaaRt
namespace Go.Proofs.Ythhkpgnjpieckaa
set_option linter.unusedVariables false
set_option maxRecDepth 100000
open Go.RowKit Go.Maps

theorem ret_sli {a : Option Addr} {m n c : Nat} {d : Int} (h : m = n) : Ending.returned (.tuple #[.slice a m c, .int .i64 d]) = .returned (.tuple #[.slice a n c, .int .i64 d]) := by rw [h]
/-- Numbers wherever they lie. -/
def IntsAt (W : World) (a : Option Addr) (zs : List Int) : Prop := zs = [] ∨ ∃ g, a = some ⟨g, 0, none⟩ ∧ g < W.heap.size ∧ ∀ i (h : i < zs.length), W.cell? ⟨g, i, none⟩ = some (.int .i64 zs[i])
theorem IntsAt.keep {W W' : World} {a : Option Addr} {zs : List Int} (h : IntsAt W a zs) (hB : Below W.heap.size W W') : IntsAt W' a zs := by
  rcases h with h | ⟨g, ha, hg, h⟩
  · exact .inl h
  · exact .inr ⟨g, ha, Nat.lt_of_lt_of_le hg hB.size, fun i hi => (hB.cell (p := ⟨g, i, none⟩) hg).trans (h i hi)⟩
theorem IntRow.ints {W : World} {g : Nat} {zs : List Int} (h : IntRow W g zs) : IntsAt W (some ⟨g, 0, none⟩) zs := .inr ⟨g, rfl, h.lt, fun i hi => h.cell hi⟩
theorem row_ints {W : World} {base : Nat} {u : Value} {zs : List Int} {n : Nat} (h : W.ownsRow base 3 1 u n (zs.map (Value.int .i64))) (hne : zs ≠ []) : ∃ g c, u = .slice (some ⟨g, 0, none⟩) zs.length c ∧ base ≤ g ∧ zs.length ≤ c ∧ c ≤ maxLen ∧ IntRow W g zs := by
  have hn : n = zs.length := by have := h.1; simp at this; omega
  subst hn
  rcases h.2 with ⟨rfl, h0⟩ | ⟨g, cap, cur, rfl, hb, hg, h1, h2, _⟩
  · exact absurd (List.length_eq_zero_iff.1 h0) hne
  · refine ⟨g, cap, rfl, hb, h1, h2, cur, hg, fun i hi => ?_⟩
    have hc := h.cells (g := g) rfl i (.int .i64 zs[i]) (by simp [hi])
    rw [addr_add2, Nat.zero_add, cell_of hg] at hc
    exact hc

/-- The posts to which the key comes, rising. -/
structure PostsIs (p : PlanD) (key : ByteArray) (v : Nat) (zs : List Int) : Prop where
  rise : zs.Pairwise (· < ·)
  mem : ∀ z, z ∈ zs ↔ ∃ x : Nat, z = x ∧ ∃ s, Path (arcOf p key) v s x
theorem rise_uniq {xs ys : List Int} (hx : xs.Pairwise (· < ·)) (hy : ys.Pairwise (· < ·)) (h : ∀ z, z ∈ xs ↔ z ∈ ys) : xs = ys := by
  have nx : xs.Nodup := hx.imp (fun h => by omega)
  have ny : ys.Nodup := hy.imp (fun h => by omega)
  exact ((List.perm_ext_iff_of_nodup nx ny).2 h).eq_of_pairwise (le := (· < ·)) (fun a b _ _ h1 h2 => by omega) hx hy
theorem PostsIs.uniq {p : PlanD} {key : ByteArray} {v : Nat} {xs ys : List Int} (hx : PostsIs p key v xs) (hy : PostsIs p key v ys) : xs = ys :=
  rise_uniq hx.rise hy.rise (fun z => by rw [hx.mem, hy.mem])
def intsL (L : Trails) : List Int := L.map (fun x => (x.1 : Int))
theorem ints_eq (L : Trails) : ints L = (intsL L).map (Value.int .i64) := by simp [ints, intsL]
theorem sorted_pw {ys : List Int} (h : SortedTo ys ys.length) : ys.Pairwise (· ≤ ·) := List.pairwise_iff_getElem.2 (fun i j hi hj hij => h i j hij hj hj)
theorem posts_of_sort {p : PlanD} {key : ByteArray} {v : Nat} {L : Trails} {i : Nat} (h : Reached (arcOf p key) p.binds.length v L i) (hi : ¬ i < L.length) {ys : List Int} (hp : ys.Perm (intsL L)) (hs : SortedTo ys ys.length) : PostsIs p key v ys := by
  have hf := h.found arc_lt hi
  have hc := (h.came arc_lt).1
  have hnd : (intsL L).Nodup := by
    have h1 : intsL L = (L.map Prod.fst).map (fun x : Nat => (x : Int)) := by simp [intsL]
    rw [h1]
    exact List.Pairwise.map _ (fun a b hab e => hab (by omega)) hc.once
  have hny := hp.nodup_iff.2 hnd
  refine ⟨?_, fun z => ?_⟩
  · have h1 := sorted_pw hs
    have h2 : ys.Pairwise (· ≠ ·) := hny
    exact (h1.and h2).imp (fun h => by omega)
  · rw [hp.mem_iff]
    constructor
    · intro hz
      obtain ⟨x, hx, rfl⟩ := List.mem_map.1 hz
      exact ⟨x.1, rfl, hf.mem.1 (List.mem_map.2 ⟨x, hx, rfl⟩)⟩
    · rintro ⟨x, rfl, hx⟩
      obtain ⟨y, hy, rfl⟩ := List.mem_map.1 (hf.mem.2 hx)
      exact List.mem_map.2 ⟨y, hy, rfl⟩
theorem rt_zero {p : PlanD} {v : Int} {key : ByteArray} (h : rtE p v key = 0) : chkP p = 0 ∧ kerr key.data.toList = 0 ∧ 0 ≤ v ∧ v < p.posts.length := by
  unfold rtE at h
  by_cases h1 : chkP p = 0
  · rw [if_pos h1] at h
    by_cases h2 : isNum v p.posts.length = true
    · rw [if_pos h2] at h; have := isNum_iff.1 h2; exact ⟨h1, h, this⟩
    · rw [if_neg h2] at h; cases h
  · rw [if_neg h1] at h; exact absurd h h1

set_option maxRecDepth 100000 in
set_option maxHeartbeats 1000000 in
theorem posts_any (p : PlanD) (a1 a2 a3 : Option Addr) (n1 c1 n2 c2 n3 c3 : Nat) (v : Int) (key : ByteArray) (w : World) (hp : PlanAt w a1 a2 a3 n1 n2 n3 p) :
    Calls Try.prog 33 #[.agg #[.slice a1 n1 c1, .slice a2 n2 c2, .slice a3 n3 c3], .int .i64 v, .string key] w fun e w' => ∃ zs a c, e = .returned (.tuple #[.slice a zs.length c, .int .i64 (rtE p v key)]) ∧ (rtE p v key = 0 → PostsIs p key v.toNat zs) ∧ (rtE p v key ≠ 0 → zs = []) ∧ zs.length ≤ 12 ∧ IntsAt w' a zs ∧ Below w.heap.size w w' := by
  obtain ⟨W1, hW1, hBw, hs1, hbx⟩ := plan_boxed w (.slice a1 n1 c1) (.slice a2 n2 c2) (.slice a3 n3 c3) 40
  have HW1 : Hid (W1 = _) := hW1
  have HP1 : Hid (PlanAt W1 a1 a2 a3 n1 n2 n3 p) := hp.keep hBw
  have BX : Hid (∀ W, Below W1.heap.size W1 W → W.cell? ⟨w.heap.size, 0, none⟩ = some (.slice a1 n1 c1) ∧ W.cell? ⟨w.heap.size, 1, none⟩ = some (.slice a2 n2 c2) ∧ W.cell? ⟨w.heap.size, 2, none⟩ = some (.slice a3 n3 c3)) := hbx
  have s1 := hBw.size
  have hl1 := hp.l1
  clear hW1 hp hbx hs1
  obtain ⟨d, hd⟩ : ∃ d, d = rtE p v key := ⟨_, rfl⟩
  rw [← hd]
  have HD : Hid (d = rtE p v key) := hd
  by_cases h0 : d = 0
  · obtain ⟨z1, z2, z3, z4⟩ := rt_zero (hd.symm.trans h0)
    obtain ⟨x, rfl⟩ := Int.eq_ofNat_of_zero_le z3
    have h4 : n1 ≤ 4 := by have := (chk_right z1).few.1; omega
    have HZ : Hid (chkP p = 0 ∧ kerr key.data.toList = 0 ∧ x < n1) := ⟨z1, z2, by omega⟩
    have HRi : Hid (∀ (L : Trails) (i : Nat), Reached (arcOf p key) p.binds.length x L i → (∀ y ∈ L, y.1 < p.posts.length) ∧ L.length ≤ p.posts.length ∧ i ≤ L.length) := fun L i h => reached_in (chk_right z1) (by omega) h
    subst h0
    clear hd z1 z2 z3 z4
    go_enter Try.func33, Try.ntmps33
    go_wp2_with fail
    rw [← HW1.out]
    refine (rtcheck_any p _ _ _ _ _ _ _ _ _ _ _ _ HP1.out).mono ?_
    rintro e w2 ⟨rfl, hB2⟩
    rw [← HD.out]
    obtain ⟨d0, d1, d2⟩ := BX.out w2 hB2
    go_wp2_with fail
    refine (callsIn_wide.1 (reach_in p _ _ _ _ _ _ _ _ _ x key w2 HZ.out.1 HZ.out.2.1 HZ.out.2.2 (HP1.out.keep hB2))).mono ?_
    rintro e w3 ⟨u, b, L, i, rfl, hre, hi, hrow, _, _, hB3⟩
    have hne : intsL L ≠ [] := fun e => by
      have := ((hre.came arc_lt).1).first
      have h0 : L = [] := by unfold intsL at e; exact List.map_eq_nil_iff.1 e
      rw [h0] at this; simp at this
    rw [ints_eq] at hrow
    obtain ⟨g, cg, rfl, hgb, hgc, hgm, hir⟩ := row_ints hrow hne
    have hll : (intsL L).length ≤ 4 := by have := (HRi.out _ _ hre).2.1; unfold intsL; rw [List.length_map]; omega
    clear d0 d1 d2 hrow
    go_wp2_with fail
    refine (sort_any (intsL L) g _ cg w3 rfl (by omega) hir).mono ?_
    rintro e w4 ⟨⟨q, rfl⟩, ys, hpm, hso, hir4, ht4⟩
    go_wp2_with fail
    go_ret2
    have hyl : ys.length = (intsL L).length := hpm.length_eq
    have hB4 : Below w2.heap.size w2 w4 := hB3.trans (ht4.below hB3.size (fun k e => by rw [e]; exact hgb))
    refine ⟨ys, _, cg, ret_sli hyl.symm, fun _ => posts_of_sort hre hi hpm (by rw [hyl]; exact hso), fun h => absurd rfl h, by omega, hir4.ints, hBw.trans ((hB2.trans (hB4.mono hB2.size)).mono s1)⟩
  · have h0' : (d != 0) = true := bne_iff_ne.2 h0
    have H0 : Hid (¬ d = 0) := h0
    clear h0 hd hl1
    go_enter Try.func33, Try.ntmps33
    go_wp2_with fail
    rw [← HW1.out]
    refine (rtcheck_any p _ _ _ _ _ _ _ _ _ _ _ _ HP1.out).mono ?_
    rintro e w2 ⟨rfl, hB2⟩
    rw [← HD.out]
    go_wp2_with fail
    go_ret2
    exact ⟨[], none, 0, rfl, fun h => absurd h H0.out, fun _ => rfl, by simp, .inl rfl, hBw.trans (hB2.mono s1)⟩
end Go.Proofs.Ythhkpgnjpieckaa
