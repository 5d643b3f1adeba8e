/- route.Way. -/
import Derived.Test.YthhkpgnjpieckaaRy
namespace Go.Proofs.Ythhkpgnjpieckaa
set_option linter.unusedVariables false
set_option maxRecDepth 100000
open Go.RowKit Go.Shelf Go.Maps
attribute [local go_sem] Oper.semAt_some

/-- Does bind m lead to that queue? -/
def toQ (p : PlanD) (q : Int) (m : Nat) : Bool := !(bAt p m).toPost && decide ((bAt p m).dst = q)
/-- The binds by which the key goes on to that queue. -/
def finOf (p : PlanD) (key : ByteArray) (q : Int) (m : Nat) : Option Nat := if m < p.binds.length ∧ fitP p m key = true ∧ toQ p q m = true then some (bAt p m).src.toNat else none
structure WayIs (p : PlanD) (key : ByteArray) (v : Nat) (q : Int) (ns : List Nat) : Prop where
  way : Way (arcOf p key) (finOf p key q) v ns
  least : ∀ t, Way (arcOf p key) (finOf p key q) v t → ¬ Slt t ns
  few : ns.length ≤ p.posts.length
def wayE (p : PlanD) (v : Int) (key : ByteArray) (q : Int) : Int := if rtE p v key = 0 then (if isNum q p.queues.length = true then 0 else 5) else rtE p v key

theorem five_heap (w W5 : World) (A B C D E : Obj) (h : W5 = ((((w.alloc A).alloc B).alloc C).alloc D).alloc E) : W5.heap.size = w.heap.size + 5 ∧ W5.heap[w.heap.size]? = some A ∧ W5.heap[w.heap.size + 1]? = some B ∧ W5.heap[w.heap.size + 1 + 1]? = some C ∧ W5.heap[w.heap.size + 1 + 1 + 1]? = some D ∧ W5.heap[w.heap.size + 1 + 1 + 1 + 1]? = some E ∧ Below w.heap.size w W5 := by
  subst h
  have hB := World.alloc_heap_new (w.alloc A) B
  have hC := World.alloc_heap_new ((w.alloc A).alloc B) C
  have hD := World.alloc_heap_new (((w.alloc A).alloc B).alloc C) D
  have hE := World.alloc_heap_new ((((w.alloc A).alloc B).alloc C).alloc D) E
  simp only [World.size_alloc] at hB hC hD hE
  refine ⟨by simp only [World.size_alloc], ?_, ?_, ?_, ?_, hE, ?_⟩
  · rw [Below.heap_alloc _ _ _ (by simp only [World.size_alloc]; omega), Below.heap_alloc _ _ _ (by simp only [World.size_alloc]; omega), Below.heap_alloc _ _ _ (by simp only [World.size_alloc]; omega), Below.heap_alloc _ _ _ (by simp only [World.size_alloc]; omega)]; exact World.alloc_heap_new w A
  · rw [Below.heap_alloc _ _ _ (by simp only [World.size_alloc]; omega), Below.heap_alloc _ _ _ (by simp only [World.size_alloc]; omega), Below.heap_alloc _ _ _ (by simp only [World.size_alloc]; omega)]; exact hB
  · rw [Below.heap_alloc _ _ _ (by simp only [World.size_alloc]; omega), Below.heap_alloc _ _ _ (by simp only [World.size_alloc]; omega)]; exact hC
  · rw [Below.heap_alloc _ _ _ (by simp only [World.size_alloc]; omega)]; exact hD
  · exact (((((Below.refl _ _).alloc (Nat.le_refl _) _).alloc (by simp) _).alloc (by simp; omega) _).alloc (by simp; omega) _).alloc (by simp; omega) _

theorem three_stores {W : World} {A B C : Nat} {ta tb tc : TypeId} {u0 u1 u2 : Value} (hA : Boxed W A ta u0) (hB : Boxed W B tb u1) (hC : Boxed W C tc u2) (hAB : A ≠ B) (hAC : A ≠ C) (hBC : B ≠ C) (x y z : Value) :
    Boxed (((W.setCell ⟨A, 0, none⟩ x).setCell ⟨B, 0, none⟩ y).setCell ⟨C, 0, none⟩ z) A ta x ∧ Boxed (((W.setCell ⟨A, 0, none⟩ x).setCell ⟨B, 0, none⟩ y).setCell ⟨C, 0, none⟩ z) B tb y ∧ Boxed (((W.setCell ⟨A, 0, none⟩ x).setCell ⟨B, 0, none⟩ y).setCell ⟨C, 0, none⟩ z) C tc z ∧ Turn (fun k => k = A ∨ k = B ∨ k = C) W (((W.setCell ⟨A, 0, none⟩ x).setCell ⟨B, 0, none⟩ y).setCell ⟨C, 0, none⟩ z) := by
  have a1 := hA.set x
  have b1 := hB.other (B' := A) hAB.symm x
  have c1 := hC.other (B' := A) hAC.symm x
  have a2 := a1.other (B' := B) hAB y
  have b2 := b1.set y
  have c2 := c1.other (B' := B) hBC.symm y
  refine ⟨a2.other hAC z, b2.other hBC z, c2.set z, ?_⟩
  have t1 := setCell_turn W A 0 x
  have t2 := setCell_turn (W.setCell ⟨A, 0, none⟩ x) B 0 y
  have t3 := setCell_turn ((W.setCell ⟨A, 0, none⟩ x).setCell ⟨B, 0, none⟩ y) C 0 z
  exact ((t1.mono (fun k _ e => .inl e)).trans t2 (fun k _ e => .inr (.inl e))).trans t3 (fun k _ e => .inr (.inr e))
theorem toQ_cases {p : PlanD} {q : Int} {m : Nat} : (toQ p q m = true ∧ (bAt p m).toPost = false ∧ (bAt p m).dst = q) ∨ (toQ p q m = false ∧ ((bAt p m).toPost = true ∨ ((bAt p m).toPost = false ∧ ¬ (bAt p m).dst = q))) := by
  unfold toQ
  cases (bAt p m).toPost <;> by_cases h : (bAt p m).dst = q <;> simp [h]

theorem way_found {p : PlanD} {key : ByteArray} (hr : RightP p) {v : Nat} (hv : v < p.posts.length) {q : Int} {L : Trails} {i : Nat} (h : Reached (arcOf p key) p.binds.length v L i) (hi : ¬ i < L.length) {j m : Nat} (hj : j < L.length) {pre : List Nat} (hpre : pre ++ [m] <+: fitIdx p key (L[j].1 : Nat)) (hm : toQ p q m = true)
    (hno : ∀ j' (hj' : j' < j), ∀ n ∈ fitIdx p key (L[j'].1 : Nat), toQ p q n = false) (hno2 : ∀ n ∈ pre, toQ p q n = false) : WayIs p key v q (L[j].2 ++ [m]) := by
  have hf := h.found arc_lt hi
  obtain ⟨_, hlen, _⟩ := reached_in hr hv h
  have hmm : m ∈ fitIdx p key (L[j].1 : Nat) := hpre.subset (by simp)
  obtain ⟨h1, h2, h3⟩ := fitIdx_mem.1 hmm
  have hF : finOf p key q m = some L[j].1 := by unfold finOf; rw [if_pos ⟨h1, h3, hm⟩, h2]; simp
  have hfin : ∀ {m' u}, finOf p key q m' = some u → m' < p.binds.length ∧ fitP p m' key = true ∧ toQ p q m' = true ∧ (bAt p m').src = (u : Nat) := by
    intro m' u e
    unfold finOf at e
    split at e
    · rename_i hh
      simp at e
      have hs : 0 ≤ (bAt p m').src := by rw [bAt_get hh.1]; exact (hr.src _ (List.getElem_mem hh.1)).1
      exact ⟨hh.1, hh.2.1, hh.2.2, by omega⟩
    · cases e
  obtain ⟨k1, k2, k3⟩ := hf.least hj hF (fun j' hj' m' e => by
      obtain ⟨e1, e2, e3, e4⟩ := hfin e
      have := hno j' hj' m' (fitIdx_mem.2 ⟨e1, e4, e2⟩)
      rw [e3] at this; cases this) (fun m' hlt e => by
      obtain ⟨e1, e2, e3, e4⟩ := hfin e
      have hin : m' ∈ fitIdx p key (L[j].1 : Nat) := fitIdx_mem.2 ⟨e1, e4, e2⟩
      have hsorted : (fitIdx p key (L[j].1 : Nat)).Pairwise (· < ·) := by unfold fitIdx fitTo; exact List.Pairwise.filter _ List.pairwise_lt_range
      obtain ⟨suf, hsuf⟩ := hpre
      rw [← hsuf] at hin hsorted
      have : m' ∈ pre := by
        rw [List.append_assoc, List.mem_append] at hin
        rcases hin with hin | hin
        · exact hin
        · rw [List.pairwise_append] at hsorted
          rcases List.mem_append.1 hin with hin | hin
          · simp at hin; omega
          · have := hsorted.2.2 m (by simp) m' hin; omega
      have := hno2 m' this
      rw [e3] at this; cases this)
  exact ⟨k1, k2, by omega⟩
theorem way_none {p : PlanD} {key : ByteArray} (hr : RightP p) {v : Nat} {q : Int} {L : Trails} {i : Nat} (h : Reached (arcOf p key) p.binds.length v L i) (hi : ¬ i < L.length)
    (hno : ∀ j (hj : j < L.length), ∀ n ∈ fitIdx p key (L[j].1 : Nat), toQ p q n = false) (t : List Nat) : ¬ Way (arcOf p key) (finOf p key q) v t := by
  refine (h.found arc_lt hi).none (fun j hj m e => ?_) t
  unfold finOf at e
  split at e
  · rename_i hh
    simp at e
    have hs : 0 ≤ (bAt p m).src := by rw [bAt_get hh.1]; exact (hr.src _ (List.getElem_mem hh.1)).1
    have := hno j hj m (fitIdx_mem.2 ⟨hh.1, by omega, hh.2.1⟩)
    rw [hh.2.2] at this; cases this
  · cases e

set_option maxRecDepth 100000 in
set_option maxHeartbeats 2000000 in
theorem way_in (p : PlanD) (a1 a2 a3 : Option Addr) (n1 c1 n2 c2 n3 c3 : Nat) (v : Nat) (q : Int) (key : ByteArray) (w : World) (hc : chkP p = 0) (hk : kerr key.data.toList = 0) (hv : v < n1) (hq0 : ¬ q < 0) (hq1 : ¬ (n2 : Int) ≤ q) (hp : PlanAt w a1 a2 a3 n1 n2 n3 p) :
    CallsIn Fence.wide 8 Try.prog 40 #[.agg #[.slice a1 n1 c1, .slice a2 n2 c2, .slice a3 n3 c3], .int .i64 (v : Nat), .string key, .int .i64 q] w fun e w' => ∃ (ns : List Nat) (is : Bool) (u : Value), e = .returned (.tuple #[u, .bool is, .int .i64 0]) ∧ (is = true → WayIs p key v q ns) ∧ (is = false → ns = [] ∧ ∀ t, ¬ Way (arcOf p key) (finOf p key q) v t) ∧ w'.ownsRow w.heap.size 3 1 u ns.length (natV ns) ∧ Below w.heap.size w w' := by
  have hr := chk_right hc
  have h4 : n1 ≤ 4 := by have := hr.few.1; rw [hp.l1] at this; exact this
  have hvp : v < p.posts.length := by rw [hp.l1]; exact hv
  have HRE : Hid (rtE p (v : Nat) key = 0) := by
    show rtE p (v : Nat) key = 0
    unfold rtE; rw [if_pos hc, if_pos (isNum_iff.2 ⟨by omega, by omega⟩), hk]
  have HR : Hid (∀ (L : Trails) (i : Nat), Reached (arcOf p key) p.binds.length v L i → (∀ x ∈ L, x.1 < n1) ∧ L.length ≤ n1 ∧ i ≤ L.length) := fun L i h => by
    have := reached_in hr hvp h; rw [hp.l1] at this; exact this
  have HRP : Hid (RightP p ∧ v < p.posts.length) := ⟨hr, hvp⟩
  have HP : Hid (PlanAt w a1 a2 a3 n1 n2 n3 p) := hp
  have HCK : Hid (chkP p = 0 ∧ kerr key.data.toList = 0) := ⟨hc, hk⟩
  obtain ⟨W5, hW5⟩ : ∃ W5, W5 = ((((w.alloc (.cells #[.slice a1 n1 c1, .slice a2 n2 c2, .slice a3 n3 c3] 40)).alloc (.cells #[.int .i64 q] 3)).alloc (.cells #[.slice none 0 0] 45)).alloc (.cells #[.bool false] 4)).alloc (.cells #[.int .i64 0] 23) := ⟨_, rfl⟩
  obtain ⟨hs5, b0, b1, b2, b3, b4, hB5⟩ := five_heap w W5 _ _ _ _ _ hW5
  have HW5 : Hid (W5 = _) := hW5
  have HB := hidIt (And.intro b0 (And.intro b1 (And.intro b2 (And.intro b3 b4))))
  have HP5 : Hid (PlanAt W5 a1 a2 a3 n1 n2 n3 p) := hp.keep hB5
  have s5 := hB5.size
  clear hW5 hp hc hk hr b0 b1 b2 b3 b4
  refine callsIn_of_wp_marks Try.func40 rfl trivial (Go.wpIn_mono ?_ calmly_out) rfl
  simp only [Try.ntmps40, List.size_toArray, List.length_cons, List.length_nil, Nat.reduceAdd, Nat.reduceSub, Array.replicate_succ, Array.replicate_zero, List.push_toArray, List.append_toArray, List.nil_append, List.cons_append]
  gi_wp2_with fail
  refine ⟨trivial, ?_⟩
  rw [← HW5.out]
  refine (callsIn_wide.2 (rtcheck_any p _ _ _ _ _ _ _ _ _ _ _ _ HP5.out)).mono ?_
  rintro e w2 ⟨rfl, hB2⟩
  rw [HRE.out]
  have s2 := hB2.size
  have p2 := (hB2.block w.heap.size (by omega)).trans HB.out.1
  have e0 := cell_of p2 0
  have e1 := cell_of p2 1
  have e2 := cell_of p2 2
  have e3 := cell_of ((hB2.block (w.heap.size + 1) (by omega)).trans HB.out.2.1) 0
  simp at e0 e1 e2 e3
  gi_wp2_with fail
  refine ⟨trivial, ?_⟩
  refine (reach_in p _ _ _ _ _ _ _ _ _ v key w2 HCK.out.1 HCK.out.2 hv (HP5.out.keep hB2)).more (by omega) |>.mono ?_
  rintro e w3 ⟨up, bm, L, iL, rfl, hre, hiL, hrow, hmap, hbm, hB3⟩
  have hne : intsL L ≠ [] := fun e => by
    have := ((hre.came arc_lt).1).first
    have h0 : L = [] := by unfold intsL at e; exact List.map_eq_nil_iff.1 e
    rw [h0] at this; simp at this
  rw [ints_eq] at hrow
  obtain ⟨gp, cp, rfl, hgb, hgc, hgm, hir⟩ := row_ints hrow hne
  have hll : (intsL L).length = L.length := by unfold intsL; rw [List.length_map]
  have HLL : Hid ((intsL L).length = L.length) := hll
  have s3 := hB3.size
  have hgp := hir.lt
  have hbl : bm < w3.heap.size := by obtain ⟨es, cl, h1, _⟩ := hmap; exact (Array.getElem?_eq_some_iff.1 h1).1
  obtain ⟨W4, hW4⟩ : ∃ W4, W4 = w3.alloc (.cells #[.map (some bm)] 104) := ⟨_, rfl⟩
  have HW4 : Hid (W4 = _) := hW4
  have hB4 : Below w3.heap.size w3 W4 := by rw [hW4]; exact (Below.refl _ _).alloc (Nat.le_refl _) _
  have hmb : Boxed W4 w3.heap.size 104 (.map (some bm)) := by rw [hW4]; exact Boxed.new w3 _ _
  have hs4 : w3.heap.size + 1 ≤ W4.heap.size := by rw [hW4]; simp
  have hmap4 : W4.ownsMap Try.prog 3 (plainElem (H := Unit) Try.prog 3) bm L.length (byD L) := Turn.map (Turn.of_below (fun _ => False) hB4) hmap id
  have hir4 : IntRow W4 gp (intsL L) := hir.keep (hB4.block gp hgp)
  have hB54 : Below W5.heap.size W5 W4 := hB2.trans ((hB3.trans (hB4.mono s3)).mono s2)
  have HK := hidIt (And.intro hir4 (And.intro hmap4 (And.intro hmb (hB5.trans (hB54.mono s5)))))
  have H4 : Hid (∀ k, k < 5 → W4.heap[w.heap.size + k]? = W5.heap[w.heap.size + k]?) := fun k hk => hB54.block _ (by omega)
  have hLn := HR.out L iL hre
  have hWw : w.heap.size + 5 ≤ w3.heap.size := by omega
  clear hrow hir hir4 hmap hmap4 hmb hB4 hB3 hB2 hB54 p2 e0 e1 e2 e3 hW4 hne hll
  gi_wp2_with fail
  rw [← HW4.out]
  refine wpIn_loop (fun a W => ∃ (i : Nat) (Ds : List Nat) (u0 u1 u3 u5 u6 u11 u12 u14 u15 u16 u17 u18 u19 u20 u21 u22 u23 u24 u25 u26 u27 u28 u29 u30 u31 u32 u33 u34 u35 u36 u37 u38 u39 u40 u44 u45 u46 u47 u48 u49 u50 u51 u52 u53 u54 u55 u56 u57 u58 u59 u60 u61 u62 u63 u64 u65 u66 u67 u68 u69 : Value), a = { tmps := #[u0, u1, .string key, u3, .pointer (some ⟨w.heap.size, 0, none⟩), u5, u6, .pointer (some ⟨w.heap.size + 1, 0, none⟩), .pointer (some ⟨w.heap.size + 1 + 1, 0, none⟩), .pointer (some ⟨w.heap.size + 1 + 1 + 1, 0, none⟩), .pointer (some ⟨w.heap.size + 1 + 1 + 1 + 1, 0, none⟩), u11, u12, .pointer (some ⟨w3.heap.size, 0, none⟩), u14, u15, u16, u17, u18, u19, u20, u21, u22, u23, u24, u25, u26, u27, u28, u29, u30, u31, u32, u33, u34, u35, u36, u37, u38, u39, u40, .slice (some ⟨gp, 0, none⟩) (intsL L).length cp, .int .i64 ((intsL L).length : Nat), .int .i64 (i : Nat), u44, u45, u46, u47, u48, u49, u50, u51, u52, u53, u54, u55, u56, u57, u58, u59, u60, u61, u62, u63, u64, u65, u66, u67, u68, u69], defers := Ds.map markOf } ∧ i ≤ L.length ∧ (∀ j (hj : j < L.length), j < i → ∀ n ∈ fitIdx p key (L[j].1 : Nat), toQ p q n = false) ∧ Below W4.heap.size W4 W ∧ Marks W4.heap.size Ds W) (fun a _ => 5 - (intOf (a.tmps.getD 43 undef)).toNat) ⟨0, [], _, _, _, _, _, _, _, _, _, _, _, _, _, _, _, _, _, _, _, _, _, _, _, _, _, _, _, _, _, _, _, _, _, _, _, _, _, _, _, _, _, _, _, _, _, _, _, _, _, _, _, _, _, _, _, _, _, _, _, _, rfl, Nat.zero_le _, fun j hj h => by omega, Below.refl _ _, ⟨List.nodup_nil, fun D hD => by simp at hD⟩⟩ ?_
  rintro a W ⟨i, Ds, u0, u1, u3, u5, u6, u11, u12, u14, u15, u16, u17, u18, u19, u20, u21, u22, u23, u24, u25, u26, u27, u28, u29, u30, u31, u32, u33, u34, u35, u36, u37, u38, u39, u40, u44, u45, u46, u47, u48, u49, u50, u51, u52, u53, u54, u55, u56, u57, u58, u59, u60, u61, u62, u63, u64, u65, u66, u67, u68, u69, rfl, hi, hno, hBW, hmk⟩
  have hsW := hBW.size
  have pW := (hBW.block w.heap.size (by omega)).trans ((H4.out 0 (by omega)).trans HB.out.1)
  have q1W := (hBW.block (w.heap.size + 1) (by omega)).trans ((H4.out 1 (by omega)).trans HB.out.2.1)
  have q2W := (hBW.block (w.heap.size + 1 + 1) (by omega)).trans ((H4.out 2 (by omega)).trans HB.out.2.2.1)
  have q3W := (hBW.block (w.heap.size + 1 + 1 + 1) (by omega)).trans ((H4.out 3 (by omega)).trans HB.out.2.2.2.1)
  have q4W := (hBW.block (w.heap.size + 1 + 1 + 1 + 1) (by omega)).trans ((H4.out 4 (by omega)).trans HB.out.2.2.2.2)
  have HW := hidIt (And.intro pW (And.intro q1W (And.intro q2W (And.intro q3W q4W))))
  have HNO := hidIt hno
  have HRE2 := hidIt hre
  by_cases hlt' : i < (intsL L).length
  · have hlt : i < L.length := by have := HLL.out; omega
    obtain ⟨x, t, hxt⟩ : ∃ x t, L[i] = (x, t) := ⟨_, _, rfl⟩
    have e3 : W.cell? ⟨gp, i, none⟩ = some (.int .i64 (x : Nat)) := by
      have h1 := (HK.out.1.keep (hBW.block gp (by omega))).cell (i := i) (by rw [HLL.out]; exact hlt)
      rw [h1]; simp [intsL, hxt]
    have e0 := cell_of pW 0
    have e1 := cell_of pW 1
    have e2 := cell_of pW 2
    simp at e0 e1 e2
    have k0 : w.heap.size < W.heap.size := by omega
    obtain ⟨Wa, hWa⟩ : ∃ Wa, Wa = W.alloc (.cells #[.int .i64 (x : Nat)] 3) := ⟨_, rfl⟩
    have HWA : Hid (Wa = _) := hWa
    have hBa : Below W.heap.size W Wa := by rw [hWa]; exact (Below.refl _ _).alloc (Nat.le_refl _) _
    have hsa : Wa.heap.size = W.heap.size + 1 := by rw [hWa]; simp
    have hxa : Wa.heap[W.heap.size]? = some (.cells #[.int .i64 (x : Nat)] 3 (0, 0)) := by rw [hWa]; exact World.alloc_heap_new W _
    obtain ⟨Wf, hWf, fb, hBf, hsf⟩ := fitting_boxes Wa a1 a2 a3 n1 c1 n2 c2 n3 c3 (x : Nat) key
    have HWF : Hid (Wf = _) := hWf
    have hBWf : Below W.heap.size W Wf := hBa.trans (hBf.mono (by omega))
    have h0F : Below w.heap.size w Wf := HK.out.2.2.2.trans ((hBW.mono (by omega)).trans (hBWf.mono (by omega)))
    have hxf : Wf.heap[W.heap.size]? = some (.cells #[.int .i64 (x : Nat)] 3 (0, 0)) := (hBf.block _ (by omega)).trans hxa
    have hDW := hmk.lt
    have HX : Hid (L[i] = (x, t)) := hxt
    have hsaL : W.heap.size + 4 ≤ Wf.heap.size := by omega
    have hsaA : Wa.heap.size ≤ W.heap.size + 1 := by omega
    have hsaB : W.heap.size + 1 ≤ Wa.heap.size := by omega
    have hsaF : Wa.heap.size + 3 ≤ Wf.heap.size := by omega
    clear hWf hWa hxt hxa pW q1W q2W q3W q4W hno hre hsa hsf hBa hBf
    gi_wp2_with fail
    refine ⟨trivial, ?_⟩
    rw [← HWA.out]
    refine (fitting_in _ _ _ _ _ _ _).mono ?_
    rintro e w' ⟨rfl, rfl⟩
    rw [← HWF.out]
    clear e0 e1 e2 e3
    gi_wp2_with fail
    refine wpIn_rangeFunc_ownH rfl (by omega) (gf := 116) (lb := #[.pointer (some ⟨Wa.heap.size, 0, none⟩), .pointer (some ⟨Wa.heap.size + 1, 0, none⟩), .pointer (some ⟨Wa.heap.size + 1 + 1, 0, none⟩)]) rfl trivial (enters_of Try.func116 (by kernel_rfl) rfl)
      (fit_stops 7 (by omega) Wa.heap.size p a1 a2 a3 n1 c1 n2 c2 n3 c3 (x : Nat) key w Wf HCK.out.1 HCK.out.2 HP.out (by omega) hsaF h0F fb) (fun h k => h.trans k) (fun W' l o o' hl ho _ _ => keepF_b (by omega) (by omega) W' l o o' hl ho) (Below.refl _ _) (fun _ => rfl)
      (fun pre W' => (∀ n ∈ pre, toQ p q n = false) ∧ Below Wf.heap.size Wf W')
      (fun c pre W' => c = .ret ∧ ∃ pre' m u, pre = pre' ++ [m] ∧ (∀ n ∈ pre', toQ p q n = false) ∧ toQ p q m = true ∧ Boxed W' (w.heap.size + 1 + 1) 45 u ∧ Boxed W' (w.heap.size + 1 + 1 + 1) 4 (.bool true) ∧ Boxed W' (w.heap.size + 1 + 1 + 1 + 1) 23 (.int .i64 0) ∧ W'.ownsRow w.heap.size 3 1 u (t.length + 1) (natV (t ++ [m])) ∧ Below w.heap.size w W' ∧ Marks W4.heap.size Ds W')
      (OwnFrom.and (ownFrom_pure _ _) (ownFrom_below (Nat.le_refl _) (Nat.le_refl _)))
      (fun c pre W' W'' row hI hg hr => by
        obtain ⟨rfl, pre', m, u, h1, h2, h3, h4, h5, h6, h7, h8, h9⟩ := hI
        have tt : Turn (fun k => row = some k) W' W'' := Turn.of_grown hg (fun r e => e)
        have nc : ∀ {k : Nat} {cs : Array Value} {ty : TypeId}, W'.heap[k]? = some (.cells cs ty (0, 0)) → ¬ row = some k := fun hk e => by
          obtain ⟨_, o, h10, h11⟩ := hr _ e
          rw [hk] at h10; cases h10; cases h11
        refine ⟨rfl, pre', m, u, h1, h2, h3, tt.boxed h4 (nc h4), tt.boxed h5 (nc h5), tt.boxed h6 (nc h6), tt.row h7 (fun g' e => ?_), h8.trans (tt.below h8.size (fun k e => by have := (hr k e).1; omega)), h9.turn tt (fun D hD e => by have := (hr D e).1; have := hDW D hD; omega)⟩
        rcases h7.2 with ⟨rfl, _⟩ | ⟨g2, cap, cur, rfl, _, h12, _⟩
        · simp [Value.ownBlock] at e
        · simp only [Value.ownBlock, Option.some.injEq] at e; subst e; exact nc h12)
      ⟨fun n hn => by simp at hn, Below.refl _ _⟩
      (fun y a' W' => ∃ Bx, Wf.heap.size ≤ Bx ∧ W'.heap[Bx]? = some (.cells #[.int .i64 (bAt p y).src, .bool (bAt p y).toPost, .int .i64 (bAt p y).dst, .string (bAt p y).pat] 55 (0, 0)) ∧ a' = { tmps := #[u0, u1, .string key, u3, .pointer (some ⟨w.heap.size, 0, none⟩), u5, u6, .pointer (some ⟨w.heap.size + 1, 0, none⟩), .pointer (some ⟨w.heap.size + 1 + 1, 0, none⟩), .pointer (some ⟨w.heap.size + 1 + 1 + 1, 0, none⟩), .pointer (some ⟨w.heap.size + 1 + 1 + 1 + 1, 0, none⟩), u11, u12, .pointer (some ⟨w3.heap.size, 0, none⟩), u14, .pointer (some ⟨W.heap.size, 0, none⟩), .int .i64 (y : Nat), .pointer (some ⟨Bx, 0, none⟩), u18, u19, u20, u21, u22, u23, u24, u25, u26, u27, u28, u29, u30, u31, u32, u33, u34, u35, u36, u37, u38, u39, u40, .slice (some ⟨gp, 0, none⟩) (intsL L).length cp, .int .i64 ((intsL L).length : Nat), .int .i64 (i : Nat), .bool true, .pointer (some ⟨gp, i, none⟩), .int .i64 (x : Nat), .agg #[.slice a1 n1 c1, .slice a2 n2 c2, .slice a3 n3 c3], .int .i64 (x : Nat), .string key, .func (.func 116) #[] #[.pointer (some ⟨Wa.heap.size, 0, none⟩), .pointer (some ⟨Wa.heap.size + 1, 0, none⟩), .pointer (some ⟨Wa.heap.size + 1 + 1, 0, none⟩)], .int .i64 (y : Nat), (bAt p y).val, u53, u54, u55, u56, u57, u58, u59, u60, u61, u62, u63, u64, u65, u66, u67, u68, u69], defers := [] })
      (fun y a' _ W' W'' row hA hg hr => by
        obtain ⟨Bx, h1, h2, h3⟩ := hA
        refine ⟨Bx, h1, (hg.block Bx (Array.getElem?_eq_some_iff.1 h2).1 (fun e => ?_)).trans h2, h3⟩
        obtain ⟨_, o, h4, h5⟩ := hr Bx e.symm
        rw [h2] at h4; cases h4; cases h5)
      ?assign ?body ?done ?stop
    case assign =>
      rintro l pre y W' K ⟨h1, h2⟩ hK
      dsimp only [BindD.val]
      gi_wp2
      have h3 := h2.size
      have hBa : Below W'.heap.size W' (W'.alloc (.cells #[.int .i64 (bAt p y).src, .bool (bAt p y).toPost, .int .i64 (bAt p y).dst, .string (bAt p y).pat] 55)) := (Below.refl _ _).alloc (Nat.le_refl _) _
      exact hK _ _ ((KeepsOthers.alloc _ _).from _) (KeepF.of_below hBa (by omega) (by omega)) ⟨h1, h2.trans (hBa.mono (by omega))⟩ ⟨W'.heap.size, by omega, World.alloc_heap_new W' _, rfl⟩
    case body =>
      rintro l pre y a' W' hl _ ⟨h1, h2⟩ ⟨Bx, hBx, hcell, rfl⟩ hlen
      have h3 := h2.size
      have hBW' : Below W.heap.size W W' := hBWf.trans (h2.mono (by omega))
      have m0 := cell_of hcell 0
      have m1 := cell_of hcell 1
      have m2 := cell_of hcell 2
      have m3 := cell_of hcell 3
      have mq := cell_of ((hBW'.block (w.heap.size + 1) (by omega)).trans HW.out.2.1) 0
      simp at m0 m1 m2 m3 mq
      rcases toQ_cases (p := p) (q := q) (m := y) with ⟨hQ, htp, hdq⟩ | ⟨hQ, hor⟩
      · have HQY := hidIt hQ
        have pW' := (hBW'.block w.heap.size (by omega)).trans HW.out.1
        have e0 := cell_of pW' 0
        have e1 := cell_of pW' 1
        have e2 := cell_of pW' 2
        have e3 := cell_of ((h2.block W.heap.size (by omega)).trans hxf) 0
        simp at e0 e1 e2 e3
        have hmbW' : Boxed W' w3.heap.size 104 (.map (some bm)) := ((hBW.trans (hBW'.mono hsW)).block w3.heap.size (by omega)).trans HK.out.2.2.1
        have e4 := hmbW'.cell
        rw [htp] at m1
        rw [hdq] at m2
        have hB0W' : Below w.heap.size w W' := h0F.trans (h2.mono (by omega))
        have HTR := hidIt (trail_any p a1 a2 a3 n1 c1 n2 c2 n3 c3 x t key L v iL 0 bm W' (HP.out.keep hB0W') HRP.out.1 (HRE2.out.came arc_lt).1 (by have := List.getElem_mem hlt; rw [HX.out] at this; exact this) (Turn.map (Turn.of_below (fun _ => False) (hBW.trans (hBW'.mono hsW))) HK.out.2.1 id) (by omega) (by omega) (fun y hy => by have := hLn.1 y hy; omega))
        have ht4 : t.length ≤ 4 := by
          have := (HRE2.out.came arc_lt).1.short (i + 1) i hlt (by omega)
          rw [HX.out] at this; dsimp only at this; omega
        obtain ⟨i0, hi0, hz0, hz1, hz2⟩ := info_parts Try.infoInt
        clear hQ htp hdq hcell hmbW' pW'
        gi_wp2_with fail
        refine ⟨trivial, ?_⟩
        refine (CallsIn.inRound l (callsIn_wide.2 HTR.out)).mono ?_
        rintro e w5 ⟨u5, rfl, hrow5, hB5'⟩
        have s5' := hB5'.size
        have r2 : Boxed w5 (w.heap.size + 1 + 1) 45 (.slice none 0 0) := (hB5'.block _ (by omega)).trans ((hBW'.block _ (by omega)).trans HW.out.2.2.1)
        have r3 : Boxed w5 (w.heap.size + 1 + 1 + 1) 4 (.bool false) := (hB5'.block _ (by omega)).trans ((hBW'.block _ (by omega)).trans HW.out.2.2.2.1)
        have r4 : Boxed w5 (w.heap.size + 1 + 1 + 1 + 1) 23 (.int .i64 0) := (hB5'.block _ (by omega)).trans ((hBW'.block _ (by omega)).trans HW.out.2.2.2.2)
        have mk5 : Marks W4.heap.size Ds w5 := hmk.turn (X := fun _ => False) (Turn.of_below _ (hBW'.trans (hB5'.mono (by omega)))) (fun _ _ => id)
        clear e0 e1 e2 e3 e4 m0 m1 m2 m3 mq
        gi_wp2_with (gi_at_builtin; refine wpListIn_append_own_at _ rfl _ _ 45 rfl W'.heap.size 3 i0 (.int .i64 0) 1 8 Try.underlying45 hi0 hz0 hz1 hz2 rfl (by decide) _ _ _ rfl (hrow5.alloc _) ⟨w5.heap.size, 0, none⟩ 1 1 [.int .i64 (y : Nat)] rfl rfl (cell_one_new _ _ _) (by simp [Value.oneCell']) (by unfold maxLen; omega) (by omega) (by simp; omega) ?_; intro v' w6 hown' hgrow _ hat'; obtain ⟨gn, capn, rfl⟩ := ownsRow_succ hown'; have t6 : Turn (fun k => W'.heap.size ≤ k) w5 w6 := Turn.trans (B := w5.alloc _) (Turn.of_grown (World.grownBy_alloc w5 _ none) (fun r e => by cases e)) (Turn.of_grown hgrow (fun r e => own_ge hrow5 r e)) (fun _ _ e => e); have r2' := t6.boxed r2 (by omega); have r3' := t6.boxed r3 (by omega); have r4' := t6.boxed r4 (by omega); have c2' := r2'.cell; have c3' := r3'.cell; have c4' := r4'.cell; have f2' := r2'.frozen; have f3' := r3'.frozen; have f4' := r4'.frozen)
        obtain ⟨k2, k3, k4, tS⟩ := three_stores r2' r3' r4' (by omega) (by omega) (by omega) (.slice (some ⟨gn, 0, none⟩) (t.length + 1) capn) (.bool true) (.int .i64 0)
        have hgn := (hown'.lt gn rfl).1
        have sz6 := t6.size
        refine ⟨⟨Nat.le_trans s5' (Nat.le_trans sz6 tS.size), fun k o hk ho _ => ?_⟩, rfl, pre, y, _, rfl, h1, HQY.out, k2, k3, k4, ?_, ?_, ?_⟩
        · have hkl := (Array.getElem?_eq_some_iff.1 ho).1
          exact (tS.block k (by omega) (fun e => by omega)).trans ((t6.block k (by omega) (fun e => by omega)).trans ((hB5'.block k hkl).trans ho))
        · have := tS.row hown' (fun g' e e2 => by simp only [Value.ownBlock, Option.some.injEq] at e; subst e; omega)
          have e : natV (t ++ [y]) = natV t ++ [.int .i64 (y : Nat)] := by simp [natV]
          rw [e]; exact own_base' this (by omega)
        · exact hB0W'.trans ((hB5'.mono (by omega)).trans ((t6.below (by omega) (fun k e => by omega)).trans (tS.below (by omega) (fun k e => by omega))))
        · exact (mk5.turn t6 (fun D hD e => by have := hDW D hD; omega)).turn tS (fun D hD e => by have := (mk5.there D hD).1; omega)
      · have HPre : Hid (∀ n ∈ pre ++ [y], toQ p q n = false) := fun n hn => by
          rcases List.mem_append.1 hn with hn | hn
          · exact h1 n hn
          · simp at hn; subst hn; exact hQ
        clear hQ h1
        rcases hor with htp | ⟨htp, hdq⟩
        · rw [htp] at m1
          gi_wp2
          exact ⟨KeepsFrom.refl _ _, KeepF.refl _ _ _, HPre.out, h2⟩
        · rw [htp] at m1
          have hdq' : ((bAt p y).dst == q) = false := by simpa using hdq
          clear hdq
          gi_wp2
          exact ⟨KeepsFrom.refl _ _, KeepF.refl _ _ _, HPre.out, h2⟩
    case done =>
      rintro D ys W' hD hys ⟨h1, h2⟩ hmark
      have h3 := h2.size
      have hBW' : Below W4.heap.size W4 W' := hBW.trans ((hBWf.trans (h2.mono (by omega))).mono hsW)
      have hmk' : Marks W4.heap.size (D :: Ds) W' := (hmk.turn (X := fun _ => False) (Turn.of_below _ (hBWf.trans (h2.mono (by omega)))) (fun _ _ => id)).cons (fun h => by have := hDW D h; omega) (by omega) hmark
      have HN2 : Hid (∀ j (hj : j < L.length), j < i + 1 → ∀ n ∈ fitIdx p key (L[j].1 : Nat), toQ p q n = false) := fun j hj hji n hn => by
        by_cases e : j = i
        · subst e; rw [HX.out] at hn; exact h1 n (by rw [hys]; exact hn)
        · exact HNO.out j hj (by omega) n hn
      clear h1 hys
      gi_wp2_with fail
      exact ⟨⟨i + 1, D :: Ds, _, _, _, _, _, _, _, _, _, _, _, _, _, _, _, _, _, _, _, _, _, _, _, _, _, _, _, _, _, _, _, _, _, _, _, _, _, _, _, _, _, _, _, _, _, _, _, _, _, _, _, _, _, _, _, _, _, _, _, _, rfl, by omega, HN2.out, hBW', hmk'⟩, by simp [intOf]; omega⟩
    case stop =>
      rintro D c pre W' hD hpre ⟨rfl, pre', m, u, rfl, h2, h3, h4, h5, h6, h7, h8, h9⟩ hmark
      have hmk' : Marks W4.heap.size (D :: Ds) W' := h9.cons (fun h => by have := hDW D h; omega) (by omega) hmark
      have HWI := hidIt (way_found HRP.out.1 HRP.out.2 HRE2.out hiL hlt (by rw [HX.out]; exact hpre) h3 (fun j' hj' n hn => HNO.out j' (by omega) hj' n hn) h2)
      have HNS : Hid (L[i].2 ++ [m] = t ++ [m]) := by show L[i].2 ++ [m] = t ++ [m]; rw [HX.out]
      clear h2 h3 hpre
      gi_wp2_with fail
      refine leaves_marks (n0 := W4.heap.size) (Ds := D :: Ds) hmk' (fun Wz hWz => ?_)
      have nin : ∀ k, k < W4.heap.size → ¬ k ∈ D :: Ds := fun k hk h => by have := (hmk'.there k h).1; omega
      have z2 := (hWz.boxed h4 (nin _ (by omega))).cell
      have z3 := (hWz.boxed h5 (nin _ (by omega))).cell
      have z4 := (hWz.boxed h6 (nin _ (by omega))).cell
      have hrz := hWz.row h7 (fun g' e h => by
        rcases h7.2 with ⟨rfl, _⟩ | ⟨g2, cap, cur, rfl, _, h12, _⟩
        · simp [Value.ownBlock] at e
        · simp only [Value.ownBlock, Option.some.injEq] at e; subst e
          have := (hmk'.there _ h).2; rw [h12] at this; cases this)
      obtain ⟨au, lu, cu, rfl⟩ : ∃ au lu cu, u = .slice au lu cu := by
        rcases h7.2 with ⟨rfl, _⟩ | ⟨g2, cap, cur, rfl, _⟩
        · exact ⟨_, _, _, rfl⟩
        · exact ⟨_, _, _, rfl⟩
      refine ⟨.tuple #[.slice au lu cu, .bool true, .int .i64 0], ?_, t ++ [m], true, _, rfl, fun _ => by rw [← HNS.out]; exact HWI.out, fun h => (nomatch h), by simpa using hrz, h8.trans (hWz.below h8.size (fun k h => by have := (hmk'.there k h).1; omega))⟩
      simp [results, Try.results40, go_sem, z2, z3, z4]
  · have hiL' : i = L.length := by have := HLL.out; omega
    have HNW := hidIt (fun tt => way_none (q := q) HRP.out.1 HRE2.out hiL (fun j hj n hn => HNO.out j hj (by omega) n hn) tt)
    have r2 : Boxed W (w.heap.size + 1 + 1) 45 (.slice none 0 0) := HW.out.2.2.1
    have r3 : Boxed W (w.heap.size + 1 + 1 + 1) 4 (.bool false) := HW.out.2.2.2.1
    have r4 : Boxed W (w.heap.size + 1 + 1 + 1 + 1) 23 (.int .i64 0) := HW.out.2.2.2.2
    have c2' := r2.cell
    have c3' := r3.cell
    have c4' := r4.cell
    have f2' := r2.frozen
    have f3' := r3.frozen
    have f4' := r4.frozen
    clear pW q1W q2W q3W q4W hno hre
    gi_wp2_with fail
    obtain ⟨k2, k3, k4, tS⟩ := three_stores r2 r3 r4 (by omega) (by omega) (by omega) (.slice none 0 0) (.bool false) (.int .i64 0)
    have hmS := hmk.turn tS (fun D hD e => by have := (hmk.there D hD).1; omega)
    refine leaves_marks (n0 := W4.heap.size) (Ds := Ds) hmS (fun Wz hWz => ?_)
    have nin : ∀ k, k < W4.heap.size → ¬ k ∈ Ds := fun k hk h => by have := (hmS.there k h).1; omega
    have z2 := (hWz.boxed k2 (nin _ (by omega))).cell
    have z3 := (hWz.boxed k3 (nin _ (by omega))).cell
    have z4 := (hWz.boxed k4 (nin _ (by omega))).cell
    have hB0 : Below w.heap.size w W := HK.out.2.2.2.trans (hBW.mono (by omega))
    have hB1 := hB0.trans (tS.below (by omega) (fun k e => by omega))
    refine ⟨.tuple #[.slice none 0 0, .bool false, .int .i64 0], ?_, [], false, _, rfl, fun h => (nomatch h), fun _ => ⟨rfl, HNW.out⟩, World.ownsRow_nil _ _ _ _, hB1.trans (hWz.below hB1.size (fun k h => by have := (hmS.there k h).1; omega))⟩
    simp [results, Try.results40, go_sem, z2, z3, z4]
end Go.Proofs.Ythhkpgnjpieckaa
