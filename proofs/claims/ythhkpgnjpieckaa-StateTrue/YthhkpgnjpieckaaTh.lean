/- state.askSeqs, askSums. -/
import Derived.Maps.OwnIn
import Derived.Test.YthhkpgnjpieckaaTg
namespace Go.Proofs.Ythhkpgnjpieckaa
set_option linter.unusedVariables false
set_option maxRecDepth 100000
open Go.RowKit Go.Maps

theorem keyed3 : Keyed Try.prog 3 := int_keyed Try.underlying3
theorem zeroS (w : World) : (zeroValue 137).run Try.prog w = .ok (.agg #[]) w := by kernel_rfl
/-- The set of the first k numbers. -/
def setI (zs : List Int) (k : Nat) : DataW Unit := setOf (.agg []) ((zs.take k).map (fun z => Lit.int .i64 z))
theorem setI_zero (zs : List Int) : setI zs 0 = .map [] := by simp [setI, setOf]
theorem setI_succ (zs : List Int) {k : Nat} (h : k < zs.length) : setI zs (k + 1) = (setI zs k).put (.int .i64 zs[k]) (.agg []) := by
  unfold setI; rw [List.take_succ_eq_append_getElem h, List.map_append, List.map_cons, List.map_nil, setOf_snoc]
theorem has_setI (zs : List Int) (k : Nat) (z : Int) : Maps.has (setI zs k) (.int .i64 z) = decide (z ∈ zs.take k) := by
  unfold setI
  rw [has_setOf _ _ _ (by intro y hy; obtain ⟨_, _, rfl⟩ := List.mem_map.1 hy; trivial), Bool.eq_iff_iff, List.any_eq_true, decide_eq_true_eq]
  constructor
  · rintro ⟨y, hy, h⟩
    obtain ⟨x, hx, rfl⟩ := List.mem_map.1 hy
    simp [Lit.sameKey] at h
    rw [← h]; exact hx
  · intro h
    exact ⟨_, List.mem_map.2 ⟨z, h, rfl⟩, by simp [Lit.sameKey]⟩
theorem wf_int {z : Int} (h : 0 ≤ z ∧ z < 1048576) : (Lit.int .i64 z).wf = true := by simp [Lit.wf, IntKind.min, IntKind.max, IntKind.bits, IntKind.signed]; omega
/-- What is right of the first k. -/
def SeqsTo (zs : List Int) (n : Int) (k : Nat) : Prop := (zs.take k).Nodup ∧ ∀ z ∈ zs.take k, z < n
theorem SeqsTo.succ {zs : List Int} {n : Int} {k : Nat} (h : SeqsTo zs n k) (hk : k < zs.length) (h1 : zs[k] ∉ zs.take k) (h2 : zs[k] < n) : SeqsTo zs n (k + 1) := by
  unfold SeqsTo
  rw [List.take_succ_eq_append_getElem hk]
  refine ⟨List.nodup_append.2 ⟨h.1, by simp, fun a ha b hb e => ?_⟩, fun z hz => ?_⟩
  · simp at hb; subst hb; subst e; exact h1 ha
  · rcases List.mem_append.1 hz with hz | hz
    · exact h.2 z hz
    · simp at hz; subst hz; exact h2
theorem seqsOk_yes {s : StateD} (h : SeqsTo (seqsOf s) s.nextSeq (seqsOf s).length) : seqsOk s = true := by
  unfold SeqsTo at h
  rw [List.take_length] at h
  unfold seqsOk
  rw [decide_eq_true h.1, Bool.true_and, List.all_eq_true]
  exact fun z hz => decide_eq_true (h.2 z hz)
theorem seqsOk_no {s : StateD} {k : Nat} (hk : k < (seqsOf s).length) (h : (seqsOf s)[k] ∈ (seqsOf s).take k ∨ s.nextSeq ≤ (seqsOf s)[k]) : seqsOk s = false := by
  unfold seqsOk
  rcases h with h | h
  · have : ¬ (seqsOf s).Nodup := fun hn => by
      rw [← List.take_append_drop k (seqsOf s), List.nodup_append] at hn
      refine hn.2.2 _ h _ ?_ rfl
      rw [List.drop_eq_getElem_cons hk]; exact List.mem_cons_self
    rw [decide_eq_false this]; rfl
  · rw [Bool.and_eq_false_iff]
    refine .inr (List.all_eq_false.2 ⟨_, List.getElem_mem hk, ?_⟩)
    simp; exact h

set_option maxRecDepth 100000 in
set_option maxHeartbeats 1000000 in
theorem askSeqs_any (s : StateD) (b1 b2 b3 : Option Addr) (m1 d1 m2 d2 m3 d3 : Nat) (w : World) (hs : StateAt w b1 b2 b3 m1 m2 m3 s) (hb : (seqsOf s).length ≤ 100000000) (hq : ∀ z ∈ seqsOf s, 0 ≤ z ∧ z < 1048576) :
    Calls Try.prog 101 #[.agg #[.slice b1 m1 d1, .slice b2 m2 d2, .slice b3 m3 d3, .int .i64 s.nextSeq, .int .i64 s.nextTag, .int .i64 s.came, .int .i64 s.acked, .int .i64 s.dropped]] w fun e w' => e = askE (if seqsOk s = true then 0 else 1) ∧ Below w.heap.size w w' := by
  obtain ⟨D, hD⟩ : ∃ D : Int, D = if seqsOk s = true then 0 else 1 := ⟨_, rfl⟩
  rw [← hD]
  have HD := hidI hD
  clear hD
  have hmm := @run_makeMap Try.prog
  obtain ⟨W1, hW1, hBw, hs1, hbx⟩ := s_boxed w #[.slice b1 m1 d1, .slice b2 m2 d2, .slice b3 m3 d3, .int .i64 s.nextSeq, .int .i64 s.nextTag, .int .i64 s.came, .int .i64 s.acked, .int .i64 s.dropped]
  have HW1 := hidI hW1
  have s0 := hBw.size
  obtain ⟨W2, hW2⟩ : ∃ W2, W2 = W1.alloc (.map #[] 0) := ⟨_, rfl⟩
  have hB2 : Below W1.heap.size W1 W2 := by rw [hW2]; exact (Below.refl _ _).alloc (Nat.le_refl _) _
  have HW2 := hidI hW2
  have HS := hidI ((hs.keep hBw).keep hB2)
  have HQ := hidI hq
  have HBD := hidI hb
  have BX := hidI hbx
  have HS1 : Hid (w.heap.size + 1 = W1.heap.size) := hs1.symm
  obtain ⟨y0, y1, y2, y3, y4, y5, y6, y7⟩ := st_cells (hbx W2 hB2)
  have k02 := hBw.trans (hB2.mono s0)
  have s02 := k02.size
  have hown0 : W2.ownsMap Try.prog 3 unitElem W1.heap.size 0 (.map [] : DataW Unit) := by rw [hW2]; exact World.ownsMap_made _ _ _ _
  have HO0 := hidI hown0
  clear hW1 hbx hs1 hs hb hq hW2 hown0
  go_enter Try.func101, Try.ntmps101
  go_wp2_with fail
  rw [← HW1.out, ← HW2.out, HS1.out]
  refine (seqs_any s _ _ _ _ _ _ _ _ _ _ HS.out HBD.out).mono ?_
  rintro e w3 ⟨a, c, rfl, hI, hge, hB3⟩
  obtain ⟨Z, hZ⟩ : ∃ Z, Z = seqsOf s := ⟨_, rfl⟩
  have HZ := hidI hZ
  rw [← hZ] at hI HBD HQ ⊢
  obtain ⟨n, hn⟩ : ∃ n, n = Z.length := ⟨_, rfl⟩
  rw [← hn] at HBD ⊢
  have HN := hidI hn
  have hn8 := HBD.out
  have HI := hidI hI
  have hwm : W1.heap.size < W2.heap.size := by rw [HW2.out]; simp
  have hmap : w3.ownsMap Try.prog 3 unitElem W1.heap.size 0 (.map [] : DataW Unit) := by
    obtain ⟨es, cl, h1, h2⟩ := HO0.out
    exact ⟨es, cl, (hB3.block _ hwm).trans h1, h2⟩
  have k3 : Below W1.heap.size W1 w3 := hB2.trans (hB3.mono hB2.size)
  have HM3 := hidI hmap
  have HGN : Hid (∀ g, a = some ⟨g, 0, none⟩ → ¬ some g = some W1.heap.size) := fun g e h => by have := hge g e; cases h; omega
  have hs3 := hB3.size
  clear hI hZ hn hmap hB3 hge y0 y1 y2 y3 y4 y5 y6 y7
  go_wp2_with fail
  go_loopw [4, 5, 6, 11] (fun _ _ _ i wr => ∃ k : Nat, k ≤ n ∧ i = .int .i64 k ∧ wr.ownsMap Try.prog 3 unitElem W1.heap.size k (setI Z k) ∧ SeqsTo Z s.nextSeq k ∧ Below W1.heap.size W1 wr ∧ NumsAt wr a Z ∧ w3.heap.size ≤ wr.heap.size) (fun _ _ _ i _ => n - (intOf i).toNat)
  case atStart => exact ⟨0, Nat.zero_le _, rfl, by rw [setI_zero]; exact HM3.out, ⟨by simp, by simp⟩, k3, HI.out, Nat.le_refl _⟩
  case round =>
    obtain ⟨k, hk, rfl, hown, hst, hB, hnums, hws⟩ := hrel
    have HST := hidI hst
    have hBs := hB.size
    have HNU := hidI hnums
    clear hst hnums
    by_cases hlt : k < n
    · have HLT := hidI hlt
      have hkl : k < Z.length := by rw [← HN.out]; exact hlt
      rcases HNU.out with h | ⟨g, hag, hg, hx⟩
      · rw [h] at hkl; simp at hkl
      subst hag
      have c1 := hx k hkl
      have HSU := hidI (setI_succ Z hkl)
      have HSN := hidI (fun h1 h2 => HST.out.succ hkl h1 h2)
      have HNO := hidI (fun (h : Z[k] ∈ Z.take k ∨ s.nextSeq ≤ Z[k]) => seqsOk_no (s := s) (k := k) (by rw [← HZ.out]; exact hkl) (by simp only [← HZ.out]; exact h))
      have hzr := HQ.out _ (List.getElem_mem hkl)
      obtain ⟨z, hz⟩ : ∃ z, z = Z[k] := ⟨_, rfl⟩
      rw [← hz] at c1 HSU HSN HNO hzr
      have hkey : keyOf Try.prog 3 (.int .i64 z) = some (.int .i64 z) := keyOf_int_mk Try.underlying3 (wf_int hzr)
      have HHAS := hidI (has_setI Z k z)
      obtain ⟨Dk, hDk⟩ : ∃ Dk, Dk = setI Z k := ⟨_, rfl⟩
      rw [← hDk] at hown HSU HHAS
      obtain ⟨y0, y1, y2, y3, y4, y5, y6, y7⟩ := st_cells (BX.out wr hB)
      have j1 : (0 : Int) ≤ (k : Int) := by omega
      have j2 : (k : Int) < n := by omega
      have sk : w.heap.size < wr.heap.size := by have := HS1.out; omega
      have hmb : W1.heap.size < wr.heap.size := by omega
      obtain ⟨there, hth⟩ : ∃ there, there = decide (z ∈ Z.take k) := ⟨_, rfl⟩
      have hh : Maps.has Dk (.int .i64 z) = there := by rw [HHAS.out, hth]
      have HTH := hidI hth
      clear hx hz hDk hth
      go_wp2_with (at_lookup; refine wpList_lookup_own_unit _ rfl _ _ 149 rfl 3 137 keyed3 Try.underlying149 (zeroS _) W1.heap.size k Dk rfl hown _ _ rfl hkey ?_)
      by_cases hbad : there = true ∨ s.nextSeq ≤ z
      · have HN1 : Hid (seqsOk s = false) := HNO.out (hbad.imp (fun h => of_decide_eq_true (by rw [← HTH.out]; exact h)) id)
        refine (never_yes 1 [there, decide (s.nextSeq ≤ z)] _ _ (by simp) (bools_newG _ _ (World.size_alloc _ _).symm) (by rcases hbad with h | h; exact h ▸ List.mem_cons_self; rw [decide_eq_true h]; simp)).mono ?_
        rintro e w4 ⟨rfl, hw4⟩
        exact ⟨rfl, by rw [HD.out, HN1.out]; rfl, by rw [hw4]; exact hBw.trans (((hB.alloc hBs _).alloc (by simp; omega) _).mono s0)⟩
      · have hth : there = false := by cases there with | false => rfl | true => exact absurd (.inl rfl) hbad
        have HS2 : Hid (SeqsTo Z s.nextSeq (k + 1)) := HSN.out (of_decide_eq_false (by rw [← HTH.out]; exact hth)) (by omega)
        subst hth
        refine (never_no 1 [false, decide (s.nextSeq ≤ z)] _ _ (by simp) (bools_newG _ _ (World.size_alloc _ _).symm) (by simp; omega)).mono ?_
        rintro e w4 ⟨rfl, hw4⟩
        have hown4 : w4.ownsMap Try.prog 3 unitElem W1.heap.size k Dk := by rw [hw4]; exact (hown.alloc _).alloc _
        have l4 : Below wr.heap.size wr w4 := by rw [hw4]; exact ((Below.refl _ _).alloc (Nat.le_refl _) _).alloc (by simp) _
        have k4 : Below W1.heap.size W1 w4 := hB.trans (l4.mono hBs)
        have s4 := l4.size
        have HN4 := hidI (HNU.out.keep l4)
        clear hw4 hbad y0 y1 y2 y3 y4 y5 y6 y7 c1 hown
        go_wp2_with (at_mapUpdate; refine wpList_mapUpdate_own _ rfl _ _ _ 149 rfl 3 137 keyed3 Try.underlying149 (unitElem (H := Unit)) W1.heap.size k _ rfl hown4 (by unfold maxLen; omega) _ _ _ rfl rfl hkey _ [] unitElem_mk ?_; intro w5 hown5 hgrow5)
        have s5 := hgrow5.size
        go_roundw
        case rel => exact ⟨k + 1, HLT.out, by have := HLT.out; go_num, by rw [HSU.out]; exact hown5, HS2.out, k4.grown hgrow5 (by omega) (fun j hj => by cases hj; exact Nat.le_refl _), nums_grown HN4.out hgrow5 HGN.out, by omega⟩
        case measure => have := HLT.out; simp [intOf]; omega
    · have hke : k = n := by omega
      subst hke
      have HYES : Hid (seqsOk s = true) := by
        have := HST.out
        rw [HN.out, HZ.out] at this
        exact seqsOk_yes this
      clear hlt hk
      go_wp2_with fail
      go_end0
      exact ⟨by rw [HD.out, HYES.out]; rfl, hBw.trans (hB.mono s0)⟩
end Go.Proofs.Ythhkpgnjpieckaa
