import Derived.Deep.RegionHeld3
import Derived.Test.YtpoichgodamnkaaGreatSAc
namespace Go.Proofs.YtpoichgodamnkaaGreat
open Go.RowKit Go.Maps
set_option linter.unusedVariables false
set_option maxRecDepth 100000
set_option maxHeartbeats 2000000
structure Hall (W : World) (N H t : Nat) (v1 v2 v3 : Value) (xs : List ArrD) (a : Option Addr) (m c : Nat) : Prop where
 box : W.heap[H]? = some (.cells #[.pointer (some ⟨t, 0, none⟩), v1, v2, v3, .slice a m c] 97 (0, 0))
 row : W.ownsRow N 101 4 (.slice a m c) m (arrCells xs)
theorem Hall.len {W : World} {N H t : Nat} {v1 v2 v3 : Value} {xs : List ArrD} {a : Option Addr} {m c : Nat} (h : Hall W N H t v1 v2 v3 xs a m c) : m = xs.length := by
 have := h.row.1; rw [arrCells_len] at this; omega
theorem Hall.keep {W W' : World} {N H t : Nat} {v1 v2 v3 : Value} {xs : List ArrD} {a : Option Addr} {m c : Nat} (h : Hall W N H t v1 v2 v3 xs a m c) (hB : Below W.heap.size W W') : Hall W' N H t v1 v2 v3 xs a m c := ⟨pkp_ h.box hB, cp2_ h.row hB⟩
theorem Hall.keep2 {W W' : World} {N H t : Nat} {v1 v2 v3 : Value} {xs : List ArrD} {a : Option Addr} {m c : Nat} (h : Hall W N H t v1 v2 v3 xs a m c) (k : Keep2 W W') : Hall W' N H t v1 v2 v3 xs a m c := by
 refine ⟨(k H _ _ h.box (by decide) (by decide)).trans h.box, h.row.1, ?_⟩
 rcases h.row.2 with e | ⟨g, cap, cur, h1, h2, h3, h4⟩
 ·exact .inl e
 ·exact .inr ⟨g, cap, cur, h1, h2, (k g cur _ h3 (by decide) (by decide)).trans h3, h4⟩
structure HallF (N H : Nat) (row : Option Nat) (W W' : World) : Prop where
 os : W'.os = W.os
 tape : W'.tape = W.tape
 output : W'.output = W.output
 size : W.heap.size ≤ W'.heap.size
 low : ∀ k, k < N → k ≠ H → W'.heap[k]? = W.heap[k]?
 blk : ∀ k, k < W.heap.size → k ≠ H → row ≠ some k → W'.heap[k]? = W.heap[k]?
 typ : ∀ (k : Nat) (cur : Array Value) (T : TypeId), W.heap[k]? = some (Obj.cells cur T (0, 0)) → T ≠ 101 → k ≠ H → W'.heap[k]? = W.heap[k]?
theorem HallF.stBox {N H n t : Nat} {row : Option Nat} {W W' : World} {s : StateD} (h : HallF N H row W W') (hb : StBox W n t s) (hH : ∃ cur, W.heap[H]? = some (.cells cur 97 (0, 0))) : StBox W' n t s := by
 obtain ⟨b1, b2, b3, m1, d1, m2, d2, m3, d3, hb, ho⟩ := hb
 obtain ⟨cu, hcu⟩ := hH
 have ne : ∀ (k : Nat) (cur : Array Value) (T : TypeId), W.heap[k]? = some (Obj.cells cur T (0, 0)) → T ≠ 97 → k ≠ H := fun k cur T hk hT e => by rw [e, hcu] at hk; cases hk; exact hT rfl
 have kr : ∀ {T : TypeId} {base size m : Nat} {v : Value} {cs : List Value}, W.ownsRow base T size v m cs → T ≠ 101 → T ≠ 97 → W'.ownsRow base T size v m cs := fun hr h1 h2 => by
  refine ⟨hr.1, ?_⟩
  rcases hr.2 with e | ⟨g, cap, cur, q1, q2, q3, q4⟩
  ·exact .inl e
  ·exact .inr ⟨g, cap, cur, q1, q2, (h.typ g cur _ q3 h1 (ne g cur _ q3 h2)).trans q3, q4⟩
 obtain ⟨vs, r1, r2⟩ := ho.r1
 exact ⟨b1, b2, b3, m1, d1, m2, d2, m3, d3, (h.typ t _ _ hb (by decide) (ne t _ _ hb (by decide))).trans hb, ho.l1, ho.l2, ho.l3, ho.x2, ⟨vs, kr r1 (by decide) (by decide), r2.keepT ⟨h.size, fun g cur _ hg => h.typ g cur _ hg (by decide) (ne g cur _ hg (by decide))⟩⟩, kr ho.r2 (by decide) (by decide), kr ho.r3 (by decide) (by decide)⟩
theorem wait_any (N H t : Nat) (v1 v2 v3 : Value) (xs ys : List ArrD) (a b : Option Addr) (m c mb cb : Nat) (w : World) (hh : Hall w N H t v1 v2 v3 xs a m c) (hH : H < N) (hN : N ≤ w.heap.size) (hy : ArrsAt w b ys) (hyl : ys.length = mb) (hyn : b = none → cb = 0 ∧ mb = 0) (hm : m + mb ≤ 1000000) :
  Calls Tryz.prog 64 #[.pointer (some ⟨H, 0, none⟩), .slice b mb cb] w fun e w' => ∃ a' c', e = okE ∧ Hall w' N H t v1 v2 v3 (xs ++ ys) a' (m + mb) c' ∧ HallF N H (Value.slice a m c).ownBlock w w' := by
 have HH := hidI hh
 have HY := hidI hy
 have HYL : Hid ((arrCells ys).length = mb * 4) := by show (arrCells ys).length = mb * 4; rw [arrCells_len, hyl]
 have HYN := hidI hyn
 have c4 := coc_ hh.box 4
 simp at c4
 clear hh hy hyl hyn
 go_enter Tryz.func64, Tryz.ntmps64
 go_wp2_with (at_builtin; refine append_row elemArr (by kernel_rfl) _ _ rfl N _ m (arrCells xs) rfl HH.out.row b mb cb (arrCells ys) rfl HYL.out HYN.out HY.out (arrCells_one _) (by unfold maxLen; omega) (by omega) hN ?_; intro v6 w6 ho6 hg6 _; have hb6 := (hg6.block H (by omega) (fun e => by have := HH.out.row.lt H e.symm; omega)).trans HH.out.box; clear c4; have c4 := coc_ hb6 4; have f4 := foc_ hb6 4; simp at c4; have HB6 := hidI hb6; have HO6 := hidI ho6; have HG6 := hidI hg6; obtain ⟨a6, c6, hv6, -⟩ := own_row ho6; subst hv6; clear hb6 ho6 hg6)
 go_end0
 have hT := sct_ w6 H 4 (.slice a6 (m + mb) c6)
 refine ⟨a6, c6, rfl, ⟨scb_ HB6.out (j := 4) _, row_turnA (by rw [arrCells_append]; exact HO6.out) hT hH⟩, ⟨hT.os.trans HG6.out.os, hT.tape.trans HG6.out.tape, hT.output.trans HG6.out.output, Nat.le_trans HG6.out.size hT.size, fun k h1 h2 => ?_, fun k h1 h2 h3 => ?_, fun k cur T hk h1 h2 => ?_⟩⟩
 ·exact (hT.block k (by have := HG6.out.size; omega) h2).trans (HG6.out.block k (by omega) (fun e => by have := HH.out.row.lt k e.symm; omega))
 ·exact (hT.block k (by have := HG6.out.size; omega) h2).trans (HG6.out.block k h1 (fun e => h3 e.symm))
 ·exact (hT.block k (by have := HG6.out.size; have := lth_ hk; omega) h2).trans (HG6.out.block k (lth_ hk) (fun e => row_other HH.out.row hk (fun e => h1 e.symm) e.symm))
theorem letter_any (q d seq : Int) (ky b : ByteArray) (w : World) :
  Calls Tryz.prog 132 #[.agg #[.int .i64 q, .string ky, .string b, .int .i64 d], .int .i64 seq] w fun e w' => e = .returned (.agg #[.int .i64 seq, .string ky, .string b, .bool false, .int .i64 d]) ∧ Below w.heap.size w w' := by
 obtain ⟨W2, hW2⟩ : ∃ W2, W2 = (w.alloc (.cells #[.int .i64 q, .string ky, .string b, .int .i64 d] 101)).alloc (.cells #[.int .i64 0, .string ⟨#[]⟩, .string ⟨#[]⟩, .bool false, .int .i64 0] 43) := ⟨_, rfl⟩
 obtain ⟨hz2, hb1, hb2, hB2⟩ := two_heap w _ _ _ hW2
 have HW2 := hidI hW2
 have HB2 := hidI hB2
 have HX2 := hidI hb2
 have c0 := coc_ hb1 0
 have c1 := coc_ hb1 1
 have c2 := coc_ hb1 2
 have c3 := coc_ hb1 3
 have d0 := coc_ hb2 0
 have d1 := coc_ hb2 1
 have d2 := coc_ hb2 2
 have d3 := coc_ hb2 3
 have d4 := coc_ hb2 4
 have f0 := foc_ hb2 0
 have f1 := foc_ hb2 1
 have f2 := foc_ hb2 2
 have f3 := foc_ hb2 3
 have f4 := foc_ hb2 4
 simp at c0 c1 c2 c3 d0 d1 d2 d3 d4
 have hs := hB2.size
 clear hW2 hz2 hb1 hb2 hB2
 go_enter Tryz.func132, Tryz.ntmps132
 go_upto_region 1 with fail
 rw [← HW2.out]
 go_wp2_with fail
 generalize hW4 : World.setCell (World.setCell (World.setCell (World.setCell (World.setCell W2 _ _) _ _) _ _) _ _) _ _ = W4
 have b4 : W4.heap[w.heap.size + 1]? = some (.cells #[.int .i64 seq, .string ky, .string b, .bool false, .int .i64 d] 43 (0, 0)) := by rw [← hW4]; exact scb_ (scb_ (scb_ (scb_ (scb_ HX2.out (j := 0) _) (j := 1) _) (j := 2) _) (j := 3) _) (j := 4) _
 have t4 : TurnB (w.heap.size + 1) W2 W4 := by rw [← hW4]; exact ((((sct_ _ _ _ _).trans (sct_ _ _ _ _)).trans (sct_ _ _ _ _)).trans (sct_ _ _ _ _)).trans (sct_ _ _ _ _)
 have z0 := coc_ b4 0
 have z1 := coc_ b4 1
 have z2 := coc_ b4 2
 have z3 := coc_ b4 3
 have z4 := coc_ b4 4
 simp at z0 z1 z2 z3 z4
 exact bodyPost_ret (v := .agg #[.int .i64 seq, .string ky, .string b, .bool false, .int .i64 d]) (by simp [results, Tryz.results132, go_sem, z0, z1, z2, z3, z4]) rfl ⟨rfl, HB2.out.trans (t4.below hs (by omega))⟩
end Go.Proofs.YtpoichgodamnkaaGreat
