import Derived.Lib.AppendStr
import Derived.Test.YtpoichgodamnkaaGreatKwx
import Derived.Test.YtpoichgodamnkaaGreatKpx
import Derived.Test.YtpoichgodamnkaaGreatKox
import Derived.Test.YtpoichgodamnkaaGreatKxx
namespace Go.Proofs.YtpoichgodamnkaaGreat
open Go.RowKit Go.Maps
set_option linter.unusedVariables false
set_option maxRecDepth 100000
set_option maxHeartbeats 4000000
theorem within_na (a b c : Int) (w : World) :
 Calls Tryz.prog 103 #[.int .i64 a, .int .i64 b, .int .i64 c] w fun e w' => e = .returned (.bool (inR a b c)) ∧ w' = w := by
 by_cases h1 : b ≤ a <;> by_cases h2 : a ≤ c
 all_goals
  go_enter Tryz.func103, Tryz.ntmps103
  go_wp2
  go_ret
  exact ⟨ret_bool (by simp [inR] <;> omega), rfl⟩
def actLs (x : ActD) : List Int := [x.kind, x.a, x.b, (x.key.size : Int), (x.body.size : Int)]
theorem actLs_put (x : ActD) : (putE (actT x) = 0 ↔ ∀ j, j < 5 → inR ((actLs x).getD j 0) 0 255 = true) := by
 obtain ⟨kd, ka, kb, ky, bd⟩ := x
 unfold putE actT actLs inR
 simp only [List.all_cons, List.all_nil, ThingD.ok, Bool.and_true, Bool.and_eq_true, decide_eq_true_eq]
 constructor
 ·intro h j hj
  by_cases g : (0 ≤ kd ∧ kd ≤ 255) ∧ (0 ≤ ka ∧ ka ≤ 255) ∧ (0 ≤ kb ∧ kb ≤ 255) ∧ ky.size ≤ 255 ∧ bd.size ≤ 255
  ·obtain ⟨g1, g2, g3, g4, g5⟩ := g
   match j, hj with
   | 0, _ => exact g1
   | 1, _ => exact g2
   | 2, _ => exact g3
   | 3, _ => exact ⟨by simp, by simp; omega⟩
   | 4, _ => exact ⟨by simp, by simp; omega⟩
  ·rw [if_neg g] at h; cases h
 ·intro h
  have g1 := h 0 (by omega)
  have g2 := h 1 (by omega)
  have g3 := h 2 (by omega)
  have g4 := h 3 (by omega)
  have g5 := h 4 (by omega)
  simp at g1 g2 g3 g4 g5
  exact if_pos ⟨g1, g2, g3, by omega, by omega⟩
theorem putE_cases (l : List ThingD) : putE l = 0 ∨ putE l = 3 := by unfold putE; split <;> simp
theorem ractB_any (x : ActD) (w : World) :
 Calls Tryz.prog 53 #[x.val] w fun e w' => e = .returned (.tuple #[.string (putV (actT x)), .int .i64 (putE (actT x))]) ∧ Below w.heap.size w w' := by
 have AL := hidI (actLs_put x)
 have PC := hidI (putE_cases (actT x))
 obtain ⟨P, hP⟩ : ∃ P, P = putE (actT x) := ⟨_, rfl⟩
 obtain ⟨V, hV⟩ : ∃ V, V = putV (actT x) := ⟨_, rfl⟩
 rw [← hP, ← hV]
 have HP := hidI hP
 have HV := hidI hV
 clear hP hV
 obtain ⟨kd, ka, kb, ky, bd⟩ := x
 show Calls Tryz.prog 53 #[.agg #[.int .i64 kd, .int .i64 ka, .int .i64 kb, .string ky, .string bd]] w _
 obtain ⟨K, hK⟩ : ∃ K, K = ky.size := ⟨_, rfl⟩
 obtain ⟨D, hD⟩ : ∃ D, D = bd.size := ⟨_, rfl⟩
 obtain ⟨hz, hg, hB⟩ := allocs_heap [.cells #[.int .i64 kd, .int .i64 ka, .int .i64 kb, .string ky, .string bd] 72, .cells #[.int .i64 kd, .int .i64 ka, .int .i64 kb, .int .i64 (K : Int), .int .i64 (D : Int)] 3] w
 obtain ⟨W2, hW2⟩ : ∃ W2, W2 = (w.alloc (.cells #[.int .i64 kd, .int .i64 ka, .int .i64 kb, .string ky, .string bd] 72)).alloc (.cells #[.int .i64 kd, .int .i64 ka, .int .i64 kb, .int .i64 (K : Int), .int .i64 (D : Int)] 3) := ⟨_, rfl⟩
 have hg0 : W2.heap[w.heap.size]? = some (.cells #[.int .i64 kd, .int .i64 ka, .int .i64 kb, .string ky, .string bd] 72 (0, 0)) := by rw [hW2]; exact hg 0 _ rfl
 have hg1 : W2.heap[w.heap.size + 1]? = some (.cells #[.int .i64 kd, .int .i64 ka, .int .i64 kb, .int .i64 (K : Int), .int .i64 (D : Int)] 3 (0, 0)) := by rw [hW2]; exact hg 1 _ rfl
 have hBw : Below w.heap.size w W2 := by rw [hW2]; exact hB
 have hc : ∀ j, j < 5 → W2.cell? ⟨w.heap.size + 1, j, none⟩ = some (.int .i64 ((actLs ⟨kd, ka, kb, ky, bd⟩).getD j 0)) := by
  intro j hj
  unfold actLs
  dsimp only
  rw [← hK, ← hD]
  match j, hj with
  | 0, _ => exact coc_ hg1 0
  | 1, _ => exact coc_ hg1 1
  | 2, _ => exact coc_ hg1 2
  | 3, _ => exact coc_ hg1 3
  | 4, _ => exact coc_ hg1 4
 have HC := hidI hc
 have HG0 := hidI hg0
 have HW2 := hidI hW2
 have HBW := hidI hBw
 have HK := hidI hK
 have HD := hidI hD
 clear hz hg hB hW2 hg0 hg1 hBw hc
 rw [hK, hD] at HW2
 clear hK hD
 go_enter Tryz.func53, Tryz.ntmps53
 go_wp2_with fail
 rw [← HW2.out]
 go_loopw [5] (fun i wr => ∃ k : Nat, k ≤ 5 ∧ i = .int .i64 k ∧ (∀ j, j < k → inR ((actLs ⟨kd, ka, kb, ky, bd⟩).getD j 0) 0 255 = true) ∧ wr = W2) (fun i _ => 5 - (intOf i).toNat)
 case atStart => exact ⟨0, by omega, rfl, fun j hj => absurd hj (Nat.not_lt_zero _), rfl⟩
 case round =>
  obtain ⟨k, hk, rfl, hin, rfl⟩ := hrel
  have HIN := hidI hin
  clear hin
  by_cases hlt : k < 5
  ·have HLT := hidI hlt
   have e1 := HC.out k hlt
   obtain ⟨z, hzz⟩ : ∃ z, z = (actLs ⟨kd, ka, kb, ky, bd⟩).getD k 0 := ⟨_, rfl⟩
   rw [← hzz] at e1
   have HZ := hidI hzz
   have j1 : (0 : Int) ≤ (k : Int) := by omega
   have j2 : (k : Int) < 5 := by omega
   obtain ⟨b, hb⟩ : ∃ b, b = inR z 0 255 := ⟨_, rfl⟩
   have HBB := hidI hb
   clear hzz hb
   go_wp2_with fail
   refine (within_na z 0 255 _).mono ?_
   rintro e w3 ⟨rfl, rfl⟩
   rw [← HBB.out]
   cases b with
   | true =>
     go_wp2_with fail
     go_roundw
     case rel => exact ⟨k + 1, HLT.out, by have := HLT.out; go_num, fun j hj => by
      by_cases e : j = k
      ·subst e; rw [← HZ.out]; exact HBB.out.symm
      ·exact HIN.out j (by omega), by first | trivial | rfl⟩
     case measure => have := HLT.out; simp [intOf]; omega
   | false =>
     have hP3 : P = 3 := by
      rcases PC.out with h | h
      ·have := AL.out.1 h k HLT.out
       rw [← HZ.out, ← HBB.out] at this; cases this
      ·rw [HP.out]; exact h
     have hV0 : V = ⟨#[]⟩ := by rw [HV.out]; unfold putV; rw [if_neg (by rw [← HP.out, hP3]; decide)]
     subst hP3 hV0
     go_wp2_with fail
     go_ret2
     exact ⟨rfl, HBW.out⟩
  ·have hke : k = 5 := by omega
   subst hke
   have hP0 : P = 0 := by rw [HP.out]; exact AL.out.2 HIN.out
   subst hP0
   clear hlt hk
   obtain ⟨o1, o2, o3, o4, o5⟩ := act_ok HP.out.symm
   dsimp only at o1 o2 o3 o4 o5
   have HVV : Hid (V = bytesV ((([oct8 kd, oct8 ka, oct8 kb, oct8 (ky.size : Int)] ++ ky.data.toList) ++ [oct8 (bd.size : Int)]) ++ bd.data.toList)) := by
    show V = _
    rw [HV.out]; unfold putV; rw [if_pos HP.out.symm, actB_eq]; simp [textB]
   have r1 : IntKind.u8.wrap kd = kd := by rw [IntKind.wrap_u8]; omega
   have r2 : IntKind.u8.wrap ka = ka := by rw [IntKind.wrap_u8]; omega
   have r3 : IntKind.u8.wrap kb = kb := by rw [IntKind.wrap_u8]; omega
   have r4 : IntKind.u8.wrap (ky.size : Int) = (ky.size : Int) := by rw [IntKind.wrap_u8]; omega
   have r5 : IntKind.u8.wrap (bd.size : Int) = (bd.size : Int) := by rw [IntKind.wrap_u8]; omega
   obtain ⟨i0, hi, hz0, hz1, hz2⟩ := info_parts Tryz.infoByte
   obtain ⟨W3, hW3⟩ : ∃ W3, W3 = wr.alloc (.cells #[.int .u8 kd, .int .u8 ka, .int .u8 kb, .int .u8 (ky.size : Int)] 5) := ⟨_, rfl⟩
   have HW3 := hidI hW3
   have k3 : Below wr.heap.size wr W3 := by rw [hW3]; exact (Below.refl _ _).alloc (Nat.le_refl _) _
   have e3 : byC_ [oct8 kd, oct8 ka, oct8 kb, oct8 (ky.size : Int)] = [.int .u8 kd, .int .u8 ka, .int .u8 kb, .int .u8 (ky.size : Int)] := by
    unfold byC_; simp [u8_of (n := kd) (by omega) (by omega), u8_of (n := ka) (by omega) (by omega), u8_of (n := kb) (by omega) (by omega), u8_of (n := (ky.size : Int)) (by omega) (by omega)]
   have HO3 : Hid (W3.ownsRow wr.heap.size 5 1 (.slice (some ⟨wr.heap.size, 0, none⟩) 4 4) 4 (byC_ [oct8 kd, oct8 ka, oct8 kb, oct8 (ky.size : Int)])) := by
    have := World.ownsRow_lit (base := wr.heap.size) (e := 5) (size := 1) wr #[.int .u8 kd, .int .u8 ka, .int .u8 kb, .int .u8 (ky.size : Int)] 4 (Nat.le_refl _) (by unfold maxLen; omega) rfl
    show W3.ownsRow _ _ _ _ _ _
    rw [hW3, e3]; exact this
   have K3 := hidI k3
   have hs3 := k3.size
   obtain ⟨c0, c1, c2, c3, c4⟩ := cells5 HG0.out
   have hlt0 : w.heap.size < wr.heap.size := lth_ HG0.out
   clear hW3 k3 e3
   go_upto_region 8 with (at_builtin; rw [← HW3.out]; refine Lib.wpList_append_own_string _ rfl _ _ 143 9 rfl wr.heap.size 5 i0 Tryz.underlying143 Tryz.underlying9 hi hz0 hz1 hz2 _ 4 _ rfl HO3.out ky rfl (by unfold maxLen; omega) (by omega) hs3 ?_; intro v4 w4 ho4 hg4 _; rw [strCells_bytes, ← bca_] at ho4)
   have k4 : Below wr.heap.size wr w4 := K3.out.grown hg4 hs3 (fun j hj => (HO3.out.lt j hj).1)
   obtain ⟨b4, q4, hv4, -⟩ := own_row ho4
   subst hv4
   have K4 := hidI k4
   have g4 := pkp_ HG0.out k4
   have hs4 := k4.size
   clear c0 c1 c2 c3 c4 hg4
   obtain ⟨c0, c1, c2, c3, c4⟩ := cells5 g4
   have hlt4 : w.heap.size < w4.heap.size := lth_ g4
   obtain ⟨W5, hW5⟩ : ∃ W5, W5 = w4.alloc (.cells #[.int .u8 (bd.size : Int)] 5) := ⟨_, rfl⟩
   have k5 : Below w4.heap.size w4 W5 := by rw [hW5]; exact (Below.refl _ _).alloc (Nat.le_refl _) _
   have e5 : byC_ [oct8 (bd.size : Int)] = [.int .u8 (bd.size : Int)] := by unfold byC_; simp [u8_of (n := (bd.size : Int)) (by omega) (by omega)]
   have HRW : Hid (RowAt W5 (some ⟨w4.heap.size, 0, none⟩) (byC_ [oct8 (bd.size : Int)])) := by
    show RowAt _ _ _
    rw [e5, hW5]; exact row_new (cs := [.int .u8 (bd.size : Int)])
   have HO5 := hidI (row_keepN ho4 k5)
   have HW5 := hidI hW5
   have K5 := hidI (k4.trans (k5.mono hs4))
   have hs5 := (k4.trans (k5.mono hs4)).size
   clear hW5 k5 e5 ho4 k4 g4
   go_upto_region 9 with (at_builtin; rw [← HW5.out]; refine append_row elemByte (by kernel_rfl) _ _ rfl wr.heap.size (.slice b4 _ q4) _ (byC_ ([oct8 kd, oct8 ka, oct8 kb, oct8 (ky.size : Int)] ++ ky.data.toList)) rfl HO5.out (some ⟨w4.heap.size, 0, none⟩) 1 1 (byC_ [oct8 (bd.size : Int)]) rfl rfl (fun h => by cases h) HRW.out (bc1_ _) (by unfold maxLen; omega) (by omega) hs5 ?_; intro v6 w6 ho6 hg6 _; rw [← bca_] at ho6)
   have k6 : Below wr.heap.size wr w6 := K5.out.grown hg6 hs5 (fun j hj => (HO5.out.lt j hj).1)
   obtain ⟨b6, q6, hv6, -⟩ := own_row ho6
   subst hv6
   have K6 := hidI k6
   have g6 := pkp_ HG0.out k6
   have hs6 := k6.size
   have HO6 := hidI ho6
   clear c0 c1 c2 c3 c4 hg6 ho6
   obtain ⟨c0, c1, c2, c3, c4⟩ := cells5 g6
   clear k6 g6
   go_wp2_with (at_builtin; refine Lib.wpList_append_own_string _ rfl _ _ 143 9 rfl wr.heap.size 5 i0 Tryz.underlying143 Tryz.underlying9 hi hz0 hz1 hz2 _ _ _ rfl HO6.out bd rfl (by unfold maxLen; omega) (by omega) hs6 ?_; intro v7 w7 ho7 hg7 _; rw [strCells_bytes, ← bca_] at ho7; obtain ⟨b7, q7, hv7, hle7⟩ := own_row ho7; subst hv7; have hcv := run_text w7 ho7)
   go_ret2
   have k7 := K6.out.grown hg7 hs6 (fun j hj => (HO6.out.lt j hj).1)
   exact ⟨by rw [HVV.out]; simp, HBW.out.trans (k7.mono HBW.out.size)⟩
theorem rNum_at {s : ByteArray} {i : Nat} (h : i < s.size) : rNum s i = some (s[i].toNat, i + 1) := by unfold rNum; rw [dif_pos h]
theorem rNum_no {s : ByteArray} {i : Nat} (h : ¬ i < s.size) : rNum s i = none := by unfold rNum; rw [dif_neg h]
theorem rText_at {s : ByteArray} {i : Nat} (h : i < s.size) (hn : s[i].toNat ≤ s.size - (i + 1)) : rText s i = some (s.extract (i + 1) (i + 1 + s[i].toNat), i + 1 + s[i].toNat) := by
 unfold rText; rw [rNum_at h]; dsimp only; rw [if_pos hn]
theorem rText_no {s : ByteArray} {i : Nat} (h : ¬ i < s.size) : rText s i = none := by unfold rText; rw [rNum_no h]
theorem rText_short {s : ByteArray} {i : Nat} (h : i < s.size) (hn : ¬ s[i].toNat ≤ s.size - (i + 1)) : rText s i = none := by
 unfold rText; rw [rNum_at h]; dsimp only; rw [if_neg hn]
theorem rAct_three {s : ByteArray} (h : 3 ≤ s.size) : rAct s 0 = match rText s 3 with
 | none => none
 | some (t, n) => match rText s n with
   | none => none
   | some (u, e) => some (⟨(s[0].toNat : Nat), (s[1].toNat : Nat), (s[2].toNat : Nat), t, u⟩, e) := by
 unfold rAct
 rw [rNum_at (by omega : 0 < s.size)]; dsimp only
 rw [rNum_at (by omega : 0 + 1 < s.size)]; dsimp only
 rw [rNum_at (by omega : 0 + 1 + 1 < s.size)]; rfl
theorem rAct_A {s : ByteArray} (h : s.size < 5) : rAct s 0 = none := by
 by_cases h3 : 3 ≤ s.size
 ·rw [rAct_three h3]
  by_cases h4 : 3 < s.size
  ·by_cases hn : s[3].toNat ≤ s.size - (3 + 1)
   ·rw [rText_at h4 hn]; dsimp only
    rw [rText_no (by omega)]
   ·rw [rText_short h4 hn]
  ·rw [rText_no h4]
 ·unfold rAct
  by_cases h0 : 0 < s.size
  ·rw [rNum_at h0]; dsimp only
   by_cases h1 : 0 + 1 < s.size
   ·rw [rNum_at h1]; dsimp only
    rw [rNum_no (by omega)]
   ·rw [rNum_no h1]
  ·rw [rNum_no h0]
theorem rAct_B {s : ByteArray} (h : 5 ≤ s.size) (hk : s.size ≤ 4 + s[3].toNat) : rAct s 0 = none := by
 rw [rAct_three (by omega)]
 by_cases hn : s[3].toNat ≤ s.size - (3 + 1)
 ·rw [rText_at (by omega) hn]; dsimp only
  rw [rText_no (by omega)]
 ·rw [rText_short (by omega) hn]
theorem rAct_C {s : ByteArray} {n : Nat} (h : 5 ≤ s.size) (hn : n = s[3].toNat) (hk : 4 + n < s.size) (he : s.size < 4 + n + 1 + s[4 + n].toNat) : rAct s 0 = none := by
 rw [rAct_three (by omega), rText_at (by omega) (by omega), ← hn]; dsimp only
 rw [rText_short hk (by omega)]
theorem rAct_D {s : ByteArray} {n m : Nat} (h : 5 ≤ s.size) (hn : n = s[3].toNat) (hk : 4 + n < s.size) (hm : m = s[4 + n].toNat) (he : 4 + n + 1 + m ≤ s.size) :
 rAct s 0 = some (⟨(s[0].toNat : Nat), (s[1].toNat : Nat), (s[2].toNat : Nat), s.extract 4 (4 + n), s.extract (4 + n + 1) (4 + n + 1 + m)⟩, 4 + n + 1 + m) := by
 rw [rAct_three (by omega), rText_at (by omega) (by omega), ← hn]; dsimp only
 rw [rText_at hk (by omega), ← hm]
def fromX (s : ByteArray) : ActD × Nat := match rAct s 0 with | none => (actZ, 0) | some (x, n) => (x, n)
theorem actFrom_any (s : ByteArray) (w : World) (hs : s.size ≤ 1000000) :
 Calls Tryz.prog 123 #[.string s] w fun e w' => e = .returned (.tuple #[(fromX s).1.val, .int .i64 ((fromX s).2 : Nat)]) ∧ Below w.heap.size w w' := by
 obtain ⟨X, hX⟩ : ∃ X, X = fromX s := ⟨_, rfl⟩
 rw [← hX]
 have HX := hidI hX
 clear hX
 by_cases h5 : s.size < 5
 ·have e : X = (actZ, 0) := by rw [HX.out]; unfold fromX; rw [rAct_A h5]
  subst e
  have g1 : decide ((s.size : Int) < 5) = true := by simp; omega
  clear h5
  go_enter Tryz.func123, Tryz.ntmps123
  go_wp2_with fail
  obtain ⟨W9, hW9⟩ : ∃ W9, W9 = w.alloc (.cells #[.int .i64 0, .int .i64 0, .int .i64 0, .string ⟨#[]⟩, .string ⟨#[]⟩] 72) := ⟨_, rfl⟩
  have hx : W9.heap[w.heap.size]? = some (.cells #[.int .i64 0, .int .i64 0, .int .i64 0, .string ⟨#[]⟩, .string ⟨#[]⟩] 72 (0, 0)) := by rw [hW9]; exact World.alloc_heap_new w _
  obtain ⟨c0, c1, c2, c3, c4⟩ := cells5 hx
  rw [← hW9]
  exact bodyPost_ret (v := .tuple #[.agg #[.int .i64 0, .int .i64 0, .int .i64 0, .string ⟨#[]⟩, .string ⟨#[]⟩], .int .i64 0]) (by simp [results, Tryz.results123, go_sem, c0, c1, c2, c3, c4]) rfl ⟨rfl, by rw [hW9]; exact (Below.refl _ _).alloc (Nat.le_refl _) _⟩
 have HS5 : Hid (5 ≤ s.size) := by show 5 ≤ s.size; omega
 have g1 : decide ((s.size : Int) < 5) = false := by simp; omega
 obtain ⟨n, hn⟩ : ∃ n, n = s[3].toNat := ⟨_, rfl⟩
 have n256 : n < 256 := by rw [hn]; exact UInt8.toNat_lt _
 have HN := hidI hn
 obtain ⟨K, hK⟩ : ∃ K, K = 4 + n := ⟨_, rfl⟩
 have k1 : (4 : Int) + (n : Int) = (K : Int) := by omega
 have HK := hidI hK
 clear hK
 go_enter Tryz.func123, Tryz.ntmps123
 go_upto_region 4 with fail
 rw [← hn, k1]
 clear k1 hn
 by_cases hB : s.size ≤ K
 ·have e : X = (actZ, 0) := by rw [HX.out]; unfold fromX; rw [rAct_B HS5.out (by have := HN.out; have := HK.out; omega)]
  subst e
  have g2 : decide ((s.size : Int) ≤ (K : Int)) = true := by simp; omega
  go_wp2_with fail
  obtain ⟨W9, hW9⟩ : ∃ W9, W9 = w.alloc (.cells #[.int .i64 0, .int .i64 0, .int .i64 0, .string ⟨#[]⟩, .string ⟨#[]⟩] 72) := ⟨_, rfl⟩
  have hx : W9.heap[w.heap.size]? = some (.cells #[.int .i64 0, .int .i64 0, .int .i64 0, .string ⟨#[]⟩, .string ⟨#[]⟩] 72 (0, 0)) := by rw [hW9]; exact World.alloc_heap_new w _
  obtain ⟨c0, c1, c2, c3, c4⟩ := cells5 hx
  rw [← hW9]
  exact bodyPost_ret (v := .tuple #[.agg #[.int .i64 0, .int .i64 0, .int .i64 0, .string ⟨#[]⟩, .string ⟨#[]⟩], .int .i64 0]) (by simp [results, Tryz.results123, go_sem, c0, c1, c2, c3, c4]) rfl ⟨rfl, by rw [hW9]; exact (Below.refl _ _).alloc (Nat.le_refl _) _⟩
 have g2 : decide ((s.size : Int) ≤ (K : Int)) = false := by simp; omega
 have kl : K < s.size := by omega
 have ki : (K : Int) < (s.size : Int) := by omega
 obtain ⟨m, hm⟩ : ∃ m, m = (s[K]'kl).toNat := ⟨_, rfl⟩
 have m256 : m < 256 := by rw [hm]; exact UInt8.toNat_lt _
 have HM := hidI hm
 obtain ⟨M, hMM⟩ : ∃ M, M = K + 1 + m := ⟨_, rfl⟩
 have HMM := hidI hMM
 have w1 : IntKind.i64.wrap ((K : Int) + 1) = ((K + 1 : Nat) : Int) := by rw [IntKind.wrap_i64]; omega
 have w2 : IntKind.i64.wrap (((K + 1 : Nat) : Int) + (m : Int)) = (M : Int) := by rw [IntKind.wrap_i64]; omega
 have w3 : IntKind.i64.wrap ((K : Int) + 1 + (m : Int)) = (M : Int) := by rw [IntKind.wrap_i64]; omega
 have k0 : (0 : Int) ≤ (K : Int) := by omega
 clear hMM
 go_upto_region 7 with fail
 have e0 : (K : Int) + 1 + ((s[K]'kl).toNat : Int) = (M : Int) := by rw [← hm]; have := HMM.out; omega
 rw [e0, ← hm]
 clear e0 hm w1 w2 w3
 by_cases hC : s.size < M
 ·have e : X = (actZ, 0) := by
   obtain rfl := HK.out
   rw [HX.out]; unfold fromX; rw [rAct_C HS5.out HN.out kl (by rw [← HM.out, ← HMM.out]; exact hC)]
  subst e
  have g3 : decide ((s.size : Int) < (M : Int)) = true := by simp; omega
  go_wp2_with fail
  obtain ⟨W9, hW9⟩ : ∃ W9, W9 = w.alloc (.cells #[.int .i64 0, .int .i64 0, .int .i64 0, .string ⟨#[]⟩, .string ⟨#[]⟩] 72) := ⟨_, rfl⟩
  have hx : W9.heap[w.heap.size]? = some (.cells #[.int .i64 0, .int .i64 0, .int .i64 0, .string ⟨#[]⟩, .string ⟨#[]⟩] 72 (0, 0)) := by rw [hW9]; exact World.alloc_heap_new w _
  obtain ⟨c0, c1, c2, c3, c4⟩ := cells5 hx
  rw [← hW9]
  exact bodyPost_ret (v := .tuple #[.agg #[.int .i64 0, .int .i64 0, .int .i64 0, .string ⟨#[]⟩, .string ⟨#[]⟩], .int .i64 0]) (by simp [results, Tryz.results123, go_sem, c0, c1, c2, c3, c4]) rfl ⟨rfl, by rw [hW9]; exact (Below.refl _ _).alloc (Nat.le_refl _) _⟩
 have g3 : decide ((s.size : Int) < (M : Int)) = false := by simp; omega
 have hd : X = (⟨((s[0]'(by omega)).toNat : Nat), ((s[1]'(by omega)).toNat : Nat), ((s[2]'(by omega)).toNat : Nat), s.extract 4 K, s.extract (K + 1) M⟩, M) := by
  obtain rfl := HK.out
  rw [HX.out]; unfold fromX; rw [rAct_D HS5.out HN.out kl HM.out (by rw [← HMM.out]; omega), ← HMM.out]
 have HD := hidI hd
 have q0 : 0 < s.size := by omega
 have q1 : 1 < s.size := by omega
 have q2 : 2 < s.size := by omega
 have q1' : (1 : Int) < (s.size : Int) := by omega
 have q2' : (2 : Int) < (s.size : Int) := by omega
 have q3' : 4 ≤ K := by have := HK.out; omega
 have q4' : K ≤ s.size := by omega
 have q5' : K + 1 ≤ M := by have := HMM.out; omega
 have q6' : M ≤ s.size := by omega
 have q3 : (4 : Int) ≤ (K : Int) := by have := HK.out; omega
 have q4 : (K : Int) ≤ (s.size : Int) := by omega
 have q5 : (K : Int) + 1 ≤ (M : Int) := by have := HMM.out; omega
 have q6 : (M : Int) ≤ (s.size : Int) := by omega
 have w1 : IntKind.i64.wrap ((K : Int) + 1) = (K : Int) + 1 := by rw [IntKind.wrap_i64]; omega
 clear hd
 obtain ⟨r0, hr0⟩ : ∃ r, r = (s[0]'q0).toNat := ⟨_, rfl⟩
 obtain ⟨r1, hr1⟩ : ∃ r, r = (s[1]'q1).toNat := ⟨_, rfl⟩
 obtain ⟨r2, hr2⟩ : ∃ r, r = (s[2]'q2).toNat := ⟨_, rfl⟩
 have l0 : r0 < 256 := by rw [hr0]; exact UInt8.toNat_lt _
 have l1 : r1 < 256 := by rw [hr1]; exact UInt8.toNat_lt _
 have l2 : r2 < 256 := by rw [hr2]; exact UInt8.toNat_lt _
 have HR : Hid (X = (⟨(r0 : Nat), (r1 : Nat), (r2 : Nat), s.extract 4 K, s.extract (K + 1) M⟩, M)) := by show X = _; rw [HD.out, hr0, hr1, hr2]
 clear HD
 go_upto_region 9 with fail
 go_region
 rw [← hr0, ← hr1, ← hr2]
 clear hr0 hr1 hr2
 have hX := HR.out
 subst hX
 go_wp2_with fail
 obtain ⟨W9, hW9⟩ : ∃ W9, W9 = (w.alloc (.cells #[.int .i64 (r0 : Nat), .int .i64 (r1 : Nat), .int .i64 (r2 : Nat), .string (s.extract 4 K), .string (s.extract (K + 1) M)] 72)).drew := ⟨_, rfl⟩
 have hx : W9.heap[w.heap.size]? = some (.cells #[.int .i64 (r0 : Nat), .int .i64 (r1 : Nat), .int .i64 (r2 : Nat), .string (s.extract 4 K), .string (s.extract (K + 1) M)] 72 (0, 0)) := by rw [hW9]; exact World.alloc_heap_new w _
 obtain ⟨c0, c1, c2, c3, c4⟩ := cells5 hx
 rw [← hW9]
 exact bodyPost_ret (v := .tuple #[.agg #[.int .i64 (r0 : Nat), .int .i64 (r1 : Nat), .int .i64 (r2 : Nat), .string (s.extract 4 K), .string (s.extract (K + 1) M)], .int .i64 (M : Nat)]) (by simp [results, Tryz.results123, go_sem, c0, c1, c2, c3, c4]) rfl ⟨rfl, by rw [hW9]; exact ((Below.refl _ _).alloc (Nat.le_refl _) _).drew⟩
theorem same_acts (xs : List ActD) (a1 a2 : Option Addr) (n c1 c2 : Nat) (w : World) (hn : xs.length = n) (hm : n ≤ 60) (h1 : RowAt w a1 (actCells xs)) (h2 : RowAt w a2 (actCells xs)) :
 Calls Tryz.prog 56 #[.slice a1 n c1, .slice a2 n c2] w fun e w' => e = .returned (.bool true) ∧ ∃ m, w' = w.drewN m := by
 have HN : Hid (xs.length = n) := hn
 have HP : Hid (RowAt w a1 (actCells xs) ∧ RowAt w a2 (actCells xs)) := ⟨h1, h2⟩
 clear hn h1 h2
 go_enter Tryz.func56, Tryz.ntmps56
 go_wp2
 go_loopw [5] (fun i wr => ∃ (k m : Nat), k ≤ n ∧ i = .int .i64 k ∧ wr = w.drewN m) (fun i _ => n - (intOf i).toNat)
 case atStart => exact ⟨0, 0, Nat.zero_le _, rfl, rfl⟩
 case round =>
  obtain ⟨k, m, hk, rfl, hwr⟩ := hrel
  have HWR : Hid (wr = w.drewN m) := hwr
  have hB : Below w.heap.size w wr := by rw [hwr]; exact below_drewL (Below.refl _ _)
  clear hwr
  by_cases hlt : k < n
  ·have hkl : k < xs.length := by rw [HN.out]; exact hlt
   obtain ⟨g, o, rfl, hg, p0, p1, p2, p3, p4⟩ := row_act (HP.out.1.keep hB) hkl
   obtain ⟨g', o', rfl, hg', q0, q1, q2, q3, q4⟩ := row_act (HP.out.2.keep hB) hkl
   obtain ⟨x, hxx⟩ : ∃ x, x = xs[k] := ⟨_, rfl⟩
   rw [← hxx] at p0 p1 p2 p3 p4 q0 q1 q2 q3 q4
   clear hxx
   obtain ⟨kd, ka, kb, ky, bd⟩ := x
   have j1 : (0 : Int) ≤ (k : Int) := by omega
   have j2 : (k : Int) < n := by omega
   go_wp2_with fail
   refine wp_region_held_drew (S := fun w' => (w'.cell? ⟨g, o + k * 5, none⟩ = some (.int .i64 kd) ∧ w'.cell? ⟨g, o + k * 5 + 1, none⟩ = some (.int .i64 ka) ∧ w'.cell? ⟨g, o + k * 5 + 2, none⟩ = some (.int .i64 kb) ∧ w'.cell? ⟨g, o + k * 5 + 3, none⟩ = some (.string ky) ∧ w'.cell? ⟨g, o + k * 5 + 4, none⟩ = some (.string bd)) ∧
    (w'.cell? ⟨g', o' + k * 5, none⟩ = some (.int .i64 kd) ∧ w'.cell? ⟨g', o' + k * 5 + 1, none⟩ = some (.int .i64 ka) ∧ w'.cell? ⟨g', o' + k * 5 + 2, none⟩ = some (.int .i64 kb) ∧ w'.cell? ⟨g', o' + k * 5 + 3, none⟩ = some (.string ky) ∧ w'.cell? ⟨g', o' + k * 5 + 4, none⟩ = some (.string bd))) (by kernel_rfl) ⟨⟨p0, p1, p2, p3, p4⟩, q0, q1, q2, q3, q4⟩ (fun hHeld => ?_)
   refine tk 0 ?_
   refine tk 1 ?_
   refine tk 2 ?_
   refine tk 3 ?_
   refine tk 4 ?_
   refine tk 5 ?_
   refine tk 6 ?_
   refine tk 7 ?_
   refine tk 8 ?_
   refine wpAnyH_done (by kernel_rfl) ?_ _
   go_wp2_with fail
   go_roundw
   case rel => exact ⟨k + 1, m + 1, by omega, by go_num, by rw [HWR.out]; rfl⟩
   case measure => simp [intOf]; omega
  ·go_wp2
   go_ret
   exact ⟨rfl, m, HWR.out⟩
theorem suffix_has {s : ByteArray} {i : Nat} {l : List UInt8} (hi : i ≤ s.size) : Has (s.extract i s.size) 0 l ↔ Has s i l := by
 have e : (s.extract i s.size).data.toList = s.data.toList.drop i := by rw [ext_list, List.take_of_length_le (by rw [List.length_drop, size_list]; exact Nat.le_refl _)]
 unfold Has
 rw [List.drop_zero, e]
 exact ⟨fun h => ⟨hi, h.2⟩, fun h => ⟨Nat.zero_le _, h.2⟩⟩
theorem from_suffix {s : ByteArray} {i : Nat} (hi : i ≤ s.size) : (rAct s i = none ∧ fromX (s.extract i s.size) = (actZ, 0)) ∨ ∃ x n, rAct s i = some (x, i + n) ∧ fromX (s.extract i s.size) = (x, n) ∧ n ≠ 0 ∧ i + n ≤ s.size := by
 cases h : rAct s i with
 | none =>
   refine .inl ⟨rfl, ?_⟩
   unfold fromX
   cases g : rAct (s.extract i s.size) 0 with
   | none => rfl
   | some q =>
     obtain ⟨x, j⟩ := q
     obtain ⟨f1, f2, f3⟩ := rAct_fwd g
     rw [rAct_bwd f3 ((suffix_has hi).1 f1)] at h; cases h
 | some q =>
   obtain ⟨x, j⟩ := q
   obtain ⟨f1, f2, f3⟩ := rAct_fwd h
   refine .inr ⟨x, (putB_ (actT x)).length, by rw [f2], ?_, by rw [actB_eq]; simp, f1.le⟩
   unfold fromX
   rw [rAct_bwd f3 ((suffix_has hi).2 f1)]
   dsimp only
   rw [Nat.zero_add]
structure RepJ (s : ByteArray) (w wr : World) (acc : List ActD) (i : Nat) (v : Value) : Prop where
 few : acc.length ≤ 60
 list : (repL s 60 0).1 = acc ++ (repL s (60 - acc.length) i).1
 pos : (repL s 60 0).2 = (repL s (60 - acc.length) i).2
 le : i ≤ s.size
 fr : Below w.heap.size w wr
 own : wr.ownsRow w.heap.size 72 5 v acc.length (actCells acc)
theorem replayOf_any (s : ByteArray) (w : World) :
 Calls Tryz.prog 55 #[.string s] w fun e w' => ∃ v, e = .returned (.tuple #[v, .int .i64 (repN s), .int .i64 (repE s)]) ∧ w'.ownsRow w.heap.size 72 5 v (repA s).length (actCells (repA s)) ∧ Below w.heap.size w w' := by
 by_cases hbig : 4096 < s.size
 ·have hE : repE s = 2 := if_pos hbig
  have hA : repA s = [] := by unfold repA; rw [hE]; rfl
  have hN : repN s = 0 := by unfold repN; rw [hE]; rfl
  rw [hE, hA, hN]
  have hb : decide ((4096 : Int) < (s.size : Int)) = true := by rw [decide_eq_true_eq]; omega
  have hb' : (4096 : Int) < (s.size : Int) := by omega
  clear hE hA hN hbig
  go_enter Tryz.func55, Tryz.ntmps55
  go_wp2_with fail
  go_ret3
  exact ⟨_, rfl, World.ownsRow_nil _ _ _ _, Below.refl _ _⟩
 have hE : repE s = 0 := if_neg hbig
 have hA : repA s = (repL s 60 0).1 := if_pos hE
 have hN : repN s = ((repL s 60 0).2 : Nat) := if_pos hE
 rw [hE, hA, hN]
 obtain ⟨LL, hLL⟩ : ∃ LL, LL = (repL s 60 0).1 := ⟨_, rfl⟩
 obtain ⟨NN, hNN⟩ : ∃ NN, NN = (repL s 60 0).2 := ⟨_, rfl⟩
 rw [← hLL, ← hNN]
 have HLL := hidI hLL
 have HNN := hidI hNN
 have hb' : ¬ (4096 : Int) < (s.size : Int) := by omega
 have HS : Hid (s.size ≤ 4096) := by show s.size ≤ 4096; omega
 clear hE hA hN hbig hLL hNN
 go_enter Tryz.func55, Tryz.ntmps55
 go_wp2_with fail
 go_loopw [5, 6, 7, 8] (fun l n _ _ wr => ∃ (acc : List ActD) (i : Nat), n = .int .i64 i ∧ RepJ s w wr acc i l) (fun l _ _ _ _ => 60 - lenOf l)
 case atStart => exact ⟨[], 0, rfl, Nat.zero_le _, by simp, by simp, Nat.zero_le _, Below.refl _ _, World.ownsRow_nil _ _ _ _⟩
 case round =>
  obtain ⟨acc, i, rfl, hinv⟩ := hrel
  have HI := hidI hinv
  obtain ⟨a, c, hv, hac, hcm, hna, -⟩ := own_row hinv.own
  obtain ⟨m, hm⟩ : ∃ m, m = acc.length := ⟨_, rfl⟩
  rw [← hm] at hv
  have HM := hidI hm
  have hm60 : m ≤ 60 := by rw [hm]; exact hinv.few
  subst hv
  clear hinv hm hac hcm hna
  by_cases hlt6 : m < 60
  rotate_left
  ·have hm6 : m = 60 := by omega
   have HLE : Hid (LL = acc) := by show LL = acc; rw [HLL.out, HI.out.list, ← HM.out, hm6]; simp [repL]
   have HNE : Hid (NN = i) := by show NN = i; rw [HNN.out, HI.out.pos, ← HM.out, hm6]; rfl
   subst hm6
   clear hlt6
   go_wp2_with fail
   go_ret3
   refine ⟨_, by rw [HNE.out]; rfl, ?_, HI.out.fr⟩
   rw [HLE.out]
   have := HI.out.own
   rw [← HM.out] at this ⊢
   exact this
  have j1 : (m : Int) < 60 := by omega
  have HLT := hidI hlt6
  have i1 : (i : Int) ≤ (s.size : Int) := by have := HI.out.le; omega
  have i2 : i ≤ s.size := HI.out.le
  have i3 : (0 : Int) ≤ (i : Int) := by omega
  clear hlt6
  go_wp2_with fail
  refine (actFrom_any (s.extract i s.size) wr (by rw [ByteArray.size_extract]; have := HS.out; omega)).mono ?_
  rintro e w2 ⟨rfl, l2⟩
  have K2 := hidI (HI.out.fr.trans (l2.mono HI.out.fr.size))
  have HO2 := hidI (cp2_ HI.out.own l2)
  clear l2
  rcases from_suffix i2 with ⟨hn, hx⟩ | ⟨x, n, hn, hx, hn0, hle⟩
  ·rw [hx]
   have HLE : Hid (LL = acc) := by
    show LL = acc
    rw [HLL.out, HI.out.list]
    obtain ⟨d, hd⟩ : ∃ d, 60 - acc.length = d + 1 := ⟨60 - acc.length - 1, by have := HLT.out; have := HM.out; omega⟩
    rw [hd]; unfold repL; rw [hn]; simp
   have HNE : Hid (NN = i) := by
    show NN = i
    rw [HNN.out, HI.out.pos]
    obtain ⟨d, hd⟩ : ∃ d, 60 - acc.length = d + 1 := ⟨60 - acc.length - 1, by have := HLT.out; have := HM.out; omega⟩
    rw [hd]; unfold repL; rw [hn]
   unfold ActD.val actZ
   dsimp only
   clear hn hx
   go_wp2_with fail
   go_ret3
   refine ⟨_, by rw [HNE.out]; rfl, ?_, ?_⟩
   ·rw [HLE.out]
    have := cp2_ HO2.out ((Below.refl w2.heap.size w2).alloc (Nat.le_refl _) (.cells #[.int .i64 0, .int .i64 0, .int .i64 0, .string ⟨#[]⟩, .string ⟨#[]⟩] 72))
    rw [← HM.out] at this ⊢
    exact this
   ·exact K2.out.alloc K2.out.size _
  ·rw [hx]
   have HNX : Hid (acc.length + 1 ≤ 60 ∧ (repL s 60 0).1 = (acc ++ [x]) ++ (repL s (60 - (acc ++ [x]).length) (i + n)).1 ∧ (repL s 60 0).2 = (repL s (60 - (acc ++ [x]).length) (i + n)).2) := by
    have hl1 := HLT.out
    have hl2 := HM.out
    obtain ⟨d, hd⟩ : ∃ d, 60 - acc.length = d + 1 := ⟨60 - acc.length - 1, by omega⟩
    have hd2 : 60 - (acc ++ [x]).length = d := by simp; omega
    refine ⟨by omega, ?_, ?_⟩
    ·rw [HI.out.list, hd, hd2]; conv => lhs; unfold repL
     rw [hn]; simp
    ·rw [HI.out.pos, hd, hd2]; conv => lhs; unfold repL
     rw [hn]
   obtain ⟨w3, hw3⟩ : ∃ w3, w3 = w2.alloc (.cells #[.int .i64 x.kind, .int .i64 x.a, .int .i64 x.b, .string x.key, .string x.body] 72) := ⟨_, rfl⟩
   have l3 : Below w2.heap.size w2 w3 := by rw [hw3]; exact (Below.refl _ _).alloc (Nat.le_refl _) _
   have b3 : w3.heap[w2.heap.size]? = some (.cells #[.int .i64 x.kind, .int .i64 x.a, .int .i64 x.b, .string x.key, .string x.body] 72 (0, 0)) := by rw [hw3]; exact World.alloc_heap_new w2 _
   have HW3 := hidI hw3
   have K3 := hidI (K2.out.trans (l3.mono K2.out.size))
   have HO3 := hidI (cp2_ HO2.out l3)
   have HLE := hidI hle
   obtain ⟨BX, hBX⟩ : ∃ BX, BX = w2.heap.size := ⟨_, rfl⟩
   have HBX := hidI hBX
   rw [← hBX] at b3
   obtain ⟨y0, y1, y2, y3, y4⟩ := cells5 b3
   unfold ActD.val
   dsimp only
   have hlb := lth_ b3
   have g0 : ((n : Int) == 0) = false := by rw [beq_eq_false_iff_ne]; omega
   clear hn hx hw3 l3 hBX b3
   go_upto_region 8 with fail
   rw [← HW3.out, ← HBX.out]
   obtain ⟨w4, hw4⟩ : ∃ w4, w4 = w3.alloc (.cells #[.int .i64 x.kind, .int .i64 x.a, .int .i64 x.b, .string x.key, .string x.body] 72) := ⟨_, rfl⟩
   have l4 : Below w3.heap.size w3 w4 := by rw [hw4]; exact (Below.refl _ _).alloc (Nat.le_refl _) _
   have HRW : Hid (RowAt w4 (some ⟨w3.heap.size, 0, none⟩) (actCells [x])) := by show RowAt w4 _ _; rw [hw4]; exact row_lit (w := w3) (cs := [.int .i64 x.kind, .int .i64 x.a, .int .i64 x.b, .string x.key, .string x.body])
   have HW4 := hidI hw4
   have K4 := hidI (K3.out.trans (l4.mono K3.out.size))
   have HO4 := hidI (cp2_ HO3.out l4)
   clear hw4 l4
   have HO4m : Hid (w4.ownsRow w.heap.size 72 5 (.slice a m c) m (actCells acc)) := by show w4.ownsRow _ _ _ _ m _; rw [HM.out] at HO4 ⊢; exact HO4.out
   have hwa : IntKind.i64.wrap ((i : Int) + (n : Int)) = ((i + n : Nat) : Int) := by rw [IntKind.wrap_i64]; have := HS.out; omega
   go_wp2_with (at_builtin; rw [← HW4.out]; refine append_row elemAct (by kernel_rfl) _ _ rfl w.heap.size _ m (actCells acc) rfl HO4m.out (some ⟨w3.heap.size, 0, none⟩) 1 1 (actCells [x]) rfl rfl (fun h => by cases h) HRW.out (actCells_one _) (by unfold maxLen; omega) (by omega) K4.out.size ?_; intro v5 w5 ho5 hg5 hblk; obtain ⟨a5, c5, rfl, -⟩ := own_row ho5; have HO5 := hidI ho5; have K5 := hidI (K4.out.grown hg5 K4.out.size (fun j hj => (HO4m.out.lt j hj).1)); clear ho5 hg5 hblk)
   go_roundw
   case rel =>
    refine ⟨acc ++ [x], i + n, by go_num, by rw [List.length_append]; exact HNX.out.1, HNX.out.2.1, HNX.out.2.2, HLE.out, K5.out, ?_⟩
    have := HO5.out
    rw [← actCells_append, HM.out] at this
    rw [List.length_append, List.length_singleton]
    exact HM.out ▸ this
   case measure => have := HLT.out; show 60 - (m + 1) < 60 - m; omega
end Go.Proofs.YtpoichgodamnkaaGreat
