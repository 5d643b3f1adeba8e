import Derived.Test.YtpoichgodamnkaaGreatGjx
import Derived.Test.YtpoichgodamnkaaGreatGzx
namespace Go.Proofs.YtpoichgodamnkaaGreat
open Go.RowKit Go.Maps
set_option linter.unusedVariables false
set_option maxRecDepth 100000
set_option maxHeartbeats 1000000
theorem outAt_any (s : StateD) (b1 b2 b3 : Option Addr) (m1 d1 m2 d2 m3 d3 : Nat) (t : Int) (w : World) (hs : StateAt w b1 b2 b3 m1 m2 m3 s) :
  Calls Tryz.prog 97 #[.agg #[.slice b1 m1 d1, .slice b2 m2 d2, .slice b3 m3 d3, .int .i64 s.nextSeq, .int .i64 s.nextTag, .int .i64 s.came, .int .i64 s.acked, .int .i64 s.dropped], .int .i64 t] w fun e w' => e = .returned (.int .i64 (idxF (fun o : OutD => decide (o.tag = t)) s.outs)) ∧ Below w.heap.size w w' := by
 obtain ⟨W1, hW1, hBw, hs1, hbx⟩ := s_boxed w #[.slice b1 m1 d1, .slice b2 m2 d2, .slice b3 m3 d3, .int .i64 s.nextSeq, .int .i64 s.nextTag, .int .i64 s.came, .int .i64 s.acked, .int .i64 s.dropped]
 have HW1 := hidI hW1
 have HS := hidI (hs.keep hBw)
 have HM2 : Hid (s.outs.length = m2) := hs.l2
 have hx2 := hs.x2
 have s0 := hBw.size
 obtain ⟨y0, y1, y2, y3, y4, y5, y6, y7⟩ := st_cells (hbx W1 (Below.refl _ _))
 clear hW1 hbx hs1 hs
 go_enter Tryz.func97, Tryz.ntmps97
 go_wp2_with fail
 rw [← HW1.out]
 go_loopw [5] (fun i wr => ∃ (k : Nat), k ≤ m2 ∧ i = .int .i64 k ∧ (∀ x ∈ s.outs.take k, decide (x.tag = t) = false) ∧ wr = W1) (fun i _ => m2 - (intOf i).toNat)
 case atStart => exact ⟨0, Nat.zero_le _, rfl, by simp, rfl⟩
 case round =>
  obtain ⟨k, hk, rfl, ha, rfl⟩ := hrel
  have HA := hidI ha
  clear ha
  by_cases hlt : k < m2
  ·have HLT := hidI hlt
   have hkl : k < s.outs.length := by rw [HM2.out]; exact hlt
   obtain ⟨g, o, ha, hg, e1, e2, e3, e4⟩ := HS.out.q2.get hkl
   subst ha
   have HX : Hid (decide (s.outs[k].tag = t) = true → idxF (fun o : OutD => decide (o.tag = t)) s.outs = k) := fun h => idxF_hit hkl HA.out h
   have HT : Hid (decide (s.outs[k].tag = t) = false → ∀ x ∈ s.outs.take (k + 1), decide (x.tag = t) = false) := fun h x hx => by
    rw [List.take_succ_eq_append_getElem hkl, List.mem_append, List.mem_singleton] at hx
    rcases hx with hx | rfl
    ·exact HA.out x hx
    ·exact h
   obtain ⟨x, hx⟩ : ∃ x, x = s.outs[k] := ⟨_, rfl⟩
   rw [← hx] at e1 HX HT
   obtain ⟨tk, htk⟩ : ∃ tk, tk = x.tag := ⟨_, rfl⟩
   rw [← htk] at e1 HX HT
   have j1 : (0 : Int) ≤ (k : Int) := by omega
   have j2 : (k : Int) < m2 := by omega
   clear hx htk e2 e3 e4
   by_cases htk : tk = t
   ·have hb : (tk == t) = true := by simpa using htk
    have HXX := hidI (HX.out (decide_eq_true htk))
    clear htk
    go_wp2_with fail
    go_ret
    exact ⟨ret_int HXX.out.symm, hBw⟩
   ·have hb : (tk == t) = false := by simpa using htk
    have HTT := hidI (HT.out (decide_eq_false htk))
    clear htk
    go_wp2_with fail
    go_roundw
    case rel => exact ⟨k + 1, HLT.out, by have := HLT.out; go_num, HTT.out, by first | trivial | rfl⟩
    case measure => have := HLT.out; simp [intOf]; omega
  ·have HF : Hid (idxF (fun o : OutD => decide (o.tag = t)) s.outs = -1) := idxF_none (fun x hx => HA.out x (by rw [List.take_of_length_le (by rw [HM2.out]; omega)]; exact hx))
   have hke : k = m2 := by omega
   subst hke
   clear hlt hk
   go_wp2_with fail
   go_ret
   exact ⟨ret_int HF.out.symm, hBw⟩
end Go.Proofs.YtpoichgodamnkaaGreat
