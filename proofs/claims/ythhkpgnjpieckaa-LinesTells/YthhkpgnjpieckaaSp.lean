/- mailcoachref.split at a text of at most 24 bytes. -/
import Derived.RangeFuncBox
import Derived.Maps.AppendAt
import Derived.Test.YthhkpgnjpieckaaCk
namespace Go.Proofs.Ythhkpgnjpieckaa
set_option linter.unusedVariables false
set_option maxRecDepth 100000
open Go.RowKit

theorem Try.info9 : (Try.prog.info? 9).map (fun i => (i.zero, i.size, i.bytes)) = some (some (.string ⟨#[]⟩), 1, 16) := by kernel_rfl

/-- Where the splitting stands: outs are ready, the word at hand began at f, k is next. -/
def SpInv (s : ByteArray) (outs : List ByteArray) (f k : Nat) : Prop :=
  f ≤ k ∧ k ≤ s.size ∧ wlB s.data.toList = outs ++ wlB (s.data.toList.drop f) ∧ (46 : UInt8) ∉ (s.data.toList.drop f).take (k - f)

theorem own_ge {W : World} {base : Nat} {e : TypeId} {size : Nat} {v : Value} {n : Nat} {xs : List Value} (h : W.ownsRow base e size v n xs) : ∀ k, v.ownBlock = some k → base ≤ k := by
  rcases h.2 with ⟨rfl, _⟩ | ⟨g, cap, cur, rfl, hg, _⟩
  · intro k hk; cases hk
  · intro k hk; cases hk; exact hg

theorem SpInv.start (s : ByteArray) : SpInv s [] 0 0 := ⟨Nat.le_refl _, Nat.zero_le _, by simp, by simp⟩
theorem drop_cut (l : List UInt8) (f k : Nat) (hf : f ≤ k) (hk : k < l.length) : l.drop f = (l.drop f).take (k - f) ++ l[k] :: l.drop (k + 1) := by
  conv => lhs; rw [← List.take_append_drop (k - f) (l.drop f)]
  rw [List.drop_drop, show f + (k - f) = k from by omega, List.drop_eq_getElem_cons hk]
theorem ext_eq (s : ByteArray) (f k : Nat) : s.extract f k = ⟨((s.data.toList.drop f).take (k - f)).toArray⟩ := Lib.extract_eq s f k
theorem SpInv.no {s : ByteArray} {outs : List ByteArray} {f k : Nat} (h : SpInv s outs f k) (hk : k < s.size) (hc : s[k] ≠ 46) : SpInv s outs f (k + 1) := by
  obtain ⟨h1, h2, h3, h4⟩ := h
  have hl : k < s.data.toList.length := by simpa using hk
  refine ⟨by omega, by omega, h3, ?_⟩
  have e : (s.data.toList.drop f).take (k + 1 - f) = (s.data.toList.drop f).take (k - f) ++ [s.data.toList[k]] := by
    rw [show k + 1 - f = (k - f) + 1 from by omega, List.take_succ_eq_append_getElem (by simp; omega)]
    simp [List.getElem_drop, show f + (k - f) = k from by omega]
  rw [e]; simp only [List.mem_append, List.mem_singleton, not_or]
  exact ⟨h4, fun e => hc (by show s.data[k] = 46; simpa using e.symm)⟩
theorem SpInv.dot {s : ByteArray} {outs : List ByteArray} {f k : Nat} (h : SpInv s outs f k) (hk : k < s.size) (hc : s[k] = 46) : SpInv s (outs ++ [s.extract f k]) (k + 1) (k + 1) := by
  obtain ⟨h1, h2, h3, h4⟩ := h
  have hl : k < s.data.toList.length := by simpa using hk
  refine ⟨Nat.le_refl _, by omega, ?_, by simp⟩
  have hc' : s.data.toList[k] = 46 := by have h : s.data[k] = 46 := hc; simpa using h
  have e := drop_cut s.data.toList f k h1 hl
  rw [hc'] at e
  rw [h3, ext_eq]
  conv => lhs; rw [e]
  rw [wlB, wsplit_at _ _ h4]
  simp [wlB]
theorem SpInv.fin {s : ByteArray} {outs : List ByteArray} {f k : Nat} (h : SpInv s outs f k) (hk : k = s.size) : wlB s.data.toList = outs ++ [s.extract f k] := by
  obtain ⟨h1, h2, h3, h4⟩ := h
  subst hk
  have e : (s.data.toList.drop f).take (s.size - f) = s.data.toList.drop f := List.take_of_length_le (by simp)
  rw [e] at h4
  rw [h3, ext_eq, e, wlB, wsplit_none _ h4]; rfl
theorem SpInv.len {s : ByteArray} {outs : List ByteArray} {f k : Nat} (h : SpInv s outs f k) : outs.length ≤ s.size := by
  obtain ⟨h1, h2, h3, h4⟩ := h
  have e1 : (wlB s.data.toList).length ≤ s.size + 1 := by have := wsplit_le s.data.toList; simp [wlB] at *; omega
  have e2 : 1 ≤ (wlB (s.data.toList.drop f)).length := by
    have := wsplit_ne (s.data.toList.drop f)
    have : (wsplit (s.data.toList.drop f)).length ≠ 0 := by simpa using this
    simp [wlB]; omega
  rw [h3, List.length_append] at e1
  omega

set_option maxRecDepth 100000 in
set_option maxHeartbeats 2000000 in
theorem split_any (s : ByteArray) (w : World) (hs : s.size ≤ 24) :
    Calls Try.prog 57 #[.string s, .int .u8 46] w fun e w' => ∃ v, e = .returned v ∧ w'.ownsRow w.heap.size 9 1 v (wlB s.data.toList).length ((wlB s.data.toList).map Value.string) ∧ Below w.heap.size w w' := by
  obtain ⟨i0, hi, hz0, hz1, hz2⟩ := info_parts Try.info9
  go_enter Try.func57, Try.ntmps57
  go_wp2
  go_loopw [5, 6, 7] (fun v fv iv wr => ∃ (outs : List ByteArray) (f k : Nat), fv = .int .i64 f ∧ iv = .int .i64 k ∧ wr.ownsRow w.heap.size 9 1 v outs.length (outs.map Value.string) ∧ Below w.heap.size w wr ∧ (SpInv s outs f k ∨ k = s.size + 1 ∧ wlB s.data.toList = outs))
    (fun _ _ iv _ => s.size + 1 - (intOf iv).toNat)
  case atStart => exact ⟨[], 0, 0, rfl, rfl, World.ownsRow_nil _ _ _ _, Below.refl _ _, .inl (SpInv.start s)⟩
  case round =>
    obtain ⟨outs, f, k, rfl, rfl, hown, hB, hinv⟩ := hrel
    have hBs := hB.size
    rcases hinv with hinv | ⟨hk, hfin⟩
    · have hf := hinv.1
      have hk := hinv.2.1
      have hlen := hinv.len
      have HI : Hid (SpInv s outs f k) := hinv
      clear hinv
      by_cases hlt : k < s.size
      · have n1 : ((k : Int) == s.size) = false := beq_eq_false_iff_ne.2 (by omega)
        by_cases hc : s[k] = 46
        · have n2 : ((s[k].toNat : Int) == 46) = true := by rw [hc]; rfl
          have HN := HI.out.dot hlt hc
          have HN' : Hid (SpInv s (outs ++ [s.extract f k]) (k + 1) (k + 1)) := HN
          clear HN HI hc
          go_wp2_with (at_builtin; refine wpList_append_own _ rfl _ _ 22 rfl w.heap.size 9 i0 (.string ⟨#[]⟩) 1 16 Try.underlying22 hi hz0 hz1 hz2 rfl (by decide) _ _ _ rfl (hown.alloc _) ⟨wr.heap.size, 0, none⟩ 1 1 [.string (s.extract f k)] rfl rfl (cell_one_new _ _ _) (by simp [Value.oneCell']) (by unfold maxLen; omega) (by omega) (by simp; omega) ?_; intro v' w1 hown' hgrow _)
          have hB1 : Below w.heap.size w w1 := (hB.alloc hBs _).grown hgrow (by simp; omega) (own_ge hown)
          go_roundw
          case rel => exact ⟨outs ++ [s.extract f k], k + 1, k + 1, by go_num, by go_num, by simpa using hown', hB1, .inl HN'.out⟩
          case measure => simp [intOf]; omega
        · have n2 : ((s[k].toNat : Int) == 46) = false := by
            rw [beq_eq_false_iff_ne]; intro h; exact hc (UInt8.toNat_inj.1 (by simpa using Int.ofNat.inj h))
          have HN : Hid (SpInv s outs f (k + 1)) := HI.out.no hlt hc
          clear HI hc
          go_wp2
          go_roundw
          case rel => exact ⟨outs, f, k + 1, rfl, by go_num, hown, hB, .inl HN.out⟩
          case measure => simp [intOf]; omega
      · have hk' : k = s.size := by omega
        have n1 : ((k : Int) == s.size) = true := by rw [beq_iff_eq]; omega
        have HN : Hid (wlB s.data.toList = outs ++ [s.extract f k]) := HI.out.fin hk'
        have HK : Hid (k = s.size) := hk'
        clear HI hk'
        go_wp2_with (at_builtin; refine wpList_append_own _ rfl _ _ 22 rfl w.heap.size 9 i0 (.string ⟨#[]⟩) 1 16 Try.underlying22 hi hz0 hz1 hz2 rfl (by decide) _ _ _ rfl (hown.alloc _) ⟨wr.heap.size, 0, none⟩ 1 1 [.string (s.extract f k)] rfl rfl (cell_one_new _ _ _) (by simp [Value.oneCell']) (by unfold maxLen; omega) (by omega) (by simp; omega) ?_; intro v' w1 hown' hgrow _)
        have hB1 : Below w.heap.size w w1 := (hB.alloc hBs _).grown hgrow (by simp; omega) (own_ge hown)
        go_roundw
        case rel => exact ⟨outs ++ [s.extract f k], k + 1, k + 1, by go_num, by go_num, by simpa using hown', hB1, .inr ⟨by rw [HK.out], HN.out⟩⟩
        case measure => simp [intOf]; omega
    · have HF : Hid (wlB s.data.toList = outs) := hfin
      clear hfin
      subst hk
      go_wp2
      go_ret
      exact ⟨_, rfl, by rw [HF.out]; exact hown, hB⟩
end Go.Proofs.Ythhkpgnjpieckaa
