/- words.lay: one word of a pattern more. -/
import Derived.Test.YthhkpgnjpieckaaFi
namespace Go.Proofs.Ythhkpgnjpieckaa
set_option linter.unusedVariables false
set_option maxRecDepth 100000
open Go.RowKit

theorem Try.info4 : (Try.prog.info? 4).map (fun i => (i.zero, i.size, i.bytes)) = some (some (.bool false), 1, 1) := by kernel_rfl

/-- The cells of a slice of bools. -/
def IsBools (W : World) (g off : Nat) (bs : List Bool) : Prop := ∀ i (h : i < bs.length), W.cell? ⟨g, off + i, none⟩ = some (.bool bs[i])

/-- What is reached at n behind one word more. -/
def layN (x : ByteArray) (bs : List Bool) (ks : List ByteArray) : Nat → Bool
  | 0 => if x.data.toList = [35] then bs.getD 0 false else false
  | n + 1 => if x.data.toList = [35] then bs.getD (n + 1) false || layN x bs ks n else bs.getD n false && (x.data.toList == [42] || x.data.toList == (ks.getD n ⟨#[]⟩).data.toList)
def layB (x : ByteArray) (bs : List Bool) (ks : List ByteArray) : List Bool := (List.range bs.length).map (layN x bs ks)
/-- The new row with k of its places told. -/
def layTo (x : ByteArray) (bs : List Bool) (ks : List ByteArray) (k : Nat) : List Value := (List.range bs.length).map (fun i => Value.bool (if i < k then layN x bs ks i else false))

theorem layTo_zero (x : ByteArray) (bs : List Bool) (ks : List ByteArray) : layTo x bs ks 0 = List.replicate bs.length (.bool false) := by
  apply List.ext_getElem <;> simp [layTo]
theorem layTo_set (x : ByteArray) (bs : List Bool) (ks : List ByteArray) (k : Nat) {b : Bool} (hb : layN x bs ks k = b) : (layTo x bs ks k).set k (.bool b) = layTo x bs ks (k + 1) := by
  apply List.ext_getElem
  · simp [layTo]
  · intro i h1 h2
    simp only [layTo, List.getElem_set, List.getElem_map, List.getElem_range]
    by_cases hi : k = i
    · subst hi; simp [hb]
    · rw [if_neg hi]
      by_cases h3 : i < k
      · rw [if_pos h3, if_pos (by omega)]
      · rw [if_neg h3, if_neg (by omega)]
theorem layTo_same (x : ByteArray) (bs : List Bool) (ks : List ByteArray) (k : Nat) (hb : layN x bs ks k = false) : layTo x bs ks k = layTo x bs ks (k + 1) := by
  apply List.ext_getElem
  · simp [layTo]
  · intro i h1 h2
    simp only [layTo, List.getElem_map, List.getElem_range]
    by_cases hi : k = i
    · subst hi; simp [hb]
    · by_cases h3 : i < k
      · rw [if_pos h3, if_pos (by omega)]
      · rw [if_neg h3, if_neg (by omega)]
theorem layTo_get (x : ByteArray) (bs : List Bool) (ks : List ByteArray) (k j : Nat) (hj : j < bs.length) : (layTo x bs ks k)[j]? = some (.bool (if j < k then layN x bs ks j else false)) := by
  simp [layTo, hj]
theorem layTo_full (x : ByteArray) (bs : List Bool) (ks : List ByteArray) : layTo x bs ks bs.length = (layB x bs ks).map Value.bool := by
  apply List.ext_getElem
  · simp [layTo, layB]
  · intro i h1 h2
    simp [layTo, layB]
    intro h; simp [layTo] at h1; omega

theorem made_bools (n : Nat) : (madeCells (Value.bool false).cells (n * 1)).toList = List.replicate n (.bool false) := by
  apply List.ext_getElem
  · simp [madeCells]
  · intro i h1 h2
    simp [madeCells, Value.cells, Nat.mod_one]

set_option maxRecDepth 100000 in
set_option maxHeartbeats 2000000 in
theorem lay_any (x : ByteArray) (bs : List Bool) (ks : List ByteArray) (g1 c1 g2 c2 : Nat) (w : World) (hl : bs.length = ks.length + 1) (hn : bs.length ≤ 100) (h1 : IsBools w g1 0 bs) (h2 : IsTexts w g2 0 ks) (hg1 : g1 < w.heap.size) (hg2 : g2 < w.heap.size) :
    Calls Try.prog 60 #[.string x, .slice (some ⟨g1, 0, none⟩) bs.length c1, .slice (some ⟨g2, 0, none⟩) ks.length c2] w fun e w' =>
      e = .returned (.slice (some ⟨w.heap.size, 0, none⟩) bs.length bs.length) ∧ w'.ownsRow w.heap.size 4 1 (.slice (some ⟨w.heap.size, 0, none⟩) bs.length bs.length) bs.length ((layB x bs ks).map Value.bool) ∧ Below w.heap.size w w' := by
  obtain ⟨i0, hi, hz0, hz1, hz2⟩ := info_parts Try.info4
  have hl1 : ks.length < bs.length := by omega
  have HL : Hid (bs.length = ks.length + 1) := hl
  have H1 : Hid (IsBools w g1 0 bs) := h1
  have H2 : Hid (IsTexts w g2 0 ks) := h2
  clear hl h1 h2
  go_enter Try.func60, Try.ntmps60
  go_wp2_with (at_make; refine wpList_make_full _ rfl _ _ 87 rfl w.heap.size 4 i0 (.bool false) 1 Try.underlying87 hi hz0 hz1 _ _ _ _ bs.length rfl rfl rfl rfl (by rw [hz2]; omega) (by unfold maxLen; omega) (Nat.le_refl _) ?_; intro w1 hown1 hgrow1)
  rw [made_bools, ← layTo_zero x bs ks] at hown1
  have hB1 : Below w.heap.size w w1 := (Below.refl _ w).grown hgrow1 (Nat.le_refl _) (fun k e => by cases e)
  go_loopw [14] (fun i wr => ∃ k : Nat, k ≤ bs.length ∧ i = .int .i64 k ∧ wr.ownsRow w.heap.size 4 1 (.slice (some ⟨w.heap.size, 0, none⟩) bs.length bs.length) bs.length (layTo x bs ks k) ∧ Below w.heap.size w wr) (fun i _ => bs.length - (intOf i).toNat)
  case atStart => exact ⟨0, Nat.zero_le _, rfl, hown1, hB1⟩
  case round =>
    clear hown1 hgrow1 hB1
    obtain ⟨k, hk, rfl, hown, hB⟩ := hrel
    by_cases hlt : k < bs.length
    · have hlt' : (k : Int) < bs.length := by omega
      have hck : wr.cell? ⟨w.heap.size, k, none⟩ = some (.bool false) := by rw [hown.cellAt k (by omega), layTo_get x bs ks k k hlt]; simp
      have hfk : wr.frozen? ⟨w.heap.size, k, none⟩ = false := hown.frozenAt k
      have hst := fun b => hown.stored k (.bool b)
      have HST : Hid (∀ b, (wr.setCell ⟨w.heap.size, k, none⟩ (.bool b)).ownsRow w.heap.size 4 1 (.slice (some ⟨w.heap.size, 0, none⟩) bs.length bs.length) bs.length ((layTo x bs ks k).set k (.bool b))) := fun b => (hst b).1
      have HO : Hid (wr.ownsRow w.heap.size 4 1 (.slice (some ⟨w.heap.size, 0, none⟩) bs.length bs.length) bs.length (layTo x bs ks k)) := hown
      by_cases hx : x.data.toList = [35]
      · have hxb : (x.toList == [35]) = true := data_eq hx
        have hr : wr.cell? ⟨g1, k, none⟩ = some (.bool bs[k]) := (hB.cell (p := ⟨g1, k, none⟩) hg1).trans (by have := H1.out k hlt; simpa using this)
        cases k with
        | zero =>
          have HF : Hid (layN x bs ks 0 = bs[0]) := by show layN x bs ks 0 = bs[0]; simp [layN, hx, hlt]
          clear hst hx hown
          cases hb : bs[0] with
          | true =>
            rw [hb] at hr
            go_wp2_with fail
            go_roundw
            case rel => exact ⟨1, by omega, rfl, by rw [← layTo_set x bs ks 0 (HF.out.trans hb)]; exact HST.out true, hB.setCell (p := ⟨w.heap.size, 0, none⟩) (Nat.le_refl _) _⟩
            case measure => simp [intOf]; omega
          | false =>
            rw [hb] at hr
            go_wp2_with fail
            go_roundw
            case rel => exact ⟨1, by omega, rfl, by rw [← layTo_set x bs ks 0 (HF.out.trans hb)]; exact HST.out false, hB.setCell (p := ⟨w.heap.size, 0, none⟩) (Nat.le_refl _) _⟩
            case measure => simp [intOf]; omega
        | succ j =>
          have HF : Hid (layN x bs ks (j + 1) = (bs[j + 1] || layN x bs ks j)) := by show layN x bs ks (j + 1) = (bs[j + 1] || layN x bs ks j); simp [layN, hx, hlt]
          have hcj : wr.cell? ⟨w.heap.size, j, none⟩ = some (.bool (layN x bs ks j)) := by rw [hown.cellAt j (by omega), layTo_get x bs ks (j + 1) j (by omega)]; simp
          obtain ⟨a, ha⟩ : ∃ a, a = layN x bs ks j := ⟨_, rfl⟩
          obtain ⟨b, hb⟩ : ∃ b, b = bs[j + 1] := ⟨_, rfl⟩
          have HF2 : Hid (layN x bs ks (j + 1) = (b || a)) := by rw [ha, hb]; exact HF.out
          rw [← ha] at hcj
          rw [← hb] at hr
          have hj1 : (0 : Int) < (j : Int) + 1 := by omega
          have hj2 : (j : Int) < bs.length := by omega
          clear hst hx hown ha hb HF
          cases b <;> cases a
          all_goals
            go_wp2_with fail
            go_roundw
            case rel => exact ⟨j + 2, by omega, by go_num, by rw [← layTo_set x bs ks (j + 1) HF2.out]; exact HST.out _, hB.setCell (p := ⟨w.heap.size, j + 1, none⟩) (Nat.le_refl _) _⟩
            case measure => simp [intOf]; omega
      · have hxb : (x.toList == [35]) = false := data_ne hx
        cases k with
        | zero =>
          have HF : Hid (layN x bs ks 0 = false) := by show layN x bs ks 0 = false; simp [layN, hx]
          clear hst hx hown
          go_wp2_with fail
          go_roundw
          case rel => exact ⟨1, by omega, rfl, by rw [← layTo_same x bs ks 0 HF.out]; exact HO.out, hB⟩
          case measure => simp [intOf]; omega
        | succ j =>
          have hr : wr.cell? ⟨g1, j, none⟩ = some (.bool bs[j]) := (hB.cell (p := ⟨g1, j, none⟩) hg1).trans (by have := H1.out j (by omega); simpa using this)
          have hjk : j < ks.length := by have := HL.out; omega
          have hk : wr.cell? ⟨g2, j, none⟩ = some (.string ks[j]) := (hB.cell (p := ⟨g2, j, none⟩) hg2).trans (by have := H2.out j hjk; simpa using this)
          have HF : Hid (layN x bs ks (j + 1) = (bs[j] && (x.data.toList == [42] || x.data.toList == ks[j].data.toList))) := by
            show layN x bs ks (j + 1) = _
            simp [layN, hx, hjk, show j < bs.length from by omega]
          obtain ⟨y, hy⟩ : ∃ y, y = ks[j] := ⟨_, rfl⟩
          obtain ⟨b, hb⟩ : ∃ b, b = bs[j] := ⟨_, rfl⟩
          have HF2 : Hid (layN x bs ks (j + 1) = (b && (x.data.toList == [42] || x.data.toList == y.data.toList))) := by rw [hb, hy]; exact HF.out
          rw [← hy] at hk
          rw [← hb] at hr
          have hj1 : (0 : Int) < (j : Int) + 1 := by omega
          have hj2 : (j : Int) < bs.length := by omega
          have hj3 : (j : Int) < ks.length := by omega
          obtain ⟨s1, hs1⟩ : ∃ s1, (x.toList == [42]) = s1 := ⟨_, rfl⟩
          obtain ⟨s2, hs2⟩ : ∃ s2, (x.toList == y.toList) = s2 := ⟨_, rfl⟩
          have HF3 : Hid (layN x bs ks (j + 1) = (b && (s1 || s2))) := by
            show layN x bs ks (j + 1) = (b && (s1 || s2))
            rw [HF2.out, ← hs1, ← hs2, Lib.toList_data, Lib.toList_data]
          clear hst hx hown hb hy HF HF2 hjk
          cases b <;> cases s1 <;> cases s2
          all_goals
            go_wp2_with fail
            go_roundw
            case rel => exact ⟨j + 2, by omega, by go_num, by rw [← layTo_set x bs ks (j + 1) HF3.out]; exact HST.out _, hB.setCell (p := ⟨w.heap.size, j + 1, none⟩) (Nat.le_refl _) _⟩
            case measure => simp [intOf]; omega
    · have hkn : k = bs.length := by omega
      have HK : Hid (k = bs.length) := hkn
      clear hkn
      go_wp2_with fail
      go_ret
      exact ⟨rfl, by rw [← layTo_full]; have h := hown; rwa [show layTo x bs ks k = layTo x bs ks bs.length from congrArg (layTo x bs ks) HK.out] at h, hB⟩
end Go.Proofs.Ythhkpgnjpieckaa
