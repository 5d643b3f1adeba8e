/- mailcoachref.wordsError, KeyError, PatternError. -/
import Derived.Test.YthhkpgnjpieckaaSp
namespace Go.Proofs.Ythhkpgnjpieckaa
set_option linter.unusedVariables false
set_option maxRecDepth 100000
open Go.RowKit

theorem wlB_len (l : List UInt8) : (wlB l).length = Lib.countByte l 46 + 1 := by simp [wlB, wsplit_length]
theorem wlB_size (s : ByteArray) (x : ByteArray) (h : x ∈ wlB s.data.toList) : x.size ≤ s.size := by
  obtain ⟨y, hy, rfl⟩ := List.mem_map.1 h
  have := wsplit_mem _ y hy
  show y.toArray.size ≤ _
  simpa using this

/-- The cells of a slice of texts. -/
def IsTexts (W : World) (g off : Nat) (xs : List ByteArray) : Prop := ∀ i (h : i < xs.length), W.cell? ⟨g, off + i, none⟩ = some (.string xs[i])

theorem own_texts {W : World} {base : Nat} {v : Value} {xs : List ByteArray} (h : W.ownsRow base 9 1 v xs.length (xs.map Value.string)) (hne : xs ≠ []) :
    ∃ g cap, v = .slice (some ⟨g, 0, none⟩) xs.length cap ∧ base ≤ g ∧ xs.length ≤ cap ∧ cap ≤ maxLen ∧ IsTexts W g 0 xs := by
  obtain ⟨h1, h2⟩ := h
  rcases h2 with ⟨_, h0⟩ | ⟨g, cap, cur, rfl, hg, hh, hn, hm, hs, ht⟩
  · exact absurd (List.length_eq_zero_iff.1 h0) hne
  · refine ⟨g, cap, rfl, hg, hn, hm, fun i hi => ?_⟩
    have e : cur.toList[i]? = some (.string xs[i]) := by
      have : (cur.toList.take (xs.length * 1))[i]? = some (.string xs[i]) := by rw [ht]; simp [hi]
      rwa [List.getElem?_take_of_lt (by omega)] at this
    have e' : cur[i]? = some (.string xs[i]) := by simpa using e
    simp [World.cell?, hh, e']

theorem split_texts (s : ByteArray) (xs : List ByteArray) (hxs : xs = wlB s.data.toList) (w : World) (hs : s.size ≤ 24) :
    Calls Try.prog 57 #[.string s, .int .u8 46] w fun e w' => ∃ g cap, e = .returned (.slice (some ⟨g, 0, none⟩) xs.length cap) ∧ w.heap.size ≤ g ∧ xs.length ≤ cap ∧ cap ≤ maxLen ∧ IsTexts w' g 0 xs ∧ Below w.heap.size w w' := by
  subst hxs
  refine (split_any s w hs).mono ?_
  rintro e w' ⟨v, rfl, hown, hB⟩
  obtain ⟨g, cap, rfl, h1, h2, h3, h4⟩ := own_texts hown (by intro h; have := wlB_len s.data.toList; rw [h] at this; simp at this)
  exact ⟨g, cap, rfl, h1, h2, h3, h4, hB⟩

theorem all_snoc {p : ByteArray → Bool} {xs : List ByteArray} {k : Nat} (hk : k < xs.length) (h : ∀ x ∈ xs.take k, p x = true) (hx : p xs[k] = true) : ∀ x ∈ xs.take (k + 1), p x = true := by
  rw [List.take_succ_eq_append_getElem hk]
  intro x hx'
  rcases List.mem_append.1 hx' with h1 | h1
  · exact h x h1
  · rw [List.mem_singleton.1 h1]; exact hx

theorem isP_w {x : ByteArray} (h : isW x.data.toList = true) : isP x.data.toList = true := by simp [isP, h]
theorem isP_star {x : ByteArray} (h : x.toList = [42]) : isP x.data.toList = true := by rw [Lib.toList_data] at h; simp [isP, h]
theorem isP_or {x : ByteArray} (h : (!x.toList == [42]) = false ∨ (!x.toList == [35]) = false) : isP x.data.toList = true := by
  rw [Lib.toList_data] at h; rcases h with h | h <;> (simp at h; simp [isP, h])
theorem isP_no {x : ByteArray} (h1 : ¬ isW x.data.toList = true) (h : (!x.toList == [42]) = true ∧ (!x.toList == [35]) = true) : isP x.data.toList = false := by
  rw [Lib.toList_data] at h; obtain ⟨a, b⟩ := h; simp at a b; simp [isP, a, b]; simpa using h1

set_option maxRecDepth 100000 in
set_option maxHeartbeats 2000000 in
theorem we_key (s : ByteArray) (w : World) :
    Calls Try.prog 59 #[.string s, .bool false] w fun e w' => e = .returned (.int .i64 (werr isW s.data.toList)) ∧ Below w.heap.size w w' := by
  by_cases h : 24 < s.size
  · rw [werr_len (by simpa using h)]
    have h' : (24 : Int) < s.size := by omega
    go_enter Try.func59, Try.ntmps59
    go_wp2
    go_ret
    exact ⟨rfl, Below.refl _ _⟩
  · have h' : ¬ (24 : Int) < s.size := by omega
    have hl : s.data.toList.length ≤ 24 := by simp; omega
    have hlen := wlB_len s.data.toList
    obtain ⟨xs, hxs⟩ : ∃ xs, xs = wlB s.data.toList := ⟨_, rfl⟩
    have hsz : ∀ i (hi : i < xs.length), xs[i].size ≤ maxLen := fun i hi => by
      have := wlB_size s xs[i] (by rw [← hxs]; exact List.getElem_mem hi)
      unfold maxLen; omega
    rw [← hxs] at hlen
    have HX : Hid (xs = wlB s.data.toList) := hxs
    clear hxs
    by_cases h6 : 6 < xs.length
    · rw [werr_many (by omega)]
      have h6' : (6 : Int) < xs.length := by omega
      go_enter Try.func59, Try.ntmps59
      go_wp2_with (go_at_call 57; refine (split_texts s xs HX.out _ (by omega)).mono ?_; rintro e w' ⟨g, cap, rfl, hg, hcap, hcm, ht, hB⟩)
      go_ret
      exact ⟨rfl, hB⟩
    · have h6' : ¬ (6 : Int) < xs.length := by omega
      have hc6 : Lib.countByte s.data.toList 46 < 6 := by omega
      clear hlen
      go_enter Try.func59, Try.ntmps59
      go_wp2_with (go_at_call 57; refine (split_texts s xs HX.out _ (by omega)).mono ?_; rintro e w1 ⟨g, cap, rfl, hg, hcap, hcm, ht, hB⟩)
      go_loop [6] (fun i => ∃ k : Nat, k ≤ xs.length ∧ i = .int .i64 k ∧ ∀ x ∈ xs.take k, isW x.data.toList = true) (fun i => xs.length - (intOf i).toNat)
      case atStart => exact ⟨0, Nat.zero_le _, rfl, by simp⟩
      case round =>
        obtain ⟨k, hk, rfl, ha⟩ := hrel
        have HA : Hid (∀ x ∈ xs.take k, isW x.data.toList = true) := ha
        clear ha
        by_cases hlt : k < xs.length
        · have hcell := ht k hlt
          have hsk := hsz k hlt
          obtain ⟨x, hx⟩ : ∃ x, x = xs[k] := ⟨_, rfl⟩
          rw [← hx] at hcell hsk
          have HXk : Hid (x = xs[k]) := hx
          clear hx
          simp only [Nat.zero_add] at hcell
          go_wp2_with (go_at_call 110; refine (isWord_any _ _ hsk).mono ?_; rintro e w' ⟨rfl, rfl⟩)
          all_goals first
            | (go_ret
               have hr : isW x.data.toList = false := by first | exact isP_no ‹_› ‹_› | exact Bool.eq_false_iff.2 ‹_›
               exact ⟨ret_int (werr_form hl hc6 (x := x) (by rw [← HX.out, HXk.out]; exact List.getElem_mem hlt) hr).symm, hB⟩)
            | (have hr : isW x.data.toList = true := by first | assumption | exact isP_w ‹_› | exact isP_star ‹_› | exact isP_or ‹_›
               exact ⟨⟨k + 1, by omega, by go_num, all_snoc (p := fun x => isW x.data.toList) hlt HA.out (by rw [← HXk.out]; exact hr)⟩, by simp [intOf]; omega⟩)
        · go_wp2
          go_ret
          have e : xs.take k = xs := List.take_of_length_le (by omega)
          have HA' := HA.out
          rw [e] at HA'
          exact ⟨ret_int (werr_words hl hc6 (by rw [← HX.out]; exact HA')).symm, hB⟩
set_option maxRecDepth 100000 in
set_option maxHeartbeats 2000000 in
theorem we_pat (s : ByteArray) (w : World) :
    Calls Try.prog 59 #[.string s, .bool true] w fun e w' => e = .returned (.int .i64 (werr isP s.data.toList)) ∧ Below w.heap.size w w' := by
  by_cases h : 24 < s.size
  · rw [werr_len (by simpa using h)]
    have h' : (24 : Int) < s.size := by omega
    go_enter Try.func59, Try.ntmps59
    go_wp2
    go_ret
    exact ⟨rfl, Below.refl _ _⟩
  · have h' : ¬ (24 : Int) < s.size := by omega
    have hl : s.data.toList.length ≤ 24 := by simp; omega
    have hlen := wlB_len s.data.toList
    obtain ⟨xs, hxs⟩ : ∃ xs, xs = wlB s.data.toList := ⟨_, rfl⟩
    have hsz : ∀ i (hi : i < xs.length), xs[i].size ≤ maxLen := fun i hi => by
      have := wlB_size s xs[i] (by rw [← hxs]; exact List.getElem_mem hi)
      unfold maxLen; omega
    rw [← hxs] at hlen
    have HX : Hid (xs = wlB s.data.toList) := hxs
    clear hxs
    by_cases h6 : 6 < xs.length
    · rw [werr_many (by omega)]
      have h6' : (6 : Int) < xs.length := by omega
      go_enter Try.func59, Try.ntmps59
      go_wp2_with (go_at_call 57; refine (split_texts s xs HX.out _ (by omega)).mono ?_; rintro e w' ⟨g, cap, rfl, hg, hcap, hcm, ht, hB⟩)
      go_ret
      exact ⟨rfl, hB⟩
    · have h6' : ¬ (6 : Int) < xs.length := by omega
      have hc6 : Lib.countByte s.data.toList 46 < 6 := by omega
      clear hlen
      go_enter Try.func59, Try.ntmps59
      go_wp2_with (go_at_call 57; refine (split_texts s xs HX.out _ (by omega)).mono ?_; rintro e w1 ⟨g, cap, rfl, hg, hcap, hcm, ht, hB⟩)
      go_loop [6] (fun i => ∃ k : Nat, k ≤ xs.length ∧ i = .int .i64 k ∧ ∀ x ∈ xs.take k, isP x.data.toList = true) (fun i => xs.length - (intOf i).toNat)
      case atStart => exact ⟨0, Nat.zero_le _, rfl, by simp⟩
      case round =>
        obtain ⟨k, hk, rfl, ha⟩ := hrel
        have HA : Hid (∀ x ∈ xs.take k, isP x.data.toList = true) := ha
        clear ha
        by_cases hlt : k < xs.length
        · have hcell := ht k hlt
          have hsk := hsz k hlt
          obtain ⟨x, hx⟩ : ∃ x, x = xs[k] := ⟨_, rfl⟩
          rw [← hx] at hcell hsk
          have HXk : Hid (x = xs[k]) := hx
          clear hx
          simp only [Nat.zero_add] at hcell
          go_wp2_with (go_at_call 110; refine (isWord_any _ _ hsk).mono ?_; rintro e w' ⟨rfl, rfl⟩)
          all_goals first
            | (go_ret
               have hr : isP x.data.toList = false := by first | exact isP_no ‹_› ‹_› | exact Bool.eq_false_iff.2 ‹_›
               exact ⟨ret_int (werr_form hl hc6 (x := x) (by rw [← HX.out, HXk.out]; exact List.getElem_mem hlt) hr).symm, hB⟩)
            | (have hr : isP x.data.toList = true := by first | assumption | exact isP_w ‹_› | exact isP_star ‹_› | exact isP_or ‹_›
               exact ⟨⟨k + 1, by omega, by go_num, all_snoc (p := fun x => isP x.data.toList) hlt HA.out (by rw [← HXk.out]; exact hr)⟩, by simp [intOf]; omega⟩)
        · go_wp2
          go_ret
          have e : xs.take k = xs := List.take_of_length_le (by omega)
          have HA' := HA.out
          rw [e] at HA'
          exact ⟨ret_int (werr_words hl hc6 (by rw [← HX.out]; exact HA')).symm, hB⟩

set_option maxHeartbeats 400000 in
theorem keyError_any (s : ByteArray) (w : World) :
    Calls Try.prog 56 #[.string s] w fun e w' => e = .returned (.int .i64 (kerr s.data.toList)) ∧ Below w.heap.size w w' := by
  go_enter Try.func56, Try.ntmps56
  go_wp2_with (go_at_call 59; refine (we_key _ _).mono ?_; rintro e w' ⟨rfl, hB⟩)
  go_ret
  exact ⟨rfl, hB⟩

set_option maxHeartbeats 400000 in
theorem patternError_any (s : ByteArray) (w : World) :
    Calls Try.prog 22 #[.string s] w fun e w' => e = .returned (.int .i64 (perr s.data.toList)) ∧ Below w.heap.size w w' := by
  go_enter Try.func22, Try.ntmps22
  go_wp2_with (go_at_call 59; refine (we_pat _ _).mono ?_; rintro e w' ⟨rfl, hB⟩)
  go_ret
  exact ⟨rfl, hB⟩

set_option maxHeartbeats 400000 in
theorem pattern_any (s : ByteArray) (w : World) :
    Calls Try.prog 21 #[.string s] w fun e w' => e = .returned (.int .i64 (perr s.data.toList)) ∧ Below w.heap.size w w' := by
  go_enter Try.func21, Try.ntmps21
  go_wp2_with (go_at_call 53; refine (check_pat _ _).mono ?_; rintro e w' ⟨rfl, hB⟩)
  go_ret
  exact ⟨rfl, hB⟩
end Go.Proofs.Ythhkpgnjpieckaa
