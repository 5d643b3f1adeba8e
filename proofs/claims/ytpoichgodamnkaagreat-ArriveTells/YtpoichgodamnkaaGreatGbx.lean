import Derived.Deep.RegionHeld3
import Derived.ProofKit
import Derived.Test.YtpoichgodamnkaaGreatGax
import Derived.RangeFuncWrites
import Derived.RangeFuncBox
import Derived.Laws.AppendOwnNone
import Derived.Lib.AppendZeros
namespace Go.Proofs.YtpoichgodamnkaaGreat
open Go.RowKit
set_option linter.unusedVariables false
set_option maxRecDepth 100000
set_option maxHeartbeats 2000000
theorem tk (i : Nat) {P : Program} {ops : Array Oper} {Q : Exit → Act → World → Prop} {md : Region.Mode} {S : World → Prop} {oi : Oper} {v : Value} {fuel : Nat} {listed l' : Array Bool} {a a' : Act} {w : World} (h : wpAnyH P md ops Q S fuel l' a' w) (hi : ops[i]? = some oi := by rfl)
    (hs : Region.noSelect ops = true := by kernel_rfl) (hf : Region.free md ops listed i = true := by kernel_rfl) (hr : (Region.ready md ops listed).contains i = true := by kernel_rfl)
    (hy : YieldsIf P ops S oi v a := by refine Or.inl ⟨by kernel_rfl, ?_⟩; intro w hSw; (try dsimp only at hSw); go_simp; (try with_reducible rfl))
    (hQ : ∀ c a w, Q (.panic c) (a.put oi.dst v) w → Q (.panic c) a w := by exact fun _ _ _ h => h) (hS : S w := by assumption)
    (hl : listed.setIfInBounds i true = l' := by (try simp only [List.setIfInBounds_toArray, List.set_cons_zero, List.set_cons_succ]); exact rfl)
    (ha : a.put oi.dst v = a' := by (try simp only [Act.put, List.getElem_toArray, List.getElem_cons_succ, List.getElem_cons_zero, List.setIfInBounds_toArray, List.set_cons_zero, List.set_cons_succ]); exact rfl) :
    wpAnyH P md ops Q S (fuel + 1) listed a w :=
  wpAnyH_take hi hs hf hr hQ hy hS (by rw [hl, ha]; exact h)
theorem sk (i : Nat) {P : Program} {ops : Array Oper} {Q : Exit → Act → World → Prop} {md : Region.Mode} {S : World → Prop} {oi : Oper} {fuel : Nat} {listed l' : Array Bool} {a a' : Act} {w : World} (h : wpAnyH P md ops Q S fuel l' a' w) (hi : ops[i]? = some oi := by rfl)
    (hs : Region.noSelect ops = true := by kernel_rfl) (hf : Region.free md ops listed i = true := by kernel_rfl) (hr : (Region.ready md ops listed).contains i = true := by kernel_rfl)
    (hy : YieldsIf P ops S oi undef a := by exact Or.inr ⟨by kernel_rfl, rfl⟩)
    (hQ : ∀ c a w, Q (.panic c) (a.put oi.dst undef) w → Q (.panic c) a w := by exact fun _ _ _ h => h) (hS : S w := by assumption)
    (hl : listed.setIfInBounds i true = l' := by (try simp only [List.setIfInBounds_toArray, List.set_cons_zero, List.set_cons_succ]); exact rfl)
    (ha : a.put oi.dst undef = a' := by (try simp only [Act.put, List.getElem_toArray, List.getElem_cons_succ, List.getElem_cons_zero, List.setIfInBounds_toArray, List.set_cons_zero, List.set_cons_succ]); exact rfl) :
    wpAnyH P md ops Q S (fuel + 1) listed a w :=
  wpAnyH_take hi hs hf hr hQ hy hS (by rw [hl, ha]; exact h)
theorem nrm {P : Program} {ops : Array Oper} {Q : Exit → Act → World → Prop} {md : Region.Mode} {S : World → Prop} {fuel : Nat} {l l' : Array Bool} {a a' : Act} {w : World} (h : wpAnyH P md ops Q S fuel l' a' w)
    (hl : l = l' := by (try simp only [List.setIfInBounds_toArray, List.set_cons_zero, List.set_cons_succ]); exact rfl)
    (ha : a = a' := by (try simp only [Act.put, List.getElem_toArray, List.getElem_cons_succ, List.getElem_cons_zero, List.setIfInBounds_toArray, List.set_cons_zero, List.set_cons_succ]); exact rfl) :
    wpAnyH P md ops Q S fuel l a w := by rw [hl, ha]; exact h
theorem rdy (i : Nat) {P : Program} {ops : Array Oper} {Q : Exit → Act → World → Prop} {md : Region.Mode} {S : World → Prop} {o : Oper} {fuel : Nat} {listed : Array Bool} {a : Act} {w : World}
    (h : ∀ K' : Act → World → Prop, Shut (∀ a w, S w → (S w → wpAnyH P md ops Q S fuel (listed.setIfInBounds i true) a w) → K' a w) → if Region.wanted o (yielded ops a.tmps) = true then Oper.wp P o a w K' Q else K' (a.put o.dst undef) w)
    (ho : ops[i]? = some o := by rfl) (hr : Region.ready md ops listed = [i] := by kernel_rfl) : wpAnyH P md ops Q S (fuel + 1) listed a w :=
  wpAnyH_ready hr (by simp) (AllReadyH.cons ho h AllReadyH.nil)
theorem wlB_len (l : List UInt8) : (wlB l).length = Lib.countByte l 46 + 1 := by simp [wlB, wsplit_length]
theorem wlB_size (s : ByteArray) (x : ByteArray) (h : x ∈ wlB s.data.toList) : x.size ≤ s.size := by
  obtain ⟨y, hy, rfl⟩ := List.mem_map.1 h
  have := wsplit_mem _ y hy
  show y.toArray.size ≤ _
  simpa using this
def IsTexts (W : World) (g off : Nat) (xs : List ByteArray) : Prop := ∀ i (h : i < xs.length), W.cell? ⟨g, off + i, none⟩ = some (.string xs[i])
theorem own_texts {W : World} {base : Nat} {v : Value} {xs : List ByteArray} (h : W.ownsRow base 9 1 v xs.length (xs.map Value.string)) (hne : xs ≠ []) :
    ∃ g cap, v = .slice (some ⟨g, 0, none⟩) xs.length cap ∧ base ≤ g ∧ xs.length ≤ cap ∧ cap ≤ maxLen ∧ IsTexts W g 0 xs := by
  obtain ⟨h1, h2⟩ := h
  rcases h2 with ⟨_, h0⟩ | ⟨g, cap, cur, rfl, hg, hh, hn, hm, hs, ht⟩
  · exact absurd (List.length_eq_zero_iff.1 h0) hne
  · refine ⟨g, cap, rfl, hg, hn, hm, fun i hi => ?_⟩
    have e : cur.toList[i]? = some (.string xs[i]) := by
      have : (cur.toList.take (xs.length * 1))[i]? = some (.string xs[i]) := by rw [ht]; simp [hi]
      rwa [List.getElem?_take_of_lt (by omega)] at this
    have e' : cur[i]? = some (.string xs[i]) := by simpa using e
    simp [World.cell?, hh, e']
theorem split_texts (s : ByteArray) (xs : List ByteArray) (hxs : xs = wlB s.data.toList) (w : World) (hs : s.size ≤ 24) :
    Calls Tryz.prog 209 #[.string s, .int .u8 46] w fun e w' => ∃ g cap, e = .returned (.slice (some ⟨g, 0, none⟩) xs.length cap) ∧ w.heap.size ≤ g ∧ xs.length ≤ cap ∧ cap ≤ maxLen ∧ IsTexts w' g 0 xs ∧ Below w.heap.size w w' := by
  subst hxs
  refine (split_any s w hs).mono ?_
  rintro e w' ⟨v, rfl, hown, hB⟩
  obtain ⟨g, cap, rfl, h1, h2, h3, h4⟩ := own_texts hown (by intro h; have := wlB_len s.data.toList; rw [h] at this; simp at this)
  exact ⟨g, cap, rfl, h1, h2, h3, h4, hB⟩
theorem all_snoc {p : ByteArray → Bool} {xs : List ByteArray} {k : Nat} (hk : k < xs.length) (h : ∀ x ∈ xs.take k, p x = true) (hx : p xs[k] = true) : ∀ x ∈ xs.take (k + 1), p x = true := by
  rw [List.take_succ_eq_append_getElem hk]
  intro x hx'
  rcases List.mem_append.1 hx' with h1 | h1
  · exact h x h1
  · rw [List.mem_singleton.1 h1]; exact hx
theorem isP_w {x : ByteArray} (h : isW x.data.toList = true) : isP x.data.toList = true := by simp [isP, h]
theorem isP_star {x : ByteArray} (h : x.toList = [42]) : isP x.data.toList = true := by rw [Lib.toList_data] at h; simp [isP, h]
theorem isP_or {x : ByteArray} (h : (!x.toList == [42]) = false ∨ (!x.toList == [35]) = false) : isP x.data.toList = true := by
  rw [Lib.toList_data] at h; rcases h with h | h <;> (simp at h; simp [isP, h])
theorem isP_no {x : ByteArray} (h1 : ¬ isW x.data.toList = true) (h : (!x.toList == [42]) = true ∧ (!x.toList == [35]) = true) : isP x.data.toList = false := by
  rw [Lib.toList_data] at h; obtain ⟨a, b⟩ := h; simp at a b; simp [isP, a, b]; simpa using h1
theorem we_key (s : ByteArray) (w : World) :
    Calls Tryz.prog 176 #[.string s, .bool false] w fun e w' => e = .returned (.int .i64 (werr isW s.data.toList)) ∧ Below w.heap.size w w' := by
  by_cases h : 24 < s.size
  · rw [werr_len (by simpa using h)]
    have h' : (24 : Int) < s.size := by omega
    go_enter Tryz.func176, Tryz.ntmps176
    go_wp2
    go_ret
    exact ⟨rfl, Below.refl _ _⟩
  · have h' : ¬ (24 : Int) < s.size := by omega
    have hl : s.data.toList.length ≤ 24 := by simp; omega
    have hlen := wlB_len s.data.toList
    obtain ⟨xs, hxs⟩ : ∃ xs, xs = wlB s.data.toList := ⟨_, rfl⟩
    have hsz : ∀ i (hi : i < xs.length), xs[i].size ≤ maxLen := fun i hi => by
      have := wlB_size s xs[i] (by rw [← hxs]; exact List.getElem_mem hi)
      unfold maxLen; omega
    rw [← hxs] at hlen
    have HX : Hid (xs = wlB s.data.toList) := hxs
    clear hxs
    by_cases h6 : 6 < xs.length
    · rw [werr_many (by omega)]
      have h6' : (6 : Int) < xs.length := by omega
      go_enter Tryz.func176, Tryz.ntmps176
      go_wp2_with (go_at_call 209; refine (split_texts s xs HX.out _ (by omega)).mono ?_; rintro e w' ⟨g, cap, rfl, hg, hcap, hcm, ht, hB⟩)
      go_ret
      exact ⟨rfl, hB⟩
    · have h6' : ¬ (6 : Int) < xs.length := by omega
      have hc6 : Lib.countByte s.data.toList 46 < 6 := by omega
      clear hlen
      go_enter Tryz.func176, Tryz.ntmps176
      go_wp2_with (go_at_call 209; refine (split_texts s xs HX.out _ (by omega)).mono ?_; rintro e w1 ⟨g, cap, rfl, hg, hcap, hcm, ht, hB⟩)
      go_loop [6] (fun i => ∃ k : Nat, k ≤ xs.length ∧ i = .int .i64 k ∧ ∀ x ∈ xs.take k, isW x.data.toList = true) (fun i => xs.length - (intOf i).toNat)
      case atStart => exact ⟨0, Nat.zero_le _, rfl, by simp⟩
      case round =>
        obtain ⟨k, hk, rfl, ha⟩ := hrel
        have HA : Hid (∀ x ∈ xs.take k, isW x.data.toList = true) := ha
        clear ha
        by_cases hlt : k < xs.length
        · have hcell := ht k hlt
          have hsk := hsz k hlt
          obtain ⟨x, hx⟩ : ∃ x, x = xs[k] := ⟨_, rfl⟩
          rw [← hx] at hcell hsk
          have HXk : Hid (x = xs[k]) := hx
          clear hx
          simp only [Nat.zero_add] at hcell
          go_wp2_with (go_at_call 210; refine (isWord_any _ _ hsk).mono ?_; rintro e w' ⟨rfl, rfl⟩)
          all_goals first
            | (go_ret
               have hr : isW x.data.toList = false := by first | exact isP_no ‹_› ‹_› | exact Bool.eq_false_iff.2 ‹_›
               exact ⟨ret_int (werr_form hl hc6 (x := x) (by rw [← HX.out, HXk.out]; exact List.getElem_mem hlt) hr).symm, hB⟩)
            | (have hr : isW x.data.toList = true := by first | assumption | exact isP_w ‹_› | exact isP_star ‹_› | exact isP_or ‹_›
               exact ⟨⟨k + 1, by omega, by go_num, all_snoc (p := fun x => isW x.data.toList) hlt HA.out (by rw [← HXk.out]; exact hr)⟩, by simp [intOf]; omega⟩)
        · go_wp2
          go_ret
          have e : xs.take k = xs := List.take_of_length_le (by omega)
          have HA' := HA.out
          rw [e] at HA'
          exact ⟨ret_int (werr_words hl hc6 (by rw [← HX.out]; exact HA')).symm, hB⟩
theorem we_pat (s : ByteArray) (w : World) :
    Calls Tryz.prog 176 #[.string s, .bool true] w fun e w' => e = .returned (.int .i64 (werr isP s.data.toList)) ∧ Below w.heap.size w w' := by
  by_cases h : 24 < s.size
  · rw [werr_len (by simpa using h)]
    have h' : (24 : Int) < s.size := by omega
    go_enter Tryz.func176, Tryz.ntmps176
    go_wp2
    go_ret
    exact ⟨rfl, Below.refl _ _⟩
  · have h' : ¬ (24 : Int) < s.size := by omega
    have hl : s.data.toList.length ≤ 24 := by simp; omega
    have hlen := wlB_len s.data.toList
    obtain ⟨xs, hxs⟩ : ∃ xs, xs = wlB s.data.toList := ⟨_, rfl⟩
    have hsz : ∀ i (hi : i < xs.length), xs[i].size ≤ maxLen := fun i hi => by
      have := wlB_size s xs[i] (by rw [← hxs]; exact List.getElem_mem hi)
      unfold maxLen; omega
    rw [← hxs] at hlen
    have HX : Hid (xs = wlB s.data.toList) := hxs
    clear hxs
    by_cases h6 : 6 < xs.length
    · rw [werr_many (by omega)]
      have h6' : (6 : Int) < xs.length := by omega
      go_enter Tryz.func176, Tryz.ntmps176
      go_wp2_with (go_at_call 209; refine (split_texts s xs HX.out _ (by omega)).mono ?_; rintro e w' ⟨g, cap, rfl, hg, hcap, hcm, ht, hB⟩)
      go_ret
      exact ⟨rfl, hB⟩
    · have h6' : ¬ (6 : Int) < xs.length := by omega
      have hc6 : Lib.countByte s.data.toList 46 < 6 := by omega
      clear hlen
      go_enter Tryz.func176, Tryz.ntmps176
      go_wp2_with (go_at_call 209; refine (split_texts s xs HX.out _ (by omega)).mono ?_; rintro e w1 ⟨g, cap, rfl, hg, hcap, hcm, ht, hB⟩)
      go_loop [6] (fun i => ∃ k : Nat, k ≤ xs.length ∧ i = .int .i64 k ∧ ∀ x ∈ xs.take k, isP x.data.toList = true) (fun i => xs.length - (intOf i).toNat)
      case atStart => exact ⟨0, Nat.zero_le _, rfl, by simp⟩
      case round =>
        obtain ⟨k, hk, rfl, ha⟩ := hrel
        have HA : Hid (∀ x ∈ xs.take k, isP x.data.toList = true) := ha
        clear ha
        by_cases hlt : k < xs.length
        · have hcell := ht k hlt
          have hsk := hsz k hlt
          obtain ⟨x, hx⟩ : ∃ x, x = xs[k] := ⟨_, rfl⟩
          rw [← hx] at hcell hsk
          have HXk : Hid (x = xs[k]) := hx
          clear hx
          simp only [Nat.zero_add] at hcell
          go_wp2_with (go_at_call 210; refine (isWord_any _ _ hsk).mono ?_; rintro e w' ⟨rfl, rfl⟩)
          all_goals first
            | (go_ret
               have hr : isP x.data.toList = false := by first | exact isP_no ‹_› ‹_› | exact Bool.eq_false_iff.2 ‹_›
               exact ⟨ret_int (werr_form hl hc6 (x := x) (by rw [← HX.out, HXk.out]; exact List.getElem_mem hlt) hr).symm, hB⟩)
            | (have hr : isP x.data.toList = true := by first | assumption | exact isP_w ‹_› | exact isP_star ‹_› | exact isP_or ‹_›
               exact ⟨⟨k + 1, by omega, by go_num, all_snoc (p := fun x => isP x.data.toList) hlt HA.out (by rw [← HXk.out]; exact hr)⟩, by simp [intOf]; omega⟩)
        · go_wp2
          go_ret
          have e : xs.take k = xs := List.take_of_length_le (by omega)
          have HA' := HA.out
          rw [e] at HA'
          exact ⟨ret_int (werr_words hl hc6 (by rw [← HX.out]; exact HA')).symm, hB⟩
theorem keyError_any (s : ByteArray) (w : World) :
    Calls Tryz.prog 133 #[.string s] w fun e w' => e = .returned (.int .i64 (kerr s.data.toList)) ∧ Below w.heap.size w w' := by
  go_enter Tryz.func133, Tryz.ntmps133
  go_wp2_with (go_at_call 176; refine (we_key _ _).mono ?_; rintro e w' ⟨rfl, hB⟩)
  go_ret
  exact ⟨rfl, hB⟩
theorem patternError_any (s : ByteArray) (w : World) :
    Calls Tryz.prog 127 #[.string s] w fun e w' => e = .returned (.int .i64 (perr s.data.toList)) ∧ Below w.heap.size w w' := by
  go_enter Tryz.func127, Tryz.ntmps127
  go_wp2_with (go_at_call 176; refine (we_pat _ _).mono ?_; rintro e w' ⟨rfl, hB⟩)
  go_ret
  exact ⟨rfl, hB⟩
theorem pattern_any (s : ByteArray) (w : World) :
    Calls Tryz.prog 184 #[.string s] w fun e w' => e = .returned (.int .i64 (perr s.data.toList)) ∧ Below w.heap.size w w' := by
  go_enter Tryz.func184, Tryz.ntmps184
  go_wp2_with (go_at_call 187; refine (check_pat _ _).mono ?_; rintro e w' ⟨rfl, hB⟩)
  go_ret
  exact ⟨rfl, hB⟩
end Go.Proofs.YtpoichgodamnkaaGreat
namespace Go.Proofs.YtpoichgodamnkaaGreat
open Go.RowKit Go.Shelf
set_option linter.unusedVariables false
set_option maxRecDepth 100000
set_option maxHeartbeats 2000000
attribute [local go_sem] Oper.semAt_some
theorem werr_zero {right : List UInt8 → Bool} {l : List UInt8} (h : werr right l = 0) : l.length ≤ 24 ∧ Lib.countByte l 46 < 6 := by
  unfold werr at h
  by_cases h1 : 24 < l.length ∨ 6 < (wsplit l).length
  · rw [if_pos h1] at h; cases h
  · rw [wsplit_length] at h1; omega
theorem splitK_err (s : ByteArray) (w : World) (h : kerr s.data.toList ≠ 0) :
    Calls Tryz.prog 151 #[.string s] w fun e w' => e = .returned (.tuple #[.slice none 0 0, .int .i64 (kerr s.data.toList)]) ∧ Below w.heap.size w w' := by
  have h' : (kerr s.data.toList != 0) = true := bne_iff_ne.2 h
  obtain ⟨c, hc⟩ : ∃ c, c = kerr s.data.toList := ⟨_, rfl⟩
  have HC : Hid (c = kerr s.data.toList) := hc
  rw [← hc] at h' ⊢
  clear hc h
  go_enter Tryz.func151, Tryz.ntmps151
  go_wp2_with (go_at_call 187; refine (check_key _ _).mono ?_; rintro e w' ⟨rfl, hB⟩; rw [show werr isW s.data.toList = c from HC.out.symm])
  go_ret2
  exact ⟨rfl, hB⟩
theorem splitK_in (s : ByteArray) (w : World) (h : kerr s.data.toList = 0) :
    CallsIn Fence.wide 5 Tryz.prog 151 #[.string s] w fun e w' => ∃ v, e = .returned (.tuple #[v, .int .i64 0]) ∧ w'.ownsRow w.heap.size 9 1 v (wlB s.data.toList).length ((wlB s.data.toList).map Value.string) ∧ Below w.heap.size w w' := by
  obtain ⟨h24, h6⟩ := werr_zero h
  have hm : s.size ≤ maxLen := by have : s.size ≤ 24 := by simpa using h24
                                  unfold maxLen; omega
  have hn7 : (wlB s.data.toList).length ≤ 6 := by rw [wlB_len]; omega
  have HC : Hid (kerr s.data.toList = 0) := h
  clear h
  obtain ⟨i0, hi, hz0, hz1, hz2⟩ := info_parts Tryz.info9
  refine callsIn_of_wp_marks Tryz.func151 rfl trivial ?_ rfl
  simp only [Tryz.ntmps151, List.size_toArray, List.length_cons, List.length_nil, Nat.reduceAdd, Nat.reduceSub, Array.replicate_succ, Array.replicate_zero, List.push_toArray, List.append_toArray, List.nil_append, List.cons_append]
  gi_wp2_with (first
    | (refine ⟨trivial, ?_⟩; gi_at_call 187; refine (callsIn_wide.2 (check_key _ _)).mono ?_; rintro e w1 ⟨rfl, hB1⟩; rw [show werr isW s.data.toList = 0 from HC.out])
    | (refine ⟨trivial, ?_⟩; gi_at_call 189; refine (each_in _ _ _).mono ?_; rintro e w' ⟨rfl, rfl⟩))
  have hs1 := hB1.size
  have bO := Boxed.new w1 65 (.slice none 0 0)
  have bN := Boxed.new (w1.alloc (.cells #[.slice none 0 0] 65)) 9 (.string s)
  rw [World.size_alloc] at bN
  have hB0 : Below w.heap.size w ((w1.alloc (.cells #[.slice none 0 0] 65)).alloc (.cells #[.string s] 9)) := (hB1.alloc hs1 _).alloc (by simp; omega) _
  refine wpIn_rangeFunc_ownG rfl (by omega) (gf := 214) (lb := #[.pointer (some ⟨w1.heap.size + 1, 0, none⟩)]) rfl trivial (enters_of Tryz.func214 (by kernel_rfl) rfl)
    (each_stops 4 (by omega) (w1.heap.size + 1) s hm _ (by simp) bN.cell) (fun _ _ => trivial) (fun _ _ _ _ _ _ _ _ => trivial) (Below.refl _ _) (fun _ => rfl)
    (fun pre W => (∃ v, Boxed W w1.heap.size 65 v ∧ W.ownsRow w.heap.size 9 1 v pre.length (pre.map (fun x : WB => Value.string x.1)) ∧ True) ∧ Below w.heap.size w W)
    (fun _ _ _ => False)
    (OwnFrom.and (Own.from (holdsRow_own w.heap.size w1.heap.size 65 9 1 (fun pre : List WB => pre.length) (fun pre : List WB => pre.map (fun x : WB => Value.string x.1)) (fun _ _ => True)) _) (ownFrom_below (Nat.le_refl _) (by simp; omega)))
    (fun _ _ _ _ _ hs _ _ => hs)
    ⟨⟨_, bO.alloc _, World.ownsRow_nil _ _ _ _, trivial⟩, hB0⟩
    (fun x => { tmps := #[.string s, undef, .slice none 0 0, .int .i64 0, .int .i64 0, .pointer (some ⟨w1.heap.size, 0, none⟩), .string x.1, .string s, .int .i64 0, .int .i64 0, .bool false, undef, .string s, .func (.func 214) #[] #[.pointer (some ⟨w1.heap.size + 1, 0, none⟩)], .string x.1, undef, undef, undef, undef, undef], defers := [] }) ?assign ?body ?done ?stop
  case assign =>
    intro l x W K hK
    gi_wp2
    exact hK
  case body =>
    rintro l pre x W ⟨⟨v, hv, hrow, _⟩, hB⟩ hlt
    have hc := hv.cell
    have hBs := hB.size
    gi_wp2_with (gi_at_builtin; refine wpListIn_append_own _ rfl _ _ 65 rfl w.heap.size 9 i0 (.string ⟨#[]⟩) 1 16 Tryz.underlying65 hi hz0 hz1 hz2 rfl (by decide) _ _ _ rfl (hrow.alloc _) ⟨W.heap.size, 0, none⟩ 1 1 [.string x.1] rfl rfl (cell_one_new _ _ _) (by simp [Value.oneCell']) (by unfold maxLen; omega) (by omega) (by simp; omega) ?_; intro v' w2 hown' hgrow _; obtain ⟨g', cap', rfl⟩ := ownsRow_succ hown'; obtain ⟨hv1, hv2, hr2, hk2, hb2⟩ := hv.appended (by decide) hrow hB.size hs1 hown' hgrow; have hc1 := hv1.cell; have hf1 := hv1.frozen)
    exact ⟨hk2.from _, trivial, ⟨_, hv2, by simpa using hr2, trivial⟩, hB.trans hb2⟩
  case done =>
    rintro D ys W hD hys ⟨⟨v, hv, hrow, _⟩, hB⟩ hK
    have hc := hv.cell
    have HY : Hid (List.map (fun x : WB => x.1) ys = wlB s.data.toList) := hys
    clear hys
    gi_wp2
    refine ⟨by simp, .inl ⟨_, _, rfl, run_takeDeferred hK, ?_⟩⟩
    have hrow' : W.ownsRow w.heap.size 9 1 v (wlB s.data.toList).length ((wlB s.data.toList).map Value.string) := by
      rw [← HY.out]; simpa [Function.comp_def] using hrow
    exact ⟨_, results_tmp2 rfl _ _ _, v, rfl, ownsRow_putObj hrow' _ hK rfl, hB.trans (belowK_b (w := w) (Nat.le_refl _) W D _ _ (by simp at hD; omega) hK rfl rfl)⟩
  case stop =>
    rintro D c pre W _ _ h _
    exact h.elim
theorem splitK_ok (s : ByteArray) (xs : List ByteArray) (hxs : xs = wlB s.data.toList) (w : World) (h : kerr s.data.toList = 0) :
    Calls Tryz.prog 151 #[.string s] w fun e w' => ∃ g cap, e = .returned (.tuple #[.slice (some ⟨g, 0, none⟩) xs.length cap, .int .i64 0]) ∧ w.heap.size ≤ g ∧ xs.length ≤ cap ∧ cap ≤ maxLen ∧ IsTexts w' g 0 xs ∧ Below w.heap.size w w' := by
  subst hxs
  refine (callsIn_wide.1 (splitK_in s w h)).mono ?_
  rintro e w' ⟨v, rfl, hown, hB⟩
  obtain ⟨g, cap, rfl, h1, h2, h3, h4⟩ := own_texts hown (by intro h; have := wlB_len s.data.toList; rw [h] at this; simp at this)
  exact ⟨g, cap, rfl, h1, h2, h3, h4, hB⟩
end Go.Proofs.YtpoichgodamnkaaGreat
namespace Go.Proofs.YtpoichgodamnkaaGreat
open Go.RowKit
set_option linter.unusedVariables false
set_option maxRecDepth 100000
set_option maxHeartbeats 4000000
structure ItemD where
  seq : Int
  key : ByteArray
  body : ByteArray
  again : Bool
  deaths : Int
def ItemD.val (x : ItemD) : Value := .agg #[.int .i64 x.seq, .string x.key, .string x.body, .bool x.again, .int .i64 x.deaths]
def itemNums (s d : Int) (b : Nat) : Bool := decide (0 ≤ s) && decide (s < 1048576) && decide (b ≤ 12) && decide (0 ≤ d) && decide (d ≤ 2)
def itemOk (x : ItemD) : Bool := itemNums x.seq x.deaths x.body.size && decide (kerr x.key.data.toList = 0)
theorem splitK_any (s : ByteArray) (w : World) :
    Calls Tryz.prog 151 #[.string s] w fun e w' => ∃ v, e = .returned (.tuple #[v, .int .i64 (kerr s.data.toList)]) ∧ Below w.heap.size w w' := by
  by_cases h : kerr s.data.toList = 0
  · refine (splitK_ok s _ rfl w h).mono ?_
    rintro e w' ⟨g, cap, rfl, _, _, _, _, hB⟩
    exact ⟨_, by rw [h], hB⟩
  · refine (splitK_err s w h).mono ?_
    rintro e w' ⟨rfl, hB⟩
    exact ⟨_, rfl, hB⟩
theorem item_box (w : World) (v0 v1 v2 v3 v4 : Value) (t : TypeId) : ∃ W1, W1 = w.alloc (.cells #[v0, v1, v2, v3, v4] t) ∧ Below w.heap.size w W1 ∧ W1.heap.size = w.heap.size + 1 ∧
    ∀ W, Below W1.heap.size W1 W → W.cell? ⟨w.heap.size, 0, none⟩ = some v0 ∧ W.cell? ⟨w.heap.size, 1, none⟩ = some v1 ∧ W.cell? ⟨w.heap.size, 2, none⟩ = some v2 ∧ W.cell? ⟨w.heap.size, 3, none⟩ = some v3 ∧ W.cell? ⟨w.heap.size, 4, none⟩ = some v4 := by
  have hh : (w.alloc (.cells #[v0, v1, v2, v3, v4] t)).heap[w.heap.size]? = some (.cells #[v0, v1, v2, v3, v4] t) := World.alloc_heap_new w _
  have hs : (w.alloc (.cells #[v0, v1, v2, v3, v4] t)).heap.size = w.heap.size + 1 := by simp
  have hc : ∀ i, (w.alloc (.cells #[v0, v1, v2, v3, v4] t)).cell? ⟨w.heap.size, i, none⟩ = #[v0, v1, v2, v3, v4][i]? := by intro i; unfold World.cell?; simp only; rw [hh]; rfl
  refine ⟨_, rfl, (Below.refl _ _).alloc (Nat.le_refl _) _, hs, fun W hW => ?_⟩
  have hk : ∀ i, W.cell? ⟨w.heap.size, i, none⟩ = #[v0, v1, v2, v3, v4][i]? := fun i => (hW.cell (p := ⟨w.heap.size, i, none⟩) (by show w.heap.size < _; omega)).trans (hc i)
  exact ⟨hk 0, hk 1, hk 2, hk 3, hk 4⟩
theorem itemNums_cases (s d : Int) (b : Nat) : (itemNums s d b = true ∧ ¬ s < 0 ∧ ¬ (1048576 : Int) ≤ s ∧ ¬ (12 : Int) < b ∧ ¬ d < 0 ∧ ¬ (2 : Int) < d) ∨
    (itemNums s d b = false ∧ (s < 0 ∨ (¬ s < 0 ∧ (1048576 : Int) ≤ s) ∨ (¬ s < 0 ∧ ¬ (1048576 : Int) ≤ s ∧ (12 : Int) < b) ∨ (¬ s < 0 ∧ ¬ (1048576 : Int) ≤ s ∧ ¬ (12 : Int) < b ∧ d < 0) ∨ (¬ s < 0 ∧ ¬ (1048576 : Int) ≤ s ∧ ¬ (12 : Int) < b ∧ ¬ d < 0 ∧ (2 : Int) < d))) := by
  by_cases h : itemNums s d b = true
  · left; refine ⟨h, ?_⟩; unfold itemNums at h; simp at h; omega
  · right; refine ⟨by simpa using h, ?_⟩; unfold itemNums at h; simp at h; omega
theorem ne0_dec {x : Int} : (x == 0) = decide (x = 0) := by by_cases h : x = 0 <;> simp [h]
theorem right_any (s d : Int) (k b : ByteArray) (a : Bool) (w : World) :
    Calls Tryz.prog 180 #[.agg #[.int .i64 s, .string k, .string b, .bool a, .int .i64 d]] w fun e w' => e = .returned (.bool (itemOk ⟨s, k, b, a, d⟩)) ∧ Below w.heap.size w w' := by
  rcases itemNums_cases s d b.size with ⟨h, q1, q2, q3, q4, q5⟩ | ⟨h, q⟩
  · have E : Hid (itemOk ⟨s, k, b, a, d⟩ = decide (kerr k.data.toList = 0)) := by show itemOk _ = _; unfold itemOk; simp only [h, Bool.true_and]
    obtain ⟨c, hc⟩ : ∃ c, c = kerr k.data.toList := ⟨_, rfl⟩
    have HC : Hid (c = kerr k.data.toList) := hc
    clear h hc
    go_enter Tryz.func180, Tryz.ntmps180
    go_wp2_with fail
    refine (splitK_any _ _).mono ?_
    rintro e w2 ⟨v, rfl, hB2⟩
    rw [← HC.out]
    go_wp2_with fail
    go_ret
    exact ⟨ret_bool (by rw [E.out, ← HC.out]; exact ne0_dec), ((Below.refl _ _).alloc (Nat.le_refl _) _).trans (hB2.mono (by simp))⟩
  · have E : Hid (itemOk ⟨s, k, b, a, d⟩ = false) := by show itemOk _ = _; unfold itemOk; simp only [h, Bool.false_and]
    rw [E.out]
    clear h E
    rcases q with q1 | ⟨q1, q2⟩ | ⟨q1, q2, q3⟩ | ⟨q1, q2, q3, q4⟩ | ⟨q1, q2, q3, q4, q5⟩
    all_goals
      go_enter Tryz.func180, Tryz.ntmps180
      go_wp2_with fail
      go_ret
      exact ⟨rfl, (Below.refl _ _).alloc (Nat.le_refl _) _⟩
def inR2 (a b c : Int) : Bool := decide (b ≤ a ∧ a ≤ c)
theorem itemOk_eq (x : ItemD) : itemOk x = (inR2 x.seq 0 1048575 && decide (kerr x.key.data.toList = 0) && decide ((x.body.size : Int) ≤ 12) && inR2 x.deaths 0 2) := by
  unfold itemOk itemNums inR2
  rw [Bool.eq_iff_iff]; simp; omega
theorem within_it (a b c : Int) (w : World) :
    Calls Tryz.prog 103 #[.int .i64 a, .int .i64 b, .int .i64 c] w fun e w' => e = .returned (.bool (inR2 a b c)) ∧ w' = w := by
  by_cases h1 : b ≤ a
  · have E : inR2 a b c = decide (a ≤ c) := by unfold inR2; simp [h1]
    rw [E]
    go_enter Tryz.func103, Tryz.ntmps103
    go_wp2
    go_ret
    exact ⟨rfl, rfl⟩
  · have E : inR2 a b c = false := by unfold inR2; simp [h1]
    rw [E]
    go_enter Tryz.func103, Tryz.ntmps103
    go_wp2
    go_ret
    exact ⟨rfl, rfl⟩
theorem itemFine_any (s d : Int) (k b : ByteArray) (a : Bool) (w : World) :
    Calls Tryz.prog 167 #[.agg #[.int .i64 s, .string k, .string b, .bool a, .int .i64 d]] w fun e w' => e = .returned (.bool (itemOk ⟨s, k, b, a, d⟩)) ∧ Below w.heap.size w w' := by
  have E : Hid (itemOk ⟨s, k, b, a, d⟩ = (inR2 s 0 1048575 && decide (kerr k.data.toList = 0) && decide ((b.size : Int) ≤ 12) && inR2 d 0 2)) := itemOk_eq ⟨s, k, b, a, d⟩
  obtain ⟨r1, h1⟩ : ∃ r, r = inR2 s 0 1048575 := ⟨_, rfl⟩
  obtain ⟨r2, h2⟩ : ∃ r, r = inR2 d 0 2 := ⟨_, rfl⟩
  obtain ⟨c, hc⟩ : ∃ c, c = kerr k.data.toList := ⟨_, rfl⟩
  have H1 : Hid (r1 = inR2 s 0 1048575) := h1
  have H2 : Hid (r2 = inR2 d 0 2) := h2
  have HC : Hid (c = kerr k.data.toList) := hc
  rw [← h1, ← h2, ← hc] at E
  clear h1 h2 hc
  obtain ⟨q, hq⟩ : ∃ q, q = itemOk ⟨s, k, b, a, d⟩ := ⟨_, rfl⟩
  rw [← hq] at E ⊢
  clear hq
  obtain ⟨W1, hW1, hBw, hs1, hbx⟩ := item_box w (.int .i64 s) (.string k) (.string b) (.bool a) (.int .i64 d) 43
  have HW1 : Hid (W1 = _) := hW1
  have BX : Hid (∀ W, Below W1.heap.size W1 W → _) := hbx
  clear hW1 hbx hs1
  cases r1 <;> by_cases hc0 : c = 0 <;> by_cases hb : (b.size : Int) ≤ 12 <;> cases r2
  all_goals
    have E' := E.out
    simp [hc0, hb] at E'
    subst E'
    clear E
    go_enter Tryz.func167, Tryz.ntmps167
    go_wp2_with fail
    rw [← HW1.out]
    refine (within_it _ _ _ _).mono ?_
    rintro e w' ⟨rfl, rfl⟩
    rw [← H1.out]
    obtain ⟨d0, d1, d2, d3, d4⟩ := BX.out w' (Below.refl _ _)
    go_wp2_with (first
      | (go_at_call 103; refine (within_it _ _ _ _).mono ?_; rintro e w' ⟨rfl, rfl⟩; rw [← H2.out])
      | (go_at_call 133; refine (keyError_any _ _).mono ?_; rintro e w2 ⟨rfl, hB2⟩; obtain ⟨d0, d1, d2, d3, d4⟩ := BX.out w2 hB2; rw [← HC.out]))
    go_ret
    exact ⟨rfl, by first | exact hBw | exact hBw.trans (hB2.mono hBw.size)⟩
def lineFrom : Int → List ItemD → Bool
  | _, [] => true
  | last, x :: r => itemOk x && decide (last < x.seq) && lineFrom x.seq r
def lineOk (xs : List ItemD) : Bool := lineFrom (-1) xs
def lineE (xs : List ItemD) : Int := if lineOk xs = true then 0 else 1
def ItemCells (W : World) (g o : Nat) (x : ItemD) : Prop :=
  W.cell? ⟨g, o, none⟩ = some (.int .i64 x.seq) ∧ W.cell? ⟨g, o + 1, none⟩ = some (.string x.key) ∧ W.cell? ⟨g, o + 2, none⟩ = some (.string x.body) ∧ W.cell? ⟨g, o + 3, none⟩ = some (.bool x.again) ∧ W.cell? ⟨g, o + 4, none⟩ = some (.int .i64 x.deaths)
theorem ItemCells.keep {W W' : World} {g o : Nat} {x : ItemD} {b : Nat} (h : ItemCells W g o x) (hB : Below b W W') (hg : g < b) : ItemCells W' g o x :=
  ⟨(hB.cell (p := ⟨g, _, none⟩) hg).trans h.1, (hB.cell (p := ⟨g, _, none⟩) hg).trans h.2.1, (hB.cell (p := ⟨g, _, none⟩) hg).trans h.2.2.1, (hB.cell (p := ⟨g, _, none⟩) hg).trans h.2.2.2.1, (hB.cell (p := ⟨g, _, none⟩) hg).trans h.2.2.2.2⟩
def ItemsAt (W : World) (a : Option Addr) (xs : List ItemD) : Prop := xs = [] ∨ ∃ g o, a = some ⟨g, o, none⟩ ∧ g < W.heap.size ∧ ∀ i (h : i < xs.length), ItemCells W g (o + i * 5) xs[i]
theorem ItemsAt.cells {W : World} {a : Option Addr} {xs : List ItemD} (h : ItemsAt W a xs) (hne : 0 < xs.length) : ∃ g o, a = some ⟨g, o, none⟩ ∧ g < W.heap.size ∧ ∀ i (h : i < xs.length), ItemCells W g (o + i * 5) xs[i] := by
  rcases h with h | h
  · rw [h] at hne; simp at hne
  · exact h
theorem ItemsAt.keep {W W' : World} {a : Option Addr} {xs : List ItemD} (h : ItemsAt W a xs) (hB : Below W.heap.size W W') : ItemsAt W' a xs := by
  rcases h with h | ⟨g, o, ha, hg, h⟩
  · exact .inl h
  · exact .inr ⟨g, o, ha, Nat.lt_of_lt_of_le hg hB.size, fun i hi => (h i hi).keep hB hg⟩
theorem lineFrom_no {last : Int} {x : ItemD} {r : List ItemD} (h : itemOk x = false ∨ x.seq ≤ last) : lineFrom last (x :: r) = false := by
  unfold lineFrom
  rcases h with h | h
  · simp [h]
  · have : ¬ last < x.seq := by omega
    simp [this]
theorem lineFrom_yes {last : Int} {x : ItemD} {r : List ItemD} (h : itemOk x = true) (h2 : ¬ x.seq ≤ last) : lineFrom last (x :: r) = lineFrom x.seq r := by
  have : last < x.seq := by omega
  conv => lhs; unfold lineFrom
  simp [h, this]
theorem lcheck_any (xs : List ItemD) (a : Option Addr) (n c : Nat) (w : World) (hn : xs.length = n) (hm : n ≤ maxLen) (hp : ItemsAt w a xs) :
    Calls Tryz.prog 131 #[.slice a n c] w fun e w' => e = .returned (.int .i64 (lineE xs)) ∧ Below w.heap.size w w' := by
  have HN : Hid (xs.length = n) := hn
  have HP : Hid (ItemsAt w a xs) := hp
  unfold maxLen at hm
  clear hn hp
  go_enter Tryz.func131, Tryz.ntmps131
  go_wp2
  go_loopw [3, 8] (fun l i wr => ∃ (k : Nat) (last : Int), k ≤ n ∧ i = .int .i64 k ∧ l = .int .i64 last ∧ lineOk xs = lineFrom last (xs.drop k) ∧ Below w.heap.size w wr) (fun _ i _ => n - (intOf i).toNat)
  case atStart => exact ⟨0, -1, Nat.zero_le _, rfl, rfl, rfl, Below.refl _ _⟩
  case round =>
    obtain ⟨k, last, hk, rfl, rfl, ha, hB⟩ := hrel
    have HA : Hid (lineOk xs = lineFrom last (xs.drop k)) := ha
    have hBs := hB.size
    clear ha
    by_cases hlt : k < n
    · have hkl : k < xs.length := by rw [HN.out]; exact hlt
      obtain ⟨g, o, rfl, hg, hx⟩ := HP.out.cells (by omega)
      obtain ⟨x, hxx⟩ : ∃ x, x = xs[k] := ⟨_, rfl⟩
      have hc := (hx k hkl).keep hB hg
      rw [← hxx] at hc
      have hd : xs.drop k = x :: xs.drop (k + 1) := by rw [hxx]; exact List.drop_eq_getElem_cons hkl
      clear hx hxx
      obtain ⟨s, ky, b, ag, d⟩ := x
      obtain ⟨c0, c1, c2, c3, c4⟩ := hc
      dsimp only at c0 c1 c2 c3 c4
      obtain ⟨r, hr⟩ : ∃ r, r = itemOk ⟨s, ky, b, ag, d⟩ := ⟨_, rfl⟩
      have HR : Hid (r = itemOk ⟨s, ky, b, ag, d⟩) := hr
      obtain ⟨W1, hW1, hBw, hs1, hbx⟩ := item_box wr (.int .i64 s) (.string ky) (.string b) (.bool ag) (.int .i64 d) 43
      have HW1 : Hid (W1 = _) := hW1
      have BX : Hid (∀ W, Below W1.heap.size W1 W → _) := hbx
      clear hW1 hbx hs1
      have hB1 : Below w.heap.size w W1 := hB.trans (hBw.mono hBs)
      have s1 := hB1.size
      cases r with
      | false =>
        have HF : Hid (lineE xs = 1) := by show lineE xs = 1; unfold lineE; rw [HA.out, hd, lineFrom_no (.inl hr.symm)]; rfl
        clear hd hr
        go_wp2_with fail
        rw [← HW1.out]
        refine (right_any _ _ _ _ _ _).mono ?_
        rintro e w2 ⟨rfl, hB2⟩
        rw [← HR.out]
        go_wp2_with fail
        go_ret
        exact ⟨ret_int HF.out.symm, hB1.trans (hB2.mono s1)⟩
      | true =>
        by_cases hle : s ≤ last
        · have HF : Hid (lineE xs = 1) := by show lineE xs = 1; unfold lineE; rw [HA.out, hd, lineFrom_no (.inr hle)]; rfl
          clear hd hr
          go_wp2_with fail
          rw [← HW1.out]
          refine (right_any _ _ _ _ _ _).mono ?_
          rintro e w2 ⟨rfl, hB2⟩
          obtain ⟨d0, d1, d2, d3, d4⟩ := BX.out w2 hB2
          rw [← HR.out]
          go_wp2_with fail
          go_ret
          exact ⟨ret_int HF.out.symm, hB1.trans (hB2.mono s1)⟩
        · have HF : Hid (lineOk xs = lineFrom s (xs.drop (k + 1))) := by show lineOk xs = _; rw [HA.out, hd, lineFrom_yes hr.symm hle]
          clear hd hr
          go_wp2_with fail
          rw [← HW1.out]
          refine (right_any _ _ _ _ _ _).mono ?_
          rintro e w2 ⟨rfl, hB2⟩
          obtain ⟨d0, d1, d2, d3, d4⟩ := BX.out w2 hB2
          rw [← HR.out]
          go_wp2_with fail
          go_roundw
          case rel => exact ⟨k + 1, s, by omega, by go_num, rfl, HF.out, hB1.trans (hB2.mono s1)⟩
          case measure => simp [intOf]; omega
    · have e : xs.drop k = [] := List.drop_eq_nil_of_le (by rw [HN.out]; omega)
      have HF : Hid (lineE xs = 0) := by show lineE xs = 0; unfold lineE; rw [HA.out, e]; rfl
      go_wp2
      go_ret
      exact ⟨ret_int HF.out.symm, hB⟩
theorem itemOk_seq {x : ItemD} (h : itemOk x = true) : 0 ≤ x.seq := by unfold itemOk itemNums at h; simp at h; omega
theorem i64_nat (k : Nat) (h : k ≤ 9223372036854775807) : IntKind.i64.wrap (k : Int) = (k : Int) := by rw [IntKind.wrap_i64]; omega
theorem bud_ {b : Nat} {W w' : World} (h : Below b W.drew w') : Below b W w' := ⟨h.os, h.tape, h.output, h.size, h.block⟩
def lastSeq (xs : List ItemD) (k : Nat) : Int := if k = 0 then -1 else (xs[k - 1]?.map ItemD.seq).getD (-1)
theorem lineFine_any (xs : List ItemD) (a : Option Addr) (n c : Nat) (w : World) (hn : xs.length = n) (hm : n ≤ maxLen) (hp : ItemsAt w a xs) :
    Calls Tryz.prog 166 #[.slice a n c] w fun e w' => e = .returned (.bool (lineOk xs)) ∧ Below w.heap.size w w' := by
  have HN : Hid (xs.length = n) := hn
  have HP : Hid (ItemsAt w a xs) := hp
  unfold maxLen at hm
  clear hn hp
  go_enter Tryz.func166, Tryz.ntmps166
  go_wp2
  go_loopw [3] (fun i wr => ∃ (k : Nat), k ≤ n ∧ i = .int .i64 k ∧ lineOk xs = lineFrom (lastSeq xs k) (xs.drop k) ∧ Below w.heap.size w wr) (fun i _ => n - (intOf i).toNat)
  case atStart => exact ⟨0, Nat.zero_le _, rfl, rfl, Below.refl _ _⟩
  case round =>
    obtain ⟨k, hk, rfl, ha, hB⟩ := hrel
    have HA : Hid (lineOk xs = lineFrom (lastSeq xs k) (xs.drop k)) := ha
    have hBs := hB.size
    clear ha
    by_cases hlt : k < n
    · have hkl : k < xs.length := by rw [HN.out]; exact hlt
      obtain ⟨g, o, rfl, hg, hx⟩ := HP.out.cells (by omega)
      obtain ⟨x, hxx⟩ : ∃ x, x = xs[k] := ⟨_, rfl⟩
      have hc := (hx k hkl).keep hB hg
      rw [← hxx] at hc
      have hd : xs.drop k = x :: xs.drop (k + 1) := by rw [hxx]; exact List.drop_eq_getElem_cons hkl
      have HL1 : Hid (lastSeq xs (k + 1) = x.seq) := by show lastSeq xs (k + 1) = _; unfold lastSeq; rw [if_neg (by omega)]; simp [hkl, hxx]
      clear hxx
      obtain ⟨s, ky, b, ag, d⟩ := x
      obtain ⟨c0, c1, c2, c3, c4⟩ := hc
      dsimp only at c0 c1 c2 c3 c4
      obtain ⟨r, hr⟩ : ∃ r, r = itemOk ⟨s, ky, b, ag, d⟩ := ⟨_, rfl⟩
      have HR : Hid (r = itemOk ⟨s, ky, b, ag, d⟩) := hr
      have hgw : g < wr.heap.size := by omega
      obtain ⟨W1, hW1⟩ : ∃ W1, W1 = wr := ⟨_, rfl⟩
      cases r with
      | false =>
        clear hx
        have j1 : (0 : Int) ≤ (k : Int) := by omega
        have j2 : (k : Int) < n := by omega
        have HF : Hid (lineOk xs = false) := by show lineOk xs = false; rw [HA.out, hd, lineFrom_no (.inl hr.symm)]
        clear hd hr
        go_wp2_with fail
        refine wp_region_held_drew (S := fun w' => w'.cell? ⟨g, o + k * 5, none⟩ = some (.int .i64 s) ∧ w'.cell? ⟨g, o + k * 5 + 1, none⟩ = some (.string ky) ∧ w'.cell? ⟨g, o + k * 5 + 2, none⟩ = some (.string b) ∧ w'.cell? ⟨g, o + k * 5 + 3, none⟩ = some (.bool ag) ∧ w'.cell? ⟨g, o + k * 5 + 4, none⟩ = some (.int .i64 d)) (by kernel_rfl) ⟨c0, c1, c2, c3, c4⟩ (fun hHeld => ?_)
        refine tk 0 ?_
        refine tk 1 ?_
        refine tk 2 ?_
        refine tk 3 ?_
        refine wpAnyH_ready (rs := [4]) (by kernel_rfl) (by simp) ?_
        refine AllReadyH.cons rfl (fun K hK => ?_) AllReadyH.nil
        go_simp
        refine (itemFine_any _ _ _ _ _ _).mono ?_
        rintro e w2 ⟨rfl, hB2'⟩
        have hB2 := bud_ hB2'
        rw [← HR.out]
        refine hK.out _ _ ⟨(hB2.cell (p := ⟨g, _, none⟩) hgw).trans c0, (hB2.cell (p := ⟨g, _, none⟩) hgw).trans c1, (hB2.cell (p := ⟨g, _, none⟩) hgw).trans c2, (hB2.cell (p := ⟨g, _, none⟩) hgw).trans c3, (hB2.cell (p := ⟨g, _, none⟩) hgw).trans c4⟩ (fun hHeld2 => ?_)
        clear hHeld
        try simp only [Act.put, List.getElem_toArray, List.getElem_cons_succ, List.getElem_cons_zero, List.setIfInBounds_toArray, List.set_cons_zero, List.set_cons_succ]
        clear hK K
        refine tk 5 ?_
        refine tk 6 ?_
        refine sk 7 ?_
        refine sk 8 ?_
        refine sk 9 ?_
        refine sk 10 ?_
        refine sk 11 ?_
        refine sk 12 ?_
        refine sk 13 ?_
        refine sk 14 ?_
        refine sk 15 ?_
        refine sk 16 ?_
        refine sk 17 ?_
        refine sk 18 ?_
        refine sk 19 ?_
        refine sk 20 ?_
        refine sk 21 ?_
        refine sk 22 ?_
        refine tk 23 ?_
        refine wpAnyH_done (by kernel_rfl) ?_ _
        all_goals
          go_wp2_with fail
          go_ret
          exact ⟨ret_bool HF.out.symm, hB.trans (hB2.mono hBs)⟩
      | true =>
        rcases Nat.eq_zero_or_pos k with hk0 | hk0
        · subst hk0
          clear hx
          simp only [Nat.zero_mul, Nat.add_zero] at c0 c1 c2 c3 c4
          have j2 : (0 : Int) < n := by omega
          have HF : Hid (lineOk xs = lineFrom s (xs.drop 1)) := by
            show lineOk xs = _
            rw [HA.out, hd, lineFrom_yes hr.symm (by have := itemOk_seq hr.symm; unfold lastSeq; simp; dsimp only at this; omega)]
          clear hd hr
          go_wp2_with fail
          refine wp_region_held_drew (S := fun w' => w'.cell? ⟨g, o, none⟩ = some (.int .i64 s) ∧ w'.cell? ⟨g, o + 1, none⟩ = some (.string ky) ∧ w'.cell? ⟨g, o + 2, none⟩ = some (.string b) ∧ w'.cell? ⟨g, o + 3, none⟩ = some (.bool ag) ∧ w'.cell? ⟨g, o + 4, none⟩ = some (.int .i64 d)) (by kernel_rfl) ⟨c0, c1, c2, c3, c4⟩ (fun hHeld => ?_)
          refine tk 0 ?_
          refine tk 1 ?_
          refine tk 2 ?_
          refine tk 3 ?_
          refine wpAnyH_ready (rs := [4]) (by kernel_rfl) (by simp) ?_
          refine AllReadyH.cons rfl (fun K hK => ?_) AllReadyH.nil
          go_simp
          refine (itemFine_any _ _ _ _ _ _).mono ?_
          rintro e w2 ⟨rfl, hB2'⟩
          have hB2 := bud_ hB2'
          rw [← HR.out]
          refine hK.out _ _ ⟨(hB2.cell (p := ⟨g, _, none⟩) hgw).trans c0, (hB2.cell (p := ⟨g, _, none⟩) hgw).trans c1, (hB2.cell (p := ⟨g, _, none⟩) hgw).trans c2, (hB2.cell (p := ⟨g, _, none⟩) hgw).trans c3, (hB2.cell (p := ⟨g, _, none⟩) hgw).trans c4⟩ (fun hHeld2 => ?_)
          clear hHeld
          try simp only [Act.put, List.getElem_toArray, List.getElem_cons_succ, List.getElem_cons_zero, List.setIfInBounds_toArray, List.set_cons_zero, List.set_cons_succ]
          clear hK K
          refine tk 5 ?_
          refine tk 6 ?_
          refine tk 7 ?_
          refine tk 8 ?_
          refine tk 9 ?_
          refine sk 10 ?_
          refine sk 11 ?_
          refine sk 12 ?_
          refine sk 13 ?_
          refine sk 14 ?_
          refine sk 15 ?_
          refine sk 16 ?_
          refine sk 17 ?_
          refine sk 18 ?_
          refine sk 19 ?_
          refine sk 20 ?_
          refine sk 21 ?_
          refine tk 22 ?_
          refine tk 23 ?_
          refine wpAnyH_done (by kernel_rfl) ?_ _
          all_goals
            go_wp2_with fail
            go_roundw
            case rel => exact ⟨1, by omega, by go_num, by rw [HF.out, HL1.out], hB.trans (hB2.mono hBs)⟩
            case measure => simp [intOf]; omega
        · obtain ⟨k', rfl⟩ : ∃ k', k = k' + 1 := ⟨k - 1, by omega⟩
          have hkl' : k' < xs.length := by omega
          have cp := ((hx k' hkl').keep hB hg).1
          have HL0 : Hid (lastSeq xs (k' + 1) = xs[k'].seq) := by show lastSeq xs (k' + 1) = _; unfold lastSeq; rw [if_neg (by omega)]; simp [hkl']
          obtain ⟨l, hl⟩ : ∃ l, l = xs[k'].seq := ⟨_, rfl⟩
          rw [← hl] at cp HL0
          clear hx hl hk0
          have j0 : (0 : Int) < (k' : Int) + 1 := by omega
          have j1 : (0 : Int) ≤ (k' : Int) + 1 := by omega
          have j2 : (k' : Int) + 1 < n := by omega
          have j3 : (k' : Int) < n := by omega
          have j4 : (0 : Int) ≤ (k' : Int) := by omega
          have j5 : IntKind.i64.wrap (k' : Int) = (k' : Int) := i64_nat _ (by omega)
          by_cases hle : s ≤ l
          · have HF : Hid (lineOk xs = false) := by show lineOk xs = false; rw [HA.out, hd, lineFrom_no (.inr (by rw [HL0.out]; exact hle))]
            clear hd hr
            go_wp2_with fail
            go_region_held3 (fun w' => w'.cell? ⟨g, o + (k' + 1) * 5, none⟩ = some (.int .i64 s) ∧ w'.cell? ⟨g, o + (k' + 1) * 5 + 1, none⟩ = some (.string ky) ∧ w'.cell? ⟨g, o + (k' + 1) * 5 + 2, none⟩ = some (.string b) ∧ w'.cell? ⟨g, o + (k' + 1) * 5 + 3, none⟩ = some (.bool ag) ∧ w'.cell? ⟨g, o + (k' + 1) * 5 + 4, none⟩ = some (.int .i64 d) ∧ w'.cell? ⟨g, o + k' * 5, none⟩ = some (.int .i64 l))
              (go_keep)
              (first | (go_at_call 167; refine (itemFine_any _ _ _ _ _ _).mono ?_; rintro e w2 ⟨rfl, hB2'⟩; have hB2 := bud_ hB2'; rw [← HR.out]; have e0 := (hB2.cell (p := ⟨g, _, none⟩) hgw).trans c0; have e1 := (hB2.cell (p := ⟨g, _, none⟩) hgw).trans c1; have e2 := (hB2.cell (p := ⟨g, _, none⟩) hgw).trans c2; have e3 := (hB2.cell (p := ⟨g, _, none⟩) hgw).trans c3; have e4 := (hB2.cell (p := ⟨g, _, none⟩) hgw).trans c4; have ep := (hB2.cell (p := ⟨g, _, none⟩) hgw).trans cp))
            all_goals
              go_wp2_with fail
              go_ret
              exact ⟨ret_bool HF.out.symm, hB.trans (hB2.mono hBs)⟩
          · have HF : Hid (lineOk xs = lineFrom s (xs.drop (k' + 1 + 1))) := by show lineOk xs = _; rw [HA.out, hd, lineFrom_yes hr.symm (by rw [HL0.out]; exact hle)]
            clear hd hr
            go_wp2_with fail
            go_region_held3 (fun w' => w'.cell? ⟨g, o + (k' + 1) * 5, none⟩ = some (.int .i64 s) ∧ w'.cell? ⟨g, o + (k' + 1) * 5 + 1, none⟩ = some (.string ky) ∧ w'.cell? ⟨g, o + (k' + 1) * 5 + 2, none⟩ = some (.string b) ∧ w'.cell? ⟨g, o + (k' + 1) * 5 + 3, none⟩ = some (.bool ag) ∧ w'.cell? ⟨g, o + (k' + 1) * 5 + 4, none⟩ = some (.int .i64 d) ∧ w'.cell? ⟨g, o + k' * 5, none⟩ = some (.int .i64 l))
              (go_keep)
              (first | (go_at_call 167; refine (itemFine_any _ _ _ _ _ _).mono ?_; rintro e w2 ⟨rfl, hB2'⟩; have hB2 := bud_ hB2'; rw [← HR.out]; have e0 := (hB2.cell (p := ⟨g, _, none⟩) hgw).trans c0; have e1 := (hB2.cell (p := ⟨g, _, none⟩) hgw).trans c1; have e2 := (hB2.cell (p := ⟨g, _, none⟩) hgw).trans c2; have e3 := (hB2.cell (p := ⟨g, _, none⟩) hgw).trans c3; have e4 := (hB2.cell (p := ⟨g, _, none⟩) hgw).trans c4; have ep := (hB2.cell (p := ⟨g, _, none⟩) hgw).trans cp))
            all_goals
              go_wp2_with fail
              go_roundw
              case rel => exact ⟨k' + 1 + 1, by omega, by go_num, by rw [HF.out, HL1.out], hB.trans (hB2.mono hBs)⟩
              case measure => simp [intOf]; omega
    · have e : xs.drop k = [] := List.drop_eq_nil_of_le (by rw [HN.out]; omega)
      have HF : Hid (lineOk xs = true) := by show lineOk xs = true; rw [HA.out, e]; unfold lineFrom; rfl
      go_wp2
      go_ret
      exact ⟨ret_bool HF.out.symm, hB⟩
theorem Tryz.infoItem : (Tryz.prog.info? 43).map (fun i => (i.zero, i.size, i.bytes)) = some (some (.agg #[.int .i64 0, .string ⟨#[]⟩, .string ⟨#[]⟩, .bool false, .int .i64 0]), 5, 56) := by kernel_rfl
def ItemD.cells (x : ItemD) : List Value := [.int .i64 x.seq, .string x.key, .string x.body, .bool x.again, .int .i64 x.deaths]
def itemCells (xs : List ItemD) : List Value := xs.flatMap ItemD.cells
theorem itemCells_len (xs : List ItemD) : (itemCells xs).length = xs.length * 5 := by
  induction xs with
  | nil => rfl
  | cons x r ih => unfold itemCells at ih ⊢; rw [List.flatMap_cons, List.length_append, ih]; simp [ItemD.cells]; omega
theorem itemCells_at : ∀ (xs : List ItemD) (i : Nat) (h : i < xs.length) (j : Nat), j < 5 → (itemCells xs)[i * 5 + j]? = (xs[i].cells)[j]?
  | [], i, h, _, _ => by simp at h
  | x :: r, 0, h, j, hj => by
    unfold itemCells
    rw [List.flatMap_cons, List.getElem?_append_left (by simp [ItemD.cells]; omega)]
    simp
  | x :: r, i + 1, h, j, hj => by
    have ih := itemCells_at r i (by simpa using h) j hj
    unfold itemCells at ih ⊢
    rw [List.flatMap_cons, List.getElem?_append_right (by simp [ItemD.cells]; omega)]
    have e : (i + 1) * 5 + j - x.cells.length = i * 5 + j := by simp [ItemD.cells]; omega
    rw [e, ih]; simp
theorem itemCells_append (xs ys : List ItemD) : itemCells (xs ++ ys) = itemCells xs ++ itemCells ys := by unfold itemCells; rw [List.flatMap_append]
theorem itemCells_one (xs : List ItemD) : ∀ u ∈ itemCells xs, u.oneCell' = true := by
  intro u hu
  obtain ⟨x, _, hx⟩ := List.mem_flatMap.1 hu
  simp [ItemD.cells] at hx
  rcases hx with rfl | rfl | rfl | rfl | rfl <;> rfl
theorem ItemCells.of {W : World} {g o : Nat} {x : ItemD} (h : ∀ j, j < 5 → W.cell? ⟨g, o + j, none⟩ = x.cells[j]?) : ItemCells W g o x :=
  ⟨h 0 (by omega), h 1 (by omega), h 2 (by omega), h 3 (by omega), h 4 (by omega)⟩
theorem ItemCells.at {W : World} {g o : Nat} {x : ItemD} (h : ItemCells W g o x) {j : Nat} (hj : j < 5) : W.cell? ⟨g, o + j, none⟩ = x.cells[j]? := by
  obtain ⟨h0, h1, h2, h3, h4⟩ := h
  match j, hj with
  | 0, _ => exact h0
  | 1, _ => exact h1
  | 2, _ => exact h2
  | 3, _ => exact h3
  | 4, _ => exact h4
theorem addr_add (g o j : Nat) : (⟨g, o, none⟩ : Addr).add j = ⟨g, o + j, none⟩ := by unfold Addr.add; split <;> simp_all
theorem own_items {W : World} {base : Nat} {T : TypeId} {v : Value} {n : Nat} {xs : List ItemD} (h : W.ownsRow base T 5 v n (itemCells xs)) :
    n = xs.length ∧ ∃ a c, v = .slice a n c ∧ n ≤ c ∧ c ≤ maxLen ∧ (a = none → c = 0 ∧ xs = []) ∧ ItemsAt W a xs := by
  have hn : n = xs.length := by have := h.1; rw [itemCells_len] at this; omega
  refine ⟨hn, ?_⟩
  rcases h.2 with ⟨rfl, h0⟩ | ⟨g, cap, cur, rfl, hb, hg, h1, h2, _⟩
  · have hx : xs = [] := List.length_eq_zero_iff.1 (by omega)
    exact ⟨none, 0, by rw [h0], by omega, by unfold maxLen; omega, fun _ => ⟨rfl, hx⟩, .inl hx⟩
  · refine ⟨_, cap, rfl, h1, h2, (fun h => by cases h), .inr ⟨g, 0, rfl, (Array.getElem?_eq_some_iff.1 hg).1, fun i hi => ItemCells.of fun j hj => ?_⟩⟩
    have hc := itemCells_at xs i hi j hj
    have hv : xs[i].cells[j]? = some (xs[i].cells[j]'(by simpa [ItemD.cells] using hj)) := List.getElem?_eq_getElem _
    rw [hv] at hc ⊢
    have := h.cells (g := g) rfl _ _ hc
    rw [addr_add] at this
    rw [← Nat.add_assoc] at this
    exact this
theorem items_news {W : World} {ad : Addr} {ys : List ItemD} (h : ItemsAt W (some ad) ys) : ∀ j u, (itemCells ys)[j]? = some u → W.cell? (ad.add j) = some u := by
  intro j u hj
  have hjl : j < ys.length * 5 := by
    rcases Nat.lt_or_ge j (ys.length * 5) with h | h
    · exact h
    · rw [List.getElem?_eq_none (by rw [itemCells_len]; exact h)] at hj; cases hj
  rcases h with rfl | ⟨g, o, ha, _, h⟩
  · simp at hjl
  · cases ha
    have hi : j / 5 < ys.length := by omega
    have hr : j % 5 < 5 := Nat.mod_lt _ (by omega)
    have hc := (h (j / 5) hi).at hr
    have e : j / 5 * 5 + j % 5 = j := by omega
    have hk := itemCells_at ys (j / 5) hi (j % 5) hr
    rw [e] at hk
    rw [addr_add]
    rw [Nat.add_assoc, e] at hc
    rw [hc, ← hk, hj]
theorem grown_same (w : World) (row : Option Nat) : w.grownBy w row := ⟨rfl, rfl, rfl, Nat.le_refl _, fun _ _ _ => rfl⟩
theorem append_items {w : World} {ops : Array Oper} {rest : List Oper} {o : Oper} {act : Act} {Q : Exit → Act → World → Prop} (hgd : o.guard = none) (s x : Operand)
    (ho : o.op = .call { callee := .builtin .append, args := #[s, x], argTypes := #[41, 41] })
    (base : Nat) (v : Value) (n : Nat) (xs : List ItemD) (hs : act.eval s = v) (hown : w.ownsRow base 43 5 v n (itemCells xs))
    (a : Option Addr) (m c : Nat) (ys : List ItemD) (hx : act.eval x = .slice a m c) (hm : ys.length = m) (hz : a = none → c = 0 ∧ ys = []) (hT : ItemsAt w a ys)
    (hb : n + m ≤ 100000000) (hbase : base ≤ w.heap.size)
    (h : ∀ v' w', w'.ownsRow base 43 5 v' (n + m) (itemCells (xs ++ ys)) → w.grownBy w' v.ownBlock → wpList Tryz.prog ops Q rest (act.put o.dst v') w') : wpList Tryz.prog ops Q (o :: rest) act w := by
  obtain ⟨i0, hi, hz0, hz1, hz2⟩ := info_parts Tryz.infoItem
  cases a with
  | none =>
    obtain ⟨rfl, rfl⟩ := hz rfl
    simp at hm
    subst hm
    exact wpList_append_own_none hgd s x _ ho base _ i0 5 Tryz.underlying41 hi v n _ hs hown hx (by
      have := h v w (by simpa using hown) (grown_same _ _)
      exact this)
  | some ad =>
    exact wpList_append_own _ hgd s x _ ho base _ i0 _ 5 56 Tryz.underlying41 hi hz0 hz1 hz2 rfl (by decide) v n _ hs hown ad m c (itemCells ys) hx (by rw [itemCells_len, hm]) (items_news hT) (itemCells_one ys) (by unfold maxLen; omega) (by omega) hbase (fun v' w' h1 h2 _ => h v' w' (by rw [itemCells_append]; exact h1) h2)
theorem grow_nil (n : Nat) (w : World) (h1 : 0 < n) (h2 : n ≤ 100000000) :
    Calls Tryz.prog 223 #[.slice none 0 0, .int .i64 n] w fun e w' => ∃ v, e = .returned v ∧ w'.ownsRow w.heap.size 43 5 v 0 (itemCells []) ∧ Below w.heap.size w w' := by
  obtain ⟨i0, hi, hz0, hz1, hz2⟩ := info_parts Tryz.infoItem
  have hrun := Lib.run_append_nil_zeros (P := Tryz.prog) w 41 3 41 43 i0 _ .i64 .i64 Tryz.underlying41 Tryz.underlying3 hi hz0 n h1 (by omega) (by omega) (by rw [hz2]; omega)
  obtain ⟨cap, hcap⟩ : ∃ cap, cap = grownCap w n 0 43 := ⟨_, rfl⟩
  have hge : n ≤ cap := by rw [hcap]; exact grownCap_ge _ _ _ _
  have hle : cap ≤ maxLen := by rw [hcap]; exact grownCap_le_maxLen _ _ _ _ (by unfold maxLen; omega)
  rw [← hcap] at hrun
  obtain ⟨cs, hcs⟩ : ∃ cs, cs = Builtin.zeroCells (Value.agg #[.int .i64 0, .string ⟨#[]⟩, .string ⟨#[]⟩, .bool false, .int .i64 0]).cells n ++ Builtin.zeroCells (Value.agg #[.int .i64 0, .string ⟨#[]⟩, .string ⟨#[]⟩, .bool false, .int .i64 0]).cells (cap - n) := ⟨_, rfl⟩
  have hsz : cs.size = cap * 5 := by rw [hcs]; simp [size_zeroCells, Value.cells]; omega
  rw [← hcs] at hrun
  have HS : Hid (cs.size = cap * 5) := hsz
  have HL : Hid (cap ≤ maxLen) := hle
  clear hsz hcs hcap hle
  have q0 : ¬ (n : Int) < 0 := by omega
  have q1 : (0 : Int) < n := by omega
  have q2 : IntKind.i64.wrap (n : Int) = (n : Int) := i64_nat _ (by omega)
  go_enter Tryz.func223, Tryz.ntmps223
  go_wp2_with (at_builtin; refine Lib.wpList_append_run _ rfl _ _ _ _ rfl _ _ rfl rfl _ _ hrun ?_)
  go_ret
  have hown := World.ownsRow_made (base := w.heap.size) (e := 43) (size := 5) w.drew cs cap (by simp) HL.out HS.out
  exact ⟨_, rfl, hown, (by repeat (first | exact Below.refl _ _ | assumption | refine Below.drew ?_ | refine Below.alloc ?_ (by first | (simp; done) | (simp; omega) | omega) _ | refine Below.setCell ?_ (by first | (simp; done) | (simp; omega) | omega) _))⟩
def idxSeq (q : Int) : List ItemD → Nat
  | [] => 0
  | x :: r => if q ≤ x.seq then 0 else idxSeq q r + 1
def idxI (q : Int) (xs : List ItemD) : Int := if idxSeq q xs < xs.length then idxSeq q xs else -1
theorem idxSeq_le (q : Int) : ∀ xs : List ItemD, idxSeq q xs ≤ xs.length
  | [] => by simp [idxSeq]
  | x :: r => by
    have := idxSeq_le q r
    unfold idxSeq
    split <;> simp <;> omega
theorem push1_any (s d : Int) (k b : ByteArray) (a : Bool) (B : Nat) (q : Int) (w : World) (hB : B < w.heap.size) (hq : w.cell? ⟨B, 0, none⟩ = some (.int .i64 q)) :
    Calls Tryz.prog 204 #[.agg #[.int .i64 s, .string k, .string b, .bool a, .int .i64 d], .pointer (some ⟨B, 0, none⟩)] w fun e w' => e = .returned (.bool (decide (q ≤ s))) ∧ Below w.heap.size w w' := by
  have hne : ¬ w.heap.size = B := by omega
  go_enter Tryz.func204, Tryz.ntmps204
  go_wp2
  go_ret
  exact ⟨rfl, (Below.refl _ _).alloc (Nat.le_refl _) _⟩
theorem indexFunc_any (xs : List ItemD) (a : Option Addr) (n c : Nat) (B : Nat) (q : Int) (w : World) (hn : xs.length = n) (hm : n ≤ maxLen) (hp : ItemsAt w a xs) (hB : B < w.heap.size) (hq : w.cell? ⟨B, 0, none⟩ = some (.int .i64 q)) :
    Calls Tryz.prog 203 #[.slice a n c, .func (.func 204) #[] #[.pointer (some ⟨B, 0, none⟩)]] w fun e w' => e = .returned (.int .i64 (idxI q xs)) ∧ Below w.heap.size w w' := by
  have HN : Hid (xs.length = n) := hn
  have HP : Hid (ItemsAt w a xs) := hp
  unfold maxLen at hm
  clear hn hp
  go_enter Tryz.func203, Tryz.ntmps203
  go_wp2
  go_loopw [8] (fun i wr => ∃ (k : Nat), k ≤ n ∧ i = .int .i64 k ∧ idxSeq q xs = k + idxSeq q (xs.drop k) ∧ Below w.heap.size w wr) (fun i _ => n - (intOf i).toNat)
  case atStart => exact ⟨0, Nat.zero_le _, rfl, by simp, Below.refl _ _⟩
  case round =>
    obtain ⟨k, hk, rfl, ha, hBl⟩ := hrel
    have HA : Hid (idxSeq q xs = k + idxSeq q (xs.drop k)) := ha
    have hBs := hBl.size
    have hqc := (hBl.cell (p := ⟨B, 0, none⟩) hB).trans hq
    clear ha
    by_cases hlt : k < n
    · have hkl : k < xs.length := by rw [HN.out]; exact hlt
      obtain ⟨g, o, rfl, hg, hx⟩ := HP.out.cells (by omega)
      obtain ⟨x, hxx⟩ : ∃ x, x = xs[k] := ⟨_, rfl⟩
      have hc := (hx k hkl).keep hBl hg
      rw [← hxx] at hc
      have hd : xs.drop k = x :: xs.drop (k + 1) := by rw [hxx]; exact List.drop_eq_getElem_cons hkl
      clear hx hxx
      obtain ⟨s, ky, b, ag, d⟩ := x
      obtain ⟨c0, c1, c2, c3, c4⟩ := hc
      dsimp only at c0 c1 c2 c3 c4
      have j1 : (0 : Int) ≤ (k : Int) := by omega
      have j2 : (k : Int) < n := by omega
      by_cases hle : q ≤ s
      · have HF : Hid (idxI q xs = k) := by
          show idxI q xs = k
          have e : idxSeq q xs = k := by rw [HA.out, hd, idxSeq, if_pos hle]; rfl
          unfold idxI; rw [e, if_pos hkl]
        have HD : Hid (decide (q ≤ s) = true) := by show decide (q ≤ s) = true; simpa using hle
        clear hd hle
        go_wp2_with fail
        refine (push1_any _ _ _ _ _ _ q _ (by omega) hqc).mono ?_
        rintro e w2 ⟨rfl, hB2⟩
        rw [HD.out]
        go_wp2_with fail
        go_ret
        exact ⟨ret_int HF.out.symm, hBl.trans (hB2.mono hBs)⟩
      · have HF : Hid (idxSeq q xs = (k + 1) + idxSeq q (xs.drop (k + 1))) := by
          show idxSeq q xs = _
          rw [HA.out, hd, idxSeq, if_neg hle]; omega
        have HD : Hid (decide (q ≤ s) = false) := by show decide (q ≤ s) = false; simpa using hle
        clear hd hle
        go_wp2_with fail
        refine (push1_any _ _ _ _ _ _ q _ (by omega) hqc).mono ?_
        rintro e w2 ⟨rfl, hB2⟩
        rw [HD.out]
        go_wp2_with fail
        go_roundw
        case rel => exact ⟨k + 1, by omega, by go_num, HF.out, hBl.trans (hB2.mono hBs)⟩
        case measure => simp [intOf]; omega
    · have HF : Hid (idxI q xs = -1) := by
        show idxI q xs = -1
        have e : xs.drop k = [] := List.drop_eq_nil_of_le (by rw [HN.out]; omega)
        have e2 : idxSeq q xs = k := by rw [HA.out, e]; rfl
        unfold idxI; rw [e2, if_neg (by rw [HN.out]; exact hlt)]
      go_wp2
      go_ret
      exact ⟨ret_int HF.out.symm, hBl⟩
def sum3 (a b c : Nat) : Nat → Nat
  | 0 => 0
  | 1 => a
  | 2 => a + b
  | _ => a + b + c
def cat3 (x y z : List ItemD) : Nat → List ItemD
  | 0 => []
  | 1 => x
  | 2 => x ++ y
  | _ => x ++ y ++ z
theorem concat3 (h : Nat) (x y z : List ItemD) (a1 a2 a3 : Option Addr) (n1 n2 n3 c1 c2 c3 : Nat) (w : World) (hh : h < w.heap.size)
    (g0 : w.cell? ⟨h, 0, none⟩ = some (.slice a1 n1 c1)) (g1 : w.cell? ⟨h, 1, none⟩ = some (.slice a2 n2 c2)) (g2 : w.cell? ⟨h, 2, none⟩ = some (.slice a3 n3 c3))
    (l1 : x.length = n1) (l2 : y.length = n2) (l3 : z.length = n3) (hx : ItemsAt w a1 x) (hy : ItemsAt w a2 y) (hz : ItemsAt w a3 z)
    (z1 : a1 = none → c1 = 0 ∧ x = []) (z2 : a2 = none → c2 = 0 ∧ y = []) (z3 : a3 = none → c3 = 0 ∧ z = []) (hpos : 0 < n1 + n2 + n3) (hb : n1 + n2 + n3 ≤ 100000000) :
    Calls Tryz.prog 205 #[.slice (some ⟨h, 0, none⟩) 3 3] w fun e w' => ∃ v, e = .returned v ∧ w'.ownsRow w.heap.size 43 5 v (n1 + n2 + n3) (itemCells (x ++ y ++ z)) ∧ Below w.heap.size w w' := by
  have HX : Hid (ItemsAt w a1 x ∧ ItemsAt w a2 y ∧ ItemsAt w a3 z) := ⟨hx, hy, hz⟩
  have HL : Hid (x.length = n1 ∧ y.length = n2 ∧ z.length = n3) := ⟨l1, l2, l3⟩
  have HZ : Hid ((a1 = none → c1 = 0 ∧ x = []) ∧ (a2 = none → c2 = 0 ∧ y = []) ∧ (a3 = none → c3 = 0 ∧ z = [])) := ⟨z1, z2, z3⟩
  clear hx hy hz l1 l2 l3 z1 z2 z3
  go_enter Tryz.func205, Tryz.ntmps205
  go_wp2
  go_loopw [3, 11] (fun s i wr => ∃ k : Nat, k ≤ 3 ∧ i = .int .i64 k ∧ s = .int .i64 (sum3 n1 n2 n3 k : Nat) ∧ w = wr) (fun _ i _ => 3 - (intOf i).toNat)
  case atStart => exact ⟨0, by omega, rfl, rfl, rfl⟩
  case round =>
    obtain ⟨k, hk, rfl, rfl, rfl⟩ := hrel
    by_cases hlt : k < 3
    · match k, hlt with
      | 0, _ =>
        have q : ¬ (n1 : Int) < 0 := by omega
        have q2 : IntKind.i64.wrap (n1 : Int) = (n1 : Int) := i64_nat _ (by omega)
        simp only [sum3]
        go_wp2
        go_roundw
        case rel => exact ⟨1, by omega, by go_num, by go_num, trivial⟩
        case measure => simp [intOf]
      | 1, _ =>
        have q : ¬ (n1 : Int) + n2 < 0 := by omega
        have q2 : IntKind.i64.wrap ((n1 : Int) + n2) = (n1 : Int) + n2 := by rw [IntKind.wrap_i64]; omega
        simp only [sum3]
        go_wp2
        go_roundw
        case rel => exact ⟨2, by omega, by go_num, by go_num, trivial⟩
        case measure => simp [intOf]
      | 2, _ =>
        have q : ¬ (n1 : Int) + n2 + n3 < 0 := by omega
        have q2 : IntKind.i64.wrap ((n1 : Int) + n2 + n3) = (n1 : Int) + n2 + n3 := by rw [IntKind.wrap_i64]; omega
        simp only [sum3]
        go_wp2
        go_roundw
        case rel => exact ⟨3, by omega, by go_num, by go_num, trivial⟩
        case measure => simp [intOf]
    · have e3 : k = 3 := by omega
      subst e3
      simp only [sum3]
      obtain ⟨t, ht⟩ : ∃ t, t = n1 + n2 + n3 := ⟨_, rfl⟩
      rw [← ht]
      have ht1 : 0 < t := by omega
      have ht2 : t ≤ 100000000 := by omega
      have HT : Hid (t = n1 + n2 + n3) := ht
      clear hpos hlt hk ht
      go_wp2_with fail
      refine (grow_nil t _ ht1 ht2).mono ?_
      rintro e w2 ⟨v, rfl, hown, hB⟩
      have hBs := hB.size
      go_wp2_with fail
      go_loopw [6, 27] (fun s i wr => ∃ k : Nat, k ≤ 3 ∧ i = .int .i64 k ∧ wr.ownsRow w.heap.size 43 5 s (sum3 n1 n2 n3 k) (itemCells (cat3 x y z k)) ∧ Below w.heap.size w wr) (fun _ i _ => 3 - (intOf i).toNat)
      case atStart => exact ⟨0, by omega, rfl, hown, hB⟩
      case round =>
        obtain ⟨k, hk, rfl, hrow, hB2⟩ := hrel
        have hB2s := hB2.size
        have e0 := (hB2.cell (p := ⟨h, 0, none⟩) hh).trans g0
        have e1 := (hB2.cell (p := ⟨h, 1, none⟩) hh).trans g1
        have e2 := (hB2.cell (p := ⟨h, 2, none⟩) hh).trans g2
        by_cases hlt : k < 3
        · match k, hlt with
          | 0, _ =>
            go_wp2_with (at_builtin; refine append_items rfl _ _ rfl w.heap.size _ _ [] rfl hrow a1 n1 c1 x rfl HL.out.1 HZ.out.1 (HX.out.1.keep hB2) (by simp [sum3]; omega) hB2s ?_; intro v' w3 hown3 hgrow3)
            have hB3 := hB2.grown hgrow3 hB2s (own_ge hrow)
            go_roundw
            case rel => exact ⟨1, by omega, by go_num, by simpa [sum3, cat3] using hown3, hB3⟩
            case measure => simp [intOf]
          | 1, _ =>
            go_wp2_with (at_builtin; refine append_items rfl _ _ rfl w.heap.size _ _ x rfl hrow a2 n2 c2 y rfl HL.out.2.1 HZ.out.2.1 (HX.out.2.1.keep hB2) (by simp [sum3]; omega) hB2s ?_; intro v' w3 hown3 hgrow3)
            have hB3 := hB2.grown hgrow3 hB2s (own_ge hrow)
            go_roundw
            case rel => exact ⟨2, by omega, by go_num, by simpa [sum3, cat3] using hown3, hB3⟩
            case measure => simp [intOf]
          | 2, _ =>
            go_wp2_with (at_builtin; refine append_items rfl _ _ rfl w.heap.size _ _ (x ++ y) rfl hrow a3 n3 c3 z rfl HL.out.2.2 HZ.out.2.2 (HX.out.2.2.keep hB2) (by simp [sum3]; omega) hB2s ?_; intro v' w3 hown3 hgrow3)
            have hB3 := hB2.grown hgrow3 hB2s (own_ge hrow)
            go_roundw
            case rel => exact ⟨3, by omega, by go_num, by simpa [sum3, cat3] using hown3, hB3⟩
            case measure => simp [intOf]
        · have e3 : k = 3 := by omega
          subst e3
          go_wp2_with fail
          go_ret
          exact ⟨_, rfl, hrow, hB2⟩
end Go.Proofs.YtpoichgodamnkaaGreat
