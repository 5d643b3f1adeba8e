import Derived.Deep.RegionHeld3
import Derived.Laws.StructEq
import Derived.Test.YtpoichgodamnkaaGreatKdx
import Derived.Test.YtpoichgodamnkaaGreatKcx
import Derived.BigQuiet
import Derived.Test.YtpoichgodamnkaaGreatRows
namespace Go.Proofs.YtpoichgodamnkaaGreat
open Go.RowKit
set_option linter.unusedVariables false
set_option maxRecDepth 100000
set_option maxHeartbeats 4000000
theorem same_itemsQ (xs : List ItemD) (a1 a2 : Option Addr) (n c1 c2 : Nat) (w : World) (hn : xs.length = n) (hm : n ≤ maxLen) (h1 : ItemsAt w a1 xs) (h2 : ItemsAt w a2 xs) :
 Calls Tryz.prog 27 #[.slice a1 n c1, .slice a2 n c2] w fun e w' => e = .returned (.bool true) ∧ ∃ m, w' = w.drewN m := by
 have HN : Hid (xs.length = n) := hn
 have HP : Hid (ItemsAt w a1 xs ∧ ItemsAt w a2 xs) := ⟨h1, h2⟩
 unfold maxLen at hm
 clear hn h1 h2
 go_enter Tryz.func27, Tryz.ntmps27
 go_wp2
 go_loopw [5] (fun i wr => ∃ (k m : Nat), k ≤ n ∧ i = .int .i64 k ∧ wr = w.drewN m) (fun i _ => n - (intOf i).toNat)
 case atStart => exact ⟨0, 0, Nat.zero_le _, rfl, rfl⟩
 case round =>
  obtain ⟨k, m, hk, rfl, hwr⟩ := hrel
  have HWR : Hid (wr = w.drewN m) := hwr
  have hB : Below w.heap.size w wr := by rw [hwr]; exact below_drewL (Below.refl _ _)
  clear hwr
  by_cases hlt : k < n
  ·have hkl : k < xs.length := by rw [HN.out]; exact hlt
   obtain ⟨g, o, rfl, hg, hx⟩ := HP.out.1.cells (by omega)
   obtain ⟨g', o', rfl, hg', hx'⟩ := HP.out.2.cells (by omega)
   obtain ⟨x, hxx⟩ : ∃ x, x = xs[k] := ⟨_, rfl⟩
   have hc := (hx k hkl).keep hB hg
   have hc' := (hx' k hkl).keep hB hg'
   rw [← hxx] at hc hc'
   clear hx hx' hxx
   obtain ⟨s, ky, b, ag, d⟩ := x
   have j1 : (0 : Int) ≤ (k : Int) := by omega
   have j2 : (k : Int) < n := by omega
   go_wp2_with fail
   refine wp_region_held_drew (S := fun w' => (w'.cell? ⟨g, o + k * 5, none⟩ = some (.int .i64 s) ∧ w'.cell? ⟨g, o + k * 5 + 1, none⟩ = some (.string ky) ∧ w'.cell? ⟨g, o + k * 5 + 2, none⟩ = some (.string b) ∧ w'.cell? ⟨g, o + k * 5 + 3, none⟩ = some (.bool ag) ∧ w'.cell? ⟨g, o + k * 5 + 4, none⟩ = some (.int .i64 d)) ∧
    (w'.cell? ⟨g', o' + k * 5, none⟩ = some (.int .i64 s) ∧ w'.cell? ⟨g', o' + k * 5 + 1, none⟩ = some (.string ky) ∧ w'.cell? ⟨g', o' + k * 5 + 2, none⟩ = some (.string b) ∧ w'.cell? ⟨g', o' + k * 5 + 3, none⟩ = some (.bool ag) ∧ w'.cell? ⟨g', o' + k * 5 + 4, none⟩ = some (.int .i64 d))) (by kernel_rfl) ⟨hc, hc'⟩ (fun hHeld => ?_)
   refine tk 0 ?_
   refine tk 1 ?_
   refine tk 2 ?_
   refine tk 3 ?_
   refine tk 4 ?_
   refine tk 5 ?_
   refine tk 6 ?_
   refine tk 7 ?_
   refine tk 8 ?_
   refine wpAnyH_done (by kernel_rfl) ?_ _
   go_wp2_with fail
   go_roundw
   case rel => exact ⟨k + 1, m + 1, by omega, by go_num, by rw [HWR.out]; rfl⟩
   case measure => simp [intOf]; omega
  ·go_wp2
   go_ret
   exact ⟨rfl, m, HWR.out⟩
end Go.Proofs.YtpoichgodamnkaaGreat
namespace Go.Proofs.YtpoichgodamnkaaGreat
set_option linter.unusedVariables false
set_option maxRecDepth 100000
def pairsB (md : Region.Mode) (ops : Array Oper) (x : Oper) (k : Nat) : List Oper → Bool
 | [] => true
 | y :: r => (y.after.any (fun e => Region.binds md e && e.on == k) || x.apart ops y) && pairsB md ops x k r
def flatB (md : Region.Mode) (ops : Array Oper) : List Oper → Nat → Bool
 | [], _ => true
 | x :: r, k => x.after.all (fun e => !Region.binds md e || decide (e.on < k)) && pairsB md ops x k r && flatB md ops r (k + 1)
theorem pairsB_get {md : Region.Mode} {ops : Array Oper} {x : Oper} {k : Nat} : ∀ {l : List Oper}, pairsB md ops x k l = true → ∀ y ∈ l, (y.after.any (fun e => Region.binds md e && e.on == k) || x.apart ops y) = true
 | [], _, y, hy => by cases hy
 | z :: r, h, y, hy => by
   unfold pairsB at h
   rw [Bool.and_eq_true] at h
   rcases List.mem_cons.1 hy with rfl | hy
   ·exact h.1
   ·exact pairsB_get h.2 y hy
theorem lex_go {md : Region.Mode} {L : List Oper} : ∀ (r : List Oper) (k : Nat) (listed : Array Bool), L.drop k = r → k + r.length = L.length → (∀ j, j < L.length → listed.getD j true = decide (j < k)) → listed.size = L.length → flatB md L.toArray r k = true → Region.lexFrom md L.toArray r.length k listed = true
 | [], k, listed, hd, hk, hl, hs, _ => by
   show (Region.ready md L.toArray listed).isEmpty = true
   unfold Region.ready
   rw [List.isEmpty_iff, List.filter_eq_nil_iff]
   intro i hi
   have hi' : i < L.length := by simpa using hi
   rw [hl i hi']
   simp at hk
   simp [show i < k by omega]
 | x :: r, k, listed, hd, hk, hl, hs, hf => by
   unfold flatB at hf
   simp only [Bool.and_eq_true] at hf
   obtain ⟨⟨h1, h2⟩, h3⟩ := hf
   have hkl : k < L.length := by simp at hk; omega
   have hget : L[k]? = some x := by
    have : (L.drop k)[0]? = some x := by rw [hd]; rfl
    rwa [List.getElem?_drop, Nat.add_zero] at this
   have hdr : L.drop (k + 1) = r := by
    have := congrArg (List.drop 1) hd
    rw [List.drop_drop] at this
    simpa [Nat.add_comm] using this
   show (Region.lexFrom md L.toArray (r.length + 1) k listed) = true
   unfold Region.lexFrom
   simp only [Bool.and_eq_true]
   refine ⟨⟨?_, ?_⟩, lex_go r (k + 1) _ hdr (by simp at hk ⊢; omega) ?_ (by simpa using hs) h3⟩
   ·rw [List.contains_iff_mem]
    unfold Region.ready
    rw [List.mem_filter]
    refine ⟨by simpa using hkl, ?_⟩
    rw [hl k hkl]
    simp only [Nat.lt_irrefl, decide_false, Bool.not_false, Bool.true_and]
    rw [show L.toArray[k]? = some x by simpa using hget]
    simp only [Option.map_some, Option.getD_some]
    rw [Array.all_eq_true_iff_forall_mem] at h1 ⊢
    intro e he
    have := h1 e he
    rw [Bool.or_eq_true] at this ⊢
    rcases this with h | h
    ·exact .inl h
    ·right
     have hlt : e.on < k := of_decide_eq_true h
     have := hl e.on (by omega)
     rw [show listed.getD e.on false = listed.getD e.on true by simp [Array.getD, show e.on < listed.size by omega], this]
     simpa using hlt
   ·unfold Region.free
    rw [show L.toArray[k]? = some x by simpa using hget]
    simp only
    rw [List.all_eq_true]
    intro j hj
    have hj' : j < L.length := by simpa using hj
    by_cases e1 : j = k
    ·simp [e1]
    ·by_cases e2 : j < k
     ·rw [hl j hj']; simp [e2]
     ·have hjr : L[j]? = r[j - (k + 1)]? := by rw [← hdr, List.getElem?_drop]; congr 1; omega
      have hy : L[j]? = some (L[j]'hj') := List.getElem?_eq_getElem hj'
      have hmem : L[j]'hj' ∈ r := List.mem_of_getElem? (hjr.symm.trans hy)
      have := pairsB_get h2 _ hmem
      rw [show L.toArray[j]? = some (L[j]'hj') by simp [hj']]
      simp only
      rw [Bool.or_eq_true, this]
      exact .inr rfl
   ·intro j hj
    by_cases e1 : j = k
    ·subst e1
     simp [Array.getD, show j < listed.size by omega]
    ·have := hl j hj
     have e3 : (listed.setIfInBounds k true).getD j true = listed.getD j true := by
      have hjs : j < listed.size := by omega
      simp only [Array.getD, Array.size_setIfInBounds, hjs, dif_pos]
      exact Array.getElem_setIfInBounds_ne hjs (fun e => e1 e.symm)
     rw [e3, this]
     have : j < k ↔ j < k + 1 := by omega
     simp [this]
theorem lexB_flat {md : Region.Mode} {l : List Oper} (hs : Region.noSelect l.toArray = true) (h : flatB md l.toArray l 0 = true) : Region.lexB md l.toArray = true := by
 unfold Region.lexB
 rw [hs, Bool.true_and]
 have := lex_go (md := md) (L := l) l 0 (Array.replicate l.length false) (by simp) (by simp) (fun j hj => by simp [Array.getD, hj]) (by simp) h
 simpa using this
end Go.Proofs.YtpoichgodamnkaaGreat
