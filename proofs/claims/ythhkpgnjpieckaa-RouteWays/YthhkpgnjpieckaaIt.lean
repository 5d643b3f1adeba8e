/- The words of a text, one by one: words.each and its closure. -/
import Derived.RangeFuncNested
import Derived.RangeFuncBound
import Derived.RangeFuncCalls
import Derived.RangeFuncLeaves
import Derived.RangeFuncFrom
import Derived.Shelf.Abstract
import Derived.Shelf.RegionOpen
import Derived.OwnWalkIn
import Derived.TacticsInMore
import Derived.LoopNIn
import Derived.LoopIn
import Derived.Deep.Draws
import Derived.Test.YthhkpgnjpieckaaWd
namespace Go.Proofs.Ythhkpgnjpieckaa
set_option linter.unusedVariables false
set_option maxRecDepth 100000
open Go.RowKit Go.Shelf
attribute [local go_sem] Oper.semAt_some

theorem cell_of_box_l {W : World} {B : Nat} {v : Value} {t : TypeId} (h : W.heap[B]? = some (.cells #[v] t (0, 0))) : W.cell? ⟨B, 0, none⟩ = some v ∧ W.frozen? ⟨B, 0, none⟩ = false := by
  constructor <;> simp [World.cell?, World.frozen?, h]
theorem cell_new_l (W : World) (v : Value) (t : TypeId) : (W.alloc (.cells #[v] t)).cell? ⟨W.heap.size, 0, none⟩ = some v ∧ (W.alloc (.cells #[v] t)).frozen? ⟨W.heap.size, 0, none⟩ = false :=
  cell_of_box_l (World.alloc_heap_new W _)
theorem cell_alloc_l {W : World} {a : Addr} {v : Value} (o : Obj) (h : W.cell? a = some v) : (W.alloc o).cell? a = some v := cell_kept h (World.grownBy_alloc W o none) (fun r e => by cases e)
theorem frozen_alloc_l {W : World} {a : Addr} {v : Value} (o : Obj) (h : W.cell? a = some v) (hf : W.frozen? a = false) : (W.alloc o).frozen? a = false := (frozen_kept h (World.grownBy_alloc W o none) (fun r e => by cases e)).trans hf
theorem grown_drewN (w : World) (n : Nat) (row : Option Nat) : w.grownBy (w.drewN n) row := ⟨rfl, rfl, rfl, Nat.le_refl _, fun _ _ _ => rfl⟩

/-- A text that fits. -/
abbrev WB := { x : ByteArray // x.size ≤ maxLen }
/-- The words of a text, as texts. -/
def wlB (l : List UInt8) : List ByteArray := (wsplit l).map (fun x => ⟨x.toArray⟩)
def strLen : Value → Nat | .string x => x.size | _ => 0
def boolNat : Value → Nat | .bool true => 1 | _ => 0

theorem wlB_none (r : ByteArray) (h : wsplit r.data.toList = [r.data.toList]) : wlB r.data.toList = [r] := by
  simp [wlB, h]
theorem wlB_some (r : ByteArray) (i : Nat) (hi : i < r.size) (h : wsplit r.data.toList = r.data.toList.take i :: wsplit (r.data.toList.drop (i + 1))) :
    wlB r.data.toList = r.extract 0 i :: wlB (r.extract (i + 1) r.size).data.toList := by
  have e1 : r.extract 0 i = ⟨(r.data.toList.take i).toArray⟩ := by rw [Lib.extract_eq]; simp
  have e2 : (r.extract (i + 1) r.size).data.toList = r.data.toList.drop (i + 1) := by
    rw [Lib.extract_data]; exact List.take_of_length_le (by simp)
  rw [e1, e2, wlB, h]; rfl

set_option maxRecDepth 100000 in
set_option maxHeartbeats 1000000 in
theorem each1_in (n : Nat) (hn : 1 ≤ n) (l Bn : Nat) (s : ByteArray) (hs : s.size ≤ maxLen) (J Jx : List WB → World → Prop) (W : World)
    (hJ : AbidesFrom W.heap.size J)
    (hY : ∀ pre x W1, J pre W1 → pre.length < (wlB s.data.toList).length → YieldAt Fence.wide (n - 1) Try.prog l #[.string x.1] W1 fun e W' =>
      (e = .returned (.bool true) ∧ J (pre ++ [x]) W' ∧ True) ∨ (e = .returned (.bool false) ∧ Jx (pre ++ [x]) W'))
    (hBn : W.cell? ⟨Bn, 0, none⟩ = some (.string s)) (h0 : J [] W) :
    CallsIn Fence.wide n Try.prog 108 #[.func (.yield l) #[] #[], .pointer (some ⟨Bn, 0, none⟩)] W fun e W' => (∃ v, e = .returned v) ∧
      ((∃ ys, List.map (fun x : WB => x.1) ys = wlB s.data.toList ∧ J ys W') ∨ (∃ pre, List.map (fun x : WB => x.1) pre <+: wlB s.data.toList ∧ Jx pre W')) := by
  refine callsIn_of_wp Try.func108 rfl trivial ?_ rfl
  simp only [Try.ntmps108, List.size_toArray, List.length_cons, List.length_nil, Nat.reduceAdd, Nat.reduceSub, Array.replicate_succ, Array.replicate_zero, List.push_toArray, List.append_toArray, List.nil_append, List.cons_append]
  gi_wp2
  gi_loopw [3, 4] (fun rv mv wr => ∃ (pre : List WB) (r : ByteArray) (m : Bool), rv = .string r ∧ mv = .bool m ∧ r.size ≤ maxLen ∧ (if m then wlB s.data.toList = List.map (fun x : WB => x.1) pre ++ wlB r.data.toList else wlB s.data.toList = List.map (fun x : WB => x.1) pre) ∧ J pre wr)
    (fun rv mv _ => boolNat mv * (strLen rv + 1))
  case atStart =>
    exact ⟨[], s, true, rfl, rfl, hs, by simp, h0⟩
  case round =>
    obtain ⟨pre, r, m, rfl, rfl, hr, hx, hJs⟩ := hrel
    cases m with
    | false =>
      gi_wp2
      go_end0
      exact ⟨⟨_, rfl⟩, .inl ⟨pre, by simpa using hx.symm, hJs⟩⟩
    | true =>
      simp only [if_true] at hx
      rcases indexByte_cases r.data.toList with ⟨h1, h2⟩ | ⟨i, h1, h2, h3⟩
      · have hw1 := wlB_none r h2
        rw [hw1] at hx
        have HX : Hid (wlB s.data.toList = List.map (fun x : WB => x.1) pre ++ [r]) := hx
        have hlen : pre.length < (wlB s.data.toList).length := by rw [hx]; simp
        obtain ⟨fn, tmps, assign, body, hy, hR⟩ := hY pre ⟨r, hr⟩ wr hJs hlen
        dsimp only at hy
        clear hx hw1 h2
        gi_wp2_with (refine ⟨trivial, ?_⟩; gi_at_call 109; refine (callsIn_wide.2 (cut_none r _ h1)).mono ?_; rintro e w' ⟨rfl, rfl⟩)
        refine hR.mono ?_
        rintro e W3 (⟨rfl, hJ3, _⟩ | ⟨rfl, hJx3⟩)
        · gi_wp2
          go_roundw
          case rel => exact ⟨pre ++ [⟨r, hr⟩], ⟨#[]⟩, false, rfl, rfl, Nat.zero_le _, by simpa using HX.out, hJ3⟩
          case measure => simp [boolNat, strLen]
        · gi_wp2
          refine bodyPost_ret (results_none rfl _ _ _) rfl ?_
          exact ⟨⟨_, rfl⟩, .inr ⟨pre ++ [⟨r, hr⟩], by rw [HX.out]; simp, hJx3⟩⟩
      · have hi : i < r.size := by simpa using h2
        have hw1 := wlB_some r i hi h3
        rw [hw1] at hx
        have HX : Hid (wlB s.data.toList = List.map (fun x : WB => x.1) pre ++ r.extract 0 i :: wlB (r.extract (i + 1) r.size).data.toList) := hx
        have hlen : pre.length < (wlB s.data.toList).length := by rw [hx]; simp
        have he1 : (r.extract 0 i).size ≤ maxLen := by rw [ByteArray.size_extract]; omega
        have he2 : (r.extract (i + 1) r.size).size ≤ maxLen := by rw [ByteArray.size_extract]; omega
        have he3 : (r.extract (i + 1) r.size).size < r.size := by rw [ByteArray.size_extract]; omega
        have hJd : J pre (wr.drewN 1) := hJ pre wr _ none hJs (grown_drewN _ _ _) (fun r e => by cases e)
        obtain ⟨fn, tmps, assign, body, hy, hR⟩ := hY pre ⟨r.extract 0 i, he1⟩ (wr.drewN 1) hJd hlen
        dsimp only at hy
        have HE : Hid ((r.extract (i + 1) r.size).size < r.size ∧ (r.extract (i + 1) r.size).size ≤ maxLen) := ⟨he3, he2⟩
        clear hx hw1 h2 h3 he2 he3
        gi_wp2_with (refine ⟨trivial, ?_⟩; gi_at_call 109; refine (callsIn_wide.2 (cut_some r i _ h1 hi hr)).mono ?_; rintro e w' ⟨rfl, rfl⟩)
        refine hR.mono ?_
        rintro e W3 (⟨rfl, hJ3, _⟩ | ⟨rfl, hJx3⟩)
        · gi_wp2
          go_roundw
          case rel => exact ⟨pre ++ [⟨r.extract 0 i, he1⟩], r.extract (i + 1) r.size, true, rfl, rfl, HE.out.2, by simpa using HX.out, hJ3⟩
          case measure => have := HE.out.1; simp only [boolNat, strLen]; omega
        · gi_wp2
          refine bodyPost_ret (results_none rfl _ _ _) rfl ?_
          exact ⟨⟨_, rfl⟩, .inr ⟨pre ++ [⟨r.extract 0 i, he1⟩], by rw [HX.out]; simp, hJx3⟩⟩

set_option maxHeartbeats 1000000 in
theorem each_in (n : Nat) (s : ByteArray) (w : World) :
    CallsIn Fence.wide n Try.prog 55 #[.string s] w fun e w' => e = .returned (.func (.func 108) #[] #[.pointer (some ⟨w.heap.size, 0, none⟩)]) ∧ w' = w.alloc (.cells #[.string s] 9) := by
  refine callsIn_of_wp Try.func55 rfl trivial ?_ rfl
  simp only [Try.ntmps55, List.size_toArray, List.length_cons, List.length_nil, Nat.reduceAdd, Nat.reduceSub, Array.replicate_succ, Array.replicate_zero, List.push_toArray, List.append_toArray, List.nil_append, List.cons_append]
  gi_wp2
  go_ret
  exact ⟨rfl, rfl⟩

theorem each_stops (n : Nat) (hn : 1 ≤ n) (Bn : Nat) (s : ByteArray) (hs : s.size ≤ maxLen) (w : World) (hBn : Bn < w.heap.size) (hc : w.cell? ⟨Bn, 0, none⟩ = some (.string s)) :
    SeqStopsK Fence.wide n Try.prog 108 #[.pointer (some ⟨Bn, 0, none⟩)] (fun x : WB => #[Value.string x.1]) (fun _ _ => True) (fun ys => ys.map (fun x : WB => x.1) = wlB s.data.toList) (fun pre => pre.map (fun x : WB => x.1) <+: wlB s.data.toList) (wlB s.data.toList).length w := fun l J Jx W hW hJ _ hY h0 =>
  each1_in n hn l Bn s hs J Jx W hJ hY ((hW.cell (p := ⟨Bn, 0, none⟩) hBn).trans hc) h0

end Go.Proofs.Ythhkpgnjpieckaa
