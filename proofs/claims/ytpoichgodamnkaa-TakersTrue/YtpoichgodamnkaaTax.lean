import Derived.Lib.Strings
import Derived.Lib.Bytealg
import Derived.Test.YtpoichgodamnkaaRows
import Derived.WalkKit
import Derived.WalkSpells
import Derived.WalkLawsBesides
import Derived.Lib.Walk
import Derived.Laws.Strings3
import Derived.RegionTactic
import Derived.RangeFuncNested
import Derived.RangeFuncBound
import Derived.RangeFuncCalls
import Derived.RangeFuncLeaves
import Derived.RangeFuncFrom
import Derived.Shelf.Abstract
import Derived.Shelf.RegionOpen
import Derived.OwnWalkIn
import Derived.TacticsInMore
import Derived.LoopNIn
import Derived.LoopIn
import Derived.Deep.Draws
import Derived.RangeFuncBox
import Derived.Maps.AppendAt
namespace Go.Proofs.Ytpoichgodamnkaa
set_option linter.unusedVariables false
set_option maxRecDepth 100000
def wch (c : UInt8) : Bool := decide (97 ≤ c.toNat ∧ c.toNat ≤ 122 ∨ 48 ≤ c.toNat ∧ c.toNat ≤ 57)
def isW (l : List UInt8) : Bool := l.all wch && !l.isEmpty
def isP (l : List UInt8) : Bool := l == [42] || l == [35] || isW l
def wsplit : List UInt8 → List (List UInt8)
 | [] => [[]]
 | c :: r => if c = 46 then [] :: wsplit r else match wsplit r with
   | [] => [[c]]
   | h :: t => (c :: h) :: t
theorem wsplit_ne (l : List UInt8) : wsplit l ≠ [] := by
 cases l with
 | nil => simp [wsplit]
 | cons c r => unfold wsplit; split <;> (try split) <;> simp
theorem wsplit_length (l : List UInt8) : (wsplit l).length = Lib.countByte l 46 + 1 := by
 induction l with
 | nil => simp [wsplit, Lib.countByte]
 | cons c r ih =>
   unfold Lib.countByte at *
   by_cases h : c = 46
   ·subst h; simp [wsplit, ih]
   ·have h' : ¬ (c == 46) = true := by simpa using h
    have hne := wsplit_ne r
    cases hw : wsplit r with
    | nil => exact absurd hw hne
    | cons x t =>
      rw [hw] at ih
      simp only [wsplit, h, if_false, hw]
      rw [List.count_cons_of_ne (by simpa using h)]
      simpa using ih
theorem wsplit_le (l : List UInt8) : (wsplit l).length ≤ l.length + 1 := by
 rw [wsplit_length]; have := List.count_le_length (a := (46 : UInt8)) (l := l); unfold Lib.countByte; omega
theorem indexByte_cases (l : List UInt8) : (Lib.indexByte l 46 = -1 ∧ wsplit l = [l]) ∨ ∃ i : Nat, Lib.indexByte l 46 = i ∧ i < l.length ∧ wsplit l = l.take i :: wsplit (l.drop (i + 1)) := by
 induction l with
 | nil => left; simp [Lib.indexByte, wsplit]
 | cons c r ih =>
   by_cases h : c = 46
   ·right
    refine ⟨0, by simp [Lib.indexByte, h], by simp, by simp [wsplit, h]⟩
   ·rcases ih with ⟨h1, h2⟩ | ⟨i, h1, h2, h3⟩
    ·left; simp [Lib.indexByte, h, h1, wsplit, h2]
    ·right
     refine ⟨i + 1, ?_, by simp; omega, by simp [wsplit, h, h3]⟩
     simp [Lib.indexByte, h, h1]
def werr (right : List UInt8 → Bool) (l : List UInt8) : Int :=
 if 24 < l.length ∨ 6 < (wsplit l).length then 2 else if (wsplit l).all right then 0 else 1
def kerr (l : List UInt8) : Int := werr isW l
def perr (l : List UInt8) : Int := werr isP l
def ksplit (l : List UInt8) : List (List UInt8) := if kerr l = 0 then wsplit l else []
def laidL : List (List UInt8) → List (List UInt8) → Bool
 | [], k => k.isEmpty
 | p :: ps, k => if p = [35] then (List.range (k.length + 1)).any (fun n => laidL ps (k.drop n)) else match k with
   | [] => false
   | x :: xs => (p == [42] || p == x) && laidL ps xs
def fitL (p k : List UInt8) : Bool := laidL (wsplit p) (wsplit k)
def merr (p k : List UInt8) : Int := if perr p = 0 then kerr k else perr p
def mis (p k : List UInt8) : Bool := if merr p k = 0 then fitL p k else false
end Go.Proofs.Ytpoichgodamnkaa
namespace Go.Proofs.Ytpoichgodamnkaa
open Go.RowKit
set_option linter.unusedVariables false
set_option maxRecDepth 100000
set_option maxHeartbeats 1000000
theorem count_any (s : ByteArray) (w : World) :
 Calls Try.prog 121 #[.string s, .string ⟨#[46]⟩] w fun e w' => e = .returned (.int .i64 (Lib.countByte s.data.toList 46)) ∧ w' = w := by
 go_enter Try.func121, Try.ntmps121
 go_wp2
 rw [run_callFunc_extern Try.func124 (by kernel_rfl) (by kernel_rfl) (by kernel_rfl) (e := Extern.BytealgCount.count) (by kernel_rfl), Lib.run_countString]
 simp only [Result.andThen]
 rw [Oper.upon_value]
 go_wp2
 go_ret
 exact ⟨rfl, rfl⟩
theorem indexByte_any (s : ByteArray) (c : Int) (w : World) :
 Calls Try.prog 130 #[.string s, .int .u8 c] w fun e w' => e = .returned (.int .i64 (Lib.indexByte s.data.toList c.toNat.toUInt8)) ∧ w' = w := by
 go_enter Try.func130, Try.ntmps130
 go_wp2
 rw [run_callFunc_extern Try.func134 (by kernel_rfl) (by kernel_rfl) (by kernel_rfl) (e := Extern.BytealgIndexByte.indexByte) (by kernel_rfl), Lib.run_indexByteString]
 simp only [Result.andThen]
 rw [Oper.upon_value]
 go_wp2
 go_ret
 exact ⟨rfl, rfl⟩
theorem index_any (s : ByteArray) (w : World) :
 Calls Try.prog 128 #[.string s, .string ⟨#[46]⟩] w fun e w' => e = .returned (.int .i64 (Lib.indexByte s.data.toList 46)) ∧ w' = w := by
 go_enter Try.func128, Try.ntmps128
 go_wp2_with (go_at_call 130; refine (indexByte_any _ _ _).mono ?_; rintro e w' ⟨rfl, rfl⟩)
 ·have h : ([46] == s.toList) = true := by assumption
  go_ret
  refine ⟨?_, rfl⟩
  have e : s.data.toList = [46] := by rw [← Lib.toList_data]; exact (beq_iff_eq.1 h).symm
  rw [e]
  simp [Lib.indexByte]
 ·go_ret
  exact ⟨rfl, rfl⟩
theorem cutl_none (s : ByteArray) (w : World) (h : Lib.indexByte s.data.toList 46 = -1) :
 Calls Try.prog 129 #[.string s, .string ⟨#[46]⟩] w fun e w' => e = .returned (.tuple #[.string s, .string ⟨#[]⟩, .bool false]) ∧ w' = w := by
 go_enter Try.func129, Try.ntmps129
 go_wp2_with (go_at_call 128; refine (index_any _ _).mono ?_; rintro e w' ⟨rfl, rfl⟩; rw [h])
 go_ret3
 exact ⟨rfl, rfl⟩
theorem cutl_some (s : ByteArray) (i : Nat) (w : World) (h : Lib.indexByte s.data.toList 46 = i) (hi : i < s.size) (hs : s.size ≤ maxLen) :
 Calls Try.prog 129 #[.string s, .string ⟨#[46]⟩] w fun e w' => e = .returned (.tuple #[.string (s.extract 0 i), .string (s.extract (i + 1) s.size), .bool true]) ∧ w' = w.drewN 1 := by
 unfold maxLen at hs
 have c1 : (0 : Int) ≤ ↑i := by omega
 have c2 : (↑i : Int) ≤ ↑s.size := by omega
 have c3 : (0 : Int) ≤ ↑i + 1 := by omega
 have c4 : (↑i + 1 : Int) ≤ ↑s.size := by omega
 go_enter Try.func129, Try.ntmps129
 go_wp2_with (go_at_call 128; refine (index_any _ _).mono ?_; rintro e w' ⟨rfl, rfl⟩; rw [h])
 go_region
 go_wp2
 go_ret3
 exact ⟨rfl, rfl⟩
theorem cut_none (s : ByteArray) (w : World) (h : Lib.indexByte s.data.toList 46 = -1) :
 Calls Try.prog 127 #[.string s, .string ⟨#[46]⟩] w fun e w' => e = .returned (.tuple #[.string s, .string ⟨#[]⟩, .bool false]) ∧ w' = w := by
 go_enter Try.func127, Try.ntmps127
 go_wp2_with (go_at_call 129; refine (cutl_none _ _ h).mono ?_; rintro e w' ⟨rfl, rfl⟩)
 go_ret3
 exact ⟨rfl, rfl⟩
theorem cut_some (s : ByteArray) (i : Nat) (w : World) (h : Lib.indexByte s.data.toList 46 = i) (hi : i < s.size) (hs : s.size ≤ maxLen) :
 Calls Try.prog 127 #[.string s, .string ⟨#[46]⟩] w fun e w' => e = .returned (.tuple #[.string (s.extract 0 i), .string (s.extract (i + 1) s.size), .bool true]) ∧ w' = w.drewN 1 := by
 go_enter Try.func127, Try.ntmps127
 go_wp2_with (go_at_call 129; refine (cutl_some _ i _ h hi hs).mono ?_; rintro e w' ⟨rfl, rfl⟩)
 go_ret3
 exact ⟨rfl, rfl⟩
theorem ret_bool {a b : Bool} (h : a = b) : Ending.returned (.bool a) = .returned (.bool b) := by rw [h]
theorem take_snoc (s : ByteArray) (k : Nat) (h : k < s.size) : s.data.toList.take (k + 1) = s.data.toList.take k ++ [s[k]] := by
 rw [List.take_succ_eq_append_getElem (by simpa using h)]; rfl
theorem wch_yes {c : UInt8} (h : 97 ≤ (c.toNat : Int) ∧ (c.toNat : Int) ≤ 122 ∨ 48 ≤ (c.toNat : Int) ∧ (c.toNat : Int) ≤ 57) : wch c = true := by
 unfold wch; rw [decide_eq_true_iff]; omega
theorem wch_no {c : UInt8} (h : ¬ (97 ≤ (c.toNat : Int) ∧ (c.toNat : Int) ≤ 122 ∨ 48 ≤ (c.toNat : Int) ∧ (c.toNat : Int) ≤ 57)) : wch c = false := by
 unfold wch; rw [decide_eq_false_iff_not]; omega
theorem all_take (s : ByteArray) (k : Nat) (h : k < s.size) (ha : (s.data.toList.take k).all wch = true) (hc : wch s[k] = true) : (s.data.toList.take (k + 1)).all wch = true := by
 rw [take_snoc s k h, List.all_append, ha]; simp [hc]
theorem not_all (s : ByteArray) (k : Nat) (h : k < s.size) (hc : wch s[k] = false) : isW s.data.toList = false := by
 have : s.data.toList.all wch = false := by
  rw [List.all_eq_false]
  exact ⟨s[k], by show s.data[k] ∈ _; simp, by simp [hc]⟩
 simp [isW, this]
theorem all_whole (s : ByteArray) (k : Nat) (h : ¬ k < s.size) : (s.data.toList.take k).all wch = s.data.toList.all wch := by
 rw [List.take_of_length_le (by simp; omega)]
theorem plain_any (s : ByteArray) (w : World) (hs : s.size ≤ maxLen) :
 Calls Try.prog 119 #[.string s] w fun e w' => e = .returned (.bool (isW s.data.toList)) ∧ w' = w := by
 unfold maxLen at hs
 go_enter Try.func119, Try.ntmps119
 go_wp2
 go_loop [7] (fun i => ∃ k : Nat, k ≤ s.size ∧ i = .int .i64 k ∧ (s.data.toList.take k).all wch = true) (fun i => s.size - (intOf i).toNat)
 case atStart => exact ⟨0, Nat.zero_le _, rfl, rfl⟩
 case round =>
  obtain ⟨k, hk, rfl, ha⟩ := hrel
  have HA : Hid ((s.data.toList.take k).all wch = true) := ha; clear ha
  by_cases hlt : k < s.size
  ·go_wp2
   all_goals first
    | (go_ret; exact ⟨ret_bool (not_all s k hlt (wch_no (by omega))).symm, rfl⟩)
    | exact ⟨⟨k + 1, by omega, by go_num, all_take s k hlt HA.out (wch_yes (by omega))⟩, by simp [intOf]; omega⟩
  ·go_wp2
   go_ret
   exact ⟨ret_bool (by rw [isW, ← all_whole s k hlt, HA.out, ← Lib.toList_data]; simp), rfl⟩
theorem patlit_any (s : ByteArray) (w : World) (hs : s.size ≤ maxLen) :
 Calls Try.prog 118 #[.string s] w fun e w' => e = .returned (.bool (isP s.data.toList)) ∧ w' = w := by
 go_enter Try.func118, Try.ntmps118
 go_wp2_with (go_at_call 119; refine (plain_any _ _ hs).mono ?_; rintro e w' ⟨rfl, rfl⟩)
 all_goals (go_ret; exact ⟨ret_bool (by simp_all [isP, ← Lib.toList_data]), rfl⟩)
end Go.Proofs.Ytpoichgodamnkaa
namespace Go.Proofs.Ytpoichgodamnkaa
open Go.RowKit Go.Shelf
set_option linter.unusedVariables false
set_option maxRecDepth 100000
set_option maxHeartbeats 1000000
attribute [local go_sem] Oper.semAt_some
theorem cell_of_box_l {W : World} {B : Nat} {v : Value} {t : TypeId} (h : W.heap[B]? = some (.cells #[v] t (0, 0))) : W.cell? ⟨B, 0, none⟩ = some v ∧ W.frozen? ⟨B, 0, none⟩ = false := by
 constructor <;> simp [World.cell?, World.frozen?, h]
theorem cell_new_l (W : World) (v : Value) (t : TypeId) : (W.alloc (.cells #[v] t)).cell? ⟨W.heap.size, 0, none⟩ = some v ∧ (W.alloc (.cells #[v] t)).frozen? ⟨W.heap.size, 0, none⟩ = false :=
 cell_of_box_l (World.alloc_heap_new W _)
theorem cell_alloc_l {W : World} {a : Addr} {v : Value} (o : Obj) (h : W.cell? a = some v) : (W.alloc o).cell? a = some v := cell_kept h (World.grownBy_alloc W o none) (fun r e => by cases e)
theorem frozen_alloc_l {W : World} {a : Addr} {v : Value} (o : Obj) (h : W.cell? a = some v) (hf : W.frozen? a = false) : (W.alloc o).frozen? a = false := (frozen_kept h (World.grownBy_alloc W o none) (fun r e => by cases e)).trans hf
theorem grown_drewN (w : World) (n : Nat) (row : Option Nat) : w.grownBy (w.drewN n) row := ⟨rfl, rfl, rfl, Nat.le_refl _, fun _ _ _ => rfl⟩
abbrev WB := { x : ByteArray // x.size ≤ maxLen }
def wlB (l : List UInt8) : List ByteArray := (wsplit l).map (fun x => ⟨x.toArray⟩)
def strLen : Value → Nat | .string x => x.size | _ => 0
def boolNat : Value → Nat | .bool true => 1 | _ => 0
theorem wlB_none (r : ByteArray) (h : wsplit r.data.toList = [r.data.toList]) : wlB r.data.toList = [r] := by
 simp [wlB, h]
theorem wlB_some (r : ByteArray) (i : Nat) (hi : i < r.size) (h : wsplit r.data.toList = r.data.toList.take i :: wsplit (r.data.toList.drop (i + 1))) :
 wlB r.data.toList = r.extract 0 i :: wlB (r.extract (i + 1) r.size).data.toList := by
 have e1 : r.extract 0 i = ⟨(r.data.toList.take i).toArray⟩ := by rw [Lib.extract_eq]; simp
 have e2 : (r.extract (i + 1) r.size).data.toList = r.data.toList.drop (i + 1) := by
  rw [Lib.extract_data]; exact List.take_of_length_le (by simp)
 rw [e1, e2, wlB, h]; rfl
theorem each1_in (n : Nat) (hn : 1 ≤ n) (l Bn : Nat) (s : ByteArray) (hs : s.size ≤ maxLen) (J Jx : List WB → World → Prop) (W : World)
 (hJ : AbidesFrom W.heap.size J)
 (hY : ∀ pre x W1, J pre W1 → pre.length < (wlB s.data.toList).length → YieldAt Fence.wide (n - 1) Try.prog l #[.string x.1] W1 fun e W' =>
  (e = .returned (.bool true) ∧ J (pre ++ [x]) W' ∧ True) ∨ (e = .returned (.bool false) ∧ Jx (pre ++ [x]) W'))
 (hBn : W.cell? ⟨Bn, 0, none⟩ = some (.string s)) (h0 : J [] W) :
 CallsIn Fence.wide n Try.prog 126 #[.func (.yield l) #[] #[], .pointer (some ⟨Bn, 0, none⟩)] W fun e W' => (∃ v, e = .returned v) ∧
  ((∃ ys, List.map (fun x : WB => x.1) ys = wlB s.data.toList ∧ J ys W') ∨ (∃ pre, List.map (fun x : WB => x.1) pre <+: wlB s.data.toList ∧ Jx pre W')) := by
 refine callsIn_of_wp Try.func126 rfl trivial ?_ rfl
 simp only [Try.ntmps126, List.size_toArray, List.length_cons, List.length_nil, Nat.reduceAdd, Nat.reduceSub, Array.replicate_succ, Array.replicate_zero, List.push_toArray, List.append_toArray, List.nil_append, List.cons_append]
 gi_wp2
 gi_loopw [3, 4] (fun rv mv wr => ∃ (pre : List WB) (r : ByteArray) (m : Bool), rv = .string r ∧ mv = .bool m ∧ r.size ≤ maxLen ∧ (if m then wlB s.data.toList = List.map (fun x : WB => x.1) pre ++ wlB r.data.toList else wlB s.data.toList = List.map (fun x : WB => x.1) pre) ∧ J pre wr)
  (fun rv mv _ => boolNat mv * (strLen rv + 1))
 case atStart =>
  exact ⟨[], s, true, rfl, rfl, hs, by simp, h0⟩
 case round =>
  obtain ⟨pre, r, m, rfl, rfl, hr, hx, hJs⟩ := hrel
  cases m with
  | false =>
    gi_wp2
    go_end0
    exact ⟨⟨_, rfl⟩, .inl ⟨pre, by simpa using hx.symm, hJs⟩⟩
  | true =>
    simp only [if_true] at hx
    rcases indexByte_cases r.data.toList with ⟨h1, h2⟩ | ⟨i, h1, h2, h3⟩
    ·have hw1 := wlB_none r h2
     rw [hw1] at hx
     have HX : Hid (wlB s.data.toList = List.map (fun x : WB => x.1) pre ++ [r]) := hx
     have hlen : pre.length < (wlB s.data.toList).length := by rw [hx]; simp
     obtain ⟨fn, tmps, assign, body, hy, hR⟩ := hY pre ⟨r, hr⟩ wr hJs hlen
     dsimp only at hy
     clear hx hw1 h2
     gi_wp2_with (refine ⟨trivial, ?_⟩; gi_at_call 127; refine (callsIn_wide.2 (cut_none r _ h1)).mono ?_; rintro e w' ⟨rfl, rfl⟩)
     refine hR.mono ?_
     rintro e W3 (⟨rfl, hJ3, _⟩ | ⟨rfl, hJx3⟩)
     ·gi_wp2
      go_roundw
      case rel => exact ⟨pre ++ [⟨r, hr⟩], ⟨#[]⟩, false, rfl, rfl, Nat.zero_le _, by simpa using HX.out, hJ3⟩
      case measure => simp [boolNat, strLen]
     ·gi_wp2
      refine bodyPost_ret (results_none rfl _ _ _) rfl ?_
      exact ⟨⟨_, rfl⟩, .inr ⟨pre ++ [⟨r, hr⟩], by rw [HX.out]; simp, hJx3⟩⟩
    ·have hi : i < r.size := by simpa using h2
     have hw1 := wlB_some r i hi h3
     rw [hw1] at hx
     have HX : Hid (wlB s.data.toList = List.map (fun x : WB => x.1) pre ++ r.extract 0 i :: wlB (r.extract (i + 1) r.size).data.toList) := hx
     have hlen : pre.length < (wlB s.data.toList).length := by rw [hx]; simp
     have he1 : (r.extract 0 i).size ≤ maxLen := by rw [ByteArray.size_extract]; omega
     have he2 : (r.extract (i + 1) r.size).size ≤ maxLen := by rw [ByteArray.size_extract]; omega
     have he3 : (r.extract (i + 1) r.size).size < r.size := by rw [ByteArray.size_extract]; omega
     have hJd : J pre (wr.drewN 1) := hJ pre wr _ none hJs (grown_drewN _ _ _) (fun r e => by cases e)
     obtain ⟨fn, tmps, assign, body, hy, hR⟩ := hY pre ⟨r.extract 0 i, he1⟩ (wr.drewN 1) hJd hlen
     dsimp only at hy
     have HE : Hid ((r.extract (i + 1) r.size).size < r.size ∧ (r.extract (i + 1) r.size).size ≤ maxLen) := ⟨he3, he2⟩
     clear hx hw1 h2 h3 he2 he3
     gi_wp2_with (refine ⟨trivial, ?_⟩; gi_at_call 127; refine (callsIn_wide.2 (cut_some r i _ h1 hi hr)).mono ?_; rintro e w' ⟨rfl, rfl⟩)
     refine hR.mono ?_
     rintro e W3 (⟨rfl, hJ3, _⟩ | ⟨rfl, hJx3⟩)
     ·gi_wp2
      go_roundw
      case rel => exact ⟨pre ++ [⟨r.extract 0 i, he1⟩], r.extract (i + 1) r.size, true, rfl, rfl, HE.out.2, by simpa using HX.out, hJ3⟩
      case measure => have := HE.out.1; simp only [boolNat, strLen]; omega
     ·gi_wp2
      refine bodyPost_ret (results_none rfl _ _ _) rfl ?_
      exact ⟨⟨_, rfl⟩, .inr ⟨pre ++ [⟨r.extract 0 i, he1⟩], by rw [HX.out]; simp, hJx3⟩⟩
theorem each_in (n : Nat) (s : ByteArray) (w : World) :
 CallsIn Fence.wide n Try.prog 122 #[.string s] w fun e w' => e = .returned (.func (.func 126) #[] #[.pointer (some ⟨w.heap.size, 0, none⟩)]) ∧ w' = w.alloc (.cells #[.string s] 9) := by
 refine callsIn_of_wp Try.func122 rfl trivial ?_ rfl
 simp only [Try.ntmps122, List.size_toArray, List.length_cons, List.length_nil, Nat.reduceAdd, Nat.reduceSub, Array.replicate_succ, Array.replicate_zero, List.push_toArray, List.append_toArray, List.nil_append, List.cons_append]
 gi_wp2
 go_ret
 exact ⟨rfl, rfl⟩
theorem each_stops (n : Nat) (hn : 1 ≤ n) (Bn : Nat) (s : ByteArray) (hs : s.size ≤ maxLen) (w : World) (hBn : Bn < w.heap.size) (hc : w.cell? ⟨Bn, 0, none⟩ = some (.string s)) :
 SeqStopsK Fence.wide n Try.prog 126 #[.pointer (some ⟨Bn, 0, none⟩)] (fun x : WB => #[Value.string x.1]) (fun _ _ => True) (fun ys => ys.map (fun x : WB => x.1) = wlB s.data.toList) (fun pre => pre.map (fun x : WB => x.1) <+: wlB s.data.toList) (wlB s.data.toList).length w := fun l J Jx W hW hJ _ hY h0 =>
 each1_in n hn l Bn s hs J Jx W hJ hY ((hW.cell (p := ⟨Bn, 0, none⟩) hBn).trans hc) h0
end Go.Proofs.Ytpoichgodamnkaa
namespace Go.Proofs.Ytpoichgodamnkaa
open Go.RowKit Go.Shelf
set_option linter.unusedVariables false
set_option maxRecDepth 100000
set_option maxHeartbeats 2000000
attribute [local go_sem] Oper.semAt_some
theorem werr_len {right : List UInt8 → Bool} {l : List UInt8} (h : 24 < l.length) : werr right l = 2 := by unfold werr; rw [if_pos (.inl h)]
theorem werr_many {right : List UInt8 → Bool} {l : List UInt8} (h : 6 ≤ Lib.countByte l 46) : werr right l = 2 := by unfold werr; rw [if_pos (.inr (by rw [wsplit_length]; omega))]
theorem wlB_list (l : List UInt8) : (wlB l).map (fun x => x.data.toList) = wsplit l := by simp [wlB, Function.comp_def]
theorem werr_words {right : List UInt8 → Bool} {l : List UInt8} (h1 : l.length ≤ 24) (h2 : Lib.countByte l 46 < 6) (h : ∀ x ∈ wlB l, right x.data.toList = true) : werr right l = 0 := by
 unfold werr; rw [if_neg (by rw [wsplit_length]; omega), if_pos]
 rw [List.all_eq_true, ← wlB_list]; intro x hx
 obtain ⟨y, hy, rfl⟩ := List.mem_map.1 hx
 exact h y hy
theorem werr_form {right : List UInt8 → Bool} {l : List UInt8} (h1 : l.length ≤ 24) (h2 : Lib.countByte l 46 < 6) {x : ByteArray} (hx : x ∈ wlB l) (h : right x.data.toList = false) : werr right l = 1 := by
 unfold werr; rw [if_neg (by rw [wsplit_length]; omega), if_neg]
 rw [List.all_eq_true, ← wlB_list]; intro hh
 have := hh _ (List.mem_map.2 ⟨x, hx, rfl⟩)
 rw [h] at this; cases this
theorem ret_int {k : IntKind} {a b : Int} (h : a = b) : Ending.returned (.int k a) = .returned (.int k b) := by rw [h]
theorem check_key_len (s : ByteArray) (w : World) (h : 24 < s.size) :
 Calls Try.prog 117 #[.string s, .func (.func 119) #[] #[]] w fun e w' => e = .returned (.int .i64 (werr isW s.data.toList)) ∧ Below w.heap.size w w' := by
 rw [werr_len (by simpa using h)]
 have h' : (24 : Int) < s.size := by omega
 go_enter Try.func117, Try.ntmps117
 go_wp2
 exact bodyPost_ret (v := .int .i64 2) (by simp [results, Try.results117, go_sem]) rfl ⟨rfl, (by repeat (first | exact Below.refl _ _ | assumption | refine Below.drew ?_ | refine Below.alloc ?_ (by first | (simp; done) | (simp; omega) | omega) _ | refine Below.setCell ?_ (by first | (simp; done) | (simp; omega) | omega) _))⟩
theorem check_key_many (s : ByteArray) (w : World) (h : s.size ≤ 24) (hc : 6 ≤ Lib.countByte s.data.toList 46) :
 Calls Try.prog 117 #[.string s, .func (.func 119) #[] #[]] w fun e w' => e = .returned (.int .i64 (werr isW s.data.toList)) ∧ Below w.heap.size w w' := by
 rw [werr_many hc]
 have h' : ¬ (24 : Int) < s.size := by omega
 have hc' : (6 : Int) ≤ Lib.countByte s.data.toList 46 := by omega
 go_enter Try.func117, Try.ntmps117
 go_wp2_with (go_at_call 121; refine (count_any _ _).mono ?_; rintro e w' ⟨rfl, rfl⟩)
 exact bodyPost_ret (v := .int .i64 2) (by simp [results, Try.results117, go_sem]) rfl ⟨rfl, (by repeat (first | exact Below.refl _ _ | assumption | refine Below.drew ?_ | refine Below.alloc ?_ (by first | (simp; done) | (simp; omega) | omega) _ | refine Below.setCell ?_ (by first | (simp; done) | (simp; omega) | omega) _))⟩
theorem check_key_words (s : ByteArray) (w : World) (h : s.size ≤ 24) (hc : Lib.countByte s.data.toList 46 < 6) :
 CallsIn Fence.wide 5 Try.prog 117 #[.string s, .func (.func 119) #[] #[]] w fun e w' => e = .returned (.int .i64 (werr isW s.data.toList)) ∧ Below w.heap.size w w' := by
 have h' : ¬ (24 : Int) < s.size := by omega
 have hc' : decide ((6 : Int) ≤ Lib.countByte s.data.toList 46) = false := by simp; omega
 have hm : s.size ≤ maxLen := by unfold maxLen; omega
 have hl : s.data.toList.length ≤ 24 := by simpa using h
 refine callsIn_of_wp_marks Try.func117 rfl trivial ?_ rfl
 simp only [Try.ntmps117, List.size_toArray, List.length_cons, List.length_nil, Nat.reduceAdd, Nat.reduceSub, Array.replicate_succ, Array.replicate_zero, List.push_toArray, List.append_toArray, List.nil_append, List.cons_append]
 gi_wp2_with (first
  | (refine ⟨trivial, ?_⟩; gi_at_call 121; refine (callsIn_wide.2 (count_any _ _)).mono ?_; rintro e w' ⟨rfl, rfl⟩)
  | (refine ⟨trivial, ?_⟩; gi_at_call 122; refine (each_in _ _ _).mono ?_; rintro e w' ⟨rfl, rfl⟩))
 have c0 := cell_new_l w (.func (.func 119) #[] #[]) 73
 have c1 := cell_new_l (w.alloc (.cells #[.func (.func 119) #[] #[]] 73)) (.int .i64 0) 32
 have c2 := cell_new_l ((w.alloc (.cells #[.func (.func 119) #[] #[]] 73)).alloc (.cells #[.int .i64 0] 32)) (.string s) 9
 simp only [World.size_alloc] at c1 c2
 have hB0 : Below w.heap.size w (((w.alloc (.cells #[.func (.func 119) #[] #[]] 73)).alloc (.cells #[.int .i64 0] 32)).alloc (.cells #[.string s] 9)) := (by repeat (first | exact Below.refl _ _ | assumption | refine Below.drew ?_ | refine Below.alloc ?_ (by first | (simp; done) | (simp; omega) | omega) _ | refine Below.setCell ?_ (by first | (simp; done) | (simp; omega) | omega) _))
 refine wpIn_rangeFunc_ownF rfl (by omega) (gf := 126) (lb := #[.pointer (some ⟨w.heap.size + 1 + 1, 0, none⟩)]) rfl trivial (enters_of Try.func126 (by kernel_rfl) rfl)
  (each_stops 4 (by omega) (w.heap.size + 1 + 1) s hm _ (by simp) c2.1) (fun _ _ => trivial) (fun _ _ _ _ _ _ _ _ => trivial) (Below.refl _ _) (fun _ => rfl)
  (fun pre W => ((∀ y ∈ pre, isW y.1.data.toList = true) ∧ W.cell? ⟨w.heap.size, 0, none⟩ = some (.func (.func 119) #[] #[]) ∧ W.cell? ⟨w.heap.size + 1, 0, none⟩ = some (.int .i64 0) ∧ W.frozen? ⟨w.heap.size + 1, 0, none⟩ = false) ∧ Below w.heap.size w W)
  (fun c pre W => (c = .ret ∧ (∃ y ∈ pre, isW y.1.data.toList = false) ∧ W.cell? ⟨w.heap.size + 1, 0, none⟩ = some (.int .i64 1)) ∧ Below w.heap.size w W)
  (OwnFrom.and (Own.from (fun s A B row hs hg hr => ⟨hs.1, cell_kept hs.2.1 hg hr, cell_kept hs.2.2.1 hg hr, (frozen_kept hs.2.2.1 hg hr).trans hs.2.2.2⟩) _) (ownFrom_below (Nat.le_refl _) (by simp; omega)))
  (fun c => OwnFrom.and (Own.from (fun s A B row hs hg hr => ⟨hs.1, hs.2.1, cell_kept hs.2.2 hg hr⟩) _) (ownFrom_below (Nat.le_refl _) (by simp; omega)))
  ⟨⟨by simp, cell_alloc_l _ (cell_alloc_l _ c0.1), cell_alloc_l _ c1.1, frozen_alloc_l _ c1.1 c1.2⟩, hB0⟩
  (fun x => { tmps := #[.string s, .func (.func 119) #[] #[], undef, .pointer (some ⟨w.heap.size, 0, none⟩), .pointer (some ⟨w.heap.size + 1, 0, none⟩), .string x.1, .string s, .int .i64 s.size, .bool false, .bool false, .string s, .int .i64 (Lib.countByte s.data.toList 46), .bool false, .bool false, .string s, .func (.func 126) #[] #[.pointer (some ⟨w.heap.size + 1 + 1, 0, none⟩)], .string x.1, undef, undef, undef, undef], defers := [] }) ?assign ?body ?done ?stop
 case assign =>
  intro l x W K hK
  gi_wp2
  exact hK
 case body =>
  rintro l pre x W ⟨⟨hp, hcf, hcr, hfr⟩, hB⟩ _
  cases hx : isW x.1.data.toList with
  | false =>
    have HX : Hid (isW x.1.data.toList = false) := hx
    clear hp
    gi_wp2_with (refine ⟨trivial, ?_⟩; gi_at_call 119; refine (CallsIn.inRound l (callsIn_wide.2 (plain_any _ _ x.2))).mono ?_; rintro e w' ⟨rfl, rfl⟩)
    exact ⟨KeepsOthers.setCell _ _ _, ⟨rfl, ⟨x, by simp, HX.out⟩, World.cell?_setCell_same' _ _ _ (by rw [hcr]; rfl)⟩, hB.setCell (p := ⟨w.heap.size + 1, 0, none⟩) (by simp) _⟩
  | true =>
    have HP : Hid (∀ y ∈ pre ++ [x], isW y.1.data.toList = true) := fun y hy => (List.mem_append.1 hy).elim (hp y) (fun e => by simp at e; subst e; exact hx)
    clear hp
    gi_wp2_with (refine ⟨trivial, ?_⟩; gi_at_call 119; refine (CallsIn.inRound l (callsIn_wide.2 (plain_any _ _ x.2))).mono ?_; rintro e w' ⟨rfl, rfl⟩)
    exact ⟨KeepsOthers.refl _, trivial, ⟨HP.out, hcf, hcr, hfr⟩, hB⟩
 case done =>
  rintro D ys W hD hys ⟨⟨hp, _, hcr, hfr⟩, hB⟩ hK
  have HF : Hid (werr isW s.data.toList = 0) := werr_words hl hc (fun x hx => by rw [← hys] at hx; obtain ⟨y, hy, rfl⟩ := List.mem_map.1 hx; exact hp y hy)
  clear hp hys
  gi_wp2
  have hK' := (KeepsOthers.setCell W ⟨w.heap.size + 1, 0, none⟩ (.int .i64 0)).same D _ hK rfl
  refine ⟨by simp, .inl ⟨_, _, rfl, run_takeDeferred hK', ?_⟩⟩
  have hc5 := cell_kept (World.cell?_setCell_same' W ⟨w.heap.size + 1, 0, none⟩ (.int .i64 0) (by rw [hcr]; rfl)) (grownBy_putObj' _ D (.deferred none)) (fun r e => by cases e; exact ⟨_, hK', rfl⟩)
  refine ⟨.int .i64 0, ?_, by rw [HF.out], (hB.setCell (p := ⟨w.heap.size + 1, 0, none⟩) (by simp) _).trans (belowK_b (w := w) (Nat.le_refl _) _ D _ _ (by simp at hD; omega) hK' rfl rfl)⟩
  simp [results, Try.results117, go_sem, hc5]
 case stop =>
  rintro D c pre W hD hpre ⟨⟨rfl, ⟨y, hy, hyr⟩, hcr⟩, hB⟩ hK
  have HF : Hid (werr isW s.data.toList = 1) := werr_form hl hc (hpre.subset (List.mem_map.2 ⟨y, hy, rfl⟩)) hyr
  clear hyr hpre
  gi_wp2
  refine ⟨by simp, .inl ⟨_, _, rfl, run_takeDeferred hK, ?_⟩⟩
  have hc5 := cell_kept hcr (grownBy_putObj' _ D (.deferred none)) (fun r e => by cases e; exact ⟨_, hK, rfl⟩)
  refine ⟨.int .i64 1, ?_, by rw [HF.out], hB.trans (belowK_b (w := w) (Nat.le_refl _) W D _ _ (by simp at hD; omega) hK rfl rfl)⟩
  simp [results, Try.results117, go_sem, hc5]
theorem check_key (s : ByteArray) (w : World) :
 Calls Try.prog 117 #[.string s, .func (.func 119) #[] #[]] w fun e w' => e = .returned (.int .i64 (werr isW s.data.toList)) ∧ Below w.heap.size w w' := by
 by_cases h : 24 < s.size
 ·exact check_key_len s w h
 ·by_cases hc : 6 ≤ Lib.countByte s.data.toList 46
  ·exact check_key_many s w (by omega) hc
  ·exact callsIn_wide.1 (check_key_words s w (by omega) (by omega))
theorem check_pat_len (s : ByteArray) (w : World) (h : 24 < s.size) :
 Calls Try.prog 117 #[.string s, .func (.func 118) #[] #[]] w fun e w' => e = .returned (.int .i64 (werr isP s.data.toList)) ∧ Below w.heap.size w w' := by
 rw [werr_len (by simpa using h)]
 have h' : (24 : Int) < s.size := by omega
 go_enter Try.func117, Try.ntmps117
 go_wp2
 exact bodyPost_ret (v := .int .i64 2) (by simp [results, Try.results117, go_sem]) rfl ⟨rfl, (by repeat (first | exact Below.refl _ _ | assumption | refine Below.drew ?_ | refine Below.alloc ?_ (by first | (simp; done) | (simp; omega) | omega) _ | refine Below.setCell ?_ (by first | (simp; done) | (simp; omega) | omega) _))⟩
theorem check_pat_many (s : ByteArray) (w : World) (h : s.size ≤ 24) (hc : 6 ≤ Lib.countByte s.data.toList 46) :
 Calls Try.prog 117 #[.string s, .func (.func 118) #[] #[]] w fun e w' => e = .returned (.int .i64 (werr isP s.data.toList)) ∧ Below w.heap.size w w' := by
 rw [werr_many hc]
 have h' : ¬ (24 : Int) < s.size := by omega
 have hc' : (6 : Int) ≤ Lib.countByte s.data.toList 46 := by omega
 go_enter Try.func117, Try.ntmps117
 go_wp2_with (go_at_call 121; refine (count_any _ _).mono ?_; rintro e w' ⟨rfl, rfl⟩)
 exact bodyPost_ret (v := .int .i64 2) (by simp [results, Try.results117, go_sem]) rfl ⟨rfl, (by repeat (first | exact Below.refl _ _ | assumption | refine Below.drew ?_ | refine Below.alloc ?_ (by first | (simp; done) | (simp; omega) | omega) _ | refine Below.setCell ?_ (by first | (simp; done) | (simp; omega) | omega) _))⟩
theorem check_pat_words (s : ByteArray) (w : World) (h : s.size ≤ 24) (hc : Lib.countByte s.data.toList 46 < 6) :
 CallsIn Fence.wide 5 Try.prog 117 #[.string s, .func (.func 118) #[] #[]] w fun e w' => e = .returned (.int .i64 (werr isP s.data.toList)) ∧ Below w.heap.size w w' := by
 have h' : ¬ (24 : Int) < s.size := by omega
 have hc' : decide ((6 : Int) ≤ Lib.countByte s.data.toList 46) = false := by simp; omega
 have hm : s.size ≤ maxLen := by unfold maxLen; omega
 have hl : s.data.toList.length ≤ 24 := by simpa using h
 refine callsIn_of_wp_marks Try.func117 rfl trivial ?_ rfl
 simp only [Try.ntmps117, List.size_toArray, List.length_cons, List.length_nil, Nat.reduceAdd, Nat.reduceSub, Array.replicate_succ, Array.replicate_zero, List.push_toArray, List.append_toArray, List.nil_append, List.cons_append]
 gi_wp2_with (first
  | (refine ⟨trivial, ?_⟩; gi_at_call 121; refine (callsIn_wide.2 (count_any _ _)).mono ?_; rintro e w' ⟨rfl, rfl⟩)
  | (refine ⟨trivial, ?_⟩; gi_at_call 122; refine (each_in _ _ _).mono ?_; rintro e w' ⟨rfl, rfl⟩))
 have c0 := cell_new_l w (.func (.func 118) #[] #[]) 73
 have c1 := cell_new_l (w.alloc (.cells #[.func (.func 118) #[] #[]] 73)) (.int .i64 0) 32
 have c2 := cell_new_l ((w.alloc (.cells #[.func (.func 118) #[] #[]] 73)).alloc (.cells #[.int .i64 0] 32)) (.string s) 9
 simp only [World.size_alloc] at c1 c2
 have hB0 : Below w.heap.size w (((w.alloc (.cells #[.func (.func 118) #[] #[]] 73)).alloc (.cells #[.int .i64 0] 32)).alloc (.cells #[.string s] 9)) := (by repeat (first | exact Below.refl _ _ | assumption | refine Below.drew ?_ | refine Below.alloc ?_ (by first | (simp; done) | (simp; omega) | omega) _ | refine Below.setCell ?_ (by first | (simp; done) | (simp; omega) | omega) _))
 refine wpIn_rangeFunc_ownF rfl (by omega) (gf := 126) (lb := #[.pointer (some ⟨w.heap.size + 1 + 1, 0, none⟩)]) rfl trivial (enters_of Try.func126 (by kernel_rfl) rfl)
  (each_stops 4 (by omega) (w.heap.size + 1 + 1) s hm _ (by simp) c2.1) (fun _ _ => trivial) (fun _ _ _ _ _ _ _ _ => trivial) (Below.refl _ _) (fun _ => rfl)
  (fun pre W => ((∀ y ∈ pre, isP y.1.data.toList = true) ∧ W.cell? ⟨w.heap.size, 0, none⟩ = some (.func (.func 118) #[] #[]) ∧ W.cell? ⟨w.heap.size + 1, 0, none⟩ = some (.int .i64 0) ∧ W.frozen? ⟨w.heap.size + 1, 0, none⟩ = false) ∧ Below w.heap.size w W)
  (fun c pre W => (c = .ret ∧ (∃ y ∈ pre, isP y.1.data.toList = false) ∧ W.cell? ⟨w.heap.size + 1, 0, none⟩ = some (.int .i64 1)) ∧ Below w.heap.size w W)
  (OwnFrom.and (Own.from (fun s A B row hs hg hr => ⟨hs.1, cell_kept hs.2.1 hg hr, cell_kept hs.2.2.1 hg hr, (frozen_kept hs.2.2.1 hg hr).trans hs.2.2.2⟩) _) (ownFrom_below (Nat.le_refl _) (by simp; omega)))
  (fun c => OwnFrom.and (Own.from (fun s A B row hs hg hr => ⟨hs.1, hs.2.1, cell_kept hs.2.2 hg hr⟩) _) (ownFrom_below (Nat.le_refl _) (by simp; omega)))
  ⟨⟨by simp, cell_alloc_l _ (cell_alloc_l _ c0.1), cell_alloc_l _ c1.1, frozen_alloc_l _ c1.1 c1.2⟩, hB0⟩
  (fun x => { tmps := #[.string s, .func (.func 118) #[] #[], undef, .pointer (some ⟨w.heap.size, 0, none⟩), .pointer (some ⟨w.heap.size + 1, 0, none⟩), .string x.1, .string s, .int .i64 s.size, .bool false, .bool false, .string s, .int .i64 (Lib.countByte s.data.toList 46), .bool false, .bool false, .string s, .func (.func 126) #[] #[.pointer (some ⟨w.heap.size + 1 + 1, 0, none⟩)], .string x.1, undef, undef, undef, undef], defers := [] }) ?assign ?body ?done ?stop
 case assign =>
  intro l x W K hK
  gi_wp2
  exact hK
 case body =>
  rintro l pre x W ⟨⟨hp, hcf, hcr, hfr⟩, hB⟩ _
  cases hx : isP x.1.data.toList with
  | false =>
    have HX : Hid (isP x.1.data.toList = false) := hx
    clear hp
    gi_wp2_with (refine ⟨trivial, ?_⟩; gi_at_call 118; refine (CallsIn.inRound l (callsIn_wide.2 (patlit_any _ _ x.2))).mono ?_; rintro e w' ⟨rfl, rfl⟩)
    exact ⟨KeepsOthers.setCell _ _ _, ⟨rfl, ⟨x, by simp, HX.out⟩, World.cell?_setCell_same' _ _ _ (by rw [hcr]; rfl)⟩, hB.setCell (p := ⟨w.heap.size + 1, 0, none⟩) (by simp) _⟩
  | true =>
    have HP : Hid (∀ y ∈ pre ++ [x], isP y.1.data.toList = true) := fun y hy => (List.mem_append.1 hy).elim (hp y) (fun e => by simp at e; subst e; exact hx)
    clear hp
    gi_wp2_with (refine ⟨trivial, ?_⟩; gi_at_call 118; refine (CallsIn.inRound l (callsIn_wide.2 (patlit_any _ _ x.2))).mono ?_; rintro e w' ⟨rfl, rfl⟩)
    exact ⟨KeepsOthers.refl _, trivial, ⟨HP.out, hcf, hcr, hfr⟩, hB⟩
 case done =>
  rintro D ys W hD hys ⟨⟨hp, _, hcr, hfr⟩, hB⟩ hK
  have HF : Hid (werr isP s.data.toList = 0) := werr_words hl hc (fun x hx => by rw [← hys] at hx; obtain ⟨y, hy, rfl⟩ := List.mem_map.1 hx; exact hp y hy)
  clear hp hys
  gi_wp2
  have hK' := (KeepsOthers.setCell W ⟨w.heap.size + 1, 0, none⟩ (.int .i64 0)).same D _ hK rfl
  refine ⟨by simp, .inl ⟨_, _, rfl, run_takeDeferred hK', ?_⟩⟩
  have hc5 := cell_kept (World.cell?_setCell_same' W ⟨w.heap.size + 1, 0, none⟩ (.int .i64 0) (by rw [hcr]; rfl)) (grownBy_putObj' _ D (.deferred none)) (fun r e => by cases e; exact ⟨_, hK', rfl⟩)
  refine ⟨.int .i64 0, ?_, by rw [HF.out], (hB.setCell (p := ⟨w.heap.size + 1, 0, none⟩) (by simp) _).trans (belowK_b (w := w) (Nat.le_refl _) _ D _ _ (by simp at hD; omega) hK' rfl rfl)⟩
  simp [results, Try.results117, go_sem, hc5]
 case stop =>
  rintro D c pre W hD hpre ⟨⟨rfl, ⟨y, hy, hyr⟩, hcr⟩, hB⟩ hK
  have HF : Hid (werr isP s.data.toList = 1) := werr_form hl hc (hpre.subset (List.mem_map.2 ⟨y, hy, rfl⟩)) hyr
  clear hyr hpre
  gi_wp2
  refine ⟨by simp, .inl ⟨_, _, rfl, run_takeDeferred hK, ?_⟩⟩
  have hc5 := cell_kept hcr (grownBy_putObj' _ D (.deferred none)) (fun r e => by cases e; exact ⟨_, hK, rfl⟩)
  refine ⟨.int .i64 1, ?_, by rw [HF.out], hB.trans (belowK_b (w := w) (Nat.le_refl _) W D _ _ (by simp at hD; omega) hK rfl rfl)⟩
  simp [results, Try.results117, go_sem, hc5]
theorem check_pat (s : ByteArray) (w : World) :
 Calls Try.prog 117 #[.string s, .func (.func 118) #[] #[]] w fun e w' => e = .returned (.int .i64 (werr isP s.data.toList)) ∧ Below w.heap.size w w' := by
 by_cases h : 24 < s.size
 ·exact check_pat_len s w h
 ·by_cases hc : 6 ≤ Lib.countByte s.data.toList 46
  ·exact check_pat_many s w (by omega) hc
  ·exact callsIn_wide.1 (check_pat_words s w (by omega) (by omega))
end Go.Proofs.Ytpoichgodamnkaa
namespace Go.Proofs.Ytpoichgodamnkaa
open Go.RowKit
set_option linter.unusedVariables false
set_option maxRecDepth 100000
theorem Try.info9 : (Try.prog.info? 9).map (fun i => (i.zero, i.size, i.bytes)) = some (some (.string ⟨#[]⟩), 1, 16) := by kernel_rfl
def SpInv (s : ByteArray) (outs : List ByteArray) (f k : Nat) : Prop :=
 f ≤ k ∧ k ≤ s.size ∧ wlB s.data.toList = outs ++ wlB (s.data.toList.drop f) ∧ (46 : UInt8) ∉ (s.data.toList.drop f).take (k - f)
theorem own_ge {W : World} {base : Nat} {e : TypeId} {size : Nat} {v : Value} {n : Nat} {xs : List Value} (h : W.ownsRow base e size v n xs) : ∀ k, v.ownBlock = some k → base ≤ k := by
 rcases h.2 with ⟨rfl, _⟩ | ⟨g, cap, cur, rfl, hg, _⟩
 ·intro k hk; cases hk
 ·intro k hk; cases hk; exact hg
theorem SpInv.no {s : ByteArray} {outs : List ByteArray} {f k : Nat} (h : SpInv s outs f k) (hk : k < s.size) (hc : s[k] ≠ 46) : SpInv s outs f (k + 1) := by
 obtain ⟨h1, h2, h3, h4⟩ := h
 have hl : k < s.data.toList.length := by simpa using hk
 refine ⟨by omega, by omega, h3, ?_⟩
 have e : (s.data.toList.drop f).take (k + 1 - f) = (s.data.toList.drop f).take (k - f) ++ [s.data.toList[k]] := by
  rw [show k + 1 - f = (k - f) + 1 from by omega, List.take_succ_eq_append_getElem (by simp; omega)]
  simp [List.getElem_drop, show f + (k - f) = k from by omega]
 rw [e]; simp only [List.mem_append, List.mem_singleton, not_or]
 exact ⟨h4, fun e => hc (by show s.data[k] = 46; simpa using e.symm)⟩
theorem SpInv.len {s : ByteArray} {outs : List ByteArray} {f k : Nat} (h : SpInv s outs f k) : outs.length ≤ s.size := by
 obtain ⟨h1, h2, h3, h4⟩ := h
 have e1 : (wlB s.data.toList).length ≤ s.size + 1 := by have := wsplit_le s.data.toList; simp [wlB] at *; omega
 have e2 : 1 ≤ (wlB (s.data.toList.drop f)).length := by
  have := wsplit_ne (s.data.toList.drop f)
  have : (wsplit (s.data.toList.drop f)).length ≠ 0 := by simpa using this
  simp [wlB]; omega
 rw [h3, List.length_append] at e1
 omega
end Go.Proofs.Ytpoichgodamnkaa
