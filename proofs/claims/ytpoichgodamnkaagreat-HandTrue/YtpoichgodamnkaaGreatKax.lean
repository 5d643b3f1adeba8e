import Derived.Lib.Strings
import Derived.Lib.Bytealg
import Derived.Test.YtpoichgodamnkaaGreatRows
import Derived.WalkKit
import Derived.WalkSpells
import Derived.WalkLawsBesides
import Derived.Lib.Walk
import Derived.Laws.Strings3
import Derived.RegionTactic
import Derived.RangeFuncNested
import Derived.RangeFuncBound
import Derived.RangeFuncCalls
import Derived.RangeFuncLeaves
import Derived.RangeFuncFrom
import Derived.Shelf.Abstract
import Derived.Shelf.RegionOpen
import Derived.OwnWalkIn
import Derived.TacticsInMore
import Derived.LoopNIn
import Derived.LoopIn
import Derived.Deep.Draws
import Derived.RangeFuncBox
import Derived.Maps.AppendAt
import Derived.RangeFuncWrites
import Derived.Deep.QuietTactic
import Derived.BigQuiet
namespace Go.Proofs.YtpoichgodamnkaaGreat
set_option linter.unusedVariables false
set_option maxRecDepth 100000
def wch (c : UInt8) : Bool := decide (97 ≤ c.toNat ∧ c.toNat ≤ 122 ∨ 48 ≤ c.toNat ∧ c.toNat ≤ 57)
def isW (l : List UInt8) : Bool := l.all wch && !l.isEmpty
def isP (l : List UInt8) : Bool := l == [42] || l == [35] || isW l
def wsplit : List UInt8 → List (List UInt8)
 | [] => [[]]
 | c :: r => if c = 46 then [] :: wsplit r else match wsplit r with
   | [] => [[c]]
   | h :: t => (c :: h) :: t
theorem wsplit_ne (l : List UInt8) : wsplit l ≠ [] := by
 cases l with
 | nil => simp [wsplit]
 | cons c r => unfold wsplit; split <;> (try split) <;> simp
theorem wsplit_none (l : List UInt8) (h : (46 : UInt8) ∉ l) : wsplit l = [l] := by
 induction l with
 | nil => rfl
 | cons c r ih =>
   have h1 : ¬ c = 46 := fun e => h (by simp [e])
   have h2 := ih (fun e => h (by simp [e]))
   simp [wsplit, h1, h2]
theorem wsplit_length (l : List UInt8) : (wsplit l).length = Lib.countByte l 46 + 1 := by
 induction l with
 | nil => simp [wsplit, Lib.countByte]
 | cons c r ih =>
   unfold Lib.countByte at *
   by_cases h : c = 46
   ·subst h; simp [wsplit, ih]
   ·have h' : ¬ (c == 46) = true := by simpa using h
    have hne := wsplit_ne r
    cases hw : wsplit r with
    | nil => exact absurd hw hne
    | cons x t =>
      rw [hw] at ih
      simp only [wsplit, h, if_false, hw]
      rw [List.count_cons_of_ne (by simpa using h)]
      simpa using ih
theorem wsplit_le (l : List UInt8) : (wsplit l).length ≤ l.length + 1 := by
 rw [wsplit_length]; have := List.count_le_length (a := (46 : UInt8)) (l := l); unfold Lib.countByte; omega
theorem indexByte_cases (l : List UInt8) : (Lib.indexByte l 46 = -1 ∧ wsplit l = [l]) ∨ ∃ i : Nat, Lib.indexByte l 46 = i ∧ i < l.length ∧ wsplit l = l.take i :: wsplit (l.drop (i + 1)) := by
 induction l with
 | nil => left; simp [Lib.indexByte, wsplit]
 | cons c r ih =>
   by_cases h : c = 46
   ·right
    refine ⟨0, by simp [Lib.indexByte, h], by simp, by simp [wsplit, h]⟩
   ·rcases ih with ⟨h1, h2⟩ | ⟨i, h1, h2, h3⟩
    ·left; simp [Lib.indexByte, h, h1, wsplit, h2]
    ·right
     refine ⟨i + 1, ?_, by simp; omega, by simp [wsplit, h, h3]⟩
     simp [Lib.indexByte, h, h1]
def werr (right : List UInt8 → Bool) (l : List UInt8) : Int :=
 if 24 < l.length ∨ 6 < (wsplit l).length then 2 else if (wsplit l).all right then 0 else 1
def kerr (l : List UInt8) : Int := werr isW l
def perr (l : List UInt8) : Int := werr isP l
def ksplit (l : List UInt8) : List (List UInt8) := if kerr l = 0 then wsplit l else []
def laidL : List (List UInt8) → List (List UInt8) → Bool
 | [], k => k.isEmpty
 | p :: ps, k => if p = [35] then (List.range (k.length + 1)).any (fun n => laidL ps (k.drop n)) else match k with
   | [] => false
   | x :: xs => (p == [42] || p == x) && laidL ps xs
def fitL (p k : List UInt8) : Bool := laidL (wsplit p) (wsplit k)
def merr (p k : List UInt8) : Int := if perr p = 0 then kerr k else perr p
def mis (p k : List UInt8) : Bool := if merr p k = 0 then fitL p k else false
end Go.Proofs.YtpoichgodamnkaaGreat
namespace Go.Proofs.YtpoichgodamnkaaGreat
open Go.RowKit
set_option linter.unusedVariables false
set_option maxRecDepth 100000
set_option maxHeartbeats 1000000
theorem count_any (s : ByteArray) (w : World) :
 Calls Tryz.prog 213 #[.string s, .string ⟨#[46]⟩] w fun e w' => e = .returned (.int .i64 (Lib.countByte s.data.toList 46)) ∧ w' = w := by
 go_enter Tryz.func213, Tryz.ntmps213
 go_wp2
 rw [run_callFunc_extern Tryz.func226 (by kernel_rfl) (by kernel_rfl) (by kernel_rfl) (e := Extern.BytealgCount.count) (by kernel_rfl), Lib.run_countString]
 simp only [Result.andThen]
 rw [Oper.upon_value]
 go_wp2
 go_ret
 exact ⟨rfl, rfl⟩
theorem indexByte_any (s : ByteArray) (c : Int) (w : World) :
 Calls Tryz.prog 231 #[.string s, .int .u8 c] w fun e w' => e = .returned (.int .i64 (Lib.indexByte s.data.toList c.toNat.toUInt8)) ∧ w' = w := by
 go_enter Tryz.func231, Tryz.ntmps231
 go_wp2
 rw [run_callFunc_extern Tryz.func235 (by kernel_rfl) (by kernel_rfl) (by kernel_rfl) (e := Extern.BytealgIndexByte.indexByte) (by kernel_rfl), Lib.run_indexByteString]
 simp only [Result.andThen]
 rw [Oper.upon_value]
 go_wp2
 go_ret
 exact ⟨rfl, rfl⟩
theorem index_any (s : ByteArray) (w : World) :
 Calls Tryz.prog 230 #[.string s, .string ⟨#[46]⟩] w fun e w' => e = .returned (.int .i64 (Lib.indexByte s.data.toList 46)) ∧ w' = w := by
 go_enter Tryz.func230, Tryz.ntmps230
 go_wp2_with (go_at_call 231; refine (indexByte_any _ _ _).mono ?_; rintro e w' ⟨rfl, rfl⟩)
 ·have h : ([46] == s.toList) = true := by assumption
  go_ret
  refine ⟨?_, rfl⟩
  have e : s.data.toList = [46] := by rw [← Lib.toList_data]; exact (beq_iff_eq.1 h).symm
  rw [e]
  simp [Lib.indexByte]
 ·go_ret
  exact ⟨rfl, rfl⟩
theorem cutl_none (s : ByteArray) (w : World) (h : Lib.indexByte s.data.toList 46 = -1) :
 Calls Tryz.prog 228 #[.string s, .string ⟨#[46]⟩] w fun e w' => e = .returned (.tuple #[.string s, .string ⟨#[]⟩, .bool false]) ∧ w' = w := by
 go_enter Tryz.func228, Tryz.ntmps228
 go_wp2_with (go_at_call 230; refine (index_any _ _).mono ?_; rintro e w' ⟨rfl, rfl⟩; rw [h])
 go_ret3
 exact ⟨rfl, rfl⟩
theorem cutl_some (s : ByteArray) (i : Nat) (w : World) (h : Lib.indexByte s.data.toList 46 = i) (hi : i < s.size) (hs : s.size ≤ maxLen) :
 Calls Tryz.prog 228 #[.string s, .string ⟨#[46]⟩] w fun e w' => e = .returned (.tuple #[.string (s.extract 0 i), .string (s.extract (i + 1) s.size), .bool true]) ∧ w' = w.drewN 1 := by
 unfold maxLen at hs
 have c1 : (0 : Int) ≤ ↑i := by omega
 have c2 : (↑i : Int) ≤ ↑s.size := by omega
 have c3 : (0 : Int) ≤ ↑i + 1 := by omega
 have c4 : (↑i + 1 : Int) ≤ ↑s.size := by omega
 go_enter Tryz.func228, Tryz.ntmps228
 go_wp2_with (go_at_call 230; refine (index_any _ _).mono ?_; rintro e w' ⟨rfl, rfl⟩; rw [h])
 go_region
 go_wp2
 go_ret3
 exact ⟨rfl, rfl⟩
theorem cut_none (s : ByteArray) (w : World) (h : Lib.indexByte s.data.toList 46 = -1) :
 Calls Tryz.prog 215 #[.string s, .string ⟨#[46]⟩] w fun e w' => e = .returned (.tuple #[.string s, .string ⟨#[]⟩, .bool false]) ∧ w' = w := by
 go_enter Tryz.func215, Tryz.ntmps215
 go_wp2_with (go_at_call 228; refine (cutl_none _ _ h).mono ?_; rintro e w' ⟨rfl, rfl⟩)
 go_ret3
 exact ⟨rfl, rfl⟩
theorem cut_some (s : ByteArray) (i : Nat) (w : World) (h : Lib.indexByte s.data.toList 46 = i) (hi : i < s.size) (hs : s.size ≤ maxLen) :
 Calls Tryz.prog 215 #[.string s, .string ⟨#[46]⟩] w fun e w' => e = .returned (.tuple #[.string (s.extract 0 i), .string (s.extract (i + 1) s.size), .bool true]) ∧ w' = w.drewN 1 := by
 go_enter Tryz.func215, Tryz.ntmps215
 go_wp2_with (go_at_call 228; refine (cutl_some _ i _ h hi hs).mono ?_; rintro e w' ⟨rfl, rfl⟩)
 go_ret3
 exact ⟨rfl, rfl⟩
theorem ret_bool {a b : Bool} (h : a = b) : Ending.returned (.bool a) = .returned (.bool b) := by rw [h]
theorem take_snoc (s : ByteArray) (k : Nat) (h : k < s.size) : s.data.toList.take (k + 1) = s.data.toList.take k ++ [s[k]] := by
 rw [List.take_succ_eq_append_getElem (by simpa using h)]; rfl
theorem wch_yes {c : UInt8} (h : 97 ≤ (c.toNat : Int) ∧ (c.toNat : Int) ≤ 122 ∨ 48 ≤ (c.toNat : Int) ∧ (c.toNat : Int) ≤ 57) : wch c = true := by
 unfold wch; rw [decide_eq_true_iff]; omega
theorem wch_no {c : UInt8} (h : ¬ (97 ≤ (c.toNat : Int) ∧ (c.toNat : Int) ≤ 122 ∨ 48 ≤ (c.toNat : Int) ∧ (c.toNat : Int) ≤ 57)) : wch c = false := by
 unfold wch; rw [decide_eq_false_iff_not]; omega
theorem all_take (s : ByteArray) (k : Nat) (h : k < s.size) (ha : (s.data.toList.take k).all wch = true) (hc : wch s[k] = true) : (s.data.toList.take (k + 1)).all wch = true := by
 rw [take_snoc s k h, List.all_append, ha]; simp [hc]
theorem not_all (s : ByteArray) (k : Nat) (h : k < s.size) (hc : wch s[k] = false) : isW s.data.toList = false := by
 have : s.data.toList.all wch = false := by
  rw [List.all_eq_false]
  exact ⟨s[k], by show s.data[k] ∈ _; simp, by simp [hc]⟩
 simp [isW, this]
theorem all_whole (s : ByteArray) (k : Nat) (h : ¬ k < s.size) : (s.data.toList.take k).all wch = s.data.toList.all wch := by
 rw [List.take_of_length_le (by simp; omega)]
theorem plain_any (s : ByteArray) (w : World) (hs : s.size ≤ maxLen) :
 Calls Tryz.prog 188 #[.string s] w fun e w' => e = .returned (.bool (isW s.data.toList)) ∧ w' = w := by
 unfold maxLen at hs
 go_enter Tryz.func188, Tryz.ntmps188
 go_wp2
 go_loop [7] (fun i => ∃ k : Nat, k ≤ s.size ∧ i = .int .i64 k ∧ (s.data.toList.take k).all wch = true) (fun i => s.size - (intOf i).toNat)
 case atStart => exact ⟨0, Nat.zero_le _, rfl, rfl⟩
 case round =>
  obtain ⟨k, hk, rfl, ha⟩ := hrel
  have HA : Hid ((s.data.toList.take k).all wch = true) := ha; clear ha
  by_cases hlt : k < s.size
  ·go_wp2
   all_goals first
    | (go_ret; exact ⟨ret_bool (not_all s k hlt (wch_no (by omega))).symm, rfl⟩)
    | exact ⟨⟨k + 1, by omega, by go_num, all_take s k hlt HA.out (wch_yes (by omega))⟩, by simp [intOf]; omega⟩
  ·go_wp2
   go_ret
   exact ⟨ret_bool (by rw [isW, ← all_whole s k hlt, HA.out, ← Lib.toList_data]; simp), rfl⟩
theorem patlit_any (s : ByteArray) (w : World) (hs : s.size ≤ maxLen) :
 Calls Tryz.prog 211 #[.string s] w fun e w' => e = .returned (.bool (isP s.data.toList)) ∧ w' = w := by
 go_enter Tryz.func211, Tryz.ntmps211
 go_wp2_with (go_at_call 188; refine (plain_any _ _ hs).mono ?_; rintro e w' ⟨rfl, rfl⟩)
 all_goals (go_ret; exact ⟨ret_bool (by simp_all [isP, ← Lib.toList_data]), rfl⟩)
end Go.Proofs.YtpoichgodamnkaaGreat
namespace Go.Proofs.YtpoichgodamnkaaGreat
open Go.RowKit Go.Shelf
set_option linter.unusedVariables false
set_option maxRecDepth 100000
set_option maxHeartbeats 1000000
attribute [local go_sem] Oper.semAt_some
theorem cell_of_box_l {W : World} {B : Nat} {v : Value} {t : TypeId} (h : W.heap[B]? = some (.cells #[v] t (0, 0))) : W.cell? ⟨B, 0, none⟩ = some v ∧ W.frozen? ⟨B, 0, none⟩ = false := by
 constructor <;> simp [World.cell?, World.frozen?, h]
theorem cell_new_l (W : World) (v : Value) (t : TypeId) : (W.alloc (.cells #[v] t)).cell? ⟨W.heap.size, 0, none⟩ = some v ∧ (W.alloc (.cells #[v] t)).frozen? ⟨W.heap.size, 0, none⟩ = false :=
 cell_of_box_l (World.alloc_heap_new W _)
theorem cell_alloc_l {W : World} {a : Addr} {v : Value} (o : Obj) (h : W.cell? a = some v) : (W.alloc o).cell? a = some v := cell_kept h (World.grownBy_alloc W o none) (fun r e => by cases e)
theorem frozen_alloc_l {W : World} {a : Addr} {v : Value} (o : Obj) (h : W.cell? a = some v) (hf : W.frozen? a = false) : (W.alloc o).frozen? a = false := (frozen_kept h (World.grownBy_alloc W o none) (fun r e => by cases e)).trans hf
theorem grown_drewN (w : World) (n : Nat) (row : Option Nat) : w.grownBy (w.drewN n) row := ⟨rfl, rfl, rfl, Nat.le_refl _, fun _ _ _ => rfl⟩
abbrev WB := { x : ByteArray // x.size ≤ maxLen }
def wlB (l : List UInt8) : List ByteArray := (wsplit l).map (fun x => ⟨x.toArray⟩)
def strLen : Value → Nat | .string x => x.size | _ => 0
def boolNat : Value → Nat | .bool true => 1 | _ => 0
theorem wlB_none (r : ByteArray) (h : wsplit r.data.toList = [r.data.toList]) : wlB r.data.toList = [r] := by
 simp [wlB, h]
theorem wlB_some (r : ByteArray) (i : Nat) (hi : i < r.size) (h : wsplit r.data.toList = r.data.toList.take i :: wsplit (r.data.toList.drop (i + 1))) :
 wlB r.data.toList = r.extract 0 i :: wlB (r.extract (i + 1) r.size).data.toList := by
 have e1 : r.extract 0 i = ⟨(r.data.toList.take i).toArray⟩ := by rw [Lib.extract_eq]; simp
 have e2 : (r.extract (i + 1) r.size).data.toList = r.data.toList.drop (i + 1) := by
  rw [Lib.extract_data]; exact List.take_of_length_le (by simp)
 rw [e1, e2, wlB, h]; rfl
theorem each1_in (n : Nat) (hn : 1 ≤ n) (l Bn : Nat) (s : ByteArray) (hs : s.size ≤ maxLen) (J Jx : List WB → World → Prop) (W : World)
 (hJ : AbidesFrom W.heap.size J)
 (hY : ∀ pre x W1, J pre W1 → pre.length < (wlB s.data.toList).length → YieldAt Fence.wide (n - 1) Tryz.prog l #[.string x.1] W1 fun e W' =>
  (e = .returned (.bool true) ∧ J (pre ++ [x]) W' ∧ True) ∨ (e = .returned (.bool false) ∧ Jx (pre ++ [x]) W'))
 (hBn : W.cell? ⟨Bn, 0, none⟩ = some (.string s)) (h0 : J [] W) :
 CallsIn Fence.wide n Tryz.prog 214 #[.func (.yield l) #[] #[], .pointer (some ⟨Bn, 0, none⟩)] W fun e W' => (∃ v, e = .returned v) ∧
  ((∃ ys, List.map (fun x : WB => x.1) ys = wlB s.data.toList ∧ J ys W') ∨ (∃ pre, List.map (fun x : WB => x.1) pre <+: wlB s.data.toList ∧ Jx pre W')) := by
 refine callsIn_of_wp Tryz.func214 rfl trivial ?_ rfl
 simp only [Tryz.ntmps214, List.size_toArray, List.length_cons, List.length_nil, Nat.reduceAdd, Nat.reduceSub, Array.replicate_succ, Array.replicate_zero, List.push_toArray, List.append_toArray, List.nil_append, List.cons_append]
 gi_wp2
 gi_loopw [3, 4] (fun rv mv wr => ∃ (pre : List WB) (r : ByteArray) (m : Bool), rv = .string r ∧ mv = .bool m ∧ r.size ≤ maxLen ∧ (if m then wlB s.data.toList = List.map (fun x : WB => x.1) pre ++ wlB r.data.toList else wlB s.data.toList = List.map (fun x : WB => x.1) pre) ∧ J pre wr)
  (fun rv mv _ => boolNat mv * (strLen rv + 1))
 case atStart =>
  exact ⟨[], s, true, rfl, rfl, hs, by simp, h0⟩
 case round =>
  obtain ⟨pre, r, m, rfl, rfl, hr, hx, hJs⟩ := hrel
  cases m with
  | false =>
    gi_wp2
    go_end0
    exact ⟨⟨_, rfl⟩, .inl ⟨pre, by simpa using hx.symm, hJs⟩⟩
  | true =>
    simp only [if_true] at hx
    rcases indexByte_cases r.data.toList with ⟨h1, h2⟩ | ⟨i, h1, h2, h3⟩
    ·have hw1 := wlB_none r h2
     rw [hw1] at hx
     have HX : Hid (wlB s.data.toList = List.map (fun x : WB => x.1) pre ++ [r]) := hx
     have hlen : pre.length < (wlB s.data.toList).length := by rw [hx]; simp
     obtain ⟨fn, tmps, assign, body, hy, hR⟩ := hY pre ⟨r, hr⟩ wr hJs hlen
     dsimp only at hy
     clear hx hw1 h2
     gi_wp2_with (refine ⟨trivial, ?_⟩; gi_at_call 215; refine (callsIn_wide.2 (cut_none r _ h1)).mono ?_; rintro e w' ⟨rfl, rfl⟩)
     refine hR.mono ?_
     rintro e W3 (⟨rfl, hJ3, _⟩ | ⟨rfl, hJx3⟩)
     ·gi_wp2
      go_roundw
      case rel => exact ⟨pre ++ [⟨r, hr⟩], ⟨#[]⟩, false, rfl, rfl, Nat.zero_le _, by simpa using HX.out, hJ3⟩
      case measure => simp [boolNat, strLen]
     ·gi_wp2
      refine bodyPost_ret (results_none rfl _ _ _) rfl ?_
      exact ⟨⟨_, rfl⟩, .inr ⟨pre ++ [⟨r, hr⟩], by rw [HX.out]; simp, hJx3⟩⟩
    ·have hi : i < r.size := by simpa using h2
     have hw1 := wlB_some r i hi h3
     rw [hw1] at hx
     have HX : Hid (wlB s.data.toList = List.map (fun x : WB => x.1) pre ++ r.extract 0 i :: wlB (r.extract (i + 1) r.size).data.toList) := hx
     have hlen : pre.length < (wlB s.data.toList).length := by rw [hx]; simp
     have he1 : (r.extract 0 i).size ≤ maxLen := by rw [ByteArray.size_extract]; omega
     have he2 : (r.extract (i + 1) r.size).size ≤ maxLen := by rw [ByteArray.size_extract]; omega
     have he3 : (r.extract (i + 1) r.size).size < r.size := by rw [ByteArray.size_extract]; omega
     have hJd : J pre (wr.drewN 1) := hJ pre wr _ none hJs (grown_drewN _ _ _) (fun r e => by cases e)
     obtain ⟨fn, tmps, assign, body, hy, hR⟩ := hY pre ⟨r.extract 0 i, he1⟩ (wr.drewN 1) hJd hlen
     dsimp only at hy
     have HE : Hid ((r.extract (i + 1) r.size).size < r.size ∧ (r.extract (i + 1) r.size).size ≤ maxLen) := ⟨he3, he2⟩
     clear hx hw1 h2 h3 he2 he3
     gi_wp2_with (refine ⟨trivial, ?_⟩; gi_at_call 215; refine (callsIn_wide.2 (cut_some r i _ h1 hi hr)).mono ?_; rintro e w' ⟨rfl, rfl⟩)
     refine hR.mono ?_
     rintro e W3 (⟨rfl, hJ3, _⟩ | ⟨rfl, hJx3⟩)
     ·gi_wp2
      go_roundw
      case rel => exact ⟨pre ++ [⟨r.extract 0 i, he1⟩], r.extract (i + 1) r.size, true, rfl, rfl, HE.out.2, by simpa using HX.out, hJ3⟩
      case measure => have := HE.out.1; simp only [boolNat, strLen]; omega
     ·gi_wp2
      refine bodyPost_ret (results_none rfl _ _ _) rfl ?_
      exact ⟨⟨_, rfl⟩, .inr ⟨pre ++ [⟨r.extract 0 i, he1⟩], by rw [HX.out]; simp, hJx3⟩⟩
theorem each_in (n : Nat) (s : ByteArray) (w : World) :
 CallsIn Fence.wide n Tryz.prog 189 #[.string s] w fun e w' => e = .returned (.func (.func 214) #[] #[.pointer (some ⟨w.heap.size, 0, none⟩)]) ∧ w' = w.alloc (.cells #[.string s] 9) := by
 refine callsIn_of_wp Tryz.func189 rfl trivial ?_ rfl
 simp only [Tryz.ntmps189, List.size_toArray, List.length_cons, List.length_nil, Nat.reduceAdd, Nat.reduceSub, Array.replicate_succ, Array.replicate_zero, List.push_toArray, List.append_toArray, List.nil_append, List.cons_append]
 gi_wp2
 go_ret
 exact ⟨rfl, rfl⟩
theorem each_stops (n : Nat) (hn : 1 ≤ n) (Bn : Nat) (s : ByteArray) (hs : s.size ≤ maxLen) (w : World) (hBn : Bn < w.heap.size) (hc : w.cell? ⟨Bn, 0, none⟩ = some (.string s)) :
 SeqStopsK Fence.wide n Tryz.prog 214 #[.pointer (some ⟨Bn, 0, none⟩)] (fun x : WB => #[Value.string x.1]) (fun _ _ => True) (fun ys => ys.map (fun x : WB => x.1) = wlB s.data.toList) (fun pre => pre.map (fun x : WB => x.1) <+: wlB s.data.toList) (wlB s.data.toList).length w := fun l J Jx W hW hJ _ hY h0 =>
 each1_in n hn l Bn s hs J Jx W hJ hY ((hW.cell (p := ⟨Bn, 0, none⟩) hBn).trans hc) h0
end Go.Proofs.YtpoichgodamnkaaGreat
namespace Go.Proofs.YtpoichgodamnkaaGreat
set_option linter.unusedVariables false
set_option maxRecDepth 100000
def laidB (ps ks : List ByteArray) : Bool := laidL (ps.map (fun x => x.data.toList)) (ks.map (fun x => x.data.toList))
theorem laidB_nil (ks : List ByteArray) : laidB [] ks = ks.isEmpty := by simp [laidB, laidL]
theorem laidB_hash {x : ByteArray} (h : x.data.toList = [35]) (ps ks : List ByteArray) : laidB (x :: ps) ks = (List.range (ks.length + 1)).any (fun n => laidB ps (ks.drop n)) := by
 simp [laidB, laidL, h, List.map_drop]
theorem laidB_none {x : ByteArray} (h : x.data.toList ≠ [35]) (ps : List ByteArray) : laidB (x :: ps) [] = false := by
 simp [laidB, laidL, h]
theorem laidB_cons {x : ByteArray} (h : x.data.toList ≠ [35]) (ps : List ByteArray) (y : ByteArray) (ks : List ByteArray) :
 laidB (x :: ps) (y :: ks) = ((x.data.toList == [42] || x.data.toList == y.data.toList) && laidB ps ks) := by
 simp [laidB, laidL, h]
theorem laidB_any {x : ByteArray} (h : x.data.toList = [35]) {ps ks : List ByteArray} {k : Nat} (hk : k ≤ ks.length) (hl : laidB ps (ks.drop k) = true) : laidB (x :: ps) ks = true := by
 rw [laidB_hash h, List.any_eq_true]; exact ⟨k, by simp; omega, hl⟩
theorem laidB_snoc_hash {x : ByteArray} (h : x.data.toList = [35]) : ∀ (ps ks : List ByteArray), laidB (ps ++ [x]) ks = (List.range (ks.length + 1)).any (fun n => laidB ps (ks.take n))
 | [], ks => by
   rw [List.nil_append, laidB_hash h, Bool.eq_iff_iff, List.any_eq_true, List.any_eq_true]
   constructor
   ·intro _; exact ⟨0, by simp, by simp [laidB_nil]⟩
   ·intro _; exact ⟨ks.length, by simp, by simp [laidB_nil]⟩
 | p :: ps, ks => by
   by_cases hp : p.data.toList = [35]
   ·rw [List.cons_append, laidB_hash hp, Bool.eq_iff_iff, List.any_eq_true, List.any_eq_true]
    constructor
    ·rintro ⟨n, hn, hl⟩
     rw [laidB_snoc_hash h, List.any_eq_true] at hl
     obtain ⟨m, hm, hl⟩ := hl
     simp at hn hm
     refine ⟨n + m, by simp; omega, ?_⟩
     refine laidB_any hp (k := n) (by simp; omega) ?_
     rw [List.drop_take, show n + m - n = m from by omega]; exact hl
    ·rintro ⟨n, hn, hl⟩
     rw [laidB_hash hp, List.any_eq_true] at hl
     obtain ⟨m, hm, hl⟩ := hl
     simp at hn hm
     refine ⟨m, by simp; omega, ?_⟩
     rw [laidB_snoc_hash h, List.any_eq_true]
     refine ⟨n - m, by simp; omega, ?_⟩
     rw [List.drop_take] at hl; exact hl
   ·cases ks with
    | nil => rw [List.cons_append, laidB_none hp]; simp [laidB_none hp]
    | cons k ks =>
      rw [List.cons_append, laidB_cons hp, laidB_snoc_hash h, Bool.eq_iff_iff, Bool.and_eq_true, List.any_eq_true, List.any_eq_true]
      constructor
      ·rintro ⟨h1, n, hn, hl⟩
       simp at hn
       exact ⟨n + 1, by simp; omega, by rw [List.take_succ_cons, laidB_cons hp, h1, hl]; rfl⟩
      ·rintro ⟨n, hn, hl⟩
       cases n with
       | zero => rw [List.take_zero, laidB_none hp] at hl; cases hl
       | succ n =>
         rw [List.take_succ_cons, laidB_cons hp, Bool.and_eq_true] at hl
         simp at hn
         exact ⟨hl.1, n, by simp; omega, hl.2⟩
theorem laidB_snoc_nil {x : ByteArray} (h : x.data.toList ≠ [35]) : ∀ (ps : List ByteArray), laidB (ps ++ [x]) [] = false
 | [] => laidB_none h []
 | p :: ps => by
   by_cases hp : p.data.toList = [35]
   ·rw [List.cons_append, laidB_hash hp]; simp [laidB_snoc_nil h ps]
   ·exact laidB_none hp _
theorem laidB_snoc {x : ByteArray} (h : x.data.toList ≠ [35]) : ∀ (ps ks : List ByteArray) (y : ByteArray),
 laidB (ps ++ [x]) (ks ++ [y]) = (laidB ps ks && (x.data.toList == [42] || x.data.toList == y.data.toList))
 | [], [], y => by rw [List.nil_append, List.nil_append, laidB_cons h, laidB_nil]; simp
 | [], k :: ks, y => by rw [List.nil_append, List.cons_append, laidB_cons h, laidB_nil, laidB_nil]; simp
 | p :: ps, ks, y => by
   by_cases hp : p.data.toList = [35]
   ·rw [List.cons_append, laidB_hash hp, laidB_hash hp, List.length_append, List.length_singleton, List.range_succ, List.any_append]
    have e : ∀ n ∈ List.range (ks.length + 1), laidB (ps ++ [x]) ((ks ++ [y]).drop n) = (laidB ps (ks.drop n) && (x.data.toList == [42] || x.data.toList == y.data.toList)) := by
     intro n hn
     simp at hn
     rw [List.drop_append_of_le_length (by omega), laidB_snoc h]
    have e2 : (ks ++ [y]).drop (ks.length + 1) = [] := List.drop_eq_nil_of_le (by simp)
    simp only [List.any_cons, List.any_nil, e2, laidB_snoc_nil h, Bool.or_false]
    rw [Bool.eq_iff_iff, List.any_eq_true, Bool.and_eq_true, List.any_eq_true]
    constructor
    ·rintro ⟨n, hn, hl⟩
     rw [e n hn, Bool.and_eq_true] at hl
     exact ⟨⟨n, hn, hl.1⟩, hl.2⟩
    ·rintro ⟨⟨n, hn, hl⟩, h2⟩
     exact ⟨n, hn, by rw [e n hn, hl, h2]; rfl⟩
   ·cases ks with
    | nil =>
      rw [List.cons_append, List.nil_append, laidB_cons hp, laidB_snoc_nil h, laidB_none hp]; simp
    | cons k ks =>
      rw [List.cons_append, List.cons_append, laidB_cons hp, laidB_cons hp, laidB_snoc h, Bool.and_assoc]
end Go.Proofs.YtpoichgodamnkaaGreat
namespace Go.Proofs.YtpoichgodamnkaaGreat
open Go.RowKit Go.Shelf
set_option linter.unusedVariables false
set_option maxRecDepth 100000
set_option maxHeartbeats 2000000
attribute [local go_sem] Oper.semAt_some
theorem werr_len {right : List UInt8 → Bool} {l : List UInt8} (h : 24 < l.length) : werr right l = 2 := by unfold werr; rw [if_pos (.inl h)]
theorem werr_many {right : List UInt8 → Bool} {l : List UInt8} (h : 6 ≤ Lib.countByte l 46) : werr right l = 2 := by unfold werr; rw [if_pos (.inr (by rw [wsplit_length]; omega))]
theorem wlB_list (l : List UInt8) : (wlB l).map (fun x => x.data.toList) = wsplit l := by simp [wlB, Function.comp_def]
theorem werr_words {right : List UInt8 → Bool} {l : List UInt8} (h1 : l.length ≤ 24) (h2 : Lib.countByte l 46 < 6) (h : ∀ x ∈ wlB l, right x.data.toList = true) : werr right l = 0 := by
 unfold werr; rw [if_neg (by rw [wsplit_length]; omega), if_pos]
 rw [List.all_eq_true, ← wlB_list]; intro x hx
 obtain ⟨y, hy, rfl⟩ := List.mem_map.1 hx
 exact h y hy
theorem werr_form {right : List UInt8 → Bool} {l : List UInt8} (h1 : l.length ≤ 24) (h2 : Lib.countByte l 46 < 6) {x : ByteArray} (hx : x ∈ wlB l) (h : right x.data.toList = false) : werr right l = 1 := by
 unfold werr; rw [if_neg (by rw [wsplit_length]; omega), if_neg]
 rw [List.all_eq_true, ← wlB_list]; intro hh
 have := hh _ (List.mem_map.2 ⟨x, hx, rfl⟩)
 rw [h] at this; cases this
theorem ret_int {k : IntKind} {a b : Int} (h : a = b) : Ending.returned (.int k a) = .returned (.int k b) := by rw [h]
theorem check_key_len (s : ByteArray) (w : World) (h : 24 < s.size) :
 Calls Tryz.prog 187 #[.string s, .func (.func 188) #[] #[]] w fun e w' => e = .returned (.int .i64 (werr isW s.data.toList)) ∧ Below w.heap.size w w' := by
 rw [werr_len (by simpa using h)]
 have h' : (24 : Int) < s.size := by omega
 go_enter Tryz.func187, Tryz.ntmps187
 go_wp2
 exact bodyPost_ret (v := .int .i64 2) (by simp [results, Tryz.results187, go_sem]) rfl ⟨rfl, (by repeat (first | exact Below.refl _ _ | assumption | refine Below.drew ?_ | refine Below.alloc ?_ (by first | (simp; done) | (simp; omega) | omega) _ | refine Below.setCell ?_ (by first | (simp; done) | (simp; omega) | omega) _))⟩
theorem check_key_many (s : ByteArray) (w : World) (h : s.size ≤ 24) (hc : 6 ≤ Lib.countByte s.data.toList 46) :
 Calls Tryz.prog 187 #[.string s, .func (.func 188) #[] #[]] w fun e w' => e = .returned (.int .i64 (werr isW s.data.toList)) ∧ Below w.heap.size w w' := by
 rw [werr_many hc]
 have h' : ¬ (24 : Int) < s.size := by omega
 have hc' : (6 : Int) ≤ Lib.countByte s.data.toList 46 := by omega
 go_enter Tryz.func187, Tryz.ntmps187
 go_wp2_with (go_at_call 213; refine (count_any _ _).mono ?_; rintro e w' ⟨rfl, rfl⟩)
 exact bodyPost_ret (v := .int .i64 2) (by simp [results, Tryz.results187, go_sem]) rfl ⟨rfl, (by repeat (first | exact Below.refl _ _ | assumption | refine Below.drew ?_ | refine Below.alloc ?_ (by first | (simp; done) | (simp; omega) | omega) _ | refine Below.setCell ?_ (by first | (simp; done) | (simp; omega) | omega) _))⟩
theorem check_key_words (s : ByteArray) (w : World) (h : s.size ≤ 24) (hc : Lib.countByte s.data.toList 46 < 6) :
 CallsIn Fence.wide 5 Tryz.prog 187 #[.string s, .func (.func 188) #[] #[]] w fun e w' => e = .returned (.int .i64 (werr isW s.data.toList)) ∧ Below w.heap.size w w' := by
 have h' : ¬ (24 : Int) < s.size := by omega
 have hc' : decide ((6 : Int) ≤ Lib.countByte s.data.toList 46) = false := by simp; omega
 have hm : s.size ≤ maxLen := by unfold maxLen; omega
 have hl : s.data.toList.length ≤ 24 := by simpa using h
 refine callsIn_of_wp_marks Tryz.func187 rfl trivial ?_ rfl
 simp only [Tryz.ntmps187, List.size_toArray, List.length_cons, List.length_nil, Nat.reduceAdd, Nat.reduceSub, Array.replicate_succ, Array.replicate_zero, List.push_toArray, List.append_toArray, List.nil_append, List.cons_append]
 gi_wp2_with (first
  | (refine ⟨trivial, ?_⟩; gi_at_call 213; refine (callsIn_wide.2 (count_any _ _)).mono ?_; rintro e w' ⟨rfl, rfl⟩)
  | (refine ⟨trivial, ?_⟩; gi_at_call 189; refine (each_in _ _ _).mono ?_; rintro e w' ⟨rfl, rfl⟩))
 have c0 := cell_new_l w (.func (.func 188) #[] #[]) 154
 have c1 := cell_new_l (w.alloc (.cells #[.func (.func 188) #[] #[]] 154)) (.int .i64 0) 33
 have c2 := cell_new_l ((w.alloc (.cells #[.func (.func 188) #[] #[]] 154)).alloc (.cells #[.int .i64 0] 33)) (.string s) 9
 simp only [World.size_alloc] at c1 c2
 have hB0 : Below w.heap.size w (((w.alloc (.cells #[.func (.func 188) #[] #[]] 154)).alloc (.cells #[.int .i64 0] 33)).alloc (.cells #[.string s] 9)) := (by repeat (first | exact Below.refl _ _ | assumption | refine Below.drew ?_ | refine Below.alloc ?_ (by first | (simp; done) | (simp; omega) | omega) _ | refine Below.setCell ?_ (by first | (simp; done) | (simp; omega) | omega) _))
 refine wpIn_rangeFunc_ownF rfl (by omega) (gf := 214) (lb := #[.pointer (some ⟨w.heap.size + 1 + 1, 0, none⟩)]) rfl trivial (enters_of Tryz.func214 (by kernel_rfl) rfl)
  (each_stops 4 (by omega) (w.heap.size + 1 + 1) s hm _ (by simp) c2.1) (fun _ _ => trivial) (fun _ _ _ _ _ _ _ _ => trivial) (Below.refl _ _) (fun _ => rfl)
  (fun pre W => ((∀ y ∈ pre, isW y.1.data.toList = true) ∧ W.cell? ⟨w.heap.size, 0, none⟩ = some (.func (.func 188) #[] #[]) ∧ W.cell? ⟨w.heap.size + 1, 0, none⟩ = some (.int .i64 0) ∧ W.frozen? ⟨w.heap.size + 1, 0, none⟩ = false) ∧ Below w.heap.size w W)
  (fun c pre W => (c = .ret ∧ (∃ y ∈ pre, isW y.1.data.toList = false) ∧ W.cell? ⟨w.heap.size + 1, 0, none⟩ = some (.int .i64 1)) ∧ Below w.heap.size w W)
  (OwnFrom.and (Own.from (fun s A B row hs hg hr => ⟨hs.1, cell_kept hs.2.1 hg hr, cell_kept hs.2.2.1 hg hr, (frozen_kept hs.2.2.1 hg hr).trans hs.2.2.2⟩) _) (ownFrom_below (Nat.le_refl _) (by simp; omega)))
  (fun c => OwnFrom.and (Own.from (fun s A B row hs hg hr => ⟨hs.1, hs.2.1, cell_kept hs.2.2 hg hr⟩) _) (ownFrom_below (Nat.le_refl _) (by simp; omega)))
  ⟨⟨by simp, cell_alloc_l _ (cell_alloc_l _ c0.1), cell_alloc_l _ c1.1, frozen_alloc_l _ c1.1 c1.2⟩, hB0⟩
  (fun x => { tmps := #[.string s, .func (.func 188) #[] #[], undef, .pointer (some ⟨w.heap.size, 0, none⟩), .pointer (some ⟨w.heap.size + 1, 0, none⟩), .string x.1, .string s, .int .i64 s.size, .bool false, .bool false, .string s, .int .i64 (Lib.countByte s.data.toList 46), .bool false, .bool false, .string s, .func (.func 214) #[] #[.pointer (some ⟨w.heap.size + 1 + 1, 0, none⟩)], .string x.1, undef, undef, undef, undef], defers := [] }) ?assign ?body ?done ?stop
 case assign =>
  intro l x W K hK
  gi_wp2
  exact hK
 case body =>
  rintro l pre x W ⟨⟨hp, hcf, hcr, hfr⟩, hB⟩ _
  cases hx : isW x.1.data.toList with
  | false =>
    have HX : Hid (isW x.1.data.toList = false) := hx
    clear hp
    gi_wp2_with (refine ⟨trivial, ?_⟩; gi_at_call 188; refine (CallsIn.inRound l (callsIn_wide.2 (plain_any _ _ x.2))).mono ?_; rintro e w' ⟨rfl, rfl⟩)
    exact ⟨KeepsOthers.setCell _ _ _, ⟨rfl, ⟨x, by simp, HX.out⟩, World.cell?_setCell_same' _ _ _ (by rw [hcr]; rfl)⟩, hB.setCell (p := ⟨w.heap.size + 1, 0, none⟩) (by simp) _⟩
  | true =>
    have HP : Hid (∀ y ∈ pre ++ [x], isW y.1.data.toList = true) := fun y hy => (List.mem_append.1 hy).elim (hp y) (fun e => by simp at e; subst e; exact hx)
    clear hp
    gi_wp2_with (refine ⟨trivial, ?_⟩; gi_at_call 188; refine (CallsIn.inRound l (callsIn_wide.2 (plain_any _ _ x.2))).mono ?_; rintro e w' ⟨rfl, rfl⟩)
    exact ⟨KeepsOthers.refl _, trivial, ⟨HP.out, hcf, hcr, hfr⟩, hB⟩
 case done =>
  rintro D ys W hD hys ⟨⟨hp, _, hcr, hfr⟩, hB⟩ hK
  have HF : Hid (werr isW s.data.toList = 0) := werr_words hl hc (fun x hx => by rw [← hys] at hx; obtain ⟨y, hy, rfl⟩ := List.mem_map.1 hx; exact hp y hy)
  clear hp hys
  gi_wp2
  have hK' := (KeepsOthers.setCell W ⟨w.heap.size + 1, 0, none⟩ (.int .i64 0)).same D _ hK rfl
  refine ⟨by simp, .inl ⟨_, _, rfl, run_takeDeferred hK', ?_⟩⟩
  have hc5 := cell_kept (World.cell?_setCell_same' W ⟨w.heap.size + 1, 0, none⟩ (.int .i64 0) (by rw [hcr]; rfl)) (grownBy_putObj' _ D (.deferred none)) (fun r e => by cases e; exact ⟨_, hK', rfl⟩)
  refine ⟨.int .i64 0, ?_, by rw [HF.out], (hB.setCell (p := ⟨w.heap.size + 1, 0, none⟩) (by simp) _).trans (belowK_b (w := w) (Nat.le_refl _) _ D _ _ (by simp at hD; omega) hK' rfl rfl)⟩
  simp [results, Tryz.results187, go_sem, hc5]
 case stop =>
  rintro D c pre W hD hpre ⟨⟨rfl, ⟨y, hy, hyr⟩, hcr⟩, hB⟩ hK
  have HF : Hid (werr isW s.data.toList = 1) := werr_form hl hc (hpre.subset (List.mem_map.2 ⟨y, hy, rfl⟩)) hyr
  clear hyr hpre
  gi_wp2
  refine ⟨by simp, .inl ⟨_, _, rfl, run_takeDeferred hK, ?_⟩⟩
  have hc5 := cell_kept hcr (grownBy_putObj' _ D (.deferred none)) (fun r e => by cases e; exact ⟨_, hK, rfl⟩)
  refine ⟨.int .i64 1, ?_, by rw [HF.out], hB.trans (belowK_b (w := w) (Nat.le_refl _) W D _ _ (by simp at hD; omega) hK rfl rfl)⟩
  simp [results, Tryz.results187, go_sem, hc5]
theorem check_key (s : ByteArray) (w : World) :
 Calls Tryz.prog 187 #[.string s, .func (.func 188) #[] #[]] w fun e w' => e = .returned (.int .i64 (werr isW s.data.toList)) ∧ Below w.heap.size w w' := by
 by_cases h : 24 < s.size
 ·exact check_key_len s w h
 ·by_cases hc : 6 ≤ Lib.countByte s.data.toList 46
  ·exact check_key_many s w (by omega) hc
  ·exact callsIn_wide.1 (check_key_words s w (by omega) (by omega))
theorem check_pat_len (s : ByteArray) (w : World) (h : 24 < s.size) :
 Calls Tryz.prog 187 #[.string s, .func (.func 211) #[] #[]] w fun e w' => e = .returned (.int .i64 (werr isP s.data.toList)) ∧ Below w.heap.size w w' := by
 rw [werr_len (by simpa using h)]
 have h' : (24 : Int) < s.size := by omega
 go_enter Tryz.func187, Tryz.ntmps187
 go_wp2
 exact bodyPost_ret (v := .int .i64 2) (by simp [results, Tryz.results187, go_sem]) rfl ⟨rfl, (by repeat (first | exact Below.refl _ _ | assumption | refine Below.drew ?_ | refine Below.alloc ?_ (by first | (simp; done) | (simp; omega) | omega) _ | refine Below.setCell ?_ (by first | (simp; done) | (simp; omega) | omega) _))⟩
theorem check_pat_many (s : ByteArray) (w : World) (h : s.size ≤ 24) (hc : 6 ≤ Lib.countByte s.data.toList 46) :
 Calls Tryz.prog 187 #[.string s, .func (.func 211) #[] #[]] w fun e w' => e = .returned (.int .i64 (werr isP s.data.toList)) ∧ Below w.heap.size w w' := by
 rw [werr_many hc]
 have h' : ¬ (24 : Int) < s.size := by omega
 have hc' : (6 : Int) ≤ Lib.countByte s.data.toList 46 := by omega
 go_enter Tryz.func187, Tryz.ntmps187
 go_wp2_with (go_at_call 213; refine (count_any _ _).mono ?_; rintro e w' ⟨rfl, rfl⟩)
 exact bodyPost_ret (v := .int .i64 2) (by simp [results, Tryz.results187, go_sem]) rfl ⟨rfl, (by repeat (first | exact Below.refl _ _ | assumption | refine Below.drew ?_ | refine Below.alloc ?_ (by first | (simp; done) | (simp; omega) | omega) _ | refine Below.setCell ?_ (by first | (simp; done) | (simp; omega) | omega) _))⟩
theorem check_pat_words (s : ByteArray) (w : World) (h : s.size ≤ 24) (hc : Lib.countByte s.data.toList 46 < 6) :
 CallsIn Fence.wide 5 Tryz.prog 187 #[.string s, .func (.func 211) #[] #[]] w fun e w' => e = .returned (.int .i64 (werr isP s.data.toList)) ∧ Below w.heap.size w w' := by
 have h' : ¬ (24 : Int) < s.size := by omega
 have hc' : decide ((6 : Int) ≤ Lib.countByte s.data.toList 46) = false := by simp; omega
 have hm : s.size ≤ maxLen := by unfold maxLen; omega
 have hl : s.data.toList.length ≤ 24 := by simpa using h
 refine callsIn_of_wp_marks Tryz.func187 rfl trivial ?_ rfl
 simp only [Tryz.ntmps187, List.size_toArray, List.length_cons, List.length_nil, Nat.reduceAdd, Nat.reduceSub, Array.replicate_succ, Array.replicate_zero, List.push_toArray, List.append_toArray, List.nil_append, List.cons_append]
 gi_wp2_with (first
  | (refine ⟨trivial, ?_⟩; gi_at_call 213; refine (callsIn_wide.2 (count_any _ _)).mono ?_; rintro e w' ⟨rfl, rfl⟩)
  | (refine ⟨trivial, ?_⟩; gi_at_call 189; refine (each_in _ _ _).mono ?_; rintro e w' ⟨rfl, rfl⟩))
 have c0 := cell_new_l w (.func (.func 211) #[] #[]) 154
 have c1 := cell_new_l (w.alloc (.cells #[.func (.func 211) #[] #[]] 154)) (.int .i64 0) 33
 have c2 := cell_new_l ((w.alloc (.cells #[.func (.func 211) #[] #[]] 154)).alloc (.cells #[.int .i64 0] 33)) (.string s) 9
 simp only [World.size_alloc] at c1 c2
 have hB0 : Below w.heap.size w (((w.alloc (.cells #[.func (.func 211) #[] #[]] 154)).alloc (.cells #[.int .i64 0] 33)).alloc (.cells #[.string s] 9)) := (by repeat (first | exact Below.refl _ _ | assumption | refine Below.drew ?_ | refine Below.alloc ?_ (by first | (simp; done) | (simp; omega) | omega) _ | refine Below.setCell ?_ (by first | (simp; done) | (simp; omega) | omega) _))
 refine wpIn_rangeFunc_ownF rfl (by omega) (gf := 214) (lb := #[.pointer (some ⟨w.heap.size + 1 + 1, 0, none⟩)]) rfl trivial (enters_of Tryz.func214 (by kernel_rfl) rfl)
  (each_stops 4 (by omega) (w.heap.size + 1 + 1) s hm _ (by simp) c2.1) (fun _ _ => trivial) (fun _ _ _ _ _ _ _ _ => trivial) (Below.refl _ _) (fun _ => rfl)
  (fun pre W => ((∀ y ∈ pre, isP y.1.data.toList = true) ∧ W.cell? ⟨w.heap.size, 0, none⟩ = some (.func (.func 211) #[] #[]) ∧ W.cell? ⟨w.heap.size + 1, 0, none⟩ = some (.int .i64 0) ∧ W.frozen? ⟨w.heap.size + 1, 0, none⟩ = false) ∧ Below w.heap.size w W)
  (fun c pre W => (c = .ret ∧ (∃ y ∈ pre, isP y.1.data.toList = false) ∧ W.cell? ⟨w.heap.size + 1, 0, none⟩ = some (.int .i64 1)) ∧ Below w.heap.size w W)
  (OwnFrom.and (Own.from (fun s A B row hs hg hr => ⟨hs.1, cell_kept hs.2.1 hg hr, cell_kept hs.2.2.1 hg hr, (frozen_kept hs.2.2.1 hg hr).trans hs.2.2.2⟩) _) (ownFrom_below (Nat.le_refl _) (by simp; omega)))
  (fun c => OwnFrom.and (Own.from (fun s A B row hs hg hr => ⟨hs.1, hs.2.1, cell_kept hs.2.2 hg hr⟩) _) (ownFrom_below (Nat.le_refl _) (by simp; omega)))
  ⟨⟨by simp, cell_alloc_l _ (cell_alloc_l _ c0.1), cell_alloc_l _ c1.1, frozen_alloc_l _ c1.1 c1.2⟩, hB0⟩
  (fun x => { tmps := #[.string s, .func (.func 211) #[] #[], undef, .pointer (some ⟨w.heap.size, 0, none⟩), .pointer (some ⟨w.heap.size + 1, 0, none⟩), .string x.1, .string s, .int .i64 s.size, .bool false, .bool false, .string s, .int .i64 (Lib.countByte s.data.toList 46), .bool false, .bool false, .string s, .func (.func 214) #[] #[.pointer (some ⟨w.heap.size + 1 + 1, 0, none⟩)], .string x.1, undef, undef, undef, undef], defers := [] }) ?assign ?body ?done ?stop
 case assign =>
  intro l x W K hK
  gi_wp2
  exact hK
 case body =>
  rintro l pre x W ⟨⟨hp, hcf, hcr, hfr⟩, hB⟩ _
  cases hx : isP x.1.data.toList with
  | false =>
    have HX : Hid (isP x.1.data.toList = false) := hx
    clear hp
    gi_wp2_with (refine ⟨trivial, ?_⟩; gi_at_call 211; refine (CallsIn.inRound l (callsIn_wide.2 (patlit_any _ _ x.2))).mono ?_; rintro e w' ⟨rfl, rfl⟩)
    exact ⟨KeepsOthers.setCell _ _ _, ⟨rfl, ⟨x, by simp, HX.out⟩, World.cell?_setCell_same' _ _ _ (by rw [hcr]; rfl)⟩, hB.setCell (p := ⟨w.heap.size + 1, 0, none⟩) (by simp) _⟩
  | true =>
    have HP : Hid (∀ y ∈ pre ++ [x], isP y.1.data.toList = true) := fun y hy => (List.mem_append.1 hy).elim (hp y) (fun e => by simp at e; subst e; exact hx)
    clear hp
    gi_wp2_with (refine ⟨trivial, ?_⟩; gi_at_call 211; refine (CallsIn.inRound l (callsIn_wide.2 (patlit_any _ _ x.2))).mono ?_; rintro e w' ⟨rfl, rfl⟩)
    exact ⟨KeepsOthers.refl _, trivial, ⟨HP.out, hcf, hcr, hfr⟩, hB⟩
 case done =>
  rintro D ys W hD hys ⟨⟨hp, _, hcr, hfr⟩, hB⟩ hK
  have HF : Hid (werr isP s.data.toList = 0) := werr_words hl hc (fun x hx => by rw [← hys] at hx; obtain ⟨y, hy, rfl⟩ := List.mem_map.1 hx; exact hp y hy)
  clear hp hys
  gi_wp2
  have hK' := (KeepsOthers.setCell W ⟨w.heap.size + 1, 0, none⟩ (.int .i64 0)).same D _ hK rfl
  refine ⟨by simp, .inl ⟨_, _, rfl, run_takeDeferred hK', ?_⟩⟩
  have hc5 := cell_kept (World.cell?_setCell_same' W ⟨w.heap.size + 1, 0, none⟩ (.int .i64 0) (by rw [hcr]; rfl)) (grownBy_putObj' _ D (.deferred none)) (fun r e => by cases e; exact ⟨_, hK', rfl⟩)
  refine ⟨.int .i64 0, ?_, by rw [HF.out], (hB.setCell (p := ⟨w.heap.size + 1, 0, none⟩) (by simp) _).trans (belowK_b (w := w) (Nat.le_refl _) _ D _ _ (by simp at hD; omega) hK' rfl rfl)⟩
  simp [results, Tryz.results187, go_sem, hc5]
 case stop =>
  rintro D c pre W hD hpre ⟨⟨rfl, ⟨y, hy, hyr⟩, hcr⟩, hB⟩ hK
  have HF : Hid (werr isP s.data.toList = 1) := werr_form hl hc (hpre.subset (List.mem_map.2 ⟨y, hy, rfl⟩)) hyr
  clear hyr hpre
  gi_wp2
  refine ⟨by simp, .inl ⟨_, _, rfl, run_takeDeferred hK, ?_⟩⟩
  have hc5 := cell_kept hcr (grownBy_putObj' _ D (.deferred none)) (fun r e => by cases e; exact ⟨_, hK, rfl⟩)
  refine ⟨.int .i64 1, ?_, by rw [HF.out], hB.trans (belowK_b (w := w) (Nat.le_refl _) W D _ _ (by simp at hD; omega) hK rfl rfl)⟩
  simp [results, Tryz.results187, go_sem, hc5]
theorem check_pat (s : ByteArray) (w : World) :
 Calls Tryz.prog 187 #[.string s, .func (.func 211) #[] #[]] w fun e w' => e = .returned (.int .i64 (werr isP s.data.toList)) ∧ Below w.heap.size w w' := by
 by_cases h : 24 < s.size
 ·exact check_pat_len s w h
 ·by_cases hc : 6 ≤ Lib.countByte s.data.toList 46
  ·exact check_pat_many s w (by omega) hc
  ·exact callsIn_wide.1 (check_pat_words s w (by omega) (by omega))
end Go.Proofs.YtpoichgodamnkaaGreat
namespace Go.Proofs.YtpoichgodamnkaaGreat
open Go.RowKit
set_option linter.unusedVariables false
set_option maxRecDepth 100000
set_option maxHeartbeats 400000
theorem Tryz.info9 : (Tryz.prog.info? 9).map (fun i => (i.zero, i.size, i.bytes)) = some (some (.string ⟨#[]⟩), 1, 16) := by kernel_rfl
def SpInv (s : ByteArray) (outs : List ByteArray) (f k : Nat) : Prop :=
 f ≤ k ∧ k ≤ s.size ∧ wlB s.data.toList = outs ++ wlB (s.data.toList.drop f) ∧ (46 : UInt8) ∉ (s.data.toList.drop f).take (k - f)
theorem own_ge {W : World} {base : Nat} {e : TypeId} {size : Nat} {v : Value} {n : Nat} {xs : List Value} (h : W.ownsRow base e size v n xs) : ∀ k, v.ownBlock = some k → base ≤ k := by
 rcases h.2 with ⟨rfl, _⟩ | ⟨g, cap, cur, rfl, hg, _⟩
 ·intro k hk; cases hk
 ·intro k hk; cases hk; exact hg
theorem SpInv.start (s : ByteArray) : SpInv s [] 0 0 := ⟨Nat.le_refl _, Nat.zero_le _, by simp, by simp⟩
theorem ext_eq (s : ByteArray) (f k : Nat) : s.extract f k = ⟨((s.data.toList.drop f).take (k - f)).toArray⟩ := Lib.extract_eq s f k
theorem SpInv.no {s : ByteArray} {outs : List ByteArray} {f k : Nat} (h : SpInv s outs f k) (hk : k < s.size) (hc : s[k] ≠ 46) : SpInv s outs f (k + 1) := by
 obtain ⟨h1, h2, h3, h4⟩ := h
 have hl : k < s.data.toList.length := by simpa using hk
 refine ⟨by omega, by omega, h3, ?_⟩
 have e : (s.data.toList.drop f).take (k + 1 - f) = (s.data.toList.drop f).take (k - f) ++ [s.data.toList[k]] := by
  rw [show k + 1 - f = (k - f) + 1 from by omega, List.take_succ_eq_append_getElem (by simp; omega)]
  simp [List.getElem_drop, show f + (k - f) = k from by omega]
 rw [e]; simp only [List.mem_append, List.mem_singleton, not_or]
 exact ⟨h4, fun e => hc (by show s.data[k] = 46; simpa using e.symm)⟩
theorem SpInv.fin {s : ByteArray} {outs : List ByteArray} {f k : Nat} (h : SpInv s outs f k) (hk : k = s.size) : wlB s.data.toList = outs ++ [s.extract f k] := by
 obtain ⟨h1, h2, h3, h4⟩ := h
 subst hk
 have e : (s.data.toList.drop f).take (s.size - f) = s.data.toList.drop f := List.take_of_length_le (by simp)
 rw [e] at h4
 rw [h3, ext_eq, e, wlB, wsplit_none _ h4]; rfl
theorem SpInv.len {s : ByteArray} {outs : List ByteArray} {f k : Nat} (h : SpInv s outs f k) : outs.length ≤ s.size := by
 obtain ⟨h1, h2, h3, h4⟩ := h
 have e1 : (wlB s.data.toList).length ≤ s.size + 1 := by have := wsplit_le s.data.toList; simp [wlB] at *; omega
 have e2 : 1 ≤ (wlB (s.data.toList.drop f)).length := by
  have := wsplit_ne (s.data.toList.drop f)
  have : (wsplit (s.data.toList.drop f)).length ≠ 0 := by simpa using this
  simp [wlB]; omega
 rw [h3, List.length_append] at e1
 omega
theorem wlB_len (l : List UInt8) : (wlB l).length = Lib.countByte l 46 + 1 := by simp [wlB, wsplit_length]
def IsTexts (W : World) (g off : Nat) (xs : List ByteArray) : Prop := ∀ i (h : i < xs.length), W.cell? ⟨g, off + i, none⟩ = some (.string xs[i])
theorem own_texts {W : World} {base : Nat} {v : Value} {xs : List ByteArray} (h : W.ownsRow base 9 1 v xs.length (xs.map Value.string)) (hne : xs ≠ []) :
 ∃ g cap, v = .slice (some ⟨g, 0, none⟩) xs.length cap ∧ base ≤ g ∧ xs.length ≤ cap ∧ cap ≤ maxLen ∧ IsTexts W g 0 xs := by
 obtain ⟨h1, h2⟩ := h
 rcases h2 with ⟨_, h0⟩ | ⟨g, cap, cur, rfl, hg, hh, hn, hm, hs, ht⟩
 ·exact absurd (List.length_eq_zero_iff.1 h0) hne
 ·refine ⟨g, cap, rfl, hg, hn, hm, fun i hi => ?_⟩
  have e : cur.toList[i]? = some (.string xs[i]) := by
   have : (cur.toList.take (xs.length * 1))[i]? = some (.string xs[i]) := by rw [ht]; simp [hi]
   rwa [List.getElem?_take_of_lt (by omega)] at this
  have e' : cur[i]? = some (.string xs[i]) := by simpa using e
  simp [World.cell?, hh, e']
theorem pattern_any (s : ByteArray) (w : World) :
 Calls Tryz.prog 184 #[.string s] w fun e w' => e = .returned (.int .i64 (perr s.data.toList)) ∧ Below w.heap.size w w' := by
 go_enter Tryz.func184, Tryz.ntmps184
 go_wp2_with (go_at_call 187; refine (check_pat _ _).mono ?_; rintro e w' ⟨rfl, hB⟩)
 go_ret
 exact ⟨rfl, hB⟩
end Go.Proofs.YtpoichgodamnkaaGreat
namespace Go.Proofs.YtpoichgodamnkaaGreat
open Go.RowKit Go.Shelf
set_option linter.unusedVariables false
set_option maxRecDepth 100000
set_option maxHeartbeats 2000000
attribute [local go_sem] Oper.semAt_some
theorem werr_zero {right : List UInt8 → Bool} {l : List UInt8} (h : werr right l = 0) : l.length ≤ 24 ∧ Lib.countByte l 46 < 6 := by
 unfold werr at h
 by_cases h1 : 24 < l.length ∨ 6 < (wsplit l).length
 ·rw [if_pos h1] at h; cases h
 ·rw [wsplit_length] at h1; omega
theorem splitK_err (s : ByteArray) (w : World) (h : kerr s.data.toList ≠ 0) :
 Calls Tryz.prog 151 #[.string s] w fun e w' => e = .returned (.tuple #[.slice none 0 0, .int .i64 (kerr s.data.toList)]) ∧ Below w.heap.size w w' := by
 have h' : (kerr s.data.toList != 0) = true := bne_iff_ne.2 h
 obtain ⟨c, hc⟩ : ∃ c, c = kerr s.data.toList := ⟨_, rfl⟩
 have HC : Hid (c = kerr s.data.toList) := hc
 rw [← hc] at h' ⊢
 clear hc h
 go_enter Tryz.func151, Tryz.ntmps151
 go_wp2_with (go_at_call 187; refine (check_key _ _).mono ?_; rintro e w' ⟨rfl, hB⟩; rw [show werr isW s.data.toList = c from HC.out.symm])
 go_ret2
 exact ⟨rfl, hB⟩
theorem splitK_in (s : ByteArray) (w : World) (h : kerr s.data.toList = 0) :
 CallsIn Fence.wide 5 Tryz.prog 151 #[.string s] w fun e w' => ∃ v, e = .returned (.tuple #[v, .int .i64 0]) ∧ w'.ownsRow w.heap.size 9 1 v (wlB s.data.toList).length ((wlB s.data.toList).map Value.string) ∧ Below w.heap.size w w' := by
 obtain ⟨h24, h6⟩ := werr_zero h
 have hm : s.size ≤ maxLen := by have : s.size ≤ 24 := by simpa using h24
                                 unfold maxLen; omega
 have hn7 : (wlB s.data.toList).length ≤ 6 := by rw [wlB_len]; omega
 have HC : Hid (kerr s.data.toList = 0) := h
 clear h
 obtain ⟨i0, hi, hz0, hz1, hz2⟩ := info_parts Tryz.info9
 refine callsIn_of_wp_marks Tryz.func151 rfl trivial ?_ rfl
 simp only [Tryz.ntmps151, List.size_toArray, List.length_cons, List.length_nil, Nat.reduceAdd, Nat.reduceSub, Array.replicate_succ, Array.replicate_zero, List.push_toArray, List.append_toArray, List.nil_append, List.cons_append]
 gi_wp2_with (first
  | (refine ⟨trivial, ?_⟩; gi_at_call 187; refine (callsIn_wide.2 (check_key _ _)).mono ?_; rintro e w1 ⟨rfl, hB1⟩; rw [show werr isW s.data.toList = 0 from HC.out])
  | (refine ⟨trivial, ?_⟩; gi_at_call 189; refine (each_in _ _ _).mono ?_; rintro e w' ⟨rfl, rfl⟩))
 have hs1 := hB1.size
 have bO := Boxed.new w1 65 (.slice none 0 0)
 have bN := Boxed.new (w1.alloc (.cells #[.slice none 0 0] 65)) 9 (.string s)
 rw [World.size_alloc] at bN
 have hB0 : Below w.heap.size w ((w1.alloc (.cells #[.slice none 0 0] 65)).alloc (.cells #[.string s] 9)) := (hB1.alloc hs1 _).alloc (by simp; omega) _
 refine wpIn_rangeFunc_ownG rfl (by omega) (gf := 214) (lb := #[.pointer (some ⟨w1.heap.size + 1, 0, none⟩)]) rfl trivial (enters_of Tryz.func214 (by kernel_rfl) rfl)
  (each_stops 4 (by omega) (w1.heap.size + 1) s hm _ (by simp) bN.cell) (fun _ _ => trivial) (fun _ _ _ _ _ _ _ _ => trivial) (Below.refl _ _) (fun _ => rfl)
  (fun pre W => (∃ v, Boxed W w1.heap.size 65 v ∧ W.ownsRow w.heap.size 9 1 v pre.length (pre.map (fun x : WB => Value.string x.1)) ∧ True) ∧ Below w.heap.size w W)
  (fun _ _ _ => False)
  (OwnFrom.and (Own.from (holdsRow_own w.heap.size w1.heap.size 65 9 1 (fun pre : List WB => pre.length) (fun pre : List WB => pre.map (fun x : WB => Value.string x.1)) (fun _ _ => True)) _) (ownFrom_below (Nat.le_refl _) (by simp; omega)))
  (fun _ _ _ _ _ hs _ _ => hs)
  ⟨⟨_, bO.alloc _, World.ownsRow_nil _ _ _ _, trivial⟩, hB0⟩
  (fun x => { tmps := #[.string s, undef, .slice none 0 0, .int .i64 0, .int .i64 0, .pointer (some ⟨w1.heap.size, 0, none⟩), .string x.1, .string s, .int .i64 0, .int .i64 0, .bool false, undef, .string s, .func (.func 214) #[] #[.pointer (some ⟨w1.heap.size + 1, 0, none⟩)], .string x.1, undef, undef, undef, undef, undef], defers := [] }) ?assign ?body ?done ?stop
 case assign =>
  intro l x W K hK
  gi_wp2
  exact hK
 case body =>
  rintro l pre x W ⟨⟨v, hv, hrow, _⟩, hB⟩ hlt
  have hc := hv.cell
  have hBs := hB.size
  gi_wp2_with (gi_at_builtin; refine wpListIn_append_own _ rfl _ _ 65 rfl w.heap.size 9 i0 (.string ⟨#[]⟩) 1 16 Tryz.underlying65 hi hz0 hz1 hz2 rfl (by decide) _ _ _ rfl (hrow.alloc _) ⟨W.heap.size, 0, none⟩ 1 1 [.string x.1] rfl rfl (cell_one_new _ _ _) (by simp [Value.oneCell']) (by unfold maxLen; omega) (by omega) (by simp; omega) ?_; intro v' w2 hown' hgrow _; obtain ⟨g', cap', rfl⟩ := ownsRow_succ hown'; obtain ⟨hv1, hv2, hr2, hk2, hb2⟩ := hv.appended (by decide) hrow hB.size hs1 hown' hgrow; have hc1 := hv1.cell; have hf1 := hv1.frozen)
  exact ⟨hk2.from _, trivial, ⟨_, hv2, by simpa using hr2, trivial⟩, hB.trans hb2⟩
 case done =>
  rintro D ys W hD hys ⟨⟨v, hv, hrow, _⟩, hB⟩ hK
  have hc := hv.cell
  have HY : Hid (List.map (fun x : WB => x.1) ys = wlB s.data.toList) := hys
  clear hys
  gi_wp2
  refine ⟨by simp, .inl ⟨_, _, rfl, run_takeDeferred hK, ?_⟩⟩
  have hrow' : W.ownsRow w.heap.size 9 1 v (wlB s.data.toList).length ((wlB s.data.toList).map Value.string) := by
   rw [← HY.out]; simpa [Function.comp_def] using hrow
  exact ⟨_, results_tmp2 rfl _ _ _, v, rfl, ownsRow_putObj hrow' _ hK rfl, hB.trans (belowK_b (w := w) (Nat.le_refl _) W D _ _ (by simp at hD; omega) hK rfl rfl)⟩
 case stop =>
  rintro D c pre W _ _ h _
  exact h.elim
theorem splitK_ok (s : ByteArray) (xs : List ByteArray) (hxs : xs = wlB s.data.toList) (w : World) (h : kerr s.data.toList = 0) :
 Calls Tryz.prog 151 #[.string s] w fun e w' => ∃ g cap, e = .returned (.tuple #[.slice (some ⟨g, 0, none⟩) xs.length cap, .int .i64 0]) ∧ w.heap.size ≤ g ∧ xs.length ≤ cap ∧ cap ≤ maxLen ∧ IsTexts w' g 0 xs ∧ Below w.heap.size w w' := by
 subst hxs
 refine (callsIn_wide.1 (splitK_in s w h)).mono ?_
 rintro e w' ⟨v, rfl, hown, hB⟩
 obtain ⟨g, cap, rfl, h1, h2, h3, h4⟩ := own_texts hown (by intro h; have := wlB_len s.data.toList; rw [h] at this; simp at this)
 exact ⟨g, cap, rfl, h1, h2, h3, h4, hB⟩
end Go.Proofs.YtpoichgodamnkaaGreat
namespace Go.Proofs.YtpoichgodamnkaaGreat
open Go.RowKit
set_option linter.unusedVariables false
set_option maxRecDepth 100000
set_option maxHeartbeats 2000000
def TextsAt (W : World) (a : Option Addr) (xs : List ByteArray) : Prop := xs = [] ∨ ∃ g o, a = some ⟨g, o, none⟩ ∧ IsTexts W g o xs
theorem TextsAt.drew {W : World} {a : Option Addr} {xs : List ByteArray} (h : TextsAt W a xs) (n : Nat) : TextsAt (W.drewN n) a xs := h
theorem data_ne {x : ByteArray} {l : List UInt8} (h : x.data.toList ≠ l) : (x.toList == l) = false := by rw [Lib.toList_data]; simpa using h
theorem data_eq {x : ByteArray} {l : List UInt8} (h : x.data.toList = l) : (x.toList == l) = true := by rw [Lib.toList_data]; simpa using h
theorem IsTexts.below {W W' : World} {B g o : Nat} {xs : List ByteArray} (h : IsTexts W g o xs) (hB : Below B W W') (hg : g < B) : IsTexts W' g o xs :=
 fun i hi => (hB.cell (p := ⟨g, o + i, none⟩) hg).trans (h i hi)
theorem IsTexts.lt {W : World} {g o : Nat} {xs : List ByteArray} (h : IsTexts W g o xs) (hne : 0 < xs.length) : g < W.heap.size := by
 have := h 0 hne
 unfold World.cell? at this
 simp only at this
 cases hb : W.heap[g]? with
 | none => rw [hb] at this; cases this
 | some o => exact (Array.getElem?_eq_some_iff.1 hb).1
theorem IsTexts.keep {W W' : World} {g o : Nat} {xs : List ByteArray} (h : IsTexts W g o xs) (hne : 0 < xs.length) (hB : Below W.heap.size W W') : IsTexts W' g o xs := h.below hB (h.lt hne)
theorem fitL_eq (p k : List UInt8) : fitL p k = laidB (wlB p) (wlB k) := by unfold fitL laidB; rw [wlB_list, wlB_list]
theorem Tryz.info4 : (Tryz.prog.info? 4).map (fun i => (i.zero, i.size, i.bytes)) = some (some (.bool false), 1, 1) := by kernel_rfl
def IsBools (W : World) (g off : Nat) (bs : List Bool) : Prop := ∀ i (h : i < bs.length), W.cell? ⟨g, off + i, none⟩ = some (.bool bs[i])
def layN (x : ByteArray) (bs : List Bool) (ks : List ByteArray) : Nat → Bool
 | 0 => if x.data.toList = [35] then bs.getD 0 false else false
 | n + 1 => if x.data.toList = [35] then bs.getD (n + 1) false || layN x bs ks n else bs.getD n false && (x.data.toList == [42] || x.data.toList == (ks.getD n ⟨#[]⟩).data.toList)
def layB (x : ByteArray) (bs : List Bool) (ks : List ByteArray) : List Bool := (List.range bs.length).map (layN x bs ks)
def layTo (x : ByteArray) (bs : List Bool) (ks : List ByteArray) (k : Nat) : List Value := (List.range bs.length).map (fun i => Value.bool (if i < k then layN x bs ks i else false))
theorem layTo_zero (x : ByteArray) (bs : List Bool) (ks : List ByteArray) : layTo x bs ks 0 = List.replicate bs.length (.bool false) := by
 apply List.ext_getElem <;> simp [layTo]
theorem layTo_set (x : ByteArray) (bs : List Bool) (ks : List ByteArray) (k : Nat) {b : Bool} (hb : layN x bs ks k = b) : (layTo x bs ks k).set k (.bool b) = layTo x bs ks (k + 1) := by
 apply List.ext_getElem
 ·simp [layTo]
 ·intro i h1 h2
  simp only [layTo, List.getElem_set, List.getElem_map, List.getElem_range]
  by_cases hi : k = i
  ·subst hi; simp [hb]
  ·rw [if_neg hi]
   by_cases h3 : i < k
   ·rw [if_pos h3, if_pos (by omega)]
   ·rw [if_neg h3, if_neg (by omega)]
theorem layTo_same (x : ByteArray) (bs : List Bool) (ks : List ByteArray) (k : Nat) (hb : layN x bs ks k = false) : layTo x bs ks k = layTo x bs ks (k + 1) := by
 apply List.ext_getElem
 ·simp [layTo]
 ·intro i h1 h2
  simp only [layTo, List.getElem_map, List.getElem_range]
  by_cases hi : k = i
  ·subst hi; simp [hb]
  ·by_cases h3 : i < k
   ·rw [if_pos h3, if_pos (by omega)]
   ·rw [if_neg h3, if_neg (by omega)]
theorem layTo_get (x : ByteArray) (bs : List Bool) (ks : List ByteArray) (k j : Nat) (hj : j < bs.length) : (layTo x bs ks k)[j]? = some (.bool (if j < k then layN x bs ks j else false)) := by
 simp [layTo, hj]
theorem layTo_full (x : ByteArray) (bs : List Bool) (ks : List ByteArray) : layTo x bs ks bs.length = (layB x bs ks).map Value.bool := by
 apply List.ext_getElem
 ·simp [layTo, layB]
 ·intro i h1 h2
  simp [layTo, layB]
  intro h; simp [layTo] at h1; omega
theorem made_bools (n : Nat) : (madeCells (Value.bool false).cells (n * 1)).toList = List.replicate n (.bool false) := by
 apply List.ext_getElem
 ·simp [madeCells]
 ·intro i h1 h2
  simp [madeCells, Value.cells, Nat.mod_one]
theorem lay_any (x : ByteArray) (bs : List Bool) (ks : List ByteArray) (g1 c1 g2 c2 : Nat) (w : World) (hl : bs.length = ks.length + 1) (hn : bs.length ≤ 100) (h1 : IsBools w g1 0 bs) (h2 : IsTexts w g2 0 ks) (hg1 : g1 < w.heap.size) (hg2 : g2 < w.heap.size) :
 Calls Tryz.prog 216 #[.string x, .slice (some ⟨g1, 0, none⟩) bs.length c1, .slice (some ⟨g2, 0, none⟩) ks.length c2] w fun e w' =>
  e = .returned (.slice (some ⟨w.heap.size, 0, none⟩) bs.length bs.length) ∧ w'.ownsRow w.heap.size 4 1 (.slice (some ⟨w.heap.size, 0, none⟩) bs.length bs.length) bs.length ((layB x bs ks).map Value.bool) ∧ Below w.heap.size w w' := by
 obtain ⟨i0, hi, hz0, hz1, hz2⟩ := info_parts Tryz.info4
 have hl1 : ks.length < bs.length := by omega
 have HL : Hid (bs.length = ks.length + 1) := hl
 have H1 : Hid (IsBools w g1 0 bs) := h1
 have H2 : Hid (IsTexts w g2 0 ks) := h2
 clear hl h1 h2
 go_enter Tryz.func216, Tryz.ntmps216
 go_wp2_with (at_make; refine wpList_make_full _ rfl _ _ 170 rfl w.heap.size 4 i0 (.bool false) 1 Tryz.underlying170 hi hz0 hz1 _ _ _ _ bs.length rfl rfl rfl rfl (by rw [hz2]; omega) (by unfold maxLen; omega) (Nat.le_refl _) ?_; intro w1 hown1 hgrow1)
 rw [made_bools, ← layTo_zero x bs ks] at hown1
 have hB1 : Below w.heap.size w w1 := (Below.refl _ w).grown hgrow1 (Nat.le_refl _) (fun k e => by cases e)
 go_loopw [14] (fun i wr => ∃ k : Nat, k ≤ bs.length ∧ i = .int .i64 k ∧ wr.ownsRow w.heap.size 4 1 (.slice (some ⟨w.heap.size, 0, none⟩) bs.length bs.length) bs.length (layTo x bs ks k) ∧ Below w.heap.size w wr) (fun i _ => bs.length - (intOf i).toNat)
 case atStart => exact ⟨0, Nat.zero_le _, rfl, hown1, hB1⟩
 case round =>
  clear hown1 hgrow1 hB1
  obtain ⟨k, hk, rfl, hown, hB⟩ := hrel
  by_cases hlt : k < bs.length
  ·have hlt' : (k : Int) < bs.length := by omega
   have hck : wr.cell? ⟨w.heap.size, k, none⟩ = some (.bool false) := by rw [hown.cellAt k (by omega), layTo_get x bs ks k k hlt]; simp
   have hfk : wr.frozen? ⟨w.heap.size, k, none⟩ = false := hown.frozenAt k
   have hst := fun b => hown.stored k (.bool b)
   have HST : Hid (∀ b, (wr.setCell ⟨w.heap.size, k, none⟩ (.bool b)).ownsRow w.heap.size 4 1 (.slice (some ⟨w.heap.size, 0, none⟩) bs.length bs.length) bs.length ((layTo x bs ks k).set k (.bool b))) := fun b => (hst b).1
   have HO : Hid (wr.ownsRow w.heap.size 4 1 (.slice (some ⟨w.heap.size, 0, none⟩) bs.length bs.length) bs.length (layTo x bs ks k)) := hown
   by_cases hx : x.data.toList = [35]
   ·have hxb : (x.toList == [35]) = true := data_eq hx
    have hr : wr.cell? ⟨g1, k, none⟩ = some (.bool bs[k]) := (hB.cell (p := ⟨g1, k, none⟩) hg1).trans (by have := H1.out k hlt; simpa using this)
    cases k with
    | zero =>
      have HF : Hid (layN x bs ks 0 = bs[0]) := by show layN x bs ks 0 = bs[0]; simp [layN, hx, hlt]
      clear hst hx hown
      cases hb : bs[0] with
      | true =>
        rw [hb] at hr
        go_wp2_with fail
        go_roundw
        case rel => exact ⟨1, by omega, rfl, by rw [← layTo_set x bs ks 0 (HF.out.trans hb)]; exact HST.out true, hB.setCell (p := ⟨w.heap.size, 0, none⟩) (Nat.le_refl _) _⟩
        case measure => simp [intOf]; omega
      | false =>
        rw [hb] at hr
        go_wp2_with fail
        go_roundw
        case rel => exact ⟨1, by omega, rfl, by rw [← layTo_set x bs ks 0 (HF.out.trans hb)]; exact HST.out false, hB.setCell (p := ⟨w.heap.size, 0, none⟩) (Nat.le_refl _) _⟩
        case measure => simp [intOf]; omega
    | succ j =>
      have HF : Hid (layN x bs ks (j + 1) = (bs[j + 1] || layN x bs ks j)) := by show layN x bs ks (j + 1) = (bs[j + 1] || layN x bs ks j); simp [layN, hx, hlt]
      have hcj : wr.cell? ⟨w.heap.size, j, none⟩ = some (.bool (layN x bs ks j)) := by rw [hown.cellAt j (by omega), layTo_get x bs ks (j + 1) j (by omega)]; simp
      obtain ⟨a, ha⟩ : ∃ a, a = layN x bs ks j := ⟨_, rfl⟩
      obtain ⟨b, hb⟩ : ∃ b, b = bs[j + 1] := ⟨_, rfl⟩
      have HF2 : Hid (layN x bs ks (j + 1) = (b || a)) := by rw [ha, hb]; exact HF.out
      rw [← ha] at hcj
      rw [← hb] at hr
      have hj1 : (0 : Int) < (j : Int) + 1 := by omega
      have hj2 : (j : Int) < bs.length := by omega
      clear hst hx hown ha hb HF
      cases b <;> cases a
      all_goals
       go_wp2_with fail
       go_roundw
       case rel => exact ⟨j + 2, by omega, by go_num, by rw [← layTo_set x bs ks (j + 1) HF2.out]; exact HST.out _, hB.setCell (p := ⟨w.heap.size, j + 1, none⟩) (Nat.le_refl _) _⟩
       case measure => simp [intOf]; omega
   ·have hxb : (x.toList == [35]) = false := data_ne hx
    cases k with
    | zero =>
      have HF : Hid (layN x bs ks 0 = false) := by show layN x bs ks 0 = false; simp [layN, hx]
      clear hst hx hown
      go_wp2_with fail
      go_roundw
      case rel => exact ⟨1, by omega, rfl, by rw [← layTo_same x bs ks 0 HF.out]; exact HO.out, hB⟩
      case measure => simp [intOf]; omega
    | succ j =>
      have hr : wr.cell? ⟨g1, j, none⟩ = some (.bool bs[j]) := (hB.cell (p := ⟨g1, j, none⟩) hg1).trans (by have := H1.out j (by omega); simpa using this)
      have hjk : j < ks.length := by have := HL.out; omega
      have hk : wr.cell? ⟨g2, j, none⟩ = some (.string ks[j]) := (hB.cell (p := ⟨g2, j, none⟩) hg2).trans (by have := H2.out j hjk; simpa using this)
      have HF : Hid (layN x bs ks (j + 1) = (bs[j] && (x.data.toList == [42] || x.data.toList == ks[j].data.toList))) := by
       show layN x bs ks (j + 1) = _
       simp [layN, hx, hjk, show j < bs.length from by omega]
      obtain ⟨y, hy⟩ : ∃ y, y = ks[j] := ⟨_, rfl⟩
      obtain ⟨b, hb⟩ : ∃ b, b = bs[j] := ⟨_, rfl⟩
      have HF2 : Hid (layN x bs ks (j + 1) = (b && (x.data.toList == [42] || x.data.toList == y.data.toList))) := by rw [hb, hy]; exact HF.out
      rw [← hy] at hk
      rw [← hb] at hr
      have hj1 : (0 : Int) < (j : Int) + 1 := by omega
      have hj2 : (j : Int) < bs.length := by omega
      have hj3 : (j : Int) < ks.length := by omega
      obtain ⟨s1, hs1⟩ : ∃ s1, (x.toList == [42]) = s1 := ⟨_, rfl⟩
      obtain ⟨s2, hs2⟩ : ∃ s2, (x.toList == y.toList) = s2 := ⟨_, rfl⟩
      have HF3 : Hid (layN x bs ks (j + 1) = (b && (s1 || s2))) := by
       show layN x bs ks (j + 1) = (b && (s1 || s2))
       rw [HF2.out, ← hs1, ← hs2, Lib.toList_data, Lib.toList_data]
      clear hst hx hown hb hy HF HF2 hjk
      cases b <;> cases s1 <;> cases s2
      all_goals
       go_wp2_with fail
       go_roundw
       case rel => exact ⟨j + 2, by omega, by go_num, by rw [← layTo_set x bs ks (j + 1) HF3.out]; exact HST.out _, hB.setCell (p := ⟨w.heap.size, j + 1, none⟩) (Nat.le_refl _) _⟩
       case measure => simp [intOf]; omega
  ·have hkn : k = bs.length := by omega
   have HK : Hid (k = bs.length) := hkn
   clear hkn
   go_wp2_with fail
   go_ret
   exact ⟨rfl, by rw [← layTo_full]; have h := hown; rwa [show layTo x bs ks k = layTo x bs ks bs.length from congrArg (layTo x bs ks) HK.out] at h, hB⟩
end Go.Proofs.YtpoichgodamnkaaGreat
namespace Go.Proofs.YtpoichgodamnkaaGreat
set_option linter.unusedVariables false
set_option maxRecDepth 100000
def reachB (xs pre : List ByteArray) : List Bool := (List.range (xs.length + 1)).map (fun n => laidB pre (xs.take n))
theorem reachB_length (xs pre : List ByteArray) : (reachB xs pre).length = xs.length + 1 := by simp [reachB]
theorem reachB_get (xs pre : List ByteArray) (n : Nat) (h : n ≤ xs.length) : (reachB xs pre).getD n false = laidB pre (xs.take n) := by
 have : n < xs.length + 1 := by omega
 simp [reachB, List.getD, this]
theorem reachB_start (xs : List ByteArray) : reachB xs [] = true :: List.replicate xs.length false := by
 apply List.ext_getElem
 ·simp [reachB]
 ·intro i h1 h2
  cases i with
  | zero => simp [reachB, laidB_nil]
  | succ i =>
    have h : i < xs.length := by simpa [reachB] using h1
    simp [reachB, laidB_nil]
    intro e; simp [e] at h
theorem layN_reach (xs pre : List ByteArray) (x : ByteArray) : ∀ n, n ≤ xs.length → layN x (reachB xs pre) xs n = laidB (pre ++ [x]) (xs.take n) := by
 intro n
 induction n with
 | zero =>
   intro _
   by_cases hx : x.data.toList = [35]
   ·rw [layN, if_pos hx, reachB_get _ _ 0 (Nat.zero_le _), laidB_snoc_hash hx]; simp
   ·rw [layN, if_neg hx, List.take_zero, laidB_snoc_nil hx]
 | succ n ih =>
   intro hn
   by_cases hx : x.data.toList = [35]
   ·rw [layN, if_pos hx, reachB_get _ _ _ hn, ih (by omega), laidB_snoc_hash hx, laidB_snoc_hash hx]
    have e1 : (xs.take (n + 1)).length = n + 1 := by simp; omega
    have e2 : (xs.take n).length = n := by simp; omega
    rw [e1, e2, List.range_succ (n := n + 1), List.any_append, Bool.or_comm]
    congr 1
    ·rw [Bool.eq_iff_iff, List.any_eq_true, List.any_eq_true]
     constructor
     ·rintro ⟨j, hj, h⟩
      simp at hj
      exact ⟨j, by simp; omega, by rw [List.take_take, Nat.min_eq_left (by omega)] at *; exact h⟩
     ·rintro ⟨j, hj, h⟩
      simp at hj
      exact ⟨j, by simp; omega, by rw [List.take_take, Nat.min_eq_left (by omega)] at *; exact h⟩
    ·simp [List.take_take]
   ·rw [layN, if_neg hx, reachB_get _ _ n (by omega), List.take_succ_eq_append_getElem (show n < xs.length from by omega), laidB_snoc hx]
    have : xs.getD n ⟨#[]⟩ = xs[n] := by simp [List.getD, show n < xs.length from by omega]
    rw [this]
theorem layB_reach (xs pre : List ByteArray) (x : ByteArray) : layB x (reachB xs pre) xs = reachB xs (pre ++ [x]) := by
 apply List.ext_getElem
 ·simp [layB, reachB]
 ·intro i h1 h2
  have h : i ≤ xs.length := by simp [layB, reachB] at h1; omega
  simp only [layB, List.getElem_map, List.getElem_range]
  rw [layN_reach xs pre x i h]
  simp [reachB]
theorem reachB_last (xs pre : List ByteArray) : (reachB xs pre)[xs.length]'(by simp [reachB]) = laidB pre xs := by simp [reachB]
end Go.Proofs.YtpoichgodamnkaaGreat
