import Derived.Lib.Strings
import Derived.Lib.Bytealg
import Derived.Test.YtlbnkpicnokgoaaGreatRows
import Derived.WalkKit
import Derived.WalkSpells
import Derived.WalkLawsBesides
import Derived.Lib.Walk
import Derived.Laws.Strings3
import Derived.RegionTactic
import Derived.RangeFuncNested
import Derived.RangeFuncBound
import Derived.RangeFuncCalls
import Derived.RangeFuncLeaves
import Derived.RangeFuncFrom
import Derived.Shelf.Abstract
import Derived.Shelf.RegionOpen
import Derived.OwnWalkIn
import Derived.TacticsInMore
import Derived.LoopNIn
import Derived.LoopIn
import Derived.Deep.Draws
import Derived.RangeFuncBox
import Derived.Maps.AppendAt
import Derived.RangeFuncWrites
import Derived.Deep.RegionHeld3
import Derived.ProofKit
import Derived.Laws.AppendOwnNone
import Derived.Lib.AppendZeros
namespace Go.Proofs.YtlbnkpicnokgoaaGreat
set_option linter.unusedVariables false
set_option maxRecDepth 100000
def wch (c:UInt8):Bool:=decide (97≤c.toNat∧c.toNat≤122∨48≤c.toNat∧c.toNat≤57)
def isW (l:List UInt8):Bool:=l.all wch && !l.isEmpty
def isP (l:List UInt8):Bool:=l == [42] || l == [35] || isW l
def wsplit:List UInt8→List (List UInt8)
 | []=>[[]]
 | c :: r => if c = 46 then [] :: wsplit r else match wsplit r with
   | []=>[[c]]
   | h :: t=>(c :: h) :: t
theorem gr_ (l:List UInt8):wsplit l≠[]:=by
 cases l with
 | nil=>simp [wsplit]
 | cons c r=>unfold wsplit;split <;> (try split) <;> simp
theorem jv_ (l:List UInt8) (h:(46:UInt8) ∉ l):wsplit l = [l]:=by
 induction l with
 | nil=>rfl
 | cons c r ih =>
   have h1:¬ c = 46:=fun e=>h (by simp [e])
   have h2:=ih (fun e=>h (by simp [e]));simp [wsplit,h1,h2]
theorem mP_ (a b:List UInt8) (h:(46:UInt8) ∉ a):wsplit (a ++ 46 :: b) = a :: wsplit b:=by
 induction a with
 | nil=>simp [wsplit]
 | cons c r ih =>
   have h1:¬ c = 46:=fun e=>h (by simp [e])
   have h2:=ih (fun e=>h (by simp [e]));simp [wsplit,h1,h2]
theorem bQ_ (l:List UInt8):(wsplit l).length = Lib.countByte l 46+1:=by
 induction l with
 | nil=>simp [wsplit,Lib.countByte]
 | cons c r ih =>
   unfold Lib.countByte at *;by_cases h:c = 46
   ·subst h;simp [wsplit,ih]
   ·have h':¬ (c == 46) = true:=by simpa using h
    have hne:=gr_ r;cases hw:wsplit r with
    | nil=>exact absurd hw hne
    | cons x t =>
      rw [hw] at ih;simp only [wsplit,h,if_false,hw];rw [List.count_cons_of_ne (by simpa using h)];simpa using ih
theorem iI_ (l:List UInt8):(wsplit l).length≤l.length+1:=by
 rw [bQ_];have:=List.count_le_length (a:=(46:UInt8)) (l:=l);unfold Lib.countByte;omega
theorem k9_ (l:List UInt8):∀ x ∈ wsplit l,x.length≤l.length:=by
 induction l with
 | nil=>simp [wsplit]
 | cons c r ih =>
   intro x hx;by_cases h:c = 46
   ·simp [wsplit,h] at hx;rcases hx with rfl | hx
    ·simp
    ·have:=ih x hx;simp;omega
   ·simp only [wsplit,h,if_false] at hx;cases hw:wsplit r with
    | nil=>exact absurd hw (gr_ r)
    | cons y t =>
      rw [hw] at hx ih;simp at hx;rcases hx with rfl | hx
      ·have:=ih y (by simp);simp;omega
      ·have:=ih x (by simp [hx]);simp;omega
theorem fZ_ (l:List UInt8):(Lib.indexByte l 46 = -1∧wsplit l = [l])∨∃ i:Nat,Lib.indexByte l 46 = i∧i < l.length∧wsplit l = l.take i :: wsplit (l.drop (i+1)):=by
 induction l with
 | nil=>left;simp [Lib.indexByte,wsplit]
 | cons c r ih =>
   by_cases h:c = 46
   ·right
    refine ⟨0,by simp [Lib.indexByte,h],by simp,by simp [wsplit,h]⟩
   ·rcases ih with ⟨h1,h2⟩ | ⟨i,h1,h2,h3⟩
    ·left;simp [Lib.indexByte,h,h1,wsplit,h2]
    ·right
     refine ⟨i+1,?_,by simp;omega,by simp [wsplit,h,h3]⟩;simp [Lib.indexByte,h,h1]
def werr (right:List UInt8→Bool) (l:List UInt8):Int:=
 if 24 < l.length∨6 < (wsplit l).length then 2 else if (wsplit l).all right then 0 else 1
def kerr (l:List UInt8):Int:=werr isW l
def perr (l:List UInt8):Int:=werr isP l
def laidL:List (List UInt8)→List (List UInt8)→Bool
 | [],k=>k.isEmpty
 | p :: ps, k => if p = [35] then (List.range (k.length + 1)).any (fun n => laidL ps (k.drop n)) else match k with
   | []=>false
   | x :: xs=>(p == [42] || p == x) && laidL ps xs
def fitL (p k:List UInt8):Bool:=laidL (wsplit p) (wsplit k)
def merr (p k:List UInt8):Int:=if perr p = 0 then kerr k else perr p
def mis (p k:List UInt8):Bool:=if merr p k = 0 then fitL p k else false
end Go.Proofs.YtlbnkpicnokgoaaGreat
namespace Go.Proofs.YtlbnkpicnokgoaaGreat
open Go.RowKit
set_option linter.unusedVariables false
set_option maxRecDepth 100000
set_option maxHeartbeats 1000000
theorem eA_ (s:ByteArray) (w:World) :
 Calls Tryz.prog 178 #[.string s,.string ⟨#[46]⟩] w fun e w'=>e = .returned (.int .i64 (Lib.countByte s.data.toList 46))∧w' = w:=by
 go_enter Tryz.func178,Tryz.ntmps178;go_wp2
 rw [run_callFunc_extern Tryz.func197 (by kernel_rfl) (by kernel_rfl) (by kernel_rfl) (e:=Extern.BytealgCount.count) (by kernel_rfl),Lib.run_countString];simp only [Result.andThen];rw [Oper.upon_value];go_wp2
 go_ret
 exact ⟨rfl,rfl⟩
theorem hr_ (s:ByteArray) (c:Int) (w:World) :
 Calls Tryz.prog 211 #[.string s,.int .u8 c] w fun e w'=>e = .returned (.int .i64 (Lib.indexByte s.data.toList c.toNat.toUInt8))∧w' = w:=by
 go_enter Tryz.func211,Tryz.ntmps211;go_wp2
 rw [run_callFunc_extern Tryz.func215 (by kernel_rfl) (by kernel_rfl) (by kernel_rfl) (e:=Extern.BytealgIndexByte.indexByte) (by kernel_rfl),Lib.run_indexByteString];simp only [Result.andThen];rw [Oper.upon_value];go_wp2
 go_ret
 exact ⟨rfl,rfl⟩
theorem id_ (s:ByteArray) (w:World) :
 Calls Tryz.prog 208 #[.string s,.string ⟨#[46]⟩] w fun e w'=>e = .returned (.int .i64 (Lib.indexByte s.data.toList 46))∧w' = w:=by
 go_enter Tryz.func208,Tryz.ntmps208;go_wp2_with (go_at_call 211;refine (hr_ _ _ _).mono ?_;rintro e w' ⟨rfl,rfl⟩)
 ·have h:([46] == s.toList) = true:=by assumption
  go_ret
  refine ⟨?_,rfl⟩;have e:s.data.toList = [46]:=by rw [← Lib.toList_data];exact (beq_iff_eq.1 h).symm
  rw [e];simp [Lib.indexByte]
 ·go_ret
  exact ⟨rfl,rfl⟩
theorem lo_ (s:ByteArray) (w:World) (h:Lib.indexByte s.data.toList 46 = -1) :
 Calls Tryz.prog 209 #[.string s,.string ⟨#[46]⟩] w fun e w'=>e = .returned (.tuple #[.string s,.string ⟨#[]⟩,.bool false])∧w' = w:=by
 go_enter Tryz.func209,Tryz.ntmps209;go_wp2_with (go_at_call 208;refine (id_ _ _).mono ?_;rintro e w' ⟨rfl,rfl⟩;rw [h])
 go_ret3
 exact ⟨rfl,rfl⟩
theorem lp_ (s:ByteArray) (i:Nat) (w:World) (h:Lib.indexByte s.data.toList 46 = i) (hi:i < s.size) (hs:s.size≤maxLen) :
 Calls Tryz.prog 209 #[.string s,.string ⟨#[46]⟩] w fun e w'=>e = .returned (.tuple #[.string (s.extract 0 i),.string (s.extract (i+1) s.size),.bool true])∧w' = w.drewN 1:=by
 unfold maxLen at hs;have c1:(0:Int)≤↑i:=by omega
 have c2:(↑i:Int)≤↑s.size:=by omega
 have c3:(0:Int)≤↑i+1:=by omega
 have c4:(↑i+1:Int)≤↑s.size:=by omega
 go_enter Tryz.func209,Tryz.ntmps209;go_wp2_with (go_at_call 208;refine (id_ _ _).mono ?_;rintro e w' ⟨rfl,rfl⟩;rw [h])
 go_region
 go_wp2
 go_ret3
 exact ⟨rfl,rfl⟩
theorem mY_ (s:ByteArray) (w:World) (h:Lib.indexByte s.data.toList 46 = -1) :
 Calls Tryz.prog 200 #[.string s,.string ⟨#[46]⟩] w fun e w'=>e = .returned (.tuple #[.string s,.string ⟨#[]⟩,.bool false])∧w' = w:=by
 go_enter Tryz.func200,Tryz.ntmps200;go_wp2_with (go_at_call 209;refine (lo_ _ _ h).mono ?_;rintro e w' ⟨rfl,rfl⟩)
 go_ret3
 exact ⟨rfl,rfl⟩
theorem mZ_ (s:ByteArray) (i:Nat) (w:World) (h:Lib.indexByte s.data.toList 46 = i) (hi:i < s.size) (hs:s.size≤maxLen) :
 Calls Tryz.prog 200 #[.string s,.string ⟨#[46]⟩] w fun e w'=>e = .returned (.tuple #[.string (s.extract 0 i),.string (s.extract (i+1) s.size),.bool true])∧w' = w.drewN 1:=by
 go_enter Tryz.func200,Tryz.ntmps200;go_wp2_with (go_at_call 209;refine (lp_ _ i _ h hi hs).mono ?_;rintro e w' ⟨rfl,rfl⟩)
 go_ret3
 exact ⟨rfl,rfl⟩
theorem aq_ {a b:Bool} (h:a = b):Ending.returned (.bool a) = .returned (.bool b):=by rw [h]
theorem iF_ (s:ByteArray) (k:Nat) (h:k < s.size):s.data.toList.take (k+1) = s.data.toList.take k ++ [s[k]]:=by
 rw [List.take_succ_eq_append_getElem (by simpa using h)];rfl
theorem mM_ {c:UInt8} (h:97≤(c.toNat:Int)∧(c.toNat:Int)≤122∨48≤(c.toNat:Int)∧(c.toNat:Int)≤57):wch c = true:=by
 unfold wch;rw [decide_eq_true_iff];omega
theorem nU_ {c:UInt8} (h:¬ (97≤(c.toNat:Int)∧(c.toNat:Int)≤122∨48≤(c.toNat:Int)∧(c.toNat:Int)≤57)):wch c = false:=by
 unfold wch;rw [decide_eq_false_iff_not];omega
theorem jz_ (s:ByteArray) (k:Nat) (h:k < s.size) (ha:(s.data.toList.take k).all wch = true) (hc:wch s[k] = true):(s.data.toList.take (k+1)).all wch = true:=by
 rw [iF_ s k h,List.all_append,ha];simp [hc]
theorem lS_ (s:ByteArray) (k:Nat) (h:k < s.size) (hc:wch s[k] = false):isW s.data.toList = false:=by
 have:s.data.toList.all wch = false:=by
  rw [List.all_eq_false];exact ⟨s[k],by show s.data[k] ∈ _;simp,by simp [hc]⟩
 simp [isW,this]
theorem hS_ (s:ByteArray) (k:Nat) (h:¬ k < s.size):(s.data.toList.take k).all wch = s.data.toList.all wch:=by
 rw [List.take_of_length_le (by simp;omega)]
theorem f9_ (s:ByteArray) (w:World) (hs:s.size≤maxLen) :
 Calls Tryz.prog 163 #[.string s] w fun e w'=>e = .returned (.bool (isW s.data.toList))∧w' = w:=by
 unfold maxLen at hs;go_enter Tryz.func163,Tryz.ntmps163;go_wp2
 go_loop [7] (fun i=>∃ k:Nat,k≤s.size∧i = .int .i64 k∧(s.data.toList.take k).all wch = true) (fun i=>s.size - (intOf i).toNat)
 case atStart=>exact ⟨0,Nat.zero_le _,rfl,rfl⟩
 case round=>
  obtain ⟨k,hk,rfl,ha⟩:=hrel;have HA:Hid ((s.data.toList.take k).all wch = true):=ha;clear ha;by_cases hlt:k < s.size
  ·go_wp2
   all_goals first
    | (go_ret;exact ⟨aq_ (lS_ s k hlt (nU_ (by omega))).symm,rfl⟩)
    | exact ⟨⟨k+1,by omega,by go_num,jz_ s k hlt HA.out (mM_ (by omega))⟩,by simp [intOf];omega⟩
  ·go_wp2
   go_ret
   exact ⟨aq_ (by rw [isW,← hS_ s k hlt,HA.out,← Lib.toList_data];simp),rfl⟩
theorem gP_ (s:ByteArray) (w:World) (hs:s.size≤maxLen) :
 Calls Tryz.prog 151 #[.string s] w fun e w'=>e = .returned (.bool (isW s.data.toList))∧w' = w:=by
 unfold maxLen at hs;go_enter Tryz.func151,Tryz.ntmps151;go_wp2
 go_loop [3] (fun i=>∃ k:Nat,k≤s.size∧i = .int .i64 k∧(s.data.toList.take k).all wch = true) (fun i=>s.size - (intOf i).toNat)
 case atStart=>exact ⟨0,Nat.zero_le _,rfl,rfl⟩
 case round=>
  obtain ⟨k,hk,rfl,ha⟩:=hrel;have HA:Hid ((s.data.toList.take k).all wch = true):=ha;clear ha;by_cases hlt:k < s.size
  ·by_cases h1:97≤(s[k].toNat:Int) <;> by_cases h2:(s[k].toNat:Int)≤122 <;> by_cases h3:48≤(s[k].toNat:Int) <;> by_cases h4:(s[k].toNat:Int)≤57 <;> first | (exfalso;omega) | skip
   all_goals
    go_wp2
    first
     | (go_ret;exact ⟨aq_ (lS_ s k hlt (nU_ (by omega))).symm,rfl⟩)
     | exact ⟨⟨k+1,by omega,by go_num,jz_ s k hlt HA.out (mM_ (by omega))⟩,by simp [intOf];omega⟩
  ·go_wp2
   go_ret
   exact ⟨aq_ (by rw [isW,← hS_ s k hlt,HA.out,← Lib.toList_data];simp),rfl⟩
theorem gY_ (s:ByteArray) (w:World) (hs:s.size≤maxLen) :
 Calls Tryz.prog 162 #[.string s] w fun e w'=>e = .returned (.bool (isP s.data.toList))∧w' = w:=by
 go_enter Tryz.func162,Tryz.ntmps162;go_wp2_with (go_at_call 163;refine (f9_ _ _ hs).mono ?_;rintro e w' ⟨rfl,rfl⟩)
 all_goals (go_ret;exact ⟨aq_ (by simp_all [isP,← Lib.toList_data]),rfl⟩)
end Go.Proofs.YtlbnkpicnokgoaaGreat
namespace Go.Proofs.YtlbnkpicnokgoaaGreat
open Go.RowKit Go.Shelf
set_option linter.unusedVariables false
set_option maxRecDepth 100000
set_option maxHeartbeats 1000000
attribute [local go_sem] Oper.semAt_some
theorem hg_ {W:World} {B:Nat} {v:Value} {t:TypeId} (h:W.heap[B]? = some (.cells #[v] t (0,0))):W.cell? ⟨B,0,none⟩ = some v∧W.frozen? ⟨B,0,none⟩ = false:=by
 constructor <;> simp [World.cell?,World.frozen?,h]
theorem cn_ (W:World) (v:Value) (t:TypeId):(W.alloc (.cells #[v] t)).cell? ⟨W.heap.size,0,none⟩ = some v∧(W.alloc (.cells #[v] t)).frozen? ⟨W.heap.size,0,none⟩ = false:=
 hg_ (World.alloc_heap_new W _)
theorem b1_ {W:World} {a:Addr} {v:Value} (o:Obj) (h:W.cell? a = some v):(W.alloc o).cell? a = some v:=cell_kept h (World.grownBy_alloc W o none) (fun r e=>by cases e)
theorem ei_ {W:World} {a:Addr} {v:Value} (o:Obj) (h:W.cell? a = some v) (hf:W.frozen? a = false):(W.alloc o).frozen? a = false:=(frozen_kept h (World.grownBy_alloc W o none) (fun r e=>by cases e)).trans hf
theorem i3_ (w:World) (n:Nat) (row:Option Nat):w.grownBy (w.drewN n) row:=⟨rfl,rfl,rfl,Nat.le_refl _,fun _ _ _=>rfl⟩
abbrev WB:={ x:ByteArray // x.size≤maxLen }
def wlB (l:List UInt8):List ByteArray:=(wsplit l).map (fun x=>⟨x.toArray⟩)
def mG_:Value→Nat | .string x=>x.size | _=>0
def iQ_:Value→Nat | .bool true=>1 | _=>0
theorem nK_ (r:ByteArray) (h:wsplit r.data.toList = [r.data.toList]):wlB r.data.toList = [r]:=by
 simp [wlB,h]
theorem nL_ (r:ByteArray) (i:Nat) (hi:i < r.size) (h:wsplit r.data.toList = r.data.toList.take i :: wsplit (r.data.toList.drop (i+1))) :
 wlB r.data.toList = r.extract 0 i :: wlB (r.extract (i+1) r.size).data.toList:=by
 have e1:r.extract 0 i = ⟨(r.data.toList.take i).toArray⟩:=by rw [Lib.extract_eq];simp
 have e2:(r.extract (i+1) r.size).data.toList = r.data.toList.drop (i+1):=by
  rw [Lib.extract_data];exact List.take_of_length_le (by simp)
 rw [e1,e2,wlB,h];rfl
theorem m3_ (n:Nat) (hn:1≤n) (l Bn:Nat) (s:ByteArray) (hs:s.size≤maxLen) (J Jx:List WB→World→Prop) (W:World)
 (hJ:AbidesFrom W.heap.size J)
 (hY:∀ pre x W1,J pre W1→pre.length < (wlB s.data.toList).length→YieldAt Fence.wide (n - 1) Tryz.prog l #[.string x.1] W1 fun e W'=>
  (e = .returned (.bool true)∧J (pre ++ [x]) W'∧True)∨(e = .returned (.bool false)∧Jx (pre ++ [x]) W'))
 (hBn:W.cell? ⟨Bn,0,none⟩ = some (.string s)) (h0:J [] W) :
 CallsIn Fence.wide n Tryz.prog 199 #[.func (.yield l) #[] #[],.pointer (some ⟨Bn,0,none⟩)] W fun e W'=>(∃ v,e = .returned v) ∧
  ((∃ ys,List.map (fun x:WB=>x.1) ys = wlB s.data.toList∧J ys W')∨(∃ pre,List.map (fun x:WB=>x.1) pre <+: wlB s.data.toList∧Jx pre W')):=by
 refine callsIn_of_wp Tryz.func199 rfl trivial ?_ rfl;simp only [Tryz.ntmps199,List.size_toArray,List.length_cons,List.length_nil,Nat.reduceAdd,Nat.reduceSub,Array.replicate_succ,Array.replicate_zero,List.push_toArray,List.append_toArray,List.nil_append,List.cons_append];gi_wp2
 gi_loopw [3,4] (fun rv mv wr=>∃ (pre:List WB) (r:ByteArray) (m:Bool),rv = .string r∧mv = .bool m∧r.size≤maxLen∧(if m then wlB s.data.toList = List.map (fun x:WB=>x.1) pre ++ wlB r.data.toList else wlB s.data.toList = List.map (fun x:WB=>x.1) pre)∧J pre wr)
  (fun rv mv _=>iQ_ mv * (mG_ rv+1))
 case atStart=>
  exact ⟨[],s,true,rfl,rfl,hs,by simp,h0⟩
 case round=>
  obtain ⟨pre,r,m,rfl,rfl,hr,hx,hJs⟩:=hrel;cases m with
  | false =>
    gi_wp2
    go_end0
    exact ⟨⟨_,rfl⟩,.inl ⟨pre,by simpa using hx.symm,hJs⟩⟩
  | true =>
    simp only [if_true] at hx;rcases fZ_ r.data.toList with ⟨h1,h2⟩ | ⟨i,h1,h2,h3⟩
    ·have hw1:=nK_ r h2;rw [hw1] at hx;have HX:Hid (wlB s.data.toList = List.map (fun x:WB=>x.1) pre ++ [r]):=hx;have hlen:pre.length < (wlB s.data.toList).length:=by rw [hx];simp
     obtain ⟨fn,tmps,assign,body,hy,hR⟩:=hY pre ⟨r,hr⟩ wr hJs hlen;dsimp only at hy;clear hx hw1 h2;gi_wp2_with (refine ⟨trivial,?_⟩;gi_at_call 200;refine (callsIn_wide.2 (mY_ r _ h1)).mono ?_;rintro e w' ⟨rfl,rfl⟩)
     refine hR.mono ?_;rintro e W3 (⟨rfl,hJ3,_⟩ | ⟨rfl,hJx3⟩)
     ·gi_wp2
      go_roundw
      case rel=>exact ⟨pre ++ [⟨r,hr⟩],⟨#[]⟩,false,rfl,rfl,Nat.zero_le _,by simpa using HX.out,hJ3⟩
      case measure=>simp [iQ_,mG_]
     ·gi_wp2
      refine bodyPost_ret (results_none rfl _ _ _) rfl ?_;exact ⟨⟨_,rfl⟩,.inr ⟨pre ++ [⟨r,hr⟩],by rw [HX.out];simp,hJx3⟩⟩
    ·have hi:i < r.size:=by simpa using h2
     have hw1:=nL_ r i hi h3;rw [hw1] at hx;have HX:Hid (wlB s.data.toList = List.map (fun x:WB=>x.1) pre ++ r.extract 0 i :: wlB (r.extract (i+1) r.size).data.toList):=hx;have hlen:pre.length < (wlB s.data.toList).length:=by rw [hx];simp
     have he1:(r.extract 0 i).size≤maxLen:=by rw [ByteArray.size_extract];omega
     have he2:(r.extract (i+1) r.size).size≤maxLen:=by rw [ByteArray.size_extract];omega
     have he3:(r.extract (i+1) r.size).size < r.size:=by rw [ByteArray.size_extract];omega
     have hJd:J pre (wr.drewN 1):=hJ pre wr _ none hJs (i3_ _ _ _) (fun r e=>by cases e);obtain ⟨fn,tmps,assign,body,hy,hR⟩:=hY pre ⟨r.extract 0 i,he1⟩ (wr.drewN 1) hJd hlen;dsimp only at hy;have HE:Hid ((r.extract (i+1) r.size).size < r.size∧(r.extract (i+1) r.size).size≤maxLen):=⟨he3,he2⟩;clear hx hw1 h2 h3 he2 he3;gi_wp2_with (refine ⟨trivial,?_⟩;gi_at_call 200;refine (callsIn_wide.2 (mZ_ r i _ h1 hi hr)).mono ?_;rintro e w' ⟨rfl,rfl⟩)
     refine hR.mono ?_;rintro e W3 (⟨rfl,hJ3,_⟩ | ⟨rfl,hJx3⟩)
     ·gi_wp2
      go_roundw
      case rel=>exact ⟨pre ++ [⟨r.extract 0 i,he1⟩],r.extract (i+1) r.size,true,rfl,rfl,HE.out.2,by simpa using HX.out,hJ3⟩
      case measure=>have:=HE.out.1;simp only [iQ_,mG_];omega
     ·gi_wp2
      refine bodyPost_ret (results_none rfl _ _ _) rfl ?_;exact ⟨⟨_,rfl⟩,.inr ⟨pre ++ [⟨r.extract 0 i,he1⟩],by rw [HX.out];simp,hJx3⟩⟩
theorem hn_ (n:Nat) (s:ByteArray) (w:World) :
 CallsIn Fence.wide n Tryz.prog 179 #[.string s] w fun e w'=>e = .returned (.func (.func 199) #[] #[.pointer (some ⟨w.heap.size,0,none⟩)])∧w' = w.alloc (.cells #[.string s] 9):=by
 refine callsIn_of_wp Tryz.func179 rfl trivial ?_ rfl;simp only [Tryz.ntmps179,List.size_toArray,List.length_cons,List.length_nil,Nat.reduceAdd,Nat.reduceSub,Array.replicate_succ,Array.replicate_zero,List.push_toArray,List.append_toArray,List.nil_append,List.cons_append];gi_wp2
 go_ret
 exact ⟨rfl,rfl⟩
theorem d5_ (n:Nat) (hn:1≤n) (Bn:Nat) (s:ByteArray) (hs:s.size≤maxLen) (w:World) (hBn:Bn < w.heap.size) (hc:w.cell? ⟨Bn,0,none⟩ = some (.string s)) :
 SeqStopsK Fence.wide n Tryz.prog 199 #[.pointer (some ⟨Bn,0,none⟩)] (fun x:WB=>#[Value.string x.1]) (fun _ _=>True) (fun ys=>ys.map (fun x:WB=>x.1) = wlB s.data.toList) (fun pre=>pre.map (fun x:WB=>x.1) <+: wlB s.data.toList) (wlB s.data.toList).length w:=fun l J Jx W hW hJ _ hY h0=>
 m3_ n hn l Bn s hs J Jx W hJ hY ((hW.cell (p:=⟨Bn,0,none⟩) hBn).trans hc) h0
end Go.Proofs.YtlbnkpicnokgoaaGreat
namespace Go.Proofs.YtlbnkpicnokgoaaGreat
open Go.RowKit Go.Shelf
set_option linter.unusedVariables false
set_option maxRecDepth 100000
set_option maxHeartbeats 2000000
attribute [local go_sem] Oper.semAt_some
theorem fK_ {right:List UInt8→Bool} {l:List UInt8} (h:24 < l.length):werr right l = 2:=by unfold werr;rw [if_pos (.inl h)]
theorem eX_ {right:List UInt8→Bool} {l:List UInt8} (h:6≤Lib.countByte l 46):werr right l = 2:=by unfold werr;rw [if_pos (.inr (by rw [bQ_];omega))]
theorem fL_ (l:List UInt8):(wlB l).map (fun x=>x.data.toList) = wsplit l:=by simp [wlB,Function.comp_def]
theorem ee_ {right:List UInt8→Bool} {l:List UInt8} (h1:l.length≤24) (h2:Lib.countByte l 46 < 6) (h:∀ x ∈ wlB l,right x.data.toList = true):werr right l = 0:=by
 unfold werr;rw [if_neg (by rw [bQ_];omega),if_pos];rw [List.all_eq_true,← fL_];intro x hx;obtain ⟨y,hy,rfl⟩:=List.mem_map.1 hx;exact h y hy
theorem eW_ {right:List UInt8→Bool} {l:List UInt8} (h1:l.length≤24) (h2:Lib.countByte l 46 < 6) {x:ByteArray} (hx:x ∈ wlB l) (h:right x.data.toList = false):werr right l = 1:=by
 unfold werr;rw [if_neg (by rw [bQ_];omega),if_neg];rw [List.all_eq_true,← fL_];intro hh;have:=hh _ (List.mem_map.2 ⟨x,hx,rfl⟩);rw [h] at this;cases this
theorem au_ {k:IntKind} {a b:Int} (h:a = b):Ending.returned (.int k a) = .returned (.int k b):=by rw [h]
theorem hh_ (s:ByteArray) (w:World) (h:24 < s.size) :
 Calls Tryz.prog 161 #[.string s,.func (.func 163) #[] #[]] w fun e w'=>e = .returned (.int .i64 (werr isW s.data.toList))∧Below w.heap.size w w':=by
 rw [fK_ (by simpa using h)];have h':(24:Int) < s.size:=by omega
 go_enter Tryz.func161,Tryz.ntmps161;go_wp2
 exact bodyPost_ret (v:=.int .i64 2) (by simp [results,Tryz.results161,go_sem]) rfl ⟨rfl,(by repeat (first | exact Below.refl _ _ | assumption | refine Below.drew ?_ | refine Below.alloc ?_ (by first | (simp;done) | (simp;omega) | omega) _ | refine Below.setCell ?_ (by first | (simp;done) | (simp;omega) | omega) _))⟩
theorem gt_ (s:ByteArray) (w:World) (h:s.size≤24) (hc:6≤Lib.countByte s.data.toList 46) :
 Calls Tryz.prog 161 #[.string s,.func (.func 163) #[] #[]] w fun e w'=>e = .returned (.int .i64 (werr isW s.data.toList))∧Below w.heap.size w w':=by
 rw [eX_ hc];have h':¬ (24:Int) < s.size:=by omega
 have hc':(6:Int)≤Lib.countByte s.data.toList 46:=by omega
 go_enter Tryz.func161,Tryz.ntmps161;go_wp2_with (go_at_call 178;refine (eA_ _ _).mono ?_;rintro e w' ⟨rfl,rfl⟩)
 exact bodyPost_ret (v:=.int .i64 2) (by simp [results,Tryz.results161,go_sem]) rfl ⟨rfl,(by repeat (first | exact Below.refl _ _ | assumption | refine Below.drew ?_ | refine Below.alloc ?_ (by first | (simp;done) | (simp;omega) | omega) _ | refine Below.setCell ?_ (by first | (simp;done) | (simp;omega) | omega) _))⟩
theorem fU_ (s:ByteArray) (w:World) (h:s.size≤24) (hc:Lib.countByte s.data.toList 46 < 6) :
 CallsIn Fence.wide 5 Tryz.prog 161 #[.string s,.func (.func 163) #[] #[]] w fun e w'=>e = .returned (.int .i64 (werr isW s.data.toList))∧Below w.heap.size w w':=by
 have h':¬ (24:Int) < s.size:=by omega
 have hc':decide ((6:Int)≤Lib.countByte s.data.toList 46) = false:=by simp;omega
 have hm:s.size≤maxLen:=by unfold maxLen;omega
 have hl:s.data.toList.length≤24:=by simpa using h
 refine callsIn_of_wp_marks Tryz.func161 rfl trivial ?_ rfl;simp only [Tryz.ntmps161,List.size_toArray,List.length_cons,List.length_nil,Nat.reduceAdd,Nat.reduceSub,Array.replicate_succ,Array.replicate_zero,List.push_toArray,List.append_toArray,List.nil_append,List.cons_append];gi_wp2_with (first
  | (refine ⟨trivial,?_⟩;gi_at_call 178;refine (callsIn_wide.2 (eA_ _ _)).mono ?_;rintro e w' ⟨rfl,rfl⟩)
  | (refine ⟨trivial,?_⟩;gi_at_call 179;refine (hn_ _ _ _).mono ?_;rintro e w' ⟨rfl,rfl⟩))
 have c0:=cn_ w (.func (.func 163) #[] #[]) 96;have c1:=cn_ (w.alloc (.cells #[.func (.func 163) #[] #[]] 96)) (.int .i64 0) 33;have c2:=cn_ ((w.alloc (.cells #[.func (.func 163) #[] #[]] 96)).alloc (.cells #[.int .i64 0] 33)) (.string s) 9;simp only [World.size_alloc] at c1 c2;have hB0:Below w.heap.size w (((w.alloc (.cells #[.func (.func 163) #[] #[]] 96)).alloc (.cells #[.int .i64 0] 33)).alloc (.cells #[.string s] 9)):=(by repeat (first | exact Below.refl _ _ | assumption | refine Below.drew ?_ | refine Below.alloc ?_ (by first | (simp;done) | (simp;omega) | omega) _ | refine Below.setCell ?_ (by first | (simp;done) | (simp;omega) | omega) _));refine wpIn_rangeFunc_ownF rfl (by omega) (gf:=199) (lb:=#[.pointer (some ⟨w.heap.size+1+1,0,none⟩)]) rfl trivial (enters_of Tryz.func199 (by kernel_rfl) rfl)
  (d5_ 4 (by omega) (w.heap.size+1+1) s hm _ (by simp) c2.1) (fun _ _=>trivial) (fun _ _ _ _ _ _ _ _=>trivial) (Below.refl _ _) (fun _=>rfl)
  (fun pre W=>((∀ y ∈ pre,isW y.1.data.toList = true)∧W.cell? ⟨w.heap.size,0,none⟩ = some (.func (.func 163) #[] #[])∧W.cell? ⟨w.heap.size+1,0,none⟩ = some (.int .i64 0)∧W.frozen? ⟨w.heap.size+1,0,none⟩ = false)∧Below w.heap.size w W)
  (fun c pre W=>(c = .ret∧(∃ y ∈ pre,isW y.1.data.toList = false)∧W.cell? ⟨w.heap.size+1,0,none⟩ = some (.int .i64 1))∧Below w.heap.size w W)
  (OwnFrom.and (Own.from (fun s A B row hs hg hr=>⟨hs.1,cell_kept hs.2.1 hg hr,cell_kept hs.2.2.1 hg hr,(frozen_kept hs.2.2.1 hg hr).trans hs.2.2.2⟩) _) (ownFrom_below (Nat.le_refl _) (by simp;omega)))
  (fun c=>OwnFrom.and (Own.from (fun s A B row hs hg hr=>⟨hs.1,hs.2.1,cell_kept hs.2.2 hg hr⟩) _) (ownFrom_below (Nat.le_refl _) (by simp;omega)))
  ⟨⟨by simp,b1_ _ (b1_ _ c0.1),b1_ _ c1.1,ei_ _ c1.1 c1.2⟩,hB0⟩
  (fun x=>{ tmps:=#[.string s,.func (.func 163) #[] #[],undef,.pointer (some ⟨w.heap.size,0,none⟩),.pointer (some ⟨w.heap.size+1,0,none⟩),.string x.1,.string s,.int .i64 s.size,.bool false,.bool false,.string s,.int .i64 (Lib.countByte s.data.toList 46),.bool false,.bool false,.string s,.func (.func 199) #[] #[.pointer (some ⟨w.heap.size+1+1,0,none⟩)],.string x.1,undef,undef,undef,undef],defers:=[] }) ?assign ?body ?done ?stop
 case assign=>
  intro l x W K hK;gi_wp2
  exact hK
 case body=>
  rintro l pre x W ⟨⟨hp,hcf,hcr,hfr⟩,hB⟩ _;cases hx:isW x.1.data.toList with
  | false =>
    have HX:Hid (isW x.1.data.toList = false):=hx;clear hp;gi_wp2_with (refine ⟨trivial,?_⟩;gi_at_call 163;refine (CallsIn.inRound l (callsIn_wide.2 (f9_ _ _ x.2))).mono ?_;rintro e w' ⟨rfl,rfl⟩)
    exact ⟨KeepsOthers.setCell _ _ _,⟨rfl,⟨x,by simp,HX.out⟩,World.cell?_setCell_same' _ _ _ (by rw [hcr];rfl)⟩,hB.setCell (p:=⟨w.heap.size+1,0,none⟩) (by simp) _⟩
  | true =>
    have HP:Hid (∀ y ∈ pre ++ [x],isW y.1.data.toList = true):=fun y hy=>(List.mem_append.1 hy).elim (hp y) (fun e=>by simp at e;subst e;exact hx)
    clear hp;gi_wp2_with (refine ⟨trivial,?_⟩;gi_at_call 163;refine (CallsIn.inRound l (callsIn_wide.2 (f9_ _ _ x.2))).mono ?_;rintro e w' ⟨rfl,rfl⟩)
    exact ⟨KeepsOthers.refl _,trivial,⟨HP.out,hcf,hcr,hfr⟩,hB⟩
 case done=>
  rintro D ys W hD hys ⟨⟨hp,_,hcr,hfr⟩,hB⟩ hK;have HF:Hid (werr isW s.data.toList = 0):=ee_ hl hc (fun x hx=>by rw [← hys] at hx;obtain ⟨y,hy,rfl⟩:=List.mem_map.1 hx;exact hp y hy);clear hp hys;gi_wp2
  have hK':=(KeepsOthers.setCell W ⟨w.heap.size+1,0,none⟩ (.int .i64 0)).same D _ hK rfl;refine ⟨by simp,.inl ⟨_,_,rfl,run_takeDeferred hK',?_⟩⟩;have hc5:=cell_kept (World.cell?_setCell_same' W ⟨w.heap.size+1,0,none⟩ (.int .i64 0) (by rw [hcr];rfl)) (grownBy_putObj' _ D (.deferred none)) (fun r e=>by cases e;exact ⟨_,hK',rfl⟩);refine ⟨.int .i64 0,?_,by rw [HF.out],(hB.setCell (p:=⟨w.heap.size+1,0,none⟩) (by simp) _).trans (belowK_b (w:=w) (Nat.le_refl _) _ D _ _ (by simp at hD;omega) hK' rfl rfl)⟩;simp [results,Tryz.results161,go_sem,hc5]
 case stop=>
  rintro D c pre W hD hpre ⟨⟨rfl,⟨y,hy,hyr⟩,hcr⟩,hB⟩ hK;have HF:Hid (werr isW s.data.toList = 1):=eW_ hl hc (hpre.subset (List.mem_map.2 ⟨y,hy,rfl⟩)) hyr;clear hyr hpre;gi_wp2
  refine ⟨by simp,.inl ⟨_,_,rfl,run_takeDeferred hK,?_⟩⟩;have hc5:=cell_kept hcr (grownBy_putObj' _ D (.deferred none)) (fun r e=>by cases e;exact ⟨_,hK,rfl⟩);refine ⟨.int .i64 1,?_,by rw [HF.out],hB.trans (belowK_b (w:=w) (Nat.le_refl _) W D _ _ (by simp at hD;omega) hK rfl rfl)⟩;simp [results,Tryz.results161,go_sem,hc5]
theorem hY_ (s:ByteArray) (w:World) :
 Calls Tryz.prog 161 #[.string s,.func (.func 163) #[] #[]] w fun e w'=>e = .returned (.int .i64 (werr isW s.data.toList))∧Below w.heap.size w w':=by
 by_cases h:24 < s.size
 ·exact hh_ s w h
 ·by_cases hc:6≤Lib.countByte s.data.toList 46
  ·exact gt_ s w (by omega) hc
  ·exact callsIn_wide.1 (fU_ s w (by omega) (by omega))
theorem hi_ (s:ByteArray) (w:World) (h:24 < s.size) :
 Calls Tryz.prog 161 #[.string s,.func (.func 162) #[] #[]] w fun e w'=>e = .returned (.int .i64 (werr isP s.data.toList))∧Below w.heap.size w w':=by
 rw [fK_ (by simpa using h)];have h':(24:Int) < s.size:=by omega
 go_enter Tryz.func161,Tryz.ntmps161;go_wp2
 exact bodyPost_ret (v:=.int .i64 2) (by simp [results,Tryz.results161,go_sem]) rfl ⟨rfl,(by repeat (first | exact Below.refl _ _ | assumption | refine Below.drew ?_ | refine Below.alloc ?_ (by first | (simp;done) | (simp;omega) | omega) _ | refine Below.setCell ?_ (by first | (simp;done) | (simp;omega) | omega) _))⟩
theorem gu_ (s:ByteArray) (w:World) (h:s.size≤24) (hc:6≤Lib.countByte s.data.toList 46) :
 Calls Tryz.prog 161 #[.string s,.func (.func 162) #[] #[]] w fun e w'=>e = .returned (.int .i64 (werr isP s.data.toList))∧Below w.heap.size w w':=by
 rw [eX_ hc];have h':¬ (24:Int) < s.size:=by omega
 have hc':(6:Int)≤Lib.countByte s.data.toList 46:=by omega
 go_enter Tryz.func161,Tryz.ntmps161;go_wp2_with (go_at_call 178;refine (eA_ _ _).mono ?_;rintro e w' ⟨rfl,rfl⟩)
 exact bodyPost_ret (v:=.int .i64 2) (by simp [results,Tryz.results161,go_sem]) rfl ⟨rfl,(by repeat (first | exact Below.refl _ _ | assumption | refine Below.drew ?_ | refine Below.alloc ?_ (by first | (simp;done) | (simp;omega) | omega) _ | refine Below.setCell ?_ (by first | (simp;done) | (simp;omega) | omega) _))⟩
theorem fV_ (s:ByteArray) (w:World) (h:s.size≤24) (hc:Lib.countByte s.data.toList 46 < 6) :
 CallsIn Fence.wide 5 Tryz.prog 161 #[.string s,.func (.func 162) #[] #[]] w fun e w'=>e = .returned (.int .i64 (werr isP s.data.toList))∧Below w.heap.size w w':=by
 have h':¬ (24:Int) < s.size:=by omega
 have hc':decide ((6:Int)≤Lib.countByte s.data.toList 46) = false:=by simp;omega
 have hm:s.size≤maxLen:=by unfold maxLen;omega
 have hl:s.data.toList.length≤24:=by simpa using h
 refine callsIn_of_wp_marks Tryz.func161 rfl trivial ?_ rfl;simp only [Tryz.ntmps161,List.size_toArray,List.length_cons,List.length_nil,Nat.reduceAdd,Nat.reduceSub,Array.replicate_succ,Array.replicate_zero,List.push_toArray,List.append_toArray,List.nil_append,List.cons_append];gi_wp2_with (first
  | (refine ⟨trivial,?_⟩;gi_at_call 178;refine (callsIn_wide.2 (eA_ _ _)).mono ?_;rintro e w' ⟨rfl,rfl⟩)
  | (refine ⟨trivial,?_⟩;gi_at_call 179;refine (hn_ _ _ _).mono ?_;rintro e w' ⟨rfl,rfl⟩))
 have c0:=cn_ w (.func (.func 162) #[] #[]) 96;have c1:=cn_ (w.alloc (.cells #[.func (.func 162) #[] #[]] 96)) (.int .i64 0) 33;have c2:=cn_ ((w.alloc (.cells #[.func (.func 162) #[] #[]] 96)).alloc (.cells #[.int .i64 0] 33)) (.string s) 9;simp only [World.size_alloc] at c1 c2;have hB0:Below w.heap.size w (((w.alloc (.cells #[.func (.func 162) #[] #[]] 96)).alloc (.cells #[.int .i64 0] 33)).alloc (.cells #[.string s] 9)):=(by repeat (first | exact Below.refl _ _ | assumption | refine Below.drew ?_ | refine Below.alloc ?_ (by first | (simp;done) | (simp;omega) | omega) _ | refine Below.setCell ?_ (by first | (simp;done) | (simp;omega) | omega) _));refine wpIn_rangeFunc_ownF rfl (by omega) (gf:=199) (lb:=#[.pointer (some ⟨w.heap.size+1+1,0,none⟩)]) rfl trivial (enters_of Tryz.func199 (by kernel_rfl) rfl)
  (d5_ 4 (by omega) (w.heap.size+1+1) s hm _ (by simp) c2.1) (fun _ _=>trivial) (fun _ _ _ _ _ _ _ _=>trivial) (Below.refl _ _) (fun _=>rfl)
  (fun pre W=>((∀ y ∈ pre,isP y.1.data.toList = true)∧W.cell? ⟨w.heap.size,0,none⟩ = some (.func (.func 162) #[] #[])∧W.cell? ⟨w.heap.size+1,0,none⟩ = some (.int .i64 0)∧W.frozen? ⟨w.heap.size+1,0,none⟩ = false)∧Below w.heap.size w W)
  (fun c pre W=>(c = .ret∧(∃ y ∈ pre,isP y.1.data.toList = false)∧W.cell? ⟨w.heap.size+1,0,none⟩ = some (.int .i64 1))∧Below w.heap.size w W)
  (OwnFrom.and (Own.from (fun s A B row hs hg hr=>⟨hs.1,cell_kept hs.2.1 hg hr,cell_kept hs.2.2.1 hg hr,(frozen_kept hs.2.2.1 hg hr).trans hs.2.2.2⟩) _) (ownFrom_below (Nat.le_refl _) (by simp;omega)))
  (fun c=>OwnFrom.and (Own.from (fun s A B row hs hg hr=>⟨hs.1,hs.2.1,cell_kept hs.2.2 hg hr⟩) _) (ownFrom_below (Nat.le_refl _) (by simp;omega)))
  ⟨⟨by simp,b1_ _ (b1_ _ c0.1),b1_ _ c1.1,ei_ _ c1.1 c1.2⟩,hB0⟩
  (fun x=>{ tmps:=#[.string s,.func (.func 162) #[] #[],undef,.pointer (some ⟨w.heap.size,0,none⟩),.pointer (some ⟨w.heap.size+1,0,none⟩),.string x.1,.string s,.int .i64 s.size,.bool false,.bool false,.string s,.int .i64 (Lib.countByte s.data.toList 46),.bool false,.bool false,.string s,.func (.func 199) #[] #[.pointer (some ⟨w.heap.size+1+1,0,none⟩)],.string x.1,undef,undef,undef,undef],defers:=[] }) ?assign ?body ?done ?stop
 case assign=>
  intro l x W K hK;gi_wp2
  exact hK
 case body=>
  rintro l pre x W ⟨⟨hp,hcf,hcr,hfr⟩,hB⟩ _;cases hx:isP x.1.data.toList with
  | false =>
    have HX:Hid (isP x.1.data.toList = false):=hx;clear hp;gi_wp2_with (refine ⟨trivial,?_⟩;gi_at_call 162;refine (CallsIn.inRound l (callsIn_wide.2 (gY_ _ _ x.2))).mono ?_;rintro e w' ⟨rfl,rfl⟩)
    exact ⟨KeepsOthers.setCell _ _ _,⟨rfl,⟨x,by simp,HX.out⟩,World.cell?_setCell_same' _ _ _ (by rw [hcr];rfl)⟩,hB.setCell (p:=⟨w.heap.size+1,0,none⟩) (by simp) _⟩
  | true =>
    have HP:Hid (∀ y ∈ pre ++ [x],isP y.1.data.toList = true):=fun y hy=>(List.mem_append.1 hy).elim (hp y) (fun e=>by simp at e;subst e;exact hx)
    clear hp;gi_wp2_with (refine ⟨trivial,?_⟩;gi_at_call 162;refine (CallsIn.inRound l (callsIn_wide.2 (gY_ _ _ x.2))).mono ?_;rintro e w' ⟨rfl,rfl⟩)
    exact ⟨KeepsOthers.refl _,trivial,⟨HP.out,hcf,hcr,hfr⟩,hB⟩
 case done=>
  rintro D ys W hD hys ⟨⟨hp,_,hcr,hfr⟩,hB⟩ hK;have HF:Hid (werr isP s.data.toList = 0):=ee_ hl hc (fun x hx=>by rw [← hys] at hx;obtain ⟨y,hy,rfl⟩:=List.mem_map.1 hx;exact hp y hy);clear hp hys;gi_wp2
  have hK':=(KeepsOthers.setCell W ⟨w.heap.size+1,0,none⟩ (.int .i64 0)).same D _ hK rfl;refine ⟨by simp,.inl ⟨_,_,rfl,run_takeDeferred hK',?_⟩⟩;have hc5:=cell_kept (World.cell?_setCell_same' W ⟨w.heap.size+1,0,none⟩ (.int .i64 0) (by rw [hcr];rfl)) (grownBy_putObj' _ D (.deferred none)) (fun r e=>by cases e;exact ⟨_,hK',rfl⟩);refine ⟨.int .i64 0,?_,by rw [HF.out],(hB.setCell (p:=⟨w.heap.size+1,0,none⟩) (by simp) _).trans (belowK_b (w:=w) (Nat.le_refl _) _ D _ _ (by simp at hD;omega) hK' rfl rfl)⟩;simp [results,Tryz.results161,go_sem,hc5]
 case stop=>
  rintro D c pre W hD hpre ⟨⟨rfl,⟨y,hy,hyr⟩,hcr⟩,hB⟩ hK;have HF:Hid (werr isP s.data.toList = 1):=eW_ hl hc (hpre.subset (List.mem_map.2 ⟨y,hy,rfl⟩)) hyr;clear hyr hpre;gi_wp2
  refine ⟨by simp,.inl ⟨_,_,rfl,run_takeDeferred hK,?_⟩⟩;have hc5:=cell_kept hcr (grownBy_putObj' _ D (.deferred none)) (fun r e=>by cases e;exact ⟨_,hK,rfl⟩);refine ⟨.int .i64 1,?_,by rw [HF.out],hB.trans (belowK_b (w:=w) (Nat.le_refl _) W D _ _ (by simp at hD;omega) hK rfl rfl)⟩;simp [results,Tryz.results161,go_sem,hc5]
theorem ln_ (s:ByteArray) (w:World) :
 Calls Tryz.prog 161 #[.string s,.func (.func 162) #[] #[]] w fun e w'=>e = .returned (.int .i64 (werr isP s.data.toList))∧Below w.heap.size w w':=by
 by_cases h:24 < s.size
 ·exact hi_ s w h
 ·by_cases hc:6≤Lib.countByte s.data.toList 46
  ·exact gu_ s w (by omega) hc
  ·exact callsIn_wide.1 (fV_ s w (by omega) (by omega))
end Go.Proofs.YtlbnkpicnokgoaaGreat
namespace Go.Proofs.YtlbnkpicnokgoaaGreat
open Go.RowKit
set_option linter.unusedVariables false
set_option maxRecDepth 100000
set_option maxHeartbeats 2000000
theorem Tryz.info9:(Tryz.prog.info? 9).map (fun i=>(i.zero,i.size,i.bytes)) = some (some (.string ⟨#[]⟩),1,16):=by kernel_rfl
def dK_ (s:ByteArray) (outs:List ByteArray) (f k:Nat):Prop:=
 f≤k∧k≤s.size∧wlB s.data.toList = outs ++ wlB (s.data.toList.drop f)∧(46:UInt8) ∉ (s.data.toList.drop f).take (k - f)
theorem cg_ {W:World} {base:Nat} {e:TypeId} {size:Nat} {v:Value} {n:Nat} {xs:List Value} (h:W.ownsRow base e size v n xs):∀ k,v.ownBlock = some k→base≤k:=by
 rcases h.2 with ⟨rfl,_⟩ | ⟨g,cap,cur,rfl,hg,_⟩
 ·intro k hk;cases hk
 ·intro k hk;cases hk;exact hg
theorem dK_.start (s:ByteArray):dK_ s [] 0 0:=⟨Nat.le_refl _,Nat.zero_le _,by simp,by simp⟩
theorem m2_ (l:List UInt8) (f k:Nat) (hf:f≤k) (hk:k < l.length):l.drop f = (l.drop f).take (k - f) ++ l[k] :: l.drop (k+1):=by
 conv=>lhs;rw [← List.take_append_drop (k - f) (l.drop f)]
 rw [List.drop_drop,show f+(k - f) = k from by omega,List.drop_eq_getElem_cons hk]
theorem nQ_ (s:ByteArray) (f k:Nat):s.extract f k = ⟨((s.data.toList.drop f).take (k - f)).toArray⟩:=Lib.extract_eq s f k
theorem dK_.no {s:ByteArray} {outs:List ByteArray} {f k:Nat} (h:dK_ s outs f k) (hk:k < s.size) (hc:s[k]≠46):dK_ s outs f (k+1):=by
 obtain ⟨h1,h2,h3,h4⟩:=h;have hl:k < s.data.toList.length:=by simpa using hk
 refine ⟨by omega,by omega,h3,?_⟩;have e:(s.data.toList.drop f).take (k+1 - f) = (s.data.toList.drop f).take (k - f) ++ [s.data.toList[k]]:=by
  rw [show k+1 - f = (k - f)+1 from by omega,List.take_succ_eq_append_getElem (by simp;omega)];simp [List.getElem_drop,show f+(k - f) = k from by omega]
 rw [e];simp only [List.mem_append,List.mem_singleton,not_or];exact ⟨h4,fun e=>hc (by show s.data[k] = 46;simpa using e.symm)⟩
theorem dK_.dot {s:ByteArray} {outs:List ByteArray} {f k:Nat} (h:dK_ s outs f k) (hk:k < s.size) (hc:s[k] = 46):dK_ s (outs ++ [s.extract f k]) (k+1) (k+1):=by
 obtain ⟨h1,h2,h3,h4⟩:=h;have hl:k < s.data.toList.length:=by simpa using hk
 refine ⟨Nat.le_refl _,by omega,?_,by simp⟩;have hc':s.data.toList[k] = 46:=by have h:s.data[k] = 46:=hc;simpa using h
 have e:=m2_ s.data.toList f k h1 hl;rw [hc'] at e;rw [h3,nQ_];conv=>lhs;rw [e]
 rw [wlB,mP_ _ _ h4];simp [wlB]
theorem dK_.fin {s:ByteArray} {outs:List ByteArray} {f k:Nat} (h:dK_ s outs f k) (hk:k = s.size):wlB s.data.toList = outs ++ [s.extract f k]:=by
 obtain ⟨h1,h2,h3,h4⟩:=h;subst hk;have e:(s.data.toList.drop f).take (s.size - f) = s.data.toList.drop f:=List.take_of_length_le (by simp);rw [e] at h4;rw [h3,nQ_,e,wlB,jv_ _ h4];rfl
theorem dK_.len {s:ByteArray} {outs:List ByteArray} {f k:Nat} (h:dK_ s outs f k):outs.length≤s.size:=by
 obtain ⟨h1,h2,h3,h4⟩:=h;have e1:(wlB s.data.toList).length≤s.size+1:=by have:=iI_ s.data.toList;simp [wlB] at *;omega
 have e2:1≤(wlB (s.data.toList.drop f)).length:=by
  have:=gr_ (s.data.toList.drop f);have:(wsplit (s.data.toList.drop f)).length≠0:=by simpa using this
  simp [wlB];omega
 rw [h3,List.length_append] at e1;omega
theorem mF_ (s:ByteArray) (w:World) (hs:s.size≤24) :
 Calls Tryz.prog 150 #[.string s,.int .u8 46] w fun e w'=>∃ v,e = .returned v∧w'.ownsRow w.heap.size 9 1 v (wlB s.data.toList).length ((wlB s.data.toList).map Value.string)∧Below w.heap.size w w':=by
 obtain ⟨i0,hi,hz0,hz1,hz2⟩:=info_parts Tryz.info9;go_enter Tryz.func150,Tryz.ntmps150;go_wp2
 go_loopw [5,6,7] (fun v fv iv wr=>∃ (outs:List ByteArray) (f k:Nat),fv = .int .i64 f∧iv = .int .i64 k∧wr.ownsRow w.heap.size 9 1 v outs.length (outs.map Value.string)∧Below w.heap.size w wr∧(dK_ s outs f k∨k = s.size+1∧wlB s.data.toList = outs))
  (fun _ _ iv _=>s.size+1 - (intOf iv).toNat)
 case atStart=>exact ⟨[],0,0,rfl,rfl,World.ownsRow_nil _ _ _ _,Below.refl _ _,.inl (dK_.start s)⟩
 case round=>
  obtain ⟨outs,f,k,rfl,rfl,hown,hB,hinv⟩:=hrel;have hBs:=hB.size;rcases hinv with hinv | ⟨hk,hfin⟩
  ·have hf:=hinv.1;have hk:=hinv.2.1;have hlen:=hinv.len;have HI:Hid (dK_ s outs f k):=hinv;clear hinv;by_cases hlt:k < s.size
   ·have n1:((k:Int) == s.size) = false:=beq_eq_false_iff_ne.2 (by omega);by_cases hc:s[k] = 46
    ·have n2:((s[k].toNat:Int) == 46) = true:=by rw [hc];rfl
     have HN:=HI.out.dot hlt hc;have HN':Hid (dK_ s (outs ++ [s.extract f k]) (k+1) (k+1)):=HN;clear HN HI hc;go_wp2_with (at_builtin;refine wpList_append_own _ rfl _ _ 36 rfl w.heap.size 9 i0 (.string ⟨#[]⟩) 1 16 Tryz.underlying36 hi hz0 hz1 hz2 rfl (by decide) _ _ _ rfl (hown.alloc _) ⟨wr.heap.size,0,none⟩ 1 1 [.string (s.extract f k)] rfl rfl (cell_one_new _ _ _) (by simp [Value.oneCell']) (by unfold maxLen;omega) (by omega) (by simp;omega) ?_;intro v' w1 hown' hgrow _)
     have hB1:Below w.heap.size w w1:=(hB.alloc hBs _).grown hgrow (by simp;omega) (cg_ hown);go_roundw
     case rel=>exact ⟨outs ++ [s.extract f k],k+1,k+1,by go_num,by go_num,by simpa using hown',hB1,.inl HN'.out⟩
     case measure=>simp [intOf];omega
    ·have n2:((s[k].toNat:Int) == 46) = false:=by
      rw [beq_eq_false_iff_ne];intro h;exact hc (UInt8.toNat_inj.1 (by simpa using Int.ofNat.inj h))
     have HN:Hid (dK_ s outs f (k+1)):=HI.out.no hlt hc;clear HI hc;go_wp2
     go_roundw
     case rel=>exact ⟨outs,f,k+1,rfl,by go_num,hown,hB,.inl HN.out⟩
     case measure=>simp [intOf];omega
   ·have hk':k = s.size:=by omega
    have n1:((k:Int) == s.size) = true:=by rw [beq_iff_eq];omega
    have HN:Hid (wlB s.data.toList = outs ++ [s.extract f k]):=HI.out.fin hk';have HK:Hid (k = s.size):=hk';clear HI hk';go_wp2_with (at_builtin;refine wpList_append_own _ rfl _ _ 36 rfl w.heap.size 9 i0 (.string ⟨#[]⟩) 1 16 Tryz.underlying36 hi hz0 hz1 hz2 rfl (by decide) _ _ _ rfl (hown.alloc _) ⟨wr.heap.size,0,none⟩ 1 1 [.string (s.extract f k)] rfl rfl (cell_one_new _ _ _) (by simp [Value.oneCell']) (by unfold maxLen;omega) (by omega) (by simp;omega) ?_;intro v' w1 hown' hgrow _)
    have hB1:Below w.heap.size w w1:=(hB.alloc hBs _).grown hgrow (by simp;omega) (cg_ hown);go_roundw
    case rel=>exact ⟨outs ++ [s.extract f k],k+1,k+1,by go_num,by go_num,by simpa using hown',hB1,.inr ⟨by rw [HK.out],HN.out⟩⟩
    case measure=>simp [intOf];omega
  ·have HF:Hid (wlB s.data.toList = outs):=hfin;clear hfin;subst hk;go_wp2
   go_ret
   exact ⟨_,rfl,by rw [HF.out];exact hown,hB⟩
theorem dv_ (l:List UInt8):(wlB l).length = Lib.countByte l 46+1:=by simp [wlB,bQ_]
theorem j9_ (s:ByteArray) (x:ByteArray) (h:x ∈ wlB s.data.toList):x.size≤s.size:=by
 obtain ⟨y,hy,rfl⟩:=List.mem_map.1 h;have:=k9_ _ y hy;show y.toArray.size≤_;simpa using this
def a4_ (W:World) (g off:Nat) (xs:List ByteArray):Prop:=∀ i (h:i < xs.length),W.cell? ⟨g,off+i,none⟩ = some (.string xs[i])
theorem f7_ {W:World} {base:Nat} {v:Value} {xs:List ByteArray} (h:W.ownsRow base 9 1 v xs.length (xs.map Value.string)) (hne:xs≠[]) :
 ∃ g cap,v = .slice (some ⟨g,0,none⟩) xs.length cap∧base≤g∧xs.length≤cap∧cap≤maxLen∧a4_ W g 0 xs:=by
 obtain ⟨h1,h2⟩:=h;rcases h2 with ⟨_,h0⟩ | ⟨g,cap,cur,rfl,hg,hh,hn,hm,hs,ht⟩
 ·exact absurd (List.length_eq_zero_iff.1 h0) hne
 ·refine ⟨g,cap,rfl,hg,hn,hm,fun i hi=>?_⟩;have e:cur.toList[i]? = some (.string xs[i]):=by
   have:(cur.toList.take (xs.length * 1))[i]? = some (.string xs[i]):=by rw [ht];simp [hi]
   rwa [List.getElem?_take_of_lt (by omega)] at this
  have e':cur[i]? = some (.string xs[i]):=by simpa using e
  simp [World.cell?,hh,e']
theorem cs_ (s:ByteArray) (xs:List ByteArray) (hxs:xs = wlB s.data.toList) (w:World) (hs:s.size≤24) :
 Calls Tryz.prog 150 #[.string s,.int .u8 46] w fun e w'=>∃ g cap,e = .returned (.slice (some ⟨g,0,none⟩) xs.length cap)∧w.heap.size≤g∧xs.length≤cap∧cap≤maxLen∧a4_ w' g 0 xs∧Below w.heap.size w w':=by
 subst hxs;refine (mF_ s w hs).mono ?_;rintro e w' ⟨v,rfl,hown,hB⟩;obtain ⟨g,cap,rfl,h1,h2,h3,h4⟩:=f7_ hown (by intro h;have:=dv_ s.data.toList;rw [h] at this;simp at this);exact ⟨g,cap,rfl,h1,h2,h3,h4,hB⟩
theorem jy_ {p:ByteArray→Bool} {xs:List ByteArray} {k:Nat} (hk:k < xs.length) (h:∀ x ∈ xs.take k,p x = true) (hx:p xs[k] = true):∀ x ∈ xs.take (k+1),p x = true:=by
 rw [List.take_succ_eq_append_getElem hk];intro x hx';rcases List.mem_append.1 hx' with h1 | h1
 ·exact h x h1
 ·rw [List.mem_singleton.1 h1];exact hx
theorem isP_w {x:ByteArray} (h:isW x.data.toList = true):isP x.data.toList = true:=by simp [isP,h]
theorem isP_star {x:ByteArray} (h:x.toList = [42]):isP x.data.toList = true:=by rw [Lib.toList_data] at h;simp [isP,h]
theorem isP_or {x:ByteArray} (h:(!x.toList == [42]) = false∨(!x.toList == [35]) = false):isP x.data.toList = true:=by
 rw [Lib.toList_data] at h;rcases h with h | h <;> (simp at h;simp [isP,h])
theorem nR_ {x:ByteArray} (h1:¬ isW x.data.toList = true) (h:(!x.toList == [42]) = true∧(!x.toList == [35]) = true):isP x.data.toList = false:=by
 rw [Lib.toList_data] at h;obtain ⟨a,b⟩:=h;simp at a b;simp [isP,a,b];simpa using h1
theorem oI_ (s:ByteArray) (w:World) :
 Calls Tryz.prog 111 #[.string s,.bool false] w fun e w'=>e = .returned (.int .i64 (werr isW s.data.toList))∧Below w.heap.size w w':=by
 by_cases h:24 < s.size
 ·rw [fK_ (by simpa using h)];have h':(24:Int) < s.size:=by omega
  go_enter Tryz.func111,Tryz.ntmps111;go_wp2
  go_ret
  exact ⟨rfl,Below.refl _ _⟩
 ·have h':¬ (24:Int) < s.size:=by omega
  have hl:s.data.toList.length≤24:=by simp;omega
  have hlen:=dv_ s.data.toList;obtain ⟨xs,hxs⟩:∃ xs,xs = wlB s.data.toList:=⟨_,rfl⟩
  have hsz:∀ i (hi:i < xs.length),xs[i].size≤maxLen:=fun i hi=>by
   have:=j9_ s xs[i] (by rw [← hxs];exact List.getElem_mem hi);unfold maxLen;omega
  rw [← hxs] at hlen;have HX:Hid (xs = wlB s.data.toList):=hxs;clear hxs;by_cases h6:6 < xs.length
  ·rw [eX_ (by omega)];have h6':(6:Int) < xs.length:=by omega
   go_enter Tryz.func111,Tryz.ntmps111;go_wp2_with (go_at_call 150;refine (cs_ s xs HX.out _ (by omega)).mono ?_;rintro e w' ⟨g,cap,rfl,hg,hcap,hcm,ht,hB⟩)
   go_ret
   exact ⟨rfl,hB⟩
  ·have h6':¬ (6:Int) < xs.length:=by omega
   have hc6:Lib.countByte s.data.toList 46 < 6:=by omega
   clear hlen;go_enter Tryz.func111,Tryz.ntmps111;go_wp2_with (go_at_call 150;refine (cs_ s xs HX.out _ (by omega)).mono ?_;rintro e w1 ⟨g,cap,rfl,hg,hcap,hcm,ht,hB⟩)
   go_loop [6] (fun i=>∃ k:Nat,k≤xs.length∧i = .int .i64 k∧∀ x ∈ xs.take k,isW x.data.toList = true) (fun i=>xs.length - (intOf i).toNat)
   case atStart=>exact ⟨0,Nat.zero_le _,rfl,by simp⟩
   case round=>
    obtain ⟨k,hk,rfl,ha⟩:=hrel;have HA:Hid (∀ x ∈ xs.take k,isW x.data.toList = true):=ha;clear ha;by_cases hlt:k < xs.length
    ·have hcell:=ht k hlt;have hsk:=hsz k hlt;obtain ⟨x,hx⟩:∃ x,x = xs[k]:=⟨_,rfl⟩
     rw [← hx] at hcell hsk;have HXk:Hid (x = xs[k]):=hx;clear hx;simp only [Nat.zero_add] at hcell;go_wp2_with (go_at_call 151;refine (gP_ _ _ hsk).mono ?_;rintro e w' ⟨rfl,rfl⟩)
     all_goals first
      | (go_ret
         have hr:isW x.data.toList = false:=by first | exact nR_ ‹_› ‹_› | exact Bool.eq_false_iff.2 ‹_›
         exact ⟨au_ (eW_ hl hc6 (x:=x) (by rw [← HX.out,HXk.out];exact List.getElem_mem hlt) hr).symm,hB⟩)
      | (have hr : isW x.data.toList = true := by first | assumption | exact isP_w ‹_› | exact isP_star ‹_› | exact isP_or ‹_›
         exact ⟨⟨k+1,by omega,by go_num,jy_ (p:=fun x=>isW x.data.toList) hlt HA.out (by rw [← HXk.out];exact hr)⟩,by simp [intOf];omega⟩)
    ·go_wp2
     go_ret
     have e:xs.take k = xs:=List.take_of_length_le (by omega);have HA':=HA.out;rw [e] at HA';exact ⟨au_ (ee_ hl hc6 (by rw [← HX.out];exact HA')).symm,hB⟩
theorem oJ_ (s:ByteArray) (w:World) :
 Calls Tryz.prog 111 #[.string s,.bool true] w fun e w'=>e = .returned (.int .i64 (werr isP s.data.toList))∧Below w.heap.size w w':=by
 by_cases h:24 < s.size
 ·rw [fK_ (by simpa using h)];have h':(24:Int) < s.size:=by omega
  go_enter Tryz.func111,Tryz.ntmps111;go_wp2
  go_ret
  exact ⟨rfl,Below.refl _ _⟩
 ·have h':¬ (24:Int) < s.size:=by omega
  have hl:s.data.toList.length≤24:=by simp;omega
  have hlen:=dv_ s.data.toList;obtain ⟨xs,hxs⟩:∃ xs,xs = wlB s.data.toList:=⟨_,rfl⟩
  have hsz:∀ i (hi:i < xs.length),xs[i].size≤maxLen:=fun i hi=>by
   have:=j9_ s xs[i] (by rw [← hxs];exact List.getElem_mem hi);unfold maxLen;omega
  rw [← hxs] at hlen;have HX:Hid (xs = wlB s.data.toList):=hxs;clear hxs;by_cases h6:6 < xs.length
  ·rw [eX_ (by omega)];have h6':(6:Int) < xs.length:=by omega
   go_enter Tryz.func111,Tryz.ntmps111;go_wp2_with (go_at_call 150;refine (cs_ s xs HX.out _ (by omega)).mono ?_;rintro e w' ⟨g,cap,rfl,hg,hcap,hcm,ht,hB⟩)
   go_ret
   exact ⟨rfl,hB⟩
  ·have h6':¬ (6:Int) < xs.length:=by omega
   have hc6:Lib.countByte s.data.toList 46 < 6:=by omega
   clear hlen;go_enter Tryz.func111,Tryz.ntmps111;go_wp2_with (go_at_call 150;refine (cs_ s xs HX.out _ (by omega)).mono ?_;rintro e w1 ⟨g,cap,rfl,hg,hcap,hcm,ht,hB⟩)
   go_loop [6] (fun i=>∃ k:Nat,k≤xs.length∧i = .int .i64 k∧∀ x ∈ xs.take k,isP x.data.toList = true) (fun i=>xs.length - (intOf i).toNat)
   case atStart=>exact ⟨0,Nat.zero_le _,rfl,by simp⟩
   case round=>
    obtain ⟨k,hk,rfl,ha⟩:=hrel;have HA:Hid (∀ x ∈ xs.take k,isP x.data.toList = true):=ha;clear ha;by_cases hlt:k < xs.length
    ·have hcell:=ht k hlt;have hsk:=hsz k hlt;obtain ⟨x,hx⟩:∃ x,x = xs[k]:=⟨_,rfl⟩
     rw [← hx] at hcell hsk;have HXk:Hid (x = xs[k]):=hx;clear hx;simp only [Nat.zero_add] at hcell;go_wp2_with (go_at_call 151;refine (gP_ _ _ hsk).mono ?_;rintro e w' ⟨rfl,rfl⟩)
     all_goals first
      | (go_ret
         have hr:isP x.data.toList = false:=by first | exact nR_ ‹_› ‹_› | exact Bool.eq_false_iff.2 ‹_›
         exact ⟨au_ (eW_ hl hc6 (x:=x) (by rw [← HX.out,HXk.out];exact List.getElem_mem hlt) hr).symm,hB⟩)
      | (have hr : isP x.data.toList = true := by first | assumption | exact isP_w ‹_› | exact isP_star ‹_› | exact isP_or ‹_›
         exact ⟨⟨k+1,by omega,by go_num,jy_ (p:=fun x=>isP x.data.toList) hlt HA.out (by rw [← HXk.out];exact hr)⟩,by simp [intOf];omega⟩)
    ·go_wp2
     go_ret
     have e:xs.take k = xs:=List.take_of_length_le (by omega);have HA':=HA.out;rw [e] at HA';exact ⟨au_ (ee_ hl hc6 (by rw [← HX.out];exact HA')).symm,hB⟩
theorem dV_ (s:ByteArray) (w:World) :
 Calls Tryz.prog 128 #[.string s] w fun e w'=>e = .returned (.int .i64 (kerr s.data.toList))∧Below w.heap.size w w':=by
 go_enter Tryz.func128,Tryz.ntmps128;go_wp2_with (go_at_call 111;refine (oI_ _ _).mono ?_;rintro e w' ⟨rfl,hB⟩)
 go_ret
 exact ⟨rfl,hB⟩
theorem dy_ (s:ByteArray) (w:World) :
 Calls Tryz.prog 64 #[.string s] w fun e w'=>e = .returned (.int .i64 (perr s.data.toList))∧Below w.heap.size w w':=by
 go_enter Tryz.func64,Tryz.ntmps64;go_wp2_with (go_at_call 111;refine (oJ_ _ _).mono ?_;rintro e w' ⟨rfl,hB⟩)
 go_ret
 exact ⟨rfl,hB⟩
theorem cV_ (s:ByteArray) (w:World) :
 Calls Tryz.prog 132 #[.string s] w fun e w'=>e = .returned (.int .i64 (perr s.data.toList))∧Below w.heap.size w w':=by
 go_enter Tryz.func132,Tryz.ntmps132;go_wp2_with (go_at_call 161;refine (ln_ _ _).mono ?_;rintro e w' ⟨rfl,hB⟩)
 go_ret
 exact ⟨rfl,hB⟩
end Go.Proofs.YtlbnkpicnokgoaaGreat
namespace Go.Proofs.YtlbnkpicnokgoaaGreat
open Go.RowKit Go.Shelf
set_option linter.unusedVariables false
set_option maxRecDepth 100000
set_option maxHeartbeats 2000000
attribute [local go_sem] Oper.semAt_some
theorem dk_ {right:List UInt8→Bool} {l:List UInt8} (h:werr right l = 0):l.length≤24∧Lib.countByte l 46 < 6:=by
 unfold werr at h;by_cases h1:24 < l.length∨6 < (wsplit l).length
 ·rw [if_pos h1] at h;cases h
 ·rw [bQ_] at h1;omega
theorem ed_ (s:ByteArray) (w:World) (h:kerr s.data.toList≠0) :
 Calls Tryz.prog 164 #[.string s] w fun e w'=>e = .returned (.tuple #[.slice none 0 0,.int .i64 (kerr s.data.toList)])∧Below w.heap.size w w':=by
 have h':(kerr s.data.toList != 0) = true:=bne_iff_ne.2 h;obtain ⟨c,hc⟩:∃ c,c = kerr s.data.toList:=⟨_,rfl⟩
 have HC:Hid (c = kerr s.data.toList):=hc;rw [← hc] at h' ⊢;clear hc h;go_enter Tryz.func164,Tryz.ntmps164;go_wp2_with (go_at_call 161;refine (hY_ _ _).mono ?_;rintro e w' ⟨rfl,hB⟩;rw [show werr isW s.data.toList = c from HC.out.symm])
 go_ret2
 exact ⟨rfl,hB⟩
theorem mE_ (s:ByteArray) (w:World) (h:kerr s.data.toList = 0) :
 CallsIn Fence.wide 5 Tryz.prog 164 #[.string s] w fun e w'=>∃ v,e = .returned (.tuple #[v,.int .i64 0])∧w'.ownsRow w.heap.size 9 1 v (wlB s.data.toList).length ((wlB s.data.toList).map Value.string)∧Below w.heap.size w w':=by
 obtain ⟨h24,h6⟩:=dk_ h
 have hm : s.size ≤ maxLen := by have : s.size ≤ 24 := by simpa using h24
                                 unfold maxLen;omega
 have hn7:(wlB s.data.toList).length≤6:=by rw [dv_];omega
 have HC:Hid (kerr s.data.toList = 0):=h;clear h;obtain ⟨i0,hi,hz0,hz1,hz2⟩:=info_parts Tryz.info9;refine callsIn_of_wp_marks Tryz.func164 rfl trivial ?_ rfl;simp only [Tryz.ntmps164,List.size_toArray,List.length_cons,List.length_nil,Nat.reduceAdd,Nat.reduceSub,Array.replicate_succ,Array.replicate_zero,List.push_toArray,List.append_toArray,List.nil_append,List.cons_append];gi_wp2_with (first
  | (refine ⟨trivial,?_⟩;gi_at_call 161;refine (callsIn_wide.2 (hY_ _ _)).mono ?_;rintro e w1 ⟨rfl,hB1⟩;rw [show werr isW s.data.toList = 0 from HC.out])
  | (refine ⟨trivial,?_⟩;gi_at_call 179;refine (hn_ _ _ _).mono ?_;rintro e w' ⟨rfl,rfl⟩))
 have hs1:=hB1.size;have bO:=Boxed.new w1 36 (.slice none 0 0);have bN:=Boxed.new (w1.alloc (.cells #[.slice none 0 0] 36)) 9 (.string s);rw [World.size_alloc] at bN;have hB0:Below w.heap.size w ((w1.alloc (.cells #[.slice none 0 0] 36)).alloc (.cells #[.string s] 9)):=(hB1.alloc hs1 _).alloc (by simp;omega) _;refine wpIn_rangeFunc_ownG rfl (by omega) (gf:=199) (lb:=#[.pointer (some ⟨w1.heap.size+1,0,none⟩)]) rfl trivial (enters_of Tryz.func199 (by kernel_rfl) rfl)
  (d5_ 4 (by omega) (w1.heap.size+1) s hm _ (by simp) bN.cell) (fun _ _=>trivial) (fun _ _ _ _ _ _ _ _=>trivial) (Below.refl _ _) (fun _=>rfl)
  (fun pre W=>(∃ v,Boxed W w1.heap.size 36 v∧W.ownsRow w.heap.size 9 1 v pre.length (pre.map (fun x:WB=>Value.string x.1))∧True)∧Below w.heap.size w W)
  (fun _ _ _=>False)
  (OwnFrom.and (Own.from (holdsRow_own w.heap.size w1.heap.size 36 9 1 (fun pre:List WB=>pre.length) (fun pre:List WB=>pre.map (fun x:WB=>Value.string x.1)) (fun _ _=>True)) _) (ownFrom_below (Nat.le_refl _) (by simp;omega)))
  (fun _ _ _ _ _ hs _ _=>hs)
  ⟨⟨_,bO.alloc _,World.ownsRow_nil _ _ _ _,trivial⟩,hB0⟩
  (fun x=>{ tmps:=#[.string s,undef,.slice none 0 0,.int .i64 0,.int .i64 0,.pointer (some ⟨w1.heap.size,0,none⟩),.string x.1,.string s,.int .i64 0,.int .i64 0,.bool false,undef,.string s,.func (.func 199) #[] #[.pointer (some ⟨w1.heap.size+1,0,none⟩)],.string x.1,undef,undef,undef,undef,undef],defers:=[] }) ?assign ?body ?done ?stop
 case assign=>
  intro l x W K hK;gi_wp2
  exact hK
 case body=>
  rintro l pre x W ⟨⟨v,hv,hrow,_⟩,hB⟩ hlt;have hc:=hv.cell;have hBs:=hB.size;gi_wp2_with (gi_at_builtin;refine wpListIn_append_own _ rfl _ _ 36 rfl w.heap.size 9 i0 (.string ⟨#[]⟩) 1 16 Tryz.underlying36 hi hz0 hz1 hz2 rfl (by decide) _ _ _ rfl (hrow.alloc _) ⟨W.heap.size,0,none⟩ 1 1 [.string x.1] rfl rfl (cell_one_new _ _ _) (by simp [Value.oneCell']) (by unfold maxLen;omega) (by omega) (by simp;omega) ?_;intro v' w2 hown' hgrow _;obtain ⟨g',cap',rfl⟩:=ownsRow_succ hown';obtain ⟨hv1,hv2,hr2,hk2,hb2⟩:=hv.appended (by decide) hrow hB.size hs1 hown' hgrow;have hc1:=hv1.cell;have hf1:=hv1.frozen)
  exact ⟨hk2.from _,trivial,⟨_,hv2,by simpa using hr2,trivial⟩,hB.trans hb2⟩
 case done=>
  rintro D ys W hD hys ⟨⟨v,hv,hrow,_⟩,hB⟩ hK;have hc:=hv.cell;have HY:Hid (List.map (fun x:WB=>x.1) ys = wlB s.data.toList):=hys;clear hys;gi_wp2
  refine ⟨by simp,.inl ⟨_,_,rfl,run_takeDeferred hK,?_⟩⟩;have hrow':W.ownsRow w.heap.size 9 1 v (wlB s.data.toList).length ((wlB s.data.toList).map Value.string):=by
   rw [← HY.out];simpa [Function.comp_def] using hrow
  exact ⟨_,results_tmp2 rfl _ _ _,v,rfl,ownsRow_putObj hrow' _ hK rfl,hB.trans (belowK_b (w:=w) (Nat.le_refl _) W D _ _ (by simp at hD;omega) hK rfl rfl)⟩
 case stop=>
  rintro D c pre W _ _ h _;exact h.elim
theorem eR_ (s:ByteArray) (xs:List ByteArray) (hxs:xs = wlB s.data.toList) (w:World) (h:kerr s.data.toList = 0) :
 Calls Tryz.prog 164 #[.string s] w fun e w'=>∃ g cap,e = .returned (.tuple #[.slice (some ⟨g,0,none⟩) xs.length cap,.int .i64 0])∧w.heap.size≤g∧xs.length≤cap∧cap≤maxLen∧a4_ w' g 0 xs∧Below w.heap.size w w':=by
 subst hxs;refine (callsIn_wide.1 (mE_ s w h)).mono ?_;rintro e w' ⟨v,rfl,hown,hB⟩;obtain ⟨g,cap,rfl,h1,h2,h3,h4⟩:=f7_ hown (by intro h;have:=dv_ s.data.toList;rw [h] at this;simp at this);exact ⟨g,cap,rfl,h1,h2,h3,h4,hB⟩
end Go.Proofs.YtlbnkpicnokgoaaGreat
namespace Go.Proofs.YtlbnkpicnokgoaaGreat
open Go.RowKit
set_option linter.unusedVariables false
set_option maxRecDepth 100000
set_option maxHeartbeats 4000000
structure ae_ where
 seq:Int
 key:ByteArray
 body:ByteArray
 again:Bool
 deaths:Int
def ae_.val (x:ae_):Value:=.agg #[.int .i64 x.seq,.string x.key,.string x.body,.bool x.again,.int .i64 x.deaths]
def bN_ (s d:Int) (b:Nat):Bool:=decide (0≤s) && decide (s < 1048576) && decide (b≤12) && decide (0≤d) && decide (d≤2)
def am_ (x:ae_):Bool:=bN_ x.seq x.deaths x.body.size && decide (kerr x.key.data.toList = 0)
theorem k1_ (s:ByteArray) (w:World) :
 Calls Tryz.prog 164 #[.string s] w fun e w'=>∃ v,e = .returned (.tuple #[v,.int .i64 (kerr s.data.toList)])∧Below w.heap.size w w':=by
 by_cases h:kerr s.data.toList = 0
 ·refine (eR_ s _ rfl w h).mono ?_;rintro e w' ⟨g,cap,rfl,_,_,_,_,hB⟩;exact ⟨_,by rw [h],hB⟩
 ·refine (ed_ s w h).mono ?_;rintro e w' ⟨rfl,hB⟩;exact ⟨_,rfl,hB⟩
theorem c1_ (w:World) (v0 v1 v2 v3 v4:Value) (t:TypeId):∃ W1,W1 = w.alloc (.cells #[v0,v1,v2,v3,v4] t)∧Below w.heap.size w W1∧W1.heap.size = w.heap.size+1 ∧
 ∀ W,Below W1.heap.size W1 W→W.cell? ⟨w.heap.size,0,none⟩ = some v0∧W.cell? ⟨w.heap.size,1,none⟩ = some v1∧W.cell? ⟨w.heap.size,2,none⟩ = some v2∧W.cell? ⟨w.heap.size,3,none⟩ = some v3∧W.cell? ⟨w.heap.size,4,none⟩ = some v4:=by
 have hh:(w.alloc (.cells #[v0,v1,v2,v3,v4] t)).heap[w.heap.size]? = some (.cells #[v0,v1,v2,v3,v4] t):=World.alloc_heap_new w _;have hs:(w.alloc (.cells #[v0,v1,v2,v3,v4] t)).heap.size = w.heap.size+1:=by simp
 have hc:∀ i,(w.alloc (.cells #[v0,v1,v2,v3,v4] t)).cell? ⟨w.heap.size,i,none⟩ = #[v0,v1,v2,v3,v4][i]?:=by intro i;unfold World.cell?;simp only;rw [hh];rfl
 refine ⟨_,rfl,(Below.refl _ _).alloc (Nat.le_refl _) _,hs,fun W hW=>?_⟩;have hk:∀ i,W.cell? ⟨w.heap.size,i,none⟩ = #[v0,v1,v2,v3,v4][i]?:=fun i=>(hW.cell (p:=⟨w.heap.size,i,none⟩) (by show w.heap.size < _;omega)).trans (hc i)
 exact ⟨hk 0,hk 1,hk 2,hk 3,hk 4⟩
theorem gw_ (s d:Int) (b:Nat):(bN_ s d b = true∧¬ s < 0∧¬ (1048576:Int)≤s∧¬ (12:Int) < b∧¬ d < 0∧¬ (2:Int) < d) ∨
 (bN_ s d b = false∧(s < 0∨(¬ s < 0∧(1048576:Int)≤s)∨(¬ s < 0∧¬ (1048576:Int)≤s∧(12:Int) < b)∨(¬ s < 0∧¬ (1048576:Int)≤s∧¬ (12:Int) < b∧d < 0)∨(¬ s < 0∧¬ (1048576:Int)≤s∧¬ (12:Int) < b∧¬ d < 0∧(2:Int) < d))):=by
 by_cases h:bN_ s d b = true
 ·left;refine ⟨h,?_⟩;unfold bN_ at h;simp at h;omega
 ·right;refine ⟨by simpa using h,?_⟩;unfold bN_ at h;simp at h;omega
theorem ob_ {x:Int}:(x == 0) = decide (x = 0):=by by_cases h:x = 0 <;> simp [h]
theorem cX_ (s d:Int) (k b:ByteArray) (a:Bool) (w:World) :
 Calls Tryz.prog 133 #[.agg #[.int .i64 s,.string k,.string b,.bool a,.int .i64 d]] w fun e w'=>e = .returned (.bool (am_ ⟨s,k,b,a,d⟩))∧Below w.heap.size w w':=by
 rcases gw_ s d b.size with ⟨h,q1,q2,q3,q4,q5⟩ | ⟨h,q⟩
 ·have E:Hid (am_ ⟨s,k,b,a,d⟩ = decide (kerr k.data.toList = 0)):=by show am_ _ = _;unfold am_;simp only [h,Bool.true_and]
  obtain ⟨c,hc⟩:∃ c,c = kerr k.data.toList:=⟨_,rfl⟩
  have HC:Hid (c = kerr k.data.toList):=hc;clear h hc;go_enter Tryz.func133,Tryz.ntmps133;go_wp2_with fail
  refine (k1_ _ _).mono ?_;rintro e w2 ⟨v,rfl,hB2⟩;rw [← HC.out];go_wp2_with fail
  go_ret
  exact ⟨aq_ (by rw [E.out,← HC.out];exact ob_),((Below.refl _ _).alloc (Nat.le_refl _) _).trans (hB2.mono (by simp))⟩
 ·have E:Hid (am_ ⟨s,k,b,a,d⟩ = false):=by show am_ _ = _;unfold am_;simp only [h,Bool.false_and]
  rw [E.out];clear h E;rcases q with q1 | ⟨q1,q2⟩ | ⟨q1,q2,q3⟩ | ⟨q1,q2,q3,q4⟩ | ⟨q1,q2,q3,q4,q5⟩
  all_goals
   go_enter Tryz.func133,Tryz.ntmps133;go_wp2_with fail
   go_ret
   exact ⟨rfl,(Below.refl _ _).alloc (Nat.le_refl _) _⟩
def inR2 (a b c:Int):Bool:=decide (b≤a∧a≤c)
theorem lA_ (x:ae_):am_ x = (inR2 x.seq 0 1048575 && decide (kerr x.key.data.toList = 0) && decide ((x.body.size:Int)≤12) && inR2 x.deaths 0 2):=by
 unfold am_ bN_ inR2;rw [Bool.eq_iff_iff];simp;omega
theorem iH_ (a b c:Int) (w:World) :
 Calls Tryz.prog 63 #[.int .i64 a,.int .i64 b,.int .i64 c] w fun e w'=>e = .returned (.bool (inR2 a b c))∧w' = w:=by
 by_cases h1:b≤a
 ·have E:inR2 a b c = decide (a≤c):=by unfold inR2;simp [h1]
  rw [E];go_enter Tryz.func63,Tryz.ntmps63;go_wp2
  go_ret
  exact ⟨rfl,rfl⟩
 ·have E:inR2 a b c = false:=by unfold inR2;simp [h1]
  rw [E];go_enter Tryz.func63,Tryz.ntmps63;go_wp2
  go_ret
  exact ⟨rfl,rfl⟩
theorem b2_ (s d:Int) (k b:ByteArray) (a:Bool) (w:World) :
 Calls Tryz.prog 77 #[.agg #[.int .i64 s,.string k,.string b,.bool a,.int .i64 d]] w fun e w'=>e = .returned (.bool (am_ ⟨s,k,b,a,d⟩))∧Below w.heap.size w w':=by
 have E:Hid (am_ ⟨s,k,b,a,d⟩ = (inR2 s 0 1048575 && decide (kerr k.data.toList = 0) && decide ((b.size:Int)≤12) && inR2 d 0 2)):=lA_ ⟨s,k,b,a,d⟩;obtain ⟨r1,h1⟩:∃ r,r = inR2 s 0 1048575:=⟨_,rfl⟩
 obtain ⟨r2,h2⟩:∃ r,r = inR2 d 0 2:=⟨_,rfl⟩
 obtain ⟨c,hc⟩:∃ c,c = kerr k.data.toList:=⟨_,rfl⟩
 have H1:Hid (r1 = inR2 s 0 1048575):=h1;have H2:Hid (r2 = inR2 d 0 2):=h2;have HC:Hid (c = kerr k.data.toList):=hc;rw [← h1,← h2,← hc] at E;clear h1 h2 hc;obtain ⟨q,hq⟩:∃ q,q = am_ ⟨s,k,b,a,d⟩:=⟨_,rfl⟩
 rw [← hq] at E ⊢;clear hq;obtain ⟨W1,hW1,hBw,hs1,hbx⟩:=c1_ w (.int .i64 s) (.string k) (.string b) (.bool a) (.int .i64 d) 48;have HW1:Hid (W1 = _):=hW1;have BX:Hid (∀ W,Below W1.heap.size W1 W→_):=hbx;clear hW1 hbx hs1;cases r1 <;> by_cases hc0:c = 0 <;> by_cases hb:(b.size:Int)≤12 <;> cases r2
 all_goals
  have E':=E.out;simp [hc0,hb] at E';subst E';clear E;go_enter Tryz.func77,Tryz.ntmps77;go_wp2_with fail
  rw [← HW1.out];refine (iH_ _ _ _ _).mono ?_;rintro e w' ⟨rfl,rfl⟩;rw [← H1.out];obtain ⟨d0,d1,d2,d3,d4⟩:=BX.out w' (Below.refl _ _);go_wp2_with (first
   | (go_at_call 63;refine (iH_ _ _ _ _).mono ?_;rintro e w' ⟨rfl,rfl⟩;rw [← H2.out])
   | (go_at_call 128;refine (dV_ _ _).mono ?_;rintro e w2 ⟨rfl,hB2⟩;obtain ⟨d0,d1,d2,d3,d4⟩:=BX.out w2 hB2;rw [← HC.out]))
  go_ret
  exact ⟨rfl,by first | exact hBw | exact hBw.trans (hB2.mono hBw.size)⟩
theorem tk (i:Nat) {P:Program} {ops:Array Oper} {Q:Exit→Act→World→Prop} {md:Region.Mode} {S:World→Prop} {oi:Oper} {v:Value} {fuel:Nat} {listed l':Array Bool} {a a':Act} {w:World} (h:wpAnyH P md ops Q S fuel l' a' w) (hi:ops[i]? = some oi:=by rfl)
 (hs:Region.noSelect ops = true:=by kernel_rfl) (hf:Region.free md ops listed i = true:=by kernel_rfl) (hr:(Region.ready md ops listed).contains i = true:=by kernel_rfl)
 (hy:YieldsIf P ops S oi v a:=by refine Or.inl ⟨by kernel_rfl,?_⟩;intro w hSw;(try dsimp only at hSw);go_simp;(try with_reducible rfl))
 (hQ:∀ c a w,Q (.panic c) (a.put oi.dst v) w→Q (.panic c) a w:=by exact fun _ _ _ h=>h) (hS:S w:=by assumption)
 (hl:listed.setIfInBounds i true = l':=by (try simp only [List.setIfInBounds_toArray,List.set_cons_zero,List.set_cons_succ]);exact rfl)
 (ha:a.put oi.dst v = a':=by (try simp only [Act.put,List.getElem_toArray,List.getElem_cons_succ,List.getElem_cons_zero,List.setIfInBounds_toArray,List.set_cons_zero,List.set_cons_succ]);exact rfl) :
 wpAnyH P md ops Q S (fuel+1) listed a w:=
 wpAnyH_take hi hs hf hr hQ hy hS (by rw [hl,ha];exact h)
theorem sk (i:Nat) {P:Program} {ops:Array Oper} {Q:Exit→Act→World→Prop} {md:Region.Mode} {S:World→Prop} {oi:Oper} {fuel:Nat} {listed l':Array Bool} {a a':Act} {w:World} (h:wpAnyH P md ops Q S fuel l' a' w) (hi:ops[i]? = some oi:=by rfl)
 (hs:Region.noSelect ops = true:=by kernel_rfl) (hf:Region.free md ops listed i = true:=by kernel_rfl) (hr:(Region.ready md ops listed).contains i = true:=by kernel_rfl)
 (hy:YieldsIf P ops S oi undef a:=by exact Or.inr ⟨by kernel_rfl,rfl⟩)
 (hQ:∀ c a w,Q (.panic c) (a.put oi.dst undef) w→Q (.panic c) a w:=by exact fun _ _ _ h=>h) (hS:S w:=by assumption)
 (hl:listed.setIfInBounds i true = l':=by (try simp only [List.setIfInBounds_toArray,List.set_cons_zero,List.set_cons_succ]);exact rfl)
 (ha:a.put oi.dst undef = a':=by (try simp only [Act.put,List.getElem_toArray,List.getElem_cons_succ,List.getElem_cons_zero,List.setIfInBounds_toArray,List.set_cons_zero,List.set_cons_succ]);exact rfl) :
 wpAnyH P md ops Q S (fuel+1) listed a w:=
 wpAnyH_take hi hs hf hr hQ hy hS (by rw [hl,ha];exact h)
theorem nrm {P:Program} {ops:Array Oper} {Q:Exit→Act→World→Prop} {md:Region.Mode} {S:World→Prop} {fuel:Nat} {l l':Array Bool} {a a':Act} {w:World} (h:wpAnyH P md ops Q S fuel l' a' w)
 (hl:l = l':=by (try simp only [List.setIfInBounds_toArray,List.set_cons_zero,List.set_cons_succ]);exact rfl)
 (ha:a = a':=by (try simp only [Act.put,List.getElem_toArray,List.getElem_cons_succ,List.getElem_cons_zero,List.setIfInBounds_toArray,List.set_cons_zero,List.set_cons_succ]);exact rfl) :
 wpAnyH P md ops Q S fuel l a w:=by rw [hl,ha];exact h
theorem rdy (i:Nat) {P:Program} {ops:Array Oper} {Q:Exit→Act→World→Prop} {md:Region.Mode} {S:World→Prop} {o:Oper} {fuel:Nat} {listed:Array Bool} {a:Act} {w:World}
 (h:∀ K':Act→World→Prop,Shut (∀ a w,S w→(S w→wpAnyH P md ops Q S fuel (listed.setIfInBounds i true) a w)→K' a w)→if Region.wanted o (yielded ops a.tmps) = true then Oper.wp P o a w K' Q else K' (a.put o.dst undef) w)
 (ho:ops[i]? = some o:=by rfl) (hr:Region.ready md ops listed = [i]:=by kernel_rfl):wpAnyH P md ops Q S (fuel+1) listed a w:=
 wpAnyH_ready hr (by simp) (AllReadyH.cons ho h AllReadyH.nil)
def aJ_:Int→List ae_→Bool
 | _,[]=>true
 | last,x :: r=>am_ x && decide (last < x.seq) && aJ_ x.seq r
def at_ (xs:List ae_):Bool:=aJ_ (-1) xs
def bw_ (xs:List ae_):Int:=if at_ xs = true then 0 else 1
def aR_ (W:World) (g o:Nat) (x:ae_):Prop:=
 W.cell? ⟨g,o,none⟩ = some (.int .i64 x.seq)∧W.cell? ⟨g,o+1,none⟩ = some (.string x.key)∧W.cell? ⟨g,o+2,none⟩ = some (.string x.body)∧W.cell? ⟨g,o+3,none⟩ = some (.bool x.again)∧W.cell? ⟨g,o+4,none⟩ = some (.int .i64 x.deaths)
theorem aR_.keep {W W':World} {g o:Nat} {x:ae_} {b:Nat} (h:aR_ W g o x) (hB:Below b W W') (hg:g < b):aR_ W' g o x:=
 ⟨(hB.cell (p:=⟨g,_,none⟩) hg).trans h.1,(hB.cell (p:=⟨g,_,none⟩) hg).trans h.2.1,(hB.cell (p:=⟨g,_,none⟩) hg).trans h.2.2.1,(hB.cell (p:=⟨g,_,none⟩) hg).trans h.2.2.2.1,(hB.cell (p:=⟨g,_,none⟩) hg).trans h.2.2.2.2⟩
def ai_ (W:World) (a:Option Addr) (xs:List ae_):Prop:=xs = []∨∃ g o,a = some ⟨g,o,none⟩∧g < W.heap.size∧∀ i (h:i < xs.length),aR_ W g (o+i * 5) xs[i]
theorem ai_.cells {W:World} {a:Option Addr} {xs:List ae_} (h:ai_ W a xs) (hne:0 < xs.length):∃ g o,a = some ⟨g,o,none⟩∧g < W.heap.size∧∀ i (h:i < xs.length),aR_ W g (o+i * 5) xs[i]:=by
 rcases h with h | h
 ·rw [h] at hne;simp at hne
 ·exact h
theorem ai_.keep {W W':World} {a:Option Addr} {xs:List ae_} (h:ai_ W a xs) (hB:Below W.heap.size W W'):ai_ W' a xs:=by
 rcases h with h | ⟨g,o,ha,hg,h⟩
 ·exact .inl h
 ·exact .inr ⟨g,o,ha,Nat.lt_of_lt_of_le hg hB.size,fun i hi=>(h i hi).keep hB hg⟩
theorem dp_ {last:Int} {x:ae_} {r:List ae_} (h:am_ x = false∨x.seq≤last):aJ_ last (x :: r) = false:=by
 unfold aJ_;rcases h with h | h
 ·simp [h]
 ·have:¬ last < x.seq:=by omega
  simp [this]
theorem c4_ {last:Int} {x:ae_} {r:List ae_} (h:am_ x = true) (h2:¬ x.seq≤last):aJ_ last (x :: r) = aJ_ x.seq r:=by
 have:last < x.seq:=by omega
 conv=>lhs;unfold aJ_
 simp [h,this]
theorem bu_ (xs:List ae_) (a:Option Addr) (n c:Nat) (w:World) (hn:xs.length = n) (hm:n≤maxLen) (hp:ai_ w a xs) :
 Calls Tryz.prog 94 #[.slice a n c] w fun e w'=>e = .returned (.int .i64 (bw_ xs))∧Below w.heap.size w w':=by
 have HN:Hid (xs.length = n):=hn;have HP:Hid (ai_ w a xs):=hp;unfold maxLen at hm;clear hn hp;go_enter Tryz.func94,Tryz.ntmps94;go_wp2
 go_loopw [3,8] (fun l i wr=>∃ (k:Nat) (last:Int),k≤n∧i = .int .i64 k∧l = .int .i64 last∧at_ xs = aJ_ last (xs.drop k)∧Below w.heap.size w wr) (fun _ i _=>n - (intOf i).toNat)
 case atStart=>exact ⟨0,-1,Nat.zero_le _,rfl,rfl,rfl,Below.refl _ _⟩
 case round=>
  obtain ⟨k,last,hk,rfl,rfl,ha,hB⟩:=hrel;have HA:Hid (at_ xs = aJ_ last (xs.drop k)):=ha;have hBs:=hB.size;clear ha;by_cases hlt:k < n
  ·have hkl:k < xs.length:=by rw [HN.out];exact hlt
   obtain ⟨g,o,rfl,hg,hx⟩:=HP.out.cells (by omega);obtain ⟨x,hxx⟩:∃ x,x = xs[k]:=⟨_,rfl⟩
   have hc:=(hx k hkl).keep hB hg;rw [← hxx] at hc;have hd:xs.drop k = x :: xs.drop (k+1):=by rw [hxx];exact List.drop_eq_getElem_cons hkl
   clear hx hxx;obtain ⟨s,ky,b,ag,d⟩:=x;obtain ⟨c0,c1,c2,c3,c4⟩:=hc;dsimp only at c0 c1 c2 c3 c4;obtain ⟨r,hr⟩:∃ r,r = am_ ⟨s,ky,b,ag,d⟩:=⟨_,rfl⟩
   have HR:Hid (r = am_ ⟨s,ky,b,ag,d⟩):=hr;obtain ⟨W1,hW1,hBw,hs1,hbx⟩:=c1_ wr (.int .i64 s) (.string ky) (.string b) (.bool ag) (.int .i64 d) 48;have HW1:Hid (W1 = _):=hW1;have BX:Hid (∀ W,Below W1.heap.size W1 W→_):=hbx;clear hW1 hbx hs1;have hB1:Below w.heap.size w W1:=hB.trans (hBw.mono hBs);have s1:=hB1.size;cases r with
   | false =>
     have HF:Hid (bw_ xs = 1):=by show bw_ xs = 1;unfold bw_;rw [HA.out,hd,dp_ (.inl hr.symm)];rfl
     clear hd hr;go_wp2_with fail
     rw [← HW1.out];refine (cX_ _ _ _ _ _ _).mono ?_;rintro e w2 ⟨rfl,hB2⟩;rw [← HR.out];go_wp2_with fail
     go_ret
     exact ⟨au_ HF.out.symm,hB1.trans (hB2.mono s1)⟩
   | true =>
     by_cases hle:s≤last
     ·have HF:Hid (bw_ xs = 1):=by show bw_ xs = 1;unfold bw_;rw [HA.out,hd,dp_ (.inr hle)];rfl
      clear hd hr;go_wp2_with fail
      rw [← HW1.out];refine (cX_ _ _ _ _ _ _).mono ?_;rintro e w2 ⟨rfl,hB2⟩;obtain ⟨d0,d1,d2,d3,d4⟩:=BX.out w2 hB2;rw [← HR.out];go_wp2_with fail
      go_ret
      exact ⟨au_ HF.out.symm,hB1.trans (hB2.mono s1)⟩
     ·have HF:Hid (at_ xs = aJ_ s (xs.drop (k+1))):=by show at_ xs = _;rw [HA.out,hd,c4_ hr.symm hle]
      clear hd hr;go_wp2_with fail
      rw [← HW1.out];refine (cX_ _ _ _ _ _ _).mono ?_;rintro e w2 ⟨rfl,hB2⟩;obtain ⟨d0,d1,d2,d3,d4⟩:=BX.out w2 hB2;rw [← HR.out];go_wp2_with fail
      go_roundw
      case rel=>exact ⟨k+1,s,by omega,by go_num,rfl,HF.out,hB1.trans (hB2.mono s1)⟩
      case measure=>simp [intOf];omega
  ·have e:xs.drop k = []:=List.drop_eq_nil_of_le (by rw [HN.out];omega);have HF:Hid (bw_ xs = 0):=by show bw_ xs = 0;unfold bw_;rw [HA.out,e];rfl
   go_wp2
   go_ret
   exact ⟨au_ HF.out.symm,hB⟩
theorem gQ_ {x:ae_} (h:am_ x = true):0≤x.seq:=by unfold am_ bN_ at h;simp at h;omega
theorem i5_ (k:Nat) (h:k≤9223372036854775807):IntKind.i64.wrap (k:Int) = (k:Int):=by rw [IntKind.wrap_i64];omega
theorem bud_ {b:Nat} {W w':World} (h:Below b W.drew w'):Below b W w':=⟨h.os,h.tape,h.output,h.size,h.block⟩
def do_ (xs:List ae_) (k:Nat):Int:=if k = 0 then -1 else (xs[k - 1]?.map ae_.seq).getD (-1)
theorem ij_ (xs:List ae_) (a:Option Addr) (n c:Nat) (w:World) (hn:xs.length = n) (hm:n≤maxLen) (hp:ai_ w a xs) :
 Calls Tryz.prog 76 #[.slice a n c] w fun e w'=>e = .returned (.bool (at_ xs))∧Below w.heap.size w w':=by
 have HN:Hid (xs.length = n):=hn;have HP:Hid (ai_ w a xs):=hp;unfold maxLen at hm;clear hn hp;go_enter Tryz.func76,Tryz.ntmps76;go_wp2
 go_loopw [3] (fun i wr=>∃ (k:Nat),k≤n∧i = .int .i64 k∧at_ xs = aJ_ (do_ xs k) (xs.drop k)∧Below w.heap.size w wr) (fun i _=>n - (intOf i).toNat)
 case atStart=>exact ⟨0,Nat.zero_le _,rfl,rfl,Below.refl _ _⟩
 case round=>
  obtain ⟨k,hk,rfl,ha,hB⟩:=hrel;have HA:Hid (at_ xs = aJ_ (do_ xs k) (xs.drop k)):=ha;have hBs:=hB.size;clear ha;by_cases hlt:k < n
  ·have hkl:k < xs.length:=by rw [HN.out];exact hlt
   obtain ⟨g,o,rfl,hg,hx⟩:=HP.out.cells (by omega);obtain ⟨x,hxx⟩:∃ x,x = xs[k]:=⟨_,rfl⟩
   have hc:=(hx k hkl).keep hB hg;rw [← hxx] at hc;have hd:xs.drop k = x :: xs.drop (k+1):=by rw [hxx];exact List.drop_eq_getElem_cons hkl
   have HL1:Hid (do_ xs (k+1) = x.seq):=by show do_ xs (k+1) = _;unfold do_;rw [if_neg (by omega)];simp [hkl,hxx]
   clear hxx;obtain ⟨s,ky,b,ag,d⟩:=x;obtain ⟨c0,c1,c2,c3,c4⟩:=hc;dsimp only at c0 c1 c2 c3 c4;obtain ⟨r,hr⟩:∃ r,r = am_ ⟨s,ky,b,ag,d⟩:=⟨_,rfl⟩
   have HR:Hid (r = am_ ⟨s,ky,b,ag,d⟩):=hr;have hgw:g < wr.heap.size:=by omega
   obtain ⟨W1,hW1⟩:∃ W1,W1 = wr:=⟨_,rfl⟩
   cases r with
   | false =>
     clear hx;have j1:(0:Int)≤(k:Int):=by omega
     have j2:(k:Int) < n:=by omega
     have HF:Hid (at_ xs = false):=by show at_ xs = false;rw [HA.out,hd,dp_ (.inl hr.symm)]
     clear hd hr;go_wp2_with fail
     refine wp_region_held_drew (S:=fun w'=>w'.cell? ⟨g,o+k * 5,none⟩ = some (.int .i64 s)∧w'.cell? ⟨g,o+k * 5+1,none⟩ = some (.string ky)∧w'.cell? ⟨g,o+k * 5+2,none⟩ = some (.string b)∧w'.cell? ⟨g,o+k * 5+3,none⟩ = some (.bool ag)∧w'.cell? ⟨g,o+k * 5+4,none⟩ = some (.int .i64 d)) (by kernel_rfl) ⟨c0,c1,c2,c3,c4⟩ (fun hHeld=>?_);refine tk 0 ?_;refine tk 1 ?_;refine tk 2 ?_;refine tk 3 ?_;refine rdy 4 (fun K hK=>?_);go_simp;refine (b2_ _ _ _ _ _ _).mono ?_;rintro e w2 ⟨rfl,hB2'⟩;have hB2:=bud_ hB2';rw [← HR.out];refine hK.out _ _ ⟨(hB2.cell (p:=⟨g,_,none⟩) hgw).trans c0,(hB2.cell (p:=⟨g,_,none⟩) hgw).trans c1,(hB2.cell (p:=⟨g,_,none⟩) hgw).trans c2,(hB2.cell (p:=⟨g,_,none⟩) hgw).trans c3,(hB2.cell (p:=⟨g,_,none⟩) hgw).trans c4⟩ (fun hHeld2=>?_);clear hHeld;try simp only [Act.put,List.getElem_toArray,List.getElem_cons_succ,List.getElem_cons_zero,List.setIfInBounds_toArray,List.set_cons_zero,List.set_cons_succ]
     clear hK K;refine tk 5 ?_;refine tk 6 ?_;refine sk 7 ?_;refine sk 8 ?_;refine sk 9 ?_;refine sk 10 ?_;refine sk 11 ?_;refine sk 12 ?_;refine sk 13 ?_;refine sk 14 ?_;refine sk 15 ?_;refine sk 16 ?_;refine sk 17 ?_;refine sk 18 ?_;refine sk 19 ?_;refine sk 20 ?_;refine sk 21 ?_;refine sk 22 ?_;refine tk 23 ?_;refine wpAnyH_done (by kernel_rfl) ?_ _
     all_goals
      go_wp2_with fail
      go_ret
      exact ⟨aq_ HF.out.symm,hB.trans (hB2.mono hBs)⟩
   | true =>
     rcases Nat.eq_zero_or_pos k with hk0 | hk0
     ·subst hk0;clear hx;simp only [Nat.zero_mul,Nat.add_zero] at c0 c1 c2 c3 c4;have j2:(0:Int) < n:=by omega
      have HF:Hid (at_ xs = aJ_ s (xs.drop 1)):=by
       show at_ xs = _;rw [HA.out,hd,c4_ hr.symm (by have:=gQ_ hr.symm;unfold do_;simp;dsimp only at this;omega)]
      clear hd hr;go_wp2_with fail
      refine wp_region_held_drew (S:=fun w'=>w'.cell? ⟨g,o,none⟩ = some (.int .i64 s)∧w'.cell? ⟨g,o+1,none⟩ = some (.string ky)∧w'.cell? ⟨g,o+2,none⟩ = some (.string b)∧w'.cell? ⟨g,o+3,none⟩ = some (.bool ag)∧w'.cell? ⟨g,o+4,none⟩ = some (.int .i64 d)) (by kernel_rfl) ⟨c0,c1,c2,c3,c4⟩ (fun hHeld=>?_);refine tk 0 ?_;refine tk 1 ?_;refine tk 2 ?_;refine tk 3 ?_;refine rdy 4 (fun K hK=>?_);go_simp;refine (b2_ _ _ _ _ _ _).mono ?_;rintro e w2 ⟨rfl,hB2'⟩;have hB2:=bud_ hB2';rw [← HR.out];refine hK.out _ _ ⟨(hB2.cell (p:=⟨g,_,none⟩) hgw).trans c0,(hB2.cell (p:=⟨g,_,none⟩) hgw).trans c1,(hB2.cell (p:=⟨g,_,none⟩) hgw).trans c2,(hB2.cell (p:=⟨g,_,none⟩) hgw).trans c3,(hB2.cell (p:=⟨g,_,none⟩) hgw).trans c4⟩ (fun hHeld2=>?_);clear hHeld;try simp only [Act.put,List.getElem_toArray,List.getElem_cons_succ,List.getElem_cons_zero,List.setIfInBounds_toArray,List.set_cons_zero,List.set_cons_succ]
      clear hK K;refine tk 5 ?_;refine tk 6 ?_;refine tk 7 ?_;refine tk 8 ?_;refine tk 9 ?_;refine sk 10 ?_;refine sk 11 ?_;refine sk 12 ?_;refine sk 13 ?_;refine sk 14 ?_;refine sk 15 ?_;refine sk 16 ?_;refine sk 17 ?_;refine sk 18 ?_;refine sk 19 ?_;refine sk 20 ?_;refine sk 21 ?_;refine tk 22 ?_;refine tk 23 ?_;refine wpAnyH_done (by kernel_rfl) ?_ _
      all_goals
       go_wp2_with fail
       go_roundw
       case rel=>exact ⟨1,by omega,by go_num,by rw [HF.out,HL1.out],hB.trans (hB2.mono hBs)⟩
       case measure=>simp [intOf];omega
     ·obtain ⟨k',rfl⟩:∃ k',k = k' + 1:=⟨k - 1,by omega⟩
      have hkl':k' < xs.length:=by omega
      have cp:=((hx k' hkl').keep hB hg).1;have HL0:Hid (do_ xs (k' + 1) = xs[k'].seq):=by show do_ xs (k' + 1) = _;unfold do_;rw [if_neg (by omega)];simp [hkl']
      obtain ⟨l,hl⟩:∃ l,l = xs[k'].seq:=⟨_,rfl⟩
      rw [← hl] at cp HL0;clear hx hl hk0;have j0:(0:Int) < (k':Int)+1:=by omega
      have j1:(0:Int)≤(k':Int)+1:=by omega
      have j2:(k':Int)+1 < n:=by omega
      have j3:(k':Int) < n:=by omega
      have j4:(0:Int)≤(k':Int):=by omega
      have j5:IntKind.i64.wrap (k':Int) = (k':Int):=i5_ _ (by omega);by_cases hle:s≤l
      ·have HF:Hid (at_ xs = false):=by show at_ xs = false;rw [HA.out,hd,dp_ (.inr (by rw [HL0.out];exact hle))]
       clear hd hr;go_wp2_with fail
       go_region_held3 (fun w'=>w'.cell? ⟨g,o+(k' + 1) * 5,none⟩ = some (.int .i64 s)∧w'.cell? ⟨g,o+(k' + 1) * 5+1,none⟩ = some (.string ky)∧w'.cell? ⟨g,o+(k' + 1) * 5+2,none⟩ = some (.string b)∧w'.cell? ⟨g,o+(k' + 1) * 5+3,none⟩ = some (.bool ag)∧w'.cell? ⟨g,o+(k' + 1) * 5+4,none⟩ = some (.int .i64 d)∧w'.cell? ⟨g,o+k' * 5,none⟩ = some (.int .i64 l))
        (go_keep)
        (first | (go_at_call 77;refine (b2_ _ _ _ _ _ _).mono ?_;rintro e w2 ⟨rfl,hB2'⟩;have hB2:=bud_ hB2';rw [← HR.out];have e0:=(hB2.cell (p:=⟨g,_,none⟩) hgw).trans c0;have e1:=(hB2.cell (p:=⟨g,_,none⟩) hgw).trans c1;have e2:=(hB2.cell (p:=⟨g,_,none⟩) hgw).trans c2;have e3:=(hB2.cell (p:=⟨g,_,none⟩) hgw).trans c3;have e4:=(hB2.cell (p:=⟨g,_,none⟩) hgw).trans c4;have ep:=(hB2.cell (p:=⟨g,_,none⟩) hgw).trans cp))
       all_goals
        go_wp2_with fail
        go_ret
        exact ⟨aq_ HF.out.symm,hB.trans (hB2.mono hBs)⟩
      ·have HF:Hid (at_ xs = aJ_ s (xs.drop (k' + 1+1))):=by show at_ xs = _;rw [HA.out,hd,c4_ hr.symm (by rw [HL0.out];exact hle)]
       clear hd hr;go_wp2_with fail
       go_region_held3 (fun w'=>w'.cell? ⟨g,o+(k' + 1) * 5,none⟩ = some (.int .i64 s)∧w'.cell? ⟨g,o+(k' + 1) * 5+1,none⟩ = some (.string ky)∧w'.cell? ⟨g,o+(k' + 1) * 5+2,none⟩ = some (.string b)∧w'.cell? ⟨g,o+(k' + 1) * 5+3,none⟩ = some (.bool ag)∧w'.cell? ⟨g,o+(k' + 1) * 5+4,none⟩ = some (.int .i64 d)∧w'.cell? ⟨g,o+k' * 5,none⟩ = some (.int .i64 l))
        (go_keep)
        (first | (go_at_call 77;refine (b2_ _ _ _ _ _ _).mono ?_;rintro e w2 ⟨rfl,hB2'⟩;have hB2:=bud_ hB2';rw [← HR.out];have e0:=(hB2.cell (p:=⟨g,_,none⟩) hgw).trans c0;have e1:=(hB2.cell (p:=⟨g,_,none⟩) hgw).trans c1;have e2:=(hB2.cell (p:=⟨g,_,none⟩) hgw).trans c2;have e3:=(hB2.cell (p:=⟨g,_,none⟩) hgw).trans c3;have e4:=(hB2.cell (p:=⟨g,_,none⟩) hgw).trans c4;have ep:=(hB2.cell (p:=⟨g,_,none⟩) hgw).trans cp))
       all_goals
        go_wp2_with fail
        go_roundw
        case rel=>exact ⟨k' + 1+1,by omega,by go_num,by rw [HF.out,HL1.out],hB.trans (hB2.mono hBs)⟩
        case measure=>simp [intOf];omega
  ·have e:xs.drop k = []:=List.drop_eq_nil_of_le (by rw [HN.out];omega);have HF:Hid (at_ xs = true):=by show at_ xs = true;rw [HA.out,e];unfold aJ_;rfl
   go_wp2
   go_ret
   exact ⟨aq_ HF.out.symm,hB⟩
theorem Tryz.infoItem:(Tryz.prog.info? 48).map (fun i=>(i.zero,i.size,i.bytes)) = some (some (.agg #[.int .i64 0,.string ⟨#[]⟩,.string ⟨#[]⟩,.bool false,.int .i64 0]),5,56):=by kernel_rfl
def ae_.cells (x:ae_):List Value:=[.int .i64 x.seq,.string x.key,.string x.body,.bool x.again,.int .i64 x.deaths]
def al_ (xs:List ae_):List Value:=xs.flatMap ae_.cells
theorem ca_ (xs:List ae_):(al_ xs).length = xs.length * 5:=by
 induction xs with
 | nil=>rfl
 | cons x r ih=>unfold al_ at ih ⊢;rw [List.flatMap_cons,List.length_append,ih];simp [ae_.cells];omega
theorem dS_:∀ (xs:List ae_) (i:Nat) (h:i < xs.length) (j:Nat),j < 5→(al_ xs)[i * 5+j]? = (xs[i].cells)[j]?
 | [],i,h,_,_=>by simp at h
 | x :: r, 0, h, j, hj => by
   unfold al_;rw [List.flatMap_cons,List.getElem?_append_left (by simp [ae_.cells];omega)];simp
 | x :: r, i + 1, h, j, hj => by
   have ih:=dS_ r i (by simpa using h) j hj;unfold al_ at ih ⊢;rw [List.flatMap_cons,List.getElem?_append_right (by simp [ae_.cells];omega)];have e:(i+1) * 5+j - x.cells.length = i * 5+j:=by simp [ae_.cells];omega
   rw [e,ih];simp
theorem fy_ (xs ys:List ae_):al_ (xs ++ ys) = al_ xs ++ al_ ys:=by unfold al_;rw [List.flatMap_append]
theorem cb_ (xs:List ae_):∀ u ∈ al_ xs,u.oneCell' = true:=by
 intro u hu;obtain ⟨x,_,hx⟩:=List.mem_flatMap.1 hu;simp [ae_.cells] at hx;rcases hx with rfl | rfl | rfl | rfl | rfl <;> rfl
theorem aR_.of {W:World} {g o:Nat} {x:ae_} (h:∀ j,j < 5→W.cell? ⟨g,o+j,none⟩ = x.cells[j]?):aR_ W g o x:=
 ⟨h 0 (by omega),h 1 (by omega),h 2 (by omega),h 3 (by omega),h 4 (by omega)⟩
theorem aR_.at {W:World} {g o:Nat} {x:ae_} (h:aR_ W g o x) {j:Nat} (hj:j < 5):W.cell? ⟨g,o+j,none⟩ = x.cells[j]?:=by
 obtain ⟨h0,h1,h2,h3,h4⟩:=h;match j,hj with
 | 0,_=>exact h0
 | 1,_=>exact h1
 | 2,_=>exact h2
 | 3,_=>exact h3
 | 4,_=>exact h4
theorem cN_ (g o j:Nat):(⟨g,o,none⟩:Addr).add j = ⟨g,o+j,none⟩:=by unfold Addr.add;split <;> simp_all
theorem it_ {W:World} {base:Nat} {T:TypeId} {v:Value} {n:Nat} {xs:List ae_} (h:W.ownsRow base T 5 v n (al_ xs)) :
 n = xs.length∧∃ a c,v = .slice a n c∧n≤c∧c≤maxLen∧(a = none→c = 0∧xs = [])∧ai_ W a xs:=by
 have hn:n = xs.length:=by have:=h.1;rw [ca_] at this;omega
 refine ⟨hn,?_⟩;rcases h.2 with ⟨rfl,h0⟩ | ⟨g,cap,cur,rfl,hb,hg,h1,h2,_⟩
 ·have hx:xs = []:=List.length_eq_zero_iff.1 (by omega);exact ⟨none,0,by rw [h0],by omega,by unfold maxLen;omega,fun _=>⟨rfl,hx⟩,.inl hx⟩
 ·refine ⟨_,cap,rfl,h1,h2,(fun h=>by cases h),.inr ⟨g,0,rfl,(Array.getElem?_eq_some_iff.1 hg).1,fun i hi=>aR_.of fun j hj=>?_⟩⟩;have hc:=dS_ xs i hi j hj;have hv:xs[i].cells[j]? = some (xs[i].cells[j]'(by simpa [ae_.cells] using hj)):=List.getElem?_eq_getElem _;rw [hv] at hc ⊢;have:=h.cells (g:=g) rfl _ _ hc;rw [cN_] at this;rw [← Nat.add_assoc] at this;exact this
theorem kq_ {W:World} {ad:Addr} {ys:List ae_} (h:ai_ W (some ad) ys):∀ j u,(al_ ys)[j]? = some u→W.cell? (ad.add j) = some u:=by
 intro j u hj;have hjl:j < ys.length * 5:=by
  rcases Nat.lt_or_ge j (ys.length * 5) with h | h
  ·exact h
  ·rw [List.getElem?_eq_none (by rw [ca_];exact h)] at hj;cases hj
 rcases h with rfl | ⟨g,o,ha,_,h⟩
 ·simp at hjl
 ·cases ha;have hi:j / 5 < ys.length:=by omega
  have hr:j % 5 < 5:=Nat.mod_lt _ (by omega);have hc:=(h (j / 5) hi).at hr;have e:j / 5 * 5+j % 5 = j:=by omega
  have hk:=dS_ ys (j / 5) hi (j % 5) hr;rw [e] at hk;rw [cN_];rw [Nat.add_assoc,e] at hc;rw [hc,← hk,hj]
theorem gL_ (w:World) (row:Option Nat):w.grownBy w row:=⟨rfl,rfl,rfl,Nat.le_refl _,fun _ _ _=>rfl⟩
theorem bo_ {w:World} {ops:Array Oper} {rest:List Oper} {o:Oper} {act:Act} {Q:Exit→Act→World→Prop} (hgd:o.guard = none) (s x:Operand)
 (ho:o.op = .call { callee:=.builtin .append,args:=#[s,x],argTypes:=#[46,46] })
 (base:Nat) (v:Value) (n:Nat) (xs:List ae_) (hs:act.eval s = v) (hown:w.ownsRow base 48 5 v n (al_ xs))
 (a:Option Addr) (m c:Nat) (ys:List ae_) (hx:act.eval x = .slice a m c) (hm:ys.length = m) (hz:a = none→c = 0∧ys = []) (hT:ai_ w a ys)
 (hb:n+m≤100000000) (hbase:base≤w.heap.size)
 (h:∀ v' w',w'.ownsRow base 48 5 v' (n+m) (al_ (xs ++ ys))→w.grownBy w' v.ownBlock→wpList Tryz.prog ops Q rest (act.put o.dst v') w'):wpList Tryz.prog ops Q (o :: rest) act w:=by
 obtain ⟨i0,hi,hz0,hz1,hz2⟩:=info_parts Tryz.infoItem;cases a with
 | none =>
   obtain ⟨rfl,rfl⟩:=hz rfl;simp at hm;subst hm;exact wpList_append_own_none hgd s x _ ho base _ i0 5 Tryz.underlying46 hi v n _ hs hown hx (by
    have:=h v w (by simpa using hown) (gL_ _ _);exact this)
 | some ad =>
   exact wpList_append_own _ hgd s x _ ho base _ i0 _ 5 56 Tryz.underlying46 hi hz0 hz1 hz2 rfl (by decide) v n _ hs hown ad m c (al_ ys) hx (by rw [ca_,hm]) (kq_ hT) (cb_ ys) (by unfold maxLen;omega) (by omega) hbase (fun v' w' h1 h2 _=>h v' w' (by rw [fy_];exact h1) h2)
theorem na_ (n:Nat) (w:World) (h1:0 < n) (h2:n≤100000000) :
 Calls Tryz.prog 193 #[.slice none 0 0,.int .i64 n] w fun e w'=>∃ v,e = .returned v∧w'.ownsRow w.heap.size 48 5 v 0 (al_ [])∧Below w.heap.size w w':=by
 obtain ⟨i0,hi,hz0,hz1,hz2⟩:=info_parts Tryz.infoItem;have hrun:=Lib.run_append_nil_zeros (P:=Tryz.prog) w 46 3 46 48 i0 _ .i64 .i64 Tryz.underlying46 Tryz.underlying3 hi hz0 n h1 (by omega) (by omega) (by rw [hz2];omega);obtain ⟨cap,hcap⟩:∃ cap,cap = grownCap w n 0 48:=⟨_,rfl⟩
 have hge:n≤cap:=by rw [hcap];exact grownCap_ge _ _ _ _
 have hle:cap≤maxLen:=by rw [hcap];exact grownCap_le_maxLen _ _ _ _ (by unfold maxLen;omega)
 rw [← hcap] at hrun;obtain ⟨cs,hcs⟩:∃ cs,cs = Builtin.zeroCells (Value.agg #[.int .i64 0,.string ⟨#[]⟩,.string ⟨#[]⟩,.bool false,.int .i64 0]).cells n ++ Builtin.zeroCells (Value.agg #[.int .i64 0,.string ⟨#[]⟩,.string ⟨#[]⟩,.bool false,.int .i64 0]).cells (cap - n):=⟨_,rfl⟩
 have hsz:cs.size = cap * 5:=by rw [hcs];simp [size_zeroCells,Value.cells];omega
 rw [← hcs] at hrun;have HS:Hid (cs.size = cap * 5):=hsz;have HL:Hid (cap≤maxLen):=hle;clear hsz hcs hcap hle;have q0:¬ (n:Int) < 0:=by omega
 have q1:(0:Int) < n:=by omega
 have q2:IntKind.i64.wrap (n:Int) = (n:Int):=i5_ _ (by omega);go_enter Tryz.func193,Tryz.ntmps193;go_wp2_with (at_builtin;refine Lib.wpList_append_run _ rfl _ _ _ _ rfl _ _ rfl rfl _ _ hrun ?_)
 go_ret
 have hown:=World.ownsRow_made (base:=w.heap.size) (e:=48) (size:=5) w.drew cs cap (by simp) HL.out HS.out;exact ⟨_,rfl,hown,(by repeat (first | exact Below.refl _ _ | assumption | refine Below.drew ?_ | refine Below.alloc ?_ (by first | (simp;done) | (simp;omega) | omega) _ | refine Below.setCell ?_ (by first | (simp;done) | (simp;omega) | omega) _))⟩
def idxSeq (q:Int):List ae_→Nat
 | []=>0
 | x :: r=>if q≤x.seq then 0 else idxSeq q r+1
def idxI (q:Int) (xs:List ae_):Int:=if idxSeq q xs < xs.length then idxSeq q xs else -1
theorem dR_ (q:Int):∀ xs:List ae_,idxSeq q xs≤xs.length
 | []=>by simp [idxSeq]
 | x :: r => by
   have:=dR_ q r;unfold idxSeq;split <;> simp <;> omega
theorem iu_ (s d:Int) (k b:ByteArray) (a:Bool) (B:Nat) (q:Int) (w:World) (hB:B < w.heap.size) (hq:w.cell? ⟨B,0,none⟩ = some (.int .i64 q)) :
 Calls Tryz.prog 172 #[.agg #[.int .i64 s,.string k,.string b,.bool a,.int .i64 d],.pointer (some ⟨B,0,none⟩)] w fun e w'=>e = .returned (.bool (decide (q≤s)))∧Below w.heap.size w w':=by
 have hne:¬ w.heap.size = B:=by omega
 go_enter Tryz.func172,Tryz.ntmps172;go_wp2
 go_ret
 exact ⟨rfl,(Below.refl _ _).alloc (Nat.le_refl _) _⟩
theorem dm_ (xs:List ae_) (a:Option Addr) (n c:Nat) (B:Nat) (q:Int) (w:World) (hn:xs.length = n) (hm:n≤maxLen) (hp:ai_ w a xs) (hB:B < w.heap.size) (hq:w.cell? ⟨B,0,none⟩ = some (.int .i64 q)) :
 Calls Tryz.prog 171 #[.slice a n c,.func (.func 172) #[] #[.pointer (some ⟨B,0,none⟩)]] w fun e w'=>e = .returned (.int .i64 (idxI q xs))∧Below w.heap.size w w':=by
 have HN:Hid (xs.length = n):=hn;have HP:Hid (ai_ w a xs):=hp;unfold maxLen at hm;clear hn hp;go_enter Tryz.func171,Tryz.ntmps171;go_wp2
 go_loopw [8] (fun i wr=>∃ (k:Nat),k≤n∧i = .int .i64 k∧idxSeq q xs = k+idxSeq q (xs.drop k)∧Below w.heap.size w wr) (fun i _=>n - (intOf i).toNat)
 case atStart=>exact ⟨0,Nat.zero_le _,rfl,by simp,Below.refl _ _⟩
 case round=>
  obtain ⟨k,hk,rfl,ha,hBl⟩:=hrel;have HA:Hid (idxSeq q xs = k+idxSeq q (xs.drop k)):=ha;have hBs:=hBl.size;have hqc:=(hBl.cell (p:=⟨B,0,none⟩) hB).trans hq;clear ha;by_cases hlt:k < n
  ·have hkl:k < xs.length:=by rw [HN.out];exact hlt
   obtain ⟨g,o,rfl,hg,hx⟩:=HP.out.cells (by omega);obtain ⟨x,hxx⟩:∃ x,x = xs[k]:=⟨_,rfl⟩
   have hc:=(hx k hkl).keep hBl hg;rw [← hxx] at hc;have hd:xs.drop k = x :: xs.drop (k+1):=by rw [hxx];exact List.drop_eq_getElem_cons hkl
   clear hx hxx;obtain ⟨s,ky,b,ag,d⟩:=x;obtain ⟨c0,c1,c2,c3,c4⟩:=hc;dsimp only at c0 c1 c2 c3 c4;have j1:(0:Int)≤(k:Int):=by omega
   have j2:(k:Int) < n:=by omega
   by_cases hle:q≤s
   ·have HF:Hid (idxI q xs = k):=by
     show idxI q xs = k;have e:idxSeq q xs = k:=by rw [HA.out,hd,idxSeq,if_pos hle];rfl
     unfold idxI;rw [e,if_pos hkl]
    have HD:Hid (decide (q≤s) = true):=by show decide (q≤s) = true;simpa using hle
    clear hd hle;go_wp2_with fail
    refine (iu_ _ _ _ _ _ _ q _ (by omega) hqc).mono ?_;rintro e w2 ⟨rfl,hB2⟩;rw [HD.out];go_wp2_with fail
    go_ret
    exact ⟨au_ HF.out.symm,hBl.trans (hB2.mono hBs)⟩
   ·have HF:Hid (idxSeq q xs = (k+1)+idxSeq q (xs.drop (k+1))):=by
     show idxSeq q xs = _;rw [HA.out,hd,idxSeq,if_neg hle];omega
    have HD:Hid (decide (q≤s) = false):=by show decide (q≤s) = false;simpa using hle
    clear hd hle;go_wp2_with fail
    refine (iu_ _ _ _ _ _ _ q _ (by omega) hqc).mono ?_;rintro e w2 ⟨rfl,hB2⟩;rw [HD.out];go_wp2_with fail
    go_roundw
    case rel=>exact ⟨k+1,by omega,by go_num,HF.out,hBl.trans (hB2.mono hBs)⟩
    case measure=>simp [intOf];omega
  ·have HF:Hid (idxI q xs = -1):=by
    show idxI q xs = -1;have e:xs.drop k = []:=List.drop_eq_nil_of_le (by rw [HN.out];omega);have e2:idxSeq q xs = k:=by rw [HA.out,e];rfl
    unfold idxI;rw [e2,if_neg (by rw [HN.out];exact hlt)]
   go_wp2
   go_ret
   exact ⟨au_ HF.out.symm,hBl⟩
def sum3 (a b c:Nat):Nat→Nat
 | 0=>0
 | 1=>a
 | 2=>a+b
 | _=>a+b+c
def cat3 (x y z:List ae_):Nat→List ae_
 | 0=>[]
 | 1=>x
 | 2=>x ++ y
 | _=>x ++ y ++ z
theorem concat3 (h:Nat) (x y z:List ae_) (a1 a2 a3:Option Addr) (n1 n2 n3 c1 c2 c3:Nat) (w:World) (hh:h < w.heap.size)
 (g0:w.cell? ⟨h,0,none⟩ = some (.slice a1 n1 c1)) (g1:w.cell? ⟨h,1,none⟩ = some (.slice a2 n2 c2)) (g2:w.cell? ⟨h,2,none⟩ = some (.slice a3 n3 c3))
 (l1:x.length = n1) (l2:y.length = n2) (l3:z.length = n3) (hx:ai_ w a1 x) (hy:ai_ w a2 y) (hz:ai_ w a3 z)
 (z1:a1 = none→c1 = 0∧x = []) (z2:a2 = none→c2 = 0∧y = []) (z3:a3 = none→c3 = 0∧z = []) (hpos:0 < n1+n2+n3) (hb:n1+n2+n3≤100000000) :
 Calls Tryz.prog 173 #[.slice (some ⟨h,0,none⟩) 3 3] w fun e w'=>∃ v,e = .returned v∧w'.ownsRow w.heap.size 48 5 v (n1+n2+n3) (al_ (x ++ y ++ z))∧Below w.heap.size w w':=by
 have HX:Hid (ai_ w a1 x∧ai_ w a2 y∧ai_ w a3 z):=⟨hx,hy,hz⟩;have HL:Hid (x.length = n1∧y.length = n2∧z.length = n3):=⟨l1,l2,l3⟩;have HZ:Hid ((a1 = none→c1 = 0∧x = [])∧(a2 = none→c2 = 0∧y = [])∧(a3 = none→c3 = 0∧z = [])):=⟨z1,z2,z3⟩;clear hx hy hz l1 l2 l3 z1 z2 z3;go_enter Tryz.func173,Tryz.ntmps173;go_wp2
 go_loopw [3,11] (fun s i wr=>∃ k:Nat,k≤3∧i = .int .i64 k∧s = .int .i64 (sum3 n1 n2 n3 k:Nat)∧w = wr) (fun _ i _=>3 - (intOf i).toNat)
 case atStart=>exact ⟨0,by omega,rfl,rfl,rfl⟩
 case round=>
  obtain ⟨k,hk,rfl,rfl,rfl⟩:=hrel;by_cases hlt:k < 3
  ·match k,hlt with
   | 0, _ =>
     have q:¬ (n1:Int) < 0:=by omega
     have q2:IntKind.i64.wrap (n1:Int) = (n1:Int):=i5_ _ (by omega);simp only [sum3];go_wp2
     go_roundw
     case rel=>exact ⟨1,by omega,by go_num,by go_num,trivial⟩
     case measure=>simp [intOf]
   | 1, _ =>
     have q:¬ (n1:Int)+n2 < 0:=by omega
     have q2:IntKind.i64.wrap ((n1:Int)+n2) = (n1:Int)+n2:=by rw [IntKind.wrap_i64];omega
     simp only [sum3];go_wp2
     go_roundw
     case rel=>exact ⟨2,by omega,by go_num,by go_num,trivial⟩
     case measure=>simp [intOf]
   | 2, _ =>
     have q:¬ (n1:Int)+n2+n3 < 0:=by omega
     have q2:IntKind.i64.wrap ((n1:Int)+n2+n3) = (n1:Int)+n2+n3:=by rw [IntKind.wrap_i64];omega
     simp only [sum3];go_wp2
     go_roundw
     case rel=>exact ⟨3,by omega,by go_num,by go_num,trivial⟩
     case measure=>simp [intOf]
  ·have e3:k = 3:=by omega
   subst e3;simp only [sum3];obtain ⟨t,ht⟩:∃ t,t = n1+n2+n3:=⟨_,rfl⟩
   rw [← ht];have ht1:0 < t:=by omega
   have ht2:t≤100000000:=by omega
   have HT:Hid (t = n1+n2+n3):=ht;clear hpos hlt hk ht;go_wp2_with fail
   refine (na_ t _ ht1 ht2).mono ?_;rintro e w2 ⟨v,rfl,hown,hB⟩;have hBs:=hB.size;go_wp2_with fail
   go_loopw [6,27] (fun s i wr=>∃ k:Nat,k≤3∧i = .int .i64 k∧wr.ownsRow w.heap.size 48 5 s (sum3 n1 n2 n3 k) (al_ (cat3 x y z k))∧Below w.heap.size w wr) (fun _ i _=>3 - (intOf i).toNat)
   case atStart=>exact ⟨0,by omega,rfl,hown,hB⟩
   case round=>
    obtain ⟨k,hk,rfl,hrow,hB2⟩:=hrel;have hB2s:=hB2.size;have e0:=(hB2.cell (p:=⟨h,0,none⟩) hh).trans g0;have e1:=(hB2.cell (p:=⟨h,1,none⟩) hh).trans g1;have e2:=(hB2.cell (p:=⟨h,2,none⟩) hh).trans g2;by_cases hlt:k < 3
    ·match k,hlt with
     | 0, _ =>
       go_wp2_with (at_builtin;refine bo_ rfl _ _ rfl w.heap.size _ _ [] rfl hrow a1 n1 c1 x rfl HL.out.1 HZ.out.1 (HX.out.1.keep hB2) (by simp [sum3];omega) hB2s ?_;intro v' w3 hown3 hgrow3)
       have hB3:=hB2.grown hgrow3 hB2s (cg_ hrow);go_roundw
       case rel=>exact ⟨1,by omega,by go_num,by simpa [sum3,cat3] using hown3,hB3⟩
       case measure=>simp [intOf]
     | 1, _ =>
       go_wp2_with (at_builtin;refine bo_ rfl _ _ rfl w.heap.size _ _ x rfl hrow a2 n2 c2 y rfl HL.out.2.1 HZ.out.2.1 (HX.out.2.1.keep hB2) (by simp [sum3];omega) hB2s ?_;intro v' w3 hown3 hgrow3)
       have hB3:=hB2.grown hgrow3 hB2s (cg_ hrow);go_roundw
       case rel=>exact ⟨2,by omega,by go_num,by simpa [sum3,cat3] using hown3,hB3⟩
       case measure=>simp [intOf]
     | 2, _ =>
       go_wp2_with (at_builtin;refine bo_ rfl _ _ rfl w.heap.size _ _ (x ++ y) rfl hrow a3 n3 c3 z rfl HL.out.2.2 HZ.out.2.2 (HX.out.2.2.keep hB2) (by simp [sum3];omega) hB2s ?_;intro v' w3 hown3 hgrow3)
       have hB3:=hB2.grown hgrow3 hB2s (cg_ hrow);go_roundw
       case rel=>exact ⟨3,by omega,by go_num,by simpa [sum3,cat3] using hown3,hB3⟩
       case measure=>simp [intOf]
    ·have e3:k = 3:=by omega
     subst e3;go_wp2_with fail
     go_ret
     exact ⟨_,rfl,hrow,hB2⟩
def bL_ (q:Int) (xs:List ae_):Bool:=(xs[idxSeq q xs]?.map ae_.seq) == some q
def ay_ (xs:List ae_) (x:ae_):List ae_:=xs.take (idxSeq x.seq xs) ++ [x] ++ xs.drop (idxSeq x.seq xs)
def et_ (xs:List ae_) (x:ae_):Int:=if at_ xs = true then (if am_ x = true then (if bL_ x.seq xs = true then 6 else 0) else 1) else 1
def hD_ (xs:List ae_) (x:ae_):List ae_:=if et_ xs x = 0 then ay_ xs x else []
theorem fq_:∀ {xs:List ae_} {last:Int},last≤1048575→aJ_ last xs = true→(xs.length:Int)≤1048575 - last
 | [],last,h,_=>by simp;omega
 | x :: r, last, h, hl => by
   unfold aJ_ at hl;simp only [Bool.and_eq_true,decide_eq_true_eq] at hl;obtain ⟨⟨h1,h2⟩,h3⟩:=hl;have hx:x.seq≤1048575:=by unfold am_ bN_ at h1;simp at h1;omega
   have:=fq_ hx h3;simp only [List.length_cons];omega
theorem d7_ {xs:List ae_} (h:at_ xs = true):xs.length≤1048576:=by
 have:=fq_ (by omega) h;omega
theorem bm_ {W:World} {base base':Nat} {e:TypeId} {size:Nat} {v:Value} {n:Nat} {xs:List Value} (h:W.ownsRow base e size v n xs) (hb:base'≤base):W.ownsRow base' e size v n xs:=by
 refine ⟨h.1,?_⟩;rcases h.2 with h | ⟨g,cap,cur,h1,h2,h3⟩
 ·exact .inl h
 ·exact .inr ⟨g,cap,cur,h1,Nat.le_trans hb h2,h3⟩
theorem c0_ {W:World} {b:Nat} {cs:Array Value} {t:TypeId} (h:W.heap[b]? = some (.cells cs t (0,0))) (i:Nat):W.cell? ⟨b,i,none⟩ = cs[i]?:=by
 unfold World.cell?;simp only;rw [h];rfl
theorem ai_.take {W:World} {a:Option Addr} {xs:List ae_} (h:ai_ W a xs) (i:Nat):ai_ W a (xs.take i):=by
 rcases h with h | ⟨g,o,ha,hg,h⟩
 ·exact .inl (by rw [h];simp)
 ·exact .inr ⟨g,o,ha,hg,fun j hj=>by
   have hj':j < xs.length:=by simp at hj;omega
   have:=h j hj';simpa using this⟩
theorem ai_.drop {W:World} {a:Option Addr} {xs:List ae_} (h:ai_ W a xs) (i c:Nat) (hc:xs.length≤c):ai_ W (if c = i then a else Option.map (fun x=>x.add (i * 5)) a) (xs.drop i):=by
 by_cases hci:c = i
 ·exact .inl (List.drop_eq_nil_of_le (by omega))
 ·rw [if_neg hci];rcases h with h | ⟨g,o,ha,hg,h⟩
  ·exact .inl (by rw [h];simp)
  ·subst ha;refine .inr ⟨g,o+i * 5,by simp [cN_],hg,fun j hj=>?_⟩;have hj':i+j < xs.length:=by simp at hj;omega
   have:=h (i+j) hj';have e:o+i * 5+j * 5 = o+(i+j) * 5:=by omega
   rw [e];simpa using this
theorem ai_.single {W:World} {hb:Nat} {t:TypeId} {x:ae_} (h:W.heap[hb]? = some (.cells #[.int .i64 x.seq,.string x.key,.string x.body,.bool x.again,.int .i64 x.deaths] t (0,0))):ai_ W (some ⟨hb,0,none⟩) [x]:=
 .inr ⟨hb,0,rfl,(Array.getElem?_eq_some_iff.1 h).1,fun j hj=>by
  have hj0:j = 0:=by simp at hj;omega
  subst hj0;exact ⟨c0_ h 0,c0_ h 1,c0_ h 2,c0_ h 3,c0_ h 4⟩⟩
theorem ga_ (xs:List ae_) (x:ae_) (a A3:Option Addr) (n c i m3 c3:Nat) (h hb:Nat) (t t2:TypeId) (W:World) (hn:xs.length = n) (hi:i≤n) (hnc:n≤c) (hz:a = none→c = 0) (hf:n≤1048576)
 (hA3:A3 = (if c = i then a else Option.map (fun x=>x.add (i * 5)) a)) (hm3:m3 = n - i) (hc3:c3 = c - i) (hp:ai_ W a xs)
 (hh:W.heap[h]? = some (.cells #[.slice a i c,.slice (some ⟨hb,0,none⟩) 1 1,.slice A3 m3 c3] t (0,0)))
 (hx:W.heap[hb]? = some (.cells #[.int .i64 x.seq,.string x.key,.string x.body,.bool x.again,.int .i64 x.deaths] t2 (0,0))) :
 Calls Tryz.prog 173 #[.slice (some ⟨h,0,none⟩) 3 3] W fun e w'=>∃ v,e = .returned v∧w'.ownsRow W.heap.size 48 5 v (n+1) (al_ (xs.take i ++ [x] ++ xs.drop i))∧Below W.heap.size W w':=by
 subst hm3 hc3;have ha0:a = none→xs = []:=fun e=>List.length_eq_zero_iff.1 (by have:=hz e;omega)
 have key:=concat3 h (xs.take i) [x] (xs.drop i) a (some ⟨hb,0,none⟩) A3 i 1 (n - i) c 1 (c - i) W (Array.getElem?_eq_some_iff.1 hh).1 (c0_ hh 0) (c0_ hh 1) (c0_ hh 2) (by simp;omega) rfl (by simp;omega)
  (hp.take i) (ai_.single hx) (by rw [hA3];exact hp.drop i c (by omega)) (fun e=>⟨hz e,by rw [ha0 e];simp⟩) (fun e=>by cases e)
  (fun e=>by
   have e2:a = none:=by
    rw [hA3] at e;split at e
    ·exact e
    ·simpa using e
   exact ⟨by have:=hz e2;omega,by rw [ha0 e2];simp⟩) (by omega) (by omega)
 have e:i+1+(n - i) = n+1:=by omega
 rw [e] at key;exact key
theorem of_ (xs:List ae_) (a:Option Addr) (n c:Nat) (s d:Int) (ky b:ByteArray) (ag:Bool) (w:World) (hn:xs.length = n) (hnc:n≤c) (hcm:c≤maxLen) (hz:a = none→c = 0) (hp:ai_ w a xs)
 (hl:at_ xs = true) (hr:am_ ⟨s,ky,b,ag,d⟩ = true) (i:Nat) (hi:i = idxSeq s xs) (hlt:¬ i < n) :
 Calls Tryz.prog 148 #[.slice a n c,.agg #[.int .i64 s,.string ky,.string b,.bool ag,.int .i64 d]] w fun e w'=>∃ v,e = .returned (.tuple #[v,.int .i64 0])∧w'.ownsRow w.heap.size 48 5 v (n+1) (al_ (ay_ xs ⟨s,ky,b,ag,d⟩))∧Below w.heap.size w w':=by
 have hm:n≤maxLen:=Nat.le_trans hnc hcm;have hfew:=d7_ hl;have HL:Hid (bw_ xs = 0):=by show bw_ xs = 0;unfold bw_;rw [if_pos hl]
 have HR:Hid (am_ ⟨s,ky,b,ag,d⟩ = true):=hr;have HI:Hid (idxI s xs = -1):=by show idxI s xs = -1;unfold idxI;rw [← hi,if_neg (by rw [hn];exact hlt)]
 obtain ⟨W1,hW1,hBw,hs1,hbx⟩:=c1_ w (.int .i64 s) (.string ky) (.string b) (.bool ag) (.int .i64 d) 48;have HW1:Hid (W1 = _):=hW1;have BX:Hid (∀ W,Below W1.heap.size W1 W→_):=hbx;have HP:Hid (ai_ W1 a xs):=hp.keep hBw;have HN:Hid (xs.length = n):=hn;have HM:Hid (n≤maxLen):=hm;have HF:Hid (n≤1048576):=by show n≤1048576;omega
 have HX:Hid (i = idxSeq s xs):=hi;clear hW1 hbx hp hl hr hn hm;have s1:=hBw.size;go_enter Tryz.func148,Tryz.ntmps148;go_wp2_with fail
 rw [← HW1.out];refine (bu_ xs _ _ _ _ HN.out HM.out HP.out).mono ?_;rintro e w2 ⟨rfl,hB2⟩;obtain ⟨d0,d1,d2,d3,d4⟩:=BX.out w2 hB2;rw [HL.out];go_wp2_with fail
 refine (cX_ _ _ _ _ _ _).mono ?_;rintro e w3 ⟨rfl,hB3⟩;have hB13:Below W1.heap.size W1 w3:=hB2.trans (hB3.mono hB2.size);clear d0 d1 d2 d3 d4;obtain ⟨d0,d1,d2,d3,d4⟩:=BX.out w3 hB13;rw [HR.out];go_wp2_with fail
 refine (dm_ xs _ _ _ _ s _ HN.out HM.out (HP.out.keep hB13) (by have:=hB13.size;omega) d0).mono ?_;rintro e w4 ⟨rfl,hB4⟩;have hB14:Below W1.heap.size W1 w4:=hB13.trans (hB4.mono hB13.size);clear d0 d1 d2 d3 d4;obtain ⟨d0,d1,d2,d3,d4⟩:=BX.out w4 hB14;rw [HI.out];go_wp2_with fail
 refine wp_region_held_drew (S:=fun w'=>True) (by kernel_rfl) trivial (fun hHeld=>?_);refine tk 0 ?_;refine tk 1 ?_;refine tk 2 ?_;refine tk 3 ?_;refine tk 4 ?_;refine sk 5 ?_;refine sk 6 ?_;refine sk 7 ?_;refine sk 8 ?_;refine sk 9 ?_;refine sk 10 ?_;refine sk 11 ?_;refine sk 12 ?_;refine tk 13 ?_;refine wpAnyH_done (by kernel_rfl) ?_ _;go_wp2_with fail
 have hB5:Below W1.heap.size W1 w4.drew:=⟨hB14.os,hB14.tape,hB14.output,hB14.size,hB14.block⟩;have hB6:Below W1.heap.size W1 w4.drew.drew:=⟨hB14.os,hB14.tape,hB14.output,hB14.size,hB14.block⟩;have q1:(0:Int)≤(n:Int):=by omega
 have q2:(n:Int)≤(c:Int):=by omega
 have q3:(n:Int)≤(n:Int):=by omega
 clear d0 d1 d2 d3 d4;refine wp_region_held_drew (S:=fun w'=>w'.cell? ⟨w.heap.size,0,none⟩ = some (.int .i64 s)∧w'.cell? ⟨w.heap.size,1,none⟩ = some (.string ky)∧w'.cell? ⟨w.heap.size,2,none⟩ = some (.string b)∧w'.cell? ⟨w.heap.size,3,none⟩ = some (.bool ag)∧w'.cell? ⟨w.heap.size,4,none⟩ = some (.int .i64 d)) (by kernel_rfl) (BX.out _ hB6) (fun hHeld=>?_);refine tk 0 ?_;refine tk 1 ?_;refine tk 2 ?_;refine tk 3 ?_;refine tk 5 ?_;refine tk 6 ?_;refine tk 7 ?_;refine rdy 4 (fun K hK=>?_);go_simp;obtain ⟨W5,hW5⟩:∃ W5,W5 = w4.alloc (.cells #[.int .i64 s,.string ky,.string b,.bool ag,.int .i64 d] 48):=⟨_,rfl⟩
 have hB45:Below w4.heap.size w4 W5:=by rw [hW5];exact (Below.refl _ _).alloc (Nat.le_refl _) _
 have hs5:W5.heap.size = w4.heap.size+1:=by rw [hW5];simp
 have hh5:W5.heap[w4.heap.size]? = some (.cells #[.int .i64 s,.string ky,.string b,.bool ag,.int .i64 d] 48):=by rw [hW5];exact World.alloc_heap_new w4 _
 rw [← hW5];clear hW5;have hB15:Below W1.heap.size W1 W5:=hB14.trans (hB45.mono hB14.size);have hB15':Below W1.heap.size W1 W5.drew.drew:=⟨hB15.os,hB15.tape,hB15.output,hB15.size,hB15.block⟩;refine hK.out _ _ (BX.out _ hB15') (fun hHeld2=>?_);clear hHeld hK K;try simp only [Act.put,List.getElem_toArray,List.getElem_cons_succ,List.getElem_cons_zero,List.setIfInBounds_toArray,List.set_cons_zero,List.set_cons_succ]
 refine rdy 8 (fun K hK=>?_);go_simp;obtain ⟨A3,hA3⟩:∃ A3,A3 = (if c = n then a else Option.map (fun x=>x.add (n * 5)) a):=⟨_,rfl⟩
 have HA3:Hid (A3 = (if c = n then a else Option.map (fun x=>x.add (n * 5)) a)):=hA3;rw [← hA3];clear hA3;obtain ⟨W6,hW6⟩:∃ W6,W6 = W5.alloc (.cells #[.slice a n c,.slice (some ⟨w4.heap.size,0,none⟩) 1 1,.slice A3 0 (c - n)] 46):=⟨_,rfl⟩
 have hB56:Below W5.heap.size W5 W6:=by rw [hW6];exact (Below.refl _ _).alloc (Nat.le_refl _) _
 have hs6:W6.heap.size = W5.heap.size+1:=by rw [hW6];simp
 have hh6:W6.heap[W5.heap.size]? = some (.cells #[.slice a n c,.slice (some ⟨w4.heap.size,0,none⟩) 1 1,.slice A3 0 (c - n)] 46):=by rw [hW6];exact World.alloc_heap_new W5 _
 rw [← hW6];clear hW6;have hB16:Below W1.heap.size W1 W6:=hB15.trans (hB56.mono hB15.size);have hB16':Below W1.heap.size W1 W6.drew.drew:=⟨hB16.os,hB16.tape,hB16.output,hB16.size,hB16.block⟩;have hx6:W6.heap[w4.heap.size]? = some (.cells #[.int .i64 s,.string ky,.string b,.bool ag,.int .i64 d] 48):=(hB56.block _ (by omega)).trans hh5;have hi6:ai_ W6 a xs:=(HP.out.keep hB14).keep (hB45.trans (hB56.mono hB45.size));refine hK.out _ _ (BX.out _ hB16') (fun hHeld3=>?_);clear hHeld2 hK K;try simp only [Act.put,List.getElem_toArray,List.getElem_cons_succ,List.getElem_cons_zero,List.setIfInBounds_toArray,List.set_cons_zero,List.set_cons_succ]
 refine rdy 9 (fun K hK=>?_);go_simp;refine (ga_ xs ⟨s,ky,b,ag,d⟩ a A3 n c n 0 (c - n) _ w4.heap.size _ _ W6.drew.drew HN.out (Nat.le_refl _) hnc hz HF.out HA3.out (by omega) rfl hi6 (by rw [← hs5];exact hh6) hx6).mono ?_;rintro e w7 ⟨v,rfl,hown,hB7⟩;have hB7':Below W6.heap.size W6 w7:=⟨hB7.os,hB7.tape,hB7.output,hB7.size,hB7.block⟩;have hB17:Below W1.heap.size W1 w7:=hB16.trans (hB7'.mono hB16.size);refine hK.out _ _ (BX.out _ hB17) (fun hHeld4=>?_);clear hHeld3 hK K;try simp only [Act.put,List.getElem_toArray,List.getElem_cons_succ,List.getElem_cons_zero,List.setIfInBounds_toArray,List.set_cons_zero,List.set_cons_succ]
 refine tk 10 ?_;refine tk 11 ?_;refine wpAnyH_done (by kernel_rfl) ?_ _;go_wp2_with fail
 go_ret2
 have e1:ay_ xs ⟨s,ky,b,ag,d⟩ = xs.take n ++ [⟨s,ky,b,ag,d⟩] ++ xs.drop n:=by
  unfold ay_;have e2:idxSeq s xs = n:=by have:=dR_ s xs;have:=HX.out;have:=HN.out;omega
  dsimp only;rw [e2]
 have h16:=hB16.size;have h17:=hB17.size;refine ⟨v,rfl,?_,hBw.trans (hB17.mono hBw.size)⟩;rw [e1];exact bm_ hown (by show w.heap.size≤W6.heap.size;omega)
end Go.Proofs.YtlbnkpicnokgoaaGreat
