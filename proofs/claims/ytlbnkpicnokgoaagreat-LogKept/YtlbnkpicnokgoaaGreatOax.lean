import Derived.Lib.Strings
import Derived.Lib.Bytealg
import Derived.Test.YtlbnkpicnokgoaaGreatRows
import Derived.WalkKit
import Derived.WalkSpells
import Derived.WalkLawsBesides
import Derived.Lib.Walk
import Derived.Laws.Strings3
import Derived.RegionTactic
import Derived.RangeFuncNested
import Derived.RangeFuncBound
import Derived.RangeFuncCalls
import Derived.RangeFuncLeaves
import Derived.RangeFuncFrom
import Derived.Shelf.Abstract
import Derived.Shelf.RegionOpen
import Derived.OwnWalkIn
import Derived.TacticsInMore
import Derived.LoopNIn
import Derived.LoopIn
import Derived.Deep.Draws
import Derived.RangeFuncBox
import Derived.Maps.AppendAt
import Derived.RangeFuncWrites
import Derived.Deep.QuietTactic
import Derived.BigQuiet
namespace Go.Proofs.YtlbnkpicnokgoaaGreat
set_option linter.unusedVariables false
set_option maxRecDepth 100000
def wch (c:UInt8):Bool:=decide (97≤c.toNat∧c.toNat≤122∨48≤c.toNat∧c.toNat≤57)
def isW (l:List UInt8):Bool:=l.all wch && !l.isEmpty
def isP (l:List UInt8):Bool:=l == [42] || l == [35] || isW l
def wsplit:List UInt8→List (List UInt8)
 | []=>[[]]
 | c :: r => if c = 46 then [] :: wsplit r else match wsplit r with
   | []=>[[c]]
   | h :: t=>(c :: h) :: t
theorem gx_ (l:List UInt8):wsplit l≠[]:=by
 cases l with
 | nil=>simp [wsplit]
 | cons c r=>unfold wsplit;split <;> (try split) <;> simp
theorem jC_ (l:List UInt8) (h:(46:UInt8) ∉ l):wsplit l = [l]:=by
 induction l with
 | nil=>rfl
 | cons c r ih =>
   have h1:¬ c = 46:=fun e=>h (by simp [e])
   have h2:=ih (fun e=>h (by simp [e]));simp [wsplit,h1,h2]
theorem mW_ (a b:List UInt8) (h:(46:UInt8) ∉ a):wsplit (a ++ 46 :: b) = a :: wsplit b:=by
 induction a with
 | nil=>simp [wsplit]
 | cons c r ih =>
   have h1:¬ c = 46:=fun e=>h (by simp [e])
   have h2:=ih (fun e=>h (by simp [e]));simp [wsplit,h1,h2]
theorem bR_ (l:List UInt8):(wsplit l).length = Lib.countByte l 46+1:=by
 induction l with
 | nil=>simp [wsplit,Lib.countByte]
 | cons c r ih =>
   unfold Lib.countByte at *;by_cases h:c = 46
   ·subst h;simp [wsplit,ih]
   ·have h':¬ (c == 46) = true:=by simpa using h
    have hne:=gx_ r;cases hw:wsplit r with
    | nil=>exact absurd hw hne
    | cons x t =>
      rw [hw] at ih;simp only [wsplit,h,if_false,hw];rw [List.count_cons_of_ne (by simpa using h)];simpa using ih
theorem iP_ (l:List UInt8):(wsplit l).length≤l.length+1:=by
 rw [bR_];have:=List.count_le_length (a:=(46:UInt8)) (l:=l);unfold Lib.countByte;omega
theorem ld_ (l:List UInt8):∀ x ∈ wsplit l,x.length≤l.length:=by
 induction l with
 | nil=>simp [wsplit]
 | cons c r ih =>
   intro x hx;by_cases h:c = 46
   ·simp [wsplit,h] at hx;rcases hx with rfl | hx
    ·simp
    ·have:=ih x hx;simp;omega
   ·simp only [wsplit,h,if_false] at hx;cases hw:wsplit r with
    | nil=>exact absurd hw (gx_ r)
    | cons y t =>
      rw [hw] at hx ih;simp at hx;rcases hx with rfl | hx
      ·have:=ih y (by simp);simp;omega
      ·have:=ih x (by simp [hx]);simp;omega
theorem f6_ (l:List UInt8):(Lib.indexByte l 46 = -1∧wsplit l = [l])∨∃ i:Nat,Lib.indexByte l 46 = i∧i < l.length∧wsplit l = l.take i :: wsplit (l.drop (i+1)):=by
 induction l with
 | nil=>left;simp [Lib.indexByte,wsplit]
 | cons c r ih =>
   by_cases h:c = 46
   ·right
    refine ⟨0,by simp [Lib.indexByte,h],by simp,by simp [wsplit,h]⟩
   ·rcases ih with ⟨h1,h2⟩ | ⟨i,h1,h2,h3⟩
    ·left;simp [Lib.indexByte,h,h1,wsplit,h2]
    ·right
     refine ⟨i+1,?_,by simp;omega,by simp [wsplit,h,h3]⟩;simp [Lib.indexByte,h,h1]
def werr (right:List UInt8→Bool) (l:List UInt8):Int:=
 if 24 < l.length∨6 < (wsplit l).length then 2 else if (wsplit l).all right then 0 else 1
def kerr (l:List UInt8):Int:=werr isW l
def perr (l:List UInt8):Int:=werr isP l
def laidL:List (List UInt8)→List (List UInt8)→Bool
 | [],k=>k.isEmpty
 | p :: ps, k => if p = [35] then (List.range (k.length + 1)).any (fun n => laidL ps (k.drop n)) else match k with
   | []=>false
   | x :: xs=>(p == [42] || p == x) && laidL ps xs
def fitL (p k:List UInt8):Bool:=laidL (wsplit p) (wsplit k)
def merr (p k:List UInt8):Int:=if perr p = 0 then kerr k else perr p
def mis (p k:List UInt8):Bool:=if merr p k = 0 then fitL p k else false
end Go.Proofs.YtlbnkpicnokgoaaGreat
namespace Go.Proofs.YtlbnkpicnokgoaaGreat
open Go.RowKit
set_option linter.unusedVariables false
set_option maxRecDepth 100000
set_option maxHeartbeats 1000000
theorem eL_ (s:ByteArray) (w:World) :
 Calls Tryz.prog 178 #[.string s,.string ⟨#[46]⟩] w fun e w'=>e = .returned (.int .i64 (Lib.countByte s.data.toList 46))∧w' = w:=by
 go_enter Tryz.func178,Tryz.ntmps178;go_wp2
 rw [run_callFunc_extern Tryz.func197 (by kernel_rfl) (by kernel_rfl) (by kernel_rfl) (e:=Extern.BytealgCount.count) (by kernel_rfl),Lib.run_countString];simp only [Result.andThen];rw [Oper.upon_value];go_wp2
 go_ret
 exact ⟨rfl,rfl⟩
theorem hx_ (s:ByteArray) (c:Int) (w:World) :
 Calls Tryz.prog 211 #[.string s,.int .u8 c] w fun e w'=>e = .returned (.int .i64 (Lib.indexByte s.data.toList c.toNat.toUInt8))∧w' = w:=by
 go_enter Tryz.func211,Tryz.ntmps211;go_wp2
 rw [run_callFunc_extern Tryz.func215 (by kernel_rfl) (by kernel_rfl) (by kernel_rfl) (e:=Extern.BytealgIndexByte.indexByte) (by kernel_rfl),Lib.run_indexByteString];simp only [Result.andThen];rw [Oper.upon_value];go_wp2
 go_ret
 exact ⟨rfl,rfl⟩
theorem ij_ (s:ByteArray) (w:World) :
 Calls Tryz.prog 208 #[.string s,.string ⟨#[46]⟩] w fun e w'=>e = .returned (.int .i64 (Lib.indexByte s.data.toList 46))∧w' = w:=by
 go_enter Tryz.func208,Tryz.ntmps208;go_wp2_with (go_at_call 211;refine (hx_ _ _ _).mono ?_;rintro e w' ⟨rfl,rfl⟩)
 ·have h:([46] == s.toList) = true:=by assumption
  go_ret
  refine ⟨?_,rfl⟩;have e:s.data.toList = [46]:=by rw [← Lib.toList_data];exact (beq_iff_eq.1 h).symm
  rw [e];simp [Lib.indexByte]
 ·go_ret
  exact ⟨rfl,rfl⟩
theorem lu_ (s:ByteArray) (w:World) (h:Lib.indexByte s.data.toList 46 = -1) :
 Calls Tryz.prog 209 #[.string s,.string ⟨#[46]⟩] w fun e w'=>e = .returned (.tuple #[.string s,.string ⟨#[]⟩,.bool false])∧w' = w:=by
 go_enter Tryz.func209,Tryz.ntmps209;go_wp2_with (go_at_call 208;refine (ij_ _ _).mono ?_;rintro e w' ⟨rfl,rfl⟩;rw [h])
 go_ret3
 exact ⟨rfl,rfl⟩
theorem lv_ (s:ByteArray) (i:Nat) (w:World) (h:Lib.indexByte s.data.toList 46 = i) (hi:i < s.size) (hs:s.size≤maxLen) :
 Calls Tryz.prog 209 #[.string s,.string ⟨#[46]⟩] w fun e w'=>e = .returned (.tuple #[.string (s.extract 0 i),.string (s.extract (i+1) s.size),.bool true])∧w' = w.drewN 1:=by
 unfold maxLen at hs;have c1:(0:Int)≤↑i:=by omega
 have c2:(↑i:Int)≤↑s.size:=by omega
 have c3:(0:Int)≤↑i+1:=by omega
 have c4:(↑i+1:Int)≤↑s.size:=by omega
 go_enter Tryz.func209,Tryz.ntmps209;go_wp2_with (go_at_call 208;refine (ij_ _ _).mono ?_;rintro e w' ⟨rfl,rfl⟩;rw [h])
 go_region
 go_wp2
 go_ret3
 exact ⟨rfl,rfl⟩
theorem m1_ (s:ByteArray) (w:World) (h:Lib.indexByte s.data.toList 46 = -1) :
 Calls Tryz.prog 200 #[.string s,.string ⟨#[46]⟩] w fun e w'=>e = .returned (.tuple #[.string s,.string ⟨#[]⟩,.bool false])∧w' = w:=by
 go_enter Tryz.func200,Tryz.ntmps200;go_wp2_with (go_at_call 209;refine (lu_ _ _ h).mono ?_;rintro e w' ⟨rfl,rfl⟩)
 go_ret3
 exact ⟨rfl,rfl⟩
theorem m2_ (s:ByteArray) (i:Nat) (w:World) (h:Lib.indexByte s.data.toList 46 = i) (hi:i < s.size) (hs:s.size≤maxLen) :
 Calls Tryz.prog 200 #[.string s,.string ⟨#[46]⟩] w fun e w'=>e = .returned (.tuple #[.string (s.extract 0 i),.string (s.extract (i+1) s.size),.bool true])∧w' = w.drewN 1:=by
 go_enter Tryz.func200,Tryz.ntmps200;go_wp2_with (go_at_call 209;refine (lv_ _ i _ h hi hs).mono ?_;rintro e w' ⟨rfl,rfl⟩)
 go_ret3
 exact ⟨rfl,rfl⟩
theorem aq_ {a b:Bool} (h:a = b):Ending.returned (.bool a) = .returned (.bool b):=by rw [h]
theorem iK_ (s:ByteArray) (k:Nat) (h:k < s.size):s.data.toList.take (k+1) = s.data.toList.take k ++ [s[k]]:=by
 rw [List.take_succ_eq_append_getElem (by simpa using h)];rfl
theorem mT_ {c:UInt8} (h:97≤(c.toNat:Int)∧(c.toNat:Int)≤122∨48≤(c.toNat:Int)∧(c.toNat:Int)≤57):wch c = true:=by
 unfold wch;rw [decide_eq_true_iff];omega
theorem nY_ {c:UInt8} (h:¬ (97≤(c.toNat:Int)∧(c.toNat:Int)≤122∨48≤(c.toNat:Int)∧(c.toNat:Int)≤57)):wch c = false:=by
 unfold wch;rw [decide_eq_false_iff_not];omega
theorem jG_ (s:ByteArray) (k:Nat) (h:k < s.size) (ha:(s.data.toList.take k).all wch = true) (hc:wch s[k] = true):(s.data.toList.take (k+1)).all wch = true:=by
 rw [iK_ s k h,List.all_append,ha];simp [hc]
theorem l0_ (s:ByteArray) (k:Nat) (h:k < s.size) (hc:wch s[k] = false):isW s.data.toList = false:=by
 have:s.data.toList.all wch = false:=by
  rw [List.all_eq_false];exact ⟨s[k],by show s.data[k] ∈ _;simp,by simp [hc]⟩
 simp [isW,this]
theorem hY_ (s:ByteArray) (k:Nat) (h:¬ k < s.size):(s.data.toList.take k).all wch = s.data.toList.all wch:=by
 rw [List.take_of_length_le (by simp;omega)]
theorem gg_ (s:ByteArray) (w:World) (hs:s.size≤maxLen) :
 Calls Tryz.prog 163 #[.string s] w fun e w'=>e = .returned (.bool (isW s.data.toList))∧w' = w:=by
 unfold maxLen at hs;go_enter Tryz.func163,Tryz.ntmps163;go_wp2
 go_loop [7] (fun i=>∃ k:Nat,k≤s.size∧i = .int .i64 k∧(s.data.toList.take k).all wch = true) (fun i=>s.size - (intOf i).toNat)
 case atStart=>exact ⟨0,Nat.zero_le _,rfl,rfl⟩
 case round=>
  obtain ⟨k,hk,rfl,ha⟩:=hrel;have HA:Hid ((s.data.toList.take k).all wch = true):=ha;clear ha;by_cases hlt:k < s.size
  ·go_wp2
   all_goals first
    | (go_ret;exact ⟨aq_ (l0_ s k hlt (nY_ (by omega))).symm,rfl⟩)
    | exact ⟨⟨k+1,by omega,by go_num,jG_ s k hlt HA.out (mT_ (by omega))⟩,by simp [intOf];omega⟩
  ·go_wp2
   go_ret
   exact ⟨aq_ (by rw [isW,← hY_ s k hlt,HA.out,← Lib.toList_data];simp),rfl⟩
theorem gV_ (s:ByteArray) (w:World) (hs:s.size≤maxLen) :
 Calls Tryz.prog 151 #[.string s] w fun e w'=>e = .returned (.bool (isW s.data.toList))∧w' = w:=by
 unfold maxLen at hs;go_enter Tryz.func151,Tryz.ntmps151;go_wp2
 go_loop [3] (fun i=>∃ k:Nat,k≤s.size∧i = .int .i64 k∧(s.data.toList.take k).all wch = true) (fun i=>s.size - (intOf i).toNat)
 case atStart=>exact ⟨0,Nat.zero_le _,rfl,rfl⟩
 case round=>
  obtain ⟨k,hk,rfl,ha⟩:=hrel;have HA:Hid ((s.data.toList.take k).all wch = true):=ha;clear ha;by_cases hlt:k < s.size
  ·by_cases h1:97≤(s[k].toNat:Int) <;> by_cases h2:(s[k].toNat:Int)≤122 <;> by_cases h3:48≤(s[k].toNat:Int) <;> by_cases h4:(s[k].toNat:Int)≤57 <;> first | (exfalso;omega) | skip
   all_goals
    go_wp2
    first
     | (go_ret;exact ⟨aq_ (l0_ s k hlt (nY_ (by omega))).symm,rfl⟩)
     | exact ⟨⟨k+1,by omega,by go_num,jG_ s k hlt HA.out (mT_ (by omega))⟩,by simp [intOf];omega⟩
  ·go_wp2
   go_ret
   exact ⟨aq_ (by rw [isW,← hY_ s k hlt,HA.out,← Lib.toList_data];simp),rfl⟩
theorem g4_ (s:ByteArray) (w:World) (hs:s.size≤maxLen) :
 Calls Tryz.prog 162 #[.string s] w fun e w'=>e = .returned (.bool (isP s.data.toList))∧w' = w:=by
 go_enter Tryz.func162,Tryz.ntmps162;go_wp2_with (go_at_call 163;refine (gg_ _ _ hs).mono ?_;rintro e w' ⟨rfl,rfl⟩)
 all_goals (go_ret;exact ⟨aq_ (by simp_all [isP,← Lib.toList_data]),rfl⟩)
end Go.Proofs.YtlbnkpicnokgoaaGreat
namespace Go.Proofs.YtlbnkpicnokgoaaGreat
open Go.RowKit Go.Shelf
set_option linter.unusedVariables false
set_option maxRecDepth 100000
set_option maxHeartbeats 1000000
attribute [local go_sem] Oper.semAt_some
theorem hl_ {W:World} {B:Nat} {v:Value} {t:TypeId} (h:W.heap[B]? = some (.cells #[v] t (0,0))):W.cell? ⟨B,0,none⟩ = some v∧W.frozen? ⟨B,0,none⟩ = false:=by
 constructor <;> simp [World.cell?,World.frozen?,h]
theorem cr_ (W:World) (v:Value) (t:TypeId):(W.alloc (.cells #[v] t)).cell? ⟨W.heap.size,0,none⟩ = some v∧(W.alloc (.cells #[v] t)).frozen? ⟨W.heap.size,0,none⟩ = false:=
 hl_ (World.alloc_heap_new W _)
theorem b3_ {W:World} {a:Addr} {v:Value} (o:Obj) (h:W.cell? a = some v):(W.alloc o).cell? a = some v:=cell_kept h (World.grownBy_alloc W o none) (fun r e=>by cases e)
theorem er_ {W:World} {a:Addr} {v:Value} (o:Obj) (h:W.cell? a = some v) (hf:W.frozen? a = false):(W.alloc o).frozen? a = false:=(frozen_kept h (World.grownBy_alloc W o none) (fun r e=>by cases e)).trans hf
theorem jb_ (w:World) (n:Nat) (row:Option Nat):w.grownBy (w.drewN n) row:=⟨rfl,rfl,rfl,Nat.le_refl _,fun _ _ _=>rfl⟩
abbrev WB:={ x:ByteArray // x.size≤maxLen }
def wlB (l:List UInt8):List ByteArray:=(wsplit l).map (fun x=>⟨x.toArray⟩)
def mN_:Value→Nat | .string x=>x.size | _=>0
def iY_:Value→Nat | .bool true=>1 | _=>0
theorem nM_ (r:ByteArray) (h:wsplit r.data.toList = [r.data.toList]):wlB r.data.toList = [r]:=by
 simp [wlB,h]
theorem nN_ (r:ByteArray) (i:Nat) (hi:i < r.size) (h:wsplit r.data.toList = r.data.toList.take i :: wsplit (r.data.toList.drop (i+1))) :
 wlB r.data.toList = r.extract 0 i :: wlB (r.extract (i+1) r.size).data.toList:=by
 have e1:r.extract 0 i = ⟨(r.data.toList.take i).toArray⟩:=by rw [Lib.extract_eq];simp
 have e2:(r.extract (i+1) r.size).data.toList = r.data.toList.drop (i+1):=by
  rw [Lib.extract_data];exact List.take_of_length_le (by simp)
 rw [e1,e2,wlB,h];rfl
theorem m5_ (n:Nat) (hn:1≤n) (l Bn:Nat) (s:ByteArray) (hs:s.size≤maxLen) (J Jx:List WB→World→Prop) (W:World)
 (hJ:AbidesFrom W.heap.size J)
 (hY:∀ pre x W1,J pre W1→pre.length < (wlB s.data.toList).length→YieldAt Fence.wide (n - 1) Tryz.prog l #[.string x.1] W1 fun e W'=>
  (e = .returned (.bool true)∧J (pre ++ [x]) W'∧True)∨(e = .returned (.bool false)∧Jx (pre ++ [x]) W'))
 (hBn:W.cell? ⟨Bn,0,none⟩ = some (.string s)) (h0:J [] W) :
 CallsIn Fence.wide n Tryz.prog 199 #[.func (.yield l) #[] #[],.pointer (some ⟨Bn,0,none⟩)] W fun e W'=>(∃ v,e = .returned v) ∧
  ((∃ ys,List.map (fun x:WB=>x.1) ys = wlB s.data.toList∧J ys W')∨(∃ pre,List.map (fun x:WB=>x.1) pre <+: wlB s.data.toList∧Jx pre W')):=by
 refine callsIn_of_wp Tryz.func199 rfl trivial ?_ rfl;simp only [Tryz.ntmps199,List.size_toArray,List.length_cons,List.length_nil,Nat.reduceAdd,Nat.reduceSub,Array.replicate_succ,Array.replicate_zero,List.push_toArray,List.append_toArray,List.nil_append,List.cons_append];gi_wp2
 gi_loopw [3,4] (fun rv mv wr=>∃ (pre:List WB) (r:ByteArray) (m:Bool),rv = .string r∧mv = .bool m∧r.size≤maxLen∧(if m then wlB s.data.toList = List.map (fun x:WB=>x.1) pre ++ wlB r.data.toList else wlB s.data.toList = List.map (fun x:WB=>x.1) pre)∧J pre wr)
  (fun rv mv _=>iY_ mv * (mN_ rv+1))
 case atStart=>
  exact ⟨[],s,true,rfl,rfl,hs,by simp,h0⟩
 case round=>
  obtain ⟨pre,r,m,rfl,rfl,hr,hx,hJs⟩:=hrel;cases m with
  | false =>
    gi_wp2
    go_end0
    exact ⟨⟨_,rfl⟩,.inl ⟨pre,by simpa using hx.symm,hJs⟩⟩
  | true =>
    simp only [if_true] at hx;rcases f6_ r.data.toList with ⟨h1,h2⟩ | ⟨i,h1,h2,h3⟩
    ·have hw1:=nM_ r h2;rw [hw1] at hx;have HX:Hid (wlB s.data.toList = List.map (fun x:WB=>x.1) pre ++ [r]):=hx;have hlen:pre.length < (wlB s.data.toList).length:=by rw [hx];simp
     obtain ⟨fn,tmps,assign,body,hy,hR⟩:=hY pre ⟨r,hr⟩ wr hJs hlen;dsimp only at hy;clear hx hw1 h2;gi_wp2_with (refine ⟨trivial,?_⟩;gi_at_call 200;refine (callsIn_wide.2 (m1_ r _ h1)).mono ?_;rintro e w' ⟨rfl,rfl⟩)
     refine hR.mono ?_;rintro e W3 (⟨rfl,hJ3,_⟩ | ⟨rfl,hJx3⟩)
     ·gi_wp2
      go_roundw
      case rel=>exact ⟨pre ++ [⟨r,hr⟩],⟨#[]⟩,false,rfl,rfl,Nat.zero_le _,by simpa using HX.out,hJ3⟩
      case measure=>simp [iY_,mN_]
     ·gi_wp2
      refine bodyPost_ret (results_none rfl _ _ _) rfl ?_;exact ⟨⟨_,rfl⟩,.inr ⟨pre ++ [⟨r,hr⟩],by rw [HX.out];simp,hJx3⟩⟩
    ·have hi:i < r.size:=by simpa using h2
     have hw1:=nN_ r i hi h3;rw [hw1] at hx;have HX:Hid (wlB s.data.toList = List.map (fun x:WB=>x.1) pre ++ r.extract 0 i :: wlB (r.extract (i+1) r.size).data.toList):=hx;have hlen:pre.length < (wlB s.data.toList).length:=by rw [hx];simp
     have he1:(r.extract 0 i).size≤maxLen:=by rw [ByteArray.size_extract];omega
     have he2:(r.extract (i+1) r.size).size≤maxLen:=by rw [ByteArray.size_extract];omega
     have he3:(r.extract (i+1) r.size).size < r.size:=by rw [ByteArray.size_extract];omega
     have hJd:J pre (wr.drewN 1):=hJ pre wr _ none hJs (jb_ _ _ _) (fun r e=>by cases e);obtain ⟨fn,tmps,assign,body,hy,hR⟩:=hY pre ⟨r.extract 0 i,he1⟩ (wr.drewN 1) hJd hlen;dsimp only at hy;have HE:Hid ((r.extract (i+1) r.size).size < r.size∧(r.extract (i+1) r.size).size≤maxLen):=⟨he3,he2⟩;clear hx hw1 h2 h3 he2 he3;gi_wp2_with (refine ⟨trivial,?_⟩;gi_at_call 200;refine (callsIn_wide.2 (m2_ r i _ h1 hi hr)).mono ?_;rintro e w' ⟨rfl,rfl⟩)
     refine hR.mono ?_;rintro e W3 (⟨rfl,hJ3,_⟩ | ⟨rfl,hJx3⟩)
     ·gi_wp2
      go_roundw
      case rel=>exact ⟨pre ++ [⟨r.extract 0 i,he1⟩],r.extract (i+1) r.size,true,rfl,rfl,HE.out.2,by simpa using HX.out,hJ3⟩
      case measure=>have:=HE.out.1;simp only [iY_,mN_];omega
     ·gi_wp2
      refine bodyPost_ret (results_none rfl _ _ _) rfl ?_;exact ⟨⟨_,rfl⟩,.inr ⟨pre ++ [⟨r.extract 0 i,he1⟩],by rw [HX.out];simp,hJx3⟩⟩
theorem hs_ (n:Nat) (s:ByteArray) (w:World) :
 CallsIn Fence.wide n Tryz.prog 179 #[.string s] w fun e w'=>e = .returned (.func (.func 199) #[] #[.pointer (some ⟨w.heap.size,0,none⟩)])∧w' = w.alloc (.cells #[.string s] 9):=by
 refine callsIn_of_wp Tryz.func179 rfl trivial ?_ rfl;simp only [Tryz.ntmps179,List.size_toArray,List.length_cons,List.length_nil,Nat.reduceAdd,Nat.reduceSub,Array.replicate_succ,Array.replicate_zero,List.push_toArray,List.append_toArray,List.nil_append,List.cons_append];gi_wp2
 go_ret
 exact ⟨rfl,rfl⟩
theorem ea_ (n:Nat) (hn:1≤n) (Bn:Nat) (s:ByteArray) (hs:s.size≤maxLen) (w:World) (hBn:Bn < w.heap.size) (hc:w.cell? ⟨Bn,0,none⟩ = some (.string s)) :
 SeqStopsK Fence.wide n Tryz.prog 199 #[.pointer (some ⟨Bn,0,none⟩)] (fun x:WB=>#[Value.string x.1]) (fun _ _=>True) (fun ys=>ys.map (fun x:WB=>x.1) = wlB s.data.toList) (fun pre=>pre.map (fun x:WB=>x.1) <+: wlB s.data.toList) (wlB s.data.toList).length w:=fun l J Jx W hW hJ _ hY h0=>
 m5_ n hn l Bn s hs J Jx W hJ hY ((hW.cell (p:=⟨Bn,0,none⟩) hBn).trans hc) h0
end Go.Proofs.YtlbnkpicnokgoaaGreat
namespace Go.Proofs.YtlbnkpicnokgoaaGreat
set_option linter.unusedVariables false
set_option maxRecDepth 100000
def bO_ (ps ks:List ByteArray):Bool:=laidL (ps.map (fun x=>x.data.toList)) (ks.map (fun x=>x.data.toList))
theorem cD_ (ks:List ByteArray):bO_ [] ks = ks.isEmpty:=by simp [bO_,laidL]
theorem b5_ {x:ByteArray} (h:x.data.toList = [35]) (ps ks:List ByteArray):bO_ (x :: ps) ks = (List.range (ks.length+1)).any (fun n=>bO_ ps (ks.drop n)):=by
 simp [bO_,laidL,h,List.map_drop]
theorem ct_ {x:ByteArray} (h:x.data.toList≠[35]) (ps:List ByteArray):bO_ (x :: ps) [] = false:=by
 simp [bO_,laidL,h]
theorem bP_ {x:ByteArray} (h:x.data.toList≠[35]) (ps:List ByteArray) (y:ByteArray) (ks:List ByteArray) :
 bO_ (x :: ps) (y :: ks) = ((x.data.toList == [42] || x.data.toList == y.data.toList) && bO_ ps ks):=by
 simp [bO_,laidL,h]
theorem il_ {x:ByteArray} (h:x.data.toList = [35]) {ps ks:List ByteArray} {k:Nat} (hk:k≤ks.length) (hl:bO_ ps (ks.drop k) = true):bO_ (x :: ps) ks = true:=by
 rw [b5_ h,List.any_eq_true];exact ⟨k,by simp;omega,hl⟩
theorem lK_ {x:ByteArray} (h:x.data.toList = [35]) {ps ks:List ByteArray} (hl:∀ j,j < ks.length+1→bO_ ps (ks.drop j) = false):bO_ (x :: ps) ks = false:=by
 rw [b5_ h,List.any_eq_false];intro j hj;simp at hj;simp [hl j (by omega)]
theorem bt_ {x:ByteArray} (h:x.data.toList = [35]):∀ (ps ks:List ByteArray),bO_ (ps ++ [x]) ks = (List.range (ks.length+1)).any (fun n=>bO_ ps (ks.take n))
 | [], ks => by
   rw [List.nil_append,b5_ h,Bool.eq_iff_iff,List.any_eq_true,List.any_eq_true];constructor
   ·intro _;exact ⟨0,by simp,by simp [cD_]⟩
   ·intro _;exact ⟨ks.length,by simp,by simp [cD_]⟩
 | p :: ps, ks => by
   by_cases hp:p.data.toList = [35]
   ·rw [List.cons_append,b5_ hp,Bool.eq_iff_iff,List.any_eq_true,List.any_eq_true];constructor
    ·rintro ⟨n,hn,hl⟩;rw [bt_ h,List.any_eq_true] at hl;obtain ⟨m,hm,hl⟩:=hl;simp at hn hm;refine ⟨n+m,by simp;omega,?_⟩;refine il_ hp (k:=n) (by simp;omega) ?_;rw [List.drop_take,show n+m - n = m from by omega];exact hl
    ·rintro ⟨n,hn,hl⟩;rw [b5_ hp,List.any_eq_true] at hl;obtain ⟨m,hm,hl⟩:=hl;simp at hn hm;refine ⟨m,by simp;omega,?_⟩;rw [bt_ h,List.any_eq_true];refine ⟨n - m,by simp;omega,?_⟩;rw [List.drop_take] at hl;exact hl
   ·cases ks with
    | nil=>rw [List.cons_append,ct_ hp];simp [ct_ hp]
    | cons k ks =>
      rw [List.cons_append,bP_ hp,bt_ h,Bool.eq_iff_iff,Bool.and_eq_true,List.any_eq_true,List.any_eq_true];constructor
      ·rintro ⟨h1,n,hn,hl⟩;simp at hn;exact ⟨n+1,by simp;omega,by rw [List.take_succ_cons,bP_ hp,h1,hl];rfl⟩
      ·rintro ⟨n,hn,hl⟩;cases n with
       | zero=>rw [List.take_zero,ct_ hp] at hl;cases hl
       | succ n =>
         rw [List.take_succ_cons,bP_ hp,Bool.and_eq_true] at hl;simp at hn;exact ⟨hl.1,n,by simp;omega,hl.2⟩
theorem cz_ {x:ByteArray} (h:x.data.toList≠[35]):∀ (ps:List ByteArray),bO_ (ps ++ [x]) [] = false
 | []=>ct_ h []
 | p :: ps => by
   by_cases hp:p.data.toList = [35]
   ·rw [List.cons_append,b5_ hp];simp [cz_ h ps]
   ·exact ct_ hp _
theorem fd_ {x:ByteArray} (h:x.data.toList≠[35]):∀ (ps ks:List ByteArray) (y:ByteArray),
 bO_ (ps ++ [x]) (ks ++ [y]) = (bO_ ps ks && (x.data.toList == [42] || x.data.toList == y.data.toList))
 | [],[],y=>by rw [List.nil_append,List.nil_append,bP_ h,cD_];simp
 | [],k :: ks,y=>by rw [List.nil_append,List.cons_append,bP_ h,cD_,cD_];simp
 | p :: ps, ks, y => by
   by_cases hp:p.data.toList = [35]
   ·rw [List.cons_append,b5_ hp,b5_ hp,List.length_append,List.length_singleton,List.range_succ,List.any_append];have e:∀ n ∈ List.range (ks.length+1),bO_ (ps ++ [x]) ((ks ++ [y]).drop n) = (bO_ ps (ks.drop n) && (x.data.toList == [42] || x.data.toList == y.data.toList)):=by
     intro n hn;simp at hn;rw [List.drop_append_of_le_length (by omega),fd_ h]
    have e2:(ks ++ [y]).drop (ks.length+1) = []:=List.drop_eq_nil_of_le (by simp);simp only [List.any_cons,List.any_nil,e2,cz_ h,Bool.or_false];rw [Bool.eq_iff_iff,List.any_eq_true,Bool.and_eq_true,List.any_eq_true];constructor
    ·rintro ⟨n,hn,hl⟩;rw [e n hn,Bool.and_eq_true] at hl;exact ⟨⟨n,hn,hl.1⟩,hl.2⟩
    ·rintro ⟨⟨n,hn,hl⟩,h2⟩;exact ⟨n,hn,by rw [e n hn,hl,h2];rfl⟩
   ·cases ks with
    | nil =>
      rw [List.cons_append,List.nil_append,bP_ hp,cz_ h,ct_ hp];simp
    | cons k ks =>
      rw [List.cons_append,List.cons_append,bP_ hp,bP_ hp,fd_ h,Bool.and_assoc]
end Go.Proofs.YtlbnkpicnokgoaaGreat
namespace Go.Proofs.YtlbnkpicnokgoaaGreat
open Go.RowKit Go.Shelf
set_option linter.unusedVariables false
set_option maxRecDepth 100000
set_option maxHeartbeats 2000000
attribute [local go_sem] Oper.semAt_some
theorem fT_ {right:List UInt8→Bool} {l:List UInt8} (h:24 < l.length):werr right l = 2:=by unfold werr;rw [if_pos (.inl h)]
theorem e8_ {right:List UInt8→Bool} {l:List UInt8} (h:6≤Lib.countByte l 46):werr right l = 2:=by unfold werr;rw [if_pos (.inr (by rw [bR_];omega))]
theorem fU_ (l:List UInt8):(wlB l).map (fun x=>x.data.toList) = wsplit l:=by simp [wlB,Function.comp_def]
theorem en_ {right:List UInt8→Bool} {l:List UInt8} (h1:l.length≤24) (h2:Lib.countByte l 46 < 6) (h:∀ x ∈ wlB l,right x.data.toList = true):werr right l = 0:=by
 unfold werr;rw [if_neg (by rw [bR_];omega),if_pos];rw [List.all_eq_true,← fU_];intro x hx;obtain ⟨y,hy,rfl⟩:=List.mem_map.1 hx;exact h y hy
theorem e7_ {right:List UInt8→Bool} {l:List UInt8} (h1:l.length≤24) (h2:Lib.countByte l 46 < 6) {x:ByteArray} (hx:x ∈ wlB l) (h:right x.data.toList = false):werr right l = 1:=by
 unfold werr;rw [if_neg (by rw [bR_];omega),if_neg];rw [List.all_eq_true,← fU_];intro hh;have:=hh _ (List.mem_map.2 ⟨x,hx,rfl⟩);rw [h] at this;cases this
theorem au_ {k:IntKind} {a b:Int} (h:a = b):Ending.returned (.int k a) = .returned (.int k b):=by rw [h]
theorem hm_ (s:ByteArray) (w:World) (h:24 < s.size) :
 Calls Tryz.prog 161 #[.string s,.func (.func 163) #[] #[]] w fun e w'=>e = .returned (.int .i64 (werr isW s.data.toList))∧Below w.heap.size w w':=by
 rw [fT_ (by simpa using h)];have h':(24:Int) < s.size:=by omega
 go_enter Tryz.func161,Tryz.ntmps161;go_wp2
 exact bodyPost_ret (v:=.int .i64 2) (by simp [results,Tryz.results161,go_sem]) rfl ⟨rfl,(by repeat (first | exact Below.refl _ _ | assumption | refine Below.drew ?_ | refine Below.alloc ?_ (by first | (simp;done) | (simp;omega) | omega) _ | refine Below.setCell ?_ (by first | (simp;done) | (simp;omega) | omega) _))⟩
theorem gz_ (s:ByteArray) (w:World) (h:s.size≤24) (hc:6≤Lib.countByte s.data.toList 46) :
 Calls Tryz.prog 161 #[.string s,.func (.func 163) #[] #[]] w fun e w'=>e = .returned (.int .i64 (werr isW s.data.toList))∧Below w.heap.size w w':=by
 rw [e8_ hc];have h':¬ (24:Int) < s.size:=by omega
 have hc':(6:Int)≤Lib.countByte s.data.toList 46:=by omega
 go_enter Tryz.func161,Tryz.ntmps161;go_wp2_with (go_at_call 178;refine (eL_ _ _).mono ?_;rintro e w' ⟨rfl,rfl⟩)
 exact bodyPost_ret (v:=.int .i64 2) (by simp [results,Tryz.results161,go_sem]) rfl ⟨rfl,(by repeat (first | exact Below.refl _ _ | assumption | refine Below.drew ?_ | refine Below.alloc ?_ (by first | (simp;done) | (simp;omega) | omega) _ | refine Below.setCell ?_ (by first | (simp;done) | (simp;omega) | omega) _))⟩
theorem f0_ (s:ByteArray) (w:World) (h:s.size≤24) (hc:Lib.countByte s.data.toList 46 < 6) :
 CallsIn Fence.wide 5 Tryz.prog 161 #[.string s,.func (.func 163) #[] #[]] w fun e w'=>e = .returned (.int .i64 (werr isW s.data.toList))∧Below w.heap.size w w':=by
 have h':¬ (24:Int) < s.size:=by omega
 have hc':decide ((6:Int)≤Lib.countByte s.data.toList 46) = false:=by simp;omega
 have hm:s.size≤maxLen:=by unfold maxLen;omega
 have hl:s.data.toList.length≤24:=by simpa using h
 refine callsIn_of_wp_marks Tryz.func161 rfl trivial ?_ rfl;simp only [Tryz.ntmps161,List.size_toArray,List.length_cons,List.length_nil,Nat.reduceAdd,Nat.reduceSub,Array.replicate_succ,Array.replicate_zero,List.push_toArray,List.append_toArray,List.nil_append,List.cons_append];gi_wp2_with (first
  | (refine ⟨trivial,?_⟩;gi_at_call 178;refine (callsIn_wide.2 (eL_ _ _)).mono ?_;rintro e w' ⟨rfl,rfl⟩)
  | (refine ⟨trivial,?_⟩;gi_at_call 179;refine (hs_ _ _ _).mono ?_;rintro e w' ⟨rfl,rfl⟩))
 have c0:=cr_ w (.func (.func 163) #[] #[]) 96;have c1:=cr_ (w.alloc (.cells #[.func (.func 163) #[] #[]] 96)) (.int .i64 0) 33;have c2:=cr_ ((w.alloc (.cells #[.func (.func 163) #[] #[]] 96)).alloc (.cells #[.int .i64 0] 33)) (.string s) 9;simp only [World.size_alloc] at c1 c2;have hB0:Below w.heap.size w (((w.alloc (.cells #[.func (.func 163) #[] #[]] 96)).alloc (.cells #[.int .i64 0] 33)).alloc (.cells #[.string s] 9)):=(by repeat (first | exact Below.refl _ _ | assumption | refine Below.drew ?_ | refine Below.alloc ?_ (by first | (simp;done) | (simp;omega) | omega) _ | refine Below.setCell ?_ (by first | (simp;done) | (simp;omega) | omega) _));refine wpIn_rangeFunc_ownF rfl (by omega) (gf:=199) (lb:=#[.pointer (some ⟨w.heap.size+1+1,0,none⟩)]) rfl trivial (enters_of Tryz.func199 (by kernel_rfl) rfl)
  (ea_ 4 (by omega) (w.heap.size+1+1) s hm _ (by simp) c2.1) (fun _ _=>trivial) (fun _ _ _ _ _ _ _ _=>trivial) (Below.refl _ _) (fun _=>rfl)
  (fun pre W=>((∀ y ∈ pre,isW y.1.data.toList = true)∧W.cell? ⟨w.heap.size,0,none⟩ = some (.func (.func 163) #[] #[])∧W.cell? ⟨w.heap.size+1,0,none⟩ = some (.int .i64 0)∧W.frozen? ⟨w.heap.size+1,0,none⟩ = false)∧Below w.heap.size w W)
  (fun c pre W=>(c = .ret∧(∃ y ∈ pre,isW y.1.data.toList = false)∧W.cell? ⟨w.heap.size+1,0,none⟩ = some (.int .i64 1))∧Below w.heap.size w W)
  (OwnFrom.and (Own.from (fun s A B row hs hg hr=>⟨hs.1,cell_kept hs.2.1 hg hr,cell_kept hs.2.2.1 hg hr,(frozen_kept hs.2.2.1 hg hr).trans hs.2.2.2⟩) _) (ownFrom_below (Nat.le_refl _) (by simp;omega)))
  (fun c=>OwnFrom.and (Own.from (fun s A B row hs hg hr=>⟨hs.1,hs.2.1,cell_kept hs.2.2 hg hr⟩) _) (ownFrom_below (Nat.le_refl _) (by simp;omega)))
  ⟨⟨by simp,b3_ _ (b3_ _ c0.1),b3_ _ c1.1,er_ _ c1.1 c1.2⟩,hB0⟩
  (fun x=>{ tmps:=#[.string s,.func (.func 163) #[] #[],undef,.pointer (some ⟨w.heap.size,0,none⟩),.pointer (some ⟨w.heap.size+1,0,none⟩),.string x.1,.string s,.int .i64 s.size,.bool false,.bool false,.string s,.int .i64 (Lib.countByte s.data.toList 46),.bool false,.bool false,.string s,.func (.func 199) #[] #[.pointer (some ⟨w.heap.size+1+1,0,none⟩)],.string x.1,undef,undef,undef,undef],defers:=[] }) ?assign ?body ?done ?stop
 case assign=>
  intro l x W K hK;gi_wp2
  exact hK
 case body=>
  rintro l pre x W ⟨⟨hp,hcf,hcr,hfr⟩,hB⟩ _;cases hx:isW x.1.data.toList with
  | false =>
    have HX:Hid (isW x.1.data.toList = false):=hx;clear hp;gi_wp2_with (refine ⟨trivial,?_⟩;gi_at_call 163;refine (CallsIn.inRound l (callsIn_wide.2 (gg_ _ _ x.2))).mono ?_;rintro e w' ⟨rfl,rfl⟩)
    exact ⟨KeepsOthers.setCell _ _ _,⟨rfl,⟨x,by simp,HX.out⟩,World.cell?_setCell_same' _ _ _ (by rw [hcr];rfl)⟩,hB.setCell (p:=⟨w.heap.size+1,0,none⟩) (by simp) _⟩
  | true =>
    have HP:Hid (∀ y ∈ pre ++ [x],isW y.1.data.toList = true):=fun y hy=>(List.mem_append.1 hy).elim (hp y) (fun e=>by simp at e;subst e;exact hx)
    clear hp;gi_wp2_with (refine ⟨trivial,?_⟩;gi_at_call 163;refine (CallsIn.inRound l (callsIn_wide.2 (gg_ _ _ x.2))).mono ?_;rintro e w' ⟨rfl,rfl⟩)
    exact ⟨KeepsOthers.refl _,trivial,⟨HP.out,hcf,hcr,hfr⟩,hB⟩
 case done=>
  rintro D ys W hD hys ⟨⟨hp,_,hcr,hfr⟩,hB⟩ hK;have HF:Hid (werr isW s.data.toList = 0):=en_ hl hc (fun x hx=>by rw [← hys] at hx;obtain ⟨y,hy,rfl⟩:=List.mem_map.1 hx;exact hp y hy);clear hp hys;gi_wp2
  have hK':=(KeepsOthers.setCell W ⟨w.heap.size+1,0,none⟩ (.int .i64 0)).same D _ hK rfl;refine ⟨by simp,.inl ⟨_,_,rfl,run_takeDeferred hK',?_⟩⟩;have hc5:=cell_kept (World.cell?_setCell_same' W ⟨w.heap.size+1,0,none⟩ (.int .i64 0) (by rw [hcr];rfl)) (grownBy_putObj' _ D (.deferred none)) (fun r e=>by cases e;exact ⟨_,hK',rfl⟩);refine ⟨.int .i64 0,?_,by rw [HF.out],(hB.setCell (p:=⟨w.heap.size+1,0,none⟩) (by simp) _).trans (belowK_b (w:=w) (Nat.le_refl _) _ D _ _ (by simp at hD;omega) hK' rfl rfl)⟩;simp [results,Tryz.results161,go_sem,hc5]
 case stop=>
  rintro D c pre W hD hpre ⟨⟨rfl,⟨y,hy,hyr⟩,hcr⟩,hB⟩ hK;have HF:Hid (werr isW s.data.toList = 1):=e7_ hl hc (hpre.subset (List.mem_map.2 ⟨y,hy,rfl⟩)) hyr;clear hyr hpre;gi_wp2
  refine ⟨by simp,.inl ⟨_,_,rfl,run_takeDeferred hK,?_⟩⟩;have hc5:=cell_kept hcr (grownBy_putObj' _ D (.deferred none)) (fun r e=>by cases e;exact ⟨_,hK,rfl⟩);refine ⟨.int .i64 1,?_,by rw [HF.out],hB.trans (belowK_b (w:=w) (Nat.le_refl _) W D _ _ (by simp at hD;omega) hK rfl rfl)⟩;simp [results,Tryz.results161,go_sem,hc5]
theorem h4_ (s:ByteArray) (w:World) :
 Calls Tryz.prog 161 #[.string s,.func (.func 163) #[] #[]] w fun e w'=>e = .returned (.int .i64 (werr isW s.data.toList))∧Below w.heap.size w w':=by
 by_cases h:24 < s.size
 ·exact hm_ s w h
 ·by_cases hc:6≤Lib.countByte s.data.toList 46
  ·exact gz_ s w (by omega) hc
  ·exact callsIn_wide.1 (f0_ s w (by omega) (by omega))
theorem hn_ (s:ByteArray) (w:World) (h:24 < s.size) :
 Calls Tryz.prog 161 #[.string s,.func (.func 162) #[] #[]] w fun e w'=>e = .returned (.int .i64 (werr isP s.data.toList))∧Below w.heap.size w w':=by
 rw [fT_ (by simpa using h)];have h':(24:Int) < s.size:=by omega
 go_enter Tryz.func161,Tryz.ntmps161;go_wp2
 exact bodyPost_ret (v:=.int .i64 2) (by simp [results,Tryz.results161,go_sem]) rfl ⟨rfl,(by repeat (first | exact Below.refl _ _ | assumption | refine Below.drew ?_ | refine Below.alloc ?_ (by first | (simp;done) | (simp;omega) | omega) _ | refine Below.setCell ?_ (by first | (simp;done) | (simp;omega) | omega) _))⟩
theorem gA_ (s:ByteArray) (w:World) (h:s.size≤24) (hc:6≤Lib.countByte s.data.toList 46) :
 Calls Tryz.prog 161 #[.string s,.func (.func 162) #[] #[]] w fun e w'=>e = .returned (.int .i64 (werr isP s.data.toList))∧Below w.heap.size w w':=by
 rw [e8_ hc];have h':¬ (24:Int) < s.size:=by omega
 have hc':(6:Int)≤Lib.countByte s.data.toList 46:=by omega
 go_enter Tryz.func161,Tryz.ntmps161;go_wp2_with (go_at_call 178;refine (eL_ _ _).mono ?_;rintro e w' ⟨rfl,rfl⟩)
 exact bodyPost_ret (v:=.int .i64 2) (by simp [results,Tryz.results161,go_sem]) rfl ⟨rfl,(by repeat (first | exact Below.refl _ _ | assumption | refine Below.drew ?_ | refine Below.alloc ?_ (by first | (simp;done) | (simp;omega) | omega) _ | refine Below.setCell ?_ (by first | (simp;done) | (simp;omega) | omega) _))⟩
theorem f1_ (s:ByteArray) (w:World) (h:s.size≤24) (hc:Lib.countByte s.data.toList 46 < 6) :
 CallsIn Fence.wide 5 Tryz.prog 161 #[.string s,.func (.func 162) #[] #[]] w fun e w'=>e = .returned (.int .i64 (werr isP s.data.toList))∧Below w.heap.size w w':=by
 have h':¬ (24:Int) < s.size:=by omega
 have hc':decide ((6:Int)≤Lib.countByte s.data.toList 46) = false:=by simp;omega
 have hm:s.size≤maxLen:=by unfold maxLen;omega
 have hl:s.data.toList.length≤24:=by simpa using h
 refine callsIn_of_wp_marks Tryz.func161 rfl trivial ?_ rfl;simp only [Tryz.ntmps161,List.size_toArray,List.length_cons,List.length_nil,Nat.reduceAdd,Nat.reduceSub,Array.replicate_succ,Array.replicate_zero,List.push_toArray,List.append_toArray,List.nil_append,List.cons_append];gi_wp2_with (first
  | (refine ⟨trivial,?_⟩;gi_at_call 178;refine (callsIn_wide.2 (eL_ _ _)).mono ?_;rintro e w' ⟨rfl,rfl⟩)
  | (refine ⟨trivial,?_⟩;gi_at_call 179;refine (hs_ _ _ _).mono ?_;rintro e w' ⟨rfl,rfl⟩))
 have c0:=cr_ w (.func (.func 162) #[] #[]) 96;have c1:=cr_ (w.alloc (.cells #[.func (.func 162) #[] #[]] 96)) (.int .i64 0) 33;have c2:=cr_ ((w.alloc (.cells #[.func (.func 162) #[] #[]] 96)).alloc (.cells #[.int .i64 0] 33)) (.string s) 9;simp only [World.size_alloc] at c1 c2;have hB0:Below w.heap.size w (((w.alloc (.cells #[.func (.func 162) #[] #[]] 96)).alloc (.cells #[.int .i64 0] 33)).alloc (.cells #[.string s] 9)):=(by repeat (first | exact Below.refl _ _ | assumption | refine Below.drew ?_ | refine Below.alloc ?_ (by first | (simp;done) | (simp;omega) | omega) _ | refine Below.setCell ?_ (by first | (simp;done) | (simp;omega) | omega) _));refine wpIn_rangeFunc_ownF rfl (by omega) (gf:=199) (lb:=#[.pointer (some ⟨w.heap.size+1+1,0,none⟩)]) rfl trivial (enters_of Tryz.func199 (by kernel_rfl) rfl)
  (ea_ 4 (by omega) (w.heap.size+1+1) s hm _ (by simp) c2.1) (fun _ _=>trivial) (fun _ _ _ _ _ _ _ _=>trivial) (Below.refl _ _) (fun _=>rfl)
  (fun pre W=>((∀ y ∈ pre,isP y.1.data.toList = true)∧W.cell? ⟨w.heap.size,0,none⟩ = some (.func (.func 162) #[] #[])∧W.cell? ⟨w.heap.size+1,0,none⟩ = some (.int .i64 0)∧W.frozen? ⟨w.heap.size+1,0,none⟩ = false)∧Below w.heap.size w W)
  (fun c pre W=>(c = .ret∧(∃ y ∈ pre,isP y.1.data.toList = false)∧W.cell? ⟨w.heap.size+1,0,none⟩ = some (.int .i64 1))∧Below w.heap.size w W)
  (OwnFrom.and (Own.from (fun s A B row hs hg hr=>⟨hs.1,cell_kept hs.2.1 hg hr,cell_kept hs.2.2.1 hg hr,(frozen_kept hs.2.2.1 hg hr).trans hs.2.2.2⟩) _) (ownFrom_below (Nat.le_refl _) (by simp;omega)))
  (fun c=>OwnFrom.and (Own.from (fun s A B row hs hg hr=>⟨hs.1,hs.2.1,cell_kept hs.2.2 hg hr⟩) _) (ownFrom_below (Nat.le_refl _) (by simp;omega)))
  ⟨⟨by simp,b3_ _ (b3_ _ c0.1),b3_ _ c1.1,er_ _ c1.1 c1.2⟩,hB0⟩
  (fun x=>{ tmps:=#[.string s,.func (.func 162) #[] #[],undef,.pointer (some ⟨w.heap.size,0,none⟩),.pointer (some ⟨w.heap.size+1,0,none⟩),.string x.1,.string s,.int .i64 s.size,.bool false,.bool false,.string s,.int .i64 (Lib.countByte s.data.toList 46),.bool false,.bool false,.string s,.func (.func 199) #[] #[.pointer (some ⟨w.heap.size+1+1,0,none⟩)],.string x.1,undef,undef,undef,undef],defers:=[] }) ?assign ?body ?done ?stop
 case assign=>
  intro l x W K hK;gi_wp2
  exact hK
 case body=>
  rintro l pre x W ⟨⟨hp,hcf,hcr,hfr⟩,hB⟩ _;cases hx:isP x.1.data.toList with
  | false =>
    have HX:Hid (isP x.1.data.toList = false):=hx;clear hp;gi_wp2_with (refine ⟨trivial,?_⟩;gi_at_call 162;refine (CallsIn.inRound l (callsIn_wide.2 (g4_ _ _ x.2))).mono ?_;rintro e w' ⟨rfl,rfl⟩)
    exact ⟨KeepsOthers.setCell _ _ _,⟨rfl,⟨x,by simp,HX.out⟩,World.cell?_setCell_same' _ _ _ (by rw [hcr];rfl)⟩,hB.setCell (p:=⟨w.heap.size+1,0,none⟩) (by simp) _⟩
  | true =>
    have HP:Hid (∀ y ∈ pre ++ [x],isP y.1.data.toList = true):=fun y hy=>(List.mem_append.1 hy).elim (hp y) (fun e=>by simp at e;subst e;exact hx)
    clear hp;gi_wp2_with (refine ⟨trivial,?_⟩;gi_at_call 162;refine (CallsIn.inRound l (callsIn_wide.2 (g4_ _ _ x.2))).mono ?_;rintro e w' ⟨rfl,rfl⟩)
    exact ⟨KeepsOthers.refl _,trivial,⟨HP.out,hcf,hcr,hfr⟩,hB⟩
 case done=>
  rintro D ys W hD hys ⟨⟨hp,_,hcr,hfr⟩,hB⟩ hK;have HF:Hid (werr isP s.data.toList = 0):=en_ hl hc (fun x hx=>by rw [← hys] at hx;obtain ⟨y,hy,rfl⟩:=List.mem_map.1 hx;exact hp y hy);clear hp hys;gi_wp2
  have hK':=(KeepsOthers.setCell W ⟨w.heap.size+1,0,none⟩ (.int .i64 0)).same D _ hK rfl;refine ⟨by simp,.inl ⟨_,_,rfl,run_takeDeferred hK',?_⟩⟩;have hc5:=cell_kept (World.cell?_setCell_same' W ⟨w.heap.size+1,0,none⟩ (.int .i64 0) (by rw [hcr];rfl)) (grownBy_putObj' _ D (.deferred none)) (fun r e=>by cases e;exact ⟨_,hK',rfl⟩);refine ⟨.int .i64 0,?_,by rw [HF.out],(hB.setCell (p:=⟨w.heap.size+1,0,none⟩) (by simp) _).trans (belowK_b (w:=w) (Nat.le_refl _) _ D _ _ (by simp at hD;omega) hK' rfl rfl)⟩;simp [results,Tryz.results161,go_sem,hc5]
 case stop=>
  rintro D c pre W hD hpre ⟨⟨rfl,⟨y,hy,hyr⟩,hcr⟩,hB⟩ hK;have HF:Hid (werr isP s.data.toList = 1):=e7_ hl hc (hpre.subset (List.mem_map.2 ⟨y,hy,rfl⟩)) hyr;clear hyr hpre;gi_wp2
  refine ⟨by simp,.inl ⟨_,_,rfl,run_takeDeferred hK,?_⟩⟩;have hc5:=cell_kept hcr (grownBy_putObj' _ D (.deferred none)) (fun r e=>by cases e;exact ⟨_,hK,rfl⟩);refine ⟨.int .i64 1,?_,by rw [HF.out],hB.trans (belowK_b (w:=w) (Nat.le_refl _) W D _ _ (by simp at hD;omega) hK rfl rfl)⟩;simp [results,Tryz.results161,go_sem,hc5]
theorem ls_ (s:ByteArray) (w:World) :
 Calls Tryz.prog 161 #[.string s,.func (.func 162) #[] #[]] w fun e w'=>e = .returned (.int .i64 (werr isP s.data.toList))∧Below w.heap.size w w':=by
 by_cases h:24 < s.size
 ·exact hn_ s w h
 ·by_cases hc:6≤Lib.countByte s.data.toList 46
  ·exact gA_ s w (by omega) hc
  ·exact callsIn_wide.1 (f1_ s w (by omega) (by omega))
end Go.Proofs.YtlbnkpicnokgoaaGreat
namespace Go.Proofs.YtlbnkpicnokgoaaGreat
open Go.RowKit
set_option linter.unusedVariables false
set_option maxRecDepth 100000
set_option maxHeartbeats 2000000
theorem Tryz.info9:(Tryz.prog.info? 9).map (fun i=>(i.zero,i.size,i.bytes)) = some (some (.string ⟨#[]⟩),1,16):=by kernel_rfl
def dP_ (s:ByteArray) (outs:List ByteArray) (f k:Nat):Prop:=
 f≤k∧k≤s.size∧wlB s.data.toList = outs ++ wlB (s.data.toList.drop f)∧(46:UInt8) ∉ (s.data.toList.drop f).take (k - f)
theorem ch_ {W:World} {base:Nat} {e:TypeId} {size:Nat} {v:Value} {n:Nat} {xs:List Value} (h:W.ownsRow base e size v n xs):∀ k,v.ownBlock = some k→base≤k:=by
 rcases h.2 with ⟨rfl,_⟩ | ⟨g,cap,cur,rfl,hg,_⟩
 ·intro k hk;cases hk
 ·intro k hk;cases hk;exact hg
theorem dP_.start (s:ByteArray):dP_ s [] 0 0:=⟨Nat.le_refl _,Nat.zero_le _,by simp,by simp⟩
theorem m4_ (l:List UInt8) (f k:Nat) (hf:f≤k) (hk:k < l.length):l.drop f = (l.drop f).take (k - f) ++ l[k] :: l.drop (k+1):=by
 conv=>lhs;rw [← List.take_append_drop (k - f) (l.drop f)]
 rw [List.drop_drop,show f+(k - f) = k from by omega,List.drop_eq_getElem_cons hk]
theorem nU_ (s:ByteArray) (f k:Nat):s.extract f k = ⟨((s.data.toList.drop f).take (k - f)).toArray⟩:=Lib.extract_eq s f k
theorem dP_.no {s:ByteArray} {outs:List ByteArray} {f k:Nat} (h:dP_ s outs f k) (hk:k < s.size) (hc:s[k]≠46):dP_ s outs f (k+1):=by
 obtain ⟨h1,h2,h3,h4⟩:=h;have hl:k < s.data.toList.length:=by simpa using hk
 refine ⟨by omega,by omega,h3,?_⟩;have e:(s.data.toList.drop f).take (k+1 - f) = (s.data.toList.drop f).take (k - f) ++ [s.data.toList[k]]:=by
  rw [show k+1 - f = (k - f)+1 from by omega,List.take_succ_eq_append_getElem (by simp;omega)];simp [List.getElem_drop,show f+(k - f) = k from by omega]
 rw [e];simp only [List.mem_append,List.mem_singleton,not_or];exact ⟨h4,fun e=>hc (by show s.data[k] = 46;simpa using e.symm)⟩
theorem dP_.dot {s:ByteArray} {outs:List ByteArray} {f k:Nat} (h:dP_ s outs f k) (hk:k < s.size) (hc:s[k] = 46):dP_ s (outs ++ [s.extract f k]) (k+1) (k+1):=by
 obtain ⟨h1,h2,h3,h4⟩:=h;have hl:k < s.data.toList.length:=by simpa using hk
 refine ⟨Nat.le_refl _,by omega,?_,by simp⟩;have hc':s.data.toList[k] = 46:=by have h:s.data[k] = 46:=hc;simpa using h
 have e:=m4_ s.data.toList f k h1 hl;rw [hc'] at e;rw [h3,nU_];conv=>lhs;rw [e]
 rw [wlB,mW_ _ _ h4];simp [wlB]
theorem dP_.fin {s:ByteArray} {outs:List ByteArray} {f k:Nat} (h:dP_ s outs f k) (hk:k = s.size):wlB s.data.toList = outs ++ [s.extract f k]:=by
 obtain ⟨h1,h2,h3,h4⟩:=h;subst hk;have e:(s.data.toList.drop f).take (s.size - f) = s.data.toList.drop f:=List.take_of_length_le (by simp);rw [e] at h4;rw [h3,nU_,e,wlB,jC_ _ h4];rfl
theorem dP_.len {s:ByteArray} {outs:List ByteArray} {f k:Nat} (h:dP_ s outs f k):outs.length≤s.size:=by
 obtain ⟨h1,h2,h3,h4⟩:=h;have e1:(wlB s.data.toList).length≤s.size+1:=by have:=iP_ s.data.toList;simp [wlB] at *;omega
 have e2:1≤(wlB (s.data.toList.drop f)).length:=by
  have:=gx_ (s.data.toList.drop f);have:(wsplit (s.data.toList.drop f)).length≠0:=by simpa using this
  simp [wlB];omega
 rw [h3,List.length_append] at e1;omega
theorem mM_ (s:ByteArray) (w:World) (hs:s.size≤24) :
 Calls Tryz.prog 150 #[.string s,.int .u8 46] w fun e w'=>∃ v,e = .returned v∧w'.ownsRow w.heap.size 9 1 v (wlB s.data.toList).length ((wlB s.data.toList).map Value.string)∧Below w.heap.size w w':=by
 obtain ⟨i0,hi,hz0,hz1,hz2⟩:=info_parts Tryz.info9;go_enter Tryz.func150,Tryz.ntmps150;go_wp2
 go_loopw [5,6,7] (fun v fv iv wr=>∃ (outs:List ByteArray) (f k:Nat),fv = .int .i64 f∧iv = .int .i64 k∧wr.ownsRow w.heap.size 9 1 v outs.length (outs.map Value.string)∧Below w.heap.size w wr∧(dP_ s outs f k∨k = s.size+1∧wlB s.data.toList = outs))
  (fun _ _ iv _=>s.size+1 - (intOf iv).toNat)
 case atStart=>exact ⟨[],0,0,rfl,rfl,World.ownsRow_nil _ _ _ _,Below.refl _ _,.inl (dP_.start s)⟩
 case round=>
  obtain ⟨outs,f,k,rfl,rfl,hown,hB,hinv⟩:=hrel;have hBs:=hB.size;rcases hinv with hinv | ⟨hk,hfin⟩
  ·have hf:=hinv.1;have hk:=hinv.2.1;have hlen:=hinv.len;have HI:Hid (dP_ s outs f k):=hinv;clear hinv;by_cases hlt:k < s.size
   ·have n1:((k:Int) == s.size) = false:=beq_eq_false_iff_ne.2 (by omega);by_cases hc:s[k] = 46
    ·have n2:((s[k].toNat:Int) == 46) = true:=by rw [hc];rfl
     have HN:=HI.out.dot hlt hc;have HN':Hid (dP_ s (outs ++ [s.extract f k]) (k+1) (k+1)):=HN;clear HN HI hc;go_wp2_with (at_builtin;refine wpList_append_own _ rfl _ _ 36 rfl w.heap.size 9 i0 (.string ⟨#[]⟩) 1 16 Tryz.underlying36 hi hz0 hz1 hz2 rfl (by decide) _ _ _ rfl (hown.alloc _) ⟨wr.heap.size,0,none⟩ 1 1 [.string (s.extract f k)] rfl rfl (cell_one_new _ _ _) (by simp [Value.oneCell']) (by unfold maxLen;omega) (by omega) (by simp;omega) ?_;intro v' w1 hown' hgrow _)
     have hB1:Below w.heap.size w w1:=(hB.alloc hBs _).grown hgrow (by simp;omega) (ch_ hown);go_roundw
     case rel=>exact ⟨outs ++ [s.extract f k],k+1,k+1,by go_num,by go_num,by simpa using hown',hB1,.inl HN'.out⟩
     case measure=>simp [intOf];omega
    ·have n2:((s[k].toNat:Int) == 46) = false:=by
      rw [beq_eq_false_iff_ne];intro h;exact hc (UInt8.toNat_inj.1 (by simpa using Int.ofNat.inj h))
     have HN:Hid (dP_ s outs f (k+1)):=HI.out.no hlt hc;clear HI hc;go_wp2
     go_roundw
     case rel=>exact ⟨outs,f,k+1,rfl,by go_num,hown,hB,.inl HN.out⟩
     case measure=>simp [intOf];omega
   ·have hk':k = s.size:=by omega
    have n1:((k:Int) == s.size) = true:=by rw [beq_iff_eq];omega
    have HN:Hid (wlB s.data.toList = outs ++ [s.extract f k]):=HI.out.fin hk';have HK:Hid (k = s.size):=hk';clear HI hk';go_wp2_with (at_builtin;refine wpList_append_own _ rfl _ _ 36 rfl w.heap.size 9 i0 (.string ⟨#[]⟩) 1 16 Tryz.underlying36 hi hz0 hz1 hz2 rfl (by decide) _ _ _ rfl (hown.alloc _) ⟨wr.heap.size,0,none⟩ 1 1 [.string (s.extract f k)] rfl rfl (cell_one_new _ _ _) (by simp [Value.oneCell']) (by unfold maxLen;omega) (by omega) (by simp;omega) ?_;intro v' w1 hown' hgrow _)
    have hB1:Below w.heap.size w w1:=(hB.alloc hBs _).grown hgrow (by simp;omega) (ch_ hown);go_roundw
    case rel=>exact ⟨outs ++ [s.extract f k],k+1,k+1,by go_num,by go_num,by simpa using hown',hB1,.inr ⟨by rw [HK.out],HN.out⟩⟩
    case measure=>simp [intOf];omega
  ·have HF:Hid (wlB s.data.toList = outs):=hfin;clear hfin;subst hk;go_wp2
   go_ret
   exact ⟨_,rfl,by rw [HF.out];exact hown,hB⟩
theorem dA_ (l:List UInt8):(wlB l).length = Lib.countByte l 46+1:=by simp [wlB,bR_]
theorem kj_ (s:ByteArray) (x:ByteArray) (h:x ∈ wlB s.data.toList):x.size≤s.size:=by
 obtain ⟨y,hy,rfl⟩:=List.mem_map.1 h;have:=ld_ _ y hy;show y.toArray.size≤_;simpa using this
def a5_ (W:World) (g off:Nat) (xs:List ByteArray):Prop:=∀ i (h:i < xs.length),W.cell? ⟨g,off+i,none⟩ = some (.string xs[i])
theorem ge_ {W:World} {base:Nat} {v:Value} {xs:List ByteArray} (h:W.ownsRow base 9 1 v xs.length (xs.map Value.string)) (hne:xs≠[]) :
 ∃ g cap,v = .slice (some ⟨g,0,none⟩) xs.length cap∧base≤g∧xs.length≤cap∧cap≤maxLen∧a5_ W g 0 xs:=by
 obtain ⟨h1,h2⟩:=h;rcases h2 with ⟨_,h0⟩ | ⟨g,cap,cur,rfl,hg,hh,hn,hm,hs,ht⟩
 ·exact absurd (List.length_eq_zero_iff.1 h0) hne
 ·refine ⟨g,cap,rfl,hg,hn,hm,fun i hi=>?_⟩;have e:cur.toList[i]? = some (.string xs[i]):=by
   have:(cur.toList.take (xs.length * 1))[i]? = some (.string xs[i]):=by rw [ht];simp [hi]
   rwa [List.getElem?_take_of_lt (by omega)] at this
  have e':cur[i]? = some (.string xs[i]):=by simpa using e
  simp [World.cell?,hh,e']
theorem cv_ (s:ByteArray) (xs:List ByteArray) (hxs:xs = wlB s.data.toList) (w:World) (hs:s.size≤24) :
 Calls Tryz.prog 150 #[.string s,.int .u8 46] w fun e w'=>∃ g cap,e = .returned (.slice (some ⟨g,0,none⟩) xs.length cap)∧w.heap.size≤g∧xs.length≤cap∧cap≤maxLen∧a5_ w' g 0 xs∧Below w.heap.size w w':=by
 subst hxs;refine (mM_ s w hs).mono ?_;rintro e w' ⟨v,rfl,hown,hB⟩;obtain ⟨g,cap,rfl,h1,h2,h3,h4⟩:=ge_ hown (by intro h;have:=dA_ s.data.toList;rw [h] at this;simp at this);exact ⟨g,cap,rfl,h1,h2,h3,h4,hB⟩
theorem jF_ {p:ByteArray→Bool} {xs:List ByteArray} {k:Nat} (hk:k < xs.length) (h:∀ x ∈ xs.take k,p x = true) (hx:p xs[k] = true):∀ x ∈ xs.take (k+1),p x = true:=by
 rw [List.take_succ_eq_append_getElem hk];intro x hx';rcases List.mem_append.1 hx' with h1 | h1
 ·exact h x h1
 ·rw [List.mem_singleton.1 h1];exact hx
theorem isP_w {x:ByteArray} (h:isW x.data.toList = true):isP x.data.toList = true:=by simp [isP,h]
theorem isP_star {x:ByteArray} (h:x.toList = [42]):isP x.data.toList = true:=by rw [Lib.toList_data] at h;simp [isP,h]
theorem isP_or {x:ByteArray} (h:(!x.toList == [42]) = false∨(!x.toList == [35]) = false):isP x.data.toList = true:=by
 rw [Lib.toList_data] at h;rcases h with h | h <;> (simp at h;simp [isP,h])
theorem nV_ {x:ByteArray} (h1:¬ isW x.data.toList = true) (h:(!x.toList == [42]) = true∧(!x.toList == [35]) = true):isP x.data.toList = false:=by
 rw [Lib.toList_data] at h;obtain ⟨a,b⟩:=h;simp at a b;simp [isP,a,b];simpa using h1
theorem oL_ (s:ByteArray) (w:World) :
 Calls Tryz.prog 111 #[.string s,.bool false] w fun e w'=>e = .returned (.int .i64 (werr isW s.data.toList))∧Below w.heap.size w w':=by
 by_cases h:24 < s.size
 ·rw [fT_ (by simpa using h)];have h':(24:Int) < s.size:=by omega
  go_enter Tryz.func111,Tryz.ntmps111;go_wp2
  go_ret
  exact ⟨rfl,Below.refl _ _⟩
 ·have h':¬ (24:Int) < s.size:=by omega
  have hl:s.data.toList.length≤24:=by simp;omega
  have hlen:=dA_ s.data.toList;obtain ⟨xs,hxs⟩:∃ xs,xs = wlB s.data.toList:=⟨_,rfl⟩
  have hsz:∀ i (hi:i < xs.length),xs[i].size≤maxLen:=fun i hi=>by
   have:=kj_ s xs[i] (by rw [← hxs];exact List.getElem_mem hi);unfold maxLen;omega
  rw [← hxs] at hlen;have HX:Hid (xs = wlB s.data.toList):=hxs;clear hxs;by_cases h6:6 < xs.length
  ·rw [e8_ (by omega)];have h6':(6:Int) < xs.length:=by omega
   go_enter Tryz.func111,Tryz.ntmps111;go_wp2_with (go_at_call 150;refine (cv_ s xs HX.out _ (by omega)).mono ?_;rintro e w' ⟨g,cap,rfl,hg,hcap,hcm,ht,hB⟩)
   go_ret
   exact ⟨rfl,hB⟩
  ·have h6':¬ (6:Int) < xs.length:=by omega
   have hc6:Lib.countByte s.data.toList 46 < 6:=by omega
   clear hlen;go_enter Tryz.func111,Tryz.ntmps111;go_wp2_with (go_at_call 150;refine (cv_ s xs HX.out _ (by omega)).mono ?_;rintro e w1 ⟨g,cap,rfl,hg,hcap,hcm,ht,hB⟩)
   go_loop [6] (fun i=>∃ k:Nat,k≤xs.length∧i = .int .i64 k∧∀ x ∈ xs.take k,isW x.data.toList = true) (fun i=>xs.length - (intOf i).toNat)
   case atStart=>exact ⟨0,Nat.zero_le _,rfl,by simp⟩
   case round=>
    obtain ⟨k,hk,rfl,ha⟩:=hrel;have HA:Hid (∀ x ∈ xs.take k,isW x.data.toList = true):=ha;clear ha;by_cases hlt:k < xs.length
    ·have hcell:=ht k hlt;have hsk:=hsz k hlt;obtain ⟨x,hx⟩:∃ x,x = xs[k]:=⟨_,rfl⟩
     rw [← hx] at hcell hsk;have HXk:Hid (x = xs[k]):=hx;clear hx;simp only [Nat.zero_add] at hcell;go_wp2_with (go_at_call 151;refine (gV_ _ _ hsk).mono ?_;rintro e w' ⟨rfl,rfl⟩)
     all_goals first
      | (go_ret
         have hr:isW x.data.toList = false:=by first | exact nV_ ‹_› ‹_› | exact Bool.eq_false_iff.2 ‹_›
         exact ⟨au_ (e7_ hl hc6 (x:=x) (by rw [← HX.out,HXk.out];exact List.getElem_mem hlt) hr).symm,hB⟩)
      | (have hr : isW x.data.toList = true := by first | assumption | exact isP_w ‹_› | exact isP_star ‹_› | exact isP_or ‹_›
         exact ⟨⟨k+1,by omega,by go_num,jF_ (p:=fun x=>isW x.data.toList) hlt HA.out (by rw [← HXk.out];exact hr)⟩,by simp [intOf];omega⟩)
    ·go_wp2
     go_ret
     have e:xs.take k = xs:=List.take_of_length_le (by omega);have HA':=HA.out;rw [e] at HA';exact ⟨au_ (en_ hl hc6 (by rw [← HX.out];exact HA')).symm,hB⟩
theorem oM_ (s:ByteArray) (w:World) :
 Calls Tryz.prog 111 #[.string s,.bool true] w fun e w'=>e = .returned (.int .i64 (werr isP s.data.toList))∧Below w.heap.size w w':=by
 by_cases h:24 < s.size
 ·rw [fT_ (by simpa using h)];have h':(24:Int) < s.size:=by omega
  go_enter Tryz.func111,Tryz.ntmps111;go_wp2
  go_ret
  exact ⟨rfl,Below.refl _ _⟩
 ·have h':¬ (24:Int) < s.size:=by omega
  have hl:s.data.toList.length≤24:=by simp;omega
  have hlen:=dA_ s.data.toList;obtain ⟨xs,hxs⟩:∃ xs,xs = wlB s.data.toList:=⟨_,rfl⟩
  have hsz:∀ i (hi:i < xs.length),xs[i].size≤maxLen:=fun i hi=>by
   have:=kj_ s xs[i] (by rw [← hxs];exact List.getElem_mem hi);unfold maxLen;omega
  rw [← hxs] at hlen;have HX:Hid (xs = wlB s.data.toList):=hxs;clear hxs;by_cases h6:6 < xs.length
  ·rw [e8_ (by omega)];have h6':(6:Int) < xs.length:=by omega
   go_enter Tryz.func111,Tryz.ntmps111;go_wp2_with (go_at_call 150;refine (cv_ s xs HX.out _ (by omega)).mono ?_;rintro e w' ⟨g,cap,rfl,hg,hcap,hcm,ht,hB⟩)
   go_ret
   exact ⟨rfl,hB⟩
  ·have h6':¬ (6:Int) < xs.length:=by omega
   have hc6:Lib.countByte s.data.toList 46 < 6:=by omega
   clear hlen;go_enter Tryz.func111,Tryz.ntmps111;go_wp2_with (go_at_call 150;refine (cv_ s xs HX.out _ (by omega)).mono ?_;rintro e w1 ⟨g,cap,rfl,hg,hcap,hcm,ht,hB⟩)
   go_loop [6] (fun i=>∃ k:Nat,k≤xs.length∧i = .int .i64 k∧∀ x ∈ xs.take k,isP x.data.toList = true) (fun i=>xs.length - (intOf i).toNat)
   case atStart=>exact ⟨0,Nat.zero_le _,rfl,by simp⟩
   case round=>
    obtain ⟨k,hk,rfl,ha⟩:=hrel;have HA:Hid (∀ x ∈ xs.take k,isP x.data.toList = true):=ha;clear ha;by_cases hlt:k < xs.length
    ·have hcell:=ht k hlt;have hsk:=hsz k hlt;obtain ⟨x,hx⟩:∃ x,x = xs[k]:=⟨_,rfl⟩
     rw [← hx] at hcell hsk;have HXk:Hid (x = xs[k]):=hx;clear hx;simp only [Nat.zero_add] at hcell;go_wp2_with (go_at_call 151;refine (gV_ _ _ hsk).mono ?_;rintro e w' ⟨rfl,rfl⟩)
     all_goals first
      | (go_ret
         have hr:isP x.data.toList = false:=by first | exact nV_ ‹_› ‹_› | exact Bool.eq_false_iff.2 ‹_›
         exact ⟨au_ (e7_ hl hc6 (x:=x) (by rw [← HX.out,HXk.out];exact List.getElem_mem hlt) hr).symm,hB⟩)
      | (have hr : isP x.data.toList = true := by first | assumption | exact isP_w ‹_› | exact isP_star ‹_› | exact isP_or ‹_›
         exact ⟨⟨k+1,by omega,by go_num,jF_ (p:=fun x=>isP x.data.toList) hlt HA.out (by rw [← HXk.out];exact hr)⟩,by simp [intOf];omega⟩)
    ·go_wp2
     go_ret
     have e:xs.take k = xs:=List.take_of_length_le (by omega);have HA':=HA.out;rw [e] at HA';exact ⟨au_ (en_ hl hc6 (by rw [← HX.out];exact HA')).symm,hB⟩
theorem d2_ (s:ByteArray) (w:World) :
 Calls Tryz.prog 128 #[.string s] w fun e w'=>e = .returned (.int .i64 (kerr s.data.toList))∧Below w.heap.size w w':=by
 go_enter Tryz.func128,Tryz.ntmps128;go_wp2_with (go_at_call 111;refine (oL_ _ _).mono ?_;rintro e w' ⟨rfl,hB⟩)
 go_ret
 exact ⟨rfl,hB⟩
theorem dD_ (s:ByteArray) (w:World) :
 Calls Tryz.prog 64 #[.string s] w fun e w'=>e = .returned (.int .i64 (perr s.data.toList))∧Below w.heap.size w w':=by
 go_enter Tryz.func64,Tryz.ntmps64;go_wp2_with (go_at_call 111;refine (oM_ _ _).mono ?_;rintro e w' ⟨rfl,hB⟩)
 go_ret
 exact ⟨rfl,hB⟩
theorem cZ_ (s:ByteArray) (w:World) :
 Calls Tryz.prog 132 #[.string s] w fun e w'=>e = .returned (.int .i64 (perr s.data.toList))∧Below w.heap.size w w':=by
 go_enter Tryz.func132,Tryz.ntmps132;go_wp2_with (go_at_call 161;refine (ls_ _ _).mono ?_;rintro e w' ⟨rfl,hB⟩)
 go_ret
 exact ⟨rfl,hB⟩
end Go.Proofs.YtlbnkpicnokgoaaGreat
namespace Go.Proofs.YtlbnkpicnokgoaaGreat
open Go.RowKit Go.Shelf
set_option linter.unusedVariables false
set_option maxRecDepth 100000
set_option maxHeartbeats 2000000
attribute [local go_sem] Oper.semAt_some
theorem dp_ {right:List UInt8→Bool} {l:List UInt8} (h:werr right l = 0):l.length≤24∧Lib.countByte l 46 < 6:=by
 unfold werr at h;by_cases h1:24 < l.length∨6 < (wsplit l).length
 ·rw [if_pos h1] at h;cases h
 ·rw [bR_] at h1;omega
theorem em_ (s:ByteArray) (w:World) (h:kerr s.data.toList≠0) :
 Calls Tryz.prog 164 #[.string s] w fun e w'=>e = .returned (.tuple #[.slice none 0 0,.int .i64 (kerr s.data.toList)])∧Below w.heap.size w w':=by
 have h':(kerr s.data.toList != 0) = true:=bne_iff_ne.2 h;obtain ⟨c,hc⟩:∃ c,c = kerr s.data.toList:=⟨_,rfl⟩
 have HC:Hid (c = kerr s.data.toList):=hc;rw [← hc] at h' ⊢;clear hc h;go_enter Tryz.func164,Tryz.ntmps164;go_wp2_with (go_at_call 161;refine (h4_ _ _).mono ?_;rintro e w' ⟨rfl,hB⟩;rw [show werr isW s.data.toList = c from HC.out.symm])
 go_ret2
 exact ⟨rfl,hB⟩
theorem mL_ (s:ByteArray) (w:World) (h:kerr s.data.toList = 0) :
 CallsIn Fence.wide 5 Tryz.prog 164 #[.string s] w fun e w'=>∃ v,e = .returned (.tuple #[v,.int .i64 0])∧w'.ownsRow w.heap.size 9 1 v (wlB s.data.toList).length ((wlB s.data.toList).map Value.string)∧Below w.heap.size w w':=by
 obtain ⟨h24,h6⟩:=dp_ h
 have hm : s.size ≤ maxLen := by have : s.size ≤ 24 := by simpa using h24
                                 unfold maxLen;omega
 have hn7:(wlB s.data.toList).length≤6:=by rw [dA_];omega
 have HC:Hid (kerr s.data.toList = 0):=h;clear h;obtain ⟨i0,hi,hz0,hz1,hz2⟩:=info_parts Tryz.info9;refine callsIn_of_wp_marks Tryz.func164 rfl trivial ?_ rfl;simp only [Tryz.ntmps164,List.size_toArray,List.length_cons,List.length_nil,Nat.reduceAdd,Nat.reduceSub,Array.replicate_succ,Array.replicate_zero,List.push_toArray,List.append_toArray,List.nil_append,List.cons_append];gi_wp2_with (first
  | (refine ⟨trivial,?_⟩;gi_at_call 161;refine (callsIn_wide.2 (h4_ _ _)).mono ?_;rintro e w1 ⟨rfl,hB1⟩;rw [show werr isW s.data.toList = 0 from HC.out])
  | (refine ⟨trivial,?_⟩;gi_at_call 179;refine (hs_ _ _ _).mono ?_;rintro e w' ⟨rfl,rfl⟩))
 have hs1:=hB1.size;have bO:=Boxed.new w1 36 (.slice none 0 0);have bN:=Boxed.new (w1.alloc (.cells #[.slice none 0 0] 36)) 9 (.string s);rw [World.size_alloc] at bN;have hB0:Below w.heap.size w ((w1.alloc (.cells #[.slice none 0 0] 36)).alloc (.cells #[.string s] 9)):=(hB1.alloc hs1 _).alloc (by simp;omega) _;refine wpIn_rangeFunc_ownG rfl (by omega) (gf:=199) (lb:=#[.pointer (some ⟨w1.heap.size+1,0,none⟩)]) rfl trivial (enters_of Tryz.func199 (by kernel_rfl) rfl)
  (ea_ 4 (by omega) (w1.heap.size+1) s hm _ (by simp) bN.cell) (fun _ _=>trivial) (fun _ _ _ _ _ _ _ _=>trivial) (Below.refl _ _) (fun _=>rfl)
  (fun pre W=>(∃ v,Boxed W w1.heap.size 36 v∧W.ownsRow w.heap.size 9 1 v pre.length (pre.map (fun x:WB=>Value.string x.1))∧True)∧Below w.heap.size w W)
  (fun _ _ _=>False)
  (OwnFrom.and (Own.from (holdsRow_own w.heap.size w1.heap.size 36 9 1 (fun pre:List WB=>pre.length) (fun pre:List WB=>pre.map (fun x:WB=>Value.string x.1)) (fun _ _=>True)) _) (ownFrom_below (Nat.le_refl _) (by simp;omega)))
  (fun _ _ _ _ _ hs _ _=>hs)
  ⟨⟨_,bO.alloc _,World.ownsRow_nil _ _ _ _,trivial⟩,hB0⟩
  (fun x=>{ tmps:=#[.string s,undef,.slice none 0 0,.int .i64 0,.int .i64 0,.pointer (some ⟨w1.heap.size,0,none⟩),.string x.1,.string s,.int .i64 0,.int .i64 0,.bool false,undef,.string s,.func (.func 199) #[] #[.pointer (some ⟨w1.heap.size+1,0,none⟩)],.string x.1,undef,undef,undef,undef,undef],defers:=[] }) ?assign ?body ?done ?stop
 case assign=>
  intro l x W K hK;gi_wp2
  exact hK
 case body=>
  rintro l pre x W ⟨⟨v,hv,hrow,_⟩,hB⟩ hlt;have hc:=hv.cell;have hBs:=hB.size;gi_wp2_with (gi_at_builtin;refine wpListIn_append_own _ rfl _ _ 36 rfl w.heap.size 9 i0 (.string ⟨#[]⟩) 1 16 Tryz.underlying36 hi hz0 hz1 hz2 rfl (by decide) _ _ _ rfl (hrow.alloc _) ⟨W.heap.size,0,none⟩ 1 1 [.string x.1] rfl rfl (cell_one_new _ _ _) (by simp [Value.oneCell']) (by unfold maxLen;omega) (by omega) (by simp;omega) ?_;intro v' w2 hown' hgrow _;obtain ⟨g',cap',rfl⟩:=ownsRow_succ hown';obtain ⟨hv1,hv2,hr2,hk2,hb2⟩:=hv.appended (by decide) hrow hB.size hs1 hown' hgrow;have hc1:=hv1.cell;have hf1:=hv1.frozen)
  exact ⟨hk2.from _,trivial,⟨_,hv2,by simpa using hr2,trivial⟩,hB.trans hb2⟩
 case done=>
  rintro D ys W hD hys ⟨⟨v,hv,hrow,_⟩,hB⟩ hK;have hc:=hv.cell;have HY:Hid (List.map (fun x:WB=>x.1) ys = wlB s.data.toList):=hys;clear hys;gi_wp2
  refine ⟨by simp,.inl ⟨_,_,rfl,run_takeDeferred hK,?_⟩⟩;have hrow':W.ownsRow w.heap.size 9 1 v (wlB s.data.toList).length ((wlB s.data.toList).map Value.string):=by
   rw [← HY.out];simpa [Function.comp_def] using hrow
  exact ⟨_,results_tmp2 rfl _ _ _,v,rfl,ownsRow_putObj hrow' _ hK rfl,hB.trans (belowK_b (w:=w) (Nat.le_refl _) W D _ _ (by simp at hD;omega) hK rfl rfl)⟩
 case stop=>
  rintro D c pre W _ _ h _;exact h.elim
theorem e2_ (s:ByteArray) (xs:List ByteArray) (hxs:xs = wlB s.data.toList) (w:World) (h:kerr s.data.toList = 0) :
 Calls Tryz.prog 164 #[.string s] w fun e w'=>∃ g cap,e = .returned (.tuple #[.slice (some ⟨g,0,none⟩) xs.length cap,.int .i64 0])∧w.heap.size≤g∧xs.length≤cap∧cap≤maxLen∧a5_ w' g 0 xs∧Below w.heap.size w w':=by
 subst hxs;refine (callsIn_wide.1 (mL_ s w h)).mono ?_;rintro e w' ⟨v,rfl,hown,hB⟩;obtain ⟨g,cap,rfl,h1,h2,h3,h4⟩:=ge_ hown (by intro h;have:=dA_ s.data.toList;rw [h] at this;simp at this);exact ⟨g,cap,rfl,h1,h2,h3,h4,hB⟩
end Go.Proofs.YtlbnkpicnokgoaaGreat
namespace Go.Proofs.YtlbnkpicnokgoaaGreat
open Go.RowKit
set_option linter.unusedVariables false
set_option maxRecDepth 100000
set_option maxHeartbeats 2000000
def aE_ (W:World) (a:Option Addr) (xs:List ByteArray):Prop:=xs = []∨∃ g o,a = some ⟨g,o,none⟩∧a5_ W g o xs
theorem aE_.cut {W:World} {g o c n:Nat} {xs:List ByteArray} (h:a5_ W g o xs) (hc:xs.length≤c) (A:Option Addr) (hA:A = if c = n then some ⟨g,o,none⟩ else some ⟨g,o+n,none⟩):aE_ W A (xs.drop n):=by
 by_cases hn:xs.length≤n
 ·exact .inl (List.drop_eq_nil_of_le hn)
 ·refine .inr ⟨g,o+n,by rw [hA,if_neg (by omega)],fun i hi=>?_⟩;have:=h (n+i) (by simp at hi;omega);rw [Nat.add_assoc,this];simp
theorem aE_.cut2 {W:World} {a:Option Addr} {c n:Nat} {xs:List ByteArray} (h:aE_ W a xs) (hc:xs.length≤c):aE_ W (if c = n then a else Option.map (fun x=>x.add n) a) (xs.drop n):=by
 rcases h with rfl | ⟨g,o,rfl,h⟩
 ·exact .inl (by simp)
 ·exact aE_.cut h hc _ (by by_cases hn:n = 0 <;> simp [Addr.add,hn])
theorem i4_ {x:ByteArray} {l:List UInt8} (h:x.data.toList≠l):(x.toList == l) = false:=by rw [Lib.toList_data];simpa using h
theorem i3_ {x:ByteArray} {l:List UInt8} (h:x.data.toList = l):(x.toList == l) = true:=by rw [Lib.toList_data];simpa using h
theorem ni_:∀ (ps ks:List ByteArray) (a1 a2:Option Addr) (n1 n2 c1 c2:Nat) (w:World),ps.length = n1→ks.length = n2→n1≤c1→c1≤maxLen→n2≤c2→c2≤maxLen→n2≤100→aE_ w a1 ps→aE_ w a2 ks →
 Calls Tryz.prog 195 #[.slice a1 n1 c1,.slice a2 n2 c2] w fun e w'=>e = .returned (.bool (bO_ ps ks))∧∃ n,w' = w.drewN n:=by
 intro ps;induction ps with
 | nil =>
   rintro ks a1 a2 n1 n2 c1 c2 w rfl hn2 _ _ _ _ _ _ _;rw [cD_];have e:((n2:Int) == 0) = ks.isEmpty:=by cases ks <;> simp at hn2 <;> subst hn2 <;> simp;omega
   obtain ⟨b,hb⟩:∃ b,b = ks.isEmpty:=⟨_,rfl⟩
   rw [← hb] at e ⊢;clear hb;go_enter Tryz.func195,Tryz.ntmps195;go_wp2_with fail
   go_ret
   exact ⟨rfl,0,rfl⟩
 | cons x ps ih =>
   rintro ks a1 a2 n1 n2 c1 c2 w hn1 hn2 hc1 hm1 hc2 hm2 h100 h1 h2;obtain ⟨g,o,rfl,ht⟩:∃ g o,a1 = some ⟨g,o,none⟩∧a5_ w g o (x :: ps):=by
    rcases h1 with h1 | h1
    ·cases h1
    ·exact h1
   have e0:w.cell? ⟨g,o,none⟩ = some (.string x):=ht 0 (by simp);have hz:((n1:Int) == 0) = false:=beq_eq_false_iff_ne.2 (by simp at hn1;omega);have hp:(0:Int) < n1:=by simp at hn1;omega
   have hp1:(1:Int)≤n1:=by omega
   have IH:Hid (∀ (ks:List ByteArray) (a1 a2:Option Addr) (n1 n2 c1 c2:Nat) (w:World),ps.length = n1→ks.length = n2→n1≤c1→c1≤maxLen→n2≤c2→c2≤maxLen→n2≤100→aE_ w a1 ps→aE_ w a2 ks →
    Calls Tryz.prog 195 #[.slice a1 n1 c1,.slice a2 n2 c2] w fun e w'=>e = .returned (.bool (bO_ ps ks))∧∃ n,w' = w.drewN n):=ih
   have HT:Hid (a5_ w g o (x :: ps)):=ht;have HN1:Hid ((x :: ps).length = n1):=hn1;have HN2:Hid (ks.length = n2):=hn2;have H2:Hid (aE_ w a2 ks):=h2;have hm1':c1≤9223372036854775807:=by unfold maxLen at hm1;omega
   have hm2':c2≤9223372036854775807:=by unfold maxLen at hm2;omega
   have HM:Hid (c1≤maxLen∧c2≤maxLen):=⟨hm1,hm2⟩;clear ih ht hn1 hn2 h1 h2 hm1 hm2;by_cases hx:x.data.toList = [35]
   ·have hxb:(x.toList == [35]) = true:=i3_ hx;have HXX:Hid (x.data.toList = [35]):=hx;clear hx;go_enter Tryz.func195,Tryz.ntmps195;go_wp2_with fail
    go_loopw [5] (fun i wr=>∃ k m:Nat,k≤n2+1∧i = .int .i64 k∧wr = w.drewN m∧∀ j,j < k→bO_ ps (ks.drop j) = false) (fun i _=>n2+1 - (intOf i).toNat)
    case atStart=>exact ⟨0,0,Nat.zero_le _,rfl,rfl,by intro j hj;omega⟩
    case round=>
     obtain ⟨k,m,hk,rfl,hwr,ha⟩:=hrel;have HA:Hid (∀ j,j < k→bO_ ps (ks.drop j) = false):=ha;have HW:Hid (wr = w.drewN m):=hwr;clear ha hwr;by_cases hlt:k≤n2
     ·have hk0:(0:Int)≤k:=by omega
      have hk1:(k:Int)≤n2:=by omega
      obtain ⟨b,hb⟩:∃ b,b = bO_ ps (ks.drop k):=⟨_,rfl⟩
      have HBB:Hid (b = bO_ ps (ks.drop k)):=hb;have C:Hid (∀ m',Calls Tryz.prog 195 #[.slice (if c1 = 1 then some ⟨g,o,none⟩ else some ⟨g,o+1,none⟩) (n1 - 1) (c1 - 1),.slice (if c2 = k then a2 else Option.map (fun x=>x.add k) a2) (n2 - k) (c2 - k)] (wr.drewN m') (fun e w'=>e = .returned (.bool b)∧∃ n,w' = (wr.drewN m').drewN n)):=by
       intro m';have q1:=HN1.out;have q2:=HN2.out;have q3:=HM.out;simp at q1;rw [hb,HW.out];exact IH.out (ks.drop k) _ _ _ _ _ _ _ (by omega) (by simp;omega) (by omega) (by omega) (by omega) (by omega) (by omega) (aE_.cut (W:=w) (n:=1) HT.out (by simp;omega) _ rfl) (aE_.cut2 (W:=w) H2.out (by omega))
      clear hb;cases b with
      | true =>
        go_wp2_with fail
        go_quiet ((go_at_call 195;exact Calls.quiet_of (C.out _)))
        go_wp2_with fail
        all_goals
         go_ret
         exact ⟨aq_ (il_ HXX.out (by have q2:=HN2.out;omega) HBB.out.symm).symm,_,by rw [HW.out,World.drewN_drewN]⟩
      | false =>
        go_wp2_with fail
        go_quiet ((go_at_call 195;exact Calls.quiet_of (C.out _)))
        go_wp2_with fail
        all_goals
         go_roundw
         case rel=>exact ⟨k+1,_,by omega,by go_num,by rw [HW.out,World.drewN_drewN],fun j hj=>by
          by_cases hjk:j = k
          ·rw [hjk];exact HBB.out.symm
          ·exact HA.out j (by omega)⟩
         case measure=>simp [intOf];omega
     ·go_wp2_with fail
      go_ret
      have q2:=HN2.out;exact ⟨aq_ (lK_ HXX.out (fun j hj=>HA.out j (by omega))).symm,m,HW.out⟩
   ·have hxb:(x.toList == [35]) = false:=i4_ hx;cases ks with
    | nil =>
      have hd:decide (0 < n2) = false:=by have q2:=HN2.out;simp at q2;simp;omega
      rw [ct_ hx];go_enter Tryz.func195,Tryz.ntmps195;go_wp2_with fail
      go_quiet (fail)
      go_wp2_with fail
      go_ret
      exact ⟨rfl,_,rfl⟩
    | cons y ks =>
      obtain ⟨g2,o2,rfl,ht2⟩:∃ g o,a2 = some ⟨g,o,none⟩∧a5_ w g o (y :: ks):=by
       rcases H2.out with h1 | h1
       ·cases h1
       ·exact h1
      have f0:w.cell? ⟨g2,o2,none⟩ = some (.string y):=ht2 0 (by simp);have q2:=HN2.out;have q1:=HN1.out;simp at q1 q2;have hp2:(0:Int) < n2:=by omega
      have hd:decide (0 < n2) = true:=by simp;omega
      have hp3:(1:Int)≤n2:=by omega
      rw [bP_ hx];obtain ⟨b,hb⟩:∃ b,b = bO_ ps ks:=⟨_,rfl⟩
      have C:Hid (∀ m',Calls Tryz.prog 195 #[.slice (if c1 = 1 then some ⟨g,o,none⟩ else some ⟨g,o+1,none⟩) (n1 - 1) (c1 - 1),.slice (if c2 = 1 then some ⟨g2,o2,none⟩ else some ⟨g2,o2+1,none⟩) (n2 - 1) (c2 - 1)] (w.drewN m') (fun e w'=>e = .returned (.bool b)∧∃ n,w' = (w.drewN m').drewN n)):=by
       intro m';have q3:=HM.out;rw [hb];exact IH.out ks _ _ _ _ _ _ _ (by omega) (by omega) (by omega) (by omega) (by omega) (by omega) (by omega) (aE_.cut (W:=w) (n:=1) HT.out (by simp;omega) _ rfl) (aE_.cut (W:=w) (n:=1) ht2 (by simp;omega) _ rfl)
      rw [← hb];clear hb q1 q2 hx ht2;by_cases s1:x.data.toList = [42]
      ·have s1b:(x.toList == [42]) = true:=i3_ s1;rw [show (x.data.toList == [42]) = true from by simpa using s1];clear s1;go_enter Tryz.func195,Tryz.ntmps195;go_wp2_with fail
       go_quiet ((go_at_call 195;exact Calls.quiet_of (C.out _)))
       go_wp2_with fail
       all_goals (go_ret;exact ⟨by simp,_,rfl⟩)
      ·have s1b:(x.toList == [42]) = false:=i4_ s1;by_cases s2:x.data.toList = y.data.toList
       ·have s2b:(x.toList == y.toList) = true:=by rw [Lib.toList_data,Lib.toList_data];simpa using s2
        rw [show (x.data.toList == y.data.toList) = true from by simpa using s2];clear s1 s2;go_enter Tryz.func195,Tryz.ntmps195;go_wp2_with fail
        go_quiet ((go_at_call 195;exact Calls.quiet_of (C.out _)))
        go_wp2_with fail
        all_goals (go_ret;exact ⟨by simp,_,rfl⟩)
       ·have s2b:(x.toList == y.toList) = false:=by rw [Lib.toList_data,Lib.toList_data];simpa using s2
        rw [show (x.data.toList == y.data.toList) = false from by simpa using s2,show (x.data.toList == [42]) = false from by simpa using s1];clear s1 s2;go_enter Tryz.func195,Tryz.ntmps195;go_wp2_with fail
        go_quiet ((go_at_call 195;exact Calls.quiet_of (C.out _)))
        go_wp2_with fail
        all_goals (go_ret;exact ⟨by simp,_,rfl⟩)
theorem a5_.below {W W':World} {B g o:Nat} {xs:List ByteArray} (h:a5_ W g o xs) (hB:Below B W W') (hg:g < B):a5_ W' g o xs:=
 fun i hi=>(hB.cell (p:=⟨g,o+i,none⟩) hg).trans (h i hi)
theorem a5_.lt {W:World} {g o:Nat} {xs:List ByteArray} (h:a5_ W g o xs) (hne:0 < xs.length):g < W.heap.size:=by
 have:=h 0 hne;unfold World.cell? at this;simp only at this;cases hb:W.heap[g]? with
 | none=>rw [hb] at this;cases this
 | some o=>exact (Array.getElem?_eq_some_iff.1 hb).1
theorem a5_.keep {W W':World} {g o:Nat} {xs:List ByteArray} (h:a5_ W g o xs) (hne:0 < xs.length) (hB:Below W.heap.size W W'):a5_ W' g o xs:=h.below hB (h.lt hne)
theorem ew_ (w:World) (n:Nat):Below w.heap.size w (w.drewN n):=⟨rfl,rfl,rfl,Nat.le_refl _,fun _ _=>rfl⟩
theorem ly_ (p k:List UInt8):fitL p k = bO_ (wlB p) (wlB k):=by unfold fitL bO_;rw [fU_,fU_]
theorem n9_ (p k:ByteArray) (w:World) (hp:p.size≤24) (hk:k.size≤24) :
 Calls Tryz.prog 177 #[.string p,.string k] w fun e w'=>e = .returned (.bool (fitL p.data.toList k.data.toList))∧Below w.heap.size w w':=by
 have hl1:=dA_ p.data.toList;have hl2:=dA_ k.data.toList;have hl3:(wlB k.data.toList).length≤100:=by
  have:=iP_ k.data.toList;simp [wlB] at *;omega
 rw [ly_];obtain ⟨xs,hxs⟩:∃ xs,xs = wlB p.data.toList:=⟨_,rfl⟩
 obtain ⟨ys,hys⟩:∃ ys,ys = wlB k.data.toList:=⟨_,rfl⟩
 rw [← hxs] at hl1 ⊢;rw [← hys] at hl2 hl3 ⊢;have HX:Hid (xs = wlB p.data.toList):=hxs;have HY:Hid (ys = wlB k.data.toList):=hys;have h1:0 < xs.length:=by omega
 have h2:0 < ys.length:=by omega
 clear hxs hys hl1 hl2;go_enter Tryz.func177,Tryz.ntmps177;go_wp2_with fail
 refine (cv_ p xs HX.out _ hp).mono ?_;rintro e w1 ⟨g1,c1,rfl,hg1,hc1,hm1,ht1,hB1⟩;go_wp2_with fail
 refine (cv_ k ys HY.out _ hk).mono ?_;rintro e w2 ⟨g2,c2,rfl,hg2,hc2,hm2,ht2,hB2⟩;go_wp2_with fail
 refine (ni_ xs ys _ _ _ _ _ _ _ rfl rfl hc1 hm1 hc2 hm2 hl3 (.inr ⟨g1,0,rfl,ht1.keep h1 hB2⟩) (.inr ⟨g2,0,rfl,ht2⟩)).mono ?_;rintro e w3 ⟨rfl,n,rfl⟩;go_wp2_with fail
 go_ret
 exact ⟨rfl,hB1.trans ((hB2.mono hB1.size).trans ((ew_ w2 n).mono (by have:=hB1.size;have:=hB2.size;omega)))⟩
theorem Tryz.info4:(Tryz.prog.info? 4).map (fun i=>(i.zero,i.size,i.bytes)) = some (some (.bool false),1,1):=by kernel_rfl
def bg_ (W:World) (g off:Nat) (bs:List Bool):Prop:=∀ i (h:i < bs.length),W.cell? ⟨g,off+i,none⟩ = some (.bool bs[i])
def layN (x:ByteArray) (bs:List Bool) (ks:List ByteArray):Nat→Bool
 | 0=>if x.data.toList = [35] then bs.getD 0 false else false
 | n+1=>if x.data.toList = [35] then bs.getD (n+1) false || layN x bs ks n else bs.getD n false && (x.data.toList == [42] || x.data.toList == (ks.getD n ⟨#[]⟩).data.toList)
def layB (x:ByteArray) (bs:List Bool) (ks:List ByteArray):List Bool:=(List.range bs.length).map (layN x bs ks)
def c2_ (x:ByteArray) (bs:List Bool) (ks:List ByteArray) (k:Nat):List Value:=(List.range bs.length).map (fun i=>Value.bool (if i < k then layN x bs ks i else false))
theorem kK_ (x:ByteArray) (bs:List Bool) (ks:List ByteArray):c2_ x bs ks 0 = List.replicate bs.length (.bool false):=by
 apply List.ext_getElem <;> simp [c2_]
theorem eS_ (x:ByteArray) (bs:List Bool) (ks:List ByteArray) (k:Nat) {b:Bool} (hb:layN x bs ks k = b):(c2_ x bs ks k).set k (.bool b) = c2_ x bs ks (k+1):=by
 apply List.ext_getElem
 ·simp [c2_]
 ·intro i h1 h2;simp only [c2_,List.getElem_set,List.getElem_map,List.getElem_range];by_cases hi:k = i
  ·subst hi;simp [hb]
  ·rw [if_neg hi];by_cases h3:i < k
   ·rw [if_pos h3,if_pos (by omega)]
   ·rw [if_neg h3,if_neg (by omega)]
theorem kJ_ (x:ByteArray) (bs:List Bool) (ks:List ByteArray) (k:Nat) (hb:layN x bs ks k = false):c2_ x bs ks k = c2_ x bs ks (k+1):=by
 apply List.ext_getElem
 ·simp [c2_]
 ·intro i h1 h2;simp only [c2_,List.getElem_map,List.getElem_range];by_cases hi:k = i
  ·subst hi;simp [hb]
  ·by_cases h3:i < k
   ·rw [if_pos h3,if_pos (by omega)]
   ·rw [if_neg h3,if_neg (by omega)]
theorem in_ (x:ByteArray) (bs:List Bool) (ks:List ByteArray) (k j:Nat) (hj:j < bs.length):(c2_ x bs ks k)[j]? = some (.bool (if j < k then layN x bs ks j else false)):=by
 simp [c2_,hj]
theorem kI_ (x:ByteArray) (bs:List Bool) (ks:List ByteArray):c2_ x bs ks bs.length = (layB x bs ks).map Value.bool:=by
 apply List.ext_getElem
 ·simp [c2_,layB]
 ·intro i h1 h2;simp [c2_,layB];intro h;simp [c2_] at h1;omega
theorem fh_ (n:Nat):(madeCells (Value.bool false).cells (n * 1)).toList = List.replicate n (.bool false):=by
 apply List.ext_getElem
 ·simp [madeCells]
 ·intro i h1 h2;simp [madeCells,Value.cells,Nat.mod_one]
theorem oe_ (x:ByteArray) (bs:List Bool) (ks:List ByteArray) (g1 c1 g2 c2:Nat) (w:World) (hl:bs.length = ks.length+1) (hn:bs.length≤100) (h1:bg_ w g1 0 bs) (h2:a5_ w g2 0 ks) (hg1:g1 < w.heap.size) (hg2:g2 < w.heap.size) :
 Calls Tryz.prog 201 #[.string x,.slice (some ⟨g1,0,none⟩) bs.length c1,.slice (some ⟨g2,0,none⟩) ks.length c2] w fun e w'=>
  e = .returned (.slice (some ⟨w.heap.size,0,none⟩) bs.length bs.length)∧w'.ownsRow w.heap.size 4 1 (.slice (some ⟨w.heap.size,0,none⟩) bs.length bs.length) bs.length ((layB x bs ks).map Value.bool)∧Below w.heap.size w w':=by
 obtain ⟨i0,hi,hz0,hz1,hz2⟩:=info_parts Tryz.info4;have hl1:ks.length < bs.length:=by omega
 have HL:Hid (bs.length = ks.length+1):=hl;have H1:Hid (bg_ w g1 0 bs):=h1;have H2:Hid (a5_ w g2 0 ks):=h2;clear hl h1 h2;go_enter Tryz.func201,Tryz.ntmps201;go_wp2_with (at_make;refine wpList_make_full _ rfl _ _ 109 rfl w.heap.size 4 i0 (.bool false) 1 Tryz.underlying109 hi hz0 hz1 _ _ _ _ bs.length rfl rfl rfl rfl (by rw [hz2];omega) (by unfold maxLen;omega) (Nat.le_refl _) ?_;intro w1 hown1 hgrow1)
 rw [fh_,← kK_ x bs ks] at hown1;have hB1:Below w.heap.size w w1:=(Below.refl _ w).grown hgrow1 (Nat.le_refl _) (fun k e=>by cases e);go_loopw [14] (fun i wr=>∃ k:Nat,k≤bs.length∧i = .int .i64 k∧wr.ownsRow w.heap.size 4 1 (.slice (some ⟨w.heap.size,0,none⟩) bs.length bs.length) bs.length (c2_ x bs ks k)∧Below w.heap.size w wr) (fun i _=>bs.length - (intOf i).toNat)
 case atStart=>exact ⟨0,Nat.zero_le _,rfl,hown1,hB1⟩
 case round=>
  clear hown1 hgrow1 hB1;obtain ⟨k,hk,rfl,hown,hB⟩:=hrel;by_cases hlt:k < bs.length
  ·have hlt':(k:Int) < bs.length:=by omega
   have hck:wr.cell? ⟨w.heap.size,k,none⟩ = some (.bool false):=by rw [hown.cellAt k (by omega),in_ x bs ks k k hlt];simp
   have hfk:wr.frozen? ⟨w.heap.size,k,none⟩ = false:=hown.frozenAt k;have hst:=fun b=>hown.stored k (.bool b)
   have HST:Hid (∀ b,(wr.setCell ⟨w.heap.size,k,none⟩ (.bool b)).ownsRow w.heap.size 4 1 (.slice (some ⟨w.heap.size,0,none⟩) bs.length bs.length) bs.length ((c2_ x bs ks k).set k (.bool b))):=fun b=>(hst b).1
   have HO:Hid (wr.ownsRow w.heap.size 4 1 (.slice (some ⟨w.heap.size,0,none⟩) bs.length bs.length) bs.length (c2_ x bs ks k)):=hown;by_cases hx:x.data.toList = [35]
   ·have hxb:(x.toList == [35]) = true:=i3_ hx;have hr:wr.cell? ⟨g1,k,none⟩ = some (.bool bs[k]):=(hB.cell (p:=⟨g1,k,none⟩) hg1).trans (by have:=H1.out k hlt;simpa using this);cases k with
    | zero =>
      have HF:Hid (layN x bs ks 0 = bs[0]):=by show layN x bs ks 0 = bs[0];simp [layN,hx,hlt]
      clear hst hx hown;cases hb:bs[0] with
      | true =>
        rw [hb] at hr;go_wp2_with fail
        go_roundw
        case rel=>exact ⟨1,by omega,rfl,by rw [← eS_ x bs ks 0 (HF.out.trans hb)];exact HST.out true,hB.setCell (p:=⟨w.heap.size,0,none⟩) (Nat.le_refl _) _⟩
        case measure=>simp [intOf];omega
      | false =>
        rw [hb] at hr;go_wp2_with fail
        go_roundw
        case rel=>exact ⟨1,by omega,rfl,by rw [← eS_ x bs ks 0 (HF.out.trans hb)];exact HST.out false,hB.setCell (p:=⟨w.heap.size,0,none⟩) (Nat.le_refl _) _⟩
        case measure=>simp [intOf];omega
    | succ j =>
      have HF:Hid (layN x bs ks (j+1) = (bs[j+1] || layN x bs ks j)):=by show layN x bs ks (j+1) = (bs[j+1] || layN x bs ks j);simp [layN,hx,hlt]
      have hcj:wr.cell? ⟨w.heap.size,j,none⟩ = some (.bool (layN x bs ks j)):=by rw [hown.cellAt j (by omega),in_ x bs ks (j+1) j (by omega)];simp
      obtain ⟨a,ha⟩:∃ a,a = layN x bs ks j:=⟨_,rfl⟩
      obtain ⟨b,hb⟩:∃ b,b = bs[j+1]:=⟨_,rfl⟩
      have HF2:Hid (layN x bs ks (j+1) = (b || a)):=by rw [ha,hb];exact HF.out
      rw [← ha] at hcj;rw [← hb] at hr;have hj1:(0:Int) < (j:Int)+1:=by omega
      have hj2:(j:Int) < bs.length:=by omega
      clear hst hx hown ha hb HF;cases b <;> cases a
      all_goals
       go_wp2_with fail
       go_roundw
       case rel=>exact ⟨j+2,by omega,by go_num,by rw [← eS_ x bs ks (j+1) HF2.out];exact HST.out _,hB.setCell (p:=⟨w.heap.size,j+1,none⟩) (Nat.le_refl _) _⟩
       case measure=>simp [intOf];omega
   ·have hxb:(x.toList == [35]) = false:=i4_ hx;cases k with
    | zero =>
      have HF:Hid (layN x bs ks 0 = false):=by show layN x bs ks 0 = false;simp [layN,hx]
      clear hst hx hown;go_wp2_with fail
      go_roundw
      case rel=>exact ⟨1,by omega,rfl,by rw [← kJ_ x bs ks 0 HF.out];exact HO.out,hB⟩
      case measure=>simp [intOf];omega
    | succ j =>
      have hr:wr.cell? ⟨g1,j,none⟩ = some (.bool bs[j]):=(hB.cell (p:=⟨g1,j,none⟩) hg1).trans (by have:=H1.out j (by omega);simpa using this);have hjk:j < ks.length:=by have:=HL.out;omega
      have hk:wr.cell? ⟨g2,j,none⟩ = some (.string ks[j]):=(hB.cell (p:=⟨g2,j,none⟩) hg2).trans (by have:=H2.out j hjk;simpa using this);have HF:Hid (layN x bs ks (j+1) = (bs[j] && (x.data.toList == [42] || x.data.toList == ks[j].data.toList))):=by
       show layN x bs ks (j+1) = _;simp [layN,hx,hjk,show j < bs.length from by omega]
      obtain ⟨y,hy⟩:∃ y,y = ks[j]:=⟨_,rfl⟩
      obtain ⟨b,hb⟩:∃ b,b = bs[j]:=⟨_,rfl⟩
      have HF2:Hid (layN x bs ks (j+1) = (b && (x.data.toList == [42] || x.data.toList == y.data.toList))):=by rw [hb,hy];exact HF.out
      rw [← hy] at hk;rw [← hb] at hr;have hj1:(0:Int) < (j:Int)+1:=by omega
      have hj2:(j:Int) < bs.length:=by omega
      have hj3:(j:Int) < ks.length:=by omega
      obtain ⟨s1,hs1⟩:∃ s1,(x.toList == [42]) = s1:=⟨_,rfl⟩
      obtain ⟨s2,hs2⟩:∃ s2,(x.toList == y.toList) = s2:=⟨_,rfl⟩
      have HF3:Hid (layN x bs ks (j+1) = (b && (s1 || s2))):=by
       show layN x bs ks (j+1) = (b && (s1 || s2));rw [HF2.out,← hs1,← hs2,Lib.toList_data,Lib.toList_data]
      clear hst hx hown hb hy HF HF2 hjk;cases b <;> cases s1 <;> cases s2
      all_goals
       go_wp2_with fail
       go_roundw
       case rel=>exact ⟨j+2,by omega,by go_num,by rw [← eS_ x bs ks (j+1) HF3.out];exact HST.out _,hB.setCell (p:=⟨w.heap.size,j+1,none⟩) (Nat.le_refl _) _⟩
       case measure=>simp [intOf];omega
  ·have hkn:k = bs.length:=by omega
   have HK:Hid (k = bs.length):=hkn;clear hkn;go_wp2_with fail
   go_ret
   exact ⟨rfl,by rw [← kI_];have h:=hown;rwa [show c2_ x bs ks k = c2_ x bs ks bs.length from congrArg (c2_ x bs ks) HK.out] at h,hB⟩
end Go.Proofs.YtlbnkpicnokgoaaGreat
namespace Go.Proofs.YtlbnkpicnokgoaaGreat
set_option linter.unusedVariables false
set_option maxRecDepth 100000
def bU_ (xs pre:List ByteArray):List Bool:=(List.range (xs.length+1)).map (fun n=>bO_ pre (xs.take n))
theorem dy_ (xs pre:List ByteArray):(bU_ xs pre).length = xs.length+1:=by simp [bU_]
theorem fm_ (xs pre:List ByteArray) (n:Nat) (h:n≤xs.length):(bU_ xs pre).getD n false = bO_ pre (xs.take n):=by
 have:n < xs.length+1:=by omega
 simp [bU_,List.getD,this]
theorem iD_ (xs:List ByteArray):bU_ xs [] = true :: List.replicate xs.length false:=by
 apply List.ext_getElem
 ·simp [bU_]
 ·intro i h1 h2;cases i with
  | zero=>simp [bU_,cD_]
  | succ i =>
    have h:i < xs.length:=by simpa [bU_] using h1
    simp [bU_,cD_];intro e;simp [e] at h
theorem kH_ (xs pre:List ByteArray) (x:ByteArray):∀ n,n≤xs.length→layN x (bU_ xs pre) xs n = bO_ (pre ++ [x]) (xs.take n):=by
 intro n;induction n with
 | zero =>
   intro _;by_cases hx:x.data.toList = [35]
   ·rw [layN,if_pos hx,fm_ _ _ 0 (Nat.zero_le _),bt_ hx];simp
   ·rw [layN,if_neg hx,List.take_zero,cz_ hx]
 | succ n ih =>
   intro hn;by_cases hx:x.data.toList = [35]
   ·rw [layN,if_pos hx,fm_ _ _ _ hn,ih (by omega),bt_ hx,bt_ hx];have e1:(xs.take (n+1)).length = n+1:=by simp;omega
    have e2:(xs.take n).length = n:=by simp;omega
    rw [e1,e2,List.range_succ (n:=n+1),List.any_append,Bool.or_comm];congr 1
    ·rw [Bool.eq_iff_iff,List.any_eq_true,List.any_eq_true];constructor
     ·rintro ⟨j,hj,h⟩;simp at hj;exact ⟨j,by simp;omega,by rw [List.take_take,Nat.min_eq_left (by omega)] at *;exact h⟩
     ·rintro ⟨j,hj,h⟩;simp at hj;exact ⟨j,by simp;omega,by rw [List.take_take,Nat.min_eq_left (by omega)] at *;exact h⟩
    ·simp [List.take_take]
   ·rw [layN,if_neg hx,fm_ _ _ n (by omega),List.take_succ_eq_append_getElem (show n < xs.length from by omega),fd_ hx];have:xs.getD n ⟨#[]⟩ = xs[n]:=by simp [List.getD,show n < xs.length from by omega]
    rw [this]
theorem kG_ (xs pre:List ByteArray) (x:ByteArray):layB x (bU_ xs pre) xs = bU_ xs (pre ++ [x]):=by
 apply List.ext_getElem
 ·simp [layB,bU_]
 ·intro i h1 h2;have h:i≤xs.length:=by simp [layB,bU_] at h1;omega
  simp only [layB,List.getElem_map,List.getElem_range];rw [kH_ xs pre x i h];simp [bU_]
theorem jv_ (xs pre:List ByteArray):(bU_ xs pre)[xs.length]'(by simp [bU_]) = bO_ pre xs:=by simp [bU_]
end Go.Proofs.YtlbnkpicnokgoaaGreat
