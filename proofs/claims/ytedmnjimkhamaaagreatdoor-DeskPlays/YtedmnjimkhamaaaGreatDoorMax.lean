import Derived.Lib.Bytealg
import Derived.Test.YtedmnjimkhamaaaGreatDoorRows
import Derived.WalkSpells
import Derived.WalkLawsBesides
import Derived.Lib.Walk
import Derived.RangeFuncNested
import Derived.RangeFuncBound
import Derived.Shelf.RegionOpen
import Derived.OwnWalkIn
import Derived.LoopNIn
import Derived.LoopIn
namespace Go.Proofs.YtedmnjimkhamaaaGreatDoor
set_option linter.unusedVariables false
set_option maxRecDepth 100000
set_option maxHeartbeats 1000000
abbrev iC:=@Array.getElem?_eq_some_iff
abbrev nF:=@Array.replicate_succ
abbrev cE:=@Go.RowKit.Below.alloc
abbrev nE:=@Go.RowKit.Below.drew
abbrev lE:=@Go.RowKit.Below.heap_alloc
abbrev rN:=@Go.RowKit.Below.heap_setCell
abbrev dA:=@Go.RowKit.Below.refl
abbrev pD:=@Go.RowKit.Below.setCell
abbrev aC:=@Bool.and_eq_true
abbrev mI:=@Bool.eq_false_iff
abbrev jF:=@Bool.eq_iff_iff
abbrev sN:=@Bool.false_eq_true
abbrev uS:=@Go.Boxed.new
abbrev gQ:=@ByteArray.data_extract
abbrev uH:=@ByteArray.ext
abbrev aD:=@ByteArray.size_append
abbrev pF:=@ByteArray.size_extract
abbrev tN:=@Go.Calls.quiet_of
abbrev fT:=@Go.Calls.quiet_of_same
abbrev lM:=@Go.CallsIn.inRound
abbrev yF:=@Classical.byContradiction
abbrev uN:=@Go.DataW.trod_int
abbrev aS:=@Eq.trans
abbrev oE:=@Int.eq_ofNat_of_zero_le
abbrev zI:=@Int.le_refl
abbrev rP:=@Int.lt_of_not_ge
abbrev wL:=@Int.ofNat.inj
abbrev uB:=@Go.IntKind.wrap_i64
abbrev dK:=@Go.KeepsOthers.setCell
abbrev zC:=@Go.Lib.toList_data
abbrev fJ:=@List.all_append
abbrev vG:=@List.all_eq_false
abbrev qD:=@List.all_eq_true
abbrev sO:=@List.any_eq_false
abbrev aE:=@List.any_eq_true
abbrev gE:=@List.append_assoc
abbrev sF:=@List.append_toArray
abbrev aJ:=@List.drop_append_of_le_length
abbrev vC:=@List.drop_eq_getElem_cons
abbrev mD:=@List.drop_eq_nil_of_le
abbrev gR:=@List.eq_nil_or_concat
abbrev jL:=@List.eraseIdx_eq_take_drop_succ
abbrev nG:=@List.ext_getElem
abbrev yH:=@List.filter_append
abbrev xJ:=@List.filter_cons
abbrev iQ:=@List.filter_eq_nil_iff
abbrev cM:=@List.findIdx_getElem
abbrev zF:=@List.flatMap_append
abbrev mF:=@List.flatMap_cons
abbrev tO:=@List.foldl_append
abbrev tB:=@List.getD_eq_getElem?_getD
abbrev wE:=@List.getElem?_append_left
abbrev uE:=@List.getElem?_append_right
abbrev tA:=@List.getElem?_eq_getElem
abbrev tF:=@List.getElem?_eq_none
abbrev cH:=@List.getElem?_eq_some_iff
abbrev sP:=@List.getElem?_replicate
abbrev rE:=@List.getElem?_set
abbrev uL:=@List.getElem_map
abbrev qB:=@List.getElem_mem
abbrev oU:=@List.getElem_range
abbrev yM:=@List.getElem_set_ne
abbrev wG:=@List.getElem_take
abbrev dC:=@List.length_append
abbrev rF:=@List.length_drop
abbrev kC:=@List.length_eq_zero_iff
abbrev sL:=@List.length_filter_le
abbrev dE:=@List.length_map
abbrev kF:=@List.length_set
abbrev iD:=@List.length_take
abbrev oD:=@List.map_append
abbrev fH:=@List.map_cons
abbrev fN:=@List.map_nil
abbrev oC:=@List.mem_append
abbrev vH:=@List.mem_cons
abbrev cF:=@List.mem_cons_of_mem
abbrev jE:=@List.mem_cons_self
abbrev sI:=@List.mem_flatMap
abbrev oG:=@List.mem_iff_getElem
abbrev jD:=@List.mem_map
abbrev cS:=@List.mem_of_getElem?
abbrev fG:=@List.mem_range
abbrev tC:=@List.mem_singleton
abbrev iO:=@List.mem_take_iff_getElem
abbrev uO:=@List.nodup_append
abbrev gJ:=@List.nodup_cons
abbrev dS:=@List.nodup_nil
abbrev uJ:=@List.pairwise_append
abbrev bJ:=@List.pairwise_cons
abbrev dH:=@List.pairwise_iff_getElem
abbrev cG:=@List.push_toArray
abbrev iI:=@List.range_succ
abbrev cD:=@List.setIfInBounds_toArray
abbrev dG:=@List.size_toArray
abbrev oM:=@List.sum_append
abbrev gF:=@List.take_append_drop
abbrev tP:=@List.take_length
abbrev iB:=@List.take_of_length_le
abbrev rA:=@List.take_succ_eq_append_getElem
abbrev gH:=@Nat.add_assoc
abbrev zH:=@Nat.add_sub_cancel
abbrev uP:=@Nat.add_sub_cancel_left
abbrev cJ:=@Nat.eq_zero_or_pos
abbrev eA:=@Nat.le_refl
abbrev vA:=@Nat.le_trans
abbrev yL:=@Nat.lt_irrefl
abbrev uC:=@Nat.lt_of_lt_of_le
abbrev xG:=@Nat.lt_or_ge
abbrev nK:=@Nat.min_eq_left
abbrev fS:=@Nat.mul_le_mul_right
abbrev jQ:=@Nat.ne_of_lt
abbrev jI:=@Nat.not_lt_zero
abbrev uD:=@Nat.zero_add
abbrev zA:=@Nat.zero_le
abbrev kQ:=@Nat.zero_mul
abbrev qH:=@Go.Oper.semAt_some
abbrev yG:=@Option.some.inj
abbrev oJ:=@Option.some.injEq
abbrev vO:=@Go.OwnFrom.and
abbrev iJ:=@UInt8.toNat_inj
abbrev sE:=@Go.WideMaps.keyOf_string_mk
abbrev jA:=@Go.World.alloc_heap_new
abbrev dM:=@Go.World.cell?_of_block
abbrev eI:=@Go.World.cell?_setCell_same'
abbrev wK:=@Go.World.drewN_drewN
abbrev fK:=@Go.World.grownBy_alloc
abbrev aG:=@Go.World.ownsMap.store
abbrev vN:=@Go.World.ownsMap_made
abbrev aI:=@Go.World.ownsRow_made
abbrev jC:=@Go.World.ownsRow_nil
abbrev vP:=@Go.World.putObj_heap_other
abbrev pC:=@Go.World.size_alloc
abbrev xD:=@beq_eq_false_iff_ne
abbrev mQ:=@beq_iff_eq
abbrev kD:=@bne_iff_ne
abbrev dB:=@Go.bodyPost_ret
abbrev kU:=@Go.callsIn_of_wp
abbrev rI:=@Go.callsIn_of_wp_marks
abbrev tE:=@Go.callsIn_wide
abbrev wH:=@Go.cell_kept
abbrev tH:=@Go.cell_one_new
abbrev vD:=@decide_eq_false
abbrev pH:=@decide_eq_false_iff_not
abbrev eC:=@decide_eq_true
abbrev mC:=@decide_eq_true_eq
abbrev xN:=@decide_eq_true_iff
abbrev rK:=@Go.Proofs.enters_of
abbrev wM:=@Go.grownBy_putObj'
abbrev cQ:=@Go.grownBy_setCell'
abbrev jG:=@Go.heap_setCell_other
abbrev kA:=@if_neg
abbrev qA:=@if_pos
abbrev qF:=@Go.info_parts
abbrev qJ:=@of_decide_eq_true
abbrev aM:=@Go.ownFrom_below
abbrev uG:=@Go.plainElem_int
abbrev sQ:=@Go.results_none
abbrev tQ:=@Go.results_tmp2
abbrev aU:=@Go.run_callFunc_extern
abbrev vI:=@Go.run_takeDeferred
abbrev vE:=@Go.wpList_append_own
abbrev vQ:=@Go.wpList_lookup_own_unit
abbrev cK:=@Go.wpList_make_full
def mU(c:UInt8):Bool:=decide (97<=c.toNat/\c.toNat<=122\/48<=c.toNat/\c.toNat<=57)
def qO(l:List UInt8):Bool:=l.all mU&&!l.isEmpty
def bP(l:List UInt8):Bool:=l==[42]||l==[35]||qO l
def dF:List UInt8->List (List UInt8)
 |[]=>[[]]
 |c::r=>if c=46 then[]::dF r else match dF r with
   |[]=>[[c]]
   |h::t=>(c::h)::t
theorem JQ(l:List UInt8):dF l≠[]:=by
 cases l with
 |nil=>simp[dF]
 |cons c r=>unfold dF;split<;>(try split)<;>simp
theorem ZH(l:List UInt8)(h:(46:UInt8)∉l):dF l=[l]:=by
 induction l with
 |nil=>rfl
 |cons c r ih=>
   have h1:¬c=46:=λe=>h (by simp[e]);have h2:=ih (λe=>h (by simp[e]));simp[dF,h1,h2]
theorem R3(a b:List UInt8)(h:(46:UInt8)∉a):dF (a++46::b)=a::dF b:=by
 induction a with
 |nil=>simp[dF]
 |cons c r ih=>
   have h1:¬c=46:=λe=>h (by simp[e]);have h2:=ih (λe=>h (by simp[e]));simp[dF,h1,h2]
theorem AY(l:List UInt8):(dF l).length=Lib.countByte l 46+1:=by
 induction l with
 |nil=>simp[dF,Lib.countByte]
 |cons c r ih=>
   unfold Lib.countByte at*;by_cases h:c=46;·subst h;simp[dF,ih]
   ·have h':¬(c==46)=true:=by simpa using h
    have hne:=JQ r;cases hw:dF r with
    |nil=>exact absurd hw hne
    |cons x t=>
      rw[hw]at ih;simp only[dF,h,if_false,hw];rw[List.count_cons_of_ne (by simpa using h)];simpa using ih
theorem RJ(l:List UInt8):(dF l).length<=l.length+1:=by
 rw[AY];have:=List.count_le_length (a:=(46:UInt8)) (l:=l);unfold Lib.countByte;omega
theorem P_(l:List UInt8):∀x∈dF l,x.length<=l.length:=by
 induction l with
 |nil=>simp[dF]
 |cons c r ih=>
   intro x hx;by_cases h:c=46
   ·simp[dF,h]at hx;rcases hx with rfl|hx;·simp
    ·have:=ih x hx;simp;omega
   ·simp only[dF,h,if_false]at hx;cases hw:dF r with
    |nil=>exact absurd hw (JQ r)
    |cons y t=>
      rw[hw]at hx ih;simp at hx;rcases hx with rfl|hx;·have:=ih y (by simp);simp;omega
      ·have:=ih x (by simp[hx]);simp;omega
theorem VS(l:List UInt8):(Lib.indexByte l 46=-1/\dF l=[l])\/∃i:Nat,Lib.indexByte l 46=i/\i<l.length/\dF l=l.take i::dF (l.drop (i+1)):=by
 induction l with
 |nil=>left;simp[Lib.indexByte,dF]
 |cons c r ih=>
   by_cases h:c=46;·right;refine⟨0,by simp[Lib.indexByte,h],by simp,by simp[dF,h]⟩
   ·rcases ih with⟨h1,h2⟩|⟨i,h1,h2,h3⟩;·left;simp[Lib.indexByte,h,h1,dF,h2]
    ·right;refine⟨i+1,?_,by simp;omega,by simp[dF,h,h3]⟩;simp[Lib.indexByte,h,h1]
def nJ(right:List UInt8->Bool)(l:List UInt8):Int:=
 if 24<l.length\/6<(dF l).length then 2 else if(dF l).all right then 0 else 1
def kG(l:List UInt8):Int:=nJ qO l
def pK(l:List UInt8):Int:=nJ bP l
def qP:List (List UInt8)->List (List UInt8)->Bool
 |[],k=>k.isEmpty
 |p::ps,k=>if p=[35]then(List.range (k.length+1)).any (λn=>qP ps (k.drop n))else match k with
   |[]=>false
   |x::xs=>(p==[42]||p==x)&&qP ps xs
def yN(p k:List UInt8):Bool:=qP (dF p) (dF k)
def mN(p k:List UInt8):Int:=if pK p=0 then kG k else pK p
def wW(p k:List UInt8):Bool:=if mN p k=0 then yN p k else false
open Go.RowKit
theorem EH(s:ByteArray)(w:World):
 Calls Tryz.prog 8 #[.string s,.string ⟨#[46]⟩] w λe w'=>e=.returned (.int .i64 (Lib.countByte s.data.toList 46))/\w'=w:=by
 go_enter Tryz.func8,Tryz.ntmps8;go_wp2;rw[aU Tryz.func29 (by kernel_rfl) (by kernel_rfl) (by kernel_rfl) (e:=Extern.BytealgCount.count) (by kernel_rfl),Lib.run_countString];simp only[Result.andThen];rw[Oper.upon_value];go_wp2;go_ret;exact⟨rfl,rfl⟩
theorem GZ(s:ByteArray)(c:Int)(w:World):
 Calls Tryz.prog 92 #[.string s,.int .u8 c] w λe w'=>e=.returned (.int .i64 (Lib.indexByte s.data.toList c.toNat.toUInt8))/\w'=w:=by
 go_enter Tryz.func92,Tryz.ntmps92;go_wp2;rw[aU Tryz.func126 (by kernel_rfl) (by kernel_rfl) (by kernel_rfl) (e:=Extern.BytealgIndexByte.indexByte) (by kernel_rfl),Lib.run_indexByteString];simp only[Result.andThen];rw[Oper.upon_value];go_wp2;go_ret;exact⟨rfl,rfl⟩
theorem PZ(s:ByteArray)(w:World):
 Calls Tryz.prog 58 #[.string s,.string ⟨#[46]⟩] w λe w'=>e=.returned (.int .i64 (Lib.indexByte s.data.toList 46))/\w'=w:=by
 go_enter Tryz.func58,Tryz.ntmps58;go_wp2_with(go_at_call 92;refine(GZ _ _ _).mono ?_;rintro e w'⟨rfl,rfl⟩)
 ·have h:([46]==s.toList)=true:=by assumption
  go_ret;refine⟨?_,rfl⟩;have e:s.data.toList=[46]:=by rw[<-zC];exact(mQ.1 h).symm
  rw[e];simp[Lib.indexByte]
 ·go_ret;exact⟨rfl,rfl⟩
theorem Z_(s:ByteArray)(w:World)(h:Lib.indexByte s.data.toList 46=-1):
 Calls Tryz.prog 32 #[.string s,.string ⟨#[46]⟩] w λe w'=>e=.returned (.tuple #[.string s,.string ⟨#[]⟩,.bool false])/\w'=w:=by
 go_enter Tryz.func32,Tryz.ntmps32;go_wp2_with(go_at_call 58;refine(PZ _ _).mono ?_;rintro e w'⟨rfl,rfl⟩;rw[h]);go_ret3;exact⟨rfl,rfl⟩
theorem d5(s:ByteArray)(i:Nat)(w:World)(h:Lib.indexByte s.data.toList 46=i)(hi:i<s.size)(hs:s.size<=maxLen):
 Calls Tryz.prog 32 #[.string s,.string ⟨#[46]⟩] w λe w'=>e=.returned (.tuple #[.string (s.extract 0 i),.string (s.extract (i+1) s.size),.bool true])/\w'=w.drewN 1:=by
 unfold maxLen at hs;have c1:(0:Int)<=↑i:=by omega
 have c2:(↑i:Int)<=↑s.size:=by omega
 have c3:(0:Int)<=↑i+1:=by omega
 have c4:(↑i+1:Int)<=↑s.size:=by omega
 go_enter Tryz.func32,Tryz.ntmps32;go_wp2_with(go_at_call 58;refine(PZ _ _).mono ?_;rintro e w'⟨rfl,rfl⟩;rw[h]);go_region;go_wp2;go_ret3;exact⟨rfl,rfl⟩
theorem S4(s:ByteArray)(w:World)(h:Lib.indexByte s.data.toList 46=-1):
 Calls Tryz.prog 11 #[.string s,.string ⟨#[46]⟩] w λe w'=>e=.returned (.tuple #[.string s,.string ⟨#[]⟩,.bool false])/\w'=w:=by
 go_enter Tryz.func11,Tryz.ntmps11;go_wp2_with(go_at_call 32;refine(Z_ _ _ h).mono ?_;rintro e w'⟨rfl,rfl⟩);go_ret3;exact⟨rfl,rfl⟩
theorem S5(s:ByteArray)(i:Nat)(w:World)(h:Lib.indexByte s.data.toList 46=i)(hi:i<s.size)(hs:s.size<=maxLen):
 Calls Tryz.prog 11 #[.string s,.string ⟨#[46]⟩] w λe w'=>e=.returned (.tuple #[.string (s.extract 0 i),.string (s.extract (i+1) s.size),.bool true])/\w'=w.drewN 1:=by
 go_enter Tryz.func11,Tryz.ntmps11;go_wp2_with(go_at_call 32;refine(d5 _ i _ h hi hs).mono ?_;rintro e w'⟨rfl,rfl⟩);go_ret3;exact⟨rfl,rfl⟩
theorem eL{a b:Bool}(h:a=b):Ending.returned (.bool a)=.returned (.bool b):=by rw[h]
theorem FN(s:ByteArray)(k:Nat)(h:k<s.size):s.data.toList.take (k+1)=s.data.toList.take k++[s[k]]:=by
 rw[rA (by simpa using h)];rfl
theorem UZ{c:UInt8}(h:97<=(c.toNat:Int)/\(c.toNat:Int)<=122\/48<=(c.toNat:Int)/\(c.toNat:Int)<=57):mU c=true:=by
 unfold mU;rw[xN];omega
theorem VC{c:UInt8}(h:¬(97<=(c.toNat:Int)/\(c.toNat:Int)<=122\/48<=(c.toNat:Int)/\(c.toNat:Int)<=57)):mU c=false:=by
 unfold mU;rw[pH];omega
theorem SK(s:ByteArray)(k:Nat)(h:k<s.size)(ha:(s.data.toList.take k).all mU=true)(hc:mU s[k]=true):(s.data.toList.take (k+1)).all mU=true:=by
 rw[FN s k h,fJ,ha];simp[hc]
theorem UV(s:ByteArray)(k:Nat)(h:k<s.size)(hc:mU s[k]=false):qO s.data.toList=false:=by
 have:s.data.toList.all mU=false:=by
  rw[vG];exact⟨s[k],by show s.data[k]∈_;simp,by simp[hc]⟩
 simp[qO,this]
theorem QF(s:ByteArray)(k:Nat)(h:¬k<s.size):(s.data.toList.take k).all mU=s.data.toList.all mU:=by
 rw[iB (by simp;omega)]
theorem JW(s:ByteArray)(w:World)(hs:s.size<=maxLen):
 Calls Tryz.prog 91 #[.string s] w λe w'=>e=.returned (.bool (qO s.data.toList))/\w'=w:=by
 unfold maxLen at hs;go_enter Tryz.func91,Tryz.ntmps91;go_wp2;go_loop[7](λi=>∃k:Nat,k<=s.size/\i=.int .i64 k/\(s.data.toList.take k).all mU=true)(λi=>s.size-(intOf i).toNat);case atStart=>exact⟨0,zA _,rfl,rfl⟩
 case round=>
  obtain⟨k,hk,rfl,ha⟩:=hrel;have HA:Hid ((s.data.toList.take k).all mU=true):=ha;clear ha;by_cases hlt:k<s.size;·go_wp2;all_goals first
    |(go_ret;exact⟨eL (UV s k hlt (VC (by omega))).symm,rfl⟩)
    |exact⟨⟨k+1,by omega,by go_num,SK s k hlt HA.out (UZ (by omega))⟩,by simp[intOf];omega⟩
  ·go_wp2;go_ret;exact⟨eL (by rw[qO,<-QF s k hlt,HA.out,<-zC];simp),rfl⟩
theorem PT(s:ByteArray)(w:World)(hs:s.size<=maxLen):
 Calls Tryz.prog 117 #[.string s] w λe w'=>e=.returned (.bool (qO s.data.toList))/\w'=w:=by
 unfold maxLen at hs;go_enter Tryz.func117,Tryz.ntmps117;go_wp2;go_loop[3](λi=>∃k:Nat,k<=s.size/\i=.int .i64 k/\(s.data.toList.take k).all mU=true)(λi=>s.size-(intOf i).toNat);case atStart=>exact⟨0,zA _,rfl,rfl⟩
 case round=>
  obtain⟨k,hk,rfl,ha⟩:=hrel;have HA:Hid ((s.data.toList.take k).all mU=true):=ha;clear ha;by_cases hlt:k<s.size
  ·by_cases h1:97<=(s[k].toNat:Int)<;>by_cases h2:(s[k].toNat:Int)<=122<;>by_cases h3:48<=(s[k].toNat:Int)<;>by_cases h4:(s[k].toNat:Int)<=57<;>first|(exfalso;omega)|skip
   all_goals
    go_wp2;first
     |(go_ret;exact⟨eL (UV s k hlt (VC (by omega))).symm,rfl⟩)
     |exact⟨⟨k+1,by omega,by go_num,SK s k hlt HA.out (UZ (by omega))⟩,by simp[intOf];omega⟩
  ·go_wp2;go_ret;exact⟨eL (by rw[qO,<-QF s k hlt,HA.out,<-zC];simp),rfl⟩
theorem OS(s:ByteArray)(w:World)(hs:s.size<=maxLen):
 Calls Tryz.prog 90 #[.string s] w λe w'=>e=.returned (.bool (bP s.data.toList))/\w'=w:=by
 go_enter Tryz.func90,Tryz.ntmps90;go_wp2_with(go_at_call 91;refine(JW _ _ hs).mono ?_;rintro e w'⟨rfl,rfl⟩);all_goals(go_ret;exact⟨eL (by simp_all[bP,<-zC]),rfl⟩)
open Go.Shelf
attribute[local go_sem]qH
theorem VY{W:World}{B:Nat}{v:Value}{t:TypeId}(h:W.heap[B]?=some (.cells #[v] t (0,0))):W.cell? ⟨B,0,none⟩=some v/\W.frozen? ⟨B,0,none⟩=false:=by
 constructor<;>simp[World.cell?,World.frozen?,h]
theorem AH(W:World)(v:Value)(t:TypeId):(W.alloc (.cells #[v] t)).cell? ⟨W.heap.size,0,none⟩=some v/\(W.alloc (.cells #[v] t)).frozen? ⟨W.heap.size,0,none⟩=false:=
 VY (jA W _)
theorem BN{W:World}{a:Addr}{v:Value}(o:Obj)(h:W.cell? a=some v):(W.alloc o).cell? a=some v:=wH h (fK W o none) (λr e=>by cases e)
theorem MV{W:World}{a:Addr}{v:Value}(o:Obj)(h:W.cell? a=some v)(hf:W.frozen? a=false):(W.alloc o).frozen? a=false:=(frozen_kept h (fK W o none) (λr e=>by cases e)).trans hf
theorem ZM(w:World)(n:Nat)(row:Option Nat):w.grownBy (w.drewN n) row:=⟨rfl,rfl,rfl,eA _,λ_ _ _=>rfl⟩
abbrev WB:={x:ByteArray//x.size<=maxLen}
def wI(l:List UInt8):List ByteArray:=(dF l).map (λx=>⟨x.toArray⟩)
def MJ:Value->Nat|.string x=>x.size|_=>0
def LH:Value->Nat|.bool true=>1|_=>0
theorem pq_(r:ByteArray)(h:dF r.data.toList=[r.data.toList]):wI r.data.toList=[r]:=by
 simp[wI,h]
theorem pr_(r:ByteArray)(i:Nat)(hi:i<r.size)(h:dF r.data.toList=r.data.toList.take i::dF (r.data.toList.drop (i+1))):
 wI r.data.toList=r.extract 0 i::wI (r.extract (i+1) r.size).data.toList:=by
 have e1:r.extract 0 i=⟨(r.data.toList.take i).toArray⟩:=by rw[Lib.extract_eq];simp
 have e2:(r.extract (i+1) r.size).data.toList=r.data.toList.drop (i+1):=by
  rw[Lib.extract_data];exact iB (by simp)
 rw[e1,e2,wI,h];rfl
theorem N3(n:Nat)(hn:1<=n)(l Bn:Nat)(s:ByteArray)(hs:s.size<=maxLen)(J Jx:List WB->World->Prop)(W:World)
 (hJ:AbidesFrom W.heap.size J)
 (hY:∀pre x W1,J pre W1->pre.length<(wI s.data.toList).length->YieldAt Fence.wide (n-1) Tryz.prog l #[.string x.1] W1 λe W'=>
  (e=.returned (.bool true)/\J (pre++[x]) W'/\True)\/(e=.returned (.bool false)/\Jx (pre++[x]) W'))
 (hBn:W.cell? ⟨Bn,0,none⟩=some (.string s))(h0:J [] W):
 CallsIn Fence.wide n Tryz.prog 171 #[.func (.yield l) #[] #[],.pointer (some ⟨Bn,0,none⟩)] W λe W'=>(∃v,e=.returned v)/\
  ((∃ys,List.map (λx:WB=>x.1) ys=wI s.data.toList/\J ys W')\/(∃pre,List.map (λx:WB=>x.1) pre<+:wI s.data.toList/\Jx pre W')):=by
 refine kU Tryz.func171 rfl trivial ?_ rfl;simp only[Tryz.ntmps171,dG,List.length_cons,List.length_nil,Nat.reduceAdd,Nat.reduceSub,nF,Array.replicate_zero,cG,sF,List.nil_append,List.cons_append];gi_wp2;gi_loopw[3,4](λrv mv wr=>∃(pre:List WB)(r:ByteArray)(m:Bool),rv=.string r/\mv=.bool m/\r.size<=maxLen/\(if m then wI s.data.toList=List.map (λx:WB=>x.1) pre++wI r.data.toList else wI s.data.toList=List.map (λx:WB=>x.1) pre)/\J pre wr)
  (λrv mv _=>LH mv*(MJ rv+1));case atStart=>
  exact⟨[],s,true,rfl,rfl,hs,by simp,h0⟩
 case round=>
  obtain⟨pre,r,m,rfl,rfl,hr,hx,hJs⟩:=hrel;cases m with
  |false=>
    gi_wp2;go_end0;exact⟨⟨_,rfl⟩,.inl ⟨pre,by simpa using hx.symm,hJs⟩⟩
  |true=>
    simp only[if_true]at hx;rcases VS r.data.toList with⟨h1,h2⟩|⟨i,h1,h2,h3⟩
    ·have hw1:=pq_ r h2;rw[hw1]at hx;have HX:Hid (wI s.data.toList=List.map (λx:WB=>x.1) pre++[r]):=hx;have hlen:pre.length<(wI s.data.toList).length:=by rw[hx];simp
     obtain⟨fn,tmps,assign,body,hy,hR⟩:=hY pre ⟨r,hr⟩ wr hJs hlen;dsimp only at hy;clear hx hw1 h2;gi_wp2_with(refine⟨trivial,?_⟩;gi_at_call 11;refine(tE.2 (S4 r _ h1)).mono ?_;rintro e w'⟨rfl,rfl⟩);refine hR.mono ?_;rintro e W3(⟨rfl,hJ3,_⟩|⟨rfl,hJx3⟩)
     ·gi_wp2;go_roundw;case rel=>exact⟨pre++[⟨r,hr⟩],⟨#[]⟩,false,rfl,rfl,zA _,by simpa using HX.out,hJ3⟩
      case measure=>simp[LH,MJ]
     ·gi_wp2;refine dB (sQ rfl _ _ _) rfl ?_;exact⟨⟨_,rfl⟩,.inr ⟨pre++[⟨r,hr⟩],by rw[HX.out];simp,hJx3⟩⟩
    ·have hi:i<r.size:=by simpa using h2
     have hw1:=pr_ r i hi h3;rw[hw1]at hx;have HX:Hid (wI s.data.toList=List.map (λx:WB=>x.1) pre++r.extract 0 i::wI (r.extract (i+1) r.size).data.toList):=hx;have hlen:pre.length<(wI s.data.toList).length:=by rw[hx];simp
     have he1:(r.extract 0 i).size<=maxLen:=by rw[pF];omega
     have he2:(r.extract (i+1) r.size).size<=maxLen:=by rw[pF];omega
     have he3:(r.extract (i+1) r.size).size<r.size:=by rw[pF];omega
     have hJd:J pre (wr.drewN 1):=hJ pre wr _ none hJs (ZM _ _ _) (λr e=>by cases e);obtain⟨fn,tmps,assign,body,hy,hR⟩:=hY pre ⟨r.extract 0 i,he1⟩ (wr.drewN 1) hJd hlen;dsimp only at hy;have HE:Hid ((r.extract (i+1) r.size).size<r.size/\(r.extract (i+1) r.size).size<=maxLen):=⟨he3,he2⟩;clear hx hw1 h2 h3 he2 he3;gi_wp2_with(refine⟨trivial,?_⟩;gi_at_call 11;refine(tE.2 (S5 r i _ h1 hi hr)).mono ?_;rintro e w'⟨rfl,rfl⟩);refine hR.mono ?_;rintro e W3(⟨rfl,hJ3,_⟩|⟨rfl,hJx3⟩)
     ·gi_wp2;go_roundw;case rel=>exact⟨pre++[⟨r.extract 0 i,he1⟩],r.extract (i+1) r.size,true,rfl,rfl,HE.out.2,by simpa using HX.out,hJ3⟩
      case measure=>have:=HE.out.1;simp only[LH,MJ];omega
     ·gi_wp2;refine dB (sQ rfl _ _ _) rfl ?_;exact⟨⟨_,rfl⟩,.inr ⟨pre++[⟨r.extract 0 i,he1⟩],by rw[HX.out];simp,hJx3⟩⟩
theorem GF(n:Nat)(s:ByteArray)(w:World):
 CallsIn Fence.wide n Tryz.prog 125 #[.string s] w λe w'=>e=.returned (.func (.func 171) #[] #[.pointer (some ⟨w.heap.size,0,none⟩)])/\w'=w.alloc (.cells #[.string s] 9):=by
 refine kU Tryz.func125 rfl trivial ?_ rfl;simp only[Tryz.ntmps125,dG,List.length_cons,List.length_nil,Nat.reduceAdd,Nat.reduceSub,nF,Array.replicate_zero,cG,sF,List.nil_append,List.cons_append];gi_wp2;go_ret;exact⟨rfl,rfl⟩
theorem EW(n:Nat)(hn:1<=n)(Bn:Nat)(s:ByteArray)(hs:s.size<=maxLen)(w:World)(hBn:Bn<w.heap.size)(hc:w.cell? ⟨Bn,0,none⟩=some (.string s)):
 SeqStopsK Fence.wide n Tryz.prog 171 #[.pointer (some ⟨Bn,0,none⟩)] (λx:WB=>#[Value.string x.1]) (λ_ _=>True) (λys=>ys.map (λx:WB=>x.1)=wI s.data.toList) (λpre=>pre.map (λx:WB=>x.1)<+:wI s.data.toList) (wI s.data.toList).length w:=λl J Jx W hW hJ _ hY h0=>
 N3 n hn l Bn s hs J Jx W hJ hY ((hW.cell (p:=⟨Bn,0,none⟩) hBn).trans hc) h0
end Go.Proofs.YtedmnjimkhamaaaGreatDoor
namespace Go.Proofs.YtedmnjimkhamaaaGreatDoor
set_option linter.unusedVariables false
set_option maxRecDepth 100000
set_option maxHeartbeats 2000000
def cN(ps ks:List ByteArray):Bool:=qP (ps.map (λx=>x.data.toList)) (ks.map (λx=>x.data.toList))
theorem vY(ks:List ByteArray):cN [] ks=ks.isEmpty:=by simp[cN,qP]
theorem yY{x:ByteArray}(h:x.data.toList=[35])(ps ks:List ByteArray):cN (x::ps) ks=(List.range (ks.length+1)).any (λn=>cN ps (ks.drop n)):=by
 simp[cN,qP,h,List.map_drop]
theorem AB{x:ByteArray}(h:x.data.toList≠[35])(ps:List ByteArray):cN (x::ps) []=false:=by
 simp[cN,qP,h]
theorem uX{x:ByteArray}(h:x.data.toList≠[35])(ps:List ByteArray)(y:ByteArray)(ks:List ByteArray):
 cN (x::ps) (y::ks)=((x.data.toList==[42]||x.data.toList==y.data.toList)&&cN ps ks):=by
 simp[cN,qP,h]
theorem RM{x:ByteArray}(h:x.data.toList=[35]){ps ks:List ByteArray}{k:Nat}(hk:k<=ks.length)(hl:cN ps (ks.drop k)=true):cN (x::ps) ks=true:=by
 rw[yY h,aE];exact⟨k,by simp;omega,hl⟩
theorem H7{x:ByteArray}(h:x.data.toList=[35]){ps ks:List ByteArray}(hl:∀j,j<ks.length+1->cN ps (ks.drop j)=false):cN (x::ps) ks=false:=by
 rw[yY h,sO];intro j hj;simp at hj;simp[hl j (by omega)]
theorem BD{x:ByteArray}(h:x.data.toList=[35]):∀(ps ks:List ByteArray),cN (ps++[x]) ks=(List.range (ks.length+1)).any (λn=>cN ps (ks.take n))
 |[],ks=>by
   rw[List.nil_append,yY h,jF,aE,aE];constructor;·intro _;exact⟨0,by simp,by simp[vY]⟩
   ·intro _;exact⟨ks.length,by simp,by simp[vY]⟩
 |p::ps,ks=>by
   by_cases hp:p.data.toList=[35]
   ·rw[List.cons_append,yY hp,jF,aE,aE];constructor;·rintro⟨n,hn,hl⟩;rw[BD h,aE]at hl;obtain⟨m,hm,hl⟩:=hl;simp at hn hm;refine⟨n+m,by simp;omega,?_⟩;refine RM hp (k:=n) (by simp;omega) ?_;rw[List.drop_take,show n+m-n=m from by omega];exact hl
    ·rintro⟨n,hn,hl⟩;rw[yY hp,aE]at hl;obtain⟨m,hm,hl⟩:=hl;simp at hn hm;refine⟨m,by simp;omega,?_⟩;rw[BD h,aE];refine⟨n-m,by simp;omega,?_⟩;rw[List.drop_take]at hl;exact hl
   ·cases ks with
    |nil=>rw[List.cons_append,AB hp];simp[AB hp]
    |cons k ks=>
      rw[List.cons_append,uX hp,BD h,jF,aC,aE,aE];constructor;·rintro⟨h1,n,hn,hl⟩;simp at hn;exact⟨n+1,by simp;omega,by rw[List.take_succ_cons,uX hp,h1,hl];rfl⟩
      ·rintro⟨n,hn,hl⟩;cases n with
       |zero=>rw[List.take_zero,AB hp]at hl;cases hl
       |succ n=>
         rw[List.take_succ_cons,uX hp,aC]at hl;simp at hn;exact⟨hl.1,n,by simp;omega,hl.2⟩
theorem DT{x:ByteArray}(h:x.data.toList≠[35]):∀(ps:List ByteArray),cN (ps++[x]) []=false
 |[]=>AB h []
 |p::ps=>by
   by_cases hp:p.data.toList=[35];·rw[List.cons_append,yY hp];simp[DT h ps]
   ·exact AB hp _
theorem JA{x:ByteArray}(h:x.data.toList≠[35]):∀(ps ks:List ByteArray)(y:ByteArray),
 cN (ps++[x]) (ks++[y])=(cN ps ks&&(x.data.toList==[42]||x.data.toList==y.data.toList))
 |[],[],y=>by rw[List.nil_append,List.nil_append,uX h,vY];simp
 |[],k::ks,y=>by rw[List.nil_append,List.cons_append,uX h,vY,vY];simp
 |p::ps,ks,y=>by
   by_cases hp:p.data.toList=[35]
   ·rw[List.cons_append,yY hp,yY hp,dC,List.length_singleton,iI,List.any_append];have e:∀n∈List.range (ks.length+1),cN (ps++[x]) ((ks++[y]).drop n)=(cN ps (ks.drop n)&&(x.data.toList==[42]||x.data.toList==y.data.toList)):=by
     intro n hn;simp at hn;rw[aJ (by omega),JA h]
    have e2:(ks++[y]).drop (ks.length+1)=[]:=mD (by simp);simp only[List.any_cons,List.any_nil,e2,DT h,Bool.or_false];rw[jF,aE,aC,aE];constructor;·rintro⟨n,hn,hl⟩;rw[e n hn,aC]at hl;exact⟨⟨n,hn,hl.1⟩,hl.2⟩
    ·rintro⟨⟨n,hn,hl⟩,h2⟩;exact⟨n,hn,by rw[e n hn,hl,h2];rfl⟩
   ·cases ks with
    |nil=>
      rw[List.cons_append,List.nil_append,uX hp,DT h,AB hp];simp
    |cons k ks=>
      rw[List.cons_append,List.cons_append,uX hp,uX hp,JA h,Bool.and_assoc]
open Go.RowKit Go.Shelf
attribute[local go_sem]qH
theorem GD{right:List UInt8->Bool}{l:List UInt8}(h:24<l.length):nJ right l=2:=by unfold nJ;rw[qA (.inl h)]
theorem EY{right:List UInt8->Bool}{l:List UInt8}(h:6<=Lib.countByte l 46):nJ right l=2:=by unfold nJ;rw[qA (.inr (by rw[AY];omega))]
theorem GE(l:List UInt8):(wI l).map (λx=>x.data.toList)=dF l:=by simp[wI,Function.comp_def]
theorem EV{right:List UInt8->Bool}{l:List UInt8}(h1:l.length<=24)(h2:Lib.countByte l 46<6)(h:∀x∈wI l,right x.data.toList=true):nJ right l=0:=by
 unfold nJ;rw[kA (by rw[AY];omega),qA];rw[qD,<-GE];intro x hx;obtain⟨y,hy,rfl⟩:=jD.1 hx;exact h y hy
theorem FO{right:List UInt8->Bool}{l:List UInt8}(h1:l.length<=24)(h2:Lib.countByte l 46<6){x:ByteArray}(hx:x∈wI l)(h:right x.data.toList=false):nJ right l=1:=by
 unfold nJ;rw[kA (by rw[AY];omega),kA];rw[qD,<-GE];intro hh;have:=hh _ (jD.2 ⟨x,hx,rfl⟩);rw[h]at this;cases this
theorem tJ{k:IntKind}{a b:Int}(h:a=b):Ending.returned (.int k a)=.returned (.int k b):=by rw[h]
theorem VZ(s:ByteArray)(w:World)(h:24<s.size):
 Calls Tryz.prog 89 #[.string s,.func (.func 91) #[] #[]] w λe w'=>e=.returned (.int .i64 (nJ qO s.data.toList))/\Below w.heap.size w w':=by
 rw[GD (by simpa using h)];have h':(24:Int)<s.size:=by omega
 go_enter Tryz.func89,Tryz.ntmps89;go_wp2;exact dB (v:=.int .i64 2) (by simp[results,Tryz.results89,go_sem]) rfl ⟨rfl,(by repeat(first|exact dA _ _|assumption|refine nE ?_|refine cE ?_ (by first|(simp;done)|(simp;omega)|omega) _|refine pD ?_ (by first|(simp;done)|(simp;omega)|omega) _))⟩
theorem WI(s:ByteArray)(w:World)(h:s.size<=24)(hc:6<=Lib.countByte s.data.toList 46):
 Calls Tryz.prog 89 #[.string s,.func (.func 91) #[] #[]] w λe w'=>e=.returned (.int .i64 (nJ qO s.data.toList))/\Below w.heap.size w w':=by
 rw[EY hc];have h':¬(24:Int)<s.size:=by omega
 have hc':(6:Int)<=Lib.countByte s.data.toList 46:=by omega
 go_enter Tryz.func89,Tryz.ntmps89;go_wp2_with(go_at_call 8;refine(EH _ _).mono ?_;rintro e w'⟨rfl,rfl⟩);exact dB (v:=.int .i64 2) (by simp[results,Tryz.results89,go_sem]) rfl ⟨rfl,(by repeat(first|exact dA _ _|assumption|refine nE ?_|refine cE ?_ (by first|(simp;done)|(simp;omega)|omega) _|refine pD ?_ (by first|(simp;done)|(simp;omega)|omega) _))⟩
theorem VW(s:ByteArray)(w:World)(h:s.size<=24)(hc:Lib.countByte s.data.toList 46<6):
 CallsIn Fence.wide 5 Tryz.prog 89 #[.string s,.func (.func 91) #[] #[]] w λe w'=>e=.returned (.int .i64 (nJ qO s.data.toList))/\Below w.heap.size w w':=by
 have h':¬(24:Int)<s.size:=by omega
 have hc':decide ((6:Int)<=Lib.countByte s.data.toList 46)=false:=by simp;omega
 have hm:s.size<=maxLen:=by unfold maxLen;omega
 have hl:s.data.toList.length<=24:=by simpa using h
 refine rI Tryz.func89 rfl trivial ?_ rfl;simp only[Tryz.ntmps89,dG,List.length_cons,List.length_nil,Nat.reduceAdd,Nat.reduceSub,nF,Array.replicate_zero,cG,sF,List.nil_append,List.cons_append];gi_wp2_with(first
  |(refine⟨trivial,?_⟩;gi_at_call 8;refine(tE.2 (EH _ _)).mono ?_;rintro e w'⟨rfl,rfl⟩)
  |(refine⟨trivial,?_⟩;gi_at_call 125;refine(GF _ _ _).mono ?_;rintro e w'⟨rfl,rfl⟩));have c0:=AH w (.func (.func 91) #[] #[]) 71;have c1:=AH (w.alloc (.cells #[.func (.func 91) #[] #[]] 71)) (.int .i64 0) 27;have c2:=AH ((w.alloc (.cells #[.func (.func 91) #[] #[]] 71)).alloc (.cells #[.int .i64 0] 27)) (.string s) 9;simp only[pC]at c1 c2;have hB0:Below w.heap.size w (((w.alloc (.cells #[.func (.func 91) #[] #[]] 71)).alloc (.cells #[.int .i64 0] 27)).alloc (.cells #[.string s] 9)):=(by repeat(first|exact dA _ _|assumption|refine nE ?_|refine cE ?_ (by first|(simp;done)|(simp;omega)|omega) _|refine pD ?_ (by first|(simp;done)|(simp;omega)|omega) _));refine wpIn_rangeFunc_ownF rfl (by omega) (gf:=171) (lb:=#[.pointer (some ⟨w.heap.size+1+1,0,none⟩)]) rfl trivial (rK Tryz.func171 (by kernel_rfl) rfl)
  (EW 4 (by omega) (w.heap.size+1+1) s hm _ (by simp) c2.1) (λ_ _=>trivial) (λ_ _ _ _ _ _ _ _=>trivial) (dA _ _) (λ_=>rfl)
  (λpre W=>((∀y∈pre,qO y.1.data.toList=true)/\W.cell? ⟨w.heap.size,0,none⟩=some (.func (.func 91) #[] #[])/\W.cell? ⟨w.heap.size+1,0,none⟩=some (.int .i64 0)/\W.frozen? ⟨w.heap.size+1,0,none⟩=false)/\Below w.heap.size w W)
  (λc pre W=>(c=.ret/\(∃y∈pre,qO y.1.data.toList=false)/\W.cell? ⟨w.heap.size+1,0,none⟩=some (.int .i64 1))/\Below w.heap.size w W)
  (vO (Own.from (λs A B row hs hg hr=>⟨hs.1,wH hs.2.1 hg hr,wH hs.2.2.1 hg hr,(frozen_kept hs.2.2.1 hg hr).trans hs.2.2.2⟩) _) (aM (eA _) (by simp;omega)))
  (λc=>vO (Own.from (λs A B row hs hg hr=>⟨hs.1,hs.2.1,wH hs.2.2 hg hr⟩) _) (aM (eA _) (by simp;omega)))
  ⟨⟨by simp,BN _ (BN _ c0.1),BN _ c1.1,MV _ c1.1 c1.2⟩,hB0⟩
  (λx=>{tmps:=#[.string s,.func (.func 91) #[] #[],undef,.pointer (some ⟨w.heap.size,0,none⟩),.pointer (some ⟨w.heap.size+1,0,none⟩),.string x.1,.string s,.int .i64 s.size,.bool false,.bool false,.string s,.int .i64 (Lib.countByte s.data.toList 46),.bool false,.bool false,.string s,.func (.func 171) #[] #[.pointer (some ⟨w.heap.size+1+1,0,none⟩)],.string x.1,undef,undef,undef,undef],defers:=[]}) ?assign ?body ?done ?stop;case assign=>
  intro l x W K hK;gi_wp2;exact hK
 case body=>
  rintro l pre x W⟨⟨hp,hcf,hcr,hfr⟩,hB⟩_;cases hx:qO x.1.data.toList with
  |false=>
    have HX:Hid (qO x.1.data.toList=false):=hx;clear hp;gi_wp2_with(refine⟨trivial,?_⟩;gi_at_call 91;refine(lM l (tE.2 (JW _ _ x.2))).mono ?_;rintro e w'⟨rfl,rfl⟩);exact⟨dK _ _ _,⟨rfl,⟨x,by simp,HX.out⟩,eI _ _ _ (by rw[hcr];rfl)⟩,hB.setCell (p:=⟨w.heap.size+1,0,none⟩) (by simp) _⟩
  |true=>
    have HP:Hid (∀y∈pre++[x],qO y.1.data.toList=true):=λy hy=>(oC.1 hy).elim (hp y) (λe=>by simp at e;subst e;exact hx);clear hp;gi_wp2_with(refine⟨trivial,?_⟩;gi_at_call 91;refine(lM l (tE.2 (JW _ _ x.2))).mono ?_;rintro e w'⟨rfl,rfl⟩);exact⟨KeepsOthers.refl _,trivial,⟨HP.out,hcf,hcr,hfr⟩,hB⟩
 case done=>
  rintro D ys W hD hys⟨⟨hp,_,hcr,hfr⟩,hB⟩hK;have HF:Hid (nJ qO s.data.toList=0):=EV hl hc (λx hx=>by rw[<-hys]at hx;obtain⟨y,hy,rfl⟩:=jD.1 hx;exact hp y hy);clear hp hys;gi_wp2;have hK':=(dK W ⟨w.heap.size+1,0,none⟩ (.int .i64 0)).same D _ hK rfl;refine⟨by simp,.inl ⟨_,_,rfl,vI hK',?_⟩⟩;have hc5:=wH (eI W ⟨w.heap.size+1,0,none⟩ (.int .i64 0) (by rw[hcr];rfl)) (wM _ D (.deferred none)) (λr e=>by cases e;exact⟨_,hK',rfl⟩);refine⟨.int .i64 0,?_,by rw[HF.out],(hB.setCell (p:=⟨w.heap.size+1,0,none⟩) (by simp) _).trans (belowK_b (w:=w) (eA _) _ D _ _ (by simp at hD;omega) hK' rfl rfl)⟩;simp[results,Tryz.results89,go_sem,hc5]
 case stop=>
  rintro D c pre W hD hpre⟨⟨rfl,⟨y,hy,hyr⟩,hcr⟩,hB⟩hK;have HF:Hid (nJ qO s.data.toList=1):=FO hl hc (hpre.subset (jD.2 ⟨y,hy,rfl⟩)) hyr;clear hyr hpre;gi_wp2;refine⟨by simp,.inl ⟨_,_,rfl,vI hK,?_⟩⟩;have hc5:=wH hcr (wM _ D (.deferred none)) (λr e=>by cases e;exact⟨_,hK,rfl⟩);refine⟨.int .i64 1,?_,by rw[HF.out],hB.trans (belowK_b (w:=w) (eA _) W D _ _ (by simp at hD;omega) hK rfl rfl)⟩;simp[results,Tryz.results89,go_sem,hc5]
theorem QJ(s:ByteArray)(w:World):
 Calls Tryz.prog 89 #[.string s,.func (.func 91) #[] #[]] w λe w'=>e=.returned (.int .i64 (nJ qO s.data.toList))/\Below w.heap.size w w':=by
 by_cases h:24<s.size;·exact VZ s w h
 ·by_cases hc:6<=Lib.countByte s.data.toList 46;·exact WI s w (by omega) hc
  ·exact tE.1 (VW s w (by omega) (by omega))
theorem WA(s:ByteArray)(w:World)(h:24<s.size):
 Calls Tryz.prog 89 #[.string s,.func (.func 90) #[] #[]] w λe w'=>e=.returned (.int .i64 (nJ bP s.data.toList))/\Below w.heap.size w w':=by
 rw[GD (by simpa using h)];have h':(24:Int)<s.size:=by omega
 go_enter Tryz.func89,Tryz.ntmps89;go_wp2;exact dB (v:=.int .i64 2) (by simp[results,Tryz.results89,go_sem]) rfl ⟨rfl,(by repeat(first|exact dA _ _|assumption|refine nE ?_|refine cE ?_ (by first|(simp;done)|(simp;omega)|omega) _|refine pD ?_ (by first|(simp;done)|(simp;omega)|omega) _))⟩
theorem WJ(s:ByteArray)(w:World)(h:s.size<=24)(hc:6<=Lib.countByte s.data.toList 46):
 Calls Tryz.prog 89 #[.string s,.func (.func 90) #[] #[]] w λe w'=>e=.returned (.int .i64 (nJ bP s.data.toList))/\Below w.heap.size w w':=by
 rw[EY hc];have h':¬(24:Int)<s.size:=by omega
 have hc':(6:Int)<=Lib.countByte s.data.toList 46:=by omega
 go_enter Tryz.func89,Tryz.ntmps89;go_wp2_with(go_at_call 8;refine(EH _ _).mono ?_;rintro e w'⟨rfl,rfl⟩);exact dB (v:=.int .i64 2) (by simp[results,Tryz.results89,go_sem]) rfl ⟨rfl,(by repeat(first|exact dA _ _|assumption|refine nE ?_|refine cE ?_ (by first|(simp;done)|(simp;omega)|omega) _|refine pD ?_ (by first|(simp;done)|(simp;omega)|omega) _))⟩
theorem VX(s:ByteArray)(w:World)(h:s.size<=24)(hc:Lib.countByte s.data.toList 46<6):
 CallsIn Fence.wide 5 Tryz.prog 89 #[.string s,.func (.func 90) #[] #[]] w λe w'=>e=.returned (.int .i64 (nJ bP s.data.toList))/\Below w.heap.size w w':=by
 have h':¬(24:Int)<s.size:=by omega
 have hc':decide ((6:Int)<=Lib.countByte s.data.toList 46)=false:=by simp;omega
 have hm:s.size<=maxLen:=by unfold maxLen;omega
 have hl:s.data.toList.length<=24:=by simpa using h
 refine rI Tryz.func89 rfl trivial ?_ rfl;simp only[Tryz.ntmps89,dG,List.length_cons,List.length_nil,Nat.reduceAdd,Nat.reduceSub,nF,Array.replicate_zero,cG,sF,List.nil_append,List.cons_append];gi_wp2_with(first
  |(refine⟨trivial,?_⟩;gi_at_call 8;refine(tE.2 (EH _ _)).mono ?_;rintro e w'⟨rfl,rfl⟩)
  |(refine⟨trivial,?_⟩;gi_at_call 125;refine(GF _ _ _).mono ?_;rintro e w'⟨rfl,rfl⟩));have c0:=AH w (.func (.func 90) #[] #[]) 71;have c1:=AH (w.alloc (.cells #[.func (.func 90) #[] #[]] 71)) (.int .i64 0) 27;have c2:=AH ((w.alloc (.cells #[.func (.func 90) #[] #[]] 71)).alloc (.cells #[.int .i64 0] 27)) (.string s) 9;simp only[pC]at c1 c2;have hB0:Below w.heap.size w (((w.alloc (.cells #[.func (.func 90) #[] #[]] 71)).alloc (.cells #[.int .i64 0] 27)).alloc (.cells #[.string s] 9)):=(by repeat(first|exact dA _ _|assumption|refine nE ?_|refine cE ?_ (by first|(simp;done)|(simp;omega)|omega) _|refine pD ?_ (by first|(simp;done)|(simp;omega)|omega) _));refine wpIn_rangeFunc_ownF rfl (by omega) (gf:=171) (lb:=#[.pointer (some ⟨w.heap.size+1+1,0,none⟩)]) rfl trivial (rK Tryz.func171 (by kernel_rfl) rfl)
  (EW 4 (by omega) (w.heap.size+1+1) s hm _ (by simp) c2.1) (λ_ _=>trivial) (λ_ _ _ _ _ _ _ _=>trivial) (dA _ _) (λ_=>rfl)
  (λpre W=>((∀y∈pre,bP y.1.data.toList=true)/\W.cell? ⟨w.heap.size,0,none⟩=some (.func (.func 90) #[] #[])/\W.cell? ⟨w.heap.size+1,0,none⟩=some (.int .i64 0)/\W.frozen? ⟨w.heap.size+1,0,none⟩=false)/\Below w.heap.size w W)
  (λc pre W=>(c=.ret/\(∃y∈pre,bP y.1.data.toList=false)/\W.cell? ⟨w.heap.size+1,0,none⟩=some (.int .i64 1))/\Below w.heap.size w W)
  (vO (Own.from (λs A B row hs hg hr=>⟨hs.1,wH hs.2.1 hg hr,wH hs.2.2.1 hg hr,(frozen_kept hs.2.2.1 hg hr).trans hs.2.2.2⟩) _) (aM (eA _) (by simp;omega)))
  (λc=>vO (Own.from (λs A B row hs hg hr=>⟨hs.1,hs.2.1,wH hs.2.2 hg hr⟩) _) (aM (eA _) (by simp;omega)))
  ⟨⟨by simp,BN _ (BN _ c0.1),BN _ c1.1,MV _ c1.1 c1.2⟩,hB0⟩
  (λx=>{tmps:=#[.string s,.func (.func 90) #[] #[],undef,.pointer (some ⟨w.heap.size,0,none⟩),.pointer (some ⟨w.heap.size+1,0,none⟩),.string x.1,.string s,.int .i64 s.size,.bool false,.bool false,.string s,.int .i64 (Lib.countByte s.data.toList 46),.bool false,.bool false,.string s,.func (.func 171) #[] #[.pointer (some ⟨w.heap.size+1+1,0,none⟩)],.string x.1,undef,undef,undef,undef],defers:=[]}) ?assign ?body ?done ?stop;case assign=>
  intro l x W K hK;gi_wp2;exact hK
 case body=>
  rintro l pre x W⟨⟨hp,hcf,hcr,hfr⟩,hB⟩_;cases hx:bP x.1.data.toList with
  |false=>
    have HX:Hid (bP x.1.data.toList=false):=hx;clear hp;gi_wp2_with(refine⟨trivial,?_⟩;gi_at_call 90;refine(lM l (tE.2 (OS _ _ x.2))).mono ?_;rintro e w'⟨rfl,rfl⟩);exact⟨dK _ _ _,⟨rfl,⟨x,by simp,HX.out⟩,eI _ _ _ (by rw[hcr];rfl)⟩,hB.setCell (p:=⟨w.heap.size+1,0,none⟩) (by simp) _⟩
  |true=>
    have HP:Hid (∀y∈pre++[x],bP y.1.data.toList=true):=λy hy=>(oC.1 hy).elim (hp y) (λe=>by simp at e;subst e;exact hx);clear hp;gi_wp2_with(refine⟨trivial,?_⟩;gi_at_call 90;refine(lM l (tE.2 (OS _ _ x.2))).mono ?_;rintro e w'⟨rfl,rfl⟩);exact⟨KeepsOthers.refl _,trivial,⟨HP.out,hcf,hcr,hfr⟩,hB⟩
 case done=>
  rintro D ys W hD hys⟨⟨hp,_,hcr,hfr⟩,hB⟩hK;have HF:Hid (nJ bP s.data.toList=0):=EV hl hc (λx hx=>by rw[<-hys]at hx;obtain⟨y,hy,rfl⟩:=jD.1 hx;exact hp y hy);clear hp hys;gi_wp2;have hK':=(dK W ⟨w.heap.size+1,0,none⟩ (.int .i64 0)).same D _ hK rfl;refine⟨by simp,.inl ⟨_,_,rfl,vI hK',?_⟩⟩;have hc5:=wH (eI W ⟨w.heap.size+1,0,none⟩ (.int .i64 0) (by rw[hcr];rfl)) (wM _ D (.deferred none)) (λr e=>by cases e;exact⟨_,hK',rfl⟩);refine⟨.int .i64 0,?_,by rw[HF.out],(hB.setCell (p:=⟨w.heap.size+1,0,none⟩) (by simp) _).trans (belowK_b (w:=w) (eA _) _ D _ _ (by simp at hD;omega) hK' rfl rfl)⟩;simp[results,Tryz.results89,go_sem,hc5]
 case stop=>
  rintro D c pre W hD hpre⟨⟨rfl,⟨y,hy,hyr⟩,hcr⟩,hB⟩hK;have HF:Hid (nJ bP s.data.toList=1):=FO hl hc (hpre.subset (jD.2 ⟨y,hy,rfl⟩)) hyr;clear hyr hpre;gi_wp2;refine⟨by simp,.inl ⟨_,_,rfl,vI hK,?_⟩⟩;have hc5:=wH hcr (wM _ D (.deferred none)) (λr e=>by cases e;exact⟨_,hK,rfl⟩);refine⟨.int .i64 1,?_,by rw[HF.out],hB.trans (belowK_b (w:=w) (eA _) W D _ _ (by simp at hD;omega) hK rfl rfl)⟩;simp[results,Tryz.results89,go_sem,hc5]
theorem X_(s:ByteArray)(w:World):
 Calls Tryz.prog 89 #[.string s,.func (.func 90) #[] #[]] w λe w'=>e=.returned (.int .i64 (nJ bP s.data.toList))/\Below w.heap.size w w':=by
 by_cases h:24<s.size;·exact WA s w h
 ·by_cases hc:6<=Lib.countByte s.data.toList 46;·exact WJ s w (by omega) hc
  ·exact tE.1 (VX s w (by omega) (by omega))
end Go.Proofs.YtedmnjimkhamaaaGreatDoor
namespace Go.Proofs.YtedmnjimkhamaaaGreatDoor
set_option linter.unusedVariables false
set_option maxRecDepth 100000
set_option maxHeartbeats 2000000
open Go.RowKit
theorem Tryz.info9:(Tryz.prog.info? 9).map (λi=>(i.zero,i.size,i.bytes))=some (some (.string ⟨#[]⟩),1,16):=by kernel_rfl
def qT(s:ByteArray)(xB:List ByteArray)(f k:Nat):Prop:=
 f<=k/\k<=s.size/\wI s.data.toList=xB++wI (s.data.toList.drop f)/\(46:UInt8)∉(s.data.toList.drop f).take (k-f)
theorem nS{W:World}{base:Nat}{e:TypeId}{size:Nat}{v:Value}{n:Nat}{xs:List Value}(h:W.ownsRow base e size v n xs):∀k,v.ownBlock=some k->base<=k:=by
 rcases h.2 with⟨rfl,_⟩|⟨g,cap,cur,rfl,hg,_⟩;·intro k hk;cases hk
 ·intro k hk;cases hk;exact hg
theorem qT.start(s:ByteArray):qT s [] 0 0:=⟨eA _,zA _,by simp,by simp⟩
theorem N2(l:List UInt8)(f k:Nat)(hf:f<=k)(hk:k<l.length):l.drop f=(l.drop f).take (k-f)++l[k]::l.drop (k+1):=by
 conv=>lhs;rw[<-gF (k-f) (l.drop f)]
 rw[List.drop_drop,show f+(k-f)=k from by omega,vC hk]
theorem GO(s:ByteArray)(f k:Nat):s.extract f k=⟨((s.data.toList.drop f).take (k-f)).toArray⟩:=Lib.extract_eq s f k
theorem qT.no{s:ByteArray}{xB:List ByteArray}{f k:Nat}(h:qT s xB f k)(hk:k<s.size)(hc:s[k]≠46):qT s xB f (k+1):=by
 obtain⟨h1,h2,h3,h4⟩:=h;have hl:k<s.data.toList.length:=by simpa using hk
 refine⟨by omega,by omega,h3,?_⟩;have e:(s.data.toList.drop f).take (k+1-f)=(s.data.toList.drop f).take (k-f)++[s.data.toList[k]]:=by
  rw[show k+1-f=(k-f)+1 from by omega,rA (by simp;omega)];simp[List.getElem_drop,show f+(k-f)=k from by omega]
 rw[e];simp only[oC,tC,not_or];exact⟨h4,λe=>hc (by show s.data[k]=46;simpa using e.symm)⟩
theorem qT.dot{s:ByteArray}{xB:List ByteArray}{f k:Nat}(h:qT s xB f k)(hk:k<s.size)(hc:s[k]=46):qT s (xB++[s.extract f k]) (k+1) (k+1):=by
 obtain⟨h1,h2,h3,h4⟩:=h;have hl:k<s.data.toList.length:=by simpa using hk
 refine⟨eA _,by omega,?_,by simp⟩;have hc':s.data.toList[k]=46:=by have h:s.data[k]=46:=hc;simpa using h
 have e:=N2 s.data.toList f k h1 hl;rw[hc']at e;rw[h3,GO];conv=>lhs;rw[e]
 rw[wI,R3 _ _ h4];simp[wI]
theorem qT.fin{s:ByteArray}{xB:List ByteArray}{f k:Nat}(h:qT s xB f k)(hk:k=s.size):wI s.data.toList=xB++[s.extract f k]:=by
 obtain⟨h1,h2,h3,h4⟩:=h;subst hk;have e:(s.data.toList.drop f).take (s.size-f)=s.data.toList.drop f:=iB (by simp);rw[e]at h4;rw[h3,GO,e,wI,ZH _ h4];rfl
theorem qT.len{s:ByteArray}{xB:List ByteArray}{f k:Nat}(h:qT s xB f k):xB.length<=s.size:=by
 obtain⟨h1,h2,h3,h4⟩:=h;have e1:(wI s.data.toList).length<=s.size+1:=by have:=RJ s.data.toList;simp[wI]at*;omega
 have e2:1<=(wI (s.data.toList.drop f)).length:=by
  have:=JQ (s.data.toList.drop f);have:(dF (s.data.toList.drop f)).length≠0:=by simpa using this
  simp[wI];omega
 rw[h3,dC]at e1;omega
theorem R0(s:ByteArray)(w:World)(hs:s.size<=24):
 Calls Tryz.prog 116 #[.string s,.int .u8 46] w λe w'=>∃v,e=.returned v/\w'.ownsRow w.heap.size 9 1 v (wI s.data.toList).length ((wI s.data.toList).map Value.string)/\Below w.heap.size w w':=by
 obtain⟨i0,hi,hz0,hz1,hz2⟩:=qF Tryz.info9;go_enter Tryz.func116,Tryz.ntmps116;go_wp2;go_loopw[5,6,7](λv fv iv wr=>∃(xB:List ByteArray)(f k:Nat),fv=.int .i64 f/\iv=.int .i64 k/\wr.ownsRow w.heap.size 9 1 v xB.length (xB.map Value.string)/\Below w.heap.size w wr/\(qT s xB f k\/k=s.size+1/\wI s.data.toList=xB))
  (λ_ _ iv _=>s.size+1-(intOf iv).toNat);case atStart=>exact⟨[],0,0,rfl,rfl,jC _ _ _ _,dA _ _,.inl (qT.start s)⟩
 case round=>
  obtain⟨xB,f,k,rfl,rfl,hown,hB,hinv⟩:=hrel;have hBs:=hB.size;rcases hinv with hinv|⟨hk,hfin⟩
  ·have hf:=hinv.1;have hk:=hinv.2.1;have hlen:=hinv.len;have HI:Hid (qT s xB f k):=hinv;clear hinv;by_cases hlt:k<s.size
   ·have n1:((k:Int)==s.size)=false:=xD.2 (by omega);by_cases hc:s[k]=46
    ·have n2:((s[k].toNat:Int)==46)=true:=by rw[hc];rfl
     have HN:=HI.out.dot hlt hc;have HN':Hid (qT s (xB++[s.extract f k]) (k+1) (k+1)):=HN;clear HN HI hc;go_wp2_with(at_builtin;refine vE _ rfl _ _ 52 rfl w.heap.size 9 i0 (.string ⟨#[]⟩) 1 16 Tryz.underlying52 hi hz0 hz1 hz2 rfl (by decide) _ _ _ rfl (hown.alloc _) ⟨wr.heap.size,0,none⟩ 1 1 [.string (s.extract f k)] rfl rfl (tH _ _ _) (by simp[Value.oneCell']) (by unfold maxLen;omega) (by omega) (by simp;omega) ?_;intro v' w1 hown' hgrow _);have hB1:Below w.heap.size w w1:=(hB.alloc hBs _).grown hgrow (by simp;omega) (nS hown);go_roundw;case rel=>exact⟨xB++[s.extract f k],k+1,k+1,by go_num,by go_num,by simpa using hown',hB1,.inl HN'.out⟩
     case measure=>simp[intOf];omega
    ·have n2:((s[k].toNat:Int)==46)=false:=by
      rw[xD];intro h;exact hc (iJ.1 (by simpa using wL h))
     have HN:Hid (qT s xB f (k+1)):=HI.out.no hlt hc;clear HI hc;go_wp2;go_roundw;case rel=>exact⟨xB,f,k+1,rfl,by go_num,hown,hB,.inl HN.out⟩
     case measure=>simp[intOf];omega
   ·have hk':k=s.size:=by omega
    have n1:((k:Int)==s.size)=true:=by rw[mQ];omega
    have HN:Hid (wI s.data.toList=xB++[s.extract f k]):=HI.out.fin hk';have HK:Hid (k=s.size):=hk';clear HI hk';go_wp2_with(at_builtin;refine vE _ rfl _ _ 52 rfl w.heap.size 9 i0 (.string ⟨#[]⟩) 1 16 Tryz.underlying52 hi hz0 hz1 hz2 rfl (by decide) _ _ _ rfl (hown.alloc _) ⟨wr.heap.size,0,none⟩ 1 1 [.string (s.extract f k)] rfl rfl (tH _ _ _) (by simp[Value.oneCell']) (by unfold maxLen;omega) (by omega) (by simp;omega) ?_;intro v' w1 hown' hgrow _);have hB1:Below w.heap.size w w1:=(hB.alloc hBs _).grown hgrow (by simp;omega) (nS hown);go_roundw;case rel=>exact⟨xB++[s.extract f k],k+1,k+1,by go_num,by go_num,by simpa using hown',hB1,.inr ⟨by rw[HK.out],HN.out⟩⟩
    case measure=>simp[intOf];omega
  ·have HF:Hid (wI s.data.toList=xB):=hfin;clear hfin;subst hk;go_wp2;go_ret;exact⟨_,rfl,by rw[HF.out];exact hown,hB⟩
theorem eY(l:List UInt8):(wI l).length=Lib.countByte l 46+1:=by simp[wI,AY]
theorem SZ(s:ByteArray)(x:ByteArray)(h:x∈wI s.data.toList):x.size<=s.size:=by
 obtain⟨y,hy,rfl⟩:=jD.1 h;have:=P_ _ y hy;show y.toArray.size<=_;simpa using this
def qM(W:World)(g off:Nat)(xs:List ByteArray):Prop:=∀i(h:i<xs.length),W.cell? ⟨g,off+i,none⟩=some (.string xs[i])
theorem JV{W:World}{base:Nat}{v:Value}{xs:List ByteArray}(h:W.ownsRow base 9 1 v xs.length (xs.map Value.string))(hne:xs≠[]):
 ∃g cap,v=.slice (some ⟨g,0,none⟩) xs.length cap/\base<=g/\xs.length<=cap/\cap<=maxLen/\qM W g 0 xs:=by
 obtain⟨h1,h2⟩:=h;rcases h2 with⟨_,h0⟩|⟨g,cap,cur,rfl,hg,hh,hn,hm,hs,ht⟩;·exact absurd (kC.1 h0) hne
 ·refine⟨g,cap,rfl,hg,hn,hm,λi hi=>?_⟩;have e:cur.toList[i]?=some (.string xs[i]):=by
   have:(cur.toList.take (xs.length*1))[i]?=some (.string xs[i]):=by rw[ht];simp[hi]
   rwa[List.getElem?_take_of_lt (by omega)]at this
  have e':cur[i]?=some (.string xs[i]):=by simpa using e
  simp[World.cell?,hh,e']
theorem BL(s:ByteArray)(xs:List ByteArray)(hxs:xs=wI s.data.toList)(w:World)(hs:s.size<=24):
 Calls Tryz.prog 116 #[.string s,.int .u8 46] w λe w'=>∃g cap,e=.returned (.slice (some ⟨g,0,none⟩) xs.length cap)/\w.heap.size<=g/\xs.length<=cap/\cap<=maxLen/\qM w' g 0 xs/\Below w.heap.size w w':=by
 subst hxs;refine(R0 s w hs).mono ?_;rintro e w'⟨v,rfl,hown,hB⟩;obtain⟨g,cap,rfl,h1,h2,h3,h4⟩:=JV hown (by intro h;have:=eY s.data.toList;rw[h]at this;simp at this);exact⟨g,cap,rfl,h1,h2,h3,h4,hB⟩
theorem SJ{p:ByteArray->Bool}{xs:List ByteArray}{k:Nat}(hk:k<xs.length)(h:∀x∈xs.take k,p x=true)(hx:p xs[k]=true):∀x∈xs.take (k+1),p x=true:=by
 rw[rA hk];intro x hx';rcases oC.1 hx' with h1|h1;·exact h x h1
 ·rw[tC.1 h1];exact hx
theorem rZ{x:ByteArray}(h:qO x.data.toList=true):bP x.data.toList=true:=by simp[bP,h]
theorem vT{x:ByteArray}(h:x.toList=[42]):bP x.data.toList=true:=by rw[zC]at h;simp[bP,h]
theorem uW{x:ByteArray}(h:(!x.toList==[42])=false\/(!x.toList==[35])=false):bP x.data.toList=true:=by
 rw[zC]at h;rcases h with h|h<;>(simp at h;simp[bP,h])
theorem VH{x:ByteArray}(h1:¬qO x.data.toList=true)(h:(!x.toList==[42])=true/\(!x.toList==[35])=true):bP x.data.toList=false:=by
 rw[zC]at h;obtain⟨a,b⟩:=h;simp at a b;simp[bP,a,b];simpa using h1
theorem qn_(s:ByteArray)(w:World):
 Calls Tryz.prog 75 #[.string s,.bool false] w λe w'=>e=.returned (.int .i64 (nJ qO s.data.toList))/\Below w.heap.size w w':=by
 by_cases h:24<s.size
 ·rw[GD (by simpa using h)];have h':(24:Int)<s.size:=by omega
  go_enter Tryz.func75,Tryz.ntmps75;go_wp2;go_ret;exact⟨rfl,dA _ _⟩
 ·have h':¬(24:Int)<s.size:=by omega
  have hl:s.data.toList.length<=24:=by simp;omega
  have hlen:=eY s.data.toList;obtain⟨xs,hxs⟩:∃xs,xs=wI s.data.toList:=⟨_,rfl⟩;have hsz:∀i(hi:i<xs.length),xs[i].size<=maxLen:=λi hi=>by
   have:=SZ s xs[i] (by rw[<-hxs];exact qB hi);unfold maxLen;omega
  rw[<-hxs]at hlen;have HX:Hid (xs=wI s.data.toList):=hxs;clear hxs;by_cases h6:6<xs.length
  ·rw[EY (by omega)];have h6':(6:Int)<xs.length:=by omega
   go_enter Tryz.func75,Tryz.ntmps75;go_wp2_with(go_at_call 116;refine(BL s xs HX.out _ (by omega)).mono ?_;rintro e w'⟨g,cap,rfl,hg,hcap,hcm,ht,hB⟩);go_ret;exact⟨rfl,hB⟩
  ·have h6':¬(6:Int)<xs.length:=by omega
   have hc6:Lib.countByte s.data.toList 46<6:=by omega
   clear hlen;go_enter Tryz.func75,Tryz.ntmps75;go_wp2_with(go_at_call 116;refine(BL s xs HX.out _ (by omega)).mono ?_;rintro e w1⟨g,cap,rfl,hg,hcap,hcm,ht,hB⟩);go_loop[6](λi=>∃k:Nat,k<=xs.length/\i=.int .i64 k/\∀x∈xs.take k,qO x.data.toList=true)(λi=>xs.length-(intOf i).toNat);case atStart=>exact⟨0,zA _,rfl,by simp⟩
   case round=>
    obtain⟨k,hk,rfl,ha⟩:=hrel;have HA:Hid (∀x∈xs.take k,qO x.data.toList=true):=ha;clear ha;by_cases hlt:k<xs.length;·have hcell:=ht k hlt;have hsk:=hsz k hlt;obtain⟨x,hx⟩:∃x,x=xs[k]:=⟨_,rfl⟩;rw[<-hx]at hcell hsk;have HXk:Hid (x=xs[k]):=hx;clear hx;simp only[uD]at hcell;go_wp2_with(go_at_call 117;refine(PT _ _ hsk).mono ?_;rintro e w'⟨rfl,rfl⟩);all_goals first
      | (go_ret;have hr:qO x.data.toList=false:=by first|exact VH ‹_› ‹_›|exact mI.2 ‹_›
         exact⟨tJ (FO hl hc6 (x:=x) (by rw[<-HX.out,HXk.out];exact qB hlt) hr).symm,hB⟩)
      | (have hr:qO x.data.toList=true:=by first|assumption|exact rZ ‹_›|exact vT ‹_›|exact uW ‹_›
         exact⟨⟨k+1,by omega,by go_num,SJ (p:=λx=>qO x.data.toList) hlt HA.out (by rw[<-HXk.out];exact hr)⟩,by simp[intOf];omega⟩)
    ·go_wp2;go_ret;have e:xs.take k=xs:=iB (by omega);have HA':=HA.out;rw[e]at HA';exact⟨tJ (EV hl hc6 (by rw[<-HX.out];exact HA')).symm,hB⟩
theorem qo_(s:ByteArray)(w:World):
 Calls Tryz.prog 75 #[.string s,.bool true] w λe w'=>e=.returned (.int .i64 (nJ bP s.data.toList))/\Below w.heap.size w w':=by
 by_cases h:24<s.size
 ·rw[GD (by simpa using h)];have h':(24:Int)<s.size:=by omega
  go_enter Tryz.func75,Tryz.ntmps75;go_wp2;go_ret;exact⟨rfl,dA _ _⟩
 ·have h':¬(24:Int)<s.size:=by omega
  have hl:s.data.toList.length<=24:=by simp;omega
  have hlen:=eY s.data.toList;obtain⟨xs,hxs⟩:∃xs,xs=wI s.data.toList:=⟨_,rfl⟩;have hsz:∀i(hi:i<xs.length),xs[i].size<=maxLen:=λi hi=>by
   have:=SZ s xs[i] (by rw[<-hxs];exact qB hi);unfold maxLen;omega
  rw[<-hxs]at hlen;have HX:Hid (xs=wI s.data.toList):=hxs;clear hxs;by_cases h6:6<xs.length
  ·rw[EY (by omega)];have h6':(6:Int)<xs.length:=by omega
   go_enter Tryz.func75,Tryz.ntmps75;go_wp2_with(go_at_call 116;refine(BL s xs HX.out _ (by omega)).mono ?_;rintro e w'⟨g,cap,rfl,hg,hcap,hcm,ht,hB⟩);go_ret;exact⟨rfl,hB⟩
  ·have h6':¬(6:Int)<xs.length:=by omega
   have hc6:Lib.countByte s.data.toList 46<6:=by omega
   clear hlen;go_enter Tryz.func75,Tryz.ntmps75;go_wp2_with(go_at_call 116;refine(BL s xs HX.out _ (by omega)).mono ?_;rintro e w1⟨g,cap,rfl,hg,hcap,hcm,ht,hB⟩);go_loop[6](λi=>∃k:Nat,k<=xs.length/\i=.int .i64 k/\∀x∈xs.take k,bP x.data.toList=true)(λi=>xs.length-(intOf i).toNat);case atStart=>exact⟨0,zA _,rfl,by simp⟩
   case round=>
    obtain⟨k,hk,rfl,ha⟩:=hrel;have HA:Hid (∀x∈xs.take k,bP x.data.toList=true):=ha;clear ha;by_cases hlt:k<xs.length;·have hcell:=ht k hlt;have hsk:=hsz k hlt;obtain⟨x,hx⟩:∃x,x=xs[k]:=⟨_,rfl⟩;rw[<-hx]at hcell hsk;have HXk:Hid (x=xs[k]):=hx;clear hx;simp only[uD]at hcell;go_wp2_with(go_at_call 117;refine(PT _ _ hsk).mono ?_;rintro e w'⟨rfl,rfl⟩);all_goals first
      | (go_ret;have hr:bP x.data.toList=false:=by first|exact VH ‹_› ‹_›|exact mI.2 ‹_›
         exact⟨tJ (FO hl hc6 (x:=x) (by rw[<-HX.out,HXk.out];exact qB hlt) hr).symm,hB⟩)
      | (have hr:bP x.data.toList=true:=by first|assumption|exact rZ ‹_›|exact vT ‹_›|exact uW ‹_›
         exact⟨⟨k+1,by omega,by go_num,SJ (p:=λx=>bP x.data.toList) hlt HA.out (by rw[<-HXk.out];exact hr)⟩,by simp[intOf];omega⟩)
    ·go_wp2;go_ret;have e:xs.take k=xs:=iB (by omega);have HA':=HA.out;rw[e]at HA';exact⟨tJ (EV hl hc6 (by rw[<-HX.out];exact HA')).symm,hB⟩
theorem IN(s:ByteArray)(w:World):
 Calls Tryz.prog 120 #[.string s] w λe w'=>e=.returned (.int .i64 (kG s.data.toList))/\Below w.heap.size w w':=by
 go_enter Tryz.func120,Tryz.ntmps120;go_wp2_with(go_at_call 75;refine(qn_ _ _).mono ?_;rintro e w'⟨rfl,hB⟩);go_ret;exact⟨rfl,hB⟩
theorem MQ(s:ByteArray)(w:World):
 Calls Tryz.prog 41 #[.string s] w λe w'=>e=.returned (.int .i64 (pK s.data.toList))/\Below w.heap.size w w':=by
 go_enter Tryz.func41,Tryz.ntmps41;go_wp2_with(go_at_call 75;refine(qo_ _ _).mono ?_;rintro e w'⟨rfl,hB⟩);go_ret;exact⟨rfl,hB⟩
theorem CE(s:ByteArray)(w:World):
 Calls Tryz.prog 57 #[.string s] w λe w'=>e=.returned (.int .i64 (pK s.data.toList))/\Below w.heap.size w w':=by
 go_enter Tryz.func57,Tryz.ntmps57;go_wp2_with(go_at_call 89;refine(X_ _ _).mono ?_;rintro e w'⟨rfl,hB⟩);go_ret;exact⟨rfl,hB⟩
open Go.Shelf
attribute[local go_sem]qH
theorem BQ{right:List UInt8->Bool}{l:List UInt8}(h:nJ right l=0):l.length<=24/\Lib.countByte l 46<6:=by
 unfold nJ at h;by_cases h1:24<l.length\/6<(dF l).length;·rw[qA h1]at h;cases h
 ·rw[AY]at h1;omega
theorem EU(s:ByteArray)(w:World)(h:kG s.data.toList≠0):
 Calls Tryz.prog 202 #[.string s] w λe w'=>e=.returned (.tuple #[.slice none 0 0,.int .i64 (kG s.data.toList)])/\Below w.heap.size w w':=by
 have h':(kG s.data.toList !=0)=true:=kD.2 h;obtain⟨c,hc⟩:∃c,c=kG s.data.toList:=⟨_,rfl⟩;have HC:Hid (c=kG s.data.toList):=hc;rw[<-hc]at h'⊢;clear hc h;go_enter Tryz.func202,Tryz.ntmps202;go_wp2_with(go_at_call 89;refine(QJ _ _).mono ?_;rintro e w'⟨rfl,hB⟩;rw[show nJ qO s.data.toList=c from HC.out.symm]);go_ret2;exact⟨rfl,hB⟩
theorem Q9(s:ByteArray)(w:World)(h:kG s.data.toList=0):
 CallsIn Fence.wide 5 Tryz.prog 202 #[.string s] w λe w'=>∃v,e=.returned (.tuple #[v,.int .i64 0])/\w'.ownsRow w.heap.size 9 1 v (wI s.data.toList).length ((wI s.data.toList).map Value.string)/\Below w.heap.size w w':=by
 obtain⟨h24,h6⟩:=BQ h
 have hm : s.size<= maxLen := by have :s.size<=24:=by simpa using h24
                                 unfold maxLen;omega
 have hn7:(wI s.data.toList).length<=6:=by rw[eY];omega
 have HC:Hid (kG s.data.toList=0):=h;clear h;obtain⟨i0,hi,hz0,hz1,hz2⟩:=qF Tryz.info9;refine rI Tryz.func202 rfl trivial ?_ rfl;simp only[Tryz.ntmps202,dG,List.length_cons,List.length_nil,Nat.reduceAdd,Nat.reduceSub,nF,Array.replicate_zero,cG,sF,List.nil_append,List.cons_append];gi_wp2_with(first
  |(refine⟨trivial,?_⟩;gi_at_call 89;refine(tE.2 (QJ _ _)).mono ?_;rintro e w1⟨rfl,hB1⟩;rw[show nJ qO s.data.toList=0 from HC.out])
  |(refine⟨trivial,?_⟩;gi_at_call 125;refine(GF _ _ _).mono ?_;rintro e w'⟨rfl,rfl⟩));have hs1:=hB1.size;have bO:=uS w1 52 (.slice none 0 0);have bN:=uS (w1.alloc (.cells #[.slice none 0 0] 52)) 9 (.string s);rw[pC]at bN;have hB0:Below w.heap.size w ((w1.alloc (.cells #[.slice none 0 0] 52)).alloc (.cells #[.string s] 9)):=(hB1.alloc hs1 _).alloc (by simp;omega) _;refine wpIn_rangeFunc_ownG rfl (by omega) (gf:=171) (lb:=#[.pointer (some ⟨w1.heap.size+1,0,none⟩)]) rfl trivial (rK Tryz.func171 (by kernel_rfl) rfl)
  (EW 4 (by omega) (w1.heap.size+1) s hm _ (by simp) bN.cell) (λ_ _=>trivial) (λ_ _ _ _ _ _ _ _=>trivial) (dA _ _) (λ_=>rfl)
  (λpre W=>(∃v,Boxed W w1.heap.size 52 v/\W.ownsRow w.heap.size 9 1 v pre.length (pre.map (λx:WB=>Value.string x.1))/\True)/\Below w.heap.size w W)
  (λ_ _ _=>False)
  (vO (Own.from (holdsRow_own w.heap.size w1.heap.size 52 9 1 (λpre:List WB=>pre.length) (λpre:List WB=>pre.map (λx:WB=>Value.string x.1)) (λ_ _=>True)) _) (aM (eA _) (by simp;omega)))
  (λ_ _ _ _ _ hs _ _=>hs)
  ⟨⟨_,bO.alloc _,jC _ _ _ _,trivial⟩,hB0⟩
  (λx=>{tmps:=#[.string s,undef,.slice none 0 0,.int .i64 0,.int .i64 0,.pointer (some ⟨w1.heap.size,0,none⟩),.string x.1,.string s,.int .i64 0,.int .i64 0,.bool false,undef,.string s,.func (.func 171) #[] #[.pointer (some ⟨w1.heap.size+1,0,none⟩)],.string x.1,undef,undef,undef,undef,undef],defers:=[]}) ?assign ?body ?done ?stop;case assign=>
  intro l x W K hK;gi_wp2;exact hK
 case body=>
  rintro l pre x W⟨⟨v,hv,hrow,_⟩,hB⟩hlt;have hc:=hv.cell;have hBs:=hB.size;gi_wp2_with(gi_at_builtin;refine wpListIn_append_own _ rfl _ _ 52 rfl w.heap.size 9 i0 (.string ⟨#[]⟩) 1 16 Tryz.underlying52 hi hz0 hz1 hz2 rfl (by decide) _ _ _ rfl (hrow.alloc _) ⟨W.heap.size,0,none⟩ 1 1 [.string x.1] rfl rfl (tH _ _ _) (by simp[Value.oneCell']) (by unfold maxLen;omega) (by omega) (by simp;omega) ?_;intro v' w2 hown' hgrow _;obtain⟨g',cap',rfl⟩:=ownsRow_succ hown';obtain⟨hv1,hv2,hr2,hk2,hb2⟩:=hv.appended (by decide) hrow hB.size hs1 hown' hgrow;have hc1:=hv1.cell;have hf1:=hv1.frozen);exact⟨hk2.from _,trivial,⟨_,hv2,by simpa using hr2,trivial⟩,hB.trans hb2⟩
 case done=>
  rintro D ys W hD hys⟨⟨v,hv,hrow,_⟩,hB⟩hK;have hc:=hv.cell;have HY:Hid (List.map (λx:WB=>x.1) ys=wI s.data.toList):=hys;clear hys;gi_wp2;refine⟨by simp,.inl ⟨_,_,rfl,vI hK,?_⟩⟩;have hrow':W.ownsRow w.heap.size 9 1 v (wI s.data.toList).length ((wI s.data.toList).map Value.string):=by
   rw[<-HY.out];simpa[Function.comp_def]using hrow
  exact⟨_,tQ rfl _ _ _,v,rfl,ownsRow_putObj hrow' _ hK rfl,hB.trans (belowK_b (w:=w) (eA _) W D _ _ (by simp at hD;omega) hK rfl rfl)⟩
 case stop=>
  rintro D c pre W _ _ h _;exact h.elim
theorem FL(s:ByteArray)(xs:List ByteArray)(hxs:xs=wI s.data.toList)(w:World)(h:kG s.data.toList=0):
 Calls Tryz.prog 202 #[.string s] w λe w'=>∃g cap,e=.returned (.tuple #[.slice (some ⟨g,0,none⟩) xs.length cap,.int .i64 0])/\w.heap.size<=g/\xs.length<=cap/\cap<=maxLen/\qM w' g 0 xs/\Below w.heap.size w w':=by
 subst hxs;refine(tE.1 (Q9 s w h)).mono ?_;rintro e w'⟨v,rfl,hown,hB⟩;obtain⟨g,cap,rfl,h1,h2,h3,h4⟩:=JV hown (by intro h;have:=eY s.data.toList;rw[h]at this;simp at this);exact⟨g,cap,rfl,h1,h2,h3,h4,hB⟩
end Go.Proofs.YtedmnjimkhamaaaGreatDoor
namespace Go.Proofs.YtedmnjimkhamaaaGreatDoor
set_option linter.unusedVariables false
set_option maxRecDepth 100000
set_option maxHeartbeats 2000000
open Go.RowKit
def fM(W:World)(a:Option Addr)(xs:List ByteArray):Prop:=xs=[]\/∃g o,a=some ⟨g,o,none⟩/\qM W g o xs
theorem fM.cut{W:World}{g o c n:Nat}{xs:List ByteArray}(h:qM W g o xs)(hc:xs.length<=c)(A:Option Addr)(hA:A=if c=n then some ⟨g,o,none⟩else some ⟨g,o+n,none⟩):fM W A (xs.drop n):=by
 by_cases hn:xs.length<=n;·exact .inl (mD hn)
 ·refine .inr ⟨g,o+n,by rw[hA,kA (by omega)],λi hi=>?_⟩;have:=h (n+i) (by simp at hi;omega);rw[gH,this];simp
theorem fM.cut2{W:World}{a:Option Addr}{c n:Nat}{xs:List ByteArray}(h:fM W a xs)(hc:xs.length<=c):fM W (if c=n then a else Option.map (λx=>x.add n) a) (xs.drop n):=by
 rcases h with rfl|⟨g,o,rfl,h⟩;·exact .inl (by simp)
 ·exact fM.cut h hc _ (by by_cases hn:n=0<;>simp[Addr.add,hn])
theorem LK{x:ByteArray}{l:List UInt8}(h:x.data.toList≠l):(x.toList==l)=false:=by rw[zC];simpa using h
theorem LJ{x:ByteArray}{l:List UInt8}(h:x.data.toList=l):(x.toList==l)=true:=by rw[zC];simpa using h
theorem O7:∀(ps ks:List ByteArray)(a1 a2:Option Addr)(n1 n2 c1 c2:Nat)(w:World),ps.length=n1->ks.length=n2->n1<=c1->c1<=maxLen->n2<=c2->c2<=maxLen->n2<=100->fM w a1 ps->fM w a2 ks->
 Calls Tryz.prog 198 #[.slice a1 n1 c1,.slice a2 n2 c2] w λe w'=>e=.returned (.bool (cN ps ks))/\∃n,w'=w.drewN n:=by
 intro ps;induction ps with
 |nil=>
   rintro ks a1 a2 n1 n2 c1 c2 w rfl hn2 _ _ _ _ _ _ _;rw[vY];have e:((n2:Int)==0)=ks.isEmpty:=by cases ks<;>simp at hn2<;>subst hn2<;>simp;omega
   obtain⟨b,hb⟩:∃b,b=ks.isEmpty:=⟨_,rfl⟩;rw[<-hb]at e⊢;clear hb;go_enter Tryz.func198,Tryz.ntmps198;go_wp2_with fail;go_ret;exact⟨rfl,0,rfl⟩
 |cons x ps ih=>
   rintro ks a1 a2 n1 n2 c1 c2 w hn1 hn2 hc1 hm1 hc2 hm2 h100 h1 h2;obtain⟨g,o,rfl,ht⟩:∃g o,a1=some ⟨g,o,none⟩/\qM w g o (x::ps):=by
    rcases h1 with h1|h1;·cases h1
    ·exact h1
   have e0:w.cell? ⟨g,o,none⟩=some (.string x):=ht 0 (by simp);have hz:((n1:Int)==0)=false:=xD.2 (by simp at hn1;omega);have hp:(0:Int)<n1:=by simp at hn1;omega
   have hp1:(1:Int)<=n1:=by omega
   have IH:Hid (∀(ks:List ByteArray)(a1 a2:Option Addr)(n1 n2 c1 c2:Nat)(w:World),ps.length=n1->ks.length=n2->n1<=c1->c1<=maxLen->n2<=c2->c2<=maxLen->n2<=100->fM w a1 ps->fM w a2 ks->
    Calls Tryz.prog 198 #[.slice a1 n1 c1,.slice a2 n2 c2] w λe w'=>e=.returned (.bool (cN ps ks))/\∃n,w'=w.drewN n):=ih;have HT:Hid (qM w g o (x::ps)):=ht;have HN1:Hid ((x::ps).length=n1):=hn1;have HN2:Hid (ks.length=n2):=hn2;have H2:Hid (fM w a2 ks):=h2;have hm1':c1<=9223372036854775807:=by unfold maxLen at hm1;omega
   have hm2':c2<=9223372036854775807:=by unfold maxLen at hm2;omega
   have HM:Hid (c1<=maxLen/\c2<=maxLen):=⟨hm1,hm2⟩;clear ih ht hn1 hn2 h1 h2 hm1 hm2;by_cases hx:x.data.toList=[35]
   ·have hxb:(x.toList==[35])=true:=LJ hx;have HXX:Hid (x.data.toList=[35]):=hx;clear hx;go_enter Tryz.func198,Tryz.ntmps198;go_wp2_with fail;go_loopw[5](λi wr=>∃k m:Nat,k<=n2+1/\i=.int .i64 k/\wr=w.drewN m/\∀j,j<k->cN ps (ks.drop j)=false)(λi _=>n2+1-(intOf i).toNat);case atStart=>exact⟨0,0,zA _,rfl,rfl,by intro j hj;omega⟩
    case round=>
     obtain⟨k,m,hk,rfl,hwr,ha⟩:=hrel;have HA:Hid (∀j,j<k->cN ps (ks.drop j)=false):=ha;have HW:Hid (wr=w.drewN m):=hwr;clear ha hwr;by_cases hlt:k<=n2
     ·have hk0:(0:Int)<=k:=by omega
      have hk1:(k:Int)<=n2:=by omega
      obtain⟨b,hb⟩:∃b,b=cN ps (ks.drop k):=⟨_,rfl⟩;have HBB:Hid (b=cN ps (ks.drop k)):=hb;have C:Hid (∀m',Calls Tryz.prog 198 #[.slice (if c1=1 then some ⟨g,o,none⟩else some ⟨g,o+1,none⟩) (n1-1) (c1-1),.slice (if c2=k then a2 else Option.map (λx=>x.add k) a2) (n2-k) (c2-k)] (wr.drewN m') (λe w'=>e=.returned (.bool b)/\∃n,w'=(wr.drewN m').drewN n)):=by
       intro m';have q1:=HN1.out;have q2:=HN2.out;have q3:=HM.out;simp at q1;rw[hb,HW.out];exact IH.out (ks.drop k) _ _ _ _ _ _ _ (by omega) (by simp;omega) (by omega) (by omega) (by omega) (by omega) (by omega) (fM.cut (W:=w) (n:=1) HT.out (by simp;omega) _ rfl) (fM.cut2 (W:=w) H2.out (by omega))
      clear hb;cases b with
      |true=>
        go_wp2_with fail;go_quiet((go_at_call 198;exact tN (C.out _)));go_wp2_with fail;all_goals
         go_ret;exact⟨eL (RM HXX.out (by have q2:=HN2.out;omega) HBB.out.symm).symm,_,by rw[HW.out,wK]⟩
      |false=>
        go_wp2_with fail;go_quiet((go_at_call 198;exact tN (C.out _)));go_wp2_with fail;all_goals
         go_roundw;case rel=>exact⟨k+1,_,by omega,by go_num,by rw[HW.out,wK],λj hj=>by
          by_cases hjk:j=k;·rw[hjk];exact HBB.out.symm
          ·exact HA.out j (by omega)⟩
         case measure=>simp[intOf];omega
     ·go_wp2_with fail;go_ret;have q2:=HN2.out;exact⟨eL (H7 HXX.out (λj hj=>HA.out j (by omega))).symm,m,HW.out⟩
   ·have hxb:(x.toList==[35])=false:=LK hx;cases ks with
    |nil=>
      have hd:decide (0<n2)=false:=by have q2:=HN2.out;simp at q2;simp;omega
      rw[AB hx];go_enter Tryz.func198,Tryz.ntmps198;go_wp2_with fail;go_quiet(fail);go_wp2_with fail;go_ret;exact⟨rfl,_,rfl⟩
    |cons y ks=>
      obtain⟨g2,o2,rfl,ht2⟩:∃g o,a2=some ⟨g,o,none⟩/\qM w g o (y::ks):=by
       rcases H2.out with h1|h1;·cases h1
       ·exact h1
      have f0:w.cell? ⟨g2,o2,none⟩=some (.string y):=ht2 0 (by simp);have q2:=HN2.out;have q1:=HN1.out;simp at q1 q2;have hp2:(0:Int)<n2:=by omega
      have hd:decide (0<n2)=true:=by simp;omega
      have hp3:(1:Int)<=n2:=by omega
      rw[uX hx];obtain⟨b,hb⟩:∃b,b=cN ps ks:=⟨_,rfl⟩;have C:Hid (∀m',Calls Tryz.prog 198 #[.slice (if c1=1 then some ⟨g,o,none⟩else some ⟨g,o+1,none⟩) (n1-1) (c1-1),.slice (if c2=1 then some ⟨g2,o2,none⟩else some ⟨g2,o2+1,none⟩) (n2-1) (c2-1)] (w.drewN m') (λe w'=>e=.returned (.bool b)/\∃n,w'=(w.drewN m').drewN n)):=by
       intro m';have q3:=HM.out;rw[hb];exact IH.out ks _ _ _ _ _ _ _ (by omega) (by omega) (by omega) (by omega) (by omega) (by omega) (by omega) (fM.cut (W:=w) (n:=1) HT.out (by simp;omega) _ rfl) (fM.cut (W:=w) (n:=1) ht2 (by simp;omega) _ rfl)
      rw[<-hb];clear hb q1 q2 hx ht2;by_cases s1:x.data.toList=[42]
      ·have s1b:(x.toList==[42])=true:=LJ s1;rw[show(x.data.toList==[42])=true from by simpa using s1];clear s1;go_enter Tryz.func198,Tryz.ntmps198;go_wp2_with fail;go_quiet((go_at_call 198;exact tN (C.out _)));go_wp2_with fail;all_goals(go_ret;exact⟨by simp,_,rfl⟩)
      ·have s1b:(x.toList==[42])=false:=LK s1;by_cases s2:x.data.toList=y.data.toList
       ·have s2b:(x.toList==y.toList)=true:=by rw[zC,zC];simpa using s2
        rw[show(x.data.toList==y.data.toList)=true from by simpa using s2];clear s1 s2;go_enter Tryz.func198,Tryz.ntmps198;go_wp2_with fail;go_quiet((go_at_call 198;exact tN (C.out _)));go_wp2_with fail;all_goals(go_ret;exact⟨by simp,_,rfl⟩)
       ·have s2b:(x.toList==y.toList)=false:=by rw[zC,zC];simpa using s2
        rw[show(x.data.toList==y.data.toList)=false from by simpa using s2,show(x.data.toList==[42])=false from by simpa using s1];clear s1 s2;go_enter Tryz.func198,Tryz.ntmps198;go_wp2_with fail;go_quiet((go_at_call 198;exact tN (C.out _)));go_wp2_with fail;all_goals(go_ret;exact⟨by simp,_,rfl⟩)
theorem qM.below{W W':World}{B g o:Nat}{xs:List ByteArray}(h:qM W g o xs)(hB:Below B W W')(hg:g<B):qM W' g o xs:=
 λi hi=>(hB.cell (p:=⟨g,o+i,none⟩) hg).trans (h i hi)
theorem qM.lt{W:World}{g o:Nat}{xs:List ByteArray}(h:qM W g o xs)(hne:0<xs.length):g<W.heap.size:=by
 have:=h 0 hne;unfold World.cell? at this;simp only at this;cases hb:W.heap[g]? with
 |none=>rw[hb]at this;cases this
 |some o=>exact(iC.1 hb).1
theorem qM.sA{W W':World}{g o:Nat}{xs:List ByteArray}(h:qM W g o xs)(hne:0<xs.length)(hB:Below W.heap.size W W'):qM W' g o xs:=h.below hB (h.lt hne)
theorem DW(w:World)(n:Nat):Below w.heap.size w (w.drewN n):=⟨rfl,rfl,rfl,eA _,λ_ _=>rfl⟩
theorem UD(p k:List UInt8):yN p k=cN (wI p) (wI k):=by unfold yN cN;rw[GE,GE]
theorem V6(p k:ByteArray)(w:World)(hp:p.size<=24)(hk:k.size<=24):
 Calls Tryz.prog 170 #[.string p,.string k] w λe w'=>e=.returned (.bool (yN p.data.toList k.data.toList))/\Below w.heap.size w w':=by
 have hl1:=eY p.data.toList;have hl2:=eY k.data.toList;have hl3:(wI k.data.toList).length<=100:=by
  have:=RJ k.data.toList;simp[wI]at*;omega
 rw[UD];obtain⟨xs,hxs⟩:∃xs,xs=wI p.data.toList:=⟨_,rfl⟩;obtain⟨ys,hys⟩:∃ys,ys=wI k.data.toList:=⟨_,rfl⟩;rw[<-hxs]at hl1⊢;rw[<-hys]at hl2 hl3⊢;have HX:Hid (xs=wI p.data.toList):=hxs;have HY:Hid (ys=wI k.data.toList):=hys;have h1:0<xs.length:=by omega
 have h2:0<ys.length:=by omega
 clear hxs hys hl1 hl2;go_enter Tryz.func170,Tryz.ntmps170;go_wp2_with fail;refine(BL p xs HX.out _ hp).mono ?_;rintro e w1⟨g1,c1,rfl,hg1,hc1,hm1,ht1,hB1⟩;go_wp2_with fail;refine(BL k ys HY.out _ hk).mono ?_;rintro e w2⟨g2,c2,rfl,hg2,hc2,hm2,ht2,hB2⟩;go_wp2_with fail;refine(O7 xs ys _ _ _ _ _ _ _ rfl rfl hc1 hm1 hc2 hm2 hl3 (.inr ⟨g1,0,rfl,ht1.sA h1 hB2⟩) (.inr ⟨g2,0,rfl,ht2⟩)).mono ?_;rintro e w3⟨rfl,n,rfl⟩;go_wp2_with fail;go_ret;exact⟨rfl,hB1.trans ((hB2.mono hB1.size).trans ((DW w2 n).mono (by have:=hB1.size;have:=hB2.size;omega)))⟩
theorem Tryz.info4:(Tryz.prog.info? 4).map (λi=>(i.zero,i.size,i.bytes))=some (some (.bool false),1,1):=by kernel_rfl
def lO(W:World)(g off:Nat)(bs:List Bool):Prop:=∀i(h:i<bs.length),W.cell? ⟨g,off+i,none⟩=some (.bool bs[i])
def eJ(x:ByteArray)(bs:List Bool)(ks:List ByteArray):Nat->Bool
 |0=>if x.data.toList=[35]then bs.getD 0 false else false
 |n+1=>if x.data.toList=[35]then bs.getD (n+1) false||eJ x bs ks n else bs.getD n false&&(x.data.toList==[42]||x.data.toList==(ks.getD n ⟨#[]⟩).data.toList)
def qQ(x:ByteArray)(bs:List Bool)(ks:List ByteArray):List Bool:=(List.range bs.length).map (eJ x bs ks)
def dR(x:ByteArray)(bs:List Bool)(ks:List ByteArray)(k:Nat):List Value:=(List.range bs.length).map (λi=>Value.bool (if i<k then eJ x bs ks i else false))
theorem k_(x:ByteArray)(bs:List Bool)(ks:List ByteArray):dR x bs ks 0=List.replicate bs.length (.bool false):=by
 apply nG<;>simp[dR]
theorem FB(x:ByteArray)(bs:List Bool)(ks:List ByteArray)(k:Nat){b:Bool}(hb:eJ x bs ks k=b):(dR x bs ks k).set k (.bool b)=dR x bs ks (k+1):=by
 apply nG;·simp[dR]
 ·intro i h1 h2;simp only[dR,List.getElem_set,uL,oU];by_cases hi:k=i;·subst hi;simp[hb]
  ·rw[kA hi];by_cases h3:i<k;·rw[qA h3,qA (by omega)]
   ·rw[kA h3,kA (by omega)]
theorem j_(x:ByteArray)(bs:List Bool)(ks:List ByteArray)(k:Nat)(hb:eJ x bs ks k=false):dR x bs ks k=dR x bs ks (k+1):=by
 apply nG;·simp[dR]
 ·intro i h1 h2;simp only[dR,uL,oU];by_cases hi:k=i;·subst hi;simp[hb]
  ·by_cases h3:i<k;·rw[qA h3,qA (by omega)]
   ·rw[kA h3,kA (by omega)]
theorem RN(x:ByteArray)(bs:List Bool)(ks:List ByteArray)(k j:Nat)(hj:j<bs.length):(dR x bs ks k)[j]?=some (.bool (if j<k then eJ x bs ks j else false)):=by
 simp[dR,hj]
theorem i_(x:ByteArray)(bs:List Bool)(ks:List ByteArray):dR x bs ks bs.length=(qQ x bs ks).map Value.bool:=by
 apply nG;·simp[dR,qQ]
 ·intro i h1 h2;simp[dR,qQ];intro h;simp[dR]at h1;omega
theorem JE(n:Nat):(madeCells (Value.bool false).cells (n*1)).toList=List.replicate n (.bool false):=by
 apply nG;·simp[madeCells]
 ·intro i h1 h2;simp[madeCells,Value.cells,Nat.mod_one]
theorem Y4(x:ByteArray)(bs:List Bool)(ks:List ByteArray)(g1 c1 g2 c2:Nat)(w:World)(hl:bs.length=ks.length+1)(hn:bs.length<=100)(h1:lO w g1 0 bs)(h2:qM w g2 0 ks)(hg1:g1<w.heap.size)(hg2:g2<w.heap.size):
 Calls Tryz.prog 226 #[.string x,.slice (some ⟨g1,0,none⟩) bs.length c1,.slice (some ⟨g2,0,none⟩) ks.length c2] w λe w'=>
  e=.returned (.slice (some ⟨w.heap.size,0,none⟩) bs.length bs.length)/\w'.ownsRow w.heap.size 4 1 (.slice (some ⟨w.heap.size,0,none⟩) bs.length bs.length) bs.length ((qQ x bs ks).map Value.bool)/\Below w.heap.size w w':=by
 obtain⟨i0,hi,hz0,hz1,hz2⟩:=qF Tryz.info4;have hl1:ks.length<bs.length:=by omega
 have HL:Hid (bs.length=ks.length+1):=hl;have H1:Hid (lO w g1 0 bs):=h1;have H2:Hid (qM w g2 0 ks):=h2;clear hl h1 h2;go_enter Tryz.func226,Tryz.ntmps226;go_wp2_with(at_make;refine cK _ rfl _ _ 143 rfl w.heap.size 4 i0 (.bool false) 1 Tryz.underlying143 hi hz0 hz1 _ _ _ _ bs.length rfl rfl rfl rfl (by rw[hz2];omega) (by unfold maxLen;omega) (eA _) ?_;intro w1 hown1 hgrow1);rw[JE,<-k_ x bs ks]at hown1;have hB1:Below w.heap.size w w1:=(dA _ w).grown hgrow1 (eA _) (λk e=>by cases e);go_loopw[14](λi wr=>∃k:Nat,k<=bs.length/\i=.int .i64 k/\wr.ownsRow w.heap.size 4 1 (.slice (some ⟨w.heap.size,0,none⟩) bs.length bs.length) bs.length (dR x bs ks k)/\Below w.heap.size w wr)(λi _=>bs.length-(intOf i).toNat);case atStart=>exact⟨0,zA _,rfl,hown1,hB1⟩
 case round=>
  clear hown1 hgrow1 hB1;obtain⟨k,hk,rfl,hown,hB⟩:=hrel;by_cases hlt:k<bs.length
  ·have hlt':(k:Int)<bs.length:=by omega
   have hck:wr.cell? ⟨w.heap.size,k,none⟩=some (.bool false):=by rw[hown.cellAt k (by omega),RN x bs ks k k hlt];simp
   have hfk:wr.frozen? ⟨w.heap.size,k,none⟩=false:=hown.frozenAt k;have hst:=λb=>hown.stored k (.bool b);have HST:Hid (∀b,(wr.setCell ⟨w.heap.size,k,none⟩ (.bool b)).ownsRow w.heap.size 4 1 (.slice (some ⟨w.heap.size,0,none⟩) bs.length bs.length) bs.length ((dR x bs ks k).set k (.bool b))):=λb=>(hst b).1;have HO:Hid (wr.ownsRow w.heap.size 4 1 (.slice (some ⟨w.heap.size,0,none⟩) bs.length bs.length) bs.length (dR x bs ks k)):=hown;by_cases hx:x.data.toList=[35];·have hxb:(x.toList==[35])=true:=LJ hx;have hr:wr.cell? ⟨g1,k,none⟩=some (.bool bs[k]):=(hB.cell (p:=⟨g1,k,none⟩) hg1).trans (by have:=H1.out k hlt;simpa using this);cases k with
    |zero=>
      have HF:Hid (eJ x bs ks 0=bs[0]):=by show eJ x bs ks 0=bs[0];simp[eJ,hx,hlt]
      clear hst hx hown;cases hb:bs[0]with
      |true=>
        rw[hb]at hr;go_wp2_with fail;go_roundw;case rel=>exact⟨1,by omega,rfl,by rw[<-FB x bs ks 0 (HF.out.trans hb)];exact HST.out true,hB.setCell (p:=⟨w.heap.size,0,none⟩) (eA _) _⟩
        case measure=>simp[intOf];omega
      |false=>
        rw[hb]at hr;go_wp2_with fail;go_roundw;case rel=>exact⟨1,by omega,rfl,by rw[<-FB x bs ks 0 (HF.out.trans hb)];exact HST.out false,hB.setCell (p:=⟨w.heap.size,0,none⟩) (eA _) _⟩
        case measure=>simp[intOf];omega
    |succ j=>
      have HF:Hid (eJ x bs ks (j+1)=(bs[j+1]||eJ x bs ks j)):=by show eJ x bs ks (j+1)=(bs[j+1]||eJ x bs ks j);simp[eJ,hx,hlt]
      have hcj:wr.cell? ⟨w.heap.size,j,none⟩=some (.bool (eJ x bs ks j)):=by rw[hown.cellAt j (by omega),RN x bs ks (j+1) j (by omega)];simp
      obtain⟨a,ha⟩:∃a,a=eJ x bs ks j:=⟨_,rfl⟩;obtain⟨b,hb⟩:∃b,b=bs[j+1]:=⟨_,rfl⟩;have HF2:Hid (eJ x bs ks (j+1)=(b||a)):=by rw[ha,hb];exact HF.out
      rw[<-ha]at hcj;rw[<-hb]at hr;have hj1:(0:Int)<(j:Int)+1:=by omega
      have hj2:(j:Int)<bs.length:=by omega
      clear hst hx hown ha hb HF;cases b<;>cases a;all_goals
       go_wp2_with fail;go_roundw;case rel=>exact⟨j+2,by omega,by go_num,by rw[<-FB x bs ks (j+1) HF2.out];exact HST.out _,hB.setCell (p:=⟨w.heap.size,j+1,none⟩) (eA _) _⟩
       case measure=>simp[intOf];omega
   ·have hxb:(x.toList==[35])=false:=LK hx;cases k with
    |zero=>
      have HF:Hid (eJ x bs ks 0=false):=by show eJ x bs ks 0=false;simp[eJ,hx]
      clear hst hx hown;go_wp2_with fail;go_roundw;case rel=>exact⟨1,by omega,rfl,by rw[<-j_ x bs ks 0 HF.out];exact HO.out,hB⟩
      case measure=>simp[intOf];omega
    |succ j=>
      have hr:wr.cell? ⟨g1,j,none⟩=some (.bool bs[j]):=(hB.cell (p:=⟨g1,j,none⟩) hg1).trans (by have:=H1.out j (by omega);simpa using this);have hjk:j<ks.length:=by have:=HL.out;omega
      have hk:wr.cell? ⟨g2,j,none⟩=some (.string ks[j]):=(hB.cell (p:=⟨g2,j,none⟩) hg2).trans (by have:=H2.out j hjk;simpa using this);have HF:Hid (eJ x bs ks (j+1)=(bs[j]&&(x.data.toList==[42]||x.data.toList==ks[j].data.toList))):=by
       show eJ x bs ks (j+1)=_;simp[eJ,hx,hjk,show j<bs.length from by omega]
      obtain⟨y,hy⟩:∃y,y=ks[j]:=⟨_,rfl⟩;obtain⟨b,hb⟩:∃b,b=bs[j]:=⟨_,rfl⟩;have HF2:Hid (eJ x bs ks (j+1)=(b&&(x.data.toList==[42]||x.data.toList==y.data.toList))):=by rw[hb,hy];exact HF.out
      rw[<-hy]at hk;rw[<-hb]at hr;have hj1:(0:Int)<(j:Int)+1:=by omega
      have hj2:(j:Int)<bs.length:=by omega
      have hj3:(j:Int)<ks.length:=by omega
      obtain⟨s1,hs1⟩:∃s1,(x.toList==[42])=s1:=⟨_,rfl⟩;obtain⟨s2,hs2⟩:∃s2,(x.toList==y.toList)=s2:=⟨_,rfl⟩;have HF3:Hid (eJ x bs ks (j+1)=(b&&(s1||s2))):=by
       show eJ x bs ks (j+1)=(b&&(s1||s2));rw[HF2.out,<-hs1,<-hs2,zC,zC]
      clear hst hx hown hb hy HF HF2 hjk;cases b<;>cases s1<;>cases s2;all_goals
       go_wp2_with fail;go_roundw;case rel=>exact⟨j+2,by omega,by go_num,by rw[<-FB x bs ks (j+1) HF3.out];exact HST.out _,hB.setCell (p:=⟨w.heap.size,j+1,none⟩) (eA _) _⟩
       case measure=>simp[intOf];omega
  ·have hkn:k=bs.length:=by omega
   have HK:Hid (k=bs.length):=hkn;clear hkn;go_wp2_with fail;go_ret;exact⟨rfl,by rw[<-i_];have h:=hown;rwa[show dR x bs ks k=dR x bs ks bs.length from congrArg (dR x bs ks) HK.out]at h,hB⟩
def zQ(xs pre:List ByteArray):List Bool:=(List.range (xs.length+1)).map (λn=>cN pre (xs.take n))
theorem ID(xs pre:List ByteArray):(zQ xs pre).length=xs.length+1:=by simp[zQ]
theorem JJ(xs pre:List ByteArray)(n:Nat)(h:n<=xs.length):(zQ xs pre).getD n false=cN pre (xs.take n):=by
 have:n<xs.length+1:=by omega
 simp[zQ,List.getD,this]
theorem XX(xs:List ByteArray):zQ xs []=true::List.replicate xs.length false:=by
 apply nG;·simp[zQ]
 ·intro i h1 h2;cases i with
  |zero=>simp[zQ,vY]
  |succ i=>
    have h:i<xs.length:=by simpa[zQ]using h1
    simp[zQ,vY];intro e;simp[e]at h
theorem h_(xs pre:List ByteArray)(x:ByteArray):∀n,n<=xs.length->eJ x (zQ xs pre) xs n=cN (pre++[x]) (xs.take n):=by
 intro n;induction n with
 |zero=>
   intro _;by_cases hx:x.data.toList=[35];·rw[eJ,qA hx,JJ _ _ 0 (zA _),BD hx];simp
   ·rw[eJ,kA hx,List.take_zero,DT hx]
 |succ n ih=>
   intro hn;by_cases hx:x.data.toList=[35]
   ·rw[eJ,qA hx,JJ _ _ _ hn,ih (by omega),BD hx,BD hx];have e1:(xs.take (n+1)).length=n+1:=by simp;omega
    have e2:(xs.take n).length=n:=by simp;omega
    rw[e1,e2,iI (n:=n+1),List.any_append,Bool.or_comm];congr 1
    ·rw[jF,aE,aE];constructor;·rintro⟨j,hj,h⟩;simp at hj;exact⟨j,by simp;omega,by rw[List.take_take,nK (by omega)]at*;exact h⟩
     ·rintro⟨j,hj,h⟩;simp at hj;exact⟨j,by simp;omega,by rw[List.take_take,nK (by omega)]at*;exact h⟩
    ·simp[List.take_take]
   ·rw[eJ,kA hx,JJ _ _ n (by omega),rA (show n<xs.length from by omega),JA hx];have:xs.getD n ⟨#[]⟩=xs[n]:=by simp[List.getD,show n<xs.length from by omega]
    rw[this]
theorem g_(xs pre:List ByteArray)(x:ByteArray):qQ x (zQ xs pre) xs=zQ xs (pre++[x]):=by
 apply nG;·simp[qQ,zQ]
 ·intro i h1 h2;have h:i<=xs.length:=by simp[qQ,zQ]at h1;omega
  simp only[qQ,uL,oU];rw[h_ xs pre x i h];simp[zQ]
theorem ZC(xs pre:List ByteArray):(zQ xs pre)[xs.length]'(by simp[zQ])=cN pre xs:=by simp[zQ]
open Go.Shelf
attribute[local go_sem]qH
theorem YF{F:Fence}{n:Nat}{P:Program}(w:World){ops:Array Oper}{rest:List Oper}{o:Oper}{a:Act}{Q:Exit->Act->World->Prop}
 (hg:o.guard=none)(l c:Operand)(t:TypeId)(hop:o.op=Op.makeSlice t l c)
 (base:Nat)(e:TypeId)(i:TypeInfo)(z:Value)(size:Nat)(h1:P.underlying t=some (.slice e))(h2:P.info? e=some i)(h3:i.zero=some z)(h4:i.size=size)
 (kl kc:IntKind)(L C:Int)(m:Nat)(hl:a.eval l=.int kl L)(hc:a.eval c=.int kc C)(hL:L=(m:Int))(hC:C=(m:Int))(b2:i.bytes*m<=281474976710656)(b3:m<=maxLen)(b4:base<=w.heap.size)
 (hK:∀w',w'.ownsRow base e size (.slice (some ⟨w.heap.size,0,none⟩) m m) m (madeCells z.cells (m*size)).toList->w.grownBy w' none->wpListIn F n P ops Q rest (a.put o.dst (.slice (some ⟨w.heap.size,0,none⟩) m m)) w'):
 wpListIn F n P ops Q (o::rest) a w:=by
 subst hL hC;obtain⟨w',hrun,r1,r2⟩:=run_make_full (P:=P) w base t e i z size h1 h2 h3 h4 kl kc m b2 b3 b4;refine wpListIn_plain hg λK hK'=>⟨by simp[Oper.about,hop],?_⟩;rw[Oper.semAt_plain F _ _ (by rw[hop];intro c hc';cases hc')];simp[execOp,hop,hl,hc,hrun,Result.andThen];exact hK' _ _ (hK w' r1 r2)
theorem ZQ{W W':World}(h:Below W.heap.size W W'):KeepsOthers W W':=
 ⟨h.size,λk _ hk _=>(h.block k (iC.1 hk).1).trans hk⟩
theorem I6{w:World}{base g n:Nat}(h:w.ownsRow base 4 1 (.slice (some ⟨g,0,none⟩) (n+1) (n+1)) (n+1) (List.replicate (n+1) (.bool false))):∀o,(w.alloc o).cell? ⟨g,0,none⟩=some (.bool false):=by
 intro o;rw[(h.alloc o).cellAt 0 (by omega)];simp
theorem I7{w:World}{base g n:Nat}(h:w.ownsRow base 4 1 (.slice (some ⟨g,0,none⟩) (n+1) (n+1)) (n+1) (List.replicate (n+1) (.bool false))):∀o,(w.alloc o).frozen? ⟨g,0,none⟩=false:=by
 intro o;exact(h.alloc o).frozenAt 0
theorem IR{W:World}{b o b' o':Nat}{v:Value}(h:b≠b'):(W.setCell ⟨b,o,none⟩ v).cell? ⟨b',o',none⟩=W.cell? ⟨b',o',none⟩:=
 World.cell?_setCell_other _ _ _ _ (by intro e;cases e;exact h rfl)
theorem NT{W:World}{base g cap:Nat}{bs:List Bool}(h:W.ownsRow base 4 1 (.slice (some ⟨g,0,none⟩) bs.length cap) bs.length (bs.map Value.bool)):lO W g 0 bs:=by
 intro i hi;rw[uD,h.cellAt i (by omega)];simp[hi]
theorem qg_(x:ByteArray)(bs:List Bool)(ks:List ByteArray)(g1 c1 g2 c2 n:Nat)(w:World)(hn:bs.length=n)(hl:n=ks.length+1)(h100:n<=100)(h1:lO w g1 0 bs)(h2:qM w g2 0 ks)(hg1:g1<w.heap.size)(hg2:g2<w.heap.size):
 Calls Tryz.prog 226 #[.string x,.slice (some ⟨g1,0,none⟩) n c1,.slice (some ⟨g2,0,none⟩) ks.length c2] w λe w'=>
  e=.returned (.slice (some ⟨w.heap.size,0,none⟩) n n)/\(lO w' w.heap.size 0 (qQ x bs ks)/\w.heap.size<w'.heap.size)/\Below w.heap.size w w':=by
 subst hn;refine(Y4 x bs ks g1 c1 g2 c2 w hl h100 h1 h2 hg1 hg2).mono ?_;rintro e w'⟨rfl,hown,hB⟩;have hlt:w.heap.size<w'.heap.size:=by
  rcases hown.2 with⟨h,_⟩|⟨g,cap,cur,h,_,hh,_⟩;·cases h
  ·cases h;exact(iC.1 hh).1
 refine⟨rfl,⟨NT (base:=w.heap.size) (cap:=bs.length) ?_,hlt⟩,hB⟩;rw[show(qQ x bs ks).length=bs.length from by simp[qQ]];exact hown
theorem ZW{w2 w3:World}{xs:List ByteArray}{gk ck:Nat}{pv:Value}
 (hown:w3.ownsRow w2.heap.size 4 1 (.slice (some ⟨w2.heap.size+1,0,none⟩) (xs.length+1) (xs.length+1)) (xs.length+1) (List.replicate (xs.length+1) (.bool false)))
 (hgrow:(w2.alloc (.cells #[.slice (some ⟨gk,0,none⟩) xs.length ck] 52)).grownBy w3 none)(ht:qM w2 gk 0 xs)(hne:0<xs.length):
 let W0:=(((w3.alloc (.cells #[.slice (some ⟨w2.heap.size+1,0,none⟩) (xs.length+1) (xs.length+1)] 143)).setCell ⟨w2.heap.size+1,0,none⟩ (.bool true)).alloc (.cells #[pv] 9))
 W0.cell? ⟨w3.heap.size,0,none⟩=some (.slice (some ⟨w2.heap.size+1,0,none⟩) (xs.length+1) (xs.length+1))/\W0.frozen? ⟨w3.heap.size,0,none⟩=false/\lO W0 (w2.heap.size+1) 0 (zQ xs [])/\
  W0.cell? ⟨w2.heap.size,0,none⟩=some (.slice (some ⟨gk,0,none⟩) xs.length ck)/\qM W0 gk 0 xs/\Below w2.heap.size w2 W0:=by
 intro W0;have hz:=hgrow.size;simp only[pC]at hz;have hlt:w2.heap.size+1<w3.heap.size:=by
  rcases hown.2 with⟨h,_⟩|⟨g,cap,cur,h,_,hh,_⟩;·cases h
  ·cases h;exact(iC.1 hh).1
 have b3:Boxed (w3.alloc (.cells #[.slice (some ⟨w2.heap.size+1,0,none⟩) (xs.length+1) (xs.length+1)] 143)) w3.heap.size 143 (.slice (some ⟨w2.heap.size+1,0,none⟩) (xs.length+1) (xs.length+1)):=uS w3 _ _;have b3':Boxed W0 w3.heap.size 143 (.slice (some ⟨w2.heap.size+1,0,none⟩) (xs.length+1) (xs.length+1)):=(b3.kept (cQ _ (w2.heap.size+1) (.bool true)) (by simp;omega)).alloc _;have b1:Boxed W0 w2.heap.size 52 (.slice (some ⟨gk,0,none⟩) xs.length ck):=((((uS w2 52 _).kept hgrow (by simp)).alloc _).kept (cQ _ (w2.heap.size+1) (.bool true)) (by simp)).alloc _;have hB:Below w2.heap.size w2 W0:=((((((dA _ w2).alloc (eA _) _).grown hgrow (by simp) (λk e=>by cases e)).alloc (by omega) _).setCell (p:=⟨w2.heap.size+1,0,none⟩) (by simp) _).alloc (by simp;omega) _);refine⟨b3'.cell,b3'.frozen,?_,b1.cell,ht.sA hne hB,hB⟩;have hst:=(((hown.alloc (.cells #[.slice (some ⟨w2.heap.size+1,0,none⟩) (xs.length+1) (xs.length+1)] 143)).stored 0 (.bool true)).1).alloc (.cells #[pv] 9);have e:(List.replicate (xs.length+1) (Value.bool false)).set 0 (.bool true)=(zQ xs []).map Value.bool:=by
  rw[XX];simp[List.replicate_succ]
 rw[e]at hst;have hl:=ID xs [];refine NT (base:=w2.heap.size) (cap:=xs.length+1) ?_;rw[hl];exact hst
theorem j9(p k:ByteArray)(w:World)(h1:pK p.data.toList≠0):
 Calls Tryz.prog 215 #[.string p,.string k] w λe w'=>e=.returned (.tuple #[.bool (wW p.data.toList k.data.toList),.int .i64 (mN p.data.toList k.data.toList)])/\Below w.heap.size w w':=by
 rw[show wW p.data.toList k.data.toList=false from by simp[wW,mN,h1],show mN p.data.toList k.data.toList=pK p.data.toList from by simp[mN,h1]];have h':(pK p.data.toList !=0)=true:=kD.2 h1;obtain⟨c,hc⟩:∃c,c=pK p.data.toList:=⟨_,rfl⟩;have HC:Hid (c=pK p.data.toList):=hc;rw[<-hc]at h'⊢;clear hc h1;go_enter Tryz.func215,Tryz.ntmps215;go_wp2_with(go_at_call 57;refine(CE _ _).mono ?_;rintro e w1⟨rfl,hB1⟩;rw[<-HC.out]);go_ret2;exact⟨rfl,hB1⟩
theorem i8(p k:ByteArray)(w:World)(h1:pK p.data.toList=0)(h2:kG k.data.toList≠0):
 Calls Tryz.prog 215 #[.string p,.string k] w λe w'=>e=.returned (.tuple #[.bool (wW p.data.toList k.data.toList),.int .i64 (mN p.data.toList k.data.toList)])/\Below w.heap.size w w':=by
 rw[show wW p.data.toList k.data.toList=false from by simp[wW,mN,h1,h2],show mN p.data.toList k.data.toList=kG k.data.toList from by simp[mN,h1]];have h':(kG k.data.toList !=0)=true:=kD.2 h2;have HS:=EU k;obtain⟨c,hc⟩:∃c,c=kG k.data.toList:=⟨_,rfl⟩;have HC:Hid (∀w,Calls Tryz.prog 202 #[.string k] w λe w'=>e=.returned (.tuple #[.slice none 0 0,.int .i64 c])/\Below w.heap.size w w'):=λw=>by rw[hc];exact HS w h2
 rw[<-hc]at h'⊢;have H1:Hid (pK p.data.toList=0):=h1;clear hc h1 h2 HS;go_enter Tryz.func215,Tryz.ntmps215;go_wp2_with(first
  |(go_at_call 57;refine(CE _ _).mono ?_;rintro e w1⟨rfl,hB1⟩;rw[H1.out])
  |(go_at_call 202;refine(HC.out _).mono ?_;rintro e w2⟨rfl,hB2⟩));go_ret2;have:=hB1.size;have:=hB2.size;exact⟨rfl,(hB1.trans (hB2.mono hB1.size)).alloc (by omega) _⟩
theorem P7(p k:ByteArray)(w:World)(h1:pK p.data.toList=0)(h2:kG k.data.toList=0):
 CallsIn Fence.wide 5 Tryz.prog 215 #[.string p,.string k] w λe w'=>e=.returned (.tuple #[.bool (yN p.data.toList k.data.toList),.int .i64 0])/\Below w.heap.size w w':=by
 obtain⟨p24,_⟩:=BQ h1;obtain⟨k24,k6⟩:=BQ h2
 have hm : p.size ≤ maxLen := by have :p.size<=24:=by simpa using p24
                                 unfold maxLen;omega
 have hn6:(wI k.data.toList).length<=6:=by rw[eY];omega
 have hn1:1<=(wI k.data.toList).length:=by rw[eY];omega
 rw[UD];obtain⟨xs,hxs⟩:∃xs,xs=wI k.data.toList:=⟨_,rfl⟩;rw[<-hxs]at hn6 hn1⊢;have HX:Hid (xs=wI k.data.toList):=hxs;have H1:Hid (pK p.data.toList=0):=h1;have H2:Hid (kG k.data.toList=0):=h2;clear h1 h2 hxs p24 k24 k6;obtain⟨i0,hi,hz0,hz1,hz2⟩:=qF Tryz.info4;refine rI Tryz.func215 rfl trivial ?_ rfl;simp only[Tryz.ntmps215,dG,List.length_cons,List.length_nil,Nat.reduceAdd,Nat.reduceSub,nF,Array.replicate_zero,cG,sF,List.nil_append,List.cons_append];gi_wp2_with(first
  |(refine⟨trivial,?_⟩;gi_at_call 57;refine(tE.2 (CE _ _)).mono ?_;rintro e w1⟨rfl,hB1⟩;rw[H1.out])
  |(refine⟨trivial,?_⟩;gi_at_call 202;refine(tE.2 (FL k xs HX.out _ H2.out)).mono ?_;rintro e w2⟨gk,ck,rfl,hgk,hck,hmk,htk,hB2⟩)
  |(gi_at_make;refine YF _ rfl _ _ 143 rfl w2.heap.size 4 i0 (.bool false) 1 Tryz.underlying143 hi hz0 hz1 _ _ _ _ (xs.length+1) rfl rfl (by go_num) (by go_num) (by rw[hz2];omega) (by unfold maxLen;omega) (by simp) ?_;intro w3 hown3 hgrow3;simp only[pC,JE]at hown3;have hc3:=I6 hown3;have hf3:=I7 hown3;have hz3:=hgrow3.size;simp only[pC]at hz3)
  |(refine⟨trivial,?_⟩;gi_at_call 125;refine(GF _ _ _).mono ?_;rintro e w'⟨rfl,rfl⟩));have hs1:=hB1.size;have hs2:=hB2.size;have hBw2:Below w.heap.size w w2:=hB1.trans (hB2.mono hs1);have hgk2:gk<w2.heap.size:=htk.lt (by omega);obtain⟨f1,f2,f3,f4,f5,f6⟩:=ZW hown3 hgrow3 htk (by omega);obtain⟨W0,hW0⟩:∃W0,(((w3.alloc (.cells #[.slice (some ⟨w2.heap.size+1,0,none⟩) (xs.length+1) (xs.length+1)] 143)).setCell ⟨w2.heap.size+1,0,none⟩ (.bool true)).alloc (.cells #[.string p] 9))=W0:=⟨_,rfl⟩;rw[hW0]at f1 f2 f3 f4 f5 f6⊢;have hW0s:W0.heap.size=w3.heap.size+1+1:=by rw[<-hW0];simp
 have f7:W0.cell? ⟨w3.heap.size+1,0,none⟩=some (.string p):=by
  rw[<-hW0];have:=(AH ((w3.alloc (.cells #[.slice (some ⟨w2.heap.size+1,0,none⟩) (xs.length+1) (xs.length+1)] 143)).setCell ⟨w2.heap.size+1,0,none⟩ (.bool true)) (.string p) 9).1;simpa using this
 have hBW:Below w.heap.size w W0:=hBw2.trans (f6.mono (by omega));clear hW0 hown3 hgrow3 hc3 hf3 hB1 hB2 htk f6;refine wpIn_rangeFunc_ownG rfl (by omega) (gf:=171) (lb:=#[.pointer (some ⟨w3.heap.size+1,0,none⟩)]) rfl trivial (rK Tryz.func171 (by kernel_rfl) rfl)
  (EW 4 (by omega) (w3.heap.size+1) p hm _ (by omega) f7) (λ_ _=>trivial) (λ_ _ _ _ _ _ _ _=>trivial) (dA _ _) (λ_=>rfl)
  (λpre W=>((∃g c,W.cell? ⟨w3.heap.size,0,none⟩=some (.slice (some ⟨g,0,none⟩) (xs.length+1) c)/\W.frozen? ⟨w3.heap.size,0,none⟩=false/\lO W g 0 (zQ xs (List.map (λx:WB=>x.1) pre))/\g<W.heap.size)/\
   W.cell? ⟨w2.heap.size,0,none⟩=some (.slice (some ⟨gk,0,none⟩) xs.length ck)/\qM W gk 0 xs/\W0.heap.size<=W.heap.size)/\Below w.heap.size w W)
  (λ_ _ _=>False)
  (vO (Own.from (by
   rintro s A B row⟨⟨g,c,h1,h2,h3,h4⟩,h5,h6,h7⟩hg hr;exact⟨⟨g,c,wH h1 hg hr,(frozen_kept h1 hg hr).trans h2,λi hi=>wH (h3 i hi) hg hr,uC h4 hg.size⟩,wH h5 hg hr,λi hi=>wH (h6 i hi) hg hr,vA h7 hg.size⟩) _) (aM (eA _) (by omega)))
  (λ_ _ _ _ _ hs _ _=>hs)
  ⟨⟨⟨w2.heap.size+1,xs.length+1,f1,f2,f3,by omega⟩,f4,f5,eA _⟩,hBW⟩
  (λx=>{tmps:=#[.string p,.string k,undef,undef,.bool false,.int .i64 0,.int .i64 0,.pointer (some ⟨w2.heap.size,0,none⟩),.int .i64 0,.pointer (some ⟨w3.heap.size,0,none⟩),.string x.1,.string p,.int .i64 0,.int .i64 0,.bool false,undef,
   .tuple #[.slice (some ⟨gk,0,none⟩) xs.length ck,.int .i64 0],.string k,.tuple #[.slice (some ⟨gk,0,none⟩) xs.length ck,.int .i64 0],.slice (some ⟨gk,0,none⟩) xs.length ck,.int .i64 0,.int .i64 0,.bool false,undef,.slice (some ⟨gk,0,none⟩) xs.length ck,.int .i64 xs.length,.int .i64 (xs.length+1),
   .slice (some ⟨w2.heap.size+1,0,none⟩) (xs.length+1) (xs.length+1),.slice (some ⟨w2.heap.size+1,0,none⟩) (xs.length+1) (xs.length+1),.pointer (some ⟨w2.heap.size+1,0,none⟩),.string p,.func (.func 171) #[] #[.pointer (some ⟨w3.heap.size+1,0,none⟩)],.string x.1,undef,undef,undef,undef,undef,undef,undef,undef,undef],defers:=[]}) ?assign ?body ?done ?stop;case assign=>
  intro l x W K hK;gi_wp2;exact hK
 case body=>
  rintro l pre x W⟨⟨⟨g,c,h1,h2,h3,h4⟩,h5,h6,h7⟩,hB⟩_;have HL:=qg_ x.1 (zQ xs (List.map (λx:WB=>x.1) pre)) xs g c gk ck (xs.length+1) W (ID _ _) rfl (by omega) h3 h6 h4 (by omega);rw[g_]at HL;have hq:w3.heap.size<W.heap.size:=by omega
  have hq0:w.heap.size<=W.heap.size:=hB.size;have H6:Hid (qM W gk 0 xs):=h6;clear h3 h6;gi_wp2_with(refine⟨trivial,?_⟩;gi_at_call 226;refine(lM l (tE.2 HL)).mono ?_;rintro e W1⟨rfl,⟨hb1,hb2⟩,hBx⟩;have hq1:=(hBx.cell (p:=⟨w3.heap.size,0,none⟩) hq).trans h1;have hq2:=(hBx.frozen (p:=⟨w3.heap.size,0,none⟩) hq).trans h2);have hq3:=hBx.size;refine⟨((ZQ hBx).trans (dK _ _ _)).from _,trivial,⟨⟨W.heap.size,xs.length+1,eI _ _ _ (by rw[hq1];rfl),by rw[World.frozen?_setCell];exact hq2,?_,?_⟩,?_,?_,?_⟩,?_⟩;·intro i hi;rw[IR (by omega)];simp only[oD,fH,fN];exact hb1 i (by simpa using hi)
  ·simp[World.setCell];omega
  ·rw[IR (by omega)];exact(hBx.cell (p:=⟨w2.heap.size,0,none⟩) (by show w2.heap.size<_;omega)).trans h5
  ·intro i hi;rw[IR (by omega)];exact(hBx.cell (p:=⟨gk,0+i,none⟩) (by show gk<_;omega)).trans (H6.out i hi)
  ·simp[World.setCell];omega
  ·exact(hB.trans (hBx.mono (by omega))).setCell (p:=⟨w3.heap.size,0,none⟩) (by show w.heap.size<=w3.heap.size;omega) _
 case done=>
  rintro D ys W hD hys⟨⟨⟨g,c,h1,h2,h3,h4⟩,h5,h6,h7⟩,hB⟩hK;have hl:=ID xs (List.map (λx:WB=>x.1) ys);have hc:=h3 xs.length (by omega);rw[ZC]at hc;rw[hys]at hc;simp only[uD]at hc;have hlt:(xs.length:Int)<xs.length+1:=by omega
  clear h3 h6 hl hys;gi_wp2;refine⟨by simp,.inl ⟨_,_,rfl,vI hK,?_⟩⟩;exact⟨_,tQ rfl _ _ _,rfl,hB.trans (belowK_b (w:=w) (eA _) W D _ _ (by omega) hK rfl rfl)⟩
 case stop=>
  rintro D c pre W _ _ h _;exact h.elim
theorem I8(p k:ByteArray)(w:World):
 Calls Tryz.prog 215 #[.string p,.string k] w λe w'=>e=.returned (.tuple #[.bool (wW p.data.toList k.data.toList),.int .i64 (mN p.data.toList k.data.toList)])/\Below w.heap.size w w':=by
 by_cases h1:pK p.data.toList=0
 ·by_cases h2:kG k.data.toList=0;·rw[show wW p.data.toList k.data.toList=yN p.data.toList k.data.toList from by simp[wW,mN,h1,h2],show mN p.data.toList k.data.toList=0 from by simp[mN,h1,h2]];exact tE.1 (P7 p k w h1 h2)
  ·exact i8 p k w h1 h2
 ·exact j9 p k w h1
end Go.Proofs.YtedmnjimkhamaaaGreatDoor
namespace Go.Proofs.YtedmnjimkhamaaaGreatDoor
set_option linter.unusedVariables false
set_option maxRecDepth 100000
open Go.RowKit
end Go.Proofs.YtedmnjimkhamaaaGreatDoor
