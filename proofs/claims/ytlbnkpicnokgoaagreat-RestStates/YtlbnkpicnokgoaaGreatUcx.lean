import Derived.Test.YtlbnkpicnokgoaaGreatUbx
import Derived.Maps.OwnSet
import Derived.StringKeys
import Derived.Laws.AppendOwnNone
namespace Go.Proofs.YtlbnkpicnokgoaaGreat
open Go.RowKit
set_option linter.unusedVariables false
set_option maxRecDepth 100000
set_option maxHeartbeats 2000000
structure bV_ where
 name:ByteArray
 kind:Int
structure ba_ where
 name:ByteArray
 limit:Int
 dead:Int
structure dA_ where
 src:Int
 toPost:Bool
 dst:Int
 pat:ByteArray
structure ad_ where
 posts:List bV_
 queues:List ba_
 binds:List dA_
def bG_ (W:World) (a:Option Addr) (xs:List bV_):Prop:=xs = []∨∃ g o,a = some ⟨g,o,none⟩∧g < W.heap.size∧∀ i (h:i < xs.length),W.cell? ⟨g,o+i * 2,none⟩ = some (.string xs[i].name)∧W.cell? ⟨g,o+i * 2+1,none⟩ = some (.int .i64 xs[i].kind)
def a6_ (W:World) (a:Option Addr) (xs:List ba_):Prop:=xs = []∨∃ g o,a = some ⟨g,o,none⟩∧g < W.heap.size∧∀ i (h:i < xs.length),W.cell? ⟨g,o+i * 3,none⟩ = some (.string xs[i].name)∧W.cell? ⟨g,o+i * 3+1,none⟩ = some (.int .i64 xs[i].limit)∧W.cell? ⟨g,o+i * 3+2,none⟩ = some (.int .i64 xs[i].dead)
def bF_ (W:World) (a:Option Addr) (xs:List dA_):Prop:=xs = []∨∃ g o,a = some ⟨g,o,none⟩∧g < W.heap.size∧∀ i (h:i < xs.length),W.cell? ⟨g,o+i * 4,none⟩ = some (.int .i64 xs[i].src)∧W.cell? ⟨g,o+i * 4+1,none⟩ = some (.bool xs[i].toPost)∧W.cell? ⟨g,o+i * 4+2,none⟩ = some (.int .i64 xs[i].dst)∧W.cell? ⟨g,o+i * 4+3,none⟩ = some (.string xs[i].pat)
theorem bG_.keep {W W':World} {a:Option Addr} {xs:List bV_} (h:bG_ W a xs) (hB:Below W.heap.size W W'):bG_ W' a xs:=by
 rcases h with h | ⟨g,o,ha,hg,h⟩
 ·exact .inl h
 ·exact .inr ⟨g,o,ha,Nat.lt_of_lt_of_le hg hB.size,fun i hi=>⟨(hB.cell (p:=⟨g,_,none⟩) hg).trans (h i hi).1,(hB.cell (p:=⟨g,_,none⟩) hg).trans (h i hi).2⟩⟩
theorem a6_.keep {W W':World} {a:Option Addr} {xs:List ba_} (h:a6_ W a xs) (hB:Below W.heap.size W W'):a6_ W' a xs:=by
 rcases h with h | ⟨g,o,ha,hg,h⟩
 ·exact .inl h
 ·exact .inr ⟨g,o,ha,Nat.lt_of_lt_of_le hg hB.size,fun i hi=>⟨(hB.cell (p:=⟨g,_,none⟩) hg).trans (h i hi).1,(hB.cell (p:=⟨g,_,none⟩) hg).trans (h i hi).2.1,(hB.cell (p:=⟨g,_,none⟩) hg).trans (h i hi).2.2⟩⟩
theorem bF_.keep {W W':World} {a:Option Addr} {xs:List dA_} (h:bF_ W a xs) (hB:Below W.heap.size W W'):bF_ W' a xs:=by
 rcases h with h | ⟨g,o,ha,hg,h⟩
 ·exact .inl h
 ·exact .inr ⟨g,o,ha,Nat.lt_of_lt_of_le hg hB.size,fun i hi=>⟨(hB.cell (p:=⟨g,_,none⟩) hg).trans (h i hi).1,(hB.cell (p:=⟨g,_,none⟩) hg).trans (h i hi).2.1,(hB.cell (p:=⟨g,_,none⟩) hg).trans (h i hi).2.2.1,(hB.cell (p:=⟨g,_,none⟩) hg).trans (h i hi).2.2.2⟩⟩
theorem aA_ {α:Type} {p:α→Bool} {xs:List α} {k:Nat} (hk:k < xs.length) (h:∀ x ∈ xs.take k,p x = true) (hx:p xs[k] = true):∀ x ∈ xs.take (k+1),p x = true:=by
 rw [List.take_succ_eq_append_getElem hk];intro x hx';rcases List.mem_append.1 hx' with h1 | h1
 ·exact h x h1
 ·rw [List.mem_singleton.1 h1];exact hx
theorem a0_ {α:Type} {p:α→Bool} {xs:List α} {k n:Nat} (hn:xs.length = n) (hk:¬ k < n) (h:∀ x ∈ xs.take k,p x = true):xs.all p = true:=by
 rw [List.take_of_length_le (by omega)] at h;rw [List.all_eq_true];exact h
theorem afg_ {α:Type} {p:α→Bool} {xs:List α} {k:Nat} (hk:k < xs.length) (hx:p xs[k] = false):xs.all p = false:=by
 rw [List.all_eq_false];exact ⟨xs[k],List.getElem_mem hk,by simp [hx]⟩
theorem dZ_ {W:World} {base:Nat} {v:Value} {xs:List ByteArray} (h:W.ownsRow base 9 1 v xs.length (xs.map Value.string)) :
 ∃ a c,v = .slice a xs.length c∧(xs.length≤c∧(a = none→c = 0∧xs = []))∧c≤maxLen∧aE_ W a xs:=by
 by_cases hne:xs = []
 ·subst hne;rcases h.2 with ⟨rfl,_⟩ | ⟨g,cap,cur,rfl,_,_,hn,hm,_⟩
  ·exact ⟨none,0,rfl,⟨Nat.le_refl _,fun _=>⟨rfl,rfl⟩⟩,Nat.zero_le _,.inl rfl⟩
  ·exact ⟨_,cap,rfl,⟨hn,fun h=>by cases h⟩,hm,.inl rfl⟩
 ·obtain ⟨g,cap,rfl,_,h1,h2,h3⟩:=f7_ h hne;exact ⟨_,cap,rfl,⟨h1,fun h=>by cases h⟩,h2,.inr ⟨g,0,rfl,h3⟩⟩
theorem aE_.keep {W W':World} {a:Option Addr} {xs:List ByteArray} (h:aE_ W a xs) (hB:Below W.heap.size W W'):aE_ W' a xs:=by
 rcases h with h | ⟨g,o,ha,h⟩
 ·exact .inl h
 ·by_cases hne:0 < xs.length
  ·exact .inr ⟨g,o,ha,h.keep hne hB⟩
  ·exact .inl (List.length_eq_zero_iff.1 (by omega))
theorem aE_.cells {W:World} {a:Option Addr} {xs:List ByteArray} (h:aE_ W a xs) (hne:0 < xs.length):∃ g o,a = some ⟨g,o,none⟩∧g < W.heap.size∧a4_ W g o xs:=by
 rcases h with h | ⟨g,o,ha,h⟩
 ·rw [h] at hne;simp at hne
 ·exact ⟨g,o,ha,h.lt hne,h⟩
def nch (c:UInt8):Bool:=decide (97≤c.toNat∧c.toNat≤122)
def bd_ (l:List UInt8):Bool:=decide (1≤l.length∧l.length≤8) && l.all nch
theorem lP_ {c:UInt8} (h:97≤(c.toNat:Int)∧(c.toNat:Int)≤122):nch c = true:=by unfold nch;rw [decide_eq_true_iff];omega
theorem nS_ {c:UInt8} (h:¬ (97≤(c.toNat:Int)∧(c.toNat:Int)≤122)):nch c = false:=by unfold nch;rw [decide_eq_false_iff_not];omega
theorem in_ (s:ByteArray) (k:Nat) (h:k < s.size) (ha:(s.data.toList.take k).all nch = true) (hc:nch s[k] = true):(s.data.toList.take (k+1)).all nch = true:=by
 rw [iF_ s k h,List.all_append,ha];simp [hc]
theorem jU_ (s:ByteArray) (k:Nat) (h:k < s.size) (hc:nch s[k] = false):s.data.toList.all nch = false:=by
 rw [List.all_eq_false];exact ⟨s[k],by show s.data[k] ∈ _;simp,by simp [hc]⟩
theorem gV_ (s:ByteArray) (k:Nat) (h:¬ k < s.size):(s.data.toList.take k).all nch = s.data.toList.all nch:=by
 rw [List.take_of_length_le (by simp;omega)]
theorem jT_ (s:ByteArray) (w:World) (hs:s.size≤maxLen) :
 Calls Tryz.prog 129 #[.string s] w fun e w'=>e = .returned (.bool (bd_ s.data.toList))∧w' = w:=by
 unfold maxLen at hs;by_cases h1:1≤s.size∧s.size≤8
 ·obtain ⟨h1,h2⟩:=h1;have h1':¬ (s.size:Int) < 1:=by omega
  have h2':¬ (8:Int) < s.size:=by omega
  have HE:Hid (bd_ s.data.toList = s.data.toList.all nch):=by show bd_ s.data.toList = _;simp [bd_,h1,h2]
  go_enter Tryz.func129,Tryz.ntmps129;go_wp2
  go_loop [14] (fun i=>∃ k:Nat,k≤s.size∧i = .int .i64 k∧(s.data.toList.take k).all nch = true) (fun i=>s.size - (intOf i).toNat)
  case atStart=>exact ⟨0,Nat.zero_le _,rfl,rfl⟩
  case round=>
   obtain ⟨k,hk,rfl,ha⟩:=hrel;have HA:Hid ((s.data.toList.take k).all nch = true):=ha;clear ha;by_cases hlt:k < s.size
   ·by_cases q1:97≤(s[k].toNat:Int) <;> by_cases q2:(s[k].toNat:Int)≤122 <;> first | (exfalso;omega) | skip
    all_goals
     go_wp2
     first
      | (go_ret;exact ⟨aq_ (by rw [HE.out,jU_ s k hlt (nS_ (by omega))]),rfl⟩)
      | exact ⟨⟨k+1,by omega,by go_num,in_ s k hlt HA.out (lP_ (by omega))⟩,by simp [intOf];omega⟩
   ·go_wp2
    go_ret
    exact ⟨aq_ (by rw [HE.out,← gV_ s k hlt,HA.out]),rfl⟩
 ·have he:bd_ s.data.toList = false:=by
   unfold bd_;rw [show decide (1≤s.data.toList.length∧s.data.toList.length≤8) = false from by simp;omega];rfl
  rw [he];by_cases h2:s.size < 1
  ·have h2':(s.size:Int) < 1:=by omega
   go_enter Tryz.func129,Tryz.ntmps129;go_wp2
   go_ret
   exact ⟨rfl,rfl⟩
  ·have h2':¬ (s.size:Int) < 1:=by omega
   have h3':(8:Int) < s.size:=by omega
   go_enter Tryz.func129,Tryz.ntmps129;go_wp2
   go_ret
   exact ⟨rfl,rfl⟩
def inR (a b c:Int):Bool:=decide (b≤a∧a≤c)
def ar_ (i:Int) (n:Nat):Bool:=decide (0≤i∧i < n)
theorem aC_ (a b c:Int) (w:World) :
 Calls Tryz.prog 63 #[.int .i64 a,.int .i64 b,.int .i64 c] w fun e w'=>e = .returned (.bool (inR a b c))∧w' = w:=by
 by_cases h1:b≤a <;> by_cases h2:a≤c
 all_goals
  go_enter Tryz.func63,Tryz.ntmps63;go_wp2
  go_ret
  exact ⟨aq_ (by simp [inR] <;> omega),rfl⟩
theorem aQ_ (i:Int) (a:Option Addr) (n c:Nat) (w:World) :
 Calls Tryz.prog 130 #[.int .i64 i,.slice a n c] w fun e w'=>e = .returned (.bool (ar_ i n))∧w' = w:=by
 by_cases h1:0≤i <;> by_cases h2:i < n
 all_goals
  go_enter Tryz.func130,Tryz.ntmps130;go_wp2
  go_ret
  exact ⟨aq_ (by simp [ar_] <;> omega),rfl⟩
theorem dX_ (i:Int) (a:Option Addr) (n c:Nat) (w:World) :
 Calls Tryz.prog 131 #[.int .i64 i,.slice a n c] w fun e w'=>e = .returned (.bool (ar_ i n))∧w' = w:=by
 by_cases h1:0≤i <;> by_cases h2:i < n
 all_goals
  go_enter Tryz.func131,Tryz.ntmps131;go_wp2
  go_ret
  exact ⟨aq_ (by simp [ar_] <;> omega),rfl⟩
theorem dd_ (i:Int) (a:Option Addr) (n c:Nat) (w:World) :
 Calls Tryz.prog 180 #[.int .i64 i,.slice a n c] w fun e w'=>e = .returned (.bool (ar_ i n))∧w' = w:=by
 by_cases h1:0≤i <;> by_cases h2:i < n
 all_goals
  go_enter Tryz.func180,Tryz.ntmps180;go_wp2
  go_ret
  exact ⟨aq_ (by simp [ar_] <;> omega),rfl⟩
theorem gO_ (s:ByteArray) (w:World) (hs:s.size≤maxLen) :
 Calls Tryz.prog 61 #[.string s] w fun e w'=>e = .returned (.bool (bd_ s.data.toList))∧w' = w:=by
 unfold maxLen at hs;go_enter Tryz.func61,Tryz.ntmps61;go_wp2
 go_loop [3] (fun i=>∃ k:Nat,k≤s.size∧i = .int .i64 k∧(s.data.toList.take k).all nch = true) (fun i=>s.size - (intOf i).toNat)
 case atStart=>exact ⟨0,Nat.zero_le _,rfl,rfl⟩
 case round=>
  obtain ⟨k,hk,rfl,ha⟩:=hrel;have HA:Hid ((s.data.toList.take k).all nch = true):=ha;clear ha;by_cases hlt:k < s.size
  ·by_cases q1:97≤(s[k].toNat:Int) <;> by_cases q2:(s[k].toNat:Int)≤122 <;> first | (exfalso;omega) | skip
   all_goals
    go_wp2
    first
     | (go_ret;exact ⟨aq_ (by simp [bd_,jU_ s k hlt (nS_ (by omega))]),rfl⟩)
     | exact ⟨⟨k+1,by omega,by go_num,in_ s k hlt HA.out (lP_ (by omega))⟩,by simp [intOf];omega⟩
  ·go_wp2_with (go_at_call 63;refine (aC_ _ _ _ _).mono ?_;rintro e w' ⟨rfl,rfl⟩)
   go_ret
   have h:=HA.out;rw [gV_ s k hlt] at h;exact ⟨aq_ (by simp only [bd_,h,Bool.and_true];unfold inR;rw [Bool.eq_iff_iff,decide_eq_true_iff,decide_eq_true_iff];simp;omega),rfl⟩
theorem ng_ (nm:ByteArray) (kd:Int) (w:World) :
 Calls Tryz.prog 85 #[.agg #[.string nm,.int .i64 kd]] w fun e w'=>e = .returned (.string nm)∧w' = w.alloc (.cells #[.string nm,.int .i64 kd] 95):=by
 go_enter Tryz.func85,Tryz.ntmps85;go_wp2
 go_ret
 exact ⟨rfl,rfl⟩
theorem nh_ (nm:ByteArray) (l d:Int) (w:World) :
 Calls Tryz.prog 87 #[.agg #[.string nm,.int .i64 l,.int .i64 d]] w fun e w'=>e = .returned (.string nm)∧w' = w.alloc (.cells #[.string nm,.int .i64 l,.int .i64 d] 80):=by
 go_enter Tryz.func87,Tryz.ntmps87;go_wp2
 go_ret
 exact ⟨rfl,rfl⟩
theorem jf_ (xs:List bV_) (a:Option Addr) (n c:Nat) (w:World) (hn:xs.length = n) (h100:n≤100) (hp:bG_ w a xs) :
 Calls Tryz.prog 84 #[.slice a n c,.func (.func 85) #[] #[]] w fun e w'=>∃ v,e = .returned v∧w'.ownsRow w.heap.size 9 1 v n ((xs.map bV_.name).map Value.string)∧Below w.heap.size w w':=by
 obtain ⟨i0,hi,hz0,hz1,hz2⟩:=info_parts Tryz.info9;have HN:Hid (xs.length = n):=hn;have HP:Hid (bG_ w a xs):=hp;clear hn hp;go_enter Tryz.func84,Tryz.ntmps84;go_wp2
 go_loopw [5,10] (fun v i wr=>∃ k:Nat,k≤n∧i = .int .i64 k∧wr.ownsRow w.heap.size 9 1 v k (((xs.take k).map bV_.name).map Value.string)∧Below w.heap.size w wr) (fun _ i _=>n - (intOf i).toNat)
 case atStart=>exact ⟨0,Nat.zero_le _,rfl,World.ownsRow_nil _ _ _ _,Below.refl _ _⟩
 case round=>
  obtain ⟨k,hk,rfl,hown,hB⟩:=hrel;have hBs:=hB.size;by_cases hlt:k < n
  ·obtain ⟨g,o,rfl,hg,hx⟩:∃ g o,a = some ⟨g,o,none⟩∧g < w.heap.size∧∀ i (h:i < xs.length),w.cell? ⟨g,o+i * 2,none⟩ = some (.string xs[i].name)∧w.cell? ⟨g,o+i * 2+1,none⟩ = some (.int .i64 xs[i].kind):=by
    rcases HP.out with h | h
    ·have:=HN.out;rw [h] at this;simp at this;omega
    ·exact h
   have hkl:k < xs.length:=by rw [HN.out];exact hlt
   have c1:=(hB.cell (p:=⟨g,o+k * 2,none⟩) hg).trans (hx k hkl).1;have c2:=(hB.cell (p:=⟨g,o+k * 2+1,none⟩) hg).trans (hx k hkl).2;obtain ⟨x,hxx⟩:∃ x,x = xs[k]:=⟨_,rfl⟩
   rw [← hxx] at c1 c2;have HX:Hid ((xs.take (k+1)).map bV_.name = (xs.take k).map bV_.name ++ [x.name]):=by
    show (xs.take (k+1)).map bV_.name = _;rw [List.take_succ_eq_append_getElem hkl,hxx,List.map_append];rfl
   clear hx hxx;obtain ⟨nm,kd⟩:=x;dsimp only at c1 c2;go_wp2_with (first
    | (go_at_call 85;refine (ng_ _ _ _).mono ?_;rintro e w1 ⟨rfl,rfl⟩)
    | (at_builtin;refine wpList_append_own _ rfl _ _ 36 rfl w.heap.size 9 i0 (.string ⟨#[]⟩) 1 16 Tryz.underlying36 hi hz0 hz1 hz2 rfl (by decide) _ _ _ rfl (((hown.alloc _).alloc _).alloc _) ⟨wr.heap.size+1+1,0,none⟩ 1 1 [.string nm] rfl rfl (by have h:=cell_one_new ((wr.alloc (.cells #[.string nm,.int .i64 kd] 95)).alloc (.cells #[.string nm,.int .i64 kd] 95)) (.string nm) 9;simpa only [World.size_alloc] using h) (by simp [Value.oneCell']) (by unfold maxLen;omega) (by omega) (by simp;omega) ?_;intro v' w2 hown' hgrow _))
   have hB2:Below w.heap.size w w2:=(((hB.alloc hBs _).alloc (by simp;omega) _).alloc (by simp;omega) _).grown hgrow (by simp;omega) (cg_ hown);go_roundw
   case rel=>exact ⟨k+1,by omega,by go_num,by rw [HX.out];simpa using hown',hB2⟩
   case measure=>simp [intOf];omega
  ·go_wp2
   go_ret
   have e:xs.take k = xs:=List.take_of_length_le (by rw [HN.out];omega);have ek:k = n:=by omega
   rw [e,ek] at hown;exact ⟨_,rfl,hown,hB⟩
theorem io_ (xs:List ba_) (a:Option Addr) (n c:Nat) (w:World) (hn:xs.length = n) (h100:n≤100) (hp:a6_ w a xs) :
 Calls Tryz.prog 86 #[.slice a n c,.func (.func 87) #[] #[]] w fun e w'=>∃ v,e = .returned v∧w'.ownsRow w.heap.size 9 1 v n ((xs.map ba_.name).map Value.string)∧Below w.heap.size w w':=by
 obtain ⟨i0,hi,hz0,hz1,hz2⟩:=info_parts Tryz.info9;have HN:Hid (xs.length = n):=hn;have HP:Hid (a6_ w a xs):=hp;clear hn hp;go_enter Tryz.func86,Tryz.ntmps86;go_wp2
 go_loopw [5,10] (fun v i wr=>∃ k:Nat,k≤n∧i = .int .i64 k∧wr.ownsRow w.heap.size 9 1 v k (((xs.take k).map ba_.name).map Value.string)∧Below w.heap.size w wr) (fun _ i _=>n - (intOf i).toNat)
 case atStart=>exact ⟨0,Nat.zero_le _,rfl,World.ownsRow_nil _ _ _ _,Below.refl _ _⟩
 case round=>
  obtain ⟨k,hk,rfl,hown,hB⟩:=hrel;have hBs:=hB.size;by_cases hlt:k < n
  ·obtain ⟨g,o,rfl,hg,hx⟩:∃ g o,a = some ⟨g,o,none⟩∧g < w.heap.size∧∀ i (h:i < xs.length),w.cell? ⟨g,o+i * 3,none⟩ = some (.string xs[i].name)∧w.cell? ⟨g,o+i * 3+1,none⟩ = some (.int .i64 xs[i].limit)∧w.cell? ⟨g,o+i * 3+2,none⟩ = some (.int .i64 xs[i].dead):=by
    rcases HP.out with h | h
    ·have:=HN.out;rw [h] at this;simp at this;omega
    ·exact h
   have hkl:k < xs.length:=by rw [HN.out];exact hlt
   have c1:=(hB.cell (p:=⟨g,o+k * 3,none⟩) hg).trans (hx k hkl).1;have c2:=(hB.cell (p:=⟨g,o+k * 3+1,none⟩) hg).trans (hx k hkl).2.1;have c3:=(hB.cell (p:=⟨g,o+k * 3+2,none⟩) hg).trans (hx k hkl).2.2;obtain ⟨x,hxx⟩:∃ x,x = xs[k]:=⟨_,rfl⟩
   rw [← hxx] at c1 c2 c3;have HX:Hid ((xs.take (k+1)).map ba_.name = (xs.take k).map ba_.name ++ [x.name]):=by
    show (xs.take (k+1)).map ba_.name = _;rw [List.take_succ_eq_append_getElem hkl,hxx,List.map_append];rfl
   clear hx hxx;obtain ⟨nm,kd,kd2⟩:=x;dsimp only at c1 c2 c3;go_wp2_with (first
    | (go_at_call 87;refine (nh_ _ _ _ _).mono ?_;rintro e w1 ⟨rfl,rfl⟩)
    | (at_builtin;refine wpList_append_own _ rfl _ _ 36 rfl w.heap.size 9 i0 (.string ⟨#[]⟩) 1 16 Tryz.underlying36 hi hz0 hz1 hz2 rfl (by decide) _ _ _ rfl (((hown.alloc _).alloc _).alloc _) ⟨wr.heap.size+1+1,0,none⟩ 1 1 [.string nm] rfl rfl (by have h:=cell_one_new ((wr.alloc (.cells #[.string nm,.int .i64 kd,.int .i64 kd2] 80)).alloc (.cells #[.string nm,.int .i64 kd,.int .i64 kd2] 80)) (.string nm) 9;simpa only [World.size_alloc] using h) (by simp [Value.oneCell']) (by unfold maxLen;omega) (by omega) (by simp;omega) ?_;intro v' w2 hown' hgrow _))
   have hB2:Below w.heap.size w w2:=(((hB.alloc hBs _).alloc (by simp;omega) _).alloc (by simp;omega) _).grown hgrow (by simp;omega) (cg_ hown);go_roundw
   case rel=>exact ⟨k+1,by omega,by go_num,by rw [HX.out];simpa using hown',hB2⟩
   case measure=>simp [intOf];omega
  ·go_wp2
   go_ret
   have e:xs.take k = xs:=List.take_of_length_le (by rw [HN.out];omega);have ek:k = n:=by omega
   rw [e,ek] at hown;exact ⟨_,rfl,hown,hB⟩
theorem fj_ (xs:List ByteArray) (a:Option Addr) (n c:Nat) (w:World) (hn:xs.length = n) (h100:n≤100) (hsz:∀ x ∈ xs,x.size≤maxLen) (hp:aE_ w a xs) :
 Calls Tryz.prog 88 #[.slice a n c] w fun e w'=>e = .returned (.bool (xs.all (fun x=>bd_ x.data.toList)))∧w' = w:=by
 have HN:Hid (xs.length = n):=hn;have HP:Hid (aE_ w a xs):=hp;have HS:Hid (∀ x ∈ xs,x.size≤maxLen):=hsz;clear hn hp hsz;go_enter Tryz.func88,Tryz.ntmps88;go_wp2
 go_loop [7] (fun i=>∃ k:Nat,k≤n∧i = .int .i64 k∧(∀ x ∈ xs.take k,bd_ x.data.toList = true)) (fun i=>n - (intOf i).toNat)
 case atStart=>exact ⟨0,Nat.zero_le _,rfl,by simp⟩
 case round=>
  obtain ⟨k,hk,rfl,ha⟩:=hrel;have HA:Hid (∀ x ∈ xs.take k,bd_ x.data.toList = true):=ha;clear ha;by_cases hlt:k < n
  ·have hkl:k < xs.length:=by rw [HN.out];exact hlt
   obtain ⟨g,o,rfl,hg,ht⟩:=HP.out.cells (by omega);have c1:=ht k hkl;obtain ⟨x,hxx⟩:∃ x,x = xs[k]:=⟨_,rfl⟩
   have hxs:x.size≤maxLen:=HS.out x (by rw [hxx];exact List.getElem_mem hkl);rw [← hxx] at c1;have HX:Hid (x = xs[k]):=hxx;clear ht hxx;cases hb:bd_ x.data.toList with
   | true =>
     go_wp2_with (go_at_call 129;refine (jT_ _ _ hxs).mono ?_;rintro e w1 ⟨rfl,rfl⟩)
     go_round
     case rel=>exact ⟨k+1,by omega,by go_num,aA_ (p:=fun x=>bd_ x.data.toList) hkl HA.out (by rw [← HX.out];exact hb)⟩
     case measure=>simp [intOf];omega
   | false =>
     go_wp2_with (go_at_call 129;refine (jT_ _ _ hxs).mono ?_;rintro e w1 ⟨rfl,rfl⟩)
     go_ret
     exact ⟨aq_ (afg_ (p:=fun x=>bd_ x.data.toList) hkl (by rw [← HX.out];exact hb)).symm,rfl⟩
  ·go_wp2_with fail
   go_ret
   exact ⟨aq_ (a0_ (p:=fun x=>bd_ x.data.toList) HN.out hlt HA.out).symm,rfl⟩
end Go.Proofs.YtlbnkpicnokgoaaGreat
namespace Go.Proofs.YtlbnkpicnokgoaaGreat
open Go.RowKit Go.Maps
set_option linter.unusedVariables false
set_option maxRecDepth 100000
set_option maxHeartbeats 2000000
def tx (xs:List ByteArray) (i:Nat):ByteArray:=xs.getD i ⟨#[]⟩
theorem j8_ {xs:List ByteArray} {i:Nat} (h:i < xs.length):tx xs i = xs[i]:=by simp [tx,List.getD,h]
def hN_ (xs:List ByteArray) (k:Nat):Prop:=∀ i j,i < k→j < i→tx xs i≠tx xs j
def dupB (xs:List ByteArray):Bool:=(List.range xs.length).any (fun i=>(List.range i).any (fun j=>decide (tx xs i = tx xs j)))
theorem jJ_ {xs:List ByteArray} {i j:Nat} (hi:i < xs.length) (hj:j < i) (h:tx xs i = tx xs j):dupB xs = true:=by
 unfold dupB;rw [List.any_eq_true];refine ⟨i,by simp [hi],?_⟩;rw [List.any_eq_true];exact ⟨j,by simp [hj],by simp [h]⟩
theorem lq_ {xs:List ByteArray} {k n:Nat} (hn:xs.length = n) (hk:¬ k < n) (h:hN_ xs k):dupB xs = false:=by
 unfold dupB;rw [List.any_eq_false];intro i hi;simp only [List.mem_range] at hi;simp only [Bool.not_eq_true];rw [List.any_eq_false];intro j hj;simp only [List.mem_range] at hj;simp [h i j (by omega) hj]
theorem hN_.succ {xs:List ByteArray} {k:Nat} (h:hN_ xs k) (hk:∀ j,j < k→tx xs k≠tx xs j):hN_ xs (k+1):=by
 intro i j hi hj;by_cases e:i = k
 ·subst e;exact hk j hj
 ·exact h i j (by omega) hj
theorem nP_ {x y:ByteArray} (h:x.data.toList = y.data.toList):x = y:=by
 cases x;cases y;simp at h;simp [h]
theorem oM_ {x y:ByteArray} (h:x≠y):(x.toList == y.toList) = false:=by
 rw [Lib.toList_data,Lib.toList_data];simpa using fun e=>h (nP_ (by simpa using e))
theorem iG_ (xs:List ByteArray) (a:Option Addr) (n c:Nat) (w:World) (hn:xs.length = n) (h100:n≤100) (hp:aE_ w a xs) :
 Calls Tryz.prog 62 #[.slice a n c] w fun e w'=>e = .returned (.bool (dupB xs))∧∃ m,w' = w.drewN m:=by
 have HN:Hid (xs.length = n):=hn;have HP:Hid (aE_ w a xs):=hp;clear hn hp;go_enter Tryz.func62,Tryz.ntmps62;go_wp2
 go_loopw [3,4] (fun i _ wr=>∃ k m:Nat,k≤n∧i = .int .i64 k∧wr = w.drewN m∧hN_ xs k) (fun i _ _=>n - (intOf i).toNat)
 case atStart=>exact ⟨0,0,Nat.zero_le _,rfl,rfl,fun i j hi=>by omega⟩
 case round=>
  obtain ⟨k,m,hk,rfl,hwr,ho⟩:=hrel;have HO:Hid (hN_ xs k):=ho;have HW:Hid (wr = w.drewN m):=hwr;clear ho hwr;by_cases hlt:k < n
  ·have hkl:k < xs.length:=by rw [HN.out];exact hlt
   obtain ⟨g,o,rfl,hg,ht⟩:=HP.out.cells (by omega);have HT:Hid (a4_ w g o xs):=ht;clear ht;have hlt':(k:Int) < n:=by omega
   go_wp2
   go_loopw [4] (fun j wr2=>∃ l m:Nat,l≤k∧j = .int .i64 l∧wr2 = w.drewN m∧∀ j,j < l→tx xs k≠tx xs j) (fun j _=>k - (intOf j).toNat)
   case atStart=>exact ⟨0,m,Nat.zero_le _,rfl,HW.out,fun j hj=>by omega⟩
   case round=>
    obtain ⟨l,m2,hl,rfl,hw2,hd⟩:=hrel;have HD:Hid (∀ j,j < l→tx xs k≠tx xs j):=hd;have HW2:Hid (wr = w.drewN m2):=hw2;clear hd hw2;by_cases hll:l < k
    ·have hl1:l < xs.length:=by omega
     have c1:wr.cell? ⟨g,o+k,none⟩ = some (.string (tx xs k)):=by rw [HW2.out,j8_ hkl];exact HT.out k hkl
     have c2:wr.cell? ⟨g,o+l,none⟩ = some (.string (tx xs l)):=by rw [HW2.out,j8_ hl1];exact HT.out l hl1
     have hll':(l:Int) < k:=by omega
     have hln:(l:Int) < n:=by omega
     by_cases he:tx xs k = tx xs l
     ·have heb:((tx xs k).toList == (tx xs l).toList) = true:=by rw [he];simp
      have HE:Hid (tx xs k = tx xs l):=he;clear he;obtain ⟨x,hx⟩:∃ x,x = tx xs k:=⟨_,rfl⟩
      obtain ⟨y,hy⟩:∃ y,y = tx xs l:=⟨_,rfl⟩
      rw [← hx] at c1 heb;rw [← hy] at c2 heb;clear hx hy;go_wp2
      go_quiet (fail)
      go_wp2
      go_ret
      exact ⟨aq_ (jJ_ hkl hll HE.out).symm,_,by rw [HW2.out,World.drewN_drewN]⟩
     ·have heb:((tx xs k).toList == (tx xs l).toList) = false:=oM_ he;have HE:Hid (tx xs k≠tx xs l):=he;clear he;obtain ⟨x,hx⟩:∃ x,x = tx xs k:=⟨_,rfl⟩
      obtain ⟨y,hy⟩:∃ y,y = tx xs l:=⟨_,rfl⟩
      rw [← hx] at c1 heb;rw [← hy] at c2 heb;clear hx hy;go_wp2
      go_quiet (fail)
      go_wp2
      go_roundw
      case rel=>exact ⟨l+1,_,by omega,by go_num,by rw [HW2.out,World.drewN_drewN],fun j hj=>by
       by_cases hjl:j = l
       ·rw [hjl];exact HE.out
       ·exact HD.out j (by omega)⟩
      case measure=>simp [intOf];omega
    ·have hlk:l = k:=by omega
     have HLK:Hid (l = k):=hlk;clear hlk;go_wp2
     go_roundw
     case rel=>exact ⟨k+1,m2,by omega,by go_num,HW2.out,HO.out.succ (by rw [← HLK.out];rw [HLK.out];intro j hj;exact HD.out j (by have:=HLK.out;omega))⟩
     case measure=>simp [intOf];omega
  ·go_wp2
   go_ret
   exact ⟨aq_ (lq_ HN.out hlt HO.out).symm,m,HW.out⟩
theorem law9:Keyed Tryz.prog 9:=string_keyed Tryz.underlying9
theorem zero74 (w:World):(zeroValue 128).run Tryz.prog w = .ok (.agg #[]) w:=by kernel_rfl
def setT (xs:List ByteArray) (k:Nat):DataW Unit:=setOf (.agg []) ((List.range k).map (fun i=>Lit.string (tx xs i).data.toList))
theorem my_ (xs:List ByteArray):setT xs 0 = .map []:=by simp [setT,setOf]
theorem mx_ (xs:List ByteArray) (k:Nat):setT xs (k+1) = (setT xs k).put (.string (tx xs k).data.toList) (.agg []):=by
 unfold setT;rw [List.range_succ,List.map_append,List.map_cons,List.map_nil,setOf_snoc]
theorem h7_ (xs:List ByteArray) (k:Nat) (x:ByteArray) {j:Nat} (hj:j < k) (h:x = tx xs j):Maps.has (setT xs k) (.string x.data.toList) = true:=by
 unfold setT;rw [has_setOf _ _ _ (by intro y hy;simp at hy;obtain ⟨_,_,rfl⟩:=hy;trivial),List.any_eq_true];exact ⟨_,List.mem_map.2 ⟨j,by simp [hj],rfl⟩,by rw [h];simp [Lit.sameKey]⟩
theorem i4_ (xs:List ByteArray) (k:Nat) (x:ByteArray) (h:∀ j,j < k→x≠tx xs j):Maps.has (setT xs k) (.string x.data.toList) = false:=by
 unfold setT;rw [has_setOf _ _ _ (by intro y hy;simp at hy;obtain ⟨_,_,rfl⟩:=hy;trivial),List.any_eq_false];intro y hy;obtain ⟨j,hj,rfl⟩:=List.mem_map.1 hy;simp only [List.mem_range] at hj;have:=h j hj;simp only [Lit.sameKey,Bool.not_eq_true,beq_eq_false_iff_ne];exact fun e=>this (nP_ e.symm)
theorem fl_ (xs:List ByteArray) (a:Option Addr) (n c:Nat) (w:World) (hn:xs.length = n) (h100:n≤100) (hsz:∀ x ∈ xs,x.size≤maxLen) (hp:aE_ w a xs) :
 Calls Tryz.prog 89 #[.slice a n c] w fun e w'=>e = .returned (.bool (dupB xs))∧Below w.heap.size w w':=by
 have HN:Hid (xs.length = n):=hn;have HP:Hid (aE_ w a xs):=hp;have HS:Hid (∀ x ∈ xs,x.size≤maxLen):=hsz;clear hn hp hsz;have hmm:=@run_makeMap Tryz.prog;go_enter Tryz.func89,Tryz.ntmps89;go_wp2
 go_loopw [11] (fun i wr=>∃ k:Nat,k≤n∧i = .int .i64 k∧wr.ownsMap Tryz.prog 9 unitElem w.heap.size k (setT xs k)∧Below w.heap.size w wr∧w.heap.size+1≤wr.heap.size∧hN_ xs k) (fun i _=>n - (intOf i).toNat)
 case atStart=>exact ⟨0,Nat.zero_le _,rfl,by rw [my_];exact World.ownsMap_made _ _ _ _,(Below.refl _ _).alloc (Nat.le_refl _) _,by simp,fun i j hi=>by omega⟩
 case round=>
  obtain ⟨k,hk,rfl,hown,hB,hws,ho⟩:=hrel;have HO:Hid (hN_ xs k):=ho;have hBs:=hB.size;clear ho;by_cases hlt:k < n
  ·have hkl:k < xs.length:=by rw [HN.out];exact hlt
   obtain ⟨g,o,rfl,hg,ht⟩:=HP.out.cells (by omega);have c1:wr.cell? ⟨g,o+k,none⟩ = some (.string (tx xs k)):=by rw [j8_ hkl];exact (hB.cell (p:=⟨g,o+k,none⟩) hg).trans (ht k hkl)
   have hxs:(tx xs k).size≤maxLen:=HS.out _ (by rw [j8_ hkl];exact List.getElem_mem hkl);clear ht;have HSU:=mx_ xs k;obtain ⟨D',hD'⟩:∃ D',D' = setT xs (k+1):=⟨_,rfl⟩
   rw [← hD'] at HSU;have HD':Hid (D' = setT xs (k+1)):=hD';obtain ⟨D,hD⟩:∃ D,D = setT xs k:=⟨_,rfl⟩
   rw [← hD] at HSU hown;have HD:Hid (D = setT xs k):=hD;clear hD hD';obtain ⟨x,hx⟩:∃ x,x = tx xs k:=⟨_,rfl⟩
   rw [← hx] at c1 hxs HSU;have HX:Hid (x = tx xs k):=hx;have hkey:keyOf Tryz.prog 9 (.string x) = some (.string x.data.toList):=WideMaps.keyOf_string_mk Tryz.underlying9 hxs;have HSU':Hid (D' = D.put (.string x.data.toList) (.agg [])):=HSU;clear HSU hx;by_cases hd:∃ j,j < k∧x = tx xs j
   ·obtain ⟨j,hj,he⟩:=hd;have hh:Maps.has D (.string x.data.toList) = true:=by rw [HD.out];exact h7_ xs k x hj he
    have HE:Hid (x = tx xs j):=he;clear he;go_wp2_with (at_lookup;refine wpList_lookup_own_unit _ rfl _ _ 156 rfl 9 128 law9 Tryz.underlying156 (zero74 _) w.heap.size k D rfl hown _ _ rfl hkey ?_)
    go_ret
    exact ⟨aq_ (jJ_ hkl hj (by rw [← HX.out];exact HE.out)).symm,hB.alloc hBs _⟩
   ·have hne:∀ j,j < k→x≠tx xs j:=fun j hj e=>hd ⟨j,hj,e⟩
    have hh:Maps.has D (.string x.data.toList) = false:=by rw [HD.out];exact i4_ xs k x hne
    have HNE:Hid (∀ j,j < k→x≠tx xs j):=hne;clear hd hne;go_wp2_with (first
     | (at_lookup;refine wpList_lookup_own_unit _ rfl _ _ 156 rfl 9 128 law9 Tryz.underlying156 (zero74 _) w.heap.size k D rfl hown _ _ rfl hkey ?_)
     | (at_mapUpdate;refine wpList_mapUpdate_own _ rfl _ _ _ 156 rfl 9 128 law9 Tryz.underlying156 (unitElem (H:=Unit)) w.heap.size k _ rfl (hown.alloc _) (by unfold maxLen;omega) _ _ _ rfl rfl hkey _ [] unitElem_mk ?_;intro w1 hown1 hgrow1))
    have s1:=hgrow1.size;simp at s1;go_roundw
    case rel=>exact ⟨k+1,by omega,by go_num,by rw [← HD'.out,HSU'.out];exact hown1,(hB.alloc hBs _).grown hgrow1 (by simp;omega) (fun j hj=>by cases hj;exact Nat.le_refl _),by omega,HO.out.succ (by rw [← HX.out];exact HNE.out)⟩
    case measure=>simp [intOf];omega
  ·go_wp2
   go_ret
   exact ⟨aq_ (lq_ HN.out hlt HO.out).symm,hB⟩
end Go.Proofs.YtlbnkpicnokgoaaGreat
namespace Go.Proofs.YtlbnkpicnokgoaaGreat
open Go.RowKit
set_option linter.unusedVariables false
set_option maxRecDepth 100000
set_option maxHeartbeats 8000000
def cl_ (x:bV_):Bool:=inR x.kind 1 3
def qOk (np:Nat) (x:ba_):Bool:=inR x.limit 1 6 && inR x.dead (-1) (np - 1)
def bOk (np nq:Nat) (x:dA_):Bool:=ar_ x.src np && ar_ x.dst (if x.toPost then np else nq)
def a5_:List dA_→Int
 | []=>0
 | b :: r=>if perr b.pat.data.toList = 0 then a5_ r else perr b.pat.data.toList
theorem bG_.cells {W:World} {a:Option Addr} {xs:List bV_} (h:bG_ W a xs) (hne:0 < xs.length):∃ g o,a = some ⟨g,o,none⟩∧g < W.heap.size∧∀ i (h:i < xs.length),W.cell? ⟨g,o+i * 2,none⟩ = some (.string xs[i].name)∧W.cell? ⟨g,o+i * 2+1,none⟩ = some (.int .i64 xs[i].kind):=by
 rcases h with h | h
 ·rw [h] at hne;simp at hne
 ·exact h
theorem a6_.cells {W:World} {a:Option Addr} {xs:List ba_} (h:a6_ W a xs) (hne:0 < xs.length):∃ g o,a = some ⟨g,o,none⟩∧g < W.heap.size∧∀ i (h:i < xs.length),W.cell? ⟨g,o+i * 3,none⟩ = some (.string xs[i].name)∧W.cell? ⟨g,o+i * 3+1,none⟩ = some (.int .i64 xs[i].limit)∧W.cell? ⟨g,o+i * 3+2,none⟩ = some (.int .i64 xs[i].dead):=by
 rcases h with h | h
 ·rw [h] at hne;simp at hne
 ·exact h
theorem bF_.cells {W:World} {a:Option Addr} {xs:List dA_} (h:bF_ W a xs) (hne:0 < xs.length):∃ g o,a = some ⟨g,o,none⟩∧g < W.heap.size∧∀ i (h:i < xs.length),W.cell? ⟨g,o+i * 4,none⟩ = some (.int .i64 xs[i].src)∧W.cell? ⟨g,o+i * 4+1,none⟩ = some (.bool xs[i].toPost)∧W.cell? ⟨g,o+i * 4+2,none⟩ = some (.int .i64 xs[i].dst)∧W.cell? ⟨g,o+i * 4+3,none⟩ = some (.string xs[i].pat):=by
 rcases h with h | h
 ·rw [h] at hne;simp at hne
 ·exact h
theorem fY_ {a b c:Int} (h1:b≤a) (h2:a≤c):inR a b c = true:=by unfold inR;simp;omega
theorem ib_ {a b c:Int} (h:¬ (b≤a∧a≤c)):inR a b c = false:=by unfold inR;simp;omega
theorem aB_ {i:Int} {n:Nat}:ar_ i n = true↔0≤i∧i < n:=by unfold ar_;simp
theorem d6_ {i:Int} {n:Nat}:ar_ i n = false↔¬ (0≤i∧i < n):=by unfold ar_;simp
theorem gy_ (xs:List bV_) (a:Option Addr) (n c:Nat) (w:World) (hn:xs.length = n) (h100:n≤100) (hp:bG_ w a xs) :
 Calls Tryz.prog 90 #[.slice a n c] w fun e w'=>e = .returned (.bool (xs.all cl_))∧Below w.heap.size w w':=by
 have HN:Hid (xs.length = n):=hn;have HP:Hid (bG_ w a xs):=hp;clear hn hp;go_enter Tryz.func90,Tryz.ntmps90;go_wp2
 go_loopw [7] (fun i wr=>∃ k:Nat,k≤n∧i = .int .i64 k∧(∀ x ∈ xs.take k,cl_ x = true)∧Below w.heap.size w wr) (fun i _=>n - (intOf i).toNat)
 case atStart=>exact ⟨0,Nat.zero_le _,rfl,by simp,Below.refl _ _⟩
 case round=>
  obtain ⟨k,hk,rfl,ha,hB⟩:=hrel;have HA:Hid (∀ x ∈ xs.take k,cl_ x = true):=ha;have hBs:=hB.size;clear ha;by_cases hlt:k < n
  ·have hkl:k < xs.length:=by rw [HN.out];exact hlt
   obtain ⟨g,o,rfl,hg,hx⟩:=HP.out.cells (by omega);have c1:=(hB.cell (p:=⟨g,o+k * 2,none⟩) hg).trans (hx k hkl).1;have c2:=(hB.cell (p:=⟨g,o+k * 2+1,none⟩) hg).trans (hx k hkl).2;obtain ⟨x,hxx⟩:∃ x,x = xs[k]:=⟨_,rfl⟩
   rw [← hxx] at c1 c2;clear hx;have HX:Hid (x = xs[k]):=hxx;clear hxx;obtain ⟨nm,kd⟩:=x;dsimp only at c1 c2;by_cases k1:kd = 1∨kd = 2∨kd = 3
   ·have hok:cl_ ⟨nm,kd⟩ = true:=fY_ (by rcases k1 with h | h | h <;> simp [h]) (by rcases k1 with h | h | h <;> simp [h]);have HOK:Hid (cl_ xs[k] = true):=by rw [← HX.out];exact hok
    clear hok;rcases k1 with rfl | rfl | rfl
    all_goals
     go_wp2
     go_roundw
     case rel=>exact ⟨k+1,by omega,by go_num,aA_ hkl HA.out HOK.out,hB.alloc hBs _⟩
     case measure=>simp [intOf];omega
   ·have k1':(kd != 1) = true:=bne_iff_ne.2 (by omega);have k2':(kd != 2) = true:=bne_iff_ne.2 (by omega);have k3':(kd != 3) = true:=bne_iff_ne.2 (by omega);have HOK:Hid (cl_ xs[k] = false):=by rw [← HX.out];exact ib_ (by dsimp only;omega)
    clear k1;go_wp2
    go_ret
    exact ⟨aq_ (afg_ hkl HOK.out).symm,hB.alloc hBs _⟩
  ·go_wp2
   go_ret
   exact ⟨aq_ (a0_ HN.out hlt HA.out).symm,hB⟩
theorem fc_ (xs:List dA_) (a:Option Addr) (n c:Nat) (w:World) (hn:xs.length = n) (h100:n≤100) (hp:bF_ w a xs) :
 Calls Tryz.prog 93 #[.slice a n c] w fun e w'=>e = .returned (.int .i64 (a5_ xs))∧Below w.heap.size w w':=by
 have HN:Hid (xs.length = n):=hn;have HP:Hid (bF_ w a xs):=hp;clear hn hp;go_enter Tryz.func93,Tryz.ntmps93;go_wp2
 go_loopw [8] (fun i wr=>∃ k:Nat,k≤n∧i = .int .i64 k∧a5_ xs = a5_ (xs.drop k)∧Below w.heap.size w wr) (fun i _=>n - (intOf i).toNat)
 case atStart=>exact ⟨0,Nat.zero_le _,rfl,rfl,Below.refl _ _⟩
 case round=>
  obtain ⟨k,hk,rfl,ha,hB⟩:=hrel;have HA:Hid (a5_ xs = a5_ (xs.drop k)):=ha;have hBs:=hB.size;clear ha;by_cases hlt:k < n
  ·have hkl:k < xs.length:=by rw [HN.out];exact hlt
   obtain ⟨g,o,rfl,hg,hx⟩:=HP.out.cells (by omega);have c1:=(hB.cell (p:=⟨g,o+k * 4,none⟩) hg).trans (hx k hkl).1;have c2:=(hB.cell (p:=⟨g,o+k * 4+1,none⟩) hg).trans (hx k hkl).2.1;have c3:=(hB.cell (p:=⟨g,o+k * 4+2,none⟩) hg).trans (hx k hkl).2.2.1;have c4:=(hB.cell (p:=⟨g,o+k * 4+3,none⟩) hg).trans (hx k hkl).2.2.2;obtain ⟨x,hxx⟩:∃ x,x = xs[k]:=⟨_,rfl⟩
   rw [← hxx] at c1 c2 c3 c4;have hd:xs.drop k = x :: xs.drop (k+1):=by rw [hxx];exact List.drop_eq_getElem_cons hkl
   clear hx hxx;obtain ⟨f,tp,t,pt⟩:=x;dsimp only at c1 c2 c3 c4;obtain ⟨d,hd2⟩:∃ d,d = perr pt.data.toList:=⟨_,rfl⟩
   have HD:Hid (d = perr pt.data.toList):=hd2;by_cases h0:d = 0
   ·have HF:Hid (a5_ xs = a5_ (xs.drop (k+1))):=by
     show a5_ xs = _;rw [HA.out,hd,a5_,if_pos (by dsimp only;rw [← hd2];exact h0)]
    clear hd hd2;subst h0;go_wp2_with (go_at_call 132;refine (cV_ _ _).mono ?_;rintro e w1 ⟨rfl,hB1⟩;rw [← HD.out])
    have hB2:Below w.heap.size w w1:=(hB.alloc hBs _).trans (hB1.mono (by simp;omega));go_roundw
    case rel=>exact ⟨k+1,by omega,by go_num,HF.out,hB2⟩
    case measure=>simp [intOf];omega
   ·have h0':(d != 0) = true:=bne_iff_ne.2 h0;have HF:Hid (a5_ xs = d):=by
     show a5_ xs = _;rw [HA.out,hd,a5_,if_neg (by dsimp only;rw [← hd2];exact h0)];exact hd2.symm
    clear hd hd2 h0;go_wp2_with (go_at_call 132;refine (cV_ _ _).mono ?_;rintro e w1 ⟨rfl,hB1⟩;rw [← HD.out])
    go_ret
    exact ⟨au_ HF.out.symm,(hB.alloc hBs _).trans (hB1.mono (by simp;omega))⟩
  ·go_wp2
   go_ret
   have e:xs.drop k = []:=List.drop_eq_nil_of_le (by rw [HN.out];omega);exact ⟨au_ (by rw [HA.out,e];rfl),hB⟩
theorem fe_ (p:ad_) (a1 a2 a3:Option Addr) (n1 c1 n2 c2 n3 c3:Nat) (w:World) (h1:p.posts.length = n1) (h2:p.queues.length = n2) (h100:n2≤100) (hp:a6_ w a2 p.queues) :
 Calls Tryz.prog 91 #[.agg #[.slice a1 n1 c1,.slice a2 n2 c2,.slice a3 n3 c3]] w fun e w'=>e = .returned (.bool (p.queues.all (qOk n1)))∧Below w.heap.size w w':=by
 obtain ⟨posts,xs,binds⟩:=p;dsimp only at h1 h2 hp ⊢;have HN:Hid (xs.length = n2):=h2;have HP:Hid (a6_ w a2 xs):=hp;clear h1 h2 hp;obtain ⟨W1,hW1⟩:∃ W1,W1 = w.alloc (.cells #[.slice a1 n1 c1,.slice a2 n2 c2,.slice a3 n3 c3] 26):=⟨_,rfl⟩
 have b0:W1.cell? ⟨w.heap.size,0,none⟩ = some (.slice a1 n1 c1):=by rw [hW1];simp
 have hW1s:W1.heap.size = w.heap.size+1:=by rw [hW1];simp
 have hBw:Below w.heap.size w W1:=by rw [hW1];exact (Below.refl _ _).alloc (Nat.le_refl _) _
 have HW1:Hid (W1 = w.alloc (.cells #[.slice a1 n1 c1,.slice a2 n2 c2,.slice a3 n3 c3] 26)):=hW1;clear hW1;go_enter Tryz.func91,Tryz.ntmps91;go_wp2
 go_loopw [8] (fun i wr=>∃ k:Nat,k≤n2∧i = .int .i64 k∧(∀ x ∈ xs.take k,qOk n1 x = true)∧Below W1.heap.size W1 wr) (fun i _=>n2 - (intOf i).toNat)
 case atStart=>exact ⟨0,Nat.zero_le _,rfl,by simp,by rw [HW1.out];exact Below.refl _ _⟩
 case round=>
  obtain ⟨k,hk,rfl,ha,hB⟩:=hrel;have HA:Hid (∀ x ∈ xs.take k,qOk n1 x = true):=ha;have hBs:=hB.size;have hBW:Below w.heap.size w wr:=hBw.trans (hB.mono (by omega));have hq:w.heap.size < wr.heap.size:=by omega
  have d0:=(hB.cell (p:=⟨w.heap.size,0,none⟩) (by show w.heap.size < _;omega)).trans b0;clear ha;by_cases hlt:k < n2
  ·have hkl:k < xs.length:=by rw [HN.out];exact hlt
   obtain ⟨g,o,rfl,hg,hx⟩:=HP.out.cells (by omega);have e1:=(hBW.cell (p:=⟨g,o+k * 3,none⟩) hg).trans (hx k hkl).1;have e2:=(hBW.cell (p:=⟨g,o+k * 3+1,none⟩) hg).trans (hx k hkl).2.1;have e3:=(hBW.cell (p:=⟨g,o+k * 3+2,none⟩) hg).trans (hx k hkl).2.2;obtain ⟨x,hxx⟩:∃ x,x = xs[k]:=⟨_,rfl⟩
   rw [← hxx] at e1 e2 e3;clear hx;have HX:Hid (x = xs[k]):=hxx;clear hxx b0;obtain ⟨nm,l,d⟩:=x;dsimp only at e1 e2 e3;have hcase:l < 1∨(1≤l∧6 < l)∨(1≤l∧l≤6∧d = -1)∨(1≤l∧l≤6∧(d != -1) = true∧ar_ d n1 = true)∨(1≤l∧l≤6∧(d != -1) = true∧ar_ d n1 = false):=by
    rcases Bool.eq_false_or_eq_true (ar_ d n1) with h | h <;> by_cases q:d = -1 <;> simp only [bne_iff_ne,h] <;> simp [q] <;> omega
   have hok:qOk n1 ⟨nm,l,d⟩ = (decide (1≤l∧l≤6) && (decide (d = -1) || ar_ d n1)):=by
    unfold qOk inR ar_;dsimp only;rw [Bool.eq_iff_iff];simp;omega
   rw [HX.out] at hok;have HOK:Hid (qOk n1 xs[k] = (decide (1≤l∧l≤6) && (decide (d = -1) || ar_ d n1))):=hok;clear hok;rcases hcase with q1 | ⟨q1,q2⟩ | ⟨q1,q2,rfl⟩ | ⟨q1,q2,q3,q4⟩ | ⟨q1,q2,q3,q4⟩
   ·go_wp2_with (go_at_call 130;refine (aQ_ _ _ _ _ _).mono ?_;rintro e w1 ⟨rfl,rfl⟩)
    go_ret
    exact ⟨aq_ (afg_ hkl (by rw [HOK.out];simp;omega)).symm,hBW.alloc (by omega) _⟩
   ·go_wp2_with (go_at_call 130;refine (aQ_ _ _ _ _ _).mono ?_;rintro e w1 ⟨rfl,rfl⟩)
    go_ret
    exact ⟨aq_ (afg_ hkl (by rw [HOK.out];simp;omega)).symm,hBW.alloc (by omega) _⟩
   ·go_wp2_with (go_at_call 130;refine (aQ_ _ _ _ _ _).mono ?_;rintro e w1 ⟨rfl,rfl⟩)
    go_roundw
    case rel=>exact ⟨k+1,by omega,by go_num,aA_ hkl HA.out (by rw [HOK.out];simp;omega),hB.alloc hBs _⟩
    case measure=>simp [intOf];omega
   ·go_wp2_with (go_at_call 130;refine (aQ_ _ _ _ _ _).mono ?_;rintro e w1 ⟨rfl,rfl⟩)
    go_roundw
    case rel=>exact ⟨k+1,by omega,by go_num,aA_ hkl HA.out (by rw [HOK.out,q4];simp;omega),hB.alloc hBs _⟩
    case measure=>simp [intOf];omega
   ·have q5:d≠-1:=bne_iff_ne.1 q3;go_wp2_with (go_at_call 130;refine (aQ_ _ _ _ _ _).mono ?_;rintro e w1 ⟨rfl,rfl⟩)
    go_ret
    exact ⟨aq_ (afg_ hkl (by rw [HOK.out,q4];simp;omega)).symm,hBW.alloc (by omega) _⟩
  ·go_wp2
   go_ret
   exact ⟨aq_ (a0_ HN.out hlt HA.out).symm,hBW⟩
theorem fx_ (p:ad_) (a1 a2 a3:Option Addr) (n1 c1 n2 c2 n3 c3:Nat) (w:World) (h3:p.binds.length = n3) (h100:n3≤100) (hp:bF_ w a3 p.binds) :
 Calls Tryz.prog 92 #[.agg #[.slice a1 n1 c1,.slice a2 n2 c2,.slice a3 n3 c3]] w fun e w'=>e = .returned (.bool (p.binds.all (bOk n1 n2)))∧Below w.heap.size w w':=by
 obtain ⟨posts,queues,xs⟩:=p;dsimp only at h3 hp ⊢;have HN:Hid (xs.length = n3):=h3;have HP:Hid (bF_ w a3 xs):=hp;clear h3 hp;obtain ⟨W1,hW1⟩:∃ W1,W1 = w.alloc (.cells #[.slice a1 n1 c1,.slice a2 n2 c2,.slice a3 n3 c3] 26):=⟨_,rfl⟩
 have b0:W1.cell? ⟨w.heap.size,0,none⟩ = some (.slice a1 n1 c1):=by rw [hW1];simp
 have b1:W1.cell? ⟨w.heap.size,1,none⟩ = some (.slice a2 n2 c2):=by rw [hW1];simp
 have hW1s:W1.heap.size = w.heap.size+1:=by rw [hW1];simp
 have hBw:Below w.heap.size w W1:=by rw [hW1];exact (Below.refl _ _).alloc (Nat.le_refl _) _
 have HW1:Hid (W1 = w.alloc (.cells #[.slice a1 n1 c1,.slice a2 n2 c2,.slice a3 n3 c3] 26)):=hW1;clear hW1;go_enter Tryz.func92,Tryz.ntmps92;go_wp2
 go_loopw [8] (fun i wr=>∃ k:Nat,k≤n3∧i = .int .i64 k∧(∀ x ∈ xs.take k,bOk n1 n2 x = true)∧Below W1.heap.size W1 wr) (fun i _=>n3 - (intOf i).toNat)
 case atStart=>exact ⟨0,Nat.zero_le _,rfl,by simp,by rw [HW1.out];exact Below.refl _ _⟩
 case round=>
  obtain ⟨k,hk,rfl,ha,hB⟩:=hrel;have HA:Hid (∀ x ∈ xs.take k,bOk n1 n2 x = true):=ha;have hBs:=hB.size;have hBW:Below w.heap.size w wr:=hBw.trans (hB.mono (by omega));have hq:w.heap.size < wr.heap.size:=by omega
  have d0:=(hB.cell (p:=⟨w.heap.size,0,none⟩) (by show w.heap.size < _;omega)).trans b0;have d1:=(hB.cell (p:=⟨w.heap.size,1,none⟩) (by show w.heap.size < _;omega)).trans b1;clear ha;by_cases hlt:k < n3
  ·have hkl:k < xs.length:=by rw [HN.out];exact hlt
   obtain ⟨g,o,rfl,hg,hx⟩:=HP.out.cells (by omega);have e1:=(hBW.cell (p:=⟨g,o+k * 4,none⟩) hg).trans (hx k hkl).1;have e2:=(hBW.cell (p:=⟨g,o+k * 4+1,none⟩) hg).trans (hx k hkl).2.1;have e3:=(hBW.cell (p:=⟨g,o+k * 4+2,none⟩) hg).trans (hx k hkl).2.2.1;have e4:=(hBW.cell (p:=⟨g,o+k * 4+3,none⟩) hg).trans (hx k hkl).2.2.2;obtain ⟨x,hxx⟩:∃ x,x = xs[k]:=⟨_,rfl⟩
   rw [← hxx] at e1 e2 e3 e4;clear hx;have HX:Hid (x = xs[k]):=hxx;clear hxx b0 b1;obtain ⟨f,tp,t,pt⟩:=x;dsimp only at e1 e2 e3 e4;have HOK:Hid (bOk n1 n2 xs[k] = (ar_ f n1 && ar_ t (if tp then n1 else n2))):=by rw [← HX.out];rfl
   obtain ⟨s1,hs1⟩:∃ s,ar_ f n1 = s:=⟨_,rfl⟩
   obtain ⟨s2,hs2⟩:∃ s,ar_ t n1 = s:=⟨_,rfl⟩
   obtain ⟨s3,hs3⟩:∃ s,ar_ t n2 = s:=⟨_,rfl⟩
   cases s1 with
   | false =>
     go_wp2_with (go_at_call 130;refine (aQ_ _ _ _ _ _).mono ?_;rintro e w1 ⟨rfl,rfl⟩)
     go_ret
     exact ⟨aq_ (afg_ hkl (by rw [HOK.out,hs1];rfl)).symm,hBW.alloc (by omega) _⟩
   | true =>
     cases tp with
     | true =>
       cases s2 with
       | true =>
         go_wp2_with (go_at_call 130;refine (aQ_ _ _ _ _ _).mono ?_;rintro e w1 ⟨rfl,rfl⟩)
         go_roundw
         case rel=>exact ⟨k+1,by omega,by go_num,aA_ hkl HA.out (by rw [HOK.out,hs1];simp [hs2]),hB.alloc hBs _⟩
         case measure=>simp [intOf];omega
       | false =>
         go_wp2_with (go_at_call 130;refine (aQ_ _ _ _ _ _).mono ?_;rintro e w1 ⟨rfl,rfl⟩)
         go_ret
         exact ⟨aq_ (afg_ hkl (by rw [HOK.out,hs1];simp [hs2])).symm,hBW.alloc (by omega) _⟩
     | false =>
       cases s3 with
       | true =>
         go_wp2_with (first | (go_at_call 130;refine (aQ_ _ _ _ _ _).mono ?_;rintro e w1 ⟨rfl,rfl⟩) | (go_at_call 131;refine (dX_ _ _ _ _ _).mono ?_;rintro e w1 ⟨rfl,rfl⟩))
         go_roundw
         case rel=>exact ⟨k+1,by omega,by go_num,aA_ hkl HA.out (by rw [HOK.out,hs1];simp [hs3]),hB.alloc hBs _⟩
         case measure=>simp [intOf];omega
       | false =>
         go_wp2_with (first | (go_at_call 130;refine (aQ_ _ _ _ _ _).mono ?_;rintro e w1 ⟨rfl,rfl⟩) | (go_at_call 131;refine (dX_ _ _ _ _ _).mono ?_;rintro e w1 ⟨rfl,rfl⟩))
         go_ret
         exact ⟨aq_ (afg_ hkl (by rw [HOK.out,hs1];simp [hs3])).symm,hBW.alloc (by omega) _⟩
  ·go_wp2
   go_ret
   exact ⟨aq_ (a0_ HN.out hlt HA.out).symm,hBW⟩
def chkP (p:ad_):Int:=
 if 4 < p.posts.length∨4 < p.queues.length∨10 < p.binds.length then 2
 else if ((p.posts.map bV_.name).all (fun x=>bd_ x.data.toList) && (p.queues.map ba_.name).all (fun x=>bd_ x.data.toList)) = false then 4
 else if (dupB (p.posts.map bV_.name) || dupB (p.queues.map ba_.name)) = true then 6
 else if p.posts.all cl_ = false then 7
 else if (p.queues.all (qOk p.posts.length) && p.binds.all (bOk p.posts.length p.queues.length)) = false then 3
 else a5_ p.binds
def Sized (p:ad_):Prop:=(∀ x ∈ p.posts.map bV_.name,x.size≤maxLen)∧(∀ x ∈ p.queues.map ba_.name,x.size≤maxLen)
theorem jF_ {p:ad_} (h:4 < p.posts.length∨4 < p.queues.length∨10 < p.binds.length):chkP p = 2:=by unfold chkP;rw [if_pos h]
theorem fJ_ (w:World) (v1 v2 v3:Value) (t:TypeId):(w.alloc (.cells #[v1,v2,v3] t)).cell? ⟨w.heap.size,0,none⟩ = some v1∧(w.alloc (.cells #[v1,v2,v3] t)).cell? ⟨w.heap.size,1,none⟩ = some v2∧(w.alloc (.cells #[v1,v2,v3] t)).cell? ⟨w.heap.size,2,none⟩ = some v3:=by
 refine ⟨?_,?_,?_⟩ <;> simp
theorem kf_ (p:ad_) (a1 a2 a3:Option Addr) (n1 c1 n2 c2 n3 c3:Nat) (w:World) (h1:p.posts.length = n1) (h2:p.queues.length = n2) (h3:p.binds.length = n3) (h:4 < n1∨4 < n2∨10 < n3) :
 Calls Tryz.prog 48 #[.agg #[.slice a1 n1 c1,.slice a2 n2 c2,.slice a3 n3 c3]] w fun e w'=>e = .returned (.int .i64 (chkP p))∧Below w.heap.size w w':=by
 rw [jF_ (by rw [h1,h2,h3];exact h)];clear h1 h2 h3;have hc:(4:Int) < n1∨(¬ (4:Int) < n1∧(4:Int) < n2)∨(¬ (4:Int) < n1∧¬ (4:Int) < n2∧(10:Int) < n3):=by omega
 clear h;rcases hc with q1 | ⟨q1,q2⟩ | ⟨q1,q2,q3⟩
 all_goals
  go_enter Tryz.func48,Tryz.ntmps48;go_wp2_with fail
  go_ret
  exact ⟨rfl,(Below.refl _ _).alloc (Nat.le_refl _) _⟩
theorem lm_ (p:ad_) (a1 a2 a3:Option Addr) (n1 c1 n2 c2 n3 c3:Nat) (w:World) (h1:p.posts.length = n1) (h2:p.queues.length = n2) (h3:p.binds.length = n3) (h:¬ (4 < n1∨4 < n2∨10 < n3))
 (hs:Sized p) (k1:bG_ w a1 p.posts) (k2:a6_ w a2 p.queues) (k3:bF_ w a3 p.binds) :
 Calls Tryz.prog 48 #[.agg #[.slice a1 n1 c1,.slice a2 n2 c2,.slice a3 n3 c3]] w fun e w'=>e = .returned (.int .i64 (chkP p))∧Below w.heap.size w w':=by
 have hn:¬ (4 < p.posts.length∨4 < p.queues.length∨10 < p.binds.length):=by rw [h1,h2,h3];exact h
 have q1:¬ (4:Int) < n1:=by omega
 have q2:¬ (4:Int) < n2:=by omega
 have q3:¬ (10:Int) < n3:=by omega
 have E:Hid (chkP p = if ((p.posts.map bV_.name).all (fun x=>bd_ x.data.toList) && (p.queues.map ba_.name).all (fun x=>bd_ x.data.toList)) = false then 4
  else if (dupB (p.posts.map bV_.name) || dupB (p.queues.map ba_.name)) = true then 6
  else if p.posts.all cl_ = false then 7
  else if (p.queues.all (qOk p.posts.length) && p.binds.all (bOk p.posts.length p.queues.length)) = false then 3
  else a5_ p.binds):=by show chkP p = _;unfold chkP;rw [if_neg hn]
 have HL:Hid (p.posts.length = n1∧p.queues.length = n2∧p.binds.length = n3):=⟨h1,h2,h3⟩;have HS:Hid (Sized p):=hs;have h4:n1≤4∧n2≤4∧n3≤10:=by omega
 obtain ⟨h41,h42,h43⟩:=h4;obtain ⟨b0,b1,b2⟩:=fJ_ w (.slice a1 n1 c1) (.slice a2 n2 c2) (.slice a3 n3 c3) 26;obtain ⟨W1,hW1⟩:∃ W1,W1 = w.alloc (.cells #[.slice a1 n1 c1,.slice a2 n2 c2,.slice a3 n3 c3] 26):=⟨_,rfl⟩
 rw [← hW1] at b0 b1 b2;have hBw:Below w.heap.size w W1:=by rw [hW1];exact (Below.refl _ _).alloc (Nat.le_refl _) _
 have hW1s:W1.heap.size = w.heap.size+1:=by rw [hW1];simp
 have K1:Hid (bG_ W1 a1 p.posts):=k1.keep hBw;have K2:Hid (a6_ W1 a2 p.queues):=k2.keep hBw;have K3:Hid (bF_ W1 a3 p.binds):=k3.keep hBw;have B0:Hid (W1.cell? ⟨w.heap.size,0,none⟩ = some (.slice a1 n1 c1)∧W1.cell? ⟨w.heap.size,1,none⟩ = some (.slice a2 n2 c2)∧W1.cell? ⟨w.heap.size,2,none⟩ = some (.slice a3 n3 c3)):=⟨b0,b1,b2⟩;have boxed:∀ W,Below W1.heap.size W1 W→W.cell? ⟨w.heap.size,0,none⟩ = some (.slice a1 n1 c1)∧W.cell? ⟨w.heap.size,1,none⟩ = some (.slice a2 n2 c2)∧W.cell? ⟨w.heap.size,2,none⟩ = some (.slice a3 n3 c3):=fun W hW=>
  ⟨(hW.cell (p:=⟨w.heap.size,0,none⟩) (by show w.heap.size < _;omega)).trans b0,(hW.cell (p:=⟨w.heap.size,1,none⟩) (by show w.heap.size < _;omega)).trans b1,(hW.cell (p:=⟨w.heap.size,2,none⟩) (by show w.heap.size < _;omega)).trans b2⟩
 have BX:Hid (∀ W,Below W1.heap.size W1 W→W.cell? ⟨w.heap.size,0,none⟩ = some (.slice a1 n1 c1)∧W.cell? ⟨w.heap.size,1,none⟩ = some (.slice a2 n2 c2)∧W.cell? ⟨w.heap.size,2,none⟩ = some (.slice a3 n3 c3)):=boxed;have HW1s:Hid (W1.heap.size = w.heap.size+1):=hW1s;clear boxed b0 b1 b2 k1 k2 k3 h1 h2 h3 h hn hs hW1s;obtain ⟨ps,hps⟩:∃ ps,ps = p.posts.map bV_.name:=⟨_,rfl⟩
 obtain ⟨qs,hqs⟩:∃ qs,qs = p.queues.map ba_.name:=⟨_,rfl⟩
 have HPS:Hid (ps = p.posts.map bV_.name):=hps;have HQS:Hid (qs = p.queues.map ba_.name):=hqs;have LPS:Hid (ps.length = n1):=by rw [hps,List.length_map];exact HL.out.1
 have LQS:Hid (qs.length = n2):=by rw [hqs,List.length_map];exact HL.out.2.1
 rw [← hps,← hqs] at E;clear hps hqs;go_enter Tryz.func48,Tryz.ntmps48;go_wp2_with fail
 rw [← hW1];clear hW1;refine (jf_ p.posts _ _ _ _ HL.out.1 (by omega) K1.out).mono ?_;rintro e w2 ⟨v,rfl,hown,hB2⟩;rw [← HPS.out] at hown;rw [← LPS.out] at hown;obtain ⟨ap,cp,rfl,⟨hcp,_⟩,hmp,hap⟩:=dZ_ hown;rw [LPS.out];have HAP:Hid (aE_ w2 ap ps):=hap;clear hown hap;have d1:=(BX.out w2 hB2).2.1;go_wp2_with fail
 refine (io_ p.queues _ _ _ _ HL.out.2.1 (by omega) (K2.out.keep hB2)).mono ?_;rintro e w3 ⟨v,rfl,hown,hB3⟩;clear d1;rw [← HQS.out] at hown;rw [← LQS.out] at hown;obtain ⟨aq,cq,rfl,⟨hcq,_⟩,hmq,haq⟩:=dZ_ hown;rw [LQS.out];have HAQ:Hid (aE_ w3 aq qs):=haq;have HAP3:Hid (aE_ w3 ap ps):=HAP.out.keep hB3;have s2:=hB2.size;have s3:=hB3.size;have hB13:Below W1.heap.size W1 w3:=hB2.trans (hB3.mono s2);have hB03:Below w.heap.size w w3:=hBw.trans (hB13.mono hBw.size);have s0:=hBw.size;clear hown haq HAP hB2 hB3;go_wp2_with fail
 refine (fj_ ps _ _ _ _ LPS.out (by omega) (by rw [HPS.out];exact HS.out.1) HAP3.out).mono ?_;rintro e w4 ⟨rfl,rfl⟩;cases e1:ps.all (fun x=>bd_ x.data.toList) with
 | false =>
   go_wp2_with fail
   go_ret
   exact ⟨au_ (by rw [E.out,e1];simp),hB03⟩
 | true =>
   go_wp2_with fail
   refine (fj_ qs _ _ _ _ LQS.out (by omega) (by rw [HQS.out];exact HS.out.2) HAQ.out).mono ?_;rintro e w5 ⟨rfl,rfl⟩;cases e2:qs.all (fun x=>bd_ x.data.toList) with
   | false =>
     go_wp2_with fail
     go_ret
     exact ⟨au_ (by rw [E.out,e1,e2];simp),hB03⟩
   | true =>
     go_wp2_with fail
     refine (fl_ ps _ _ _ _ LPS.out (by omega) (by rw [HPS.out];exact HS.out.1) HAP3.out).mono ?_;rintro e w6 ⟨rfl,hB6⟩;have s6:=hB6.size;cases e3:dupB ps with
     | true =>
       go_wp2_with fail
       go_ret
       exact ⟨au_ (by rw [E.out,e1,e2,e3];simp),hB03.trans (hB6.mono (by omega))⟩
     | false =>
       go_wp2_with fail
       refine (fl_ qs _ _ _ _ LQS.out (by omega) (by rw [HQS.out];exact HS.out.2) (HAQ.out.keep hB6)).mono ?_;rintro e w7 ⟨rfl,hB7⟩;have s7:=hB7.size;have hB17:Below W1.heap.size W1 w7:=hB13.trans ((hB6.mono (by omega)).trans (hB7.mono (by omega)));have hB07:Below w.heap.size w w7:=hBw.trans (hB17.mono hBw.size);cases e4:dupB qs with
       | true =>
         go_wp2_with fail
         go_ret
         exact ⟨au_ (by rw [E.out,e1,e2,e3,e4];simp),hB07⟩
       | false =>
         have d0:=(BX.out w7 hB17).1;go_wp2_with fail
         refine (gy_ p.posts _ _ _ _ HL.out.1 (by omega) (K1.out.keep hB17)).mono ?_;rintro e w8 ⟨rfl,hB8⟩;clear d0;have s8:=hB8.size;have hB18:Below W1.heap.size W1 w8:=hB17.trans (hB8.mono (by omega));have hB08:Below w.heap.size w w8:=hBw.trans (hB18.mono hBw.size);cases e5:p.posts.all cl_ with
         | false =>
           go_wp2_with fail
           go_ret
           exact ⟨au_ (by rw [E.out,e1,e2,e3,e4,e5];simp),hB08⟩
         | true =>
           obtain ⟨d0,d1,d2⟩:=BX.out w8 hB18;go_wp2_with fail
           refine (fe_ p _ _ _ _ _ _ _ _ _ _ HL.out.1 HL.out.2.1 (by omega) (K2.out.keep hB18)).mono ?_;rintro e w9 ⟨rfl,hB9⟩;clear d0 d1 d2;have s9:=hB9.size;have hB19:Below W1.heap.size W1 w9:=hB18.trans (hB9.mono (by omega));have hB09:Below w.heap.size w w9:=hBw.trans (hB19.mono hBw.size);cases e6:p.queues.all (qOk n1) with
           | false =>
             go_wp2_with fail
             go_ret
             exact ⟨au_ (by rw [E.out,e1,e2,e3,e4,e5,HL.out.1,e6];simp),hB09⟩
           | true =>
             obtain ⟨d0,d1,d2⟩:=BX.out w9 hB19;go_wp2_with fail
             refine (fx_ p _ _ _ _ _ _ _ _ _ _ HL.out.2.2 (by omega) (K3.out.keep hB19)).mono ?_;rintro e w10 ⟨rfl,hB10⟩;clear d0 d1 d2;have s10:=hB10.size;have hB110:Below W1.heap.size W1 w10:=hB19.trans (hB10.mono (by omega));have hB010:Below w.heap.size w w10:=hBw.trans (hB110.mono hBw.size);cases e7:p.binds.all (bOk n1 n2) with
             | false =>
               go_wp2_with fail
               go_ret
               exact ⟨au_ (by rw [E.out,e1,e2,e3,e4,e5,HL.out.1,HL.out.2.1,e6,e7];simp),hB010⟩
             | true =>
               obtain ⟨d0,d1,d2⟩:=BX.out w10 hB110;go_wp2_with fail
               refine (fc_ p.binds _ _ _ _ HL.out.2.2 (by omega) (K3.out.keep hB110)).mono ?_;rintro e w11 ⟨rfl,hB11⟩;clear d0 d1 d2;go_wp2_with fail
               go_ret
               exact ⟨au_ (by rw [E.out,e1,e2,e3,e4,e5,HL.out.1,HL.out.2.1,e6,e7];simp),hB010.trans (hB11.mono (by omega))⟩
theorem bW_ (p:ad_) (a1 a2 a3:Option Addr) (n1 c1 n2 c2 n3 c3:Nat) (w:World) (h1:p.posts.length = n1) (h2:p.queues.length = n2) (h3:p.binds.length = n3)
 (hs:Sized p) (k1:bG_ w a1 p.posts) (k2:a6_ w a2 p.queues) (k3:bF_ w a3 p.binds) :
 Calls Tryz.prog 48 #[.agg #[.slice a1 n1 c1,.slice a2 n2 c2,.slice a3 n3 c3]] w fun e w'=>e = .returned (.int .i64 (chkP p))∧Below w.heap.size w w':=by
 by_cases h:4 < n1∨4 < n2∨10 < n3
 ·exact kf_ p a1 a2 a3 n1 c1 n2 c2 n3 c3 w h1 h2 h3 h
 ·exact lm_ p a1 a2 a3 n1 c1 n2 c2 n3 c3 w h1 h2 h3 h hs k1 k2 k3
theorem ko_ (w:World) (row:Option Nat):w.grownBy w row:=⟨rfl,rfl,rfl,Nat.le_refl _,fun _ _ _=>rfl⟩
theorem fm_ {w:World} {ops:Array Oper} {rest:List Oper} {o:Oper} {act:Act} {Q:Exit→Act→World→Prop} (hgd:o.guard = none) (s x:Operand)
 (ho:o.op = .call { callee:=.builtin .append,args:=#[s,x],argTypes:=#[36,36] })
 (base:Nat) (i0:TypeInfo) (hi:Tryz.prog.info? 9 = some i0) (hz0:i0.zero = some (.string ⟨#[]⟩)) (hz1:i0.size = 1) (hz2:i0.bytes = 16)
 (v:Value) (n:Nat) (xs:List Value) (hs:act.eval s = v) (hown:w.ownsRow base 9 1 v n xs)
 (a:Option Addr) (m c:Nat) (ys:List ByteArray) (hx:act.eval x = .slice a m c) (hm:ys.length = m) (hz:a = none→c = 0∧ys = []) (hT:aE_ w a ys)
 (hb:n+m≤1000) (hbase:base≤w.heap.size)
 (h:∀ v' w',w'.ownsRow base 9 1 v' (n+m) (xs ++ ys.map Value.string)→w.grownBy w' v.ownBlock→wpList Tryz.prog ops Q rest (act.put o.dst v') w'):wpList Tryz.prog ops Q (o :: rest) act w:=by
 cases a with
 | none =>
   obtain ⟨rfl,rfl⟩:=hz rfl;simp at hm;subst hm;exact wpList_append_own_none hgd s x _ ho base 9 i0 1 Tryz.underlying36 hi v n xs hs hown hx (by
    have:=h v w (by simpa using hown) (ko_ _ _);exact this)
 | some ad =>
   refine wpList_append_own _ hgd s x _ ho base 9 i0 (.string ⟨#[]⟩) 1 16 Tryz.underlying36 hi hz0 hz1 hz2 rfl (by decide) v n xs hs hown ad m c (ys.map Value.string) hx (by simp [hm]) ?_ (by simp [Value.oneCell']) (by unfold maxLen;omega) (by omega) hbase (fun v' w' h1 h2 _=>h v' w' h1 h2);intro j u hj;rcases hT with rfl | ⟨g,off,hg,hT⟩
   ·simp at hj
   ·cases hg;have hjl:j < ys.length:=by
     rcases Nat.lt_or_ge j ys.length with h | h
     ·exact h
     ·rw [List.getElem?_eq_none (by simpa using h)] at hj;cases hj
    have:=hT j hjl;simp [hjl] at hj;rw [← hj];by_cases hj0:j = 0
    ·subst hj0;simpa [Addr.add] using this
    ·simpa [Addr.add,hj0] using this
theorem jn_ (p:ad_) (a1 a2 a3:Option Addr) (n1 c1 n2 c2 n3 c3:Nat) (w:World) (h1:p.posts.length = n1) (h2:p.queues.length = n2) (h3:p.binds.length = n3) (h:4 < n1∨4 < n2∨10 < n3) :
 Calls Tryz.prog 21 #[.agg #[.slice a1 n1 c1,.slice a2 n2 c2,.slice a3 n3 c3]] w fun e w'=>e = .returned (.int .i64 (chkP p))∧Below w.heap.size w w':=by
 rw [jF_ (by rw [h1,h2,h3];exact h)];clear h1 h2 h3;have hc:(4:Int) < n1∨(¬ (4:Int) < n1∧(4:Int) < n2)∨(¬ (4:Int) < n1∧¬ (4:Int) < n2∧(10:Int) < n3):=by omega
 clear h;rcases hc with q1 | ⟨q1,q2⟩ | ⟨q1,q2,q3⟩
 all_goals
  go_enter Tryz.func21,Tryz.ntmps21;go_wp2_with fail
  go_ret
  exact ⟨rfl,(Below.refl _ _).alloc (Nat.le_refl _) _⟩
theorem kX_ (p:ad_) (a1 a2 a3:Option Addr) (n1 c1 n2 c2 n3 c3:Nat) (w:World) (h1:p.posts.length = n1) (h2:p.queues.length = n2) (h3:p.binds.length = n3) (h:¬ (4 < n1∨4 < n2∨10 < n3))
 (hs:Sized p) (k1:bG_ w a1 p.posts) (k2:a6_ w a2 p.queues) (k3:bF_ w a3 p.binds) :
 Calls Tryz.prog 21 #[.agg #[.slice a1 n1 c1,.slice a2 n2 c2,.slice a3 n3 c3]] w fun e w'=>e = .returned (.int .i64 (chkP p))∧Below w.heap.size w w':=by
 obtain ⟨i0,hi,hz0,hz1,hz2⟩:=info_parts Tryz.info9;have hn:¬ (4 < p.posts.length∨4 < p.queues.length∨10 < p.binds.length):=by rw [h1,h2,h3];exact h
 have q1:¬ (4:Int) < n1:=by omega
 have q2:¬ (4:Int) < n2:=by omega
 have q3:¬ (10:Int) < n3:=by omega
 have E:Hid (chkP p = if ((p.posts.map bV_.name).all (fun x=>bd_ x.data.toList) && (p.queues.map ba_.name).all (fun x=>bd_ x.data.toList)) = false then 4
  else if (dupB (p.posts.map bV_.name) || dupB (p.queues.map ba_.name)) = true then 6
  else if p.posts.all cl_ = false then 7
  else if (p.queues.all (qOk p.posts.length) && p.binds.all (bOk p.posts.length p.queues.length)) = false then 3
  else a5_ p.binds):=by show chkP p = _;unfold chkP;rw [if_neg hn]
 have HL:Hid (p.posts.length = n1∧p.queues.length = n2∧p.binds.length = n3):=⟨h1,h2,h3⟩;have HS:Hid (Sized p):=hs;have h4:n1≤4∧n2≤4∧n3≤10:=by omega
 obtain ⟨h41,h42,h43⟩:=h4;obtain ⟨b0,b1,b2⟩:=fJ_ w (.slice a1 n1 c1) (.slice a2 n2 c2) (.slice a3 n3 c3) 26;obtain ⟨W1,hW1⟩:∃ W1,W1 = w.alloc (.cells #[.slice a1 n1 c1,.slice a2 n2 c2,.slice a3 n3 c3] 26):=⟨_,rfl⟩
 rw [← hW1] at b0 b1 b2;have hBw:Below w.heap.size w W1:=by rw [hW1];exact (Below.refl _ _).alloc (Nat.le_refl _) _
 have hW1s:W1.heap.size = w.heap.size+1:=by rw [hW1];simp
 have hlt1:w.heap.size < W1.heap.size:=by omega
 have K1:Hid (bG_ W1 a1 p.posts):=k1.keep hBw;have K2:Hid (a6_ W1 a2 p.queues):=k2.keep hBw;have K3:Hid (bF_ W1 a3 p.binds):=k3.keep hBw;have BX:Hid (∀ W,Below W1.heap.size W1 W→W.cell? ⟨w.heap.size,0,none⟩ = some (.slice a1 n1 c1)∧W.cell? ⟨w.heap.size,1,none⟩ = some (.slice a2 n2 c2)∧W.cell? ⟨w.heap.size,2,none⟩ = some (.slice a3 n3 c3)):=fun W hW=>
  ⟨(hW.cell (p:=⟨w.heap.size,0,none⟩) hlt1).trans b0,(hW.cell (p:=⟨w.heap.size,1,none⟩) hlt1).trans b1,(hW.cell (p:=⟨w.heap.size,2,none⟩) hlt1).trans b2⟩
 clear b0 b1 b2 k1 k2 k3 h1 h2 h3 h hn hs hW1s;obtain ⟨ps,hps⟩:∃ ps,ps = p.posts.map bV_.name:=⟨_,rfl⟩
 obtain ⟨qs,hqs⟩:∃ qs,qs = p.queues.map ba_.name:=⟨_,rfl⟩
 have HPS:Hid (ps = p.posts.map bV_.name):=hps;have HQS:Hid (qs = p.queues.map ba_.name):=hqs;have LPS:Hid (ps.length = n1):=by rw [hps,List.length_map];exact HL.out.1
 have LQS:Hid (qs.length = n2):=by rw [hqs,List.length_map];exact HL.out.2.1
 rw [← hps,← hqs] at E;clear hps hqs;have HW1:Hid (W1 = w.alloc (.cells #[.slice a1 n1 c1,.slice a2 n2 c2,.slice a3 n3 c3] 26)):=hW1;clear hW1;go_enter Tryz.func21,Tryz.ntmps21;go_wp2_with fail
 go_loopw [3,5] (fun v i wr=>∃ k:Nat,k≤n1∧i = .int .i64 k∧wr.ownsRow W1.heap.size 9 1 v k ((ps.take k).map Value.string)∧Below W1.heap.size W1 wr) (fun _ i _=>n1 - (intOf i).toNat)
 case atStart=>exact ⟨0,Nat.zero_le _,rfl,World.ownsRow_nil _ _ _ _,by rw [HW1.out];exact Below.refl _ _⟩
 case round=>
  obtain ⟨k,hk,rfl,hown,hB⟩:=hrel;have hBs:=hB.size;obtain ⟨d0,d1,d2⟩:=BX.out wr hB;by_cases hlt:k < n1
  ·have hkl:k < p.posts.length:=by rw [HL.out.1];exact hlt
   obtain ⟨g,o,rfl,hg,hx⟩:=K1.out.cells (by omega);have c1:=(hB.cell (p:=⟨g,o+k * 2,none⟩) hg).trans (hx k hkl).1;obtain ⟨nm,hnm⟩:∃ nm,nm = p.posts[k].name:=⟨_,rfl⟩
   rw [← hnm] at c1;have HX:Hid (ps.take (k+1) = ps.take k ++ [nm]):=by
    show ps.take (k+1) = _;rw [List.take_succ_eq_append_getElem (by rw [LPS.out];exact hlt)];simp [HPS.out,hnm]
   clear hx hnm;go_wp2_with (at_builtin;refine wpList_append_own _ rfl _ _ 36 rfl W1.heap.size 9 i0 (.string ⟨#[]⟩) 1 16 Tryz.underlying36 hi hz0 hz1 hz2 rfl (by decide) _ _ _ rfl (hown.alloc _) ⟨wr.heap.size,0,none⟩ 1 1 [.string nm] rfl rfl (cell_one_new _ _ _) (by simp [Value.oneCell']) (by unfold maxLen;omega) (by omega) (by simp;omega) ?_;intro v' w2 hown' hgrow _)
   have hB2:Below W1.heap.size W1 w2:=(hB.alloc hBs _).grown hgrow (by simp;omega) (cg_ hown);go_roundw
   case rel=>exact ⟨k+1,by omega,by go_num,by rw [HX.out];simpa using hown',hB2⟩
   case measure=>simp [intOf];omega
  ·obtain rfl:n1 = k:=by omega
   have hrow:wr.ownsRow W1.heap.size 9 1 u3 ps.length (ps.map Value.string):=by
    have h:=hown;rw [List.take_of_length_le (by rw [LPS.out];exact Nat.le_refl _),← LPS.out] at h;exact h
   have HR:Hid (wr.ownsRow W1.heap.size 9 1 u3 ps.length (ps.map Value.string)):=hrow;clear hown hrow hk hlt;go_wp2_with fail
   obtain ⟨w2,hw2⟩:∃ w2,w2 = wr:=⟨_,rfl⟩
   rw [← hw2] at hB HR d0 d1 d2 hBs ⊢;clear hw2 d0 d1 d2;clear wr;go_loopw [4,6] (fun v i wr=>∃ k:Nat,k≤n2∧i = .int .i64 k∧wr.ownsRow w2.heap.size 9 1 v k ((qs.take k).map Value.string)∧Below w2.heap.size w2 wr) (fun _ i _=>n2 - (intOf i).toNat)
   case atStart=>exact ⟨0,Nat.zero_le _,rfl,World.ownsRow_nil _ _ _ _,Below.refl _ _⟩
   case round=>
    obtain ⟨k,hk,rfl,hown,hB3⟩:=hrel;have hBs3:=hB3.size;have hB13:Below W1.heap.size W1 wr:=hB.trans (hB3.mono hBs);obtain ⟨d0,d1,d2⟩:=BX.out wr hB13;by_cases hlt:k < n2
    ·have hkl:k < p.queues.length:=by rw [HL.out.2.1];exact hlt
     obtain ⟨g,o,rfl,hg,hx⟩:=K2.out.cells (by omega);have c1:=(hB13.cell (p:=⟨g,o+k * 3,none⟩) hg).trans (hx k hkl).1;obtain ⟨nm,hnm⟩:∃ nm,nm = p.queues[k].name:=⟨_,rfl⟩
     rw [← hnm] at c1;have HX:Hid (qs.take (k+1) = qs.take k ++ [nm]):=by
      show qs.take (k+1) = _;rw [List.take_succ_eq_append_getElem (by rw [LQS.out];exact hlt)];simp [HQS.out,hnm]
     clear hx hnm;go_wp2_with (at_builtin;refine wpList_append_own _ rfl _ _ 36 rfl w2.heap.size 9 i0 (.string ⟨#[]⟩) 1 16 Tryz.underlying36 hi hz0 hz1 hz2 rfl (by decide) _ _ _ rfl (hown.alloc _) ⟨wr.heap.size,0,none⟩ 1 1 [.string nm] rfl rfl (cell_one_new _ _ _) (by simp [Value.oneCell']) (by unfold maxLen;omega) (by omega) (by simp;omega) ?_;intro v' w3 hown' hgrow _)
     have hB4:Below w2.heap.size w2 w3:=(hB3.alloc hBs3 _).grown hgrow (by simp;omega) (cg_ hown);go_roundw
     case rel=>exact ⟨k+1,by omega,by go_num,by rw [HX.out];simpa using hown',hB4⟩
     case measure=>simp [intOf];omega
    ·obtain rfl:n2 = k:=by omega
     have hrow:wr.ownsRow w2.heap.size 9 1 u4 qs.length (qs.map Value.string):=by
      have h:=hown;rw [List.take_of_length_le (by rw [LQS.out];exact Nat.le_refl _),← LQS.out] at h;exact h
     obtain ⟨ap,cp,hu3,⟨hcp,hzp⟩,hmp,hap⟩:=dZ_ HR.out;obtain ⟨aq,cq,hu4,⟨hcq,hzq⟩,hmq,haq⟩:=dZ_ hrow;rw [LPS.out] at hu3 hcp;rw [LQS.out] at hu4 hcq;have HZ:Hid ((ap = none→cp = 0∧ps = [])∧(aq = none→cq = 0∧qs = [])):=⟨hzp,hzq⟩;have HAP:Hid (aE_ wr ap ps):=hap.keep hB3;have HAQ:Hid (aE_ wr aq qs):=haq;clear hown hrow hk hlt HR hap haq d0 d2 hzp hzq;subst hu3 hu4;go_wp2_with (first
      | (at_builtin;refine fm_ rfl (.tmp 64) (.tmp 65) rfl wr.heap.size i0 hi hz0 hz1 hz2 _ 0 [] rfl (World.ownsRow_made wr #[] 0 (Nat.le_refl _) (Nat.zero_le _) rfl) ap n1 cp ps rfl LPS.out HZ.out.1 (HAP.out.keep ((Below.refl _ _).alloc (Nat.le_refl _) _)) (by omega) (by simp) ?_;intro v5 w5 hown5 hgrow5;have hB5:Below wr.heap.size wr w5:=((Below.refl _ _).alloc (Nat.le_refl _) _).grown hgrow5 (by simp) (fun k e=>by cases e;exact Nat.le_refl _))
      | (at_builtin;refine fm_ rfl (.tmp 66) (.tmp 67) rfl wr.heap.size i0 hi hz0 hz1 hz2 _ _ _ rfl hown5 aq n2 cq qs rfl LQS.out HZ.out.2 (HAQ.out.keep hB5) (by omega) hB5.size ?_;intro v6 w6 hown6 hgrow6;have hB6:Below wr.heap.size wr w6:=hB5.grown hgrow6 hB5.size (cg_ hown5)))
     have hB1r:Below W1.heap.size W1 wr:=hB13;have hB16:Below W1.heap.size W1 w6:=hB1r.trans (hB6.mono (by omega));have hown7:w6.ownsRow wr.heap.size 9 1 v6 (ps ++ qs).length ((ps ++ qs).map Value.string):=by
      have h:=hown6;simp only [List.nil_append,Nat.zero_add] at h;rw [List.length_append,LPS.out,LQS.out,List.map_append];exact h
     obtain ⟨aa,ca,hv6,_,_,haa⟩:=dZ_ hown7;obtain ⟨nn,hnn⟩:∃ nn,nn = (ps ++ qs).length:=⟨_,rfl⟩
     have hn8:nn≤8:=by rw [hnn,List.length_append,LPS.out,LQS.out];omega
     have HNN:Hid ((ps ++ qs).length = nn):=hnn.symm;have HAA:Hid (aE_ w6 aa (ps ++ qs)):=haa;have HP6:Hid (aE_ w6 ap ps):=HAP.out.keep hB6;have HQ6:Hid (aE_ w6 aq qs):=HAQ.out.keep hB6;have HSZ:Hid (∀ x ∈ ps ++ qs,x.size≤maxLen):=by
      intro x hx;rcases List.mem_append.1 hx with h | h
      ·rw [HPS.out] at h;exact HS.out.1 x h
      ·rw [HQS.out] at h;exact HS.out.2 x h
     have E2:Hid (chkP p = if (ps ++ qs).all (fun x=>bd_ x.data.toList) = false then 4
      else if (dupB ps || dupB qs) = true then 6
      else if p.posts.all cl_ = false then 7
      else if (p.queues.all (qOk p.posts.length) && p.binds.all (bOk p.posts.length p.queues.length)) = false then 3
      else a5_ p.binds):=by show chkP p = _;rw [E.out,List.all_append]
     rw [← hnn] at hv6;subst hv6;clear hnn hown7 haa hown6 hgrow6 hown5 hgrow5 HAP HAQ HZ hB3 hB5 hBs3 d1 E;have s6:=hB16.size;clear hB13 hB1r hB6;go_loop [8] (fun i=>∃ k:Nat,k≤nn∧i = .int .i64 k∧∀ x ∈ (ps ++ qs).take k,bd_ x.data.toList = true) (fun i=>nn - (intOf i).toNat)
     case atStart=>exact ⟨0,Nat.zero_le _,rfl,by simp⟩
     case round=>
      obtain ⟨k,hk,rfl,ha⟩:=hrel;have HA:Hid (∀ x ∈ (ps ++ qs).take k,bd_ x.data.toList = true):=ha;clear ha;have hB06:Below w.heap.size w w6:=hBw.trans (hB16.mono hBw.size);by_cases hlt:k < nn
      ·have hkl:k < (ps ++ qs).length:=by rw [HNN.out];exact hlt
       obtain ⟨g,o,rfl,hg,ht⟩:=HAA.out.cells (by omega);have c1:=ht k hkl;obtain ⟨x,hxx⟩:∃ x,x = (ps ++ qs)[k]:=⟨_,rfl⟩
       have hxs:x.size≤maxLen:=HSZ.out x (by rw [hxx];exact List.getElem_mem hkl);rw [← hxx] at c1;have HX:Hid (x = (ps ++ qs)[k]):=hxx;have HKL:Hid (k < (ps ++ qs).length):=hkl;clear ht hxx;cases hb:bd_ x.data.toList with
       | true =>
         go_wp2_with (go_at_call 61;refine (gO_ _ _ hxs).mono ?_;rintro e w1 ⟨rfl,rfl⟩)
         go_round
         case rel=>exact ⟨k+1,by omega,by go_num,aA_ (p:=fun x=>bd_ x.data.toList) HKL.out HA.out (by rw [← HX.out];exact hb)⟩
         case measure=>simp [intOf];omega
       | false =>
         go_wp2_with (go_at_call 61;refine (gO_ _ _ hxs).mono ?_;rintro e w1 ⟨rfl,rfl⟩)
         go_ret
         exact ⟨au_ (by rw [E2.out,afg_ (p:=fun x=>bd_ x.data.toList) HKL.out (by rw [← HX.out];exact hb)];simp),hB06⟩
      ·have E3:Hid (chkP p = if (dupB ps || dupB qs) = true then 6
        else if p.posts.all cl_ = false then 7
        else if (p.queues.all (qOk p.posts.length) && p.binds.all (bOk p.posts.length p.queues.length)) = false then 3
        else a5_ p.binds):=by
        show chkP p = _;rw [E2.out,a0_ (p:=fun x=>bd_ x.data.toList) HNN.out hlt HA.out];simp
       clear E2 HA HAA;go_wp2_with fail
       refine (iG_ ps _ _ _ _ LPS.out (by omega) HP6.out).mono ?_;rintro e w7 ⟨rfl,m7,rfl⟩;obtain ⟨w7,hw7⟩:∃ w7,w7 = w6.drewN m7:=⟨_,rfl⟩
       have hB67:Below w6.heap.size w6 w7:=by rw [hw7];exact en_ _ _
       rw [← hw7];clear hw7;have HQ7:Hid (aE_ w7 aq qs):=HQ6.out.keep hB67;have s7:=hB67.size;cases e3:dupB ps with
       | true =>
         go_wp2_with fail
         go_ret
         exact ⟨au_ (by rw [E3.out,e3];simp),hB06.trans (hB67.mono (by have:=hB06.size;omega))⟩
       | false =>
         go_wp2_with fail
         refine (iG_ qs _ _ _ _ LQS.out (by omega) HQ7.out).mono ?_;rintro e w8 ⟨rfl,m8,rfl⟩;obtain ⟨w8,hw8⟩:∃ w8,w8 = w7.drewN m8:=⟨_,rfl⟩
         have hB78:Below w7.heap.size w7 w8:=by rw [hw8];exact en_ _ _
         rw [← hw8];clear hw8;have s8:=hB78.size;have hB18:Below W1.heap.size W1 w8:=hB16.trans ((hB67.mono (by omega)).trans (hB78.mono (by omega)));have hB08:Below w.heap.size w w8:=hBw.trans (hB18.mono hBw.size);cases e4:dupB qs with
         | true =>
           go_wp2_with fail
           go_ret
           exact ⟨au_ (by rw [E3.out,e3,e4];simp),hB08⟩
         | false =>
           have E4:Hid (chkP p = if p.posts.all cl_ = false then 7
            else if (p.queues.all (qOk p.posts.length) && p.binds.all (bOk p.posts.length p.queues.length)) = false then 3
            else a5_ p.binds):=by show chkP p = _;rw [E3.out,e3,e4];simp
           clear E3 HQ7 HQ6 HP6 hB67 hB78 hB06 HNN HSZ;go_wp2_with fail
           obtain ⟨d0,d1,d2⟩:=BX.out w8 hB18;go_loop [9] (fun i=>∃ k:Nat,k≤n1∧i = .int .i64 k∧∀ x ∈ p.posts.take k,cl_ x = true) (fun i=>n1 - (intOf i).toNat)
           case atStart=>exact ⟨0,Nat.zero_le _,rfl,by simp⟩
           case round=>
            obtain ⟨k,hk,rfl,ha⟩:=hrel;have HA:Hid (∀ x ∈ p.posts.take k,cl_ x = true):=ha;clear ha;by_cases hlt:k < n1
            ·have hkl:k < p.posts.length:=by rw [HL.out.1];exact hlt
             obtain ⟨g,o,rfl,hg,hx⟩:=K1.out.cells (by omega);have c1:=(hB18.cell (p:=⟨g,o+k * 2+1,none⟩) hg).trans (hx k hkl).2;obtain ⟨kd,hkd⟩:∃ kd,kd = p.posts[k].kind:=⟨_,rfl⟩
             rw [← hkd] at c1;have HK:Hid (cl_ p.posts[k] = inR kd 1 3):=by rw [hkd];rfl
             clear hx hkd;cases hb:inR kd 1 3 with
             | true =>
               go_wp2_with (go_at_call 63;refine (aC_ _ _ _ _).mono ?_;rintro e w1 ⟨rfl,rfl⟩)
               go_round
               case rel=>exact ⟨k+1,by omega,by go_num,aA_ hkl HA.out (by rw [HK.out];exact hb)⟩
               case measure=>simp [intOf];omega
             | false =>
               go_wp2_with (go_at_call 63;refine (aC_ _ _ _ _).mono ?_;rintro e w1 ⟨rfl,rfl⟩)
               go_ret
               exact ⟨au_ (by rw [E4.out,afg_ hkl (by rw [HK.out];exact hb)];simp),hB08⟩
            ·have E5:Hid (chkP p = if (p.queues.all (qOk n1) && p.binds.all (bOk n1 n2)) = false then 3 else a5_ p.binds):=by
              show chkP p = _;rw [E4.out,a0_ HL.out.1 hlt HA.out,HL.out.1,HL.out.2.1];simp
             clear E4 HA;go_wp2_with fail
             go_loop [10] (fun i=>∃ k:Nat,k≤n2∧i = .int .i64 k∧∀ x ∈ p.queues.take k,qOk n1 x = true) (fun i=>n2 - (intOf i).toNat)
             case atStart=>exact ⟨0,Nat.zero_le _,rfl,by simp⟩
             case round=>
              obtain ⟨k,hk,rfl,ha⟩:=hrel;have HA:Hid (∀ x ∈ p.queues.take k,qOk n1 x = true):=ha;clear ha;by_cases hlt:k < n2
              ·have hkl:k < p.queues.length:=by rw [HL.out.2.1];exact hlt
               obtain ⟨g,o,rfl,hg,hx⟩:=K2.out.cells (by omega);have e1:=(hB18.cell (p:=⟨g,o+k * 3+1,none⟩) hg).trans (hx k hkl).2.1;have e2:=(hB18.cell (p:=⟨g,o+k * 3+2,none⟩) hg).trans (hx k hkl).2.2;obtain ⟨lm,hlm⟩:∃ lm,lm = p.queues[k].limit:=⟨_,rfl⟩
               obtain ⟨dd,hdd⟩:∃ dd,dd = p.queues[k].dead:=⟨_,rfl⟩
               rw [← hlm] at e1;rw [← hdd] at e2;have HK:Hid (qOk n1 p.queues[k] = (inR lm 1 6 && inR dd (-1) (n1 - 1))):=by rw [hlm,hdd];rfl
               clear hx hlm hdd;cases hb:inR lm 1 6 with
               | false =>
                 go_wp2_with (go_at_call 63;refine (aC_ _ _ _ _).mono ?_;rintro e w1 ⟨rfl,rfl⟩)
                 go_ret
                 exact ⟨au_ (by rw [E5.out,afg_ hkl (by rw [HK.out,hb];rfl)];simp),hB08⟩
               | true =>
                 cases hb2:inR dd (-1) (n1 - 1) with
                 | false =>
                   go_wp2_with (go_at_call 63;refine (aC_ _ _ _ _).mono ?_;rintro e w1 ⟨rfl,rfl⟩)
                   go_ret
                   exact ⟨au_ (by rw [E5.out,afg_ hkl (by rw [HK.out,hb,hb2];rfl)];simp),hB08⟩
                 | true =>
                   go_wp2_with (go_at_call 63;refine (aC_ _ _ _ _).mono ?_;rintro e w1 ⟨rfl,rfl⟩)
                   go_round
                   case rel=>exact ⟨k+1,by omega,by go_num,aA_ hkl HA.out (by rw [HK.out,hb,hb2];rfl)⟩
                   case measure=>simp [intOf];omega
              ·have E6:Hid (chkP p = if p.binds.all (bOk n1 n2) = false then 3 else a5_ p.binds):=by
                show chkP p = _;rw [E5.out,a0_ HL.out.2.1 hlt HA.out];simp
               clear E5 HA;go_wp2_with fail
               clear d0 d1 d2;go_loopw [11,12,13] (fun i _ _ wr=>∃ k:Nat,k≤n3∧i = .int .i64 k∧(∀ x ∈ p.binds.take k,bOk n1 n2 x = true)∧Below W1.heap.size W1 wr) (fun i _ _ _=>n3 - (intOf i).toNat)
               case atStart=>exact ⟨0,Nat.zero_le _,rfl,by simp,hB18⟩
               case round=>
                clear hB18 hB08;obtain ⟨k,hk,rfl,ha,hB9⟩:=hrel;have HA:Hid (∀ x ∈ p.binds.take k,bOk n1 n2 x = true):=ha;clear ha;have s9:=hB9.size;have hB09:Below w.heap.size w wr:=hBw.trans (hB9.mono hBw.size);obtain ⟨d0,d1,d2⟩:=BX.out wr hB9;by_cases hlt:k < n3
                ·have hkl:k < p.binds.length:=by rw [HL.out.2.2];exact hlt
                 obtain ⟨g,o,rfl,hg,hx⟩:=K3.out.cells (by omega);have e1:=(hB9.cell (p:=⟨g,o+k * 4,none⟩) hg).trans (hx k hkl).1;have e2:=(hB9.cell (p:=⟨g,o+k * 4+1,none⟩) hg).trans (hx k hkl).2.1;have e3':=(hB9.cell (p:=⟨g,o+k * 4+2,none⟩) hg).trans (hx k hkl).2.2.1;have e4':=(hB9.cell (p:=⟨g,o+k * 4+3,none⟩) hg).trans (hx k hkl).2.2.2;obtain ⟨x,hxx⟩:∃ x,x = p.binds[k]:=⟨_,rfl⟩
                 rw [← hxx] at e1 e2 e3' e4';have HX:Hid (x = p.binds[k]):=hxx;clear hx hxx;obtain ⟨f,tp,t,pt⟩:=x;dsimp only at e1 e2 e3' e4';have HK:Hid (bOk n1 n2 p.binds[k] = (inR f 0 (n1 - 1) && inR t 0 ((if tp then n1 else n2:Nat) - 1))):=by
                  rw [← HX.out];show bOk n1 n2 ⟨f,tp,t,pt⟩ = _;unfold bOk ar_ inR;dsimp only;rw [Bool.eq_iff_iff];simp;omega
                 clear HX;cases hb:inR f 0 (n1 - 1) with
                 | false =>
                   cases tp
                   all_goals
                    go_wp2_with (go_at_call 63;refine (aC_ _ _ _ _).mono ?_;rintro e w1 ⟨rfl,rfl⟩)
                    go_ret
                    exact ⟨au_ (by rw [E6.out,afg_ hkl (by rw [HK.out,hb];rfl)];simp),hB09.alloc (by have:=hBw.size;omega) _⟩
                 | true =>
                   cases tp with
                   | false =>
                     cases hb2:inR t 0 (n2 - 1) with
                     | false =>
                       go_wp2_with (go_at_call 63;refine (aC_ _ _ _ _).mono ?_;rintro e w1 ⟨rfl,rfl⟩)
                       go_ret
                       exact ⟨au_ (by rw [E6.out,afg_ hkl (by rw [HK.out,hb];simpa using hb2)];simp),hB09.alloc (by have:=hBw.size;omega) _⟩
                     | true =>
                       go_wp2_with (go_at_call 63;refine (aC_ _ _ _ _).mono ?_;rintro e w1 ⟨rfl,rfl⟩)
                       go_roundw
                       case rel=>exact ⟨k+1,by omega,by go_num,aA_ hkl HA.out (by rw [HK.out,hb];simpa using hb2),hB9.alloc s9 _⟩
                       case measure=>simp [intOf];omega
                   | true =>
                     cases hb2:inR t 0 (n1 - 1) with
                     | false =>
                       go_wp2_with (go_at_call 63;refine (aC_ _ _ _ _).mono ?_;rintro e w1 ⟨rfl,rfl⟩)
                       go_ret
                       exact ⟨au_ (by rw [E6.out,afg_ hkl (by rw [HK.out,hb];simpa using hb2)];simp),hB09.alloc (by have:=hBw.size;omega) _⟩
                     | true =>
                       go_wp2_with (go_at_call 63;refine (aC_ _ _ _ _).mono ?_;rintro e w1 ⟨rfl,rfl⟩)
                       go_roundw
                       case rel=>exact ⟨k+1,by omega,by go_num,aA_ hkl HA.out (by rw [HK.out,hb];simpa using hb2),hB9.alloc s9 _⟩
                       case measure=>simp [intOf];omega
                ·have E7:Hid (chkP p = a5_ p.binds):=by
                  show chkP p = _;rw [E6.out,a0_ HL.out.2.2 hlt HA.out];simp
                 clear E6 HA;go_wp2_with fail
                 clear d0 d1 d2;go_loopw [14,15] (fun i _ wr=>∃ k:Nat,k≤n3∧i = .int .i64 k∧a5_ p.binds = a5_ (p.binds.drop k)∧Below W1.heap.size W1 wr) (fun i _ _=>n3 - (intOf i).toNat)
                 case atStart=>exact ⟨0,Nat.zero_le _,rfl,rfl,hB9⟩
                 case round=>
                  clear hB9 hB09 s9;obtain ⟨k,hk,rfl,ha,hB9⟩:=hrel;have HA:Hid (a5_ p.binds = a5_ (p.binds.drop k)):=ha;clear ha;have s9:=hB9.size;have hB09:Below w.heap.size w wr:=hBw.trans (hB9.mono hBw.size);obtain ⟨d0,d1,d2⟩:=BX.out wr hB9;by_cases hlt:k < n3
                  ·have hkl:k < p.binds.length:=by rw [HL.out.2.2];exact hlt
                   obtain ⟨g,o,rfl,hg,hx⟩:=K3.out.cells (by omega);have e4':=(hB9.cell (p:=⟨g,o+k * 4+3,none⟩) hg).trans (hx k hkl).2.2.2;obtain ⟨pt,hpt⟩:∃ pt,pt = p.binds[k].pat:=⟨_,rfl⟩
                   rw [← hpt] at e4';have hd:p.binds.drop k = p.binds[k] :: p.binds.drop (k+1):=List.drop_eq_getElem_cons hkl;obtain ⟨d,hd2⟩:∃ d,d = perr pt.data.toList:=⟨_,rfl⟩
                   have HD:Hid (d = perr pt.data.toList):=hd2;by_cases h0:d = 0
                   ·have HF:Hid (a5_ p.binds = a5_ (p.binds.drop (k+1))):=by
                     show a5_ p.binds = _;rw [HA.out,hd,a5_,if_pos (by rw [← hpt,← hd2];exact h0)]
                    clear hd hd2 hx hpt;subst h0;go_wp2_with (go_at_call 64;refine (dy_ _ _).mono ?_;rintro e w1 ⟨rfl,hB10⟩;rw [← HD.out])
                    go_roundw
                    case rel=>exact ⟨k+1,by omega,by go_num,HF.out,hB9.trans (hB10.mono s9)⟩
                    case measure=>simp [intOf];omega
                   ·have h0':(d != 0) = true:=bne_iff_ne.2 h0;have HF:Hid (a5_ p.binds = d):=by
                     show a5_ p.binds = _;rw [HA.out,hd,a5_,if_neg (by rw [← hpt,← hd2];exact h0),← hpt];exact hd2.symm
                    clear hd hd2 h0 hx hpt;go_wp2_with (go_at_call 64;refine (dy_ _ _).mono ?_;rintro e w1 ⟨rfl,hB10⟩;rw [← HD.out])
                    go_ret
                    exact ⟨au_ (by rw [E7.out,HF.out]),hB09.trans (hB10.mono (by have:=hB09.size;omega))⟩
                  ·go_wp2_with fail
                   go_ret
                   have e:p.binds.drop k = []:=List.drop_eq_nil_of_le (by rw [HL.out.2.2];omega);exact ⟨au_ (by rw [E7.out,HA.out,e];rfl),hB09⟩
theorem d9_ (p:ad_) (a1 a2 a3:Option Addr) (n1 c1 n2 c2 n3 c3:Nat) (w:World) (h1:p.posts.length = n1) (h2:p.queues.length = n2) (h3:p.binds.length = n3)
 (hs:Sized p) (k1:bG_ w a1 p.posts) (k2:a6_ w a2 p.queues) (k3:bF_ w a3 p.binds) :
 Calls Tryz.prog 21 #[.agg #[.slice a1 n1 c1,.slice a2 n2 c2,.slice a3 n3 c3]] w fun e w'=>e = .returned (.int .i64 (chkP p))∧Below w.heap.size w w':=by
 by_cases h:4 < n1∨4 < n2∨10 < n3
 ·exact jn_ p a1 a2 a3 n1 c1 n2 c2 n3 c3 w h1 h2 h3 h
 ·exact kX_ p a1 a2 a3 n1 c1 n2 c2 n3 c3 w h1 h2 h3 h hs k1 k2 k3
theorem f8_:∀ {xs:List dA_},a5_ xs = 0→∀ b ∈ xs,perr b.pat.data.toList = 0
 | [],_,b,hb=>by simp at hb
 | x :: r, h, b, hb => by
   unfold a5_ at h;by_cases h0:perr x.pat.data.toList = 0
   ·rw [if_pos h0] at h;rcases List.mem_cons.1 hb with rfl | hb
    ·exact h0
    ·exact f8_ h b hb
   ·rw [if_neg h0] at h;exact absurd h h0
structure bx_ (p:ad_):Prop where
 few:p.posts.length≤4∧p.queues.length≤4∧p.binds.length≤10
 kinds:∀ x ∈ p.posts,x.kind = 1∨x.kind = 2∨x.kind = 3
 queues:∀ x ∈ p.queues,1≤x.limit∧x.limit≤6∧-1≤x.dead∧x.dead < p.posts.length
 src:∀ b ∈ p.binds,0≤b.src∧b.src < p.posts.length
 dst:∀ b ∈ p.binds,0≤b.dst∧b.dst < (if b.toPost then p.posts.length else p.queues.length:Nat)
 pat:∀ b ∈ p.binds,perr b.pat.data.toList = 0
theorem bc_ {p:ad_} (h:chkP p = 0):bx_ p:=by
 unfold chkP at h;by_cases q1:4 < p.posts.length∨4 < p.queues.length∨10 < p.binds.length
 ·rw [if_pos q1] at h;cases h
 rw [if_neg q1] at h;by_cases q2:((p.posts.map bV_.name).all (fun x=>bd_ x.data.toList) && (p.queues.map ba_.name).all (fun x=>bd_ x.data.toList)) = false
 ·rw [if_pos q2] at h;cases h
 rw [if_neg q2] at h;by_cases q3:(dupB (p.posts.map bV_.name) || dupB (p.queues.map ba_.name)) = true
 ·rw [if_pos q3] at h;cases h
 rw [if_neg q3] at h;by_cases q4:p.posts.all cl_ = false
 ·rw [if_pos q4] at h;cases h
 rw [if_neg q4] at h;by_cases q5:(p.queues.all (qOk p.posts.length) && p.binds.all (bOk p.posts.length p.queues.length)) = false
 ·rw [if_pos q5] at h;cases h
 rw [if_neg q5] at h;simp only [Bool.not_eq_false,Bool.and_eq_true,List.all_eq_true] at q4 q5;refine ⟨by omega,fun x hx=>?_,fun x hx=>?_,fun b hb=>?_,fun b hb=>?_,f8_ h⟩
 ·have:=q4 x hx;unfold cl_ inR at this;simp at this;omega
 ·have:=q5.1 x hx;unfold qOk inR at this;simp at this;omega
 ·have:=q5.2 b hb;unfold bOk ar_ at this;simp at this;omega
 ·have:=q5.2 b hb;unfold bOk ar_ at this;simp at this;exact this.2
def fitP (p:ad_) (i:Nat) (key:ByteArray):Bool:=
 match p.binds[i]? with
 | none=>false
 | some b => match p.posts[b.src.toNat]? with
   | none=>false
   | some x=>if x.kind = 1 then key.data.toList == b.pat.data.toList else if x.kind = 2 then true else fitL b.pat.data.toList key.data.toList
def fitE (p:ad_) (n:Int) (key:ByteArray):Int:=if chkP p = 0 then (if ar_ n p.binds.length = true then kerr key.data.toList else 5) else chkP p
def fitB (p:ad_) (n:Int) (key:ByteArray):Bool:=if fitE p n key = 0 then fitP p n.toNat key else false
theorem lg_ {p:ad_} (h:bx_ p) {i:Nat} (hi:i < p.binds.length):∃ j:Nat,∃ hj:j < p.posts.length,p.binds[i].src = j ∧
 ((p.posts[j].kind = 1∧∀ key,fitP p i key = (key.data.toList == p.binds[i].pat.data.toList))∨(p.posts[j].kind = 2∧∀ key,fitP p i key = true)∨(p.posts[j].kind = 3∧∀ key,fitP p i key = fitL p.binds[i].pat.data.toList key.data.toList)):=by
 obtain ⟨s1,s2⟩:=h.src _ (List.getElem_mem hi);obtain ⟨j,hj⟩:=Int.eq_ofNat_of_zero_le s1;have hj':j < p.posts.length:=by omega
 refine ⟨j,hj',hj,?_⟩;have e:∀ key,fitP p i key = if p.posts[j].kind = 1 then key.data.toList == p.binds[i].pat.data.toList else if p.posts[j].kind = 2 then true else fitL p.binds[i].pat.data.toList key.data.toList:=by
  intro key;unfold fitP;rw [List.getElem?_eq_getElem hi];simp only;rw [hj,Int.toNat_natCast,List.getElem?_eq_getElem hj']
 rcases h.kinds _ (List.getElem_mem hj') with k | k | k
 ·exact .inl ⟨k,fun key=>by rw [e,if_pos k]⟩
 ·exact .inr (.inl ⟨k,fun key=>by rw [e,if_neg (by omega),if_pos k]⟩)
 ·exact .inr (.inr ⟨k,fun key=>by rw [e,if_neg (by omega),if_neg (by omega)]⟩)
theorem jC_ (a b:List UInt8):(a == b) = decide (a = b):=by by_cases e:a = b <;> simp [e]
theorem i6_ (n:Int) (m:Nat):inR n 0 (m - 1) = ar_ n m:=by unfold inR ar_;rw [Bool.eq_iff_iff];simp;omega
theorem mq_ {a b:Bool} {x y:Int} (h:a = b) (h2:x = y):Ending.returned (.tuple #[.bool a,.int .i64 x]) = .returned (.tuple #[.bool b,.int .i64 y]):=by rw [h,h2]
structure ap_ (W:World) (a1 a2 a3:Option Addr) (n1 n2 n3:Nat) (p:ad_):Prop where
 l1:p.posts.length = n1
 l2:p.queues.length = n2
 l3:p.binds.length = n3
 sz:Sized p
 p1:bG_ W a1 p.posts
 p2:a6_ W a2 p.queues
 p3:bF_ W a3 p.binds
theorem ap_.keep {W W':World} {a1 a2 a3:Option Addr} {n1 n2 n3:Nat} {p:ad_} (h:ap_ W a1 a2 a3 n1 n2 n3 p) (hB:Below W.heap.size W W'):ap_ W' a1 a2 a3 n1 n2 n3 p:=
 ⟨h.l1,h.l2,h.l3,h.sz,h.p1.keep hB,h.p2.keep hB,h.p3.keep hB⟩
theorem cr_ (w:World) (v1 v2 v3:Value) (t:TypeId):∃ W1,W1 = w.alloc (.cells #[v1,v2,v3] t)∧Below w.heap.size w W1∧W1.heap.size = w.heap.size+1 ∧
 ∀ W,Below W1.heap.size W1 W→W.cell? ⟨w.heap.size,0,none⟩ = some v1∧W.cell? ⟨w.heap.size,1,none⟩ = some v2∧W.cell? ⟨w.heap.size,2,none⟩ = some v3:=by
 obtain ⟨b0,b1,b2⟩:=fJ_ w v1 v2 v3 t;have hs:(w.alloc (.cells #[v1,v2,v3] t)).heap.size = w.heap.size+1:=by simp
 exact ⟨_,rfl,(Below.refl _ _).alloc (Nat.le_refl _) _,hs,fun W hW=>⟨(hW.cell (p:=⟨w.heap.size,0,none⟩) (by show w.heap.size < _;omega)).trans b0,(hW.cell (p:=⟨w.heap.size,1,none⟩) (by show w.heap.size < _;omega)).trans b1,(hW.cell (p:=⟨w.heap.size,2,none⟩) (by show w.heap.size < _;omega)).trans b2⟩⟩
theorem m8_ (p:ad_) (a1 a2 a3:Option Addr) (n1 c1 n2 c2 n3 c3:Nat) (n:Int) (key:ByteArray) (w:World) (hp:ap_ w a1 a2 a3 n1 n2 n3 p) :
 Calls Tryz.prog 166 #[.agg #[.slice a1 n1 c1,.slice a2 n2 c2,.slice a3 n3 c3],.int .i64 n,.string key] w fun e w'=>e = .returned (.tuple #[.bool (fitB p n key),.int .i64 (fitE p n key)])∧Below w.heap.size w w':=by
 obtain ⟨W1,hW1,hBw,hs1,hbx⟩:=cr_ w (.slice a1 n1 c1) (.slice a2 n2 c2) (.slice a3 n3 c3) 26;have HP1:Hid (ap_ W1 a1 a2 a3 n1 n2 n3 p):=hp.keep hBw;have HP:Hid (ap_ w a1 a2 a3 n1 n2 n3 p):=hp;have BX:Hid (∀ W,Below W1.heap.size W1 W→W.cell? ⟨w.heap.size,0,none⟩ = some (.slice a1 n1 c1)∧W.cell? ⟨w.heap.size,1,none⟩ = some (.slice a2 n2 c2)∧W.cell? ⟨w.heap.size,2,none⟩ = some (.slice a3 n3 c3)):=hbx;have hlt1:w.heap.size < W1.heap.size:=by omega
 clear hp hbx hs1;obtain ⟨d,hd⟩:∃ d,d = chkP p:=⟨_,rfl⟩
 have HD:Hid (d = chkP p):=hd;by_cases h0:d = 0
 ·have HR:Hid (bx_ p):=bc_ (by rw [← hd];exact h0);have F1:Hid (fitE p n key = if ar_ n n3 = true then kerr key.data.toList else 5):=by
   show fitE p n key = _;unfold fitE;rw [if_pos (by rw [← hd];exact h0),HP.out.l3]
  clear hd;subst h0;cases hnum:ar_ n n3 with
  | false =>
    have F2:Hid (fitE p n key = 5):=by show fitE p n key = 5;rw [F1.out,hnum];simp
    have F3:Hid (fitB p n key = false):=by show fitB p n key = false;unfold fitB;rw [F2.out];simp
    rw [F2.out,F3.out];go_enter Tryz.func166,Tryz.ntmps166;go_wp2_with fail
    rw [← hW1];clear hW1;refine (bW_ p _ _ _ _ _ _ _ _ _ _ HP1.out.l1 HP1.out.l2 HP1.out.l3 HP1.out.sz HP1.out.p1 HP1.out.p2 HP1.out.p3).mono ?_;rintro e w2 ⟨rfl,hB2⟩;rw [← HD.out];obtain ⟨d0,d1,d2⟩:=BX.out w2 hB2;go_wp2_with (go_at_call 180;refine (dd_ _ _ _ _ _).mono ?_;rintro e w3 ⟨rfl,rfl⟩)
    go_ret2
    exact ⟨rfl,hBw.trans (hB2.mono hBw.size)⟩
  | true =>
    have F2:Hid (fitE p n key = kerr key.data.toList):=by show fitE p n key = _;rw [F1.out,hnum];simp
    obtain ⟨i,rfl⟩:=Int.eq_ofNat_of_zero_le (aB_.1 hnum).1;have hi:i < n3:=by have:=(aB_.1 hnum).2;omega
    by_cases hk:kerr key.data.toList = 0
    ·have F3:Hid (fitB p i key = fitP p i key):=by show fitB p i key = _;unfold fitB;rw [F2.out,if_pos hk,Int.toNat_natCast]
     rw [F2.out,F3.out,hk];have hil:i < p.binds.length:=by rw [HP.out.l3];exact hi
     obtain ⟨j,hj,hsrc,hkind⟩:=lg_ HR.out hil;obtain ⟨g3,o3,rfl,hg3,hx3⟩:=HP1.out.p3.cells (by omega);obtain ⟨g1,o1,rfl,hg1,hx1⟩:=HP1.out.p1.cells (by omega);have hpe:=HR.out.pat _ (List.getElem_mem hil);obtain ⟨x,hx⟩:∃ x,x = p.binds[i]:=⟨_,rfl⟩
     obtain ⟨y,hy⟩:∃ y,y = p.posts[j]:=⟨_,rfl⟩
     have e3:=hx3 i hil;have e1:=hx1 j hj;rw [← hx] at hsrc hkind e3 hpe;rw [← hy] at hkind e1;obtain ⟨f,tp,t,pt⟩:=x;obtain ⟨nm,kd⟩:=y;dsimp only at hsrc hkind e3 e1 hpe;subst hsrc;have hjn:j < n1:=by rw [← HP.out.l1];exact hj
     obtain ⟨xs,hxs⟩:∃ xs,xs = wlB key.data.toList:=⟨_,rfl⟩
     have HS:Hid (∀ w,Calls Tryz.prog 164 #[.string key] w fun e w'=>∃ g cap,e = .returned (.tuple #[.slice (some ⟨g,0,none⟩) xs.length cap,.int .i64 0])∧w.heap.size≤g∧xs.length≤cap∧cap≤maxLen∧a4_ w' g 0 xs∧Below w.heap.size w w'):=fun w=>eR_ key xs hxs w hk
     have HM:Hid (∀ w,Calls Tryz.prog 181 #[.string pt,.string key] w fun e w'=>e = .returned (.tuple #[.bool (fitL pt.data.toList key.data.toList),.int .i64 0])∧Below w.heap.size w w'):=fun w=>by
      have h:=lO_ pt key w;rw [show mis pt.data.toList key.data.toList = fitL pt.data.toList key.data.toList from by simp [mis,merr,hpe,hk],show merr pt.data.toList key.data.toList = 0 from by simp [merr,hpe,hk]] at h;exact h
     have HE:Hid ((W1.cell? ⟨g3,o3+i * 4,none⟩ = some (.int .i64 (j:Int))∧W1.cell? ⟨g3,o3+i * 4+1,none⟩ = some (.bool tp)∧W1.cell? ⟨g3,o3+i * 4+2,none⟩ = some (.int .i64 t)∧W1.cell? ⟨g3,o3+i * 4+3,none⟩ = some (.string pt))∧W1.cell? ⟨g1,o1+j * 2+1,none⟩ = some (.int .i64 kd)):=⟨e3,e1.2⟩;have HKD:Hid ((kd = 1∧∀ key,fitP p i key = (key.data.toList == pt.data.toList))∨(kd = 2∧∀ key,fitP p i key = true)∨(kd = 3∧∀ key,fitP p i key = fitL pt.data.toList key.data.toList)):=hkind;have hin:(i:Int) < n3:=by omega
     have hjn':(j:Int) < n1:=by omega
     clear hk hx hy hxs hpe hx3 hx1 e3 e1 hkind F2 F3 F1;go_enter Tryz.func166,Tryz.ntmps166;go_wp2_with fail
     rw [← hW1];clear hW1;refine (bW_ p _ _ _ _ _ _ _ _ _ _ HP1.out.l1 HP1.out.l2 HP1.out.l3 HP1.out.sz HP1.out.p1 HP1.out.p2 HP1.out.p3).mono ?_;rintro e w2 ⟨rfl,hB2⟩;rw [← HD.out];obtain ⟨d0,d1,d2⟩:=BX.out w2 hB2;go_wp2_with (go_at_call 180;refine (dd_ _ _ _ _ _).mono ?_;rintro e w3 ⟨rfl,rfl⟩)
     refine (HS.out _).mono ?_;rintro e w4 ⟨gs,cs,rfl,_,_,_,_,hB4⟩;clear d0 d1 d2;have s2:=hB2.size;have s4:=hB4.size;have hB14:Below W1.heap.size W1 w4:=hB2.trans (hB4.mono s2);obtain ⟨d0,d1,d2⟩:=BX.out w4 hB14;have z1:=(hB14.cell (p:=⟨g3,o3+i * 4,none⟩) hg3).trans HE.out.1.1;have z2:=(hB14.cell (p:=⟨g3,o3+i * 4+1,none⟩) hg3).trans HE.out.1.2.1;have z3:=(hB14.cell (p:=⟨g3,o3+i * 4+2,none⟩) hg3).trans HE.out.1.2.2.1;have z4:=(hB14.cell (p:=⟨g3,o3+i * 4+3,none⟩) hg3).trans HE.out.1.2.2.2;have z5:=(hB14.cell (p:=⟨g1,o1+j * 2+1,none⟩) hg1).trans HE.out.2;have hg1':g1 < w4.heap.size:=by omega
     have hww:w.heap.size < w4.heap.size:=by omega
     have hB04:Below w.heap.size w w4:=hBw.trans (hB14.mono hBw.size);rcases HKD.out with ⟨rfl,hf⟩ | ⟨rfl,hf⟩ | ⟨rfl,hf⟩
     ·have HF:Hid (fitP p i key = (key.data.toList == pt.data.toList)):=hf key;clear hf HKD;go_wp2_with fail
      go_ret2
      exact ⟨mq_ (by rw [HF.out,← Lib.toList_data,← Lib.toList_data]) rfl,hB04.alloc (by omega) _⟩
     ·have HF:Hid (fitP p i key = true):=hf key;clear hf HKD;go_wp2_with fail
      go_ret2
      exact ⟨mq_ HF.out.symm rfl,hB04.alloc (by omega) _⟩
     ·have HF:Hid (fitP p i key = fitL pt.data.toList key.data.toList):=hf key;clear hf HKD;go_wp2_with fail
      refine (HM.out _).mono ?_;rintro e w6 ⟨rfl,hB6⟩;go_wp2_with fail
      go_ret2
      exact ⟨mq_ HF.out.symm rfl,(hB04.alloc (by omega) _).trans (hB6.mono (by simp;omega))⟩
    ·have F3:Hid (fitB p i key = false):=by show fitB p i key = false;unfold fitB;rw [F2.out,if_neg hk]
     rw [F2.out,F3.out];have hk':(kerr key.data.toList != 0) = true:=bne_iff_ne.2 hk;have HSP:=ed_ key;obtain ⟨dk,hdk⟩:∃ dk,dk = kerr key.data.toList:=⟨_,rfl⟩
     have HC:Hid (∀ w,Calls Tryz.prog 164 #[.string key] w fun e w'=>e = .returned (.tuple #[.slice none 0 0,.int .i64 dk])∧Below w.heap.size w w'):=fun w=>by rw [hdk];exact HSP w hk
     rw [← hdk] at hk' ⊢;clear hdk hk HSP F2;go_enter Tryz.func166,Tryz.ntmps166;go_wp2_with fail
     rw [← hW1];clear hW1;refine (bW_ p _ _ _ _ _ _ _ _ _ _ HP1.out.l1 HP1.out.l2 HP1.out.l3 HP1.out.sz HP1.out.p1 HP1.out.p2 HP1.out.p3).mono ?_;rintro e w2 ⟨rfl,hB2⟩;rw [← HD.out];obtain ⟨d0,d1,d2⟩:=BX.out w2 hB2;go_wp2_with (first
      | (go_at_call 180;refine (dd_ _ _ _ _ _).mono ?_;rintro e w3 ⟨rfl,rfl⟩)
      | (go_at_call 164;refine (HC.out _).mono ?_;rintro e w4 ⟨rfl,hB4⟩))
     go_ret2
     have s2:=hB2.size;exact ⟨rfl,hBw.trans ((hB2.mono hBw.size).trans (hB4.mono (by omega)))⟩
 ·have F1:Hid (fitE p n key = d):=by show fitE p n key = d;unfold fitE;rw [if_neg (by rw [← hd];exact h0),hd]
  have F2:Hid (fitB p n key = false):=by show fitB p n key = false;unfold fitB;rw [F1.out,if_neg h0]
  have h0':(d != 0) = true:=bne_iff_ne.2 h0;rw [F1.out,F2.out];clear h0 hd;go_enter Tryz.func166,Tryz.ntmps166;go_wp2_with fail
  rw [← hW1];clear hW1;refine (bW_ p _ _ _ _ _ _ _ _ _ _ HP1.out.l1 HP1.out.l2 HP1.out.l3 HP1.out.sz HP1.out.p1 HP1.out.p2 HP1.out.p3).mono ?_;rintro e w2 ⟨rfl,hB2⟩;rw [← HD.out];go_wp2_with fail
  go_ret2
  exact ⟨rfl,hBw.trans (hB2.mono hBw.size)⟩
theorem iA_ (p:ad_) (a1 a2 a3:Option Addr) (n1 c1 n2 c2 n3 c3:Nat) (i:Nat) (key:ByteArray) (w:World) (hp:ap_ w a1 a2 a3 n1 n2 n3 p) (hr:bx_ p) (hi:i < n3) (hk:key.size≤24) :
 Calls Tryz.prog 156 #[.agg #[.slice a1 n1 c1,.slice a2 n2 c2,.slice a3 n3 c3],.int .i64 i,.string key] w fun e w'=>e = .returned (.bool (fitP p i key))∧Below w.heap.size w w':=by
 have HP1:Hid (ap_ w a1 a2 a3 n1 n2 n3 p):=hp;have hil:i < p.binds.length:=by rw [hp.l3];exact hi
 obtain ⟨j,hj,hsrc,hkind⟩:=lg_ hr hil;obtain ⟨g3,o3,rfl,hg3,hx3⟩:=HP1.out.p3.cells (by omega);obtain ⟨g1,o1,rfl,hg1,hx1⟩:=HP1.out.p1.cells (by omega);have hpe:=hr.pat _ (List.getElem_mem hil);obtain ⟨x,hx⟩:∃ x,x = p.binds[i]:=⟨_,rfl⟩
 obtain ⟨y,hy⟩:∃ y,y = p.posts[j]:=⟨_,rfl⟩
 have e3:=hx3 i hil;have e1:=(hx1 j hj).2;rw [← hx] at hsrc hkind e3 hpe;rw [← hy] at hkind e1;obtain ⟨f,tp,t,pt⟩:=x;obtain ⟨nm,kd⟩:=y;dsimp only at hsrc hkind e3 e1 hpe;subst hsrc;obtain ⟨z1,z2,z3,z4⟩:=e3;have hjn:j < n1:=by rw [← hp.l1];exact hj
 have hpt:pt.size≤24:=by have:=(dk_ hpe).1;simpa using this
 have HKD:Hid ((kd = 1∧∀ key,fitP p i key = (key.data.toList == pt.data.toList))∨(kd = 2∧∀ key,fitP p i key = true)∨(kd = 3∧∀ key,fitP p i key = fitL pt.data.toList key.data.toList)):=hkind;have hin:(i:Int) < n3:=by omega
 have hjn':(j:Int) < n1:=by omega
 clear hp hx hy hpe hx3 hx1 hkind HP1 hr;rcases HKD.out with ⟨rfl,hf⟩ | ⟨rfl,hf⟩ | ⟨rfl,hf⟩
 ·have HF:Hid (fitP p i key = (key.data.toList == pt.data.toList)):=hf key;clear hf HKD;go_enter Tryz.func156,Tryz.ntmps156;go_wp2_with fail
  go_ret
  exact ⟨aq_ (by rw [HF.out,Lib.toList_data,Lib.toList_data,jC_,jC_];simp [eq_comm]),(by repeat (first | exact Below.refl _ _ | assumption | refine Below.drew ?_ | refine Below.alloc ?_ (by first | (simp;done) | (simp;omega) | omega) _ | refine Below.setCell ?_ (by first | (simp;done) | (simp;omega) | omega) _))⟩
 ·have HF:Hid (fitP p i key = true):=hf key;clear hf HKD;go_enter Tryz.func156,Tryz.ntmps156;go_wp2_with fail
  go_ret
  exact ⟨aq_ HF.out.symm,(by repeat (first | exact Below.refl _ _ | assumption | refine Below.drew ?_ | refine Below.alloc ?_ (by first | (simp;done) | (simp;omega) | omega) _ | refine Below.setCell ?_ (by first | (simp;done) | (simp;omega) | omega) _))⟩
 ·have HF:Hid (fitP p i key = fitL pt.data.toList key.data.toList):=hf key;clear hf HKD;go_enter Tryz.func156,Tryz.ntmps156;go_wp2_with fail
  refine (n4_ _ _ _ hpt hk).mono ?_;rintro e w6 ⟨rfl,hB6⟩;go_wp2_with fail
  go_ret
  exact ⟨aq_ HF.out.symm,Below.trans (b:=(w.alloc (.cells #[.slice (some ⟨g1,o1,none⟩) n1 c1,.slice a2 n2 c2,.slice (some ⟨g3,o3,none⟩) n3 c3] 26)).alloc (.cells #[.int .i64 j,.bool tp,.int .i64 t,.string pt] 100)) (by repeat (first | exact Below.refl _ _ | assumption | refine Below.drew ?_ | refine Below.alloc ?_ (by first | (simp;done) | (simp;omega) | omega) _ | refine Below.setCell ?_ (by first | (simp;done) | (simp;omega) | omega) _)) (hB6.mono (by simp;omega))⟩
end Go.Proofs.YtlbnkpicnokgoaaGreat
