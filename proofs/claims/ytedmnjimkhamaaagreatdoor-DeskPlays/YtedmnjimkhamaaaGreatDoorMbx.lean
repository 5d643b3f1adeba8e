import Derived.Test.YtedmnjimkhamaaaGreatDoorMax
import Derived.Laws.AppendOwnNone
namespace Go.Proofs.YtedmnjimkhamaaaGreatDoor
set_option linter.unusedVariables false
set_option maxRecDepth 100000
set_option maxHeartbeats 8000000
open Go.RowKit
structure nL where
 name:ByteArray
 kind:Int
structure kL where
 name:ByteArray
 yD:Int
 dead:Int
structure qS where
 src:Int
 xF:Bool
 dst:Int
 pat:ByteArray
structure lD where
 nC:List nL
 jB:List kL
 qC:List qS
def lR(W:World)(a:Option Addr)(xs:List nL):Prop:=xs=[]\/∃g o,a=some ⟨g,o,none⟩/\g<W.heap.size/\∀i(h:i<xs.length),W.cell? ⟨g,o+i*2,none⟩=some (.string xs[i].name)/\W.cell? ⟨g,o+i*2+1,none⟩=some (.int .i64 xs[i].kind)
def kR(W:World)(a:Option Addr)(xs:List kL):Prop:=xs=[]\/∃g o,a=some ⟨g,o,none⟩/\g<W.heap.size/\∀i(h:i<xs.length),W.cell? ⟨g,o+i*3,none⟩=some (.string xs[i].name)/\W.cell? ⟨g,o+i*3+1,none⟩=some (.int .i64 xs[i].yD)/\W.cell? ⟨g,o+i*3+2,none⟩=some (.int .i64 xs[i].dead)
def wS(W:World)(a:Option Addr)(xs:List qS):Prop:=xs=[]\/∃g o,a=some ⟨g,o,none⟩/\g<W.heap.size/\∀i(h:i<xs.length),W.cell? ⟨g,o+i*4,none⟩=some (.int .i64 xs[i].src)/\W.cell? ⟨g,o+i*4+1,none⟩=some (.bool xs[i].xF)/\W.cell? ⟨g,o+i*4+2,none⟩=some (.int .i64 xs[i].dst)/\W.cell? ⟨g,o+i*4+3,none⟩=some (.string xs[i].pat)
theorem lR.sA{W W':World}{a:Option Addr}{xs:List nL}(h:lR W a xs)(hB:Below W.heap.size W W'):lR W' a xs:=by
 rcases h with h|⟨g,o,ha,hg,h⟩;·exact .inl h
 ·exact .inr ⟨g,o,ha,uC hg hB.size,λi hi=>⟨(hB.cell (p:=⟨g,_,none⟩) hg).trans (h i hi).1,(hB.cell (p:=⟨g,_,none⟩) hg).trans (h i hi).2⟩⟩
theorem kR.sA{W W':World}{a:Option Addr}{xs:List kL}(h:kR W a xs)(hB:Below W.heap.size W W'):kR W' a xs:=by
 rcases h with h|⟨g,o,ha,hg,h⟩;·exact .inl h
 ·exact .inr ⟨g,o,ha,uC hg hB.size,λi hi=>⟨(hB.cell (p:=⟨g,_,none⟩) hg).trans (h i hi).1,(hB.cell (p:=⟨g,_,none⟩) hg).trans (h i hi).2.1,(hB.cell (p:=⟨g,_,none⟩) hg).trans (h i hi).2.2⟩⟩
theorem wS.sA{W W':World}{a:Option Addr}{xs:List qS}(h:wS W a xs)(hB:Below W.heap.size W W'):wS W' a xs:=by
 rcases h with h|⟨g,o,ha,hg,h⟩;·exact .inl h
 ·exact .inr ⟨g,o,ha,uC hg hB.size,λi hi=>⟨(hB.cell (p:=⟨g,_,none⟩) hg).trans (h i hi).1,(hB.cell (p:=⟨g,_,none⟩) hg).trans (h i hi).2.1,(hB.cell (p:=⟨g,_,none⟩) hg).trans (h i hi).2.2.1,(hB.cell (p:=⟨g,_,none⟩) hg).trans (h i hi).2.2.2⟩⟩
theorem cU{α:Type}{p:α->Bool}{xs:List α}{k:Nat}(hk:k<xs.length)(h:∀x∈xs.take k,p x=true)(hx:p xs[k]=true):∀x∈xs.take (k+1),p x=true:=by
 rw[rA hk];intro x hx';rcases oC.1 hx' with h1|h1;·exact h x h1
 ·rw[tC.1 h1];exact hx
theorem nV{α:Type}{p:α->Bool}{xs:List α}{k n:Nat}(hn:xs.length=n)(hk:¬k<n)(h:∀x∈xs.take k,p x=true):xs.all p=true:=by
 rw[iB (by omega)]at h;rw[qD];exact h
theorem mL{α:Type}{p:α->Bool}{xs:List α}{k:Nat}(hk:k<xs.length)(hx:p xs[k]=false):xs.all p=false:=by
 rw[vG];exact⟨xs[k],qB hk,by simp[hx]⟩
theorem CV{W:World}{base:Nat}{v:Value}{xs:List ByteArray}(h:W.ownsRow base 9 1 v xs.length (xs.map Value.string)):
 ∃a c,v=.slice a xs.length c/\(xs.length<=c/\(a=none->c=0/\xs=[]))/\c<=maxLen/\fM W a xs:=by
 by_cases hne:xs=[]
 ·subst hne;rcases h.2 with⟨rfl,_⟩|⟨g,cap,cur,rfl,_,_,hn,hm,_⟩;·exact⟨none,0,rfl,⟨eA _,λ_=>⟨rfl,rfl⟩⟩,zA _,.inl rfl⟩
  ·exact⟨_,cap,rfl,⟨hn,λh=>by cases h⟩,hm,.inl rfl⟩
 ·obtain⟨g,cap,rfl,_,h1,h2,h3⟩:=JV h hne;exact⟨_,cap,rfl,⟨h1,λh=>by cases h⟩,h2,.inr ⟨g,0,rfl,h3⟩⟩
theorem fM.sA{W W':World}{a:Option Addr}{xs:List ByteArray}(h:fM W a xs)(hB:Below W.heap.size W W'):fM W' a xs:=by
 rcases h with h|⟨g,o,ha,h⟩;·exact .inl h
 ·by_cases hne:0<xs.length;·exact .inr ⟨g,o,ha,h.sA hne hB⟩
  ·exact .inl (kC.1 (by omega))
theorem fM.cells{W:World}{a:Option Addr}{xs:List ByteArray}(h:fM W a xs)(hne:0<xs.length):∃g o,a=some ⟨g,o,none⟩/\g<W.heap.size/\qM W g o xs:=by
 rcases h with h|⟨g,o,ha,h⟩;·rw[h]at hne;simp at hne
 ·exact⟨g,o,ha,h.lt hne,h⟩
def xT(c:UInt8):Bool:=decide (97<=c.toNat/\c.toNat<=122)
def jN(l:List UInt8):Bool:=decide (1<=l.length/\l.length<=8)&&l.all xT
theorem UU{c:UInt8}(h:97<=(c.toNat:Int)/\(c.toNat:Int)<=122):xT c=true:=by unfold xT;rw[xN];omega
theorem VJ{c:UInt8}(h:¬(97<=(c.toNat:Int)/\(c.toNat:Int)<=122)):xT c=false:=by unfold xT;rw[pH];omega
theorem RS(s:ByteArray)(k:Nat)(h:k<s.size)(ha:(s.data.toList.take k).all xT=true)(hc:xT s[k]=true):(s.data.toList.take (k+1)).all xT=true:=by
 rw[FN s k h,fJ,ha];simp[hc]
theorem TS(s:ByteArray)(k:Nat)(h:k<s.size)(hc:xT s[k]=false):s.data.toList.all xT=false:=by
 rw[vG];exact⟨s[k],by show s.data[k]∈_;simp,by simp[hc]⟩
theorem OP(s:ByteArray)(k:Nat)(h:¬k<s.size):(s.data.toList.take k).all xT=s.data.toList.all xT:=by
 rw[iB (by simp;omega)]
theorem TQ(s:ByteArray)(w:World)(hs:s.size<=maxLen):
 Calls Tryz.prog 54 #[.string s] w λe w'=>e=.returned (.bool (jN s.data.toList))/\w'=w:=by
 unfold maxLen at hs;by_cases h1:1<=s.size/\s.size<=8
 ·obtain⟨h1,h2⟩:=h1;have h1':¬(s.size:Int)<1:=by omega
  have h2':¬(8:Int)<s.size:=by omega
  have HE:Hid (jN s.data.toList=s.data.toList.all xT):=by show jN s.data.toList=_;simp[jN,h1,h2]
  go_enter Tryz.func54,Tryz.ntmps54;go_wp2;go_loop[14](λi=>∃k:Nat,k<=s.size/\i=.int .i64 k/\(s.data.toList.take k).all xT=true)(λi=>s.size-(intOf i).toNat);case atStart=>exact⟨0,zA _,rfl,rfl⟩
  case round=>
   obtain⟨k,hk,rfl,ha⟩:=hrel;have HA:Hid ((s.data.toList.take k).all xT=true):=ha;clear ha;by_cases hlt:k<s.size
   ·by_cases q1:97<=(s[k].toNat:Int)<;>by_cases q2:(s[k].toNat:Int)<=122<;>first|(exfalso;omega)|skip
    all_goals
     go_wp2;first
      |(go_ret;exact⟨eL (by rw[HE.out,TS s k hlt (VJ (by omega))]),rfl⟩)
      |exact⟨⟨k+1,by omega,by go_num,RS s k hlt HA.out (UU (by omega))⟩,by simp[intOf];omega⟩
   ·go_wp2;go_ret;exact⟨eL (by rw[HE.out,<-OP s k hlt,HA.out]),rfl⟩
 ·have he:jN s.data.toList=false:=by
   unfold jN;rw[show decide (1<=s.data.toList.length/\s.data.toList.length<=8)=false from by simp;omega];rfl
  rw[he];by_cases h2:s.size<1
  ·have h2':(s.size:Int)<1:=by omega
   go_enter Tryz.func54,Tryz.ntmps54;go_wp2;go_ret;exact⟨rfl,rfl⟩
  ·have h2':¬(s.size:Int)<1:=by omega
   have h3':(8:Int)<s.size:=by omega
   go_enter Tryz.func54,Tryz.ntmps54;go_wp2;go_ret;exact⟨rfl,rfl⟩
def pJ(a b c:Int):Bool:=decide (b<=a/\a<=c)
def tG(i:Int)(n:Nat):Bool:=decide (0<=i/\i<n)
theorem wP(a b c:Int)(w:World):
 Calls Tryz.prog 40 #[.int .i64 a,.int .i64 b,.int .i64 c] w λe w'=>e=.returned (.bool (pJ a b c))/\w'=w:=by
 by_cases h1:b<=a<;>by_cases h2:a<=c;all_goals
  go_enter Tryz.func40,Tryz.ntmps40;go_wp2;go_ret;exact⟨eL (by simp[pJ]<;>omega),rfl⟩
theorem aX(i:Int)(a:Option Addr)(n c:Nat)(w:World):
 Calls Tryz.prog 55 #[.int .i64 i,.slice a n c] w λe w'=>e=.returned (.bool (tG i n))/\w'=w:=by
 by_cases h1:0<=i<;>by_cases h2:i<n;all_goals
  go_enter Tryz.func55,Tryz.ntmps55;go_wp2;go_ret;exact⟨eL (by simp[tG]<;>omega),rfl⟩
theorem NA(i:Int)(a:Option Addr)(n c:Nat)(w:World):
 Calls Tryz.prog 56 #[.int .i64 i,.slice a n c] w λe w'=>e=.returned (.bool (tG i n))/\w'=w:=by
 by_cases h1:0<=i<;>by_cases h2:i<n;all_goals
  go_enter Tryz.func56,Tryz.ntmps56;go_wp2;go_ret;exact⟨eL (by simp[tG]<;>omega),rfl⟩
theorem IF(i:Int)(a:Option Addr)(n c:Nat)(w:World):
 Calls Tryz.prog 214 #[.int .i64 i,.slice a n c] w λe w'=>e=.returned (.bool (tG i n))/\w'=w:=by
 by_cases h1:0<=i<;>by_cases h2:i<n;all_goals
  go_enter Tryz.func214,Tryz.ntmps214;go_wp2;go_ret;exact⟨eL (by simp[tG]<;>omega),rfl⟩
theorem PS(s:ByteArray)(w:World)(hs:s.size<=maxLen):
 Calls Tryz.prog 38 #[.string s] w λe w'=>e=.returned (.bool (jN s.data.toList))/\w'=w:=by
 unfold maxLen at hs;go_enter Tryz.func38,Tryz.ntmps38;go_wp2;go_loop[3](λi=>∃k:Nat,k<=s.size/\i=.int .i64 k/\(s.data.toList.take k).all xT=true)(λi=>s.size-(intOf i).toNat);case atStart=>exact⟨0,zA _,rfl,rfl⟩
 case round=>
  obtain⟨k,hk,rfl,ha⟩:=hrel;have HA:Hid ((s.data.toList.take k).all xT=true):=ha;clear ha;by_cases hlt:k<s.size
  ·by_cases q1:97<=(s[k].toNat:Int)<;>by_cases q2:(s[k].toNat:Int)<=122<;>first|(exfalso;omega)|skip
   all_goals
    go_wp2;first
     |(go_ret;exact⟨eL (by simp[jN,TS s k hlt (VJ (by omega))]),rfl⟩)
     |exact⟨⟨k+1,by omega,by go_num,RS s k hlt HA.out (UU (by omega))⟩,by simp[intOf];omega⟩
  ·go_wp2_with(go_at_call 40;refine(wP _ _ _ _).mono ?_;rintro e w'⟨rfl,rfl⟩);go_ret;have h:=HA.out;rw[OP s k hlt]at h;exact⟨eL (by simp only[jN,h,Bool.and_true];unfold pJ;rw[jF,xN,xN];simp;omega),rfl⟩
theorem P2(nm:ByteArray)(kd:Int)(w:World):
 Calls Tryz.prog 19 #[.agg #[.string nm,.int .i64 kd]] w λe w'=>e=.returned (.string nm)/\w'=w.alloc (.cells #[.string nm,.int .i64 kd] 55):=by
 go_enter Tryz.func19,Tryz.ntmps19;go_wp2;go_ret;exact⟨rfl,rfl⟩
theorem P3(nm:ByteArray)(l d:Int)(w:World):
 Calls Tryz.prog 21 #[.agg #[.string nm,.int .i64 l,.int .i64 d]] w λe w'=>e=.returned (.string nm)/\w'=w.alloc (.cells #[.string nm,.int .i64 l,.int .i64 d] 59):=by
 go_enter Tryz.func21,Tryz.ntmps21;go_wp2;go_ret;exact⟨rfl,rfl⟩
theorem ZX(xs:List nL)(a:Option Addr)(n c:Nat)(w:World)(hn:xs.length=n)(h100:n<=100)(hp:lR w a xs):
 Calls Tryz.prog 18 #[.slice a n c,.func (.func 19) #[] #[]] w λe w'=>∃v,e=.returned v/\w'.ownsRow w.heap.size 9 1 v n ((xs.map nL.name).map Value.string)/\Below w.heap.size w w':=by
 obtain⟨i0,hi,hz0,hz1,hz2⟩:=qF Tryz.info9;have HN:Hid (xs.length=n):=hn;have HP:Hid (lR w a xs):=hp;clear hn hp;go_enter Tryz.func18,Tryz.ntmps18;go_wp2;go_loopw[5,10](λv i wr=>∃k:Nat,k<=n/\i=.int .i64 k/\wr.ownsRow w.heap.size 9 1 v k (((xs.take k).map nL.name).map Value.string)/\Below w.heap.size w wr)(λ_ i _=>n-(intOf i).toNat);case atStart=>exact⟨0,zA _,rfl,jC _ _ _ _,dA _ _⟩
 case round=>
  obtain⟨k,hk,rfl,hown,hB⟩:=hrel;have hBs:=hB.size;by_cases hlt:k<n
  ·obtain⟨g,o,rfl,hg,hx⟩:∃g o,a=some ⟨g,o,none⟩/\g<w.heap.size/\∀i(h:i<xs.length),w.cell? ⟨g,o+i*2,none⟩=some (.string xs[i].name)/\w.cell? ⟨g,o+i*2+1,none⟩=some (.int .i64 xs[i].kind):=by
    rcases HP.out with h|h;·have:=HN.out;rw[h]at this;simp at this;omega
    ·exact h
   have hkl:k<xs.length:=by rw[HN.out];exact hlt
   have c1:=(hB.cell (p:=⟨g,o+k*2,none⟩) hg).trans (hx k hkl).1;have c2:=(hB.cell (p:=⟨g,o+k*2+1,none⟩) hg).trans (hx k hkl).2;obtain⟨x,hxx⟩:∃x,x=xs[k]:=⟨_,rfl⟩;rw[<-hxx]at c1 c2;have HX:Hid ((xs.take (k+1)).map nL.name=(xs.take k).map nL.name++[x.name]):=by
    show(xs.take (k+1)).map nL.name=_;rw[rA hkl,hxx,oD];rfl
   clear hx hxx;obtain⟨nm,kd⟩:=x;dsimp only at c1 c2;go_wp2_with(first
    |(go_at_call 19;refine(P2 _ _ _).mono ?_;rintro e w1⟨rfl,rfl⟩)
    |(at_builtin;refine vE _ rfl _ _ 52 rfl w.heap.size 9 i0 (.string ⟨#[]⟩) 1 16 Tryz.underlying52 hi hz0 hz1 hz2 rfl (by decide) _ _ _ rfl (((hown.alloc _).alloc _).alloc _) ⟨wr.heap.size+1+1,0,none⟩ 1 1 [.string nm] rfl rfl (by have h:=tH ((wr.alloc (.cells #[.string nm,.int .i64 kd] 55)).alloc (.cells #[.string nm,.int .i64 kd] 55)) (.string nm) 9;simpa only[pC]using h) (by simp[Value.oneCell']) (by unfold maxLen;omega) (by omega) (by simp;omega) ?_;intro v' w2 hown' hgrow _));have hB2:Below w.heap.size w w2:=(((hB.alloc hBs _).alloc (by simp;omega) _).alloc (by simp;omega) _).grown hgrow (by simp;omega) (nS hown);go_roundw;case rel=>exact⟨k+1,by omega,by go_num,by rw[HX.out];simpa using hown',hB2⟩
   case measure=>simp[intOf];omega
  ·go_wp2;go_ret;have e:xs.take k=xs:=iB (by rw[HN.out];omega);have ek:k=n:=by omega
   rw[e,ek]at hown;exact⟨_,rfl,hown,hB⟩
theorem YH(xs:List kL)(a:Option Addr)(n c:Nat)(w:World)(hn:xs.length=n)(h100:n<=100)(hp:kR w a xs):
 Calls Tryz.prog 20 #[.slice a n c,.func (.func 21) #[] #[]] w λe w'=>∃v,e=.returned v/\w'.ownsRow w.heap.size 9 1 v n ((xs.map kL.name).map Value.string)/\Below w.heap.size w w':=by
 obtain⟨i0,hi,hz0,hz1,hz2⟩:=qF Tryz.info9;have HN:Hid (xs.length=n):=hn;have HP:Hid (kR w a xs):=hp;clear hn hp;go_enter Tryz.func20,Tryz.ntmps20;go_wp2;go_loopw[5,10](λv i wr=>∃k:Nat,k<=n/\i=.int .i64 k/\wr.ownsRow w.heap.size 9 1 v k (((xs.take k).map kL.name).map Value.string)/\Below w.heap.size w wr)(λ_ i _=>n-(intOf i).toNat);case atStart=>exact⟨0,zA _,rfl,jC _ _ _ _,dA _ _⟩
 case round=>
  obtain⟨k,hk,rfl,hown,hB⟩:=hrel;have hBs:=hB.size;by_cases hlt:k<n
  ·obtain⟨g,o,rfl,hg,hx⟩:∃g o,a=some ⟨g,o,none⟩/\g<w.heap.size/\∀i(h:i<xs.length),w.cell? ⟨g,o+i*3,none⟩=some (.string xs[i].name)/\w.cell? ⟨g,o+i*3+1,none⟩=some (.int .i64 xs[i].yD)/\w.cell? ⟨g,o+i*3+2,none⟩=some (.int .i64 xs[i].dead):=by
    rcases HP.out with h|h;·have:=HN.out;rw[h]at this;simp at this;omega
    ·exact h
   have hkl:k<xs.length:=by rw[HN.out];exact hlt
   have c1:=(hB.cell (p:=⟨g,o+k*3,none⟩) hg).trans (hx k hkl).1;have c2:=(hB.cell (p:=⟨g,o+k*3+1,none⟩) hg).trans (hx k hkl).2.1;have c3:=(hB.cell (p:=⟨g,o+k*3+2,none⟩) hg).trans (hx k hkl).2.2;obtain⟨x,hxx⟩:∃x,x=xs[k]:=⟨_,rfl⟩;rw[<-hxx]at c1 c2 c3;have HX:Hid ((xs.take (k+1)).map kL.name=(xs.take k).map kL.name++[x.name]):=by
    show(xs.take (k+1)).map kL.name=_;rw[rA hkl,hxx,oD];rfl
   clear hx hxx;obtain⟨nm,kd,kd2⟩:=x;dsimp only at c1 c2 c3;go_wp2_with(first
    |(go_at_call 21;refine(P3 _ _ _ _).mono ?_;rintro e w1⟨rfl,rfl⟩)
    |(at_builtin;refine vE _ rfl _ _ 52 rfl w.heap.size 9 i0 (.string ⟨#[]⟩) 1 16 Tryz.underlying52 hi hz0 hz1 hz2 rfl (by decide) _ _ _ rfl (((hown.alloc _).alloc _).alloc _) ⟨wr.heap.size+1+1,0,none⟩ 1 1 [.string nm] rfl rfl (by have h:=tH ((wr.alloc (.cells #[.string nm,.int .i64 kd,.int .i64 kd2] 59)).alloc (.cells #[.string nm,.int .i64 kd,.int .i64 kd2] 59)) (.string nm) 9;simpa only[pC]using h) (by simp[Value.oneCell']) (by unfold maxLen;omega) (by omega) (by simp;omega) ?_;intro v' w2 hown' hgrow _));have hB2:Below w.heap.size w w2:=(((hB.alloc hBs _).alloc (by simp;omega) _).alloc (by simp;omega) _).grown hgrow (by simp;omega) (nS hown);go_roundw;case rel=>exact⟨k+1,by omega,by go_num,by rw[HX.out];simpa using hown',hB2⟩
   case measure=>simp[intOf];omega
  ·go_wp2;go_ret;have e:xs.take k=xs:=iB (by rw[HN.out];omega);have ek:k=n:=by omega
   rw[e,ek]at hown;exact⟨_,rfl,hown,hB⟩
theorem NJ(xs:List ByteArray)(a:Option Addr)(n c:Nat)(w:World)(hn:xs.length=n)(h100:n<=100)(hsz:∀x∈xs,x.size<=maxLen)(hp:fM w a xs):
 Calls Tryz.prog 22 #[.slice a n c] w λe w'=>e=.returned (.bool (xs.all (λx=>jN x.data.toList)))/\w'=w:=by
 have HN:Hid (xs.length=n):=hn;have HP:Hid (fM w a xs):=hp;have HS:Hid (∀x∈xs,x.size<=maxLen):=hsz;clear hn hp hsz;go_enter Tryz.func22,Tryz.ntmps22;go_wp2;go_loop[7](λi=>∃k:Nat,k<=n/\i=.int .i64 k/\(∀x∈xs.take k,jN x.data.toList=true))(λi=>n-(intOf i).toNat);case atStart=>exact⟨0,zA _,rfl,by simp⟩
 case round=>
  obtain⟨k,hk,rfl,ha⟩:=hrel;have HA:Hid (∀x∈xs.take k,jN x.data.toList=true):=ha;clear ha;by_cases hlt:k<n
  ·have hkl:k<xs.length:=by rw[HN.out];exact hlt
   obtain⟨g,o,rfl,hg,ht⟩:=HP.out.cells (by omega);have c1:=ht k hkl;obtain⟨x,hxx⟩:∃x,x=xs[k]:=⟨_,rfl⟩;have hxs:x.size<=maxLen:=HS.out x (by rw[hxx];exact qB hkl);rw[<-hxx]at c1;have HX:Hid (x=xs[k]):=hxx;clear ht hxx;cases hb:jN x.data.toList with
   |true=>
     go_wp2_with(go_at_call 54;refine(TQ _ _ hxs).mono ?_;rintro e w1⟨rfl,rfl⟩);go_round;case rel=>exact⟨k+1,by omega,by go_num,cU (p:=λx=>jN x.data.toList) hkl HA.out (by rw[<-HX.out];exact hb)⟩
     case measure=>simp[intOf];omega
   |false=>
     go_wp2_with(go_at_call 54;refine(TQ _ _ hxs).mono ?_;rintro e w1⟨rfl,rfl⟩);go_ret;exact⟨eL (mL (p:=λx=>jN x.data.toList) hkl (by rw[<-HX.out];exact hb)).symm,rfl⟩
  ·go_wp2_with fail;go_ret;exact⟨eL (nV (p:=λx=>jN x.data.toList) HN.out hlt HA.out).symm,rfl⟩
open Go.Maps
def tx(xs:List ByteArray)(i:Nat):ByteArray:=xs.getD i ⟨#[]⟩
theorem GN{xs:List ByteArray}{i:Nat}(h:i<xs.length):tx xs i=xs[i]:=by simp[tx,List.getD,h]
def qZ(xs:List ByteArray)(k:Nat):Prop:=∀i j,i<k->j<i->tx xs i≠tx xs j
def uK(xs:List ByteArray):Bool:=(List.range xs.length).any (λi=>(List.range i).any (λj=>decide (tx xs i=tx xs j)))
theorem TA{xs:List ByteArray}{i j:Nat}(hi:i<xs.length)(hj:j<i)(h:tx xs i=tx xs j):uK xs=true:=by
 unfold uK;rw[aE];refine⟨i,by simp[hi],?_⟩;rw[aE];exact⟨j,by simp[hj],by simp[h]⟩
theorem UB{xs:List ByteArray}{k n:Nat}(hn:xs.length=n)(hk:¬k<n)(h:qZ xs k):uK xs=false:=by
 unfold uK;rw[sO];intro i hi;simp only[fG]at hi;simp only[Bool.not_eq_true];rw[sO];intro j hj;simp only[fG]at hj;simp[h i j (by omega) hj]
theorem qZ.succ{xs:List ByteArray}{k:Nat}(h:qZ xs k)(hk:∀j,j<k->tx xs k≠tx xs j):qZ xs (k+1):=by
 intro i j hi hj;by_cases e:i=k;·subst e;exact hk j hj
 ·exact h i j (by omega) hj
theorem VF{x y:ByteArray}(h:x.data.toList=y.data.toList):x=y:=by
 cases x;cases y;simp at h;simp[h]
theorem VL{x y:ByteArray}(h:x≠y):(x.toList==y.toList)=false:=by
 rw[zC,zC];simpa using λe=>h (VF (by simpa using e))
theorem RH(xs:List ByteArray)(a:Option Addr)(n c:Nat)(w:World)(hn:xs.length=n)(h100:n<=100)(hp:fM w a xs):
 Calls Tryz.prog 39 #[.slice a n c] w λe w'=>e=.returned (.bool (uK xs))/\∃m,w'=w.drewN m:=by
 have HN:Hid (xs.length=n):=hn;have HP:Hid (fM w a xs):=hp;clear hn hp;go_enter Tryz.func39,Tryz.ntmps39;go_wp2;go_loopw[3,4](λi _ wr=>∃k m:Nat,k<=n/\i=.int .i64 k/\wr=w.drewN m/\qZ xs k)(λi _ _=>n-(intOf i).toNat);case atStart=>exact⟨0,0,zA _,rfl,rfl,λi j hi=>by omega⟩
 case round=>
  obtain⟨k,m,hk,rfl,hwr,ho⟩:=hrel;have HO:Hid (qZ xs k):=ho;have HW:Hid (wr=w.drewN m):=hwr;clear ho hwr;by_cases hlt:k<n
  ·have hkl:k<xs.length:=by rw[HN.out];exact hlt
   obtain⟨g,o,rfl,hg,ht⟩:=HP.out.cells (by omega);have HT:Hid (qM w g o xs):=ht;clear ht;have hlt':(k:Int)<n:=by omega
   go_wp2;go_loopw[4](λj wr2=>∃l m:Nat,l<=k/\j=.int .i64 l/\wr2=w.drewN m/\∀j,j<l->tx xs k≠tx xs j)(λj _=>k-(intOf j).toNat);case atStart=>exact⟨0,m,zA _,rfl,HW.out,λj hj=>by omega⟩
   case round=>
    obtain⟨l,m2,hl,rfl,hw2,hd⟩:=hrel;have HD:Hid (∀j,j<l->tx xs k≠tx xs j):=hd;have HW2:Hid (wr=w.drewN m2):=hw2;clear hd hw2;by_cases hll:l<k
    ·have hl1:l<xs.length:=by omega
     have c1:wr.cell? ⟨g,o+k,none⟩=some (.string (tx xs k)):=by rw[HW2.out,GN hkl];exact HT.out k hkl
     have c2:wr.cell? ⟨g,o+l,none⟩=some (.string (tx xs l)):=by rw[HW2.out,GN hl1];exact HT.out l hl1
     have hll':(l:Int)<k:=by omega
     have hln:(l:Int)<n:=by omega
     by_cases he:tx xs k=tx xs l
     ·have heb:((tx xs k).toList==(tx xs l).toList)=true:=by rw[he];simp
      have HE:Hid (tx xs k=tx xs l):=he;clear he;obtain⟨x,hx⟩:∃x,x=tx xs k:=⟨_,rfl⟩;obtain⟨y,hy⟩:∃y,y=tx xs l:=⟨_,rfl⟩;rw[<-hx]at c1 heb;rw[<-hy]at c2 heb;clear hx hy;go_wp2;go_quiet(fail);go_wp2;go_ret;exact⟨eL (TA hkl hll HE.out).symm,_,by rw[HW2.out,wK]⟩
     ·have heb:((tx xs k).toList==(tx xs l).toList)=false:=VL he;have HE:Hid (tx xs k≠tx xs l):=he;clear he;obtain⟨x,hx⟩:∃x,x=tx xs k:=⟨_,rfl⟩;obtain⟨y,hy⟩:∃y,y=tx xs l:=⟨_,rfl⟩;rw[<-hx]at c1 heb;rw[<-hy]at c2 heb;clear hx hy;go_wp2;go_quiet(fail);go_wp2;go_roundw;case rel=>exact⟨l+1,_,by omega,by go_num,by rw[HW2.out,wK],λj hj=>by
       by_cases hjl:j=l;·rw[hjl];exact HE.out
       ·exact HD.out j (by omega)⟩
      case measure=>simp[intOf];omega
    ·have hlk:l=k:=by omega
     have HLK:Hid (l=k):=hlk;clear hlk;go_wp2;go_roundw;case rel=>exact⟨k+1,m2,by omega,by go_num,HW2.out,HO.out.succ (by rw[<-HLK.out];rw[HLK.out];intro j hj;exact HD.out j (by have:=HLK.out;omega))⟩
     case measure=>simp[intOf];omega
  ·go_wp2;go_ret;exact⟨eL (UB HN.out hlt HO.out).symm,m,HW.out⟩
theorem gP:Keyed Tryz.prog 9:=string_keyed Tryz.underlying9
theorem zW(w:World):(zeroValue 93).run Tryz.prog w=.ok (.agg #[]) w:=by kernel_rfl
def rO(xs:List ByteArray)(k:Nat):DataW Unit:=setOf (.agg []) ((List.range k).map (λi=>Lit.string (tx xs i).data.toList))
theorem Q1(xs:List ByteArray):rO xs 0=.map []:=by simp[rO,setOf]
theorem Q0(xs:List ByteArray)(k:Nat):rO xs (k+1)=(rO xs k).put (.string (tx xs k).data.toList) (.agg []):=by
 unfold rO;rw[iI,oD,fH,fN,setOf_snoc]
theorem WU(xs:List ByteArray)(k:Nat)(x:ByteArray){j:Nat}(hj:j<k)(h:x=tx xs j):Maps.has (rO xs k) (.string x.data.toList)=true:=by
 unfold rO;rw[has_setOf _ _ _ (by intro y hy;simp at hy;obtain⟨_,_,rfl⟩:=hy;trivial),aE];exact⟨_,jD.2 ⟨j,by simp[hj],rfl⟩,by rw[h];simp[Lit.sameKey]⟩
theorem ZN(xs:List ByteArray)(k:Nat)(x:ByteArray)(h:∀j,j<k->x≠tx xs j):Maps.has (rO xs k) (.string x.data.toList)=false:=by
 unfold rO;rw[has_setOf _ _ _ (by intro y hy;simp at hy;obtain⟨_,_,rfl⟩:=hy;trivial),sO];intro y hy;obtain⟨j,hj,rfl⟩:=jD.1 hy;simp only[fG]at hj;have:=h j hj;simp only[Lit.sameKey,Bool.not_eq_true,xD];exact λe=>this (VF e.symm)
theorem NL(xs:List ByteArray)(a:Option Addr)(n c:Nat)(w:World)(hn:xs.length=n)(h100:n<=100)(hsz:∀x∈xs,x.size<=maxLen)(hp:fM w a xs):
 Calls Tryz.prog 23 #[.slice a n c] w λe w'=>e=.returned (.bool (uK xs))/\Below w.heap.size w w':=by
 have HN:Hid (xs.length=n):=hn;have HP:Hid (fM w a xs):=hp;have HS:Hid (∀x∈xs,x.size<=maxLen):=hsz;clear hn hp hsz;have hmm:=@run_makeMap Tryz.prog;go_enter Tryz.func23,Tryz.ntmps23;go_wp2;go_loopw[11](λi wr=>∃k:Nat,k<=n/\i=.int .i64 k/\wr.ownsMap Tryz.prog 9 unitElem w.heap.size k (rO xs k)/\Below w.heap.size w wr/\w.heap.size+1<=wr.heap.size/\qZ xs k)(λi _=>n-(intOf i).toNat);case atStart=>exact⟨0,zA _,rfl,by rw[Q1];exact vN _ _ _ _,(dA _ _).alloc (eA _) _,by simp,λi j hi=>by omega⟩
 case round=>
  obtain⟨k,hk,rfl,hown,hB,hws,ho⟩:=hrel;have HO:Hid (qZ xs k):=ho;have hBs:=hB.size;clear ho;by_cases hlt:k<n
  ·have hkl:k<xs.length:=by rw[HN.out];exact hlt
   obtain⟨g,o,rfl,hg,ht⟩:=HP.out.cells (by omega);have c1:wr.cell? ⟨g,o+k,none⟩=some (.string (tx xs k)):=by rw[GN hkl];exact(hB.cell (p:=⟨g,o+k,none⟩) hg).trans (ht k hkl)
   have hxs:(tx xs k).size<=maxLen:=HS.out _ (by rw[GN hkl];exact qB hkl);clear ht;have HSU:=Q0 xs k;obtain⟨D',hD'⟩:∃D',D'=rO xs (k+1):=⟨_,rfl⟩;rw[<-hD']at HSU;have HD':Hid (D'=rO xs (k+1)):=hD';obtain⟨D,hD⟩:∃D,D=rO xs k:=⟨_,rfl⟩;rw[<-hD]at HSU hown;have HD:Hid (D=rO xs k):=hD;clear hD hD';obtain⟨x,hx⟩:∃x,x=tx xs k:=⟨_,rfl⟩;rw[<-hx]at c1 hxs HSU;have HX:Hid (x=tx xs k):=hx;have hkey:keyOf Tryz.prog 9 (.string x)=some (.string x.data.toList):=sE Tryz.underlying9 hxs;have HSU':Hid (D'=D.put (.string x.data.toList) (.agg [])):=HSU;clear HSU hx;by_cases hd:∃j,j<k/\x=tx xs j
   ·obtain⟨j,hj,he⟩:=hd;have hh:Maps.has D (.string x.data.toList)=true:=by rw[HD.out];exact WU xs k x hj he
    have HE:Hid (x=tx xs j):=he;clear he;go_wp2_with(at_lookup;refine vQ _ rfl _ _ 92 rfl 9 93 gP Tryz.underlying92 (zW _) w.heap.size k D rfl hown _ _ rfl hkey ?_);go_ret;exact⟨eL (TA hkl hj (by rw[<-HX.out];exact HE.out)).symm,hB.alloc hBs _⟩
   ·have hne:∀j,j<k->x≠tx xs j:=λj hj e=>hd ⟨j,hj,e⟩;have hh:Maps.has D (.string x.data.toList)=false:=by rw[HD.out];exact ZN xs k x hne
    have HNE:Hid (∀j,j<k->x≠tx xs j):=hne;clear hd hne;go_wp2_with(first
     |(at_lookup;refine vQ _ rfl _ _ 92 rfl 9 93 gP Tryz.underlying92 (zW _) w.heap.size k D rfl hown _ _ rfl hkey ?_)
     |(at_mapUpdate;refine wpList_mapUpdate_own _ rfl _ _ _ 92 rfl 9 93 gP Tryz.underlying92 (unitElem (H:=Unit)) w.heap.size k _ rfl (hown.alloc _) (by unfold maxLen;omega) _ _ _ rfl rfl hkey _ [] unitElem_mk ?_;intro w1 hown1 hgrow1));have s1:=hgrow1.size;simp at s1;go_roundw;case rel=>exact⟨k+1,by omega,by go_num,by rw[<-HD'.out,HSU'.out];exact hown1,(hB.alloc hBs _).grown hgrow1 (by simp;omega) (λj hj=>by cases hj;exact eA _),by omega,HO.out.succ (by rw[<-HX.out];exact HNE.out)⟩
    case measure=>simp[intOf];omega
  ·go_wp2;go_ret;exact⟨eL (UB HN.out hlt HO.out).symm,hB⟩
def aT(x:nL):Bool:=pJ x.kind 1 3
def sS(np:Nat)(x:kL):Bool:=pJ x.yD 1 6&&pJ x.dead (-1) (np-1)
def jR(np nq:Nat)(x:qS):Bool:=tG x.src np&&tG x.dst (if x.xF then np else nq)
def kM:List qS->Int
 |[]=>0
 |b::r=>if pK b.pat.data.toList=0 then kM r else pK b.pat.data.toList
theorem lR.cells{W:World}{a:Option Addr}{xs:List nL}(h:lR W a xs)(hne:0<xs.length):∃g o,a=some ⟨g,o,none⟩/\g<W.heap.size/\∀i(h:i<xs.length),W.cell? ⟨g,o+i*2,none⟩=some (.string xs[i].name)/\W.cell? ⟨g,o+i*2+1,none⟩=some (.int .i64 xs[i].kind):=by
 rcases h with h|h;·rw[h]at hne;simp at hne
 ·exact h
theorem kR.cells{W:World}{a:Option Addr}{xs:List kL}(h:kR W a xs)(hne:0<xs.length):∃g o,a=some ⟨g,o,none⟩/\g<W.heap.size/\∀i(h:i<xs.length),W.cell? ⟨g,o+i*3,none⟩=some (.string xs[i].name)/\W.cell? ⟨g,o+i*3+1,none⟩=some (.int .i64 xs[i].yD)/\W.cell? ⟨g,o+i*3+2,none⟩=some (.int .i64 xs[i].dead):=by
 rcases h with h|h;·rw[h]at hne;simp at hne
 ·exact h
theorem wS.cells{W:World}{a:Option Addr}{xs:List qS}(h:wS W a xs)(hne:0<xs.length):∃g o,a=some ⟨g,o,none⟩/\g<W.heap.size/\∀i(h:i<xs.length),W.cell? ⟨g,o+i*4,none⟩=some (.int .i64 xs[i].src)/\W.cell? ⟨g,o+i*4+1,none⟩=some (.bool xs[i].xF)/\W.cell? ⟨g,o+i*4+2,none⟩=some (.int .i64 xs[i].dst)/\W.cell? ⟨g,o+i*4+3,none⟩=some (.string xs[i].pat):=by
 rcases h with h|h;·rw[h]at hne;simp at hne
 ·exact h
theorem DE{a b c:Int}(h1:b<=a)(h2:a<=c):pJ a b c=true:=by unfold pJ;simp;omega
theorem DK{a b c:Int}(h:¬(b<=a/\a<=c)):pJ a b c=false:=by unfold pJ;simp;omega
theorem cP{i:Int}{n:Nat}:tG i n=true↔0<=i/\i<n:=by unfold tG;simp
theorem BV{i:Int}{n:Nat}:tG i n=false↔¬(0<=i/\i<n):=by unfold tG;simp
theorem WQ(xs:List nL)(a:Option Addr)(n c:Nat)(w:World)(hn:xs.length=n)(h100:n<=100)(hp:lR w a xs):
 Calls Tryz.prog 24 #[.slice a n c] w λe w'=>e=.returned (.bool (xs.all aT))/\Below w.heap.size w w':=by
 have HN:Hid (xs.length=n):=hn;have HP:Hid (lR w a xs):=hp;clear hn hp;go_enter Tryz.func24,Tryz.ntmps24;go_wp2;go_loopw[7](λi wr=>∃k:Nat,k<=n/\i=.int .i64 k/\(∀x∈xs.take k,aT x=true)/\Below w.heap.size w wr)(λi _=>n-(intOf i).toNat);case atStart=>exact⟨0,zA _,rfl,by simp,dA _ _⟩
 case round=>
  obtain⟨k,hk,rfl,ha,hB⟩:=hrel;have HA:Hid (∀x∈xs.take k,aT x=true):=ha;have hBs:=hB.size;clear ha;by_cases hlt:k<n
  ·have hkl:k<xs.length:=by rw[HN.out];exact hlt
   obtain⟨g,o,rfl,hg,hx⟩:=HP.out.cells (by omega);have c1:=(hB.cell (p:=⟨g,o+k*2,none⟩) hg).trans (hx k hkl).1;have c2:=(hB.cell (p:=⟨g,o+k*2+1,none⟩) hg).trans (hx k hkl).2;obtain⟨x,hxx⟩:∃x,x=xs[k]:=⟨_,rfl⟩;rw[<-hxx]at c1 c2;clear hx;have HX:Hid (x=xs[k]):=hxx;clear hxx;obtain⟨nm,kd⟩:=x;dsimp only at c1 c2;by_cases k1:kd=1\/kd=2\/kd=3
   ·have hok:aT ⟨nm,kd⟩=true:=DE (by rcases k1 with h|h|h<;>simp[h]) (by rcases k1 with h|h|h<;>simp[h]);have HOK:Hid (aT xs[k]=true):=by rw[<-HX.out];exact hok
    clear hok;rcases k1 with rfl|rfl|rfl;all_goals
     go_wp2;go_roundw;case rel=>exact⟨k+1,by omega,by go_num,cU hkl HA.out HOK.out,hB.alloc hBs _⟩
     case measure=>simp[intOf];omega
   ·have k1':(kd !=1)=true:=kD.2 (by omega);have k2':(kd !=2)=true:=kD.2 (by omega);have k3':(kd !=3)=true:=kD.2 (by omega);have HOK:Hid (aT xs[k]=false):=by rw[<-HX.out];exact DK (by dsimp only;omega)
    clear k1;go_wp2;go_ret;exact⟨eL (mL hkl HOK.out).symm,hB.alloc hBs _⟩
  ·go_wp2;go_ret;exact⟨eL (nV HN.out hlt HA.out).symm,hB⟩
theorem VP(xs:List qS)(a:Option Addr)(n c:Nat)(w:World)(hn:xs.length=n)(h100:n<=100)(hp:wS w a xs):
 Calls Tryz.prog 27 #[.slice a n c] w λe w'=>e=.returned (.int .i64 (kM xs))/\Below w.heap.size w w':=by
 have HN:Hid (xs.length=n):=hn;have HP:Hid (wS w a xs):=hp;clear hn hp;go_enter Tryz.func27,Tryz.ntmps27;go_wp2;go_loopw[8](λi wr=>∃k:Nat,k<=n/\i=.int .i64 k/\kM xs=kM (xs.drop k)/\Below w.heap.size w wr)(λi _=>n-(intOf i).toNat);case atStart=>exact⟨0,zA _,rfl,rfl,dA _ _⟩
 case round=>
  obtain⟨k,hk,rfl,ha,hB⟩:=hrel;have HA:Hid (kM xs=kM (xs.drop k)):=ha;have hBs:=hB.size;clear ha;by_cases hlt:k<n
  ·have hkl:k<xs.length:=by rw[HN.out];exact hlt
   obtain⟨g,o,rfl,hg,hx⟩:=HP.out.cells (by omega);have c1:=(hB.cell (p:=⟨g,o+k*4,none⟩) hg).trans (hx k hkl).1;have c2:=(hB.cell (p:=⟨g,o+k*4+1,none⟩) hg).trans (hx k hkl).2.1;have c3:=(hB.cell (p:=⟨g,o+k*4+2,none⟩) hg).trans (hx k hkl).2.2.1;have c4:=(hB.cell (p:=⟨g,o+k*4+3,none⟩) hg).trans (hx k hkl).2.2.2;obtain⟨x,hxx⟩:∃x,x=xs[k]:=⟨_,rfl⟩;rw[<-hxx]at c1 c2 c3 c4;have hd:xs.drop k=x::xs.drop (k+1):=by rw[hxx];exact vC hkl
   clear hx hxx;obtain⟨f,tp,t,pt⟩:=x;dsimp only at c1 c2 c3 c4;obtain⟨d,hd2⟩:∃d,d=pK pt.data.toList:=⟨_,rfl⟩;have HD:Hid (d=pK pt.data.toList):=hd2;by_cases h0:d=0
   ·have HF:Hid (kM xs=kM (xs.drop (k+1))):=by
     show kM xs=_;rw[HA.out,hd,kM,qA (by dsimp only;rw[<-hd2];exact h0)]
    clear hd hd2;subst h0;go_wp2_with(go_at_call 57;refine(CE _ _).mono ?_;rintro e w1⟨rfl,hB1⟩;rw[<-HD.out]);have hB2:Below w.heap.size w w1:=(hB.alloc hBs _).trans (hB1.mono (by simp;omega));go_roundw;case rel=>exact⟨k+1,by omega,by go_num,HF.out,hB2⟩
    case measure=>simp[intOf];omega
   ·have h0':(d !=0)=true:=kD.2 h0;have HF:Hid (kM xs=d):=by
     show kM xs=_;rw[HA.out,hd,kM,kA (by dsimp only;rw[<-hd2];exact h0)];exact hd2.symm
    clear hd hd2 h0;go_wp2_with(go_at_call 57;refine(CE _ _).mono ?_;rintro e w1⟨rfl,hB1⟩;rw[<-HD.out]);go_ret;exact⟨tJ HF.out.symm,(hB.alloc hBs _).trans (hB1.mono (by simp;omega))⟩
  ·go_wp2;go_ret;have e:xs.drop k=[]:=mD (by rw[HN.out];omega);exact⟨tJ (by rw[HA.out,e];rfl),hB⟩
theorem VQ(p:lD)(a1 a2 a3:Option Addr)(n1 c1 n2 c2 n3 c3:Nat)(w:World)(h1:p.nC.length=n1)(h2:p.jB.length=n2)(h100:n2<=100)(hp:kR w a2 p.jB):
 Calls Tryz.prog 25 #[.agg #[.slice a1 n1 c1,.slice a2 n2 c2,.slice a3 n3 c3]] w λe w'=>e=.returned (.bool (p.jB.all (sS n1)))/\Below w.heap.size w w':=by
 obtain⟨nC,xs,qC⟩:=p;dsimp only at h1 h2 hp⊢;have HN:Hid (xs.length=n2):=h2;have HP:Hid (kR w a2 xs):=hp;clear h1 h2 hp;obtain⟨W1,hW1⟩:∃W1,W1=w.alloc (.cells #[.slice a1 n1 c1,.slice a2 n2 c2,.slice a3 n3 c3] 26):=⟨_,rfl⟩;have b0:W1.cell? ⟨w.heap.size,0,none⟩=some (.slice a1 n1 c1):=by rw[hW1];simp
 have hW1s:W1.heap.size=w.heap.size+1:=by rw[hW1];simp
 have hBw:Below w.heap.size w W1:=by rw[hW1];exact(dA _ _).alloc (eA _) _
 have HW1:Hid (W1=w.alloc (.cells #[.slice a1 n1 c1,.slice a2 n2 c2,.slice a3 n3 c3] 26)):=hW1;clear hW1;go_enter Tryz.func25,Tryz.ntmps25;go_wp2;go_loopw[8](λi wr=>∃k:Nat,k<=n2/\i=.int .i64 k/\(∀x∈xs.take k,sS n1 x=true)/\Below W1.heap.size W1 wr)(λi _=>n2-(intOf i).toNat);case atStart=>exact⟨0,zA _,rfl,by simp,by rw[HW1.out];exact dA _ _⟩
 case round=>
  obtain⟨k,hk,rfl,ha,hB⟩:=hrel;have HA:Hid (∀x∈xs.take k,sS n1 x=true):=ha;have hBs:=hB.size;have hBW:Below w.heap.size w wr:=hBw.trans (hB.mono (by omega));have hq:w.heap.size<wr.heap.size:=by omega
  have d0:=(hB.cell (p:=⟨w.heap.size,0,none⟩) (by show w.heap.size<_;omega)).trans b0;clear ha;by_cases hlt:k<n2
  ·have hkl:k<xs.length:=by rw[HN.out];exact hlt
   obtain⟨g,o,rfl,hg,hx⟩:=HP.out.cells (by omega);have e1:=(hBW.cell (p:=⟨g,o+k*3,none⟩) hg).trans (hx k hkl).1;have e2:=(hBW.cell (p:=⟨g,o+k*3+1,none⟩) hg).trans (hx k hkl).2.1;have e3:=(hBW.cell (p:=⟨g,o+k*3+2,none⟩) hg).trans (hx k hkl).2.2;obtain⟨x,hxx⟩:∃x,x=xs[k]:=⟨_,rfl⟩;rw[<-hxx]at e1 e2 e3;clear hx;have HX:Hid (x=xs[k]):=hxx;clear hxx b0;obtain⟨nm,l,d⟩:=x;dsimp only at e1 e2 e3;have hcase:l<1\/(1<=l/\6<l)\/(1<=l/\l<=6/\d=-1)\/(1<=l/\l<=6/\(d !=-1)=true/\tG d n1=true)\/(1<=l/\l<=6/\(d !=-1)=true/\tG d n1=false):=by
    rcases Bool.eq_false_or_eq_true (tG d n1)with h|h<;>by_cases q:d=-1<;>simp only[kD,h]<;>simp[q]<;>omega
   have hok:sS n1 ⟨nm,l,d⟩=(decide (1<=l/\l<=6)&&(decide (d=-1)||tG d n1)):=by
    unfold sS pJ tG;dsimp only;rw[jF];simp;omega
   rw[HX.out]at hok;have HOK:Hid (sS n1 xs[k]=(decide (1<=l/\l<=6)&&(decide (d=-1)||tG d n1))):=hok;clear hok;rcases hcase with q1|⟨q1,q2⟩|⟨q1,q2,rfl⟩|⟨q1,q2,q3,q4⟩|⟨q1,q2,q3,q4⟩;·go_wp2_with(go_at_call 55;refine(aX _ _ _ _ _).mono ?_;rintro e w1⟨rfl,rfl⟩);go_ret;exact⟨eL (mL hkl (by rw[HOK.out];simp;omega)).symm,hBW.alloc (by omega) _⟩
   ·go_wp2_with(go_at_call 55;refine(aX _ _ _ _ _).mono ?_;rintro e w1⟨rfl,rfl⟩);go_ret;exact⟨eL (mL hkl (by rw[HOK.out];simp;omega)).symm,hBW.alloc (by omega) _⟩
   ·go_wp2_with(go_at_call 55;refine(aX _ _ _ _ _).mono ?_;rintro e w1⟨rfl,rfl⟩);go_roundw;case rel=>exact⟨k+1,by omega,by go_num,cU hkl HA.out (by rw[HOK.out];simp;omega),hB.alloc hBs _⟩
    case measure=>simp[intOf];omega
   ·go_wp2_with(go_at_call 55;refine(aX _ _ _ _ _).mono ?_;rintro e w1⟨rfl,rfl⟩);go_roundw;case rel=>exact⟨k+1,by omega,by go_num,cU hkl HA.out (by rw[HOK.out,q4];simp;omega),hB.alloc hBs _⟩
    case measure=>simp[intOf];omega
   ·have q5:d≠-1:=kD.1 q3;go_wp2_with(go_at_call 55;refine(aX _ _ _ _ _).mono ?_;rintro e w1⟨rfl,rfl⟩);go_ret;exact⟨eL (mL hkl (by rw[HOK.out,q4];simp;omega)).symm,hBW.alloc (by omega) _⟩
  ·go_wp2;go_ret;exact⟨eL (nV HN.out hlt HA.out).symm,hBW⟩
theorem VT(p:lD)(a1 a2 a3:Option Addr)(n1 c1 n2 c2 n3 c3:Nat)(w:World)(h3:p.qC.length=n3)(h100:n3<=100)(hp:wS w a3 p.qC):
 Calls Tryz.prog 26 #[.agg #[.slice a1 n1 c1,.slice a2 n2 c2,.slice a3 n3 c3]] w λe w'=>e=.returned (.bool (p.qC.all (jR n1 n2)))/\Below w.heap.size w w':=by
 obtain⟨nC,jB,xs⟩:=p;dsimp only at h3 hp⊢;have HN:Hid (xs.length=n3):=h3;have HP:Hid (wS w a3 xs):=hp;clear h3 hp;obtain⟨W1,hW1⟩:∃W1,W1=w.alloc (.cells #[.slice a1 n1 c1,.slice a2 n2 c2,.slice a3 n3 c3] 26):=⟨_,rfl⟩;have b0:W1.cell? ⟨w.heap.size,0,none⟩=some (.slice a1 n1 c1):=by rw[hW1];simp
 have b1:W1.cell? ⟨w.heap.size,1,none⟩=some (.slice a2 n2 c2):=by rw[hW1];simp
 have hW1s:W1.heap.size=w.heap.size+1:=by rw[hW1];simp
 have hBw:Below w.heap.size w W1:=by rw[hW1];exact(dA _ _).alloc (eA _) _
 have HW1:Hid (W1=w.alloc (.cells #[.slice a1 n1 c1,.slice a2 n2 c2,.slice a3 n3 c3] 26)):=hW1;clear hW1;go_enter Tryz.func26,Tryz.ntmps26;go_wp2;go_loopw[8](λi wr=>∃k:Nat,k<=n3/\i=.int .i64 k/\(∀x∈xs.take k,jR n1 n2 x=true)/\Below W1.heap.size W1 wr)(λi _=>n3-(intOf i).toNat);case atStart=>exact⟨0,zA _,rfl,by simp,by rw[HW1.out];exact dA _ _⟩
 case round=>
  obtain⟨k,hk,rfl,ha,hB⟩:=hrel;have HA:Hid (∀x∈xs.take k,jR n1 n2 x=true):=ha;have hBs:=hB.size;have hBW:Below w.heap.size w wr:=hBw.trans (hB.mono (by omega));have hq:w.heap.size<wr.heap.size:=by omega
  have d0:=(hB.cell (p:=⟨w.heap.size,0,none⟩) (by show w.heap.size<_;omega)).trans b0;have d1:=(hB.cell (p:=⟨w.heap.size,1,none⟩) (by show w.heap.size<_;omega)).trans b1;clear ha;by_cases hlt:k<n3
  ·have hkl:k<xs.length:=by rw[HN.out];exact hlt
   obtain⟨g,o,rfl,hg,hx⟩:=HP.out.cells (by omega);have e1:=(hBW.cell (p:=⟨g,o+k*4,none⟩) hg).trans (hx k hkl).1;have e2:=(hBW.cell (p:=⟨g,o+k*4+1,none⟩) hg).trans (hx k hkl).2.1;have e3:=(hBW.cell (p:=⟨g,o+k*4+2,none⟩) hg).trans (hx k hkl).2.2.1;have e4:=(hBW.cell (p:=⟨g,o+k*4+3,none⟩) hg).trans (hx k hkl).2.2.2;obtain⟨x,hxx⟩:∃x,x=xs[k]:=⟨_,rfl⟩;rw[<-hxx]at e1 e2 e3 e4;clear hx;have HX:Hid (x=xs[k]):=hxx;clear hxx b0 b1;obtain⟨f,tp,t,pt⟩:=x;dsimp only at e1 e2 e3 e4;have HOK:Hid (jR n1 n2 xs[k]=(tG f n1&&tG t (if tp then n1 else n2))):=by rw[<-HX.out];rfl
   obtain⟨s1,hs1⟩:∃s,tG f n1=s:=⟨_,rfl⟩;obtain⟨s2,hs2⟩:∃s,tG t n1=s:=⟨_,rfl⟩;obtain⟨s3,hs3⟩:∃s,tG t n2=s:=⟨_,rfl⟩;cases s1 with
   |false=>
     go_wp2_with(go_at_call 55;refine(aX _ _ _ _ _).mono ?_;rintro e w1⟨rfl,rfl⟩);go_ret;exact⟨eL (mL hkl (by rw[HOK.out,hs1];rfl)).symm,hBW.alloc (by omega) _⟩
   |true=>
     cases tp with
     |true=>
       cases s2 with
       |true=>
         go_wp2_with(go_at_call 55;refine(aX _ _ _ _ _).mono ?_;rintro e w1⟨rfl,rfl⟩);go_roundw;case rel=>exact⟨k+1,by omega,by go_num,cU hkl HA.out (by rw[HOK.out,hs1];simp[hs2]),hB.alloc hBs _⟩
         case measure=>simp[intOf];omega
       |false=>
         go_wp2_with(go_at_call 55;refine(aX _ _ _ _ _).mono ?_;rintro e w1⟨rfl,rfl⟩);go_ret;exact⟨eL (mL hkl (by rw[HOK.out,hs1];simp[hs2])).symm,hBW.alloc (by omega) _⟩
     |false=>
       cases s3 with
       |true=>
         go_wp2_with(first|(go_at_call 55;refine(aX _ _ _ _ _).mono ?_;rintro e w1⟨rfl,rfl⟩)|(go_at_call 56;refine(NA _ _ _ _ _).mono ?_;rintro e w1⟨rfl,rfl⟩));go_roundw;case rel=>exact⟨k+1,by omega,by go_num,cU hkl HA.out (by rw[HOK.out,hs1];simp[hs3]),hB.alloc hBs _⟩
         case measure=>simp[intOf];omega
       |false=>
         go_wp2_with(first|(go_at_call 55;refine(aX _ _ _ _ _).mono ?_;rintro e w1⟨rfl,rfl⟩)|(go_at_call 56;refine(NA _ _ _ _ _).mono ?_;rintro e w1⟨rfl,rfl⟩));go_ret;exact⟨eL (mL hkl (by rw[HOK.out,hs1];simp[hs3])).symm,hBW.alloc (by omega) _⟩
  ·go_wp2;go_ret;exact⟨eL (nV HN.out hlt HA.out).symm,hBW⟩
def iF(p:lD):Int:=
 if 4<p.nC.length\/4<p.jB.length\/10<p.qC.length then 2
 else if((p.nC.map nL.name).all (λx=>jN x.data.toList)&&(p.jB.map kL.name).all (λx=>jN x.data.toList))=false then 4
 else if(uK (p.nC.map nL.name)||uK (p.jB.map kL.name))=true then 6
 else if p.nC.all aT=false then 7
 else if(p.jB.all (sS p.nC.length)&&p.qC.all (jR p.nC.length p.jB.length))=false then 3
 else kM p.qC
def kO(p:lD):Prop:=(∀x∈p.nC.map nL.name,x.size<=maxLen)/\(∀x∈p.jB.map kL.name,x.size<=maxLen)
theorem SF{p:lD}(h:4<p.nC.length\/4<p.jB.length\/10<p.qC.length):iF p=2:=by unfold iF;rw[qA h]
theorem GC(w:World)(v1 v2 v3:Value)(t:TypeId):(w.alloc (.cells #[v1,v2,v3] t)).cell? ⟨w.heap.size,0,none⟩=some v1/\(w.alloc (.cells #[v1,v2,v3] t)).cell? ⟨w.heap.size,1,none⟩=some v2/\(w.alloc (.cells #[v1,v2,v3] t)).cell? ⟨w.heap.size,2,none⟩=some v3:=by
 refine⟨?_,?_,?_⟩<;>simp
theorem o_(p:lD)(a1 a2 a3:Option Addr)(n1 c1 n2 c2 n3 c3:Nat)(w:World)(h1:p.nC.length=n1)(h2:p.jB.length=n2)(h3:p.qC.length=n3)(h:4<n1\/4<n2\/10<n3):
 Calls Tryz.prog 7 #[.agg #[.slice a1 n1 c1,.slice a2 n2 c2,.slice a3 n3 c3]] w λe w'=>e=.returned (.int .i64 (iF p))/\Below w.heap.size w w':=by
 rw[SF (by rw[h1,h2,h3];exact h)];clear h1 h2 h3;have hc:(4:Int)<n1\/(¬(4:Int)<n1/\(4:Int)<n2)\/(¬(4:Int)<n1/\¬(4:Int)<n2/\(10:Int)<n3):=by omega
 clear h;rcases hc with q1|⟨q1,q2⟩|⟨q1,q2,q3⟩;all_goals
  go_enter Tryz.func7,Tryz.ntmps7;go_wp2_with fail;go_ret;exact⟨rfl,(dA _ _).alloc (eA _) _⟩
theorem W_(p:lD)(a1 a2 a3:Option Addr)(n1 c1 n2 c2 n3 c3:Nat)(w:World)(h1:p.nC.length=n1)(h2:p.jB.length=n2)(h3:p.qC.length=n3)(h:¬(4<n1\/4<n2\/10<n3))
 (hs:kO p)(k1:lR w a1 p.nC)(k2:kR w a2 p.jB)(k3:wS w a3 p.qC):
 Calls Tryz.prog 7 #[.agg #[.slice a1 n1 c1,.slice a2 n2 c2,.slice a3 n3 c3]] w λe w'=>e=.returned (.int .i64 (iF p))/\Below w.heap.size w w':=by
 have hn:¬(4<p.nC.length\/4<p.jB.length\/10<p.qC.length):=by rw[h1,h2,h3];exact h
 have q1:¬(4:Int)<n1:=by omega
 have q2:¬(4:Int)<n2:=by omega
 have q3:¬(10:Int)<n3:=by omega
 have E:Hid (iF p=if((p.nC.map nL.name).all (λx=>jN x.data.toList)&&(p.jB.map kL.name).all (λx=>jN x.data.toList))=false then 4
  else if(uK (p.nC.map nL.name)||uK (p.jB.map kL.name))=true then 6
  else if p.nC.all aT=false then 7
  else if(p.jB.all (sS p.nC.length)&&p.qC.all (jR p.nC.length p.jB.length))=false then 3
  else kM p.qC):=by show iF p=_;unfold iF;rw[kA hn]
 have HL:Hid (p.nC.length=n1/\p.jB.length=n2/\p.qC.length=n3):=⟨h1,h2,h3⟩;have HS:Hid (kO p):=hs;have h4:n1<=4/\n2<=4/\n3<=10:=by omega
 obtain⟨h41,h42,h43⟩:=h4;obtain⟨b0,b1,b2⟩:=GC w (.slice a1 n1 c1) (.slice a2 n2 c2) (.slice a3 n3 c3) 26;obtain⟨W1,hW1⟩:∃W1,W1=w.alloc (.cells #[.slice a1 n1 c1,.slice a2 n2 c2,.slice a3 n3 c3] 26):=⟨_,rfl⟩;rw[<-hW1]at b0 b1 b2;have hBw:Below w.heap.size w W1:=by rw[hW1];exact(dA _ _).alloc (eA _) _
 have hW1s:W1.heap.size=w.heap.size+1:=by rw[hW1];simp
 have K1:Hid (lR W1 a1 p.nC):=k1.sA hBw;have K2:Hid (kR W1 a2 p.jB):=k2.sA hBw;have K3:Hid (wS W1 a3 p.qC):=k3.sA hBw;have B0:Hid (W1.cell? ⟨w.heap.size,0,none⟩=some (.slice a1 n1 c1)/\W1.cell? ⟨w.heap.size,1,none⟩=some (.slice a2 n2 c2)/\W1.cell? ⟨w.heap.size,2,none⟩=some (.slice a3 n3 c3)):=⟨b0,b1,b2⟩;have boxed:∀W,Below W1.heap.size W1 W->W.cell? ⟨w.heap.size,0,none⟩=some (.slice a1 n1 c1)/\W.cell? ⟨w.heap.size,1,none⟩=some (.slice a2 n2 c2)/\W.cell? ⟨w.heap.size,2,none⟩=some (.slice a3 n3 c3):=λW hW=>
  ⟨(hW.cell (p:=⟨w.heap.size,0,none⟩) (by show w.heap.size<_;omega)).trans b0,(hW.cell (p:=⟨w.heap.size,1,none⟩) (by show w.heap.size<_;omega)).trans b1,(hW.cell (p:=⟨w.heap.size,2,none⟩) (by show w.heap.size<_;omega)).trans b2⟩;have BX:Hid (∀W,Below W1.heap.size W1 W->W.cell? ⟨w.heap.size,0,none⟩=some (.slice a1 n1 c1)/\W.cell? ⟨w.heap.size,1,none⟩=some (.slice a2 n2 c2)/\W.cell? ⟨w.heap.size,2,none⟩=some (.slice a3 n3 c3)):=boxed;have HW1s:Hid (W1.heap.size=w.heap.size+1):=hW1s;clear boxed b0 b1 b2 k1 k2 k3 h1 h2 h3 h hn hs hW1s;obtain⟨ps,hps⟩:∃ps,ps=p.nC.map nL.name:=⟨_,rfl⟩;obtain⟨qs,hqs⟩:∃qs,qs=p.jB.map kL.name:=⟨_,rfl⟩;have HPS:Hid (ps=p.nC.map nL.name):=hps;have HQS:Hid (qs=p.jB.map kL.name):=hqs;have LPS:Hid (ps.length=n1):=by rw[hps,dE];exact HL.out.1
 have LQS:Hid (qs.length=n2):=by rw[hqs,dE];exact HL.out.2.1
 rw[<-hps,<-hqs]at E;clear hps hqs;go_enter Tryz.func7,Tryz.ntmps7;go_wp2_with fail;rw[<-hW1];clear hW1;refine(ZX p.nC _ _ _ _ HL.out.1 (by omega) K1.out).mono ?_;rintro e w2⟨v,rfl,hown,hB2⟩;rw[<-HPS.out]at hown;rw[<-LPS.out]at hown;obtain⟨ap,cp,rfl,⟨hcp,_⟩,hmp,hap⟩:=CV hown;rw[LPS.out];have HAP:Hid (fM w2 ap ps):=hap;clear hown hap;have d1:=(BX.out w2 hB2).2.1;go_wp2_with fail;refine(YH p.jB _ _ _ _ HL.out.2.1 (by omega) (K2.out.sA hB2)).mono ?_;rintro e w3⟨v,rfl,hown,hB3⟩;clear d1;rw[<-HQS.out]at hown;rw[<-LQS.out]at hown;obtain⟨aq,cq,rfl,⟨hcq,_⟩,hmq,haq⟩:=CV hown;rw[LQS.out];have HAQ:Hid (fM w3 aq qs):=haq;have HAP3:Hid (fM w3 ap ps):=HAP.out.sA hB3;have s2:=hB2.size;have s3:=hB3.size;have hB13:Below W1.heap.size W1 w3:=hB2.trans (hB3.mono s2);have hB03:Below w.heap.size w w3:=hBw.trans (hB13.mono hBw.size);have s0:=hBw.size;clear hown haq HAP hB2 hB3;go_wp2_with fail;refine(NJ ps _ _ _ _ LPS.out (by omega) (by rw[HPS.out];exact HS.out.1) HAP3.out).mono ?_;rintro e w4⟨rfl,rfl⟩;cases e1:ps.all (λx=>jN x.data.toList)with
 |false=>
   go_wp2_with fail;go_ret;exact⟨tJ (by rw[E.out,e1];simp),hB03⟩
 |true=>
   go_wp2_with fail;refine(NJ qs _ _ _ _ LQS.out (by omega) (by rw[HQS.out];exact HS.out.2) HAQ.out).mono ?_;rintro e w5⟨rfl,rfl⟩;cases e2:qs.all (λx=>jN x.data.toList)with
   |false=>
     go_wp2_with fail;go_ret;exact⟨tJ (by rw[E.out,e1,e2];simp),hB03⟩
   |true=>
     go_wp2_with fail;refine(NL ps _ _ _ _ LPS.out (by omega) (by rw[HPS.out];exact HS.out.1) HAP3.out).mono ?_;rintro e w6⟨rfl,hB6⟩;have s6:=hB6.size;cases e3:uK ps with
     |true=>
       go_wp2_with fail;go_ret;exact⟨tJ (by rw[E.out,e1,e2,e3];simp),hB03.trans (hB6.mono (by omega))⟩
     |false=>
       go_wp2_with fail;refine(NL qs _ _ _ _ LQS.out (by omega) (by rw[HQS.out];exact HS.out.2) (HAQ.out.sA hB6)).mono ?_;rintro e w7⟨rfl,hB7⟩;have s7:=hB7.size;have hB17:Below W1.heap.size W1 w7:=hB13.trans ((hB6.mono (by omega)).trans (hB7.mono (by omega)));have hB07:Below w.heap.size w w7:=hBw.trans (hB17.mono hBw.size);cases e4:uK qs with
       |true=>
         go_wp2_with fail;go_ret;exact⟨tJ (by rw[E.out,e1,e2,e3,e4];simp),hB07⟩
       |false=>
         have d0:=(BX.out w7 hB17).1;go_wp2_with fail;refine(WQ p.nC _ _ _ _ HL.out.1 (by omega) (K1.out.sA hB17)).mono ?_;rintro e w8⟨rfl,hB8⟩;clear d0;have s8:=hB8.size;have hB18:Below W1.heap.size W1 w8:=hB17.trans (hB8.mono (by omega));have hB08:Below w.heap.size w w8:=hBw.trans (hB18.mono hBw.size);cases e5:p.nC.all aT with
         |false=>
           go_wp2_with fail;go_ret;exact⟨tJ (by rw[E.out,e1,e2,e3,e4,e5];simp),hB08⟩
         |true=>
           obtain⟨d0,d1,d2⟩:=BX.out w8 hB18;go_wp2_with fail;refine(VQ p _ _ _ _ _ _ _ _ _ _ HL.out.1 HL.out.2.1 (by omega) (K2.out.sA hB18)).mono ?_;rintro e w9⟨rfl,hB9⟩;clear d0 d1 d2;have s9:=hB9.size;have hB19:Below W1.heap.size W1 w9:=hB18.trans (hB9.mono (by omega));have hB09:Below w.heap.size w w9:=hBw.trans (hB19.mono hBw.size);cases e6:p.jB.all (sS n1)with
           |false=>
             go_wp2_with fail;go_ret;exact⟨tJ (by rw[E.out,e1,e2,e3,e4,e5,HL.out.1,e6];simp),hB09⟩
           |true=>
             obtain⟨d0,d1,d2⟩:=BX.out w9 hB19;go_wp2_with fail;refine(VT p _ _ _ _ _ _ _ _ _ _ HL.out.2.2 (by omega) (K3.out.sA hB19)).mono ?_;rintro e w10⟨rfl,hB10⟩;clear d0 d1 d2;have s10:=hB10.size;have hB110:Below W1.heap.size W1 w10:=hB19.trans (hB10.mono (by omega));have hB010:Below w.heap.size w w10:=hBw.trans (hB110.mono hBw.size);cases e7:p.qC.all (jR n1 n2)with
             |false=>
               go_wp2_with fail;go_ret;exact⟨tJ (by rw[E.out,e1,e2,e3,e4,e5,HL.out.1,HL.out.2.1,e6,e7];simp),hB010⟩
             |true=>
               obtain⟨d0,d1,d2⟩:=BX.out w10 hB110;go_wp2_with fail;refine(VP p.qC _ _ _ _ HL.out.2.2 (by omega) (K3.out.sA hB110)).mono ?_;rintro e w11⟨rfl,hB11⟩;clear d0 d1 d2;go_wp2_with fail;go_ret;exact⟨tJ (by rw[E.out,e1,e2,e3,e4,e5,HL.out.1,HL.out.2.1,e6,e7];simp),hB010.trans (hB11.mono (by omega))⟩
theorem cX(p:lD)(a1 a2 a3:Option Addr)(n1 c1 n2 c2 n3 c3:Nat)(w:World)(h1:p.nC.length=n1)(h2:p.jB.length=n2)(h3:p.qC.length=n3)
 (hs:kO p)(k1:lR w a1 p.nC)(k2:kR w a2 p.jB)(k3:wS w a3 p.qC):
 Calls Tryz.prog 7 #[.agg #[.slice a1 n1 c1,.slice a2 n2 c2,.slice a3 n3 c3]] w λe w'=>e=.returned (.int .i64 (iF p))/\Below w.heap.size w w':=by
 by_cases h:4<n1\/4<n2\/10<n3;·exact o_ p a1 a2 a3 n1 c1 n2 c2 n3 c3 w h1 h2 h3 h
 ·exact W_ p a1 a2 a3 n1 c1 n2 c2 n3 c3 w h1 h2 h3 h hs k1 k2 k3
theorem z_(w:World)(row:Option Nat):w.grownBy w row:=⟨rfl,rfl,rfl,eA _,λ_ _ _=>rfl⟩
theorem NC{w:World}{ops:Array Oper}{rest:List Oper}{o:Oper}{act:Act}{Q:Exit->Act->World->Prop}(hgd:o.guard=none)(s x:Operand)
 (ho:o.op=.call {callee:=.builtin .append,args:=#[s,x],argTypes:=#[52,52]})
 (base:Nat)(i0:TypeInfo)(hi:Tryz.prog.info? 9=some i0)(hz0:i0.zero=some (.string ⟨#[]⟩))(hz1:i0.size=1)(hz2:i0.bytes=16)
 (v:Value)(n:Nat)(xs:List Value)(hs:act.eval s=v)(hown:w.ownsRow base 9 1 v n xs)
 (a:Option Addr)(m c:Nat)(ys:List ByteArray)(hx:act.eval x=.slice a m c)(hm:ys.length=m)(hz:a=none->c=0/\ys=[])(hT:fM w a ys)
 (hb:n+m<=1000)(hbase:base<=w.heap.size)
 (h:∀v' w',w'.ownsRow base 9 1 v' (n+m) (xs++ys.map Value.string)->w.grownBy w' v.ownBlock->wpList Tryz.prog ops Q rest (act.put o.dst v') w'):wpList Tryz.prog ops Q (o::rest) act w:=by
 cases a with
 |none=>
   obtain⟨rfl,rfl⟩:=hz rfl;simp at hm;subst hm;exact wpList_append_own_none hgd s x _ ho base 9 i0 1 Tryz.underlying52 hi v n xs hs hown hx (by
    have:=h v w (by simpa using hown) (z_ _ _);exact this)
 |some ad=>
   refine vE _ hgd s x _ ho base 9 i0 (.string ⟨#[]⟩) 1 16 Tryz.underlying52 hi hz0 hz1 hz2 rfl (by decide) v n xs hs hown ad m c (ys.map Value.string) hx (by simp[hm]) ?_ (by simp[Value.oneCell']) (by unfold maxLen;omega) (by omega) hbase (λv' w' h1 h2 _=>h v' w' h1 h2);intro j u hj;rcases hT with rfl|⟨g,off,hg,hT⟩;·simp at hj
   ·cases hg;have hjl:j<ys.length:=by
     rcases xG j ys.length with h|h;·exact h
     ·rw[tF (by simpa using h)]at hj;cases hj
    have:=hT j hjl;simp[hjl]at hj;rw[<-hj];by_cases hj0:j=0;·subst hj0;simpa[Addr.add]using this
    ·simpa[Addr.add,hj0]using this
theorem ZB(p:lD)(a1 a2 a3:Option Addr)(n1 c1 n2 c2 n3 c3:Nat)(w:World)(h1:p.nC.length=n1)(h2:p.jB.length=n2)(h3:p.qC.length=n3)(h:4<n1\/4<n2\/10<n3):
 Calls Tryz.prog 13 #[.agg #[.slice a1 n1 c1,.slice a2 n2 c2,.slice a3 n3 c3]] w λe w'=>e=.returned (.int .i64 (iF p))/\Below w.heap.size w w':=by
 rw[SF (by rw[h1,h2,h3];exact h)];clear h1 h2 h3;have hc:(4:Int)<n1\/(¬(4:Int)<n1/\(4:Int)<n2)\/(¬(4:Int)<n1/\¬(4:Int)<n2/\(10:Int)<n3):=by omega
 clear h;rcases hc with q1|⟨q1,q2⟩|⟨q1,q2,q3⟩;all_goals
  go_enter Tryz.func13,Tryz.ntmps13;go_wp2_with fail;go_ret;exact⟨rfl,(dA _ _).alloc (eA _) _⟩
theorem A0(p:lD)(a1 a2 a3:Option Addr)(n1 c1 n2 c2 n3 c3:Nat)(w:World)(h1:p.nC.length=n1)(h2:p.jB.length=n2)(h3:p.qC.length=n3)(h:¬(4<n1\/4<n2\/10<n3))
 (hs:kO p)(k1:lR w a1 p.nC)(k2:kR w a2 p.jB)(k3:wS w a3 p.qC):
 Calls Tryz.prog 13 #[.agg #[.slice a1 n1 c1,.slice a2 n2 c2,.slice a3 n3 c3]] w λe w'=>e=.returned (.int .i64 (iF p))/\Below w.heap.size w w':=by
 obtain⟨i0,hi,hz0,hz1,hz2⟩:=qF Tryz.info9;have hn:¬(4<p.nC.length\/4<p.jB.length\/10<p.qC.length):=by rw[h1,h2,h3];exact h
 have q1:¬(4:Int)<n1:=by omega
 have q2:¬(4:Int)<n2:=by omega
 have q3:¬(10:Int)<n3:=by omega
 have E:Hid (iF p=if((p.nC.map nL.name).all (λx=>jN x.data.toList)&&(p.jB.map kL.name).all (λx=>jN x.data.toList))=false then 4
  else if(uK (p.nC.map nL.name)||uK (p.jB.map kL.name))=true then 6
  else if p.nC.all aT=false then 7
  else if(p.jB.all (sS p.nC.length)&&p.qC.all (jR p.nC.length p.jB.length))=false then 3
  else kM p.qC):=by show iF p=_;unfold iF;rw[kA hn]
 have HL:Hid (p.nC.length=n1/\p.jB.length=n2/\p.qC.length=n3):=⟨h1,h2,h3⟩;have HS:Hid (kO p):=hs;have h4:n1<=4/\n2<=4/\n3<=10:=by omega
 obtain⟨h41,h42,h43⟩:=h4;obtain⟨b0,b1,b2⟩:=GC w (.slice a1 n1 c1) (.slice a2 n2 c2) (.slice a3 n3 c3) 26;obtain⟨W1,hW1⟩:∃W1,W1=w.alloc (.cells #[.slice a1 n1 c1,.slice a2 n2 c2,.slice a3 n3 c3] 26):=⟨_,rfl⟩;rw[<-hW1]at b0 b1 b2;have hBw:Below w.heap.size w W1:=by rw[hW1];exact(dA _ _).alloc (eA _) _
 have hW1s:W1.heap.size=w.heap.size+1:=by rw[hW1];simp
 have hlt1:w.heap.size<W1.heap.size:=by omega
 have K1:Hid (lR W1 a1 p.nC):=k1.sA hBw;have K2:Hid (kR W1 a2 p.jB):=k2.sA hBw;have K3:Hid (wS W1 a3 p.qC):=k3.sA hBw;have BX:Hid (∀W,Below W1.heap.size W1 W->W.cell? ⟨w.heap.size,0,none⟩=some (.slice a1 n1 c1)/\W.cell? ⟨w.heap.size,1,none⟩=some (.slice a2 n2 c2)/\W.cell? ⟨w.heap.size,2,none⟩=some (.slice a3 n3 c3)):=λW hW=>
  ⟨(hW.cell (p:=⟨w.heap.size,0,none⟩) hlt1).trans b0,(hW.cell (p:=⟨w.heap.size,1,none⟩) hlt1).trans b1,(hW.cell (p:=⟨w.heap.size,2,none⟩) hlt1).trans b2⟩;clear b0 b1 b2 k1 k2 k3 h1 h2 h3 h hn hs hW1s;obtain⟨ps,hps⟩:∃ps,ps=p.nC.map nL.name:=⟨_,rfl⟩;obtain⟨qs,hqs⟩:∃qs,qs=p.jB.map kL.name:=⟨_,rfl⟩;have HPS:Hid (ps=p.nC.map nL.name):=hps;have HQS:Hid (qs=p.jB.map kL.name):=hqs;have LPS:Hid (ps.length=n1):=by rw[hps,dE];exact HL.out.1
 have LQS:Hid (qs.length=n2):=by rw[hqs,dE];exact HL.out.2.1
 rw[<-hps,<-hqs]at E;clear hps hqs;have HW1:Hid (W1=w.alloc (.cells #[.slice a1 n1 c1,.slice a2 n2 c2,.slice a3 n3 c3] 26)):=hW1;clear hW1;go_enter Tryz.func13,Tryz.ntmps13;go_wp2_with fail;go_loopw[3,5](λv i wr=>∃k:Nat,k<=n1/\i=.int .i64 k/\wr.ownsRow W1.heap.size 9 1 v k ((ps.take k).map Value.string)/\Below W1.heap.size W1 wr)(λ_ i _=>n1-(intOf i).toNat);case atStart=>exact⟨0,zA _,rfl,jC _ _ _ _,by rw[HW1.out];exact dA _ _⟩
 case round=>
  obtain⟨k,hk,rfl,hown,hB⟩:=hrel;have hBs:=hB.size;obtain⟨d0,d1,d2⟩:=BX.out wr hB;by_cases hlt:k<n1
  ·have hkl:k<p.nC.length:=by rw[HL.out.1];exact hlt
   obtain⟨g,o,rfl,hg,hx⟩:=K1.out.cells (by omega);have c1:=(hB.cell (p:=⟨g,o+k*2,none⟩) hg).trans (hx k hkl).1;obtain⟨nm,hnm⟩:∃nm,nm=p.nC[k].name:=⟨_,rfl⟩;rw[<-hnm]at c1;have HX:Hid (ps.take (k+1)=ps.take k++[nm]):=by
    show ps.take (k+1)=_;rw[rA (by rw[LPS.out];exact hlt)];simp[HPS.out,hnm]
   clear hx hnm;go_wp2_with(at_builtin;refine vE _ rfl _ _ 52 rfl W1.heap.size 9 i0 (.string ⟨#[]⟩) 1 16 Tryz.underlying52 hi hz0 hz1 hz2 rfl (by decide) _ _ _ rfl (hown.alloc _) ⟨wr.heap.size,0,none⟩ 1 1 [.string nm] rfl rfl (tH _ _ _) (by simp[Value.oneCell']) (by unfold maxLen;omega) (by omega) (by simp;omega) ?_;intro v' w2 hown' hgrow _);have hB2:Below W1.heap.size W1 w2:=(hB.alloc hBs _).grown hgrow (by simp;omega) (nS hown);go_roundw;case rel=>exact⟨k+1,by omega,by go_num,by rw[HX.out];simpa using hown',hB2⟩
   case measure=>simp[intOf];omega
  ·obtain rfl:n1=k:=by omega
   have hrow:wr.ownsRow W1.heap.size 9 1 u3 ps.length (ps.map Value.string):=by
    have h:=hown;rw[iB (by rw[LPS.out];exact eA _),<-LPS.out]at h;exact h
   have HR:Hid (wr.ownsRow W1.heap.size 9 1 u3 ps.length (ps.map Value.string)):=hrow;clear hown hrow hk hlt;go_wp2_with fail;obtain⟨w2,hw2⟩:∃w2,w2=wr:=⟨_,rfl⟩;rw[<-hw2]at hB HR d0 d1 d2 hBs⊢;clear hw2 d0 d1 d2;clear wr;go_loopw[4,6](λv i wr=>∃k:Nat,k<=n2/\i=.int .i64 k/\wr.ownsRow w2.heap.size 9 1 v k ((qs.take k).map Value.string)/\Below w2.heap.size w2 wr)(λ_ i _=>n2-(intOf i).toNat);case atStart=>exact⟨0,zA _,rfl,jC _ _ _ _,dA _ _⟩
   case round=>
    obtain⟨k,hk,rfl,hown,hB3⟩:=hrel;have hBs3:=hB3.size;have hB13:Below W1.heap.size W1 wr:=hB.trans (hB3.mono hBs);obtain⟨d0,d1,d2⟩:=BX.out wr hB13;by_cases hlt:k<n2
    ·have hkl:k<p.jB.length:=by rw[HL.out.2.1];exact hlt
     obtain⟨g,o,rfl,hg,hx⟩:=K2.out.cells (by omega);have c1:=(hB13.cell (p:=⟨g,o+k*3,none⟩) hg).trans (hx k hkl).1;obtain⟨nm,hnm⟩:∃nm,nm=p.jB[k].name:=⟨_,rfl⟩;rw[<-hnm]at c1;have HX:Hid (qs.take (k+1)=qs.take k++[nm]):=by
      show qs.take (k+1)=_;rw[rA (by rw[LQS.out];exact hlt)];simp[HQS.out,hnm]
     clear hx hnm;go_wp2_with(at_builtin;refine vE _ rfl _ _ 52 rfl w2.heap.size 9 i0 (.string ⟨#[]⟩) 1 16 Tryz.underlying52 hi hz0 hz1 hz2 rfl (by decide) _ _ _ rfl (hown.alloc _) ⟨wr.heap.size,0,none⟩ 1 1 [.string nm] rfl rfl (tH _ _ _) (by simp[Value.oneCell']) (by unfold maxLen;omega) (by omega) (by simp;omega) ?_;intro v' w3 hown' hgrow _);have hB4:Below w2.heap.size w2 w3:=(hB3.alloc hBs3 _).grown hgrow (by simp;omega) (nS hown);go_roundw;case rel=>exact⟨k+1,by omega,by go_num,by rw[HX.out];simpa using hown',hB4⟩
     case measure=>simp[intOf];omega
    ·obtain rfl:n2=k:=by omega
     have hrow:wr.ownsRow w2.heap.size 9 1 u4 qs.length (qs.map Value.string):=by
      have h:=hown;rw[iB (by rw[LQS.out];exact eA _),<-LQS.out]at h;exact h
     obtain⟨ap,cp,hu3,⟨hcp,hzp⟩,hmp,hap⟩:=CV HR.out;obtain⟨aq,cq,hu4,⟨hcq,hzq⟩,hmq,haq⟩:=CV hrow;rw[LPS.out]at hu3 hcp;rw[LQS.out]at hu4 hcq;have HZ:Hid ((ap=none->cp=0/\ps=[])/\(aq=none->cq=0/\qs=[])):=⟨hzp,hzq⟩;have HAP:Hid (fM wr ap ps):=hap.sA hB3;have HAQ:Hid (fM wr aq qs):=haq;clear hown hrow hk hlt HR hap haq d0 d2 hzp hzq;subst hu3 hu4;go_wp2_with(first
      |(at_builtin;refine NC rfl (.tmp 64) (.tmp 65) rfl wr.heap.size i0 hi hz0 hz1 hz2 _ 0 [] rfl (aI wr #[] 0 (eA _) (zA _) rfl) ap n1 cp ps rfl LPS.out HZ.out.1 (HAP.out.sA ((dA _ _).alloc (eA _) _)) (by omega) (by simp) ?_;intro v5 w5 hown5 hgrow5;have hB5:Below wr.heap.size wr w5:=((dA _ _).alloc (eA _) _).grown hgrow5 (by simp) (λk e=>by cases e;exact eA _))
      |(at_builtin;refine NC rfl (.tmp 66) (.tmp 67) rfl wr.heap.size i0 hi hz0 hz1 hz2 _ _ _ rfl hown5 aq n2 cq qs rfl LQS.out HZ.out.2 (HAQ.out.sA hB5) (by omega) hB5.size ?_;intro v6 w6 hown6 hgrow6;have hB6:Below wr.heap.size wr w6:=hB5.grown hgrow6 hB5.size (nS hown5)));have hB1r:Below W1.heap.size W1 wr:=hB13;have hB16:Below W1.heap.size W1 w6:=hB1r.trans (hB6.mono (by omega));have hown7:w6.ownsRow wr.heap.size 9 1 v6 (ps++qs).length ((ps++qs).map Value.string):=by
      have h:=hown6;simp only[List.nil_append,uD]at h;rw[dC,LPS.out,LQS.out,oD];exact h
     obtain⟨aa,ca,hv6,_,_,haa⟩:=CV hown7;obtain⟨nn,hnn⟩:∃nn,nn=(ps++qs).length:=⟨_,rfl⟩;have hn8:nn<=8:=by rw[hnn,dC,LPS.out,LQS.out];omega
     have HNN:Hid ((ps++qs).length=nn):=hnn.symm;have HAA:Hid (fM w6 aa (ps++qs)):=haa;have HP6:Hid (fM w6 ap ps):=HAP.out.sA hB6;have HQ6:Hid (fM w6 aq qs):=HAQ.out.sA hB6;have HSZ:Hid (∀x∈ps++qs,x.size<=maxLen):=by
      intro x hx;rcases oC.1 hx with h|h;·rw[HPS.out]at h;exact HS.out.1 x h
      ·rw[HQS.out]at h;exact HS.out.2 x h
     have E2:Hid (iF p=if(ps++qs).all (λx=>jN x.data.toList)=false then 4
      else if(uK ps||uK qs)=true then 6
      else if p.nC.all aT=false then 7
      else if(p.jB.all (sS p.nC.length)&&p.qC.all (jR p.nC.length p.jB.length))=false then 3
      else kM p.qC):=by show iF p=_;rw[E.out,fJ]
     rw[<-hnn]at hv6;subst hv6;clear hnn hown7 haa hown6 hgrow6 hown5 hgrow5 HAP HAQ HZ hB3 hB5 hBs3 d1 E;have s6:=hB16.size;clear hB13 hB1r hB6;go_loop[8](λi=>∃k:Nat,k<=nn/\i=.int .i64 k/\∀x∈(ps++qs).take k,jN x.data.toList=true)(λi=>nn-(intOf i).toNat);case atStart=>exact⟨0,zA _,rfl,by simp⟩
     case round=>
      obtain⟨k,hk,rfl,ha⟩:=hrel;have HA:Hid (∀x∈(ps++qs).take k,jN x.data.toList=true):=ha;clear ha;have hB06:Below w.heap.size w w6:=hBw.trans (hB16.mono hBw.size);by_cases hlt:k<nn
      ·have hkl:k<(ps++qs).length:=by rw[HNN.out];exact hlt
       obtain⟨g,o,rfl,hg,ht⟩:=HAA.out.cells (by omega);have c1:=ht k hkl;obtain⟨x,hxx⟩:∃x,x=(ps++qs)[k]:=⟨_,rfl⟩;have hxs:x.size<=maxLen:=HSZ.out x (by rw[hxx];exact qB hkl);rw[<-hxx]at c1;have HX:Hid (x=(ps++qs)[k]):=hxx;have HKL:Hid (k<(ps++qs).length):=hkl;clear ht hxx;cases hb:jN x.data.toList with
       |true=>
         go_wp2_with(go_at_call 38;refine(PS _ _ hxs).mono ?_;rintro e w1⟨rfl,rfl⟩);go_round;case rel=>exact⟨k+1,by omega,by go_num,cU (p:=λx=>jN x.data.toList) HKL.out HA.out (by rw[<-HX.out];exact hb)⟩
         case measure=>simp[intOf];omega
       |false=>
         go_wp2_with(go_at_call 38;refine(PS _ _ hxs).mono ?_;rintro e w1⟨rfl,rfl⟩);go_ret;exact⟨tJ (by rw[E2.out,mL (p:=λx=>jN x.data.toList) HKL.out (by rw[<-HX.out];exact hb)];simp),hB06⟩
      ·have E3:Hid (iF p=if(uK ps||uK qs)=true then 6
        else if p.nC.all aT=false then 7
        else if(p.jB.all (sS p.nC.length)&&p.qC.all (jR p.nC.length p.jB.length))=false then 3
        else kM p.qC):=by
        show iF p=_;rw[E2.out,nV (p:=λx=>jN x.data.toList) HNN.out hlt HA.out];simp
       clear E2 HA HAA;go_wp2_with fail;refine(RH ps _ _ _ _ LPS.out (by omega) HP6.out).mono ?_;rintro e w7⟨rfl,m7,rfl⟩;obtain⟨w7,hw7⟩:∃w7,w7=w6.drewN m7:=⟨_,rfl⟩;have hB67:Below w6.heap.size w6 w7:=by rw[hw7];exact DW _ _
       rw[<-hw7];clear hw7;have HQ7:Hid (fM w7 aq qs):=HQ6.out.sA hB67;have s7:=hB67.size;cases e3:uK ps with
       |true=>
         go_wp2_with fail;go_ret;exact⟨tJ (by rw[E3.out,e3];simp),hB06.trans (hB67.mono (by have:=hB06.size;omega))⟩
       |false=>
         go_wp2_with fail;refine(RH qs _ _ _ _ LQS.out (by omega) HQ7.out).mono ?_;rintro e w8⟨rfl,m8,rfl⟩;obtain⟨w8,hw8⟩:∃w8,w8=w7.drewN m8:=⟨_,rfl⟩;have hB78:Below w7.heap.size w7 w8:=by rw[hw8];exact DW _ _
         rw[<-hw8];clear hw8;have s8:=hB78.size;have hB18:Below W1.heap.size W1 w8:=hB16.trans ((hB67.mono (by omega)).trans (hB78.mono (by omega)));have hB08:Below w.heap.size w w8:=hBw.trans (hB18.mono hBw.size);cases e4:uK qs with
         |true=>
           go_wp2_with fail;go_ret;exact⟨tJ (by rw[E3.out,e3,e4];simp),hB08⟩
         |false=>
           have E4:Hid (iF p=if p.nC.all aT=false then 7
            else if(p.jB.all (sS p.nC.length)&&p.qC.all (jR p.nC.length p.jB.length))=false then 3
            else kM p.qC):=by show iF p=_;rw[E3.out,e3,e4];simp
           clear E3 HQ7 HQ6 HP6 hB67 hB78 hB06 HNN HSZ;go_wp2_with fail;obtain⟨d0,d1,d2⟩:=BX.out w8 hB18;go_loop[9](λi=>∃k:Nat,k<=n1/\i=.int .i64 k/\∀x∈p.nC.take k,aT x=true)(λi=>n1-(intOf i).toNat);case atStart=>exact⟨0,zA _,rfl,by simp⟩
           case round=>
            obtain⟨k,hk,rfl,ha⟩:=hrel;have HA:Hid (∀x∈p.nC.take k,aT x=true):=ha;clear ha;by_cases hlt:k<n1
            ·have hkl:k<p.nC.length:=by rw[HL.out.1];exact hlt
             obtain⟨g,o,rfl,hg,hx⟩:=K1.out.cells (by omega);have c1:=(hB18.cell (p:=⟨g,o+k*2+1,none⟩) hg).trans (hx k hkl).2;obtain⟨kd,hkd⟩:∃kd,kd=p.nC[k].kind:=⟨_,rfl⟩;rw[<-hkd]at c1;have HK:Hid (aT p.nC[k]=pJ kd 1 3):=by rw[hkd];rfl
             clear hx hkd;cases hb:pJ kd 1 3 with
             |true=>
               go_wp2_with(go_at_call 40;refine(wP _ _ _ _).mono ?_;rintro e w1⟨rfl,rfl⟩);go_round;case rel=>exact⟨k+1,by omega,by go_num,cU hkl HA.out (by rw[HK.out];exact hb)⟩
               case measure=>simp[intOf];omega
             |false=>
               go_wp2_with(go_at_call 40;refine(wP _ _ _ _).mono ?_;rintro e w1⟨rfl,rfl⟩);go_ret;exact⟨tJ (by rw[E4.out,mL hkl (by rw[HK.out];exact hb)];simp),hB08⟩
            ·have E5:Hid (iF p=if(p.jB.all (sS n1)&&p.qC.all (jR n1 n2))=false then 3 else kM p.qC):=by
              show iF p=_;rw[E4.out,nV HL.out.1 hlt HA.out,HL.out.1,HL.out.2.1];simp
             clear E4 HA;go_wp2_with fail;go_loop[10](λi=>∃k:Nat,k<=n2/\i=.int .i64 k/\∀x∈p.jB.take k,sS n1 x=true)(λi=>n2-(intOf i).toNat);case atStart=>exact⟨0,zA _,rfl,by simp⟩
             case round=>
              obtain⟨k,hk,rfl,ha⟩:=hrel;have HA:Hid (∀x∈p.jB.take k,sS n1 x=true):=ha;clear ha;by_cases hlt:k<n2
              ·have hkl:k<p.jB.length:=by rw[HL.out.2.1];exact hlt
               obtain⟨g,o,rfl,hg,hx⟩:=K2.out.cells (by omega);have e1:=(hB18.cell (p:=⟨g,o+k*3+1,none⟩) hg).trans (hx k hkl).2.1;have e2:=(hB18.cell (p:=⟨g,o+k*3+2,none⟩) hg).trans (hx k hkl).2.2;obtain⟨lm,hlm⟩:∃lm,lm=p.jB[k].yD:=⟨_,rfl⟩;obtain⟨dd,hdd⟩:∃dd,dd=p.jB[k].dead:=⟨_,rfl⟩;rw[<-hlm]at e1;rw[<-hdd]at e2;have HK:Hid (sS n1 p.jB[k]=(pJ lm 1 6&&pJ dd (-1) (n1-1))):=by rw[hlm,hdd];rfl
               clear hx hlm hdd;cases hb:pJ lm 1 6 with
               |false=>
                 go_wp2_with(go_at_call 40;refine(wP _ _ _ _).mono ?_;rintro e w1⟨rfl,rfl⟩);go_ret;exact⟨tJ (by rw[E5.out,mL hkl (by rw[HK.out,hb];rfl)];simp),hB08⟩
               |true=>
                 cases hb2:pJ dd (-1) (n1-1)with
                 |false=>
                   go_wp2_with(go_at_call 40;refine(wP _ _ _ _).mono ?_;rintro e w1⟨rfl,rfl⟩);go_ret;exact⟨tJ (by rw[E5.out,mL hkl (by rw[HK.out,hb,hb2];rfl)];simp),hB08⟩
                 |true=>
                   go_wp2_with(go_at_call 40;refine(wP _ _ _ _).mono ?_;rintro e w1⟨rfl,rfl⟩);go_round;case rel=>exact⟨k+1,by omega,by go_num,cU hkl HA.out (by rw[HK.out,hb,hb2];rfl)⟩
                   case measure=>simp[intOf];omega
              ·have E6:Hid (iF p=if p.qC.all (jR n1 n2)=false then 3 else kM p.qC):=by
                show iF p=_;rw[E5.out,nV HL.out.2.1 hlt HA.out];simp
               clear E5 HA;go_wp2_with fail;clear d0 d1 d2;go_loopw[11,12,13](λi _ _ wr=>∃k:Nat,k<=n3/\i=.int .i64 k/\(∀x∈p.qC.take k,jR n1 n2 x=true)/\Below W1.heap.size W1 wr)(λi _ _ _=>n3-(intOf i).toNat);case atStart=>exact⟨0,zA _,rfl,by simp,hB18⟩
               case round=>
                clear hB18 hB08;obtain⟨k,hk,rfl,ha,hB9⟩:=hrel;have HA:Hid (∀x∈p.qC.take k,jR n1 n2 x=true):=ha;clear ha;have s9:=hB9.size;have hB09:Below w.heap.size w wr:=hBw.trans (hB9.mono hBw.size);obtain⟨d0,d1,d2⟩:=BX.out wr hB9;by_cases hlt:k<n3
                ·have hkl:k<p.qC.length:=by rw[HL.out.2.2];exact hlt
                 obtain⟨g,o,rfl,hg,hx⟩:=K3.out.cells (by omega);have e1:=(hB9.cell (p:=⟨g,o+k*4,none⟩) hg).trans (hx k hkl).1;have e2:=(hB9.cell (p:=⟨g,o+k*4+1,none⟩) hg).trans (hx k hkl).2.1;have e3':=(hB9.cell (p:=⟨g,o+k*4+2,none⟩) hg).trans (hx k hkl).2.2.1;have e4':=(hB9.cell (p:=⟨g,o+k*4+3,none⟩) hg).trans (hx k hkl).2.2.2;obtain⟨x,hxx⟩:∃x,x=p.qC[k]:=⟨_,rfl⟩;rw[<-hxx]at e1 e2 e3' e4';have HX:Hid (x=p.qC[k]):=hxx;clear hx hxx;obtain⟨f,tp,t,pt⟩:=x;dsimp only at e1 e2 e3' e4';have HK:Hid (jR n1 n2 p.qC[k]=(pJ f 0 (n1-1)&&pJ t 0 ((if tp then n1 else n2:Nat)-1))):=by
                  rw[<-HX.out];show jR n1 n2 ⟨f,tp,t,pt⟩=_;unfold jR tG pJ;dsimp only;rw[jF];simp;omega
                 clear HX;cases hb:pJ f 0 (n1-1)with
                 |false=>
                   cases tp;all_goals
                    go_wp2_with(go_at_call 40;refine(wP _ _ _ _).mono ?_;rintro e w1⟨rfl,rfl⟩);go_ret;exact⟨tJ (by rw[E6.out,mL hkl (by rw[HK.out,hb];rfl)];simp),hB09.alloc (by have:=hBw.size;omega) _⟩
                 |true=>
                   cases tp with
                   |false=>
                     cases hb2:pJ t 0 (n2-1)with
                     |false=>
                       go_wp2_with(go_at_call 40;refine(wP _ _ _ _).mono ?_;rintro e w1⟨rfl,rfl⟩);go_ret;exact⟨tJ (by rw[E6.out,mL hkl (by rw[HK.out,hb];simpa using hb2)];simp),hB09.alloc (by have:=hBw.size;omega) _⟩
                     |true=>
                       go_wp2_with(go_at_call 40;refine(wP _ _ _ _).mono ?_;rintro e w1⟨rfl,rfl⟩);go_roundw;case rel=>exact⟨k+1,by omega,by go_num,cU hkl HA.out (by rw[HK.out,hb];simpa using hb2),hB9.alloc s9 _⟩
                       case measure=>simp[intOf];omega
                   |true=>
                     cases hb2:pJ t 0 (n1-1)with
                     |false=>
                       go_wp2_with(go_at_call 40;refine(wP _ _ _ _).mono ?_;rintro e w1⟨rfl,rfl⟩);go_ret;exact⟨tJ (by rw[E6.out,mL hkl (by rw[HK.out,hb];simpa using hb2)];simp),hB09.alloc (by have:=hBw.size;omega) _⟩
                     |true=>
                       go_wp2_with(go_at_call 40;refine(wP _ _ _ _).mono ?_;rintro e w1⟨rfl,rfl⟩);go_roundw;case rel=>exact⟨k+1,by omega,by go_num,cU hkl HA.out (by rw[HK.out,hb];simpa using hb2),hB9.alloc s9 _⟩
                       case measure=>simp[intOf];omega
                ·have E7:Hid (iF p=kM p.qC):=by
                  show iF p=_;rw[E6.out,nV HL.out.2.2 hlt HA.out];simp
                 clear E6 HA;go_wp2_with fail;clear d0 d1 d2;go_loopw[14,15](λi _ wr=>∃k:Nat,k<=n3/\i=.int .i64 k/\kM p.qC=kM (p.qC.drop k)/\Below W1.heap.size W1 wr)(λi _ _=>n3-(intOf i).toNat);case atStart=>exact⟨0,zA _,rfl,rfl,hB9⟩
                 case round=>
                  clear hB9 hB09 s9;obtain⟨k,hk,rfl,ha,hB9⟩:=hrel;have HA:Hid (kM p.qC=kM (p.qC.drop k)):=ha;clear ha;have s9:=hB9.size;have hB09:Below w.heap.size w wr:=hBw.trans (hB9.mono hBw.size);obtain⟨d0,d1,d2⟩:=BX.out wr hB9;by_cases hlt:k<n3
                  ·have hkl:k<p.qC.length:=by rw[HL.out.2.2];exact hlt
                   obtain⟨g,o,rfl,hg,hx⟩:=K3.out.cells (by omega);have e4':=(hB9.cell (p:=⟨g,o+k*4+3,none⟩) hg).trans (hx k hkl).2.2.2;obtain⟨pt,hpt⟩:∃pt,pt=p.qC[k].pat:=⟨_,rfl⟩;rw[<-hpt]at e4';have hd:p.qC.drop k=p.qC[k]::p.qC.drop (k+1):=vC hkl;obtain⟨d,hd2⟩:∃d,d=pK pt.data.toList:=⟨_,rfl⟩;have HD:Hid (d=pK pt.data.toList):=hd2;by_cases h0:d=0
                   ·have HF:Hid (kM p.qC=kM (p.qC.drop (k+1))):=by
                     show kM p.qC=_;rw[HA.out,hd,kM,qA (by rw[<-hpt,<-hd2];exact h0)]
                    clear hd hd2 hx hpt;subst h0;go_wp2_with(go_at_call 41;refine(MQ _ _).mono ?_;rintro e w1⟨rfl,hB10⟩;rw[<-HD.out]);go_roundw;case rel=>exact⟨k+1,by omega,by go_num,HF.out,hB9.trans (hB10.mono s9)⟩
                    case measure=>simp[intOf];omega
                   ·have h0':(d !=0)=true:=kD.2 h0;have HF:Hid (kM p.qC=d):=by
                     show kM p.qC=_;rw[HA.out,hd,kM,kA (by rw[<-hpt,<-hd2];exact h0),<-hpt];exact hd2.symm
                    clear hd hd2 h0 hx hpt;go_wp2_with(go_at_call 41;refine(MQ _ _).mono ?_;rintro e w1⟨rfl,hB10⟩;rw[<-HD.out]);go_ret;exact⟨tJ (by rw[E7.out,HF.out]),hB09.trans (hB10.mono (by have:=hB09.size;omega))⟩
                  ·go_wp2_with fail;go_ret;have e:p.qC.drop k=[]:=mD (by rw[HL.out.2.2];omega);exact⟨tJ (by rw[E7.out,HA.out,e];rfl),hB09⟩
theorem CJ(p:lD)(a1 a2 a3:Option Addr)(n1 c1 n2 c2 n3 c3:Nat)(w:World)(h1:p.nC.length=n1)(h2:p.jB.length=n2)(h3:p.qC.length=n3)
 (hs:kO p)(k1:lR w a1 p.nC)(k2:kR w a2 p.jB)(k3:wS w a3 p.qC):
 Calls Tryz.prog 13 #[.agg #[.slice a1 n1 c1,.slice a2 n2 c2,.slice a3 n3 c3]] w λe w'=>e=.returned (.int .i64 (iF p))/\Below w.heap.size w w':=by
 by_cases h:4<n1\/4<n2\/10<n3;·exact ZB p a1 a2 a3 n1 c1 n2 c2 n3 c3 w h1 h2 h3 h
 ·exact A0 p a1 a2 a3 n1 c1 n2 c2 n3 c3 w h1 h2 h3 h hs k1 k2 k3
theorem NY:∀{xs:List qS},kM xs=0->∀b∈xs,pK b.pat.data.toList=0
 |[],_,b,hb=>by simp at hb
 |x::r,h,b,hb=>by
   unfold kM at h;by_cases h0:pK x.pat.data.toList=0
   ·rw[qA h0]at h;rcases vH.1 hb with rfl|hb;·exact h0
    ·exact NY h b hb
   ·rw[kA h0]at h;exact absurd h h0
structure nP(p:lD):Prop where
 few:p.nC.length<=4/\p.jB.length<=4/\p.qC.length<=10
 kinds:∀x∈p.nC,x.kind=1\/x.kind=2\/x.kind=3
 jB:∀x∈p.jB,1<=x.yD/\x.yD<=6/\-1<=x.dead/\x.dead<p.nC.length
 src:∀b∈p.qC,0<=b.src/\b.src<p.nC.length
 dst:∀b∈p.qC,0<=b.dst/\b.dst<(if b.xF then p.nC.length else p.jB.length:Nat)
 pat:∀b∈p.qC,pK b.pat.data.toList=0
theorem gS{p:lD}(h:iF p=0):nP p:=by
 unfold iF at h;by_cases q1:4<p.nC.length\/4<p.jB.length\/10<p.qC.length;·rw[qA q1]at h;cases h
 rw[kA q1]at h;by_cases q2:((p.nC.map nL.name).all (λx=>jN x.data.toList)&&(p.jB.map kL.name).all (λx=>jN x.data.toList))=false;·rw[qA q2]at h;cases h
 rw[kA q2]at h;by_cases q3:(uK (p.nC.map nL.name)||uK (p.jB.map kL.name))=true;·rw[qA q3]at h;cases h
 rw[kA q3]at h;by_cases q4:p.nC.all aT=false;·rw[qA q4]at h;cases h
 rw[kA q4]at h;by_cases q5:(p.jB.all (sS p.nC.length)&&p.qC.all (jR p.nC.length p.jB.length))=false;·rw[qA q5]at h;cases h
 rw[kA q5]at h;simp only[Bool.not_eq_false,aC,qD]at q4 q5;refine⟨by omega,λx hx=>?_,λx hx=>?_,λb hb=>?_,λb hb=>?_,NY h⟩;·have:=q4 x hx;unfold aT pJ at this;simp at this;omega
 ·have:=q5.1 x hx;unfold sS pJ at this;simp at this;omega
 ·have:=q5.2 b hb;unfold jR tG at this;simp at this;omega
 ·have:=q5.2 b hb;unfold jR tG at this;simp at this;exact this.2
def nI(p:lD)(i:Nat)(key:ByteArray):Bool:=
 match p.qC[i]? with
 |none=>false
 |some b=>match p.nC[b.src.toNat]? with
   |none=>false
   |some x=>if x.kind=1 then key.data.toList==b.pat.data.toList else if x.kind=2 then true else yN b.pat.data.toList key.data.toList
def oO(p:lD)(n:Int)(key:ByteArray):Int:=if iF p=0 then(if tG n p.qC.length=true then kG key.data.toList else 5)else iF p
def kN(p:lD)(n:Int)(key:ByteArray):Bool:=if oO p n key=0 then nI p n.toNat key else false
theorem UH{p:lD}(h:nP p){i:Nat}(hi:i<p.qC.length):∃j:Nat,∃hj:j<p.nC.length,p.qC[i].src=j/\
 ((p.nC[j].kind=1/\∀key,nI p i key=(key.data.toList==p.qC[i].pat.data.toList))\/(p.nC[j].kind=2/\∀key,nI p i key=true)\/(p.nC[j].kind=3/\∀key,nI p i key=yN p.qC[i].pat.data.toList key.data.toList)):=by
 obtain⟨s1,s2⟩:=h.src _ (qB hi);obtain⟨j,hj⟩:=oE s1;have hj':j<p.nC.length:=by omega
 refine⟨j,hj',hj,?_⟩;have e:∀key,nI p i key=if p.nC[j].kind=1 then key.data.toList==p.qC[i].pat.data.toList else if p.nC[j].kind=2 then true else yN p.qC[i].pat.data.toList key.data.toList:=by
  intro key;unfold nI;rw[tA hi];simp only;rw[hj,Int.toNat_natCast,tA hj']
 rcases h.kinds _ (qB hj')with k|k|k;·exact .inl ⟨k,λkey=>by rw[e,qA k]⟩
 ·exact .inr (.inl ⟨k,λkey=>by rw[e,kA (by omega),qA k]⟩)
 ·exact .inr (.inr ⟨k,λkey=>by rw[e,kA (by omega),kA (by omega)]⟩)
theorem SD(a b:List UInt8):(a==b)=decide (a=b):=by by_cases e:a=b<;>simp[e]
theorem LV(n:Int)(m:Nat):pJ n 0 (m-1)=tG n m:=by unfold pJ tG;rw[jF];simp;omega
theorem MD{a b:Bool}{x y:Int}(h:a=b)(h2:x=y):Ending.returned (.tuple #[.bool a,.int .i64 x])=.returned (.tuple #[.bool b,.int .i64 y]):=by rw[h,h2]
structure sG(W:World)(a1 a2 a3:Option Addr)(n1 n2 n3:Nat)(p:lD):Prop where
 l1:p.nC.length=n1
 l2:p.jB.length=n2
 l3:p.qC.length=n3
 sz:kO p
 p1:lR W a1 p.nC
 p2:kR W a2 p.jB
 p3:wS W a3 p.qC
theorem sG.sA{W W':World}{a1 a2 a3:Option Addr}{n1 n2 n3:Nat}{p:lD}(h:sG W a1 a2 a3 n1 n2 n3 p)(hB:Below W.heap.size W W'):sG W' a1 a2 a3 n1 n2 n3 p:=
 ⟨h.l1,h.l2,h.l3,h.sz,h.p1.sA hB,h.p2.sA hB,h.p3.sA hB⟩
theorem AC(w:World)(v1 v2 v3:Value)(t:TypeId):∃W1,W1=w.alloc (.cells #[v1,v2,v3] t)/\Below w.heap.size w W1/\W1.heap.size=w.heap.size+1/\
 ∀W,Below W1.heap.size W1 W->W.cell? ⟨w.heap.size,0,none⟩=some v1/\W.cell? ⟨w.heap.size,1,none⟩=some v2/\W.cell? ⟨w.heap.size,2,none⟩=some v3:=by
 obtain⟨b0,b1,b2⟩:=GC w v1 v2 v3 t;have hs:(w.alloc (.cells #[v1,v2,v3] t)).heap.size=w.heap.size+1:=by simp
 exact⟨_,rfl,(dA _ _).alloc (eA _) _,hs,λW hW=>⟨(hW.cell (p:=⟨w.heap.size,0,none⟩) (by show w.heap.size<_;omega)).trans b0,(hW.cell (p:=⟨w.heap.size,1,none⟩) (by show w.heap.size<_;omega)).trans b1,(hW.cell (p:=⟨w.heap.size,2,none⟩) (by show w.heap.size<_;omega)).trans b2⟩⟩
theorem N6(p:lD)(a1 a2 a3:Option Addr)(n1 c1 n2 c2 n3 c3:Nat)(n:Int)(key:ByteArray)(w:World)(hp:sG w a1 a2 a3 n1 n2 n3 p):
 Calls Tryz.prog 204 #[.agg #[.slice a1 n1 c1,.slice a2 n2 c2,.slice a3 n3 c3],.int .i64 n,.string key] w λe w'=>e=.returned (.tuple #[.bool (kN p n key),.int .i64 (oO p n key)])/\Below w.heap.size w w':=by
 obtain⟨W1,hW1,hBw,hs1,hbx⟩:=AC w (.slice a1 n1 c1) (.slice a2 n2 c2) (.slice a3 n3 c3) 26;have HP1:Hid (sG W1 a1 a2 a3 n1 n2 n3 p):=hp.sA hBw;have HP:Hid (sG w a1 a2 a3 n1 n2 n3 p):=hp;have BX:Hid (∀W,Below W1.heap.size W1 W->W.cell? ⟨w.heap.size,0,none⟩=some (.slice a1 n1 c1)/\W.cell? ⟨w.heap.size,1,none⟩=some (.slice a2 n2 c2)/\W.cell? ⟨w.heap.size,2,none⟩=some (.slice a3 n3 c3)):=hbx;have hlt1:w.heap.size<W1.heap.size:=by omega
 clear hp hbx hs1;obtain⟨d,hd⟩:∃d,d=iF p:=⟨_,rfl⟩;have HD:Hid (d=iF p):=hd;by_cases h0:d=0
 ·have HR:Hid (nP p):=gS (by rw[<-hd];exact h0);have F1:Hid (oO p n key=if tG n n3=true then kG key.data.toList else 5):=by
   show oO p n key=_;unfold oO;rw[qA (by rw[<-hd];exact h0),HP.out.l3]
  clear hd;subst h0;cases hnum:tG n n3 with
  |false=>
    have F2:Hid (oO p n key=5):=by show oO p n key=5;rw[F1.out,hnum];simp
    have F3:Hid (kN p n key=false):=by show kN p n key=false;unfold kN;rw[F2.out];simp
    rw[F2.out,F3.out];go_enter Tryz.func204,Tryz.ntmps204;go_wp2_with fail;rw[<-hW1];clear hW1;refine(cX p _ _ _ _ _ _ _ _ _ _ HP1.out.l1 HP1.out.l2 HP1.out.l3 HP1.out.sz HP1.out.p1 HP1.out.p2 HP1.out.p3).mono ?_;rintro e w2⟨rfl,hB2⟩;rw[<-HD.out];obtain⟨d0,d1,d2⟩:=BX.out w2 hB2;go_wp2_with(go_at_call 214;refine(IF _ _ _ _ _).mono ?_;rintro e w3⟨rfl,rfl⟩);go_ret2;exact⟨rfl,hBw.trans (hB2.mono hBw.size)⟩
  |true=>
    have F2:Hid (oO p n key=kG key.data.toList):=by show oO p n key=_;rw[F1.out,hnum];simp
    obtain⟨i,rfl⟩:=oE (cP.1 hnum).1;have hi:i<n3:=by have:=(cP.1 hnum).2;omega
    by_cases hk:kG key.data.toList=0
    ·have F3:Hid (kN p i key=nI p i key):=by show kN p i key=_;unfold kN;rw[F2.out,qA hk,Int.toNat_natCast]
     rw[F2.out,F3.out,hk];have hil:i<p.qC.length:=by rw[HP.out.l3];exact hi
     obtain⟨j,hj,hsrc,hkind⟩:=UH HR.out hil;obtain⟨g3,o3,rfl,hg3,hx3⟩:=HP1.out.p3.cells (by omega);obtain⟨g1,o1,rfl,hg1,hx1⟩:=HP1.out.p1.cells (by omega);have hpe:=HR.out.pat _ (qB hil);obtain⟨x,hx⟩:∃x,x=p.qC[i]:=⟨_,rfl⟩;obtain⟨y,hy⟩:∃y,y=p.nC[j]:=⟨_,rfl⟩;have e3:=hx3 i hil;have e1:=hx1 j hj;rw[<-hx]at hsrc hkind e3 hpe;rw[<-hy]at hkind e1;obtain⟨f,tp,t,pt⟩:=x;obtain⟨nm,kd⟩:=y;dsimp only at hsrc hkind e3 e1 hpe;subst hsrc;have hjn:j<n1:=by rw[<-HP.out.l1];exact hj
     obtain⟨xs,hxs⟩:∃xs,xs=wI key.data.toList:=⟨_,rfl⟩;have HS:Hid (∀w,Calls Tryz.prog 202 #[.string key] w λe w'=>∃g cap,e=.returned (.tuple #[.slice (some ⟨g,0,none⟩) xs.length cap,.int .i64 0])/\w.heap.size<=g/\xs.length<=cap/\cap<=maxLen/\qM w' g 0 xs/\Below w.heap.size w w'):=λw=>FL key xs hxs w hk;have HM:Hid (∀w,Calls Tryz.prog 215 #[.string pt,.string key] w λe w'=>e=.returned (.tuple #[.bool (yN pt.data.toList key.data.toList),.int .i64 0])/\Below w.heap.size w w'):=λw=>by
      have h:=I8 pt key w;rw[show wW pt.data.toList key.data.toList=yN pt.data.toList key.data.toList from by simp[wW,mN,hpe,hk],show mN pt.data.toList key.data.toList=0 from by simp[mN,hpe,hk]]at h;exact h
     have HE:Hid ((W1.cell? ⟨g3,o3+i*4,none⟩=some (.int .i64 (j:Int))/\W1.cell? ⟨g3,o3+i*4+1,none⟩=some (.bool tp)/\W1.cell? ⟨g3,o3+i*4+2,none⟩=some (.int .i64 t)/\W1.cell? ⟨g3,o3+i*4+3,none⟩=some (.string pt))/\W1.cell? ⟨g1,o1+j*2+1,none⟩=some (.int .i64 kd)):=⟨e3,e1.2⟩;have HKD:Hid ((kd=1/\∀key,nI p i key=(key.data.toList==pt.data.toList))\/(kd=2/\∀key,nI p i key=true)\/(kd=3/\∀key,nI p i key=yN pt.data.toList key.data.toList)):=hkind;have hin:(i:Int)<n3:=by omega
     have hjn':(j:Int)<n1:=by omega
     clear hk hx hy hxs hpe hx3 hx1 e3 e1 hkind F2 F3 F1;go_enter Tryz.func204,Tryz.ntmps204;go_wp2_with fail;rw[<-hW1];clear hW1;refine(cX p _ _ _ _ _ _ _ _ _ _ HP1.out.l1 HP1.out.l2 HP1.out.l3 HP1.out.sz HP1.out.p1 HP1.out.p2 HP1.out.p3).mono ?_;rintro e w2⟨rfl,hB2⟩;rw[<-HD.out];obtain⟨d0,d1,d2⟩:=BX.out w2 hB2;go_wp2_with(go_at_call 214;refine(IF _ _ _ _ _).mono ?_;rintro e w3⟨rfl,rfl⟩);refine(HS.out _).mono ?_;rintro e w4⟨gs,cs,rfl,_,_,_,_,hB4⟩;clear d0 d1 d2;have s2:=hB2.size;have s4:=hB4.size;have hB14:Below W1.heap.size W1 w4:=hB2.trans (hB4.mono s2);obtain⟨d0,d1,d2⟩:=BX.out w4 hB14;have z1:=(hB14.cell (p:=⟨g3,o3+i*4,none⟩) hg3).trans HE.out.1.1;have z2:=(hB14.cell (p:=⟨g3,o3+i*4+1,none⟩) hg3).trans HE.out.1.2.1;have z3:=(hB14.cell (p:=⟨g3,o3+i*4+2,none⟩) hg3).trans HE.out.1.2.2.1;have z4:=(hB14.cell (p:=⟨g3,o3+i*4+3,none⟩) hg3).trans HE.out.1.2.2.2;have z5:=(hB14.cell (p:=⟨g1,o1+j*2+1,none⟩) hg1).trans HE.out.2;have hg1':g1<w4.heap.size:=by omega
     have hww:w.heap.size<w4.heap.size:=by omega
     have hB04:Below w.heap.size w w4:=hBw.trans (hB14.mono hBw.size);rcases HKD.out with⟨rfl,hf⟩|⟨rfl,hf⟩|⟨rfl,hf⟩
     ·have HF:Hid (nI p i key=(key.data.toList==pt.data.toList)):=hf key;clear hf HKD;go_wp2_with fail;go_ret2;exact⟨MD (by rw[HF.out,<-zC,<-zC]) rfl,hB04.alloc (by omega) _⟩
     ·have HF:Hid (nI p i key=true):=hf key;clear hf HKD;go_wp2_with fail;go_ret2;exact⟨MD HF.out.symm rfl,hB04.alloc (by omega) _⟩
     ·have HF:Hid (nI p i key=yN pt.data.toList key.data.toList):=hf key;clear hf HKD;go_wp2_with fail;refine(HM.out _).mono ?_;rintro e w6⟨rfl,hB6⟩;go_wp2_with fail;go_ret2;exact⟨MD HF.out.symm rfl,(hB04.alloc (by omega) _).trans (hB6.mono (by simp;omega))⟩
    ·have F3:Hid (kN p i key=false):=by show kN p i key=false;unfold kN;rw[F2.out,kA hk]
     rw[F2.out,F3.out];have hk':(kG key.data.toList !=0)=true:=kD.2 hk;have HSP:=EU key;obtain⟨dk,hdk⟩:∃dk,dk=kG key.data.toList:=⟨_,rfl⟩;have HC:Hid (∀w,Calls Tryz.prog 202 #[.string key] w λe w'=>e=.returned (.tuple #[.slice none 0 0,.int .i64 dk])/\Below w.heap.size w w'):=λw=>by rw[hdk];exact HSP w hk
     rw[<-hdk]at hk'⊢;clear hdk hk HSP F2;go_enter Tryz.func204,Tryz.ntmps204;go_wp2_with fail;rw[<-hW1];clear hW1;refine(cX p _ _ _ _ _ _ _ _ _ _ HP1.out.l1 HP1.out.l2 HP1.out.l3 HP1.out.sz HP1.out.p1 HP1.out.p2 HP1.out.p3).mono ?_;rintro e w2⟨rfl,hB2⟩;rw[<-HD.out];obtain⟨d0,d1,d2⟩:=BX.out w2 hB2;go_wp2_with(first
      |(go_at_call 214;refine(IF _ _ _ _ _).mono ?_;rintro e w3⟨rfl,rfl⟩)
      |(go_at_call 202;refine(HC.out _).mono ?_;rintro e w4⟨rfl,hB4⟩));go_ret2;have s2:=hB2.size;exact⟨rfl,hBw.trans ((hB2.mono hBw.size).trans (hB4.mono (by omega)))⟩
 ·have F1:Hid (oO p n key=d):=by show oO p n key=d;unfold oO;rw[kA (by rw[<-hd];exact h0),hd]
  have F2:Hid (kN p n key=false):=by show kN p n key=false;unfold kN;rw[F1.out,kA h0]
  have h0':(d !=0)=true:=kD.2 h0;rw[F1.out,F2.out];clear h0 hd;go_enter Tryz.func204,Tryz.ntmps204;go_wp2_with fail;rw[<-hW1];clear hW1;refine(cX p _ _ _ _ _ _ _ _ _ _ HP1.out.l1 HP1.out.l2 HP1.out.l3 HP1.out.sz HP1.out.p1 HP1.out.p2 HP1.out.p3).mono ?_;rintro e w2⟨rfl,hB2⟩;rw[<-HD.out];go_wp2_with fail;go_ret2;exact⟨rfl,hBw.trans (hB2.mono hBw.size)⟩
theorem QZ(p:lD)(a1 a2 a3:Option Addr)(n1 c1 n2 c2 n3 c3:Nat)(i:Nat)(key:ByteArray)(w:World)(hp:sG w a1 a2 a3 n1 n2 n3 p)(hr:nP p)(hi:i<n3)(hk:key.size<=24):
 Calls Tryz.prog 123 #[.agg #[.slice a1 n1 c1,.slice a2 n2 c2,.slice a3 n3 c3],.int .i64 i,.string key] w λe w'=>e=.returned (.bool (nI p i key))/\Below w.heap.size w w':=by
 have HP1:Hid (sG w a1 a2 a3 n1 n2 n3 p):=hp;have hil:i<p.qC.length:=by rw[hp.l3];exact hi
 obtain⟨j,hj,hsrc,hkind⟩:=UH hr hil;obtain⟨g3,o3,rfl,hg3,hx3⟩:=HP1.out.p3.cells (by omega);obtain⟨g1,o1,rfl,hg1,hx1⟩:=HP1.out.p1.cells (by omega);have hpe:=hr.pat _ (qB hil);obtain⟨x,hx⟩:∃x,x=p.qC[i]:=⟨_,rfl⟩;obtain⟨y,hy⟩:∃y,y=p.nC[j]:=⟨_,rfl⟩;have e3:=hx3 i hil;have e1:=(hx1 j hj).2;rw[<-hx]at hsrc hkind e3 hpe;rw[<-hy]at hkind e1;obtain⟨f,tp,t,pt⟩:=x;obtain⟨nm,kd⟩:=y;dsimp only at hsrc hkind e3 e1 hpe;subst hsrc;obtain⟨z1,z2,z3,z4⟩:=e3;have hjn:j<n1:=by rw[<-hp.l1];exact hj
 have hpt:pt.size<=24:=by have:=(BQ hpe).1;simpa using this
 have HKD:Hid ((kd=1/\∀key,nI p i key=(key.data.toList==pt.data.toList))\/(kd=2/\∀key,nI p i key=true)\/(kd=3/\∀key,nI p i key=yN pt.data.toList key.data.toList)):=hkind;have hin:(i:Int)<n3:=by omega
 have hjn':(j:Int)<n1:=by omega
 clear hp hx hy hpe hx3 hx1 hkind HP1 hr;rcases HKD.out with⟨rfl,hf⟩|⟨rfl,hf⟩|⟨rfl,hf⟩;·have HF:Hid (nI p i key=(key.data.toList==pt.data.toList)):=hf key;clear hf HKD;go_enter Tryz.func123,Tryz.ntmps123;go_wp2_with fail;go_ret;exact⟨eL (by rw[HF.out,zC,zC,SD,SD];simp[eq_comm]),(by repeat(first|exact dA _ _|assumption|refine nE ?_|refine cE ?_ (by first|(simp;done)|(simp;omega)|omega) _|refine pD ?_ (by first|(simp;done)|(simp;omega)|omega) _))⟩
 ·have HF:Hid (nI p i key=true):=hf key;clear hf HKD;go_enter Tryz.func123,Tryz.ntmps123;go_wp2_with fail;go_ret;exact⟨eL HF.out.symm,(by repeat(first|exact dA _ _|assumption|refine nE ?_|refine cE ?_ (by first|(simp;done)|(simp;omega)|omega) _|refine pD ?_ (by first|(simp;done)|(simp;omega)|omega) _))⟩
 ·have HF:Hid (nI p i key=yN pt.data.toList key.data.toList):=hf key;clear hf HKD;go_enter Tryz.func123,Tryz.ntmps123;go_wp2_with fail;refine(V6 _ _ _ hpt hk).mono ?_;rintro e w6⟨rfl,hB6⟩;go_wp2_with fail;go_ret;exact⟨eL HF.out.symm,Below.trans (b:=(w.alloc (.cells #[.slice (some ⟨g1,o1,none⟩) n1 c1,.slice a2 n2 c2,.slice (some ⟨g3,o3,none⟩) n3 c3] 26)).alloc (.cells #[.int .i64 j,.bool tp,.int .i64 t,.string pt] 74)) (by repeat(first|exact dA _ _|assumption|refine nE ?_|refine cE ?_ (by first|(simp;done)|(simp;omega)|omega) _|refine pD ?_ (by first|(simp;done)|(simp;omega)|omega) _)) (hB6.mono (by simp;omega))⟩
def mX:lD:={
 nC:=[⟨⟨#[109,97,105,110]⟩,3⟩,⟨⟨#[97,108,108]⟩,2⟩,⟨⟨#[100,101,97,100]⟩,1⟩]
 jB:=[⟨⟨#[97]⟩,2,2⟩,⟨⟨#[98]⟩,3,-1⟩,⟨⟨#[100]⟩,2,-1⟩]
 qC:=[⟨0,false,0,⟨#[120,46,35]⟩⟩,⟨0,true,1,⟨#[42,46,121]⟩⟩,⟨1,false,1,⟨#[35]⟩⟩,⟨1,true,0,⟨#[35]⟩⟩,⟨2,false,2,⟨#[120,46,121]⟩⟩]}
def qj_:Array Value:=#[.string ⟨#[109,97,105,110]⟩,.int .i64 3,.string ⟨#[97,108,108]⟩,.int .i64 2,.string ⟨#[100,101,97,100]⟩,.int .i64 1]
def Y6:Array Value:=#[.string ⟨#[97]⟩,.int .i64 2,.int .i64 2,.string ⟨#[98]⟩,.int .i64 3,.int .i64 (-1),.string ⟨#[100]⟩,.int .i64 2,.int .i64 (-1)]
def DP:Array Value:=#[.int .i64 0,.bool false,.int .i64 0,.string ⟨#[120,46,35]⟩,.int .i64 0,.bool true,.int .i64 1,.string ⟨#[42,46,121]⟩,.int .i64 1,.bool false,.int .i64 1,.string ⟨#[35]⟩,.int .i64 1,.bool true,.int .i64 0,.string ⟨#[35]⟩,.int .i64 2,.bool false,.int .i64 2,.string ⟨#[120,46,121]⟩]
theorem F_(w:World)(A B C D:Obj):((((w.alloc A).alloc B).alloc C).alloc D).heap.size=w.heap.size+4/\((((w.alloc A).alloc B).alloc C).alloc D).heap[w.heap.size+1]?=some B/\((((w.alloc A).alloc B).alloc C).alloc D).heap[w.heap.size+1+1]?=some C/\((((w.alloc A).alloc B).alloc C).alloc D).heap[w.heap.size+1+1+1]?=some D:=by
 have hB:=jA (w.alloc A) B;have hC:=jA ((w.alloc A).alloc B) C;have hD:=jA (((w.alloc A).alloc B).alloc C) D;simp only[pC]at hB hC hD;refine⟨by simp only[pC],?_,?_,hD⟩;·rw[lE _ _ _ (by simp only[pC];omega),lE _ _ _ (by simp only[pC];omega)];exact hB
 ·rw[lE _ _ _ (by simp only[pC];omega)];exact hC
theorem yB{W:World}{b:Nat}{cs:Array Value}{t:TypeId}(h:W.heap[b]?=some (.cells cs t (0,0)))(i:Nat):W.cell? ⟨b,i,none⟩=cs[i]?:=by
 unfold World.cell?;simp only;rw[h];simp
theorem pA{W:World}{b:Nat}{cs:Array Value}{t:TypeId}(h:W.heap[b]?=some (.cells cs t (0,0)))(i:Nat):W.frozen? ⟨b,i,none⟩=false:=by
 simp[World.frozen?,h]
theorem bE{W:World}{b:Nat}{o:Obj}(h:W.heap[b]?=some o):b<W.heap.size:=(iC.1 h).1
theorem M0{W:World}{b:Nat}{cs:Array Value}{t:TypeId}(h:W.heap[b]?=some (.cells cs t (0,0)))(xs:List nL)
 (hc:∀i(hi:i<xs.length),cs[i*2]?=some (.string xs[i].name)/\cs[i*2+1]?=some (.int .i64 xs[i].kind)):lR W (some ⟨b,0,none⟩) xs:=
 .inr ⟨b,0,rfl,bE h,λi hi=>by simp only[uD,yB h];exact hc i hi⟩
theorem YZ{W:World}{b:Nat}{cs:Array Value}{t:TypeId}(h:W.heap[b]?=some (.cells cs t (0,0)))(xs:List kL)
 (hc:∀i(hi:i<xs.length),cs[i*3]?=some (.string xs[i].name)/\cs[i*3+1]?=some (.int .i64 xs[i].yD)/\cs[i*3+2]?=some (.int .i64 xs[i].dead)):kR W (some ⟨b,0,none⟩) xs:=
 .inr ⟨b,0,rfl,bE h,λi hi=>by simp only[uD,yB h];exact hc i hi⟩
theorem S2{W:World}{b:Nat}{cs:Array Value}{t:TypeId}(h:W.heap[b]?=some (.cells cs t (0,0)))(xs:List qS)
 (hc:∀i(hi:i<xs.length),cs[i*4]?=some (.int .i64 xs[i].src)/\cs[i*4+1]?=some (.bool xs[i].xF)/\cs[i*4+2]?=some (.int .i64 xs[i].dst)/\cs[i*4+3]?=some (.string xs[i].pat)):wS W (some ⟨b,0,none⟩) xs:=
 .inr ⟨b,0,rfl,bE h,λi hi=>by simp only[uD,yB h];exact hc i hi⟩
theorem n7(w:World):Calls Tryz.prog 17 #[] w λe w'=>e=.returned (.agg #[.slice (some ⟨w.heap.size+1,0,none⟩) 3 3,.slice (some ⟨w.heap.size+1+1,0,none⟩) 3 3,.slice (some ⟨w.heap.size+1+1+1,0,none⟩) 5 5])/\
 Below w.heap.size w w'/\w'.heap.size=w.heap.size+4/\w'.heap[w.heap.size+1]?=some (.cells qj_ 55 (0,0))/\w'.heap[w.heap.size+1+1]?=some (.cells Y6 59 (0,0))/\w'.heap[w.heap.size+1+1+1]?=some (.cells DP 74 (0,0)):=by
 go_enter Tryz.func17,Tryz.ntmps17;go_wp2_with fail;exact dB (v:=.agg #[.slice (some ⟨w.heap.size+1,0,none⟩) 3 3,.slice (some ⟨w.heap.size+1+1,0,none⟩) 3 3,.slice (some ⟨w.heap.size+1+1+1,0,none⟩) 5 5]) (by simp[results,Tryz.results17,go_sem]) rfl ⟨rfl,(by repeat(first|exact dA _ _|assumption|refine nE ?_|refine cE ?_ (by first|(simp;done)|(simp;omega)|omega) _|refine pD ?_ (by first|(simp;done)|(simp;omega)|omega) _)),F_ w _ _ _ _⟩
theorem ZE{p:lD}(h:((p.nC.map nL.name).all (λx=>decide (x.size<=100))&&(p.jB.map kL.name).all (λx=>decide (x.size<=100)))=true):kO p:=by
 rw[aC,qD,qD]at h;unfold kO maxLen;exact⟨λx hx=>by have:=h.1 x hx;simp at this;omega,λx hx=>by have:=h.2 x hx;simp at this;omega⟩
theorem AV{cs:Array Value}{x y z:nL}(h:cs=#[.string x.name,.int .i64 x.kind,.string y.name,.int .i64 y.kind,.string z.name,.int .i64 z.kind]):∀i(hi:i<[x,y,z].length),cs[i*2]?=some (.string [x,y,z][i].name)/\cs[i*2+1]?=some (.int .i64 [x,y,z][i].kind):=by
 subst h;intro i hi;match i,hi with
 |0,_=>exact⟨rfl,rfl⟩
 |1,_=>exact⟨rfl,rfl⟩
 |2,_=>exact⟨rfl,rfl⟩
theorem oY{cs:Array Value}{x y z:kL}(h:cs=#[.string x.name,.int .i64 x.yD,.int .i64 x.dead,.string y.name,.int .i64 y.yD,.int .i64 y.dead,.string z.name,.int .i64 z.yD,.int .i64 z.dead]):∀i(hi:i<[x,y,z].length),cs[i*3]?=some (.string [x,y,z][i].name)/\cs[i*3+1]?=some (.int .i64 [x,y,z][i].yD)/\cs[i*3+2]?=some (.int .i64 [x,y,z][i].dead):=by
 subst h;intro i hi;match i,hi with
 |0,_=>exact⟨rfl,rfl,rfl⟩
 |1,_=>exact⟨rfl,rfl,rfl⟩
 |2,_=>exact⟨rfl,rfl,rfl⟩
theorem vZ:∀i(hi:i<mX.qC.length),DP[i*4]?=some (.int .i64 mX.qC[i].src)/\DP[i*4+1]?=some (.bool mX.qC[i].xF)/\DP[i*4+2]?=some (.int .i64 mX.qC[i].dst)/\DP[i*4+3]?=some (.string mX.qC[i].pat):=by
 intro i hi;match i,hi with
 |0,_=>exact⟨rfl,rfl,rfl,rfl⟩
 |1,_=>exact⟨rfl,rfl,rfl,rfl⟩
 |2,_=>exact⟨rfl,rfl,rfl,rfl⟩
 |3,_=>exact⟨rfl,rfl,rfl,rfl⟩
 |4,_=>exact⟨rfl,rfl,rfl,rfl⟩
theorem n6(w:World):Calls Tryz.prog 17 #[] w λe w'=>e=.returned (.agg #[.slice (some ⟨w.heap.size+1,0,none⟩) 3 3,.slice (some ⟨w.heap.size+1+1,0,none⟩) 3 3,.slice (some ⟨w.heap.size+1+1+1,0,none⟩) 5 5])/\
 Below w.heap.size w w'/\sG w' (some ⟨w.heap.size+1,0,none⟩) (some ⟨w.heap.size+1+1,0,none⟩) (some ⟨w.heap.size+1+1+1,0,none⟩) 3 3 5 mX:=by
 refine(n7 w).mono ?_;rintro e w'⟨rfl,hB,hs,h1,h2,h3⟩;exact⟨rfl,hB,⟨rfl,rfl,rfl,ZE (by decide+kernel),M0 h1 _ (AV rfl),YZ h2 _ (oY rfl),S2 h3 _ vZ⟩⟩
theorem bG{W:World}{b j:Nat}{cs:Array Value}{t:TypeId}(h:W.heap[b]?=some (.cells cs t (0,0)))(u:Value):(W.setCell ⟨b,j,none⟩ u).heap[b]?=some (.cells (cs.setIfInBounds j u) t (0,0)):=heap_setCell_same W b j cs t u h
end Go.Proofs.YtedmnjimkhamaaaGreatDoor
