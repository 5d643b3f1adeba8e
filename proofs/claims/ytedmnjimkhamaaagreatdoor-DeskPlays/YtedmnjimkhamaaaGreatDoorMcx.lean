import Derived.Test.YtedmnjimkhamaaaGreatDoorMbx
import Derived.Deep.RegionHeld3
import Derived.ProofKit
import Derived.Lib.ItoaNum
import Derived.Deep.DeepCutAuto
import Derived.Maps.OwnIn
namespace Go.Proofs.YtedmnjimkhamaaaGreatDoor
set_option linter.unusedVariables false
set_option maxRecDepth 100000
set_option maxHeartbeats 4000000
open Go.RowKit
abbrev fD:=@Go.AllReadyH.cons
abbrev lF:=@Go.AllReadyH.nil
abbrev gC:=@Go.wpAnyH_done
abbrev vF:=@Go.wpAnyH_ready
abbrev zB:=@Go.wp_region_held_drew
def aK(d:Int):Ending:=.panicked [{v:=.iface 27 (.int .i64 d),recovered:=false}]
def xR:Ending:=.returned (.tuple #[])
def zK(d:Int):Ending:=if d=0 then xR else aK d
theorem dV:zK 0=xR:=rfl
theorem eX{d:Int}(h:d≠0):zK d=aK d:=kA h
theorem fQ(w:World)(bs:List Bool):lO (w.alloc (.cells (bs.map Value.bool).toArray 4)) w.heap.size 0 bs:=by
 intro i hi;have h:=jA w (.cells (bs.map Value.bool).toArray 4);rw[yB h];simp[hi]
theorem PQ(bs:List Bool)(g n c:Nat)(w:World)(hn:bs.length=n)(hm:n<=100)(h:lO w g 0 bs):
 Calls Tryz.prog 163 #[.slice (some ⟨g,0,none⟩) n c,.bool true] w λe w'=>∃i:Int,e=.returned (.int .i64 i)/\(0<=i↔true∈bs)/\w'=w:=by
 have HN:Hid (bs.length=n):=hn;have H:Hid (lO w g 0 bs):=h;clear hn h;go_enter Tryz.func163,Tryz.ntmps163;go_wp2_with fail;go_loopw[5,8](λ_ i wr=>∃(k:Nat),k<=n/\i=.int .i64 k/\(true∉bs.take k)/\wr=w)(λ_ i _=>n-(intOf i).toNat);case atStart=>exact⟨0,zA _,rfl,by simp,rfl⟩
 case round=>
  obtain⟨k,hk,rfl,hno,rfl⟩:=hrel;have HNO:Hid (true∉bs.take k):=hno;clear hno;by_cases hlt:k<n
  ·have hkl:k<bs.length:=by rw[HN.out];exact hlt
   have d1:=H.out k hkl;rw[uD]at d1;have HKM:Hid (bs[k]∈bs):=qB hkl;have HTK:Hid (bs.take (k+1)=bs.take k++[bs[k]]):=rA hkl;obtain⟨y,hy⟩:∃y,y=bs[k]:=⟨_,rfl⟩;rw[<-hy]at d1 HKM HTK;have j1:(0:Int)<=(k:Int):=by omega
   have j2:(k:Int)<n:=by omega
   clear hy;cases y with
   |true=>
     go_wp2_with fail;go_ret;exact⟨k,rfl,⟨λ_=>HKM.out,λ_=>by omega⟩,rfl⟩
   |false=>
     go_wp2_with fail;go_roundw;case rel=>exact⟨k+1,by omega,by go_num,by rw[HTK.out,oC,tC];exact λh=>h.elim HNO.out (λe=>nomatch e),by first|trivial|rfl⟩
     case measure=>simp[intOf];omega
  ·have hke:k=n:=by omega
   subst hke;clear hlt hk;go_wp2_with fail;go_ret;refine⟨-1,rfl,⟨λh=>by omega,λh=>?_⟩,rfl⟩;have:=HNO.out;rw[<-HN.out,tP]at this;exact absurd h this
theorem aN(d:Int)(bs:List Bool)(g:Nat)(w:World)(hm:bs.length<=100)(h:lO w g 0 bs)(hb:true∈bs):
 Calls Tryz.prog 73 #[.int .i64 d,.slice (some ⟨g,0,none⟩) bs.length bs.length] w λe w'=>e=.panicked [{v:=.iface 27 (.int .i64 d),recovered:=false}]/\w'=w:=by
 obtain⟨n,hn⟩:∃n,n=bs.length:=⟨_,rfl⟩;rw[<-hn]at hm⊢;have HN:Hid (n=bs.length):=hn;have H:Hid (lO w g 0 bs):=h;have HB:Hid (true∈bs):=hb;clear hn h hb;go_enter Tryz.func73,Tryz.ntmps73;go_wp2_with(first|(go_at_call 163;refine(PQ bs g _ _ _ HN.out.symm hm H.out).mono ?_;rintro e w2⟨i,rfl,hi,rfl⟩;have hi0:(0:Int)<=i:=hi.2 HB.out;clear hi)|go_in);first
  |exact⟨rfl,rfl,rfl⟩
  |(go_end0;exact⟨rfl,rfl⟩)
theorem zM(d:Int)(bs:List Bool)(g:Nat)(w:World)(hm:bs.length<=100)(h:lO w g 0 bs)(hb:true∉bs):
 Calls Tryz.prog 73 #[.int .i64 d,.slice (some ⟨g,0,none⟩) bs.length bs.length] w λe w'=>e=.returned (.tuple #[])/\w'=w:=by
 obtain⟨n,hn⟩:∃n,n=bs.length:=⟨_,rfl⟩;rw[<-hn]at hm⊢;have HN:Hid (n=bs.length):=hn;have H:Hid (lO w g 0 bs):=h;have HB:Hid (true∉bs):=hb;clear hn h hb;go_enter Tryz.func73,Tryz.ntmps73;go_wp2_with(first|(go_at_call 163;refine(PQ bs g _ _ _ HN.out.symm hm H.out).mono ?_;rintro e w2⟨i,rfl,hi,rfl⟩;have hi0:¬(0:Int)<=i:=λh=>HB.out (hi.1 h);clear hi)|go_in);first
  |exact⟨rfl,rfl,rfl⟩
  |(go_end0;exact⟨rfl,rfl⟩)
theorem qV(d:Int)(g:Nat)(w:World)(hc:w.cell? ⟨g,0,none⟩=some (.int .i64 d))(hg:g<w.heap.size)(hd:d≠0):
 Calls Tryz.prog 69 #[.slice (some ⟨g,0,none⟩) 1 1] w λe w'=>e=.panicked [{v:=.iface 27 (.int .i64 d),recovered:=false}]/\Below w.heap.size w w':=by
 have hd':(d !=0)=true:=kD.2 hd;go_enter Tryz.func69,Tryz.ntmps69;go_wp2_with fail;go_loopw[3,6](λ_ i wr=>i=.int .i64 0/\wr=w)(λ_ _ _=>0);case atStart=>exact⟨rfl,rfl⟩
 case round=>
  obtain⟨rfl,rfl⟩:=hrel;go_wp2_with(go_at_call 73;refine(aN d [true] _ _ (by simp) (fQ _ [true]) (by simp)).mono ?_;rintro e w2⟨rfl,rfl⟩);exact⟨rfl,rfl,(dA _ _).alloc (eA _) _⟩
theorem rS(g:Nat)(w:World)(hc:w.cell? ⟨g,0,none⟩=some (.int .i64 0))(hg:g<w.heap.size):
 Calls Tryz.prog 69 #[.slice (some ⟨g,0,none⟩) 1 1] w λe w'=>e=.returned (.tuple #[])/\Below w.heap.size w w':=by
 go_enter Tryz.func69,Tryz.ntmps69;go_wp2_with fail;go_loopw[3,6](λ_ i wr=>∃k:Nat,k<=1/\i=.int .i64 k/\Below w.heap.size w wr)(λ_ i _=>1-(intOf i).toNat);case atStart=>exact⟨0,by omega,rfl,dA _ _⟩
 case round=>
  obtain⟨k,hk,rfl,hB⟩:=hrel;have hB':=hB.size;by_cases hlt:k<1
  ·have hk0:k=0:=by omega
   subst hk0;have hc':=(hB.cell (p:=⟨g,0,none⟩) hg).trans hc;go_wp2_with(go_at_call 73;refine(zM 0 [false] _ _ (by simp) (fQ _ [false]) (by simp)).mono ?_;rintro e w2⟨rfl,rfl⟩);go_roundw;case rel=>exact⟨1,by omega,rfl,hB.alloc hB' _⟩
   case measure=>simp[intOf]
  ·have hk1:k=1:=by omega
   subst hk1;go_wp2_with fail;go_end0;exact⟨rfl,hB⟩
structure zD where
 seq:Int
 key:ByteArray
 body:ByteArray
 again:Bool
 fC:Int
def zD.val(x:zD):Value:=.agg #[.int .i64 x.seq,.string x.key,.string x.body,.bool x.again,.int .i64 x.fC]
def bV(s d:Int)(b:Nat):Bool:=decide (0<=s)&&decide (s<1048576)&&decide (b<=12)&&decide (0<=d)&&decide (d<=2)
def nH(x:zD):Bool:=bV x.seq x.fC x.body.size&&decide (kG x.key.data.toList=0)
theorem J_(s:ByteArray)(w:World):
 Calls Tryz.prog 202 #[.string s] w λe w'=>∃v,e=.returned (.tuple #[v,.int .i64 (kG s.data.toList)])/\Below w.heap.size w w':=by
 by_cases h:kG s.data.toList=0;·refine(FL s _ rfl w h).mono ?_;rintro e w'⟨g,cap,rfl,_,_,_,_,hB⟩;exact⟨_,by rw[h],hB⟩
 ·refine(EU s w h).mono ?_;rintro e w'⟨rfl,hB⟩;exact⟨_,rfl,hB⟩
theorem dZ(w:World)(v0 v1 v2 v3 v4:Value)(t:TypeId):∃W1,W1=w.alloc (.cells #[v0,v1,v2,v3,v4] t)/\Below w.heap.size w W1/\W1.heap.size=w.heap.size+1/\
 ∀W,Below W1.heap.size W1 W->W.cell? ⟨w.heap.size,0,none⟩=some v0/\W.cell? ⟨w.heap.size,1,none⟩=some v1/\W.cell? ⟨w.heap.size,2,none⟩=some v2/\W.cell? ⟨w.heap.size,3,none⟩=some v3/\W.cell? ⟨w.heap.size,4,none⟩=some v4:=by
 have hh:(w.alloc (.cells #[v0,v1,v2,v3,v4] t)).heap[w.heap.size]?=some (.cells #[v0,v1,v2,v3,v4] t):=jA w _;have hs:(w.alloc (.cells #[v0,v1,v2,v3,v4] t)).heap.size=w.heap.size+1:=by simp
 have hc:∀i,(w.alloc (.cells #[v0,v1,v2,v3,v4] t)).cell? ⟨w.heap.size,i,none⟩=#[v0,v1,v2,v3,v4][i]?:=by intro i;unfold World.cell?;simp only;rw[hh];rfl
 refine⟨_,rfl,(dA _ _).alloc (eA _) _,hs,λW hW=>?_⟩;have hk:∀i,W.cell? ⟨w.heap.size,i,none⟩=#[v0,v1,v2,v3,v4][i]?:=λi=>(hW.cell (p:=⟨w.heap.size,i,none⟩) (by show w.heap.size<_;omega)).trans (hc i);exact⟨hk 0,hk 1,hk 2,hk 3,hk 4⟩
theorem WO(s d:Int)(b:Nat):(bV s d b=true/\¬s<0/\¬(1048576:Int)<=s/\¬(12:Int)<b/\¬d<0/\¬(2:Int)<d)\/
 (bV s d b=false/\(s<0\/(¬s<0/\(1048576:Int)<=s)\/(¬s<0/\¬(1048576:Int)<=s/\(12:Int)<b)\/(¬s<0/\¬(1048576:Int)<=s/\¬(12:Int)<b/\d<0)\/(¬s<0/\¬(1048576:Int)<=s/\¬(12:Int)<b/\¬d<0/\(2:Int)<d))):=by
 by_cases h:bV s d b=true;·left;refine⟨h,?_⟩;unfold bV at h;simp at h;omega
 ·right;refine⟨by simpa using h,?_⟩;unfold bV at h;simp at h;omega
theorem Y5{x:Int}:(x==0)=decide (x=0):=by by_cases h:x=0<;>simp[h]
theorem AK(s d:Int)(k b:ByteArray)(a:Bool)(w:World):
 Calls Tryz.prog 180 #[.agg #[.int .i64 s,.string k,.string b,.bool a,.int .i64 d]] w λe w'=>e=.returned (.bool (nH ⟨s,k,b,a,d⟩))/\Below w.heap.size w w':=by
 rcases WO s d b.size with⟨h,q1,q2,q3,q4,q5⟩|⟨h,q⟩
 ·have E:Hid (nH ⟨s,k,b,a,d⟩=decide (kG k.data.toList=0)):=by show nH _=_;unfold nH;simp only[h,Bool.true_and]
  obtain⟨c,hc⟩:∃c,c=kG k.data.toList:=⟨_,rfl⟩;have HC:Hid (c=kG k.data.toList):=hc;clear h hc;go_enter Tryz.func180,Tryz.ntmps180;go_wp2_with fail;refine(J_ _ _).mono ?_;rintro e w2⟨v,rfl,hB2⟩;rw[<-HC.out];go_wp2_with fail;go_ret;exact⟨eL (by rw[E.out,<-HC.out];exact Y5),((dA _ _).alloc (eA _) _).trans (hB2.mono (by simp))⟩
 ·have E:Hid (nH ⟨s,k,b,a,d⟩=false):=by show nH _=_;unfold nH;simp only[h,Bool.false_and]
  rw[E.out];clear h E;rcases q with q1|⟨q1,q2⟩|⟨q1,q2,q3⟩|⟨q1,q2,q3,q4⟩|⟨q1,q2,q3,q4,q5⟩;all_goals
   go_enter Tryz.func180,Tryz.ntmps180;go_wp2_with fail;go_ret;exact⟨rfl,(dA _ _).alloc (eA _) _⟩
def pO(a b c:Int):Bool:=decide (b<=a/\a<=c)
theorem H3(x:zD):nH x=(pO x.seq 0 1048575&&decide (kG x.key.data.toList=0)&&decide ((x.body.size:Int)<=12)&&pO x.fC 0 2):=by
 unfold nH bV pO;rw[jF];simp;omega
theorem RI(a b c:Int)(w:World):
 Calls Tryz.prog 40 #[.int .i64 a,.int .i64 b,.int .i64 c] w λe w'=>e=.returned (.bool (pO a b c))/\w'=w:=by
 by_cases h1:b<=a
 ·have E:pO a b c=decide (a<=c):=by unfold pO;simp[h1]
  rw[E];go_enter Tryz.func40,Tryz.ntmps40;go_wp2;go_ret;exact⟨rfl,rfl⟩
 ·have E:pO a b c=false:=by unfold pO;simp[h1]
  rw[E];go_enter Tryz.func40,Tryz.ntmps40;go_wp2;go_ret;exact⟨rfl,rfl⟩
theorem BP(s d:Int)(k b:ByteArray)(a:Bool)(w:World):
 Calls Tryz.prog 169 #[.agg #[.int .i64 s,.string k,.string b,.bool a,.int .i64 d]] w λe w'=>e=.returned (.bool (nH ⟨s,k,b,a,d⟩))/\Below w.heap.size w w':=by
 have E:Hid (nH ⟨s,k,b,a,d⟩=(pO s 0 1048575&&decide (kG k.data.toList=0)&&decide ((b.size:Int)<=12)&&pO d 0 2)):=H3 ⟨s,k,b,a,d⟩;obtain⟨r1,h1⟩:∃r,r=pO s 0 1048575:=⟨_,rfl⟩;obtain⟨r2,h2⟩:∃r,r=pO d 0 2:=⟨_,rfl⟩;obtain⟨c,hc⟩:∃c,c=kG k.data.toList:=⟨_,rfl⟩;have H1:Hid (r1=pO s 0 1048575):=h1;have H2:Hid (r2=pO d 0 2):=h2;have HC:Hid (c=kG k.data.toList):=hc;rw[<-h1,<-h2,<-hc]at E;clear h1 h2 hc;obtain⟨q,hq⟩:∃q,q=nH ⟨s,k,b,a,d⟩:=⟨_,rfl⟩;rw[<-hq]at E⊢;clear hq;obtain⟨W1,hW1,hBw,hs1,hbx⟩:=dZ w (.int .i64 s) (.string k) (.string b) (.bool a) (.int .i64 d) 86;have HW1:Hid (W1=_):=hW1;have BX:Hid (∀W,Below W1.heap.size W1 W->_):=hbx;clear hW1 hbx hs1;cases r1<;>by_cases hc0:c=0<;>by_cases hb:(b.size:Int)<=12<;>cases r2;all_goals
  have E':=E.out;simp[hc0,hb]at E';subst E';clear E;go_enter Tryz.func169,Tryz.ntmps169;go_wp2_with fail;rw[<-HW1.out];refine(RI _ _ _ _).mono ?_;rintro e w'⟨rfl,rfl⟩;rw[<-H1.out];obtain⟨d0,d1,d2,d3,d4⟩:=BX.out w' (dA _ _);go_wp2_with(first
   |(go_at_call 40;refine(RI _ _ _ _).mono ?_;rintro e w'⟨rfl,rfl⟩;rw[<-H2.out])
   |(go_at_call 120;refine(IN _ _).mono ?_;rintro e w2⟨rfl,hB2⟩;obtain⟨d0,d1,d2,d3,d4⟩:=BX.out w2 hB2;rw[<-HC.out]));go_ret;exact⟨rfl,by first|exact hBw|exact hBw.trans (hB2.mono hBw.size)⟩
theorem tk(i:Nat){P:Program}{ops:Array Oper}{Q:Exit->Act->World->Prop}{md:Region.Mode}{S:World->Prop}{oi:Oper}{v:Value}{fuel:Nat}{listed l':Array Bool}{a a':Act}{w:World}(h:wpAnyH P md ops Q S fuel l' a' w)(hi:ops[i]?=some oi:=by rfl)
 (hs:Region.noSelect ops=true:=by kernel_rfl)(hf:Region.free md ops listed i=true:=by kernel_rfl)(hr:(Region.ready md ops listed).contains i=true:=by kernel_rfl)
 (hy:YieldsIf P ops S oi v a:=by refine Or.inl ⟨by kernel_rfl,?_⟩;intro w hSw;(try dsimp only at hSw);go_simp;(try with_reducible rfl))
 (hQ:∀c a w,Q (.panic c) (a.put oi.dst v) w->Q (.panic c) a w:=by exact λ_ _ _ h=>h)(hS:S w:=by assumption)
 (hl:listed.setIfInBounds i true=l':=by(try simp only[cD,List.set_cons_zero,List.set_cons_succ]);exact rfl)
 (ha:a.put oi.dst v=a':=by(try simp only[Act.put,List.getElem_toArray,List.getElem_cons_succ,List.getElem_cons_zero,cD,List.set_cons_zero,List.set_cons_succ]);exact rfl):
 wpAnyH P md ops Q S (fuel+1) listed a w:=
 wpAnyH_take hi hs hf hr hQ hy hS (by rw[hl,ha];exact h)
theorem sk(i:Nat){P:Program}{ops:Array Oper}{Q:Exit->Act->World->Prop}{md:Region.Mode}{S:World->Prop}{oi:Oper}{fuel:Nat}{listed l':Array Bool}{a a':Act}{w:World}(h:wpAnyH P md ops Q S fuel l' a' w)(hi:ops[i]?=some oi:=by rfl)
 (hs:Region.noSelect ops=true:=by kernel_rfl)(hf:Region.free md ops listed i=true:=by kernel_rfl)(hr:(Region.ready md ops listed).contains i=true:=by kernel_rfl)
 (hy:YieldsIf P ops S oi undef a:=by exact Or.inr ⟨by kernel_rfl,rfl⟩)
 (hQ:∀c a w,Q (.panic c) (a.put oi.dst undef) w->Q (.panic c) a w:=by exact λ_ _ _ h=>h)(hS:S w:=by assumption)
 (hl:listed.setIfInBounds i true=l':=by(try simp only[cD,List.set_cons_zero,List.set_cons_succ]);exact rfl)
 (ha:a.put oi.dst undef=a':=by(try simp only[Act.put,List.getElem_toArray,List.getElem_cons_succ,List.getElem_cons_zero,cD,List.set_cons_zero,List.set_cons_succ]);exact rfl):
 wpAnyH P md ops Q S (fuel+1) listed a w:=
 wpAnyH_take hi hs hf hr hQ hy hS (by rw[hl,ha];exact h)
theorem hG{P:Program}{ops:Array Oper}{Q:Exit->Act->World->Prop}{md:Region.Mode}{S:World->Prop}{fuel:Nat}{l l':Array Bool}{a a':Act}{w:World}(h:wpAnyH P md ops Q S fuel l' a' w)
 (hl:l=l':=by(try simp only[cD,List.set_cons_zero,List.set_cons_succ]);exact rfl)
 (ha:a=a':=by(try simp only[Act.put,List.getElem_toArray,List.getElem_cons_succ,List.getElem_cons_zero,cD,List.set_cons_zero,List.set_cons_succ]);exact rfl):
 wpAnyH P md ops Q S fuel l a w:=by rw[hl,ha];exact h
theorem pG(i:Nat){P:Program}{ops:Array Oper}{Q:Exit->Act->World->Prop}{md:Region.Mode}{S:World->Prop}{o:Oper}{fuel:Nat}{listed:Array Bool}{a:Act}{w:World}
 (h:∀K':Act->World->Prop,Shut (∀a w,S w->(S w->wpAnyH P md ops Q S fuel (listed.setIfInBounds i true) a w)->K' a w)->if Region.wanted o (yielded ops a.tmps)=true then Oper.wp P o a w K' Q else K' (a.put o.dst undef) w)
 (ho:ops[i]?=some o:=by rfl)(hr:Region.ready md ops listed=[i]:=by kernel_rfl):wpAnyH P md ops Q S (fuel+1) listed a w:=
 vF hr (by simp) (fD ho h lF)
def lP:Int->List zD->Bool
 |_,[]=>true
 |last,x::r=>nH x&&decide (last<x.seq)&&lP x.seq r
def tI(xs:List zD):Bool:=lP (-1) xs
def tL(xs:List zD):Int:=if tI xs=true then 0 else 1
def jS(W:World)(g o:Nat)(x:zD):Prop:=
 W.cell? ⟨g,o,none⟩=some (.int .i64 x.seq)/\W.cell? ⟨g,o+1,none⟩=some (.string x.key)/\W.cell? ⟨g,o+2,none⟩=some (.string x.body)/\W.cell? ⟨g,o+3,none⟩=some (.bool x.again)/\W.cell? ⟨g,o+4,none⟩=some (.int .i64 x.fC)
theorem jS.sA{W W':World}{g o:Nat}{x:zD}{b:Nat}(h:jS W g o x)(hB:Below b W W')(hg:g<b):jS W' g o x:=
 ⟨(hB.cell (p:=⟨g,_,none⟩) hg).trans h.1,(hB.cell (p:=⟨g,_,none⟩) hg).trans h.2.1,(hB.cell (p:=⟨g,_,none⟩) hg).trans h.2.2.1,(hB.cell (p:=⟨g,_,none⟩) hg).trans h.2.2.2.1,(hB.cell (p:=⟨g,_,none⟩) hg).trans h.2.2.2.2⟩
def qI(W:World)(a:Option Addr)(xs:List zD):Prop:=xs=[]\/∃g o,a=some ⟨g,o,none⟩/\g<W.heap.size/\∀i(h:i<xs.length),jS W g (o+i*5) xs[i]
theorem qI.cells{W:World}{a:Option Addr}{xs:List zD}(h:qI W a xs)(hne:0<xs.length):∃g o,a=some ⟨g,o,none⟩/\g<W.heap.size/\∀i(h:i<xs.length),jS W g (o+i*5) xs[i]:=by
 rcases h with h|h;·rw[h]at hne;simp at hne
 ·exact h
theorem qI.sA{W W':World}{a:Option Addr}{xs:List zD}(h:qI W a xs)(hB:Below W.heap.size W W'):qI W' a xs:=by
 rcases h with h|⟨g,o,ha,hg,h⟩;·exact .inl h
 ·exact .inr ⟨g,o,ha,uC hg hB.size,λi hi=>(h i hi).sA hB hg⟩
theorem DY{last:Int}{x:zD}{r:List zD}(h:nH x=false\/x.seq<=last):lP last (x::r)=false:=by
 unfold lP;rcases h with h|h;·simp[h]
 ·have:¬last<x.seq:=by omega
  simp[this]
theorem EC{last:Int}{x:zD}{r:List zD}(h:nH x=true)(h2:¬x.seq<=last):lP last (x::r)=lP x.seq r:=by
 have:last<x.seq:=by omega
 conv=>lhs;unfold lP
 simp[h,this]
theorem gW(xs:List zD)(a:Option Addr)(n c:Nat)(w:World)(hn:xs.length=n)(hm:n<=maxLen)(hp:qI w a xs):
 Calls Tryz.prog 179 #[.slice a n c] w λe w'=>e=.returned (.int .i64 (tL xs))/\Below w.heap.size w w':=by
 have HN:Hid (xs.length=n):=hn;have HP:Hid (qI w a xs):=hp;unfold maxLen at hm;clear hn hp;go_enter Tryz.func179,Tryz.ntmps179;go_wp2;go_loopw[3,8](λl i wr=>∃(k:Nat)(last:Int),k<=n/\i=.int .i64 k/\l=.int .i64 last/\tI xs=lP last (xs.drop k)/\Below w.heap.size w wr)(λ_ i _=>n-(intOf i).toNat);case atStart=>exact⟨0,-1,zA _,rfl,rfl,rfl,dA _ _⟩
 case round=>
  obtain⟨k,last,hk,rfl,rfl,ha,hB⟩:=hrel;have HA:Hid (tI xs=lP last (xs.drop k)):=ha;have hBs:=hB.size;clear ha;by_cases hlt:k<n
  ·have hkl:k<xs.length:=by rw[HN.out];exact hlt
   obtain⟨g,o,rfl,hg,hx⟩:=HP.out.cells (by omega);obtain⟨x,hxx⟩:∃x,x=xs[k]:=⟨_,rfl⟩;have hc:=(hx k hkl).sA hB hg;rw[<-hxx]at hc;have hd:xs.drop k=x::xs.drop (k+1):=by rw[hxx];exact vC hkl
   clear hx hxx;obtain⟨s,ky,b,ag,d⟩:=x;obtain⟨c0,c1,c2,c3,c4⟩:=hc;dsimp only at c0 c1 c2 c3 c4;obtain⟨r,hr⟩:∃r,r=nH ⟨s,ky,b,ag,d⟩:=⟨_,rfl⟩;have HR:Hid (r=nH ⟨s,ky,b,ag,d⟩):=hr;obtain⟨W1,hW1,hBw,hs1,hbx⟩:=dZ wr (.int .i64 s) (.string ky) (.string b) (.bool ag) (.int .i64 d) 86;have HW1:Hid (W1=_):=hW1;have BX:Hid (∀W,Below W1.heap.size W1 W->_):=hbx;clear hW1 hbx hs1;have hB1:Below w.heap.size w W1:=hB.trans (hBw.mono hBs);have s1:=hB1.size;cases r with
   |false=>
     have HF:Hid (tL xs=1):=by show tL xs=1;unfold tL;rw[HA.out,hd,DY (.inl hr.symm)];rfl
     clear hd hr;go_wp2_with fail;rw[<-HW1.out];refine(AK _ _ _ _ _ _).mono ?_;rintro e w2⟨rfl,hB2⟩;rw[<-HR.out];go_wp2_with fail;go_ret;exact⟨tJ HF.out.symm,hB1.trans (hB2.mono s1)⟩
   |true=>
     by_cases hle:s<=last
     ·have HF:Hid (tL xs=1):=by show tL xs=1;unfold tL;rw[HA.out,hd,DY (.inr hle)];rfl
      clear hd hr;go_wp2_with fail;rw[<-HW1.out];refine(AK _ _ _ _ _ _).mono ?_;rintro e w2⟨rfl,hB2⟩;obtain⟨d0,d1,d2,d3,d4⟩:=BX.out w2 hB2;rw[<-HR.out];go_wp2_with fail;go_ret;exact⟨tJ HF.out.symm,hB1.trans (hB2.mono s1)⟩
     ·have HF:Hid (tI xs=lP s (xs.drop (k+1))):=by show tI xs=_;rw[HA.out,hd,EC hr.symm hle]
      clear hd hr;go_wp2_with fail;rw[<-HW1.out];refine(AK _ _ _ _ _ _).mono ?_;rintro e w2⟨rfl,hB2⟩;obtain⟨d0,d1,d2,d3,d4⟩:=BX.out w2 hB2;rw[<-HR.out];go_wp2_with fail;go_roundw;case rel=>exact⟨k+1,s,by omega,by go_num,rfl,HF.out,hB1.trans (hB2.mono s1)⟩
      case measure=>simp[intOf];omega
  ·have e:xs.drop k=[]:=mD (by rw[HN.out];omega);have HF:Hid (tL xs=0):=by show tL xs=0;unfold tL;rw[HA.out,e];rfl
   go_wp2;go_ret;exact⟨tJ HF.out.symm,hB⟩
theorem OJ{x:zD}(h:nH x=true):0<=x.seq:=by unfold nH bV at h;simp at h;omega
theorem LU(k:Nat)(h:k<=9223372036854775807):IntKind.i64.wrap (k:Int)=(k:Int):=by rw[uB];omega
theorem nQ{b:Nat}{W w':World}(h:Below b W.drew w'):Below b W w':=⟨h.os,h.tape,h.output,h.size,h.block⟩
def dY(xs:List zD)(k:Nat):Int:=if k=0 then-1 else(xs[k-1]?.map zD.seq).getD (-1)
theorem YE(xs:List zD)(a:Option Addr)(n c:Nat)(w:World)(hn:xs.length=n)(hm:n<=maxLen)(hp:qI w a xs):
 Calls Tryz.prog 168 #[.slice a n c] w λe w'=>e=.returned (.bool (tI xs))/\Below w.heap.size w w':=by
 have HN:Hid (xs.length=n):=hn;have HP:Hid (qI w a xs):=hp;unfold maxLen at hm;clear hn hp;go_enter Tryz.func168,Tryz.ntmps168;go_wp2;go_loopw[3](λi wr=>∃(k:Nat),k<=n/\i=.int .i64 k/\tI xs=lP (dY xs k) (xs.drop k)/\Below w.heap.size w wr)(λi _=>n-(intOf i).toNat);case atStart=>exact⟨0,zA _,rfl,rfl,dA _ _⟩
 case round=>
  obtain⟨k,hk,rfl,ha,hB⟩:=hrel;have HA:Hid (tI xs=lP (dY xs k) (xs.drop k)):=ha;have hBs:=hB.size;clear ha;by_cases hlt:k<n
  ·have hkl:k<xs.length:=by rw[HN.out];exact hlt
   obtain⟨g,o,rfl,hg,hx⟩:=HP.out.cells (by omega);obtain⟨x,hxx⟩:∃x,x=xs[k]:=⟨_,rfl⟩;have hc:=(hx k hkl).sA hB hg;rw[<-hxx]at hc;have hd:xs.drop k=x::xs.drop (k+1):=by rw[hxx];exact vC hkl
   have HL1:Hid (dY xs (k+1)=x.seq):=by show dY xs (k+1)=_;unfold dY;rw[kA (by omega)];simp[hkl,hxx]
   clear hxx;obtain⟨s,ky,b,ag,d⟩:=x;obtain⟨c0,c1,c2,c3,c4⟩:=hc;dsimp only at c0 c1 c2 c3 c4;obtain⟨r,hr⟩:∃r,r=nH ⟨s,ky,b,ag,d⟩:=⟨_,rfl⟩;have HR:Hid (r=nH ⟨s,ky,b,ag,d⟩):=hr;have hgw:g<wr.heap.size:=by omega
   obtain⟨W1,hW1⟩:∃W1,W1=wr:=⟨_,rfl⟩;cases r with
   |false=>
     clear hx;have j1:(0:Int)<=(k:Int):=by omega
     have j2:(k:Int)<n:=by omega
     have HF:Hid (tI xs=false):=by show tI xs=false;rw[HA.out,hd,DY (.inl hr.symm)]
     clear hd hr;go_wp2_with fail;refine zB (S:=λw'=>w'.cell? ⟨g,o+k*5,none⟩=some (.int .i64 s)/\w'.cell? ⟨g,o+k*5+1,none⟩=some (.string ky)/\w'.cell? ⟨g,o+k*5+2,none⟩=some (.string b)/\w'.cell? ⟨g,o+k*5+3,none⟩=some (.bool ag)/\w'.cell? ⟨g,o+k*5+4,none⟩=some (.int .i64 d)) (by kernel_rfl) ⟨c0,c1,c2,c3,c4⟩ (λhHeld=>?_);refine tk 0 ?_;refine tk 1 ?_;refine tk 2 ?_;refine tk 3 ?_;refine pG 4 (λK hK=>?_);go_simp;refine(BP _ _ _ _ _ _).mono ?_;rintro e w2⟨rfl,hB2'⟩;have hB2:=nQ hB2';rw[<-HR.out];refine hK.out _ _ ⟨(hB2.cell (p:=⟨g,_,none⟩) hgw).trans c0,(hB2.cell (p:=⟨g,_,none⟩) hgw).trans c1,(hB2.cell (p:=⟨g,_,none⟩) hgw).trans c2,(hB2.cell (p:=⟨g,_,none⟩) hgw).trans c3,(hB2.cell (p:=⟨g,_,none⟩) hgw).trans c4⟩ (λhHeld2=>?_);clear hHeld;try simp only[Act.put,List.getElem_toArray,List.getElem_cons_succ,List.getElem_cons_zero,cD,List.set_cons_zero,List.set_cons_succ]
     clear hK K;refine tk 5 ?_;refine tk 6 ?_;refine sk 7 ?_;refine sk 8 ?_;refine sk 9 ?_;refine sk 10 ?_;refine sk 11 ?_;refine sk 12 ?_;refine sk 13 ?_;refine sk 14 ?_;refine sk 15 ?_;refine sk 16 ?_;refine sk 17 ?_;refine sk 18 ?_;refine sk 19 ?_;refine sk 20 ?_;refine sk 21 ?_;refine sk 22 ?_;refine tk 23 ?_;refine gC (by kernel_rfl) ?_ _;all_goals
      go_wp2_with fail;go_ret;exact⟨eL HF.out.symm,hB.trans (hB2.mono hBs)⟩
   |true=>
     rcases cJ k with hk0|hk0
     ·subst hk0;clear hx;simp only[kQ,Nat.add_zero]at c0 c1 c2 c3 c4;have j2:(0:Int)<n:=by omega
      have HF:Hid (tI xs=lP s (xs.drop 1)):=by
       show tI xs=_;rw[HA.out,hd,EC hr.symm (by have:=OJ hr.symm;unfold dY;simp;dsimp only at this;omega)]
      clear hd hr;go_wp2_with fail;refine zB (S:=λw'=>w'.cell? ⟨g,o,none⟩=some (.int .i64 s)/\w'.cell? ⟨g,o+1,none⟩=some (.string ky)/\w'.cell? ⟨g,o+2,none⟩=some (.string b)/\w'.cell? ⟨g,o+3,none⟩=some (.bool ag)/\w'.cell? ⟨g,o+4,none⟩=some (.int .i64 d)) (by kernel_rfl) ⟨c0,c1,c2,c3,c4⟩ (λhHeld=>?_);refine tk 0 ?_;refine tk 1 ?_;refine tk 2 ?_;refine tk 3 ?_;refine pG 4 (λK hK=>?_);go_simp;refine(BP _ _ _ _ _ _).mono ?_;rintro e w2⟨rfl,hB2'⟩;have hB2:=nQ hB2';rw[<-HR.out];refine hK.out _ _ ⟨(hB2.cell (p:=⟨g,_,none⟩) hgw).trans c0,(hB2.cell (p:=⟨g,_,none⟩) hgw).trans c1,(hB2.cell (p:=⟨g,_,none⟩) hgw).trans c2,(hB2.cell (p:=⟨g,_,none⟩) hgw).trans c3,(hB2.cell (p:=⟨g,_,none⟩) hgw).trans c4⟩ (λhHeld2=>?_);clear hHeld;try simp only[Act.put,List.getElem_toArray,List.getElem_cons_succ,List.getElem_cons_zero,cD,List.set_cons_zero,List.set_cons_succ]
      clear hK K;refine tk 5 ?_;refine tk 6 ?_;refine tk 7 ?_;refine tk 8 ?_;refine tk 9 ?_;refine sk 10 ?_;refine sk 11 ?_;refine sk 12 ?_;refine sk 13 ?_;refine sk 14 ?_;refine sk 15 ?_;refine sk 16 ?_;refine sk 17 ?_;refine sk 18 ?_;refine sk 19 ?_;refine sk 20 ?_;refine sk 21 ?_;refine tk 22 ?_;refine tk 23 ?_;refine gC (by kernel_rfl) ?_ _;all_goals
       go_wp2_with fail;go_roundw;case rel=>exact⟨1,by omega,by go_num,by rw[HF.out,HL1.out],hB.trans (hB2.mono hBs)⟩
       case measure=>simp[intOf];omega
     ·obtain⟨k',rfl⟩:∃k',k=k'+1:=⟨k-1,by omega⟩;have hkl':k'<xs.length:=by omega
      have cp:=((hx k' hkl').sA hB hg).1;have HL0:Hid (dY xs (k'+1)=xs[k'].seq):=by show dY xs (k'+1)=_;unfold dY;rw[kA (by omega)];simp[hkl']
      obtain⟨l,hl⟩:∃l,l=xs[k'].seq:=⟨_,rfl⟩;rw[<-hl]at cp HL0;clear hx hl hk0;have j0:(0:Int)<(k':Int)+1:=by omega
      have j1:(0:Int)<=(k':Int)+1:=by omega
      have j2:(k':Int)+1<n:=by omega
      have j3:(k':Int)<n:=by omega
      have j4:(0:Int)<=(k':Int):=by omega
      have j5:IntKind.i64.wrap (k':Int)=(k':Int):=LU _ (by omega);by_cases hle:s<=l
      ·have HF:Hid (tI xs=false):=by show tI xs=false;rw[HA.out,hd,DY (.inr (by rw[HL0.out];exact hle))]
       clear hd hr;go_wp2_with fail;go_region_held3(λw'=>w'.cell? ⟨g,o+(k'+1)*5,none⟩=some (.int .i64 s)/\w'.cell? ⟨g,o+(k'+1)*5+1,none⟩=some (.string ky)/\w'.cell? ⟨g,o+(k'+1)*5+2,none⟩=some (.string b)/\w'.cell? ⟨g,o+(k'+1)*5+3,none⟩=some (.bool ag)/\w'.cell? ⟨g,o+(k'+1)*5+4,none⟩=some (.int .i64 d)/\w'.cell? ⟨g,o+k'*5,none⟩=some (.int .i64 l))
        (go_keep)
        (first|(go_at_call 169;refine(BP _ _ _ _ _ _).mono ?_;rintro e w2⟨rfl,hB2'⟩;have hB2:=nQ hB2';rw[<-HR.out];have e0:=(hB2.cell (p:=⟨g,_,none⟩) hgw).trans c0;have e1:=(hB2.cell (p:=⟨g,_,none⟩) hgw).trans c1;have e2:=(hB2.cell (p:=⟨g,_,none⟩) hgw).trans c2;have e3:=(hB2.cell (p:=⟨g,_,none⟩) hgw).trans c3;have e4:=(hB2.cell (p:=⟨g,_,none⟩) hgw).trans c4;have ep:=(hB2.cell (p:=⟨g,_,none⟩) hgw).trans cp));all_goals
        go_wp2_with fail;go_ret;exact⟨eL HF.out.symm,hB.trans (hB2.mono hBs)⟩
      ·have HF:Hid (tI xs=lP s (xs.drop (k'+1+1))):=by show tI xs=_;rw[HA.out,hd,EC hr.symm (by rw[HL0.out];exact hle)]
       clear hd hr;go_wp2_with fail;go_region_held3(λw'=>w'.cell? ⟨g,o+(k'+1)*5,none⟩=some (.int .i64 s)/\w'.cell? ⟨g,o+(k'+1)*5+1,none⟩=some (.string ky)/\w'.cell? ⟨g,o+(k'+1)*5+2,none⟩=some (.string b)/\w'.cell? ⟨g,o+(k'+1)*5+3,none⟩=some (.bool ag)/\w'.cell? ⟨g,o+(k'+1)*5+4,none⟩=some (.int .i64 d)/\w'.cell? ⟨g,o+k'*5,none⟩=some (.int .i64 l))
        (go_keep)
        (first|(go_at_call 169;refine(BP _ _ _ _ _ _).mono ?_;rintro e w2⟨rfl,hB2'⟩;have hB2:=nQ hB2';rw[<-HR.out];have e0:=(hB2.cell (p:=⟨g,_,none⟩) hgw).trans c0;have e1:=(hB2.cell (p:=⟨g,_,none⟩) hgw).trans c1;have e2:=(hB2.cell (p:=⟨g,_,none⟩) hgw).trans c2;have e3:=(hB2.cell (p:=⟨g,_,none⟩) hgw).trans c3;have e4:=(hB2.cell (p:=⟨g,_,none⟩) hgw).trans c4;have ep:=(hB2.cell (p:=⟨g,_,none⟩) hgw).trans cp));all_goals
        go_wp2_with fail;go_roundw;case rel=>exact⟨k'+1+1,by omega,by go_num,by rw[HF.out,HL1.out],hB.trans (hB2.mono hBs)⟩
        case measure=>simp[intOf];omega
  ·have e:xs.drop k=[]:=mD (by rw[HN.out];omega);have HF:Hid (tI xs=true):=by show tI xs=true;rw[HA.out,e];unfold lP;rfl
   go_wp2;go_ret;exact⟨eL HF.out.symm,hB⟩
structure eF where
 tag:Int
 fE:Int
 queue:Int
 item:zD
structure kH where
 queue:Int
 nD:Int
structure yC where
 yA:List (List zD)
 xB:List eF
 nA:List kH
 gA:Int
 fA:Int
 nB:Int
 uA:Int
 iA:Int
structure BU(W:World)(g o:Nat)(xs:List zD)(b:Option Addr)(c:Nat):Prop where
 cell:W.cell? ⟨g,o,none⟩=some (.slice b xs.length c)
 le:xs.length<=c
 cm:c<=maxLen
 nil:b=none->c=0
 it:qI W b xs
def AO(W:World)(a:Option Addr)(xss:List (List zD)):Prop:=xss=[]\/∃g o,a=some ⟨g,o,none⟩/\g<W.heap.size/\∀i(h:i<xss.length),∃b c,BU W g (o+i) xss[i] b c
def gY(W:World)(a:Option Addr)(xs:List eF):Prop:=xs=[]\/∃g o,a=some ⟨g,o,none⟩/\g<W.heap.size/\∀i(h:i<xs.length),W.cell? ⟨g,o+i*8,none⟩=some (.int .i64 xs[i].tag)/\W.cell? ⟨g,o+i*8+1,none⟩=some (.int .i64 xs[i].fE)/\W.cell? ⟨g,o+i*8+2,none⟩=some (.int .i64 xs[i].queue)/\jS W g (o+i*8+3) xs[i].item
def xX(W:World)(a:Option Addr)(xs:List kH):Prop:=xs=[]\/∃g o,a=some ⟨g,o,none⟩/\g<W.heap.size/\∀i(h:i<xs.length),W.cell? ⟨g,o+i*2,none⟩=some (.int .i64 xs[i].queue)/\W.cell? ⟨g,o+i*2+1,none⟩=some (.int .i64 xs[i].nD)
theorem BU.sA{W W':World}{g o:Nat}{xs:List zD}{b:Option Addr}{c:Nat}(h:BU W g o xs b c)(hg:g<W.heap.size)(hB:Below W.heap.size W W'):BU W' g o xs b c:=
 ⟨(hB.cell (p:=⟨g,o,none⟩) hg).trans h.cell,h.le,h.cm,h.nil,h.it.sA hB⟩
theorem AO.sA{W W':World}{a:Option Addr}{xss:List (List zD)}(h:AO W a xss)(hB:Below W.heap.size W W'):AO W' a xss:=by
 rcases h with h|⟨g,o,ha,hg,h⟩;·exact .inl h
 ·exact .inr ⟨g,o,ha,uC hg hB.size,λi hi=>by obtain⟨b,c,hl⟩:=h i hi;exact⟨b,c,hl.sA hg hB⟩⟩
theorem gY.sA{W W':World}{a:Option Addr}{xs:List eF}(h:gY W a xs)(hB:Below W.heap.size W W'):gY W' a xs:=by
 rcases h with h|⟨g,o,ha,hg,h⟩;·exact .inl h
 ·exact .inr ⟨g,o,ha,uC hg hB.size,λi hi=>⟨(hB.cell (p:=⟨g,_,none⟩) hg).trans (h i hi).1,(hB.cell (p:=⟨g,_,none⟩) hg).trans (h i hi).2.1,(hB.cell (p:=⟨g,_,none⟩) hg).trans (h i hi).2.2.1,(h i hi).2.2.2.sA hB hg⟩⟩
theorem xX.sA{W W':World}{a:Option Addr}{xs:List kH}(h:xX W a xs)(hB:Below W.heap.size W W'):xX W' a xs:=by
 rcases h with h|⟨g,o,ha,hg,h⟩;·exact .inl h
 ·exact .inr ⟨g,o,ha,uC hg hB.size,λi hi=>⟨(hB.cell (p:=⟨g,_,none⟩) hg).trans (h i hi).1,(hB.cell (p:=⟨g,_,none⟩) hg).trans (h i hi).2⟩⟩
structure gK(W:World)(b1 b2 b3:Option Addr)(m1 m2 m3:Nat)(s:yC):Prop where
 l1:s.yA.length=m1
 l2:s.xB.length=m2
 l3:s.nA.length=m3
 x1:m1<=maxLen
 x2:m2*80<=140737488351232
 x3:m3<=maxLen
 q1:AO W b1 s.yA
 q2:gY W b2 s.xB
 q3:xX W b3 s.nA
theorem gK.sA{W W':World}{b1 b2 b3:Option Addr}{m1 m2 m3:Nat}{s:yC}(h:gK W b1 b2 b3 m1 m2 m3 s)(hB:Below W.heap.size W W'):gK W' b1 b2 b3 m1 m2 m3 s:=
 ⟨h.l1,h.l2,h.l3,h.x1,h.x2,h.x3,h.q1.sA hB,h.q2.sA hB,h.q3.sA hB⟩
def sM(nq:Nat)(t:kH):Bool:=(decide (t.queue=-1)||tG t.queue nq)&&decide (1<=t.nD/\t.nD<=4)
def yO(nq:Nat)(xss:List (List zD)):Bool:=decide (xss.length=nq)&&xss.all tI
def aQ(ts:List kH)(nt last:Int)(o:eF):Bool:=
 decide (last<o.tag)&&decide (o.tag<nt)&&tG o.fE ts.length&&(match ts[o.fE.toNat]? with|none=>false|some t=>decide (t.queue≠-1)&&decide (t.queue=o.queue))&&nH o.item
def oK(ts:List kH)(nt:Int):Int->List eF->Bool
 |_,[]=>true
 |last,o::r=>aQ ts nt last o&&oK ts nt o.tag r
def eP(n:Int):Bool:=decide (0<=n/\n<=1048576)
def lS(s:yC):Bool:=eP s.gA&&eP s.fA&&eP s.nB&&eP s.uA&&eP s.iA
def kI(s:yC):List Int:=(s.yA.flatMap (λl=>l.map zD.seq))++s.xB.map (λo=>o.item.seq)
def oS(s:yC):Bool:=decide (kI s).Nodup&&(kI s).all (λn=>decide (n<s.gA))
def xE(s:yC)(t:Int):Nat:=(s.xB.filter (λo=>decide (o.fE=t))).length
def dT(p:lD)(s:yC):Bool:=(List.range s.yA.length).all (λq=>decide (((s.yA.getD q []).length:Int)<=(p.jB.getD q ⟨⟨#[]⟩,0,0⟩).yD))
def eT(s:yC):Bool:=(List.range s.nA.length).all (λk=>decide ((xE s k:Int)<=(s.nA.getD k ⟨0,0⟩).nD))
def pS(s:yC):Bool:=decide (s.nB=(kI s).length+s.uA+s.iA)&&decide (s.nB=s.gA)
def uR(p:lD)(s:yC):Bool:=yO p.jB.length s.yA&&s.nA.all (sM p.jB.length)&&oK s.nA s.fA (-1) s.xB&&lS s&&oS s
def zG(p:lD)(s:yC):Int:=
 if iF p≠0 then iF p else if 4<s.nA.length then 2 else if uR p s=false then 1 else if(dT p s&&eT s)=false then 3 else if pS s=false then 10 else 0
theorem C0(d:Int)(w:World):(Instr.typeAssert (.iface 27 (.int .i64 d)) 20 27 true).run Tryz.prog w=.ok (.tuple #[.int .i64 d,.bool true]) w:=by kernel_rfl
theorem NR(B:Nat)(w:World):
 CallsD Tryz.prog 59 #[.pointer (some ⟨B,0,none⟩)] .returning w λe u' w'=>e=.returned (.tuple #[])/\u'=.returning/\w'=w:=by
 refine callsD_of_wpS Tryz.func59 rfl λc₀ cs hu=>?_;apply wpS_seq;apply wpS_region;simp[wpOpsS,go_sem,recoverD,hu,Tryz.ntmps59,Exit.thenS];refine wpS_of_wp ?_;go_wp2;cases c₀;simp_all[bodyPostS,results,Tryz.results59]
theorem OZ(B:Nat)(d x:Int)(older:List PanicEntry)(w:World)(hc:w.cell? ⟨B,0,none⟩=some (.int .i64 x))(hz:w.frozen? ⟨B,0,none⟩=false):
 CallsD Tryz.prog 59 #[.pointer (some ⟨B,0,none⟩)] (.panicking ({v:=.iface 27 (.int .i64 d),recovered:=false}::older)) w λe u' w'=>
  e=.returned (.tuple #[])/\u'=.panicking ({v:=.iface 27 (.int .i64 d),recovered:=true}::older)/\w'=w.setCell ⟨B,0,none⟩ (.int .i64 d):=by
 have hta:=C0;refine callsD_of_wpS Tryz.func59 rfl λc₀ cs hu=>?_;apply wpS_seq;apply wpS_region;simp[wpOpsS,go_sem,recoverD,hu,Tryz.ntmps59,Exit.thenS];refine wpS_of_wp ?_;go_wp2;cases c₀;simp_all[bodyPostS,results,Tryz.results59]
theorem ZG(B1 B2:Nat)(D:Int)(w:World)(hdo:Calls Tryz.prog 154 #[.pointer (some ⟨B1,0,none⟩),.pointer (some ⟨B2,0,none⟩)] (w.alloc (.cells #[.int .i64 0] 27)) λe w'=>e=zK D/\Below (w.heap.size+1) (w.alloc (.cells #[.int .i64 0] 27)) w'):
 Calls Tryz.prog 33 #[.func (.func 154) #[] #[.pointer (some ⟨B1,0,none⟩),.pointer (some ⟨B2,0,none⟩)]] w λe w'=>e=.returned (.int .i64 D)/\Below w.heap.size w w':=by
 have hmf:∀(fn:Fn)(first cap:Array Value)(w:World),(Instr.makeFunc fn first cap).run Tryz.prog w=.ok (.func fn first cap) w:=λ_ _ _ _=>rfl;have HDO:Hid (Calls Tryz.prog 154 #[.pointer (some ⟨B1,0,none⟩),.pointer (some ⟨B2,0,none⟩)] (w.alloc (.cells #[.int .i64 0] 27)) λe w'=>e=zK D/\Below (w.heap.size+1) (w.alloc (.cells #[.int .i64 0] 27)) w'):=hdo;clear hdo;go_enter_defers Tryz.func33,Tryz.ntmps33;go_wp2_with fail;refine HDO.out.mono ?_;rintro e w2⟨rfl,hB⟩;have hb:=(hB.block w.heap.size (by omega)).trans (jA w (.cells #[.int .i64 0] 27));have c0:=yB hb 0;have f0:=pA hb 0;simp at c0;have hBw:Below w.heap.size w w2:=((dA _ _).alloc (eA _) _).trans (hB.mono (Nat.le_succ _));by_cases hD:D=0;·subst hD;rw[dV];unfold xR;go_wp2_with fail;refine leaves_cons (f:=59) (args:=#[.pointer (some ⟨w.heap.size,0,none⟩)]) (by simp) (by simp[go_sem]) ?_;refine(NR w.heap.size _).mono ?_;rintro e u' w''⟨rfl,rfl,rfl⟩;have c1:=yB (bG hb (j:=0) (.int .i64 0)) 0;simp at c1;have hBe:=hBw.setCell (p:=⟨w.heap.size,0,none⟩) (eA _) (.int .i64 0);simp[Leaves,settle,results,Tryz.results33,go_sem,c1];exact hBe
 ·rw[eX hD];unfold aK;go_wp2_with fail;refine leaves_cons (f:=59) (args:=#[.pointer (some ⟨w.heap.size,0,none⟩)]) (by simp) (by simp[go_sem]) ?_;refine(OZ w.heap.size D 0 [] _ c0 f0).mono ?_;rintro e u' w''⟨rfl,rfl,rfl⟩;have c1:=yB (bG hb (j:=0) (.int .i64 D)) 0;simp at c1;have hBe:=hBw.setCell (p:=⟨w.heap.size,0,none⟩) (eA _) (.int .i64 D);simp[Leaves,settle,results,Tryz.results33,go_sem,c1];exact hBe
theorem aA{p:Prop}(h:p):Hid p:=h
theorem mV(w:World)(pv sv:Array Value):∃W2,W2=(w.alloc (.cells pv 26)).alloc (.cells sv 39)/\Below w.heap.size w W2/\W2.heap.size=w.heap.size+2/\
 ∀W,Below W2.heap.size W2 W->W.heap[w.heap.size]?=some (.cells pv 26 (0,0))/\W.heap[w.heap.size+1]?=some (.cells sv 39 (0,0)):=by
 refine⟨_,rfl,((dA _ _).alloc (eA _) _).alloc (by simp) _,by simp,λW hW=>⟨(hW.block _ (by simp;omega)).trans ?_,(hW.block _ (by simp)).trans ?_⟩⟩;·rw[lE _ _ _ (by simp)];exact jA w _
 ·have:=jA (w.alloc (.cells pv 26)) (.cells sv 39);rw[pC]at this;exact this
theorem jZ(w:World)(sv:Array Value):∃W1,W1=w.alloc (.cells sv 39)/\Below w.heap.size w W1/\W1.heap.size=w.heap.size+1/\
 ∀W,Below W1.heap.size W1 W->W.heap[w.heap.size]?=some (.cells sv 39 (0,0)):=by
 refine⟨_,rfl,(dA _ _).alloc (eA _) _,by simp,λW hW=>(hW.block _ (by simp)).trans (jA w _)⟩
theorem xH{W:World}{B:Nat}{v1 v2 v3:Value}{t:TypeId}(h:W.heap[B]?=some (.cells #[v1,v2,v3] t (0,0))):W.cell? ⟨B,0,none⟩=some v1/\W.cell? ⟨B,1,none⟩=some v2/\W.cell? ⟨B,2,none⟩=some v3:=
 ⟨yB h 0,yB h 1,yB h 2⟩
theorem gD{W:World}{B:Nat}{v0 v1 v2 v3 v4 v5 v6 v7:Value}{t:TypeId}(h:W.heap[B]?=some (.cells #[v0,v1,v2,v3,v4,v5,v6,v7] t (0,0))):W.cell? ⟨B,0,none⟩=some v0/\W.cell? ⟨B,1,none⟩=some v1/\W.cell? ⟨B,2,none⟩=some v2/\W.cell? ⟨B,3,none⟩=some v3/\W.cell? ⟨B,4,none⟩=some v4/\W.cell? ⟨B,5,none⟩=some v5/\W.cell? ⟨B,6,none⟩=some v6/\W.cell? ⟨B,7,none⟩=some v7:=
 ⟨yB h 0,yB h 1,yB h 2,yB h 3,yB h 4,yB h 5,yB h 6,yB h 7⟩
theorem bI(w:World)(bs:List Bool){g:Nat}(hg:g=w.heap.size):lO (w.alloc (.cells (bs.map Value.bool).toArray 4)) g 0 bs:=by rw[hg];exact fQ w bs
theorem rM(w:World)(x:Value)(t:TypeId):(w.alloc (.cells #[x] t)).cell? ⟨w.heap.size,0,none⟩=some x:=yB (jA w (.cells #[x] t)) 0
theorem AO.get{W:World}{a:Option Addr}{xss:List (List zD)}(h:AO W a xss){k:Nat}(hk:k<xss.length):∃g o b c,a=some ⟨g,o,none⟩/\g<W.heap.size/\BU W g (o+k) xss[k] b c:=by
 rcases h with h|⟨g,o,ha,hg,h⟩;·rw[h]at hk;simp at hk
 ·obtain⟨b,c,hl⟩:=h k hk;exact⟨g,o,b,c,ha,hg,hl⟩
theorem WV(p:lD)(a1 a2 a3:Option Addr)(n1 c1 n2 c2 n3 c3:Nat)(s:yC)(b1 b2 b3:Option Addr)(m1 d1 m2 d2 m3 d3:Nat)(w:World)(hp:sG w a1 a2 a3 n1 n2 n3 p)(hs:gK w b1 b2 b3 m1 m2 m3 s):
 Calls Tryz.prog 155 #[.agg #[.slice a1 n1 c1,.slice a2 n2 c2,.slice a3 n3 c3],.agg #[.slice b1 m1 d1,.slice b2 m2 d2,.slice b3 m3 d3,.int .i64 s.gA,.int .i64 s.fA,.int .i64 s.nB,.int .i64 s.uA,.int .i64 s.iA]] w λe w'=>e=zK (if yO n2 s.yA=true then 0 else 1)/\Below w.heap.size w w':=by
 obtain⟨D,hD⟩:∃D:Int,D=if yO n2 s.yA=true then 0 else 1:=⟨_,rfl⟩;rw[<-hD];have HD:=aA hD;clear hD;obtain⟨W2,hW2,hBw,hs2,hbx⟩:=mV w #[.slice a1 n1 c1,.slice a2 n2 c2,.slice a3 n3 c3] #[.slice b1 m1 d1,.slice b2 m2 d2,.slice b3 m3 d3,.int .i64 s.gA,.int .i64 s.fA,.int .i64 s.nB,.int .i64 s.uA,.int .i64 s.iA];have HW2:=aA hW2;have BX:=aA hbx;have HS:=aA (hs.sA hBw);have HM1:Hid (s.yA.length=m1):=hs.l1;have hx1:=hs.x1;have s0:=hBw.size;have hs2':w.heap.size+1<W2.heap.size:=by omega
 unfold maxLen at hx1;have HS2:Hid (w.heap.size+1+1=W2.heap.size):=hs2.symm;clear hW2 hbx hs hp hs2;obtain⟨p0,q0⟩:=BX.out W2 (dA _ _);obtain⟨x0,x1,x2⟩:=xH p0;obtain⟨y0,y1,y2,y3,y4,y5,y6,y7⟩:=gD q0;clear p0 q0;by_cases hm:m1=n2
 ·have hmb:((m1:Int)!=(n2:Int))=false:=by simp[hm]
  have HME:=aA hm;clear hm;go_enter Tryz.func155,Tryz.ntmps155;go_wp2_with fail;rw[<-HW2.out];refine(zM 1 [false] _ _ (by simp) (bI W2 [false] HS2.out) (by simp)).mono ?_;rintro e w3⟨rfl,hw3⟩;have hB3:Below W2.heap.size W2 w3:=by rw[hw3];exact(dA _ _).alloc (eA _) _
  obtain⟨p0,q0⟩:=BX.out w3 hB3;clear x0 x1 x2 y0 y1 y2 y3 y4 y5 y6 y7;obtain⟨y0,y1,y2,y3,y4,y5,y6,y7⟩:=gD q0;clear hw3 p0 q0;go_wp2_with fail;go_loopw[5,18](λ_ i wr=>∃k:Nat,k<=m1/\i=.int .i64 k/\(∀x∈s.yA.take k,tI x=true)/\Below W2.heap.size W2 wr)(λ_ i _=>m1-(intOf i).toNat);case atStart=>exact⟨0,zA _,rfl,by simp,hB3⟩
  case round=>
   obtain⟨k,hk,rfl,ha,hB⟩:=hrel;have HA:=aA ha;have hBs:=hB.size;clear ha;by_cases hlt:k<m1
   ·have hkl:k<s.yA.length:=by rw[HM1.out];exact hlt
    obtain⟨g,o,b,c,ha,hg,hl⟩:=(HS.out.q1.sA hB).get hkl;subst ha;have e1:=hl.cell;have HLI:=aA hl;have HTK:=aA (λh1 h2=>cU (p:=tI) (xs:=s.yA) (k:=k) hkl h1 h2);have HNOT:=aA (λh2=>mL (p:=tI) (xs:=s.yA) (k:=k) hkl h2);obtain⟨xs,hxs⟩:∃xs,xs=s.yA[k]:=⟨_,rfl⟩;rw[<-hxs]at HLI e1 HTK HNOT;obtain⟨n,hn⟩:∃n,n=xs.length:=⟨_,rfl⟩;rw[<-hn]at e1;have HN:=aA hn;have j1:(0:Int)<=(k:Int):=by omega
    have j2:(k:Int)<m1:=by omega
    clear hl hxs hn;go_wp2_with fail;refine(gW xs b _ c _ HN.out.symm (vA (by rw[HN.out];exact HLI.out.le) HLI.out.cm) HLI.out.it).mono ?_;rintro e w4⟨rfl,hB4⟩;have k4:Below W2.heap.size W2 w4:=hB.trans (hB4.mono hBs);have s4:=k4.size;have k5:=k4.alloc s4 (.cells #[.int .i64 (tL xs)] 27);obtain⟨ok,hok⟩:∃ok,ok=tI xs:=⟨_,rfl⟩;have HOK:=aA hok;unfold tL at k5⊢;rw[<-hok]at k5⊢;clear hok hB4;cases ok with
    |true=>
      simp only[if_true]at k5⊢;go_wp2_with(go_at_call 69;refine(rS _ _ (rM _ _ _) (by simp)).mono ?_;rintro e w5⟨rfl,hB5⟩);go_roundw;case rel=>exact⟨k+1,by omega,by go_num,HTK.out HA.out HOK.out.symm,k5.trans (hB5.mono k5.size)⟩
      case measure=>simp[intOf];omega
    |false=>
      simp only[sN,if_false]at k5⊢;have HNO:Hid (yO n2 s.yA=false):=by show yO n2 s.yA=false;unfold yO;rw[HNOT.out HOK.out.symm];simp
      go_wp2_with(go_at_call 69;refine(qV 1 _ _ (rM _ _ _) (by simp) (by decide)).mono ?_;rintro e w5⟨rfl,hB5⟩);exact⟨rfl,by rw[HD.out,HNO.out];rfl,hBw.trans ((k5.trans (hB5.mono k5.size)).mono s0)⟩
   ·have hke:k=m1:=by omega
    subst hke;have HYES:Hid (yO n2 s.yA=true):=by
     show yO n2 s.yA=true;unfold yO;rw[nV HM1.out (yL _) HA.out,eC (by rw[HM1.out];exact HME.out)];rfl
    clear hlt hk;go_wp2_with fail;go_end0;exact⟨by rw[HD.out,HYES.out];rfl,hBw.trans (hB.mono s0)⟩
 ·have hmb:((m1:Int)!=(n2:Int))=true:=by simp;omega
  have HNO:Hid (yO n2 s.yA=false):=by show yO n2 s.yA=false;unfold yO;rw[HM1.out,vD hm];rfl
  clear hm;go_enter Tryz.func155,Tryz.ntmps155;go_wp2_with fail;rw[<-HW2.out];refine(aN 1 [true] _ _ (by simp) (bI W2 [true] HS2.out) (by simp)).mono ?_;rintro e w3⟨rfl,rfl⟩;exact⟨rfl,by rw[HD.out,HNO.out];rfl,(hBw.alloc s0 _)⟩
theorem xX.get{W:World}{a:Option Addr}{xs:List kH}(h:xX W a xs){k:Nat}(hk:k<xs.length):∃g o,a=some ⟨g,o,none⟩/\g<W.heap.size/\W.cell? ⟨g,o+k*2,none⟩=some (.int .i64 xs[k].queue)/\W.cell? ⟨g,o+k*2+1,none⟩=some (.int .i64 xs[k].nD):=by
 rcases h with h|⟨g,o,ha,hg,h⟩;·rw[h]at hk;simp at hk
 ·exact⟨g,o,ha,hg,h k hk⟩
theorem WH(p:lD)(a1 a2 a3:Option Addr)(n1 c1 n2 c2 n3 c3:Nat)(s:yC)(b1 b2 b3:Option Addr)(m1 d1 m2 d2 m3 d3:Nat)(w:World)(hs:gK w b1 b2 b3 m1 m2 m3 s):
 Calls Tryz.prog 156 #[.agg #[.slice a1 n1 c1,.slice a2 n2 c2,.slice a3 n3 c3],.agg #[.slice b1 m1 d1,.slice b2 m2 d2,.slice b3 m3 d3,.int .i64 s.gA,.int .i64 s.fA,.int .i64 s.nB,.int .i64 s.uA,.int .i64 s.iA]] w λe w'=>e=zK (if s.nA.all (sM n2)=true then 0 else 1)/\Below w.heap.size w w':=by
 obtain⟨D,hD⟩:∃D:Int,D=if s.nA.all (sM n2)=true then 0 else 1:=⟨_,rfl⟩;rw[<-hD];have HD:=aA hD;clear hD;obtain⟨W2,hW2,hBw,hs2,hbx⟩:=mV w #[.slice a1 n1 c1,.slice a2 n2 c2,.slice a3 n3 c3] #[.slice b1 m1 d1,.slice b2 m2 d2,.slice b3 m3 d3,.int .i64 s.gA,.int .i64 s.fA,.int .i64 s.nB,.int .i64 s.uA,.int .i64 s.iA];have HW2:=aA hW2;have BX:=aA hbx;have HS:=aA (hs.sA hBw);have HM3:Hid (s.nA.length=m3):=hs.l3;have hx3:=hs.x3;have s0:=hBw.size;have hs2':w.heap.size+1<W2.heap.size:=by omega
 unfold maxLen at hx3;clear hW2 hbx hs hs2;obtain⟨p0,q0⟩:=BX.out W2 (dA _ _);obtain⟨x0,x1,x2⟩:=xH p0;obtain⟨y0,y1,y2,y3,y4,y5,y6,y7⟩:=gD q0;clear p0 q0;go_enter Tryz.func156,Tryz.ntmps156;go_wp2_with fail;rw[<-HW2.out];go_loopw[5,9](λ_ i wr=>∃k:Nat,k<=m3/\i=.int .i64 k/\(∀x∈s.nA.take k,sM n2 x=true)/\Below W2.heap.size W2 wr)(λ_ i _=>m3-(intOf i).toNat);case atStart=>exact⟨0,zA _,rfl,by simp,dA _ _⟩
 case round=>
  obtain⟨k,hk,rfl,ha,hB⟩:=hrel;have HA:=aA ha;have hBs:=hB.size;clear ha x0 x1 x2 y0 y1 y2 y3 y4 y5 y6 y7;by_cases hlt:k<m3
  ·have hkl:k<s.nA.length:=by rw[HM3.out];exact hlt
   obtain⟨g,o,ha,hg,e1,e2⟩:=(HS.out.q3.sA hB).get hkl;subst ha;have HTK:=aA (λh1 h2=>cU (p:=sM n2) (xs:=s.nA) (k:=k) hkl h1 h2);have HNOT:=aA (λh2=>mL (p:=sM n2) (xs:=s.nA) (k:=k) hkl h2);obtain⟨x,hx⟩:∃x,x=s.nA[k]:=⟨_,rfl⟩;rw[<-hx]at HTK HNOT e1 e2;obtain⟨tq,tm⟩:=x;dsimp only at e1 e2;obtain⟨p0,q0⟩:=BX.out wr hB;obtain⟨x0,x1,x2⟩:=xH p0;have j1:(0:Int)<=(k:Int):=by omega
   have j2:(k:Int)<m3:=by omega
   have sk:w.heap.size<wr.heap.size:=by omega
   obtain⟨W3,hW3⟩:∃W3,W3=wr.alloc (.cells #[.int .i64 tq,.int .i64 tm] 121):=⟨_,rfl⟩;have HW3:=aA hW3;have k3:Below W2.heap.size W2 W3:=by rw[hW3];exact hB.alloc hBs _
   have b3:W3.heap[wr.heap.size]?=some (.cells #[.int .i64 tq,.int .i64 tm] 121 (0,0)):=by rw[hW3];exact jA wr _
   have z3:wr.heap.size+1=W3.heap.size:=by rw[hW3];simp
   have HZ3:=aA z3;have HB3:=aA b3;clear hx p0 q0 hW3 b3 z3;have hcase:(tq=-1)\/(tq≠-1/\tq<0)\/(tq≠-1/\¬tq<0/\(n2:Int)<=tq)\/(tq≠-1/\¬tq<0/\¬(n2:Int)<=tq):=by omega
   rcases hcase with q1|⟨q1,q2⟩|⟨q1,q2,q3⟩|⟨q1,q2,q3⟩
   ·have HBF:Hid ((decide (tq=-1)||tG tq n2)=true):=by show(decide (tq=-1)||tG tq n2)=true;rw[q1];rfl
    have q1':(tq !=-1)=false:=by rw[q1];rfl
    clear q1;go_wp2_with fail;rw[<-HW3.out];refine(zM 1 [false] _ _ (by simp) (bI W3 [false] HZ3.out) (by simp)).mono ?_;rintro e w4⟨rfl,hw4⟩;have l4:Below W3.heap.size W3 w4:=by rw[hw4];exact(dA _ _).alloc (eA _) _
    have k4:Below W2.heap.size W2 w4:=k3.trans (l4.mono k3.size);have s4:=k4.size;have b4:=(l4.block wr.heap.size (by have:=HZ3.out;omega)).trans HB3.out;have t0:=yB b4 0;have t1:=yB b4 1;simp at t0 t1;clear hw4 b4 l4;go_wp2_with fail;by_cases hm1:tm<1\/4<tm;·have HNO:Hid (s.nA.all (sM n2)=false):=HNOT.out (by unfold sM;dsimp only;rw[show decide (1<=tm/\tm<=4)=false from vD (by omega)];simp);refine(aN 1 [decide (tm<1),decide (4<tm)] _ _ (by simp) (bI w4 _ rfl) (by simp;omega)).mono ?_;rintro e w5⟨rfl,hw5⟩;exact⟨rfl,by rw[HD.out,HNO.out];rfl,by rw[hw5];exact hBw.trans ((k4.alloc s4 _).mono s0)⟩
    ·have HOK:Hid (sM n2 ⟨tq,tm⟩=true):=by show sM n2 ⟨tq,tm⟩=true;unfold sM;dsimp only;rw[HBF.out,show decide (1<=tm/\tm<=4)=true from eC (by omega)];rfl
     refine(zM 1 [decide (tm<1),decide (4<tm)] _ _ (by simp) (bI w4 _ rfl) (by simp;omega)).mono ?_;rintro e w5⟨rfl,hw5⟩;have k5:Below W2.heap.size W2 w5:=by rw[hw5];exact k4.alloc s4 _
     clear hw5;go_wp2_with fail;go_roundw;case rel=>exact⟨k+1,by omega,by go_num,HTK.out HA.out HOK.out,k5⟩
     case measure=>simp[intOf];omega
   ·have HBF:Hid ((decide (tq=-1)||tG tq n2)=false):=by show(decide (tq=-1)||tG tq n2)=false;unfold tG;simp;omega
    have q1':(tq !=-1)=true:=kD.2 q1;go_wp2_with fail;rw[<-HW3.out];refine(aN 1 [true] _ _ (by simp) (bI W3 [true] HZ3.out) (by simp)).mono ?_;rintro e w4⟨rfl,hw4⟩;exact⟨rfl,by rw[HD.out,HNOT.out (by unfold sM;dsimp only;rw[HBF.out];rfl)];rfl,by rw[hw4];exact hBw.trans ((k3.alloc k3.size _).mono s0)⟩
   ·have HBF:Hid ((decide (tq=-1)||tG tq n2)=false):=by show(decide (tq=-1)||tG tq n2)=false;unfold tG;simp;omega
    have q1':(tq !=-1)=true:=kD.2 q1;go_wp2_with fail;rw[<-HW3.out];refine(aN 1 [true] _ _ (by simp) (bI W3 [true] HZ3.out) (by simp)).mono ?_;rintro e w4⟨rfl,hw4⟩;exact⟨rfl,by rw[HD.out,HNOT.out (by unfold sM;dsimp only;rw[HBF.out];rfl)];rfl,by rw[hw4];exact hBw.trans ((k3.alloc k3.size _).mono s0)⟩
   ·have HBF:Hid ((decide (tq=-1)||tG tq n2)=true):=by show(decide (tq=-1)||tG tq n2)=true;unfold tG;simp;omega
    have q1':(tq !=-1)=true:=kD.2 q1;go_wp2_with fail;rw[<-HW3.out];refine(zM 1 [false] _ _ (by simp) (bI W3 [false] HZ3.out) (by simp)).mono ?_;rintro e w4⟨rfl,hw4⟩;have l4:Below W3.heap.size W3 w4:=by rw[hw4];exact(dA _ _).alloc (eA _) _
    have k4:Below W2.heap.size W2 w4:=k3.trans (l4.mono k3.size);have s4:=k4.size;have b4:=(l4.block wr.heap.size (by have:=HZ3.out;omega)).trans HB3.out;have t0:=yB b4 0;have t1:=yB b4 1;simp at t0 t1;clear hw4 b4 l4;go_wp2_with fail;by_cases hm1:tm<1\/4<tm;·have HNO:Hid (s.nA.all (sM n2)=false):=HNOT.out (by unfold sM;dsimp only;rw[show decide (1<=tm/\tm<=4)=false from vD (by omega)];simp);refine(aN 1 [decide (tm<1),decide (4<tm)] _ _ (by simp) (bI w4 _ rfl) (by simp;omega)).mono ?_;rintro e w5⟨rfl,hw5⟩;exact⟨rfl,by rw[HD.out,HNO.out];rfl,by rw[hw5];exact hBw.trans ((k4.alloc s4 _).mono s0)⟩
    ·have HOK:Hid (sM n2 ⟨tq,tm⟩=true):=by show sM n2 ⟨tq,tm⟩=true;unfold sM;dsimp only;rw[HBF.out,show decide (1<=tm/\tm<=4)=true from eC (by omega)];rfl
     refine(zM 1 [decide (tm<1),decide (4<tm)] _ _ (by simp) (bI w4 _ rfl) (by simp;omega)).mono ?_;rintro e w5⟨rfl,hw5⟩;have k5:Below W2.heap.size W2 w5:=by rw[hw5];exact k4.alloc s4 _
     clear hw5;go_wp2_with fail;go_roundw;case rel=>exact⟨k+1,by omega,by go_num,HTK.out HA.out HOK.out,k5⟩
     case measure=>simp[intOf];omega
  ·have hke:k=m3:=by omega
   subst hke;have HYES:Hid (s.nA.all (sM n2)=true):=nV HM3.out (yL _) HA.out;clear hlt hk;go_wp2_with fail;go_end0;exact⟨by rw[HD.out,HYES.out];rfl,hBw.trans (hB.mono s0)⟩
theorem GY(n:Nat):(Lib.decDigits n).length<=n+1:=by
 induction n using Nat.strongRecOn with
 |_ n ih=>
   rw[Lib.decDigits];split;·simp
   ·have:=ih (n/10) (by omega);rw[dC,List.length_singleton];omega
theorem B3(w:World)(k:Nat)(hk:k<10):(convert 91 9 (.slice (some ⟨w.heap.size,0,none⟩) 1 1)).run Tryz.prog (w.alloc (.cells #[.int .u8 (48+(k:Int))] 5))=.ok (.string ⟨#[UInt8.ofNat (48+k)]⟩) (w.alloc (.cells #[.int .u8 (48+(k:Int))] 5)):=by
 have h:=run_convert_bytes_arg (P:=Tryz.prog) (w:=w.alloc (.cells #[.int .u8 (48+(k:Int))] 5)) 91 5 Tryz.underlying91 Tryz.underlying5 w.heap.size 0 1 1 [48+(k:Int)] rfl (λi hi=>by
  have:i=0:=by simp at hi;omega
  subst this;exact yB (jA w (.cells #[.int .u8 (48+(k:Int))] 5)) 0) 9 Tryz.underlying9;rw[h];have e:(48+(k:Int)).toNat=48+k:=by omega
 simp[strOfNums,e]
theorem AA(n:Nat):∀(w:World),n<=1000000000000000->
 Calls Tryz.prog 16 #[.int .i64 (n:Nat)] w λe w'=>e=.returned (.string ⟨(Lib.decDigits n).toArray⟩)/\Below w.heap.size w w':=by
 induction n using Nat.strongRecOn with
 |_ n ih=>
   intro w hn;have hq:((n:Int)%10)=((n%10:Nat):Int):=by omega
   have hd:=B3 w (n%10) (by omega);have l1:Below w.heap.size w (w.alloc (.cells #[.int .u8 (48+((n%10:Nat):Int))] 5)):=(dA _ _).alloc (eA _) _;obtain⟨dg,hdg⟩:∃dg:ByteArray,dg=⟨#[UInt8.ofNat (48+n%10)]⟩:=⟨_,rfl⟩;rw[<-hdg]at hd;have HDG:=aA hdg;rw[<-hq]at hd l1;by_cases h:n<10
   ·have h':(n:Int)<10:=by omega
    have HR:Hid (dg=⟨(Lib.decDigits n).toArray⟩):=by
     show _=_;rw[hdg,Lib.decDigits_one h,Nat.mod_eq_of_lt h]
    have HL:=aA l1;clear hq ih l1 hdg;go_enter Tryz.func16,Tryz.ntmps16;go_wp2_with fail;go_ret;exact⟨by rw[HR.out];rfl,HL.out⟩
   ·have h':¬(n:Int)<10:=by omega
    have q2:Int.tdiv (n:Int) 10=((n/10:Nat):Int):=by rw[Int.tdiv_eq_ediv_of_nonneg (by omega)];omega
    have q3:IntKind.i64.wrap ((n/10:Nat):Int)=((n/10:Nat):Int):=by rw[uB];omega
    obtain⟨nd,hnd⟩:∃nd:Nat,nd=n/10:=⟨_,rfl⟩;rw[<-hnd]at q2 q3;have IH:=aA (λW=>ih nd (by omega) W (by omega));have HR:Hid ((⟨(Lib.decDigits nd).toArray⟩:ByteArray)++dg=⟨(Lib.decDigits n).toArray⟩):=by
     show _=_;rw[hdg,hnd];conv=>rhs;rw[Lib.decDigits,dif_neg h]
     apply uH;simp
    have hbd:(Lib.decDigits nd).length+dg.size<=9223372036854775807:=by
     have h1:=GY nd;have h2:dg.size=1:=by rw[hdg];rfl
     omega
    have HL:=aA l1;have hs1:=l1.size;clear hq ih l1 hdg hnd;go_enter Tryz.func16,Tryz.ntmps16;go_upto_region 4 with fail;go_wp2_with fail;refine(IH.out _).mono ?_;rintro e w2⟨rfl,k2⟩;go_wp2_with fail;go_ret;exact⟨by rw[<-HR.out];rfl,HL.out.trans (k2.mono HL.out.size)⟩
def mJ(c:UInt8):Bool:=decide (48<=c.toNat)&&decide (c.toNat<=57)
def eH(l:List UInt8):Nat:=l.foldl (λn c=>10*n+(c.toNat-48)) 0
theorem QN(l:List UInt8)(c:UInt8):eH (l++[c])=10*eH l+(c.toNat-48):=by unfold eH;rw[tO];rfl
theorem kW{c:UInt8}:mJ c=true↔48<=c.toNat/\c.toNat<=57:=by unfold mJ;simp
theorem SH{c:UInt8}(h:mJ c=true):UInt8.ofNat (48+(c.toNat-48))=c:=by
 have h1:=kW.1 h;rw[show 48+(c.toNat-48)=c.toNat by omega];exact UInt8.ofNat_toNat
theorem M8:∀(l:List UInt8)(c:UInt8),mJ c=true->c≠48->1<=eH (c::l):=by
 intro l c hc hne;have h1:=kW.1 hc;have h0:1<=c.toNat-48:=by
  have:c.toNat≠48:=λe=>hne (iJ.1 (by simpa using e));omega
 have:∀(l:List UInt8)(n:Nat),1<=n->1<=l.foldl (λn c=>10*n+(c.toNat-48)) n:=by
  intro l;induction l with
  |nil=>intro n h;exact h
  |cons x r ih=>intro n h;exact ih _ (by show 1<=10*n+(x.toNat-48);omega)
 unfold eH;rw[List.foldl_cons];exact this l _ (by show 1<=10*0+(c.toNat-48);omega)
theorem M5:∀(n:Nat)(l:List UInt8),l.length=n->l≠[]->l.all mJ=true->(l.length=1\/l.head?≠some 48)->Lib.decDigits (eH l)=l:=by
 intro n;induction n using Nat.strongRecOn with
 |_ n ih=>
   intro l hn hne hall hz;rcases gR l with h|⟨l',c,h⟩;·exact absurd h hne
   ·have h':l=l'++[c]:=by rw[h];simp
    subst h';rw[fJ,aC]at hall;have hc:mJ c=true:=by simpa using hall.2
    have hcd:=kW.1 hc;rw[QN];by_cases he:l'=[];·subst he;have:eH []=0:=rfl;rw[this,Nat.mul_zero,uD,Lib.decDigits_one (by omega),SH hc];rfl
    ·have hhd:l'.head?≠some 48:=by
      have h1:(l'++[c]).head?=l'.head?:=by
       cases l' with
       |nil=>exact absurd rfl he
       |cons x r=>rfl
      have h2:(l'++[c]).length≠1:=by
       have:l'.length≠0:=λe=>he (kC.1 e);simp;omega
      rcases hz with hz|hz;·exact absurd hz h2
      ·rw[<-h1];exact hz
     have i1:=ih l'.length (by rw[<-hn];simp) l' rfl he hall.1 (.inr hhd);have hp:1<=eH l':=by
      cases l' with
      |nil=>exact absurd rfl he
      |cons x r=>
        have hx:mJ x=true:=by have:=hall.1;simp at this;exact this.1
        exact M8 r x hx (λe=>hhd (by rw[e];rfl))
     rw[Lib.decDigits,dif_neg (by omega)];have e1:(10*eH l'+(c.toNat-48))/10=eH l':=by omega
     have e2:(10*eH l'+(c.toNat-48))%10=c.toNat-48:=by omega
     rw[e1,e2,i1,SH hc]
theorem M6:∀(n:Nat),(Lib.decDigits n).head?=some 48->n=0:=by
 intro n;induction n using Nat.strongRecOn with
 |_ n ih=>
   intro h;rw[Lib.decDigits]at h;split at h;·rename_i hlt;simp at h;have:=congrArg UInt8.toNat h;simp at this;omega
   ·rename_i hlt;have hne:Lib.decDigits (n/10)≠[]:=by
     rw[Lib.decDigits];split<;>simp
    cases hd:Lib.decDigits (n/10)with
    |nil=>exact absurd hd hne
    |cons x r=>
      rw[hd]at h;have:n/10=0:=ih (n/10) (by omega) (by rw[hd];simpa using h);omega
def vM(l:List UInt8):Bool:=decide (1<=l.length)&&decide (l.length<=6)&&l.all mJ&&decide (l.length=1\/l.head?≠some 48)
theorem U6{l:List UInt8}(h1:1<=l.length)(hall:l.all mJ=true):Lib.decDigits (eH l)=l↔(l.length=1\/l.head?≠some 48):=by
 constructor
 ·intro h;by_cases hh:l.head?=some 48;·left;rw[<-h]at hh;have:=M6 _ hh;rw[this]at h;rw[<-h,Lib.decDigits_one (by omega)];rfl
  ·exact .inr hh
 ·intro h;exact M5 l.length l rfl (λe=>by rw[e]at h1;simp at h1) hall h
def hP(s:ByteArray):Int:=if vM s.data.toList=true then(eH s.data.toList:Nat)else-1
theorem KE{s:ByteArray}{k:Nat}(h:k<s.size):eH (s.data.toList.take (k+1))=10*eH (s.data.toList.take k)+(s[k].toNat-48):=by rw[FN s k h,QN]
theorem IS:∀(l:List UInt8),l.all mJ=true->eH l<10^l.length:=by
 intro l;have:∀(l:List UInt8)(n:Nat),l.all mJ=true->l.foldl (λn c=>10*n+(c.toNat-48)) n<(n+1)*10^l.length:=by
  intro l;induction l with
  |nil=>intro n _;simp
  |cons x r ih=>
    intro n h;simp only[List.all_cons,aC]at h;have h1:=kW.1 h.1;have h2:=ih (10*n+(x.toNat-48)) h.2;rw[List.foldl_cons,List.length_cons,Nat.pow_succ];refine uC h2 ?_;have h3:10*n+(x.toNat-48)+1<=(n+1)*10:=by omega
    calc(10*n+(x.toNat-48)+1)*10^r.length<=((n+1)*10)*10^r.length:=fS _ h3
     _=(n+1)*(10^r.length*10):=by rw[Nat.mul_assoc,Nat.mul_comm 10]
 intro h;have:=this l 0 h;unfold eH;omega
theorem AW{k:Nat}(h:k<=6):10^k<=1000000:=Nat.pow_le_pow_right (by omega) h
theorem MC(s:ByteArray)(k:Nat)(h:k<s.size)(hc:mJ s[k]=false):s.data.toList.all mJ=false:=by
 rw[vG];exact⟨s[k],by show s.data[k]∈_;simp,by simp[hc]⟩
theorem LS(s:ByteArray)(k:Nat)(h:k<s.size)(ha:(s.data.toList.take k).all mJ=true)(hc:mJ s[k]=true):(s.data.toList.take (k+1)).all mJ=true:=by
 rw[FN s k h,fJ,ha];simpa using hc
theorem gZ(s:ByteArray)(w:World)(hs:s.size<=1000000):
 Calls Tryz.prog 47 #[.string s] w λe w'=>e=.returned (.int .i64 (hP s))/\Below w.heap.size w w':=by
 obtain⟨V,hV⟩:∃V,V=hP s:=⟨_,rfl⟩;rw[<-hV];have HV:=aA hV;clear hV;by_cases hlen:1<=s.size/\s.size<=6;rotate_left
 ·have HN:Hid (V=-1):=by
   show V=-1;rw[HV.out];unfold hP vM;rw[kA];have:s.data.toList.length=s.size:=by simp
   simp only[this,aC,mC];intro h;exact hlen ⟨h.1.1.1,h.1.1.2⟩
  have hw:pJ (s.size:Int) 1 6=false:=by unfold pJ;simp;omega
  clear hlen;go_enter Tryz.func47,Tryz.ntmps47;go_wp2_with(go_at_call 40;refine(wP _ _ _ _).mono ?_;rintro e w'⟨rfl,rfl⟩;rw[hw]);go_ret;exact⟨by rw[HN.out];rfl,dA _ _⟩
 ·obtain⟨h1,h6⟩:=hlen;have hw:pJ (s.size:Int) 1 6=true:=by unfold pJ;simp;omega
  have HVD:Hid (s.data.toList.all mJ=true->V=if s.data.toList.length=1\/s.data.toList.head?≠some 48 then((eH s.data.toList:Nat):Int)else-1):=λh=>by
   rw[HV.out];unfold hP vM;have e:s.data.toList.length=s.size:=by simp
   rw[h,e,eC h1,eC h6];simp
  have HVN:Hid (s.data.toList.all mJ=false->V=-1):=λh=>by
   rw[HV.out];unfold hP vM;rw[h];simp
  go_enter Tryz.func47,Tryz.ntmps47;go_wp2_with(go_at_call 40;refine(wP _ _ _ _).mono ?_;rintro e w'⟨rfl,hw'⟩;rw[hw',hw];clear hw');go_loopw[3,4](λn i wr=>∃(k m:Nat),k<=s.size/\i=.int .i64 k/\n=.int .i64 m/\m=eH (s.data.toList.take k)/\(s.data.toList.take k).all mJ=true/\wr=w)(λ_ i _=>s.size-(intOf i).toNat);case atStart=>exact⟨0,0,zA _,rfl,rfl,rfl,rfl,rfl⟩
  case round=>
   obtain⟨k,m,hk,rfl,rfl,hm,ha,rfl⟩:=hrel;have hmb:m<1000000:=by
    have h2:=IS _ ha;rw[<-hm,iD]at h2;exact uC h2 (AW (by omega))
   have HM:=aA hm;have HA:=aA ha;clear hm ha;by_cases hlt:k<s.size
   ·have j1:(0:Int)<=(k:Int):=by omega
    have j2:(k:Int)<s.size:=by omega
    by_cases hd:mJ s[k]=true
    ·obtain⟨d1,d2⟩:=kW.1 hd;have n1:¬((s[k].toNat:Int)<48):=by omega
     have n2:¬((57:Int)<(s[k].toNat:Int)):=by omega
     have HMN:Hid (10*m+(s[k].toNat-48)=eH (s.data.toList.take (k+1))):=by show _=_;rw[KE hlt,HM.out]
     have HAN:=aA (LS s k hlt HA.out hd);obtain⟨c,hc⟩:∃c:Nat,c=s[k].toNat:=⟨_,rfl⟩;have q1:IntKind.i64.wrap (10*(m:Int))=10*m:=by rw[uB];omega
     have q2:IntKind.u8.wrap ((s[k].toNat:Int)-48)=((s[k].toNat-48:Nat):Int):=by rw[IntKind.wrap_u8];omega
     have q3:IntKind.i64.wrap (((s[k].toNat-48:Nat):Int))=((s[k].toNat-48:Nat):Int):=by rw[uB];omega
     have q4:IntKind.i64.wrap (10*(m:Int)+((s[k].toNat-48:Nat):Int))=((10*m+(s[k].toNat-48):Nat):Int):=by rw[uB];omega
     have HLT:=aA hlt;clear hc hd;go_wp2_with fail;go_roundw;case rel=>exact⟨k+1,10*m+(s[k].toNat-48),HLT.out,by have:=HLT.out;go_num,by first|rfl|(simp;omega),HMN.out,HAN.out,trivial⟩
     case measure=>have:=HLT.out;simp[intOf];omega
    ·have HN:Hid (V=-1):=HVN.out (MC s k hlt (by simpa using hd));have hd':(s[k].toNat:Int)<48\/(57:Int)<(s[k].toNat:Int):=by
      have:¬(48<=s[k].toNat/\s[k].toNat<=57):=λh=>hd (kW.2 h);omega
     clear hd;rcases hd' with n1|n2;·go_wp2_with fail;go_ret;exact⟨by rw[HN.out];rfl,dA _ _⟩
     ·have n1:¬((s[k].toNat:Int)<48):=by omega
      go_wp2_with fail;go_ret;exact⟨by rw[HN.out];rfl,dA _ _⟩
   ·have hke:k=s.size:=by omega
    have e:s.data.toList.take k=s.data.toList:=iB (by simp;omega);rw[e]at HM HA;have HVV:=aA (HVD.out HA.out);have DI:=aA (U6 (l:=s.data.toList) (by simpa using h1) HA.out);clear hlt hk e;go_wp2_with fail;refine(AA m _ (by omega)).mono ?_;rintro e w2⟨rfl,k2⟩;obtain⟨D,hD⟩:∃D:ByteArray,D=⟨(Lib.decDigits m).toArray⟩:=⟨_,rfl⟩;rw[<-hD];by_cases hq:D=s
    ·have HEQ:Hid (V=m):=by
      show V=_;rw[HVV.out,qA,HM.out];rw[<-DI.out,<-HM.out];have:=congrArg (λb=>b.data.toList) (hD.symm.trans hq);simpa using this
     clear hD;subst hq;go_wp2_with fail;go_ret;exact⟨by rw[HEQ.out];rfl,k2⟩
    ·have HEQ:Hid (V=-1):=by
      show V=_;rw[HVV.out,kA];rw[<-DI.out,<-HM.out];intro h;exact hq (by rw[hD,h])
     have hne:(D.toList==s.toList)=false:=VL hq;clear hD;go_wp2_with fail;go_ret;exact⟨by rw[HEQ.out];rfl,k2⟩
def qX:List Nat->List Nat->Prop
 |[],_=>False
 |_::_,[]=>False
 |a::r,b::s=>a<b\/(a=b/\qX r s)
theorem QD:∀{s t u:List Nat},qX s t->qX t u->qX s u
 |[],_,_,h,_=>h.elim
 |_::_,[],_,h,_=>h.elim
 |_::_,_::_,[],_,k=>k.elim
 |a::r,b::s,c::t,h,k=>by
   rcases h with h|⟨rfl,h⟩
   ·rcases k with k|⟨rfl,k⟩;·exact .inl (by omega)
    ·exact .inl h
   ·rcases k with k|⟨rfl,k⟩;·exact .inl k
    ·exact .inr ⟨rfl,QD h k⟩
theorem FP:∀{s t:List Nat}{n m:Nat},s.length=t.length->(qX (s++[n]) (t++[m])↔qX s t\/(s=t/\n<m))
 |[],[],n,m,_=>by simp[qX]
 |[],_::_,_,_,h=>by simp at h
 |_::_,[],_,_,h=>by simp at h
 |a::r,b::s,n,m,hl=>by
   have ih:=FP (s:=r) (t:=s) (n:=n) (m:=m) (by simpa using hl);simp only[List.cons_append,qX,ih,List.cons.injEq];constructor
   ·rintro(h|⟨h1,h|⟨h2,h⟩⟩);·exact .inl (.inl h)
    ·exact .inl (.inr ⟨h1,h⟩)
    ·exact .inr ⟨⟨h1,h2⟩,h⟩
   ·rintro((h|⟨h1,h⟩)|⟨⟨h1,h2⟩,h⟩);·exact .inl h
    ·exact .inr ⟨h1,.inl h⟩
    ·exact .inr ⟨h1,.inr ⟨h2,h⟩⟩
def fW(s t:List Nat):Prop:=s.length<t.length\/(s.length=t.length/\qX s t)
theorem CM{s t u:List Nat}(h:fW s t)(k:fW t u):fW s u:=by
 rcases h with h|⟨h1,h⟩<;>rcases k with k|⟨k1,k⟩;·exact .inl (by omega)
 ·exact .inl (by omega)
 ·exact .inl (by omega)
 ·exact .inr ⟨by omega,QD h k⟩
theorem aV{s t:List Nat}{n m:Nat}:fW (s++[n]) (t++[m])↔fW s t\/(s=t/\n<m):=by
 unfold fW;simp only[dC,List.length_cons,List.length_nil];constructor
 ·rintro(h|⟨h,k⟩);·exact .inl (.inl (by omega))
  ·rcases(FP (by omega)).1 k with k|k;·exact .inl (.inr ⟨by omega,k⟩)
   ·exact .inr k
 ·rintro((h|⟨h,k⟩)|⟨rfl,h⟩);·exact .inl (by omega)
  ·exact .inr ⟨by omega,(FP h).2 (.inl k)⟩
  ·exact .inr ⟨rfl,(FP rfl).2 (.inr ⟨rfl,h⟩)⟩
theorem DH{t:List Nat}{m:Nat}:fW [] (t++[m]):=.inl (by simp)
inductive eK(A:Nat->Option (Nat×Nat))(r:Nat):List Nat->Nat->Prop
 |nil:eK A r [] r
 |snoc{s:List Nat}{u n v:Nat}:eK A r s u->A n=some (u,v)->eK A r (s++[n]) v
theorem eK.inv{A:Nat->Option (Nat×Nat)}{r v:Nat}{s:List Nat}(h:eK A r s v):(s=[]/\v=r)\/∃s' u n,s=s'++[n]/\eK A r s' u/\A n=some (u,v):=by
 cases h with
 |nil=>exact .inl ⟨rfl,rfl⟩
 |snoc h1 h2=>exact .inr ⟨_,_,_,rfl,h1,h2⟩
theorem eK.inv_snoc{A:Nat->Option (Nat×Nat)}{r v n:Nat}{s:List Nat}(h:eK A r (s++[n]) v):∃u,eK A r s u/\A n=some (u,v):=by
 rcases h.inv with⟨h1,_⟩|⟨s',u,m,h1,h2,h3⟩;·simp at h1
 ·have:=List.append_inj' h1 rfl;simp at this;obtain⟨rfl,rfl⟩:=this;exact⟨u,h2,h3⟩
abbrev pE:=List (Nat×List Nat)
def uQ(A:Nat->Option (Nat×Nat))(u:Nat)(t:List Nat)(L:pE)(n:Nat):pE:=
 match A n with
 |some (u',v)=>if u'=u/\v∉L.map Prod.fst then L++[(v,t++[n])]else L
 |none=>L
structure mM(A:Nat->Option (Nat×Nat))(r:Nat)(L:pE)(i n:Nat):Prop where
 first:L[0]?=some (r,[])
 once:(L.map Prod.fst).Nodup
 path:∀x∈L,eK A r x.2 x.1
 prev:∀x∈L,x.2=[]\/∃y∈L,∃m,x.2=y.2++[m]
 rise:L.Pairwise (λx y=>fW x.2 y.2)
 least:∀x∈L,∀s,eK A r s x.1->¬fW s x.2
 shut:∀j(hj:j<L.length)m v,A m=some (L[j].1,v)->(j<i\/(j=i/\m<n))->v∈L.map Prod.fst
 all:∀(hi:i<L.length)s v,eK A r s v->fW s (L[i].2++[n])->v∈L.map Prod.fst
 below:∀(hi:i<L.length),∀x∈L,fW x.2 (L[i].2++[n])
theorem mM.start(A:Nat->Option (Nat×Nat))(r:Nat):mM A r [(r,[])] 0 0 where
 first:=rfl
 once:=by simp
 path:=by intro x hx;simp at hx;subst hx;exact .nil
 prev:=by intro x hx;simp at hx;subst hx;exact .inl rfl
 rise:=by simp
 least:=by
  intro x hx s _ h;simp at hx;subst hx;rcases h with h|⟨h,k⟩;·simp at h
  ·cases s<;>simp at h k;exact k
 shut:=by intro j hj m v _ h;omega
 all:=by
  intro hi s v hp h;rcases hp.inv with⟨rfl,rfl⟩|⟨s',u,m,rfl,_,_⟩;·simp
  ·rcases aV.1 h with h|⟨_,h⟩
   ·rcases h with h|⟨h,k⟩;·simp at h
    ·cases s'<;>simp at h k;exact k.elim
   ·omega
 below:=by intro hi x hx;simp at hx;subst hx;exact DH
theorem GI{L:pE}{x:Nat×List Nat}(h:x∈L):∃j,∃hj:j<L.length,L[j]=x:=oG.1 h
theorem R6{A:Nat->Option (Nat×Nat)}{r u v:Nat}{s:List Nat}(h:eK A r s u)(k:eK A r s v):u=v:=by
 rcases h.inv with⟨rfl,rfl⟩|⟨s',x,n,rfl,_,h3⟩
 ·rcases k.inv with⟨_,rfl⟩|⟨s',x,n,h1,_,_⟩;·rfl
  ·simp at h1
 ·obtain⟨y,_,h4⟩:=k.inv_snoc;rw[h3]at h4;simp at h4;exact h4.2
theorem mM.step{A:Nat->Option (Nat×Nat)}{r:Nat}{L:pE}{i n:Nat}(h:mM A r L i n)(hi:i<L.length):mM A r (uQ A L[i].1 L[i].2 L n) i (n+1)/\(uQ A L[i].1 L[i].2 L n)[i]?=some L[i]:=by
 have ends:∀{s:List Nat}{u:Nat},eK A r s u->s=L[i].2->u=L[i].1:=λh1 e=>by subst e;exact R6 h1 (h.path _ (qB hi))
 have same:(∀v,A n=some (L[i].1,v)->v∈L.map Prod.fst)->mM A r L i (n+1):=by
  intro hv;refine⟨h.first,h.once,h.path,h.prev,h.rise,h.least,?_,?_,?_⟩
  ·intro j hj m v hA hm;by_cases e:j=i/\m=n;·obtain⟨rfl,rfl⟩:=e;exact hv v hA
   ·exact h.shut j hj m v hA (by omega)
  ·intro hi' s v hp hs;rcases hp.inv with⟨rfl,rfl⟩|⟨s',u,m,rfl,h1,h2⟩;·exact h.all hi' [] _ .nil DH
   ·rcases aV.1 hs with h3|⟨h3,h4⟩;·exact h.all hi' _ v hp (aV.2 (.inl h3))
    ·by_cases e:m<n;·exact h.all hi' _ v hp (aV.2 (.inr ⟨h3,e⟩))
     ·have e2:m=n:=by omega
      rw[ends h1 h3,e2]at h2;exact hv v h2
  ·intro hi' x hx;exact CM (h.below hi' x hx) (aV.2 (.inr ⟨rfl,by omega⟩))
 unfold uQ;cases hA:A n with
 |none=>
   exact⟨same (λv hv=>by rw[hA]at hv;cases hv),tA hi⟩
 |some p=>
   obtain⟨u',v⟩:=p;dsimp only;by_cases hc:u'=L[i].1/\v∉L.map Prod.fst
   ·rw[qA hc];obtain⟨rfl,hv⟩:=hc;have hpos:0<L.length:=by omega
    have hget:∀j(hj:j<L.length),(L++[(v,L[i].2++[n])])[j]'(by simp;omega)=L[j]:=λj hj=>List.getElem_append_left hj;have hold:∀{x:Nat},x∈L.map Prod.fst->x∈(L++[(v,L[i].2++[n])]).map Prod.fst:=λhx=>by simp only[oD,oC];exact .inl hx
    have hnew:v∈(L++[(v,L[i].2++[n])]).map Prod.fst:=by simp
    refine⟨⟨?_,?_,?_,?_,?_,?_,?_,?_,?_⟩,by rw[wE hi];exact tA hi⟩;·rw[wE hpos];exact h.first
    ·rw[oD,uO];refine⟨h.once,by simp,?_⟩;intro a ha b hb e;simp at hb;subst hb;subst e;exact hv ha
    ·intro x hx;rcases oC.1 hx with hx|hx;·exact h.path x hx
     ·simp at hx;subst hx;exact .snoc (h.path _ (qB hi)) hA
    ·intro x hx;rcases oC.1 hx with hx|hx
     ·rcases h.prev x hx with e|⟨y,hy,m,e⟩;·exact .inl e
      ·exact .inr ⟨y,oC.2 (.inl hy),m,e⟩
     ·simp at hx;subst hx;exact .inr ⟨L[i],oC.2 (.inl (qB hi)),n,rfl⟩
    ·rw[uJ];refine⟨h.rise,by simp,?_⟩;intro a ha b hb;simp at hb;subst hb;exact h.below hi a ha
    ·intro x hx s hp hs;rcases oC.1 hx with hx|hx;·exact h.least x hx s hp hs
     ·simp at hx;subst hx;exact hv (h.all hi s v hp hs)
    ·intro j hj m v' hA' hm;have hj':j<L.length:=by omega
     rw[hget j hj']at hA';by_cases e:j=i/\m=n;·obtain⟨rfl,rfl⟩:=e;rw[hA]at hA';simp at hA';rw[<-hA'];exact hnew
     ·exact hold (h.shut j hj' m v' hA' (by omega))
    ·intro hi' s v' hp hs;rw[hget i hi]at hs;rcases hp.inv with⟨rfl,rfl⟩|⟨s',u,m,rfl,h1,h2⟩;·exact hold (h.all hi [] _ .nil DH)
     ·rcases aV.1 hs with h3|⟨h3,h4⟩;·exact hold (h.all hi _ v' hp (aV.2 (.inl h3)))
      ·by_cases e:m<n;·exact hold (h.all hi _ v' hp (aV.2 (.inr ⟨h3,e⟩)))
       ·have e2:m=n:=by omega
        rw[ends h1 h3,e2,hA]at h2;simp at h2;rw[<-h2];exact hnew
    ·intro hi' x hx;rw[hget i hi];rcases oC.1 hx with hx|hx;·exact CM (h.below hi x hx) (aV.2 (.inr ⟨rfl,by omega⟩))
     ·simp at hx;subst hx;exact aV.2 (.inr ⟨rfl,by omega⟩)
   ·rw[kA hc];refine⟨same (λv' hv=>?_),tA hi⟩;rw[hA]at hv;simp at hv;obtain⟨rfl,rfl⟩:=hv;exact Classical.not_not.1 (λhn=>hc ⟨rfl,hn⟩)
def dO(A:Nat->Option (Nat×Nat))(nb:Nat)(x:Nat×List Nat)(L:pE):pE:=(List.range nb).foldl (uQ A x.1 x.2) L
theorem mM.steps{A:Nat->Option (Nat×Nat)}{r:Nat}{L:pE}{i:Nat}(h:mM A r L i 0)(hi:i<L.length):∀nb,mM A r (dO A nb L[i] L) i nb/\(dO A nb L[i] L)[i]?=some L[i]
 |0=>⟨h,tA hi⟩
 |nb+1=>by
   obtain⟨h1,h2⟩:=h.steps hi nb;unfold dO at h1 h2⊢;rw[iI,tO,List.foldl_cons,List.foldl_nil];obtain⟨hi',e⟩:=cH.1 h2;have:=h1.step hi';rw[e]at this;exact this
theorem mM.next{A:Nat->Option (Nat×Nat)}{r:Nat}{L:pE}{i nb:Nat}(h:mM A r L i nb)(hi:i<L.length)(hnb:∀m p,A m=some p->m<nb):mM A r L (i+1) 0 where
 first:=h.first
 once:=h.once
 path:=h.path
 prev:=h.prev
 rise:=h.rise
 least:=h.least
 shut:=by
  intro j hj m v hA hm;have:=hnb m _ hA;exact h.shut j hj m v hA (by omega)
 all:=by
  intro hi' s v hp hs;rcases hp.inv with⟨rfl,rfl⟩|⟨s',u,m,rfl,h1,h2⟩;·exact h.all hi [] _ .nil DH
  ·rcases aV.1 hs with h3|⟨_,h4⟩
   ·have hu:=h.all hi s' u h1 (CM h3 (h.below hi _ (qB hi')));obtain⟨x,hx,rfl⟩:=jD.1 hu;obtain⟨j,hj,rfl⟩:=GI hx;have hl:=h.least _ hx s' h1;have hji:j<i+1:=by
     rcases xG j (i+1)with h|h5;·exact h
     ·exfalso;rcases Nat.eq_or_lt_of_le h5 with e|e;·subst e;exact hl h3
      ·exact hl (CM h3 (dH.1 h.rise _ _ hi' hj e))
    exact h.shut j hj m v h2 (by have:=hnb m _ h2;omega)
   ·omega
 below:=by
  intro hi' x hx;rcases h.prev x hx with e|⟨y,hy,m,e⟩;·rw[e];exact DH
  ·have h1:=h.below hi x hx;rw[e]at h1⊢;have h2:=dH.1 h.rise i (i+1) hi hi' (by omega);rcases aV.1 h1 with h3|⟨h3,_⟩;·exact aV.2 (.inl (CM h3 h2))
   ·rw[h3];exact aV.2 (.inl h2)
inductive aH(A:Nat->Option (Nat×Nat))(nb r:Nat):pE->Nat->Prop
 |start:aH A nb r [(r,[])] 0
 |next{L:pE}{i:Nat}(h:aH A nb r L i)(hi:i<L.length):aH A nb r (dO A nb L[i] L) (i+1)
theorem aH.nB{A:Nat->Option (Nat×Nat)}{nb r:Nat}(hnb:∀m p,A m=some p->m<nb){L:pE}{i:Nat}(h:aH A nb r L i):mM A r L i 0/\i<=L.length:=by
 induction h with
 |start=>exact⟨mM.start A r,by simp⟩
 |next h hi ih=>
   obtain⟨h1,h2⟩:=ih.1.steps hi nb;obtain⟨hi',_⟩:=cH.1 h2;exact⟨h1.next hi' hnb,by omega⟩
theorem GA:∀(n:Nat)(l:List Nat),l.Nodup->(∀x∈l,x<n)->l.length<=n
 |0,l,_,h=>by
   cases l with
   |nil=>simp
   |cons x r=>have:=h x (by simp);omega
 |n+1,l,hn,h=>by
   by_cases hm:n∈l;·have:=GA n (l.erase n) (hn.erase n) (λx hx=>by
     have h1:=(hn.mem_erase_iff).1 hx;have:=h x h1.2;have:=h1.1;omega);rw[List.length_erase_of_mem hm]at this;omega
   ·have:=GA n l hn (λx hx=>by
     have:=h x hx;have:x≠n:=λe=>hm (e▸hx);omega);omega
structure iT(A:Nat->Option (Nat×Nat))(r:Nat)(L:pE):Prop where
 nB:∃i,L.length<=i/\mM A r L i 0
theorem aH.found{A:Nat->Option (Nat×Nat)}{nb r:Nat}(hnb:∀m p,A m=some p->m<nb){L:pE}{i:Nat}(h:aH A nb r L i)(hi:¬i<L.length):iT A r L:=⟨i,by omega,(h.nB hnb).1⟩
theorem iT.all{A:Nat->Option (Nat×Nat)}{r:Nat}{L:pE}(h:iT A r L){s:List Nat}{v:Nat}(hp:eK A r s v):v∈L.map Prod.fst:=by
 obtain⟨i,hi,h⟩:=h;induction hp with
 |nil=>have:=h.first;exact jD.2 ⟨(r,[]),cS this,rfl⟩
 |snoc h1 h2 ih=>
   obtain⟨x,hx,rfl⟩:=jD.1 ih;obtain⟨j,hj,rfl⟩:=GI hx;exact h.shut j hj _ _ h2 (by omega)
theorem iT.mem{A:Nat->Option (Nat×Nat)}{r:Nat}{L:pE}(h:iT A r L){v:Nat}:v∈L.map Prod.fst↔∃s,eK A r s v:=by
 constructor;·intro hv;obtain⟨x,hx,rfl⟩:=jD.1 hv;obtain⟨i,hi,h⟩:=h;exact⟨_,h.path x hx⟩
 ·rintro⟨s,hs⟩;exact h.all hs
theorem mM.short{A:Nat->Option (Nat×Nat)}{r:Nat}{L:pE}{i n:Nat}(h:mM A r L i n):∀(k j:Nat)(hj:j<L.length),j<k->L[j].2.length<=j
 |0,j,hj,hk=>by omega
 |k+1,j,hj,hk=>by
   rcases h.prev _ (qB hj)with e|⟨y,hy,m,e⟩;·rw[e];simp
   ·obtain⟨j',hj',rfl⟩:=GI hy;have hlt:j'<j:=by
     rcases Nat.lt_trichotomy j' j with h1|h1|h1;·exact h1
     ·subst h1;have:=congrArg List.length e;simp at this
     ·exfalso;have:=dH.1 h.rise j j' hj hj' h1;rw[e]at this;rcases this with h2|⟨h2,_⟩<;>simp at h2;omega
    have:=h.short k j' hj' (by omega);rw[e];simp;omega
open Go.Shelf
attribute[local go_sem]qH
def fO(p:lD)(v:Int)(key:ByteArray):Int:=if iF p=0 then(if tG v p.nC.length=true then kG key.data.toList else 5)else iF p
def oH(p:lD)(n:Nat):qS:=p.qC.getD n ⟨0,false,0,⟨#[]⟩⟩
def qS.val(b:qS):Value:=.agg #[.int .i64 b.src,.bool b.xF,.int .i64 b.dst,.string b.pat]
def rT(p:lD)(key:ByteArray)(v:Int)(n:Nat):Bool:=decide ((oH p n).src=v)&&nI p n key
def mO(p:lD)(key:ByteArray)(v:Int)(k:Nat):List Nat:=(List.range k).filter (rT p key v)
def yQ(p:lD)(key:ByteArray)(v:Int):List Nat:=mO p key v p.qC.length
theorem IV(p:lD)(key:ByteArray)(v:Int)(k:Nat):mO p key v (k+1)=mO p key v k++if rT p key v k=true then[k]else[]:=by
 unfold mO;rw[iI,yH];cases h:rT p key v k<;>simp[h]
theorem QQ{p:lD}{key:ByteArray}{v:Int}{k:Nat}(h:rT p key v k=true):mO p key v (k+1)=mO p key v k++[k]:=by rw[IV,qA h]
theorem TE{p:lD}{key:ByteArray}{v:Int}{k:Nat}(h:rT p key v k=false):mO p key v (k+1)=mO p key v k:=by rw[IV,h];simp
theorem E_(p:lD)(key:ByteArray)(v:Int){k m:Nat}(h:k<=m):mO p key v k<+:mO p key v m:=by
 induction m with
 | zero => have :k=0:=by omega
           subst this;exact List.prefix_refl _
 |succ m ih=>
   by_cases e:k=m+1;·subst e;exact List.prefix_refl _
   ·rw[IV];exact(ih (by omega)).trans (List.prefix_append _ _)
theorem OF(p:lD)(a1 a2 a3:Option Addr)(n1 c1 n2 c2 n3 c3:Nat)(v:Int)(key:ByteArray)(w:World)(hp:sG w a1 a2 a3 n1 n2 n3 p):
 Calls Tryz.prog 174 #[.agg #[.slice a1 n1 c1,.slice a2 n2 c2,.slice a3 n3 c3],.int .i64 v,.string key] w λe w'=>e=.returned (.int .i64 (fO p v key))/\Below w.heap.size w w':=by
 obtain⟨W1,hW1,hBw,hs1,hbx⟩:=AC w (.slice a1 n1 c1) (.slice a2 n2 c2) (.slice a3 n3 c3) 26;have HW1:Hid (W1=_):=hW1;have HP1:Hid (sG W1 a1 a2 a3 n1 n2 n3 p):=hp.sA hBw;have BX:Hid (∀W,Below W1.heap.size W1 W->W.cell? ⟨w.heap.size,0,none⟩=some (.slice a1 n1 c1)/\W.cell? ⟨w.heap.size,1,none⟩=some (.slice a2 n2 c2)/\W.cell? ⟨w.heap.size,2,none⟩=some (.slice a3 n3 c3)):=hbx;have s1:=hBw.size;have hl1:=hp.l1;clear hW1 hp hbx hs1;obtain⟨d,hd⟩:∃d,d=iF p:=⟨_,rfl⟩;have HD:Hid (d=iF p):=hd;by_cases h0:d=0
 ·have F1:fO p v key=if tG v n1=true then kG key.data.toList else 5:=by unfold fO;rw[qA (by rw[<-hd];exact h0),hl1]
  clear hd;subst h0;cases hnum:tG v n1 with
  |false=>
    rw[hnum]at F1;rw[F1];clear F1;have hor:v<0\/(¬v<0/\(n1:Int)<=v):=by unfold tG at hnum;simp at hnum;omega
    clear hnum hl1;rcases hor with h|⟨h,h2⟩;all_goals
     go_enter Tryz.func174,Tryz.ntmps174;go_wp2_with fail;rw[<-HW1.out];refine(cX p _ _ _ _ _ _ _ _ _ _ HP1.out.l1 HP1.out.l2 HP1.out.l3 HP1.out.sz HP1.out.p1 HP1.out.p2 HP1.out.p3).mono ?_;rintro e w2⟨rfl,hB2⟩;rw[<-HD.out];obtain⟨d0,d1,d2⟩:=BX.out w2 hB2;go_wp2_with fail;go_ret;exact⟨rfl,hBw.trans (hB2.mono s1)⟩
  |true=>
    rw[hnum]at F1;have h1:¬v<0:=by unfold tG at hnum;simp at hnum;omega
    have h2:¬(n1:Int)<=v:=by unfold tG at hnum;simp at hnum;omega
    obtain⟨dk,hdk⟩:∃dk,dk=kG key.data.toList:=⟨_,rfl⟩;rw[qA rfl,<-hdk]at F1;rw[F1];have HC:Hid (∀w,Calls Tryz.prog 202 #[.string key] w λe w'=>∃v,e=.returned (.tuple #[v,.int .i64 dk])/\Below w.heap.size w w'):=λw=>by
     rw[hdk];by_cases hk:kG key.data.toList=0;·refine(FL key _ rfl w hk).mono ?_;rintro e w'⟨g,cap,rfl,_,_,_,_,hB⟩;exact⟨_,by rw[hk],hB⟩
     ·refine(EU key w hk).mono ?_;rintro e w'⟨rfl,hB⟩;exact⟨_,rfl,hB⟩
    clear F1 hnum hl1 hdk;go_enter Tryz.func174,Tryz.ntmps174;go_wp2_with fail;rw[<-HW1.out];refine(cX p _ _ _ _ _ _ _ _ _ _ HP1.out.l1 HP1.out.l2 HP1.out.l3 HP1.out.sz HP1.out.p1 HP1.out.p2 HP1.out.p3).mono ?_;rintro e w2⟨rfl,hB2⟩;rw[<-HD.out];obtain⟨d0,d1,d2⟩:=BX.out w2 hB2;go_wp2_with fail;refine(HC.out _).mono ?_;rintro e w3⟨u,rfl,hB3⟩;go_wp2_with fail;go_ret;exact⟨rfl,hBw.trans ((hB2.trans (hB3.mono hB2.size)).mono s1)⟩
 ·have F1:fO p v key=d:=by unfold fO;rw[kA (by rw[<-hd];exact h0),hd]
  have h0':(d !=0)=true:=kD.2 h0;rw[F1];clear h0 hd F1 hl1;go_enter Tryz.func174,Tryz.ntmps174;go_wp2_with fail;rw[<-HW1.out];refine(cX p _ _ _ _ _ _ _ _ _ _ HP1.out.l1 HP1.out.l2 HP1.out.l3 HP1.out.sz HP1.out.p1 HP1.out.p2 HP1.out.p3).mono ?_;rintro e w2⟨rfl,hB2⟩;rw[<-HD.out];go_wp2_with fail;go_ret;exact⟨rfl,hBw.trans (hB2.mono s1)⟩
theorem WS(p:lD)(a1 a2 a3:Option Addr)(n1 c1 n2 c2 n3 c3:Nat)(v:Int)(key:ByteArray)(w:World)(hp:sG w a1 a2 a3 n1 n2 n3 p):
 Calls Tryz.prog 77 #[.agg #[.slice a1 n1 c1,.slice a2 n2 c2,.slice a3 n3 c3],.int .i64 v,.string key] w λe w'=>e=.returned (.int .i64 (fO p v key))/\Below w.heap.size w w':=by
 obtain⟨W1,hW1,hBw,hs1,hbx⟩:=AC w (.slice a1 n1 c1) (.slice a2 n2 c2) (.slice a3 n3 c3) 26;have HW1:Hid (W1=_):=hW1;have HP1:Hid (sG W1 a1 a2 a3 n1 n2 n3 p):=hp.sA hBw;have BX:Hid (∀W,Below W1.heap.size W1 W->W.cell? ⟨w.heap.size,0,none⟩=some (.slice a1 n1 c1)/\W.cell? ⟨w.heap.size,1,none⟩=some (.slice a2 n2 c2)/\W.cell? ⟨w.heap.size,2,none⟩=some (.slice a3 n3 c3)):=hbx;have s1:=hBw.size;have hl1:=hp.l1;clear hW1 hp hbx hs1;obtain⟨d,hd⟩:∃d,d=iF p:=⟨_,rfl⟩;have HD:Hid (d=iF p):=hd;by_cases h0:d=0
 ·have F1:fO p v key=if tG v n1=true then kG key.data.toList else 5:=by unfold fO;rw[qA (by rw[<-hd];exact h0),hl1]
  have h4:n1<=4:=by have:=(gS (by rw[<-hd];exact h0)).few.1;rw[hl1]at this;exact this
  clear hd;subst h0;cases hnum:tG v n1 with
  |false=>
    have hin:pJ v 0 ((n1:Int)-1)=false:=by rw[LV];exact hnum
    rw[hnum]at F1;rw[F1];clear F1 hnum hl1;go_enter Tryz.func77,Tryz.ntmps77;go_wp2_with fail;rw[<-HW1.out];refine(CJ p _ _ _ _ _ _ _ _ _ _ HP1.out.l1 HP1.out.l2 HP1.out.l3 HP1.out.sz HP1.out.p1 HP1.out.p2 HP1.out.p3).mono ?_;rintro e w2⟨rfl,hB2⟩;rw[<-HD.out];obtain⟨d0,d1,d2⟩:=BX.out w2 hB2;go_wp2_with(go_at_call 40;refine(wP _ _ _ _).mono ?_;rintro e w3⟨rfl,rfl⟩);go_ret;exact⟨rfl,hBw.trans (hB2.mono s1)⟩
  |true=>
    have hin:pJ v 0 ((n1:Int)-1)=true:=by rw[LV];exact hnum
    obtain⟨dk,hdk⟩:∃dk,dk=kG key.data.toList:=⟨_,rfl⟩;have HK:Hid (dk=kG key.data.toList):=hdk;rw[hnum,qA rfl,<-hdk]at F1;rw[F1];clear F1 hnum hl1 hdk;go_enter Tryz.func77,Tryz.ntmps77;go_wp2_with fail;rw[<-HW1.out];refine(CJ p _ _ _ _ _ _ _ _ _ _ HP1.out.l1 HP1.out.l2 HP1.out.l3 HP1.out.sz HP1.out.p1 HP1.out.p2 HP1.out.p3).mono ?_;rintro e w2⟨rfl,hB2⟩;rw[<-HD.out];obtain⟨d0,d1,d2⟩:=BX.out w2 hB2;go_wp2_with(first
     |(go_at_call 40;refine(wP _ _ _ _).mono ?_;rintro e w3⟨rfl,rfl⟩)
     |(go_at_call 120;refine(IN _ _).mono ?_;rintro e w4⟨rfl,hB4⟩;rw[<-HK.out]));go_ret;exact⟨rfl,hBw.trans ((hB2.trans (hB4.mono hB2.size)).mono s1)⟩
 ·have F1:fO p v key=d:=by unfold fO;rw[kA (by rw[<-hd];exact h0),hd]
  have h0':(d !=0)=true:=kD.2 h0;rw[F1];clear h0 hd F1 hl1;go_enter Tryz.func77,Tryz.ntmps77;go_wp2_with fail;rw[<-HW1.out];refine(CJ p _ _ _ _ _ _ _ _ _ _ HP1.out.l1 HP1.out.l2 HP1.out.l3 HP1.out.sz HP1.out.p1 HP1.out.p2 HP1.out.p3).mono ?_;rintro e w2⟨rfl,hB2⟩;rw[<-HD.out];go_wp2_with fail;go_ret;exact⟨rfl,hBw.trans (hB2.mono s1)⟩
end Go.Proofs.YtedmnjimkhamaaaGreatDoor
namespace Go.Proofs.YtedmnjimkhamaaaGreatDoor
set_option linter.unusedVariables false
set_option maxRecDepth 100000
set_option maxHeartbeats 2000000
open Go.RowKit Go.Shelf
attribute[local go_sem]qH
theorem Below.grows{W W':World}(h:Below W.heap.size W W'):W.grownBy W' none:=⟨h.os,h.tape,h.output,h.size,λk hk _=>h.block k hk⟩
theorem xI{p:Prop}(h:p):Hid p:=h
structure xP(n0 B:Nat)(W W':World):Prop where
 below:Below n0 W W'
 box:∀j,j<3->W'.heap[B+j]?=W.heap[B+j]?
theorem xP.refl(n0 B:Nat)(W:World):xP n0 B W W:=⟨dA _ _,λ_ _=>rfl⟩
theorem xP.trans{n0 B:Nat}{X Y Z:World}(h:xP n0 B X Y)(k:xP n0 B Y Z):xP n0 B X Z:=⟨h.below.trans k.below,λj hj=>(k.box j hj).trans (h.box j hj)⟩
theorem xP.kB{n0 B b:Nat}{W W':World}(h:Below b W W')(h0:n0<=b)(hb:B+3<=b):xP n0 B W W':=⟨h.mono h0,λj hj=>h.block _ (by omega)⟩
structure aZ(W:World)(B:Nat)(a1 a2 a3:Option Addr)(n1 c1 n2 c2 n3 c3:Nat)(v:Int)(key:ByteArray):Prop where
 p:W.heap[B]?=some (.cells #[.slice a1 n1 c1,.slice a2 n2 c2,.slice a3 n3 c3] 26 (0,0))
 v:W.heap[B+1]?=some (.cells #[.int .i64 v] 3 (0,0))
 k:W.heap[B+2]?=some (.cells #[.string key] 9 (0,0))
theorem aZ.sA{W W':World}{n0 B:Nat}{a1 a2 a3:Option Addr}{n1 c1 n2 c2 n3 c3:Nat}{v:Int}{key:ByteArray}(h:aZ W B a1 a2 a3 n1 c1 n2 c2 n3 c3 v key)(k:xP n0 B W W'):aZ W' B a1 a2 a3 n1 c1 n2 c2 n3 c3 v key:=
 ⟨(k.box 0 (by omega)).trans h.p,(k.box 1 (by omega)).trans h.v,(k.box 2 (by omega)).trans h.k⟩
theorem xO{W:World}{b:Nat}{cs:Array Value}{t:TypeId}(h:W.heap[b]?=some (.cells cs t (0,0)))(i:Nat):W.cell? ⟨b,i,none⟩=cs[i]?:=by
 unfold World.cell?;simp only;rw[h];simp
theorem v_{p:lD}{key:ByteArray}(hc:iF p=0)(hk:kG key.data.toList=0){k:Nat}(h:k<p.qC.length):kN p k key=nI p k key:=by
 have e:oO p k key=0:=by
  unfold oO;rw[qA hc,qA (by unfold tG;simp;omega),hk]
 unfold kN;rw[qA e,Int.toNat_natCast]
theorem jX{p:lD}{k:Nat}(h:k<p.qC.length):oH p k=p.qC[k]:=by unfold oH;simp[List.getD,h]
theorem PJ(n:Nat)(v1 v2 v3:Value)(v:Int)(key:ByteArray)(w:World):
 CallsIn Fence.wide n Tryz.prog 176 #[.agg #[v1,v2,v3],.int .i64 v,.string key] w λe w'=>e=.returned (.func (.func 203) #[] #[.pointer (some ⟨w.heap.size,0,none⟩),.pointer (some ⟨w.heap.size+1,0,none⟩),.pointer (some ⟨w.heap.size+1+1,0,none⟩)])/\w'=((w.alloc (.cells #[v1,v2,v3] 26)).alloc (.cells #[.int .i64 v] 3)).alloc (.cells #[.string key] 9):=by
 refine kU Tryz.func176 rfl trivial ?_ rfl;simp only[Tryz.ntmps176,dG,List.length_cons,List.length_nil,Nat.reduceAdd,Nat.reduceSub,nF,Array.replicate_zero,cG,sF,List.nil_append,List.cons_append];gi_wp2;go_ret;exact⟨rfl,rfl⟩
theorem NM(w:World)(a1 a2 a3:Option Addr)(n1 c1 n2 c2 n3 c3:Nat)(v:Int)(key:ByteArray):∃W,W=((w.alloc (.cells #[.slice a1 n1 c1,.slice a2 n2 c2,.slice a3 n3 c3] 26)).alloc (.cells #[.int .i64 v] 3)).alloc (.cells #[.string key] 9)/\
 aZ W w.heap.size a1 a2 a3 n1 c1 n2 c2 n3 c3 v key/\Below w.heap.size w W/\W.heap.size=w.heap.size+3:=by
 refine⟨_,rfl,⟨?_,?_,?_⟩,?_,by simp⟩;·rw[lE _ _ _ (by simp;omega),lE _ _ _ (by simp)];exact jA w _
 ·rw[lE _ _ _ (by simp)];have:=jA (w.alloc (.cells #[.slice a1 n1 c1,.slice a2 n2 c2,.slice a3 n3 c3] 26)) (.cells #[.int .i64 v] 3);rw[pC]at this;exact this
 ·have:=jA ((w.alloc (.cells #[.slice a1 n1 c1,.slice a2 n2 c2,.slice a3 n3 c3] 26)).alloc (.cells #[.int .i64 v] 3)) (.cells #[.string key] 9);rw[pC,pC]at this;exact this
 ·exact(((dA _ _).alloc (eA _) _).alloc (by simp) _).alloc (by simp;omega) _
theorem ZJ(n:Nat)(hn:1<=n)(l B:Nat)(p:lD)(a1 a2 a3:Option Addr)(n1 c1 n2 c2 n3 c3:Nat)(v:Int)(key:ByteArray)(w0:World)(hc:iF p=0)(hk:kG key.data.toList=0)(hp:sG w0 a1 a2 a3 n1 n2 n3 p)(hB0:w0.heap.size<=B)
 (J Jx:List Nat->World->Prop)(W:World)(hWB:B+3<=W.heap.size)(h0W:Below w0.heap.size w0 W)(hbx:aZ W B a1 a2 a3 n1 c1 n2 c2 n3 c3 v key)
 (hJ:AbidesFrom W.heap.size J)
 (hY:∀pre x W1,J pre W1->pre.length<(yQ p key v).length->YieldAt Fence.wide (n-1) Tryz.prog l #[.int .i64 (x:Nat),(oH p x).val] W1 λe W'=>
  (e=.returned (.bool true)/\J (pre++[x]) W'/\xP w0.heap.size B W1 W')\/(e=.returned (.bool false)/\Jx (pre++[x]) W'))
 (h0:J [] W):
 CallsIn Fence.wide n Tryz.prog 203 #[.func (.yield l) #[] #[],.pointer (some ⟨B,0,none⟩),.pointer (some ⟨B+1,0,none⟩),.pointer (some ⟨B+1+1,0,none⟩)] W λe W'=>(∃v,e=.returned v)/\
  ((∃ys,ys=yQ p key v/\J ys W')\/(∃pre,pre<+:yQ p key v/\Jx pre W')):=by
 have HP:Hid (sG w0 a1 a2 a3 n1 n2 n3 p):=hp;have HBX:Hid (aZ W B a1 a2 a3 n1 c1 n2 c2 n3 c3 v key):=hbx;have HFP:Hid (∀k,k<p.qC.length->kN p k key=nI p k key):=λk h=>v_ hc hk h;have hl3:p.qC.length=n3:=hp.l3;have HL3:Hid (p.qC.length=n3):=hl3;have h10:n3<=10:=by have:=(gS hc).few.2.2;omega
 have HJ:Hid (AbidesFrom W.heap.size J):=hJ;have HY:=xI hY;have b0:=xO hbx.p 0;have b2:=xO hbx.p 2;simp at b0 b2;clear hp hbx hc hk hl3 hJ hY;refine kU Tryz.func203 rfl trivial ?_ rfl;simp only[Tryz.ntmps203,dG,List.length_cons,List.length_nil,Nat.reduceAdd,Nat.reduceSub,nF,Array.replicate_zero,cG,sF,List.nil_append,List.cons_append];gi_wp2;gi_loopw[12](λiv wr=>∃(k:Nat),k<=n3/\iv=.int .i64 k/\J (mO p key v k) wr/\xP w0.heap.size B W wr)(λiv _=>n3-(intOf iv).toNat);case atStart=>exact⟨0,zA _,rfl,h0,xP.refl _ _ _⟩
 case round=>
  obtain⟨k,hk,rfl,hJs,hKf⟩:=hrel;have hwr:=hKf.below.size;obtain⟨x0,x1,x2⟩:=HBX.out.sA hKf;have e0:=xO x0 0;have e1:=xO x0 1;have e2:=xO x0 2;have e3:=xO x1 0;have e4:wr.cell? ⟨B+1+1,0,none⟩=some (.string key):=xO x2 0;simp at e0 e1 e2 e3;by_cases hlt:k<n3
  ·have hkl:k<p.qC.length:=by rw[HL3.out];exact hlt
   have hB0r:Below w0.heap.size w0 wr:=h0W.trans hKf.below;obtain⟨g,o,rfl,hg,hx⟩:=HP.out.p3.cells (by omega);obtain⟨z1,z2,z3,z4⟩:=hx k hkl;obtain⟨y,hy⟩:∃y,y=p.qC[k]:=⟨_,rfl⟩;rw[<-hy]at z1 z2 z3 z4;have HYB:Hid (oH p k=y):=by show oH p k=y;rw[jX hkl,hy]
   have y1:=(hB0r.cell (p:=⟨g,_,none⟩) hg).trans z1;have y2:=(hB0r.cell (p:=⟨g,_,none⟩) hg).trans z2;have y3:=(hB0r.cell (p:=⟨g,_,none⟩) hg).trans z3;have y4:=(hB0r.cell (p:=⟨g,_,none⟩) hg).trans z4;have hgr:g<wr.heap.size:=uC hg hB0r.size;have k0:B<wr.heap.size:=by omega
   have k1:B+1<wr.heap.size:=by omega
   have k2:B+1+1<wr.heap.size:=by omega
   clear hx z1 z2 z3 z4 hy;obtain⟨f,tp,t,pt⟩:=y;dsimp only at y1 y2 y3 y4;have j1:(0:Int)<=(k:Int):=by omega
   have j2:(k:Int)<n3:=by omega
   obtain⟨W1,hW1⟩:∃W1,W1=wr.alloc (.cells #[.int .i64 f,.bool tp,.int .i64 t,.string pt] 74):=⟨_,rfl⟩;have HW1:Hid (W1=_):=hW1;have hBa:Below wr.heap.size wr W1:=by rw[hW1];exact(dA _ _).alloc (eA _) _
   have hsa:wr.heap.size+1<=W1.heap.size:=by rw[hW1];simp
   have hnew:W1.heap[wr.heap.size]?=some (.cells #[.int .i64 f,.bool tp,.int .i64 t,.string pt] 74 (0,0)):=by rw[hW1];exact jA wr _
   clear hW1;by_cases hf:f=v;·subst hf;have hJ1:J (mO p key f k) W1:=HJ.out _ wr _ none hJs (Below.grows hBa) (λr e=>by cases e);have HPr:Hid (sG W1 a1 a2 (some ⟨g,o,none⟩) n1 n2 n3 p):=HP.out.sA (hB0r.trans (hBa.mono hB0r.size));clear hJs;gi_wp2_with fail;refine⟨trivial,?_⟩;rw[<-HW1.out];refine(tE.2 (N6 p _ _ _ _ _ _ _ _ _ _ _ _ HPr.out)).mono ?_;rintro e W2⟨rfl,hB2⟩;rw[HFP.out k hkl];have hJ2:J (mO p key f k) W2:=HJ.out _ W1 _ none hJ1 (Below.grows hB2) (λr e=>by cases e);have hB12:Below wr.heap.size wr W2:=hBa.trans (hB2.mono hBa.size);have hK2:xP w0.heap.size B W W2:=hKf.trans (xP.kB hB12 (by omega) (by omega));have hnew2:W2.heap[wr.heap.size]?=some (.cells #[.int .i64 f,.bool tp,.int .i64 t,.string pt] 74 (0,0)):=(hB2.block _ (by omega)).trans hnew;have m0:=xO hnew2 0;have m1:=xO hnew2 1;have m2:=xO hnew2 2;have m3:=xO hnew2 3;simp at m0 m1 m2 m3;clear e0 e1 e2 e3 e4 x0 x1 x2 y1 y2 y3 y4 hnew hnew2 b0 b2 hJ1;cases hfit:nI p k key with
    |false=>
      have HG:Hid (mO p key f (k+1)=mO p key f k):=TE (by unfold rT;rw[hfit];simp);clear hfit;gi_wp2;refine⟨λf h=>(nomatch h),?_⟩;gi_wp2;go_roundw;case rel=>exact⟨k+1,by omega,by go_num,by rw[HG.out];exact hJ2,hK2⟩
      case measure=>simp[intOf];omega
    |true=>
      have hgo:rT p key f k=true:=by unfold rT;rw[HYB.out,hfit];simp
      have HG:Hid (mO p key f (k+1)=mO p key f k++[k]):=QQ hgo;have HPre:Hid (mO p key f k++[k]<+:yQ p key f):=by
       show mO p key f k++[k]<+:yQ p key f;rw[<-QQ hgo];unfold yQ;exact E_ p key f (by omega)
      have hlen:(mO p key f k).length<(yQ p key f).length:=by
       have:=HPre.out.length_le;simp at this;omega
      obtain⟨fn,tmps,assign,body,hy,hR⟩:=HY.out _ k W2 hJ2 hlen;have hval:(oH p k).val=.agg #[.int .i64 f,.bool tp,.int .i64 t,.string pt]:=by rw[HYB.out];rfl
      rw[hval]at hy;clear hfit hgo hval hJ2 hlen;gi_wp2;refine hR.mono ?_;rintro e W3(⟨rfl,hJ3,hK3⟩|⟨rfl,hJx3⟩)
      ·gi_wp2;go_roundw;case rel=>exact⟨k+1,by omega,by go_num,by rw[HG.out];exact hJ3,hK2.trans hK3⟩
       case measure=>simp[intOf];omega
      ·gi_wp2;refine dB (sQ rfl _ _ _) rfl ?_;exact⟨⟨_,rfl⟩,.inr ⟨_,HPre.out,hJx3⟩⟩
   ·have HG:Hid (mO p key v (k+1)=mO p key v k):=TE (by unfold rT;rw[HYB.out];simp[hf]);have hf':(f !=v)=true:=kD.2 hf;have HJ1:Hid (J (mO p key v k) W1):=HJ.out _ wr _ none hJs (Below.grows hBa) (λr e=>by cases e);clear hJs hf;gi_wp2;rw[<-HW1.out];go_roundw;case rel=>exact⟨k+1,by omega,by go_num,by rw[HG.out];exact HJ1.out,hKf.trans (xP.kB hBa (by omega) (by omega))⟩
    case measure=>simp[intOf];omega
  ·have HE:Hid (mO p key v k=yQ p key v):=by show mO p key v k=_;unfold yQ;rw[HL3.out];congr 1;omega
   gi_wp2;go_end0;exact⟨⟨_,rfl⟩,.inl ⟨_,HE.out,hJs⟩⟩
theorem QR(n:Nat)(hn:1<=n)(B:Nat)(p:lD)(a1 a2 a3:Option Addr)(n1 c1 n2 c2 n3 c3:Nat)(v:Int)(key:ByteArray)(w0 w:World)(hc:iF p=0)(hk:kG key.data.toList=0)(hp:sG w0 a1 a2 a3 n1 n2 n3 p)(hB0:w0.heap.size<=B)
 (hWB:B+3<=w.heap.size)(h0W:Below w0.heap.size w0 w)(hbx:aZ w B a1 a2 a3 n1 c1 n2 c2 n3 c3 v key):
 SeqStopsK Fence.wide n Tryz.prog 203 #[.pointer (some ⟨B,0,none⟩),.pointer (some ⟨B+1,0,none⟩),.pointer (some ⟨B+1+1,0,none⟩)] (λx:Nat=>#[.int .i64 (x:Nat),(oH p x).val]) (xP w0.heap.size B) (λys=>ys=yQ p key v) (λpre=>pre<+:yQ p key v) (yQ p key v).length w:=λl J Jx W hW hJ _ hY h0=>
 ZJ n hn l B p a1 a2 a3 n1 c1 n2 c2 n3 c3 v key w0 hc hk hp hB0 J Jx W (by have:=hW.size;omega) (h0W.trans (hW.mono h0W.size)) (hbx.sA (xP.kB (n0:=0) hW (zA _) hWB)) hJ hY h0
theorem US{n0 B:Nat}{w:World}(hn:n0<=w.heap.size)(hB:B+3<=w.heap.size)(W:World)(l:Nat)(o o':Obj)(hl:w.heap.size<=l)(h:W.heap[l]?=some o):xP n0 B W (W.putObj l o'):=
 ⟨⟨rfl,rfl,rfl,by simp[World.putObj],λk hk=>vP (by omega)⟩,λj hj=>vP (by omega)⟩
end Go.Proofs.YtedmnjimkhamaaaGreatDoor
namespace Go.Proofs.YtedmnjimkhamaaaGreatDoor
set_option linter.unusedVariables false
set_option maxRecDepth 100000
open Go.RowKit Go.Shelf Go.Maps
structure aF(X:Nat->Prop)(W W':World):Prop where
 os:W'.os=W.os
 tape:W'.tape=W.tape
 output:W'.output=W.output
 size:W.heap.size<=W'.heap.size
 block:∀k,k<W.heap.size->¬X k->W'.heap[k]?=W.heap[k]?
theorem aF.refl(X:Nat->Prop)(W:World):aF X W W:=⟨rfl,rfl,rfl,eA _,λ_ _ _=>rfl⟩
theorem aF.trans{X Y:Nat->Prop}{A B C:World}(h:aF X A B)(k:aF Y B C)(hy:∀i,i<A.heap.size->Y i->X i):aF X A C:=
 ⟨k.os.trans h.os,k.tape.trans h.tape,k.output.trans h.output,vA h.size k.size,λi hi hx=>(k.block i (uC hi h.size) (λy=>hx (hy i hi y))).trans (h.block i hi hx)⟩
theorem aF.of_grown{X:Nat->Prop}{W W':World}{row:Option Nat}(h:W.grownBy W' row)(hx:∀r,row=some r->X r):aF X W W':=
 ⟨h.os,h.tape,h.output,h.size,λk hk hn=>h.block k hk (λe=>hn (hx k e.symm))⟩
theorem aF.kB{W W':World}(X:Nat->Prop)(h:Below W.heap.size W W'):aF X W W':=⟨h.os,h.tape,h.output,h.size,λk hk _=>h.block k hk⟩
theorem aF.mono{X Y:Nat->Prop}{W W':World}(h:aF X W W')(hy:∀i,i<W.heap.size->X i->Y i):aF Y W W':=⟨h.os,h.tape,h.output,h.size,λk hk hn=>h.block k hk (λx=>hn (hy k hk x))⟩
theorem aF.below{X:Nat->Prop}{n:Nat}{W W':World}(h:aF X W W')(hn:n<=W.heap.size)(hx:∀i,X i->n<=i):Below n W W':=
 ⟨h.os,h.tape,h.output,h.size,λk hk=>h.block k (by omega) (λx=>by have:=hx k x;omega)⟩
theorem aF.boxed{X:Nat->Prop}{W W':World}(h:aF X W W'){B:Nat}{t:TypeId}{v:Value}(hb:Boxed W B t v)(hx:¬X B):Boxed W' B t v:=(h.block B hb.lt hx).trans hb
theorem aF.row{X:Nat->Prop}{W W':World}(h:aF X W W'){base:Nat}{e:TypeId}{size:Nat}{v:Value}{n:Nat}{xs:List Value}(hr:W.ownsRow base e size v n xs)(hx:∀g,v.ownBlock=some g->¬X g):W'.ownsRow base e size v n xs:=by
 refine⟨hr.1,?_⟩;rcases hr.2 with h1|⟨g,cap,cur,rfl,h2,h3,h4⟩;·exact .inl h1
 ·exact .inr ⟨g,cap,cur,rfl,h2,(h.block g (iC.1 h3).1 (hx g rfl)).trans h3,h4⟩
theorem aF.map{X:Nat->Prop}{W W':World}(h:aF X W W'){P:Program}{k:TypeId}{R:Value->Option (DataW Unit×List MemPlace)}{b n:Nat}{D:DataW Unit}(hm:W.ownsMap P k R b n D)(hx:¬X b):W'.ownsMap P k R b n D:=by
 obtain⟨es,cl,h1,h2⟩:=hm;exact⟨es,cl,(h.block b (iC.1 h1).1 hx).trans h1,h2⟩
def MH(D:Nat):Deferred:={target:=.collected D,args:=#[]}
structure pM(n0:Nat)(Ds:List Nat)(W:World):Prop where
 once:Ds.Nodup
 there:∀D∈Ds,n0<=D/\W.heap[D]?=some (.deferred (some []))
theorem pM.lt{n0:Nat}{Ds:List Nat}{W:World}(h:pM n0 Ds W):∀D∈Ds,D<W.heap.size:=λD hD=>(iC.1 (h.there D hD).2).1
theorem pM.bF{n0:Nat}{Ds:List Nat}{X:Nat->Prop}{W W':World}(h:pM n0 Ds W)(t:aF X W W')(hx:∀D∈Ds,¬X D):pM n0 Ds W':=
 ⟨h.once,λD hD=>⟨(h.there D hD).1,(t.block D (h.lt D hD) (hx D hD)).trans (h.there D hD).2⟩⟩
theorem pM.cons{n0:Nat}{Ds:List Nat}{W:World}(h:pM n0 Ds W){D:Nat}(h1:D∉Ds)(h2:n0<=D)(h3:W.heap[D]?=some (.deferred (some []))):pM n0 (D::Ds) W:=
 ⟨gJ.2 ⟨h1,h.once⟩,λE hE=>by
  rcases vH.1 hE with rfl|hE;·exact⟨h2,h3⟩
  ·exact h.there E hE⟩
theorem DZ{F:Fence}{n:Nat}{P:Program}{fn:Func}{tmps:Array Value}{R:Ending->World->Prop}{n0:Nat}:∀{Ds:List Nat}{W:World},pM n0 Ds W->
 (∀W',aF (λk=>k∈Ds) W W'->LeavesInM F n P fn tmps R [] .returning W')->LeavesInM F n P fn tmps R (Ds.map MH) .returning W
 |[],W,_,h=>h W (aF.refl _ _)
 |D::Ds,W,hm,h=>by
   obtain⟨h1,h2⟩:=gJ.1 hm.once;have hD:=(hm.there D (by simp)).2;refine⟨by simp,.inl ⟨D,_,rfl,vI hD,?_⟩⟩;have t1:aF (λk=>k=D) W (W.putObj D (.deferred none)):=aF.of_grown (wM W D _) (λr e=>by cases e;rfl);refine DZ (n0:=n0) (Ds:=Ds) ⟨h2,λE hE=>⟨(hm.there E (by simp[hE])).1,?_⟩⟩ (λW' hW'=>h W' ?_);·exact(vP (k:=E) (r:=D) (λe=>h1 (by rw[<-e];exact hE))).trans (hm.there E (by simp[hE])).2
   ·exact(t1.mono (Y:=λk=>k∈D::Ds) (λi _ e=>by subst e;exact jE)).trans hW' (λi _ hi=>by exact cF _ hi)
def DN(t:List Nat):Int:=match t.getLast? with|none=>-1|some n=>(n:Int)
def yS(L:pE):DataW Unit:=L.foldl (λD x=>D.put (.int .i64 (x.1:Nat)) (.lit (.int .i64 (DN x.2)))) (.map [])
theorem SE(L:pE)(x:Nat×List Nat):yS (L++[x])=(yS L).put (.int .i64 (x.1:Nat)) (.lit (.int .i64 (DN x.2))):=by unfold yS;rw[tO];rfl
theorem ZR(t:List Nat)(n:Nat):DN (t++[n])=n:=by unfold DN;simp
theorem U_(L:pE):IsMap (yS L):=by
 unfold yS;have:∀(L:pE)(D:DataW Unit),IsMap D->IsMap (L.foldl (λD x=>D.put (.int .i64 (x.1:Nat)) (.lit (.int .i64 (DN x.2)))) D):=by
  intro L;induction L with
  |nil=>intro D h;exact h
  |cons x r ih=>intro D h;exact ih _ (h.put _ _)
 exact this L _ isMap_empty
theorem qh_{a b:Nat}(h:a≠b):(Lit.int .i64 (a:Int))≠Lit.int .i64 (b:Int):=λe=>h (by injection e with _ e;omega)
theorem Z6{α:Type}{p:List α->Prop}(h0:p [])(h1:∀l x,p l->p (l++[x]))(l:List α):p l:=by
 have:∀(m:List α),p m.reverse:=by
  intro m;induction m with
  |nil=>exact h0
  |cons x r ih=>rw[List.reverse_cons];exact h1 _ x ih
 have:=this l.reverse;rwa[List.reverse_reverse]at this
theorem U5(L:pE)(v:Nat):has (yS L) (.int .i64 (v:Nat))=decide (v∈L.map Prod.fst):=by
 induction L using Z6 with
 |h0=>simp[yS,has]
 |h1 L x ih=>
   rw[SE];by_cases e:x.1=v;·subst e;rw[has_put_same (k:=Lit.int .i64 (x.1:Nat)) (U_ L) trivial];simp
   ·rw[has_put_other (qh_ (λh=>e h.symm)),ih];rw[jF];simp;omega
end Go.Proofs.YtedmnjimkhamaaaGreatDoor
