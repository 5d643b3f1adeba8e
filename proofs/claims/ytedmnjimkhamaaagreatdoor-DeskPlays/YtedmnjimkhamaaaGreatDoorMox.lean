import Derived.Test.YtedmnjimkhamaaaGreatDoorDMr
namespace Go.Proofs.YtedmnjimkhamaaaGreatDoor
set_option linter.unusedVariables false
set_option maxRecDepth 100000
set_option maxHeartbeats 8000000
open Go.RowKit Go.Maps
def eR(xss:List (List zD)):List Nat:=xss.map List.length
theorem RO(xss:List (List zD)):xM xss=((eR xss).map (λ(z:Nat)=>(z:Int))).map (Value.int .i64):=by unfold xM eR;simp
theorem UJ{W:World}{a:Option Addr}{n c:Nat}{base:Nat}{zs:List Int}(h:W.ownsRow base 3 1 (.slice a n c) n (zs.map (Value.int .i64))):zS W a zs/\zs.length=n:=by
 have hl:zs.length=n:=by have:=h.1;simpa using this
 refine⟨?_,hl⟩;rcases h.2 with⟨h1,h0⟩|⟨g,cap,cur,h1,hb,hg,h2,h3,_⟩;·exact .inl (kC.1 (hl.trans h0))
 ·cases h1;refine .inr ⟨g,rfl,(iC.1 hg).1,λi hi=>?_⟩;have:=h.cells (g:=g) rfl i (.int .i64 zs[i]) (by simp[hi]);by_cases hi0:i=0;·subst hi0;simpa[Addr.add]using this
  ·simpa[Addr.add,hi0]using this
theorem M9(p:lD)(a1 a2 a3:Option Addr)(n1 c1 n2 c2 n3 c3:Nat)(W0:World)(hp0:sG W0 a1 a2 a3 n1 n2 n3 p)(hpow:rJ W0)(s:yC)(hR:zG p s=0)(g c:Nat)(t:Nat)(w:World)(h0:Below W0.heap.size W0 w)(ht0:W0.heap.size<=t)(hb:zO a1 a2 a3 n1 c1 n2 c2 n3 c3 w W0.heap.size t s)
 (g0:w.cell? ⟨g,0,none⟩=some (.string ⟨#[108,121,105,110,103]⟩))(hg:g<w.heap.size):
 Calls Tryz.prog 35 #[.pointer (some ⟨t,0,none⟩),.slice (some ⟨g,0,none⟩) 1 c] w λe w'=>
  oT a1 a2 a3 n1 c1 n2 c2 n3 c3 w w' W0.heap.size t e 0 ⟨(aL (eR s.yA)).toArray⟩ s s:=by
 have HCB:=aA hb;obtain⟨b1,b2,b3,m1,d1,m2,d2,m3,d3,hh,ho⟩:=hb;have ht:=bE hh;have hp:=hp0.sA h0;obtain⟨⟨q0,q1,q2⟩,q3,q4,q5,q6,q7,q8,q9,q10⟩:=kS hh;have HSM:=aA (yV (nN hR));have PB:Hid (∀W,Below w.heap.size w W->Calls Tryz.prog 68 #[.agg #[.slice a1 n1 c1,.slice a2 n2 c2,.slice a3 n3 c3],.agg #[.slice b1 m1 d1,.slice b2 m2 d2,.slice b3 m3 d3,.int .i64 s.gA,.int .i64 s.fA,.int .i64 s.nB,.int .i64 s.uA,.int .i64 s.iA]] W λe w'=>∃a m c,e=.returned (.tuple #[.slice a m c,.int .i64 0])/\(zS w' a ((eR s.yA).map (λ(z:Nat)=>(z:Int)))/\(eR s.yA).length=m)/\Below w.heap.size w w'):=λW hW=>by
  refine(I4 p a1 a2 a3 n1 c1 n2 c2 n3 c3 s b1 b2 b3 m1 d1 m2 d2 m3 d3 W (hp.sA hW) ((ho.sA hW).state)).mono ?_;rintro e w'⟨v,rfl,hr,hB⟩;rw[hR]at hr⊢;have h:=hr.1 rfl;obtain⟨a,c,rfl,-⟩:=jM h;rw[RO]at h;have h5:=UJ h;exact⟨a,_,c,rfl,⟨h5.1,by simpa using h5.2⟩,hW.trans (hB.mono hW.size)⟩
 have HSQ:Hid (∀W',Below w.heap.size w W'->W'.cell? ⟨t,0,none⟩=some (.slice a1 n1 c1)/\W'.cell? ⟨t,1,none⟩=some (.slice a2 n2 c2)/\W'.cell? ⟨t,2,none⟩=some (.slice a3 n3 c3)/\W'.cell? ⟨t,3,none⟩=some (.slice b1 m1 d1)/\W'.cell? ⟨t,4,none⟩=some (.slice b2 m2 d2)/\W'.cell? ⟨t,5,none⟩=some (.slice b3 m3 d3)/\W'.cell? ⟨t,6,none⟩=some (.int .i64 s.gA)/\W'.cell? ⟨t,7,none⟩=some (.int .i64 s.fA)/\W'.cell? ⟨t,8,none⟩=some (.int .i64 s.nB)/\W'.cell? ⟨t,9,none⟩=some (.int .i64 s.uA)/\W'.cell? ⟨t,10,none⟩=some (.int .i64 s.iA)):=λW' hW'=>by
  obtain⟨⟨q0,q1,q2⟩,q3,q4,q5,q6,q7,q8,q9,q10⟩:=kS (pB hh hW');exact⟨q0,q1,q2,q3,q4,q5,q6,q7,q8,q9,q10⟩
 have HPW:Hid (∀W,Below w.heap.size w W->rJ W):=λW hW=>(hpow.sA h0).sA hW;clear hpow hp hp0 h0 hh ho hR;go_enter Tryz.func35,Tryz.ntmps35;go_wp2_with fail;go_region_held3(λw'=>w'.cell? ⟨t,0,none⟩=some (.slice a1 n1 c1)/\w'.cell? ⟨t,1,none⟩=some (.slice a2 n2 c2)/\w'.cell? ⟨t,2,none⟩=some (.slice a3 n3 c3)/\w'.cell? ⟨t,3,none⟩=some (.slice b1 m1 d1)/\w'.cell? ⟨t,4,none⟩=some (.slice b2 m2 d2)/\w'.cell? ⟨t,5,none⟩=some (.slice b3 m3 d3)/\w'.cell? ⟨t,6,none⟩=some (.int .i64 s.gA)/\w'.cell? ⟨t,7,none⟩=some (.int .i64 s.fA)/\w'.cell? ⟨t,8,none⟩=some (.int .i64 s.nB)/\w'.cell? ⟨t,9,none⟩=some (.int .i64 s.uA)/\w'.cell? ⟨t,10,none⟩=some (.int .i64 s.iA))(exact HSQ.out _ (by repeat(first|with_reducible assumption|with_reducible refine pD ?_ (by first|(simp;done)|(simp;omega)|omega) _|with_reducible refine cE ?_ (by first|(simp;done)|(simp;omega)|omega) _|with_reducible refine nE ?_|with_reducible exact dA _ _)))
  (first|(go_at_call 68;refine(PB.out _ (by repeat(first|with_reducible assumption|with_reducible refine pD ?_ (by first|(simp;done)|(simp;omega)|omega) _|with_reducible refine cE ?_ (by first|(simp;done)|(simp;omega)|omega) _|with_reducible refine nE ?_|with_reducible exact dA _ _))).mono ?_;rintro e w3⟨a,m,c',rfl,hL,k3⟩));all_goals
  have K3:=aA k3;have HL:=aA hL;clear k3 hL q0 q1 q2 q3 q4 q5 q6 q7 q8 q9 q10;go_wp2_with(go_at_call 69;refine(rS _ _ (rM _ _ _) (by simp)).mono ?_;rintro e w4⟨rfl,k4⟩);have l4:Below w3.heap.size w3 w4:=((dA _ _).alloc (eA _) _:Below w3.heap.size w3 (w3.alloc (.cells #[.int .i64 0] 27))).trans (k4.mono (by simp));have L4:=aA l4;have K4:=aA (K3.out.trans (l4.mono K3.out.size));have hm:m<=100:=by have h1:=HSM.out.1;have h2:=HL.out.2;unfold eR at h2;simp at h2;omega
  have TD:=aA (CX (eR s.yA) a m c' w4 HL.out.2 hm (λz hz=>by
   unfold eR at hz;obtain⟨l,hl,rfl⟩:=jD.1 hz;have:=HSM.out.2.1 l hl;omega) (HL.out.1.sA L4.out) (HPW.out _ K4.out));clear k4 l4;go_wp2_with fail;refine TD.out.mono ?_;rintro e w5⟨rfl,k5⟩;go_wp2_with fail;go_ret;have K5:=K4.out.trans (k5.mono K4.out.size);exact⟨qE.kB K5 (eA _),.inr ⟨rfl,rfl,HCB.out.sA K5⟩⟩
theorem SN(w:World)(x y z:Value)(T:TypeId):(w.alloc (.cells #[x,y,z] T)).cell? ⟨w.heap.size,0,none⟩=some x/\(w.alloc (.cells #[x,y,z] T)).cell? ⟨w.heap.size,1,none⟩=some y/\(w.alloc (.cells #[x,y,z] T)).cell? ⟨w.heap.size,2,none⟩=some z:=
 have h:=jA w (.cells #[x,y,z] T);⟨yB h 0,yB h 1,yB h 2⟩
theorem OY(w:World)(x y z:Nat):zS (w.alloc (.cells #[.int .i64 (x:Nat),.int .i64 (y:Nat),.int .i64 (z:Nat)] 3)) (some ⟨w.heap.size,0,none⟩) (([x,y,z]:List Nat).map (λ(k:Nat)=>(k:Int))):=by
 obtain⟨h0,h1,h2⟩:=SN w (.int .i64 (x:Nat)) (.int .i64 (y:Nat)) (.int .i64 (z:Nat)) 3;refine .inr ⟨_,rfl,by simp,λi hi=>?_⟩;simp at hi;match i,hi with
 |0,_=>exact h0
 |1,_=>exact h1
 |2,_=>exact h2
theorem V0(p:lD)(a1 a2 a3:Option Addr)(n1 c1 n2 c2 n3 c3:Nat)(W0:World)(hpow:rJ W0)(s:yC)(hR:zG p s=0)(x y z:Nat)(hx:s.nB=(x:Nat))(hy:s.uA=(y:Nat))(hz:s.iA=(z:Nat))(hb3:x<=1000000000000000/\y<=1000000000000000/\z<=1000000000000000)(g c:Nat)(t:Nat)(w:World)(h0:Below W0.heap.size W0 w)(ht0:W0.heap.size<=t)(hb:zO a1 a2 a3 n1 c1 n2 c2 n3 c3 w W0.heap.size t s)
 (g0:w.cell? ⟨g,0,none⟩=some (.string ⟨#[115,117,109,115]⟩))(hg:g<w.heap.size):
 Calls Tryz.prog 35 #[.pointer (some ⟨t,0,none⟩),.slice (some ⟨g,0,none⟩) 1 c] w λe w'=>
  oT a1 a2 a3 n1 c1 n2 c2 n3 c3 w w' W0.heap.size t e 0 ⟨(aL [x,y,z]).toArray⟩ s s:=by
 have HCB:=aA hb;obtain⟨b1,b2,b3,m1,d1,m2,d2,m3,d3,hh,ho⟩:=hb;have ht:=bE hh;rw[hx,hy,hz]at hh;obtain⟨⟨-,-,-⟩,-,-,-,-,-,q8,q9,q10⟩:=kS hh;have HSQ:Hid (∀W',Below w.heap.size w W'->W'.cell? ⟨t,8,none⟩=some (.int .i64 (x:Nat))/\W'.cell? ⟨t,9,none⟩=some (.int .i64 (y:Nat))/\W'.cell? ⟨t,10,none⟩=some (.int .i64 (z:Nat))):=λW' hW'=>by
  obtain⟨⟨-,-,-⟩,-,-,-,-,-,q8,q9,q10⟩:=kS (pB hh hW');exact⟨q8,q9,q10⟩
 have TD:Hid (∀W,Below w.heap.size w W->Calls Tryz.prog 70 #[.slice (some ⟨W.heap.size,0,none⟩) 3 3] (W.alloc (.cells #[.int .i64 (x:Nat),.int .i64 (y:Nat),.int .i64 (z:Nat)] 3)) λe w'=>e=.returned (.string ⟨(aL [x,y,z]).toArray⟩)/\Below w.heap.size w w'):=λW hW=>by
  have l:Below W.heap.size W (W.alloc (.cells #[.int .i64 (x:Nat),.int .i64 (y:Nat),.int .i64 (z:Nat)] 3)):=(dA _ _).alloc (eA _) _;refine(CX [x,y,z] _ 3 3 _ rfl (by omega) (λk hk=>by
   simp at hk;rcases hk with rfl|rfl|rfl;·exact hb3.1
   ·exact hb3.2.1
   ·exact hb3.2.2) (OY W x y z) (((hpow.sA h0).sA hW).sA l)).mono ?_;rintro e w'⟨rfl,k⟩;exact⟨rfl,hW.trans ((l.trans (k.mono l.size)).mono hW.size)⟩
 clear hpow h0 hh ho hR hx hy hz hb3;go_enter Tryz.func35,Tryz.ntmps35;go_wp2_with fail;go_region_held3(λw'=>w'.cell? ⟨t,8,none⟩=some (.int .i64 (x:Nat))/\w'.cell? ⟨t,9,none⟩=some (.int .i64 (y:Nat))/\w'.cell? ⟨t,10,none⟩=some (.int .i64 (z:Nat)))(exact HSQ.out _ (by repeat(first|with_reducible assumption|with_reducible refine pD ?_ (by first|(simp;done)|(simp;omega)|omega) _|with_reducible refine cE ?_ (by first|(simp;done)|(simp;omega)|omega) _|with_reducible refine nE ?_|with_reducible exact dA _ _)))
  (first|(go_at_call 70;refine(TD.out w.drew (dA _ _).drew).mono ?_;rintro e w3⟨rfl,k3⟩));all_goals
  go_wp2_with fail;go_ret;exact⟨qE.kB k3 (eA _),.inr ⟨rfl,rfl,HCB.out.sA k3⟩⟩
theorem fP{n:Nat}{w W:World}(h:Below n w W:=by repeat(first|with_reducible assumption|with_reducible refine pD ?_ (by first|(simp;done)|(simp;omega)|omega) _|with_reducible refine cE ?_ (by first|(simp;done)|(simp;omega)|omega) _|with_reducible refine nE ?_|with_reducible exact dA _ _)):Below n w W:=h
def oW(p:lD)(s:yC)(nm:ByteArray):Int:=if yE (iK nm) p.jB<0 then 5 else mK p s (yE (iK nm) p.jB)
def qU(b:Bool):ByteArray:=if b then⟨#[97,103,97,105,110]⟩else⟨#[110,101,119]⟩
def rW(s:yC)(q:Int):ByteArray:=⟨(Lib.join [aL [s.fA.toNat,(oL s q).fE.toNat],(qU (oL s q).item.again).data.toList,(oL s q).item.body.data.toList] [32]).toArray⟩
theorem LM{p:lD}{s:yC}{q:Int}(h:mK p s q=0):yE (λo:eF=>decide (o.tag=s.fA)) (lJ s q).xB=(s.xB.length:Nat)/\(0<=s.fA/\s.fA<=1048576)/\(0<=(oL s q).fE/\(oL s q).fE<=4)/\(oL s q).item.body.size<=12:=by
 obtain⟨k,x,r,D⟩:=SG h;have hR:=D.done;have hm:oL s q∈(lJ s q).xB:=by unfold lJ;simp
 have hf:=hR.fine hm;have hi:=hf.2.item;unfold nH bV at hi;simp only[aC,mC]at hi;have ht:=hf.2.rng;have htk:(lJ s q).nA.length<=4:=hR.tk;refine⟨yX (xs:=s.xB++[oL s q]) (by simp) (λo ho=>?_) ?_,D.right.nt,⟨ht.1,by omega⟩,by omega⟩
 ·have:o∈s.xB:=by simpa using ho
  have:=(D.right.fine this).2.tag;simp;omega
 ·simp[oL]
theorem J0(x:eF)(tag:Int)(B:Nat)(w:World)(hc:w.cell? ⟨B,0,none⟩=some (.int .i64 tag))(hB:B<w.heap.size):
 Calls Tryz.prog 110 #[x.val,.pointer (some ⟨B,0,none⟩)] w λe w'=>e=.returned (.bool (decide (x.tag=tag)))/\Below w.heap.size w w':=by
 unfold eF.val;go_enter Tryz.func110,Tryz.ntmps110;go_wp2_with fail;go_ret;exact⟨rfl,(dA _ _).alloc (eA _) _⟩
structure wQ(w W:World)(u:Array Value)(E:Int)(S':yC):Prop where
 res:kK W w.heap.size (.agg u) E S'
 bel:Below w.heap.size w W
theorem wQ.bF{w W W':World}{u:Array Value}{E:Int}{S':yC}{t:Nat}{cur:Array Value}{T:TypeId}(h:wQ w W u E S')(ht:W.heap[t]?=some (.cells cur T (0,0)))(hT:T≠86/\T≠88/\T≠121/\T≠110)(hw:w.heap.size<=t)(k:vJ t W W'):wQ w W' u E S':=by
 refine⟨⟨λe=>?_,h.res.2⟩,h.bel.trans (k.below h.bel.size hw)⟩;obtain⟨b1,b2,b3,m1,d1,m2,d2,m3,d3,h1,h2⟩:=h.res.1 e;exact⟨b1,b2,b3,m1,d1,m2,d2,m3,d3,h1,h2.bF ht hT k⟩
theorem wQ.alloc{w W:World}{u:Array Value}{E:Int}{S':yC}(h:wQ w W u E S')(c:Array Value)(T:TypeId):wQ w (W.alloc (.cells c T)) u E S':=
 ⟨h.res.sA ((dA _ _).alloc (eA _) _),h.bel.alloc h.bel.size _⟩
def AX(w W:World)(B I:Nat)(u:Array Value)(v:Value)(E:Int)(S':yC):Prop:=wQ w W u E S'/\W.heap[B]?=some (.cells u 39 (0,0))/\W.heap[I]?=some (.cells #[v] 3 (0,0))/\w.heap.size<=B/\w.heap.size<=I
theorem wQ.st{w W:World}{E:Int}{S':yC}{B:Nat}{v0 v1 v2 v3 v4 v5 v6 v7 u0 u1 u2 u3 u4 u5 u6 u7:Value}(h:wQ w W #[u0,u1,u2,u3,u4,u5,u6,u7] E S')(hB:W.heap[B]?=some (.cells #[v0,v1,v2,v3,v4,v5,v6,v7] 39 (0,0)))(hw:w.heap.size<=B):
 wQ w ((((((((W.setCell ⟨B,0,none⟩ u0).setCell ⟨B,1,none⟩ u1).setCell ⟨B,2,none⟩ u2).setCell ⟨B,3,none⟩ u3).setCell ⟨B,4,none⟩ u4).setCell ⟨B,5,none⟩ u5).setCell ⟨B,6,none⟩ u6).setCell ⟨B,7,none⟩ u7) #[u0,u1,u2,u3,u4,u5,u6,u7] E S'/\((((((((W.setCell ⟨B,0,none⟩ u0).setCell ⟨B,1,none⟩ u1).setCell ⟨B,2,none⟩ u2).setCell ⟨B,3,none⟩ u3).setCell ⟨B,4,none⟩ u4).setCell ⟨B,5,none⟩ u5).setCell ⟨B,6,none⟩ u6).setCell ⟨B,7,none⟩ u7).heap[B]?=some (.cells #[u0,u1,u2,u3,u4,u5,u6,u7] 39 (0,0))/\∀(k:Nat)(c:Array Value),W.heap[k]?=some (.cells c 3 (0,0))->((((((((W.setCell ⟨B,0,none⟩ u0).setCell ⟨B,1,none⟩ u1).setCell ⟨B,2,none⟩ u2).setCell ⟨B,3,none⟩ u3).setCell ⟨B,4,none⟩ u4).setCell ⟨B,5,none⟩ u5).setCell ⟨B,6,none⟩ u6).setCell ⟨B,7,none⟩ u7).heap[k]?=some (.cells c 3 (0,0)):=by
 obtain⟨h1,h2⟩:=eD (u0:=u0) (u1:=u1) (u2:=u2) (u3:=u3) (u4:=u4) (u5:=u5) (u6:=u6) (u7:=u7) hB rfl;refine⟨h.bF hB (by decide) hw h2,h1,λk c hk=>(h2.block k (bE hk) (λe=>?_)).trans hk⟩;rw[e,hB]at hk;cases hk
theorem wQ.si{w W:World}{u:Array Value}{E:Int}{S':yC}{I:Nat}{v0 v:Value}(h:wQ w W u E S')(hI:W.heap[I]?=some (.cells #[v0] 3 (0,0)))(hw:w.heap.size<=I):
 wQ w (W.setCell ⟨I,0,none⟩ v) u E S'/\(W.setCell ⟨I,0,none⟩ v).heap[I]?=some (.cells #[v] 3 (0,0))/\∀(k:Nat)(c:Array Value),W.heap[k]?=some (.cells c 39 (0,0))->(W.setCell ⟨I,0,none⟩ v).heap[k]?=some (.cells c 39 (0,0)):=by
 have h2:=uF W I 0 v;refine⟨h.bF hI (by decide) hw h2,bG hI v,λk c hk=>(h2.block k (bE hk) (λe=>?_)).trans hk⟩;rw[e,hI]at hk;cases hk
theorem wQ.al{w W:World}{u:Array Value}{E:Int}{S':yC}(h:wQ w W u E S')(c:Array Value)(T:TypeId):
 wQ w (W.alloc (.cells c T)) u E S'/\(W.alloc (.cells c T)).heap[W.heap.size]?=some (.cells c T (0,0))/\∀(k:Nat)(c':Array Value)(T':TypeId),W.heap[k]?=some (.cells c' T' (0,0))->(W.alloc (.cells c T)).heap[k]?=some (.cells c' T' (0,0)):=
 ⟨h.alloc _ _,jA W _,λk c' T' hk=>pB hk ((dA _ _).alloc (eA _) _)⟩
theorem SL(W:World)(c:Array Value)(T:TypeId):(W.alloc (.cells c T)).heap.size=W.heap.size+1:=by simp
theorem J2{w W:World}{E:Int}{S':yC}{B I:Nat}{v0 v1 v2 v3 v4 v5 v6 v7 u0 u1 u2 u3 u4 u5 u6 u7 vi v:Value}(h:wQ w W #[u0,u1,u2,u3,u4,u5,u6,u7] E S')(hB:W.heap[B]?=some (.cells #[v0,v1,v2,v3,v4,v5,v6,v7] 39 (0,0)))(hwB:w.heap.size<=B)(hI:W.heap[I]?=some (.cells #[vi] 3 (0,0)))(hwI:w.heap.size<=I):AX w (((((((((W.setCell ⟨B,0,none⟩ u0).setCell ⟨B,1,none⟩ u1).setCell ⟨B,2,none⟩ u2).setCell ⟨B,3,none⟩ u3).setCell ⟨B,4,none⟩ u4).setCell ⟨B,5,none⟩ u5).setCell ⟨B,6,none⟩ u6).setCell ⟨B,7,none⟩ u7).setCell ⟨I,0,none⟩ v) B I #[u0,u1,u2,u3,u4,u5,u6,u7] v E S':=by
 obtain⟨a1,a2,a3⟩:=h.st (u0:=u0) (u1:=u1) (u2:=u2) (u3:=u3) (u4:=u4) (u5:=u5) (u6:=u6) (u7:=u7) hB hwB;obtain⟨c1,c2,c3⟩:=a1.si (v:=v) (a3 I _ hI) hwI;exact⟨c1,c3 B _ a2,c2,hwB,hwI⟩
theorem J3{w W:World}{E:Int}{S':yC}{B:Nat}{v0 v1 v2 v3 v4 v5 v6 v7 u0 u1 u2 u3 u4 u5 u6 u7 v:Value}(h:wQ w W #[u0,u1,u2,u3,u4,u5,u6,u7] E S')(hB:W.heap[B]?=some (.cells #[v0,v1,v2,v3,v4,v5,v6,v7] 39 (0,0)))(hwB:w.heap.size<=B):AX w (((((((((W.setCell ⟨B,0,none⟩ u0).setCell ⟨B,1,none⟩ u1).setCell ⟨B,2,none⟩ u2).setCell ⟨B,3,none⟩ u3).setCell ⟨B,4,none⟩ u4).setCell ⟨B,5,none⟩ u5).setCell ⟨B,6,none⟩ u6).setCell ⟨B,7,none⟩ u7).alloc (.cells #[v] 3)) B W.heap.size #[u0,u1,u2,u3,u4,u5,u6,u7] v E S':=by
 obtain⟨a1,a2,a3⟩:=h.st (u0:=u0) (u1:=u1) (u2:=u2) (u3:=u3) (u4:=u4) (u5:=u5) (u6:=u6) (u7:=u7) hB hwB;obtain⟨c1,c2,c3⟩:=a1.al #[v] 3;exact⟨c1,c3 B _ _ a2,by simpa using c2,hwB,h.bel.size⟩
theorem J4{w W:World}{u:Array Value}{E:Int}{S':yC}{I:Nat}{vi v:Value}(h:wQ w W u E S')(hI:W.heap[I]?=some (.cells #[vi] 3 (0,0)))(hwI:w.heap.size<=I):AX w ((W.setCell ⟨I,0,none⟩ v).alloc (.cells u 39)) W.heap.size I u v E S':=by
 obtain⟨c1,c2,c3⟩:=h.si (v:=v) hI hwI;obtain⟨a1,a2,a3⟩:=c1.al u 39;exact⟨a1,by simpa using a2,a3 I _ _ c2,h.bel.size,hwI⟩
theorem J5{w W:World}{u:Array Value}{E:Int}{S':yC}{v:Value}(h:wQ w W u E S'):AX w ((W.alloc (.cells u 39)).alloc (.cells #[v] 3)) W.heap.size (W.heap.size+1) u v E S':=by
 obtain⟨a1,a2,a3⟩:=h.al u 39;obtain⟨c1,c2,c3⟩:=a1.al #[v] 3;rw[SL]at c2;exact⟨c1,c3 _ _ _ a2,c2,h.bel.size,Nat.le_succ_of_le h.bel.size⟩
theorem J6{w W:World}{u:Array Value}{E:Int}{S':yC}{v:Value}(h:wQ w W u E S'):AX w ((W.alloc (.cells #[v] 3)).alloc (.cells u 39)) (W.heap.size+1) W.heap.size u v E S':=by
 obtain⟨a1,a2,a3⟩:=h.al #[v] 3;obtain⟨c1,c2,c3⟩:=a1.al u 39;rw[SL]at c2;exact⟨c1,c2,c3 _ _ _ a2,Nat.le_succ_of_le h.bel.size,h.bel.size⟩
theorem UI{w W W':World}{c d:Array Value}{T U:TypeId}(k:Below W.heap.size W W')(hW:W.heap=((w.alloc (.cells c T)).alloc (.cells d U)).heap):W'.heap[w.heap.size]?=some (.cells c T (0,0))/\W'.heap[w.heap.size+1]?=some (.cells d U (0,0)):=by
 have h:=jA (w.alloc (.cells c T)) (.cells d U);have h':((w.alloc (.cells c T)).alloc (.cells d U)).heap[w.heap.size]?=some (.cells c T (0,0)):=pB (jA w (.cells c T)) ((dA _ _).alloc (eA _) _);have e:(w.alloc (.cells c T)).heap.size=w.heap.size+1:=by simp
 rw[e]at h;rw[<-hW]at h h';exact⟨pB h' k,pB h k⟩
theorem U4{w W W':World}{c d:Array Value}{T U:TypeId}{i:Nat}(h:w.heap[i]?=some (.cells c T (0,0)))(k:Below W.heap.size W W')(hW:W.heap=(w.alloc (.cells d U)).heap):W'.heap[i]?=some (.cells c T (0,0))/\W'.heap[w.heap.size]?=some (.cells d U (0,0)):=by
 have h1:=pB h ((dA _ _).alloc (eA _) (.cells d U));rw[<-hW]at h1;exact⟨pB h1 k,lX k hW⟩
theorem MB{W:World}{i j:Nat}{c d:Array Value}{T U:TypeId}(h1:W.heap[i]?=some (.cells c T (0,0)))(h2:W.heap[j]?=some (.cells d U (0,0)))(hT:T≠U):i≠j/\j≠i:=by
 have h:i≠j:=λe=>by
  rw[e,h2]at h1;cases h1;exact hT rfl
 exact⟨h,h.symm⟩
theorem eU{W:World}{B:Nat}{v:Value}{t:TypeId}(h:W.heap[B]?=some (.cells #[v] t (0,0))):W.cell? ⟨B,0,none⟩=some v:=yB h 0
def lH(s:ByteArray):ByteArray:=s.extract 0 (mG s.data.toList 32)
def zE(s:ByteArray):ByteArray:=s.extract (mG s.data.toList 32+1) s.size
def blk(s:ByteArray):Bool:=decide (mG s.data.toList 32<s.size)
inductive dW where
 |bad
 |lying
 |sums
 |send(a k b:ByteArray)
 |join(a m:ByteArray)
 |next(a:ByteArray)
 |leave(a:ByteArray)
 |ack(a:ByteArray)
 |back(a:ByteArray)
 |drop(a:ByteArray)
def gI(f:ByteArray->dW)(a:ByteArray):dW:=if vM a.data.toList then f a else .bad
def pP(f r:ByteArray):dW:=
 if f=⟨#[115,101,110,100]⟩then(if blk r&&blk (zE r)then .send (lH r) (lH (zE r)) (zE (zE r))else .bad)
 else if f=⟨#[106,111,105,110]⟩then(if blk r then gI (.join (lH r)) (zE r)else .bad)
 else if f=⟨#[110,101,120,116]⟩then(if blk r then .bad else .next r)
 else if f=⟨#[108,101,97,118,101]⟩then gI .leave r
 else if f=⟨#[97,99,107]⟩then gI .ack r
 else if f=⟨#[98,97,99,107]⟩then gI .back r
 else if f=⟨#[100,114,111,112]⟩then gI .drop r
 else .bad
def sJ(l:ByteArray):dW:=
 if l=⟨#[108,121,105,110,103]⟩then .lying else if l=⟨#[115,117,109,115]⟩then .sums else if blk l=false then .bad else pP (lH l) (zE l)
theorem qu_(l:ByteArray):(blk l=false/\wF 3 l=[l])\/(blk l=true/\blk (zE l)=false/\wF 3 l=[lH l,zE l])\/(blk l=true/\blk (zE l)=true/\blk (zE (zE l))=false/\wF 3 l=[lH l,lH (zE l),zE (zE l)])\/(blk l=true/\blk (zE l)=true/\blk (zE (zE l))=true/\wF 3 l=[lH l,lH (zE l),lH (zE (zE l)),zE (zE (zE l))]):=by
 have hn:∀{k:Nat}{s:ByteArray},blk s=false->wF k s=[s]:=λ{k s}h=>JL (by simpa[blk]using h);have hs:∀{k:Nat}{s:ByteArray},blk s=true->wF (k+1) s=lH s::wF k (zE s):=λ{k s}h=>JM (by simpa[blk]using h);cases h1:blk l with
 |false=>exact .inl ⟨rfl,hn h1⟩
 |true=>
   cases h2:blk (zE l)with
   |false=>exact .inr (.inl ⟨rfl,rfl,by rw[hs h1,hn h2]⟩)
   |true=>
     cases h3:blk (zE (zE l))with
     |false=>exact .inr (.inr (.inl ⟨rfl,rfl,rfl,by rw[hs h1,hs h2,hn h3]⟩))
     |true=>exact .inr (.inr (.inr ⟨rfl,rfl,rfl,by rw[hs h1,hs h2,hs h3,FK]⟩))
theorem V7{l x:ByteArray}{r:List ByteArray}(h:wF 3 l=x::r):vU l=x:=by
 unfold vU;simp only[h];rfl
theorem FF{l x:ByteArray}{r:List ByteArray}(h:wF 3 l=x::r):vR l=(pV x.data.toList&&(r.length+1==wT x.data.toList)):=by
 unfold vR;rw[V7 h,h];simp[Bool.beq_eq_decide_eq]
theorem cY{m:ByteArray}(h:blk m=true):vM m.data.toList=false:=by
 have h1:mG m.data.toList 32<m.size:=by simpa[blk]using h
 have h2:(m.data.toList.findIdx (·==32))<m.data.toList.length:=by rw[Array.length_toList];exact h1
 have h3:=cM (w:=h2);have h4:m.data.toList.all mJ=false:=by
  rw[vG];exact⟨_,qB h2,by rw[mQ.1 h3];decide⟩
 unfold vM;rw[h4];simp
theorem oX{x:ByteArray}{l:List UInt8}(h:x.data.toList=l):x=⟨l.toArray⟩:=by
 cases x with|mk d=>simp at h;subst h;simp
theorem FX{x:ByteArray}(h:pV x.data.toList=true):x=⟨#[115,117,109,115]⟩\/x=⟨#[108,121,105,110,103]⟩\/x=⟨#[110,101,120,116]⟩\/x=⟨#[100,114,111,112]⟩\/x=⟨#[98,97,99,107]⟩\/x=⟨#[97,99,107]⟩\/x=⟨#[108,101,97,118,101]⟩\/x=⟨#[106,111,105,110]⟩\/x=⟨#[115,101,110,100]⟩:=by
 unfold pV GS at h;simp only[List.any_cons,List.any_nil,Bool.or_false,Bool.or_eq_true,mQ]at h;rcases h with h|h|h|h|h|h|h|h|h;·exact .inl (oX h.symm)
 ·exact .inr (.inl (oX h.symm))
 ·exact .inr (.inr (.inl (oX h.symm)))
 ·exact .inr (.inr (.inr (.inl (oX h.symm))))
 ·exact .inr (.inr (.inr (.inr (.inl (oX h.symm)))))
 ·exact .inr (.inr (.inr (.inr (.inr (.inl (oX h.symm))))))
 ·exact .inr (.inr (.inr (.inr (.inr (.inr (.inl (oX h.symm)))))))
 ·exact .inr (.inr (.inr (.inr (.inr (.inr (.inr (.inl (oX h.symm))))))))
 ·exact .inr (.inr (.inr (.inr (.inr (.inr (.inr (.inr (oX h.symm))))))))
theorem JT{x:ByteArray}(h:pV x.data.toList=false):x≠⟨#[110,101,120,116]⟩/\x≠⟨#[100,114,111,112]⟩/\x≠⟨#[98,97,99,107]⟩/\x≠⟨#[97,99,107]⟩/\x≠⟨#[108,101,97,118,101]⟩/\x≠⟨#[106,111,105,110]⟩/\x≠⟨#[115,101,110,100]⟩:=by
 refine⟨?_,?_,?_,?_,?_,?_,?_⟩<;>(rintro rfl;exact absurd h (by decide))
inductive qa_(l:ByteArray):Prop
 |bad(h:vR l=false)(e:sJ l=.bad)
 |lying(h:vR l=true)(x:wF 3 l=[⟨#[108,121,105,110,103]⟩])(e:sJ l=.lying)
 |sums(h:vR l=true)(x:wF 3 l=[⟨#[115,117,109,115]⟩])(e:sJ l=.sums)
 |send(h:vR l=true)(a k b:ByteArray)(x:wF 3 l=[⟨#[115,101,110,100]⟩,a,k,b])(e:sJ l=.send a k b)
 |join(h:vR l=true)(a m:ByteArray)(x:wF 3 l=[⟨#[106,111,105,110]⟩,a,m])(e:sJ l=gI (.join a) m)
 |next(h:vR l=true)(a:ByteArray)(x:wF 3 l=[⟨#[110,101,120,116]⟩,a])(e:sJ l=.next a)
 |leave(h:vR l=true)(a:ByteArray)(x:wF 3 l=[⟨#[108,101,97,118,101]⟩,a])(e:sJ l=gI .leave a)
 |ack(h:vR l=true)(a:ByteArray)(x:wF 3 l=[⟨#[97,99,107]⟩,a])(e:sJ l=gI .ack a)
 |back(h:vR l=true)(a:ByteArray)(x:wF 3 l=[⟨#[98,97,99,107]⟩,a])(e:sJ l=gI .back a)
 |drop(h:vR l=true)(a:ByteArray)(x:wF 3 l=[⟨#[100,114,111,112]⟩,a])(e:sJ l=gI .drop a)
theorem fU{f:ByteArray->dW}{a:ByteArray}(h:vM a.data.toList=false):gI f a=.bad:=by unfold gI;rw[h];rfl
theorem gM{l:ByteArray}(h:blk l=true):l≠⟨#[108,121,105,110,103]⟩/\l≠⟨#[115,117,109,115]⟩:=by
 refine⟨?_,?_⟩<;>(rintro rfl;exact absurd h (by decide))
theorem EO(r:ByteArray):pP ⟨#[115,101,110,100]⟩ r=(if blk r&&blk (zE r)then .send (lH r) (lH (zE r)) (zE (zE r))else .bad):=by unfold pP;rw[qA rfl]
theorem EM(r:ByteArray):pP ⟨#[106,111,105,110]⟩ r=(if blk r then gI (.join (lH r)) (zE r)else .bad):=by unfold pP;rw[kA (by decide),qA rfl]
theorem EN(r:ByteArray):pP ⟨#[110,101,120,116]⟩ r=(if blk r then .bad else .next r):=by unfold pP;rw[kA (by decide),kA (by decide),qA rfl]
theorem DX(r:ByteArray):pP ⟨#[108,101,97,118,101]⟩ r=gI .leave r:=by unfold pP;rw[kA (by decide),kA (by decide),kA (by decide),qA rfl]
theorem FE(r:ByteArray):pP ⟨#[97,99,107]⟩ r=gI .ack r:=by unfold pP;rw[kA (by decide),kA (by decide),kA (by decide),kA (by decide),qA rfl]
theorem EK(r:ByteArray):pP ⟨#[98,97,99,107]⟩ r=gI .back r:=by unfold pP;rw[kA (by decide),kA (by decide),kA (by decide),kA (by decide),kA (by decide),qA rfl]
theorem EL(r:ByteArray):pP ⟨#[100,114,111,112]⟩ r=gI .drop r:=by unfold pP;rw[kA (by decide),kA (by decide),kA (by decide),kA (by decide),kA (by decide),kA (by decide),qA rfl]
theorem IG(r:ByteArray):pP ⟨#[108,121,105,110,103]⟩ r=.bad:=by unfold pP;rw[kA (by decide),kA (by decide),kA (by decide),kA (by decide),kA (by decide),kA (by decide),kA (by decide)]
theorem JC(r:ByteArray):pP ⟨#[115,117,109,115]⟩ r=.bad:=by unfold pP;rw[kA (by decide),kA (by decide),kA (by decide),kA (by decide),kA (by decide),kA (by decide),kA (by decide)]
theorem VI(l:ByteArray):qa_ l:=by
 rcases qu_ l with⟨h1,x⟩|⟨h1,h2,x⟩|⟨h1,h2,h3,x⟩|⟨h1,h2,h3,x⟩
 ·have ho:=FF x;by_cases e1:l=⟨#[108,121,105,110,103]⟩;·exact .lying (by rw[ho,e1];decide) (by rw[x,e1]) (by unfold sJ;rw[qA e1])
  by_cases e2:l=⟨#[115,117,109,115]⟩;·exact .sums (by rw[ho,e2];decide) (by rw[x,e2]) (by unfold sJ;rw[kA e1,qA e2])
  refine .bad ?_ (by unfold sJ;rw[kA e1,kA e2,qA h1]);rw[ho];cases hk:pV l.data.toList with
  |false=>rfl
  |true=>
    rcases FX hk with rfl|rfl|rfl|rfl|rfl|rfl|rfl|rfl|rfl<;>first|exact absurd rfl e1|exact absurd rfl e2|decide
 ·have ho:=FF x;obtain⟨n1,n2⟩:=gM h1;have hA:sJ l=pP (lH l) (zE l):=by unfold sJ;rw[kA n1,kA n2,kA (by rw[h1];decide)]
  generalize lH l=f at ho x hA;simp only[List.length_cons,List.length_nil]at ho;cases hk:pV f.data.toList with
  |false=>
    obtain⟨k1,k2,k3,k4,k5,k6,k7⟩:=JT hk;unfold pP at hA;rw[kA k7,kA k6,kA k1,kA k5,kA k4,kA k3,kA k2]at hA;exact .bad (by rw[ho,hk];rfl) hA
  |true=>
    rcases FX hk with rfl|rfl|rfl|rfl|rfl|rfl|rfl|rfl|rfl;·exact .bad (by rw[ho];decide) (by rw[hA,JC])
    ·exact .bad (by rw[ho];decide) (by rw[hA,IG])
    ·exact .next (by rw[ho];decide) _ x (by rw[hA,EN,h2,kA (by decide)])
    ·exact .drop (by rw[ho];decide) _ x (by rw[hA,EL])
    ·exact .back (by rw[ho];decide) _ x (by rw[hA,EK])
    ·exact .ack (by rw[ho];decide) _ x (by rw[hA,FE])
    ·exact .leave (by rw[ho];decide) _ x (by rw[hA,DX])
    ·exact .bad (by rw[ho];decide) (by rw[hA,EM,h2,kA (by decide)])
    ·exact .bad (by rw[ho];decide) (by rw[hA,EO,h2,kA (by simp)])
 ·have ho:=FF x;obtain⟨n1,n2⟩:=gM h1;have hA:sJ l=pP (lH l) (zE l):=by unfold sJ;rw[kA n1,kA n2,kA (by rw[h1];decide)]
  generalize lH l=f at ho x hA;simp only[List.length_cons,List.length_nil]at ho;cases hk:pV f.data.toList with
  |false=>
    obtain⟨k1,k2,k3,k4,k5,k6,k7⟩:=JT hk;unfold pP at hA;rw[kA k7,kA k6,kA k1,kA k5,kA k4,kA k3,kA k2]at hA;exact .bad (by rw[ho,hk];rfl) hA
  |true=>
    rcases FX hk with rfl|rfl|rfl|rfl|rfl|rfl|rfl|rfl|rfl;·exact .bad (by rw[ho];decide) (by rw[hA,JC])
    ·exact .bad (by rw[ho];decide) (by rw[hA,IG])
    ·exact .bad (by rw[ho];decide) (by rw[hA,EN,h2,qA rfl])
    ·exact .bad (by rw[ho];decide) (by rw[hA,EL,fU (cY h2)])
    ·exact .bad (by rw[ho];decide) (by rw[hA,EK,fU (cY h2)])
    ·exact .bad (by rw[ho];decide) (by rw[hA,FE,fU (cY h2)])
    ·exact .bad (by rw[ho];decide) (by rw[hA,DX,fU (cY h2)])
    ·exact .join (by rw[ho];decide) _ _ x (by rw[hA,EM,h2,qA rfl])
    ·exact .bad (by rw[ho];decide) (by rw[hA,EO,h2,h3,kA (by decide)])
 ·have ho:=FF x;obtain⟨n1,n2⟩:=gM h1;have hA:sJ l=pP (lH l) (zE l):=by unfold sJ;rw[kA n1,kA n2,kA (by rw[h1];decide)]
  generalize lH l=f at ho x hA;simp only[List.length_cons,List.length_nil]at ho;cases hk:pV f.data.toList with
  |false=>
    obtain⟨k1,k2,k3,k4,k5,k6,k7⟩:=JT hk;unfold pP at hA;rw[kA k7,kA k6,kA k1,kA k5,kA k4,kA k3,kA k2]at hA;exact .bad (by rw[ho,hk];rfl) hA
  |true=>
    rcases FX hk with rfl|rfl|rfl|rfl|rfl|rfl|rfl|rfl|rfl;·exact .bad (by rw[ho];decide) (by rw[hA,JC])
    ·exact .bad (by rw[ho];decide) (by rw[hA,IG])
    ·exact .bad (by rw[ho];decide) (by rw[hA,EN,h2,qA rfl])
    ·exact .bad (by rw[ho];decide) (by rw[hA,EL,fU (cY h2)])
    ·exact .bad (by rw[ho];decide) (by rw[hA,EK,fU (cY h2)])
    ·exact .bad (by rw[ho];decide) (by rw[hA,FE,fU (cY h2)])
    ·exact .bad (by rw[ho];decide) (by rw[hA,DX,fU (cY h2)])
    ·exact .bad (by rw[ho];decide) (by rw[hA,EM,h2,qA rfl,fU (cY h3)])
    ·exact .send (by rw[ho];decide) _ _ _ x (by rw[hA,EO,h2,h3,qA (by decide)])
def zN(p:lD)(s:yC):dW->Int
 |.bad=>1
 |.lying=>0
 |.sums=>0
 |.send a k b=>uV p s a k b
 |.join a m=>if yE (iK a) p.jB<0 then 5 else oR p s (yE (iK a) p.jB) (eH m.data.toList:Nat)
 |.next a=>oW p s a
 |.leave a=>gV p s (eH a.data.toList:Nat)
 |.ack a=>sK p s (eH a.data.toList:Nat)
 |.back a=>cL p s (eH a.data.toList:Nat)
 |.drop a=>cL p s (eH a.data.toList:Nat)
def jV(p:lD)(s:yC):dW->yC
 |.send a k b=>oI p 600 s (dI p (yE (eM a) p.nC) k b)
 |.join a m=>bR s (yE (iK a) p.jB) (eH m.data.toList:Nat)
 |.next a=>lJ s (yE (iK a) p.jB)
 |.leave a=>qW p s (eH a.data.toList:Nat)
 |.ack a=>kT s (eH a.data.toList:Nat)
 |.back a=>vK p s (eH a.data.toList:Nat) true
 |.drop a=>vK p s (eH a.data.toList:Nat) false
 |_=>s
def wU(p:lD)(s:yC):dW->ByteArray
 |.bad=>⟨#[]⟩
 |.lying=>⟨(aL (eR s.yA)).toArray⟩
 |.sums=>⟨(aL [s.nB.toNat,s.uA.toNat,s.iA.toNat]).toArray⟩
 |.send a k b=>⟨(Lib.decDigits (eO p k (yE (eM a) p.nC).toNat).length).toArray⟩
 |.join a m=>⟨(Lib.decDigits (iE s.nA)).toArray⟩
 |.next a=>rW s (yE (iK a) p.jB)
 |_=>⟨#[111,107]⟩
theorem qf_{p:lD}{s:yC}{q nD:Int}(h:oR p s q nD=0):mH p s 0/\tG q p.jB.length=true/\pJ nD 1 4=true/\¬(iE s.nA=s.nA.length/\4<=s.nA.length):=by
 unfold oR at h;by_cases h1:zG p s=0
 ·rw[kA (by simp[h1])]at h;unfold iY at h;by_cases h2:tG q p.jB.length=false;·rw[qA h2]at h;cases h
  ·rw[kA h2]at h;by_cases h3:pJ nD 1 4=false;·rw[qA h3]at h;cases h
   ·rw[kA h3]at h;by_cases h4:iE s.nA=s.nA.length/\4<=s.nA.length;·rw[qA h4]at h;cases h
    ·exact⟨nN h1,by simpa using h2,by simpa using h3,h4⟩
 ·rw[qA h1]at h;exact absurd h h1
theorem D3{p:lD}{s:yC}{post:Int}{key body:ByteArray}(h:pL p s post key body=0):mH p s 0/\fO p post key=0/\body.size<=12/\(dI p post key body).length<=4/\(∀a∈dI p post key body,mR p a)/\s.gA<=524288:=by
 unfold pL at h;by_cases h1:zG p s=0
 ·rw[kA (by simp[h1])]at h;unfold sR at h;by_cases h2:fO p post key=0
  ·rw[kA (by simp[h2])]at h;by_cases h3:12<body.size;·rw[qA h3]at h;cases h
   ·rw[kA h3]at h;unfold kJ at h;rw[kA (by simp[h1])]at h;obtain⟨g1,g2,g3⟩:=KM h;exact⟨nN h1,h2,by omega,g1,g2,g3⟩
  ·rw[qA h2]at h;exact absurd h h2
 ·rw[qA h1]at h;exact absurd h h1
theorem GH{c:Prop}[Decidable c]{x:Int}(h:(if c then 5 else x)=0):x=0:=by
 by_cases hc:c;·rw[qA hc]at h;cases h
 ·rw[kA hc]at h;exact h
theorem P5{p:lD}{s:yC}{a:dW}(hR:zG p s=0)(h:zN p s a=0):zG p (jV p s a)=0:=by
 cases a with
 |bad=>cases h
 |lying=>exact hR
 |sums=>exact hR
 |send a k b=>
   obtain⟨h1,h2,h3,h4,h5,h6⟩:=D3 (GH h);exact(KO 600 h1 h5 (vA (MG h1 h4) (by omega)) (by omega)).1.right.ok
 |join a m=>
   obtain⟨g1,g2,g3,g4⟩:=qf_ (GH h);exact(g1.join g2 g3 g4).ok
 |next a=>
   obtain⟨k,y,r,g⟩:=SG (GH h);exact g.done.ok
 |leave a=>exact(AT h).right.ok
 |ack a=>
   obtain⟨g,i,o,ho⟩:=KL h;exact(g.ack ho).ok
 |back a=>
   obtain⟨i,o,n,ho,hn,g⟩:=rQ h true;exact g.right.ok
 |drop a=>
   obtain⟨i,o,n,ho,hn,g⟩:=rQ h false;exact g.right.ok
theorem VG(z:Nat)(h:z<=1000000000000000):(Lib.decDigits z).length<=3000:=vA (wZ z h) (by omega)
theorem sz(l:List UInt8):(⟨l.toArray⟩:ByteArray).size=l.length:=by simp[ByteArray.size]
theorem LR{p:lD}{s:yC}(hR:zG p s=0):(0<=s.nB/\s.nB<=1048576)/\(0<=s.uA/\s.uA<=1048576)/\(0<=s.iA/\s.iA<=1048576):=by
 have h:=nN hR;have h1:=h.ns;have h2:=h.ak;have h3:=h.dr;have h4:=h.sum;have h5:=h.cs;omega
theorem P6{p:lD}{s:yC}{a:dW}(hR:zG p s=0)(h:zN p s a=0):(wU p s a).size<=3000:=by
 have hx:=nN hR;obtain⟨s1,s2,s3,s4⟩:=yV hx;cases a with
 |bad=>cases h
 |lying=>
   show(⟨(aL (eR s.yA)).toArray⟩:ByteArray).size<=3000;rw[sz];have:=BK _ (eR s.yA) rfl (λz hz=>by
    unfold eR at hz;obtain⟨l,hl,rfl⟩:=jD.1 hz;have:=s2 l hl;omega);have hl:(eR s.yA).length=s.yA.length:=by unfold eR;simp
   omega
 |sums=>
   show(⟨(aL [s.nB.toNat,s.uA.toNat,s.iA.toNat]).toArray⟩:ByteArray).size<=3000;rw[sz];have hs:=LR hR;have:=BK _ [s.nB.toNat,s.uA.toNat,s.iA.toNat] rfl (λz hz=>by simp at hz;omega);simp at this;omega
 |send a k b=>
   show(⟨(Lib.decDigits _).toArray⟩:ByteArray).size<=3000;rw[sz];refine VG _ ?_;have:=DF p k (yE (eM a) p.nC).toNat;have:=hx.len;omega
 |join a m=>
   show(⟨(Lib.decDigits _).toArray⟩:ByteArray).size<=3000;rw[sz];refine VG _ ?_;have:=BH s.nA;omega
 |next a=>
   show(rW s _).size<=3000;unfold rW;rw[sz];obtain⟨h1,h2,h3,h4⟩:=LM (GH h);obtain⟨o,ho⟩:∃o,o=oL s (yE (iK a) p.jB):=⟨_,rfl⟩;rw[<-ho]at h3 h4⊢;have:=BK _ [s.fA.toNat,o.fE.toNat] rfl (λz hz=>by simp at hz;omega);have hb:o.item.body.data.toList.length=o.item.body.size:=by rw[Array.length_toList];rfl
   simp[Lib.join,List.intercalate]at this⊢;have ha:(qU o.item.again).data.size<=5:=by cases o.item.again<;>decide
   have ha':(qU o.item.again).size<=5:=ha;have hb':o.item.body.data.size=o.item.body.size:=rfl;omega
 |leave a=>show(2:Nat)<=3000;omega
 |ack a=>show(2:Nat)<=3000;omega
 |back a=>show(2:Nat)<=3000;omega
 |drop a=>show(2:Nat)<=3000;omega
def tV(E:Int):ByteArray:=⟨([101,114,114,111,114,32]++Lib.decDigits E.toNat).toArray⟩
def xW(p:lD)(s:yC)(l:ByteArray):ByteArray:=if zN p s (sJ l)=0 then wU p s (sJ l)else tV (zN p s (sJ l))
def yR(p:lD)(s:yC)(l:ByteArray):yC:=if zN p s (sJ l)=0 then jV p s (sJ l)else s
theorem SW{p:lD}{s:yC}(l:ByteArray)(hR:zG p s=0):zG p (yR p s l)=0:=by
 unfold yR;by_cases h:zN p s (sJ l)=0;·rw[qA h];exact P5 hR h
 ·rw[kA h];exact hR
def pR(p:lD):yC->List UInt8->List UInt8->List UInt8
 |_,_,[]=>[]
 |s,cur,c::r=>if c=10 then(xW p s ⟨cur.toArray⟩).data.toList++[10]++pR p (yR p s ⟨cur.toArray⟩) [] r else pR p s (cur++[c]) r
theorem JH(p:lD)(s:yC)(cur:List UInt8)(c:UInt8)(r:List UInt8):pR p s cur (c::r)=if c=10 then(xW p s ⟨cur.toArray⟩).data.toList++[10]++pR p (yR p s ⟨cur.toArray⟩) [] r else pR p s (cur++[c]) r:=rfl
theorem RX(p:lD)(s:yC):∀(r cur:List UInt8),mG r 10<r.length->pR p s cur r=(xW p s ⟨(cur++r.take (mG r 10)).toArray⟩).data.toList++[10]++pR p (yR p s ⟨(cur++r.take (mG r 10)).toArray⟩) [] (r.drop (mG r 10+1))
 |[],cur,h=>by simp at h
 |c::r,cur,h=>by
   rw[JH];by_cases hc:c=10
   ·have:mG (c::r) 10=0:=by unfold mG;rw[List.findIdx_cons];simp[hc]
    rw[qA hc,this];simp
   ·have e:mG (c::r) 10=mG r 10+1:=by unfold mG;rw[List.findIdx_cons,xD.2 hc];rfl
    rw[e]at h;rw[kA hc,e,RX p s r (cur++[c]) (by rw[List.length_cons]at h;omega)];simp
theorem MY(p:lD)(a1 a2 a3:Option Addr)(n1 c1 n2 c2 n3 c3:Nat)(nm:ByteArray)(w:World)(hp:sG w a1 a2 a3 n1 n2 n3 p)(hm:n1<=100):
 Calls Tryz.prog 45 #[.agg #[.slice a1 n1 c1,.slice a2 n2 c2,.slice a3 n3 c3],.string nm] w λe w'=>e=.returned (.int .i64 (yE (eM nm) p.nC))/\Below w.heap.size w w':=by
 obtain⟨w1,hw1⟩:∃w1,w1=w.alloc (.cells #[.slice a1 n1 c1,.slice a2 n2 c2,.slice a3 n3 c3] 26):=⟨_,rfl⟩;have l1:Below w.heap.size w w1:=by rw[hw1];exact(dA _ _).alloc (eA _) _
 have x1:w1.heap[w.heap.size]?=some (.cells #[.slice a1 n1 c1,.slice a2 n2 c2,.slice a3 n3 c3] 26 (0,0)):=by rw[hw1];exact jA w _
 obtain⟨y0,y1,y2⟩:=xH x1;have HW1:=aA hw1;have K1:=aA l1;have HN:Hid (p.nC.length=n1):=hp.l1;have HP:=aA (hp.sA l1);clear hw1 l1 x1 hp;go_enter Tryz.func45,Tryz.ntmps45;go_wp2_with fail;rw[<-HW1.out];go_loopw[5](λi wr=>∃(k:Nat),k<=n1/\i=.int .i64 k/\(∀x∈p.nC.take k,eM nm x=false)/\wr=w1)(λi _=>n1-(intOf i).toNat);case atStart=>exact⟨0,zA _,rfl,by simp,rfl⟩
 case round=>
  obtain⟨k,hk,rfl,ha,rfl⟩:=hrel;have HA:=aA ha;clear ha;by_cases hlt:k<n1
  ·have hkl:k<p.nC.length:=by rw[HN.out];exact hlt
   obtain⟨g,o,rfl,hg,hc⟩:=HP.out.p1.get hkl;have HX:Hid (eM nm p.nC[k]=true->yE (eM nm) p.nC=k):=λh=>yX hkl HA.out h;have HT:Hid (eM nm p.nC[k]=false->∀x∈p.nC.take (k+1),eM nm x=false):=λh x hx=>by
    rw[rA hkl,oC,tC]at hx;rcases hx with hx|rfl;·exact HA.out x hx
    ·exact h
   unfold eM at HX HT;obtain⟨x,hxx⟩:∃x,x=p.nC[k].name:=⟨_,rfl⟩;rw[<-hxx]at hc HX HT;obtain⟨y,hy⟩:∃y,(x.toList==nm.toList)=y:=⟨_,rfl⟩;rw[hy]at HX HT;clear hxx HA;obtain⟨c0,c1⟩:=hc;have j1:(0:Int)<=(k:Int):=by omega
   have j2:(k:Int)<n1:=by omega
   cases y with
   |true=>
     go_wp2_with fail;go_ret;exact⟨tJ (HX.out (by first|rfl|trivial)).symm,K1.out⟩
   |false=>
     go_wp2_with fail;go_roundw;case rel=>exact⟨k+1,by omega,by go_num,HT.out (by first|rfl|trivial),trivial⟩
     case measure=>simp[intOf];omega
  ·have HF:Hid (yE (eM nm) p.nC=-1):=yZ (λx hx=>HA.out x (by rw[iB (by rw[HN.out];omega)];exact hx));go_wp2;go_ret;exact⟨tJ HF.out.symm,K1.out⟩
theorem DV(p:lD)(a1 a2 a3:Option Addr)(n1 c1 n2 c2 n3 c3:Nat)(nm:ByteArray)(w:World)(hp:sG w a1 a2 a3 n1 n2 n3 p)(hm:n2<=100):
 Calls Tryz.prog 48 #[.agg #[.slice a1 n1 c1,.slice a2 n2 c2,.slice a3 n3 c3],.string nm] w λe w'=>e=.returned (.int .i64 (yE (iK nm) p.jB))/\Below w.heap.size w w':=by
 obtain⟨w1,hw1⟩:∃w1,w1=w.alloc (.cells #[.slice a1 n1 c1,.slice a2 n2 c2,.slice a3 n3 c3] 26):=⟨_,rfl⟩;have l1:Below w.heap.size w w1:=by rw[hw1];exact(dA _ _).alloc (eA _) _
 have x1:w1.heap[w.heap.size]?=some (.cells #[.slice a1 n1 c1,.slice a2 n2 c2,.slice a3 n3 c3] 26 (0,0)):=by rw[hw1];exact jA w _
 obtain⟨y0,y1,y2⟩:=xH x1;have HW1:=aA hw1;have K1:=aA l1;have HN:Hid (p.jB.length=n2):=hp.l2;have HP:=aA (hp.sA l1);clear hw1 l1 x1 hp;go_enter Tryz.func48,Tryz.ntmps48;go_wp2_with fail;rw[<-HW1.out];go_loopw[5](λi wr=>∃(k:Nat),k<=n2/\i=.int .i64 k/\(∀x∈p.jB.take k,iK nm x=false)/\wr=w1)(λi _=>n2-(intOf i).toNat);case atStart=>exact⟨0,zA _,rfl,by simp,rfl⟩
 case round=>
  obtain⟨k,hk,rfl,ha,rfl⟩:=hrel;have HA:=aA ha;clear ha;by_cases hlt:k<n2
  ·have hkl:k<p.jB.length:=by rw[HN.out];exact hlt
   obtain⟨g,o,rfl,hg,hc⟩:=HP.out.p2.get hkl;have HX:Hid (iK nm p.jB[k]=true->yE (iK nm) p.jB=k):=λh=>yX hkl HA.out h;have HT:Hid (iK nm p.jB[k]=false->∀x∈p.jB.take (k+1),iK nm x=false):=λh x hx=>by
    rw[rA hkl,oC,tC]at hx;rcases hx with hx|rfl;·exact HA.out x hx
    ·exact h
   unfold iK at HX HT;obtain⟨x,hxx⟩:∃x,x=p.jB[k].name:=⟨_,rfl⟩;rw[<-hxx]at hc HX HT;obtain⟨y,hy⟩:∃y,(x.toList==nm.toList)=y:=⟨_,rfl⟩;rw[hy]at HX HT;clear hxx HA;obtain⟨c0,c1,c2⟩:=hc;have j1:(0:Int)<=(k:Int):=by omega
   have j2:(k:Int)<n2:=by omega
   cases y with
   |true=>
     go_wp2_with fail;go_ret;exact⟨tJ (HX.out (by first|rfl|trivial)).symm,K1.out⟩
   |false=>
     go_wp2_with fail;go_roundw;case rel=>exact⟨k+1,by omega,by go_num,HT.out (by first|rfl|trivial),trivial⟩
     case measure=>simp[intOf];omega
  ·have HF:Hid (yE (iK nm) p.jB=-1):=yZ (λx hx=>HA.out x (by rw[iB (by rw[HN.out];omega)];exact hx));go_wp2;go_ret;exact⟨tJ HF.out.symm,K1.out⟩
theorem ZV(s:yC)(b1 b2 b3:Option Addr)(m1 d1 m2 d2 m3 d3:Nat)(w:World)(hs:gK w b1 b2 b3 m1 m2 m3 s)(hm1:m1<=100):
 Calls Tryz.prog 43 #[.agg #[.slice b1 m1 d1,.slice b2 m2 d2,.slice b3 m3 d3,.int .i64 s.gA,.int .i64 s.fA,.int .i64 s.nB,.int .i64 s.uA,.int .i64 s.iA]] w λe w'=>∃v,e=.returned v/\w'.ownsRow w.heap.size 3 1 v s.yA.length (xM s.yA)/\Below w.heap.size w w':=by
 obtain⟨w1,hw1⟩:∃w1,w1=w.alloc (.cells #[.slice b1 m1 d1,.slice b2 m2 d2,.slice b3 m3 d3,.int .i64 s.gA,.int .i64 s.fA,.int .i64 s.nB,.int .i64 s.uA,.int .i64 s.iA] 39):=⟨_,rfl⟩;have l1:Below w.heap.size w w1:=by rw[hw1];exact(dA _ _).alloc (eA _) _
 have x1:w1.heap[w.heap.size]?=some (.cells #[.slice b1 m1 d1,.slice b2 m2 d2,.slice b3 m3 d3,.int .i64 s.gA,.int .i64 s.fA,.int .i64 s.nB,.int .i64 s.uA,.int .i64 s.iA] 39 (0,0)):=by rw[hw1];exact jA w _
 have HW1:=aA hw1;have K1:=aA l1;have HS1:=aA (hs.sA l1);have X1:=aA x1;have HL1:Hid (s.yA.length=m1):=hs.l1;have hsz:=l1.size;clear hw1 l1 hs x1;go_enter Tryz.func43,Tryz.ntmps43;go_wp2_with fail;rw[<-HW1.out];go_loopw[3,4](λl i wr=>∃(k:Nat),k<=m1/\i=.int .i64 k/\wr.ownsRow w1.heap.size 3 1 l k (xM (s.yA.take k))/\Below w1.heap.size w1 wr)(λ_ i _=>m1-(intOf i).toNat);case atStart=>exact⟨0,zA _,rfl,by simpa[xM]using jC w1 w1.heap.size 3 1,dA _ _⟩
 case round=>
  rename_i lv iv;obtain⟨k,hk,rfl,hrow,hBr⟩:=hrel;obtain⟨al,cl,rfl,hcc,-⟩:=jM hrow;have HO:=aA hrow;have HB:=aA hBr;have hsr:=hBr.size;obtain⟨y0,y1,y2,y3,y4,y5,y6,y7⟩:=gD (pB X1.out hBr);clear hrow hBr hcc y1 y2 y3 y4 y5 y6 y7;by_cases hlt:k<m1
  ·have hkl:k<s.yA.length:=by rw[HL1.out];exact hlt
   obtain⟨g,o,bl,ccl,ha,hg,hlc⟩:=((HS1.out.sA HB.out).q1).get hkl;subst ha;have hcell:=hlc.1;obtain⟨L,hL⟩:∃L:Nat,L=(s.yA[k]'hkl).length:=⟨_,rfl⟩;rw[<-hL]at hcell;have HNX:Hid (xM (s.yA.take (k+1))=xM (s.yA.take k)++[.int .i64 (L:Nat)]):=by show _=_;rw[RP hkl,hL]
   have HLT:=aA hlt;have j1:(0:Int)<=(k:Int):=by omega
   have j2:(k:Int)<m1:=by omega
   obtain⟨w4,hw4⟩:∃w4,w4=wr.alloc (.cells #[.int .i64 (L:Nat)] 3):=⟨_,rfl⟩;have l4:Below wr.heap.size wr w4:=by rw[hw4];exact(dA _ _).alloc (eA _) _
   have HRW:Hid (jK w4 (some ⟨wr.heap.size,0,none⟩) [.int .i64 (L:Nat)]):=by show jK w4 _ _;rw[hw4];exact LO (w:=wr) (cs:=[.int .i64 (L:Nat)])
   have HW4:=aA hw4;have HO4:=aA (uI HO.out l4);have HB4:=aA (HB.out.trans (l4.mono HB.out.size));have hs4:=HB4.out.size;clear hw4 l4 hL hlc;go_wp2_with(at_builtin;rw[<-HW4.out];refine jT TC (by kernel_rfl) _ _ rfl w1.heap.size _ k (xM (s.yA.take k)) rfl HO4.out (some ⟨wr.heap.size,0,none⟩) 1 1 [.int .i64 (L:Nat)] rfl rfl (λh=>by cases h) HRW.out (λu hu=>by cases tC.1 hu;rfl) (by unfold maxLen;omega) (by omega) (by omega) ?_;intro v5 w5 ho5 hg5 hblk;have HO5:=aA ho5;have K5:=aA (HB4.out.grown hg5 HB4.out.size (λj hj=>(HO4.out.lt j hj).1));clear ho5 hg5 hblk);go_roundw;case rel=>exact⟨k+1,HLT.out,by have:=HLT.out;go_num,by rw[HNX.out];exact HO5.out,K5.out⟩
   case measure=>have:=HLT.out;simp[intOf];omega
  ·have hke:k=m1:=by omega
   subst hke;go_wp2_with fail;go_ret;exact⟨_,rfl,by have h:=HO.out;rw[iB (by rw[HL1.out];omega)]at h;rw[HL1.out];exact xS h hsz,K1.out.trans (HB.out.mono K1.out.size)⟩
end Go.Proofs.YtedmnjimkhamaaaGreatDoor
