import Derived.Test.YtedmnjimkhamaaaGreatDoorMox
namespace Go.Proofs.YtedmnjimkhamaaaGreatDoor
set_option linter.unusedVariables false
set_option maxRecDepth 100000
set_option maxHeartbeats 16000000
open Go.RowKit Go.Maps
inductive rY where
 |leave
 |ack
 |back
 |drop
def GU:rY->ByteArray
 |.leave=>⟨#[108,101,97,118,101]⟩
 |.ack=>⟨#[97,99,107]⟩
 |.back=>⟨#[98,97,99,107]⟩
 |.drop=>⟨#[100,114,111,112]⟩
def GT(P S:Value)(M:Nat):rY->Array Value
 |.leave=>#[P,S,.int .i64 (M:Nat)]
 |.ack=>#[P,S,.int .i64 (M:Nat)]
 |.back=>#[P,S,.int .i64 (M:Nat),.bool true]
 |.drop=>#[P,S,.int .i64 (M:Nat),.bool false]
def zT(a:ByteArray):rY->dW
 |.leave=>.leave a
 |.ack=>.ack a
 |.back=>.back a
 |.drop=>.drop a
def VO:rY->FuncId
 |.leave=>63
 |.ack=>65
 |_=>66
theorem rpR(p:lD)(s:yC)(a:ByteArray)(k:rY):wU p s (zT a k)=⟨#[111,107]⟩:=by cases k<;>rfl
theorem GK(p:lD)(a1 a2 a3:Option Addr)(n1 c1 n2 c2 n3 c3:Nat)(W0:World)(hp0:sG W0 a1 a2 a3 n1 n2 n3 p)(s:yC)(k:rY)(a:ByteArray)(has:a.size<=1000000)(g c:Nat)(t:Nat)(w:World)(h0:Below W0.heap.size W0 w)(ht0:W0.heap.size<=t)(hb:zO a1 a2 a3 n1 c1 n2 c2 n3 c3 w W0.heap.size t s)
 (g0:w.cell? ⟨g,0,none⟩=some (.string (GU k)))(g1:w.cell? ⟨g,1,none⟩=some (.string a))(hg:g<w.heap.size):
 Calls Tryz.prog 35 #[.pointer (some ⟨t,0,none⟩),.slice (some ⟨g,0,none⟩) 2 c] w λe w'=>
  oT a1 a2 a3 n1 c1 n2 c2 n3 c3 w w' W0.heap.size t e (zN p s (gI (zT · k) a)) (wU p s (gI (zT · k) a)) s (jV p s (gI (zT · k) a)):=by
 have HCB:=aA hb;obtain⟨b1,b2,b3,m1,d1,m2,d2,m3,d3,hh,ho⟩:=hb;have ht:=bE hh;have hp:=hp0.sA h0;have hgt:g≠t:=λe=>by
  have:=(kS hh).1.1;rw[e,this]at g0;cases g0
 obtain⟨M,hM⟩:∃M:Nat,M=eH a.data.toList:=⟨_,rfl⟩;obtain⟨E,hE⟩:∃E,E=zN p s (zT a k):=⟨_,rfl⟩;obtain⟨S',hS'⟩:∃S',S'=jV p s (zT a k):=⟨_,rfl⟩;obtain⟨D,hD⟩:∃D,D=zN p s (gI (zT · k) a):=⟨_,rfl⟩;obtain⟨R,hR⟩:∃R,R=wU p s (gI (zT · k) a):=⟨_,rfl⟩;obtain⟨T,hT⟩:∃T,T=jV p s (gI (zT · k) a):=⟨_,rfl⟩;have HD1:Hid (vM a.data.toList=false->D=1):=λh=>by rw[hD,fU h];rfl
 have HD2:Hid (vM a.data.toList=true->D=E/\R=⟨#[111,107]⟩/\T=S'):=λh=>by
  have e:gI (zT · k) a=zT a k:=by unfold gI;rw[h];rfl
  rw[hD,hR,hT,hE,hS',e];exact⟨rfl,rpR p s a k,rfl⟩
 rw[<-hD,<-hR,<-hT];have NB:Hid (∀W,Below w.heap.size w W->Calls Tryz.prog 64 #[.string a] W λe w'=>((D=1/\e=aK D)\/((D=E/\R=⟨#[111,107]⟩/\T=S')/\e=.returned (.int .i64 (M:Nat))))/\Below w.heap.size w w'):=λW hW=>by
  refine(OQ a W has).mono ?_;rintro e w'⟨k,⟨h,h2⟩|⟨h,h2⟩⟩;·exact⟨.inl ⟨HD1.out h,by rw[HD1.out h];exact h2⟩,hW.trans (k.mono hW.size)⟩
  ·exact⟨.inr ⟨HD2.out h,by rw[h2,hM]⟩,hW.trans (k.mono hW.size)⟩
 have PB:Hid (∀W,Below w.heap.size w W->Calls Tryz.prog (VO k) (GT (.agg #[.slice a1 n1 c1,.slice a2 n2 c2,.slice a3 n3 c3]) (.agg #[.slice b1 m1 d1,.slice b2 m2 d2,.slice b3 m3 d3,.int .i64 s.gA,.int .i64 s.fA,.int .i64 s.nB,.int .i64 s.uA,.int .i64 s.iA]) M k) W λe w'=>∃(x1 x2 x3:Option Addr)(k1 e1 k2 e2 k3 e3:Nat)(i1 i2 i3 i4 i5:Int),e=.returned (.tuple #[.agg #[.slice x1 k1 e1,.slice x2 k2 e2,.slice x3 k3 e3,.int .i64 i1,.int .i64 i2,.int .i64 i3,.int .i64 i4,.int .i64 i5],.int .i64 E])/\kK w' w.heap.size (.agg #[.slice x1 k1 e1,.slice x2 k2 e2,.slice x3 k3 e3,.int .i64 i1,.int .i64 i2,.int .i64 i3,.int .i64 i4,.int .i64 i5]) E S'/\Below w.heap.size w w'):=λW hW=>by
  rw[hE,hS'];cases k<;>simp only[zT,zN,jV,<-hM]<;>refine Calls.mono (by first|exact I0 p a1 a2 a3 n1 c1 n2 c2 n3 c3 s b1 b2 b3 m1 d1 m2 d2 m3 d3 (M:Nat) W (hp.sA hW) ((ho.sA hW).state) (ho.iH).1 (ho.iH).2|exact U1 p a1 a2 a3 n1 c1 n2 c2 n3 c3 s b1 b2 b3 m1 d1 m2 d2 m3 d3 (M:Nat) W (hp.sA hW) ((ho.sA hW).state) (ho.iH).1 (ho.iH).2|exact JK p a1 a2 a3 n1 c1 n2 c2 n3 c3 s b1 b2 b3 m1 d1 m2 d2 m3 d3 (M:Nat) _ W (hp.sA hW) ((ho.sA hW).state) (ho.iH).1 (ho.iH).2) ?_;all_goals
   rintro e w'⟨v,rfl,hr,hB⟩;obtain⟨x1,x2,x3,k1,e1,k2,e2,k3,e3,i1,i2,i3,i4,i5,rfl⟩:=hr.shape;exact⟨x1,x2,x3,k1,e1,k2,e2,k3,e3,i1,i2,i3,i4,i5,rfl,hr.lower hW.size,hW.trans (hB.mono hW.size)⟩
 have BB:Hid (∀W',Below w.heap.size w W'->W'.cell? ⟨t,0,none⟩=some (.slice a1 n1 c1)/\W'.cell? ⟨t,1,none⟩=some (.slice a2 n2 c2)/\W'.cell? ⟨t,2,none⟩=some (.slice a3 n3 c3)/\W'.cell? ⟨g,1,none⟩=some (.string a)):=λW' hW'=>by
  obtain⟨⟨q0,q1,q2⟩,-⟩:=kS (pB hh hW');exact⟨q0,q1,q2,(hW'.cell (p:=⟨g,1,none⟩) hg).trans g1⟩
 have HH:=aA hh;have H0:=aA h0.size;have G1:=aA g1;clear hM hE hS' hD hR hT hp hp0 h0 hh ho has HD1 HD2;cases k;all_goals
  simp only[GU]at g0;simp only[VO,GT]at PB;go_enter Tryz.func35,Tryz.ntmps35;go_wp2_with fail;have FIN:Hid (∀w3 w4(x1 x2 x3:Option Addr)(k1 e1 k2 e2 k3 e3:Nat)(i1 i2 i3 i4 i5:Int),Below w.heap.size w w3->kK w3 w.heap.size (.agg #[.slice x1 k1 e1,.slice x2 k2 e2,.slice x3 k3 e3,.int .i64 i1,.int .i64 i2,.int .i64 i3,.int .i64 i4,.int .i64 i5]) E S'->qE w3.heap.size t w3 w4->w4.heap[t]?=some (.cells #[.slice a1 n1 c1,.slice a2 n2 c2,.slice a3 n3 c3,.slice x1 k1 e1,.slice x2 k2 e2,.slice x3 k3 e3,.int .i64 i1,.int .i64 i2,.int .i64 i3,.int .i64 i4,.int .i64 i5] 43 (0,0))->E=0->qE w.heap.size t w w4/\zO a1 a2 a3 n1 c1 n2 c2 n3 c3 w4 W0.heap.size t S'):=λw3 w4 x1 x2 x3 k1 e1 k2 e2 k3 e3 i1 i2 i3 i4 i5 hW hr hk b4 he=>by
   subst he;exact⟨(qE.kB hW (eA _)).trans ⟨hk.os,hk.tape,hk.output,hk.size,λk h1 h2=>hk.block k (by have:=hW.size;omega) h2⟩,FW hr (pB HH.out hW) hk b4 H0.out⟩
  refine zB (S:=λW'=>W'.cell? ⟨t,0,none⟩=some (.slice a1 n1 c1)/\W'.cell? ⟨t,1,none⟩=some (.slice a2 n2 c2)/\W'.cell? ⟨t,2,none⟩=some (.slice a3 n3 c3)/\W'.cell? ⟨g,1,none⟩=some (.string a)) (by kernel_rfl) (BB.out _ (dA _ _).drew) (λhHeld=>?_);refine tk 0 ?_;refine tk 1 ?_;refine tk 2 ?_;refine tk 3 ?_;refine tk 4 ?_;refine tk 5 ?_;refine tk 6 ?_;refine tk 7 ?_;refine tk 9 ?_;refine tk 10 ?_;refine tk 11 ?_;refine vF (rs:=[8,12]) (by kernel_rfl) (by simp) (fD rfl (λK hK=>?_) (fD rfl (λK hK=>?_) lF))
  ·obtain⟨-,q3,q4,q5,q6,q7,q8,q9,q10⟩:=kS HH.out;go_simp;refine hK.out _ _ (BB.out _ (dA _ _).drew) (λhHeld=>?_);clear hK K q3 q4 q5 q6 q7 q8 q9 q10;refine hG ?_;refine pG 12 (λK hK=>?_);go_simp;refine(NB.out _ (dA _ _).drew).mono ?_;rintro e w2⟨⟨hd,rfl⟩|⟨⟨rfl,rfl,rfl⟩,rfl⟩,k2⟩;·exact⟨rfl,qE.kB k2 (eA _),.inl ⟨by rw[hd];decide,rfl,HCB.out.sA k2⟩⟩
   refine hK.out _ _ (BB.out _ k2) (λhHeld=>?_);clear hK K;refine hG ?_;refine pG 13 (λK hK=>?_);go_simp;refine(PB.out _ k2).mono ?_;rintro e w3⟨x1,x2,x3,k1,e1,k2,e2,k3,e3,i1,i2,i3,i4,i5,rfl,hres,l3⟩;refine hK.out _ _ (BB.out _ l3) (λhHeld=>?_);clear hK K;refine hG ?_;refine tk 14 ?_;refine tk 15 ?_;refine pG 16 (λK hK=>?_);go_simp;refine(CY t _ _ _ _ _ _ _ _ _ _ _ x1 x2 x3 k1 e1 k2 e2 k3 e3 i1 i2 i3 i4 i5 _ _ (pB HH.out l3)).mono ?_;rintro e w4 hk4;rcases hk4 with⟨he,rfl,k4⟩|⟨he,rfl,k4,b4⟩;·have K4:=l3.trans (k4.mono l3.size);exact⟨rfl,qE.kB K4 (eA _),.inl ⟨he,rfl,HCB.out.sA K4⟩⟩
   ·obtain⟨F4,CB⟩:=FIN.out _ _ _ _ _ _ _ _ _ _ _ _ _ _ _ _ l3 hres k4 b4 he;obtain⟨⟨q0,q1,q2⟩,-⟩:=kS b4;have gc:w4.cell? ⟨g,1,none⟩=some (.string a):=by
     have h:=G1.out;unfold World.cell? at h⊢;simp only[F4.block g hg hgt]at h⊢;exact h
    refine hK.out _ _ ⟨q0,q1,q2,gc⟩ (λhHeld=>?_);refine gC (by kernel_rfl) ?_ _;have RES:=aA (And.intro F4 CB);clear hK K F4 CB b4 k4 hres q0 q1 q2 gc hHeld;go_wp2_with fail;go_ret;exact⟨RES.out.1,.inr ⟨by first|exact he|rfl,rfl,RES.out.2⟩⟩
  ·go_simp;refine(NB.out _ (dA _ _).drew).mono ?_;rintro e w2⟨⟨hd,rfl⟩|⟨⟨rfl,rfl,rfl⟩,rfl⟩,k2⟩;·exact⟨rfl,qE.kB k2 (eA _),.inl ⟨by rw[hd];decide,rfl,HCB.out.sA k2⟩⟩
   refine hK.out _ _ (BB.out _ k2) (λhHeld=>?_);clear hK K;refine hG ?_;refine pG 8 (λK hK=>?_);obtain⟨-,q3,q4,q5,q6,q7,q8,q9,q10⟩:=kS (pB HH.out k2);go_simp;refine hK.out _ _ (BB.out _ k2) (λhHeld=>?_);clear hK K q3 q4 q5 q6 q7 q8 q9 q10;refine hG ?_;refine pG 13 (λK hK=>?_);go_simp;refine(PB.out _ k2).mono ?_;rintro e w3⟨x1,x2,x3,k1,e1,k2,e2,k3,e3,i1,i2,i3,i4,i5,rfl,hres,l3⟩;refine hK.out _ _ (BB.out _ l3) (λhHeld=>?_);clear hK K;refine hG ?_;refine tk 14 ?_;refine tk 15 ?_;refine pG 16 (λK hK=>?_);go_simp;refine(CY t _ _ _ _ _ _ _ _ _ _ _ x1 x2 x3 k1 e1 k2 e2 k3 e3 i1 i2 i3 i4 i5 _ _ (pB HH.out l3)).mono ?_;rintro e w4 hk4;rcases hk4 with⟨he,rfl,k4⟩|⟨he,rfl,k4,b4⟩;·have K4:=l3.trans (k4.mono l3.size);exact⟨rfl,qE.kB K4 (eA _),.inl ⟨he,rfl,HCB.out.sA K4⟩⟩
   ·obtain⟨F4,CB⟩:=FIN.out _ _ _ _ _ _ _ _ _ _ _ _ _ _ _ _ l3 hres k4 b4 he;obtain⟨⟨q0,q1,q2⟩,-⟩:=kS b4;have gc:w4.cell? ⟨g,1,none⟩=some (.string a):=by
     have h:=G1.out;unfold World.cell? at h⊢;simp only[F4.block g hg hgt]at h⊢;exact h
    refine hK.out _ _ ⟨q0,q1,q2,gc⟩ (λhHeld=>?_);refine gC (by kernel_rfl) ?_ _;have RES:=aA (And.intro F4 CB);clear hK K F4 CB b4 k4 hres q0 q1 q2 gc hHeld;go_wp2_with fail;go_ret;exact⟨RES.out.1,.inr ⟨by first|exact he|rfl,rfl,RES.out.2⟩⟩
end Go.Proofs.YtedmnjimkhamaaaGreatDoor
