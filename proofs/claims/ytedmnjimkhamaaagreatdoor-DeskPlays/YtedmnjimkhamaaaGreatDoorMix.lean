import Derived.Test.YtedmnjimkhamaaaGreatDoorMhx
namespace Go.Proofs.YtedmnjimkhamaaaGreatDoor
set_option linter.unusedVariables false
set_option maxRecDepth 100000
set_option maxHeartbeats 4000000
open Go.RowKit Go.Maps
def fF.cells(a:fF):List Value:=[.int .i64 a.queue,.string a.key,.string a.body,.int .i64 a.fC]
def iM(xs:List fF):List Value:=xs.flatMap fF.cells
def oN(W:World)(a:Option Addr)(xs:List fF):Prop:=jK W a (iM xs)
theorem xV(xs:List fF):(iM xs).length=xs.length*4:=AE (f:=fF.cells) (λ_=>rfl) xs
theorem AZ(xs ys:List fF):iM (xs++ys)=iM xs++iM ys:=by unfold iM;rw[zF]
theorem uZ(xs:List fF):∀u∈iM xs,u.oneCell'=true:=by
 intro u hu;obtain⟨x,_,hx⟩:=sI.1 hu;simp[fF.cells]at hx;rcases hx with rfl|rfl|rfl|rfl<;>rfl
theorem oN.get{W:World}{a:Option Addr}{xs:List fF}(h:oN W a xs){k:Nat}(hk:k<xs.length):∃g o,a=some ⟨g,o,none⟩/\g<W.heap.size/\W.cell? ⟨g,o+k*4,none⟩=some (.int .i64 xs[k].queue)/\W.cell? ⟨g,o+k*4+1,none⟩=some (.string xs[k].key)/\W.cell? ⟨g,o+k*4+2,none⟩=some (.string xs[k].body)/\W.cell? ⟨g,o+k*4+3,none⟩=some (.int .i64 xs[k].fC):=by
 rcases jK.get (k:=4) (f:=fF.cells) (λ_=>rfl) h (by omega)with h|⟨g,o,ha,hg,h⟩;·subst h;simp at hk
 ·exact⟨g,o,ha,hg,h k hk 0 (by omega),h k hk 1 (by omega),h k hk 2 (by omega),h k hk 3 (by omega)⟩
theorem oN.sA{W W':World}{a:Option Addr}{xs:List fF}(h:oN W a xs)(hB:Below W.heap.size W W'):oN W' a xs:=jK.sA h hB
theorem GJ{w:World}{cs:List Value}{T:TypeId}:jK (w.alloc (.cells cs.toArray T)) (some ⟨w.heap.size,0,none⟩) cs:=.inr ⟨_,0,rfl,by simp,λj u hj=>by
 rw[yB (jA w _),uD];simpa using hj⟩
theorem Tryz.infoArr:(Tryz.prog.info? 116).map (λi=>(i.zero,i.size,i.bytes))=some (some (.agg #[.int .i64 0,.string ⟨#[]⟩,.string ⟨#[]⟩,.int .i64 0]),4,48):=by kernel_rfl
theorem AP:cW 113 116 4 48:=AI Tryz.underlying113 Tryz.infoArr rfl (by omega)
theorem IL(zs:List Int)(a:Option Addr)(n c:Nat)(key body:ByteArray)(d:Int)(w:World)(hn:zs.length=n)(hm:n<=1000)(hz:zS w a zs):
 Calls Tryz.prog 131 #[.slice a n c,.string key,.string body,.int .i64 d] w λe w'=>∃v,e=.returned v/\w'.ownsRow w.heap.size 116 4 v n (iM (gN zs key body d))/\Below w.heap.size w w':=by
 have HN:=aA hn;have HZ:=aA hz;clear hn hz;go_enter Tryz.func131,Tryz.ntmps131;go_wp2_with fail;go_loopw[9,14](λl i wr=>∃(k:Nat),k<=n/\i=.int .i64 k/\wr.ownsRow w.heap.size 116 4 l k (iM (gN (zs.take k) key body d))/\Below w.heap.size w wr)(λ_ i _=>n-(intOf i).toNat);case atStart=>exact⟨0,zA _,rfl,jC _ _ _ _,dA _ _⟩
 case round=>
  obtain⟨k,hk,rfl,hown,hB⟩:=hrel;have HO:=aA hown;have HB:=aA hB;have hBs:=hB.size;clear hown;by_cases hlt:k<n
  ·have HLT:=aA hlt;have hkl:k<zs.length:=by rw[HN.out];exact hlt
   obtain⟨g,ha,hg,hc⟩:∃g,a=some ⟨g,0,none⟩/\g<wr.heap.size/\wr.cell? ⟨g,k,none⟩=some (.int .i64 (zs[k]'hkl)):=by
    rcases HZ.out.sA hB with e|⟨g,ha,hg,h⟩;·exfalso;rw[e]at hkl;simp at hkl
    ·exact⟨g,ha,hg,h k hkl⟩
   have HNX:Hid (gN (zs.take (k+1)) key body d=gN (zs.take k) key body d++[⟨zs[k]'hkl,key,body,d⟩]):=by show gN _ _ _ _=_;unfold gN;rw[rA hkl,oD];rfl
   obtain⟨z,hzz⟩:∃z,z=zs[k]'hkl:=⟨_,rfl⟩;rw[<-hzz]at hc HNX;subst ha;obtain⟨W4,hW4⟩:∃W4,W4=wr.alloc (.cells #[.int .i64 z,.string key,.string body,.int .i64 d] 116):=⟨_,rfl⟩;have k4:Below wr.heap.size wr W4:=by rw[hW4];exact(dA _ _).alloc (eA _) _
   have HO4:=aA (uI HO.out k4);have HRW:Hid (jK W4 (some ⟨wr.heap.size,0,none⟩) (iM [⟨z,key,body,d⟩])):=by show jK W4 _ _;rw[hW4];exact GJ (cs:=[.int .i64 z,.string key,.string body,.int .i64 d])
   have K4:=aA (hB.trans (k4.mono hBs));have HW4:=aA hW4;have hs4:=K4.out.size;have j1:(0:Int)<=(k:Int):=by omega
   have j2:(k:Int)<n:=by omega
   clear hW4 k4 hzz;go_wp2_with(at_builtin;rw[<-HW4.out];refine jT AP (by kernel_rfl) _ _ rfl w.heap.size _ k (iM (gN (zs.take k) key body d)) rfl HO4.out (some ⟨wr.heap.size,0,none⟩) 1 1 (iM [⟨z,key,body,d⟩]) rfl rfl (λh=>by cases h) HRW.out (uZ _) (by unfold maxLen;omega) (by omega) hs4 ?_;intro v6 w6 hown6 hgrow6 hblk6);go_roundw;case rel=>exact⟨k+1,HLT.out,by have:=HLT.out;go_num,by rw[HNX.out,AZ];exact hown6,K4.out.grown hgrow6 hs4 (λj hj=>(HO4.out.lt j hj).1)⟩
   case measure=>have:=HLT.out;simp[intOf];omega
  ·have hke:k=n:=by omega
   obtain rfl:=hke.symm;clear hlt hk;go_wp2_with fail;go_ret;refine⟨_,rfl,?_,hB⟩;have:=HO.out;rw[iB (by rw[HN.out];exact eA _)]at this;exact this
theorem mE.field7{W:World}{n t:Nat}{s:yC}(h:mE W n t s)(d:Int):mE (W.setCell ⟨t,7,none⟩ (.int .i64 d)) n t {s with iA:=d}:=by
 obtain⟨b1,b2,b3,m1,d1,m2,d2,m3,d3,hb,ho⟩:=h;exact⟨b1,b2,b3,m1,d1,m2,d2,m3,d3,bG hb (j:=7) _,(ho.bF hb (by decide) (uF W t 7 _)).same rfl rfl rfl⟩
theorem mE.field6{W:World}{n t:Nat}{s:yC}(h:mE W n t s)(d:Int):mE (W.setCell ⟨t,6,none⟩ (.int .i64 d)) n t {s with uA:=d}:=by
 obtain⟨b1,b2,b3,m1,d1,m2,d2,m3,d3,hb,ho⟩:=h;exact⟨b1,b2,b3,m1,d1,m2,d2,m3,d3,bG hb (j:=6) _,(ho.bF hb (by decide) (uF W t 6 _)).same rfl rfl rfl⟩
theorem mE.field5{W:World}{n t:Nat}{s:yC}(h:mE W n t s)(d:Int):mE (W.setCell ⟨t,5,none⟩ (.int .i64 d)) n t {s with nB:=d}:=by
 obtain⟨b1,b2,b3,m1,d1,m2,d2,m3,d3,hb,ho⟩:=h;exact⟨b1,b2,b3,m1,d1,m2,d2,m3,d3,bG hb (j:=5) _,(ho.bF hb (by decide) (uF W t 5 _)).same rfl rfl rfl⟩
theorem mE.field3{W:World}{n t:Nat}{s:yC}(h:mE W n t s)(d:Int):mE (W.setCell ⟨t,3,none⟩ (.int .i64 d)) n t {s with gA:=d}:=by
 obtain⟨b1,b2,b3,m1,d1,m2,d2,m3,d3,hb,ho⟩:=h;exact⟨b1,b2,b3,m1,d1,m2,d2,m3,d3,bG hb (j:=3) _,(ho.bF hb (by decide) (uF W t 3 _)).same rfl rfl rfl⟩
theorem qE.turnB{n t:Nat}{A B C:World}(h:qE n t A B)(k:vJ t B C)(hn:n<=B.heap.size):qE n t A C:=h.trans ⟨k.os,k.tape,k.output,k.size,λi h1 h2=>k.block i (by omega) h2⟩
def GM(W:World)(n:Nat)(v:Value)(l:List fF):Prop:=∃m,W.ownsRow n 116 4 v m (iM l)
theorem QL{p:lD}{q:Nat}{x:zD}(hc:iF p=0)(hq:q<p.jB.length)(hx:nH x=true)(hd:(fL p q).dead≠-1):0<=(fL p q).dead/\(fL p q).dead<p.nC.length/\fO p (fL p q).dead x.key=0:=by
 have hr:=gS hc;have h1:=hr.jB _ (qB hq);rw[<-iZ hq]at h1;refine⟨by omega,h1.2.2.2,?_⟩;unfold fO;rw[qA hc,qA (cP.2 ⟨by omega,h1.2.2.2⟩)];exact(sY hx).2.2.1
theorem SI(p:lD)(a1 a2 a3:Option Addr)(n1 c1 n2 c2 n3 c3:Nat)(s:yC)(q:Nat)(x:zD)(n t:Nat)(w0 w:World)(hp:sG w0 a1 a2 a3 n1 n2 n3 p)(h0:Below w0.heap.size w0 w)(ht:w0.heap.size<=t)(hc:iF p=0)(hq:q<n2)(hx:nH x=true)(hd:0<=s.iA/\s.iA<=100000000)(hbx:mE w n t s):
 Calls Tryz.prog 106 #[.agg #[.slice a1 n1 c1,.slice a2 n2 c2,.slice a3 n3 c3],.pointer (some ⟨t,0,none⟩),.int .i64 q,x.val] w λe w'=>∃v,e=.returned v/\GM w' w.heap.size v (pI p q x)/\mE w' n t {s with iA:=s.iA+1}/\qE w.heap.size t w w':=by
 obtain⟨W2,hW2⟩:∃W2,W2=(w.alloc (.cells #[.slice a1 n1 c1,.slice a2 n2 c2,.slice a3 n3 c3] 26)).alloc (.cells #[.int .i64 x.seq,.string x.key,.string x.body,.bool x.again,.int .i64 x.fC] 86):=⟨_,rfl⟩;obtain⟨hz2,hb1,hb2,hB2⟩:=DD w _ _ _ hW2;have hlt:t<w.heap.size:=by obtain⟨_,_,_,_,_,_,_,_,_,h,_⟩:=hbx;exact bE h
 have hs0:=h0.size;have hbx2:=hbx.sA hB2;obtain⟨W3,hW3⟩:∃W3,W3=W2.setCell ⟨t,7,none⟩ (.int .i64 (s.iA+1)):=⟨_,rfl⟩;have t3:vJ t W2 W3:=by rw[hW3];exact uF _ _ _ _
 have hbx3:mE W3 n t {s with iA:=s.iA+1}:=by rw[hW3];exact hbx2.field7 _
 have k3:Below w0.heap.size w0 W3:=(h0.trans (hB2.mono hs0)).trans (t3.below (by omega) ht);have hp3:=hp.sA k3;have x1:=(t3.block _ (bE hb1) (by omega)).trans hb1;have x2:=(t3.block _ (bE hb2) (by omega)).trans hb2;have HF3:Hid (qE w.heap.size t w W3):=(qE.kB hB2 (eA _)).turnB t3 (by omega);have HZ3:Hid (w.heap.size+2<=W3.heap.size):=by have:=t3.size;show w.heap.size+2<=W3.heap.size;omega
 have HBX3:=aA hbx3;have HP3:=aA hp3;have HW2:=aA hW2;have HW3:=aA hW3;have HC:=aA hc;have HXX:=aA hx;have hnq:p.jB.length=n2:=hp.l2;obtain⟨g,o,hga,hgl,e0,e1,e2⟩:=hp3.p2.get (k:=q) (by rw[hnq];exact hq);have hqd:(p.jB[q]'(by rw[hnq];exact hq))=fL p q:=(iZ (by rw[hnq];exact hq)).symm;rw[hqd]at e0 e1 e2;have HNL:Hid (q<p.jB.length):=by show q<p.jB.length;rw[hnq];exact hq
 obtain⟨dd,hdd⟩:∃dd,dd=(fL p q).dead:=⟨_,rfl⟩;rw[<-hdd]at e2;have HDD:=aA hdd;obtain⟨b1,b2,b3,m1,d1,m2,d2,m3,d3,hb,ho⟩:=hbx2;obtain⟨y0,y1,y2,y3,y4,y5,y6,y7⟩:=gD hb;have f7:=pA hb 7;have jw:IntKind.i64.wrap (s.iA+1)=s.iA+1:=by rw[uB];omega
 have X1:=aA x1;have X2:=aA x2;subst hga;clear hW2 hz2 hb1 hb2 hB2 hc hx hp hdd hb ho hbx hnq hqd hW3 t3 hbx3 k3 hp3 h0;unfold zD.val;go_enter Tryz.func106,Tryz.ntmps106;go_upto_region 1 with fail;rw[<-HW2.out];go_upto_region 2 with fail;rw[<-HW3.out];clear y0 y1 y2 y3 y4 y5 y6 y7 f7 jw;obtain⟨z0,z1,z2⟩:=xH x1;have i0:=yB x2 0;have i1:=yB x2 1;have i2:=yB x2 2;have i3:=yB x2 3;have i4:=yB x2 4;simp at i0 i1 i2 i3 i4;clear x1 x2;have j1:(0:Int)<=(q:Int):=by omega
 have j2:(q:Int)<n2:=by omega
 by_cases hc1:dd=-1\/2<=x.fC
 ·have HDL:Hid (pI p q x=[]):=by show pI p q x=[];unfold pI;rw[qA (by rw[<-HDD.out];exact hc1)]
  by_cases hc2:dd=-1;·subst hc2;go_wp2_with fail;go_ret;exact⟨_,rfl,⟨0,by rw[HDL.out];exact jC _ _ _ _⟩,HBX3.out,HF3.out⟩
  ·have hc3:2<=x.fC:=by rcases hc1 with h|h;(exact absurd h hc2);exact h
   have q1:(dd==-1)=false:=by rw[xD];exact hc2
   clear hc1 hc2;go_wp2_with fail;go_ret;exact⟨_,rfl,⟨0,by rw[HDL.out];exact jC _ _ _ _⟩,HBX3.out,HF3.out⟩
 ·have hc2:¬dd=-1:=λh=>hc1 (.inl h);have hc3:¬2<=x.fC:=λh=>hc1 (.inr h);have q1:(dd==-1)=false:=by rw[xD];exact hc2
  obtain⟨r1,r2,r3⟩:=QL HC.out HNL.out HXX.out (by rw[<-HDD.out];exact hc2);rw[<-HDD.out]at r1 r2 r3;have HR3:=aA r3;have HDL:Hid (pI p q x=gN (eO p x.key dd.toNat) x.key x.body (x.fC+1)):=by show pI p q x=_;unfold pI;rw[kA (by rw[<-HDD.out];exact hc1),HDD.out]
  have HRR:Hid (0<=dd/\dd<p.nC.length):=⟨r1,r2⟩;have hdn:=(sY HXX.out).2.2.2.2;have jd:IntKind.i64.wrap (x.fC+1)=x.fC+1:=by rw[uB];omega
  clear hc1 hc2 r1 r2 r3;go_wp2_with fail;refine(OT p _ _ _ _ _ _ _ _ _ dd x.key W3 HP3.out).mono ?_;rintro e w4⟨zs,az,cz,rfl,hz1,-,hzl,hzi,k4⟩;rw[HR3.out];have hzq:zs=eO p x.key dd.toNat:=(hz1 HR3.out).uniq (GR (gS HC.out) (by have:=HRR.out;omega));obtain⟨nz,hnz⟩:∃nz,nz=zs.length:=⟨_,rfl⟩;have HNZ:=aA hnz;rw[<-hnz]at hzl⊢;have HZQ:=aA hzq;have HZI:=aA hzi;have K4:=aA k4;have s4:=k4.size;have k4':=k4.alloc s4 (.cells #[.int .i64 0] 27);clear hz1 hzq hzi hnz z0 z1 z2 i0 i1 i2 i3 i4 e0 e1 e2;go_wp2_with(go_at_call 69;refine(rS _ _ (rM _ _ _) (by simp)).mono ?_;rintro e w5⟨rfl,hB5⟩;have k5:=k4'.trans (hB5.mono k4'.size);have K5:=aA k5;have x2:=pB X2.out k5;have i1:=yB x2 1;have i2:=yB x2 2;have i4:=yB x2 4;simp at i1 i2 i4;have HZ5:=aA ((HZI.out.sA ((dA _ _).alloc (eA _) (.cells #[.int .i64 0] 27))).sA hB5);clear hB5 x2 k5);refine(IL zs az nz cz x.key x.body (x.fC+1) w5 HNZ.out.symm (by omega) HZ5.out).mono ?_;rintro e w6⟨v6,rfl,hown6,k6⟩;have K6:=aA (K5.out.trans (k6.mono K5.out.size));have HO6:=aA hown6;have hw5:=K5.out.size;clear hown6 k6;go_wp2_with fail;go_ret;exact⟨v6,rfl,⟨nz,by rw[HDL.out,<-HZQ.out];exact xS HO6.out (by have:=HZ3.out;omega)⟩,HBX3.out.sA K6.out,HF3.out.trans (qE.kB K6.out (by have:=HZ3.out;omega))⟩
end Go.Proofs.YtedmnjimkhamaaaGreatDoor
