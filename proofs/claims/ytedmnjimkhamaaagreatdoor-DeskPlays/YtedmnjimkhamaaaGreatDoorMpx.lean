import Derived.Test.YtedmnjimkhamaaaGreatDoorMkx
namespace Go.Proofs.YtedmnjimkhamaaaGreatDoor
set_option linter.unusedVariables false
set_option maxRecDepth 100000
set_option maxHeartbeats 4000000
open Go.RowKit Go.Maps
theorem RU(s:yC)(b1 b2 b3:Option Addr)(m1 d1 m2 d2 m3 d3:Nat)(t:Int)(w:World)(hs:gK w b1 b2 b3 m1 m2 m3 s):
 Calls Tryz.prog 83 #[.agg #[.slice b1 m1 d1,.slice b2 m2 d2,.slice b3 m3 d3,.int .i64 s.gA,.int .i64 s.fA,.int .i64 s.nB,.int .i64 s.uA,.int .i64 s.iA],.int .i64 t] w λe w'=>e=.returned (.int .i64 (yE (λo:eF=>decide (o.tag=t)) s.xB))/\Below w.heap.size w w':=by
 obtain⟨W1,hW1,hBw,hs1,hbx⟩:=jZ w #[.slice b1 m1 d1,.slice b2 m2 d2,.slice b3 m3 d3,.int .i64 s.gA,.int .i64 s.fA,.int .i64 s.nB,.int .i64 s.uA,.int .i64 s.iA];have HW1:=aA hW1;have HS:=aA (hs.sA hBw);have HM2:Hid (s.xB.length=m2):=hs.l2;have hx2:=hs.x2;have s0:=hBw.size;obtain⟨y0,y1,y2,y3,y4,y5,y6,y7⟩:=gD (hbx W1 (dA _ _));clear hW1 hbx hs1 hs;go_enter Tryz.func83,Tryz.ntmps83;go_wp2_with fail;rw[<-HW1.out];go_loopw[5](λi wr=>∃(k:Nat),k<=m2/\i=.int .i64 k/\(∀x∈s.xB.take k,decide (x.tag=t)=false)/\wr=W1)(λi _=>m2-(intOf i).toNat);case atStart=>exact⟨0,zA _,rfl,by simp,rfl⟩
 case round=>
  obtain⟨k,hk,rfl,ha,rfl⟩:=hrel;have HA:=aA ha;clear ha;by_cases hlt:k<m2
  ·have HLT:=aA hlt;have hkl:k<s.xB.length:=by rw[HM2.out];exact hlt
   obtain⟨g,o,ha,hg,e1,e2,e3,e4⟩:=HS.out.q2.get hkl;subst ha;have HX:Hid (decide (s.xB[k].tag=t)=true->yE (λo:eF=>decide (o.tag=t)) s.xB=k):=λh=>yX hkl HA.out h;have HT:Hid (decide (s.xB[k].tag=t)=false->∀x∈s.xB.take (k+1),decide (x.tag=t)=false):=λh x hx=>by
    rw[rA hkl,oC,tC]at hx;rcases hx with hx|rfl;·exact HA.out x hx
    ·exact h
   obtain⟨x,hx⟩:∃x,x=s.xB[k]:=⟨_,rfl⟩;rw[<-hx]at e1 HX HT;obtain⟨tk,htk⟩:∃tk,tk=x.tag:=⟨_,rfl⟩;rw[<-htk]at e1 HX HT;have j1:(0:Int)<=(k:Int):=by omega
   have j2:(k:Int)<m2:=by omega
   clear hx htk e2 e3 e4;by_cases htk:tk=t
   ·have hb:(tk==t)=true:=by simpa using htk
    have HXX:=aA (HX.out (eC htk));clear htk;go_wp2_with fail;go_ret;exact⟨tJ HXX.out.symm,hBw⟩
   ·have hb:(tk==t)=false:=by simpa using htk
    have HTT:=aA (HT.out (vD htk));clear htk;go_wp2_with fail;go_roundw;case rel=>exact⟨k+1,HLT.out,by have:=HLT.out;go_num,HTT.out,by first|trivial|rfl⟩
    case measure=>have:=HLT.out;simp[intOf];omega
  ·have HF:Hid (yE (λo:eF=>decide (o.tag=t)) s.xB=-1):=yZ (λx hx=>HA.out x (by rw[iB (by rw[HM2.out];omega)];exact hx));have hke:k=m2:=by omega
   subst hke;clear hlt hk;go_wp2_with fail;go_ret;exact⟨tJ HF.out.symm,hBw⟩
theorem TO{W:World}{base:Nat}{u:Value}{zs:List Int}{n:Nat}(h:W.ownsRow base 3 1 u n (zs.map (Value.int .i64))):∃a c,u=.slice a zs.length c/\zS W a zs:=by
 have hn:n=zs.length:=by have:=h.1;simp at this;omega
 subst hn;by_cases hne:zs=[]
 ·subst hne;rcases h.2 with⟨rfl,_⟩|⟨g,cap,cur,rfl,_,_,_,_,_⟩;·exact⟨none,0,rfl,.inl rfl⟩
  ·exact⟨_,cap,rfl,.inl rfl⟩
 ·obtain⟨g,c,rfl,_,_,_,hr⟩:=LD h hne;exact⟨_,c,rfl,hr.ints⟩
theorem RA{w1 w2:World}{base:Nat}{v:Value}{n:Nat}{xs:List Value}{e:TypeId}{size:Nat}(h:w1.ownsRow base e size v n xs)(hB:Below w1.heap.size w1 w2):w2.ownsRow base e size v n xs:=(aF.kB (λ_=>False) hB).row h (λ_ _=>id)
theorem FQ{W:World}{base g n:Nat}{bs:List Bool}(h:W.ownsRow base 4 1 (.slice (some ⟨g,0,none⟩) n n) n (bs.map Value.bool))(hl:bs.length=n){i:Nat}(hi:i<n):W.cell? ⟨g,i,none⟩=some (.bool (bs.getD i false)):=by
 rw[h.cellAt i (by omega),List.getElem?_map,tA (by omega),tB,tA (by omega)];rfl
theorem T_{W:World}{base g n:Nat}{bs:List Bool}(h:W.ownsRow base 4 1 (.slice (some ⟨g,0,none⟩) n n) n (bs.map Value.bool))(i:Nat):(W.setCell ⟨g,i,none⟩ (.bool true)).ownsRow base 4 1 (.slice (some ⟨g,0,none⟩) n n) n ((bs.set i true).map Value.bool):=by
 have:=(h.stored i (.bool true)).1;rw[List.map_set];exact this
theorem IC{W W':World}{b:Nat}{cs:Array Value}{t:TypeId}(h:W.heap[b]?=some (.cells cs t (0,0)))(hB:Below W.heap.size W W'):W'.heap[b]?=some (.cells cs t (0,0)):=(hB.block b (bE h)).trans h
theorem Q2{W:World}{b g i:Nat}{o:Obj}(h:W.heap[b]?=some o)(hne:b≠g)(u:Value):(W.setCell ⟨g,i,none⟩ u).heap[b]?=some o:=((CG W g i u).block b (bE h) (by omega)).trans h
structure lV(w:World)(pv:Array Value)(n1:Nat)(bs:List Bool)(W:World):Prop where
 len:bs.length=n1
 row:W.ownsRow (w.heap.size+1) 4 1 (.slice (some ⟨w.heap.size+1,0,none⟩) n1 n1) n1 (bs.map Value.bool)
 box:W.heap[w.heap.size]?=some (.cells pv 26 (0,0))
 below:Below w.heap.size w W
theorem lV.sA{w:World}{pv:Array Value}{n1:Nat}{bs:List Bool}{W W':World}(h:lV w pv n1 bs W)(hB:Below W.heap.size W W'):lV w pv n1 bs W':=
 ⟨h.len,RA h.row hB,IC h.box hB,h.below.trans (hB.mono h.below.size)⟩
theorem lV.set{w:World}{pv:Array Value}{n1:Nat}{bs:List Bool}{W:World}(h:lV w pv n1 bs W)(i:Nat):lV w pv n1 (bs.set i true) (W.setCell ⟨w.heap.size+1,i,none⟩ (.bool true)):=
 ⟨by rw[kF];exact h.len,T_ h.row i,Q2 h.box (by omega) _,h.below.setCell (p:=⟨w.heap.size+1,i,none⟩) (Nat.le_succ _) _⟩
theorem lV.start{w w1:World}{pv:Array Value}{n1:Nat}(hgrow:(w.alloc (.cells pv 26)).grownBy w1 none)(hown:w1.ownsRow (w.heap.size+1) 4 1 (.slice (some ⟨(w.alloc (.cells pv 26)).heap.size,0,none⟩) n1 n1) n1 (madeCells (Value.bool false).cells (n1*1)).toList):lV w pv n1 (List.replicate n1 false) w1:=by
 refine⟨by simp,?_,?_,((dA _ _).alloc (eA _) _).grown hgrow (by simp) (λk e=>by cases e)⟩;·rw[JE,pC]at hown;rw[List.map_replicate];exact hown
 ·exact(hgrow.block w.heap.size (by simp) (by simp)).trans (jA w _)
theorem YW(p:lD)(a1 a2 a3:Option Addr)(n1 c1 n2 c2 n3 c3:Nat)(v:Nat)(key:ByteArray)(w:World)(hp:sG w a1 a2 a3 n1 n2 n3 p)(hr:nP p)(hv:v<n1)(hk:key.size<=24):
 Calls Tryz.prog 121 #[.agg #[.slice a1 n1 c1,.slice a2 n2 c2,.slice a3 n3 c3],.int .i64 v,.string key] w λe w'=>∃zs a c,e=.returned (.slice a zs.length c)/\GG p key v zs/\zs.length<=4/\zS w' a zs/\Below w.heap.size w w':=by
 obtain⟨i0,hi,hz0,hz1,hz2⟩:=qF Tryz.info4;obtain⟨i3,hi3,hy0,hy1,hy2⟩:=qF Tryz.infoInt;have HP:=xI hp;have HR:=xI hr;have h4:n1<=4:=by rw[<-hp.l1];exact hr.few.1
 have h10:n3<=10:=by rw[<-hp.l3];exact hr.few.2.2
 have HL3:Hid (p.qC.length=n3):=hp.l3;have HL1:Hid (p.nC.length=n1):=hp.l1;have HKS:=xI hk;have hvi:(v:Int)<n1:=by omega
 have HMS:Hid (rG (zL p key) v ((List.replicate n1 false).set v true) 0 0):=rG.start hv;obtain⟨b0,b1,b2⟩:=GC w (.slice a1 n1 c1) (.slice a2 n2 c2) (.slice a3 n3 c3) 26;clear hp hr hk;go_enter Tryz.func121,Tryz.ntmps121;go_wp2_with(at_make;refine cK _ rfl _ _ 143 rfl (w.heap.size+1) 4 i0 (.bool false) 1 Tryz.underlying143 hi hz0 hz1 _ _ _ _ n1 rfl rfl rfl rfl (by rw[hz2];omega) (by unfold maxLen;omega) (by simp) ?_;intro w1 hown1 hgrow1;have hm1:=lV.start hgrow1 hown1;have hck:w1.cell? ⟨w.heap.size+1,v,none⟩=some (.bool false):=(FQ hm1.row hm1.len hv).trans (by rw[QS]);have hfk:w1.frozen? ⟨w.heap.size+1,v,none⟩=false:=hm1.row.frozenAt v);have HM1:=xI (hm1.set v);clear hm1 hck hfk hown1 hgrow1 b0 b1 b2;have STEP:Hid (∀(bs:List Bool)(r k:Nat)(W:World),lV w #[.slice a1 n1 c1,.slice a2 n2 c2,.slice a3 n3 c3] n1 bs W->k<n3->∃gb o,a3=some ⟨gb,o,none⟩/\gb<W.heap.size/\W.cell? ⟨gb,o+k*4,none⟩=some (.int .i64 (oH p k).src)/\W.cell? ⟨gb,o+k*4+1,none⟩=some (.bool (oH p k).xF)/\W.cell? ⟨gb,o+k*4+2,none⟩=some (.int .i64 (oH p k).dst)/\W.cell? ⟨gb,o+k*4+3,none⟩=some (.string (oH p k).pat)):=by
  intro bs r k W hM hk;have hkl:k<p.qC.length:=by rw[HL3.out];exact hk
  rcases(HP.out.p3.sA hM.below)with h|⟨gb,o,h1,h2,h3⟩;·rw[h]at hkl;simp at hkl
  ·have:=h3 k hkl;rw[<-jX hkl]at this;exact⟨gb,o,h1,h2,this⟩
 go_loopw[8,9,10](λi _ _ wr=>∃(r:Nat)(bs:List Bool),r<=n1/\i=.int .i64 r/\rG (zL p key) v bs r 0/\lV w #[.slice a1 n1 c1,.slice a2 n2 c2,.slice a3 n3 c3] n1 bs wr)(λi _ _ _=>n1-(intOf i).toNat);case atStart=>exact⟨0,_,zA _,rfl,HMS.out,HM1.out⟩
 case round=>
  obtain⟨r,bs,hr,rfl,hmk,hst⟩:=hrel;have e0:=yB hst.box 0;have e1:=yB hst.box 1;have e2:=yB hst.box 2;simp at e0 e1 e2;have HST:=xI hst;have HMK:=xI hmk;clear hst hmk HM1;by_cases hlt:r<n1
  ·have HLT:=xI hlt;go_wp2_with fail;go_loopw[9,10](λi _ wr=>∃(k:Nat)(bs:List Bool),k<=n3/\i=.int .i64 k/\rG (zL p key) v bs r k/\lV w #[.slice a1 n1 c1,.slice a2 n2 c2,.slice a3 n3 c3] n1 bs wr)(λi _ _=>n3-(intOf i).toNat);case atStart=>exact⟨0,bs,zA _,rfl,HMK.out,HST.out⟩
   case round=>
    clear HMK HST e0 e1 e2;obtain⟨k,bs,hk,rfl,hmk,hst⟩:=hrel;have e0:=yB hst.box 0;have e1:=yB hst.box 1;have e2:=yB hst.box 2;simp at e0 e1 e2;have HST:=xI hst;have HMK:=xI hmk;have sw:w.heap.size+1<wr.heap.size:=by
     have:=hst.row.lt (w.heap.size+1) rfl;omega
    have sw0:w.heap.size<wr.heap.size:=by omega
    by_cases hkl:k<n3
    ·have HKL:=xI hkl;obtain⟨gb,o,ha3,hgb,r0,r1,r2,r3⟩:=STEP.out bs r k wr hst hkl;have hbl:k<p.qC.length:=by rw[HL3.out];exact hkl
     have hsr:=HR.out.src _ (qB hbl);rw[<-jX hbl]at hsr;obtain⟨x,hx⟩:=oE hsr.1;have hxl:x<n1:=by rw[<-HL1.out];omega
     have hcx:=FQ hst.row hst.len hxl;rw[hx]at r0;have i1:(0:Int)<=(k:Int):=by omega
     have i2:(k:Int)<n3:=by omega
     have i3:(0:Int)<=(x:Int):=by omega
     have i4:(x:Int)<n1:=by omega
     obtain⟨tp,htp⟩:∃tp,tp=(oH p k).xF:=⟨_,rfl⟩;obtain⟨y,hy⟩:∃y,y=(oH p k).dst:=⟨_,rfl⟩;obtain⟨pt,hpt⟩:∃pt,pt=(oH p k).pat:=⟨_,rfl⟩;obtain⟨m,hm⟩:∃m,m=bs.getD x false:=⟨_,rfl⟩;rw[<-htp]at r1;rw[<-hy]at r2;rw[<-hpt]at r3;rw[<-hm]at hcx;have HTP:=xI htp;have HX:=xI hx;have HY:=xI hy;have HM:=xI hm;have HWR:Hid (∀u,Below wr.heap.size wr (wr.alloc (.cells u 74))):=λu=>(dA _ _).alloc (eA _) _;subst ha3;clear hst hmk hbl hsr hx htp hy hpt hm hxl;cases tp with
     |false=>
       go_wp2_with fail;go_roundw;case rel=>exact⟨k+1,bs,by have:=HKL.out;omega,by go_num,HMK.out.stay (λu z h=>by have:=(tM HR.out h).2.2.1;rw[<-HTP.out]at this;cases this),HST.out.sA (HWR.out _)⟩
       case measure=>simp[intOf];omega
     |true=>
       cases m with
       |false=>
         go_wp2_with fail;go_roundw
         case rel => exact ⟨k + 1, bs, by have := HKL.out; omega, by go_num, HMK.out.stay (fun u z h => by have h4:=(tM HR.out h).2.2.2.1;have e:u=x:=by have :=HX.out;omega
                                                                                                           rw[e];exact HM.out.symm),HST.out.sA (HWR.out _)⟩
         case measure=>simp[intOf];omega
       |true=>
         obtain⟨W2,hW2⟩:∃W2,W2=wr.alloc (.cells #[.int .i64 x,.bool true,.int .i64 y,.string pt] 74):=⟨_,rfl⟩;have HW2:=xI hW2;have hM2:lV w #[.slice a1 n1 c1,.slice a2 n2 c2,.slice (some ⟨gb,o,none⟩) n3 c3] n1 bs W2:=by rw[hW2];exact HST.out.sA (HWR.out _)
         have hb2:W2.heap[wr.heap.size]?=some (.cells #[.int .i64 x,.bool true,.int .i64 y,.string pt] 74 (0,0)):=by rw[hW2];exact jA wr _
         have HM2:=xI hM2;have HB2:=xI hb2;clear hW2 hM2 hb2;go_wp2_with fail;rw[<-HW2.out];refine(QZ p _ _ _ _ _ _ _ _ _ k key _ (HP.out.sA HM2.out.below) HR.out HKL.out HKS.out).mono ?_;rintro e w3⟨rfl,hB3⟩;have hM3:=HM2.out.sA hB3;have hb3:=IC HB2.out hB3;have x2:=yB hb3 2;simp at x2;have hbl:k<p.qC.length:=by rw[HL3.out];exact HKL.out
         have hds:=GL HR.out k HTP.out.symm;rw[<-HY.out]at hds;obtain⟨d,hd⟩:=oE hds.1;have hdn:d<n1:=by rw[<-HL1.out];omega
         subst hd;have hcd:=FQ hM3.row hM3.len hdn;have hfd:=hM3.row.frozenAt d;have j3:(0:Int)<=(d:Int):=by omega
         have j4:(d:Int)<n1:=by omega
         have HM3:=xI hM3;have HDL:Hid (d<bs.length):=by rw[hM3.len];exact hdn
         obtain⟨ft,hft⟩:∃ft,ft=nI p k key:=⟨_,rfl⟩;rw[<-hft];have HFT:=xI hft;have HARC:Hid (ft=true->zL p key k=some (x,d)):=λh=>by
          show zL p key k=_;unfold zL;rw[qA ⟨hbl,by rw[<-HFT.out];exact h,HTP.out.symm⟩,HX.out,<-HY.out,Int.toNat_natCast,Int.toNat_natCast]
         clear hM3 hb3 hbl hds hdn hft r0 r1 r2 r3 hcx e0 e1 e2 hB3;cases ft with
         |true=>
           go_wp2_with fail;go_roundw;case rel=>exact⟨k+1,bs.set d true,by have:=HKL.out;omega,by go_num,HMK.out.mark (HARC.out (by trivial)) HM.out.symm HDL.out,HM3.out.set d⟩
           case measure=>simp[intOf];omega
         |false=>
           go_wp2_with fail;go_roundw;case rel=>exact⟨k+1,bs,by have:=HKL.out;omega,by go_num,HMK.out.stay (λu z h=>by have:=(tM HR.out h).2.1;rw[<-HFT.out]at this;cases this),HM3.out⟩
           case measure=>simp[intOf];omega
    ·have hke:k=n3:=by omega
     subst hke;clear hkl hk hst hmk;go_wp2_with fail;go_roundw;case rel=>exact⟨r+1,bs,HLT.out,by have:=HLT.out;go_num,HMK.out.next (λm q h=>by have:=kZ m q h;rw[HL3.out]at this;exact this),HST.out⟩
     case measure=>have:=HLT.out;simp[intOf];omega
  ·have hre:r=n1:=by omega
   subst hre;have HPI:Hid (GG p key v (oP (λi=>bs.getD i false) r)):=by
    have:=NH HR.out (by rw[HL1.out];exact hv) HMK.out (by rw[HL1.out];exact eA _);rw[HL1.out]at this;exact this
   obtain⟨f,hf⟩:∃f:Nat->Bool,f=λi=>bs.getD i false:=⟨_,rfl⟩;obtain⟨w5,h5⟩:∃w5,w5=wr:=⟨_,rfl⟩;subst h5;have HF:Hid (∀i,f i=bs.getD i false):=λi=>by rw[hf]
   rw[<-hf]at HPI;have s5:=HST.out.below.size;clear hlt hr hf HMK;go_wp2_with fail;go_loopw[11,12](λu i wr=>∃(k:Nat),k<=r/\i=.int .i64 k/\wr.ownsRow w5.heap.size 3 1 u (oP f k).length ((oP f k).map (Value.int .i64))/\Below w5.heap.size w5 wr)(λ_ i _=>r-(intOf i).toNat);case atStart=>exact⟨0,zA _,rfl,jC _ _ _ _,dA _ _⟩
   case round=>
    obtain⟨k,hk,rfl,hrow,hB⟩:=hrel;have hst:=HST.out.sA hB;by_cases hkl:k<r
    ·have hck:=FQ hst.row hst.len hkl;have i1:(0:Int)<=(k:Int):=by omega
     have i2:(k:Int)<r:=by omega
     have hle:=CZ f k;have sB:=hB.size;rw[<-HF.out]at hck;obtain⟨n,hn⟩:∃n,n=(oP f k).length:=⟨_,rfl⟩;rw[<-hn]at hrow hle;have HN:=xI hn;have HROW:=xI hrow;clear hn hst;cases hfk:f k with
     |true=>
       rw[hfk]at hck;have HFK:=xI hfk;clear hfk;go_wp2_with(at_builtin;refine vE _ rfl _ _ 77 rfl w5.heap.size 3 i3 (.int .i64 0) 1 8 Tryz.underlying77 hi3 hy0 hy1 hy2 rfl (by decide) _ _ _ rfl (hrow.alloc _) ⟨wr.heap.size,0,none⟩ 1 1 [.int .i64 (k:Nat)] rfl rfl (tH _ _ _) (by simp[Value.oneCell']) (by unfold maxLen;omega) (by omega) (by simp;omega) ?_;intro v' w3 hown' hgrow _;have hB3:Below w5.heap.size w5 w3:=(hB.alloc sB _).grown hgrow (by simp;omega) (nS hrow));go_roundw;case rel=>exact⟨k+1,by omega,by go_num,by rw[TU HFK.out,dC,oD,<-HN.out];exact hown',hB3⟩
       case measure=>simp[intOf];omega
     |false=>
       rw[hfk]at hck;have HFK:=xI hfk;clear hfk;go_wp2_with fail;go_roundw;case rel=>exact⟨k+1,by omega,by go_num,by rw[UW HFK.out,<-HN.out];exact HROW.out,hB⟩
       case measure=>simp[intOf];omega
    ·have hke:k=r:=by omega
     subst hke;obtain⟨a,c,rfl,hI⟩:=TO hrow;have HI:=xI hI;have hle:=CZ f k;clear hrow hkl hI hst;go_wp2_with fail;go_ret;exact⟨oP f k,a,c,rfl,HPI.out,by omega,HI.out,HST.out.below.trans (hB.mono s5)⟩
theorem T5(zs:List Int)(a:Option Addr)(n c:Nat)(z:Int)(w:World)(hn:zs.length=n)(hm:n<=1000)(h:zS w a zs):
 Calls Tryz.prog 122 #[.slice a n c,.int .i64 z] w λe w'=>e=.returned (.bool (decide (z∈zs)))/\Below w.heap.size w w':=by
 have HN:=xI hn;have H:=xI h;clear hn h;go_enter Tryz.func122,Tryz.ntmps122;go_wp2_with fail;go_loopw[5](λi wr=>∃(k:Nat),k<=n/\i=.int .i64 k/\(z∉zs.take k)/\Below w.heap.size w wr)(λi _=>n-(intOf i).toNat);case atStart=>exact⟨0,zA _,rfl,by simp,dA _ _⟩
 case round=>
  obtain⟨k,hk,rfl,hno,hB⟩:=hrel;have HNO:=xI hno;clear hno;by_cases hlt:k<n
  ·have hkl:k<zs.length:=by rw[HN.out];exact hlt
   rcases H.out with h|⟨g,rfl,hg,hx⟩;·rw[h]at hkl;simp at hkl
   have d1:=(hB.cell (p:=⟨g,k,none⟩) hg).trans (hx k hkl);have HKM:Hid (zs[k]∈zs):=qB hkl;have HTK:Hid (zs.take (k+1)=zs.take k++[zs[k]]):=rA hkl;obtain⟨y,hy⟩:∃y,y=zs[k]:=⟨_,rfl⟩;rw[<-hy]at d1 HKM HTK;have j1:(0:Int)<=(k:Int):=by omega
   have j2:(k:Int)<n:=by omega
   clear hx hy;by_cases hyz:y=z
   ·subst hyz;go_wp2_with fail;go_ret;exact⟨eL (by rw[eC HKM.out]),hB⟩
   ·have hyz':(y==z)=false:=by simpa using hyz
    have HYZ:=xI hyz;clear hyz;go_wp2_with fail;go_roundw;case rel=>exact⟨k+1,by omega,by go_num,by rw[HTK.out,oC,tC];exact λh=>h.elim HNO.out (λe=>HYZ.out e.symm),hB⟩
    case measure=>simp[intOf];omega
  ·have hke:k=n:=by omega
   subst hke;clear hlt hk;go_wp2_with fail;go_ret;exact⟨eL (by rw[vD];have:=HNO.out;rw[<-HN.out,tP]at this;exact this),hB⟩
theorem NI(p:lD)(a1 a2 a3:Option Addr)(n1 c1 n2 c2 n3 c3:Nat)(v:Nat)(key:ByteArray)(w:World)(hp:sG w a1 a2 a3 n1 n2 n3 p)(hr:nP p)(hv:v<n1)(hk:key.size<=24):
 Calls Tryz.prog 78 #[.agg #[.slice a1 n1 c1,.slice a2 n2 c2,.slice a3 n3 c3],.int .i64 v,.string key] w λe w'=>∃zs a c,e=.returned (.slice a zs.length c)/\dX p key v zs/\zs.length<=4/\zS w' a zs/\Below w.heap.size w w':=by
 obtain⟨i3,hi3,hy0,hy1,hy2⟩:=qF Tryz.infoInt;obtain⟨W1,hW1,hBw,hs1,hbx⟩:=AC w (.slice a1 n1 c1) (.slice a2 n2 c2) (.slice a3 n3 c3) 26;have HW1:=xI hW1;have HP1:Hid (sG W1 a1 a2 a3 n1 n2 n3 p):=hp.sA hBw;have BX:=xI hbx;have HR:=xI hr;have h4:n2<=4:=by rw[<-hp.l2];exact hr.few.2.1
 have h10:n3<=10:=by rw[<-hp.l3];exact hr.few.2.2
 have HL3:Hid (p.qC.length=n3):=hp.l3;have HL2:Hid (p.jB.length=n2):=hp.l2;have HKS:=xI hk;have HVI:=xI hv;have s0:=hBw.size;have hs1':w.heap.size<W1.heap.size:=by omega
 clear hp hr hk hW1 hbx hs1 hv;go_enter Tryz.func78,Tryz.ntmps78;go_wp2_with fail;rw[<-HW1.out];refine(YW p _ _ _ _ _ _ _ _ _ v key _ HP1.out HR.out HVI.out HKS.out).mono ?_;rintro e w5⟨ps,ap,cp,rfl,hps,hp4,hpi,hB5⟩;have HPS:=xI hps;have HPI:=xI hpi;have HP4:=xI hp4;obtain⟨F,hF⟩:∃F:Nat->Bool,F=λq:Nat=>nW p key ps (q:Int) p.qC.length:=⟨_,rfl⟩;have HF:Hid (∀q,F q=nW p key ps (q:Int) n3):=λq=>by rw[hF,HL3.out]
 have HQ:Hid (dX p key v (oP F n2)):=by
  have:=OC HR.out HPS.out;rw[<-hF,HL2.out]at this;exact this
 obtain⟨mp,hmp⟩:∃mp,mp=ps.length:=⟨_,rfl⟩;rw[<-hmp];have HMP:=xI hmp;have s5:=hB5.size;have HB5:=xI hB5;have KEEP:Hid (∀W,Below w5.heap.size w5 W->Below W1.heap.size W1 W):=λW hW=>hB5.trans (hW.mono s5);clear hps hpi hp4 hF hmp hB5;go_wp2_with fail;go_loopw[8,9,10,11,12](λu i _ _ _ wr=>∃(q:Nat),q<=n2/\i=.int .i64 q/\wr.ownsRow w5.heap.size 3 1 u (oP F q).length ((oP F q).map (Value.int .i64))/\Below w5.heap.size w5 wr)(λ_ i _ _ _ _=>n2-(intOf i).toNat);case atStart=>exact⟨0,zA _,rfl,jC _ _ _ _,dA _ _⟩
 case round=>
  obtain⟨q,hq,rfl,hrow,hB⟩:=hrel;obtain⟨d0,d1,d2⟩:=BX.out wr (KEEP.out _ hB);have sB:=hB.size;by_cases hql:q<n2
  ·have HQL:=xI hql;have hle:=CZ F q;obtain⟨n,hn⟩:∃n,n=(oP F q).length:=⟨_,rfl⟩;rw[<-hn]at hrow hle;have HN:=xI hn;have HROW:=xI hrow;obtain⟨w6,h6⟩:∃w6,w6=wr:=⟨_,rfl⟩;subst h6;have HB:=xI hB;clear hn hrow hB;go_wp2_with fail;go_loopw[10,11,12](λc i _ wr=>∃(k:Nat),k<=n3/\i=.int .i64 k/\c=.bool (nW p key ps (q:Int) k)/\Below w6.heap.size w6 wr)(λ_ i _ _=>n3-(intOf i).toNat);case atStart=>exact⟨0,zA _,rfl,rfl,dA _ _⟩
   case round=>
    obtain⟨k,hk,rfl,rfl,hBk⟩:=hrel;have hBK:Below w5.heap.size w5 wr:=HB.out.trans (hBk.mono sB);clear d0 d1 d2;obtain⟨d0,d1,d2⟩:=BX.out wr (KEEP.out _ hBK);have hW1r:=(KEEP.out _ hBK).size;have sk:w.heap.size<wr.heap.size:=by omega
    have sBk:=hBk.size;by_cases hkl:k<n3
    ·have HKL:=xI hkl;have hbl:k<p.qC.length:=by rw[HL3.out];exact hkl
     rcases(HP1.out.p3.sA (KEEP.out _ hBK))with h|⟨gb,o,ha3,hgb,hbc⟩;·rw[h]at hbl;simp at hbl
     obtain⟨r0,r1,r2,r3⟩:=hbc k hbl;rw[<-jX hbl]at r0 r1 r2 r3;have i1:(0:Int)<=(k:Int):=by omega
     have i2:(k:Int)<n3:=by omega
     have HGS:=xI (ZL (p:=p) (key:=key) (ps:=ps) (q:=(q:Int)) (k:=k));obtain⟨x,hx⟩:∃x,x=(oH p k).src:=⟨_,rfl⟩;obtain⟨tp,htp⟩:∃tp,tp=(oH p k).xF:=⟨_,rfl⟩;obtain⟨y,hy⟩:∃y,y=(oH p k).dst:=⟨_,rfl⟩;obtain⟨pt,hpt⟩:∃pt,pt=(oH p k).pat:=⟨_,rfl⟩;obtain⟨ft,hft⟩:∃ft,ft=nI p k key:=⟨_,rfl⟩;obtain⟨pi,hpi⟩:∃pi,pi=decide (x∈ps):=⟨_,rfl⟩;obtain⟨cm,hcm⟩:∃cm,cm=nW p key ps (q:Int) k:=⟨_,rfl⟩;rw[<-htp,<-hy,<-hft,<-hcm,<-hx,<-hpi]at HGS;rw[<-hx]at r0;rw[<-htp]at r1;rw[<-hy]at r2;rw[<-hpt]at r3;rw[<-hcm];have HFT:=xI hft;have HPIN:=xI hpi;obtain⟨W2,hW2⟩:∃W2,W2=wr.alloc (.cells #[.int .i64 x,.bool tp,.int .i64 y,.string pt] 74):=⟨_,rfl⟩;have HW2:=xI hW2;have hB2:Below wr.heap.size wr W2:=by rw[hW2];exact(dA _ _).alloc (eA _) _
     have hb2:W2.heap[wr.heap.size]?=some (.cells #[.int .i64 x,.bool tp,.int .i64 y,.string pt] 74 (0,0)):=by rw[hW2];exact jA wr _
     have HB2:=xI (And.intro hB2 hb2);have HBK:=xI hBK;have HBk:=xI hBk;subst ha3;clear hx htp hy hpt hft hpi hcm hbl hbc hW2 hB2 hb2 hBK hBk;cases cm with
     |true=>
       go_wp2_with fail;rw[<-HW2.out];go_roundw;case rel=>exact⟨k+1,by have:=HKL.out;omega,by go_num,by rw[HGS.out];rfl,HBk.out.trans (HB2.out.1.mono sBk)⟩
       case measure=>simp[intOf];omega
     |false=>
       cases tp with
       |true=>
         go_wp2_with fail;rw[<-HW2.out];go_roundw;case rel=>exact⟨k+1,by have:=HKL.out;omega,by go_num,by rw[HGS.out];rfl,HBk.out.trans (HB2.out.1.mono sBk)⟩
         case measure=>simp[intOf];omega
       |false=>
         by_cases hyq:y=(q:Int)
         ·have hyq1:(y==(q:Int))=true:=by simpa using hyq
          have HYQ:Hid (decide (y=(q:Int))=true):=eC hyq;clear hyq;rw[HYQ.out]at HGS;go_wp2_with fail;rw[<-HW2.out];refine(T5 ps _ _ _ _ _ HMP.out.symm (by have:=HP4.out;rw[HMP.out];omega) ((HPI.out.sA HBK.out).sA HB2.out.1)).mono ?_;rintro e w3⟨rfl,hB3⟩;rw[<-HPIN.out];have hb3:=IC HB2.out.2 hB3;have hB23:=HB2.out.1.trans (hB3.mono HB2.out.1.size);have hBK3:=HBK.out.trans (hB23.mono HBK.out.size);have hBk3:=HBk.out.trans (hB23.mono sBk);clear d0 d1 d2;obtain⟨d0,d1,d2⟩:=BX.out w3 (KEEP.out _ hBK3);have HK3:=xI (And.intro hBK3 hBk3);clear hb3 hB23 hBK3 hBk3 hB3;cases pi with
          |false=>
            go_wp2_with fail;go_roundw;case rel=>exact⟨k+1,by have:=HKL.out;omega,by go_num,by rw[HGS.out];rfl,HK3.out.2⟩
            case measure=>simp[intOf];omega
          |true=>
            go_wp2_with fail;refine(QZ p _ _ _ _ _ _ _ _ _ k key _ (HP1.out.sA (KEEP.out _ HK3.out.1)) HR.out HKL.out HKS.out).mono ?_;rintro e w4⟨rfl,hB4⟩;rw[<-HFT.out];have HK4:=xI (HK3.out.2.trans (hB4.mono HK3.out.2.size));go_wp2_with fail;go_roundw;case rel=>exact⟨k+1,by have:=HKL.out;omega,by go_num,by rw[HGS.out];simp,HK4.out⟩
            case measure=>simp[intOf];omega
         ·have hyq1:(y==(q:Int))=false:=by simpa using hyq
          have HYQ:Hid (decide (y=(q:Int))=false):=vD hyq;clear hyq;rw[HYQ.out]at HGS;go_wp2_with fail;rw[<-HW2.out];go_roundw;case rel=>exact⟨k+1,by have:=HKL.out;omega,by go_num,by rw[HGS.out];rfl,HBk.out.trans (HB2.out.1.mono sBk)⟩
          case measure=>simp[intOf];omega
    ·have hke:k=n3:=by omega
     subst hke;have HBK:=xI hBK;have hrow:=RA HROW.out hBk;rw[<-HF.out];clear hkl hk;cases hfq:F q with
     |true=>
       have HFQ:=xI hfq;clear hfq;go_wp2_with(at_builtin;refine vE _ rfl _ _ 77 rfl w5.heap.size 3 i3 (.int .i64 0) 1 8 Tryz.underlying77 hi3 hy0 hy1 hy2 rfl (by decide) _ _ _ rfl (hrow.alloc _) ⟨wr.heap.size,0,none⟩ 1 1 [.int .i64 (q:Nat)] rfl rfl (tH _ _ _) (by simp[Value.oneCell']) (by unfold maxLen;omega) (by omega) (by simp;omega) ?_;intro v' w3 hown' hgrow _;have hB3:Below w5.heap.size w5 w3:=(HBK.out.alloc HBK.out.size _).grown hgrow (by simp;omega) (nS hrow));go_roundw;case rel=>exact⟨q+1,HQL.out,by have:=HQL.out;go_num,by rw[TU HFQ.out,dC,oD,<-HN.out];exact hown',hB3⟩
       case measure=>have:=HQL.out;simp[intOf];omega
     |false=>
       have HFQ:=xI hfq;have HROW2:=xI hrow;clear hfq hrow;go_wp2_with fail;go_roundw;case rel=>exact⟨q+1,HQL.out,by have:=HQL.out;go_num,by rw[UW HFQ.out,<-HN.out];exact HROW2.out,HBK.out⟩
       case measure=>have:=HQL.out;simp[intOf];omega
  ·have hqe:q=n2:=by omega
   subst hqe;obtain⟨a,c,rfl,hI⟩:=TO hrow;have HI:=xI hI;have hle:=CZ F q;clear hrow hql hI;go_wp2_with fail;go_ret;exact⟨oP F q,a,c,rfl,HQ.out,by omega,HI.out,hBw.trans ((KEEP.out _ hB).mono s0)⟩
theorem JN{L E:TypeId}{size bytes:Nat}(hE:cW L E size bytes){w:World}{ops:Array Oper}{o:Oper}{act:Act}{K:Act->World->Prop}{Q:Exit->Act->World->Prop}{F:Prop}(hw:Region.wanted o (yielded ops act.tmps)=true)(s x:Operand)
 (ho:o.op=.call {callee:=.builtin .append,args:=#[s,x],argTypes:=#[L,L]})
 (base:Nat)(v:Value)(n:Nat)(cs:List Value)(hs:act.eval s=v)(hown:w.ownsRow base E size v n cs)
 (a:Option Addr)(m c:Nat)(ds:List Value)(hx:act.eval x=.slice a m c)(hm:ds.length=m*size)(hz:a=none->c=0/\m=0)(hT:jK w a ds)(h1:∀u∈ds,u.oneCell'=true)
 (hb:n+m<=maxLen)(hby:(n+m)*bytes<=140737488355328)(hbase:base<=w.heap.size)
 (h:∀v' w',w'.ownsRow base E size v' (n+m) (cs++ds)->w.grownBy w' v.ownBlock->(v'.ownBlock=v.ownBlock\/v'.ownBlock=some w.heap.size)->K (act.put o.dst v') w'):
 if Region.wanted o (yielded ops act.tmps)=true then Oper.wp Tryz.prog o act w K Q else F:=by
 rw[qA hw];exact IE hE s x ho base v n cs hs hown a m c ds hx hm hz hT h1 hb hby hbase h
theorem QP(p:lD)(a1 a2 a3:Option Addr)(n1 c1 n2 c2 n3 c3:Nat)(q:Nat)(x:zD)(w:World)(hp:sG w a1 a2 a3 n1 n2 n3 p)(hc:iF p=0)(hq:q<n2)(hx:nH x=true):
 Calls Tryz.prog 87 #[.agg #[.slice a1 n1 c1,.slice a2 n2 c2,.slice a3 n3 c3],.int .i64 q,x.val] w λe w'=>∃v,e=.returned v/\GM w' w.heap.size v (pI p q x)/\Below w.heap.size w w':=by
 obtain⟨W2,hW2⟩:∃W2,W2=(w.alloc (.cells #[.slice a1 n1 c1,.slice a2 n2 c2,.slice a3 n3 c3] 26)).alloc (.cells #[.int .i64 x.seq,.string x.key,.string x.body,.bool x.again,.int .i64 x.fC] 86):=⟨_,rfl⟩;obtain⟨hz2,hb1,hb2,hB2⟩:=DD w _ _ _ hW2;have HP2:=aA (hp.sA hB2);have HW2:=aA hW2;have HB2:=aA hB2;have HC:=aA hc;have HXX:=aA hx;have HR:=aA (gS hc);have HNL:Hid (q<p.jB.length):=by show q<p.jB.length;rw[hp.l2];exact hq
 have hn1:p.nC.length=n1:=hp.l1;have HN1:=aA hn1;obtain⟨g,o,hga,hgl,e0,e1,e2⟩:=HP2.out.p2.get (k:=q) HNL.out;have hqd:(p.jB[q]'HNL.out)=fL p q:=(iZ HNL.out).symm;rw[hqd]at e0 e1 e2;obtain⟨dd,hdd⟩:∃dd,dd=(fL p q).dead:=⟨_,rfl⟩;rw[<-hdd]at e2;have HDD:=aA hdd;have HZ2:=aA hz2;have X1:=aA hb1;have X2:=aA hb2;subst hga;have j1:(0:Int)<=(q:Int):=by omega
 have j2:(q:Int)<n2:=by omega
 have hd0:-1<=dd:=by rw[hdd];have h1:=HR.out.jB _ (qB HNL.out);rw[hqd]at h1;omega
 obtain⟨z0,z1,z2⟩:=xH hb1;have i0:=yB hb2 0;have i1:=yB hb2 1;have i2:=yB hb2 2;have i3:=yB hb2 3;have i4:=yB hb2 4;simp at i0 i1 i2 i3 i4;clear hW2 hz2 hb1 hb2 hB2 hc hx hp hdd hqd hn1;unfold zD.val;go_enter Tryz.func87,Tryz.ntmps87;go_upto_region 1 with fail;rw[<-HW2.out];by_cases hc1:dd=-1\/2<=x.fC
 ·have HDL:Hid (pI p q x=[]):=by show pI p q x=[];unfold pI;rw[qA (by rw[<-HDD.out];exact hc1)]
  by_cases hc2:dd=-1
  ·subst hc2;go_wp2_with fail;go_ret;exact⟨_,rfl,⟨0,by rw[HDL.out];exact jC _ _ _ _⟩,HB2.out⟩
  ·have hc3:2<=x.fC:=by rcases hc1 with h|h;(exact absurd h hc2);exact h
   have q1:¬dd<0:=by omega
   clear hc1 hc2;go_wp2_with fail;go_ret;exact⟨_,rfl,⟨0,by rw[HDL.out];exact jC _ _ _ _⟩,HB2.out⟩
 ·have hc2:¬dd=-1:=λh=>hc1 (.inl h);have hc3:¬2<=x.fC:=λh=>hc1 (.inr h);obtain⟨r1,r2,r3⟩:=QL HC.out HNL.out HXX.out (by rw[<-HDD.out];exact hc2);rw[<-HDD.out]at r1 r2;have HDL:Hid (pI p q x=gN (eO p x.key dd.toNat) x.key x.body (x.fC+1)):=by show pI p q x=_;unfold pI;rw[kA (by rw[<-HDD.out];exact hc1),HDD.out]
  have hdn:=(sY HXX.out).2.2.2.2;have jd:IntKind.i64.wrap (x.fC+1)=x.fC+1:=by rw[uB];omega
  obtain⟨dn,hdn'⟩:∃dn:Nat,dd=dn:=⟨dd.toNat,by omega⟩;subst hdn';have HRR:Hid (dn<n1):=by have:=HN1.out;show dn<n1;omega
  have hks:x.key.size<=24:=by have:=(BQ (sY HXX.out).2.2.1).1;simpa using this
  have HKS:=aA hks;have q1:¬((dn:Int)<0):=by omega
  clear hc1 hc2 r1 r2 r3 hks;go_wp2_with fail;refine(NI p _ _ _ _ _ _ _ _ _ dn x.key W2 HP2.out HR.out HRR.out HKS.out).mono ?_;rintro e w4⟨zs,az,cz,rfl,hz1,hzl,hzi,k4⟩;have hzq:zs=eO p x.key dn:=hz1.uniq (GR HR.out (by have:=HRR.out;have:=HN1.out;omega));obtain⟨nz,hnz⟩:∃nz,nz=zs.length:=⟨_,rfl⟩;have HNZ:=aA hnz;rw[<-hnz]at hzl⊢;have HZQ:=aA hzq;have HZI:=aA hzi;have K4:=aA k4;have s4:=k4.size;clear hz1 hzq hzi hnz z0 z1 z2 i0 i1 i2 i3 i4 e0 e1 e2 k4;go_wp2_with fail;go_loopw[7,10](λl i wr=>∃(k:Nat),k<=nz/\i=.int .i64 k/\wr.ownsRow w4.heap.size 116 4 l k (iM (gN (zs.take k) x.key x.body (x.fC+1)))/\Below w4.heap.size w4 wr)(λ_ i _=>nz-(intOf i).toNat);case atStart=>exact⟨0,zA _,rfl,jC _ _ _ _,dA _ _⟩
  case round=>
   obtain⟨k,hk,rfl,hown,hB⟩:=hrel;have HO:=aA hown;have HB:=aA hB;have hBs:=hB.size;clear hown;by_cases hlt:k<nz
   ·have HLT:=aA hlt;have hkl:k<zs.length:=by rw[<-HNZ.out];exact hlt
    obtain⟨gz,ha,hgz,hcz⟩:∃gz,az=some ⟨gz,0,none⟩/\gz<w4.heap.size/\w4.cell? ⟨gz,k,none⟩=some (.int .i64 (zs[k]'hkl)):=by
     rcases HZI.out with e|⟨gz,ha,hg,h⟩;·exfalso;rw[e]at hkl;simp at hkl
     ·exact⟨gz,ha,hg,h k hkl⟩
    have HNX:Hid (gN (zs.take (k+1)) x.key x.body (x.fC+1)=gN (zs.take k) x.key x.body (x.fC+1)++[⟨zs[k]'hkl,x.key,x.body,(x.fC+1)⟩]):=by show gN _ _ _ _=_;unfold gN;rw[rA hkl,oD];rfl
    obtain⟨z,hzz⟩:∃z,z=zs[k]'hkl:=⟨_,rfl⟩;rw[<-hzz]at hcz HNX;subst ha;have SS:Hid (∀W',Below w4.heap.size w4 W'->(W'.cell? ⟨gz,k,none⟩=some (.int .i64 z)/\W'.cell? ⟨w.heap.size+1,1,none⟩=some (.string x.key)/\W'.cell? ⟨w.heap.size+1,2,none⟩=some (.string x.body)/\W'.cell? ⟨w.heap.size+1,4,none⟩=some (.int .i64 x.fC))):=λW' h=>by
     have y:=pB (pB X2.out K4.out) h;exact⟨(h.cell (p:=⟨gz,k,none⟩) hgz).trans hcz,yB y 1,yB y 2,yB y 4⟩
    have j5:(0:Int)<=(k:Int):=by omega
    have j6:(k:Int)<nz:=by omega
    clear hzz hcz;go_wp2_with fail;refine zB (S:=λW'=>(W'.cell? ⟨gz,k,none⟩=some (.int .i64 z)/\W'.cell? ⟨w.heap.size+1,1,none⟩=some (.string x.key)/\W'.cell? ⟨w.heap.size+1,2,none⟩=some (.string x.body)/\W'.cell? ⟨w.heap.size+1,4,none⟩=some (.int .i64 x.fC))) (by kernel_rfl) (SS.out _ HB.out.drew) (λhHeld=>?_);refine tk 0 ?_;refine tk 1 ?_;refine tk 2 ?_;refine tk 3 ?_;refine tk 4 ?_;refine tk 5 ?_;refine tk 6 ?_;refine tk 7 ?_;refine tk 8 ?_;refine tk 9 ?_;refine tk 10 ?_;refine tk 11 ?_;refine tk 12 ?_;refine pG 13 (λK hK=>?_);go_simp;have KA:Below w4.heap.size w4 wr.drew:=HB.out.drew;refine hK.out _ _ (SS.out _ (KA.alloc KA.size _)) (λ_=>?_);clear hK K;try refine hG ?_
    obtain⟨Wb,hWb⟩:∃Wb,Wb=(wr.alloc (.cells #[.int .i64 z,.string x.key,.string x.body,.int .i64 (x.fC+1)] 116)).drew:=⟨_,rfl⟩;rw[<-hWb];have kb0:Below wr.heap.size wr Wb:=by rw[hWb];exact((dA _ _).alloc (eA _) _).drew
    have KQ:Below w4.heap.size w4 Wb:=HB.out.trans (kb0.mono HB.out.size);have HRQ:jK Wb (some ⟨wr.heap.size,0,none⟩) (iM [⟨z,x.key,x.body,x.fC+1⟩]):=by rw[hWb];exact GJ (w:=wr) (cs:=[.int .i64 z,.string x.key,.string x.body,.int .i64 (x.fC+1)])
    have HOQ:=uI HO.out kb0;clear hWb;refine pG 14 (λK hK=>?_);refine JN AP (by kernel_rfl) _ _ rfl w4.heap.size _ k (iM (gN (zs.take k) x.key x.body (x.fC+1))) rfl HOQ (some ⟨wr.heap.size,0,none⟩) 1 1 (iM [⟨z,x.key,x.body,x.fC+1⟩]) rfl rfl (λh=>by cases h) HRQ (uZ _) (by unfold maxLen;omega) (by omega) KQ.size ?_;intro vz wz hoz hgz' _;rw[<-AZ]at hoz;have KZ:Below w4.heap.size w4 wz:=KQ.grown hgz' KQ.size (λj hj=>(HOQ.lt j hj).1);refine hK.out _ _ (SS.out _ KZ) (λ_=>?_);clear hK K;try refine hG ?_
    refine tk 15 ?_;refine gC (by kernel_rfl) ?_ _;have HOZ:=aA hoz;have HKZ:=aA KZ;clear hoz hgz' KZ KQ HOQ HRQ;go_wp2_with fail;go_roundw;case rel=>exact⟨k+1,HLT.out,by have:=HLT.out;go_num,by rw[HNX.out];exact HOZ.out,HKZ.out⟩
    case measure=>have:=HLT.out;simp[intOf];omega
   ·have hke:k=nz:=by omega
    obtain rfl:=hke.symm;clear hlt hk;go_wp2_with fail;go_ret;refine⟨_,rfl,⟨nz,?_⟩,HB2.out.trans ((K4.out.trans (HB.out.mono s4)).mono (by have:=HZ2.out;omega))⟩;have h1:=HO.out;rw[iB (by rw[HNZ.out];exact eA _),HZQ.out]at h1;rw[HDL.out];exact xS h1 (by have:=HZ2.out;omega)
end Go.Proofs.YtedmnjimkhamaaaGreatDoor
