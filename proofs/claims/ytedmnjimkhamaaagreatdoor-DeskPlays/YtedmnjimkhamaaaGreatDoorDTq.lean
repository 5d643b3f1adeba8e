import Derived.Test.YtedmnjimkhamaaaGreatDoorMqx
namespace Go.Proofs.YtedmnjimkhamaaaGreatDoor
set_option linter.unusedVariables false
set_option maxRecDepth 100000
set_option maxHeartbeats 20000000
open Go.RowKit Go.Maps
theorem tD:type_of%@tk:=@tk
theorem kE:type_of%@sk:=@sk
theorem G5(q:Int)(n:Nat):pJ q (-1) ((n:Int)-1)=(decide (q=-1)||tG q n):=by unfold pJ tG;rw[jF];simp;omega
theorem O3(m:Int):pJ m 1 4=decide (1<=m/\m<=4):=rfl
theorem H_(n:Int):pJ n 0 1048576=eP n:=rfl
theorem PY(q:Int)(n:Nat):pJ q 0 ((n:Int)-1)=tG q n:=LV q n
theorem UK{ts:List kH}{nt l tg tk qu:Int}{it:zD}(h:tg<=l):aQ ts nt l ⟨tg,tk,qu,it⟩=false:=by unfold aQ;dsimp only;rw[show decide (l<tg)=false from vD (by omega)];simp
theorem UP{ts:List kH}{nt l tg tk qu:Int}{it:zD}(h:nt<=tg):aQ ts nt l ⟨tg,tk,qu,it⟩=false:=by unfold aQ;dsimp only;rw[show decide (tg<nt)=false from vD (by omega)];simp
theorem UL{ts:List kH}{nt l tg tk qu:Int}{it:zD}(h:tG tk ts.length=false):aQ ts nt l ⟨tg,tk,qu,it⟩=false:=by unfold aQ;dsimp only;rw[h];simp
theorem UM{ts:List kH}{nt l tg qu:Int}{tn:Nat}{it:zD}{t:kH}(h:ts[tn]?=some t)(h2:t.queue=-1):aQ ts nt l ⟨tg,(tn:Int),qu,it⟩=false:=by unfold aQ;dsimp only;rw[Int.toNat_natCast,h];simp[h2]
theorem UN{ts:List kH}{nt l tg qu:Int}{tn:Nat}{it:zD}{t:kH}(h:ts[tn]?=some t)(h2:t.queue≠qu):aQ ts nt l ⟨tg,(tn:Int),qu,it⟩=false:=by unfold aQ;dsimp only;rw[Int.toNat_natCast,h];simp[h2]
theorem UO{ts:List kH}{nt l tg tk qu:Int}{it:zD}(h:nH it=false):aQ ts nt l ⟨tg,tk,qu,it⟩=false:=by unfold aQ;dsimp only;rw[h];simp
theorem RV{ts:List kH}{nt l tg qu:Int}{tn:Nat}{it:zD}{t:kH}(h1:l<tg)(h7:tg<nt)(h3:tG (tn:Int) ts.length=true)(h:ts[tn]?=some t)(h4:t.queue≠-1)(h5:t.queue=qu)(h6:nH it=true):aQ ts nt l ⟨tg,(tn:Int),qu,it⟩=true:=by
 unfold aQ;dsimp only;rw[Int.toNat_natCast,h,h3,h6,eC h1,eC h7];dsimp only;rw[eC h4,eC h5];rfl
theorem Z0{Z:List Int}{i j:Nat}(hi:i<Z.length)(hj:j<i)(h:Z[j]'(by omega)=Z[i]):Z[i]∈Z.take i:=by
 rw[<-h];exact iO.2 ⟨j,by omega,rfl⟩
theorem Z1{Z:List Int}{i:Nat}(hi:i<Z.length)(h:∀j(hj:j<i),Z[j]'(by omega)≠Z[i]):Z[i]∉Z.take i:=by
 intro hm;obtain⟨j,hj,e⟩:=iO.1 hm;exact h j (by omega) e
theorem BZ{w1 w2:World}{base:Nat}{v:Value}{n:Nat}{xs:List Value}{e:TypeId}{size:Nat}(h:w1.ownsRow base e size v n xs)(hB:Below w1.heap.size w1 w2):w2.ownsRow base e size v n xs:=by
 refine⟨h.1,?_⟩;rcases h.2 with h1|⟨g,cap,cur,rfl,h2,h3,h4⟩;·exact .inl h1
 ·exact .inr ⟨g,cap,cur,rfl,h2,(hB.block g (bE h3)).trans h3,h4⟩
theorem x_(p:lD)(a1 a2 a3:Option Addr)(n1 c1 n2 c2 n3 c3:Nat)(s:yC)(b1 b2 b3:Option Addr)(m1 d1 m2 d2 m3 d3:Nat)(w:World)(hp:sG w a1 a2 a3 n1 n2 n3 p)(hs:gK w b1 b2 b3 m1 m2 m3 s)(hr:nP p)(hm3:m3<=4):
 Calls Tryz.prog 118 #[.agg #[.slice a1 n1 c1,.slice a2 n2 c2,.slice a3 n3 c3],.agg #[.slice b1 m1 d1,.slice b2 m2 d2,.slice b3 m3 d3,.int .i64 s.gA,.int .i64 s.fA,.int .i64 s.nB,.int .i64 s.uA,.int .i64 s.iA]] w λe w'=>e=.returned (.bool (uR p s))/\Below w.heap.size w w':=by
 obtain⟨i3,hi3,hy0,hy1,hy2⟩:=qF Tryz.infoNum;obtain⟨D,hD⟩:∃D:Bool,D=uR p s:=⟨_,rfl⟩;rw[<-hD];have HFO:Hid (D=(yO n2 s.yA&&s.nA.all (sM n2)&&oK s.nA s.fA (-1) s.xB&&lS s&&oS s)):=by show D=_;rw[hD];unfold uR;rw[hp.l2]
 obtain⟨W2,hW2,hBw,hs2,hbx⟩:=mV w #[.slice a1 n1 c1,.slice a2 n2 c2,.slice a3 n3 c3] #[.slice b1 m1 d1,.slice b2 m2 d2,.slice b3 m3 d3,.int .i64 s.gA,.int .i64 s.fA,.int .i64 s.nB,.int .i64 s.uA,.int .i64 s.iA];have HW2:=aA hW2;have BX:=aA hbx;have HS:=aA (hs.sA hBw);have HM1:Hid (s.yA.length=m1):=hs.l1;have HM2:Hid (s.xB.length=m2):=hs.l2;have HM3:Hid (s.nA.length=m3):=hs.l3;have hx1:=hs.x1;have hx2:=hs.x2;have hn4:n2<=4:=by have:=hr.few.2.1;rw[hp.l2]at this;exact this
 unfold maxLen at hx1;have s0:=hBw.size;have hs2':w.heap.size+1<W2.heap.size:=by omega
 obtain⟨x0,x1,x2⟩:=xH (hbx W2 (dA _ _)).1;obtain⟨y0,y1,y2,y3,y4,y5,y6,y7⟩:=gD (hbx W2 (dA _ _)).2;clear hW2 hbx hs2 hp hs hD hr;by_cases hm:m1=n2
 ·have hmb:((m1:Int)!=(n2:Int))=false:=by simp[hm]
  have HME:=aA hm;have hm14:m1<=4:=by omega
  clear hm;go_enter Tryz.func118,Tryz.ntmps118;go_wp2_with fail;rw[<-HW2.out];go_loopw[5,6,7](λu i _ wr=>∃(k:Nat)(L:List Int),k<=m1/\i=.int .i64 k/\wr.ownsRow W2.heap.size 3 1 u L.length (L.map (Value.int .i64))/\L=(s.yA.take k).flatMap (λl=>l.map zD.seq)/\(∀x∈s.yA.take k,tI x=true)/\Below W2.heap.size W2 wr)(λ_ i _ _=>m1-(intOf i).toNat);case atStart=>exact⟨0,[],zA _,rfl,jC _ _ _ _,rfl,by simp,dA _ _⟩
  case round=>
   obtain⟨k,L,hk,rfl,hrow,hL,ha,hB⟩:=hrel;have HA:=aA ha;have HL:=aA hL;have hBs:=hB.size;have hLb:L.length<=4194304:=by
    have h1:=(KP ha).1;rw[<-hL,iD]at h1;have:min k s.yA.length<=4:=by omega
    omega
   clear ha hL x0 x1 x2 y0 y1 y2 y3 y4 y5 y6 y7;obtain⟨y0,y1,y2,y3,y4,y5,y6,y7⟩:=gD (BX.out wr hB).2;by_cases hlt:k<m1
   ·have HLT:=aA hlt;have hkl:k<s.yA.length:=by rw[HM1.out];exact hlt
    obtain⟨g,o,b,c,ha,hg,hl⟩:=HS.out.q1.get hkl;subst ha;have e1:=(hl.sA hg hB).cell;have HLI:=aA hl;have HTK:=aA (λh1 h2=>cU (p:=tI) (xs:=s.yA) (k:=k) hkl h1 h2);have HNOT:=aA (λh2=>mL (p:=tI) (xs:=s.yA) (k:=k) hkl h2);have HFL:Hid ((s.yA.take (k+1)).flatMap (λl=>l.map zD.seq)=L++s.yA[k].map zD.seq):=by
     show(s.yA.take (k+1)).flatMap _=_;rw[rA hkl,zF,<-HL.out];simp
    obtain⟨xs,hxs⟩:∃xs,xs=s.yA[k]:=⟨_,rfl⟩;rw[<-hxs]at HLI e1 HTK HNOT HFL;obtain⟨n,hn⟩:∃n,n=xs.length:=⟨_,rfl⟩;rw[<-hn]at e1;have HN:=aA hn;have HCE:Hid (∀W,Below W2.heap.size W2 W->W.cell? ⟨g,o+k,none⟩=some (.slice b n c)):=λW hW=>by rw[HN.out];exact(HLI.out.sA hg hW).cell
    have j1:(0:Int)<=(k:Int):=by omega
    have j2:(k:Int)<m1:=by omega
    clear hl hxs hn;go_wp2_with fail;refine(YE xs b _ c _ HN.out.symm (vA (by rw[HN.out];exact HLI.out.le) HLI.out.cm) (HLI.out.it.sA hB)).mono ?_;rintro e w4⟨rfl,hB4⟩;have k4:Below W2.heap.size W2 w4:=hB.trans (hB4.mono hBs);have s4:=k4.size;have hrow4:=BZ hrow hB4;obtain⟨ok,hok⟩:∃ok,ok=tI xs:=⟨_,rfl⟩;rw[<-hok];have HOK:=aA hok;clear y0 y1 y2 y3 y4 y5 y6 y7 e1 hok hB4 hrow;obtain⟨y0,y1,y2,y3,y4,y5,y6,y7⟩:=gD (BX.out w4 k4).2;have e1:=HCE.out w4 k4;cases ok with
    |false=>
      have HDF:Hid (D=false):=by show D=false;rw[HFO.out];unfold yO;rw[HNOT.out HOK.out.symm];simp
      go_wp2_with fail;go_ret;exact⟨by rw[HDF.out];rfl,hBw.trans (k4.mono s0)⟩
    |true=>
      have hnb:n<=1048576:=by
       have:=(IP (l:=-1) (xs:=xs) HOK.out.symm (by omega)).1;rw[HN.out];omega
      go_wp2_with fail;go_loopw[5,7](λu i wr=>∃(j:Nat)(M:List Int),j<=n/\i=.int .i64 j/\wr.ownsRow W2.heap.size 3 1 u M.length (M.map (Value.int .i64))/\M=L++(xs.take j).map zD.seq/\Below W2.heap.size W2 wr)(λ_ i _=>n-(intOf i).toNat);case atStart=>exact⟨0,L,zA _,rfl,hrow4,by simp,k4⟩
      case round=>
       clear hrow4 y0 y1 y2 y3 y4 y5 y6 y7 e1;obtain⟨j,M,hj,rfl,hrow,hM,hBj⟩:=hrel;have HMM:=aA hM;have s7:=hBj.size;have hMb:M.length<=5242880:=by rw[hM,dC,dE,iD];omega
       clear hM;obtain⟨y0,y1,y2,y3,y4,y5,y6,y7⟩:=gD (BX.out wr hBj).2;have e1:=HCE.out wr hBj;by_cases hjl:j<n
       ·have HJL:=aA hjl;have hjx:j<xs.length:=by rw[<-HN.out];exact hjl
        rcases HLI.out.it.sA hBj with h|⟨gx,ox,hax,hgx,hxx⟩;·rw[h]at hjx;simp at hjx
        obtain⟨f0,-,-,-,-⟩:=hxx j hjx;have HNX:Hid (L++(xs.take (j+1)).map zD.seq=M++[xs[j].seq]):=by
         show L++_=_;rw[rA hjx,oD,<-gE,<-HMM.out];rfl
        subst hax;obtain⟨sq,hsq⟩:∃sq,sq=xs[j].seq:=⟨_,rfl⟩;rw[<-hsq]at f0 HNX;obtain⟨m,hm⟩:∃m,m=M.length:=⟨_,rfl⟩;rw[<-hm]at hrow hMb;have HM:=aA hm;have i1:(0:Int)<=(j:Int):=by omega
        have i2:(j:Int)<n:=by omega
        clear hxx hm hsq;go_wp2_with(at_builtin;refine vE _ rfl _ _ 77 rfl W2.heap.size 3 i3 (.int .i64 0) 1 8 Tryz.underlying77 hi3 hy0 hy1 hy2 rfl (by decide) _ _ _ rfl (hrow.alloc _) ⟨wr.heap.size,0,none⟩ 1 1 [.int .i64 sq] rfl rfl (FS _ _ _) (by simp[Value.oneCell']) (by unfold maxLen;omega) (by omega) (by simp;omega) ?_;intro v' w9 hown' hgrow _;have hB9:Below W2.heap.size W2 w9:=(hBj.alloc s7 _).grown hgrow (by simp;omega) (nS hrow));go_roundw;case rel=>exact⟨j+1,M++[sq],HJL.out,by have:=HJL.out;go_num,by rw[dC,oD,<-HM.out];exact hown',HNX.out.symm,hB9⟩
        case measure=>have:=HJL.out;simp[intOf];omega
       ·have hje:j=n:=by omega
        subst hje;have HMX:Hid (M=(s.yA.take (k+1)).flatMap (λl=>l.map zD.seq)):=by
         show M=_;rw[HFL.out,HMM.out,iB (by rw[<-HN.out];exact eA _)]
        clear hjl hj;go_wp2_with fail;go_roundw;case rel=>exact⟨k+1,M,HLT.out,by have:=HLT.out;go_num,hrow,HMX.out,HTK.out HA.out HOK.out.symm,hBj⟩
        case measure=>have:=HLT.out;simp[intOf];omega
   ·have hke:k=m1:=by omega
    subst hke;have HLO:Hid (yO n2 s.yA=true):=by
     show yO n2 s.yA=true;unfold yO;rw[nV HM1.out (yL _) HA.out,eC (by rw[HM1.out];exact HME.out)];rfl
    have HL1:Hid (L=s.yA.flatMap (λl=>l.map zD.seq)):=by
     show L=_;rw[HL.out,iB (by rw[HM1.out];exact eA _)]
    have HROW:=aA hrow;clear hlt hk HA HL;obtain⟨wq,hwq⟩:∃wq,wq=wr:=⟨_,rfl⟩;subst hwq;have kq:=hB;have sq:=hBs;have KQ:Hid (∀W,Below wq.heap.size wq W->Below W2.heap.size W2 W):=λW hW=>kq.trans (hW.mono sq);have hwn:IntKind.i64.wrap ((n2:Int)-1)=(n2:Int)-1:=by rw[uB];omega
    clear hB hBs hrow;go_wp2_with fail;go_loopw[8](λi wr=>∃(j:Nat),j<=m3/\i=.int .i64 j/\(∀x∈s.nA.take j,sM n2 x=true)/\Below wq.heap.size wq wr)(λi _=>m3-(intOf i).toNat);case atStart=>exact⟨0,zA _,rfl,by simp,dA _ _⟩
    case round=>
     clear y0 y1 y2 y3 y4 y5 y6 y7;obtain⟨j,hj,rfl,ha,hB⟩:=hrel;have HA:=aA ha;have kj:=KQ.out _ hB;clear ha;obtain⟨y0,y1,y2,y3,y4,y5,y6,y7⟩:=gD (BX.out wr kj).2;by_cases hjl:j<m3
     ·have HJL:=aA hjl;have hkl:j<s.nA.length:=by rw[HM3.out];exact hjl
      obtain⟨g,o,ha,hg,e1,e2⟩:=HS.out.q3.get hkl;subst ha;have HTK:=aA (λh1 h2=>cU (p:=sM n2) (xs:=s.nA) (k:=j) hkl h1 h2);have HNOT:=aA (λh2=>mL (p:=sM n2) (xs:=s.nA) (k:=j) hkl h2);obtain⟨x,hx⟩:∃x,x=s.nA[j]:=⟨_,rfl⟩;rw[<-hx]at HTK HNOT e1 e2;obtain⟨tq,tm⟩:=x;dsimp only at e1 e2;have HE:=aA (And.intro e1 e2);have j1:(0:Int)<=(j:Int):=by omega
      have j2:(j:Int)<m3:=by omega
      have SS:Hid (∀W,Below wq.heap.size wq W->W.cell? ⟨w.heap.size+1,2,none⟩=some (.slice (some ⟨g,o,none⟩) m3 d3)/\W.cell? ⟨w.heap.size,1,none⟩=some (.slice a2 n2 c2)/\W.cell? ⟨g,o+j*2,none⟩=some (.int .i64 tq)/\W.cell? ⟨g,o+j*2+1,none⟩=some (.int .i64 tm)):=λW hW=>by
       have x:=gD (BX.out W (KQ.out _ hW)).2;have y:=xH (BX.out W (KQ.out _ hW)).1;exact⟨x.2.2.1,y.2.1,((KQ.out _ hW).cell (p:=⟨g,_,none⟩) hg).trans HE.out.1,((KQ.out _ hW).cell (p:=⟨g,_,none⟩) hg).trans HE.out.2⟩
      clear hx e1 e2;go_wp2_with fail;refine zB (S:=λW=>W.cell? ⟨w.heap.size+1,2,none⟩=some (.slice (some ⟨g,o,none⟩) m3 d3)/\W.cell? ⟨w.heap.size,1,none⟩=some (.slice a2 n2 c2)/\W.cell? ⟨g,o+j*2,none⟩=some (.int .i64 tq)/\W.cell? ⟨g,o+j*2+1,none⟩=some (.int .i64 tm)) (by kernel_rfl) (SS.out _ hB.drew) (λhHeld=>?_);obtain⟨v0,hv0⟩:∃v0,v0=wr.drew:=⟨_,rfl⟩;have k0:Below wq.heap.size wq v0:=by rw[hv0];exact hB.drew
      rw[<-hv0]at hHeld⊢;clear hv0 y0 y1 y2 y3 y4 y5 y6 y7;refine tD 0 ?_;refine tD 1 ?_;refine tD 2 ?_;refine tD 3 ?_;refine tD 4 ?_;refine tD 5 ?_;refine tD 6 ?_;refine tD 7 ?_;refine tD 8 ?_;refine tD 9 ?_;refine pG 10 (λK hK=>?_);go_simp;refine(wP _ _ _ _).mono ?_;rintro e v1⟨rfl,hv1⟩;subst hv1;rw[G5];obtain⟨c1,hc1⟩:∃c1,c1=(decide (tq=-1)||tG tq n2):=⟨_,rfl⟩;rw[<-hc1];have HC1:=aA hc1;refine hK.out _ _ (SS.out _ k0) (λhH1=>?_);clear hK K hc1;try refine hG ?_
      cases c1 with
      |false=>
        refine tD 11 ?_;refine tD 12 ?_;refine kE 13 ?_;refine kE 14 ?_;refine kE 15 ?_;refine kE 16 ?_;refine kE 17 ?_;refine kE 18 ?_;refine kE 19 ?_;refine kE 20 ?_;refine tD 21 ?_;refine gC (by kernel_rfl) ?_ _;have HDF:Hid (D=false):=by show D=false;rw[HFO.out,HNOT.out (by unfold sM;dsimp only;rw[<-HC1.out];rfl)];simp
        go_wp2_with fail;go_ret;exact⟨by rw[HDF.out];rfl,hBw.trans ((KQ.out _ k0).mono s0)⟩
      |true=>
        refine tD 11 ?_;refine tD 12 ?_;refine tD 13 ?_;refine tD 14 ?_;refine tD 15 ?_;refine tD 16 ?_;refine tD 17 ?_;refine tD 18 ?_;refine pG 19 (λK hK=>?_);go_simp;refine(wP _ _ _ _).mono ?_;rintro e v1⟨rfl,hv1⟩;subst hv1;rw[O3];obtain⟨c2,hc2⟩:∃c2,c2=decide (1<=tm/\tm<=4):=⟨_,rfl⟩;rw[<-hc2];have HC2:=aA hc2;refine hK.out _ _ (SS.out _ k0) (λhH2=>?_);clear hK K hc2;try refine hG ?_
        cases c2 with
        |false=>
          refine tD 20 ?_;refine tD 21 ?_;refine gC (by kernel_rfl) ?_ _;have HDF:Hid (D=false):=by show D=false;rw[HFO.out,HNOT.out (by unfold sM;dsimp only;rw[<-HC2.out,<-HC1.out];rfl)];simp
          go_wp2_with fail;go_ret;exact⟨by rw[HDF.out];rfl,hBw.trans ((KQ.out _ k0).mono s0)⟩
        |true=>
          refine tD 20 ?_;refine tD 21 ?_;refine gC (by kernel_rfl) ?_ _;go_wp2_with fail;go_roundw;case rel=>exact⟨j+1,HJL.out,by have:=HJL.out;go_num,HTK.out HA.out (by unfold sM;dsimp only;rw[<-HC2.out,<-HC1.out];rfl),k0⟩
          case measure=>have:=HJL.out;simp[intOf];omega
     ·have hje:j=m3:=by omega
      subst hje;have HTO:Hid (s.nA.all (sM n2)=true):=nV HM3.out (yL _) HA.out;clear hjl hj HA;have HLB:=aA hLb;obtain⟨wt,hwt⟩:∃wt,wt=wr:=⟨_,rfl⟩;subst hwt;have kt:=kj;have st:=kt.size;have HROWT:=aA (BZ HROW.out hB);have hwm:IntKind.i64.wrap ((j:Int)-1)=(j:Int)-1:=by rw[uB];omega
      clear kj hB HROW KQ kq sq;go_wp2_with fail;go_loopw[5,9,10](λu i _ wr=>∃(k:Nat)(l:Int)(M:List Int),k<=m2/\i=.int .i64 k/\oK s.nA s.fA (-1) s.xB=oK s.nA s.fA l (s.xB.drop k)/\((k=0/\l=-1)\/(0<k/\0<=l/\s.xB[k-1]?.map eF.tag=some l))/\wr.ownsRow W2.heap.size 3 1 u M.length (M.map (Value.int .i64))/\M=L++(s.xB.take k).map (λo=>o.item.seq)/\Below W2.heap.size W2 wr)(λ_ i _ _=>m2-(intOf i).toNat);case atStart=>exact⟨0,-1,L,zA _,rfl,by simp,.inl ⟨rfl,rfl⟩,HROWT.out,by simp,kt⟩
      case round=>
       clear y0 y1 y2 y3 y4 y5 y6 y7 HROWT;obtain⟨k,l,M,hk,rfl,hof,hl,hrow,hM,hB⟩:=hrel;have HOF:=aA hof;have HLL:=aA hl;have HMM:=aA hM;have hBs:=hB.size;have hMb:M.length<=4194304+m2:=by rw[hM,dC,dE,iD];omega
       clear hof hl hM;obtain⟨y0,y1,y2,y3,y4,y5,y6,y7⟩:=gD (BX.out wr hB).2;by_cases hkl:k<m2
       ·have HKL:=aA hkl;have hko:k<s.xB.length:=by rw[HM2.out];exact hkl
        have hdr:s.xB.drop k=s.xB[k]::s.xB.drop (k+1):=vC hko;obtain⟨g,o,ha,hg,e1,e2,e3,e4⟩:=(HS.out.q2.sA hB).get hko;subst ha;have HTS:Hid ((s.xB.take (k+1)).map (λo=>o.item.seq)=(s.xB.take k).map (λo=>o.item.seq)++[s.xB[k].item.seq]):=by
         show(s.xB.take (k+1)).map _=_;rw[rA hko,oD];rfl
        have HLN:Hid (s.xB[k]?.map eF.tag=some s.xB[k].tag):=by show s.xB[k]?.map eF.tag=_;rw[tA hko];rfl
        obtain⟨x,hx⟩:∃x,x=s.xB[k]:=⟨_,rfl⟩;rw[<-hx]at e1 e2 e3 e4 hdr HTS HLN;have HST:Hid (oK s.nA s.fA (-1) s.xB=(aQ s.nA s.fA l x&&oK s.nA s.fA x.tag (s.xB.drop (k+1)))):=by
         show oK s.nA s.fA (-1) s.xB=_;rw[HOF.out,hdr];rfl
        obtain⟨tg,tk,qu,it⟩:=x;obtain⟨sq,ky,bo,ag,de⟩:=it;obtain⟨f0,f1,f2,f3,f4⟩:=e4;dsimp only at e1 e2 e3 f0 f1 f2 f3 f4 HST HTS HLN;have j1:(0:Int)<=(k:Int):=by omega
        have j2:(k:Int)<m2:=by omega
        have sk:w.heap.size+1<wr.heap.size:=by omega
        obtain⟨W3,hW3⟩:∃W3,W3=wr.alloc (.cells #[.int .i64 tg,.int .i64 tk,.int .i64 qu,.int .i64 sq,.string ky,.string bo,.bool ag,.int .i64 de] 88):=⟨_,rfl⟩;have HW3:=aA hW3;have k3:Below W2.heap.size W2 W3:=by rw[hW3];exact hB.alloc hBs _
        have s3:=k3.size;have b3':W3.heap[wr.heap.size]?=some (.cells #[.int .i64 tg,.int .i64 tk,.int .i64 qu,.int .i64 sq,.string ky,.string bo,.bool ag,.int .i64 de] 88 (0,0)):=by rw[hW3];exact jA wr _
        have HB3:=aA b3';have hrow3:=hrow.alloc (.cells #[.int .i64 tg,.int .i64 tk,.int .i64 qu,.int .i64 sq,.string ky,.string bo,.bool ag,.int .i64 de] 88);rw[<-hW3]at hrow3;have HR3:=aA hrow3;obtain⟨BO,hBO⟩:∃BO,BO=wr.heap.size:=⟨_,rfl⟩;rw[<-hBO]at HB3;have HBO:=aA hBO;clear hx hdr hW3 b3' hrow3 hrow hBO hko;have HPREV:Hid (∃(A:Addr)(va:Value),(∀W,Below W2.heap.size W2 W->W.cell? A=some va)/\(0<k->A=⟨g,o+(k-1)*8,none⟩/\va=.int .i64 l)):=by
         by_cases h0:0<k
         ·rcases HLL.out with⟨h1,_⟩|⟨_,_,h2⟩;·omega
          ·have hk1:k-1<s.xB.length:=by rw[HM2.out];have:=HKL.out;omega
           obtain⟨g',o',ha',hg',e1',_⟩:=HS.out.q2.get hk1;cases ha';rw[tA hk1]at h2;simp at h2;rw[h2]at e1';exact⟨_,_,λW hW=>(hW.cell (p:=⟨g,_,none⟩) hg').trans e1',λ_=>⟨rfl,rfl⟩⟩
         ·exact⟨⟨w.heap.size+1,4,none⟩,_,λW hW=>(gD (BX.out W hW).2).2.2.2.2.1,λh=>absurd h h0⟩
        have HTAK:Hid (∃(B:Addr)(vb:Value),(∀W,Below W2.heap.size W2 W->W.cell? B=some vb)/\(tG tk j=true->∃(tn:Nat)(gt ot:Nat)(t:kH),tk=(tn:Int)/\tn<j/\b3=some ⟨gt,ot,none⟩/\s.nA[tn]?=some t/\B=⟨gt,ot+tn*2,none⟩/\vb=.int .i64 t.queue)):=by
         by_cases h0:tG tk j=true
         ·have h1:=cP.1 h0;obtain⟨tn,htn⟩:=oE h1.1;have htl:tn<s.nA.length:=by rw[HM3.out];omega
          obtain⟨gt,ot,hat,hgt,u1,u2⟩:=HS.out.q3.get htl;exact⟨_,_,λW hW=>(hW.cell (p:=⟨gt,_,none⟩) hgt).trans u1,λ_=>⟨tn,gt,ot,s.nA[tn],htn,by omega,hat,tA htl,rfl,rfl⟩⟩
         ·exact⟨⟨w.heap.size+1,4,none⟩,_,λW hW=>(gD (BX.out W hW).2).2.2.2.2.1,λh=>absurd h h0⟩
        obtain⟨PA,va,hpa,hpv⟩:=HPREV.out;obtain⟨TB,vb,htb,htv⟩:=HTAK.out;have HPA:=aA hpa;have HPV:=aA hpv;have HTB:=aA htb;have HTV:=aA htv;have SS:Hid (∀W,Below W3.heap.size W3 W->W.cell? ⟨w.heap.size+1,1,none⟩=some (.slice (some ⟨g,o,none⟩) m2 d2)/\W.cell? ⟨w.heap.size+1,2,none⟩=some (.slice b3 j d3)/\W.cell? ⟨w.heap.size+1,4,none⟩=some (.int .i64 s.fA)/\W.cell? ⟨BO,0,none⟩=some (.int .i64 tg)/\W.cell? ⟨BO,1,none⟩=some (.int .i64 tk)/\W.cell? ⟨BO,2,none⟩=some (.int .i64 qu)/\W.cell? ⟨BO,3,none⟩=some (.int .i64 sq)/\W.cell? ⟨BO,4,none⟩=some (.string ky)/\W.cell? ⟨BO,5,none⟩=some (.string bo)/\W.cell? ⟨BO,6,none⟩=some (.bool ag)/\W.cell? ⟨BO,7,none⟩=some (.int .i64 de)/\W.cell? PA=some va/\W.cell? TB=some vb):=λW hW=>by
         have kw:=k3.trans (hW.mono s3);have x:=gD (BX.out W kw).2;have y:=pB HB3.out hW;exact⟨x.2.1,x.2.2.1,x.2.2.2.2.1,yB y 0,yB y 1,yB y 2,yB y 3,yB y 4,yB y 5,yB y 6,yB y 7,HPA.out W kw,HTB.out W kw⟩
        clear hpa hpv htb htv HPREV HTAK;go_wp2_with fail;rw[<-HW3.out,<-HBO.out];refine zB (S:=λW=>W.cell? ⟨w.heap.size+1,1,none⟩=some (.slice (some ⟨g,o,none⟩) m2 d2)/\W.cell? ⟨w.heap.size+1,2,none⟩=some (.slice b3 j d3)/\W.cell? ⟨w.heap.size+1,4,none⟩=some (.int .i64 s.fA)/\W.cell? ⟨BO,0,none⟩=some (.int .i64 tg)/\W.cell? ⟨BO,1,none⟩=some (.int .i64 tk)/\W.cell? ⟨BO,2,none⟩=some (.int .i64 qu)/\W.cell? ⟨BO,3,none⟩=some (.int .i64 sq)/\W.cell? ⟨BO,4,none⟩=some (.string ky)/\W.cell? ⟨BO,5,none⟩=some (.string bo)/\W.cell? ⟨BO,6,none⟩=some (.bool ag)/\W.cell? ⟨BO,7,none⟩=some (.int .i64 de)/\W.cell? PA=some va/\W.cell? TB=some vb) (by kernel_rfl) (SS.out _ (dA _ _).drew) (λhHeld=>?_);obtain⟨v0,hv0⟩:∃v0,v0=W3.drew:=⟨_,rfl⟩;have r0:Below W3.heap.size W3 v0:=by rw[hv0];exact(dA _ _).drew
        have k0:Below W2.heap.size W2 v0:=k3.trans (r0.mono s3);rw[<-hv0]at hHeld⊢;clear hv0 y0 y1 y2 y3 y4 y5 y6 y7 e1 e2 e3 f0 f1 f2 f3 f4;by_cases q0:tg<0;·as_aux_lemma=>
          have hq0:decide (tg<0)=true:=eC q0;have HQ0:=aA q0;have HLM:Hid (-1<=l):=by rcases HLL.out with⟨_,h⟩|⟨_,h,_⟩<;>(show-1<=l;omega)
          clear q0;refine tD 0 ?_;refine tD 1 ?_;refine tD 2 ?_;refine tD 3 ?_;refine kE 4 ?_;refine kE 5 ?_;refine kE 6 ?_;refine kE 7 ?_;refine kE 8 ?_;refine kE 9 ?_;refine kE 10 ?_;refine kE 11 ?_;refine kE 12 ?_;refine kE 13 ?_;refine kE 14 ?_;refine kE 15 ?_;refine kE 16 ?_;refine kE 17 ?_;refine tD 18 ?_;refine tD 19 ?_;refine kE 20 ?_;refine kE 21 ?_;refine kE 22 ?_;refine kE 23 ?_;refine kE 24 ?_;refine kE 25 ?_;refine kE 26 ?_;refine kE 27 ?_;refine tD 28 ?_;refine tD 29 ?_;refine kE 30 ?_;refine kE 31 ?_;refine kE 32 ?_;refine kE 33 ?_;refine kE 34 ?_;refine kE 35 ?_;refine kE 36 ?_;refine kE 37 ?_;refine tD 38 ?_;refine tD 39 ?_;refine kE 40 ?_;refine kE 41 ?_;refine kE 42 ?_;refine kE 43 ?_;refine kE 44 ?_;refine kE 45 ?_;refine kE 46 ?_;refine kE 47 ?_;refine kE 48 ?_;refine kE 49 ?_;refine tD 50 ?_;refine tD 51 ?_;refine kE 52 ?_;refine kE 53 ?_;refine kE 54 ?_;refine kE 55 ?_;refine tD 56 ?_;refine tD 57 ?_;refine kE 58 ?_;refine kE 59 ?_;refine kE 60 ?_;refine kE 61 ?_;refine kE 62 ?_;refine tD 63 ?_;have HQL:Hid (tg<=l):=by show tg<=l;have h1:=HLM.out;have h2:=HQ0.out;omega
          refine gC (by kernel_rfl) ?_ _;have HDF:Hid (D=false):=by
           show D=false;rw[HFO.out,HST.out,UK HQL.out];simp
          go_wp2_with fail;exact dB (v:=.bool false) (by simp[results,Tryz.results118,go_sem]) rfl ⟨by rw[HDF.out],hBw.trans (k0.mono s0)⟩
        ·have hq0:decide (tg<0)=false:=vD q0;have HTG0:Hid (0<=tg):=by show 0<=tg;omega
         clear q0;by_cases q2:k=0;·as_aux_lemma=>
           have hl1:l=-1:=by rcases HLL.out with⟨_,h⟩|⟨h,_⟩;exact h;omega
           have HQ1:Hid (¬tg<=l):=by show¬tg<=l;have:=HTG0.out;omega
           clear hl1;subst q2;refine tD 0 ?_;refine tD 1 ?_;refine tD 2 ?_;refine tD 3 ?_;refine tD 4 ?_;refine tD 5 ?_;refine tD 6 ?_;refine kE 7 ?_;refine kE 8 ?_;refine kE 9 ?_;refine kE 10 ?_;refine kE 11 ?_;refine kE 12 ?_;refine kE 13 ?_;refine kE 14 ?_;refine kE 15 ?_;refine kE 16 ?_;refine tD 17 ?_;refine tD 18 ?_;refine tD 19 ?_;refine tD 20 ?_;refine tD 21 ?_;refine tD 22 ?_;refine tD 23 ?_;refine tD 24 ?_;refine tD 25 ?_;refine pG 26 (λK hK=>?_);go_simp;refine(wP _ _ _ _).mono ?_;rintro e vv⟨rfl,hvv⟩;subst hvv;rw[PY];obtain⟨c3,hc3⟩:∃c3,c3=tG tk j:=⟨_,rfl⟩;rw[<-hc3]at HTV⊢;have HC3:=aA hc3.symm;refine hK.out _ _ (SS.out _ r0) (λhH1=>?_);clear hK K hc3;try refine hG ?_
           cases c3 with
           |false=>
             refine tD 27 ?_;refine tD 28 ?_;refine tD 29 ?_;refine kE 30 ?_;refine kE 31 ?_;refine kE 32 ?_;refine kE 33 ?_;refine kE 34 ?_;refine kE 35 ?_;refine kE 36 ?_;refine kE 37 ?_;refine tD 38 ?_;refine tD 39 ?_;refine kE 40 ?_;refine kE 41 ?_;refine kE 42 ?_;refine kE 43 ?_;refine kE 44 ?_;refine kE 45 ?_;refine kE 46 ?_;refine kE 47 ?_;refine kE 48 ?_;refine kE 49 ?_;refine tD 50 ?_;refine tD 51 ?_;refine kE 52 ?_;refine kE 53 ?_;refine kE 54 ?_;refine kE 55 ?_;refine tD 56 ?_;refine tD 57 ?_;refine kE 58 ?_;refine kE 59 ?_;refine kE 60 ?_;refine kE 61 ?_;refine kE 62 ?_;refine tD 63 ?_;have HC3L:Hid (tG tk s.nA.length=false):=by show tG tk s.nA.length=false;rw[HM3.out];exact HC3.out
             refine gC (by kernel_rfl) ?_ _;have HDF:Hid (D=false):=by
              show D=false;rw[HFO.out,HST.out,UL HC3L.out];simp
             go_wp2_with fail;exact dB (v:=.bool false) (by simp[results,Tryz.results118,go_sem]) rfl ⟨by rw[HDF.out],hBw.trans (k0.mono s0)⟩
           |true=>
             obtain⟨tn,gt,ot,t,htn,htj,hb3,hts,hTB,hvb⟩:=HTV.out rfl;subst htn hb3 hTB hvb;have HTS2:=aA hts;have t1:(0:Int)<=(tn:Int):=by omega
             have t2:(tn:Int)<j:=by omega
             obtain⟨tq,htq⟩:∃tq,tq=t.queue:=⟨_,rfl⟩;rw[<-htq]at hHeld SS⊢;have HTQ:=aA htq;clear htq hts HTV;refine tD 27 ?_;refine tD 28 ?_;refine tD 29 ?_;by_cases q4:tq=-1
             ·have hq4:(tq==-1)=true:=by simpa using q4
              have HC4:Hid (t.queue=-1):=by show t.queue=-1;rw[<-HTQ.out];exact q4
              clear q4;refine tD 30 ?_;refine tD 31 ?_;refine tD 32 ?_;refine tD 33 ?_;refine tD 34 ?_;refine tD 35 ?_;refine tD 36 ?_;refine tD 37 ?_;refine tD 38 ?_;refine tD 39 ?_;refine kE 40 ?_;refine kE 41 ?_;refine kE 42 ?_;refine kE 43 ?_;refine kE 44 ?_;refine kE 45 ?_;refine kE 46 ?_;refine kE 47 ?_;refine kE 48 ?_;refine kE 49 ?_;refine tD 50 ?_;refine tD 51 ?_;refine kE 52 ?_;refine kE 53 ?_;refine kE 54 ?_;refine kE 55 ?_;refine tD 56 ?_;refine tD 57 ?_;refine kE 58 ?_;refine kE 59 ?_;refine kE 60 ?_;refine kE 61 ?_;refine kE 62 ?_;refine tD 63 ?_;refine gC (by kernel_rfl) ?_ _;have HDF:Hid (D=false):=by
               show D=false;rw[HFO.out,HST.out,UM HTS2.out HC4.out];simp
              go_wp2_with fail;exact dB (v:=.bool false) (by simp[results,Tryz.results118,go_sem]) rfl ⟨by rw[HDF.out],hBw.trans (k0.mono s0)⟩
             ·have hq4:(tq==-1)=false:=by simpa using q4
              have HC4n:Hid (t.queue≠-1):=by show t.queue≠-1;rw[<-HTQ.out];exact q4
              clear q4;refine tD 30 ?_;refine tD 31 ?_;refine tD 32 ?_;refine tD 33 ?_;refine tD 34 ?_;refine tD 35 ?_;refine tD 36 ?_;refine tD 37 ?_;refine tD 38 ?_;refine tD 39 ?_;by_cases q5:tq=qu
              ·have hq5:(tq !=qu)=false:=by simpa using q5
               have HC5n:Hid (t.queue=qu):=by show t.queue=qu;rw[<-HTQ.out];exact q5
               clear q5;refine tD 40 ?_;refine tD 41 ?_;refine tD 42 ?_;refine tD 43 ?_;refine tD 44 ?_;refine tD 45 ?_;refine tD 46 ?_;refine tD 47 ?_;refine tD 48 ?_;refine tD 49 ?_;refine tD 50 ?_;refine tD 51 ?_;refine tD 52 ?_;refine tD 53 ?_;refine pG 54 (λK hK=>?_);go_simp;refine(BP _ _ _ _ _ _).mono ?_;rintro e v1⟨rfl,r1⟩;have r01:=r0.trans (r1.mono r0.size);have k1:Below W2.heap.size W2 v1:=k3.trans (r01.mono s3);obtain⟨c6,hc6⟩:∃c6,c6=nH ⟨sq,ky,bo,ag,de⟩:=⟨_,rfl⟩;rw[<-hc6];have HC6:=aA hc6.symm;refine hK.out _ _ (SS.out _ r01) (λhH2=>?_);clear hK K hc6;try refine hG ?_
               cases c6 with
               |false=>
                 refine tD 55 ?_;refine tD 56 ?_;refine tD 57 ?_;refine kE 58 ?_;refine kE 59 ?_;refine kE 60 ?_;refine kE 61 ?_;refine kE 62 ?_;refine tD 63 ?_;refine gC (by kernel_rfl) ?_ _;have HDF:Hid (D=false):=by
                  show D=false;rw[HFO.out,HST.out,UO HC6.out];simp
                 go_wp2_with fail;exact dB (v:=.bool false) (by simp[results,Tryz.results118,go_sem]) rfl ⟨by rw[HDF.out],hBw.trans (k1.mono s0)⟩
               |true=>
                 by_cases q7:s.fA<=tg
                 ·have hq7:decide (s.fA<=tg)=true:=eC q7;have HQ7:=aA q7;clear q7;refine tD 55 ?_;refine tD 56 ?_;refine tD 57 ?_;refine tD 58 ?_;refine tD 59 ?_;refine tD 60 ?_;refine tD 61 ?_;refine tD 62 ?_;refine tD 63 ?_;refine gC (by kernel_rfl) ?_ _;have HDF:Hid (D=false):=by
                   show D=false;rw[HFO.out,HST.out,UP HQ7.out];simp
                  go_wp2_with fail;exact dB (v:=.bool false) (by simp[results,Tryz.results118,go_sem]) rfl ⟨by rw[HDF.out],hBw.trans (k1.mono s0)⟩
                 ·have hq7:decide (s.fA<=tg)=false:=vD q7;have HC4:=HTS2;have HC5:=HC4n;have HQ7:=aA q7;clear q7;refine tD 55 ?_;refine tD 56 ?_;refine tD 57 ?_;refine tD 58 ?_;refine tD 59 ?_;refine tD 60 ?_;refine tD 61 ?_;refine tD 62 ?_;refine tD 63 ?_;refine gC (by kernel_rfl) ?_ _;have HOK:Hid (oK s.nA s.fA (-1) s.xB=oK s.nA s.fA tg (s.xB.drop (0+1))):=by
                   show oK s.nA s.fA (-1) s.xB=_;rw[HST.out,RV (rP HQ1.out) (rP HQ7.out) (by rw[HM3.out];exact HC3.out) HTS2.out HC4n.out HC5n.out HC6.out];rfl
                  have HTG:Hid (0<=tg):=by exact HTG0.out
                  have hrow5:=BZ (BZ HR3.out r0) r1;have c3:=yB (pB HB3.out r01) 3;simp at c3;obtain⟨m,hm⟩:∃m,m=M.length:=⟨_,rfl⟩;rw[<-hm]at hrow5 hMb;have HM:=aA hm;have s5:=k1.size;clear hm hHeld;go_wp2_with(at_builtin;refine vE _ rfl _ _ 77 rfl W2.heap.size 3 i3 (.int .i64 0) 1 8 Tryz.underlying77 hi3 hy0 hy1 hy2 rfl (by decide) _ _ _ rfl (hrow5.alloc _) ⟨v1.heap.size,0,none⟩ 1 1 [.int .i64 sq] rfl rfl (FS _ _ _) (by simp[Value.oneCell']) (by unfold maxLen;omega) (by omega) (by simp;omega) ?_;intro v' w9 hown' hgrow _;have hB9:Below W2.heap.size W2 w9:=(k1.alloc s5 _).grown hgrow (by simp;omega) (nS hrow5));go_roundw;case rel=>exact⟨0+1,tg,M++[sq],HKL.out,by have:=HKL.out;go_num,HOK.out,.inr ⟨Nat.succ_pos _,HTG.out,HLN.out⟩,by rw[dC,oD,<-HM.out];exact hown',by rw[HTS.out,<-gE,<-HMM.out],hB9⟩
                  case measure=>have:=HKL.out;simp[intOf];omega
              ·have hq5:(tq !=qu)=true:=by simpa using q5
               have HC5n:Hid (t.queue≠qu):=by show t.queue≠qu;rw[<-HTQ.out];exact q5
               clear q5;refine tD 40 ?_;refine tD 41 ?_;refine tD 42 ?_;refine tD 43 ?_;refine tD 44 ?_;refine tD 45 ?_;refine tD 46 ?_;refine tD 47 ?_;refine tD 48 ?_;refine tD 49 ?_;refine tD 50 ?_;refine tD 51 ?_;refine kE 52 ?_;refine kE 53 ?_;refine kE 54 ?_;refine kE 55 ?_;refine tD 56 ?_;refine tD 57 ?_;refine kE 58 ?_;refine kE 59 ?_;refine kE 60 ?_;refine kE 61 ?_;refine kE 62 ?_;refine tD 63 ?_;refine gC (by kernel_rfl) ?_ _;have HDF:Hid (D=false):=by
                show D=false;rw[HFO.out,HST.out,UN HTS2.out HC5n.out];simp
               go_wp2_with fail;exact dB (v:=.bool false) (by simp[results,Tryz.results118,go_sem]) rfl ⟨by rw[HDF.out],hBw.trans (k0.mono s0)⟩
         ·have hq2:decide ((0:Int)<(k:Int))=true:=eC (by omega);have hq2a:decide (0<k)=true:=eC (by omega);have hq2b:(0:Int)<(k:Int):=by omega
          have hq2c:0<k:=by omega
          obtain⟨hPA,hva⟩:=HPV.out (by omega);subst hPA hva;have hwk:IntKind.i64.wrap ((k:Int)-1)=((k-1:Nat):Int):=by rw[uB];omega
          have i1:(0:Int)<=((k-1:Nat):Int):=by omega
          have i2:((k-1:Nat):Int)<m2:=by omega
          by_cases q3:tg<=l;·as_aux_lemma=>
            have hq3:decide (tg<=l)=true:=eC q3;have HQ1:=aA q3;clear q2 q3;refine tD 0 ?_;refine tD 1 ?_;refine tD 2 ?_;refine tD 3 ?_;refine tD 4 ?_;refine tD 5 ?_;refine tD 6 ?_;refine tD 7 ?_;refine tD 8 ?_;refine tD 9 ?_;refine tD 10 ?_;refine tD 11 ?_;refine tD 12 ?_;refine tD 13 ?_;refine tD 14 ?_;refine tD 15 ?_;refine tD 16 ?_;refine tD 17 ?_;refine tD 18 ?_;refine tD 19 ?_;refine kE 20 ?_;refine kE 21 ?_;refine kE 22 ?_;refine kE 23 ?_;refine kE 24 ?_;refine kE 25 ?_;refine kE 26 ?_;refine kE 27 ?_;refine tD 28 ?_;refine tD 29 ?_;refine kE 30 ?_;refine kE 31 ?_;refine kE 32 ?_;refine kE 33 ?_;refine kE 34 ?_;refine kE 35 ?_;refine kE 36 ?_;refine kE 37 ?_;refine tD 38 ?_;refine tD 39 ?_;refine kE 40 ?_;refine kE 41 ?_;refine kE 42 ?_;refine kE 43 ?_;refine kE 44 ?_;refine kE 45 ?_;refine kE 46 ?_;refine kE 47 ?_;refine kE 48 ?_;refine kE 49 ?_;refine tD 50 ?_;refine tD 51 ?_;refine kE 52 ?_;refine kE 53 ?_;refine kE 54 ?_;refine kE 55 ?_;refine tD 56 ?_;refine tD 57 ?_;refine kE 58 ?_;refine kE 59 ?_;refine kE 60 ?_;refine kE 61 ?_;refine kE 62 ?_;refine tD 63 ?_;refine gC (by kernel_rfl) ?_ _;have HDF:Hid (D=false):=by
             show D=false;rw[HFO.out,HST.out,UK HQ1.out];simp
            go_wp2_with fail;exact dB (v:=.bool false) (by simp[results,Tryz.results118,go_sem]) rfl ⟨by rw[HDF.out],hBw.trans (k0.mono s0)⟩
          ·as_aux_lemma=>
            have hq3:decide (tg<=l)=false:=vD q3;have HQ1:=aA q3;clear q2 q3;refine tD 0 ?_;refine tD 1 ?_;refine tD 2 ?_;refine tD 3 ?_;refine tD 4 ?_;refine tD 5 ?_;refine tD 6 ?_;refine tD 7 ?_;refine tD 8 ?_;refine tD 9 ?_;refine tD 10 ?_;refine tD 11 ?_;refine tD 12 ?_;refine tD 13 ?_;refine tD 14 ?_;refine tD 15 ?_;refine tD 16 ?_;refine tD 17 ?_;refine tD 18 ?_;refine tD 19 ?_;refine tD 20 ?_;refine tD 21 ?_;refine tD 22 ?_;refine tD 23 ?_;refine tD 24 ?_;refine tD 25 ?_;refine pG 26 (λK hK=>?_);go_simp;refine(wP _ _ _ _).mono ?_;rintro e vv⟨rfl,hvv⟩;subst hvv;rw[PY];obtain⟨c3,hc3⟩:∃c3,c3=tG tk j:=⟨_,rfl⟩;rw[<-hc3]at HTV⊢;have HC3:=aA hc3.symm;refine hK.out _ _ (SS.out _ r0) (λhH1=>?_);clear hK K hc3;try refine hG ?_
            cases c3 with
            |false=>
              refine tD 27 ?_;refine tD 28 ?_;refine tD 29 ?_;refine kE 30 ?_;refine kE 31 ?_;refine kE 32 ?_;refine kE 33 ?_;refine kE 34 ?_;refine kE 35 ?_;refine kE 36 ?_;refine kE 37 ?_;refine tD 38 ?_;refine tD 39 ?_;refine kE 40 ?_;refine kE 41 ?_;refine kE 42 ?_;refine kE 43 ?_;refine kE 44 ?_;refine kE 45 ?_;refine kE 46 ?_;refine kE 47 ?_;refine kE 48 ?_;refine kE 49 ?_;refine tD 50 ?_;refine tD 51 ?_;refine kE 52 ?_;refine kE 53 ?_;refine kE 54 ?_;refine kE 55 ?_;refine tD 56 ?_;refine tD 57 ?_;refine kE 58 ?_;refine kE 59 ?_;refine kE 60 ?_;refine kE 61 ?_;refine kE 62 ?_;refine tD 63 ?_;have HC3L:Hid (tG tk s.nA.length=false):=by show tG tk s.nA.length=false;rw[HM3.out];exact HC3.out
              refine gC (by kernel_rfl) ?_ _;have HDF:Hid (D=false):=by
               show D=false;rw[HFO.out,HST.out,UL HC3L.out];simp
              go_wp2_with fail;exact dB (v:=.bool false) (by simp[results,Tryz.results118,go_sem]) rfl ⟨by rw[HDF.out],hBw.trans (k0.mono s0)⟩
            |true=>
              obtain⟨tn,gt,ot,t,htn,htj,hb3,hts,hTB,hvb⟩:=HTV.out rfl;subst htn hb3 hTB hvb;have HTS2:=aA hts;have t1:(0:Int)<=(tn:Int):=by omega
              have t2:(tn:Int)<j:=by omega
              obtain⟨tq,htq⟩:∃tq,tq=t.queue:=⟨_,rfl⟩;rw[<-htq]at hHeld SS⊢;have HTQ:=aA htq;clear htq hts HTV;refine tD 27 ?_;refine tD 28 ?_;refine tD 29 ?_;by_cases q4:tq=-1
              ·have hq4:(tq==-1)=true:=by simpa using q4
               have HC4:Hid (t.queue=-1):=by show t.queue=-1;rw[<-HTQ.out];exact q4
               clear q4;refine tD 30 ?_;refine tD 31 ?_;refine tD 32 ?_;refine tD 33 ?_;refine tD 34 ?_;refine tD 35 ?_;refine tD 36 ?_;refine tD 37 ?_;refine tD 38 ?_;refine tD 39 ?_;refine kE 40 ?_;refine kE 41 ?_;refine kE 42 ?_;refine kE 43 ?_;refine kE 44 ?_;refine kE 45 ?_;refine kE 46 ?_;refine kE 47 ?_;refine kE 48 ?_;refine kE 49 ?_;refine tD 50 ?_;refine tD 51 ?_;refine kE 52 ?_;refine kE 53 ?_;refine kE 54 ?_;refine kE 55 ?_;refine tD 56 ?_;refine tD 57 ?_;refine kE 58 ?_;refine kE 59 ?_;refine kE 60 ?_;refine kE 61 ?_;refine kE 62 ?_;refine tD 63 ?_;refine gC (by kernel_rfl) ?_ _;have HDF:Hid (D=false):=by
                show D=false;rw[HFO.out,HST.out,UM HTS2.out HC4.out];simp
               go_wp2_with fail;exact dB (v:=.bool false) (by simp[results,Tryz.results118,go_sem]) rfl ⟨by rw[HDF.out],hBw.trans (k0.mono s0)⟩
              ·have hq4:(tq==-1)=false:=by simpa using q4
               have HC4n:Hid (t.queue≠-1):=by show t.queue≠-1;rw[<-HTQ.out];exact q4
               clear q4;refine tD 30 ?_;refine tD 31 ?_;refine tD 32 ?_;refine tD 33 ?_;refine tD 34 ?_;refine tD 35 ?_;refine tD 36 ?_;refine tD 37 ?_;refine tD 38 ?_;refine tD 39 ?_;by_cases q5:tq=qu
               ·have hq5:(tq !=qu)=false:=by simpa using q5
                have HC5n:Hid (t.queue=qu):=by show t.queue=qu;rw[<-HTQ.out];exact q5
                clear q5;refine tD 40 ?_;refine tD 41 ?_;refine tD 42 ?_;refine tD 43 ?_;refine tD 44 ?_;refine tD 45 ?_;refine tD 46 ?_;refine tD 47 ?_;refine tD 48 ?_;refine tD 49 ?_;refine tD 50 ?_;refine tD 51 ?_;refine tD 52 ?_;refine tD 53 ?_;refine pG 54 (λK hK=>?_);go_simp;refine(BP _ _ _ _ _ _).mono ?_;rintro e v1⟨rfl,r1⟩;have r01:=r0.trans (r1.mono r0.size);have k1:Below W2.heap.size W2 v1:=k3.trans (r01.mono s3);obtain⟨c6,hc6⟩:∃c6,c6=nH ⟨sq,ky,bo,ag,de⟩:=⟨_,rfl⟩;rw[<-hc6];have HC6:=aA hc6.symm;refine hK.out _ _ (SS.out _ r01) (λhH2=>?_);clear hK K hc6;try refine hG ?_
                cases c6 with
                |false=>
                  refine tD 55 ?_;refine tD 56 ?_;refine tD 57 ?_;refine kE 58 ?_;refine kE 59 ?_;refine kE 60 ?_;refine kE 61 ?_;refine kE 62 ?_;refine tD 63 ?_;refine gC (by kernel_rfl) ?_ _;have HDF:Hid (D=false):=by
                   show D=false;rw[HFO.out,HST.out,UO HC6.out];simp
                  go_wp2_with fail;exact dB (v:=.bool false) (by simp[results,Tryz.results118,go_sem]) rfl ⟨by rw[HDF.out],hBw.trans (k1.mono s0)⟩
                |true=>
                  by_cases q7:s.fA<=tg
                  ·have hq7:decide (s.fA<=tg)=true:=eC q7;have HQ7:=aA q7;clear q7;refine tD 55 ?_;refine tD 56 ?_;refine tD 57 ?_;refine tD 58 ?_;refine tD 59 ?_;refine tD 60 ?_;refine tD 61 ?_;refine tD 62 ?_;refine tD 63 ?_;refine gC (by kernel_rfl) ?_ _;have HDF:Hid (D=false):=by
                    show D=false;rw[HFO.out,HST.out,UP HQ7.out];simp
                   go_wp2_with fail;exact dB (v:=.bool false) (by simp[results,Tryz.results118,go_sem]) rfl ⟨by rw[HDF.out],hBw.trans (k1.mono s0)⟩
                  ·have hq7:decide (s.fA<=tg)=false:=vD q7;have HC4:=HTS2;have HC5:=HC4n;have HQ7:=aA q7;clear q7;refine tD 55 ?_;refine tD 56 ?_;refine tD 57 ?_;refine tD 58 ?_;refine tD 59 ?_;refine tD 60 ?_;refine tD 61 ?_;refine tD 62 ?_;refine tD 63 ?_;refine gC (by kernel_rfl) ?_ _;have HOK:Hid (oK s.nA s.fA (-1) s.xB=oK s.nA s.fA tg (s.xB.drop (k+1))):=by
                    show oK s.nA s.fA (-1) s.xB=_;rw[HST.out,RV (rP HQ1.out) (rP HQ7.out) (by rw[HM3.out];exact HC3.out) HTS2.out HC4n.out HC5n.out HC6.out];rfl
                   have HTG:Hid (0<=tg):=by exact HTG0.out
                   have hrow5:=BZ (BZ HR3.out r0) r1;have c3:=yB (pB HB3.out r01) 3;simp at c3;obtain⟨m,hm⟩:∃m,m=M.length:=⟨_,rfl⟩;rw[<-hm]at hrow5 hMb;have HM:=aA hm;have s5:=k1.size;clear hm hHeld;go_wp2_with(at_builtin;refine vE _ rfl _ _ 77 rfl W2.heap.size 3 i3 (.int .i64 0) 1 8 Tryz.underlying77 hi3 hy0 hy1 hy2 rfl (by decide) _ _ _ rfl (hrow5.alloc _) ⟨v1.heap.size,0,none⟩ 1 1 [.int .i64 sq] rfl rfl (FS _ _ _) (by simp[Value.oneCell']) (by unfold maxLen;omega) (by omega) (by simp;omega) ?_;intro v' w9 hown' hgrow _;have hB9:Below W2.heap.size W2 w9:=(k1.alloc s5 _).grown hgrow (by simp;omega) (nS hrow5));go_roundw;case rel=>exact⟨k+1,tg,M++[sq],HKL.out,by have:=HKL.out;go_num,HOK.out,.inr ⟨Nat.succ_pos _,HTG.out,HLN.out⟩,by rw[dC,oD,<-HM.out];exact hown',by rw[HTS.out,<-gE,<-HMM.out],hB9⟩
                   case measure=>have:=HKL.out;simp[intOf];omega
               ·have hq5:(tq !=qu)=true:=by simpa using q5
                have HC5n:Hid (t.queue≠qu):=by show t.queue≠qu;rw[<-HTQ.out];exact q5
                clear q5;refine tD 40 ?_;refine tD 41 ?_;refine tD 42 ?_;refine tD 43 ?_;refine tD 44 ?_;refine tD 45 ?_;refine tD 46 ?_;refine tD 47 ?_;refine tD 48 ?_;refine tD 49 ?_;refine tD 50 ?_;refine tD 51 ?_;refine kE 52 ?_;refine kE 53 ?_;refine kE 54 ?_;refine kE 55 ?_;refine tD 56 ?_;refine tD 57 ?_;refine kE 58 ?_;refine kE 59 ?_;refine kE 60 ?_;refine kE 61 ?_;refine kE 62 ?_;refine tD 63 ?_;refine gC (by kernel_rfl) ?_ _;have HDF:Hid (D=false):=by
                 show D=false;rw[HFO.out,HST.out,UN HTS2.out HC5n.out];simp
                go_wp2_with fail;exact dB (v:=.bool false) (by simp[results,Tryz.results118,go_sem]) rfl ⟨by rw[HDF.out],hBw.trans (k0.mono s0)⟩
       ·have hke:k=m2:=by omega
        subst hke;have HOO:Hid (oK s.nA s.fA (-1) s.xB=true):=by
         show oK s.nA s.fA (-1) s.xB=true;rw[HOF.out,mD (by rw[HM2.out];exact eA _)];rfl
        have HZ:Hid (M=kI s):=by
         show M=kI s;rw[HMM.out,HL1.out,iB (by rw[HM2.out];exact eA _)];rfl
        obtain⟨az,cz,hu,hI⟩:=TT hrow;obtain⟨N,hN⟩:∃N,N=M.length:=⟨_,rfl⟩;rw[<-hN]at hu hMb;have HNN:=aA hN;have HI:=aA hI;obtain⟨wx,hwx⟩:∃wx,wx=wr:=⟨_,rfl⟩;subst hwx;subst hu;have HDD:Hid (D=(lS s&&oS s)):=by show D=_;rw[HFO.out,HLO.out,HTO.out,HOO.out];simp
        have KX:Hid (∀W,Below wx.heap.size wx W->Below W2.heap.size W2 W):=λW hW=>hB.trans (hW.mono hBs);clear hkl hk hrow hI hN HLL HOF;go_wp2_with fail;go_loopw[11,12](λi _ wr=>∃(a:Nat),a<=N/\i=.int .i64 a/\nX M s.gA a/\Below wx.heap.size wx wr)(λi _ _=>N-(intOf i).toNat);case atStart=>exact⟨0,zA _,rfl,⟨by simp,by simp⟩,dA _ _⟩
        case round=>
         clear y0 y1 y2 y3 y4 y5 y6 y7;obtain⟨a,ha,rfl,hst,hBa⟩:=hrel;have HSTQ:=aA hst;clear hst;by_cases hal:a<N
         ·have HAL:=aA hal;have haM:a<M.length:=by rw[<-HNN.out];exact hal
          rcases HI.out with h|⟨gz,haz,hgz,hzz⟩;·rw[h]at haM;simp at haM
          have HCZ:Hid (∀W,Below wx.heap.size wx W->∀t(ht:t<M.length),W.cell? ⟨gz,t,none⟩=some (.int .i64 M[t])):=λW hW t ht=>(hW.cell (p:=⟨gz,t,none⟩) hgz).trans (hzz t ht);subst haz;have HSN:=aA (λh1 h2=>HSTQ.out.succ haM h1 h2);have HNO:=aA (λ(h:M[a]∈M.take a\/s.gA<=M[a])=>RE (s:=s) (k:=a) (by rw[<-HZ.out];exact haM) (by simp only[<-HZ.out];exact h));have HDUP:=aA (λ(t:Nat)(ht:t<a)h=>Z0 (Z:=M) haM ht h);have HNEW:=aA (λh=>Z1 (Z:=M) haM h);obtain⟨z,hz⟩:∃z,z=M[a]:=⟨_,rfl⟩;rw[<-hz]at HSN HNO;have HZA:=aA hz;clear hz hzz;go_wp2_with fail;go_loopw[12](λi wr=>∃(t:Nat),t<=a/\i=.int .i64 t/\(∀q(hq:q<t)(hl:q<M.length),M[q]≠z)/\Below wx.heap.size wx wr)(λi _=>a-(intOf i).toNat);case atStart=>exact⟨0,zA _,rfl,λq hq=>absurd hq (jI _),hBa⟩
          case round=>
           obtain⟨t,ht,rfl,hne,hBt⟩:=hrel;have HNE:=aA hne;clear hne;have q2:=HCZ.out wr hBt a haM;rw[<-HZA.out]at q2;have a1:(0:Int)<=(a:Int):=by omega
           have a2:(a:Int)<N:=by have:=HAL.out;omega
           by_cases htl:t<a
           ·have HTL:=aA htl;have htM:t<M.length:=by omega
            have q1:=HCZ.out wr hBt t htM;have HEQ:Hid (M[t]=z->oS s=false):=λe=>HNO.out (.inl (by rw[HZA.out];exact HDUP.out t htl (by rw[e,HZA.out])));have HXT:Hid (∀y,y=M[t]->y≠z->∀q(hq:q<t+1)(hl:q<M.length),M[q]≠z):=λy hy hne q hq hl=>by
             by_cases e:q=t;·subst e;rw[<-hy];exact hne
             ·exact HNE.out q (by omega) hl
            obtain⟨y,hy⟩:∃y,y=M[t]:=⟨_,rfl⟩;rw[<-hy]at q1 HEQ;have HYT:=aA hy;have t1:(0:Int)<=(t:Int):=by omega
            have t2:(t:Int)<N:=by have:=HAL.out;omega
            clear hy;by_cases hyz:y=z
            ·have hb:(y==z)=true:=by simpa using hyz
             have HDF:Hid (D=false):=by show D=false;rw[HDD.out,HEQ.out hyz];simp
             clear hyz;go_wp2_with fail;go_quiet(fail);go_wp2_with fail;exact dB (v:=.bool false) (by simp[results,Tryz.results118,go_sem]) rfl ⟨by rw[HDF.out],hBw.trans ((KX.out _ (CQ hBt)).mono s0)⟩
            ·have hb:(y==z)=false:=by simpa using hyz
             have HYZ:=aA hyz;clear hyz;go_wp2_with fail;go_quiet(fail);go_wp2_with fail;go_roundw;case rel=>exact⟨t+1,HTL.out,by have h1:=HTL.out;have h2:=HAL.out;go_num,HXT.out y HYT.out HYZ.out,CQ hBt⟩
             case measure=>have:=HTL.out;simp[intOf];omega
           ·have hte:t=a:=by omega
            subst hte;have HFRESH:Hid (z∉M.take t):=by show z∉M.take t;rw[HZA.out];exact HNEW.out (λq hq=>by rw[<-HZA.out];exact HNE.out q hq (by omega))
            obtain⟨y0,y1,y2,y3,y4,y5,y6,y7⟩:=gD (BX.out wr (KX.out _ hBt)).2;clear htl ht;by_cases hnz:s.gA<=z
            ·have hb:decide (s.gA<=z)=true:=eC hnz;have HDF:Hid (D=false):=by show D=false;rw[HDD.out,HNO.out (.inr hnz)];simp
             go_wp2_with fail;go_quiet(fail);go_wp2_with fail;exact dB (v:=.bool false) (by simp[results,Tryz.results118,go_sem]) rfl ⟨by rw[HDF.out],hBw.trans ((KX.out _ (CQ hBt)).mono s0)⟩
            ·have hb:decide (s.gA<=z)=false:=vD hnz;have HNX:Hid (nX M s.gA (t+1)):=HSN.out HFRESH.out (by omega);clear hnz;go_wp2_with fail;go_quiet(fail);go_wp2_with fail;go_roundw;case rel=>exact⟨t+1,HAL.out,by have:=HAL.out;go_num,HNX.out,CQ hBt⟩
             case measure=>have:=HAL.out;simp[intOf];omega
         ·have hae:a=N:=by omega
          subst hae;have HSO:Hid (oS s=true):=by
           have:=HSTQ.out;rw[HNN.out,HZ.out]at this;exact OU this
          have HDC:Hid (D=lS s):=by show D=_;rw[HDD.out,HSO.out];simp
          obtain⟨y0,y1,y2,y3,y4,y5,y6,y7⟩:=gD (BX.out wr (KX.out _ hBa)).2;obtain⟨g1,hg1⟩:∃g1,g1=eP s.gA:=⟨_,rfl⟩;obtain⟨g2,hg2⟩:∃g2,g2=eP s.fA:=⟨_,rfl⟩;obtain⟨g3,hg3⟩:∃g3,g3=eP s.nB:=⟨_,rfl⟩;obtain⟨g4,hg4⟩:∃g4,g4=eP s.uA:=⟨_,rfl⟩;obtain⟨g5,hg5⟩:∃g5,g5=eP s.iA:=⟨_,rfl⟩;have HCC:Hid (D=(g1&&g2&&g3&&g4&&g5)):=by show D=_;rw[HDC.out,hg1,hg2,hg3,hg4,hg5];rfl
          have HG1:=aA hg1;have HG2:=aA hg2;have HG3:=aA hg3;have HG4:=aA hg4;have HG5:=aA hg5;clear hg1 hg2 hg3 hg4 hg5 hal ha;cases g1<;>cases g2<;>cases g3<;>cases g4<;>cases g5;all_goals
           as_aux_lemma=>
            go_wp2_with(go_at_call 40;refine(wP _ _ _ _).mono ?_;rintro e wz⟨rfl,hwz⟩;subst hwz;rw[H_];first|rw[<-HG1.out]|rw[<-HG2.out]|rw[<-HG3.out]|rw[<-HG4.out]|rw[<-HG5.out]);go_ret;exact⟨by rw[HCC.out];rfl,hBw.trans ((KX.out _ hBa).mono s0)⟩
 ·have hmb:((m1:Int)!=(n2:Int))=true:=by simp;omega
  have HDF:Hid (D=false):=by show D=false;rw[HFO.out];unfold yO;rw[HM1.out,vD hm];rfl
  clear hm;go_enter Tryz.func118,Tryz.ntmps118;go_wp2_with fail;rw[<-HW2.out];go_ret;exact⟨by rw[HDF.out];rfl,hBw⟩
end Go.Proofs.YtedmnjimkhamaaaGreatDoor
