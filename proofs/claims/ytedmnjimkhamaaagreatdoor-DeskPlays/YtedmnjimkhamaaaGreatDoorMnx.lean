import Derived.Test.YtedmnjimkhamaaaGreatDoorMcx
namespace Go.Proofs.YtedmnjimkhamaaaGreatDoor
set_option linter.unusedVariables false
set_option maxRecDepth 100000
set_option maxHeartbeats 4000000
open Go.RowKit
theorem VA{c:UInt8}(h:mJ c=false):c.toNat<48\/57<c.toNat:=by
 have:¬(48<=c.toNat/\c.toNat<=57):=λe=>by rw[kW.2 e]at h;cases h
 omega
theorem UF(s:ByteArray)(h:0<s.size):s.data.toList.head?=some s[0]:=by
 have hl:0<s.data.toList.length:=by simpa using h
 rw[List.head?_eq_getElem?,tA hl];show some s.data.toList[0]=some s.data[0];simp
theorem OQ(s:ByteArray)(w:World)(hs:s.size<=1000000):
 Calls Tryz.prog 64 #[.string s] w λe w'=>Below w.heap.size w w'/\((vM s.data.toList=false/\e=aK 1)\/(vM s.data.toList=true/\e=.returned (.int .i64 (eH s.data.toList:Nat)))):=by
 have hlen:s.data.toList.length=s.size:=by simp
 have HNO:Hid (s.data.toList.all mJ=false->vM s.data.toList=false):=λh=>by unfold vM;rw[h];simp
 by_cases hok:(1<=s.size/\s.size<=6)/\(s.size=1\/s.data.toList.head?≠some 48);rotate_left
 ·have HN:Hid (vM s.data.toList=false):=by
   show _=false;unfold vM;rw[hlen,mI];intro h;simp only[aC,mC]at h;exact hok ⟨h.1.1,h.2⟩
  by_cases h0:s.size=0
  ·have e:s=⟨#[]⟩:=by
    apply uH;exact Array.eq_empty_of_size_eq_zero h0
   subst e;clear hok hlen h0;go_enter Tryz.func64,Tryz.ntmps64;go_wp2_with fail;refine(aN 1 [true,false,false] _ _ (by simp) (fQ w [true,false,false]) (by simp)).mono ?_;rintro e w2⟨rfl,rfl⟩;exact⟨rfl,(dA _ _).alloc (eA _) _,.inl ⟨HN.out,rfl⟩⟩
  ·have hne:(s.toList==[])=false:=by
    rw[zC,xD];intro e;have:=congrArg List.length e;rw[hlen]at this;exact h0 (by simpa using this)
   have h1:1<s.size:=by
    rcases xG 1 s.size with h|h;·exact h
    ·exact absurd ⟨⟨by omega,by omega⟩,.inl (by omega)⟩ hok
   have h1':(1:Int)<s.size:=by omega
   have j1:(0:Int)<s.size:=by omega
   have h00:0<s.size:=by omega
   have HBD:6<s.size\/(((s[0]'h00).toNat:Int)==48)=true:=by
    rcases xG 6 s.size with h|h;·exact .inl h
    ·right;have:s.data.toList.head?=some 48:=by
      apply yF;intro hh;exact hok ⟨⟨by omega,h⟩,.inr hh⟩
     rw[UF s (by omega)]at this;rw[yG this];rfl
   have HBY:Hid (true∈[false,decide ((6:Int)<s.size),((s[0]'h00).toNat:Int)==48]):=by
    show true∈_;rcases HBD with h|h;·have:decide ((6:Int)<s.size)=true:=eC (by omega);rw[this];simp
    ·rw[h];simp
   obtain⟨w1,hw1⟩:∃w1,w1=w.alloc (.cells #[.bool false,.bool (decide ((6:Int)<s.size)),.bool (((s[0]'h00).toNat:Int)==48)] 4):=⟨_,rfl⟩;have HBN:Hid (lO w1 w.heap.size 0 [false,decide ((6:Int)<s.size),((s[0]'h00).toNat:Int)==48]):=by show lO w1 _ 0 _;rw[hw1];exact fQ w [false,decide ((6:Int)<s.size),((s[0]'h00).toNat:Int)==48]
   have L1:Hid (Below w.heap.size w w1):=by show Below _ w w1;rw[hw1];exact(dA _ _).alloc (eA _) _
   have HW1:=aA hw1;clear hok h0 hw1 HBD;go_enter Tryz.func64,Tryz.ntmps64;go_wp2_with fail;rw[<-HW1.out];refine(aN 1 [false,decide ((6:Int)<s.size),((s[0]'h00).toNat:Int)==48] _ _ (by simp) HBN.out HBY.out).mono ?_;rintro e w2⟨rfl,rfl⟩;exact⟨rfl,L1.out,.inl ⟨HN.out,rfl⟩⟩
 have H1:=aA hok;obtain⟨⟨h1,h6⟩,hz⟩:=hok;have hne:(s.toList==[])=false:=by
  rw[zC,xD];intro e;have:=congrArg List.length e;rw[hlen,List.length_nil]at this;omega
 have j0:(0:Int)<s.size:=by omega
 have j6:¬((6:Int)<s.size):=by omega
 by_cases h2:1<s.size
 ·have h2':(1:Int)<s.size:=by omega
  have hz':((s[0].toNat:Int)==48)=false:=by
   rcases hz with hz|hz;·omega
   ·rw[UF s (by omega)]at hz;rw[xD];intro h;exact hz (congrArg some (iJ.1 (by simpa using wL h)))
  have HB0:Hid (Below w.heap.size w (w.alloc (.cells #[.bool false,.bool false,.bool false] 4))):=(dA _ _).alloc (eA _) _;go_enter Tryz.func64,Tryz.ntmps64;go_wp2_with(go_at_call 73;refine(zM 1 [false,false,false] _ _ (by simp) (fQ w [false,false,false]) (by simp)).mono ?_;rintro e w'⟨rfl,hw'⟩;rw[hw'];clear hw');go_loopw[3,22](λn i wr=>∃(k m:Nat),k<=s.size/\i=.int .i64 k/\n=.int .i64 m/\m=eH (s.data.toList.take k)/\(s.data.toList.take k).all mJ=true/\Below w.heap.size w wr)(λ_ i _=>s.size-(intOf i).toNat);case atStart=>exact⟨0,0,zA _,rfl,rfl,rfl,rfl,HB0.out⟩
  case round=>
   obtain⟨k,m,hk,rfl,rfl,hm,ha,hBr⟩:=hrel;have hmb:m<1000000:=by
    have h2:=IS _ ha;rw[<-hm,iD]at h2;exact uC h2 (AW (by omega))
   have HM:=aA hm;have HA:=aA ha;have HBR:=aA hBr;clear hm ha hBr;by_cases hlt:k<s.size
   ·have j1:(0:Int)<=(k:Int):=by omega
    have j2:(k:Int)<s.size:=by omega
    have HLT:=aA hlt;have SA:Hid (∀W',Below wr.heap.size wr W'->Below wr.heap.size wr W'):=λ_ h=>h;go_upto_region 6 with fail;refine zB (S:=λW'=>Below wr.heap.size wr W') (by kernel_rfl) (SA.out _ (dA _ _).drew) (λhHeld=>?_);obtain⟨wq,hwq⟩:∃wq,wq=wr.drew:=⟨_,rfl⟩;have Lwq:Hid (Below wr.heap.size wr wq):=by show Below wr.heap.size wr wq;rw[hwq];exact(dA _ _).drew
    rw[<-hwq]at hHeld⊢;clear hwq;refine tk 0 ?_;refine tk 1 ?_;refine tk 2 ?_;refine tk 3 ?_;refine tk 4 ?_;refine tk 5 ?_;refine tk 6 ?_;refine tk 7 ?_;refine pG 8 (λK hK=>?_);go_simp;obtain⟨wa,hwa⟩:∃wa,wa=wq.alloc (.cells #[.bool (decide (((s[k]'hlt).toNat:Int)<48)),.bool (decide ((57:Int)<((s[k]'hlt).toNat:Int)))] 4):=⟨_,rfl⟩;have HBN:Hid (lO wa wq.heap.size 0 [decide (((s[k]'hlt).toNat:Int)<48),decide ((57:Int)<((s[k]'hlt).toNat:Int))]):=by show lO wa wq.heap.size 0 _;rw[hwa];exact fQ wq [decide (((s[k]'hlt).toNat:Int)<48),decide ((57:Int)<((s[k]'hlt).toNat:Int))]
    have Lwa:Hid (Below wr.heap.size wr wa):=by show Below wr.heap.size wr wa;rw[hwa];exact Lwq.out.alloc Lwq.out.size _
    rw[<-hwa];refine hK.out _ _ (SA.out _ Lwa.out) (λhHa=>?_);clear hK K hwa;try refine hG ?_
    refine pG 9 (λK hK=>?_);go_simp;by_cases hbad:mJ (s[k]'hlt)=false;·refine(aN 1 [decide (((s[k]'hlt).toNat:Int)<48),decide ((57:Int)<((s[k]'hlt).toNat:Int))] _ _ (by simp) HBN.out (by have:=VA hbad;simp;omega)).mono ?_;rintro e wb⟨rfl,rfl⟩;exact⟨rfl,HBR.out.trans (Lwa.out.mono HBR.out.size),.inl ⟨HNO.out (MC s k HLT.out hbad),rfl⟩⟩
    refine(zM 1 [decide (((s[k]'hlt).toNat:Int)<48),decide ((57:Int)<((s[k]'hlt).toNat:Int))] _ _ (by simp) HBN.out (by have:=kW.1 (by simpa using hbad);simp;omega)).mono ?_;rintro e wb⟨rfl,hwb⟩;rw[hwb];refine hK.out _ _ (SA.out _ Lwa.out) (λhHb=>?_);clear hK K hwb;try refine hG ?_
    refine gC (by kernel_rfl) ?_ _;have hdg:mJ (s[k]'hlt)=true:=by simpa using hbad
    obtain⟨d1,d2⟩:=kW.1 hdg;have HMN:Hid (10*m+((s[k]'hlt).toNat-48)=eH (s.data.toList.take (k+1))):=by show _=_;rw[KE hlt,HM.out]
    have HAN:=aA (LS s k hlt HA.out hdg);have q1:IntKind.i64.wrap (10*(m:Int))=10*m:=by rw[uB];omega
    have q2:IntKind.u8.wrap (((s[k]'hlt).toNat:Int)-48)=(((s[k]'hlt).toNat-48:Nat):Int):=by rw[IntKind.wrap_u8];omega
    have q3:IntKind.i64.wrap ((((s[k]'hlt).toNat-48:Nat):Int))=(((s[k]'hlt).toNat-48:Nat):Int):=by rw[uB];omega
    have q4:IntKind.i64.wrap (10*(m:Int)+(((s[k]'hlt).toNat-48:Nat):Int))=((10*m+((s[k]'hlt).toNat-48):Nat):Int):=by rw[uB];omega
    have KF:Hid (Below w.heap.size w wa):=HBR.out.trans (Lwa.out.mono HBR.out.size);clear hdg hbad;go_wp2_with fail;go_roundw;case rel=>exact⟨k+1,10*m+((s[k]'HLT.out).toNat-48),HLT.out,by have:=HLT.out;go_num,by first|rfl|(simp;omega),HMN.out,HAN.out,KF.out⟩
    case measure=>have:=HLT.out;simp[intOf];omega
   ·have hke:k=s.size:=by omega
    have e:s.data.toList.take k=s.data.toList:=iB (by simp;omega);rw[e]at HM HA;have HOK:Hid (vM s.data.toList=true):=by
     show _=true;unfold vM;rw[hlen,HA.out,eC H1.out.1.1,eC H1.out.1.2,eC H1.out.2];rfl
    clear hlt hk e;go_wp2_with fail;go_ret;exact⟨HBR.out,.inr ⟨HOK.out,by rw[<-HM.out];rfl⟩⟩
 ·have h2':¬((1:Int)<s.size):=by omega
  have HB0:Hid (Below w.heap.size w (w.alloc (.cells #[.bool false,.bool false,.bool false] 4))):=(dA _ _).alloc (eA _) _;go_enter Tryz.func64,Tryz.ntmps64;go_wp2_with(go_at_call 73;refine(zM 1 [false,false,false] _ _ (by simp) (fQ w [false,false,false]) (by simp)).mono ?_;rintro e w'⟨rfl,hw'⟩;rw[hw'];clear hw');go_loopw[3,22](λn i wr=>∃(k m:Nat),k<=s.size/\i=.int .i64 k/\n=.int .i64 m/\m=eH (s.data.toList.take k)/\(s.data.toList.take k).all mJ=true/\Below w.heap.size w wr)(λ_ i _=>s.size-(intOf i).toNat);case atStart=>exact⟨0,0,zA _,rfl,rfl,rfl,rfl,HB0.out⟩
  case round=>
   obtain⟨k,m,hk,rfl,rfl,hm,ha,hBr⟩:=hrel;have hmb:m<1000000:=by
    have h2:=IS _ ha;rw[<-hm,iD]at h2;exact uC h2 (AW (by omega))
   have HM:=aA hm;have HA:=aA ha;have HBR:=aA hBr;clear hm ha hBr;by_cases hlt:k<s.size
   ·have j1:(0:Int)<=(k:Int):=by omega
    have j2:(k:Int)<s.size:=by omega
    have HLT:=aA hlt;have SA:Hid (∀W',Below wr.heap.size wr W'->Below wr.heap.size wr W'):=λ_ h=>h;go_upto_region 6 with fail;refine zB (S:=λW'=>Below wr.heap.size wr W') (by kernel_rfl) (SA.out _ (dA _ _).drew) (λhHeld=>?_);obtain⟨wq,hwq⟩:∃wq,wq=wr.drew:=⟨_,rfl⟩;have Lwq:Hid (Below wr.heap.size wr wq):=by show Below wr.heap.size wr wq;rw[hwq];exact(dA _ _).drew
    rw[<-hwq]at hHeld⊢;clear hwq;refine tk 0 ?_;refine tk 1 ?_;refine tk 2 ?_;refine tk 3 ?_;refine tk 4 ?_;refine tk 5 ?_;refine tk 6 ?_;refine tk 7 ?_;refine pG 8 (λK hK=>?_);go_simp;obtain⟨wa,hwa⟩:∃wa,wa=wq.alloc (.cells #[.bool (decide (((s[k]'hlt).toNat:Int)<48)),.bool (decide ((57:Int)<((s[k]'hlt).toNat:Int)))] 4):=⟨_,rfl⟩;have HBN:Hid (lO wa wq.heap.size 0 [decide (((s[k]'hlt).toNat:Int)<48),decide ((57:Int)<((s[k]'hlt).toNat:Int))]):=by show lO wa wq.heap.size 0 _;rw[hwa];exact fQ wq [decide (((s[k]'hlt).toNat:Int)<48),decide ((57:Int)<((s[k]'hlt).toNat:Int))]
    have Lwa:Hid (Below wr.heap.size wr wa):=by show Below wr.heap.size wr wa;rw[hwa];exact Lwq.out.alloc Lwq.out.size _
    rw[<-hwa];refine hK.out _ _ (SA.out _ Lwa.out) (λhHa=>?_);clear hK K hwa;try refine hG ?_
    refine pG 9 (λK hK=>?_);go_simp;by_cases hbad:mJ (s[k]'hlt)=false;·refine(aN 1 [decide (((s[k]'hlt).toNat:Int)<48),decide ((57:Int)<((s[k]'hlt).toNat:Int))] _ _ (by simp) HBN.out (by have:=VA hbad;simp;omega)).mono ?_;rintro e wb⟨rfl,rfl⟩;exact⟨rfl,HBR.out.trans (Lwa.out.mono HBR.out.size),.inl ⟨HNO.out (MC s k HLT.out hbad),rfl⟩⟩
    refine(zM 1 [decide (((s[k]'hlt).toNat:Int)<48),decide ((57:Int)<((s[k]'hlt).toNat:Int))] _ _ (by simp) HBN.out (by have:=kW.1 (by simpa using hbad);simp;omega)).mono ?_;rintro e wb⟨rfl,hwb⟩;rw[hwb];refine hK.out _ _ (SA.out _ Lwa.out) (λhHb=>?_);clear hK K hwb;try refine hG ?_
    refine gC (by kernel_rfl) ?_ _;have hdg:mJ (s[k]'hlt)=true:=by simpa using hbad
    obtain⟨d1,d2⟩:=kW.1 hdg;have HMN:Hid (10*m+((s[k]'hlt).toNat-48)=eH (s.data.toList.take (k+1))):=by show _=_;rw[KE hlt,HM.out]
    have HAN:=aA (LS s k hlt HA.out hdg);have q1:IntKind.i64.wrap (10*(m:Int))=10*m:=by rw[uB];omega
    have q2:IntKind.u8.wrap (((s[k]'hlt).toNat:Int)-48)=(((s[k]'hlt).toNat-48:Nat):Int):=by rw[IntKind.wrap_u8];omega
    have q3:IntKind.i64.wrap ((((s[k]'hlt).toNat-48:Nat):Int))=(((s[k]'hlt).toNat-48:Nat):Int):=by rw[uB];omega
    have q4:IntKind.i64.wrap (10*(m:Int)+(((s[k]'hlt).toNat-48:Nat):Int))=((10*m+((s[k]'hlt).toNat-48):Nat):Int):=by rw[uB];omega
    have KF:Hid (Below w.heap.size w wa):=HBR.out.trans (Lwa.out.mono HBR.out.size);clear hdg hbad;go_wp2_with fail;go_roundw;case rel=>exact⟨k+1,10*m+((s[k]'HLT.out).toNat-48),HLT.out,by have:=HLT.out;go_num,by first|rfl|(simp;omega),HMN.out,HAN.out,KF.out⟩
    case measure=>have:=HLT.out;simp[intOf];omega
   ·have hke:k=s.size:=by omega
    have e:s.data.toList.take k=s.data.toList:=iB (by simp;omega);rw[e]at HM HA;have HOK:Hid (vM s.data.toList=true):=by
     show _=true;unfold vM;rw[hlen,HA.out,eC H1.out.1.1,eC H1.out.1.2,eC H1.out.2];rfl
    clear hlt hk e;go_wp2_with fail;go_ret;exact⟨HBR.out,.inr ⟨HOK.out,by rw[<-HM.out];rfl⟩⟩
end Go.Proofs.YtedmnjimkhamaaaGreatDoor
