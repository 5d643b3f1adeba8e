import Derived.Test.YtedmnjimkhamaaaGreatDoorDCg
namespace Go.Proofs.YtedmnjimkhamaaaGreatDoor
set_option linter.unusedVariables false
set_option maxRecDepth 100000
open Go.RowKit Go.Maps
theorem p6(p:lD)(a1 a2 a3:Option Addr)(n1 c1 n2 c2 n3 c3:Nat)(s:yC)(b1 b2 b3:Option Addr)(m1 d1 m2 d2 m3 d3:Nat)(n:Nat)(l:ByteArray)(w:World)(hl:l.size<=1000000)(hp:sG w a1 a2 a3 n1 n2 n3 p)(ho:fI w n b1 b2 b3 m1 d1 m2 d2 m3 d3 s)(hnw:n<=w.heap.size)(hm:n1<=100)(hm2:n2<=100)(hR:zG p s=0):
 Calls Tryz.prog 15 #[.agg #[.slice a1 n1 c1,.slice a2 n2 c2,.slice a3 n3 c3],.agg #[.slice b1 m1 d1,.slice b2 m2 d2,.slice b3 m3 d3,.int .i64 s.gA,.int .i64 s.fA,.int .i64 s.nB,.int .i64 s.uA,.int .i64 s.iA],.string l] w λe w'=>nR w w' n e (zN p s (sJ l)) (wU p s (sJ l)) (jV p s (sJ l)):=by
 unfold sJ;by_cases h1:l=⟨#[108,121,105,110,103]⟩;·rw[qA h1,h1];exact YO p a1 a2 a3 n1 c1 n2 c2 n3 c3 s b1 b2 b3 m1 d1 m2 d2 m3 d3 n w hp ho hnw hR
 rw[kA h1];by_cases h2:l=⟨#[115,117,109,115]⟩;·rw[qA h2,h2];exact YV p a1 a2 a3 n1 c1 n2 c2 n3 c3 s b1 b2 b3 m1 d1 m2 d2 m3 d3 n w hp ho hnw hR
 rw[kA h2];cases hb:blk l with
 |false=>rw[qA rfl];exact ZZ p a1 a2 a3 n1 c1 n2 c2 n3 c3 s b1 b2 b3 m1 d1 m2 d2 m3 d3 n l w hl h1 h2 hb _ _
 |true=>
   rw[kA (by decide)];by_cases hsend:lH l=⟨#[115,101,110,100]⟩;·rw[hsend,EO];cases hx:blk (zE l)with
    |false=>rw[kA (by simp)];exact XU p a1 a2 a3 n1 c1 n2 c2 n3 c3 s b1 b2 b3 m1 d1 m2 d2 m3 d3 n l w hl hb hsend hx _ _
    |true=>
      cases hy:blk (zE (zE l))with
      |false=>rw[kA (by decide)];exact XV p a1 a2 a3 n1 c1 n2 c2 n3 c3 s b1 b2 b3 m1 d1 m2 d2 m3 d3 n l w hl hb hsend hx hy _ _
      |true=>
        rw[qA (by decide)];by_cases hneg:yE (eM (lH (zE l))) p.nC<0
        ·have e:zN p s (.send (lH (zE l)) (lH (zE (zE l))) (zE (zE (zE l))))=5:=by show uV _ _ _ _ _=5;unfold uV;rw[qA hneg]
         rw[e];exact XW p a1 a2 a3 n1 c1 n2 c2 n3 c3 s b1 b2 b3 m1 d1 m2 d2 m3 d3 n l w hl hp ho hnw hb hsend hx hy hm hneg _ _
        ·have e:zN p s (.send (lH (zE l)) (lH (zE (zE l))) (zE (zE (zE l))))=pL p s (yE (eM (lH (zE l))) p.nC) (lH (zE (zE l))) (zE (zE (zE l))):=by show uV _ _ _ _ _=_;unfold uV;rw[kA hneg]
         rw[e];exact YU p a1 a2 a3 n1 c1 n2 c2 n3 c3 s b1 b2 b3 m1 d1 m2 d2 m3 d3 n l w hl hp ho hnw hb hsend hx hy hm hm2 hneg
   by_cases hjoin:lH l=⟨#[106,111,105,110]⟩;·rw[hjoin,EM];cases hx:blk (zE l)with
    |false=>rw[kA (by decide)];exact YL p a1 a2 a3 n1 c1 n2 c2 n3 c3 s b1 b2 b3 m1 d1 m2 d2 m3 d3 n l w hl hb hjoin hx _ _
    |true=>
      rw[qA rfl];cases hn:vM (zE (zE l)).data.toList with
      |false=>rw[fU hn];exact YM p a1 a2 a3 n1 c1 n2 c2 n3 c3 s b1 b2 b3 m1 d1 m2 d2 m3 d3 n l w hl hb hjoin hx hn _ _
      |true=>
        have e:gI (.join (lH (zE l))) (zE (zE l))=.join (lH (zE l)) (zE (zE l)):=by unfold gI;rw[hn];rfl
        rw[e];by_cases hneg:yE (iK (lH (zE l))) p.jB<0
        ·have e:zN p s (.join (lH (zE l)) (zE (zE l)))=5:=by show(if _ then _ else _)=(5:Int);rw[qA hneg]
         rw[e];exact YN p a1 a2 a3 n1 c1 n2 c2 n3 c3 s b1 b2 b3 m1 d1 m2 d2 m3 d3 n l w hl hp ho hnw hb hjoin hx hn hm2 hneg _ _
        ·have e:zN p s (.join (lH (zE l)) (zE (zE l)))=oR p s (yE (iK (lH (zE l))) p.jB) (eH (zE (zE l)).data.toList:Nat):=by show(if _ then _ else _)=_;rw[kA hneg]
         rw[e];exact YR p a1 a2 a3 n1 c1 n2 c2 n3 c3 s b1 b2 b3 m1 d1 m2 d2 m3 d3 n l w hl hp ho hnw hb hjoin hx hn hm2 hR hneg
   by_cases hnext:lH l=⟨#[110,101,120,116]⟩;·rw[hnext,EN];cases hx:blk (zE l)with
    |true=>rw[qA rfl];exact YP p a1 a2 a3 n1 c1 n2 c2 n3 c3 s b1 b2 b3 m1 d1 m2 d2 m3 d3 n l w hl hb hnext hx _ _
    |false=>
      rw[kA (by decide)];by_cases hneg:yE (iK (zE l)) p.jB<0
      ·have e:zN p s (.next (zE l))=5:=by show oW _ _ _=5;unfold oW;rw[qA hneg]
       rw[e];exact YQ p a1 a2 a3 n1 c1 n2 c2 n3 c3 s b1 b2 b3 m1 d1 m2 d2 m3 d3 n l w hl hp ho hnw hb hnext hx hm2 hneg _ _
      ·have e:zN p s (.next (zE l))=mK p s (yE (iK (zE l)) p.jB):=by show oW _ _ _=_;unfold oW;rw[kA hneg]
       rw[e];exact YT p a1 a2 a3 n1 c1 n2 c2 n3 c3 s b1 b2 b3 m1 d1 m2 d2 m3 d3 n l w hl hp ho hnw hb hnext hx hm2 hneg
   by_cases hleave:lH l=⟨#[108,101,97,118,101]⟩;·rw[hleave,DX];cases hn:vM (zE l).data.toList with
    |false=>rw[fU hn];exact XK p a1 a2 a3 n1 c1 n2 c2 n3 c3 s b1 b2 b3 m1 d1 m2 d2 m3 d3 n l w hl hb hleave hn _ _
    |true=>
      have e:gI .leave (zE l)=.leave (zE l):=by unfold gI;rw[hn];rfl
      rw[e];exact EQ p a1 a2 a3 n1 c1 n2 c2 n3 c3 s b1 b2 b3 m1 d1 m2 d2 m3 d3 n l w hl hp ho hnw .leave hb hleave hn
   by_cases hack:lH l=⟨#[97,99,107]⟩;·rw[hack,FE];cases hn:vM (zE l).data.toList with
    |false=>rw[fU hn];exact ZY p a1 a2 a3 n1 c1 n2 c2 n3 c3 s b1 b2 b3 m1 d1 m2 d2 m3 d3 n l w hl hb hack hn _ _
    |true=>
      have e:gI .ack (zE l)=.ack (zE l):=by unfold gI;rw[hn];rfl
      rw[e];exact EQ p a1 a2 a3 n1 c1 n2 c2 n3 c3 s b1 b2 b3 m1 d1 m2 d2 m3 d3 n l w hl hp ho hnw .ack hb hack hn
   by_cases hback:lH l=⟨#[98,97,99,107]⟩;·rw[hback,EK];cases hn:vM (zE l).data.toList with
    |false=>rw[fU hn];exact YJ p a1 a2 a3 n1 c1 n2 c2 n3 c3 s b1 b2 b3 m1 d1 m2 d2 m3 d3 n l w hl hb hback hn _ _
    |true=>
      have e:gI .back (zE l)=.back (zE l):=by unfold gI;rw[hn];rfl
      rw[e];exact EQ p a1 a2 a3 n1 c1 n2 c2 n3 c3 s b1 b2 b3 m1 d1 m2 d2 m3 d3 n l w hl hp ho hnw .back hb hback hn
   by_cases hdrop:lH l=⟨#[100,114,111,112]⟩;·rw[hdrop,EL];cases hn:vM (zE l).data.toList with
    |false=>rw[fU hn];exact YK p a1 a2 a3 n1 c1 n2 c2 n3 c3 s b1 b2 b3 m1 d1 m2 d2 m3 d3 n l w hl hb hdrop hn _ _
    |true=>
      have e:gI .drop (zE l)=.drop (zE l):=by unfold gI;rw[hn];rfl
      rw[e];exact EQ p a1 a2 a3 n1 c1 n2 c2 n3 c3 s b1 b2 b3 m1 d1 m2 d2 m3 d3 n l w hl hp ho hnw .drop hb hdrop hn
   unfold pP;rw[kA hsend,kA hjoin,kA hnext,kA hleave,kA hack,kA hback,kA hdrop];exact a_ p a1 a2 a3 n1 c1 n2 c2 n3 c3 s b1 b2 b3 m1 d1 m2 d2 m3 d3 n l w hl hb hsend hjoin hnext hleave hack hback hdrop _ _
end Go.Proofs.YtedmnjimkhamaaaGreatDoor
