/- The walk of the law DeskPlays. -/
import Derived.Test.YtedmnjimkhamaaaGreatDoorDCr
import Derived.Test.YtedmnjimkhamaaaGreatDoorMxx
namespace Go.Proofs.YtedmnjimkhamaaaGreatDoor
set_option linter.unusedVariables false
set_option maxRecDepth 100000
set_option maxHeartbeats 4000000
open Go.RowKit Go.Maps
theorem WF(w:World)(hpow:rJ w):Calls Tryz.prog 6 #[] w λe w'=>e=.returned (.bool true)/\Below w.heap.size w w':=by
 have PL:Hid (∀w2,Below w.heap.size w w2->sG w2 (some ⟨w.heap.size+1,0,none⟩) (some ⟨w.heap.size+1+1,0,none⟩) (some ⟨w.heap.size+1+1+1,0,none⟩) 3 3 5 mX->Calls Tryz.prog 4 #[.agg #[.slice (some ⟨w.heap.size+1,0,none⟩) 3 3,.slice (some ⟨w.heap.size+1+1,0,none⟩) 3 3,.slice (some ⟨w.heap.size+1+1+1,0,none⟩) 5 5],.string fY] w2 λe w'=>e=.returned (.tuple #[.string AL,.int .i64 0])/\Below w2.heap.size w2 w'):=λw2 k2 hp=>by
  have:=TY mX _ _ _ 3 3 3 3 5 5 fY w2 hp (hpow.sA k2);rw[qr_,qs_]at this;exact this
 go_enter Tryz.func6,Tryz.ntmps6;go_wp2_with fail;refine(n6 w).mono ?_;rintro e w2⟨rfl,k2,hp⟩;go_wp2_with fail;refine(PL.out w2 k2 hp).mono ?_;rintro e w3⟨rfl,k3⟩;have K3:=aA (k2.trans (k3.mono k2.size));clear k2 k3 hp;unfold AL;go_wp2_with fail;go_ret;exact⟨rfl,K3.out⟩
theorem WT(p:lD)(a1 a2 a3:Option Addr)(n1 c1 n2 c2 n3 c3:Nat)(t:ByteArray)(w:World)(hp:sG w a1 a2 a3 n1 n2 n3 p)(hpow:rJ w)(hts:t.size<=9223372036854775807):
 Calls Tryz.prog 3 #[.agg #[.slice a1 n1 c1,.slice a2 n2 c2,.slice a3 n3 c3],.string t] w λe w'=>e=.returned (.bool true)/\Below w.heap.size w w':=by
 obtain⟨W1,hW1⟩:∃W1,W1=w.alloc (.cells #[.slice a1 n1 c1,.slice a2 n2 c2,.slice a3 n3 c3] 26):=⟨_,rfl⟩;have l1:Below w.heap.size w W1:=by rw[hW1];exact(dA _ _).alloc (eA _) _
 have x1:W1.heap[w.heap.size]?=some (.cells #[.slice a1 n1 c1,.slice a2 n2 c2,.slice a3 n3 c3] 26 (0,0)):=by rw[hW1];exact jA _ _
 have HW1:=aA hW1;have L1:=aA l1;have X1:=aA x1;obtain⟨p0,p1,p2⟩:=xH x1;have PA:=aA (TY p a1 a2 a3 n1 c1 n2 c2 n3 c3 t W1 (hp.sA l1) (hpow.sA l1));have PO:=aA (λW(hW:Below w.heap.size w W)=>p5 p a1 a2 a3 n1 c1 n2 c2 n3 c3 t W (hp.sA hW) hts);have DB:=aA (λW(hW:Below w.heap.size w W)=>WF W (hpow.sA hW));generalize bQ p t=R at*;generalize qN p t=E at*;clear hW1 l1 x1 hp hpow;go_enter Tryz.func3,Tryz.ntmps3;go_wp2_with fail;rw[<-HW1.out];refine PA.out.mono ?_;rintro e w2⟨rfl,k2⟩;clear p0 p1 p2;obtain⟨p0,p1,p2⟩:=xH (pB X1.out k2);have K2:=aA (L1.out.trans (k2.mono L1.out.size));clear k2;go_wp2_with fail;refine(PO.out _ K2.out).mono ?_;rintro e w3⟨rfl,k3⟩;have K3:=aA (K2.out.trans (k3.mono K2.out.size));clear k3 p0 p1 p2;go_wp2_with fail;refine(DB.out _ K3.out).mono ?_;rintro e w4⟨rfl,k4⟩;have K4:=aA (K3.out.trans (k4.mono K3.out.size));clear k4;go_wp2_with fail;go_ret;exact⟨rfl,K4.out⟩
end Go.Proofs.YtedmnjimkhamaaaGreatDoor
