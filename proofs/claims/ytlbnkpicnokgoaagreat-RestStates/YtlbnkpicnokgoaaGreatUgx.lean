import Derived.Deep.DeepCutAuto
import Derived.Test.YtlbnkpicnokgoaaGreatCWk
namespace Go.Proofs.YtlbnkpicnokgoaaGreat
open Go.RowKit Go.Maps
set_option linter.unusedVariables false
set_option maxRecDepth 100000
def gC_ (l:List UInt8):ByteArray:=⟨l.toArray⟩
def putV (l:List bi_):ByteArray:=if putE l = 0 then gC_ (de_ l) else ⟨#[]⟩
theorem kN_ (l:List UInt8):strOfNums (l.map (fun b=>(b.toNat:Int))) = gC_ l:=by
 unfold strOfNums gC_;rw [List.map_map];congr 1
 have:(fun (n:Int)=>UInt8.ofNat n.toNat) ∘ (fun b:UInt8=>(b.toNat:Int)) = id:=by
  funext b
  simp
 rw [this,List.map_id]
theorem nv_ (W:World) {n:Nat} {b:Option Addr} {m c:Nat} {l:List UInt8} (h:W.ownsRow n 5 1 (.slice b m c) m (byC_ l)):(convert 144 9 (.slice b m c)).run Tryz.prog W = .ok (.string (gC_ l)) W:=by
 have hl:l.length = m:=by have:=h.1;rw [ez_] at this;omega
 rcases h.2 with ⟨e,e0⟩ | ⟨g,cap,cur,e,_,hg,_⟩
 ·cases e;have:l = []:=List.length_eq_zero_iff.1 (by omega);subst this;exact run_convert_bytes_nil W 144 5 Tryz.underlying144 Tryz.underlying5 0 0 9 Tryz.underlying9
 ·cases e;have:=run_convert_bytes_arg W 144 5 Tryz.underlying144 Tryz.underlying5 g 0 m c (l.map (fun b=>(b.toNat:Int))) (by rw [List.length_map];exact hl) (fun i hi=>by
   have hc:=h.cells (g:=g) rfl i _ (show (byC_ l)[i]? = some (.int .u8 ((l[i]'(by omega)).toNat:Int)) by unfold byC_;rw [List.getElem?_map,List.getElem?_eq_getElem (by omega)];rfl);rw [cN_] at hc;rw [hc,List.getD_eq_getElem?_getD,List.getElem?_map,List.getElem?_eq_getElem (by omega)];rfl) 9 Tryz.underlying9
  rw [kN_] at this;exact this
end Go.Proofs.YtlbnkpicnokgoaaGreat
