import Derived.Deep.RegionHeld3
import Derived.BigQuiet
import Derived.Test.YtlbnkpicnokgoaaGreatOex
import Derived.Lib.AppendStr
import Derived.Laws.BytesArg
namespace Go.Proofs.YtlbnkpicnokgoaaGreat
open Go.RowKit Go.Maps
set_option linter.unusedVariables false
set_option maxRecDepth 100000
set_option maxHeartbeats 1000000
theorem dk_ {w:World} {cs:List Value} {T:TypeId}:aJ_ (w.alloc (.cells cs.toArray T)) (some ⟨w.heap.size,0,none⟩) cs:=.inr ⟨_,0,rfl,by simp,fun j u hj=>by
 rw [coc_ (World.alloc_heap_new w _),Nat.zero_add];simpa using hj⟩
theorem op_ {s:ByteArray} {i:Nat} (h:i < s.size):rNum s i = some (s[i].toNat,i+1):=dif_pos h
theorem oo_ {s:ByteArray} {i:Nat} (h:¬ i < s.size):rNum s i = none:=dif_neg h
theorem n8_ {s:ByteArray} {i:Nat} (h:i < s.size):∃ ht:0 < (s.extract i (i+1)).size,(s.extract i (i+1))[0] = s[i]:=by
 have hz:(s.extract i (i+1)).size = 1:=by rw [ByteArray.size_extract];omega
 refine ⟨by omega,?_⟩;have:=Has.of_ext (s:=s) (i:=i) (n:=1) (by omega);have hl:(s.extract i (i+1)).data.toList = [(s.extract i (i+1))[0]'(by omega)]:=by
  apply List.ext_getElem
  ·rw [bm_];exact hz
  ·intro k h1 h2;have:k = 0:=by simpa using h2
   subst this;rfl
 rw [hl] at this;obtain ⟨_,e⟩:=Has.one.1 this;exact e.symm
theorem eg_ (s:ByteArray) (i R:Nat) (w:World) (hs:s.size≤1000000) (hi:i≤s.size) (hR:cV_ w R s i) :
 Calls Tryz.prog 175 #[.pointer (some ⟨R,0,none⟩)] w fun e w'=>ac_ w.heap.size R w w'∧kk_ R s (fun n:Nat=>.int .i64 n) (rNum s i) e w':=by
 have HT:=hidI (kg_ s i 1 R w hs hi (by omega) hR);have HI:=hidI hi;by_cases hlt:i < s.size
 ·have HLT:=hidI hlt;obtain ⟨hz,h0⟩:=n8_ hlt;have e1:k4_ s i 1 = some (s.extract i (i+1),i+1):=if_pos (by omega);rw [op_ hlt];obtain ⟨c,hc⟩:∃ c,c = s[i]'hlt:=⟨_,rfl⟩
  rw [← hc] at h0 ⊢;rw [e1] at HT;obtain ⟨t,ht⟩:∃ t,t = s.extract i (i+1):=⟨_,rfl⟩
  rw [← ht] at HT;have h0':∃ hz:0 < t.size,t[0] = c:=by rw [ht];exact ⟨hz,h0⟩
  clear ht h0 hz hc e1 hlt;obtain ⟨hz,h0⟩:=h0';have hz':(0:Int) < (t.size:Int):=by omega
  clear hi hR;go_enter Tryz.func175,Tryz.ntmps175;go_wp2_with fail
  refine HT.out.mono ?_;rintro e w1 ⟨hF,rfl,hb,hj⟩;go_wp2_with fail
  have hw:wrap64 (c.toNat:Int) = c.toNat:=by have:=UInt8.toNat_lt c;simp only [wrap64];omega
  rw [hw];go_ret
  exact ⟨hF,rfl,hb,hj⟩
 ·have e1:k4_ s i 1 = none:=if_neg (by omega);rw [oo_ hlt];rw [e1] at HT;go_enter Tryz.func175,Tryz.ntmps175;go_wp2_with fail
  refine HT.out.mono ?_;rintro e w1 ⟨hF,rfl⟩;exact ⟨rfl,hF,rfl⟩
theorem kh_ (s:ByteArray) (i R:Nat) (w:World) (hs:s.size≤1000000) (hi:i≤s.size) (hR:cV_ w R s i) :
 Calls Tryz.prog 176 #[.pointer (some ⟨R,0,none⟩)] w fun e w'=>ac_ w.heap.size R w w'∧kk_ R s Value.string (rText s i) e w':=by
 have HN:=hidI (eg_ s i R w hs hi hR);obtain ⟨res,hres⟩:∃ res,res = rText s i:=⟨_,rfl⟩
 rw [← hres];unfold rText at hres;have HLR:=hidI (lth_ hR);cases hr:rNum s i with
 | none =>
   rw [hr] at HN hres;have HRES:=hidI hres;clear hR hr hres;go_enter Tryz.func176,Tryz.ntmps176;go_wp2_with fail
   refine HN.out.mono ?_;rintro e w1 ⟨hF,rfl⟩;exact ⟨rfl,hF,by rw [HRES.out];rfl⟩
 | some q =>
   obtain ⟨n,j⟩:=q;rw [hr] at HN hres;have hn256:=((ci_ s).fwd _ _ _ hr).2.2;simp only at hres;have HRES:=hidI hres;clear hR hr hres;go_enter Tryz.func176,Tryz.ntmps176;go_wp2_with fail
   refine HN.out.mono ?_;rintro e w1 ⟨hF,rfl,hb,hj⟩;have HF:=hidI hF;have T:=kg_ s j n R w1 hs hj (by omega) hb;go_wp2_with fail
   refine T.mono ?_;rintro e w2 ⟨hF2,hr2⟩;have hF3:ac_ w.heap.size R w w2:=hF.trans ⟨hF2.os,hF2.tape,hF2.output,hF2.size,fun k h1 h2=>hF2.block k (by have:=HF.out.size;omega) h2⟩;unfold k4_ at hr2;by_cases hc:n≤s.size - j
   ·rw [if_pos hc] at hr2;obtain ⟨rfl,hb2,hj2⟩:=hr2;have HE:Hid (res = some (s.extract j (j+n),j+n)):=by show res = _;rw [HRES.out,if_pos hc]
    go_wp2_with fail
    go_ret
    exact ⟨hF3,by rw [HE.out];exact ⟨rfl,hb2,hj2⟩⟩
   ·rw [if_neg hc] at hr2;have e2:e = panE 1:=hr2;subst e2;exact ⟨rfl,hF3,by rw [HRES.out,if_neg hc];rfl⟩
theorem lA_ (w:World):Calls Tryz.prog 117 #[.bool true] w fun e w'=>e = .returned (.int .i64 1)∧w' = w:=by
 go_enter Tryz.func117,Tryz.ntmps117;go_wp2_with fail
 go_ret
 exact ⟨rfl,rfl⟩
theorem kv_ (w:World):Calls Tryz.prog 117 #[.bool false] w fun e w'=>e = .returned (.int .i64 0)∧w' = w:=by
 go_enter Tryz.func117,Tryz.ntmps117;go_wp2_with fail
 go_ret
 exact ⟨rfl,rfl⟩
theorem jU_ (b:Bool) (w:World):Calls Tryz.prog 117 #[.bool b] w fun e w'=>e = .returned (.int .i64 (cC_ b))∧w' = w:=by
 cases b with
 | true=>exact lA_ w
 | false=>exact kv_ w
inductive a6_ where
 | num (n:Int)
 | flag (b:Bool)
 | text (s:ByteArray)
def a6_.val:a6_→Value
 | .num n=>.iface 3 (.int .i64 n)
 | .flag b=>.iface 4 (.bool b)
 | .text s=>.iface 9 (.string s)
def a6_.bytes:a6_→List UInt8
 | .num n=>[oct8 n]
 | .flag b=>[oct8 (cC_ b)]
 | .text s=>eF_ s
def a6_.ok:a6_→Bool
 | .num n=>decide (0≤n∧n≤255)
 | .flag _=>true
 | .text s=>decide (s.size≤255)
def b7_ (l:List a6_):List UInt8:=l.flatMap a6_.bytes
def putE (l:List a6_):Int:=if l.all a6_.ok = true then 0 else 3
def jE_ (W:World) (a:Option Addr) (l:List a6_):Prop:=aJ_ W a (l.map a6_.val)
def byC_ (l:List UInt8):List Value:=l.map (fun b=>.int .u8 (b.toNat:Int))
theorem bca_ (a b:List UInt8):byC_ (a ++ b) = byC_ a ++ byC_ b:=List.map_append
theorem eK_ (l:List UInt8):(byC_ l).length = l.length:=List.length_map _
theorem bc1_ (l:List UInt8):∀ u ∈ byC_ l,u.oneCell' = true:=by
 intro u hu;obtain ⟨b,_,rfl⟩:=List.mem_map.1 hu;rfl
theorem dm_ (s:ByteArray):Lib.strCells s = byC_ s.data.toList:=rfl
theorem Tryz.infoByte:(Tryz.prog.info? 5).map (fun i=>(i.zero,i.size,i.bytes)) = some (some (.int .u8 0),1,1):=by kernel_rfl
theorem cy_:eG_ 144 5 1 1:=c5_ Tryz.underlying144 Tryz.infoByte rfl (by omega)
theorem cY_ (n:Int) (w:World) (h:0≤n∧n≤255) :
 Calls Tryz.prog 116 #[.int .i64 n] w fun e w'=>e = .returned (.int .u8 ((oct8 n).toNat:Int))∧Below w.heap.size w w':=by
 have HU:Hid (((oct8 n).toNat:Int) = n):=oS_ h.1 (by omega);have h1:¬ n < 0:=by omega
 have h2:¬ 255 < n:=by omega
 clear h;go_enter Tryz.func116,Tryz.ntmps116;go_wp2_with fail
 refine (aG_ 3 [false,false] _ _ (by simp) (bl_ w [false,false]) (by simp)).mono ?_;rintro e w2 ⟨rfl,hw2⟩;have k2:Below w.heap.size w w2:=by rw [hw2];exact (Below.refl _ _).alloc (Nat.le_refl _) _
 clear hw2;go_wp2_with fail
 go_ret
 exact ⟨by rw [HU.out];rfl,k2⟩
theorem fQ_ (n:Int) (w:World) (h:¬ (0≤n∧n≤255)) :
 Calls Tryz.prog 116 #[.int .i64 n] w fun e w'=>e = panE 3∧Below w.heap.size w w':=by
 have HN:=hidI h;clear h;go_enter Tryz.func116,Tryz.ntmps116;go_wp2_with fail
 refine (ax_ 3 [decide (n < 0),decide (255 < n)] _ _ (by simp) (bl_ w [decide (n < 0),decide (255 < n)]) (by have:=HN.out;simp;omega)).mono ?_;rintro e w2 ⟨rfl,rfl⟩;exact ⟨rfl,rfl,(Below.refl _ _).alloc (Nat.le_refl _) _⟩
end Go.Proofs.YtlbnkpicnokgoaaGreat
