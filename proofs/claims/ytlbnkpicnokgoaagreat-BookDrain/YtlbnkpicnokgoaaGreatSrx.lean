import Derived.ProofKit
import Derived.Test.YtlbnkpicnokgoaaGreatSax
namespace Go.Proofs.YtlbnkpicnokgoaaGreat
open Go.RowKit Go.Maps
set_option linter.unusedVariables false
set_option maxRecDepth 100000
set_option maxHeartbeats 400000
theorem jF_ (c:Int) (n:Nat) (w:World) (h1:-9223372036854775808≤c) (h2:c≤9223372036854775807) (hn:0 < n) (hm:n≤1000000000000) :
 Calls Tryz.prog 17 #[.int .i64 c,.int .i64 (n:Int)] w fun e w'=>∃ r:Nat,r < n∧e = .returned (.int .i64 r)∧w' = w:=by
 have hz:((n:Int) == 0) = false:=by rw [beq_eq_false_iff_ne];omega
 have hz':(n:Int)≠0:=by omega
 by_cases h:c < 0
 ·obtain ⟨k,rfl⟩:∃ k:Nat,c = -(k:Int) - 1:=⟨(-(c+1)).toNat,by omega⟩
  have e1:IntKind.i64.wrap (-(k:Int) - 1+1) = -(k:Int):=by rw [IntKind.wrap_i64];omega
  have e2:IntKind.i64.wrap (- -(k:Int)) = (k:Int):=by rw [IntKind.wrap_i64];omega
  have e2':IntKind.i64.wrap (k:Int) = (k:Int):=by rw [IntKind.wrap_i64];omega
  have e3:(k:Int).tmod (n:Int) = ((k % n:Nat):Int):=by rw [Int.tmod_eq_emod_of_nonneg (by omega)];omega
  have hl:=Nat.mod_lt k hn;have e4:IntKind.i64.wrap ((k % n:Nat):Int) = ((k % n:Nat):Int):=by rw [IntKind.wrap_i64];omega
  obtain ⟨r,hr⟩:∃ r,r = k % n:=⟨_,rfl⟩
  rw [← hr] at e3 e4 hl;clear hr;go_enter Tryz.func17,Tryz.ntmps17;go_wp2
  go_ret
  exact ⟨r,hl,rfl,rfl⟩
 ·obtain ⟨k,rfl⟩:∃ k:Nat,c = k:=⟨c.toNat,by omega⟩
  have e3:(k:Int).tmod (n:Int) = ((k % n:Nat):Int):=by rw [Int.tmod_eq_emod_of_nonneg (by omega)];omega
  have hl:=Nat.mod_lt k hn;have e4:IntKind.i64.wrap ((k % n:Nat):Int) = ((k % n:Nat):Int):=by rw [IntKind.wrap_i64];omega
  obtain ⟨r,hr⟩:∃ r,r = k % n:=⟨_,rfl⟩
  rw [← hr] at e3 e4 hl;clear hr;go_enter Tryz.func17,Tryz.ntmps17;go_wp2
  go_ret
  exact ⟨r,hl,rfl,rfl⟩
end Go.Proofs.YtlbnkpicnokgoaaGreat
