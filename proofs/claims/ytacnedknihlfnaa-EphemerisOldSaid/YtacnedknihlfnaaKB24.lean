import Derived.Test.YtacnedknihlfnaaKB23
namespace Go.Proofs.Ytacnedknihlfnaa
open Go.RowKit
set_option maxRecDepth 100000
set_option linter.unusedVariables false
set_option maxHeartbeats 8000000
theorem limz_fdiv {x:Int} {a:Nat} (y:Int) (h:Lim x.natAbs a):Lim (x.fdiv y).natAbs (a+1):=by
 refine Nat.lt_of_le_of_lt (m:=x.natAbs+1) ?_ ?_
 ·rw[Int.fdiv_eq_ediv]
  have h1:(x/y).natAbs ≤x.natAbs:=Int.natAbs_ediv_le_natAbs x y
  split <;> omega
 ·have h1:B32^a+1≤B32^(a+1):=by
   rw[Nat.pow_succ]
   have h2:0<B32^a:=Nat.pow_pos (by decide)
   have h3:B32^a*2≤B32^a*B32:=Nat.mul_le_mul_left _ (by decide)
   omega
  unfold Lim at h
  omega
end Go.Proofs.Ytacnedknihlfnaa
