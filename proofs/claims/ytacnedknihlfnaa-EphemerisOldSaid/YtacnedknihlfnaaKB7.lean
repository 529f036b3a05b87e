import Derived.Test.YtacnedknihlfnaaKB5
import Derived.OpenShut
namespace Go.Proofs.Ytacnedknihlfnaa
open Go.RowKit
set_option maxRecDepth 100000
set_option linter.unusedVariables false
set_option maxHeartbeats 8000000
section
section
end
section
theorem c3_range (p q:Nat): -1≤c3 p q∧c3 p q≤1:=by unfold c3;split <;> (try split) <;> omega
theorem add_small {N M m:Nat} (h1:N<B32^m) (h2:M<B32^m):N+M<B32^(m+1):=by
 rw[Nat.pow_succ,B32_eq];rw[B32_eq] at h1 h2;omega
end
section
end
end
end Go.Proofs.Ytacnedknihlfnaa
