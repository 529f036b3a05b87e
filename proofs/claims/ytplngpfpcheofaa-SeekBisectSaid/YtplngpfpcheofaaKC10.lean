import Derived.Test.YtplngpfpcheofaaKC8
import Derived.Test.YtplngpfpcheofaaKC9
import Derived.Deep.LoopGhost
namespace Go.Proofs.Ytplngpfpcheofaa
open Go.RowKit
set_option maxRecDepth 100000
set_option linter.unusedVariables false
set_option maxHeartbeats 8000000
theorem Sq.nt {w:World} {v:Value} {xs:List Nat} (h:Sq w .u32 v xs) (ho:okb B32 xs):Nt w v (vl B32 xs):=⟨xs,ho,rfl,h⟩
theorem few_in (a:Option Addr) (n c:Nat) (xs:List Nat) (m:Nat) (w:World) (e0:n=xs.length) (r0:Rd w .u32 a xs) (l0:xs.length≤c) (m0:c≤maxLen) (z0:a=none→c=0) (hm:m≤1000):
 Calls Try.prog 33 #[.slice a n c,.int .i64 m] w fun e w'=>∃v',e= .returned v'∧Sq w' .u32 v' (xs.take m)∧Below w.heap.size w w':=by
 refine(few_any a n c xs m w e0 r0 l0 m0 z0 (by omega)).mono ?_
 rintro e w' ⟨v',h1,h2,h3⟩
 exact⟨v',h1,h2.sq (by simp;omega),h3⟩
end Go.Proofs.Ytplngpfpcheofaa
