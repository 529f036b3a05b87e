import Derived.Test.YtplngpfpcheofaaKC24
namespace Go.Proofs.Ytplngpfpcheofaa
open Go.RowKit
set_option maxRecDepth 100000
set_option linter.unusedVariables false
set_option maxHeartbeats 8000000
theorem pair5 {a:Act} {i j k l m:Nat} {x y z u v:Operand} {p q r s t:Value} (h:a.eval x=p) (h2:a.eval y=q) (h3:a.eval z=r) (h4:a.eval u=s) (h5:a.eval v=t):(#[(i,x),(j,y),(k,z),(l,u),(m,v)].map fun(p:Nat×Operand)=>(p.1,a.eval p.2))=#[(i,p),(j,q),(k,r),(l,s),(m,t)]:=by simp[h,h2,h3,h4,h5]
end Go.Proofs.Ytplngpfpcheofaa
