import Derived.Test.YtacnedknihlfnaaKB5
import Derived.Deep.LoopGhost
namespace Go.Proofs.Ytacnedknihlfnaa
open Go.RowKit
set_option maxRecDepth 100000
set_option linter.unusedVariables false
set_option maxHeartbeats 8000000
section
section
end
section
end
section
theorem Rd.drop {w:World} {k:IntKind} {b off:Nat} {xs:List Nat} (h:Rd w k (some ⟨b,off,none⟩) xs) (n:Nat):Rd w k (some ⟨b,off+n,none⟩) (xs.drop n):=by
 refine⟨fun i hi=>?_⟩
 simp at hi
 obtain⟨b',off',ha,hlt,hc⟩:=h.cell (n+i) (by omega)
 simp at ha
 obtain⟨rfl,rfl⟩:=ha
 exact⟨b,off+n,rfl,hlt,by rw[lg_drop,Nat.add_assoc];exact hc⟩
end
end
end Go.Proofs.Ytacnedknihlfnaa
