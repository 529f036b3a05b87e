/- The document's numbers: a limit; whole ones. -/
import Derived.Test.YtpkhdajnppoinaaGY
import Derived.Test.YtpkhdajnppoinaaGI
namespace Go.Proofs.Ytpkhdajnppoinaa
open Go.RowKit
set_option maxRecDepth 100000
set_option linter.unusedVariables false

theorem Rr.rlim {w : World} {v : Value} {q : Rat} {k : Nat} (h : Rr w v q k) : RLim q k := by
  obtain ⟨_, _, _, _, _, _, _, z, D, _, _, _, hD, rfl, l1, l2⟩ := h
  exact rlim_mk l1 l2 (by omega)
theorem int_mk (z : Int) : ((z : Int) : Rat) = mkRat z 1 := by rw [Rat.mkRat_one]
end Go.Proofs.Ytpkhdajnppoinaa
