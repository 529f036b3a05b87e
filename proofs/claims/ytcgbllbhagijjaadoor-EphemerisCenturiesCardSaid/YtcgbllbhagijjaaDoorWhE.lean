/- whole.Mul. -/
import Derived.Test.YtcgbllbhagijjaaDoorGE
import Derived.Test.YtcgbllbhagijjaaDoorGM
import Derived.Deep.RegionHeld3
namespace Go.Proofs.YtcgbllbhagijjaaDoor
open Go.RowKit
set_option maxRecDepth 100000

theorem sg_mul (b c : Bool) (N M : Nat) : sg (!(b == c)) (N * M) = sg b N * sg c M := by
  cases b <;> cases c <;> simp [sg, Int.mul_neg, Int.neg_mul]

end Go.Proofs.YtcgbllbhagijjaaDoor
