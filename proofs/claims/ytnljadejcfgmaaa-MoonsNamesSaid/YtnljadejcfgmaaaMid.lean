/- A cut between two pieces of code. -/
import Derived.Test.YtnljadejcfgmaaaGG
namespace Go.Proofs.Ytnljadejcfgmaaa
open Go.RowKit
set_option maxRecDepth 100000
theorem E.mid {P : Program} {x y : Code} {Q : Exit → Act → World → Prop} {a : Act} {w : World} {I : Act → World → Prop} (h1 : x.wp P (Exit.then I Q) a w) (h2 : ∀ a w, I a w → y.wp P Q a w) : (Code.seq x y).wp P Q a w := by
  refine wp_seq (wp_mono h1 ?_)
  intro e a w h
  cases e
  case normal => exact h2 _ _ h
  all_goals exact h
end Go.Proofs.Ytnljadejcfgmaaa
