/- Words for the laws of layer 3. -/
import Derived.Test.YtnljadejcfgmaaaLoc
import Derived.Test.YtnljadejcfgmaaaLawS
import Derived.Test.YtnljadejcfgmaaaGU
import Derived.Test.YtnljadejcfgmaaaGE
namespace Go.Proofs.Ytnljadejcfgmaaa
open Go.RowKit
set_option maxRecDepth 100000

theorem limz_add {x y : Int} {a b : Nat} (h1 : Lim x.natAbs a) (h2 : Lim y.natAbs b) (c : Nat) (ha : a < c) (hb : b < c) : Lim (x + y).natAbs c := (h1.add h2 c ha hb).le (Int.natAbs_add_le x y)
theorem limz_neg {x : Int} {a : Nat} (h : Lim x.natAbs a) : Lim (-x).natAbs a := by rw [Int.natAbs_neg]; exact h
theorem limz_sub {x y : Int} {a b : Nat} (h1 : Lim x.natAbs a) (h2 : Lim y.natAbs b) (c : Nat) (ha : a < c) (hb : b < c) : Lim (x - y).natAbs c := by rw [Int.sub_eq_add_neg]; exact limz_add h1 (limz_neg h2) c ha hb
theorem limz_mul {x y : Int} {a b : Nat} (h1 : Lim x.natAbs a) (h2 : Lim y.natAbs b) : Lim (x * y).natAbs (a + b) := by rw [Int.natAbs_mul]; exact h1.mul h2
theorem ci_add (x y z : Int) : ci (x + z) (y + z) = ci x y := by unfold ci; split <;> split <;> (try split) <;> omega
theorem ci_opp (x y : Int) : ci (-y) (-x) = ci x y := by unfold ci; split <;> split <;> (try split) <;> omega
theorem sz_nonneg {x : Int} (h : 0 ≤ x) : 0 ≤ sz x := by unfold sz; split <;> (try split) <;> omega
theorem sq_nonneg (x : Int) : 0 ≤ x * x := by
  rcases Int.le_total 0 x with h | h
  · exact Int.mul_nonneg h h
  · have := Int.mul_nonneg (show 0 ≤ -x by omega) (show 0 ≤ -x by omega)
    rwa [Int.neg_mul_neg] at this
end Go.Proofs.Ytnljadejcfgmaaa
