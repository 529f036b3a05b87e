/- Words for the laws of layer 3. -/
import Derived.Test.YtmpdbkdijfpbbaaGreatDoorLoc
import Derived.Test.YtmpdbkdijfpbbaaGreatDoorLawS
import Derived.Test.YtmpdbkdijfpbbaaGreatDoorGU
import Derived.Test.YtmpdbkdijfpbbaaGreatDoorGE
namespace Go.Proofs.YtmpdbkdijfpbbaaGreatDoor
open Go.RowKit
set_option maxRecDepth 100000

theorem limz_add {x y : Int} {a b : Nat} (h1 : Lim x.natAbs a) (h2 : Lim y.natAbs b) (c : Nat) (ha : a < c) (hb : b < c) : Lim (x + y).natAbs c := (h1.add h2 c ha hb).le (Int.natAbs_add_le x y)
theorem limz_neg {x : Int} {a : Nat} (h : Lim x.natAbs a) : Lim (-x).natAbs a := by rw [Int.natAbs_neg]; exact h
theorem limz_mul {x y : Int} {a b : Nat} (h1 : Lim x.natAbs a) (h2 : Lim y.natAbs b) : Lim (x * y).natAbs (a + b) := by rw [Int.natAbs_mul]; exact h1.mul h2
end Go.Proofs.YtmpdbkdijfpbbaaGreatDoor
