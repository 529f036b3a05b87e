import Derived.Test.YtcgbllbhagijjaaDoorNatE
import Derived.Deep.DeepCutAuto
import Derived.Deep.LoopGhost
import Derived.BigRegion
import Derived.Deep.RegionHeld3
namespace Go.Proofs.YtcgbllbhagijjaaDoor
open Go.RowKit
set_option maxRecDepth 100000



/-- Behind the exchange in Nat.Add. -/
def AddCut (w : World) (N M : Nat) (s0 s1 : Value) (wc : World) : Prop :=
  w = wc ∧ ∃ ad cap X ad' cap' Y, s0 = .slice ad (dl B32 X) cap ∧ s1 = .slice ad' (dl B32 Y) cap' ∧ Rd w .u32 ad (dg B32 X) ∧ Rd w .u32 ad' (dg B32 Y) ∧ dl B32 Y ≤ dl B32 X ∧ X + Y = N + M ∧
    dl B32 X ≤ 1099511627776 ∧ dl B32 X ≤ cap ∧ dl B32 Y ≤ cap'

/-- The loop of Nat.Add. -/
def AddInv (w : World) (g d X Y : Nat) (c i : Value) (wr : World) : Prop :=
  ∃ (k cc : Nat) (zs : List Nat), k ≤ d ∧ i = .int .i64 k ∧ c = .int .u32 cc ∧ cc ≤ 1 ∧ zs.length = d + 1 ∧ okb B32 zs ∧ Row wr .u32 75 w.heap.size g (d + 1) zs ∧ Below w.heap.size w wr ∧
    vl B32 (zs.take k) + cc * B32 ^ k = vl B32 ((dg B32 X).take k) + vl B32 ((dg B32 Y).take k)

end Go.Proofs.YtcgbllbhagijjaaDoor
