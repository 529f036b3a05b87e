/- Locals of a region: a call's answer, a block of two cells, the store of the one into the other. -/
import Derived.Test.YtmpdbkdijfpbbaaGreatDoorInv
import Derived.Test.YtmpdbkdijfpbbaaGreatDoorLawR
namespace Go.Proofs.YtmpdbkdijfpbbaaGreatDoor
open Go.RowKit

section
variable {P : Program} {ops : Array Oper} {Q : Exit → Act → World → Prop}
end

theorem Wz.form {w : World} {v : Value} {z : Int} (h : Wz w v z) : ∃ (b : Bool) (ad : Option Addr) (n cap : Nat), v = .agg #[.bool b, .slice ad n cap] := by
  obtain ⟨b, ad, n, cap, _, h1, _⟩ := h.shape
  exact ⟨b, ad, n, cap, h1⟩
end Go.Proofs.YtmpdbkdijfpbbaaGreatDoor
