/- law02's Is. -/
import Derived.Test.YthoiocjbjfhgpaaGT
import Derived.Test.YthoiocjbjfhgpaaLawE
namespace Go.Proofs.Ythoiocjbjfhgpaa
open Go.RowKit
set_option maxRecDepth 100000

/-- 0, and nothing below turned. -/
def ZeroPost (w : World) (e : Ending) (w' : World) : Prop := e = .returned (.int .i64 0) ∧ Below w.heap.size w w'

set_option maxHeartbeats 400000 in
theorem Is_any (v1 v2 : Value) (N : Nat) (w : World) (h1 : Dg w .u32 B32 v1 N) (h2 : Dg w .i64 65536 v2 N) :
    Calls Try.prog 53 #[v1, v2] w (ZeroPost w) := by
  have hl : (dg B32 N).length ≤ 1099511627776 := by obtain ⟨_, _, _, _, _, _, h, _⟩ := h1; exact h
  go_enter Try.func53, Try.ntmps53
  go_wp2_with fail
  refine (slimbs_any v2 N _ h2).mono ?_
  rintro e wa ⟨v3, rfl, h3, ba⟩
  have h1 : Sq wa .u32 v1 (dg B32 N) := Dg.below h1 ba
  go_wp2_with fail
  refine (same_any v1 v3 (dg B32 N) wa h1 (h3.sq hl)).mono ?_
  intro e wb hh
  obtain ⟨rfl, bb, _⟩ := quiet_below hh
  clear hh h1 h3
  go_wp2
  go_ret
  exact ⟨rfl, below_to ba bb⟩
end Go.Proofs.Ythoiocjbjfhgpaa
