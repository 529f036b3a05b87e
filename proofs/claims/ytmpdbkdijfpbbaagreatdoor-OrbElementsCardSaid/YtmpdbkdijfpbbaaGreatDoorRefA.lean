import Derived.Test.YtmpdbkdijfpbbaaGreatDoorGV
import Derived.Deep.LoopGhost
namespace Go.Proofs.YtmpdbkdijfpbbaaGreatDoor
open Go.RowKit
set_option maxRecDepth 100000

theorem Tryz.info3 : (Tryz.prog.info? 3).map (fun i => (i.zero, i.size, i.bytes)) = some (some (.int .i64 0), 1, 8) := by kernel_rfl

/-- What strikes 0 at the top leaves. -/
def RcutPost (b : Nat) (w : World) (ad : Option Addr) (cap : Nat) (xs : List Nat) (e : Ending) (w' : World) : Prop :=
  e = .returned (.slice ad (dl b (vl b xs)) cap) ∧ w' = w
theorem rcut_end {b : Nat} {w : World} {ad : Option Addr} {cap n : Nat} {xs : List Nat} {v : Value} (hb : 2 ≤ b) (ho : okb b xs) (hn : n ≤ xs.length) (h0 : 0 < n → lg xs (n - 1) ≠ 0) (hz : ∀ i, n ≤ i → lg xs i = 0) (hv : v = .slice ad n cap) :
    RcutPost b w ad cap xs (.returned v) w := by
  rw [(take_dg hb ho hn h0 hz).2] at hv
  exact ⟨by rw [hv], rfl⟩

end Go.Proofs.YtmpdbkdijfpbbaaGreatDoor
