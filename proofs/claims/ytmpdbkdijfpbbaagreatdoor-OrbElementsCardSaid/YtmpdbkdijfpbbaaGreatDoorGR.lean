/- RefC RefD RefE -/
import Derived.Test.YtmpdbkdijfpbbaaGreatDoorRefA

namespace Go.Proofs.YtmpdbkdijfpbbaaGreatDoor
open Go.RowKit
set_option maxRecDepth 100000

theorem lt_digit {b N M j : Nat} (hb : 2 ≤ b) (ha : ∀ i, j < i → lg (dg b N) i = lg (dg b M) i) (h : lg (dg b N) j < lg (dg b M) j) : N < M := by
  have := lt_of_digit (okb_dg hb N) (by omega) h ha
  rwa [vl_dg hb, vl_dg hb] at this
theorem eq_digits {b N M : Nat} (hb : 2 ≤ b) (h : ∀ j, lg (dg b N) j = lg (dg b M) j) : N = M := by
  have := vl_congr b h
  rwa [vl_dg hb, vl_dg hb] at this
end Go.Proofs.YtmpdbkdijfpbbaaGreatDoor

namespace Go.Proofs.YtmpdbkdijfpbbaaGreatDoor
open Go.RowKit
set_option maxRecDepth 100000

end Go.Proofs.YtmpdbkdijfpbbaaGreatDoor

namespace Go.Proofs.YtmpdbkdijfpbbaaGreatDoor
open Go.RowKit
set_option maxRecDepth 100000

theorem Rd.drop {w : World} {k : IntKind} {b off : Nat} {xs : List Nat} (h : Rd w k (some ⟨b, off, none⟩) xs) (n : Nat) : Rd w k (some ⟨b, off + n, none⟩) (xs.drop n) := by
  refine ⟨fun i hi => ?_⟩
  simp at hi
  obtain ⟨b', off', ha, hlt, hc⟩ := h.cell (n + i) (by omega)
  simp at ha
  obtain ⟨rfl, rfl⟩ := ha
  exact ⟨b, off + n, rfl, hlt, by rw [lg_drop, Nat.add_assoc]; exact hc⟩

end Go.Proofs.YtmpdbkdijfpbbaaGreatDoor
