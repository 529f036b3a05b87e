/- The laws of layer 10. -/
import Derived.Test.YtmpdbkdijfpbbaaDoorGZ
namespace Go.Proofs.YtmpdbkdijfpbbaaDoor
open Go.RowKit
set_option maxRecDepth 100000
set_option linter.unusedVariables false

theorem qc_no {a b : Rat} (h : a ≤ b) : ¬ 0 < qc a b := by rw [qc_pos]; grind
theorem rise_qc {p q : Rat} (hp : ((-90 : Int) : Rat) ≤ p ∧ p < ((90 : Int) : Rat)) (hq : ((-90 : Int) : Rat) ≤ q ∧ q < ((90 : Int) : Rat)) : qc (sof p) (sof q) = qc p q := by
  have a := sof_same (p := p) (q := q) hp.1 (by grind) hq.1 (by grind)
  have b := sof_same (p := q) (q := p) hq.1 (by grind) hp.1 (by grind)
  rw [qc_def, qc_def]
  simp only [a, b]
theorem into90 (x : Rat) : ((-90 : Int) : Rat) ≤ rinto x ((-90 : Int) : Rat) ((90 : Int) : Rat) ∧ rinto x ((-90 : Int) : Rat) ((90 : Int) : Rat) < ((90 : Int) : Rat) := ⟨rinto_low (by decide +kernel), rinto_high (by decide +kernel)⟩
theorem into1 (x : Rat) : ((-1 : Int) : Rat) ≤ rinto x ((-1 : Int) : Rat) ((1 : Int) : Rat) ∧ rinto x ((-1 : Int) : Rat) ((1 : Int) : Rat) < ((1 : Int) : Rat) := ⟨rinto_low (by decide +kernel), rinto_high (by decide +kernel)⟩
theorem le_lt {a b : Rat} (h : a < b) : a ≤ b := by grind
theorem sof_abs (p : Rat) : (sof p).abs ≤ ((1 : Int) : Rat) := by
  have := sof_bd p
  exact abs_le this.1 this.2
end Go.Proofs.YtmpdbkdijfpbbaaDoor
