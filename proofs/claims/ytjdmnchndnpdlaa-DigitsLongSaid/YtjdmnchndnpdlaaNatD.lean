import Derived.Test.YtjdmnchndnpdlaaNatE
import Derived.Deep.DeepCutAuto
import Derived.Deep.LoopGhost
namespace Go.Proofs.Ytjdmnchndnpdlaa
open Go.RowKit
set_option maxRecDepth 100000

/-- The loop of Nat.Shl. -/
def ShlInv (w : World) (g d q r X : Nat) (i : Value) (wr : World) : Prop :=
  ∃ (k : Nat) (zs : List Nat), k ≤ d ∧ i = .int .i64 k ∧ zs.length = d + q + 1 ∧ okb B32 zs ∧ Row wr .u32 77 w.heap.size g (d + q + 1) zs ∧ Below w.heap.size w wr ∧
    (∀ j, k + q < j → lg zs j = 0) ∧ lg zs (k + q) < 2 ^ r ∧ vl B32 zs = vl B32 ((dg B32 X).take k) * (2 ^ r * B32 ^ q)

theorem shl_step {zs X : List Nat} {k q r : Nat} (hlen : k + q + 1 < zs.length) (h1 : lg zs (k + q + 1) = 0) (hv : vl B32 zs = vl B32 (X.take k) * (2 ^ r * B32 ^ q)) :
    vl B32 ((zs.set (k + q) (lg zs (k + q) + lg X k * 2 ^ r % B32)).set (k + q + 1) (lg X k * 2 ^ r / B32)) = vl B32 (X.take (k + 1)) * (2 ^ r * B32 ^ q) := by
  have e1 := vl_set B32 (xs := zs) (i := k + q) (lg zs (k + q) + lg X k * 2 ^ r % B32) (by omega)
  have e2 := vl_set B32 (xs := zs.set (k + q) (lg zs (k + q) + lg X k * 2 ^ r % B32)) (i := k + q + 1) (lg X k * 2 ^ r / B32) (by rw [List.length_set]; exact hlen)
  rw [lg_set_other _ (by omega), h1] at e2
  have e3 := carry_arith B32 (B32 ^ (k + q)) (lg X k * 2 ^ r)
  rw [← Nat.pow_succ] at e3
  rw [Nat.add_mul] at e1
  have e4 : lg X k * 2 ^ r * B32 ^ (k + q) = lg X k * B32 ^ k * (2 ^ r * B32 ^ q) := by
    rw [Nat.pow_add, Nat.mul_assoc, Nat.mul_assoc]
    congr 1
    rw [← Nat.mul_assoc, Nat.mul_comm (2 ^ r), Nat.mul_assoc]
  rw [vl_take_succ, Nat.add_mul, ← hv, ← e4, ← e3]
  simp only [Nat.succ_eq_add_one] at *
  omega

def shlOf (n : Int) : Nat := (min (max n 0) 8192).toNat

end Go.Proofs.Ytjdmnchndnpdlaa
