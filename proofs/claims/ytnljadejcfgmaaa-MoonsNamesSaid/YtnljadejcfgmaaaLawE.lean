import Derived.Test.YtnljadejcfgmaaaGL
import Derived.Test.YtnljadejcfgmaaaRefB
import Derived.Test.YtnljadejcfgmaaaGR
namespace Go.Proofs.Ytnljadejcfgmaaa
open Go.RowKit
set_option maxRecDepth 100000

def SameInv (w : World) (d : Nat) (i : Value) (wr : World) : Prop := ∃ k n : Nat, k ≤ d ∧ i = .int .i64 k ∧ wr = w.drewN n
theorem Sq.nt {w : World} {v : Value} {xs : List Nat} (h : Sq w .u32 v xs) (ho : okb B32 xs) : Nt w v (vl B32 xs) := ⟨xs, ho, rfl, h⟩

/-- What stands in the law NatAdds. -/
structure AddsSt (w0 w : World) (x y p q a b : Value) (xs ys : List Nat) : Prop where
  bel : Below w0.heap.size w0 w
  sx : Sq w .u32 x xs
  sy : Sq w .u32 y ys
  sp : Sq w .u32 p xs
  sq : Sq w .u32 q ys
  da : Dg w .i64 2 a (vl B32 xs)
  db : Dg w .i64 2 b (vl B32 ys)
theorem AddsSt.below {w0 w w' : World} {x y p q a b : Value} {xs ys : List Nat} (h : AddsSt w0 w x y p q a b xs ys) (k : Below w.heap.size w w') : AddsSt w0 w' x y p q a b xs ys :=
  ⟨below_to h.bel k, h.sx.below k, h.sy.below k, h.sp.below k, h.sq.below k, h.da.below k, h.db.below k⟩

theorem take_take_self (xs : List Nat) (m : Nat) : (xs.take m).take m = xs.take m := by rw [List.take_take, Nat.min_self]
theorem dl2_small {N m : Nat} (h : N < B32 ^ m) (hm : m ≤ 1000) : dl 2 N ≤ 32000 := by
  refine Nat.le_trans (dl_le (b := 2) (by omega) (k := 32 * m) ?_) (by omega)
  rw [show (2 : Nat) ^ (32 * m) = B32 ^ m from by rw [Nat.pow_mul]; rfl]
  exact h
theorem ret_true {b : Bool} (h : b = true) : Ending.returned (.bool b) = .returned (.bool true) := by rw [h]
end Go.Proofs.Ytnljadejcfgmaaa
