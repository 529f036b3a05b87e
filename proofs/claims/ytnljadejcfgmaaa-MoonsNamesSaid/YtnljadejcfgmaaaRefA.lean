import Derived.Test.YtnljadejcfgmaaaGV
import Derived.Deep.LoopGhost
namespace Go.Proofs.Ytnljadejcfgmaaa
open Go.RowKit
set_option maxRecDepth 100000

theorem Try.info3 : (Try.prog.info? 3).map (fun i => (i.zero, i.size, i.bytes)) = some (some (.int .i64 0), 1, 8) := by kernel_rfl

/-- What strikes 0 at the top leaves. -/
def RcutPost (b : Nat) (w : World) (ad : Option Addr) (cap : Nat) (xs : List Nat) (e : Ending) (w' : World) : Prop :=
  e = .returned (.slice ad (dl b (vl b xs)) cap) ∧ w' = w
theorem rcut_end {b : Nat} {w : World} {ad : Option Addr} {cap n : Nat} {xs : List Nat} {v : Value} (hb : 2 ≤ b) (ho : okb b xs) (hn : n ≤ xs.length) (h0 : 0 < n → lg xs (n - 1) ≠ 0) (hz : ∀ i, n ≤ i → lg xs i = 0) (hv : v = .slice ad n cap) :
    RcutPost b w ad cap xs (.returned v) w := by
  rw [(take_dg hb ho hn h0 hz).2] at hv
  exact ⟨by rw [hv], rfl⟩

/-- What leaves bits. -/
def DbPost (w : World) (N : Nat) (e : Ending) (w' : World) : Prop := ∃ v, e = .returned v ∧ Dg w' .i64 2 v N ∧ Below w.heap.size w w'

def BitsOut (w : World) (xs : List Nat) (o i : Value) (wr : World) : Prop :=
  ∃ (j : Nat) (L : List Nat), j ≤ xs.length ∧ i = .int .i64 j ∧ Acc wr .i64 3 w.heap.size o L ∧ okb 2 L ∧ L.length = 32 * j ∧ vl 2 L = vl B32 (xs.take j) ∧ Below w.heap.size w wr
def BitsIn (w : World) (j T : Nat) (o x k : Value) (wr : World) : Prop :=
  ∃ (t y : Nat) (L : List Nat), t ≤ 32 ∧ k = .int .i64 t ∧ x = .int .u32 y ∧ y < 2 ^ (32 - t) ∧ Acc wr .i64 3 w.heap.size o L ∧ okb 2 L ∧ L.length = 32 * j + t ∧ vl 2 L + y * 2 ^ (32 * j + t) = T ∧ Below w.heap.size w wr

end Go.Proofs.Ytnljadejcfgmaaa
