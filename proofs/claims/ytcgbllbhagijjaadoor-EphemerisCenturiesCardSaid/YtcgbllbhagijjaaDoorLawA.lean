import Derived.Test.YtcgbllbhagijjaaDoorNatG
import Derived.Test.YtcgbllbhagijjaaDoorNatC
import Derived.Test.YtcgbllbhagijjaaDoorNatD
import Derived.Test.YtcgbllbhagijjaaDoorNatF
namespace Go.Proofs.YtcgbllbhagijjaaDoor
open Go.RowKit
set_option maxRecDepth 100000

theorem dg_two (a b : Nat) (hb : 0 < b) (h1 : a < 4294967296) (h2 : b < 4294967296) : dg B32 (a + b * 4294967296) = [a, b] := by
  have ho : okb B32 [a, b] := by intro x hx; simp at hx; rw [B32_eq]; omega
  have hn : norm [a, b] := by intro _; show b ≠ 0; omega
  have := dg_unique B32_two ho hn
  simp only [vl] at this
  rw [← this]; congr 1; rw [B32_eq]; omega

theorem dg_one (a : Nat) (h0 : 0 < a) (h1 : a < 4294967296) : dg B32 a = [a] := by
  have ho : okb B32 [a] := by intro x hx; simp at hx; rw [B32_eq]; omega
  have hn : norm [a] := by intro _; show a ≠ 0; omega
  have := dg_unique B32_two ho hn
  simp only [vl] at this
  rw [← this]; congr 1
def TruePost (w : World) (e : Ending) (w' : World) : Prop := e = .returned (.bool true) ∧ Below w.heap.size w w'
theorem dl33 : dl 2 4294967296 = 33 := dl_eq (k := 32) (by omega) (by decide) (by decide)

end Go.Proofs.YtcgbllbhagijjaaDoor
