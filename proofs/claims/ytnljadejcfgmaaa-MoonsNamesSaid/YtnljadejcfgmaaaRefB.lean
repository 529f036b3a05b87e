import Derived.Test.YtnljadejcfgmaaaRefA
namespace Go.Proofs.Ytnljadejcfgmaaa
open Go.RowKit
set_option maxRecDepth 100000

def LimbsOut (w : World) (d N : Nat) (o i : Value) (wr : World) : Prop :=
  ∃ (j : Nat) (L : List Nat), 32 * j < d + 32 ∧ i = .int .i64 ((32 * j : Nat) : Int) ∧ Acc wr .u32 38 w.heap.size o L ∧ okb B32 L ∧ L.length = j ∧ (∀ t, t < j → lg L t = lg (dg B32 N) t) ∧ Below w.heap.size w wr

theorem limb_field (N j : Nat) : N / 2 ^ (32 * j) % 2 ^ 32 = lg (dg B32 N) j := by
  rw [lg_dg B32_two, show B32 ^ j = 2 ^ (32 * j) from by rw [Nat.pow_mul]; rfl]; rfl
theorem limbs_end {N j d : Nat} {L : List Nat} (hd : d = dl 2 N) (h1 : 32 * j < d + 32) (h2 : d ≤ 32 * j) (hl : L.length = j) (hdig : ∀ t, t < j → lg L t = lg (dg B32 N) t) : L = dg B32 N := by
  have hlen : dl B32 N = j := by
    by_cases h0 : 0 < j
    · exact dl_limbs h0 (by omega) (by omega)
    · have : N = 0 := dl_eq_zero (b := 2) (by omega) (by omega)
      subst this; rw [dl_zero]; omega
  apply ext_lg
  · rw [length_dg, hlen, hl]
  · intro i hi; exact hdig i (by omega)

end Go.Proofs.Ytnljadejcfgmaaa
