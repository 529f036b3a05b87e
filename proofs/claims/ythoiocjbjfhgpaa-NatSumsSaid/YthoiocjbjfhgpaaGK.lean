/- SumA SumB SumC -/
import Derived.Test.YthoiocjbjfhgpaaGH
import Derived.Test.YthoiocjbjfhgpaaGG

/- Slices of rational numbers: words for rat.Sum. -/
namespace Go.Proofs.Ythoiocjbjfhgpaa
open Go.RowKit
set_option maxRecDepth 100000
set_option linter.unusedVariables false

/-- The cells are those of the numbers qs. -/
def QEl (w : World) (cs : List Value) (qs : List Rat) : Prop :=
  ∀ i, i < qs.length → ∃ b ad n c ae m d, (cs.drop (3 * i)).take 3 = [.bool b, .slice ad n c, .slice ae m d] ∧ Rq w (.agg #[.bool b, .slice ad n c, .slice ae m d]) (qs.getD i 0)
theorem QEl.below {w w' : World} {cs : List Value} {qs : List Rat} (h : QEl w cs qs) (hb : Below w.heap.size w w') : QEl w' cs qs := by
  intro i hi
  obtain ⟨b, ad, n, c, ae, m, d, h1, h2⟩ := h i hi
  exact ⟨b, ad, n, c, ae, m, d, h1, h2.below hb⟩
theorem QEl.keep {w w' : World} {cs : List Value} {qs : List Rat} (h : QEl w cs qs) (kp : Keep w w') : QEl w' cs qs := by
  intro i hi
  obtain ⟨b, ad, n, c, ae, m, d, h1, h2⟩ := h i hi
  exact ⟨b, ad, n, c, ae, m, d, h1, h2.keep kp⟩
def QRow (w : World) (v : Value) (qs : List Rat) : Prop := ∃ g cs, v = .slice (some ⟨g, 0, none⟩) qs.length qs.length ∧ Own w g cs ∧ QEl w cs qs
theorem QRow.below {w w' : World} {v : Value} {qs : List Rat} (h : QRow w v qs) (hb : Below w.heap.size w w') : QRow w' v qs := by
  obtain ⟨g, cs, h1, h2, h3⟩ := h
  exact ⟨g, cs, h1, h2.below hb, h3.below hb⟩
def qsum (qs : List Rat) : Nat → Rat
  | 0 => 0
  | i + 1 => qsum qs i + qs.getD i 0
theorem bl_rats {t : TypeId} {w : World} {ad : Option Addr} {n c : Nat} : (builtin .len #[63] t #[false] #[.slice ad n c]).run Try.prog w = .ok (.value (.int .i64 n)) w := by
  have hu := run_underlying (P := Try.prog) Try.underlying63 w
  simp [Builtin.len_, Sem.run_bind, hu, go_sem]
theorem ix_rats {w : World} {g n c i : Nat} (hi : i < n) : (Instr.indexAt 63 (.slice (some ⟨g, 0, none⟩) n c) (.int .i64 (i : Nat))).run Try.prog w = .ok (.pointer (some ⟨g, 3 * i, none⟩)) w := by
  have hu := run_underlying (P := Try.prog) Try.underlying63 w
  unfold Instr.indexAt
  simp [Sem.run_bind, asIntOf, go_sem, hu, hi, Addr.add]
  split
  · obtain rfl : i = 0 := by omega
    rfl
  · rw [Nat.mul_comm]
end Go.Proofs.Ythoiocjbjfhgpaa

/- rat: Sum. -/
namespace Go.Proofs.Ythoiocjbjfhgpaa
open Go.RowKit
set_option maxRecDepth 100000
set_option linter.unusedVariables false

end Go.Proofs.Ythoiocjbjfhgpaa

/- Slices of three rational numbers are built. -/
namespace Go.Proofs.Ythoiocjbjfhgpaa
open Go.RowKit
set_option maxRecDepth 100000
set_option linter.unusedVariables false

theorem QRow.mono (qs : List Rat) : ∀ w w' v, QRow w v qs → Below w.heap.size w w' → QRow w' v qs := fun _ _ _ h hb => h.below hb
theorem bs_rats {w : World} {v1 v2 v3 : Value} {q1 q2 q3 : Rat} (h1 : Rq w v1 q1) (h2 : Rq w v2 q2) (h3 : Rq w v3 q3) :
    ∃ v w', (Instr.buildSlice 63 3 #[(0, v1), (1, v2), (2, v3)]).run Try.prog w = .ok v w' ∧ Below w.heap.size w w' ∧ QRow w' v [q1, q2, q3] := by
  obtain ⟨b1, ad1, n1, c1, ae1, m1, d1, rfl, -, -⟩ := h1.shape
  obtain ⟨b2, ad2, n2, c2, ae2, m2, d2, rfl, -, -⟩ := h2.shape
  obtain ⟨b3, ad3, n3, c3, ae3, m3, d3, rfl, -, -⟩ := h3.shape
  have ho := own_new (w := w) (cs := [.bool b1, .slice ad1 n1 c1, .slice ae1 m1 d1, .bool b2, .slice ad2 n2 c2, .slice ae2 m2 d2, .bool b3, .slice ad3 n3 c3, .slice ae3 m3 d3]) 61 (niB (niS (niS (niB (niS (niS (niB (niS (niS ni0)))))))))
  refine ⟨.slice (some ⟨w.heap.size, 0, none⟩) 3 3, w.alloc (.cells #[.bool b1, .slice ad1 n1 c1, .slice ae1 m1 d1, .bool b2, .slice ad2 n2 c2, .slice ae2 m2 d2, .bool b3, .slice ad3 n3 c3, .slice ae3 m3 d3] 61), ?_, ho.2, _, _, rfl, ho.1, ?_⟩
  · have hs := size_run (P := Try.prog) sz_Rat w
    have hu := run_underlying (P := Try.prog) Try.underlying63 w
    have hz := zero_run (P := Try.prog) ze_Rat w
    simp [Instr.buildSlice, go_sem, hs, hu, Instr.fill, Value.cells, newRow]
  · intro i hi
    have hi' : i < 3 := hi
    match i, hi' with
    | 0, _ => exact ⟨b1, ad1, n1, c1, ae1, m1, d1, rfl, h1.below ho.2⟩
    | 1, _ => exact ⟨b2, ad2, n2, c2, ae2, m2, d2, rfl, h2.below ho.2⟩
    | 2, _ => exact ⟨b3, ad3, n3, c3, ae3, m3, d3, rfl, h3.below ho.2⟩
theorem qs3 (a b c : Rat) : qsum [a, b, c] 3 = 0 + a + b + c := rfl
end Go.Proofs.Ythoiocjbjfhgpaa
