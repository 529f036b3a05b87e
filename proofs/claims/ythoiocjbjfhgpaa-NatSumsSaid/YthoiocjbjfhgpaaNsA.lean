/- Slices of natural numbers: words for nat.Sum. -/
import Derived.Test.YthoiocjbjfhgpaaGH
import Derived.Test.YthoiocjbjfhgpaaGK
namespace Go.Proofs.Ythoiocjbjfhgpaa
open Go.RowKit
set_option maxRecDepth 100000
set_option linter.unusedVariables false

/-- A slice of natural numbers. -/
def NRow (w : World) (ad : Option Addr) (ns : List Nat) : Prop :=
  ns = [] ∨ ∃ g o cs, ad = some ⟨g, o, none⟩ ∧ Own w g cs ∧ ∀ i, i < ns.length → ∃ a n c, cs[o + i]? = some (.slice a n c) ∧ Nt w (.slice a n c) (ns.getD i 0)
theorem NRow.below {w w' : World} {ad : Option Addr} {ns : List Nat} (h : NRow w ad ns) (hb : Below w.heap.size w w') : NRow w' ad ns := by
  rcases h with h | ⟨g, o, cs, h1, h2, h3⟩
  · exact .inl h
  · refine .inr ⟨g, o, cs, h1, h2.below hb, fun i hi => ?_⟩
    obtain ⟨a, n, c, e, k⟩ := h3 i hi
    exact ⟨a, n, c, e, k.below hb⟩
theorem NRow.at {w : World} {ad : Option Addr} {ns : List Nat} (h : NRow w ad ns) {i : Nat} (hi : i < ns.length) :
    ∃ g o cs a n c, ad = some ⟨g, o, none⟩ ∧ Own w g cs ∧ cs[o + i]? = some (.slice a n c) ∧ Nt w (.slice a n c) (ns.getD i 0) := by
  rcases h with h | ⟨g, o, cs, h1, h2, h3⟩
  · subst h; exact absurd hi (by simp)
  · obtain ⟨a, n, c, e, k⟩ := h3 i hi
    exact ⟨g, o, cs, a, n, c, h1, h2, e, k⟩
def NSl (w : World) (v : Value) (ns : List Nat) : Prop := ∃ ad c, v = .slice ad ns.length c ∧ NRow w ad ns
def nsum (ns : List Nat) : Nat → Nat
  | 0 => 0
  | i + 1 => nsum ns i + ns.getD i 0
theorem bl_nats {t : TypeId} {w : World} {ad : Option Addr} {n c : Nat} : (builtin .len #[25] t #[false] #[.slice ad n c]).run Try.prog w = .ok (.value (.int .i64 n)) w := by
  have hu := run_underlying (P := Try.prog) Try.underlying25 w
  simp [Builtin.len_, Sem.run_bind, hu, go_sem]
theorem ix_nats {w : World} {g o n c i : Nat} (hi : i < n) : (Instr.indexAt 25 (.slice (some ⟨g, o, none⟩) n c) (.int .i64 (i : Nat))).run Try.prog w = .ok (.pointer (some ⟨g, o + i, none⟩)) w := by
  have hu := run_underlying (P := Try.prog) Try.underlying25 w
  unfold Instr.indexAt
  simp [Sem.run_bind, asIntOf, go_sem, hu, hi, Addr.add]
theorem bs_nat0 (w : World) : ∃ v w', (Instr.buildSlice 27 0 #[]).run Try.prog w = .ok v w' ∧ Below w.heap.size w w' ∧ Dg w' .u32 B32 v 0 := by
  have hs := size_run (P := Try.prog) (T := 73) (n := 1) (by kernel_rfl) w
  refine ⟨.slice (some ⟨w.heap.size, 0, none⟩) 0 0, w.alloc (.cells #[] 73), ?_, (Below.refl _ _).alloc (Nat.le_refl _) _, ?_⟩
  · simp [Instr.buildSlice, go_sem, hs, Instr.fill, newRow]
  · have e : dg B32 0 = [] := by simp [dg]
    unfold Dg
    rw [e]
    exact ⟨some ⟨w.heap.size, 0, none⟩, 0, rfl, ⟨fun i hi => absurd hi (by simp)⟩, by simp, by unfold maxLen; omega, by simp, fun h => by cases h⟩
end Go.Proofs.Ythoiocjbjfhgpaa
