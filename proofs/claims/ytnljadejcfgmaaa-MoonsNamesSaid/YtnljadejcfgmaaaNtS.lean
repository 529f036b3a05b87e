/- What a number's value looks like; numbers that survive stores elsewhere. -/
import Derived.Test.YtnljadejcfgmaaaLawK
import Derived.Test.YtnljadejcfgmaaaGA
namespace Go.Proofs.Ytnljadejcfgmaaa
open Go.RowKit

theorem Nt.shape {w : World} {v : Value} {N : Nat} (h : Nt w v N) : ∃ ad n cap, v = .slice ad n cap := by
  obtain ⟨xs, _, _, ad, cap, h1, _⟩ := h
  exact ⟨ad, _, cap, h1⟩

theorem Keep.sq {w w' : World} (h : Keep w w') {k : IntKind} {v : Value} {xs : List Nat} (s : Sq w k v xs) : Sq w' k v xs := by
  obtain ⟨ad, cap, h1, h2, h3⟩ := s
  exact ⟨ad, cap, h1, h _ _ _ h2, h3⟩
theorem Keep.dg {w w' : World} (h : Keep w w') {k : IntKind} {b : Nat} {v : Value} {n : Nat} (s : Dg w k b v n) : Dg w' k b v n := h.sq s
theorem Keep.nt {w w' : World} (h : Keep w w') {v : Value} {n : Nat} (s : Nt w v n) : Nt w' v n := by
  obtain ⟨xs, h1, h2, h3⟩ := s
  exact ⟨xs, h1, h2, h.sq h3⟩

end Go.Proofs.Ytnljadejcfgmaaa
