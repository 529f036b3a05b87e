/- What comes in as a slice of integers, read as plain numbers. -/
import Derived.Test.YtnljadejcfgmaaaGA
import Derived.OpenShut
namespace Go.Proofs.Ytnljadejcfgmaaa
open Go.RowKit

theorem cell_lt {w : World} {a : Addr} {v : Value} (h : w.cell? a = some v) : a.block < w.heap.size := by
  by_cases hc : a.block < w.heap.size
  · exact hc
  · exfalso
    have hn : w.heap[a.block]? = none := Array.getElem?_eq_none (by omega)
    simp [World.cell?, hn] at h

theorem row_in {w : World} {a : Option Addr} {len cap : Nat} {zs : List Int}
    (h : (a = none ∧ len = 0 ∧ cap = 0 ∧ zs = []) ∨ ∃ x, a = some x ∧ len ≤ cap ∧ cap ≤ maxLen ∧ zs.length = cap ∧ (∀ i, i < zs.length → w.cell? (x.add i) = some (.int .u32 (zs.getD i 0))) ∧ ∀ n ∈ zs, (Lit.int .u32 n).wf = true) :
    ∃ xs : List Nat, len = xs.length ∧ Rd w .u32 a xs ∧ okb B32 xs ∧ xs.length ≤ cap ∧ cap ≤ maxLen ∧ (a = none → cap = 0) := by
  rcases h with ⟨rfl, rfl, rfl, _⟩ | ⟨x, rfl, hl, hm, hz, hc, hw⟩
  · exact ⟨[], rfl, Rd.nil _ _ _, okb_nil _, Nat.le_refl _, by unfold maxLen; omega, fun _ => rfl⟩
  · have hlen : ((zs.take len).map Int.toNat).length = len := by simp; omega
    refine ⟨(zs.take len).map Int.toNat, hlen.symm, ⟨fun i hi => ?_⟩, ?_, by omega, hm, fun h => by cases h⟩
    · rw [hlen] at hi
      obtain ⟨b, off, rfl, hcc⟩ := ints_at hc (by omega)
      have h1 := hcc i (by omega)
      refine ⟨b, off, rfl, cell_lt h1, ?_⟩
      rw [h1]
      have hmem : zs.getD i 0 ∈ zs := by
        rw [show zs.getD i 0 = zs[i]'(by omega) from by simp [List.getD, List.getElem?_eq_getElem (show i < zs.length by omega)]]
        exact List.getElem_mem _
      have hb := bounds_u32 (hw _ hmem)
      have e : lg ((zs.take len).map Int.toNat) i = (zs.getD i 0).toNat := by
        unfold lg
        simp [List.getD, hi]
        rw [List.getElem?_eq_getElem (show i < zs.length by omega)]
        rfl
      rw [e]
      congr 2
      omega
    · intro n hn
      simp only [List.mem_map] at hn
      obtain ⟨m, hmem, rfl⟩ := hn
      have hb := bounds_u32 (hw _ (List.mem_of_mem_take hmem))
      rw [B32_eq]
      omega
end Go.Proofs.Ytnljadejcfgmaaa
