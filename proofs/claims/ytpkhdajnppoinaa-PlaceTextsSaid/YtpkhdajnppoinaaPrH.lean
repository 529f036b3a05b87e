/- The document's text of a whole number. -/
import Derived.Test.YtpkhdajnppoinaaPrG
namespace Go.Proofs.Ytpkhdajnppoinaa
open Go.RowKit
set_option maxRecDepth 100000
set_option linter.unusedVariables false

theorem bs_ten (w : World) : ∃ v w', (Instr.buildSlice 34 1 #[(0, .int .i64 10)]).run Try.prog w = .ok v w' ∧ Below w.heap.size w w' ∧ Dg w' .i64 65536 v 10 := by
  refine ⟨.slice (some ⟨w.heap.size, 0, none⟩) 1 1, w.alloc (.cells #[.int .i64 10] 3), ?_, (Below.refl _ _).alloc (Nat.le_refl _) _, ?_⟩
  · have hs := size_run (P := Try.prog) (T := 3) (n := 1) (by kernel_rfl) w
    simp [Instr.buildSlice, go_sem, hs, Instr.fill, Value.cells, newRow]
  · have e : dg 65536 10 = [10] := by decide +kernel
    unfold Dg
    rw [e]
    refine ⟨some ⟨w.heap.size, 0, none⟩, 1, rfl, ⟨fun i hi => ?_⟩, by simp, by unfold maxLen; omega, by simp, fun h => by cases h⟩
    have h0 : i = 0 := by simp at hi; omega
    subst h0
    refine ⟨w.heap.size, 0, rfl, by simp, ?_⟩
    rw [cell_of_row _ w.heap.size 0 #[.int .i64 10] 3 (0, 0) (heap_alloc_new w _)]
    rfl
theorem lit_sqb {w : World} {g d : Nat} (h : Blk w g [.int .u8 ((d : Nat) : Int)]) : ∃ ad cap, (Value.slice (some ⟨g, 0, none⟩) 1 1) = .slice ad [d].length cap ∧ Rd w .u8 ad [d] ∧ (ad = none → [d] = []) := by
  obtain ⟨T, h⟩ := h
  refine ⟨_, _, rfl, ⟨fun i hi => ?_⟩, fun e => by cases e⟩
  have h0 : i = 0 := by simp at hi; omega
  subst h0
  refine ⟨g, 0, rfl, (Array.getElem?_eq_some_iff.1 h).1, ?_⟩
  rw [Nat.zero_add, cell_of_row w g 0 _ _ _ h]
  rfl
theorem num_len {w : World} {ad : Option Addr} {n c X : Nat} (h : Dg w .i64 65536 (.slice ad n c) X) : n = dl 65536 X := by
  obtain ⟨ad', cap, h1, _⟩ := h
  injection h1
theorem num_yes {n X : Nat} (h : n = dl 65536 X) (hX : 0 < X) : (0 : Int) < ((n : Nat) : Int) := by have := dl_pos (by decide : 2 ≤ 65536) hX; omega
theorem dl_zero16 : dl 65536 0 = 0 := by unfold dl; rw [dg_zero]; rfl
theorem num_no {n X : Nat} (h : n = dl 65536 X) (hX : ¬ 0 < X) : ¬ (0 : Int) < ((n : Nat) : Int) := by rw [show X = 0 by omega, dl_zero16] at h; omega
theorem num_of {n X : Nat} (h : n = dl 65536 X) (k : (0 : Int) < ((n : Nat) : Int)) : 0 < X := by
  apply Nat.pos_of_ne_zero
  intro e
  rw [e, dl_zero16] at h; omega
theorem num_none {n X : Nat} (h : n = dl 65536 X) (k : ¬ (0 : Int) < ((n : Nat) : Int)) : X = 0 := by
  apply Classical.byContradiction
  intro e
  exact k (num_yes h (by omega))
/-- The one limb of a small number. -/
theorem num_at {w : World} {ad : Option Addr} {n c X : Nat} (h : Dg w .i64 65536 (.slice ad n c) X) (h0 : 0 < X) (h1 : X < 65536) : ∃ b off, ad = some ⟨b, off, none⟩ ∧ n = 1 ∧ w.cell? ⟨b, off, none⟩ = some (.int .i64 ((X : Nat) : Int)) := by
  have hd : dg 65536 X = [X] := by
    rw [dg_pos (by decide) h0, Nat.mod_eq_of_lt h1, Nat.div_eq_of_lt h1, dg_zero]
  obtain ⟨ad', cap, h1, ⟨hr⟩, _⟩ := h
  rw [hd] at h1 hr
  injection h1 with e1 e2 e3
  subst e1
  obtain ⟨b, off, e, _, hc⟩ := hr 0 (by simp)
  exact ⟨b, off, e, by simpa using e2, hc⟩
theorem ix_num {w : World} {b off n c : Nat} (hn : 0 < n) : (Instr.indexAt 34 (.slice (some ⟨b, off, none⟩) n c) (.int .i64 0)).run Try.prog w = .ok (.pointer (some ⟨b, off, none⟩)) w := by
  simp [Instr.indexAt, asIntOf, run_underlying Try.underlying34, Sem.run_bind, Addr.add_mid]
  intro e; omega
theorem hi_step {X : Nat} (h : 0 < X) : hi X = hi (X / 10) ++ [48 + X % 10] := by
  unfold hi asc
  rw [dg_pos (by decide : 2 ≤ 10) h, List.map_cons, List.reverse_cons]
theorem hi_up {N X : Nat} {ys : List Nat} (h : hi N = hi X ++ ys) (hX : 0 < X) : hi N = hi (X / 10) ++ ([48 + X % 10] ++ ys) := by
  rw [h, hi_step hX, List.append_assoc]
theorem hi_zero : hi 0 = [] := by decide +kernel
theorem hi_okb (N : Nat) : okb 256 (hi N) := fun x hx => asc_okb (okb_dg (by decide) _) x (List.mem_reverse.1 hx)
theorem tx_hi0 {z : Int} {ys : List Nat} (h : hi z.natAbs = ys) (k : ys = []) : z = 0 := by
  apply Classical.byContradiction
  intro e
  have := (hi_plain (N := z.natAbs) (by omega)).2.1
  rw [h] at this; exact this k
theorem tx_hi {z : Int} {ys : List Nat} (h : hi z.natAbs = ys) (k : ¬ ys = []) : tx z = (if z < 0 then [45] else []) ++ ys := by
  have e : z ≠ 0 := by
    intro e
    subst e
    exact k (h.symm.trans hi_zero)
  unfold tx
  rw [if_neg e, ← h]; rfl
end Go.Proofs.Ytpkhdajnppoinaa
