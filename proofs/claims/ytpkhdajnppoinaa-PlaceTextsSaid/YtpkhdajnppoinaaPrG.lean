/- Numbers, written and read again. -/
import Derived.Test.YtpkhdajnppoinaaG9
namespace Go.Proofs.Ytpkhdajnppoinaa
open Go.RowKit
set_option maxRecDepth 100000
set_option linter.unusedVariables false

/-- A number's digits as signs, the highest first. -/
def hi (N : Nat) : List Nat := (asc (dg 10 N)).reverse
theorem hi_len (N : Nat) : (hi N).length = dl 10 N := by unfold hi; rw [List.length_reverse, asc_dg]
theorem hi_dig (N : Nat) : ∀ i, i < (hi N).length → 48 ≤ lg (hi N) i ∧ lg (hi N) i ≤ 57 := by
  intro i h
  rw [lg_get h]
  have hm := List.getElem_mem h
  generalize (hi N)[i] = x at hm
  obtain ⟨y, hy, rfl⟩ := List.mem_map.1 (List.mem_reverse.1 hm)
  have := okb_dg (by decide : 2 ≤ 10) N y hy
  omega
theorem hi_map (N : Nat) : ((hi N).map (· - 48)).reverse = dg 10 N := by
  unfold hi asc
  rw [List.map_reverse, List.reverse_reverse, List.map_map]
  conv => rhs; rw [← List.map_id (dg 10 N)]
  apply List.map_congr_left
  intro y _
  simp only [Function.comp, id]
  omega
theorem hi_dv (N : Nat) : dv (hi N) (hi N).length = N := by
  have h := vl_dv (xs := hi N) (hi N).length (Nat.le_refl _)
  rw [List.take_length, hi_map] at h
  rw [← h]; exact vl_dg (by decide) N
theorem hi_plain {N : Nat} (h : N ≠ 0) : Plain (hi N) := by
  have hp := dl10_pos h
  have hl := hi_len N
  refine ⟨hi_dig N, fun e => by rw [e] at hl; simp at hl; omega, ?_⟩
  have hn := norm_dg (by decide : 2 ≤ 10) N (by show 0 < dl 10 N; exact hp)
  have hlen : (asc (dg 10 N)).length = (dg 10 N).length := asc_len _
  have e : lg (hi N) 0 = 48 + lg (dg 10 N) ((dg 10 N).length - 1) := by
    have h0 : 0 < (dg 10 N).length := hp
    rw [← lg_asc (by omega), lg_get (by rw [hl]; exact hp), lg_get (by rw [hlen]; omega)]
    unfold hi
    rw [List.getElem_reverse]
    congr 1
    rw [hlen]; omega
  omega
theorem tx_parts {z : Int} (h : z ≠ 0) : bd (tx z) = hi z.natAbs ∧ ng (tx z) = decide (z < 0) := by
  have hp := hi_plain (N := z.natAbs) (by omega)
  have hc : lg (hi z.natAbs) 0 ≠ 45 := by
    have := hi_dig z.natAbs 0 (List.length_pos_iff.2 hp.2.1)
    omega
  unfold tx
  rw [if_neg h]
  show bd ((if z < 0 then [45] else []) ++ hi z.natAbs) = _ ∧ ng ((if z < 0 then [45] else []) ++ hi z.natAbs) = _
  generalize hi z.natAbs = B at *
  by_cases k : z < 0
  · rw [if_pos k, decide_eq_true k]
    unfold bd ng
    exact ⟨by simp, by simp⟩
  · rw [if_neg k, decide_eq_false k, List.nil_append]
    have e : ¬ List.take 1 B = [45] := by
      cases B with
      | nil => simp
      | cons x l =>
        rw [List.take_succ_cons, List.take_zero]
        intro q
        injection q with q _
        exact hc q
    unfold bd ng
    exact ⟨if_neg e, decide_eq_false e⟩
/-- What is written is read as it was. -/
theorem pz_tx {z : Int} (h : dl 10 z.natAbs ≤ 1000) : pe (tx z) = 0 ∧ pz (tx z) = z := by
  by_cases e : z = 0
  · subst e; decide +kernel
  · have t := tx_parts e
    have hp := hi_plain (N := z.natAbs) (by omega)
    have hpe : pe (tx z) = 0 := by
      unfold pe
      rw [t.1, hi_len, if_neg (fun k => k.2 hp), if_neg (by omega)]
    refine ⟨hpe, ?_⟩
    unfold pz
    rw [if_pos hpe, t.1, t.2, hi_dv]
    exact sg_self z
end Go.Proofs.Ytpkhdajnppoinaa
