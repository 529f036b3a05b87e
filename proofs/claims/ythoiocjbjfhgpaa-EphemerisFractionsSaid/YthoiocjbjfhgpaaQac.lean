/- Slices of rational numbers of the call's own, by append. -/
import Derived.Test.YthoiocjbjfhgpaaAcr
namespace Go.Proofs.Ythoiocjbjfhgpaa
open Go.RowKit
set_option maxRecDepth 100000
set_option linter.unusedVariables false

/-- A slice of the call's own: the numbers qs. -/
def QAcc (w : World) (base : Nat) (v : Value) (qs : List Rat) : Prop := ∃ rs, AccR w 3 61 base v qs.length rs ∧ QEl w rs qs
theorem QAcc.nil (w : World) (base : Nat) : QAcc w base (.slice none 0 0) [] := ⟨[], AccR.nil _ _ _ _, fun i hi => by simp at hi⟩
theorem AccR.below {w w' : World} {m T base : Nat} {v : Value} {n : Nat} {rs : List Value} (h : AccR w m T base v n rs) (hb : Below w.heap.size w w') : AccR w' m T base v n rs := by
  have hg : w.grownBy w' none := ⟨hb.os, hb.tape, hb.output, hb.size, fun k hk _ => hb.block k hk⟩
  refine ⟨h.1.kept hg (by cases v.ownBlock <;> simp), fun g e => ?_⟩
  have hlt := (h.1.lt g e).2
  intro j k n hc
  refine h.2 g e j k n ?_
  rw [← hc]
  exact (World.cell?_of_block (w := w) (hb.block g hlt)).symm
theorem QAcc.below {w w' : World} {base : Nat} {v : Value} {qs : List Rat} (h : QAcc w base v qs) (hb : Below w.heap.size w w') : QAcc w' base v qs := by
  obtain ⟨rs, h1, h2⟩ := h
  exact ⟨rs, h1.below hb, h2.below hb⟩
/-- A store into another block of the call's own. -/
theorem QAcc.turned {w w' : World} {base g : Nat} {v : Value} {qs : List Rat} {cs : List Value} (h : QAcc w base v qs) (ht : Turned g w w') (ho : Own w g cs) (hne : v.ownBlock ≠ some g) : QAcc w' base v qs := by
  obtain ⟨rs, h1, h2⟩ := h
  have hg : w.grownBy w' (some g) := ⟨ht.os, ht.tape, ht.output, by rw [ht.size]; exact Nat.le_refl _, fun k _ hk => ht.block k (fun e => hk (by rw [e]))⟩
  refine ⟨rs, ⟨h1.1.kept hg (.inr hne), fun b e => ?_⟩, h2.keep (ht.keep ho)⟩
  intro j k n hc
  refine h1.2 b e j k n ?_
  rw [← hc]
  exact (World.cell?_of_block (w := w) (ht.block b (fun e2 => hne (by rw [e, e2])))).symm
theorem QAcc.lt {w : World} {base : Nat} {v : Value} {qs : List Rat} (h : QAcc w base v qs) : ∀ k, v.ownBlock = some k → base ≤ k ∧ k < w.heap.size := by
  obtain ⟨rs, h1, _⟩ := h
  exact h1.1.lt
theorem QAcc.form {w : World} {base : Nat} {v : Value} {qs : List Rat} (h : QAcc w base v qs) : ∃ ad cap, v = .slice ad qs.length cap := by
  obtain ⟨rs, h1, _⟩ := h
  rcases h1.1.2 with ⟨rfl, e⟩ | ⟨g, cap, cur, rfl, _⟩
  · exact ⟨none, 0, by rw [e]⟩
  · exact ⟨_, _, rfl⟩
theorem QAcc.at {w : World} {base : Nat} {ad : Option Addr} {n cap : Nat} {qs : List Rat} (h : QAcc w base (.slice ad n cap) qs) {i : Nat} (hi : i < qs.length) :
    ∃ g cs b xa xn xc ya yn yc, ad = some ⟨g, 0, none⟩ ∧ n = qs.length ∧ Own w g cs ∧ (cs.drop (3 * i)).take 3 = [.bool b, .slice xa xn xc, .slice ya yn yc] ∧ Rq w (.agg #[.bool b, .slice xa xn xc, .slice ya yn yc]) (qs.getD i 0) := by
  obtain ⟨rs, h1, h2⟩ := h
  obtain ⟨b, xa, xn, xc, ya, yn, yc, h3, h4⟩ := h2 i hi
  rcases h1.1.2 with ⟨_, e⟩ | ⟨g, cap', cur, hv, _, hg, _, _, _, htake⟩
  · omega
  · injection hv with e1 e2 e3
    refine ⟨g, cur.toList, b, xa, xn, xc, ya, yn, yc, e1, e2, ⟨⟨_, by simpa using hg⟩, h1.all (by rw [e1, e2]) hg⟩, ?_, h4⟩
    rw [← h3, ← htake, List.drop_take, List.take_take, Nat.min_eq_left (by omega)]
theorem info_rat : ∃ i z, Try.prog.info? 61 = some i ∧ i.zero = some z ∧ i.size = 3 ∧ i.bytes = 56 ∧ z.cells.size = 3 ∧ ∀ u ∈ z.cells.toList, notInt u := by
  have h1 : (Try.prog.info? 61).map (·.size) = some 3 := by kernel_rfl
  have h2 : (Try.prog.info? 61).bind (·.zero) = some (.agg #[.bool false, .slice none 0 0, .slice none 0 0]) := by kernel_rfl
  have h3 : (Try.prog.info? 61).map (·.bytes) = some 56 := by kernel_rfl
  cases hq : Try.prog.info? 61 with
  | none => rw [hq] at h1; cases h1
  | some i => exact ⟨i, .agg #[.bool false, .slice none 0 0, .slice none 0 0], rfl, by simpa [hq] using h2, by simpa [hq] using h1, by simpa [hq] using h3, rfl, (show ∀ u ∈ [Value.bool false, .slice none 0 0, .slice none 0 0], notInt u from niB (niS (niS ni0)))⟩
theorem sz_rat3 : (Try.prog.info? 61).map (·.size) = some 3 := by kernel_rfl
/-- 'append(qs, q)'. -/
theorem app_rat {w : World} {base : Nat} {v : Value} {qs : List Rat} (h : QAcc w base v qs) {gs : Nat} {b : Bool} {xa ya : Option Addr} {xn xc yn yc : Nat} {q : Rat} (hs : Own w gs [.bool b, .slice xa xn xc, .slice ya yn yc]) (hr : Rq w (.agg #[.bool b, .slice xa xn xc, .slice ya yn yc]) q) (hl : qs.length ≤ 1000000) (bel : base ≤ w.heap.size) {ty : TypeId} :
    ∃ ad n cap w', (builtin .append #[63, 63] ty #[false, false] #[v, .slice (some ⟨gs, 0, none⟩) 1 1]).run Try.prog w = .ok (.value (.slice ad n cap)) w' ∧ QAcc w' base (.slice ad n cap) (qs ++ [q]) ∧ w.grownBy w' v.ownBlock ∧ Keep w w' ∧ Below base w w' ∧ n = (qs ++ [q]).length ∧ ∀ b, b < w.heap.size → v.ownBlock ≠ some b → (Value.slice ad n cap).ownBlock ≠ some b := by
  obtain ⟨rs, h1, h2⟩ := h
  obtain ⟨ad, cap, w', hrun, ha, hg, hne⟩ := AccR.app (ty := ty) Try.underlying63 info_rat (by decide) (by decide) h1 hs rfl (ocB (ocS (ocS oc0))) hl bel
  have kp := keep_grown hg h1.2
  have hlen : (qs ++ [q]).length = qs.length + 1 := by simp
  refine ⟨ad, qs.length + 1, cap, w', ?_, ⟨_, by rw [hlen]; exact ha, ?_⟩, hg, kp, below_grown hg (fun g e => (h1.1.lt g e).1) bel, hlen.symm, hne⟩
  · show (do pure (.value (← Builtin.append_ #[63, 63] ty #[v, .slice (some ⟨gs, 0, none⟩) 1 1])) : Sem Next).run Try.prog w = _
    rw [Sem.run_bind, hrun]; rfl
  · intro i hi
    have hrl := h1.1.1
    rcases Nat.lt_or_ge i qs.length with k | k
    · obtain ⟨b', xa', xn', xc', ya', yn', yc', h3, h4⟩ := h2 i k
      refine ⟨b', xa', xn', xc', ya', yn', yc', ?_, ?_⟩
      · rw [List.drop_append_of_le_length (by omega), List.take_append_of_le_length (by rw [List.length_drop]; omega)]; exact h3
      · rw [show (qs ++ [q]).getD i 0 = qs.getD i 0 by simp [List.getD, List.getElem?_append_left k]]
        exact h4.keep kp
    · obtain rfl : i = qs.length := by omega
      refine ⟨b, xa, xn, xc, ya, yn, yc, ?_, ?_⟩
      · rw [show 3 * qs.length = rs.length by omega, List.drop_left]; rfl
      · rw [show (qs ++ [q]).getD qs.length 0 = q by simp [List.getD]]
        exact hr.keep kp
/-- A row of one number. -/
theorem bs_rat (w : World) (b : Bool) (xa : Option Addr) (xn xc : Nat) (ya : Option Addr) (yn yc : Nat) : ∃ g w', w.heap.size = g ∧ (Instr.buildSlice 63 1 #[(0, .agg #[.bool b, .slice xa xn xc, .slice ya yn yc])]).run Try.prog w = .ok (.slice (some ⟨g, 0, none⟩) 1 1) w' ∧ Below w.heap.size w w' ∧ Own w' g [.bool b, .slice xa xn xc, .slice ya yn yc] := by
  have hb := own_new (w := w) (cs := [.bool b, .slice xa xn xc, .slice ya yn yc]) 61 (niB (niS (niS ni0)))
  refine ⟨w.heap.size, w.alloc (.cells #[.bool b, .slice xa xn xc, .slice ya yn yc] 61), rfl, ?_, hb.2, hb.1⟩
  have hs := size_run (P := Try.prog) (T := 61) (n := 3) sz_rat3 w
  simp [Instr.buildSlice, go_sem, hs, Instr.fill, Value.cells, newRow]
theorem QAcc.row {w : World} {base : Nat} {ad : Option Addr} {n cap : Nat} {qs : List Rat} (h : QAcc w base (.slice ad n cap) qs) (hp : 0 < qs.length) :
    ∃ g cs, ad = some ⟨g, 0, none⟩ ∧ n = qs.length ∧ Own w g cs ∧ QEl w cs qs := by
  obtain ⟨rs, h1, h2⟩ := h
  rcases h1.1.2 with ⟨_, e⟩ | ⟨g, cap', cur, hv, _, hg, _, _, _, htake⟩
  · omega
  · injection hv with e1 e2 e3
    refine ⟨g, cur.toList, e1, e2, ⟨⟨_, by simpa using hg⟩, h1.all (by rw [e1, e2]) hg⟩, fun i hi => ?_⟩
    obtain ⟨b, xa, xn, xc, ya, yn, yc, h3, h4⟩ := h2 i hi
    refine ⟨b, xa, xn, xc, ya, yn, yc, ?_, h4⟩
    rw [← h3, ← htake, List.drop_take, List.take_take, Nat.min_eq_left (by omega)]
theorem ix_ratz {w : World} {g n c i : Nat} {z : Int} (hz : z = ((i : Nat) : Int)) (hi : i < n) : (Instr.indexAt 63 (.slice (some ⟨g, 0, none⟩) n c) (.int .i64 z)).run Try.prog w = .ok (.pointer (some ⟨g, 3 * i, none⟩)) w := by
  subst hz
  exact ix_rats hi
end Go.Proofs.Ythoiocjbjfhgpaa
