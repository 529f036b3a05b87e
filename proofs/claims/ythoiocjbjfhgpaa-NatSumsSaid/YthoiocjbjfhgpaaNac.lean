/- Slices of natural numbers of the call's own, by append; words for NatSums. -/
import Derived.Test.YthoiocjbjfhgpaaAcr
import Derived.Test.YthoiocjbjfhgpaaNsB
import Derived.Test.YthoiocjbjfhgpaaLawE
import Derived.Test.YthoiocjbjfhgpaaGR
namespace Go.Proofs.Ythoiocjbjfhgpaa
open Go.RowKit
set_option maxRecDepth 100000
set_option linter.unusedVariables false

/-- The cells are those of the numbers ns. -/
def NEl (w : World) (rs : List Value) (ns : List Nat) : Prop := ∀ i, i < ns.length → ∃ a n c, rs[i]? = some (.slice a n c) ∧ Nt w (.slice a n c) (ns.getD i 0)
theorem NEl.below {w w' : World} {rs : List Value} {ns : List Nat} (h : NEl w rs ns) (hb : Below w.heap.size w w') : NEl w' rs ns := fun i hi => by
  obtain ⟨a, n, c, h1, h2⟩ := h i hi
  exact ⟨a, n, c, h1, h2.below hb⟩
theorem NEl.keep {w w' : World} {rs : List Value} {ns : List Nat} (h : NEl w rs ns) (kp : Keep w w') : NEl w' rs ns := fun i hi => by
  obtain ⟨a, n, c, h1, h2⟩ := h i hi
  exact ⟨a, n, c, h1, kp.nt h2⟩
/-- A slice of the call's own, by append. -/
def NAcc (w : World) (base : Nat) (v : Value) (ns : List Nat) : Prop := ∃ rs, AccR w 1 27 base v ns.length rs ∧ NEl w rs ns
theorem NAcc.nil (w : World) (base : Nat) : NAcc w base (.slice none 0 0) [] := ⟨[], AccR.nil _ _ _ _, fun i hi => by simp at hi⟩
theorem AccR.belowN {w w' : World} {m T base : Nat} {v : Value} {n : Nat} {rs : List Value} (h : AccR w m T base v n rs) (hb : Below w.heap.size w w') : AccR w' m T base v n rs := by
  have hg : w.grownBy w' none := ⟨hb.os, hb.tape, hb.output, hb.size, fun k hk _ => hb.block k hk⟩
  refine ⟨h.1.kept hg (by cases v.ownBlock <;> simp), fun g e => ?_⟩
  have hlt := (h.1.lt g e).2
  intro j k n hc
  refine h.2 g e j k n ?_
  rw [← hc]
  exact (World.cell?_of_block (w := w) (hb.block g hlt)).symm
theorem NAcc.below {w w' : World} {base : Nat} {v : Value} {ns : List Nat} (h : NAcc w base v ns) (hb : Below w.heap.size w w') : NAcc w' base v ns := by
  obtain ⟨rs, h1, h2⟩ := h
  exact ⟨rs, h1.belowN hb, h2.below hb⟩
theorem NAcc.lt {w : World} {base : Nat} {v : Value} {ns : List Nat} (h : NAcc w base v ns) : ∀ k, v.ownBlock = some k → base ≤ k ∧ k < w.heap.size := by
  obtain ⟨rs, h1, _⟩ := h
  exact h1.1.lt
theorem NAcc.cast {w : World} {base : Nat} {v : Value} {xs ys : List Nat} (h : NAcc w base v xs) (e : xs = ys) : NAcc w base v ys := e ▸ h
/-- What it is, told as a row. -/
theorem NAcc.told {w : World} {base : Nat} {v : Value} {ns : List Nat} (h : NAcc w base v ns) : ∃ ad cap, v = .slice ad ns.length cap ∧ (ns = [] ∨ ∃ g cs, ad = some ⟨g, 0, none⟩ ∧ Own w g cs ∧ NEl w cs ns ∧ ns.length ≤ cs.length) := by
  obtain ⟨rs, h1, h2⟩ := h
  rcases h1.1.2 with ⟨rfl, e⟩ | ⟨g, cap, cur, rfl, _, hg, hnc, _, hcs, htake⟩
  · exact ⟨none, 0, by rw [e], .inl (List.eq_nil_of_length_eq_zero e)⟩
  · refine ⟨_, _, rfl, .inr ⟨g, cur.toList, rfl, ⟨⟨_, by simpa using hg⟩, h1.all rfl hg⟩, fun i hi => ?_, ?_⟩⟩
    · obtain ⟨a, n, c, h3, h4⟩ := h2 i hi
      refine ⟨a, n, c, ?_, h4⟩
      rw [← htake, List.getElem?_take, if_pos (by omega)] at h3
      exact h3
    · have : cur.toList.length = cap := by simpa using hcs
      omega
theorem NAcc.nsl {w : World} {base : Nat} {v : Value} {ns : List Nat} (h : NAcc w base v ns) : NSl w v ns := by
  obtain ⟨ad, cap, rfl, h2⟩ := h.told
  refine ⟨ad, cap, rfl, ?_⟩
  rcases h2 with h2 | ⟨g, cs, rfl, h3, h4, _⟩
  · exact .inl h2
  · exact .inr ⟨g, 0, cs, rfl, h3, fun i hi => by rw [Nat.zero_add]; exact h4 i hi⟩
theorem sz_nat1 : (Try.prog.info? 27).map (·.size) = some 1 := by kernel_rfl
theorem info_nat : ∃ i z, Try.prog.info? 27 = some i ∧ i.zero = some z ∧ i.size = 1 ∧ i.bytes = 24 ∧ z.cells.size = 1 ∧ ∀ u ∈ z.cells.toList, notInt u := by
  have h1 := sz_nat1
  have h2 : (Try.prog.info? 27).bind (·.zero) = some (.slice none 0 0) := by kernel_rfl
  have h3 : (Try.prog.info? 27).map (·.bytes) = some 24 := by kernel_rfl
  cases hq : Try.prog.info? 27 with
  | none => rw [hq] at h1; cases h1
  | some i => exact ⟨i, .slice none 0 0, rfl, by simpa [hq] using h2, by simpa [hq] using h1, by simpa [hq] using h3, rfl, (show ∀ u ∈ [Value.slice none 0 0], notInt u from niS ni0)⟩
theorem bi_app {w w' : World} {x y v : Value} {ty : TypeId} (h : (Builtin.append_ #[25, 25] ty #[x, y]).run Try.prog w = .ok v w') : (builtin .append #[25, 25] ty #[false, false] #[x, y]).run Try.prog w = .ok (.value v) w' := by
  show (do pure (.value (← Builtin.append_ #[25, 25] ty #[x, y])) : Sem Next).run Try.prog w = _
  rw [Sem.run_bind, h]; rfl
/-- 'append(ns, n)'. -/
theorem app_nat {w : World} {base : Nat} {v : Value} {ns : List Nat} (h : NAcc w base v ns) {gs : Nat} {xa : Option Addr} {xn xc N : Nat} (hs : Own w gs [.slice xa xn xc]) (hr : Nt w (.slice xa xn xc) N) (hl : ns.length ≤ 1000000) (bel : base ≤ w.heap.size) {ty : TypeId} :
    ∃ ad n cap w', (builtin .append #[25, 25] ty #[false, false] #[v, .slice (some ⟨gs, 0, none⟩) 1 1]).run Try.prog w = .ok (.value (.slice ad n cap)) w' ∧ NAcc w' base (.slice ad n cap) (ns ++ [N]) ∧ w.grownBy w' v.ownBlock ∧ Keep w w' ∧ Below base w w' ∧ ∀ b, b < w.heap.size → v.ownBlock ≠ some b → (Value.slice ad n cap).ownBlock ≠ some b := by
  obtain ⟨rs, h1, h2⟩ := h
  obtain ⟨ad, cap, w', hrun, ha, hg, hne⟩ := AccR.app (ty := ty) Try.underlying25 info_nat (by decide) (by decide) h1 hs rfl (ocS oc0) hl bel
  have kp := keep_grown hg h1.2
  have hlen : (ns ++ [N]).length = ns.length + 1 := by simp
  refine ⟨ad, ns.length + 1, cap, w', bi_app hrun, ⟨_, by rw [hlen]; exact ha, ?_⟩, hg, kp, below_grown hg (fun g e => (h1.1.lt g e).1) bel, hne⟩
  intro i hi
  have hrl := h1.1.1
  rcases Nat.lt_or_ge i ns.length with k | k
  · obtain ⟨a, n, c, h3, h4⟩ := h2 i k
    refine ⟨a, n, c, by rw [List.getElem?_append_left (by omega)]; exact h3, ?_⟩
    rw [show (ns ++ [N]).getD i 0 = ns.getD i 0 by simp [List.getD, List.getElem?_append_left k]]
    exact kp.nt h4
  · obtain rfl : i = ns.length := by omega
    refine ⟨xa, xn, xc, ?_, ?_⟩
    · rw [List.getElem?_append_right (by omega), show ns.length - rs.length = 0 by omega]; rfl
    · rw [show (ns ++ [N]).getD ns.length 0 = N by simp [List.getD]]
      exact kp.nt hr
/-- A row of one number. -/
theorem bs_nat1 (w : World) (xa : Option Addr) (xn xc : Nat) : ∃ g w', w.heap.size = g ∧ (Instr.buildSlice 25 1 #[(0, .slice xa xn xc)]).run Try.prog w = .ok (.slice (some ⟨g, 0, none⟩) 1 1) w' ∧ Below w.heap.size w w' ∧ Own w' g [.slice xa xn xc] := by
  have hb := own_new (w := w) (cs := [.slice xa xn xc]) 27 (niS ni0)
  refine ⟨w.heap.size, w.alloc (.cells #[.slice xa xn xc] 27), rfl, ?_, hb.2, hb.1⟩
  have hs := size_run (P := Try.prog) (T := 27) (n := 1) sz_nat1 w
  simp [Instr.buildSlice, go_sem, hs, Instr.fill, Value.cells, newRow]
theorem bs_nats0 (w : World) : ∃ g w', w.heap.size = g ∧ (Instr.buildSlice 25 0 #[]).run Try.prog w = .ok (.slice (some ⟨g, 0, none⟩) 0 0) w' ∧ Below w.heap.size w w' ∧ Own w' g [] := by
  have hb := own_new (w := w) (cs := []) 27 ni0
  refine ⟨w.heap.size, w.alloc (.cells #[] 27), rfl, ?_, hb.2, hb.1⟩
  have hs := size_run (P := Try.prog) (T := 27) (n := 1) sz_nat1 w
  simp [Instr.buildSlice, go_sem, hs, Instr.fill, newRow]
theorem bs_ints0 (w : World) : ∃ v w', (Instr.buildSlice 23 0 #[]).run Try.prog w = .ok v w' ∧ Below w.heap.size w w' ∧ Dg w' .i64 2 v 0 := by
  have hs := size_run (P := Try.prog) (T := 3) (n := 1) (by kernel_rfl) w
  refine ⟨.slice (some ⟨w.heap.size, 0, none⟩) 0 0, w.alloc (.cells #[] 3), ?_, (Below.refl _ _).alloc (Nat.le_refl _) _, ?_⟩
  · simp [Instr.buildSlice, go_sem, hs, Instr.fill, newRow]
  · have e : dg 2 0 = [] := by simp [dg]
    unfold Dg
    rw [e]
    exact ⟨some ⟨w.heap.size, 0, none⟩, 0, rfl, ⟨fun i hi => absurd hi (by simp)⟩, by simp, by unfold maxLen; omega, by simp, fun h => by cases h⟩
/-- 'append(a[:k:k], b...)': never in place. -/
theorem cat_new {w : World} {g k : Nat} {cs : List Value} (ho : Own w g cs) (hk : k ≤ cs.length) {ya : Option Addr} {m yc : Nat} {news : List Value} (hlen : news.length = m) (hnews : m = 0 ∨ ∃ a, ya = some a ∧ ∀ j u, news[j]? = some u → w.cell? (a.add j) = some u) (hn : ∀ u ∈ news, notInt u) (hb : k + m ≤ 1000000) {ty : TypeId} :
    ∃ g' c' cs' w', (builtin .append #[25, 25] ty #[false, false] #[.slice (some ⟨g, 0, none⟩) k k, .slice ya m yc]).run Try.prog w = .ok (.value (.slice (some ⟨g', 0, none⟩) (k + m) c')) w' ∧ Below w.heap.size w w' ∧ Own w' g' cs' ∧ cs'.take (k + m) = cs.take k ++ news ∧ (g' = g ∨ w.heap.size ≤ g') ∧ k + m ≤ c' := by
  obtain ⟨i, z, hi, hz, hs, hby, hzs, hzn⟩ := info_nat
  rcases Nat.eq_zero_or_pos m with h0 | h0
  · subst h0
    have hnil : news = [] := List.eq_nil_of_length_eq_zero hlen
    subst hnil
    refine ⟨g, k, cs, w, bi_app ?_, Below.refl _ _, ho, by simp, .inl rfl, Nat.le_refl _⟩
    cases ya <;> simp [Builtin.append_, run_underlying Try.underlying25, sizeOf, typeInfo, hi, Builtin.lenOf, Builtin.firstCells, loadCells, loadCellsFrom, storeCells]
  · obtain ⟨a, rfl, hnw⟩ := hnews.resolve_left (by omega)
    obtain ⟨⟨T, hg⟩, hcs⟩ := ho
    have holds : ∀ j u, (cs.take k)[j]? = some u → w.cell? ((⟨g, 0, none⟩ : Addr).add j) = some u := by
      intro j u hj
      rw [Addr.add_mid, Nat.zero_add, cell_of_row w g j _ _ _ hg, List.getElem?_toArray]
      rw [List.getElem?_take] at hj
      split at hj
      · exact hj
      · cases hj
    have hr := run_append_grow (P := Try.prog) w 25 ty 27 i z Try.underlying25 hi hz ⟨g, 0, none⟩ k k (cs.take k) (by rw [hs, Nat.mul_one, List.length_take]; omega) holds a m yc news (by rw [hs, hlen, Nat.mul_one]) hnw (by omega) (by omega)
      (growslice_fits (by omega) (by rw [hby]; omega))
    refine ⟨_, _, cs.take k ++ news ++ (Builtin.zeroCells z.cells (grownCap w (k + m) k 27 - (k + m))).toList, _, bi_app hr, ?_, ⟨⟨27, ?_⟩, ?_⟩, ?_, .inr (Nat.le_refl _), grownCap_ge _ _ _ _⟩
    · exact ⟨rfl, rfl, rfl, by simp, fun b hb => heap_alloc_old w.drew _ hb⟩
    · refine (heap_alloc_new w.drew _).trans ?_
      simp
    · intro u hu
      rcases List.mem_append.1 hu with hu | hu
      · rcases List.mem_append.1 hu with hu | hu
        · exact hcs u (List.mem_of_mem_take hu)
        · exact hn u hu
      · exact zero_all hzn _ u hu
    · exact List.take_left' (by rw [List.length_append, List.length_take]; omega)
theorem NAcc.len {w : World} {base : Nat} {ad : Option Addr} {n cap : Nat} {ns : List Nat} (h : NAcc w base (.slice ad n cap) ns) : n = ns.length := by
  obtain ⟨a, c, e, _⟩ := h.told
  injection e
theorem copy_nat {w : World} {base : Nat} {ad : Option Addr} {cap : Nat} {ns : List Nat} (h : NAcc w base (.slice ad ns.length cap) ns) {gl : Nat} (ho : Own w gl []) (hl : ns.length ≤ 1000) {ty : TypeId} :
    ∃ g' c' cs' w', (builtin .append #[25, 25] ty #[false, false] #[.slice (some ⟨gl, 0, none⟩) 0 0, .slice ad ns.length cap]).run Try.prog w = .ok (.value (.slice (some ⟨g', 0, none⟩) ns.length c')) w' ∧ Below w.heap.size w w' ∧ Own w' g' cs' ∧ NEl w' cs' ns ∧ ns.length ≤ cs'.length ∧ ns.length ≤ c' := by
  obtain ⟨a2, c2, e, h2⟩ := h.told
  injection e with e1 e2 e3
  subst e1 e3
  have key : ∀ (news : List Value), news.length = ns.length → (ns.length = 0 ∨ ∃ a, ad = some a ∧ ∀ j u, news[j]? = some u → w.cell? (a.add j) = some u) → (∀ u ∈ news, notInt u) → NEl w news ns →
      ∃ g' c' cs' w', (builtin .append #[25, 25] ty #[false, false] #[.slice (some ⟨gl, 0, none⟩) 0 0, .slice ad ns.length cap]).run Try.prog w = .ok (.value (.slice (some ⟨g', 0, none⟩) ns.length c')) w' ∧ Below w.heap.size w w' ∧ Own w' g' cs' ∧ NEl w' cs' ns ∧ ns.length ≤ cs'.length ∧ ns.length ≤ c' := by
    intro news hlen hnews hn hE
    obtain ⟨g', c', cs', w', hr, bb, on, ht, _, hc⟩ := cat_new (ty := ty) ho (k := 0) (Nat.zero_le _) (yc := cap) hlen hnews hn (by omega)
    rw [Nat.zero_add] at hr ht hc
    rw [List.take_zero, List.nil_append] at ht
    have hle : ns.length ≤ cs'.length := by
      have := congrArg List.length ht
      rw [List.length_take, hlen] at this; omega
    refine ⟨g', c', cs', w', hr, bb, on, fun i hi => ?_, hle, hc⟩
    obtain ⟨a, n, c, h3, h4⟩ := hE i hi
    refine ⟨a, n, c, ?_, h4.below bb⟩
    rw [← ht, List.getElem?_take, if_pos hi] at h3
    exact h3
  rcases h2 with h2 | ⟨g, cs, rfl, h3, h4, h5⟩
  · subst h2
    exact key [] rfl (.inl rfl) (fun u hu => by cases hu) (fun i hi => by simp at hi)
  · refine key (cs.take ns.length) (by rw [List.length_take]; omega) (.inr ⟨_, rfl, fun j u hj => ?_⟩) (fun u hu => h3.2 u (List.mem_of_mem_take hu)) (fun i hi => ?_)
    · obtain ⟨⟨T, hg⟩, _⟩ := h3
      rw [Addr.add_mid, Nat.zero_add, cell_of_row w g j _ _ _ hg, List.getElem?_toArray]
      rw [List.getElem?_take] at hj
      split at hj
      · exact hj
      · cases hj
    · obtain ⟨a, n, c, h6, h7⟩ := h4 i hi
      exact ⟨a, n, c, by rw [List.getElem?_take, if_pos hi]; exact h6, h7⟩
end Go.Proofs.Ythoiocjbjfhgpaa
