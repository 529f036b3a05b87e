/- Words for NatSums: what comes in, limbs of at most five, sums of lists. -/
import Derived.Test.YthoiocjbjfhgpaaNac
import Derived.Test.YthoiocjbjfhgpaaLawR
namespace Go.Proofs.Ythoiocjbjfhgpaa
open Go.RowKit
set_option maxRecDepth 100000
set_option linter.unusedVariables false

def Since (w1 w : World) : Prop := Below w1.heap.size w1 w
theorem Since.below {w1 w w' : World} (h : Since w1 w) (hb : Below w.heap.size w w') : Since w1 w' := below_to h hb
theorem Since.app {w1 w w' : World} (h : Since w1 w) (hb : Below w1.heap.size w w') : Since w1 w' := Below.trans h hb
theorem Since.size {w1 w : World} (h : Since w1 w) : w1.heap.size ≤ w.heap.size := Below.size h
theorem below_less {B B' : Nat} {w w' : World} (h : Below B w w') (hl : B' ≤ B) : Below B' w w' := ⟨h.os, h.tape, h.output, h.size, fun k hk => h.block k (by omega)⟩
/-- A number of at most five limbs. -/
def Few5 (w : World) (v : Value) (N : Nat) : Prop := ∃ xs, okb B32 xs ∧ xs.length ≤ 5 ∧ vl B32 xs = N ∧ Sq w .u32 v xs
theorem Few5.below {w w' : World} {v : Value} {N : Nat} (h : Few5 w v N) (hb : Below w.heap.size w w') : Few5 w' v N := by
  obtain ⟨xs, h1, h2, h3, h4⟩ := h
  exact ⟨xs, h1, h2, h3, h4.below hb⟩
theorem Few5.nt {w : World} {v : Value} {N : Nat} (h : Few5 w v N) : Nt w v N := by
  obtain ⟨xs, h1, h2, h3, h4⟩ := h
  exact ⟨xs, h1, h3, h4⟩
theorem Few5.form {w : World} {v : Value} {N : Nat} (h : Few5 w v N) : ∃ a n c, v = .slice a n c := h.nt.shape
theorem few5_any (ad : Option Addr) (n cap : Nat) (xs : List Nat) (w : World) (h : InX w ad n cap xs) :
    Calls Try.prog 8 #[.slice ad n cap, .int .i64 5] w (fun e w' => ∃ v, e = .returned v ∧ Few5 w' v (vl B32 (xs.take 5)) ∧ Below w.heap.size w w') := by
  refine (few_any ad n cap xs 5 w h.len h.rd h.cap h.max h.nil (by decide)).mono ?_
  rintro e w' ⟨v, rfl, ha, bb⟩
  exact ⟨v, rfl, ⟨xs.take 5, fun x hx => h.ok x (List.mem_of_mem_take hx), by simp; omega, rfl, ha.sq (by simp; omega)⟩, bb⟩
theorem fewlim (xs : List Nat) (h : okb B32 xs) : vl B32 (xs.take 5) ≤ 2 ^ 160 := by
  have h1 := vl_lt (b := B32) (xs := xs.take 5) (fun x hx => h x (List.mem_of_mem_take hx))
  have h2 : B32 ^ (xs.take 5).length ≤ B32 ^ 5 := Nat.pow_le_pow_right B32_pos (by simp; omega)
  have h3 : B32 ^ 5 = 2 ^ 160 := by decide +kernel
  omega
theorem bits5_any (v : Value) (N : Nat) (w : World) (h : Few5 w v N) : Calls Try.prog 10 #[v] w (DbPost w N) := by
  obtain ⟨xs, h1, h2, rfl, h4⟩ := h
  exact rbits_sq v xs w h4 h1 (by omega)
/-- Rows of limbs that came in. -/
def LIn (w : World) (ad : Option Addr) (xss : List (List Nat)) : Prop :=
  xss = [] ∨ ∃ b o, ad = some ⟨b, o, none⟩ ∧ ∀ i, i < xss.length → ∃ a n c, w.cell? ⟨b, o + i, none⟩ = some (.slice a n c) ∧ InX w a n c (xss.getD i [])
theorem LIn.at {w w' : World} {ad : Option Addr} {xss : List (List Nat)} (h : LIn w ad xss) (hb : Below w.heap.size w w') {i : Nat} (hi : i < xss.length) :
    ∃ b o a n c, ad = some ⟨b, o, none⟩ ∧ w'.cell? ⟨b, o + i, none⟩ = some (.slice a n c) ∧ InX w' a n c (xss.getD i []) := by
  rcases h with h | ⟨b, o, rfl, h⟩
  · subst h; simp at hi
  · obtain ⟨a, n, c, h1, h2⟩ := h i hi
    refine ⟨b, o, a, n, c, rfl, ?_, h2.below hb⟩
    rw [← h1]
    exact World.cell?_of_block (w := w) (hb.block b (World.block_lt_of_cell? w _ h1))
/-- Ints that came in. -/
def OIn (w : World) (ad : Option Addr) (n : Nat) : Prop := n = 0 ∨ ∃ b o, ad = some ⟨b, o, none⟩ ∧ ∀ i, i < n → ∃ z, w.cell? ⟨b, o + i, none⟩ = some (.int .i64 z)
theorem OIn.at {w w' : World} {ad : Option Addr} {n : Nat} (h : OIn w ad n) (hb : Below w.heap.size w w') {i : Nat} (hi : i < n) :
    ∃ b o z, ad = some ⟨b, o, none⟩ ∧ w'.cell? ⟨b, o + i, none⟩ = some (.int .i64 z) := by
  rcases h with h | ⟨b, o, rfl, h⟩
  · omega
  · obtain ⟨z, h1⟩ := h i hi
    refine ⟨b, o, z, rfl, ?_⟩
    rw [← h1]
    exact World.cell?_of_block (w := w) (hb.block b (World.block_lt_of_cell? w _ h1))
theorem bl_lin {t : TypeId} {w : World} {ad : Option Addr} {n c : Nat} : (builtin .len #[22] t #[false] #[.slice ad n c]).run Try.prog w = .ok (.value (.int .i64 n)) w := by
  have hu := run_underlying (P := Try.prog) Try.underlying22 w
  simp [Builtin.len_, Sem.run_bind, hu, go_sem]
theorem bl_oin {t : TypeId} {w : World} {ad : Option Addr} {n c : Nat} : (builtin .len #[23] t #[false] #[.slice ad n c]).run Try.prog w = .ok (.value (.int .i64 n)) w := by
  have hu := run_underlying (P := Try.prog) Try.underlying23 w
  simp [Builtin.len_, Sem.run_bind, hu, go_sem]
theorem ix_lin {w : World} {g o n c i : Nat} {z : Int} (hz : z = ((i : Nat) : Int)) (hi : i < n) : (Instr.indexAt 22 (.slice (some ⟨g, o, none⟩) n c) (.int .i64 z)).run Try.prog w = .ok (.pointer (some ⟨g, o + i, none⟩)) w := by
  subst hz
  have hu := run_underlying (P := Try.prog) Try.underlying22 w
  unfold Instr.indexAt
  simp [Sem.run_bind, asIntOf, go_sem, hu, hi, Addr.add]
theorem ix_oin {w : World} {g o n c i : Nat} {z : Int} (hz : z = ((i : Nat) : Int)) (hi : i < n) : (Instr.indexAt 23 (.slice (some ⟨g, o, none⟩) n c) (.int .i64 z)).run Try.prog w = .ok (.pointer (some ⟨g, o + i, none⟩)) w := by
  subst hz
  have hu := run_underlying (P := Try.prog) Try.underlying23 w
  unfold Instr.indexAt
  simp [Sem.run_bind, asIntOf, go_sem, hu, hi, Addr.add]
theorem ix_natz {w : World} {g o n c i : Nat} {z : Int} (hz : z = ((i : Nat) : Int)) (hi : i < n) : (Instr.indexAt 25 (.slice (some ⟨g, o, none⟩) n c) (.int .i64 z)).run Try.prog w = .ok (.pointer (some ⟨g, o + i, none⟩)) w := by
  subst hz
  exact ix_nats hi
theorem ld_cell {w : World} {T : TypeId} {d : TypeDesc} {ad : Addr} {v : Value} (hu : Try.prog.underlying T = some d) (hd : d.isRow = false) (hc : w.cell? ad = some v) : (Instr.loadAt T (.pointer (some ad))).run Try.prog w = .ok v w := by
  have hagg : (isAgg T).run Try.prog w = .ok false w := by
    unfold isAgg
    rw [Sem.run_bind, run_underlying hu w]
    cases d <;> simp_all
  simp [Instr.loadAt, Instr.sureAddr, loadVar, Sem.run_bind, hagg, hc, go_sem]
theorem Own.cellN {w : World} {g i : Nat} {cs : List Value} {v : Value} (h : Own w g cs) (hv : cs[i]? = some v) : w.cell? ⟨g, 0 + i, none⟩ = some v := by
  obtain ⟨⟨T, h⟩, _⟩ := h
  rw [Nat.zero_add, cell_of_row w g i _ _ _ h, List.getElem?_toArray]; exact hv
section
variable {P : Program} {w : World}
theorem r_slice3 {a : Act} {dst : Option Tmp} {ty : TypeId} {pos : String} {af : Array Edge} {gd : Option (Nat × Bool)} {t : TypeId} {x hi mx : Operand} {p q r v : Value} (h : a.eval x = p) (h2 : a.eval hi = q) (h3 : a.eval mx = r) (hl : (Instr.sliceAt t p none (some q) (some r)).run P w = .ok v w) :
    (execOp a.eval ⟨dst, .slice t x none (some hi) (some mx), ty, pos, af, gd⟩).run P w = .ok (.value v) w := by
  simp only [execOp, h, h2, h3, Option.map]
  exact run_v hl
theorem r_sliceN {a : Act} {dst : Option Tmp} {ty : TypeId} {pos : String} {af : Array Edge} {gd : Option (Nat × Bool)} {t : TypeId} {x lo : Operand} {p q v : Value} (h : a.eval x = p) (h2 : a.eval lo = q) (hl : (Instr.sliceAt t p (some q) none none).run P w = .ok v w) :
    (execOp a.eval ⟨dst, .slice t x (some lo) none none, ty, pos, af, gd⟩).run P w = .ok (.value v) w := by
  simp only [execOp, h, h2, Option.map]
  exact run_v hl
end
/-- Where what is behind k begins. -/
def lsa (g k c : Nat) : Option Addr := if c - (k + 1) = 0 then some ⟨g, 0, none⟩ else some ⟨g, k + 1, none⟩
theorem sl_3 {w : World} {g n c k : Nat} {z : Int} (hz : z = ((k : Nat) : Int)) (hk : k ≤ c) : (Instr.sliceAt 25 (.slice (some ⟨g, 0, none⟩) n c) none (some (.int .i64 z)) (some (.int .i64 z))).run Try.prog w = .ok (.slice (some ⟨g, 0, none⟩) k k) w := by
  subst hz
  have h1 : ¬ ((c : Int) < (k : Int)) := by omega
  have hs := size_run (P := Try.prog) (T := 27) (n := 1) sz_nat1 w
  by_cases h0 : k = 0 <;> simp [Instr.sliceAt, Instr.slice, Instr.sliceBounds, Instr.sliceBound, asIntOf, run_underlying Try.underlying25, Sem.run_bind, hk, hs, h0, go_sem, Addr.add]
theorem sl_lo {w : World} {g n c k : Nat} {z : Int} (hz : z = ((k : Nat) : Int) + 1) (hk : k + 1 ≤ n) (hn : n ≤ c) : (Instr.sliceAt 25 (.slice (some ⟨g, 0, none⟩) n c) (some (.int .i64 z)) none none).run Try.prog w = .ok (.slice (lsa g k c) (n - (k + 1)) (c - (k + 1))) w := by
  have hz' : z = ((k + 1 : Nat) : Int) := by omega
  clear hz; subst hz'
  have h1 : ¬ ((n : Int) < ((k + 1 : Nat) : Int)) := by omega
  have h2 : k + 1 ≤ c := by omega
  have hs := size_run (P := Try.prog) (T := 27) (n := 1) sz_nat1 w
  unfold lsa
  by_cases h0 : c = k + 1
  · subst h0
    simp [Instr.sliceAt, Instr.slice, Instr.sliceBounds, Instr.sliceBound, asIntOf, run_underlying Try.underlying25, Sem.run_bind, hn, go_sem, Addr.add]
    intro h
    have := h (by omega)
    omega
  · have h3 : ¬ c - (k + 1) = 0 := by omega
    simp [Instr.sliceAt, Instr.slice, Instr.sliceBounds, Instr.sliceBound, asIntOf, run_underlying Try.underlying25, Sem.run_bind, h3, go_sem, Addr.add]
    rw [if_pos (by omega), if_neg h0]
/-- Without the k-th. -/
def delq (ns : List Nat) (k : Nat) : List Nat := ns.take k ++ ns.drop (k + 1)
theorem delq_len {ns : List Nat} {k : Nat} (hk : k < ns.length) : k + (ns.length - (k + 1)) = (delq ns k).length := by
  unfold delq
  rw [List.length_append, List.length_take, List.length_drop]; omega
theorem delq_sum {ns : List Nat} {k : Nat} (hk : k < ns.length) : (delq ns k).sum + ns.getD k 0 = ns.sum := by
  unfold delq
  have e : ns.sum = (ns.take k ++ ns.drop k).sum := by rw [List.take_append_drop]
  rw [e, List.drop_eq_getElem_cons hk, List.sum_append, List.sum_append, List.sum_cons]
  simp [List.getD, hk]
  omega
theorem sum_snoc (ns : List Nat) (n : Nat) : (ns ++ [n]).sum = ns.sum + n := by simp
theorem nsum_take (ns : List Nat) : ∀ i, i ≤ ns.length → nsum ns i = (ns.take i).sum
  | 0, _ => by simp [nsum]
  | i + 1, h => by
    rw [nsum, nsum_take ns i (by omega), List.take_add_one, List.sum_append]
    simp [List.getD]
    cases hq : ns[i]? <;> simp
theorem nsum_all (ns : List Nat) : nsum ns ns.length = ns.sum := by rw [nsum_take ns _ (Nat.le_refl _), List.take_length]
theorem nsum_le {ns : List Nat} {i : Nat} (h : i < ns.length) : nsum ns i + ns.getD i 0 ≤ ns.sum := by
  have h1 : nsum ns i + ns.getD i 0 = nsum ns (i + 1) := rfl
  rw [h1, nsum_take ns _ (by omega)]
  conv => rhs; rw [← List.take_append_drop (i + 1) ns]
  rw [List.sum_append]; omega
theorem sum_dl {ns : List Nat} {N : Nat} (h : ns.sum ≤ N) (hN : N ≤ 8 * 2 ^ 160) : ∀ i, i < ns.length → dl B32 (nsum ns i + ns.getD i 0) ≤ 1099511627776 := by
  intro i hi
  have h1 := nsum_le hi
  refine Lim.dl (a := 6) (show _ < B32 ^ 6 from ?_) _ (by decide)
  have h2 : B32 ^ 6 = 2 ^ 192 := by decide +kernel
  rw [h2]; omega
theorem bnd8 {s i : Nat} (h : s ≤ i * 2 ^ 160) (hi : i ≤ 8) : s ≤ 8 * 2 ^ 160 := Nat.le_trans h (Nat.mul_le_mul_right _ hi)
theorem dl2_lim {N : Nat} (h : N ≤ 8 * 2 ^ 160) : dl 2 N < 1099511627776 := by
  have := dl_le (b := 2) (by omega) (k := 164) (n := N) (by omega)
  omega
/-- What is left when one was taken away. -/
theorem del_left {w w' : World} {k m : Nat} {cs cs' : List Value} {ns : List Nat} (hk : k < ns.length) (hm : m = ns.length - (k + 1)) (hE : NEl w cs ns) (hc : ns.length ≤ cs.length) (bb : Below w.heap.size w w') (ht : cs'.take (k + m) = cs.take k ++ (cs.drop (k + 1)).take m) : NEl w' cs' (delq ns k) ∧ (delq ns k).length ≤ cs'.length := by
  have hlen : (cs'.take (k + m)).length = k + m := by rw [ht, List.length_append, List.length_take, List.length_take, List.length_drop]; omega
  have hle : k + m ≤ cs'.length := by rw [List.length_take] at hlen; omega
  refine ⟨fun i hi => ?_, by rw [← delq_len hk]; omega⟩
  rw [← delq_len hk] at hi
  have e1 : cs'[i]? = (cs.take k ++ (cs.drop (k + 1)).take m)[i]? := by rw [← ht, List.getElem?_take, if_pos (by omega)]
  rcases Nat.lt_or_ge i k with h | h
  · obtain ⟨a, n, c, h1, h2⟩ := hE i (by omega)
    refine ⟨a, n, c, ?_, ?_⟩
    · rw [e1, List.getElem?_append_left (by rw [List.length_take]; omega), List.getElem?_take, if_pos h]; exact h1
    · have e2 : (delq ns k).getD i 0 = ns.getD i 0 := by
        unfold delq
        simp only [List.getD]
        rw [List.getElem?_append_left (by rw [List.length_take]; omega), List.getElem?_take, if_pos h]
      rw [e2]; exact h2.below bb
  · obtain ⟨a, n, c, h1, h2⟩ := hE (i + 1) (by omega)
    have l1 : (cs.take k).length = k := by rw [List.length_take]; omega
    have l2 : (ns.take k).length = k := by rw [List.length_take]; omega
    refine ⟨a, n, c, ?_, ?_⟩
    · rw [e1, List.getElem?_append_right (by omega), l1, List.getElem?_take, if_pos (by omega), List.getElem?_drop, show k + 1 + (i - k) = i + 1 by omega]; exact h1
    · have e2 : (delq ns k).getD i 0 = ns.getD (i + 1) 0 := by
        unfold delq
        simp only [List.getD]
        rw [List.getElem?_append_right (by omega), l2, List.getElem?_drop, show k + 1 + (i - k) = i + 1 by omega]
      rw [e2]; exact h2.below bb
theorem lsa_cells {w : World} {g n c k : Nat} {cs : List Value} (ho : Own w g cs) (hn : n ≤ c) : n - (k + 1) = 0 ∨ ∃ a, lsa g k c = some a ∧ ∀ j u, ((cs.drop (k + 1)).take (n - (k + 1)))[j]? = some u → w.cell? (a.add j) = some u := by
  by_cases h : c - (k + 1) = 0
  · exact .inl (by omega)
  · refine .inr ⟨⟨g, k + 1, none⟩, by unfold lsa; rw [if_neg h], fun j u hj => ?_⟩
    obtain ⟨⟨T, hg⟩, _⟩ := ho
    rw [Addr.add_mid, cell_of_row w g (k + 1 + j) _ _ _ hg, List.getElem?_toArray]
    rw [List.getElem?_take] at hj
    split at hj
    · rw [List.getElem?_drop] at hj; exact hj
    · cases hj
end Go.Proofs.Ythoiocjbjfhgpaa
