/- PrA PrB PrC PrD PrE -/
import Derived.Test.YtjdmnchndnpdlaaGN
import Derived.Test.YtjdmnchndnpdlaaWhI
import Derived.Test.YtjdmnchndnpdlaaShf

/- Strings' bytes; digits.plain. -/
namespace Go.Proofs.Ytjdmnchndnpdlaa
open Go.RowKit
set_option maxRecDepth 100000
set_option linter.unusedVariables false

theorem r_ixv {P : Program} {w : World} {a : Act} {dst : Option Tmp} {ty : TypeId} {pos : String} {af : Array Edge} {gd : Option (Nat × Bool)} {t : TypeId} {x i : Operand} {p q v : Value} (h : a.eval x = p) (h2 : a.eval i = q) (hl : (Instr.index t p q).run P w = .ok v w) :
    (execOp a.eval ⟨dst, .index t x i, ty, pos, af, gd⟩).run P w = .ok (.value v) w := by
  simp only [execOp, h, h2]
  exact run_v hl
theorem bstr_at {xs : List Nat} {j : Nat} (hj : j < xs.length) (h8 : okb 256 xs) : (bstr xs)[j]? = some (UInt8.ofNat (lg xs j)) := by
  have hs : j < (bstr xs).size := by rw [bstr_size]; exact hj
  rw [getElem?_pos (bstr xs) j hs, lg_get hj]
  congr 1
  show (bstr xs).data[j] = _
  simp [bstr]
theorem ixs {P : Program} {w : World} {t : TypeId} {xs : List Nat} {z : Int} {j : Nat} (ht : P.underlying t = some .string) (hz : z = ((j : Nat) : Int)) (hj : j < xs.length) (h8 : okb 256 xs) : (Instr.index t (.string (bstr xs)) (.int .i64 z)).run P w = .ok (.int .u8 ((lg xs j : Nat) : Int)) w := by
  subst hz
  have hb := lg_lt h8 (by decide) j
  unfold Instr.index
  simp only [asIntOf, Sem.run_bind, Sem.run_pure, Result.andThen_ok, run_underlying ht]
  rw [if_pos (by omega), show ((j : Nat) : Int).toNat = j by omega, bstr_at hj h8]
  simp only [Sem.run_pure]
  rw [UInt8.toNat_ofNat', Nat.mod_eq_of_lt hb]
instance (b : Nat) (xs : List Nat) : Decidable (okb b xs) := by unfold okb; infer_instance
theorem streq_t {xs ys : List Nat} (h : xs = ys) : (xs.map UInt8.ofNat == ys.map UInt8.ofNat) = true := by subst h; simp
theorem streq_f {xs ys : List Nat} (h : ¬ xs = ys) (h1 : okb 256 xs) (h2 : okb 256 ys) : (xs.map UInt8.ofNat == ys.map UInt8.ofNat) = false := by
  apply Bool.eq_false_iff.2
  intro e
  exact h (bstr_inj h1 h2 (by simpa using e))
theorem strne_t {xs ys : List Nat} (h : xs = ys) : (!(xs.map UInt8.ofNat == ys.map UInt8.ofNat)) = false := by rw [streq_t h]; rfl
theorem strne_f {xs ys : List Nat} (h : ¬ xs = ys) (h1 : okb 256 xs) (h2 : okb 256 ys) : (!(xs.map UInt8.ofNat == ys.map UInt8.ofNat)) = true := by rw [streq_f h h1 h2]; rfl
/-- A text of digits, no 0 ahead. -/
def Plain (xs : List Nat) : Prop := (∀ j, j < xs.length → 48 ≤ lg xs j ∧ lg xs j ≤ 57) ∧ xs ≠ [] ∧ lg xs 0 ≠ 48
instance (xs : List Nat) : Decidable (Plain xs) := by unfold Plain; infer_instance
theorem dg_more {xs : List Nat} {j : Nat} (h : ∀ i, i < j → 48 ≤ lg xs i ∧ lg xs i ≤ 57) (hj : 48 ≤ lg xs j ∧ lg xs j ≤ 57) : ∀ i, i < j + 1 → 48 ≤ lg xs i ∧ lg xs i ≤ 57 := by
  intro i hi
  by_cases e : i = j
  · subst e; exact hj
  · exact h i (by omega)
theorem en51 : (Try.f51.name == "runtime.NumGoroutine") = false ∧ Try.f51.body.isNone = false := ⟨by decide +kernel, by kernel_rfl⟩
theorem en85 : (Try.f85.name == "runtime.NumGoroutine") = false ∧ Try.f85.body.isNone = false := ⟨by decide +kernel, by kernel_rfl⟩
theorem en107 : (Try.f107.name == "runtime.NumGoroutine") = false ∧ Try.f107.body.isNone = false := ⟨by decide +kernel, by kernel_rfl⟩
set_option maxHeartbeats 4000000 in
theorem plain_any (xs : List Nat) (w : World) (h8 : okb 256 xs) (hl : xs.length ≤ 1000000000) :
    Calls Try.prog 52 #[.string (bstr xs)] w (ValPost w (.bool (decide (Plain xs)))) := by
  have bel : Below w.heap.size w w := Below.refl _ _
  refine E.enter (nt := 27) (L := [(0, .string (bstr xs))]) Try.func52 rfl rfl rfl (args_cons (i := 0) rfl args_nil) ?_
  intro a hF
  refine wp_seq ?_
  refine E.seq ?_
  refine E.opv hF (r_assign ev_c) rfl rfl rfl rfl fun a hF => ?_
  refine E.nil ?_
  refine wp_seq ?_
  refine wp_seq ?_
  refine E.seq ?_
  refine E.opv hF (r_move (hF.at 1 rfl)) rfl rfl rfl rfl fun a hF => ?_
  refine E.opv hF (r_builtin (map1 (hF.at 0 rfl)) (bl_str Try.underlying9)) rfl rfl rfl rfl fun a hF => ?_
  refine E.opv hF (r_move ev_c) rfl rfl rfl rfl fun a hF => ?_
  refine E.nil ?_
  refine wp_block ?_
  refine E.loop (fun mq a wv => ∃ (j : Nat), j ≤ xs.length ∧ (∀ i, i < j → 48 ≤ lg xs i ∧ lg xs i ≤ 57) ∧ Fr 27 a [(6, .int .i64 ((j : Nat) : Int)), (5, .int .i64 ((List.length (xs) : Nat) : Int)), (0, .string (bstr xs))] ∧ Below w.heap.size w wv ∧ Below w.heap.size w wv ∧ mq = xs.length - j) (xs.length - 0) ?_ ?_
  · exact ⟨0, (Nat.zero_le _), (fun i hi => absurd hi (by omega)), Fr.sub (L' := [(6, .int .i64 ((0 : Nat) : Int)), (5, .int .i64 ((List.length (xs) : Nat) : Int)), (0, .string (bstr xs))]) hF (by intro p hp; simp only [List.mem_cons, List.not_mem_nil, or_false] at hp ⊢; rcases hp with rfl | rfl | rfl <;> simp), Below.refl _ _, bel, rfl⟩
  · rintro mq a w1 ⟨j, hj, hd, hF, sty, bel, hm⟩
    by_cases hjn : j < xs.length
    · refine wp_seq ?_
      refine E.seq ?_
      refine E.opv hF (r_bin (hF.at 0 rfl) (hF.at 1 rfl) eg_scalar (bi_int (ic_lss (c := true) (dec_tt (by omega))) (by simp))) rfl rfl rfl rfl fun a hF => ?_
      refine E.nil ?_
      refine wp_seq ?_
      refine wp_cond_true (hF.at 0 rfl) ?_
      refine wp_skip ?_
      refine E.norm ?_
      refine wp_seq ?_
      refine wp_block ?_
      refine wp_seq ?_
      refine E.seq ?_
      refine E.opv hF (r_move (hF.at 1 rfl)) rfl rfl rfl rfl fun a hF => ?_
      refine E.opv hF (r_assign (hF.at 0 rfl)) rfl rfl rfl rfl fun a hF => ?_
      refine E.nil ?_
      refine wp_seq ?_
      refine E.seq ?_
      refine E.opv hF (r_move (hF.at 5 rfl)) rfl rfl rfl rfl fun a hF => ?_
      refine E.opv hF (r_move (hF.at 1 rfl)) rfl rfl rfl rfl fun a hF => ?_
      refine E.opv hF (r_ixv (hF.at 1 rfl) (hF.at 0 rfl) (ixs (xs := xs) (j := j) Try.underlying9 (by omega) (by omega) (by assumption))) rfl rfl rfl rfl fun a hF => ?_
      by_cases hc2 : ((lg (xs) j : Nat) : Int) < 48
      · refine E.opv hF (r_bin (hF.at 0 rfl) ev_c eg_scalar (bi_int (ic_lss (c := true) (dec_tt hc2)) (by simp))) rfl rfl rfl rfl fun a hF => ?_
        refine E.opv hF (r_move (hF.at 0 rfl)) rfl rfl rfl rfl fun a hF => ?_
        refine E.unwanted hF (wanted_by rfl rfl (hF.at 0 rfl) rfl) rfl rfl rfl fun a hF => ?_
        refine E.unwanted hF (wanted_by rfl rfl (hF.at 1 rfl) rfl) rfl rfl rfl fun a hF => ?_
        refine E.unwanted hF (wanted_by rfl rfl (hF.at 2 rfl) rfl) rfl rfl rfl fun a hF => ?_
        refine E.unwanted hF (wanted_by rfl rfl (hF.at 3 rfl) rfl) rfl rfl rfl fun a hF => ?_
        refine E.opv hF (r_pick_t (hF.at 4 rfl) ev_c) rfl rfl rfl rfl fun a hF => ?_
        refine E.nil ?_
        refine wp_cond_true (hF.at 0 rfl) ?_
        refine wp_seq ?_
        refine E.seq ?_
        refine E.opv hF (r_assign ev_c) rfl rfl rfl rfl fun a hF => ?_
        refine E.nil ?_
        refine wp_ret ?_
        refine bodyPost_ret (res_tmp Try.results52 (hF.at 0 rfl)) hF.dfr ?_
        refine ⟨rv_bool ?_, bel⟩
        exact (decide_eq_false fun h => by have := h.1 j hjn; omega).symm
      · refine E.opv hF (r_bin (hF.at 0 rfl) ev_c eg_scalar (bi_int (ic_lss (c := false) (dec_ff hc2)) (by simp))) rfl rfl rfl rfl fun a hF => ?_
        refine E.opv hF (r_move (hF.at 0 rfl)) rfl rfl rfl rfl fun a hF => ?_
        refine E.opvg hF (r_move (hF.at 10 rfl)) (wanted_by rfl rfl (hF.at 0 rfl) rfl) rfl rfl rfl fun a hF => ?_
        refine E.opvg hF (r_move (hF.at 6 rfl)) (wanted_by rfl rfl (hF.at 1 rfl) rfl) rfl rfl rfl fun a hF => ?_
        refine E.opvg hF (r_ixv (hF.at 1 rfl) (hF.at 0 rfl) (ixs (xs := xs) (j := j) Try.underlying9 (by omega) (by omega) (by assumption))) (wanted_by rfl rfl (hF.at 2 rfl) rfl) rfl rfl rfl fun a hF => ?_
        by_cases hc3 : 57 < ((lg (xs) j : Nat) : Int)
        · refine E.opvg hF (r_bin (hF.at 0 rfl) ev_c eg_scalar (bi_int (ic_gtr (c := true) (dec_tt hc3)) (by simp))) (wanted_by rfl rfl (hF.at 3 rfl) rfl) rfl rfl rfl fun a hF => ?_
          refine E.opv hF (r_pick_f (hF.at 4 rfl) (hF.at 0 rfl)) rfl rfl rfl rfl fun a hF => ?_
          refine E.nil ?_
          refine wp_cond_true (hF.at 0 rfl) ?_
          refine wp_seq ?_
          refine E.seq ?_
          refine E.opv hF (r_assign ev_c) rfl rfl rfl rfl fun a hF => ?_
          refine E.nil ?_
          refine wp_ret ?_
          refine bodyPost_ret (res_tmp Try.results52 (hF.at 0 rfl)) hF.dfr ?_
          refine ⟨rv_bool ?_, bel⟩
          exact (decide_eq_false fun h => by have := h.1 j hjn; omega).symm
        · refine E.opvg hF (r_bin (hF.at 0 rfl) ev_c eg_scalar (bi_int (ic_gtr (c := false) (dec_ff hc3)) (by simp))) (wanted_by rfl rfl (hF.at 3 rfl) rfl) rfl rfl rfl fun a hF => ?_
          refine E.opv hF (r_pick_f (hF.at 4 rfl) (hF.at 0 rfl)) rfl rfl rfl rfl fun a hF => ?_
          refine E.nil ?_
          refine wp_cond_false (hF.at 0 rfl) ?_
          refine wp_skip ?_
          refine E.blk ?_
          refine E.norm ?_
          refine E.seq ?_
          refine E.opv hF (r_bin (hF.at 13 rfl) ev_c eg_scalar (ia_add (by omega) (by omega))) rfl rfl rfl rfl fun a hF => ?_
          refine E.opset (L' := [(6, .int .i64 (((j : Nat) : Int) + 1)), (19, .int .i64 (((j : Nat) : Int) + 1)), (18, .bool false), (17, .bool false), (16, .int .u8 ((lg (xs) j : Nat) : Int)), (15, .int .i64 ((j : Nat) : Int)), (14, .string (bstr xs)), (13, .bool false), (12, .bool false), (11, .int .u8 ((lg (xs) j : Nat) : Int)), (10, .int .i64 ((j : Nat) : Int)), (9, .string (bstr xs)), (3, .int .i64 ((j : Nat) : Int)), (8, .int .i64 ((j : Nat) : Int)), (7, .bool true), (5, .int .i64 ((List.length (xs) : Nat) : Int)), (0, .string (bstr xs))]) hF (r_move (hF.at 0 rfl)) rfl rfl rfl rfl fun a hF => ?_
          refine E.nil0 ?_
          refine E.norm ?_
          exact ⟨xs.length - (j + 1), by omega, ⟨(j + 1), (by omega), (dg_more hd ⟨by omega, by omega⟩), (by rw [show ((j + 1 : Nat) : Int) = ((j : Nat) : Int) + 1 from by omega]; exact Fr.sub (L' := [(6, .int .i64 (((j : Nat) : Int) + 1)), (5, .int .i64 ((List.length (xs) : Nat) : Int)), (0, .string (bstr xs))]) hF (by intro p hp; simp only [List.mem_cons, List.not_mem_nil, or_false] at hp ⊢; rcases hp with rfl | rfl | rfl <;> simp)), sty, bel, rfl⟩⟩
    · refine wp_seq ?_
      refine E.seq ?_
      refine E.opv hF (r_bin (hF.at 0 rfl) (hF.at 1 rfl) eg_scalar (bi_int (ic_lss (c := false) (dec_ff (by omega))) (by simp))) rfl rfl rfl rfl fun a hF => ?_
      refine E.nil ?_
      refine wp_seq ?_
      refine wp_cond_false (hF.at 0 rfl) ?_
      refine wp_exit ?_
      refine E.past ?_
      refine E.past ?_
      refine E.out (id := 0) ?_
      refine E.norm ?_
      refine wp_seq ?_
      refine E.seq ?_
      refine E.opv hF (r_move (hF.at 3 rfl)) rfl rfl rfl rfl fun a hF => ?_
      by_cases hc2 : xs = []
      · refine E.opv hF (r_bin (hF.at 0 rfl) ev_c eg_str (sb_ne (xs := xs) (ys := []) (strne_t hc2))) rfl rfl rfl rfl fun a hF => ?_
        refine E.opv hF (r_move (hF.at 0 rfl)) rfl rfl rfl rfl fun a hF => ?_
        refine E.unwanted hF (wanted_by rfl rfl (hF.at 0 rfl) rfl) rfl rfl rfl fun a hF => ?_
        refine E.unwanted hF (wanted_by rfl rfl (hF.at 1 rfl) rfl) rfl rfl rfl fun a hF => ?_
        refine E.unwanted hF (wanted_by rfl rfl (hF.at 2 rfl) rfl) rfl rfl rfl fun a hF => ?_
        refine E.opv hF (r_pick_f (hF.at 3 rfl) ev_c) rfl rfl rfl rfl fun a hF => ?_
        refine E.opv hF (r_assign (hF.at 0 rfl)) rfl rfl rfl rfl fun a hF => ?_
        refine E.nil ?_
        refine wp_ret ?_
        refine bodyPost_ret (res_tmp Try.results52 (hF.at 0 rfl)) hF.dfr ?_
        refine ⟨rv_bool ?_, bel⟩
        exact (decide_eq_false fun h => h.2.1 hc2).symm
      · refine E.opv hF (r_bin (hF.at 0 rfl) ev_c eg_str (sb_ne (xs := xs) (ys := []) (strne_f hc2 (by assumption) (okb_nil _)))) rfl rfl rfl rfl fun a hF => ?_
        refine E.opv hF (r_move (hF.at 0 rfl)) rfl rfl rfl rfl fun a hF => ?_
        refine E.opvg hF (r_move (hF.at 6 rfl)) (wanted_by rfl rfl (hF.at 0 rfl) rfl) rfl rfl rfl fun a hF => ?_
        refine E.opvg hF (r_ixv (hF.at 0 rfl) ev_c (ixs (xs := xs) (j := 0) Try.underlying9 (by omega) (List.length_pos_iff.2 (by assumption)) (by assumption))) (wanted_by rfl rfl (hF.at 1 rfl) rfl) rfl rfl rfl fun a hF => ?_
        by_cases hc3 : ((lg (xs) 0 : Nat) : Int) ≠ 48
        · refine E.opvg hF (r_bin (hF.at 0 rfl) ev_c eg_scalar (bi_int (ic_neq (c := true) (dec_tt hc3)) (by simp))) (wanted_by rfl rfl (hF.at 2 rfl) rfl) rfl rfl rfl fun a hF => ?_
          refine E.opv hF (r_pick_t (hF.at 3 rfl) (hF.at 0 rfl)) rfl rfl rfl rfl fun a hF => ?_
          refine E.opv hF (r_assign (hF.at 0 rfl)) rfl rfl rfl rfl fun a hF => ?_
          refine E.nil ?_
          refine wp_ret ?_
          refine bodyPost_ret (res_tmp Try.results52 (hF.at 0 rfl)) hF.dfr ?_
          refine ⟨rv_bool ?_, bel⟩
          exact (decide_eq_true ⟨fun i hi => hd i (by omega), by assumption, by omega⟩).symm
        · refine E.opvg hF (r_bin (hF.at 0 rfl) ev_c eg_scalar (bi_int (ic_neq (c := false) (dec_ff hc3)) (by simp))) (wanted_by rfl rfl (hF.at 2 rfl) rfl) rfl rfl rfl fun a hF => ?_
          refine E.opv hF (r_pick_t (hF.at 3 rfl) (hF.at 0 rfl)) rfl rfl rfl rfl fun a hF => ?_
          refine E.opv hF (r_assign (hF.at 0 rfl)) rfl rfl rfl rfl fun a hF => ?_
          refine E.nil ?_
          refine wp_ret ?_
          refine bodyPost_ret (res_tmp Try.results52 (hF.at 0 rfl)) hF.dfr ?_
          refine ⟨rv_bool ?_, bel⟩
          exact (decide_eq_false fun h => h.2.2 (by omega)).symm

end Go.Proofs.Ytjdmnchndnpdlaa

/- digits.value. -/
namespace Go.Proofs.Ytjdmnchndnpdlaa
open Go.RowKit
set_option maxRecDepth 100000
set_option linter.unusedVariables false

/-- The number that the first j digits write. -/
def dv (xs : List Nat) : Nat → Nat
  | 0 => 0
  | j + 1 => dv xs j * 10 + (lg xs j - 48)
theorem dv_lt {xs : List Nat} : ∀ {j : Nat}, (∀ i, i < j → 48 ≤ lg xs i ∧ lg xs i ≤ 57) → dv xs j < 10 ^ j
  | 0, _ => by simp [dv]
  | j + 1, h => by
    have ih := dv_lt (xs := xs) (j := j) fun i hi => h i (by omega)
    have k := h j (by omega)
    rw [Nat.pow_succ]
    show dv xs j * 10 + (lg xs j - 48) < _
    omega
theorem ten_lim {j n : Nat} (hj : j ≤ 1000) (hn : 106 ≤ n) : 10 ^ j < B32 ^ n := by
  obtain ⟨k, hk⟩ : ∃ k, k = 125 := ⟨_, rfl⟩
  have h1 : 10 ^ j ≤ 10 ^ (8 * k) := Nat.pow_le_pow_right (by decide) (by omega)
  have h2 : 10 ^ (8 * k) ≤ 2 ^ (27 * k) := by
    rw [Nat.pow_mul, Nat.pow_mul]
    exact Nat.pow_le_pow_left (by decide) k
  have h3 : 2 ^ (27 * k) < 2 ^ (32 * n) := Nat.pow_lt_pow_right (by decide) (by omega)
  have h4 : B32 ^ n = 2 ^ (32 * n) := by rw [Nat.pow_mul, show B32 = 2 ^ 32 from rfl]
  omega
theorem lim_val {xs : List Nat} {X W P j : Nat} (h : X * W + P = dv xs j) (hW : 1 ≤ W) (hd : ∀ i, i < j → 48 ≤ lg xs i ∧ lg xs i ≤ 57) (hj : j ≤ 1000) : Lim X 106 := by
  have h1 := dv_lt hd
  have h2 : X * 1 ≤ X * W := Nat.mul_le_mul_left _ hW
  have h3 := ten_lim hj (Nat.le_refl 106)
  unfold Lim
  omega
/-- 1, 10 and so on up to 100,000,000. -/
def Ten (W : Nat) : Prop := W = 1 ∨ W = 10 ∨ W = 100 ∨ W = 1000 ∨ W = 10000 ∨ W = 100000 ∨ W = 1000000 ∨ W = 10000000 ∨ W = 100000000
theorem Ten.bd {W : Nat} (h : Ten W) : 1 ≤ W ∧ W ≤ 100000000 := by unfold Ten at h; omega
theorem Ten.up {W : Nat} (h : Ten W) (h' : ¬ ((W : Nat) : Int) * 10 = 1000000000) : Ten (W * 10) := by unfold Ten at *; omega
theorem val_more {X W P D d : Nat} (h : X * W + P = D) : X * (W * 10) + (P * 10 + d) = D * 10 + d := by
  rw [← h, Nat.add_mul, ← Nat.mul_assoc]; omega
theorem of_int (z : Int) (n : Nat) (w : World) (hz : z = ((n : Nat) : Int)) (hn : n < 18446744073709551616) : Calls Try.prog 38 #[.int .u64 z] w (DgPost w n) := by subst hz; exact of_any n w hn
theorem nat0p (w : World) : ∃ v w', (Instr.buildSlice 27 0 #[]).run Try.prog w = .ok v w' ∧ Below w.heap.size w w' ∧ Dg w' .u32 B32 v 0 := by
  have hs := size_run (P := Try.prog) (T := 77) (n := 1) (by kernel_rfl) w
  refine ⟨.slice (some ⟨w.heap.size, 0, none⟩) 0 0, w.alloc (.cells #[] 77), ?_, (Below.refl _ _).alloc (Nat.le_refl _) _, ?_⟩
  · simp [Instr.buildSlice, go_sem, hs, Instr.fill, newRow]
  · have e : dg B32 0 = [] := by simp [dg]
    unfold Dg
    rw [e]
    exact ⟨some ⟨w.heap.size, 0, none⟩, 0, rfl, ⟨fun i hi => absurd hi (by simp)⟩, by simp, by unfold maxLen; omega, by simp, fun h => by cases h⟩
theorem add_dl {N M : Nat} (h1 : Lim N (106 + 1)) (h2 : Lim M 1) : dl B32 (N + M) ≤ 1099511627776 := (Lim.add h1 h2 108 (by decide) (by decide)).dl _ (by decide)
set_option maxHeartbeats 4000000 in
theorem value_any (xs : List Nat) (w : World) (h8 : okb 256 xs) (hd : ∀ i, i < xs.length → 48 ≤ lg xs i ∧ lg xs i ≤ 57) (hl : xs.length ≤ 1000) :
    Calls Try.prog 54 #[.string (bstr xs)] w (DgPost w (dv xs xs.length)) := by
  have bel : Below w.heap.size w w := Below.refl _ _
  refine E.enter (nt := 41) (L := [(0, .string (bstr xs))]) Try.func54 rfl rfl rfl (args_cons (i := 0) rfl args_nil) ?_
  intro a hF
  refine wp_seq ?_
  refine E.seq ?_
  refine E.opv hF (r_assign ev_c) rfl rfl rfl rfl fun a hF => ?_
  refine E.nil ?_
  refine wp_seq ?_
  refine E.seq ?_
  obtain ⟨vv1, w2, hr, bb, hh3⟩ := nat0p w
  refine E.opv hF (r_buildSlice (by simp) hr) rfl rfl rfl rfl fun a hF => ?_
  clear hr
  replace bel := below_to bel bb
  clear bb
  obtain ⟨ad4, n4, c4, rfl⟩ := Dg.form hh3
  refine E.opv hF (r_assign (hF.at 0 rfl)) rfl rfl rfl rfl fun a hF => ?_
  refine E.nil ?_
  refine wp_seq ?_
  refine E.seq ?_
  refine E.opv hF (r_assign ev_c) rfl rfl rfl rfl fun a hF => ?_
  refine E.opv hF (r_assign ev_c) rfl rfl rfl rfl fun a hF => ?_
  refine E.nil ?_
  refine wp_seq ?_
  refine wp_seq ?_
  refine E.seq ?_
  refine E.opv hF (r_move (hF.at 5 rfl)) rfl rfl rfl rfl fun a hF => ?_
  refine E.opv hF (r_builtin (map1 (hF.at 0 rfl)) (bl_str Try.underlying9)) rfl rfl rfl rfl fun a hF => ?_
  refine E.opv hF (r_move ev_c) rfl rfl rfl rfl fun a hF => ?_
  refine E.nil ?_
  refine wp_block ?_
  refine E.loop (fun mq a wv => ∃ (j : Nat) (vx : Value) (X : Nat) (P : Nat) (W : Nat), j ≤ xs.length ∧ X * W + P = dv xs j ∧ P < W ∧ Ten W ∧ (j = xs.length → W = 1) ∧ Fr 41 a [(10, .int .i64 ((j : Nat) : Int)), (9, .int .i64 ((List.length (xs) : Nat) : Int)), (5, .int .u64 ((W : Nat) : Int)), (4, .int .u64 ((P : Nat) : Int)), (3, vx), (2, .slice none 0 0), (0, .string (bstr xs))] ∧ Below w.heap.size w wv ∧ Dg wv .u32 B32 vx X ∧ mq = xs.length - j) (xs.length - 0) ?_ ?_
  · exact ⟨0, (.slice ad4 n4 c4), 0, 0, 1, (Nat.zero_le _), (by rfl), (by decide), (.inl rfl), (fun _ => rfl), Fr.sub (L' := [(10, .int .i64 ((0 : Nat) : Int)), (9, .int .i64 ((List.length (xs) : Nat) : Int)), (5, .int .u64 ((1 : Nat) : Int)), (4, .int .u64 ((0 : Nat) : Int)), (3, .slice ad4 n4 c4), (2, .slice none 0 0), (0, .string (bstr xs))]) hF (by intro p hp; simp only [List.mem_cons, List.not_mem_nil, or_false] at hp ⊢; rcases hp with rfl | rfl | rfl | rfl | rfl | rfl | rfl <;> simp), bel, hh3, rfl⟩
  · rintro mq a w5 ⟨j, vx, X, P, W, hj, hq, hP, hW, hend, hF, bel, hx, hm⟩
    by_cases hjn : j < xs.length
    · have hdj := hd j hjn
      have hWb := hW.bd
      have hXl := lim_val hq hWb.1 (fun i hi => hd i (by omega)) (by omega)
      refine wp_seq ?_
      refine E.seq ?_
      refine E.opv hF (r_bin (hF.at 0 rfl) (hF.at 1 rfl) eg_scalar (bi_int (ic_lss (c := true) (dec_tt (by omega))) (by simp))) rfl rfl rfl rfl fun a hF => ?_
      refine E.nil ?_
      refine wp_seq ?_
      refine wp_cond_true (hF.at 0 rfl) ?_
      refine wp_skip ?_
      refine E.norm ?_
      refine wp_seq ?_
      refine wp_block ?_
      refine wp_seq ?_
      refine E.seq ?_
      refine E.opv hF (r_move (hF.at 1 rfl)) rfl rfl rfl rfl fun a hF => ?_
      refine E.opv hF (r_assign (hF.at 0 rfl)) rfl rfl rfl rfl fun a hF => ?_
      refine E.nil ?_
      refine wp_seq ?_
      refine E.seq ?_
      refine E.opv hF (r_move (hF.at 6 rfl)) rfl rfl rfl rfl fun a hF => ?_
      refine E.opv hF (r_bin (hF.at 0 rfl) ev_c eg_scalar (iw_mul (a := ((P : Nat) : Int)) (b := 10) (w_u64 (by omega) (by omega)))) rfl rfl rfl rfl fun a hF => ?_
      refine E.opv hF (r_move (hF.at 11 rfl)) rfl rfl rfl rfl fun a hF => ?_
      refine E.opv hF (r_move (hF.at 3 rfl)) rfl rfl rfl rfl fun a hF => ?_
      refine E.opv hF (r_ixv (hF.at 1 rfl) (hF.at 0 rfl) (ixs (xs := xs) (j := j) Try.underlying9 (by omega) (by omega) (by assumption))) rfl rfl rfl rfl fun a hF => ?_
      refine E.opv hF (r_bin (hF.at 0 rfl) ev_c eg_scalar (iw_sub (a := ((lg (xs) j : Nat) : Int)) (b := 48) (w_u8 (by omega) (by omega)))) rfl rfl rfl rfl fun a hF => ?_
      refine E.opv hF (r_conv (hF.at 0 rfl) (cv_kind (k' := .u64) Try.underlying5 Try.underlying76 (w_u64 (by omega) (by omega)))) rfl rfl rfl rfl fun a hF => ?_
      refine E.opv hF (r_bin (hF.at 5 rfl) (hF.at 0 rfl) eg_scalar (iw_add (a := ((P : Nat) : Int) * 10) (b := ((lg (xs) j : Nat) : Int) - 48) (w_u64 (by omega) (by omega)))) rfl rfl rfl rfl fun a hF => ?_
      refine E.opv hF (r_move (hF.at 13 rfl)) rfl rfl rfl rfl fun a hF => ?_
      refine E.opv hF (r_bin (hF.at 0 rfl) ev_c eg_scalar (iw_mul (a := ((W : Nat) : Int)) (b := 10) (w_u64 (by omega) (by omega)))) rfl rfl rfl rfl fun a hF => ?_
      refine E.opset (L' := [(4, .int .u64 ((((P : Nat) : Int) * 10) + (((lg (xs) j : Nat) : Int) - 48))), (22, .int .u64 (((W : Nat) : Int) * 10)), (21, .int .u64 ((W : Nat) : Int)), (20, .int .u64 ((((P : Nat) : Int) * 10) + (((lg (xs) j : Nat) : Int) - 48))), (19, .int .u64 (((lg (xs) j : Nat) : Int) - 48)), (18, .int .u8 (((lg (xs) j : Nat) : Int) - 48)), (17, .int .u8 ((lg (xs) j : Nat) : Int)), (16, .int .i64 ((j : Nat) : Int)), (15, .string (bstr xs)), (14, .int .u64 (((P : Nat) : Int) * 10)), (13, .int .u64 ((P : Nat) : Int)), (6, .int .i64 ((j : Nat) : Int)), (12, .int .i64 ((j : Nat) : Int)), (11, .bool true), (10, .int .i64 ((j : Nat) : Int)), (9, .int .i64 ((List.length (xs) : Nat) : Int)), (5, .int .u64 ((W : Nat) : Int)), (3, vx), (2, .slice none 0 0), (0, .string (bstr xs))]) hF (r_assign (hF.at 2 rfl)) rfl rfl rfl rfl fun a hF => ?_
      refine E.opset (L' := [(5, .int .u64 (((W : Nat) : Int) * 10)), (4, .int .u64 ((((P : Nat) : Int) * 10) + (((lg (xs) j : Nat) : Int) - 48))), (22, .int .u64 (((W : Nat) : Int) * 10)), (21, .int .u64 ((W : Nat) : Int)), (20, .int .u64 ((((P : Nat) : Int) * 10) + (((lg (xs) j : Nat) : Int) - 48))), (19, .int .u64 (((lg (xs) j : Nat) : Int) - 48)), (18, .int .u8 (((lg (xs) j : Nat) : Int) - 48)), (17, .int .u8 ((lg (xs) j : Nat) : Int)), (16, .int .i64 ((j : Nat) : Int)), (15, .string (bstr xs)), (14, .int .u64 (((P : Nat) : Int) * 10)), (13, .int .u64 ((P : Nat) : Int)), (6, .int .i64 ((j : Nat) : Int)), (12, .int .i64 ((j : Nat) : Int)), (11, .bool true), (10, .int .i64 ((j : Nat) : Int)), (9, .int .i64 ((List.length (xs) : Nat) : Int)), (3, vx), (2, .slice none 0 0), (0, .string (bstr xs))]) hF (r_assign (hF.at 1 rfl)) rfl rfl rfl rfl fun a hF => ?_
      refine E.nil ?_
      refine wp_seq ?_
      refine E.seq ?_
      refine E.opv hF (r_move (hF.at 0 rfl)) rfl rfl rfl rfl fun a hF => ?_
      by_cases hc6 : ((W : Nat) : Int) * 10 = 1000000000
      · refine E.opv hF (r_bin (hF.at 0 rfl) ev_c eg_scalar (bi_int (ic_eql (c := true) (dec_tt hc6)) (by simp))) rfl rfl rfl rfl fun a hF => ?_
        refine E.opv hF (r_move (hF.at 0 rfl)) rfl rfl rfl rfl fun a hF => ?_
        refine E.unwanted hF (wanted_by rfl rfl (hF.at 0 rfl) rfl) rfl rfl rfl fun a hF => ?_
        refine E.unwanted hF (wanted_by rfl rfl (hF.at 1 rfl) rfl) rfl rfl rfl fun a hF => ?_
        refine E.unwanted hF (wanted_by rfl rfl (hF.at 2 rfl) rfl) rfl rfl rfl fun a hF => ?_
        refine E.unwanted hF (wanted_by rfl rfl (hF.at 3 rfl) rfl) rfl rfl rfl fun a hF => ?_
        refine E.unwanted hF (wanted_by rfl rfl (hF.at 4 rfl) rfl) rfl rfl rfl fun a hF => ?_
        refine E.opv hF (r_pick_t (hF.at 5 rfl) ev_c) rfl rfl rfl rfl fun a hF => ?_
        refine E.nil ?_
        refine wp_cond_true (hF.at 0 rfl) ?_
        refine wp_seq ?_
        refine E.seq ?_
        refine E.opv hF (r_move (hF.at 26 rfl)) rfl rfl rfl rfl fun a hF => ?_
        refine E.opv hF (r_move (hF.at 10 rfl)) rfl rfl rfl rfl fun a hF => ?_
        refine E.call hF (r_call Try.func38 en38.1 en38.2 (map1 (hF.at 0 rfl))) (of_int _ (W * 10) _ (by omega) (by omega)) rfl rfl rfl rfl ?_
        rintro e w7 ⟨vv8, rfl, hh9, bb⟩
        refine ⟨_, rfl, ?_⟩
        intro a hF
        replace hx := hx.below bb
        replace bel := below_to bel bb
        clear bb
        obtain ⟨ad10, n10, c10, rfl⟩ := Dg.form hh9
        refine E.call hF (r_call Try.func68 en68.1 en68.2 (map2 (hF.at 2 rfl) (hF.at 0 rfl))) (mul_any _ _ X ((W * 10)) _ (Dg.nt hx) (Dg.nt hh9) (Lim.dl hXl _ (by omega)) (Lim.dl (Lim.of32 (by show _ < 4294967296; omega)) _ (by omega))) rfl rfl rfl rfl ?_
        rintro e w11 ⟨vv12, rfl, hh13, bb⟩
        refine ⟨_, rfl, ?_⟩
        intro a hF
        replace hx := hx.below bb
        replace bel := below_to bel bb
        clear bb
        obtain ⟨ad14, n14, c14, rfl⟩ := Dg.form hh13
        refine E.opv hF (r_move (hF.at 14 rfl)) rfl rfl rfl rfl fun a hF => ?_
        refine E.call hF (r_call Try.func38 en38.1 en38.2 (map1 (hF.at 0 rfl))) (of_int _ (P * 10 + (lg xs j - 48)) _ (by omega) (by omega)) rfl rfl rfl rfl ?_
        rintro e w15 ⟨vv16, rfl, hh17, bb⟩
        refine ⟨_, rfl, ?_⟩
        intro a hF
        replace hh13 := hh13.below bb
        replace hx := hx.below bb
        replace bel := below_to bel bb
        clear bb
        obtain ⟨ad18, n18, c18, rfl⟩ := Dg.form hh17
        refine E.call hF (r_call Try.func44 en44.1 en44.2 (map2 (hF.at 2 rfl) (hF.at 0 rfl))) (add_any _ _ ((X) * ((W * 10))) ((P * 10 + (lg xs j - 48))) _ (Dg.nt hh13) (Dg.nt hh17) (add_dl (Lim.mul hXl (Lim.of32 (by show _ < 4294967296; omega))) (Lim.of32 (by show _ < 4294967296; omega)))) rfl rfl rfl rfl ?_
        rintro e w19 ⟨vv20, rfl, hh21, bb⟩
        refine ⟨_, rfl, ?_⟩
        intro a hF
        replace hx := hx.below bb
        replace bel := below_to bel bb
        clear bb
        obtain ⟨ad22, n22, c22, rfl⟩ := Dg.form hh21
        refine E.opset (L' := [(3, .slice ad22 n22 c22), (38, .slice ad22 n22 c22), (37, .slice ad18 n18 c18), (36, .int .u64 ((((P : Nat) : Int) * 10) + (((lg (xs) j : Nat) : Int) - 48))), (35, .slice ad14 n14 c14), (34, .slice ad10 n10 c10), (33, .int .u64 (((W : Nat) : Int) * 10)), (32, vx), (31, .bool true), (30, undef), (29, undef), (28, undef), (27, undef), (26, undef), (25, .bool true), (24, .bool true), (23, .int .u64 (((W : Nat) : Int) * 10)), (5, .int .u64 (((W : Nat) : Int) * 10)), (4, .int .u64 ((((P : Nat) : Int) * 10) + (((lg (xs) j : Nat) : Int) - 48))), (22, .int .u64 (((W : Nat) : Int) * 10)), (21, .int .u64 ((W : Nat) : Int)), (20, .int .u64 ((((P : Nat) : Int) * 10) + (((lg (xs) j : Nat) : Int) - 48))), (19, .int .u64 (((lg (xs) j : Nat) : Int) - 48)), (18, .int .u8 (((lg (xs) j : Nat) : Int) - 48)), (17, .int .u8 ((lg (xs) j : Nat) : Int)), (16, .int .i64 ((j : Nat) : Int)), (15, .string (bstr xs)), (14, .int .u64 (((P : Nat) : Int) * 10)), (13, .int .u64 ((P : Nat) : Int)), (6, .int .i64 ((j : Nat) : Int)), (12, .int .i64 ((j : Nat) : Int)), (11, .bool true), (10, .int .i64 ((j : Nat) : Int)), (9, .int .i64 ((List.length (xs) : Nat) : Int)), (2, .slice none 0 0), (0, .string (bstr xs))]) hF (r_assign (hF.at 0 rfl)) rfl rfl rfl rfl fun a hF => ?_
        refine E.nil ?_
        refine E.seq ?_
        refine E.opset (L' := [(4, .int .u64 0), (3, .slice ad22 n22 c22), (38, .slice ad22 n22 c22), (37, .slice ad18 n18 c18), (36, .int .u64 ((((P : Nat) : Int) * 10) + (((lg (xs) j : Nat) : Int) - 48))), (35, .slice ad14 n14 c14), (34, .slice ad10 n10 c10), (33, .int .u64 (((W : Nat) : Int) * 10)), (32, vx), (31, .bool true), (30, undef), (29, undef), (28, undef), (27, undef), (26, undef), (25, .bool true), (24, .bool true), (23, .int .u64 (((W : Nat) : Int) * 10)), (5, .int .u64 (((W : Nat) : Int) * 10)), (22, .int .u64 (((W : Nat) : Int) * 10)), (21, .int .u64 ((W : Nat) : Int)), (20, .int .u64 ((((P : Nat) : Int) * 10) + (((lg (xs) j : Nat) : Int) - 48))), (19, .int .u64 (((lg (xs) j : Nat) : Int) - 48)), (18, .int .u8 (((lg (xs) j : Nat) : Int) - 48)), (17, .int .u8 ((lg (xs) j : Nat) : Int)), (16, .int .i64 ((j : Nat) : Int)), (15, .string (bstr xs)), (14, .int .u64 (((P : Nat) : Int) * 10)), (13, .int .u64 ((P : Nat) : Int)), (6, .int .i64 ((j : Nat) : Int)), (12, .int .i64 ((j : Nat) : Int)), (11, .bool true), (10, .int .i64 ((j : Nat) : Int)), (9, .int .i64 ((List.length (xs) : Nat) : Int)), (2, .slice none 0 0), (0, .string (bstr xs))]) hF (r_assign ev_c) rfl rfl rfl rfl fun a hF => ?_
        refine E.opset (L' := [(5, .int .u64 1), (4, .int .u64 0), (3, .slice ad22 n22 c22), (38, .slice ad22 n22 c22), (37, .slice ad18 n18 c18), (36, .int .u64 ((((P : Nat) : Int) * 10) + (((lg (xs) j : Nat) : Int) - 48))), (35, .slice ad14 n14 c14), (34, .slice ad10 n10 c10), (33, .int .u64 (((W : Nat) : Int) * 10)), (32, vx), (31, .bool true), (30, undef), (29, undef), (28, undef), (27, undef), (26, undef), (25, .bool true), (24, .bool true), (23, .int .u64 (((W : Nat) : Int) * 10)), (22, .int .u64 (((W : Nat) : Int) * 10)), (21, .int .u64 ((W : Nat) : Int)), (20, .int .u64 ((((P : Nat) : Int) * 10) + (((lg (xs) j : Nat) : Int) - 48))), (19, .int .u64 (((lg (xs) j : Nat) : Int) - 48)), (18, .int .u8 (((lg (xs) j : Nat) : Int) - 48)), (17, .int .u8 ((lg (xs) j : Nat) : Int)), (16, .int .i64 ((j : Nat) : Int)), (15, .string (bstr xs)), (14, .int .u64 (((P : Nat) : Int) * 10)), (13, .int .u64 ((P : Nat) : Int)), (6, .int .i64 ((j : Nat) : Int)), (12, .int .i64 ((j : Nat) : Int)), (11, .bool true), (10, .int .i64 ((j : Nat) : Int)), (9, .int .i64 ((List.length (xs) : Nat) : Int)), (2, .slice none 0 0), (0, .string (bstr xs))]) hF (r_assign ev_c) rfl rfl rfl rfl fun a hF => ?_
        refine E.nil0 ?_
        refine E.blk ?_
        refine E.norm ?_
        refine E.seq ?_
        refine E.opv hF (r_bin (hF.at 32 rfl) ev_c eg_scalar (ia_add (by omega) (by omega))) rfl rfl rfl rfl fun a hF => ?_
        refine E.opset (L' := [(10, .int .i64 (((j : Nat) : Int) + 1)), (39, .int .i64 (((j : Nat) : Int) + 1)), (5, .int .u64 1), (4, .int .u64 0), (3, .slice ad22 n22 c22), (38, .slice ad22 n22 c22), (37, .slice ad18 n18 c18), (36, .int .u64 ((((P : Nat) : Int) * 10) + (((lg (xs) j : Nat) : Int) - 48))), (35, .slice ad14 n14 c14), (34, .slice ad10 n10 c10), (33, .int .u64 (((W : Nat) : Int) * 10)), (32, vx), (31, .bool true), (30, undef), (29, undef), (28, undef), (27, undef), (26, undef), (25, .bool true), (24, .bool true), (23, .int .u64 (((W : Nat) : Int) * 10)), (22, .int .u64 (((W : Nat) : Int) * 10)), (21, .int .u64 ((W : Nat) : Int)), (20, .int .u64 ((((P : Nat) : Int) * 10) + (((lg (xs) j : Nat) : Int) - 48))), (19, .int .u64 (((lg (xs) j : Nat) : Int) - 48)), (18, .int .u8 (((lg (xs) j : Nat) : Int) - 48)), (17, .int .u8 ((lg (xs) j : Nat) : Int)), (16, .int .i64 ((j : Nat) : Int)), (15, .string (bstr xs)), (14, .int .u64 (((P : Nat) : Int) * 10)), (13, .int .u64 ((P : Nat) : Int)), (6, .int .i64 ((j : Nat) : Int)), (12, .int .i64 ((j : Nat) : Int)), (11, .bool true), (9, .int .i64 ((List.length (xs) : Nat) : Int)), (2, .slice none 0 0), (0, .string (bstr xs))]) hF (r_move (hF.at 0 rfl)) rfl rfl rfl rfl fun a hF => ?_
        refine E.nil0 ?_
        refine E.norm ?_
        exact ⟨xs.length - (j + 1), by omega, ⟨(j + 1), (.slice ad22 n22 c22), (((X) * ((W * 10))) + ((P * 10 + (lg xs j - 48)))), 0, 1, (by omega), ((Nat.mul_one _).trans (val_more hq)), (by decide), (.inl rfl), (fun _ => rfl), (by rw [show ((j + 1 : Nat) : Int) = ((j : Nat) : Int) + 1 from by omega]; first | exact Fr.sub (L' := [(10, .int .i64 (((j : Nat) : Int) + 1)), (9, .int .i64 ((List.length (xs) : Nat) : Int)), (5, .int .u64 1), (4, .int .u64 0), (3, .slice ad22 n22 c22), (2, .slice none 0 0), (0, .string (bstr xs))]) hF (by intro p hp; simp only [List.mem_cons, List.not_mem_nil, or_false] at hp ⊢; rcases hp with rfl | rfl | rfl | rfl | rfl | rfl | rfl <;> simp) | (rw [show ((P * 10 + (lg xs j - 48) : Nat) : Int) = ((P : Nat) : Int) * 10 + (((lg xs j : Nat) : Int) - 48) from by omega, show ((W * 10 : Nat) : Int) = ((W : Nat) : Int) * 10 from by omega]; exact Fr.sub (L' := [(10, .int .i64 (((j : Nat) : Int) + 1)), (9, .int .i64 ((List.length (xs) : Nat) : Int)), (5, .int .u64 1), (4, .int .u64 0), (3, .slice ad22 n22 c22), (2, .slice none 0 0), (0, .string (bstr xs))]) hF (by intro p hp; simp only [List.mem_cons, List.not_mem_nil, or_false] at hp ⊢; rcases hp with rfl | rfl | rfl | rfl | rfl | rfl | rfl <;> simp))), bel, hh21, rfl⟩⟩
      · refine E.opv hF (r_bin (hF.at 0 rfl) ev_c eg_scalar (bi_int (ic_eql (c := false) (dec_ff hc6)) (by simp))) rfl rfl rfl rfl fun a hF => ?_
        refine E.opv hF (r_move (hF.at 0 rfl)) rfl rfl rfl rfl fun a hF => ?_
        refine E.opvg hF (r_move (hF.at 15 rfl)) (wanted_by rfl rfl (hF.at 0 rfl) rfl) rfl rfl rfl fun a hF => ?_
        refine E.opvg hF (r_move (hF.at 23 rfl)) (wanted_by rfl rfl (hF.at 1 rfl) rfl) rfl rfl rfl fun a hF => ?_
        refine E.opvg hF (r_builtin (map1 (hF.at 0 rfl)) (bl_str Try.underlying9)) (wanted_by rfl rfl (hF.at 2 rfl) rfl) rfl rfl rfl fun a hF => ?_
        refine E.opvg hF (r_bin (hF.at 0 rfl) ev_c eg_scalar (ia_sub (by omega) (by omega))) (wanted_by rfl rfl (hF.at 3 rfl) rfl) rfl rfl rfl fun a hF => ?_
        by_cases hc23 : ((j : Nat) : Int) = ((List.length (xs) : Nat) : Int) - 1
        · refine E.opvg hF (r_bin (hF.at 3 rfl) (hF.at 0 rfl) eg_scalar (bi_int (ic_eql (c := true) (dec_tt hc23)) (by simp))) (wanted_by rfl rfl (hF.at 4 rfl) rfl) rfl rfl rfl fun a hF => ?_
          refine E.opv hF (r_pick_f (hF.at 5 rfl) (hF.at 0 rfl)) rfl rfl rfl rfl fun a hF => ?_
          refine E.nil ?_
          refine wp_cond_true (hF.at 0 rfl) ?_
          refine wp_seq ?_
          refine E.seq ?_
          refine E.opv hF (r_move (hF.at 26 rfl)) rfl rfl rfl rfl fun a hF => ?_
          refine E.opv hF (r_move (hF.at 10 rfl)) rfl rfl rfl rfl fun a hF => ?_
          refine E.call hF (r_call Try.func38 en38.1 en38.2 (map1 (hF.at 0 rfl))) (of_int _ (W * 10) _ (by omega) (by omega)) rfl rfl rfl rfl ?_
          rintro e w24 ⟨vv25, rfl, hh26, bb⟩
          refine ⟨_, rfl, ?_⟩
          intro a hF
          replace hx := hx.below bb
          replace bel := below_to bel bb
          clear bb
          obtain ⟨ad27, n27, c27, rfl⟩ := Dg.form hh26
          refine E.call hF (r_call Try.func68 en68.1 en68.2 (map2 (hF.at 2 rfl) (hF.at 0 rfl))) (mul_any _ _ X ((W * 10)) _ (Dg.nt hx) (Dg.nt hh26) (Lim.dl hXl _ (by omega)) (Lim.dl (Lim.of32 (by show _ < 4294967296; omega)) _ (by omega))) rfl rfl rfl rfl ?_
          rintro e w28 ⟨vv29, rfl, hh30, bb⟩
          refine ⟨_, rfl, ?_⟩
          intro a hF
          replace hx := hx.below bb
          replace bel := below_to bel bb
          clear bb
          obtain ⟨ad31, n31, c31, rfl⟩ := Dg.form hh30
          refine E.opv hF (r_move (hF.at 14 rfl)) rfl rfl rfl rfl fun a hF => ?_
          refine E.call hF (r_call Try.func38 en38.1 en38.2 (map1 (hF.at 0 rfl))) (of_int _ (P * 10 + (lg xs j - 48)) _ (by omega) (by omega)) rfl rfl rfl rfl ?_
          rintro e w32 ⟨vv33, rfl, hh34, bb⟩
          refine ⟨_, rfl, ?_⟩
          intro a hF
          replace hh30 := hh30.below bb
          replace hx := hx.below bb
          replace bel := below_to bel bb
          clear bb
          obtain ⟨ad35, n35, c35, rfl⟩ := Dg.form hh34
          refine E.call hF (r_call Try.func44 en44.1 en44.2 (map2 (hF.at 2 rfl) (hF.at 0 rfl))) (add_any _ _ ((X) * ((W * 10))) ((P * 10 + (lg xs j - 48))) _ (Dg.nt hh30) (Dg.nt hh34) (add_dl (Lim.mul hXl (Lim.of32 (by show _ < 4294967296; omega))) (Lim.of32 (by show _ < 4294967296; omega)))) rfl rfl rfl rfl ?_
          rintro e w36 ⟨vv37, rfl, hh38, bb⟩
          refine ⟨_, rfl, ?_⟩
          intro a hF
          replace hx := hx.below bb
          replace bel := below_to bel bb
          clear bb
          obtain ⟨ad39, n39, c39, rfl⟩ := Dg.form hh38
          refine E.opset (L' := [(3, .slice ad39 n39 c39), (38, .slice ad39 n39 c39), (37, .slice ad35 n35 c35), (36, .int .u64 ((((P : Nat) : Int) * 10) + (((lg (xs) j : Nat) : Int) - 48))), (35, .slice ad31 n31 c31), (34, .slice ad27 n27 c27), (33, .int .u64 (((W : Nat) : Int) * 10)), (32, vx), (31, .bool true), (30, .bool true), (29, .int .i64 (((List.length (xs) : Nat) : Int) - 1)), (28, .int .i64 ((List.length (xs) : Nat) : Int)), (27, .string (bstr xs)), (26, .int .i64 ((j : Nat) : Int)), (25, .bool false), (24, .bool false), (23, .int .u64 (((W : Nat) : Int) * 10)), (5, .int .u64 (((W : Nat) : Int) * 10)), (4, .int .u64 ((((P : Nat) : Int) * 10) + (((lg (xs) j : Nat) : Int) - 48))), (22, .int .u64 (((W : Nat) : Int) * 10)), (21, .int .u64 ((W : Nat) : Int)), (20, .int .u64 ((((P : Nat) : Int) * 10) + (((lg (xs) j : Nat) : Int) - 48))), (19, .int .u64 (((lg (xs) j : Nat) : Int) - 48)), (18, .int .u8 (((lg (xs) j : Nat) : Int) - 48)), (17, .int .u8 ((lg (xs) j : Nat) : Int)), (16, .int .i64 ((j : Nat) : Int)), (15, .string (bstr xs)), (14, .int .u64 (((P : Nat) : Int) * 10)), (13, .int .u64 ((P : Nat) : Int)), (6, .int .i64 ((j : Nat) : Int)), (12, .int .i64 ((j : Nat) : Int)), (11, .bool true), (10, .int .i64 ((j : Nat) : Int)), (9, .int .i64 ((List.length (xs) : Nat) : Int)), (2, .slice none 0 0), (0, .string (bstr xs))]) hF (r_assign (hF.at 0 rfl)) rfl rfl rfl rfl fun a hF => ?_
          refine E.nil ?_
          refine E.seq ?_
          refine E.opset (L' := [(4, .int .u64 0), (3, .slice ad39 n39 c39), (38, .slice ad39 n39 c39), (37, .slice ad35 n35 c35), (36, .int .u64 ((((P : Nat) : Int) * 10) + (((lg (xs) j : Nat) : Int) - 48))), (35, .slice ad31 n31 c31), (34, .slice ad27 n27 c27), (33, .int .u64 (((W : Nat) : Int) * 10)), (32, vx), (31, .bool true), (30, .bool true), (29, .int .i64 (((List.length (xs) : Nat) : Int) - 1)), (28, .int .i64 ((List.length (xs) : Nat) : Int)), (27, .string (bstr xs)), (26, .int .i64 ((j : Nat) : Int)), (25, .bool false), (24, .bool false), (23, .int .u64 (((W : Nat) : Int) * 10)), (5, .int .u64 (((W : Nat) : Int) * 10)), (22, .int .u64 (((W : Nat) : Int) * 10)), (21, .int .u64 ((W : Nat) : Int)), (20, .int .u64 ((((P : Nat) : Int) * 10) + (((lg (xs) j : Nat) : Int) - 48))), (19, .int .u64 (((lg (xs) j : Nat) : Int) - 48)), (18, .int .u8 (((lg (xs) j : Nat) : Int) - 48)), (17, .int .u8 ((lg (xs) j : Nat) : Int)), (16, .int .i64 ((j : Nat) : Int)), (15, .string (bstr xs)), (14, .int .u64 (((P : Nat) : Int) * 10)), (13, .int .u64 ((P : Nat) : Int)), (6, .int .i64 ((j : Nat) : Int)), (12, .int .i64 ((j : Nat) : Int)), (11, .bool true), (10, .int .i64 ((j : Nat) : Int)), (9, .int .i64 ((List.length (xs) : Nat) : Int)), (2, .slice none 0 0), (0, .string (bstr xs))]) hF (r_assign ev_c) rfl rfl rfl rfl fun a hF => ?_
          refine E.opset (L' := [(5, .int .u64 1), (4, .int .u64 0), (3, .slice ad39 n39 c39), (38, .slice ad39 n39 c39), (37, .slice ad35 n35 c35), (36, .int .u64 ((((P : Nat) : Int) * 10) + (((lg (xs) j : Nat) : Int) - 48))), (35, .slice ad31 n31 c31), (34, .slice ad27 n27 c27), (33, .int .u64 (((W : Nat) : Int) * 10)), (32, vx), (31, .bool true), (30, .bool true), (29, .int .i64 (((List.length (xs) : Nat) : Int) - 1)), (28, .int .i64 ((List.length (xs) : Nat) : Int)), (27, .string (bstr xs)), (26, .int .i64 ((j : Nat) : Int)), (25, .bool false), (24, .bool false), (23, .int .u64 (((W : Nat) : Int) * 10)), (22, .int .u64 (((W : Nat) : Int) * 10)), (21, .int .u64 ((W : Nat) : Int)), (20, .int .u64 ((((P : Nat) : Int) * 10) + (((lg (xs) j : Nat) : Int) - 48))), (19, .int .u64 (((lg (xs) j : Nat) : Int) - 48)), (18, .int .u8 (((lg (xs) j : Nat) : Int) - 48)), (17, .int .u8 ((lg (xs) j : Nat) : Int)), (16, .int .i64 ((j : Nat) : Int)), (15, .string (bstr xs)), (14, .int .u64 (((P : Nat) : Int) * 10)), (13, .int .u64 ((P : Nat) : Int)), (6, .int .i64 ((j : Nat) : Int)), (12, .int .i64 ((j : Nat) : Int)), (11, .bool true), (10, .int .i64 ((j : Nat) : Int)), (9, .int .i64 ((List.length (xs) : Nat) : Int)), (2, .slice none 0 0), (0, .string (bstr xs))]) hF (r_assign ev_c) rfl rfl rfl rfl fun a hF => ?_
          refine E.nil0 ?_
          refine E.blk ?_
          refine E.norm ?_
          refine E.seq ?_
          refine E.opv hF (r_bin (hF.at 32 rfl) ev_c eg_scalar (ia_add (by omega) (by omega))) rfl rfl rfl rfl fun a hF => ?_
          refine E.opset (L' := [(10, .int .i64 (((j : Nat) : Int) + 1)), (39, .int .i64 (((j : Nat) : Int) + 1)), (5, .int .u64 1), (4, .int .u64 0), (3, .slice ad39 n39 c39), (38, .slice ad39 n39 c39), (37, .slice ad35 n35 c35), (36, .int .u64 ((((P : Nat) : Int) * 10) + (((lg (xs) j : Nat) : Int) - 48))), (35, .slice ad31 n31 c31), (34, .slice ad27 n27 c27), (33, .int .u64 (((W : Nat) : Int) * 10)), (32, vx), (31, .bool true), (30, .bool true), (29, .int .i64 (((List.length (xs) : Nat) : Int) - 1)), (28, .int .i64 ((List.length (xs) : Nat) : Int)), (27, .string (bstr xs)), (26, .int .i64 ((j : Nat) : Int)), (25, .bool false), (24, .bool false), (23, .int .u64 (((W : Nat) : Int) * 10)), (22, .int .u64 (((W : Nat) : Int) * 10)), (21, .int .u64 ((W : Nat) : Int)), (20, .int .u64 ((((P : Nat) : Int) * 10) + (((lg (xs) j : Nat) : Int) - 48))), (19, .int .u64 (((lg (xs) j : Nat) : Int) - 48)), (18, .int .u8 (((lg (xs) j : Nat) : Int) - 48)), (17, .int .u8 ((lg (xs) j : Nat) : Int)), (16, .int .i64 ((j : Nat) : Int)), (15, .string (bstr xs)), (14, .int .u64 (((P : Nat) : Int) * 10)), (13, .int .u64 ((P : Nat) : Int)), (6, .int .i64 ((j : Nat) : Int)), (12, .int .i64 ((j : Nat) : Int)), (11, .bool true), (9, .int .i64 ((List.length (xs) : Nat) : Int)), (2, .slice none 0 0), (0, .string (bstr xs))]) hF (r_move (hF.at 0 rfl)) rfl rfl rfl rfl fun a hF => ?_
          refine E.nil0 ?_
          refine E.norm ?_
          exact ⟨xs.length - (j + 1), by omega, ⟨(j + 1), (.slice ad39 n39 c39), (((X) * ((W * 10))) + ((P * 10 + (lg xs j - 48)))), 0, 1, (by omega), ((Nat.mul_one _).trans (val_more hq)), (by decide), (.inl rfl), (fun _ => rfl), (by rw [show ((j + 1 : Nat) : Int) = ((j : Nat) : Int) + 1 from by omega]; first | exact Fr.sub (L' := [(10, .int .i64 (((j : Nat) : Int) + 1)), (9, .int .i64 ((List.length (xs) : Nat) : Int)), (5, .int .u64 1), (4, .int .u64 0), (3, .slice ad39 n39 c39), (2, .slice none 0 0), (0, .string (bstr xs))]) hF (by intro p hp; simp only [List.mem_cons, List.not_mem_nil, or_false] at hp ⊢; rcases hp with rfl | rfl | rfl | rfl | rfl | rfl | rfl <;> simp) | (rw [show ((P * 10 + (lg xs j - 48) : Nat) : Int) = ((P : Nat) : Int) * 10 + (((lg xs j : Nat) : Int) - 48) from by omega, show ((W * 10 : Nat) : Int) = ((W : Nat) : Int) * 10 from by omega]; exact Fr.sub (L' := [(10, .int .i64 (((j : Nat) : Int) + 1)), (9, .int .i64 ((List.length (xs) : Nat) : Int)), (5, .int .u64 1), (4, .int .u64 0), (3, .slice ad39 n39 c39), (2, .slice none 0 0), (0, .string (bstr xs))]) hF (by intro p hp; simp only [List.mem_cons, List.not_mem_nil, or_false] at hp ⊢; rcases hp with rfl | rfl | rfl | rfl | rfl | rfl | rfl <;> simp))), bel, hh38, rfl⟩⟩
        · refine E.opvg hF (r_bin (hF.at 3 rfl) (hF.at 0 rfl) eg_scalar (bi_int (ic_eql (c := false) (dec_ff hc23)) (by simp))) (wanted_by rfl rfl (hF.at 4 rfl) rfl) rfl rfl rfl fun a hF => ?_
          refine E.opv hF (r_pick_f (hF.at 5 rfl) (hF.at 0 rfl)) rfl rfl rfl rfl fun a hF => ?_
          refine E.nil ?_
          refine wp_cond_false (hF.at 0 rfl) ?_
          refine wp_skip ?_
          refine E.blk ?_
          refine E.norm ?_
          refine E.seq ?_
          refine E.opv hF (r_bin (hF.at 24 rfl) ev_c eg_scalar (ia_add (by omega) (by omega))) rfl rfl rfl rfl fun a hF => ?_
          refine E.opset (L' := [(10, .int .i64 (((j : Nat) : Int) + 1)), (39, .int .i64 (((j : Nat) : Int) + 1)), (31, .bool false), (30, .bool false), (29, .int .i64 (((List.length (xs) : Nat) : Int) - 1)), (28, .int .i64 ((List.length (xs) : Nat) : Int)), (27, .string (bstr xs)), (26, .int .i64 ((j : Nat) : Int)), (25, .bool false), (24, .bool false), (23, .int .u64 (((W : Nat) : Int) * 10)), (5, .int .u64 (((W : Nat) : Int) * 10)), (4, .int .u64 ((((P : Nat) : Int) * 10) + (((lg (xs) j : Nat) : Int) - 48))), (22, .int .u64 (((W : Nat) : Int) * 10)), (21, .int .u64 ((W : Nat) : Int)), (20, .int .u64 ((((P : Nat) : Int) * 10) + (((lg (xs) j : Nat) : Int) - 48))), (19, .int .u64 (((lg (xs) j : Nat) : Int) - 48)), (18, .int .u8 (((lg (xs) j : Nat) : Int) - 48)), (17, .int .u8 ((lg (xs) j : Nat) : Int)), (16, .int .i64 ((j : Nat) : Int)), (15, .string (bstr xs)), (14, .int .u64 (((P : Nat) : Int) * 10)), (13, .int .u64 ((P : Nat) : Int)), (6, .int .i64 ((j : Nat) : Int)), (12, .int .i64 ((j : Nat) : Int)), (11, .bool true), (9, .int .i64 ((List.length (xs) : Nat) : Int)), (3, vx), (2, .slice none 0 0), (0, .string (bstr xs))]) hF (r_move (hF.at 0 rfl)) rfl rfl rfl rfl fun a hF => ?_
          refine E.nil0 ?_
          refine E.norm ?_
          exact ⟨xs.length - (j + 1), by omega, ⟨(j + 1), vx, X, (P * 10 + (lg xs j - 48)), (W * 10), (by omega), (val_more hq), (by omega), (hW.up hc6), (fun _ => by omega), (by rw [show ((j + 1 : Nat) : Int) = ((j : Nat) : Int) + 1 from by omega]; first | exact Fr.sub (L' := [(10, .int .i64 (((j : Nat) : Int) + 1)), (9, .int .i64 ((List.length (xs) : Nat) : Int)), (5, .int .u64 (((W : Nat) : Int) * 10)), (4, .int .u64 ((((P : Nat) : Int) * 10) + (((lg (xs) j : Nat) : Int) - 48))), (3, vx), (2, .slice none 0 0), (0, .string (bstr xs))]) hF (by intro p hp; simp only [List.mem_cons, List.not_mem_nil, or_false] at hp ⊢; rcases hp with rfl | rfl | rfl | rfl | rfl | rfl | rfl <;> simp) | (rw [show ((P * 10 + (lg xs j - 48) : Nat) : Int) = ((P : Nat) : Int) * 10 + (((lg xs j : Nat) : Int) - 48) from by omega, show ((W * 10 : Nat) : Int) = ((W : Nat) : Int) * 10 from by omega]; exact Fr.sub (L' := [(10, .int .i64 (((j : Nat) : Int) + 1)), (9, .int .i64 ((List.length (xs) : Nat) : Int)), (5, .int .u64 (((W : Nat) : Int) * 10)), (4, .int .u64 ((((P : Nat) : Int) * 10) + (((lg (xs) j : Nat) : Int) - 48))), (3, vx), (2, .slice none 0 0), (0, .string (bstr xs))]) hF (by intro p hp; simp only [List.mem_cons, List.not_mem_nil, or_false] at hp ⊢; rcases hp with rfl | rfl | rfl | rfl | rfl | rfl | rfl <;> simp))), bel, hx, rfl⟩⟩
    · have hjl : j = xs.length := by omega
      have hW1 := hend hjl
      refine wp_seq ?_
      refine E.seq ?_
      refine E.opv hF (r_bin (hF.at 0 rfl) (hF.at 1 rfl) eg_scalar (bi_int (ic_lss (c := false) (dec_ff (by omega))) (by simp))) rfl rfl rfl rfl fun a hF => ?_
      refine E.nil ?_
      refine wp_seq ?_
      refine wp_cond_false (hF.at 0 rfl) ?_
      refine wp_exit ?_
      refine E.past ?_
      refine E.past ?_
      refine E.out (id := 0) ?_
      refine E.norm ?_
      refine wp_seq ?_
      refine E.seq ?_
      refine E.opv hF (r_move (hF.at 5 rfl)) rfl rfl rfl rfl fun a hF => ?_
      refine E.opset (L' := [(2, vx), (40, vx), (11, .bool false), (10, .int .i64 ((j : Nat) : Int)), (9, .int .i64 ((List.length (xs) : Nat) : Int)), (5, .int .u64 ((W : Nat) : Int)), (4, .int .u64 ((P : Nat) : Int)), (3, vx), (0, .string (bstr xs))]) hF (r_assign (hF.at 0 rfl)) rfl rfl rfl rfl fun a hF => ?_
      refine E.nil ?_
      refine wp_ret ?_
      refine bodyPost_ret (res_tmp Try.results54 (hF.at 0 rfl)) hF.dfr ?_
      subst hW1
      have e : dv xs xs.length = X := by rw [← hjl, ← hq]; omega
      exact ⟨_, rfl, by rw [e]; exact hx, bel⟩

end Go.Proofs.Ytjdmnchndnpdlaa

/- Strings' parts; strings.CutPrefix by a sign; digits.Parse. -/
namespace Go.Proofs.Ytjdmnchndnpdlaa
open Go.RowKit
set_option maxRecDepth 100000
set_option linter.unusedVariables false

theorem sls_hi {P : Program} {w : World} {t : TypeId} {xs : List Nat} {z : Int} {j : Nat} (ht : P.underlying t = some .string) (hz : z = ((j : Nat) : Int)) (hj : j ≤ xs.length) : (Instr.sliceAt t (.string (bstr xs)) none (some (.int .i64 z)) none).run P w = .ok (.string (bstr (List.take j xs))) w := by
  subst hz
  have e : (bstr xs).extract 0 j = bstr (List.take j xs) := by
    apply ByteArray.ext
    simp [bstr, ByteArray.data_extract]
  have h1 : ¬ ((xs.length : Int) < (j : Int)) := by omega
  simp [Instr.sliceAt, Instr.slice, Instr.sliceBounds, Instr.sliceBound, asIntOf, run_underlying ht, Sem.run_bind, go_sem, bstr_size, e, hj]
theorem sls_lo {P : Program} {w : World} {t : TypeId} {xs : List Nat} {z : Int} {j : Nat} (ht : P.underlying t = some .string) (hz : z = ((j : Nat) : Int)) (hj : j ≤ xs.length) : (Instr.sliceAt t (.string (bstr xs)) (some (.int .i64 z)) none none).run P w = .ok (.string (bstr (List.drop j xs))) w := by
  subst hz
  have e : (bstr xs).extract j xs.length = bstr (List.drop j xs) := by
    apply ByteArray.ext
    simp [bstr, ByteArray.data_extract]
    exact List.take_of_length_le (by simp)
  have h1 : ¬ ((xs.length : Int) < (j : Int)) := by omega
  simp [Instr.sliceAt, Instr.slice, Instr.sliceBounds, Instr.sliceBound, asIntOf, run_underlying ht, Sem.run_bind, go_sem, bstr_size, e, hj]
theorem r_sliceL {P : Program} {w : World} {a : Act} {dst : Option Tmp} {ty : TypeId} {pos : String} {af : Array Edge} {gd : Option (Nat × Bool)} {t : TypeId} {x lo : Operand} {p q v : Value} (h : a.eval x = p) (h2 : a.eval lo = q) (hl : (Instr.sliceAt t p (some q) none none).run P w = .ok v w) :
    (execOp a.eval ⟨dst, .slice t x (some lo) none none, ty, pos, af, gd⟩).run P w = .ok (.value v) w := by
  simp only [execOp, h, h2, Option.map]
  exact run_v hl
/-- Is there a sign ahead; what is behind it. -/
def ng (xs : List Nat) : Bool := decide (List.take 1 xs = [45])
def bd (xs : List Nat) : List Nat := if List.take 1 xs = [45] then List.drop 1 xs else xs
theorem bd_len (xs : List Nat) : (bd xs).length ≤ xs.length := by unfold bd; split <;> simp
theorem bd_okb {b : Nat} {xs : List Nat} (h : okb b xs) : okb b (bd xs) := by unfold bd; split; exact okb_drop h 1; exact h
/-- The error's number, the number, of a text. -/
def pe (xs : List Nat) : Int := if xs ≠ [48] ∧ ¬ Plain (bd xs) then 1 else if 1000 < (bd xs).length then 5 else 0
def pz (xs : List Nat) : Int := if pe xs = 0 then sg (ng xs) (dv (bd xs) (bd xs).length) else 0
theorem pre_short {xs : List Nat} (h : xs.length < 1) : ¬ List.take 1 xs = [45] := by
  cases xs with
  | nil => simp
  | cons _ _ => simp at h
theorem ng_bd {xs : List Nat} (h : ng xs = true) : List.drop 1 xs = bd xs ∧ 1 ≤ xs.length := by
  have h := of_decide_eq_true h
  refine ⟨by unfold bd; rw [if_pos h], ?_⟩
  cases xs with
  | nil => simp at h
  | cons _ _ => simp
theorem ng_no {xs : List Nat} (h : ng xs = false) : xs = bd xs := by
  unfold bd; rw [if_neg (of_decide_eq_false h)]
theorem rv_sb {a b : List Nat} {c d : Bool} (h : a = b) (k : c = d) : Ending.returned (.tuple #[.string (bstr a), .bool c]) = .returned (.tuple #[.string (bstr b), .bool d]) := by rw [h, k]
theorem bd_48 : bd [48] = [48] := by decide
theorem dig_of {xs : List Nat} (h : xs = [48] ∨ Plain (bd xs)) : ∀ i, i < (bd xs).length → 48 ≤ lg (bd xs) i ∧ lg (bd xs) i ≤ 57 := by
  rcases h with rfl | h
  · rw [bd_48]
    intro i hi
    have : i = 0 := by simp at hi; omega
    subst this
    decide
  · exact h.1
theorem lim_dv {xs : List Nat} (h : ∀ i, i < xs.length → 48 ≤ lg xs i ∧ lg xs i ≤ 57) (hl : xs.length ≤ 1000) : Lim (dv xs xs.length) 106 := Nat.lt_trans (dv_lt h) (ten_lim hl (Nat.le_refl _))
def ParsePost (w : World) (xs : List Nat) : Ending → World → Prop := fun e w' => ∃ v, e = .returned (.tuple #[v, .int .i64 (pe xs)]) ∧ Wc w' v (pz xs) ∧ Below w.heap.size w w'
theorem pe_1 {xs : List Nat} (h1 : ¬ xs = [48]) (h2 : decide (Plain (bd xs)) = false) : (1 : Int) = pe xs ∧ (0 : Int) = pz xs := by
  have e : pe xs = 1 := by unfold pe; rw [if_pos ⟨h1, of_decide_eq_false h2⟩]
  refine ⟨e.symm, ?_⟩
  unfold pz; rw [e, if_neg (by decide)]
theorem pe_5 {xs : List Nat} (h : xs = [48] ∨ Plain (bd xs)) (h2 : (1000 : Int) < (((bd xs).length : Nat) : Int)) : (5 : Int) = pe xs ∧ (0 : Int) = pz xs := by
  have e : pe xs = 5 := by
    unfold pe; rw [if_neg (by intro k; rcases h with h | h; exact k.1 h; exact k.2 h), if_pos (by omega)]
  refine ⟨e.symm, ?_⟩
  unfold pz; rw [e, if_neg (by decide)]
theorem pe_0 {xs : List Nat} (h : xs = [48] ∨ Plain (bd xs)) (h2 : ¬ (1000 : Int) < (((bd xs).length : Nat) : Int)) : (0 : Int) = pe xs ∧ sg (ng xs) (dv (bd xs) (bd xs).length) = pz xs := by
  have e : pe xs = 0 := by
    unfold pe; rw [if_neg (by intro k; rcases h with h | h; exact k.1 h; exact k.2 h), if_neg (by omega)]
  refine ⟨e.symm, ?_⟩
  unfold pz; rw [if_pos e]
set_option maxHeartbeats 4000000 in
theorem hasPrefix_any (xs : List Nat) (w : World) (h8 : okb 256 xs) (hl : xs.length ≤ 1000000000) :
    Calls Try.prog 107 #[.string (bstr xs), .string (bstr [45])] w (ValPost w (.bool (ng xs))) := by
  have bel : Below w.heap.size w w := Below.refl _ _
  refine E.enter (nt := 18) (L := [(0, .string (bstr xs)), (1, .string (bstr [45]))]) Try.func107 rfl rfl rfl (args_cons (i := 0) rfl (args_cons (i := 1) rfl args_nil)) ?_
  intro a hF
  refine wp_seq ?_
  refine E.seq ?_
  refine E.opv hF (r_assign ev_c) rfl rfl rfl rfl fun a hF => ?_
  refine E.nil ?_
  refine wp_seq ?_
  refine E.seq ?_
  refine E.opv hF (r_move (hF.at 1 rfl)) rfl rfl rfl rfl fun a hF => ?_
  refine E.opv hF (r_builtin (map1 (hF.at 0 rfl)) (bl_str Try.underlying9)) rfl rfl rfl rfl fun a hF => ?_
  refine E.opv hF (r_move (hF.at 4 rfl)) rfl rfl rfl rfl fun a hF => ?_
  refine E.opv hF (r_builtin (map1 (hF.at 0 rfl)) (bl_str Try.underlying9)) rfl rfl rfl rfl fun a hF => ?_
  by_cases hc1 : ((List.length ([45]) : Nat) : Int) ≤ ((List.length (xs) : Nat) : Int)
  · refine E.opv hF (r_bin (hF.at 2 rfl) (hF.at 0 rfl) eg_scalar (bi_int (ic_geq (c := true) (dec_tt hc1)) (by simp))) rfl rfl rfl rfl fun a hF => ?_
    refine E.opv hF (r_move (hF.at 0 rfl)) rfl rfl rfl rfl fun a hF => ?_
    refine E.opvg hF (r_move (hF.at 7 rfl)) (wanted_by rfl rfl (hF.at 0 rfl) rfl) rfl rfl rfl fun a hF => ?_
    refine E.opvg hF (r_move (hF.at 9 rfl)) (wanted_by rfl rfl (hF.at 1 rfl) rfl) rfl rfl rfl fun a hF => ?_
    refine E.opvg hF (r_builtin (map1 (hF.at 0 rfl)) (bl_str Try.underlying9)) (wanted_by rfl rfl (hF.at 2 rfl) rfl) rfl rfl rfl fun a hF => ?_
    refine E.opvg hF (r_slice (hF.at 2 rfl) (hF.at 0 rfl) (sls_hi (xs := xs) (j := List.length ([45])) Try.underlying9 (by first | rfl | omega) (by omega))) (wanted_by rfl rfl (hF.at 3 rfl) rfl) rfl rfl rfl fun a hF => ?_
    refine E.opvg hF (r_move (hF.at 12 rfl)) (wanted_by rfl rfl (hF.at 4 rfl) rfl) rfl rfl rfl fun a hF => ?_
    by_cases hc2 : (List.take (List.length ([45])) (xs)) = [45]
    · refine E.opvg hF (r_bin (hF.at 1 rfl) (hF.at 0 rfl) eg_str (sb_eq (xs := (List.take (List.length ([45])) (xs))) (ys := [45]) (streq_t hc2))) (wanted_by rfl rfl (hF.at 5 rfl) rfl) rfl rfl rfl fun a hF => ?_
      refine E.opv hF (r_pick_t (hF.at 6 rfl) (hF.at 0 rfl)) rfl rfl rfl rfl fun a hF => ?_
      refine E.opset (L' := [(4, .bool true), (17, .bool true), (16, .bool true), (15, .string (bstr [45])), (14, .string (bstr (List.take (List.length ([45])) (xs)))), (13, .int .i64 ((List.length ([45]) : Nat) : Int)), (12, .string (bstr [45])), (11, .string (bstr xs)), (10, .bool true), (9, .bool true), (8, .int .i64 ((List.length ([45]) : Nat) : Int)), (7, .string (bstr [45])), (6, .int .i64 ((List.length (xs) : Nat) : Int)), (5, .string (bstr xs)), (0, .string (bstr xs)), (1, .string (bstr [45]))]) hF (r_assign (hF.at 0 rfl)) rfl rfl rfl rfl fun a hF => ?_
      refine E.nil ?_
      refine wp_ret ?_
      refine bodyPost_ret (res_tmp Try.results107 (hF.at 0 rfl)) hF.dfr ?_
      refine ⟨rv_bool ?_, bel⟩
      exact (decide_eq_true (by assumption)).symm
    · refine E.opvg hF (r_bin (hF.at 1 rfl) (hF.at 0 rfl) eg_str (sb_eq (xs := (List.take (List.length ([45])) (xs))) (ys := [45]) (streq_f hc2 (okb_take (by assumption) _) (by decide)))) (wanted_by rfl rfl (hF.at 5 rfl) rfl) rfl rfl rfl fun a hF => ?_
      refine E.opv hF (r_pick_t (hF.at 6 rfl) (hF.at 0 rfl)) rfl rfl rfl rfl fun a hF => ?_
      refine E.opset (L' := [(4, .bool false), (17, .bool false), (16, .bool false), (15, .string (bstr [45])), (14, .string (bstr (List.take (List.length ([45])) (xs)))), (13, .int .i64 ((List.length ([45]) : Nat) : Int)), (12, .string (bstr [45])), (11, .string (bstr xs)), (10, .bool true), (9, .bool true), (8, .int .i64 ((List.length ([45]) : Nat) : Int)), (7, .string (bstr [45])), (6, .int .i64 ((List.length (xs) : Nat) : Int)), (5, .string (bstr xs)), (0, .string (bstr xs)), (1, .string (bstr [45]))]) hF (r_assign (hF.at 0 rfl)) rfl rfl rfl rfl fun a hF => ?_
      refine E.nil ?_
      refine wp_ret ?_
      refine bodyPost_ret (res_tmp Try.results107 (hF.at 0 rfl)) hF.dfr ?_
      refine ⟨rv_bool ?_, bel⟩
      first | exact (decide_eq_false (by assumption)).symm | exact (decide_eq_false (pre_short (by simp only [List.length_cons, List.length_nil] at *; omega))).symm
  · refine E.opv hF (r_bin (hF.at 2 rfl) (hF.at 0 rfl) eg_scalar (bi_int (ic_geq (c := false) (dec_ff hc1)) (by simp))) rfl rfl rfl rfl fun a hF => ?_
    refine E.opv hF (r_move (hF.at 0 rfl)) rfl rfl rfl rfl fun a hF => ?_
    refine E.unwanted hF (wanted_by rfl rfl (hF.at 0 rfl) rfl) rfl rfl rfl fun a hF => ?_
    refine E.unwanted hF (wanted_by rfl rfl (hF.at 1 rfl) rfl) rfl rfl rfl fun a hF => ?_
    refine E.unwanted hF (wanted_by rfl rfl (hF.at 2 rfl) rfl) rfl rfl rfl fun a hF => ?_
    refine E.unwanted hF (wanted_by rfl rfl (hF.at 3 rfl) rfl) rfl rfl rfl fun a hF => ?_
    refine E.unwanted hF (wanted_by rfl rfl (hF.at 4 rfl) rfl) rfl rfl rfl fun a hF => ?_
    refine E.unwanted hF (wanted_by rfl rfl (hF.at 5 rfl) rfl) rfl rfl rfl fun a hF => ?_
    refine E.opv hF (r_pick_f (hF.at 6 rfl) ev_c) rfl rfl rfl rfl fun a hF => ?_
    refine E.opset (L' := [(4, .bool false), (17, .bool false), (16, undef), (15, undef), (14, undef), (13, undef), (12, undef), (11, undef), (10, .bool false), (9, .bool false), (8, .int .i64 ((List.length ([45]) : Nat) : Int)), (7, .string (bstr [45])), (6, .int .i64 ((List.length (xs) : Nat) : Int)), (5, .string (bstr xs)), (0, .string (bstr xs)), (1, .string (bstr [45]))]) hF (r_assign (hF.at 0 rfl)) rfl rfl rfl rfl fun a hF => ?_
    refine E.nil ?_
    refine wp_ret ?_
    refine bodyPost_ret (res_tmp Try.results107 (hF.at 0 rfl)) hF.dfr ?_
    refine ⟨rv_bool ?_, bel⟩
    first | exact (decide_eq_false (by assumption)).symm | exact (decide_eq_false (pre_short (by simp only [List.length_cons, List.length_nil] at *; omega))).symm

set_option maxHeartbeats 4000000 in
theorem cutPrefixL_any (xs : List Nat) (w : World) (h8 : okb 256 xs) (hl : xs.length ≤ 1000000000) :
    Calls Try.prog 85 #[.string (bstr xs), .string (bstr [45])] w (ValPost w (.tuple #[.string (bstr (bd xs)), .bool (ng xs)])) := by
  have bel : Below w.heap.size w w := Below.refl _ _
  refine E.enter (nt := 15) (L := [(0, .string (bstr xs)), (1, .string (bstr [45]))]) Try.func85 rfl rfl rfl (args_cons (i := 0) rfl (args_cons (i := 1) rfl args_nil)) ?_
  intro a hF
  refine wp_seq ?_
  refine E.seq ?_
  refine E.opv hF (r_assign ev_c) rfl rfl rfl rfl fun a hF => ?_
  refine E.opv hF (r_assign ev_c) rfl rfl rfl rfl fun a hF => ?_
  refine E.nil ?_
  refine wp_seq ?_
  refine wp_seq ?_
  refine E.seq ?_
  refine E.opv hF (r_move (hF.at 2 rfl)) rfl rfl rfl rfl fun a hF => ?_
  refine E.opv hF (r_move (hF.at 4 rfl)) rfl rfl rfl rfl fun a hF => ?_
  refine E.call hF (r_call Try.func107 en107.1 en107.2 (map2 (hF.at 1 rfl) (hF.at 0 rfl))) (hasPrefix_any (xs) _ (by assumption) (by omega)) rfl rfl rfl rfl ?_
  rintro e w1 ⟨rfl, bb⟩
  refine ⟨_, rfl, ?_⟩
  intro a hF
  replace bel := below_to bel bb
  clear bb
  by_cases hc2 : ng (xs) = true
  · refine E.opv hF (r_un (Eq.trans (hF.at 0 rfl) (congrArg Value.bool hc2)) (bn_not _ false rfl)) rfl rfl rfl rfl fun a hF => ?_
    refine E.nil ?_
    refine wp_cond_false (hF.at 0 rfl) ?_
    refine wp_skip ?_
    refine E.norm ?_
    refine wp_seq ?_
    refine E.seq ?_
    refine E.opv hF (r_move (hF.at 6 rfl)) rfl rfl rfl rfl fun a hF => ?_
    refine E.opv hF (r_move (hF.at 8 rfl)) rfl rfl rfl rfl fun a hF => ?_
    refine E.opv hF (r_builtin (map1 (hF.at 0 rfl)) (bl_str Try.underlying9)) rfl rfl rfl rfl fun a hF => ?_
    refine E.opv hF (r_sliceL (hF.at 2 rfl) (hF.at 0 rfl) (sls_lo (xs := xs) (j := 1) Try.underlying9 (by first | rfl | omega) (ng_bd (by assumption)).2)) rfl rfl rfl rfl fun a hF => ?_
    refine E.opset (L' := [(4, .string (bstr (List.drop (1) (xs)))), (14, .string (bstr (List.drop (1) (xs)))), (13, .int .i64 ((List.length ([45]) : Nat) : Int)), (12, .string (bstr [45])), (11, .string (bstr xs)), (9, .bool false), (8, .bool (ng (xs))), (7, .string (bstr [45])), (6, .string (bstr xs)), (5, .bool false), (0, .string (bstr xs)), (1, .string (bstr [45]))]) hF (r_assign (hF.at 0 rfl)) rfl rfl rfl rfl fun a hF => ?_
    refine E.opset (L' := [(5, .bool true), (4, .string (bstr (List.drop (1) (xs)))), (14, .string (bstr (List.drop (1) (xs)))), (13, .int .i64 ((List.length ([45]) : Nat) : Int)), (12, .string (bstr [45])), (11, .string (bstr xs)), (9, .bool false), (8, .bool (ng (xs))), (7, .string (bstr [45])), (6, .string (bstr xs)), (0, .string (bstr xs)), (1, .string (bstr [45]))]) hF (r_assign ev_c) rfl rfl rfl rfl fun a hF => ?_
    refine E.nil ?_
    refine wp_ret ?_
    refine bodyPost_ret (res_tmp2 Try.results85 (hF.at 1 rfl) (hF.at 0 rfl)) hF.dfr ?_
    have hcut := ng_bd hc2
    exact ⟨rv_sb hcut.1 (by rw [hc2]), bel⟩
  · refine E.opv hF (r_un (Eq.trans (hF.at 0 rfl) (congrArg Value.bool (eq_false_of_ne_true hc2))) (bn_not _ true rfl)) rfl rfl rfl rfl fun a hF => ?_
    refine E.nil ?_
    refine wp_cond_true (hF.at 0 rfl) ?_
    refine wp_seq ?_
    refine E.seq ?_
    refine E.opv hF (r_move (hF.at 6 rfl)) rfl rfl rfl rfl fun a hF => ?_
    refine E.opset (L' := [(4, .string (bstr xs)), (10, .string (bstr xs)), (9, .bool true), (8, .bool (ng (xs))), (7, .string (bstr [45])), (6, .string (bstr xs)), (5, .bool false), (0, .string (bstr xs)), (1, .string (bstr [45]))]) hF (r_assign (hF.at 0 rfl)) rfl rfl rfl rfl fun a hF => ?_
    refine E.opset (L' := [(5, .bool false), (4, .string (bstr xs)), (10, .string (bstr xs)), (9, .bool true), (8, .bool (ng (xs))), (7, .string (bstr [45])), (6, .string (bstr xs)), (0, .string (bstr xs)), (1, .string (bstr [45]))]) hF (r_assign ev_c) rfl rfl rfl rfl fun a hF => ?_
    refine E.nil ?_
    refine wp_ret ?_
    refine bodyPost_ret (res_tmp2 Try.results85 (hF.at 1 rfl) (hF.at 0 rfl)) hF.dfr ?_
    have hcut := ng_no (eq_false_of_ne_true hc2)
    exact ⟨rv_sb hcut (eq_false_of_ne_true hc2).symm, bel⟩

set_option maxHeartbeats 4000000 in
theorem cutPrefix_any (xs : List Nat) (w : World) (h8 : okb 256 xs) (hl : xs.length ≤ 1000000000) :
    Calls Try.prog 51 #[.string (bstr xs), .string (bstr [45])] w (ValPost w (.tuple #[.string (bstr (bd xs)), .bool (ng xs)])) := by
  have bel : Below w.heap.size w w := Below.refl _ _
  refine E.enter (nt := 11) (L := [(0, .string (bstr xs)), (1, .string (bstr [45]))]) Try.func51 rfl rfl rfl (args_cons (i := 0) rfl (args_cons (i := 1) rfl args_nil)) ?_
  intro a hF
  refine wp_seq ?_
  refine E.seq ?_
  refine E.opv hF (r_assign ev_c) rfl rfl rfl rfl fun a hF => ?_
  refine E.opv hF (r_assign ev_c) rfl rfl rfl rfl fun a hF => ?_
  refine E.nil ?_
  refine wp_seq ?_
  refine E.seq ?_
  refine E.opv hF (r_move (hF.at 2 rfl)) rfl rfl rfl rfl fun a hF => ?_
  refine E.opv hF (r_move (hF.at 4 rfl)) rfl rfl rfl rfl fun a hF => ?_
  refine E.call hF (r_call Try.func85 en85.1 en85.2 (map2 (hF.at 1 rfl) (hF.at 0 rfl))) (cutPrefixL_any (xs) _ (by assumption) (by omega)) rfl rfl rfl rfl ?_
  rintro e w1 ⟨rfl, bb⟩
  refine ⟨_, rfl, ?_⟩
  intro a hF
  replace bel := below_to bel bb
  clear bb
  refine E.opv hF (r_extract (v := .string (bstr (bd (xs)))) (hF.at 0 rfl) rfl) rfl rfl rfl rfl fun a hF => ?_
  refine E.opv hF (r_extract (v := .bool (ng (xs))) (hF.at 1 rfl) rfl) rfl rfl rfl rfl fun a hF => ?_
  refine E.opset (L' := [(4, .string (bstr (bd (xs)))), (10, .bool (ng (xs))), (9, .string (bstr (bd (xs)))), (8, .tuple #[.string (bstr (bd (xs))), .bool (ng (xs))]), (7, .string (bstr [45])), (6, .string (bstr xs)), (5, .bool false), (0, .string (bstr xs)), (1, .string (bstr [45]))]) hF (r_assign (hF.at 1 rfl)) rfl rfl rfl rfl fun a hF => ?_
  refine E.opset (L' := [(5, .bool (ng (xs))), (4, .string (bstr (bd (xs)))), (10, .bool (ng (xs))), (9, .string (bstr (bd (xs)))), (8, .tuple #[.string (bstr (bd (xs))), .bool (ng (xs))]), (7, .string (bstr [45])), (6, .string (bstr xs)), (0, .string (bstr xs)), (1, .string (bstr [45]))]) hF (r_assign (hF.at 1 rfl)) rfl rfl rfl rfl fun a hF => ?_
  refine E.nil ?_
  refine wp_ret ?_
  refine bodyPost_ret (res_tmp2 Try.results51 (hF.at 1 rfl) (hF.at 0 rfl)) hF.dfr ?_
  exact ⟨rfl, bel⟩

theorem rv_pe {v : Value} {a b : Int} (h : a = b) : Ending.returned (.tuple #[v, .int .i64 a]) = .returned (.tuple #[v, .int .i64 b]) := by rw [h]
set_option maxHeartbeats 8000000 in
theorem parse_any (xs : List Nat) (w : World) (h8 : okb 256 xs) (hl : xs.length ≤ 1000000000) :
    Calls Try.prog 19 #[.string (bstr xs)] w (ParsePost w xs) := by
  have hbl := bd_len xs
  have bel : Below w.heap.size w w := Below.refl _ _
  refine E.enter (nt := 29) (L := [(0, .string (bstr xs))]) Try.func19 rfl rfl rfl (args_cons (i := 0) rfl args_nil) ?_
  intro a hF
  refine wp_seq ?_
  refine E.seq ?_
  obtain ⟨g2, w1, ge2, hr, bb, o2⟩ := own_alloc (P := Try.prog) (w := w) (cs := [.bool false, .slice none 0 0]) 37 ze_Int rfl (niB (niS ni0))
  replace ge2 : w.heap.size ≤ g2 := by rw [← ge2]; exact bel.size
  refine E.opv hF (r_alloc hr) rfl rfl rfl rfl fun a hF => ?_
  clear hr
  replace bel := below_to bel bb
  clear bb
  refine E.opv hF (r_assign ev_c) rfl rfl rfl rfl fun a hF => ?_
  refine E.nil ?_
  refine wp_seq ?_
  refine E.seq ?_
  refine E.opv hF (r_move (hF.at 2 rfl)) rfl rfl rfl rfl fun a hF => ?_
  refine E.call hF (r_call Try.func51 en51.1 en51.2 (map2 (hF.at 0 rfl) ev_c)) (cutPrefix_any (xs) _ (by assumption) (by omega)) rfl rfl rfl rfl ?_
  rintro e w2 ⟨rfl, bb⟩
  refine ⟨_, rfl, ?_⟩
  intro a hF
  replace o2 := o2.below bb
  replace bel := below_to bel bb
  clear bb
  refine E.opv hF (r_move (hF.at 0 rfl)) rfl rfl rfl rfl fun a hF => ?_
  refine E.opv hF (r_extract (v := .string (bstr (bd (xs)))) (hF.at 0 rfl) rfl) rfl rfl rfl rfl fun a hF => ?_
  refine E.opv hF (r_extract (v := .bool (ng (xs))) (hF.at 1 rfl) rfl) rfl rfl rfl rfl fun a hF => ?_
  refine E.opv hF (r_assign (hF.at 1 rfl)) rfl rfl rfl rfl fun a hF => ?_
  refine E.opv hF (r_assign (hF.at 1 rfl)) rfl rfl rfl rfl fun a hF => ?_
  refine E.nil ?_
  refine wp_seq ?_
  refine wp_block ?_
  refine wp_seq ?_
  refine E.seq ?_
  refine E.opv hF (r_move (hF.at 9 rfl)) rfl rfl rfl rfl fun a hF => ?_
  by_cases hc3 : xs = [48]
  · refine E.opv hF (r_bin (hF.at 0 rfl) ev_c eg_str (sb_ne (xs := xs) (ys := [48]) (strne_t hc3))) rfl rfl rfl rfl fun a hF => ?_
    refine E.opv hF (r_move (hF.at 0 rfl)) rfl rfl rfl rfl fun a hF => ?_
    refine E.unwanted hF (wanted_by rfl rfl (hF.at 0 rfl) rfl) rfl rfl rfl fun a hF => ?_
    refine E.unwanted hF (wanted_by rfl rfl (hF.at 1 rfl) rfl) rfl rfl rfl fun a hF => ?_
    refine E.unwanted hF (wanted_by rfl rfl (hF.at 2 rfl) rfl) rfl rfl rfl fun a hF => ?_
    refine E.opv hF (r_pick_f (hF.at 3 rfl) ev_c) rfl rfl rfl rfl fun a hF => ?_
    refine E.opv hF (r_assign (hF.at 0 rfl)) rfl rfl rfl rfl fun a hF => ?_
    refine E.nil ?_
    refine wp_cond_false (hF.at 0 rfl) ?_
    refine wp_seq ?_
    refine E.seq ?_
    refine E.opv hF (r_move (hF.at 9 rfl)) rfl rfl rfl rfl fun a hF => ?_
    refine E.opv hF (r_builtin (map1 (hF.at 0 rfl)) (bl_str Try.underlying9)) rfl rfl rfl rfl fun a hF => ?_
    by_cases hc4 : 1000 < ((List.length ((bd (xs))) : Nat) : Int)
    · refine E.opv hF (r_bin (hF.at 0 rfl) ev_c eg_scalar (bi_int (ic_gtr (c := true) (dec_tt hc4)) (by simp))) rfl rfl rfl rfl fun a hF => ?_
      refine E.opv hF (r_assign (hF.at 0 rfl)) rfl rfl rfl rfl fun a hF => ?_
      refine E.nil ?_
      refine wp_cond_true (hF.at 0 rfl) ?_
      refine wp_seq ?_
      refine E.seq ?_
      refine E.opv hF (r_build (by simp) (bd_Int_ _)) rfl rfl rfl rfl fun a hF => ?_
      obtain ⟨w5, hr, tu, on⟩ := st_Int (vs := [.bool false, .slice none 0 0]) o2 rfl rfl (ocB (ocS oc0)) (niB (niS ni0)) (o := 0) rfl
      have kp := tu.keep o2
      refine E.st hF (r_store (hF.at 21 rfl) (hF.at 0 rfl) (hr _ rfl)) rfl rfl fun a hF => ?_
      clear hr
      replace bel := tu.below bel ge2
      clear tu kp
      replace o2 := on
      clear on
      refine E.opset (L' := [(3, .int .i64 5), (24, .agg #[.bool false, .slice none 0 0]), (20, .bool true), (23, .bool true), (22, .int .i64 ((List.length ((bd (xs))) : Nat) : Int)), (21, .string (bstr (bd (xs)))), (11, .bool false), (18, .bool false), (17, undef), (16, undef), (15, undef), (14, .bool false), (13, .bool false), (12, .string (bstr xs)), (5, .bool (ng (xs))), (4, .string (bstr (bd (xs)))), (10, .bool (ng (xs))), (9, .string (bstr (bd (xs)))), (6, .tuple #[.string (bstr (bd (xs))), .bool (ng (xs))]), (8, .tuple #[.string (bstr (bd (xs))), .bool (ng (xs))]), (7, .string (bstr xs)), (2, .pointer (some ⟨g2, 0, none⟩)), (0, .string (bstr xs))]) hF (r_assign ev_c) rfl rfl rfl rfl fun a hF => ?_
      refine E.nil ?_
      refine wp_ret ?_
      refine bodyPost_ret (res_celltmp Try.results19 (hF.at 21 rfl) (ld_Int (vs := [.bool false, .slice none 0 0]) o2 rfl rfl) (hF.at 0 rfl)) hF.dfr ?_
      have hpe := pe_5 (by first | exact .inl (by assumption) | exact .inr (of_decide_eq_true (by assumption))) (by assumption)
      exact ⟨_, rv_pe hpe.1, by rw [← hpe.2]; exact Wc.zero _, bel⟩
    · refine E.opv hF (r_bin (hF.at 0 rfl) ev_c eg_scalar (bi_int (ic_gtr (c := false) (dec_ff hc4)) (by simp))) rfl rfl rfl rfl fun a hF => ?_
      refine E.opv hF (r_assign (hF.at 0 rfl)) rfl rfl rfl rfl fun a hF => ?_
      refine E.nil ?_
      refine wp_cond_false (hF.at 0 rfl) ?_
      refine wp_skip ?_
      refine E.blk ?_
      refine E.norm ?_
      refine wp_seq ?_
      refine E.seq ?_
      refine E.opv hF (r_move (hF.at 12 rfl)) rfl rfl rfl rfl fun a hF => ?_
      refine E.opv hF (r_move (hF.at 14 rfl)) rfl rfl rfl rfl fun a hF => ?_
      refine E.call hF (r_call Try.func54 en54.1 en54.2 (map1 (hF.at 0 rfl))) (value_any ((bd (xs))) _ (bd_okb (by assumption)) (dig_of (by first | exact .inl (by assumption) | exact .inr (of_decide_eq_true (by assumption)))) (by omega)) rfl rfl rfl rfl ?_
      rintro e w6 ⟨vv7, rfl, hh8, bb⟩
      refine ⟨_, rfl, ?_⟩
      intro a hF
      replace o2 := o2.below bb
      replace bel := below_to bel bb
      clear bb
      obtain ⟨ad9, n9, c9, rfl⟩ := Dg.form hh8
      refine E.call hF (r_call Try.func53 en53.1 en53.2 (map2 (hF.at 2 rfl) (hF.at 0 rfl))) (make_any _ _ (dv ((bd (xs))) (List.length ((bd (xs))))) _ (Dg.nt hh8)) rfl rfl rfl rfl ?_
      rintro e w10 ⟨vv11, rfl, hh12, bb⟩
      refine ⟨_, rfl, ?_⟩
      intro a hF
      replace o2 := o2.below bb
      replace bel := below_to bel bb
      clear bb
      obtain ⟨ad13, n13, c13, rfl, _⟩ := Wc.shape hh12
      obtain ⟨w14, hr, tu, on⟩ := st_Int (vs := [.bool (decide (sg (ng (xs)) (dv ((bd (xs))) (List.length ((bd (xs))))) < 0)), .slice ad13 n13 c13]) o2 rfl rfl (ocB (ocS oc0)) (niB (niS ni0)) (o := 0) rfl
      have kp := tu.keep o2
      refine E.st hF (r_store (hF.at 24 rfl) (hF.at 0 rfl) (hr _ rfl)) rfl rfl fun a hF => ?_
      clear hr
      replace hh12 := hh12.keep kp
      replace bel := tu.below bel ge2
      clear tu kp
      replace o2 := on
      clear on
      have hf15 := Wc.abs hh12
      refine E.opset (L' := [(3, .int .i64 0), (28, .agg #[.bool (decide (sg (ng (xs)) (dv ((bd (xs))) (List.length ((bd (xs))))) < 0)), .slice ad13 n13 c13]), (27, .slice ad9 n9 c9), (26, .string (bstr (bd (xs)))), (25, .bool (ng (xs))), (20, .bool false), (23, .bool false), (22, .int .i64 ((List.length ((bd (xs))) : Nat) : Int)), (21, .string (bstr (bd (xs)))), (11, .bool false), (18, .bool false), (17, undef), (16, undef), (15, undef), (14, .bool false), (13, .bool false), (12, .string (bstr xs)), (5, .bool (ng (xs))), (4, .string (bstr (bd (xs)))), (10, .bool (ng (xs))), (9, .string (bstr (bd (xs)))), (6, .tuple #[.string (bstr (bd (xs))), .bool (ng (xs))]), (8, .tuple #[.string (bstr (bd (xs))), .bool (ng (xs))]), (7, .string (bstr xs)), (2, .pointer (some ⟨g2, 0, none⟩)), (0, .string (bstr xs))]) hF (r_assign ev_c) rfl rfl rfl rfl fun a hF => ?_
      refine E.nil ?_
      refine wp_ret ?_
      refine bodyPost_ret (res_celltmp Try.results19 (hF.at 24 rfl) (ld_Int (vs := [.bool (decide (sg (ng (xs)) (dv ((bd (xs))) (List.length ((bd (xs))))) < 0)), .slice ad13 n13 c13]) o2 rfl rfl) (hF.at 0 rfl)) hF.dfr ?_
      have hpe := pe_0 (by first | exact .inl (by assumption) | exact .inr (of_decide_eq_true (by assumption))) (by assumption)
      exact ⟨_, rv_pe hpe.1, by rw [← hpe.2]; exact hh12, bel⟩
  · refine E.opv hF (r_bin (hF.at 0 rfl) ev_c eg_str (sb_ne (xs := xs) (ys := [48]) (strne_f hc3 (by assumption) (by decide)))) rfl rfl rfl rfl fun a hF => ?_
    refine E.opv hF (r_move (hF.at 0 rfl)) rfl rfl rfl rfl fun a hF => ?_
    refine E.opvg hF (r_move (hF.at 4 rfl)) (wanted_by rfl rfl (hF.at 0 rfl) rfl) rfl rfl rfl fun a hF => ?_
    refine E.callg hF (r_call Try.func52 en52.1 en52.2 (map1 (hF.at 0 rfl))) (plain_any ((bd (xs))) _ (bd_okb (by assumption)) (by omega)) (wanted_by rfl rfl (hF.at 1 rfl) rfl) rfl rfl rfl ?_
    rintro e w16 ⟨rfl, bb⟩
    refine ⟨_, rfl, ?_⟩
    intro a hF
    replace o2 := o2.below bb
    replace bel := below_to bel bb
    clear bb
    by_cases hc17 : decide (Plain ((bd (xs)))) = true
    · refine E.opvg hF (r_un (Eq.trans (hF.at 0 rfl) (congrArg Value.bool hc17)) (bn_not _ false rfl)) (wanted_by rfl rfl (hF.at 2 rfl) rfl) rfl rfl rfl fun a hF => ?_
      refine E.opv hF (r_pick_t (hF.at 3 rfl) (hF.at 0 rfl)) rfl rfl rfl rfl fun a hF => ?_
      refine E.opv hF (r_assign (hF.at 0 rfl)) rfl rfl rfl rfl fun a hF => ?_
      refine E.nil ?_
      refine wp_cond_false (hF.at 0 rfl) ?_
      refine wp_seq ?_
      refine E.seq ?_
      refine E.opv hF (r_move (hF.at 9 rfl)) rfl rfl rfl rfl fun a hF => ?_
      refine E.opv hF (r_builtin (map1 (hF.at 0 rfl)) (bl_str Try.underlying9)) rfl rfl rfl rfl fun a hF => ?_
      by_cases hc18 : 1000 < ((List.length ((bd (xs))) : Nat) : Int)
      · refine E.opv hF (r_bin (hF.at 0 rfl) ev_c eg_scalar (bi_int (ic_gtr (c := true) (dec_tt hc18)) (by simp))) rfl rfl rfl rfl fun a hF => ?_
        refine E.opv hF (r_assign (hF.at 0 rfl)) rfl rfl rfl rfl fun a hF => ?_
        refine E.nil ?_
        refine wp_cond_true (hF.at 0 rfl) ?_
        refine wp_seq ?_
        refine E.seq ?_
        refine E.opv hF (r_build (by simp) (bd_Int_ _)) rfl rfl rfl rfl fun a hF => ?_
        obtain ⟨w19, hr, tu, on⟩ := st_Int (vs := [.bool false, .slice none 0 0]) o2 rfl rfl (ocB (ocS oc0)) (niB (niS ni0)) (o := 0) rfl
        have kp := tu.keep o2
        refine E.st hF (r_store (hF.at 21 rfl) (hF.at 0 rfl) (hr _ rfl)) rfl rfl fun a hF => ?_
        clear hr
        replace bel := tu.below bel ge2
        clear tu kp
        replace o2 := on
        clear on
        refine E.opset (L' := [(3, .int .i64 5), (24, .agg #[.bool false, .slice none 0 0]), (20, .bool true), (23, .bool true), (22, .int .i64 ((List.length ((bd (xs))) : Nat) : Int)), (21, .string (bstr (bd (xs)))), (11, .bool false), (18, .bool false), (17, .bool false), (16, .bool (decide (Plain ((bd (xs)))))), (15, .string (bstr (bd (xs)))), (14, .bool true), (13, .bool true), (12, .string (bstr xs)), (5, .bool (ng (xs))), (4, .string (bstr (bd (xs)))), (10, .bool (ng (xs))), (9, .string (bstr (bd (xs)))), (6, .tuple #[.string (bstr (bd (xs))), .bool (ng (xs))]), (8, .tuple #[.string (bstr (bd (xs))), .bool (ng (xs))]), (7, .string (bstr xs)), (2, .pointer (some ⟨g2, 0, none⟩)), (0, .string (bstr xs))]) hF (r_assign ev_c) rfl rfl rfl rfl fun a hF => ?_
        refine E.nil ?_
        refine wp_ret ?_
        refine bodyPost_ret (res_celltmp Try.results19 (hF.at 21 rfl) (ld_Int (vs := [.bool false, .slice none 0 0]) o2 rfl rfl) (hF.at 0 rfl)) hF.dfr ?_
        have hpe := pe_5 (by first | exact .inl (by assumption) | exact .inr (of_decide_eq_true (by assumption))) (by assumption)
        exact ⟨_, rv_pe hpe.1, by rw [← hpe.2]; exact Wc.zero _, bel⟩
      · refine E.opv hF (r_bin (hF.at 0 rfl) ev_c eg_scalar (bi_int (ic_gtr (c := false) (dec_ff hc18)) (by simp))) rfl rfl rfl rfl fun a hF => ?_
        refine E.opv hF (r_assign (hF.at 0 rfl)) rfl rfl rfl rfl fun a hF => ?_
        refine E.nil ?_
        refine wp_cond_false (hF.at 0 rfl) ?_
        refine wp_skip ?_
        refine E.blk ?_
        refine E.norm ?_
        refine wp_seq ?_
        refine E.seq ?_
        refine E.opv hF (r_move (hF.at 12 rfl)) rfl rfl rfl rfl fun a hF => ?_
        refine E.opv hF (r_move (hF.at 14 rfl)) rfl rfl rfl rfl fun a hF => ?_
        refine E.call hF (r_call Try.func54 en54.1 en54.2 (map1 (hF.at 0 rfl))) (value_any ((bd (xs))) _ (bd_okb (by assumption)) (dig_of (by first | exact .inl (by assumption) | exact .inr (of_decide_eq_true (by assumption)))) (by omega)) rfl rfl rfl rfl ?_
        rintro e w20 ⟨vv21, rfl, hh22, bb⟩
        refine ⟨_, rfl, ?_⟩
        intro a hF
        replace o2 := o2.below bb
        replace bel := below_to bel bb
        clear bb
        obtain ⟨ad23, n23, c23, rfl⟩ := Dg.form hh22
        refine E.call hF (r_call Try.func53 en53.1 en53.2 (map2 (hF.at 2 rfl) (hF.at 0 rfl))) (make_any _ _ (dv ((bd (xs))) (List.length ((bd (xs))))) _ (Dg.nt hh22)) rfl rfl rfl rfl ?_
        rintro e w24 ⟨vv25, rfl, hh26, bb⟩
        refine ⟨_, rfl, ?_⟩
        intro a hF
        replace o2 := o2.below bb
        replace bel := below_to bel bb
        clear bb
        obtain ⟨ad27, n27, c27, rfl, _⟩ := Wc.shape hh26
        obtain ⟨w28, hr, tu, on⟩ := st_Int (vs := [.bool (decide (sg (ng (xs)) (dv ((bd (xs))) (List.length ((bd (xs))))) < 0)), .slice ad27 n27 c27]) o2 rfl rfl (ocB (ocS oc0)) (niB (niS ni0)) (o := 0) rfl
        have kp := tu.keep o2
        refine E.st hF (r_store (hF.at 24 rfl) (hF.at 0 rfl) (hr _ rfl)) rfl rfl fun a hF => ?_
        clear hr
        replace hh26 := hh26.keep kp
        replace bel := tu.below bel ge2
        clear tu kp
        replace o2 := on
        clear on
        have hf29 := Wc.abs hh26
        refine E.opset (L' := [(3, .int .i64 0), (28, .agg #[.bool (decide (sg (ng (xs)) (dv ((bd (xs))) (List.length ((bd (xs))))) < 0)), .slice ad27 n27 c27]), (27, .slice ad23 n23 c23), (26, .string (bstr (bd (xs)))), (25, .bool (ng (xs))), (20, .bool false), (23, .bool false), (22, .int .i64 ((List.length ((bd (xs))) : Nat) : Int)), (21, .string (bstr (bd (xs)))), (11, .bool false), (18, .bool false), (17, .bool false), (16, .bool (decide (Plain ((bd (xs)))))), (15, .string (bstr (bd (xs)))), (14, .bool true), (13, .bool true), (12, .string (bstr xs)), (5, .bool (ng (xs))), (4, .string (bstr (bd (xs)))), (10, .bool (ng (xs))), (9, .string (bstr (bd (xs)))), (6, .tuple #[.string (bstr (bd (xs))), .bool (ng (xs))]), (8, .tuple #[.string (bstr (bd (xs))), .bool (ng (xs))]), (7, .string (bstr xs)), (2, .pointer (some ⟨g2, 0, none⟩)), (0, .string (bstr xs))]) hF (r_assign ev_c) rfl rfl rfl rfl fun a hF => ?_
        refine E.nil ?_
        refine wp_ret ?_
        refine bodyPost_ret (res_celltmp Try.results19 (hF.at 24 rfl) (ld_Int (vs := [.bool (decide (sg (ng (xs)) (dv ((bd (xs))) (List.length ((bd (xs))))) < 0)), .slice ad27 n27 c27]) o2 rfl rfl) (hF.at 0 rfl)) hF.dfr ?_
        have hpe := pe_0 (by first | exact .inl (by assumption) | exact .inr (of_decide_eq_true (by assumption))) (by assumption)
        exact ⟨_, rv_pe hpe.1, by rw [← hpe.2]; exact hh26, bel⟩
    · refine E.opvg hF (r_un (Eq.trans (hF.at 0 rfl) (congrArg Value.bool (eq_false_of_ne_true hc17))) (bn_not _ true rfl)) (wanted_by rfl rfl (hF.at 2 rfl) rfl) rfl rfl rfl fun a hF => ?_
      refine E.opv hF (r_pick_t (hF.at 3 rfl) (hF.at 0 rfl)) rfl rfl rfl rfl fun a hF => ?_
      refine E.opv hF (r_assign (hF.at 0 rfl)) rfl rfl rfl rfl fun a hF => ?_
      refine E.nil ?_
      refine wp_cond_true (hF.at 0 rfl) ?_
      refine wp_seq ?_
      refine E.seq ?_
      refine E.opv hF (r_build (by simp) (bd_Int_ _)) rfl rfl rfl rfl fun a hF => ?_
      obtain ⟨w30, hr, tu, on⟩ := st_Int (vs := [.bool false, .slice none 0 0]) o2 rfl rfl (ocB (ocS oc0)) (niB (niS ni0)) (o := 0) rfl
      have kp := tu.keep o2
      refine E.st hF (r_store (hF.at 17 rfl) (hF.at 0 rfl) (hr _ rfl)) rfl rfl fun a hF => ?_
      clear hr
      replace bel := tu.below bel ge2
      clear tu kp
      replace o2 := on
      clear on
      refine E.opset (L' := [(3, .int .i64 1), (19, .agg #[.bool false, .slice none 0 0]), (11, .bool true), (18, .bool true), (17, .bool true), (16, .bool (decide (Plain ((bd (xs)))))), (15, .string (bstr (bd (xs)))), (14, .bool true), (13, .bool true), (12, .string (bstr xs)), (5, .bool (ng (xs))), (4, .string (bstr (bd (xs)))), (10, .bool (ng (xs))), (9, .string (bstr (bd (xs)))), (6, .tuple #[.string (bstr (bd (xs))), .bool (ng (xs))]), (8, .tuple #[.string (bstr (bd (xs))), .bool (ng (xs))]), (7, .string (bstr xs)), (2, .pointer (some ⟨g2, 0, none⟩)), (0, .string (bstr xs))]) hF (r_assign ev_c) rfl rfl rfl rfl fun a hF => ?_
      refine E.nil ?_
      refine wp_ret ?_
      refine bodyPost_ret (res_celltmp Try.results19 (hF.at 17 rfl) (ld_Int (vs := [.bool false, .slice none 0 0]) o2 rfl rfl) (hF.at 0 rfl)) hF.dfr ?_
      have hpe := pe_1 (by assumption) (by first | assumption | exact eq_false_of_ne_true (by assumption))
      exact ⟨_, rv_pe hpe.1, by rw [← hpe.2]; exact Wc.zero _, bel⟩

end Go.Proofs.Ytjdmnchndnpdlaa

/- digits.Small, Pad; law04's awake. -/
namespace Go.Proofs.Ytjdmnchndnpdlaa
open Go.RowKit
set_option maxRecDepth 100000
set_option linter.unusedVariables false

theorem en82 : (Try.f82.name == "runtime.NumGoroutine") = false ∧ Try.f82.body.isNone = false := ⟨by decide +kernel, by kernel_rfl⟩
theorem pz_lim (xs : List Nat) : Lim (pz xs).natAbs 106 := by
  unfold pz
  split
  · rename_i h
    refine sg_lim _ ?_
    unfold pe at h
    split at h
    · cases h
    · rename_i h1
      split at h
      · cases h
      · rename_i h2
        refine lim_dv (dig_of ?_) (by omega)
        by_cases e : xs = [48]
        · exact .inl e
        · exact .inr (Classical.byContradiction fun k => h1 ⟨e, k⟩)
  · exact Nat.pow_pos B32_pos
/-- A text as a number of 64 bits; the error's number. -/
def fits (z : Int) : Prop := -9223372036854775808 ≤ z ∧ z ≤ 9223372036854775807
instance (z : Int) : Decidable (fits z) := by unfold fits; infer_instance
def sn (xs : List Nat) : Int := if pe xs ≠ 0 then 0 else if fits (pz xs) then pz xs else 0
def se (xs : List Nat) : Int := if pe xs ≠ 0 then pe xs else if fits (pz xs) then 0 else 5
theorem sn_e {xs : List Nat} (h : pe xs ≠ 0) : (0 : Int) = sn xs ∧ pe xs = se xs := by unfold sn se; rw [if_pos h, if_pos h]; exact ⟨rfl, rfl⟩
theorem sn_f {xs : List Nat} (h : ¬ pe xs ≠ 0) (k : ¬ fits (pz xs)) : (0 : Int) = sn xs ∧ (5 : Int) = se xs := by unfold sn se; rw [if_neg h, if_neg h, if_neg k, if_neg k]; exact ⟨rfl, rfl⟩
theorem sn_t {xs : List Nat} (h : ¬ pe xs ≠ 0) (k : fits (pz xs)) : pz xs = sn xs ∧ (0 : Int) = se xs := by unfold sn se; rw [if_neg h, if_neg h, if_pos k, if_pos k]; exact ⟨rfl, rfl⟩
theorem smallB_t {z : Int} {v : Value} {w : World} (h : Wz w v z) (k : fits z) : Calls Try.prog 25 #[v] w (ValPost w (.tuple #[.int .i64 z, .bool true])) := whSmall_yes v z w h k.1 k.2
theorem smallB_f {z : Int} {v : Value} {w : World} (h : Wz w v z) (k : ¬ fits z) : Calls Try.prog 25 #[v] w (ValPost w (.tuple #[.int .i64 0, .bool false])) := whSmall_no v z w h (by unfold fits at k; omega)
set_option maxHeartbeats 4000000 in
theorem dsmall_any (xs : List Nat) (w : World) (h8 : okb 256 xs) (hl : xs.length ≤ 1000000000) :
    Calls Try.prog 24 #[.string (bstr xs)] w (ValPost w (.tuple #[.int .i64 (sn xs), .int .i64 (se xs)])) := by
  have bel : Below w.heap.size w w := Below.refl _ _
  refine E.enter (nt := 24) (L := [(0, .string (bstr xs))]) Try.func24 rfl rfl rfl (args_cons (i := 0) rfl args_nil) ?_
  intro a hF
  refine wp_seq ?_
  refine E.seq ?_
  refine E.opv hF (r_assign ev_c) rfl rfl rfl rfl fun a hF => ?_
  refine E.opv hF (r_assign ev_c) rfl rfl rfl rfl fun a hF => ?_
  refine E.nil ?_
  refine wp_seq ?_
  refine E.seq ?_
  refine E.opv hF (r_move (hF.at 2 rfl)) rfl rfl rfl rfl fun a hF => ?_
  refine E.call hF (r_call Try.func19 en19.1 en19.2 (map1 (hF.at 0 rfl))) (parse_any (xs) _ (by assumption) (by first | omega | decide)) rfl rfl rfl rfl ?_
  rintro e w1 ⟨vv2, rfl, hh3, bb⟩
  refine ⟨_, rfl, ?_⟩
  intro a hF
  replace bel := below_to bel bb
  clear bb
  obtain ⟨ad4, n4, c4, rfl, _⟩ := Wc.shape hh3
  refine E.opv hF (r_move (hF.at 0 rfl)) rfl rfl rfl rfl fun a hF => ?_
  refine E.opv hF (r_extract (v := .agg #[.bool (decide (pz (xs) < 0)), .slice ad4 n4 c4]) (hF.at 0 rfl) rfl) rfl rfl rfl rfl fun a hF => ?_
  refine E.opv hF (r_extract (v := .int .i64 (pe (xs))) (hF.at 1 rfl) rfl) rfl rfl rfl rfl fun a hF => ?_
  obtain ⟨g4, w5, ge4, hr, bb, o4⟩ := own_alloc (P := Try.prog) (w := w1) (cs := [.bool false, .slice none 0 0]) 37 ze_Int rfl (niB (niS ni0))
  replace ge4 : w.heap.size ≤ g4 := by rw [← ge4]; exact bel.size
  refine E.opv hF (r_alloc hr) rfl rfl rfl rfl fun a hF => ?_
  clear hr
  replace hh3 := hh3.below bb
  replace bel := below_to bel bb
  clear bb
  obtain ⟨w6, hr, tu, on⟩ := st_Int (vs := [.bool (decide (pz (xs) < 0)), .slice ad4 n4 c4]) o4 rfl rfl (ocB (ocS oc0)) (niB (niS ni0)) (o := 0) rfl
  have kp := tu.keep o4
  refine E.st hF (r_store (hF.at 0 rfl) (hF.at 2 rfl) (hr _ rfl)) rfl rfl fun a hF => ?_
  clear hr
  replace hh3 := hh3.keep kp
  replace bel := tu.below bel ge4
  clear tu kp
  replace o4 := on
  clear on
  have hf7 := Wc.abs hh3
  refine E.opv hF (r_assign (hF.at 1 rfl)) rfl rfl rfl rfl fun a hF => ?_
  refine E.nil ?_
  refine wp_seq ?_
  refine wp_seq ?_
  refine E.seq ?_
  refine E.opv hF (r_move (hF.at 0 rfl)) rfl rfl rfl rfl fun a hF => ?_
  by_cases hc8 : pe (xs) ≠ 0
  · refine E.opv hF (r_bin (hF.at 0 rfl) ev_c eg_scalar (bi_int (ic_neq (c := true) (dec_tt hc8)) (by simp))) rfl rfl rfl rfl fun a hF => ?_
    refine E.nil ?_
    refine wp_cond_true (hF.at 0 rfl) ?_
    refine wp_seq ?_
    refine E.seq ?_
    refine E.opv hF (r_move (hF.at 2 rfl)) rfl rfl rfl rfl fun a hF => ?_
    refine E.opset (L' := [(2, .int .i64 0), (15, .int .i64 (pe (xs))), (14, .bool true), (13, .int .i64 (pe (xs))), (5, .int .i64 (pe (xs))), (4, .pointer (some ⟨g4, 0, none⟩)), (12, .int .i64 (pe (xs))), (11, .agg #[.bool (decide (pz (xs) < 0)), .slice ad4 n4 c4]), (8, .tuple #[.agg #[.bool (decide (pz (xs) < 0)), .slice ad4 n4 c4], .int .i64 (pe (xs))]), (10, .tuple #[.agg #[.bool (decide (pz (xs) < 0)), .slice ad4 n4 c4], .int .i64 (pe (xs))]), (9, .string (bstr xs)), (3, .int .i64 0), (0, .string (bstr xs))]) hF (r_assign ev_c) rfl rfl rfl rfl fun a hF => ?_
    refine E.opset (L' := [(3, .int .i64 (pe (xs))), (2, .int .i64 0), (15, .int .i64 (pe (xs))), (14, .bool true), (13, .int .i64 (pe (xs))), (5, .int .i64 (pe (xs))), (4, .pointer (some ⟨g4, 0, none⟩)), (12, .int .i64 (pe (xs))), (11, .agg #[.bool (decide (pz (xs) < 0)), .slice ad4 n4 c4]), (8, .tuple #[.agg #[.bool (decide (pz (xs) < 0)), .slice ad4 n4 c4], .int .i64 (pe (xs))]), (10, .tuple #[.agg #[.bool (decide (pz (xs) < 0)), .slice ad4 n4 c4], .int .i64 (pe (xs))]), (9, .string (bstr xs)), (0, .string (bstr xs))]) hF (r_assign (hF.at 1 rfl)) rfl rfl rfl rfl fun a hF => ?_
    refine E.nil ?_
    refine wp_ret ?_
    refine bodyPost_ret (res_tmp2 Try.results24 (hF.at 1 rfl) (hF.at 0 rfl)) hF.dfr ?_
    have hsn := sn_e hc8
    exact ⟨rv_int2 hsn.1 hsn.2, bel⟩
  · refine E.opv hF (r_bin (hF.at 0 rfl) ev_c eg_scalar (bi_int (ic_neq (c := false) (dec_ff hc8)) (by simp))) rfl rfl rfl rfl fun a hF => ?_
    refine E.nil ?_
    refine wp_cond_false (hF.at 0 rfl) ?_
    refine wp_skip ?_
    refine E.norm ?_
    refine wp_seq ?_
    refine E.seq ?_
    refine E.opv hF (r_load (hF.at 3 rfl) (ld_Int (vs := [.bool (decide (pz (xs) < 0)), .slice ad4 n4 c4]) o4 rfl rfl)) rfl rfl rfl rfl fun a hF => ?_
    by_cases hc9 : fits (pz (xs))
    · refine E.call hF (r_call Try.func25 en25.1 en25.2 (map1 (hF.at 0 rfl))) (smallB_t (Wc.wz hh3) hc9) rfl rfl rfl rfl ?_
      rintro e w10 ⟨rfl, bb⟩
      refine ⟨_, rfl, ?_⟩
      intro a hF
      replace bel := below_to bel bb
      clear bb
      refine E.opv hF (r_move (hF.at 0 rfl)) rfl rfl rfl rfl fun a hF => ?_
      refine E.opv hF (r_extract (v := .int .i64 (pz (xs))) (hF.at 0 rfl) rfl) rfl rfl rfl rfl fun a hF => ?_
      refine E.opv hF (r_extract (v := .bool true) (hF.at 1 rfl) rfl) rfl rfl rfl rfl fun a hF => ?_
      refine E.opv hF (r_assign (hF.at 1 rfl)) rfl rfl rfl rfl fun a hF => ?_
      refine E.opv hF (r_assign (hF.at 1 rfl)) rfl rfl rfl rfl fun a hF => ?_
      refine E.nil ?_
      refine wp_seq ?_
      refine wp_seq ?_
      refine E.seq ?_
      refine E.opv hF (r_move (hF.at 0 rfl)) rfl rfl rfl rfl fun a hF => ?_
      refine E.opv hF (r_un (hF.at 0 rfl) (bn_not _ false rfl)) rfl rfl rfl rfl fun a hF => ?_
      refine E.nil ?_
      refine wp_cond_false (hF.at 0 rfl) ?_
      refine wp_skip ?_
      refine E.norm ?_
      refine wp_seq ?_
      refine E.seq ?_
      refine E.opv hF (r_move (hF.at 3 rfl)) rfl rfl rfl rfl fun a hF => ?_
      refine E.opset (L' := [(2, .int .i64 (pz (xs))), (23, .int .i64 (pz (xs))), (22, .bool false), (21, .bool true), (7, .bool true), (6, .int .i64 (pz (xs))), (20, .bool true), (19, .int .i64 (pz (xs))), (16, .tuple #[.int .i64 (pz (xs)), .bool true]), (18, .tuple #[.int .i64 (pz (xs)), .bool true]), (17, .agg #[.bool (decide (pz (xs) < 0)), .slice ad4 n4 c4]), (14, .bool false), (13, .int .i64 (pe (xs))), (5, .int .i64 (pe (xs))), (4, .pointer (some ⟨g4, 0, none⟩)), (12, .int .i64 (pe (xs))), (11, .agg #[.bool (decide (pz (xs) < 0)), .slice ad4 n4 c4]), (8, .tuple #[.agg #[.bool (decide (pz (xs) < 0)), .slice ad4 n4 c4], .int .i64 (pe (xs))]), (10, .tuple #[.agg #[.bool (decide (pz (xs) < 0)), .slice ad4 n4 c4], .int .i64 (pe (xs))]), (9, .string (bstr xs)), (3, .int .i64 0), (0, .string (bstr xs))]) hF (r_assign (hF.at 0 rfl)) rfl rfl rfl rfl fun a hF => ?_
      refine E.opset (L' := [(3, .int .i64 0), (2, .int .i64 (pz (xs))), (23, .int .i64 (pz (xs))), (22, .bool false), (21, .bool true), (7, .bool true), (6, .int .i64 (pz (xs))), (20, .bool true), (19, .int .i64 (pz (xs))), (16, .tuple #[.int .i64 (pz (xs)), .bool true]), (18, .tuple #[.int .i64 (pz (xs)), .bool true]), (17, .agg #[.bool (decide (pz (xs) < 0)), .slice ad4 n4 c4]), (14, .bool false), (13, .int .i64 (pe (xs))), (5, .int .i64 (pe (xs))), (4, .pointer (some ⟨g4, 0, none⟩)), (12, .int .i64 (pe (xs))), (11, .agg #[.bool (decide (pz (xs) < 0)), .slice ad4 n4 c4]), (8, .tuple #[.agg #[.bool (decide (pz (xs) < 0)), .slice ad4 n4 c4], .int .i64 (pe (xs))]), (10, .tuple #[.agg #[.bool (decide (pz (xs) < 0)), .slice ad4 n4 c4], .int .i64 (pe (xs))]), (9, .string (bstr xs)), (0, .string (bstr xs))]) hF (r_assign ev_c) rfl rfl rfl rfl fun a hF => ?_
      refine E.nil ?_
      refine wp_ret ?_
      refine bodyPost_ret (res_tmp2 Try.results24 (hF.at 1 rfl) (hF.at 0 rfl)) hF.dfr ?_
      have hsn := sn_t hc8 hc9
      exact ⟨rv_int2 hsn.1 hsn.2, bel⟩
    · refine E.call hF (r_call Try.func25 en25.1 en25.2 (map1 (hF.at 0 rfl))) (smallB_f (Wc.wz hh3) hc9) rfl rfl rfl rfl ?_
      rintro e w11 ⟨rfl, bb⟩
      refine ⟨_, rfl, ?_⟩
      intro a hF
      replace bel := below_to bel bb
      clear bb
      refine E.opv hF (r_move (hF.at 0 rfl)) rfl rfl rfl rfl fun a hF => ?_
      refine E.opv hF (r_extract (v := .int .i64 0) (hF.at 0 rfl) rfl) rfl rfl rfl rfl fun a hF => ?_
      refine E.opv hF (r_extract (v := .bool false) (hF.at 1 rfl) rfl) rfl rfl rfl rfl fun a hF => ?_
      refine E.opv hF (r_assign (hF.at 1 rfl)) rfl rfl rfl rfl fun a hF => ?_
      refine E.opv hF (r_assign (hF.at 1 rfl)) rfl rfl rfl rfl fun a hF => ?_
      refine E.nil ?_
      refine wp_seq ?_
      refine wp_seq ?_
      refine E.seq ?_
      refine E.opv hF (r_move (hF.at 0 rfl)) rfl rfl rfl rfl fun a hF => ?_
      refine E.opv hF (r_un (hF.at 0 rfl) (bn_not _ true rfl)) rfl rfl rfl rfl fun a hF => ?_
      refine E.nil ?_
      refine wp_cond_true (hF.at 0 rfl) ?_
      refine wp_seq ?_
      refine E.seq ?_
      refine E.opset (L' := [(2, .int .i64 0), (22, .bool true), (21, .bool false), (7, .bool false), (6, .int .i64 0), (20, .bool false), (19, .int .i64 0), (16, .tuple #[.int .i64 0, .bool false]), (18, .tuple #[.int .i64 0, .bool false]), (17, .agg #[.bool (decide (pz (xs) < 0)), .slice ad4 n4 c4]), (14, .bool false), (13, .int .i64 (pe (xs))), (5, .int .i64 (pe (xs))), (4, .pointer (some ⟨g4, 0, none⟩)), (12, .int .i64 (pe (xs))), (11, .agg #[.bool (decide (pz (xs) < 0)), .slice ad4 n4 c4]), (8, .tuple #[.agg #[.bool (decide (pz (xs) < 0)), .slice ad4 n4 c4], .int .i64 (pe (xs))]), (10, .tuple #[.agg #[.bool (decide (pz (xs) < 0)), .slice ad4 n4 c4], .int .i64 (pe (xs))]), (9, .string (bstr xs)), (3, .int .i64 0), (0, .string (bstr xs))]) hF (r_assign ev_c) rfl rfl rfl rfl fun a hF => ?_
      refine E.opset (L' := [(3, .int .i64 5), (2, .int .i64 0), (22, .bool true), (21, .bool false), (7, .bool false), (6, .int .i64 0), (20, .bool false), (19, .int .i64 0), (16, .tuple #[.int .i64 0, .bool false]), (18, .tuple #[.int .i64 0, .bool false]), (17, .agg #[.bool (decide (pz (xs) < 0)), .slice ad4 n4 c4]), (14, .bool false), (13, .int .i64 (pe (xs))), (5, .int .i64 (pe (xs))), (4, .pointer (some ⟨g4, 0, none⟩)), (12, .int .i64 (pe (xs))), (11, .agg #[.bool (decide (pz (xs) < 0)), .slice ad4 n4 c4]), (8, .tuple #[.agg #[.bool (decide (pz (xs) < 0)), .slice ad4 n4 c4], .int .i64 (pe (xs))]), (10, .tuple #[.agg #[.bool (decide (pz (xs) < 0)), .slice ad4 n4 c4], .int .i64 (pe (xs))]), (9, .string (bstr xs)), (0, .string (bstr xs))]) hF (r_assign ev_c) rfl rfl rfl rfl fun a hF => ?_
      refine E.nil ?_
      refine wp_ret ?_
      refine bodyPost_ret (res_tmp2 Try.results24 (hF.at 1 rfl) (hF.at 0 rfl)) hF.dfr ?_
      have hsn := sn_f hc8 hc9
      exact ⟨rv_int2 hsn.1 hsn.2, bel⟩

theorem repeat_list (c : Nat) : Lib.repeatL [(48 : UInt8)] c = (List.replicate c 48).map UInt8.ofNat := by
  have := Lib.repeatL_replicate (48 : UInt8) 1 c
  rw [Nat.mul_one] at this
  rw [List.map_replicate]
  exact this
theorem rep_any (z : Int) (c : Nat) (w : World) (hz : z = ((c : Nat) : Int)) (hc : c ≤ 1000) : Calls Try.prog 82 #[.string (bstr [48]), .int .i64 z] w (ValPost w (.string (bstr (List.replicate c 48)))) := by
  subst hz
  refine (shf_strings_Repeat (bstr [48]) c w (by omega) (by rw [bstr_size]; simp; omega)).mono ?_
  rintro e w' ⟨rfl, hb⟩
  refine ⟨?_, hb⟩
  show Ending.returned (.string ⟨(Lib.repeatL [(48 : UInt8)] c).toArray⟩) = _
  rw [repeat_list]
  rfl
theorem okb_mono {a b : Nat} {xs : List Nat} (h : okb a xs) (hab : a ≤ b) : okb b xs := fun x hx => Nat.lt_of_lt_of_le (h x hx) hab
theorem asc_okb {xs : List Nat} (h : okb 10 xs) : okb 256 (asc xs) := by
  intro x hx
  obtain ⟨y, hy, rfl⟩ := List.mem_map.1 hx
  have := h y hy
  omega
theorem tx_okb (z : Int) : okb 256 (tx z) := by
  unfold tx
  split
  · decide
  · refine okb_append (by split <;> decide) ?_
    intro x hx
    exact asc_okb (okb_dg (by decide) _) x (List.mem_reverse.1 hx)
/-- A number's text with so many digits at least. -/
def padx (n width : Int) : List Nat := (if ng (tx n) = true then [45] else []) ++ (List.replicate (max (min width 20) (((bd (tx n)).length : Nat) : Int) - (((bd (tx n)).length : Nat) : Int)).toNat 48 ++ bd (tx n))
theorem padx_t {n width : Int} (h : ng (tx n) = true) : [45] ++ (List.replicate (max (min width 20) (((bd (tx n)).length : Nat) : Int) - (((bd (tx n)).length : Nat) : Int)).toNat 48 ++ bd (tx n)) = padx n width := by unfold padx; rw [if_pos h]
theorem padx_f {n width : Int} (h : ¬ ng (tx n) = true) : List.replicate (max (min width 20) (((bd (tx n)).length : Nat) : Int) - (((bd (tx n)).length : Nat) : Int)).toNat 48 ++ bd (tx n) = padx n width := by unfold padx; rw [if_neg h]; rfl
set_option maxHeartbeats 4000000 in
theorem pad_any (n width : Int) (w : World) (h0 : -9223372036854775808 ≤ n) (h1 : n ≤ 9223372036854775807) :
    Calls Try.prog 46 #[.int .i64 n, .int .i64 width] w (ValPost w (.string (bstr (padx n width)))) := by
  have htl := tx_len (lim_pow (limz_64 h0 h1))
  have hbl := bd_len (tx n)
  have bel : Below w.heap.size w w := Below.refl _ _
  refine E.enter (nt := 31) (L := [(0, .int .i64 n), (1, .int .i64 width)]) Try.func46 rfl rfl rfl (args_cons (i := 0) rfl (args_cons (i := 1) rfl args_nil)) ?_
  intro a hF
  refine wp_seq ?_
  refine E.seq ?_
  refine E.opv hF (r_assign ev_c) rfl rfl rfl rfl fun a hF => ?_
  refine E.nil ?_
  refine wp_seq ?_
  refine E.seq ?_
  refine E.opv hF (r_move (hF.at 1 rfl)) rfl rfl rfl rfl fun a hF => ?_
  refine E.call hF (r_call Try.func45 en45.1 en45.2 (map1 (hF.at 0 rfl))) (whOf_any n _ h0 h1) rfl rfl rfl rfl ?_
  rintro e w1 ⟨vv2, rfl, hh3, bb⟩
  refine ⟨_, rfl, ?_⟩
  intro a hF
  replace bel := below_to bel bb
  clear bb
  obtain ⟨ad4, n4, c4, rfl, _⟩ := Wc.shape hh3
  refine E.call hF (r_call Try.func18 en18.1 en18.2 (map1 (hF.at 0 rfl))) (dtext_any _ (n) (32 * 2) _ hh3 (lim_pow (limz_64 h0 h1)) (by omega)) rfl rfl rfl rfl ?_
  rintro e w5 ⟨rfl, bb⟩
  refine ⟨_, rfl, ?_⟩
  intro a hF
  replace bel := below_to bel bb
  clear bb
  refine E.call hF (r_call Try.func51 en51.1 en51.2 (map2 (hF.at 0 rfl) ev_c)) (cutPrefix_any (tx (n)) _ (tx_okb _) (by omega)) rfl rfl rfl rfl ?_
  rintro e w6 ⟨rfl, bb⟩
  refine ⟨_, rfl, ?_⟩
  intro a hF
  replace bel := below_to bel bb
  clear bb
  refine E.opv hF (r_move (hF.at 0 rfl)) rfl rfl rfl rfl fun a hF => ?_
  refine E.opv hF (r_extract (v := .string (bstr (bd (tx (n))))) (hF.at 0 rfl) rfl) rfl rfl rfl rfl fun a hF => ?_
  refine E.opv hF (r_extract (v := .bool (ng (tx (n)))) (hF.at 1 rfl) rfl) rfl rfl rfl rfl fun a hF => ?_
  refine E.opv hF (r_assign (hF.at 1 rfl)) rfl rfl rfl rfl fun a hF => ?_
  refine E.opv hF (r_assign (hF.at 1 rfl)) rfl rfl rfl rfl fun a hF => ?_
  refine E.nil ?_
  refine wp_seq ?_
  refine E.seq ?_
  refine E.opv hF (r_move (hF.at 11 rfl)) rfl rfl rfl rfl fun a hF => ?_
  refine E.opv hF (r_builtin (map2 (hF.at 0 rfl) ev_c) bl_min) rfl rfl rfl rfl fun a hF => ?_
  refine E.opv hF (r_move (hF.at 3 rfl)) rfl rfl rfl rfl fun a hF => ?_
  refine E.opv hF (r_builtin (map1 (hF.at 0 rfl)) (bl_str Try.underlying9)) rfl rfl rfl rfl fun a hF => ?_
  refine E.opv hF (r_builtin (map2 (hF.at 2 rfl) (hF.at 0 rfl)) bl_max) rfl rfl rfl rfl fun a hF => ?_
  refine E.opset (L' := [(1, .int .i64 (max (min width 20) ((List.length ((bd (tx (n)))) : Nat) : Int))), (19, .int .i64 (max (min width 20) ((List.length ((bd (tx (n)))) : Nat) : Int))), (18, .int .i64 ((List.length ((bd (tx (n)))) : Nat) : Int)), (17, .string (bstr (bd (tx (n))))), (16, .int .i64 (min width 20)), (15, .int .i64 width), (6, .bool (ng (tx (n)))), (5, .string (bstr (bd (tx (n))))), (14, .bool (ng (tx (n)))), (13, .string (bstr (bd (tx (n))))), (8, .tuple #[.string (bstr (bd (tx (n)))), .bool (ng (tx (n)))]), (12, .tuple #[.string (bstr (bd (tx (n)))), .bool (ng (tx (n)))]), (11, .string (bstr (tx (n)))), (10, .agg #[.bool (decide (n < 0)), .slice ad4 n4 c4]), (9, .int .i64 n), (4, .string (bstr [])), (0, .int .i64 n)]) hF (r_assign (hF.at 0 rfl)) rfl rfl rfl rfl fun a hF => ?_
  refine E.nil ?_
  refine wp_seq ?_
  refine E.seq ?_
  refine E.opv hF (r_move (hF.at 0 rfl)) rfl rfl rfl rfl fun a hF => ?_
  refine E.opv hF (r_move (hF.at 8 rfl)) rfl rfl rfl rfl fun a hF => ?_
  refine E.opv hF (r_builtin (map1 (hF.at 0 rfl)) (bl_str Try.underlying9)) rfl rfl rfl rfl fun a hF => ?_
  refine E.opv hF (r_bin (hF.at 2 rfl) (hF.at 0 rfl) eg_scalar (ia_sub (by omega) (by omega))) rfl rfl rfl rfl fun a hF => ?_
  refine E.call hF (r_call Try.func82 en82.1 en82.2 (map2 ev_c (hF.at 0 rfl))) (rep_any _ ((max (min width 20) ((List.length ((bd (tx (n)))) : Nat) : Int)) - ((List.length ((bd (tx (n)))) : Nat) : Int)).toNat _ (by omega) (by omega)) rfl rfl rfl rfl ?_
  rintro e w7 ⟨rfl, bb⟩
  refine ⟨_, rfl, ?_⟩
  intro a hF
  replace bel := below_to bel bb
  clear bb
  refine E.opv hF (r_move (hF.at 12 rfl)) rfl rfl rfl rfl fun a hF => ?_
  refine E.opv hF (r_bin (hF.at 1 rfl) (hF.at 0 rfl) eg_str (sb_add (xs := (List.replicate ((max (min width 20) ((List.length ((bd (tx (n)))) : Nat) : Int)) - ((List.length ((bd (tx (n)))) : Nat) : Int)).toNat 48)) (ys := (bd (tx (n)))) (by rw [List.length_replicate]; omega))) rfl rfl rfl rfl fun a hF => ?_
  refine E.opv hF (r_assign (hF.at 0 rfl)) rfl rfl rfl rfl fun a hF => ?_
  refine E.nil ?_
  refine wp_seq ?_
  refine wp_seq ?_
  refine E.seq ?_
  refine E.opv hF (r_move (hF.at 14 rfl)) rfl rfl rfl rfl fun a hF => ?_
  refine E.nil ?_
  by_cases hc8 : ng (tx (n)) = true
  · refine wp_cond_true (Eq.trans (hF.at 0 rfl) (congrArg Value.bool hc8)) ?_
    refine wp_seq ?_
    refine E.seq ?_
    refine E.opv hF (r_move (hF.at 1 rfl)) rfl rfl rfl rfl fun a hF => ?_
    refine E.opv hF (r_bin ev_c (hF.at 0 rfl) eg_str (sb_add (xs := [45]) (ys := ((List.replicate ((max (min width 20) ((List.length ((bd (tx (n)))) : Nat) : Int)) - ((List.length ((bd (tx (n)))) : Nat) : Int)).toNat 48) ++ (bd (tx (n))))) (by simp only [List.length_append, List.length_replicate, List.length_cons, List.length_nil]; omega))) rfl rfl rfl rfl fun a hF => ?_
    refine E.opset (L' := [(4, .string (bstr ([45] ++ ((List.replicate ((max (min width 20) ((List.length ((bd (tx (n)))) : Nat) : Int)) - ((List.length ((bd (tx (n)))) : Nat) : Int)).toNat 48) ++ (bd (tx (n))))))), (29, .string (bstr ([45] ++ ((List.replicate ((max (min width 20) ((List.length ((bd (tx (n)))) : Nat) : Int)) - ((List.length ((bd (tx (n)))) : Nat) : Int)).toNat 48) ++ (bd (tx (n))))))), (28, .string (bstr ((List.replicate ((max (min width 20) ((List.length ((bd (tx (n)))) : Nat) : Int)) - ((List.length ((bd (tx (n)))) : Nat) : Int)).toNat 48) ++ (bd (tx (n)))))), (27, .bool (ng (tx (n)))), (7, .string (bstr ((List.replicate ((max (min width 20) ((List.length ((bd (tx (n)))) : Nat) : Int)) - ((List.length ((bd (tx (n)))) : Nat) : Int)).toNat 48) ++ (bd (tx (n)))))), (26, .string (bstr ((List.replicate ((max (min width 20) ((List.length ((bd (tx (n)))) : Nat) : Int)) - ((List.length ((bd (tx (n)))) : Nat) : Int)).toNat 48) ++ (bd (tx (n)))))), (25, .string (bstr (bd (tx (n))))), (24, .string (bstr (List.replicate ((max (min width 20) ((List.length ((bd (tx (n)))) : Nat) : Int)) - ((List.length ((bd (tx (n)))) : Nat) : Int)).toNat 48))), (23, .int .i64 ((max (min width 20) ((List.length ((bd (tx (n)))) : Nat) : Int)) - ((List.length ((bd (tx (n)))) : Nat) : Int))), (22, .int .i64 ((List.length ((bd (tx (n)))) : Nat) : Int)), (21, .string (bstr (bd (tx (n))))), (20, .int .i64 (max (min width 20) ((List.length ((bd (tx (n)))) : Nat) : Int))), (1, .int .i64 (max (min width 20) ((List.length ((bd (tx (n)))) : Nat) : Int))), (19, .int .i64 (max (min width 20) ((List.length ((bd (tx (n)))) : Nat) : Int))), (18, .int .i64 ((List.length ((bd (tx (n)))) : Nat) : Int)), (17, .string (bstr (bd (tx (n))))), (16, .int .i64 (min width 20)), (15, .int .i64 width), (6, .bool (ng (tx (n)))), (5, .string (bstr (bd (tx (n))))), (14, .bool (ng (tx (n)))), (13, .string (bstr (bd (tx (n))))), (8, .tuple #[.string (bstr (bd (tx (n)))), .bool (ng (tx (n)))]), (12, .tuple #[.string (bstr (bd (tx (n)))), .bool (ng (tx (n)))]), (11, .string (bstr (tx (n)))), (10, .agg #[.bool (decide (n < 0)), .slice ad4 n4 c4]), (9, .int .i64 n), (0, .int .i64 n)]) hF (r_assign (hF.at 0 rfl)) rfl rfl rfl rfl fun a hF => ?_
    refine E.nil ?_
    refine wp_ret ?_
    refine bodyPost_ret (res_tmp Try.results46 (hF.at 0 rfl)) hF.dfr ?_
    exact ⟨rv_str (padx_t hc8), bel⟩
  · refine wp_cond_false (Eq.trans (hF.at 0 rfl) (congrArg Value.bool (eq_false_of_ne_true hc8))) ?_
    refine wp_skip ?_
    refine E.norm ?_
    refine wp_seq ?_
    refine E.seq ?_
    refine E.opv hF (r_move (hF.at 1 rfl)) rfl rfl rfl rfl fun a hF => ?_
    refine E.opset (L' := [(4, .string (bstr ((List.replicate ((max (min width 20) ((List.length ((bd (tx (n)))) : Nat) : Int)) - ((List.length ((bd (tx (n)))) : Nat) : Int)).toNat 48) ++ (bd (tx (n)))))), (30, .string (bstr ((List.replicate ((max (min width 20) ((List.length ((bd (tx (n)))) : Nat) : Int)) - ((List.length ((bd (tx (n)))) : Nat) : Int)).toNat 48) ++ (bd (tx (n)))))), (27, .bool (ng (tx (n)))), (7, .string (bstr ((List.replicate ((max (min width 20) ((List.length ((bd (tx (n)))) : Nat) : Int)) - ((List.length ((bd (tx (n)))) : Nat) : Int)).toNat 48) ++ (bd (tx (n)))))), (26, .string (bstr ((List.replicate ((max (min width 20) ((List.length ((bd (tx (n)))) : Nat) : Int)) - ((List.length ((bd (tx (n)))) : Nat) : Int)).toNat 48) ++ (bd (tx (n)))))), (25, .string (bstr (bd (tx (n))))), (24, .string (bstr (List.replicate ((max (min width 20) ((List.length ((bd (tx (n)))) : Nat) : Int)) - ((List.length ((bd (tx (n)))) : Nat) : Int)).toNat 48))), (23, .int .i64 ((max (min width 20) ((List.length ((bd (tx (n)))) : Nat) : Int)) - ((List.length ((bd (tx (n)))) : Nat) : Int))), (22, .int .i64 ((List.length ((bd (tx (n)))) : Nat) : Int)), (21, .string (bstr (bd (tx (n))))), (20, .int .i64 (max (min width 20) ((List.length ((bd (tx (n)))) : Nat) : Int))), (1, .int .i64 (max (min width 20) ((List.length ((bd (tx (n)))) : Nat) : Int))), (19, .int .i64 (max (min width 20) ((List.length ((bd (tx (n)))) : Nat) : Int))), (18, .int .i64 ((List.length ((bd (tx (n)))) : Nat) : Int)), (17, .string (bstr (bd (tx (n))))), (16, .int .i64 (min width 20)), (15, .int .i64 width), (6, .bool (ng (tx (n)))), (5, .string (bstr (bd (tx (n))))), (14, .bool (ng (tx (n)))), (13, .string (bstr (bd (tx (n))))), (8, .tuple #[.string (bstr (bd (tx (n)))), .bool (ng (tx (n)))]), (12, .tuple #[.string (bstr (bd (tx (n)))), .bool (ng (tx (n)))]), (11, .string (bstr (tx (n)))), (10, .agg #[.bool (decide (n < 0)), .slice ad4 n4 c4]), (9, .int .i64 n), (0, .int .i64 n)]) hF (r_assign (hF.at 0 rfl)) rfl rfl rfl rfl fun a hF => ?_
    refine E.nil ?_
    refine wp_ret ?_
    refine bodyPost_ret (res_tmp Try.results46 (hF.at 0 rfl)) hF.dfr ?_
    exact ⟨rv_str (padx_f hc8), bel⟩

theorem wake4a : ((tx (-1200)).map UInt8.ofNat == [45, 49, 50, 48, 48].map UInt8.ofNat) = true := by
  have e : tx (-1200) = [45, 49, 50, 48, 48] := by decide +kernel
  rw [e]; rfl
theorem wake4b : ((padx (-7) 3).map UInt8.ofNat == [45, 48, 48, 55].map UInt8.ofNat) = true := by
  have e : padx (-7) 3 = [45, 48, 48, 55] := by decide +kernel
  rw [e]; rfl
theorem wake4c : sn [45, 49, 50, 48] = -120 := by decide +kernel
theorem wake4d : se [45, 49, 50, 48] = 0 := by decide +kernel
set_option maxHeartbeats 4000000 in
theorem awake4_any (w : World) :
    Calls Try.prog 15 #[] w (ValPost w (.bool true)) := by
  have bel : Below w.heap.size w w := Below.refl _ _
  refine E.enter (nt := 22) (L := []) Try.func15 rfl rfl rfl args_nil ?_
  intro a hF
  refine wp_seq ?_
  refine E.seq ?_
  refine E.opv hF (r_assign ev_c) rfl rfl rfl rfl fun a hF => ?_
  refine E.nil ?_
  refine wp_seq ?_
  refine E.seq ?_
  refine E.call hF (r_call Try.func24 en24.1 en24.2 (map1 ev_c)) (dsmall_any ([45, 49, 50, 48]) _ (by decide) (by first | omega | decide)) rfl rfl rfl rfl ?_
  rintro e w1 ⟨rfl, bb⟩
  refine ⟨_, rfl, ?_⟩
  intro a hF
  replace bel := below_to bel bb
  clear bb
  refine E.opv hF (r_move (hF.at 0 rfl)) rfl rfl rfl rfl fun a hF => ?_
  refine E.opv hF (r_extract (v := .int .i64 (sn ([45, 49, 50, 48]))) (hF.at 0 rfl) rfl) rfl rfl rfl rfl fun a hF => ?_
  refine E.opv hF (r_extract (v := .int .i64 (se ([45, 49, 50, 48]))) (hF.at 1 rfl) rfl) rfl rfl rfl rfl fun a hF => ?_
  refine E.opv hF (r_assign (hF.at 1 rfl)) rfl rfl rfl rfl fun a hF => ?_
  refine E.opv hF (r_assign (hF.at 1 rfl)) rfl rfl rfl rfl fun a hF => ?_
  refine E.nil ?_
  refine wp_seq ?_
  refine E.seq ?_
  refine E.call hF (r_call Try.func45 en45.1 en45.2 (map1 ev_c)) (whOf_any ((-1200)) _ (by decide) (by decide)) rfl rfl rfl rfl ?_
  rintro e w2 ⟨vv3, rfl, hh4, bb⟩
  refine ⟨_, rfl, ?_⟩
  intro a hF
  replace bel := below_to bel bb
  clear bb
  obtain ⟨ad5, n5, c5, rfl, _⟩ := Wc.shape hh4
  refine E.call hF (r_call Try.func18 en18.1 en18.2 (map1 (hF.at 0 rfl))) (dtext_any _ ((-1200)) (32 * 2) _ hh4 (lim_pow (limz_64 (by decide) (by decide))) (by omega)) rfl rfl rfl rfl ?_
  rintro e w6 ⟨rfl, bb⟩
  refine ⟨_, rfl, ?_⟩
  intro a hF
  replace bel := below_to bel bb
  clear bb
  refine E.opv hF (r_bin (hF.at 0 rfl) ev_c eg_str (sb_eq (xs := tx ((-1200))) (ys := [45, 49, 50, 48, 48]) wake4a)) rfl rfl rfl rfl fun a hF => ?_
  refine E.opv hF (r_move (hF.at 0 rfl)) rfl rfl rfl rfl fun a hF => ?_
  refine E.callg hF (r_call Try.func46 en46.1 en46.2 (map2 ev_c ev_c)) (pad_any (-7) 3 _ (by omega) (by omega)) (wanted_by rfl rfl (hF.at 0 rfl) rfl) rfl rfl rfl ?_
  rintro e w7 ⟨rfl, bb⟩
  refine ⟨_, rfl, ?_⟩
  intro a hF
  replace bel := below_to bel bb
  clear bb
  refine E.opvg hF (r_bin (hF.at 0 rfl) ev_c eg_str (sb_eq (xs := padx (-7) 3) (ys := [45, 48, 48, 55]) wake4b)) (wanted_by rfl rfl (hF.at 1 rfl) rfl) rfl rfl rfl fun a hF => ?_
  refine E.opv hF (r_pick_t (hF.at 2 rfl) (hF.at 0 rfl)) rfl rfl rfl rfl fun a hF => ?_
  refine E.opv hF (r_move (hF.at 0 rfl)) rfl rfl rfl rfl fun a hF => ?_
  refine E.opvg hF (r_move (hF.at 9 rfl)) (wanted_by rfl rfl (hF.at 0 rfl) rfl) rfl rfl rfl fun a hF => ?_
  refine E.opvg hF (r_bin (hF.at 0 rfl) ev_c eg_scalar (bi_int (ic_eql (c := true) (dec_tt wake4c)) (by simp))) (wanted_by rfl rfl (hF.at 1 rfl) rfl) rfl rfl rfl fun a hF => ?_
  refine E.opv hF (r_pick_t (hF.at 2 rfl) (hF.at 0 rfl)) rfl rfl rfl rfl fun a hF => ?_
  refine E.opv hF (r_move (hF.at 0 rfl)) rfl rfl rfl rfl fun a hF => ?_
  refine E.opvg hF (r_move (hF.at 12 rfl)) (wanted_by rfl rfl (hF.at 0 rfl) rfl) rfl rfl rfl fun a hF => ?_
  refine E.opvg hF (r_bin (hF.at 0 rfl) ev_c eg_scalar (bi_int (ic_eql (c := true) (dec_tt wake4d)) (by simp))) (wanted_by rfl rfl (hF.at 1 rfl) rfl) rfl rfl rfl fun a hF => ?_
  refine E.opv hF (r_pick_t (hF.at 2 rfl) (hF.at 0 rfl)) rfl rfl rfl rfl fun a hF => ?_
  refine E.opset (L' := [(0, .bool true), (21, .bool true), (20, .bool true), (19, .int .i64 (se ([45, 49, 50, 48]))), (18, .bool true), (17, .bool true), (16, .bool true), (15, .int .i64 (sn ([45, 49, 50, 48]))), (14, .bool true), (13, .bool true), (12, .bool true), (11, .string (bstr (padx (-7) 3))), (10, .bool true), (9, .bool true), (8, .string (bstr (tx ((-1200))))), (7, .agg #[.bool (decide ((-1200) < 0)), .slice ad5 n5 c5]), (2, .int .i64 (se ([45, 49, 50, 48]))), (1, .int .i64 (sn ([45, 49, 50, 48]))), (6, .int .i64 (se ([45, 49, 50, 48]))), (5, .int .i64 (sn ([45, 49, 50, 48]))), (3, .tuple #[.int .i64 (sn ([45, 49, 50, 48])), .int .i64 (se ([45, 49, 50, 48]))]), (4, .tuple #[.int .i64 (sn ([45, 49, 50, 48])), .int .i64 (se ([45, 49, 50, 48]))])]) hF (r_assign (hF.at 0 rfl)) rfl rfl rfl rfl fun a hF => ?_
  refine E.nil ?_
  refine wp_ret ?_
  refine bodyPost_ret (res_tmp Try.results15 (hF.at 0 rfl)) hF.dfr ?_
  exact ⟨rfl, bel⟩

end Go.Proofs.Ytjdmnchndnpdlaa

/- Texts and numbers: there and back. -/
namespace Go.Proofs.Ytjdmnchndnpdlaa
open Go.RowKit
set_option maxRecDepth 100000
set_option linter.unusedVariables false

theorem vl_dv {xs : List Nat} : ∀ j, j ≤ xs.length → vl 10 ((xs.take j).map (· - 48)).reverse = dv xs j
  | 0, _ => by simp [vl, dv]
  | j + 1, h => by
    have ih := vl_dv (xs := xs) j (by omega)
    have e : xs.take (j + 1) = xs.take j ++ [lg xs j] := by rw [List.take_succ_eq_append_getElem (by omega), lg_get (by omega)]
    rw [e, List.map_append, List.reverse_append]
    show (lg xs j - 48) + 10 * vl 10 ((xs.take j).map (· - 48)).reverse = dv xs j * 10 + (lg xs j - 48)
    rw [ih]; omega
theorem dg_dv {b : List Nat} (hd : ∀ i, i < b.length → 48 ≤ lg b i ∧ lg b i ≤ 57) (hn : b ≠ []) (h0 : lg b 0 ≠ 48) : dg 10 (dv b b.length) = (b.map (· - 48)).reverse := by
  have hv := vl_dv (xs := b) b.length (Nat.le_refl _)
  rw [List.take_length] at hv
  have hp := List.length_pos_iff.2 hn
  have ho : okb 10 (b.map (· - 48)).reverse := by
    intro x hx
    obtain ⟨y, hy, rfl⟩ := List.mem_map.1 (List.mem_reverse.1 hx)
    obtain ⟨i, hi, rfl⟩ := List.getElem_of_mem hy
    have := hd i hi
    rw [lg_get hi] at this
    omega
  have hm : norm (b.map (· - 48)).reverse := by
    intro _
    have e : lg (b.map (· - 48)).reverse ((b.map (· - 48)).reverse.length - 1) = lg b 0 - 48 := by
      have hl : (b.map (· - 48)).reverse.length = b.length := by simp
      rw [hl, lg_get (by rw [hl]; omega), lg_get hp, List.getElem_reverse, List.getElem_map]
      simp
    have := hd 0 hp
    rw [e]; omega
  rw [← hv]
  exact dg_unique (by decide) ho hm
theorem asc_back {b : List Nat} (hd : ∀ i, i < b.length → 48 ≤ lg b i ∧ lg b i ≤ 57) : (asc ((b.map (· - 48)).reverse)).reverse = b := by
  unfold asc
  rw [List.map_reverse, List.reverse_reverse, List.map_map]
  conv => rhs; rw [← List.map_id b]
  apply List.map_congr_left
  intro y hy
  obtain ⟨i, hi, rfl⟩ := List.getElem_of_mem hy
  have := hd i hi
  rw [lg_get hi] at this
  simp only [Function.comp, id]
  omega
theorem dv_pos {b : List Nat} (hd : ∀ i, i < b.length → 48 ≤ lg b i ∧ lg b i ≤ 57) (hn : b ≠ []) (h0 : lg b 0 ≠ 48) : 0 < dv b b.length := by
  apply Nat.pos_of_ne_zero
  intro e
  have h := dg_dv hd hn h0
  rw [e, dg_zero] at h
  have hl := congrArg List.length h
  simp at hl
  exact hn (List.length_eq_zero_iff.1 hl.symm)
theorem sgn_eq (xs : List Nat) : (if ng xs = true then [45] else []) ++ bd xs = xs := by
  unfold ng bd
  by_cases h : List.take 1 xs = [45]
  · rw [decide_eq_true h, if_pos rfl, if_pos h, ← h, List.take_append_drop]
  · rw [decide_eq_false h, if_neg (by decide), if_neg h]; rfl
/-- What is read is written the same. -/
theorem tx_pz {xs : List Nat} (h : pe xs = 0) : tx (pz xs) = xs := by
  unfold pz
  rw [if_pos h]
  by_cases e : xs = [48]
  · subst e; decide +kernel
  · have hp : Plain (bd xs) := by
      unfold pe at h
      split at h
      · cases h
      · rename_i h1
        exact Classical.byContradiction fun k => h1 ⟨e, k⟩
    obtain ⟨hd, hn, h0⟩ := hp
    have hpos := dv_pos hd hn h0
    have ht : (asc (dg 10 (dv (bd xs) (bd xs).length))).reverse = bd xs := by rw [dg_dv hd hn h0]; exact asc_back hd
    unfold tx
    rw [sg_natAbs, ht]
    cases hg : ng xs with
    | true =>
      rw [sg_true, if_neg (by omega), if_pos (by omega)]
      have := sgn_eq xs
      rwa [hg, if_pos rfl] at this
    | false =>
      rw [sg_false, if_neg (by omega), if_neg (by omega)]
      have := sgn_eq xs
      rwa [hg, if_neg (by decide)] at this
/-- So many times one digit, a sign ahead. -/
def rp (n c : Nat) (b : Bool) : List Nat := (if b = true then [45] else []) ++ List.replicate n c
theorem lg_rep {n c i : Nat} (h : i < n) : lg (List.replicate n c) i = c := by
  rw [lg_get (by rw [List.length_replicate]; exact h), List.getElem_replicate]
theorem rp_bd {n c : Nat} {b : Bool} (hc : c ≠ 45) : bd (rp n c b) = List.replicate n c ∧ ng (rp n c b) = b := by
  unfold bd ng rp
  cases b with
  | true => exact ⟨by simp, by simp⟩
  | false =>
    have e : ¬ List.take 1 (List.replicate n c) = [45] := by
      cases n with
      | zero => simp
      | succ k =>
        rw [List.replicate_succ, List.take_succ_cons, List.take_zero]
        intro h
        injection h with h _
        exact hc h
    simp only [Bool.false_eq_true, if_false, List.nil_append]
    exact ⟨if_neg e, decide_eq_false e⟩
theorem rp_plain {n c : Nat} (h1 : 49 ≤ c) (h2 : c ≤ 57) : Plain (List.replicate n c) ↔ 0 < n := by
  constructor
  · intro h
    have := List.length_pos_iff.2 h.2.1
    rwa [List.length_replicate] at this
  · intro h
    refine ⟨fun j hj => ?_, fun e => ?_, ?_⟩
    · rw [List.length_replicate] at hj; rw [lg_rep hj]; omega
    · have := congrArg List.length e
      rw [List.length_replicate] at this
      simp at this; omega
    · rw [lg_rep h]; omega
theorem rp_no48 {n c : Nat} {b : Bool} (h1 : 49 ≤ c) (h2 : c ≤ 57) : rp n c b ≠ [48] := by
  intro e
  unfold rp at e
  cases b with
  | true =>
    rw [if_pos rfl] at e
    injection e with e _
    cases e
  | false =>
    have hm : (48 : Nat) ∈ ((if false = true then [45] else []) ++ List.replicate n c) := by rw [e]; simp
    rw [if_neg (by decide), List.nil_append] at hm
    have := (List.mem_replicate.1 hm).2
    omega
theorem rp_pe {n c : Nat} {b : Bool} (h1 : 49 ≤ c) (h2 : c ≤ 57) : pe (rp n c b) = if n = 0 then 1 else if 1000 < n then 5 else 0 := by
  have e := rp_bd (n := n) (b := b) (show c ≠ 45 by omega)
  unfold pe
  rw [e.1, List.length_replicate]
  by_cases h : n = 0
  · rw [if_pos ⟨rp_no48 h1 h2, fun k => by have := (rp_plain h1 h2).1 k; omega⟩, if_pos h]
  · rw [if_neg (fun k => k.2 ((rp_plain h1 h2).2 (by omega))), if_neg h]
theorem rp_sz {n c : Nat} {b : Bool} (h1 : 49 ≤ c) (h2 : c ≤ 57) (hn : n ≠ 0) (hm : n ≤ 1000) : decide (pz (rp n c b) < 0) = b := by
  have e := rp_bd (n := n) (b := b) (show c ≠ 45 by omega)
  have hp := (rp_plain (n := n) h1 h2).2 (by omega)
  have hpe : pe (rp n c b) = 0 := by rw [rp_pe h1 h2, if_neg hn, if_neg (by omega)]
  unfold pz
  rw [if_pos hpe, e.1, e.2]
  exact sg_neg b (dv_pos hp.1 hp.2.1 hp.2.2)
theorem rp_0 {n c : Nat} {b : Bool} (h1 : 49 ≤ c) (h2 : c ≤ 57) (h : n = 0 ∨ 1000 < n) : pz (rp n c b) = 0 := by
  unfold pz
  rw [rp_pe h1 h2, if_neg]
  split
  · decide
  · rw [if_pos (by omega)]; decide
theorem rp_okb {n c : Nat} {b : Bool} (h2 : c ≤ 57) : okb 256 (rp n c b) := by
  unfold rp
  refine okb_append (by split <;> decide) ?_
  intro x hx
  have := (List.mem_replicate.1 hx).2
  omega
end Go.Proofs.Ytjdmnchndnpdlaa
