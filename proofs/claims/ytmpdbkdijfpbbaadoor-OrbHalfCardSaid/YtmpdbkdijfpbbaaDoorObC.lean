/- OrbHalf. -/
import Derived.Test.YtmpdbkdijfpbbaaDoorObA
import Derived.Test.YtmpdbkdijfpbbaaDoorGN
namespace Go.Proofs.YtmpdbkdijfpbbaaDoor
open Go.RowKit
set_option maxRecDepth 100000
set_option linter.unusedVariables false

/-- 'append(out, x, y, ..)': more than one element. -/
theorem accK_apps {P : Program} {w : World} {k : IntKind} {t T ty : TypeId} {bytes base : Nat} (ht : P.underlying t = some (.slice T)) (hq : ∃ i, P.info? T = some i ∧ i.zero = some (.int k 0) ∧ i.size = 1 ∧ i.bytes = bytes) (hbb : bytes ≤ 8)
    {v : Value} {xs : List Nat} (h : AccK w k T base v xs) {gs : Nat} {ds : List Nat} (hsrc : Blk w gs (cl k ds)) (hd : 0 < ds.length) (hdl : ds.length ≤ 1000) (hl : xs.length ≤ 1000000) (hbase : base ≤ w.heap.size) :
    ∃ ad n cap w', (Builtin.append_ #[t, t] ty #[v, .slice (some ⟨gs, 0, none⟩) ds.length ds.length]).run P w = .ok (.slice ad n cap) w' ∧ AccK w' k T base (.slice ad n cap) (xs ++ ds) ∧ Below base w w' := by
  obtain ⟨i, hi, hz, hs, hby⟩ := hq
  obtain ⟨Ts, hsr⟩ := hsrc
  have hnews : ∀ j u, (cl k ds)[j]? = some u → w.cell? ((⟨gs, 0, none⟩ : Addr).add j) = some u := by
    intro j u hj
    rw [Addr.add_mid, Nat.zero_add, cell_of_row w gs j _ _ _ hsr, List.getElem?_toArray]; exact hj
  have h1 : ∀ u ∈ cl k ds, u.oneCell' = true := by
    intro u hu
    obtain ⟨z, rfl⟩ := all_cl u hu
    rfl
  have hll : (cl k ds).length = ds.length * i.size := by rw [hs, cl_length, Nat.mul_one]
  have hlen : (xs ++ ds).length = xs.length + ds.length := List.length_append
  -- a new row
  have fresh : ∀ (ys : List Value) (cap : Nat), ys = cl k xs → xs.length + ds.length ≤ cap → cap ≤ maxLen →
      AccK (w.drew.alloc (.cells (ys.toArray ++ (cl k ds).toArray ++ Builtin.zeroCells (Value.int k 0).cells (cap - (xs.length + ds.length))) T)) k T base (.slice (some ⟨w.heap.size, 0, none⟩) (xs.length + ds.length) cap) (xs ++ ds) ∧
      Below base w (w.drew.alloc (.cells (ys.toArray ++ (cl k ds).toArray ++ Builtin.zeroCells (Value.int k 0).cells (cap - (xs.length + ds.length))) T)) := by
    intro ys cap hy hc hm
    subst hy
    refine ⟨.inr ⟨w.heap.size, cap, cl k (xs ++ ds) ++ (Builtin.zeroCells #[Value.int k 0] (cap - (xs.length + ds.length))).toList, by rw [hlen], hbase, ?_, by rw [hlen]; exact hc, hm, ?_, ?_, ?_⟩, ?_⟩
    · refine (heap_alloc_new w.drew _).trans ?_
      simp [cl_append, Value.cells]
    · have hz' : (Builtin.zeroCells #[Value.int k 0] (cap - (xs.length + ds.length))).toList.length = cap - (xs.length + ds.length) := by rw [Array.length_toList, size_zeroCells]; simp
      rw [List.length_append, cl_length, hlen, hz']
      omega
    · rw [hlen, List.take_left' (by rw [cl_length, hlen])]
    · intro u hu
      rcases List.mem_append.1 hu with hu | hu
      · exact all_cl u hu
      · exact all_zero _ u hu
    · exact ⟨rfl, rfl, rfl, by simp, fun b hb => heap_alloc_old w.drew _ (Nat.lt_of_lt_of_le hb hbase)⟩
  rcases h with ⟨rfl, rfl⟩ | ⟨g, cap, cs, rfl, h2, h3, h4, h5, h6, h7, h8⟩
  · have hr := run_append_nil (P := P) w t ty T i (.int k 0) ht hi hz ⟨gs, 0, none⟩ ds.length ds.length (cl k ds) hll hnews hd (by omega) (by rw [hby]; have := Nat.mul_le_mul hdl hbb; omega)
    have hge := grownCap_ge w ds.length 0 T
    have hle := grownCap_le_maxLen w ds.length 0 T (by unfold maxLen; omega)
    have hf := fresh [] (grownCap w ds.length 0 T) rfl (by simpa using hge) hle
    simp only [List.length_nil, Nat.zero_add] at hf
    refine ⟨_, _, _, _, hr, ?_⟩
    simpa using hf
  · by_cases hroom : xs.length + ds.length ≤ cap
    · have hfit : xs.length * i.size + (cl k ds).length ≤ cs.toArray.size := by rw [hs, cl_length]; simp; omega
      have hr := run_append_room (P := P) w t ty T i ht hi g xs.length cap cs.toArray h3 ⟨gs, 0, none⟩ ds.length ds.length (cl k ds) hll hnews h1 hroom hfit
      have e : (cs.toArray.toList.take (xs.length * i.size) ++ cl k ds ++ cs.toArray.toList.drop (xs.length * i.size + (cl k ds).length)) = cl k xs ++ cl k ds ++ cs.drop (xs.length + ds.length) := by
        rw [hs, cl_length, Nat.mul_one]
        show cs.take xs.length ++ _ ++ _ = _
        rw [h7]
      rw [e] at hr
      have hw : (cl k xs ++ cl k ds ++ cs.drop (xs.length + ds.length)).length = cap := by
        rw [List.length_append, List.length_append, cl_length, cl_length, List.length_drop]; omega
      have hsize : (w.setRow g (cl k xs ++ cl k ds ++ cs.drop (xs.length + ds.length)).toArray).heap.size = w.heap.size := by simp [World.setRow]
      have hoth : ∀ b, b ≠ g → (w.setRow g (cl k xs ++ cl k ds ++ cs.drop (xs.length + ds.length)).toArray).heap[b]? = w.heap[b]? := by
        intro b hb
        simp only [World.setRow, Array.getElem?_modify]
        rw [if_neg (by omega)]
      refine ⟨_, _, _, _, hr, .inr ⟨g, cap, cl k xs ++ cl k ds ++ cs.drop (xs.length + ds.length), by rw [hlen], h2, setRow_heap w g _ _ T (0, 0) h3, by rw [hlen]; exact hroom, h5, hw, ?_, ?_⟩, ?_⟩
      · rw [hlen, cl_append]
        exact List.take_left' (by rw [List.length_append, cl_length, cl_length])
      · intro u hu
        rcases List.mem_append.1 hu with hu | hu
        · rw [← cl_append] at hu; exact all_cl u hu
        · exact h8 u (List.mem_of_mem_drop hu)
      · exact ⟨rfl, rfl, rfl, by rw [hsize]; exact Nat.le_refl _, fun b hbb => hoth b (by omega)⟩
    · have holds : ∀ j u, (cl k xs)[j]? = some u → w.cell? ((⟨g, 0, none⟩ : Addr).add j) = some u := by
        intro j u hj
        have hjl : j < xs.length := by
          have := (List.getElem?_eq_some_iff.1 hj).1
          rwa [cl_length] at this
        rw [Addr.add_mid, Nat.zero_add, cell_of_row w g j _ _ _ h3, List.getElem?_toArray]
        rw [← h7, List.getElem?_take, if_pos hjl] at hj
        exact hj
      have hr := run_append_grow (P := P) w t ty T i (.int k 0) ht hi hz ⟨g, 0, none⟩ xs.length cap (cl k xs) (by rw [cl_length, hs, Nat.mul_one]) holds ⟨gs, 0, none⟩ ds.length ds.length (cl k ds) hll hnews (by omega) (by omega)
        (growslice_fits (by omega) (by rw [hby]; have := Nat.mul_le_mul_left (xs.length + ds.length) hbb; omega))
      have hge := grownCap_ge w (xs.length + ds.length) cap T
      have hle := grownCap_le_maxLen w (xs.length + ds.length) cap T (by unfold maxLen; omega)
      exact ⟨_, _, _, _, hr, fresh (cl k xs) _ rfl hge hle⟩
theorem info_int : ∃ i, Tryd.prog.info? 3 = some i ∧ i.zero = some (.int .i64 0) ∧ i.size = 1 ∧ i.bytes = 8 := by
  have h1 := sz_int
  have h2 : (Tryd.prog.info? 3).bind (·.zero) = some (.int .i64 0) := by kernel_rfl
  have h3 : (Tryd.prog.info? 3).map (·.bytes) = some 8 := by kernel_rfl
  cases hq : Tryd.prog.info? 3 with
  | none => rw [hq] at h1; cases h1
  | some i => exact ⟨i, rfl, by simpa [hq] using h2, by simpa [hq] using h1, by simpa [hq] using h3⟩
theorem appI {w : World} {base : Nat} {v : Value} {xs : List Nat} (h : AccK w .i64 3 base v xs) {gs : Nat} {ds : List Nat} {n : Nat} (hn : n = ds.length) (hs : Blk w gs (cl .i64 ds)) (hd : 0 < ds.length) (hdl : ds.length ≤ 1000) (hl : xs.length ≤ 1000000) (bel : base ≤ w.heap.size) {ty : TypeId} :
    ∃ ad n' cap w', (builtin .append #[71, 71] ty #[false, false] #[v, .slice (some ⟨gs, 0, none⟩) n n]).run Tryd.prog w = .ok (.value (.slice ad n' cap)) w' ∧ AccK w' .i64 3 base (.slice ad n' cap) (xs ++ ds) ∧ Below base w w' := by
  subst hn
  obtain ⟨ad, n, cap, w', h1, h2⟩   := accK_apps (ty := ty) Tryd.underlying71 info_int (by decide) h hs hd hdl hl bel
  refine ⟨ad, n, cap, w', ?_, h2⟩
  show (do pure (.value (← Builtin.append_ #[71, 71] ty #[v, .slice (some ⟨gs, 0, none⟩) ds.length ds.length])) : Sem Next).run Tryd.prog w = _
  rw [Sem.run_bind, h1]; rfl
theorem en28 : (Tryd.f28.name == "runtime.NumGoroutine") = false ∧ Tryd.f28.body.isNone = false := ⟨by decide +kernel, by kernel_rfl⟩
def karL (i : Nat) : List Nat := 11 :: (List.replicate i [1, 2, 3, 4, 5, 6, 7]).flatten
theorem karL_succ (i : Nat) : karL i ++ [1, 2, 3, 4, 5, 6, 7] = karL (i + 1) := by simp [karL, List.replicate_succ', List.flatten_append]
theorem karL_len (i : Nat) : (karL i).length = 1 + 7 * i := by
  induction i with
  | zero => rfl
  | succ i ih => rw [← karL_succ, List.length_append, ih]; simp; omega
theorem karL_at : ∀ n : Nat, n < 60 → ((lg (karL 8 ++ [8, 9, 10]) n : Nat) : Int) = kar ((n : Int) + 1) := by decide +kernel
theorem kar_at {h : Int} (h1 : ¬ h < 1) (h2 : ¬ 60 < h) : ((lg (karL 8 ++ [8, 9, 10]) (h - 1).toNat : Nat) : Int) = kar h := by
  rw [karL_at _ (by omega), show (((h - 1).toNat : Nat) : Int) + 1 = h by omega]
theorem kar_seven {h : Int} (h1 : ¬ h < 2) (h2 : ¬ 50 < h) : kar (h + 7) = kar h := by
  unfold kar
  (repeat' split) <;> omega
theorem AccK.castM {w : World} {k : IntKind} {T base : Nat} {v : Value} {xs ys : List Nat} (h : AccK w k T base v xs) (e : xs = ys) : AccK w k T base v ys := e ▸ h
theorem bs_k1 (w : World) : ∃ g w', (Instr.buildSlice 71 1 #[(0, .int .i64 11)]).run Tryd.prog w = .ok (.slice (some ⟨g, 0, none⟩) 1 1) w' ∧ Below w.heap.size w w' ∧ Blk w' g (cl .i64 [11]) := by
  have hb := blk_new (w := w) (cs := cl .i64 [11]) 3
  refine ⟨w.heap.size, w.alloc (.cells (cl .i64 [11]).toArray 3), ?_, hb.2, hb.1⟩
  have hs := size_run (P := Tryd.prog) (T := 3) (n := 1) sz_int w
  simp [Instr.buildSlice, go_sem, hs, Instr.fill, Value.cells, newRow, cl]
theorem ps_k1 {a : Act} {x0 : Value} : (#[(0, Operand.const x0)].map fun (p : Nat × Operand) => (p.1, a.eval p.2)) = #[(0, x0)] := by simp [Act.eval]
theorem bs_k7 (w : World) : ∃ g w', (Instr.buildSlice 71 7 #[(0, .int .i64 1), (1, .int .i64 2), (2, .int .i64 3), (3, .int .i64 4), (4, .int .i64 5), (5, .int .i64 6), (6, .int .i64 7)]).run Tryd.prog w = .ok (.slice (some ⟨g, 0, none⟩) 7 7) w' ∧ Below w.heap.size w w' ∧ Blk w' g (cl .i64 [1, 2, 3, 4, 5, 6, 7]) := by
  have hb := blk_new (w := w) (cs := cl .i64 [1, 2, 3, 4, 5, 6, 7]) 3
  refine ⟨w.heap.size, w.alloc (.cells (cl .i64 [1, 2, 3, 4, 5, 6, 7]).toArray 3), ?_, hb.2, hb.1⟩
  have hs := size_run (P := Tryd.prog) (T := 3) (n := 1) sz_int w
  simp [Instr.buildSlice, go_sem, hs, Instr.fill, Value.cells, newRow, cl]
theorem ps_k7 {a : Act} {x0 x1 x2 x3 x4 x5 x6 : Value} : (#[(0, Operand.const x0), (1, Operand.const x1), (2, Operand.const x2), (3, Operand.const x3), (4, Operand.const x4), (5, Operand.const x5), (6, Operand.const x6)].map fun (p : Nat × Operand) => (p.1, a.eval p.2)) = #[(0, x0), (1, x1), (2, x2), (3, x3), (4, x4), (5, x5), (6, x6)] := by simp [Act.eval]
theorem bs_k3 (w : World) : ∃ g w', (Instr.buildSlice 71 3 #[(0, .int .i64 8), (1, .int .i64 9), (2, .int .i64 10)]).run Tryd.prog w = .ok (.slice (some ⟨g, 0, none⟩) 3 3) w' ∧ Below w.heap.size w w' ∧ Blk w' g (cl .i64 [8, 9, 10]) := by
  have hb := blk_new (w := w) (cs := cl .i64 [8, 9, 10]) 3
  refine ⟨w.heap.size, w.alloc (.cells (cl .i64 [8, 9, 10]).toArray 3), ?_, hb.2, hb.1⟩
  have hs := size_run (P := Tryd.prog) (T := 3) (n := 1) sz_int w
  simp [Instr.buildSlice, go_sem, hs, Instr.fill, Value.cells, newRow, cl]
theorem ps_k3 {a : Act} {x0 x1 x2 : Value} : (#[(0, Operand.const x0), (1, Operand.const x1), (2, Operand.const x2)].map fun (p : Nat × Operand) => (p.1, a.eval p.2)) = #[(0, x0), (1, x1), (2, x2)] := by simp [Act.eval]
theorem bs_a1 (w : World) : ∃ g w', (Instr.buildSlice 71 1 #[(0, .int .i64 11)]).run Tryd.prog w = .ok (.slice (some ⟨g, 0, none⟩) 1 1) w' ∧ Below w.heap.size w w' ∧ AccK w' .i64 3 w.heap.size (.slice (some ⟨g, 0, none⟩) 1 1) [11] := by
  have hb := blk_new (w := w) (cs := cl .i64 [11]) 3
  refine ⟨w.heap.size, w.alloc (.cells (cl .i64 [11]).toArray 3), ?_, hb.2, .inr ⟨w.heap.size, 1, cl .i64 [11], rfl, Nat.le_refl _, heap_alloc_new w _, Nat.le_refl _, by unfold maxLen; omega, rfl, rfl, fun u hu => all_cl u hu⟩⟩
  have hs := size_run (P := Tryd.prog) (T := 3) (n := 1) sz_int w
  simp [Instr.buildSlice, go_sem, hs, Instr.fill, Value.cells, newRow, cl]
theorem ix_ints2 {w : World} {g n c : Nat} {i : Int} (h0 : 0 ≤ i) (h1 : i < n) : (Instr.indexAt 71 (.slice (some ⟨g, 0, none⟩) n c) (.int .i64 i)).run Tryd.prog w = .ok (.pointer (some ⟨g, i.toNat, none⟩)) w := by
  simp [Instr.indexAt, asIntOf, run_underlying Tryd.underlying71, Sem.run_bind, h0, h1, Addr.add_mid]
set_option maxHeartbeats 4000000 in
theorem rKarana_any (n : Int) (w : World) :
    Calls Tryd.prog 28 #[.int .i64 n] w (ValPost w (.int .i64 (kar n))) := by
  have bel : Below w.heap.size w w := Below.refl _ _
  refine E.enter (nt := 26) (L := [(0, .int .i64 n)]) Tryd.func28 rfl rfl rfl (args_cons (i := 0) rfl args_nil) ?_
  intro a hF
  refine wp_seq ?_
  refine E.seq ?_
  refine E.opv hF (r_assign ev_c) rfl rfl rfl rfl fun a hF => ?_
  refine E.nil ?_
  refine wp_seq ?_
  refine wp_seq ?_
  refine E.seq ?_
  refine E.opv hF (r_move (hF.at 1 rfl)) rfl rfl rfl rfl fun a hF => ?_
  by_cases hc1 : n < 1
  · refine E.opv hF (r_bin (hF.at 0 rfl) ev_c eg_scalar (bi_int (ic_lss (c := true) (dec_tt hc1)) (by simp))) rfl rfl rfl rfl fun a hF => ?_
    refine E.opv hF (r_move (hF.at 0 rfl)) rfl rfl rfl rfl fun a hF => ?_
    refine E.unwanted hF (wanted_by rfl rfl (hF.at 0 rfl) rfl) rfl rfl rfl fun a hF => ?_
    refine E.unwanted hF (wanted_by rfl rfl (hF.at 1 rfl) rfl) rfl rfl rfl fun a hF => ?_
    refine E.opv hF (r_pick_t (hF.at 2 rfl) ev_c) rfl rfl rfl rfl fun a hF => ?_
    refine E.nil ?_
    refine wp_cond_true (hF.at 0 rfl) ?_
    refine wp_seq ?_
    refine E.seq ?_
    refine E.opset (L' := [(2, .int .i64 0), (10, .bool true), (9, undef), (8, undef), (7, .bool true), (6, .bool true), (5, .int .i64 n), (0, .int .i64 n)]) hF (r_assign ev_c) rfl rfl rfl rfl fun a hF => ?_
    refine E.nil ?_
    refine wp_ret ?_
    refine bodyPost_ret (res_tmp Tryd.results28 (hF.at 0 rfl)) hF.dfr ?_
    refine ⟨rv_int ?_, bel⟩
    unfold kar
    rw [if_pos (by omega)]
  · refine E.opv hF (r_bin (hF.at 0 rfl) ev_c eg_scalar (bi_int (ic_lss (c := false) (dec_ff hc1)) (by simp))) rfl rfl rfl rfl fun a hF => ?_
    refine E.opv hF (r_move (hF.at 0 rfl)) rfl rfl rfl rfl fun a hF => ?_
    refine E.opvg hF (r_move (hF.at 4 rfl)) (wanted_by rfl rfl (hF.at 0 rfl) rfl) rfl rfl rfl fun a hF => ?_
    by_cases hc2 : 60 < n
    · refine E.opvg hF (r_bin (hF.at 0 rfl) ev_c eg_scalar (bi_int (ic_gtr (c := true) (dec_tt hc2)) (by simp))) (wanted_by rfl rfl (hF.at 1 rfl) rfl) rfl rfl rfl fun a hF => ?_
      refine E.opv hF (r_pick_f (hF.at 2 rfl) (hF.at 0 rfl)) rfl rfl rfl rfl fun a hF => ?_
      refine E.nil ?_
      refine wp_cond_true (hF.at 0 rfl) ?_
      refine wp_seq ?_
      refine E.seq ?_
      refine E.opset (L' := [(2, .int .i64 0), (10, .bool true), (9, .bool true), (8, .int .i64 n), (7, .bool false), (6, .bool false), (5, .int .i64 n), (0, .int .i64 n)]) hF (r_assign ev_c) rfl rfl rfl rfl fun a hF => ?_
      refine E.nil ?_
      refine wp_ret ?_
      refine bodyPost_ret (res_tmp Tryd.results28 (hF.at 0 rfl)) hF.dfr ?_
      refine ⟨rv_int ?_, bel⟩
      unfold kar
      rw [if_pos (by omega)]
    · refine E.opvg hF (r_bin (hF.at 0 rfl) ev_c eg_scalar (bi_int (ic_gtr (c := false) (dec_ff hc2)) (by simp))) (wanted_by rfl rfl (hF.at 1 rfl) rfl) rfl rfl rfl fun a hF => ?_
      refine E.opv hF (r_pick_f (hF.at 2 rfl) (hF.at 0 rfl)) rfl rfl rfl rfl fun a hF => ?_
      refine E.nil ?_
      refine wp_cond_false (hF.at 0 rfl) ?_
      refine wp_skip ?_
      refine E.norm ?_
      refine wp_seq ?_
      refine E.seq ?_
      obtain ⟨gl4, w3, hr, bb, ha5⟩ := bs_a1 w
      replace ha5 := ha5.rebase bel.size
      refine E.opv hF (r_buildSlice ps_k1 hr) rfl rfl rfl rfl fun a hF => ?_
      clear hr
      replace bel := below_to bel bb
      clear bb
      refine E.opv hF (r_assign (hF.at 0 rfl)) rfl rfl rfl rfl fun a hF => ?_
      refine E.nil ?_
      refine wp_seq ?_
      refine wp_seq ?_
      refine E.seq ?_
      refine E.opv hF (r_assign ev_c) rfl rfl rfl rfl fun a hF => ?_
      refine E.nil ?_
      refine wp_block ?_
      refine E.loop (fun mq a wv => ∃ (i : Nat) (la : Option Addr) (ln : Nat) (lc : Nat), i ≤ 8 ∧ Fr 26 a [(4, .int .i64 ((i : Nat) : Int)), (3, .slice la ln lc), (2, .int .i64 0), (0, .int .i64 n)] ∧ Below w.heap.size w wv ∧ AccK wv .i64 3 w.heap.size (.slice la ln lc) (karL i) ∧ mq = 8 - i) (8 - 0) ?_ ?_
      · exact ⟨0, (some ⟨gl4, 0, none⟩), 1, 1, (by omega), Fr.sub (L' := [(4, .int .i64 ((0 : Nat) : Int)), (3, .slice (some ⟨gl4, 0, none⟩) 1 1), (2, .int .i64 0), (0, .int .i64 n)]) hF (by intro p hp; simp only [List.mem_cons, List.not_mem_nil, or_false] at hp ⊢; rcases hp with rfl | rfl | rfl | rfl <;> simp), bel, ha5, rfl⟩
      · rintro mq a w6 ⟨i, la, ln, lc, hi, hF, bel, hacc, hm⟩
        by_cases hi8 : i < 8
        · refine wp_seq ?_
          refine wp_seq ?_
          refine E.seq ?_
          refine E.opv hF (r_move (hF.at 0 rfl)) rfl rfl rfl rfl fun a hF => ?_
          refine E.opv hF (r_bin (hF.at 0 rfl) ev_c eg_scalar (bi_int (ic_lss (c := true) (dec_tt (by omega))) (by simp))) rfl rfl rfl rfl fun a hF => ?_
          refine E.nil ?_
          refine wp_cond_true (hF.at 0 rfl) ?_
          refine wp_skip ?_
          refine E.norm ?_
          refine wp_seq ?_
          refine wp_block ?_
          refine E.seq ?_
          refine E.opv hF (r_move (hF.at 3 rfl)) rfl rfl rfl rfl fun a hF => ?_
          obtain ⟨gl8, w7, hr, bb, ogl8⟩ := bs_k7 w6
          refine E.opv hF (r_buildSlice ps_k7 hr) rfl rfl rfl rfl fun a hF => ?_
          clear hr
          replace hacc := hacc.below bb
          replace bel := below_to bel bb
          clear bb
          obtain ⟨la9, ln10, lc11, w12, hr, ha13, bb⟩ := appI hacc (n := 7) rfl ogl8 (by decide) (by decide) (by rw [karL_len]; omega) bel.size
          refine E.opv hF (r_builtin (map2 (hF.at 1 rfl) (hF.at 0 rfl)) hr) rfl rfl rfl rfl fun a hF => ?_
          clear hr
          replace bel := bel.trans bb
          clear bb
          refine E.opset (L' := [(3, .slice la9 ln10 lc11), (18, .slice la9 ln10 lc11), (17, .slice (some ⟨gl8, 0, none⟩) 7 7), (16, .slice la ln lc), (13, .bool true), (12, .int .i64 ((i : Nat) : Int)), (4, .int .i64 ((i : Nat) : Int)), (2, .int .i64 0), (0, .int .i64 n)]) hF (r_assign (hF.at 0 rfl)) rfl rfl rfl rfl fun a hF => ?_
          refine E.nil0 ?_
          refine E.blk ?_
          refine E.norm ?_
          refine E.seq ?_
          refine E.opv hF (r_move (hF.at 6 rfl)) rfl rfl rfl rfl fun a hF => ?_
          refine E.opv hF (r_bin (hF.at 0 rfl) ev_c eg_scalar (ia_add (by omega) (by omega))) rfl rfl rfl rfl fun a hF => ?_
          refine E.opset (L' := [(4, .int .i64 (((i : Nat) : Int) + 1)), (15, .int .i64 (((i : Nat) : Int) + 1)), (14, .int .i64 ((i : Nat) : Int)), (3, .slice la9 ln10 lc11), (18, .slice la9 ln10 lc11), (17, .slice (some ⟨gl8, 0, none⟩) 7 7), (16, .slice la ln lc), (13, .bool true), (12, .int .i64 ((i : Nat) : Int)), (2, .int .i64 0), (0, .int .i64 n)]) hF (r_assign (hF.at 0 rfl)) rfl rfl rfl rfl fun a hF => ?_
          refine E.nil0 ?_
          refine E.norm ?_
          exact ⟨8 - (i + 1), by omega, ⟨(i + 1), la9, ln10, lc11, (by omega), (by rw [show ((i + 1 : Nat) : Int) = ((i : Nat) : Int) + 1 from by omega]; exact Fr.sub (L' := [(4, .int .i64 (((i : Nat) : Int) + 1)), (3, .slice la9 ln10 lc11), (2, .int .i64 0), (0, .int .i64 n)]) hF (by intro p hp; simp only [List.mem_cons, List.not_mem_nil, or_false] at hp ⊢; rcases hp with rfl | rfl | rfl | rfl <;> simp)), bel, (ha13.castM (karL_succ i)), rfl⟩⟩
        · refine wp_seq ?_
          refine wp_seq ?_
          refine E.seq ?_
          refine E.opv hF (r_move (hF.at 0 rfl)) rfl rfl rfl rfl fun a hF => ?_
          refine E.opv hF (r_bin (hF.at 0 rfl) ev_c eg_scalar (bi_int (ic_lss (c := false) (dec_ff (by omega))) (by simp))) rfl rfl rfl rfl fun a hF => ?_
          refine E.nil ?_
          refine wp_cond_false (hF.at 0 rfl) ?_
          refine wp_exit ?_
          refine E.past ?_
          refine E.past ?_
          refine E.out (id := 0) ?_
          refine E.norm ?_
          refine wp_seq ?_
          refine E.seq ?_
          refine E.opv hF (r_move (hF.at 3 rfl)) rfl rfl rfl rfl fun a hF => ?_
          obtain ⟨gl8, w7, hr, bb, ogl8⟩ := bs_k3 w6
          refine E.opv hF (r_buildSlice ps_k3 hr) rfl rfl rfl rfl fun a hF => ?_
          clear hr
          replace hacc := hacc.below bb
          replace bel := below_to bel bb
          clear bb
          obtain ⟨la9, ln10, lc11, w12, hr, ha13, bb⟩ := appI hacc (n := 3) rfl ogl8 (by decide) (by decide) (by rw [karL_len]; omega) bel.size
          refine E.opv hF (r_builtin (map2 (hF.at 1 rfl) (hF.at 0 rfl)) hr) rfl rfl rfl rfl fun a hF => ?_
          clear hr
          replace bel := bel.trans bb
          clear bb
          refine E.opv hF (r_move (hF.at 8 rfl)) rfl rfl rfl rfl fun a hF => ?_
          refine E.opv hF (r_bin (hF.at 0 rfl) ev_c eg_scalar (ia_sub (by omega) (by omega))) rfl rfl rfl rfl fun a hF => ?_
          have e8 : i = 8 := by omega
          rw [e8] at ha13
          obtain ⟨gr, cr, er, orow, hcr, _⟩ := ha13.row (i := (n - 1).toNat) (by rw [List.length_append, karL_len]; simp; omega)
          have hlen := ha13.len
          rw [List.length_append, karL_len] at hlen
          simp only [List.length_cons, List.length_nil] at hlen
          rw [er] at hF
          refine E.opv hF (r_index (hF.at 2 rfl) (hF.at 0 rfl) (ix_ints2 (by omega) (by omega))) rfl rfl rfl rfl fun a hF => ?_
          refine E.opv hF (r_load (hF.at 0 rfl) (ldb_int (v := .int .i64 ((lg (karL 8 ++ [8, 9, 10]) (n - 1).toNat : Nat) : Int)) orow hcr)) rfl rfl rfl rfl fun a hF => ?_
          refine E.opset (L' := [(2, .int .i64 ((lg (karL 8 ++ [8, 9, 10]) (n - 1).toNat : Nat) : Int)), (25, .int .i64 ((lg (karL 8 ++ [8, 9, 10]) (n - 1).toNat : Nat) : Int)), (24, .pointer (some ⟨gr, (n - 1).toNat, none⟩)), (23, .int .i64 (n - 1)), (22, .int .i64 n), (21, .slice (some ⟨gr, 0, none⟩) ln10 lc11), (20, .slice (some ⟨gl8, 0, none⟩) 3 3), (19, .slice la ln lc), (13, .bool false), (12, .int .i64 ((i : Nat) : Int)), (4, .int .i64 ((i : Nat) : Int)), (3, .slice la ln lc), (0, .int .i64 n)]) hF (r_assign (hF.at 0 rfl)) rfl rfl rfl rfl fun a hF => ?_
          refine E.nil ?_
          refine wp_ret ?_
          refine bodyPost_ret (res_tmp Tryd.results28 (hF.at 0 rfl)) hF.dfr ?_
          exact ⟨rv_int (kar_at (by omega) (by omega)), bel⟩

set_option maxHeartbeats 4000000 in
theorem orbHalf_walk (n : Int) (w : World) (hT : TabD w) :
    Calls Tryd.prog 5 #[.int .i64 n] w (ValPost w (.bool true)) := by
  have bel : Below w.heap.size w w := Below.refl _ _
  refine E.enter (nt := 28) (L := [(0, .int .i64 n)]) Tryd.func5 rfl rfl rfl (args_cons (i := 0) rfl args_nil) ?_
  intro a hF
  refine wp_seq ?_
  refine E.seq ?_
  refine E.opv hF (r_assign ev_c) rfl rfl rfl rfl fun a hF => ?_
  refine E.nil ?_
  refine wp_seq ?_
  refine E.seq ?_
  refine E.opv hF (r_move (hF.at 1 rfl)) rfl rfl rfl rfl fun a hF => ?_
  refine E.call hF (r_call Tryd.func27 en27.1 en27.2 (map1 (hF.at 0 rfl))) (oKarana_any n _) rfl rfl rfl rfl ?_
  rintro e w1 ⟨rfl, bb⟩
  refine ⟨_, rfl, ?_⟩
  intro a hF
  replace bel := below_to bel bb
  clear bb
  refine E.opv hF (r_assign (hF.at 0 rfl)) rfl rfl rfl rfl fun a hF => ?_
  refine E.nil ?_
  refine wp_seq ?_
  refine E.seq ?_
  refine E.call hF (r_call Tryd.func8 en8.1 en8.2 map0) (awake12_any _ (hT.below bel)) rfl rfl rfl rfl ?_
  rintro e w2 ⟨rfl, bb⟩
  refine ⟨_, rfl, ?_⟩
  intro a hF
  replace bel := below_to bel bb
  clear bb
  refine E.opv hF (r_move (hF.at 0 rfl)) rfl rfl rfl rfl fun a hF => ?_
  refine E.opvg hF (r_move (hF.at 2 rfl)) (wanted_by rfl rfl (hF.at 0 rfl) rfl) rfl rfl rfl fun a hF => ?_
  refine E.opvg hF (r_move (hF.at 7 rfl)) (wanted_by rfl rfl (hF.at 1 rfl) rfl) rfl rfl rfl fun a hF => ?_
  refine E.callg hF (r_call Tryd.func28 en28.1 en28.2 (map1 (hF.at 0 rfl))) (rKarana_any n _) (wanted_by rfl rfl (hF.at 2 rfl) rfl) rfl rfl rfl ?_
  rintro e w3 ⟨rfl, bb⟩
  refine ⟨_, rfl, ?_⟩
  intro a hF
  replace bel := below_to bel bb
  clear bb
  refine E.opvg hF (r_bin (hF.at 2 rfl) (hF.at 0 rfl) eg_scalar (bi_int (ic_eql (c := true) (by simp)) (by simp))) (wanted_by rfl rfl (hF.at 3 rfl) rfl) rfl rfl rfl fun a hF => ?_
  refine E.opv hF (r_pick_t (hF.at 4 rfl) (hF.at 0 rfl)) rfl rfl rfl rfl fun a hF => ?_
  refine E.opv hF (r_move (hF.at 0 rfl)) rfl rfl rfl rfl fun a hF => ?_
  refine E.opvg hF (r_move (hF.at 12 rfl)) (wanted_by rfl rfl (hF.at 0 rfl) rfl) rfl rfl rfl fun a hF => ?_
  by_cases hc4 : n < 2
  · refine E.opvg hF (r_bin (hF.at 0 rfl) ev_c eg_scalar (bi_int (ic_lss (c := true) (dec_tt hc4)) (by simp))) (wanted_by rfl rfl (hF.at 1 rfl) rfl) rfl rfl rfl fun a hF => ?_
    refine E.opvg hF (r_move (hF.at 0 rfl)) (wanted_by rfl rfl (hF.at 2 rfl) rfl) rfl rfl rfl fun a hF => ?_
    refine E.unwanted hF (wanted_by rfl rfl (hF.at 0 rfl) rfl) rfl rfl rfl fun a hF => ?_
    refine E.unwanted hF (wanted_by rfl rfl (hF.at 1 rfl) rfl) rfl rfl rfl fun a hF => ?_
    refine E.opvg hF (r_pick_t (hF.at 2 rfl) ev_c) (wanted_by rfl rfl (hF.at 5 rfl) rfl) rfl rfl rfl fun a hF => ?_
    refine E.opvg hF (r_move (hF.at 0 rfl)) (wanted_by rfl rfl (hF.at 6 rfl) rfl) rfl rfl rfl fun a hF => ?_
    refine E.unwanted hF (wanted_by rfl rfl (hF.at 0 rfl) rfl) rfl rfl rfl fun a hF => ?_
    refine E.unwanted hF (wanted_by rfl rfl (hF.at 1 rfl) rfl) rfl rfl rfl fun a hF => ?_
    refine E.unwanted hF (wanted_by rfl rfl (hF.at 2 rfl) rfl) rfl rfl rfl fun a hF => ?_
    refine E.unwanted hF (wanted_by rfl rfl (hF.at 3 rfl) rfl) rfl rfl rfl fun a hF => ?_
    refine E.unwanted hF (wanted_by rfl rfl (hF.at 4 rfl) rfl) rfl rfl rfl fun a hF => ?_
    refine E.opvg hF (r_pick_t (hF.at 5 rfl) ev_c) (wanted_by rfl rfl (hF.at 12 rfl) rfl) rfl rfl rfl fun a hF => ?_
    refine E.opv hF (r_pick_t (hF.at 13 rfl) (hF.at 0 rfl)) rfl rfl rfl rfl fun a hF => ?_
    refine E.opset (L' := [(2, .bool true), (27, .bool true), (26, .bool true), (25, undef), (24, undef), (23, undef), (22, undef), (21, undef), (20, .bool true), (19, .bool true), (18, undef), (17, undef), (16, .bool true), (15, .bool true), (14, .int .i64 n), (13, .bool true), (12, .bool true), (11, .bool true), (10, .int .i64 (kar n)), (9, .int .i64 n), (8, .int .i64 (kar n)), (7, .bool true), (6, .bool true), (3, .int .i64 (kar n)), (5, .int .i64 (kar n)), (4, .int .i64 n), (0, .int .i64 n)]) hF (r_assign (hF.at 0 rfl)) rfl rfl rfl rfl fun a hF => ?_
    refine E.nil ?_
    refine wp_ret ?_
    refine bodyPost_ret (res_tmp Tryd.results5 (hF.at 0 rfl)) hF.dfr ?_
    exact ⟨rfl, bel⟩
  · refine E.opvg hF (r_bin (hF.at 0 rfl) ev_c eg_scalar (bi_int (ic_lss (c := false) (dec_ff hc4)) (by simp))) (wanted_by rfl rfl (hF.at 1 rfl) rfl) rfl rfl rfl fun a hF => ?_
    refine E.opvg hF (r_move (hF.at 0 rfl)) (wanted_by rfl rfl (hF.at 2 rfl) rfl) rfl rfl rfl fun a hF => ?_
    refine E.opvg hF (r_move (hF.at 15 rfl)) (wanted_by rfl rfl (hF.at 0 rfl) rfl) rfl rfl rfl fun a hF => ?_
    by_cases hc5 : 50 < n
    · refine E.opvg hF (r_bin (hF.at 0 rfl) ev_c eg_scalar (bi_int (ic_gtr (c := true) (dec_tt hc5)) (by simp))) (wanted_by rfl rfl (hF.at 1 rfl) rfl) rfl rfl rfl fun a hF => ?_
      refine E.opvg hF (r_pick_f (hF.at 2 rfl) (hF.at 0 rfl)) (wanted_by rfl rfl (hF.at 5 rfl) rfl) rfl rfl rfl fun a hF => ?_
      refine E.opvg hF (r_move (hF.at 0 rfl)) (wanted_by rfl rfl (hF.at 6 rfl) rfl) rfl rfl rfl fun a hF => ?_
      refine E.unwanted hF (wanted_by rfl rfl (hF.at 0 rfl) rfl) rfl rfl rfl fun a hF => ?_
      refine E.unwanted hF (wanted_by rfl rfl (hF.at 1 rfl) rfl) rfl rfl rfl fun a hF => ?_
      refine E.unwanted hF (wanted_by rfl rfl (hF.at 2 rfl) rfl) rfl rfl rfl fun a hF => ?_
      refine E.unwanted hF (wanted_by rfl rfl (hF.at 3 rfl) rfl) rfl rfl rfl fun a hF => ?_
      refine E.unwanted hF (wanted_by rfl rfl (hF.at 4 rfl) rfl) rfl rfl rfl fun a hF => ?_
      refine E.opvg hF (r_pick_t (hF.at 5 rfl) ev_c) (wanted_by rfl rfl (hF.at 12 rfl) rfl) rfl rfl rfl fun a hF => ?_
      refine E.opv hF (r_pick_t (hF.at 13 rfl) (hF.at 0 rfl)) rfl rfl rfl rfl fun a hF => ?_
      refine E.opset (L' := [(2, .bool true), (27, .bool true), (26, .bool true), (25, undef), (24, undef), (23, undef), (22, undef), (21, undef), (20, .bool true), (19, .bool true), (18, .bool true), (17, .int .i64 n), (16, .bool false), (15, .bool false), (14, .int .i64 n), (13, .bool true), (12, .bool true), (11, .bool true), (10, .int .i64 (kar n)), (9, .int .i64 n), (8, .int .i64 (kar n)), (7, .bool true), (6, .bool true), (3, .int .i64 (kar n)), (5, .int .i64 (kar n)), (4, .int .i64 n), (0, .int .i64 n)]) hF (r_assign (hF.at 0 rfl)) rfl rfl rfl rfl fun a hF => ?_
      refine E.nil ?_
      refine wp_ret ?_
      refine bodyPost_ret (res_tmp Tryd.results5 (hF.at 0 rfl)) hF.dfr ?_
      exact ⟨rfl, bel⟩
    · refine E.opvg hF (r_bin (hF.at 0 rfl) ev_c eg_scalar (bi_int (ic_gtr (c := false) (dec_ff hc5)) (by simp))) (wanted_by rfl rfl (hF.at 1 rfl) rfl) rfl rfl rfl fun a hF => ?_
      refine E.opvg hF (r_pick_f (hF.at 2 rfl) (hF.at 0 rfl)) (wanted_by rfl rfl (hF.at 5 rfl) rfl) rfl rfl rfl fun a hF => ?_
      refine E.opvg hF (r_move (hF.at 0 rfl)) (wanted_by rfl rfl (hF.at 6 rfl) rfl) rfl rfl rfl fun a hF => ?_
      refine E.opvg hF (r_move (hF.at 19 rfl)) (wanted_by rfl rfl (hF.at 0 rfl) rfl) rfl rfl rfl fun a hF => ?_
      refine E.opvg hF (r_bin (hF.at 0 rfl) ev_c eg_scalar (ia_add (by omega) (by omega))) (wanted_by rfl rfl (hF.at 1 rfl) rfl) rfl rfl rfl fun a hF => ?_
      refine E.callg hF (r_call Tryd.func27 en27.1 en27.2 (map1 (hF.at 0 rfl))) (oKarana_any (n + 7) _) (wanted_by rfl rfl (hF.at 2 rfl) rfl) rfl rfl rfl ?_
      rintro e w6 ⟨rfl, bb⟩
      refine ⟨_, rfl, ?_⟩
      intro a hF
      replace bel := below_to bel bb
      clear bb
      refine E.opvg hF (r_move (hF.at 18 rfl)) (wanted_by rfl rfl (hF.at 3 rfl) rfl) rfl rfl rfl fun a hF => ?_
      refine E.opvg hF (r_bin (hF.at 1 rfl) (hF.at 0 rfl) eg_scalar (bi_int (ic_eql (c := true) (dec_tt (kar_seven (by omega) (by omega)))) (by simp))) (wanted_by rfl rfl (hF.at 4 rfl) rfl) rfl rfl rfl fun a hF => ?_
      refine E.opvg hF (r_pick_f (hF.at 5 rfl) (hF.at 0 rfl)) (wanted_by rfl rfl (hF.at 12 rfl) rfl) rfl rfl rfl fun a hF => ?_
      refine E.opv hF (r_pick_t (hF.at 13 rfl) (hF.at 0 rfl)) rfl rfl rfl rfl fun a hF => ?_
      refine E.opset (L' := [(2, .bool true), (27, .bool true), (26, .bool true), (25, .bool true), (24, .int .i64 (kar n)), (23, .int .i64 (kar (n + 7))), (22, .int .i64 (n + 7)), (21, .int .i64 n), (20, .bool false), (19, .bool false), (18, .bool false), (17, .int .i64 n), (16, .bool false), (15, .bool false), (14, .int .i64 n), (13, .bool true), (12, .bool true), (11, .bool true), (10, .int .i64 (kar n)), (9, .int .i64 n), (8, .int .i64 (kar n)), (7, .bool true), (6, .bool true), (3, .int .i64 (kar n)), (5, .int .i64 (kar n)), (4, .int .i64 n), (0, .int .i64 n)]) hF (r_assign (hF.at 0 rfl)) rfl rfl rfl rfl fun a hF => ?_
      refine E.nil ?_
      refine wp_ret ?_
      refine bodyPost_ret (res_tmp Tryd.results5 (hF.at 0 rfl)) hF.dfr ?_
      exact ⟨rfl, bel⟩

end Go.Proofs.YtmpdbkdijfpbbaaDoor
