/- One date in both calendars: the centuries. -/
import Derived.Test.YtcgbllbhagijjaaDoorGN
import Derived.Test.YtcgbllbhagijjaaDoorGP
import Derived.Lib.LaidTab
namespace Go.Proofs.YtcgbllbhagijjaaDoor
open Go.RowKit
set_option maxRecDepth 100000
set_option linter.unusedVariables false

theorem mlen_cj {y m : Int} (hm : m ≠ 2) : mlen (leapC y) m = mlen (leapJ y) m := (mlen_ne2 (l := leapC y) hm).symm.trans (mlen_ne2 (l := leapJ y) hm)
theorem leap_cj {y : Int} (h : leapC y = true) : leapJ y = true := by
  unfold leapC at h; unfold leapJ
  have h := of_decide_eq_true h
  exact decide_eq_true (by omega)
theorem cum_at (l : Bool) (m : Int) : cum l m = (367 * m - 362) / 12 + (if m ≤ 2 then 0 else if l then -1 else -2) := rfl
theorem cent_ok {y m : Int} (h3 : 1 ≤ m) : (m ≤ 2 → firstJ y + cum (leapJ y) m - (firstC y + cum (leapC y) m) = (y - 1) / 100 - (y - 1) / 400 - 2) ∧ (¬ m ≤ 2 → firstJ y + cum (leapJ y) m - (firstC y + cum (leapC y) m) = y / 100 - y / 400 - 2) := by
  constructor
  · intro h
    rw [cum_at, cum_at, if_pos h, if_pos h]
    unfold firstJ firstC
    omega
  · intro h
    rw [cum_at, cum_at, if_neg h, if_neg h]
    unfold firstC firstJ leapC leapJ
    simp only [decide_eq_true_eq]
    split <;> split <;> omega
/-- The four ways of one date in both calendars. -/
theorem cent {y m d : Int} (h1 : -8000 < y) (h2 : y < 8000) (h3 : 1 ≤ m) (h4 : m ≤ 12) (h5 : 1 ≤ d) (h6 : d ≤ 31) :
    (fixE calJ y m d = 0 ∧ fixE calC y m d = 0 ∧ (m ≤ 2 → fixN calJ y m d - fixN calC y m d = (y - 1) / 100 - (y - 1) / 400 - 2) ∧ (2 < m → fixN calJ y m d - fixN calC y m d = y / 100 - y / 400 - 2)) ∨
    (fixE calJ y m d = 4 ∧ fixE calC y m d = 4 ∧ 28 < d) ∨ (fixE calJ y m d = 0 ∧ fixE calC y m d = 4 ∧ m = 2 ∧ d = 29) := by
  have c1 := cum_bd (leapC y) (m := m) (by omega) (by omega)
  have c2 := cum_bd (leapJ y) (m := m) (by omega) (by omega)
  have a1 : -2930000 ≤ firstC y ∧ firstC y ≤ 2930000 := by unfold firstC; omega
  have a2 : -2930000 ≤ firstJ y ∧ firstJ y ≤ 2930000 := by unfold firstJ; omega
  have p1 := mlen_pos (leapC y) h3 h4
  have p2 := mlen_pos (leapJ y) h3 h4
  have eJ : ∀ v : Val (calJ.leap y) m d, fixN calJ y m d = firstJ y + cum (leapJ y) m + d - 1 ∧ fixE calJ y m d = 0 := fun v => fix_good v rfl (by omega) (by omega) (by show _ ≤ firstJ y + cum (leapJ y) m + d - 1; omega) (by show firstJ y + cum (leapJ y) m + d - 1 ≤ _; omega)
  have eC : ∀ v : Val (calC.leap y) m d, fixN calC y m d = firstC y + cum (leapC y) m + d - 1 ∧ fixE calC y m d = 0 := fun v => fix_good v rfl (by omega) (by omega) (by show _ ≤ firstC y + cum (leapC y) m + d - 1; omega) (by show firstC y + cum (leapC y) m + d - 1 ≤ _; omega)
  by_cases hc : d ≤ mlen (leapC y) m
  · have vc : Val (calC.leap y) m d := ⟨h3, h4, h5, hc⟩
    have hj : d ≤ mlen (leapJ y) m := by
      by_cases hm : m = 2
      · subst hm
        cases hl : leapC y with
        | true => rw [hl] at hc; rw [leap_cj hl]; exact hc
        | false => rw [hl] at hc; exact Int.le_trans hc (by cases leapJ y <;> decide)
      · rw [← mlen_cj hm]; exact hc
    have vj : Val (calJ.leap y) m d := ⟨h3, h4, h5, hj⟩
    have e1 := eC vc
    have e2 := eJ vj
    have k := cent_ok (y := y) h3
    refine .inl ⟨e2.2, e1.2, fun h => ?_, fun h => ?_⟩
    · have := k.1 h; rw [e1.1, e2.1]; omega
    · have := k.2 (by omega); rw [e1.1, e2.1]; omega
  · have bC := (fix_bad (c := calC) (y := y) (m := m) (d := d) (by omega) (fun v => hc v.2.2.2)).2.symm
    by_cases hj : d ≤ mlen (leapJ y) m
    · have e2 := eJ ⟨h3, h4, h5, hj⟩
      have hm : m = 2 := by
        by_cases hm : m = 2
        · exact hm
        · rw [mlen_cj hm] at hc; omega
      subst hm
      have : mlen (leapJ y) 2 ≤ 29 := by cases leapJ y <;> decide
      exact .inr (.inr ⟨e2.2, bC, rfl, by omega⟩)
    · have bJ := (fix_bad (c := calJ) (y := y) (m := m) (d := d) (by omega) (fun v => hj v.2.2.2)).2.symm
      exact .inr (.inl ⟨bJ, bC, by omega⟩)
theorem tabsC_of {w : World} (h : Lib.TabIs Tryd.prog w "ephemeris/civil.lengths" .i64 [31, 28, 31, 30, 31, 30, 31, 31, 30, 31, 30, 31]) : TabC w := fun i hi => h.cell (by kernel_rfl) i hi
theorem tabsJ_of {w : World} (h : Lib.TabIs Tryd.prog w "ephemeris/julian.lengths" .i64 [31, 28, 31, 30, 31, 30, 31, 31, 30, 31, 30, 31]) : TabJ w := fun i hi => h.cell (by kernel_rfl) i hi
set_option maxHeartbeats 4000000 in
theorem down100_any (x : Int) (w : World) (h0 : -10000 ≤ x) (h1 : x ≤ 10000) :
    Calls Tryd.prog 37 #[.int .i64 x, .int .i64 100] w (ValPost w (.int .i64 (x / 100))) := by
  have bel : Below w.heap.size w w := Below.refl _ _
  refine E.enter (nt := 16) (L := [(0, .int .i64 x), (1, .int .i64 100)]) Tryd.func37 rfl rfl rfl (args_cons (i := 0) rfl (args_cons (i := 1) rfl args_nil)) ?_
  intro a hF
  refine wp_seq ?_
  refine E.seq ?_
  refine E.opv hF (r_assign ev_c) rfl rfl rfl rfl fun a hF => ?_
  refine E.nil ?_
  refine wp_seq ?_
  refine E.seq ?_
  refine E.opv hF (r_move (hF.at 1 rfl)) rfl rfl rfl rfl fun a hF => ?_
  refine E.opv hF (r_move (hF.at 2 rfl)) rfl rfl rfl rfl fun a hF => ?_
  refine E.opv hF (r_move (hF.at 4 rfl)) rfl rfl rfl rfl fun a hF => ?_
  refine E.opv hF (r_bin (hF.at 1 rfl) (hF.at 0 rfl) eg_scalar (id_rem (a := x) (b := 100) (by omega))) rfl rfl rfl rfl fun a hF => ?_
  refine E.opv hF (r_move (hF.at 6 rfl)) rfl rfl rfl rfl fun a hF => ?_
  refine E.opv hF (r_bin (hF.at 1 rfl) (hF.at 0 rfl) eg_scalar (ia_add (by omega) (by omega))) rfl rfl rfl rfl fun a hF => ?_
  refine E.opv hF (r_move (hF.at 8 rfl)) rfl rfl rfl rfl fun a hF => ?_
  refine E.opv hF (r_bin (hF.at 1 rfl) (hF.at 0 rfl) eg_scalar (id_rem (a := (if 0 ≤ x then x % 100 else -(-x % 100)) + 100) (b := 100) (by omega))) rfl rfl rfl rfl fun a hF => ?_
  refine E.opv hF (r_bin (hF.at 7 rfl) (hF.at 0 rfl) eg_scalar (ia_sub (by omega) (by omega))) rfl rfl rfl rfl fun a hF => ?_
  refine E.opv hF (r_move (hF.at 11 rfl)) rfl rfl rfl rfl fun a hF => ?_
  refine E.opv hF (r_bin (hF.at 1 rfl) (hF.at 0 rfl) eg_scalar (id_quo (a := x - (if 0 ≤ (if 0 ≤ x then x % 100 else -(-x % 100)) + 100 then ((if 0 ≤ x then x % 100 else -(-x % 100)) + 100) % 100 else -(-((if 0 ≤ x then x % 100 else -(-x % 100)) + 100) % 100))) (b := 100) (by omega) (by omega) (by omega))) rfl rfl rfl rfl fun a hF => ?_
  refine E.opset (L' := [(4, .int .i64 (if 0 ≤ x - (if 0 ≤ (if 0 ≤ x then x % 100 else -(-x % 100)) + 100 then ((if 0 ≤ x then x % 100 else -(-x % 100)) + 100) % 100 else -(-((if 0 ≤ x then x % 100 else -(-x % 100)) + 100) % 100)) then (x - (if 0 ≤ (if 0 ≤ x then x % 100 else -(-x % 100)) + 100 then ((if 0 ≤ x then x % 100 else -(-x % 100)) + 100) % 100 else -(-((if 0 ≤ x then x % 100 else -(-x % 100)) + 100) % 100))) / 100 else -(-(x - (if 0 ≤ (if 0 ≤ x then x % 100 else -(-x % 100)) + 100 then ((if 0 ≤ x then x % 100 else -(-x % 100)) + 100) % 100 else -(-((if 0 ≤ x then x % 100 else -(-x % 100)) + 100) % 100))) / 100))), (15, .int .i64 (if 0 ≤ x - (if 0 ≤ (if 0 ≤ x then x % 100 else -(-x % 100)) + 100 then ((if 0 ≤ x then x % 100 else -(-x % 100)) + 100) % 100 else -(-((if 0 ≤ x then x % 100 else -(-x % 100)) + 100) % 100)) then (x - (if 0 ≤ (if 0 ≤ x then x % 100 else -(-x % 100)) + 100 then ((if 0 ≤ x then x % 100 else -(-x % 100)) + 100) % 100 else -(-((if 0 ≤ x then x % 100 else -(-x % 100)) + 100) % 100))) / 100 else -(-(x - (if 0 ≤ (if 0 ≤ x then x % 100 else -(-x % 100)) + 100 then ((if 0 ≤ x then x % 100 else -(-x % 100)) + 100) % 100 else -(-((if 0 ≤ x then x % 100 else -(-x % 100)) + 100) % 100))) / 100))), (14, .int .i64 100), (13, .int .i64 (x - (if 0 ≤ (if 0 ≤ x then x % 100 else -(-x % 100)) + 100 then ((if 0 ≤ x then x % 100 else -(-x % 100)) + 100) % 100 else -(-((if 0 ≤ x then x % 100 else -(-x % 100)) + 100) % 100)))), (12, .int .i64 (if 0 ≤ (if 0 ≤ x then x % 100 else -(-x % 100)) + 100 then ((if 0 ≤ x then x % 100 else -(-x % 100)) + 100) % 100 else -(-((if 0 ≤ x then x % 100 else -(-x % 100)) + 100) % 100))), (11, .int .i64 100), (10, .int .i64 ((if 0 ≤ x then x % 100 else -(-x % 100)) + 100)), (9, .int .i64 100), (8, .int .i64 (if 0 ≤ x then x % 100 else -(-x % 100))), (7, .int .i64 100), (6, .int .i64 x), (5, .int .i64 x), (0, .int .i64 x), (1, .int .i64 100)]) hF (r_assign (hF.at 0 rfl)) rfl rfl rfl rfl fun a hF => ?_
  refine E.nil ?_
  refine wp_ret ?_
  refine bodyPost_ret (res_tmp Tryd.results37 (hF.at 0 rfl)) hF.dfr ?_
  refine ⟨rv_int ?_, bel⟩
  omega

set_option maxHeartbeats 4000000 in
theorem down400_any (x : Int) (w : World) (h0 : -10000 ≤ x) (h1 : x ≤ 10000) :
    Calls Tryd.prog 37 #[.int .i64 x, .int .i64 400] w (ValPost w (.int .i64 (x / 400))) := by
  have bel : Below w.heap.size w w := Below.refl _ _
  refine E.enter (nt := 16) (L := [(0, .int .i64 x), (1, .int .i64 400)]) Tryd.func37 rfl rfl rfl (args_cons (i := 0) rfl (args_cons (i := 1) rfl args_nil)) ?_
  intro a hF
  refine wp_seq ?_
  refine E.seq ?_
  refine E.opv hF (r_assign ev_c) rfl rfl rfl rfl fun a hF => ?_
  refine E.nil ?_
  refine wp_seq ?_
  refine E.seq ?_
  refine E.opv hF (r_move (hF.at 1 rfl)) rfl rfl rfl rfl fun a hF => ?_
  refine E.opv hF (r_move (hF.at 2 rfl)) rfl rfl rfl rfl fun a hF => ?_
  refine E.opv hF (r_move (hF.at 4 rfl)) rfl rfl rfl rfl fun a hF => ?_
  refine E.opv hF (r_bin (hF.at 1 rfl) (hF.at 0 rfl) eg_scalar (id_rem (a := x) (b := 400) (by omega))) rfl rfl rfl rfl fun a hF => ?_
  refine E.opv hF (r_move (hF.at 6 rfl)) rfl rfl rfl rfl fun a hF => ?_
  refine E.opv hF (r_bin (hF.at 1 rfl) (hF.at 0 rfl) eg_scalar (ia_add (by omega) (by omega))) rfl rfl rfl rfl fun a hF => ?_
  refine E.opv hF (r_move (hF.at 8 rfl)) rfl rfl rfl rfl fun a hF => ?_
  refine E.opv hF (r_bin (hF.at 1 rfl) (hF.at 0 rfl) eg_scalar (id_rem (a := (if 0 ≤ x then x % 400 else -(-x % 400)) + 400) (b := 400) (by omega))) rfl rfl rfl rfl fun a hF => ?_
  refine E.opv hF (r_bin (hF.at 7 rfl) (hF.at 0 rfl) eg_scalar (ia_sub (by omega) (by omega))) rfl rfl rfl rfl fun a hF => ?_
  refine E.opv hF (r_move (hF.at 11 rfl)) rfl rfl rfl rfl fun a hF => ?_
  refine E.opv hF (r_bin (hF.at 1 rfl) (hF.at 0 rfl) eg_scalar (id_quo (a := x - (if 0 ≤ (if 0 ≤ x then x % 400 else -(-x % 400)) + 400 then ((if 0 ≤ x then x % 400 else -(-x % 400)) + 400) % 400 else -(-((if 0 ≤ x then x % 400 else -(-x % 400)) + 400) % 400))) (b := 400) (by omega) (by omega) (by omega))) rfl rfl rfl rfl fun a hF => ?_
  refine E.opset (L' := [(4, .int .i64 (if 0 ≤ x - (if 0 ≤ (if 0 ≤ x then x % 400 else -(-x % 400)) + 400 then ((if 0 ≤ x then x % 400 else -(-x % 400)) + 400) % 400 else -(-((if 0 ≤ x then x % 400 else -(-x % 400)) + 400) % 400)) then (x - (if 0 ≤ (if 0 ≤ x then x % 400 else -(-x % 400)) + 400 then ((if 0 ≤ x then x % 400 else -(-x % 400)) + 400) % 400 else -(-((if 0 ≤ x then x % 400 else -(-x % 400)) + 400) % 400))) / 400 else -(-(x - (if 0 ≤ (if 0 ≤ x then x % 400 else -(-x % 400)) + 400 then ((if 0 ≤ x then x % 400 else -(-x % 400)) + 400) % 400 else -(-((if 0 ≤ x then x % 400 else -(-x % 400)) + 400) % 400))) / 400))), (15, .int .i64 (if 0 ≤ x - (if 0 ≤ (if 0 ≤ x then x % 400 else -(-x % 400)) + 400 then ((if 0 ≤ x then x % 400 else -(-x % 400)) + 400) % 400 else -(-((if 0 ≤ x then x % 400 else -(-x % 400)) + 400) % 400)) then (x - (if 0 ≤ (if 0 ≤ x then x % 400 else -(-x % 400)) + 400 then ((if 0 ≤ x then x % 400 else -(-x % 400)) + 400) % 400 else -(-((if 0 ≤ x then x % 400 else -(-x % 400)) + 400) % 400))) / 400 else -(-(x - (if 0 ≤ (if 0 ≤ x then x % 400 else -(-x % 400)) + 400 then ((if 0 ≤ x then x % 400 else -(-x % 400)) + 400) % 400 else -(-((if 0 ≤ x then x % 400 else -(-x % 400)) + 400) % 400))) / 400))), (14, .int .i64 400), (13, .int .i64 (x - (if 0 ≤ (if 0 ≤ x then x % 400 else -(-x % 400)) + 400 then ((if 0 ≤ x then x % 400 else -(-x % 400)) + 400) % 400 else -(-((if 0 ≤ x then x % 400 else -(-x % 400)) + 400) % 400)))), (12, .int .i64 (if 0 ≤ (if 0 ≤ x then x % 400 else -(-x % 400)) + 400 then ((if 0 ≤ x then x % 400 else -(-x % 400)) + 400) % 400 else -(-((if 0 ≤ x then x % 400 else -(-x % 400)) + 400) % 400))), (11, .int .i64 400), (10, .int .i64 ((if 0 ≤ x then x % 400 else -(-x % 400)) + 400)), (9, .int .i64 400), (8, .int .i64 (if 0 ≤ x then x % 400 else -(-x % 400))), (7, .int .i64 400), (6, .int .i64 x), (5, .int .i64 x), (0, .int .i64 x), (1, .int .i64 400)]) hF (r_assign (hF.at 0 rfl)) rfl rfl rfl rfl fun a hF => ?_
  refine E.nil ?_
  refine wp_ret ?_
  refine bodyPost_ret (res_tmp Tryd.results37 (hF.at 0 rfl)) hF.dfr ?_
  refine ⟨rv_int ?_, bel⟩
  omega

set_option maxHeartbeats 8000000 in
theorem centuries_walk (x z t : Int) (w : World) (hT : TabJ w) (hT2 : TabC w) :
    Calls Tryd.prog 13 #[.int .i64 x, .int .i64 z, .int .i64 t] w (ValPost w (.bool true)) := by
  have bel : Below w.heap.size w w := Below.refl _ _
  refine E.enter (nt := 83) (L := [(0, .int .i64 x), (1, .int .i64 z), (2, .int .i64 t)]) Tryd.func13 rfl rfl rfl (args_cons (i := 0) rfl (args_cons (i := 1) rfl (args_cons (i := 2) rfl args_nil))) ?_
  intro a hF
  refine wp_seq ?_
  refine E.seq ?_
  refine E.opv hF (r_assign ev_c) rfl rfl rfl rfl fun a hF => ?_
  refine E.nil ?_
  refine wp_seq ?_
  refine wp_seq ?_
  refine E.seq ?_
  refine E.call hF (r_call Tryd.func36 en36.1 en36.2 map0) (live_any _) rfl rfl rfl rfl ?_
  rintro e w1 ⟨rfl, bb⟩
  refine ⟨_, rfl, ?_⟩
  intro a hF
  replace bel := below_to bel bb
  clear bb
  refine E.opv hF (r_un (hF.at 0 rfl) (bn_not _ false rfl)) rfl rfl rfl rfl fun a hF => ?_
  refine E.nil ?_
  refine wp_cond_false (hF.at 0 rfl) ?_
  refine wp_skip ?_
  refine E.norm ?_
  refine wp_seq ?_
  refine E.seq ?_
  refine E.opv hF (r_move (hF.at 3 rfl)) rfl rfl rfl rfl fun a hF => ?_
  refine E.opv hF (r_bin (hF.at 0 rfl) ev_c eg_scalar (id_rem (a := x) (b := 8000) (by omega))) rfl rfl rfl rfl fun a hF => ?_
  refine E.opv hF (r_move (hF.at 6 rfl)) rfl rfl rfl rfl fun a hF => ?_
  refine E.opv hF (r_bin (hF.at 0 rfl) ev_c eg_scalar (id_and (n := 8) (by decide) (d := 256) (by decide) (by decide))) rfl rfl rfl rfl fun a hF => ?_
  refine E.opv hF (r_bin (hF.at 0 rfl) ev_c eg_scalar (id_rem (a := z % 256) (b := 12) (by omega))) rfl rfl rfl rfl fun a hF => ?_
  refine E.opv hF (r_bin ev_c (hF.at 0 rfl) eg_scalar (ia_add (by omega) (by omega))) rfl rfl rfl rfl fun a hF => ?_
  refine E.opset (L' := [(0, .int .i64 (if 0 ≤ x then x % 8000 else -(-x % 8000))), (19, .int .i64 (1 + (if 0 ≤ z % 256 then (z % 256) % 12 else -(-(z % 256) % 12)))), (18, .int .i64 (if 0 ≤ z % 256 then (z % 256) % 12 else -(-(z % 256) % 12))), (17, .int .i64 (z % 256)), (16, .int .i64 z), (15, .int .i64 (if 0 ≤ x then x % 8000 else -(-x % 8000))), (14, .int .i64 x), (13, .bool false), (12, .bool true), (6, .bool false), (1, .int .i64 z), (2, .int .i64 t)]) hF (r_assign (hF.at 4 rfl)) rfl rfl rfl rfl fun a hF => ?_
  refine E.opset (L' := [(1, .int .i64 (1 + (if 0 ≤ z % 256 then (z % 256) % 12 else -(-(z % 256) % 12)))), (0, .int .i64 (if 0 ≤ x then x % 8000 else -(-x % 8000))), (19, .int .i64 (1 + (if 0 ≤ z % 256 then (z % 256) % 12 else -(-(z % 256) % 12)))), (18, .int .i64 (if 0 ≤ z % 256 then (z % 256) % 12 else -(-(z % 256) % 12))), (17, .int .i64 (z % 256)), (16, .int .i64 z), (15, .int .i64 (if 0 ≤ x then x % 8000 else -(-x % 8000))), (14, .int .i64 x), (13, .bool false), (12, .bool true), (6, .bool false), (2, .int .i64 t)]) hF (r_assign (hF.at 1 rfl)) rfl rfl rfl rfl fun a hF => ?_
  obtain ⟨y, hy⟩ : ∃ y : Int, y = (if 0 ≤ x then x % 8000 else -(-x % 8000)) := ⟨_, rfl⟩
  obtain ⟨m, hm⟩ : ∃ m : Int, m = 1 + (if 0 ≤ z % 256 then (z % 256) % 12 else -(-(z % 256) % 12)) := ⟨_, rfl⟩
  have hy1 : -8000 < y := by omega
  have hy2 : y < 8000 := by omega
  have hm1 : 1 ≤ m := by omega
  have hm2 : m ≤ 12 := by omega
  replace hF : Fr 83 a [(1, .int .i64 m), (0, .int .i64 y), (6, .bool false), (2, .int .i64 t)] := by rw [hy, hm]; exact Fr.sub hF (by intro p hp; simp only [List.mem_cons, List.not_mem_nil, or_false] at hp ⊢; rcases hp with rfl | rfl | rfl | rfl <;> simp)
  clear hy hm
  refine E.nil ?_
  refine wp_seq ?_
  refine E.seq ?_
  refine E.opv hF (r_move (hF.at 3 rfl)) rfl rfl rfl rfl fun a hF => ?_
  refine E.opv hF (r_bin (hF.at 0 rfl) ev_c eg_scalar (id_and (n := 8) (by decide) (d := 256) (by decide) (by decide))) rfl rfl rfl rfl fun a hF => ?_
  refine E.opv hF (r_bin (hF.at 0 rfl) ev_c eg_scalar (id_rem (a := t % 256) (b := 31) (by omega))) rfl rfl rfl rfl fun a hF => ?_
  refine E.opv hF (r_bin ev_c (hF.at 0 rfl) eg_scalar (ia_add (by omega) (by omega))) rfl rfl rfl rfl fun a hF => ?_
  refine E.opset (L' := [(2, .int .i64 (1 + (if 0 ≤ t % 256 then (t % 256) % 31 else -(-(t % 256) % 31)))), (23, .int .i64 (1 + (if 0 ≤ t % 256 then (t % 256) % 31 else -(-(t % 256) % 31)))), (22, .int .i64 (if 0 ≤ t % 256 then (t % 256) % 31 else -(-(t % 256) % 31))), (21, .int .i64 (t % 256)), (20, .int .i64 t), (1, .int .i64 m), (0, .int .i64 y), (6, .bool false)]) hF (r_assign (hF.at 0 rfl)) rfl rfl rfl rfl fun a hF => ?_
  obtain ⟨d, hd⟩ : ∃ d : Int, d = 1 + (if 0 ≤ t % 256 then (t % 256) % 31 else -(-(t % 256) % 31)) := ⟨_, rfl⟩
  have hd1 : 1 ≤ d := by omega
  have hd2 : d ≤ 31 := by omega
  replace hF : Fr 83 a [(2, .int .i64 d), (1, .int .i64 m), (0, .int .i64 y), (6, .bool false)] := by rw [hd]; exact Fr.sub hF (by intro p hp; simp only [List.mem_cons, List.not_mem_nil, or_false] at hp ⊢; rcases hp with rfl | rfl | rfl | rfl <;> simp)
  clear hd
  have hc := cent hy1 hy2 hm1 hm2 hd1 hd2
  refine E.nil ?_
  refine wp_seq ?_
  refine E.seq ?_
  refine E.opv hF (r_move (hF.at 2 rfl)) rfl rfl rfl rfl fun a hF => ?_
  refine E.opv hF (r_move (hF.at 2 rfl)) rfl rfl rfl rfl fun a hF => ?_
  refine E.opv hF (r_move (hF.at 2 rfl)) rfl rfl rfl rfl fun a hF => ?_
  refine E.opv hF (r_build (pair3 (hF.at 2 rfl) (hF.at 1 rfl) (hF.at 0 rfl)) (bd_JDate_012 _ _ _ _)) rfl rfl rfl rfl fun a hF => ?_
  refine E.call hF (r_call Tryd.func28 en28.1 en28.2 (map1 (hF.at 0 rfl))) (cfixJ_any y m d _ (hT.below bel)) rfl rfl rfl rfl ?_
  rintro e w2 ⟨rfl, bb⟩
  refine ⟨_, rfl, ?_⟩
  intro a hF
  replace bel := below_to bel bb
  clear bb
  refine E.opv hF (r_move (hF.at 0 rfl)) rfl rfl rfl rfl fun a hF => ?_
  refine E.opv hF (r_extract (v := .int .i64 (fixN calJ y m d)) (hF.at 0 rfl) rfl) rfl rfl rfl rfl fun a hF => ?_
  refine E.opv hF (r_extract (v := .int .i64 (fixE calJ y m d)) (hF.at 1 rfl) rfl) rfl rfl rfl rfl fun a hF => ?_
  refine E.opv hF (r_assign (hF.at 1 rfl)) rfl rfl rfl rfl fun a hF => ?_
  refine E.opv hF (r_assign (hF.at 1 rfl)) rfl rfl rfl rfl fun a hF => ?_
  refine E.nil ?_
  refine wp_seq ?_
  refine E.seq ?_
  refine E.opv hF (r_move (hF.at 12 rfl)) rfl rfl rfl rfl fun a hF => ?_
  refine E.opv hF (r_move (hF.at 12 rfl)) rfl rfl rfl rfl fun a hF => ?_
  refine E.opv hF (r_move (hF.at 12 rfl)) rfl rfl rfl rfl fun a hF => ?_
  refine E.opv hF (r_build (pair3 (hF.at 2 rfl) (hF.at 1 rfl) (hF.at 0 rfl)) (bd_CDate_012 _ _ _ _)) rfl rfl rfl rfl fun a hF => ?_
  refine E.call hF (r_call Tryd.func17 en17.1 en17.2 (map1 (hF.at 0 rfl))) (cfixC_any y m d _ (hT2.below bel)) rfl rfl rfl rfl ?_
  rintro e w3 ⟨rfl, bb⟩
  refine ⟨_, rfl, ?_⟩
  intro a hF
  replace bel := below_to bel bb
  clear bb
  refine E.opv hF (r_move (hF.at 0 rfl)) rfl rfl rfl rfl fun a hF => ?_
  refine E.opv hF (r_extract (v := .int .i64 (fixN calC y m d)) (hF.at 0 rfl) rfl) rfl rfl rfl rfl fun a hF => ?_
  refine E.opv hF (r_extract (v := .int .i64 (fixE calC y m d)) (hF.at 1 rfl) rfl) rfl rfl rfl rfl fun a hF => ?_
  refine E.opv hF (r_assign (hF.at 1 rfl)) rfl rfl rfl rfl fun a hF => ?_
  refine E.opv hF (r_assign (hF.at 1 rfl)) rfl rfl rfl rfl fun a hF => ?_
  refine E.nil ?_
  refine wp_seq ?_
  refine wp_seq ?_
  refine E.seq ?_
  refine E.opv hF (r_move (hF.at 10 rfl)) rfl rfl rfl rfl fun a hF => ?_
  by_cases hc4 : (fixE calJ y m d) ≠ 0
  · first
    | (exfalso; omega)
    | (refine E.opv hF (r_bin (hF.at 0 rfl) ev_c eg_scalar (bi_int (ic_neq (c := true) (dec_tt hc4)) (by simp))) rfl rfl rfl rfl fun a hF => ?_
       refine E.opv hF (r_move (hF.at 0 rfl)) rfl rfl rfl rfl fun a hF => ?_
       refine E.unwanted hF (wanted_by rfl rfl (hF.at 0 rfl) rfl) rfl rfl rfl fun a hF => ?_
       refine E.unwanted hF (wanted_by rfl rfl (hF.at 1 rfl) rfl) rfl rfl rfl fun a hF => ?_
       refine E.opv hF (r_pick_t (hF.at 2 rfl) ev_c) rfl rfl rfl rfl fun a hF => ?_
       refine E.nil ?_
       refine wp_cond_true (hF.at 0 rfl) ?_
       refine wp_seq ?_
       refine E.seq ?_
       refine E.opv hF (r_move (hF.at 26 rfl)) rfl rfl rfl rfl fun a hF => ?_
       by_cases hc5 : 28 < d
       · first
         | (exfalso; omega)
         | (refine E.opv hF (r_bin (hF.at 0 rfl) ev_c eg_scalar (bi_int (ic_gtr (c := true) (dec_tt hc5)) (by simp))) rfl rfl rfl rfl fun a hF => ?_
            refine E.opv hF (r_move (hF.at 0 rfl)) rfl rfl rfl rfl fun a hF => ?_
            refine E.opvg hF (r_move (hF.at 19 rfl)) (wanted_by rfl rfl (hF.at 0 rfl) rfl) rfl rfl rfl fun a hF => ?_
            by_cases hc6 : (fixE calJ y m d) = 4
            · first
              | (exfalso; omega)
              | (refine E.opvg hF (r_bin (hF.at 0 rfl) ev_c eg_scalar (bi_int (ic_eql (c := true) (dec_tt hc6)) (by simp))) (wanted_by rfl rfl (hF.at 1 rfl) rfl) rfl rfl rfl fun a hF => ?_
                 refine E.opvg hF (r_move (hF.at 0 rfl)) (wanted_by rfl rfl (hF.at 2 rfl) rfl) rfl rfl rfl fun a hF => ?_
                 refine E.opvg hF (r_move (hF.at 12 rfl)) (wanted_by rfl rfl (hF.at 0 rfl) rfl) rfl rfl rfl fun a hF => ?_
                 by_cases hc7 : (fixE calC y m d) = 4
                 · first
                   | (exfalso; omega)
                   | (refine E.opvg hF (r_bin (hF.at 0 rfl) ev_c eg_scalar (bi_int (ic_eql (c := true) (dec_tt hc7)) (by simp))) (wanted_by rfl rfl (hF.at 1 rfl) rfl) rfl rfl rfl fun a hF => ?_
                      refine E.opvg hF (r_pick_t (hF.at 2 rfl) (hF.at 0 rfl)) (wanted_by rfl rfl (hF.at 5 rfl) rfl) rfl rfl rfl fun a hF => ?_
                      refine E.opvg hF (r_move (hF.at 0 rfl)) (wanted_by rfl rfl (hF.at 6 rfl) rfl) rfl rfl rfl fun a hF => ?_
                      refine E.unwanted hF (wanted_by rfl rfl (hF.at 0 rfl) rfl) rfl rfl rfl fun a hF => ?_
                      refine E.unwanted hF (wanted_by rfl rfl (hF.at 1 rfl) rfl) rfl rfl rfl fun a hF => ?_
                      refine E.unwanted hF (wanted_by rfl rfl (hF.at 2 rfl) rfl) rfl rfl rfl fun a hF => ?_
                      refine E.unwanted hF (wanted_undef rfl rfl (hF.at 0 rfl)) rfl rfl rfl fun a hF => ?_
                      refine E.unwanted hF (wanted_undef rfl rfl (hF.at 1 rfl)) rfl rfl rfl fun a hF => ?_
                      refine E.unwanted hF (wanted_by rfl rfl (hF.at 5 rfl) rfl) rfl rfl rfl fun a hF => ?_
                      refine E.unwanted hF (wanted_by rfl rfl (hF.at 6 rfl) rfl) rfl rfl rfl fun a hF => ?_
                      refine E.unwanted hF (wanted_undef rfl rfl (hF.at 0 rfl)) rfl rfl rfl fun a hF => ?_
                      refine E.unwanted hF (wanted_undef rfl rfl (hF.at 1 rfl)) rfl rfl rfl fun a hF => ?_
                      refine E.unwanted hF (wanted_by rfl rfl (hF.at 9 rfl) rfl) rfl rfl rfl fun a hF => ?_
                      refine E.opvg hF (r_pick_t (hF.at 10 rfl) ev_c) (wanted_by rfl rfl (hF.at 17 rfl) rfl) rfl rfl rfl fun a hF => ?_
                      refine E.opv hF (r_pick_t (hF.at 18 rfl) (hF.at 0 rfl)) rfl rfl rfl rfl fun a hF => ?_
                      refine E.opset (L' := [(6, .bool true), (67, .bool true), (66, .bool true), (65, undef), (64, undef), (63, undef), (62, undef), (61, undef), (60, undef), (59, undef), (58, undef), (57, undef), (56, undef), (55, .bool true), (54, .bool true), (53, .bool true), (52, .int .i64 (fixE calC y m d)), (51, .bool true), (50, .bool true), (49, .int .i64 (fixE calJ y m d)), (48, .bool true), (47, .bool true), (46, .int .i64 d), (45, .bool true), (44, undef), (43, undef), (42, .bool true), (41, .bool true), (40, .int .i64 (fixE calJ y m d)), (10, .int .i64 (fixE calC y m d)), (9, .int .i64 (fixN calC y m d)), (39, .int .i64 (fixE calC y m d)), (38, .int .i64 (fixN calC y m d)), (32, .tuple #[.int .i64 (fixN calC y m d), .int .i64 (fixE calC y m d)]), (37, .tuple #[.int .i64 (fixN calC y m d), .int .i64 (fixE calC y m d)]), (36, .agg #[.int .i64 y, .int .i64 m, .int .i64 d]), (35, .int .i64 d), (34, .int .i64 m), (33, .int .i64 y), (8, .int .i64 (fixE calJ y m d)), (7, .int .i64 (fixN calJ y m d)), (31, .int .i64 (fixE calJ y m d)), (30, .int .i64 (fixN calJ y m d)), (24, .tuple #[.int .i64 (fixN calJ y m d), .int .i64 (fixE calJ y m d)]), (29, .tuple #[.int .i64 (fixN calJ y m d), .int .i64 (fixE calJ y m d)]), (28, .agg #[.int .i64 y, .int .i64 m, .int .i64 d]), (27, .int .i64 d), (26, .int .i64 m), (25, .int .i64 y), (2, .int .i64 d), (1, .int .i64 m), (0, .int .i64 y)]) hF (r_assign (hF.at 0 rfl)) rfl rfl rfl rfl fun a hF => ?_
                      refine E.nil ?_
                      refine wp_ret ?_
                      refine bodyPost_ret (res_tmp Tryd.results13 (hF.at 0 rfl)) hF.dfr ?_
                      exact ⟨rfl, bel⟩)
                 · first
                   | (exfalso; omega)
                   | (refine E.opvg hF (r_bin (hF.at 0 rfl) ev_c eg_scalar (bi_int (ic_eql (c := false) (dec_ff hc7)) (by simp))) (wanted_by rfl rfl (hF.at 1 rfl) rfl) rfl rfl rfl fun a hF => ?_
                      refine E.opvg hF (r_pick_t (hF.at 2 rfl) (hF.at 0 rfl)) (wanted_by rfl rfl (hF.at 5 rfl) rfl) rfl rfl rfl fun a hF => ?_
                      refine E.opvg hF (r_move (hF.at 0 rfl)) (wanted_by rfl rfl (hF.at 6 rfl) rfl) rfl rfl rfl fun a hF => ?_
                      refine E.opvg hF (r_move (hF.at 16 rfl)) (wanted_by rfl rfl (hF.at 0 rfl) rfl) rfl rfl rfl fun a hF => ?_
                      refine E.opvg hF (r_bin (hF.at 0 rfl) ev_c eg_scalar (bi_int (ic_eql (c := false) (dec_ff hc7)) (by simp))) (wanted_by rfl rfl (hF.at 1 rfl) rfl) rfl rfl rfl fun a hF => ?_
                      refine E.opvg hF (r_move (hF.at 0 rfl)) (wanted_by rfl rfl (hF.at 2 rfl) rfl) rfl rfl rfl fun a hF => ?_
                      refine E.unwanted hF (wanted_by rfl rfl (hF.at 0 rfl) rfl) rfl rfl rfl fun a hF => ?_
                      refine E.unwanted hF (wanted_by rfl rfl (hF.at 1 rfl) rfl) rfl rfl rfl fun a hF => ?_
                      refine E.opvg hF (r_pick_f (hF.at 2 rfl) ev_c) (wanted_by rfl rfl (hF.at 5 rfl) rfl) rfl rfl rfl fun a hF => ?_
                      refine E.opvg hF (r_move (hF.at 0 rfl)) (wanted_by rfl rfl (hF.at 6 rfl) rfl) rfl rfl rfl fun a hF => ?_
                      refine E.unwanted hF (wanted_by rfl rfl (hF.at 0 rfl) rfl) rfl rfl rfl fun a hF => ?_
                      refine E.unwanted hF (wanted_by rfl rfl (hF.at 1 rfl) rfl) rfl rfl rfl fun a hF => ?_
                      refine E.opvg hF (r_pick_f (hF.at 2 rfl) ev_c) (wanted_by rfl rfl (hF.at 9 rfl) rfl) rfl rfl rfl fun a hF => ?_
                      refine E.opvg hF (r_pick_f (hF.at 10 rfl) (hF.at 0 rfl)) (wanted_by rfl rfl (hF.at 17 rfl) rfl) rfl rfl rfl fun a hF => ?_
                      refine E.opv hF (r_pick_t (hF.at 18 rfl) (hF.at 0 rfl)) rfl rfl rfl rfl fun a hF => ?_
                      refine E.opset (L' := [(6, .bool false), (67, .bool false), (66, .bool false), (65, .bool false), (64, undef), (63, undef), (62, .bool false), (61, .bool false), (60, undef), (59, undef), (58, .bool false), (57, .bool false), (56, .int .i64 (fixE calC y m d)), (55, .bool false), (54, .bool false), (53, .bool false), (52, .int .i64 (fixE calC y m d)), (51, .bool true), (50, .bool true), (49, .int .i64 (fixE calJ y m d)), (48, .bool true), (47, .bool true), (46, .int .i64 d), (45, .bool true), (44, undef), (43, undef), (42, .bool true), (41, .bool true), (40, .int .i64 (fixE calJ y m d)), (10, .int .i64 (fixE calC y m d)), (9, .int .i64 (fixN calC y m d)), (39, .int .i64 (fixE calC y m d)), (38, .int .i64 (fixN calC y m d)), (32, .tuple #[.int .i64 (fixN calC y m d), .int .i64 (fixE calC y m d)]), (37, .tuple #[.int .i64 (fixN calC y m d), .int .i64 (fixE calC y m d)]), (36, .agg #[.int .i64 y, .int .i64 m, .int .i64 d]), (35, .int .i64 d), (34, .int .i64 m), (33, .int .i64 y), (8, .int .i64 (fixE calJ y m d)), (7, .int .i64 (fixN calJ y m d)), (31, .int .i64 (fixE calJ y m d)), (30, .int .i64 (fixN calJ y m d)), (24, .tuple #[.int .i64 (fixN calJ y m d), .int .i64 (fixE calJ y m d)]), (29, .tuple #[.int .i64 (fixN calJ y m d), .int .i64 (fixE calJ y m d)]), (28, .agg #[.int .i64 y, .int .i64 m, .int .i64 d]), (27, .int .i64 d), (26, .int .i64 m), (25, .int .i64 y), (2, .int .i64 d), (1, .int .i64 m), (0, .int .i64 y)]) hF (r_assign (hF.at 0 rfl)) rfl rfl rfl rfl fun a hF => ?_
                      refine E.nil ?_
                      refine wp_ret ?_
                      refine bodyPost_ret (res_tmp Tryd.results13 (hF.at 0 rfl)) hF.dfr ?_
                      refine ⟨rv_bool ?_, bel⟩
                      first | exact (decide_eq_true (by omega)).symm | (simp_all; done) | (exfalso; omega)))
            · first
              | (exfalso; omega)
              | (refine E.opvg hF (r_bin (hF.at 0 rfl) ev_c eg_scalar (bi_int (ic_eql (c := false) (dec_ff hc6)) (by simp))) (wanted_by rfl rfl (hF.at 1 rfl) rfl) rfl rfl rfl fun a hF => ?_
                 refine E.opvg hF (r_move (hF.at 0 rfl)) (wanted_by rfl rfl (hF.at 2 rfl) rfl) rfl rfl rfl fun a hF => ?_
                 refine E.unwanted hF (wanted_by rfl rfl (hF.at 0 rfl) rfl) rfl rfl rfl fun a hF => ?_
                 refine E.unwanted hF (wanted_by rfl rfl (hF.at 1 rfl) rfl) rfl rfl rfl fun a hF => ?_
                 refine E.opvg hF (r_pick_f (hF.at 2 rfl) ev_c) (wanted_by rfl rfl (hF.at 5 rfl) rfl) rfl rfl rfl fun a hF => ?_
                 refine E.opvg hF (r_move (hF.at 0 rfl)) (wanted_by rfl rfl (hF.at 6 rfl) rfl) rfl rfl rfl fun a hF => ?_
                 refine E.opvg hF (r_move (hF.at 16 rfl)) (wanted_by rfl rfl (hF.at 0 rfl) rfl) rfl rfl rfl fun a hF => ?_
                 by_cases hc8 : (fixE calC y m d) = 4
                 · first
                   | (exfalso; omega)
                   | (refine E.opvg hF (r_bin (hF.at 0 rfl) ev_c eg_scalar (bi_int (ic_eql (c := true) (dec_tt hc8)) (by simp))) (wanted_by rfl rfl (hF.at 1 rfl) rfl) rfl rfl rfl fun a hF => ?_
                      refine E.opvg hF (r_move (hF.at 0 rfl)) (wanted_by rfl rfl (hF.at 2 rfl) rfl) rfl rfl rfl fun a hF => ?_
                      refine E.opvg hF (r_move (hF.at 40 rfl)) (wanted_by rfl rfl (hF.at 0 rfl) rfl) rfl rfl rfl fun a hF => ?_
                      by_cases hc9 : m = 2
                      · first
                        | (exfalso; omega)
                        | (refine E.opvg hF (r_bin (hF.at 0 rfl) ev_c eg_scalar (bi_int (ic_eql (c := true) (dec_tt hc9)) (by simp))) (wanted_by rfl rfl (hF.at 1 rfl) rfl) rfl rfl rfl fun a hF => ?_
                           refine E.opvg hF (r_pick_t (hF.at 2 rfl) (hF.at 0 rfl)) (wanted_by rfl rfl (hF.at 5 rfl) rfl) rfl rfl rfl fun a hF => ?_
                           refine E.opvg hF (r_move (hF.at 0 rfl)) (wanted_by rfl rfl (hF.at 6 rfl) rfl) rfl rfl rfl fun a hF => ?_
                           refine E.opvg hF (r_move (hF.at 43 rfl)) (wanted_by rfl rfl (hF.at 0 rfl) rfl) rfl rfl rfl fun a hF => ?_
                           by_cases hc10 : d = 29
                           · first
                             | (exfalso; omega)
                             | (refine E.opvg hF (r_bin (hF.at 0 rfl) ev_c eg_scalar (bi_int (ic_eql (c := true) (dec_tt hc10)) (by simp))) (wanted_by rfl rfl (hF.at 1 rfl) rfl) rfl rfl rfl fun a hF => ?_
                                refine E.opvg hF (r_pick_t (hF.at 2 rfl) (hF.at 0 rfl)) (wanted_by rfl rfl (hF.at 9 rfl) rfl) rfl rfl rfl fun a hF => ?_
                                refine E.opvg hF (r_pick_f (hF.at 10 rfl) (hF.at 0 rfl)) (wanted_by rfl rfl (hF.at 17 rfl) rfl) rfl rfl rfl fun a hF => ?_
                                refine E.opv hF (r_pick_t (hF.at 18 rfl) (hF.at 0 rfl)) rfl rfl rfl rfl fun a hF => ?_
                                refine E.opset (L' := [(6, .bool true), (67, .bool true), (66, .bool true), (65, .bool true), (64, .bool true), (63, .int .i64 d), (62, .bool true), (61, .bool true), (60, .bool true), (59, .int .i64 m), (58, .bool true), (57, .bool true), (56, .int .i64 (fixE calC y m d)), (55, .bool false), (54, .bool false), (53, undef), (52, undef), (51, .bool false), (50, .bool false), (49, .int .i64 (fixE calJ y m d)), (48, .bool true), (47, .bool true), (46, .int .i64 d), (45, .bool true), (44, undef), (43, undef), (42, .bool true), (41, .bool true), (40, .int .i64 (fixE calJ y m d)), (10, .int .i64 (fixE calC y m d)), (9, .int .i64 (fixN calC y m d)), (39, .int .i64 (fixE calC y m d)), (38, .int .i64 (fixN calC y m d)), (32, .tuple #[.int .i64 (fixN calC y m d), .int .i64 (fixE calC y m d)]), (37, .tuple #[.int .i64 (fixN calC y m d), .int .i64 (fixE calC y m d)]), (36, .agg #[.int .i64 y, .int .i64 m, .int .i64 d]), (35, .int .i64 d), (34, .int .i64 m), (33, .int .i64 y), (8, .int .i64 (fixE calJ y m d)), (7, .int .i64 (fixN calJ y m d)), (31, .int .i64 (fixE calJ y m d)), (30, .int .i64 (fixN calJ y m d)), (24, .tuple #[.int .i64 (fixN calJ y m d), .int .i64 (fixE calJ y m d)]), (29, .tuple #[.int .i64 (fixN calJ y m d), .int .i64 (fixE calJ y m d)]), (28, .agg #[.int .i64 y, .int .i64 m, .int .i64 d]), (27, .int .i64 d), (26, .int .i64 m), (25, .int .i64 y), (2, .int .i64 d), (1, .int .i64 m), (0, .int .i64 y)]) hF (r_assign (hF.at 0 rfl)) rfl rfl rfl rfl fun a hF => ?_
                                refine E.nil ?_
                                refine wp_ret ?_
                                refine bodyPost_ret (res_tmp Tryd.results13 (hF.at 0 rfl)) hF.dfr ?_
                                exact ⟨rfl, bel⟩)
                           · first
                             | (exfalso; omega)
                             | (refine E.opvg hF (r_bin (hF.at 0 rfl) ev_c eg_scalar (bi_int (ic_eql (c := false) (dec_ff hc10)) (by simp))) (wanted_by rfl rfl (hF.at 1 rfl) rfl) rfl rfl rfl fun a hF => ?_
                                refine E.opvg hF (r_pick_t (hF.at 2 rfl) (hF.at 0 rfl)) (wanted_by rfl rfl (hF.at 9 rfl) rfl) rfl rfl rfl fun a hF => ?_
                                refine E.opvg hF (r_pick_f (hF.at 10 rfl) (hF.at 0 rfl)) (wanted_by rfl rfl (hF.at 17 rfl) rfl) rfl rfl rfl fun a hF => ?_
                                refine E.opv hF (r_pick_t (hF.at 18 rfl) (hF.at 0 rfl)) rfl rfl rfl rfl fun a hF => ?_
                                refine E.opset (L' := [(6, .bool false), (67, .bool false), (66, .bool false), (65, .bool false), (64, .bool false), (63, .int .i64 d), (62, .bool true), (61, .bool true), (60, .bool true), (59, .int .i64 m), (58, .bool true), (57, .bool true), (56, .int .i64 (fixE calC y m d)), (55, .bool false), (54, .bool false), (53, undef), (52, undef), (51, .bool false), (50, .bool false), (49, .int .i64 (fixE calJ y m d)), (48, .bool true), (47, .bool true), (46, .int .i64 d), (45, .bool true), (44, undef), (43, undef), (42, .bool true), (41, .bool true), (40, .int .i64 (fixE calJ y m d)), (10, .int .i64 (fixE calC y m d)), (9, .int .i64 (fixN calC y m d)), (39, .int .i64 (fixE calC y m d)), (38, .int .i64 (fixN calC y m d)), (32, .tuple #[.int .i64 (fixN calC y m d), .int .i64 (fixE calC y m d)]), (37, .tuple #[.int .i64 (fixN calC y m d), .int .i64 (fixE calC y m d)]), (36, .agg #[.int .i64 y, .int .i64 m, .int .i64 d]), (35, .int .i64 d), (34, .int .i64 m), (33, .int .i64 y), (8, .int .i64 (fixE calJ y m d)), (7, .int .i64 (fixN calJ y m d)), (31, .int .i64 (fixE calJ y m d)), (30, .int .i64 (fixN calJ y m d)), (24, .tuple #[.int .i64 (fixN calJ y m d), .int .i64 (fixE calJ y m d)]), (29, .tuple #[.int .i64 (fixN calJ y m d), .int .i64 (fixE calJ y m d)]), (28, .agg #[.int .i64 y, .int .i64 m, .int .i64 d]), (27, .int .i64 d), (26, .int .i64 m), (25, .int .i64 y), (2, .int .i64 d), (1, .int .i64 m), (0, .int .i64 y)]) hF (r_assign (hF.at 0 rfl)) rfl rfl rfl rfl fun a hF => ?_
                                refine E.nil ?_
                                refine wp_ret ?_
                                refine bodyPost_ret (res_tmp Tryd.results13 (hF.at 0 rfl)) hF.dfr ?_
                                refine ⟨rv_bool ?_, bel⟩
                                first | exact (decide_eq_true (by omega)).symm | (simp_all; done) | (exfalso; omega)))
                      · first
                        | (exfalso; omega)
                        | (refine E.opvg hF (r_bin (hF.at 0 rfl) ev_c eg_scalar (bi_int (ic_eql (c := false) (dec_ff hc9)) (by simp))) (wanted_by rfl rfl (hF.at 1 rfl) rfl) rfl rfl rfl fun a hF => ?_
                           refine E.opvg hF (r_pick_t (hF.at 2 rfl) (hF.at 0 rfl)) (wanted_by rfl rfl (hF.at 5 rfl) rfl) rfl rfl rfl fun a hF => ?_
                           refine E.opvg hF (r_move (hF.at 0 rfl)) (wanted_by rfl rfl (hF.at 6 rfl) rfl) rfl rfl rfl fun a hF => ?_
                           refine E.unwanted hF (wanted_by rfl rfl (hF.at 0 rfl) rfl) rfl rfl rfl fun a hF => ?_
                           refine E.unwanted hF (wanted_by rfl rfl (hF.at 1 rfl) rfl) rfl rfl rfl fun a hF => ?_
                           refine E.opvg hF (r_pick_f (hF.at 2 rfl) ev_c) (wanted_by rfl rfl (hF.at 9 rfl) rfl) rfl rfl rfl fun a hF => ?_
                           refine E.opvg hF (r_pick_f (hF.at 10 rfl) (hF.at 0 rfl)) (wanted_by rfl rfl (hF.at 17 rfl) rfl) rfl rfl rfl fun a hF => ?_
                           refine E.opv hF (r_pick_t (hF.at 18 rfl) (hF.at 0 rfl)) rfl rfl rfl rfl fun a hF => ?_
                           refine E.opset (L' := [(6, .bool false), (67, .bool false), (66, .bool false), (65, .bool false), (64, undef), (63, undef), (62, .bool false), (61, .bool false), (60, .bool false), (59, .int .i64 m), (58, .bool true), (57, .bool true), (56, .int .i64 (fixE calC y m d)), (55, .bool false), (54, .bool false), (53, undef), (52, undef), (51, .bool false), (50, .bool false), (49, .int .i64 (fixE calJ y m d)), (48, .bool true), (47, .bool true), (46, .int .i64 d), (45, .bool true), (44, undef), (43, undef), (42, .bool true), (41, .bool true), (40, .int .i64 (fixE calJ y m d)), (10, .int .i64 (fixE calC y m d)), (9, .int .i64 (fixN calC y m d)), (39, .int .i64 (fixE calC y m d)), (38, .int .i64 (fixN calC y m d)), (32, .tuple #[.int .i64 (fixN calC y m d), .int .i64 (fixE calC y m d)]), (37, .tuple #[.int .i64 (fixN calC y m d), .int .i64 (fixE calC y m d)]), (36, .agg #[.int .i64 y, .int .i64 m, .int .i64 d]), (35, .int .i64 d), (34, .int .i64 m), (33, .int .i64 y), (8, .int .i64 (fixE calJ y m d)), (7, .int .i64 (fixN calJ y m d)), (31, .int .i64 (fixE calJ y m d)), (30, .int .i64 (fixN calJ y m d)), (24, .tuple #[.int .i64 (fixN calJ y m d), .int .i64 (fixE calJ y m d)]), (29, .tuple #[.int .i64 (fixN calJ y m d), .int .i64 (fixE calJ y m d)]), (28, .agg #[.int .i64 y, .int .i64 m, .int .i64 d]), (27, .int .i64 d), (26, .int .i64 m), (25, .int .i64 y), (2, .int .i64 d), (1, .int .i64 m), (0, .int .i64 y)]) hF (r_assign (hF.at 0 rfl)) rfl rfl rfl rfl fun a hF => ?_
                           refine E.nil ?_
                           refine wp_ret ?_
                           refine bodyPost_ret (res_tmp Tryd.results13 (hF.at 0 rfl)) hF.dfr ?_
                           refine ⟨rv_bool ?_, bel⟩
                           first | exact (decide_eq_true (by omega)).symm | (simp_all; done) | (exfalso; omega)))
                 · first
                   | (exfalso; omega)
                   | (refine E.opvg hF (r_bin (hF.at 0 rfl) ev_c eg_scalar (bi_int (ic_eql (c := false) (dec_ff hc8)) (by simp))) (wanted_by rfl rfl (hF.at 1 rfl) rfl) rfl rfl rfl fun a hF => ?_
                      refine E.opvg hF (r_move (hF.at 0 rfl)) (wanted_by rfl rfl (hF.at 2 rfl) rfl) rfl rfl rfl fun a hF => ?_
                      refine E.unwanted hF (wanted_by rfl rfl (hF.at 0 rfl) rfl) rfl rfl rfl fun a hF => ?_
                      refine E.unwanted hF (wanted_by rfl rfl (hF.at 1 rfl) rfl) rfl rfl rfl fun a hF => ?_
                      refine E.opvg hF (r_pick_f (hF.at 2 rfl) ev_c) (wanted_by rfl rfl (hF.at 5 rfl) rfl) rfl rfl rfl fun a hF => ?_
                      refine E.opvg hF (r_move (hF.at 0 rfl)) (wanted_by rfl rfl (hF.at 6 rfl) rfl) rfl rfl rfl fun a hF => ?_
                      refine E.unwanted hF (wanted_by rfl rfl (hF.at 0 rfl) rfl) rfl rfl rfl fun a hF => ?_
                      refine E.unwanted hF (wanted_by rfl rfl (hF.at 1 rfl) rfl) rfl rfl rfl fun a hF => ?_
                      refine E.opvg hF (r_pick_f (hF.at 2 rfl) ev_c) (wanted_by rfl rfl (hF.at 9 rfl) rfl) rfl rfl rfl fun a hF => ?_
                      refine E.opvg hF (r_pick_f (hF.at 10 rfl) (hF.at 0 rfl)) (wanted_by rfl rfl (hF.at 17 rfl) rfl) rfl rfl rfl fun a hF => ?_
                      refine E.opv hF (r_pick_t (hF.at 18 rfl) (hF.at 0 rfl)) rfl rfl rfl rfl fun a hF => ?_
                      refine E.opset (L' := [(6, .bool false), (67, .bool false), (66, .bool false), (65, .bool false), (64, undef), (63, undef), (62, .bool false), (61, .bool false), (60, undef), (59, undef), (58, .bool false), (57, .bool false), (56, .int .i64 (fixE calC y m d)), (55, .bool false), (54, .bool false), (53, undef), (52, undef), (51, .bool false), (50, .bool false), (49, .int .i64 (fixE calJ y m d)), (48, .bool true), (47, .bool true), (46, .int .i64 d), (45, .bool true), (44, undef), (43, undef), (42, .bool true), (41, .bool true), (40, .int .i64 (fixE calJ y m d)), (10, .int .i64 (fixE calC y m d)), (9, .int .i64 (fixN calC y m d)), (39, .int .i64 (fixE calC y m d)), (38, .int .i64 (fixN calC y m d)), (32, .tuple #[.int .i64 (fixN calC y m d), .int .i64 (fixE calC y m d)]), (37, .tuple #[.int .i64 (fixN calC y m d), .int .i64 (fixE calC y m d)]), (36, .agg #[.int .i64 y, .int .i64 m, .int .i64 d]), (35, .int .i64 d), (34, .int .i64 m), (33, .int .i64 y), (8, .int .i64 (fixE calJ y m d)), (7, .int .i64 (fixN calJ y m d)), (31, .int .i64 (fixE calJ y m d)), (30, .int .i64 (fixN calJ y m d)), (24, .tuple #[.int .i64 (fixN calJ y m d), .int .i64 (fixE calJ y m d)]), (29, .tuple #[.int .i64 (fixN calJ y m d), .int .i64 (fixE calJ y m d)]), (28, .agg #[.int .i64 y, .int .i64 m, .int .i64 d]), (27, .int .i64 d), (26, .int .i64 m), (25, .int .i64 y), (2, .int .i64 d), (1, .int .i64 m), (0, .int .i64 y)]) hF (r_assign (hF.at 0 rfl)) rfl rfl rfl rfl fun a hF => ?_
                      refine E.nil ?_
                      refine wp_ret ?_
                      refine bodyPost_ret (res_tmp Tryd.results13 (hF.at 0 rfl)) hF.dfr ?_
                      refine ⟨rv_bool ?_, bel⟩
                      first | exact (decide_eq_true (by omega)).symm | (simp_all; done) | (exfalso; omega))))
       · first
         | (exfalso; omega)
         | (refine E.opv hF (r_bin (hF.at 0 rfl) ev_c eg_scalar (bi_int (ic_gtr (c := false) (dec_ff hc5)) (by simp))) rfl rfl rfl rfl fun a hF => ?_
            refine E.opv hF (r_move (hF.at 0 rfl)) rfl rfl rfl rfl fun a hF => ?_
            refine E.unwanted hF (wanted_by rfl rfl (hF.at 0 rfl) rfl) rfl rfl rfl fun a hF => ?_
            refine E.unwanted hF (wanted_by rfl rfl (hF.at 1 rfl) rfl) rfl rfl rfl fun a hF => ?_
            refine E.unwanted hF (wanted_by rfl rfl (hF.at 2 rfl) rfl) rfl rfl rfl fun a hF => ?_
            refine E.unwanted hF (wanted_undef rfl rfl (hF.at 0 rfl)) rfl rfl rfl fun a hF => ?_
            refine E.unwanted hF (wanted_undef rfl rfl (hF.at 1 rfl)) rfl rfl rfl fun a hF => ?_
            refine E.unwanted hF (wanted_by rfl rfl (hF.at 5 rfl) rfl) rfl rfl rfl fun a hF => ?_
            refine E.unwanted hF (wanted_by rfl rfl (hF.at 6 rfl) rfl) rfl rfl rfl fun a hF => ?_
            refine E.unwanted hF (wanted_undef rfl rfl (hF.at 0 rfl)) rfl rfl rfl fun a hF => ?_
            refine E.unwanted hF (wanted_undef rfl rfl (hF.at 1 rfl)) rfl rfl rfl fun a hF => ?_
            refine E.unwanted hF (wanted_undef rfl rfl (hF.at 2 rfl)) rfl rfl rfl fun a hF => ?_
            refine E.unwanted hF (wanted_undef rfl rfl (hF.at 0 rfl)) rfl rfl rfl fun a hF => ?_
            refine E.unwanted hF (wanted_undef rfl rfl (hF.at 1 rfl)) rfl rfl rfl fun a hF => ?_
            refine E.unwanted hF (wanted_undef rfl rfl (hF.at 5 rfl)) rfl rfl rfl fun a hF => ?_
            refine E.unwanted hF (wanted_undef rfl rfl (hF.at 6 rfl)) rfl rfl rfl fun a hF => ?_
            refine E.unwanted hF (wanted_undef rfl rfl (hF.at 0 rfl)) rfl rfl rfl fun a hF => ?_
            refine E.unwanted hF (wanted_undef rfl rfl (hF.at 1 rfl)) rfl rfl rfl fun a hF => ?_
            refine E.unwanted hF (wanted_undef rfl rfl (hF.at 9 rfl)) rfl rfl rfl fun a hF => ?_
            refine E.unwanted hF (wanted_by rfl rfl (hF.at 17 rfl) rfl) rfl rfl rfl fun a hF => ?_
            refine E.opv hF (r_pick_f (hF.at 18 rfl) ev_c) rfl rfl rfl rfl fun a hF => ?_
            refine E.opset (L' := [(6, .bool false), (67, .bool false), (66, undef), (65, undef), (64, undef), (63, undef), (62, undef), (61, undef), (60, undef), (59, undef), (58, undef), (57, undef), (56, undef), (55, undef), (54, undef), (53, undef), (52, undef), (51, undef), (50, undef), (49, undef), (48, .bool false), (47, .bool false), (46, .int .i64 d), (45, .bool true), (44, undef), (43, undef), (42, .bool true), (41, .bool true), (40, .int .i64 (fixE calJ y m d)), (10, .int .i64 (fixE calC y m d)), (9, .int .i64 (fixN calC y m d)), (39, .int .i64 (fixE calC y m d)), (38, .int .i64 (fixN calC y m d)), (32, .tuple #[.int .i64 (fixN calC y m d), .int .i64 (fixE calC y m d)]), (37, .tuple #[.int .i64 (fixN calC y m d), .int .i64 (fixE calC y m d)]), (36, .agg #[.int .i64 y, .int .i64 m, .int .i64 d]), (35, .int .i64 d), (34, .int .i64 m), (33, .int .i64 y), (8, .int .i64 (fixE calJ y m d)), (7, .int .i64 (fixN calJ y m d)), (31, .int .i64 (fixE calJ y m d)), (30, .int .i64 (fixN calJ y m d)), (24, .tuple #[.int .i64 (fixN calJ y m d), .int .i64 (fixE calJ y m d)]), (29, .tuple #[.int .i64 (fixN calJ y m d), .int .i64 (fixE calJ y m d)]), (28, .agg #[.int .i64 y, .int .i64 m, .int .i64 d]), (27, .int .i64 d), (26, .int .i64 m), (25, .int .i64 y), (2, .int .i64 d), (1, .int .i64 m), (0, .int .i64 y)]) hF (r_assign (hF.at 0 rfl)) rfl rfl rfl rfl fun a hF => ?_
            refine E.nil ?_
            refine wp_ret ?_
            refine bodyPost_ret (res_tmp Tryd.results13 (hF.at 0 rfl)) hF.dfr ?_
            refine ⟨rv_bool ?_, bel⟩
            first | exact (decide_eq_true (by omega)).symm | (simp_all; done) | (exfalso; omega)))
  · first
    | (exfalso; omega)
    | (refine E.opv hF (r_bin (hF.at 0 rfl) ev_c eg_scalar (bi_int (ic_neq (c := false) (dec_ff hc4)) (by simp))) rfl rfl rfl rfl fun a hF => ?_
       refine E.opv hF (r_move (hF.at 0 rfl)) rfl rfl rfl rfl fun a hF => ?_
       refine E.opvg hF (r_move (hF.at 3 rfl)) (wanted_by rfl rfl (hF.at 0 rfl) rfl) rfl rfl rfl fun a hF => ?_
       by_cases hc11 : (fixE calC y m d) ≠ 0
       · first
         | (exfalso; omega)
         | (refine E.opvg hF (r_bin (hF.at 0 rfl) ev_c eg_scalar (bi_int (ic_neq (c := true) (dec_tt hc11)) (by simp))) (wanted_by rfl rfl (hF.at 1 rfl) rfl) rfl rfl rfl fun a hF => ?_
            refine E.opv hF (r_pick_f (hF.at 2 rfl) (hF.at 0 rfl)) rfl rfl rfl rfl fun a hF => ?_
            refine E.nil ?_
            refine wp_cond_true (hF.at 0 rfl) ?_
            refine wp_seq ?_
            refine E.seq ?_
            refine E.opv hF (r_move (hF.at 26 rfl)) rfl rfl rfl rfl fun a hF => ?_
            by_cases hc12 : 28 < d
            · first
              | (exfalso; omega)
              | (refine E.opv hF (r_bin (hF.at 0 rfl) ev_c eg_scalar (bi_int (ic_gtr (c := true) (dec_tt hc12)) (by simp))) rfl rfl rfl rfl fun a hF => ?_
                 refine E.opv hF (r_move (hF.at 0 rfl)) rfl rfl rfl rfl fun a hF => ?_
                 refine E.opvg hF (r_move (hF.at 19 rfl)) (wanted_by rfl rfl (hF.at 0 rfl) rfl) rfl rfl rfl fun a hF => ?_
                 by_cases hc13 : (fixE calJ y m d) = 4
                 · first
                   | (exfalso; omega)
                   | (refine E.opvg hF (r_bin (hF.at 0 rfl) ev_c eg_scalar (bi_int (ic_eql (c := true) (dec_tt hc13)) (by simp))) (wanted_by rfl rfl (hF.at 1 rfl) rfl) rfl rfl rfl fun a hF => ?_
                      refine E.opvg hF (r_move (hF.at 0 rfl)) (wanted_by rfl rfl (hF.at 2 rfl) rfl) rfl rfl rfl fun a hF => ?_
                      refine E.opvg hF (r_move (hF.at 12 rfl)) (wanted_by rfl rfl (hF.at 0 rfl) rfl) rfl rfl rfl fun a hF => ?_
                      by_cases hc14 : (fixE calC y m d) = 4
                      · first
                        | (exfalso; omega)
                        | (refine E.opvg hF (r_bin (hF.at 0 rfl) ev_c eg_scalar (bi_int (ic_eql (c := true) (dec_tt hc14)) (by simp))) (wanted_by rfl rfl (hF.at 1 rfl) rfl) rfl rfl rfl fun a hF => ?_
                           refine E.opvg hF (r_pick_t (hF.at 2 rfl) (hF.at 0 rfl)) (wanted_by rfl rfl (hF.at 5 rfl) rfl) rfl rfl rfl fun a hF => ?_
                           refine E.opvg hF (r_move (hF.at 0 rfl)) (wanted_by rfl rfl (hF.at 6 rfl) rfl) rfl rfl rfl fun a hF => ?_
                           refine E.unwanted hF (wanted_by rfl rfl (hF.at 0 rfl) rfl) rfl rfl rfl fun a hF => ?_
                           refine E.unwanted hF (wanted_by rfl rfl (hF.at 1 rfl) rfl) rfl rfl rfl fun a hF => ?_
                           refine E.unwanted hF (wanted_by rfl rfl (hF.at 2 rfl) rfl) rfl rfl rfl fun a hF => ?_
                           refine E.unwanted hF (wanted_undef rfl rfl (hF.at 0 rfl)) rfl rfl rfl fun a hF => ?_
                           refine E.unwanted hF (wanted_undef rfl rfl (hF.at 1 rfl)) rfl rfl rfl fun a hF => ?_
                           refine E.unwanted hF (wanted_by rfl rfl (hF.at 5 rfl) rfl) rfl rfl rfl fun a hF => ?_
                           refine E.unwanted hF (wanted_by rfl rfl (hF.at 6 rfl) rfl) rfl rfl rfl fun a hF => ?_
                           refine E.unwanted hF (wanted_undef rfl rfl (hF.at 0 rfl)) rfl rfl rfl fun a hF => ?_
                           refine E.unwanted hF (wanted_undef rfl rfl (hF.at 1 rfl)) rfl rfl rfl fun a hF => ?_
                           refine E.unwanted hF (wanted_by rfl rfl (hF.at 9 rfl) rfl) rfl rfl rfl fun a hF => ?_
                           refine E.opvg hF (r_pick_t (hF.at 10 rfl) ev_c) (wanted_by rfl rfl (hF.at 17 rfl) rfl) rfl rfl rfl fun a hF => ?_
                           refine E.opv hF (r_pick_t (hF.at 18 rfl) (hF.at 0 rfl)) rfl rfl rfl rfl fun a hF => ?_
                           refine E.opset (L' := [(6, .bool true), (67, .bool true), (66, .bool true), (65, undef), (64, undef), (63, undef), (62, undef), (61, undef), (60, undef), (59, undef), (58, undef), (57, undef), (56, undef), (55, .bool true), (54, .bool true), (53, .bool true), (52, .int .i64 (fixE calC y m d)), (51, .bool true), (50, .bool true), (49, .int .i64 (fixE calJ y m d)), (48, .bool true), (47, .bool true), (46, .int .i64 d), (45, .bool true), (44, .bool true), (43, .int .i64 (fixE calC y m d)), (42, .bool false), (41, .bool false), (40, .int .i64 (fixE calJ y m d)), (10, .int .i64 (fixE calC y m d)), (9, .int .i64 (fixN calC y m d)), (39, .int .i64 (fixE calC y m d)), (38, .int .i64 (fixN calC y m d)), (32, .tuple #[.int .i64 (fixN calC y m d), .int .i64 (fixE calC y m d)]), (37, .tuple #[.int .i64 (fixN calC y m d), .int .i64 (fixE calC y m d)]), (36, .agg #[.int .i64 y, .int .i64 m, .int .i64 d]), (35, .int .i64 d), (34, .int .i64 m), (33, .int .i64 y), (8, .int .i64 (fixE calJ y m d)), (7, .int .i64 (fixN calJ y m d)), (31, .int .i64 (fixE calJ y m d)), (30, .int .i64 (fixN calJ y m d)), (24, .tuple #[.int .i64 (fixN calJ y m d), .int .i64 (fixE calJ y m d)]), (29, .tuple #[.int .i64 (fixN calJ y m d), .int .i64 (fixE calJ y m d)]), (28, .agg #[.int .i64 y, .int .i64 m, .int .i64 d]), (27, .int .i64 d), (26, .int .i64 m), (25, .int .i64 y), (2, .int .i64 d), (1, .int .i64 m), (0, .int .i64 y)]) hF (r_assign (hF.at 0 rfl)) rfl rfl rfl rfl fun a hF => ?_
                           refine E.nil ?_
                           refine wp_ret ?_
                           refine bodyPost_ret (res_tmp Tryd.results13 (hF.at 0 rfl)) hF.dfr ?_
                           exact ⟨rfl, bel⟩)
                      · first
                        | (exfalso; omega)
                        | (refine E.opvg hF (r_bin (hF.at 0 rfl) ev_c eg_scalar (bi_int (ic_eql (c := false) (dec_ff hc14)) (by simp))) (wanted_by rfl rfl (hF.at 1 rfl) rfl) rfl rfl rfl fun a hF => ?_
                           refine E.opvg hF (r_pick_t (hF.at 2 rfl) (hF.at 0 rfl)) (wanted_by rfl rfl (hF.at 5 rfl) rfl) rfl rfl rfl fun a hF => ?_
                           refine E.opvg hF (r_move (hF.at 0 rfl)) (wanted_by rfl rfl (hF.at 6 rfl) rfl) rfl rfl rfl fun a hF => ?_
                           refine E.opvg hF (r_move (hF.at 16 rfl)) (wanted_by rfl rfl (hF.at 0 rfl) rfl) rfl rfl rfl fun a hF => ?_
                           refine E.opvg hF (r_bin (hF.at 0 rfl) ev_c eg_scalar (bi_int (ic_eql (c := false) (dec_ff hc14)) (by simp))) (wanted_by rfl rfl (hF.at 1 rfl) rfl) rfl rfl rfl fun a hF => ?_
                           refine E.opvg hF (r_move (hF.at 0 rfl)) (wanted_by rfl rfl (hF.at 2 rfl) rfl) rfl rfl rfl fun a hF => ?_
                           refine E.unwanted hF (wanted_by rfl rfl (hF.at 0 rfl) rfl) rfl rfl rfl fun a hF => ?_
                           refine E.unwanted hF (wanted_by rfl rfl (hF.at 1 rfl) rfl) rfl rfl rfl fun a hF => ?_
                           refine E.opvg hF (r_pick_f (hF.at 2 rfl) ev_c) (wanted_by rfl rfl (hF.at 5 rfl) rfl) rfl rfl rfl fun a hF => ?_
                           refine E.opvg hF (r_move (hF.at 0 rfl)) (wanted_by rfl rfl (hF.at 6 rfl) rfl) rfl rfl rfl fun a hF => ?_
                           refine E.unwanted hF (wanted_by rfl rfl (hF.at 0 rfl) rfl) rfl rfl rfl fun a hF => ?_
                           refine E.unwanted hF (wanted_by rfl rfl (hF.at 1 rfl) rfl) rfl rfl rfl fun a hF => ?_
                           refine E.opvg hF (r_pick_f (hF.at 2 rfl) ev_c) (wanted_by rfl rfl (hF.at 9 rfl) rfl) rfl rfl rfl fun a hF => ?_
                           refine E.opvg hF (r_pick_f (hF.at 10 rfl) (hF.at 0 rfl)) (wanted_by rfl rfl (hF.at 17 rfl) rfl) rfl rfl rfl fun a hF => ?_
                           refine E.opv hF (r_pick_t (hF.at 18 rfl) (hF.at 0 rfl)) rfl rfl rfl rfl fun a hF => ?_
                           refine E.opset (L' := [(6, .bool false), (67, .bool false), (66, .bool false), (65, .bool false), (64, undef), (63, undef), (62, .bool false), (61, .bool false), (60, undef), (59, undef), (58, .bool false), (57, .bool false), (56, .int .i64 (fixE calC y m d)), (55, .bool false), (54, .bool false), (53, .bool false), (52, .int .i64 (fixE calC y m d)), (51, .bool true), (50, .bool true), (49, .int .i64 (fixE calJ y m d)), (48, .bool true), (47, .bool true), (46, .int .i64 d), (45, .bool true), (44, .bool true), (43, .int .i64 (fixE calC y m d)), (42, .bool false), (41, .bool false), (40, .int .i64 (fixE calJ y m d)), (10, .int .i64 (fixE calC y m d)), (9, .int .i64 (fixN calC y m d)), (39, .int .i64 (fixE calC y m d)), (38, .int .i64 (fixN calC y m d)), (32, .tuple #[.int .i64 (fixN calC y m d), .int .i64 (fixE calC y m d)]), (37, .tuple #[.int .i64 (fixN calC y m d), .int .i64 (fixE calC y m d)]), (36, .agg #[.int .i64 y, .int .i64 m, .int .i64 d]), (35, .int .i64 d), (34, .int .i64 m), (33, .int .i64 y), (8, .int .i64 (fixE calJ y m d)), (7, .int .i64 (fixN calJ y m d)), (31, .int .i64 (fixE calJ y m d)), (30, .int .i64 (fixN calJ y m d)), (24, .tuple #[.int .i64 (fixN calJ y m d), .int .i64 (fixE calJ y m d)]), (29, .tuple #[.int .i64 (fixN calJ y m d), .int .i64 (fixE calJ y m d)]), (28, .agg #[.int .i64 y, .int .i64 m, .int .i64 d]), (27, .int .i64 d), (26, .int .i64 m), (25, .int .i64 y), (2, .int .i64 d), (1, .int .i64 m), (0, .int .i64 y)]) hF (r_assign (hF.at 0 rfl)) rfl rfl rfl rfl fun a hF => ?_
                           refine E.nil ?_
                           refine wp_ret ?_
                           refine bodyPost_ret (res_tmp Tryd.results13 (hF.at 0 rfl)) hF.dfr ?_
                           refine ⟨rv_bool ?_, bel⟩
                           first | exact (decide_eq_true (by omega)).symm | (simp_all; done) | (exfalso; omega)))
                 · first
                   | (exfalso; omega)
                   | (refine E.opvg hF (r_bin (hF.at 0 rfl) ev_c eg_scalar (bi_int (ic_eql (c := false) (dec_ff hc13)) (by simp))) (wanted_by rfl rfl (hF.at 1 rfl) rfl) rfl rfl rfl fun a hF => ?_
                      refine E.opvg hF (r_move (hF.at 0 rfl)) (wanted_by rfl rfl (hF.at 2 rfl) rfl) rfl rfl rfl fun a hF => ?_
                      refine E.unwanted hF (wanted_by rfl rfl (hF.at 0 rfl) rfl) rfl rfl rfl fun a hF => ?_
                      refine E.unwanted hF (wanted_by rfl rfl (hF.at 1 rfl) rfl) rfl rfl rfl fun a hF => ?_
                      refine E.opvg hF (r_pick_f (hF.at 2 rfl) ev_c) (wanted_by rfl rfl (hF.at 5 rfl) rfl) rfl rfl rfl fun a hF => ?_
                      refine E.opvg hF (r_move (hF.at 0 rfl)) (wanted_by rfl rfl (hF.at 6 rfl) rfl) rfl rfl rfl fun a hF => ?_
                      refine E.opvg hF (r_move (hF.at 16 rfl)) (wanted_by rfl rfl (hF.at 0 rfl) rfl) rfl rfl rfl fun a hF => ?_
                      by_cases hc15 : (fixE calC y m d) = 4
                      · first
                        | (exfalso; omega)
                        | (refine E.opvg hF (r_bin (hF.at 0 rfl) ev_c eg_scalar (bi_int (ic_eql (c := true) (dec_tt hc15)) (by simp))) (wanted_by rfl rfl (hF.at 1 rfl) rfl) rfl rfl rfl fun a hF => ?_
                           refine E.opvg hF (r_move (hF.at 0 rfl)) (wanted_by rfl rfl (hF.at 2 rfl) rfl) rfl rfl rfl fun a hF => ?_
                           refine E.opvg hF (r_move (hF.at 40 rfl)) (wanted_by rfl rfl (hF.at 0 rfl) rfl) rfl rfl rfl fun a hF => ?_
                           by_cases hc16 : m = 2
                           · first
                             | (exfalso; omega)
                             | (refine E.opvg hF (r_bin (hF.at 0 rfl) ev_c eg_scalar (bi_int (ic_eql (c := true) (dec_tt hc16)) (by simp))) (wanted_by rfl rfl (hF.at 1 rfl) rfl) rfl rfl rfl fun a hF => ?_
                                refine E.opvg hF (r_pick_t (hF.at 2 rfl) (hF.at 0 rfl)) (wanted_by rfl rfl (hF.at 5 rfl) rfl) rfl rfl rfl fun a hF => ?_
                                refine E.opvg hF (r_move (hF.at 0 rfl)) (wanted_by rfl rfl (hF.at 6 rfl) rfl) rfl rfl rfl fun a hF => ?_
                                refine E.opvg hF (r_move (hF.at 43 rfl)) (wanted_by rfl rfl (hF.at 0 rfl) rfl) rfl rfl rfl fun a hF => ?_
                                by_cases hc17 : d = 29
                                · first
                                  | (exfalso; omega)
                                  | (refine E.opvg hF (r_bin (hF.at 0 rfl) ev_c eg_scalar (bi_int (ic_eql (c := true) (dec_tt hc17)) (by simp))) (wanted_by rfl rfl (hF.at 1 rfl) rfl) rfl rfl rfl fun a hF => ?_
                                     refine E.opvg hF (r_pick_t (hF.at 2 rfl) (hF.at 0 rfl)) (wanted_by rfl rfl (hF.at 9 rfl) rfl) rfl rfl rfl fun a hF => ?_
                                     refine E.opvg hF (r_pick_f (hF.at 10 rfl) (hF.at 0 rfl)) (wanted_by rfl rfl (hF.at 17 rfl) rfl) rfl rfl rfl fun a hF => ?_
                                     refine E.opv hF (r_pick_t (hF.at 18 rfl) (hF.at 0 rfl)) rfl rfl rfl rfl fun a hF => ?_
                                     refine E.opset (L' := [(6, .bool true), (67, .bool true), (66, .bool true), (65, .bool true), (64, .bool true), (63, .int .i64 d), (62, .bool true), (61, .bool true), (60, .bool true), (59, .int .i64 m), (58, .bool true), (57, .bool true), (56, .int .i64 (fixE calC y m d)), (55, .bool false), (54, .bool false), (53, undef), (52, undef), (51, .bool false), (50, .bool false), (49, .int .i64 (fixE calJ y m d)), (48, .bool true), (47, .bool true), (46, .int .i64 d), (45, .bool true), (44, .bool true), (43, .int .i64 (fixE calC y m d)), (42, .bool false), (41, .bool false), (40, .int .i64 (fixE calJ y m d)), (10, .int .i64 (fixE calC y m d)), (9, .int .i64 (fixN calC y m d)), (39, .int .i64 (fixE calC y m d)), (38, .int .i64 (fixN calC y m d)), (32, .tuple #[.int .i64 (fixN calC y m d), .int .i64 (fixE calC y m d)]), (37, .tuple #[.int .i64 (fixN calC y m d), .int .i64 (fixE calC y m d)]), (36, .agg #[.int .i64 y, .int .i64 m, .int .i64 d]), (35, .int .i64 d), (34, .int .i64 m), (33, .int .i64 y), (8, .int .i64 (fixE calJ y m d)), (7, .int .i64 (fixN calJ y m d)), (31, .int .i64 (fixE calJ y m d)), (30, .int .i64 (fixN calJ y m d)), (24, .tuple #[.int .i64 (fixN calJ y m d), .int .i64 (fixE calJ y m d)]), (29, .tuple #[.int .i64 (fixN calJ y m d), .int .i64 (fixE calJ y m d)]), (28, .agg #[.int .i64 y, .int .i64 m, .int .i64 d]), (27, .int .i64 d), (26, .int .i64 m), (25, .int .i64 y), (2, .int .i64 d), (1, .int .i64 m), (0, .int .i64 y)]) hF (r_assign (hF.at 0 rfl)) rfl rfl rfl rfl fun a hF => ?_
                                     refine E.nil ?_
                                     refine wp_ret ?_
                                     refine bodyPost_ret (res_tmp Tryd.results13 (hF.at 0 rfl)) hF.dfr ?_
                                     exact ⟨rfl, bel⟩)
                                · first
                                  | (exfalso; omega)
                                  | (refine E.opvg hF (r_bin (hF.at 0 rfl) ev_c eg_scalar (bi_int (ic_eql (c := false) (dec_ff hc17)) (by simp))) (wanted_by rfl rfl (hF.at 1 rfl) rfl) rfl rfl rfl fun a hF => ?_
                                     refine E.opvg hF (r_pick_t (hF.at 2 rfl) (hF.at 0 rfl)) (wanted_by rfl rfl (hF.at 9 rfl) rfl) rfl rfl rfl fun a hF => ?_
                                     refine E.opvg hF (r_pick_f (hF.at 10 rfl) (hF.at 0 rfl)) (wanted_by rfl rfl (hF.at 17 rfl) rfl) rfl rfl rfl fun a hF => ?_
                                     refine E.opv hF (r_pick_t (hF.at 18 rfl) (hF.at 0 rfl)) rfl rfl rfl rfl fun a hF => ?_
                                     refine E.opset (L' := [(6, .bool false), (67, .bool false), (66, .bool false), (65, .bool false), (64, .bool false), (63, .int .i64 d), (62, .bool true), (61, .bool true), (60, .bool true), (59, .int .i64 m), (58, .bool true), (57, .bool true), (56, .int .i64 (fixE calC y m d)), (55, .bool false), (54, .bool false), (53, undef), (52, undef), (51, .bool false), (50, .bool false), (49, .int .i64 (fixE calJ y m d)), (48, .bool true), (47, .bool true), (46, .int .i64 d), (45, .bool true), (44, .bool true), (43, .int .i64 (fixE calC y m d)), (42, .bool false), (41, .bool false), (40, .int .i64 (fixE calJ y m d)), (10, .int .i64 (fixE calC y m d)), (9, .int .i64 (fixN calC y m d)), (39, .int .i64 (fixE calC y m d)), (38, .int .i64 (fixN calC y m d)), (32, .tuple #[.int .i64 (fixN calC y m d), .int .i64 (fixE calC y m d)]), (37, .tuple #[.int .i64 (fixN calC y m d), .int .i64 (fixE calC y m d)]), (36, .agg #[.int .i64 y, .int .i64 m, .int .i64 d]), (35, .int .i64 d), (34, .int .i64 m), (33, .int .i64 y), (8, .int .i64 (fixE calJ y m d)), (7, .int .i64 (fixN calJ y m d)), (31, .int .i64 (fixE calJ y m d)), (30, .int .i64 (fixN calJ y m d)), (24, .tuple #[.int .i64 (fixN calJ y m d), .int .i64 (fixE calJ y m d)]), (29, .tuple #[.int .i64 (fixN calJ y m d), .int .i64 (fixE calJ y m d)]), (28, .agg #[.int .i64 y, .int .i64 m, .int .i64 d]), (27, .int .i64 d), (26, .int .i64 m), (25, .int .i64 y), (2, .int .i64 d), (1, .int .i64 m), (0, .int .i64 y)]) hF (r_assign (hF.at 0 rfl)) rfl rfl rfl rfl fun a hF => ?_
                                     refine E.nil ?_
                                     refine wp_ret ?_
                                     refine bodyPost_ret (res_tmp Tryd.results13 (hF.at 0 rfl)) hF.dfr ?_
                                     refine ⟨rv_bool ?_, bel⟩
                                     first | exact (decide_eq_true (by omega)).symm | (simp_all; done) | (exfalso; omega)))
                           · first
                             | (exfalso; omega)
                             | (refine E.opvg hF (r_bin (hF.at 0 rfl) ev_c eg_scalar (bi_int (ic_eql (c := false) (dec_ff hc16)) (by simp))) (wanted_by rfl rfl (hF.at 1 rfl) rfl) rfl rfl rfl fun a hF => ?_
                                refine E.opvg hF (r_pick_t (hF.at 2 rfl) (hF.at 0 rfl)) (wanted_by rfl rfl (hF.at 5 rfl) rfl) rfl rfl rfl fun a hF => ?_
                                refine E.opvg hF (r_move (hF.at 0 rfl)) (wanted_by rfl rfl (hF.at 6 rfl) rfl) rfl rfl rfl fun a hF => ?_
                                refine E.unwanted hF (wanted_by rfl rfl (hF.at 0 rfl) rfl) rfl rfl rfl fun a hF => ?_
                                refine E.unwanted hF (wanted_by rfl rfl (hF.at 1 rfl) rfl) rfl rfl rfl fun a hF => ?_
                                refine E.opvg hF (r_pick_f (hF.at 2 rfl) ev_c) (wanted_by rfl rfl (hF.at 9 rfl) rfl) rfl rfl rfl fun a hF => ?_
                                refine E.opvg hF (r_pick_f (hF.at 10 rfl) (hF.at 0 rfl)) (wanted_by rfl rfl (hF.at 17 rfl) rfl) rfl rfl rfl fun a hF => ?_
                                refine E.opv hF (r_pick_t (hF.at 18 rfl) (hF.at 0 rfl)) rfl rfl rfl rfl fun a hF => ?_
                                refine E.opset (L' := [(6, .bool false), (67, .bool false), (66, .bool false), (65, .bool false), (64, undef), (63, undef), (62, .bool false), (61, .bool false), (60, .bool false), (59, .int .i64 m), (58, .bool true), (57, .bool true), (56, .int .i64 (fixE calC y m d)), (55, .bool false), (54, .bool false), (53, undef), (52, undef), (51, .bool false), (50, .bool false), (49, .int .i64 (fixE calJ y m d)), (48, .bool true), (47, .bool true), (46, .int .i64 d), (45, .bool true), (44, .bool true), (43, .int .i64 (fixE calC y m d)), (42, .bool false), (41, .bool false), (40, .int .i64 (fixE calJ y m d)), (10, .int .i64 (fixE calC y m d)), (9, .int .i64 (fixN calC y m d)), (39, .int .i64 (fixE calC y m d)), (38, .int .i64 (fixN calC y m d)), (32, .tuple #[.int .i64 (fixN calC y m d), .int .i64 (fixE calC y m d)]), (37, .tuple #[.int .i64 (fixN calC y m d), .int .i64 (fixE calC y m d)]), (36, .agg #[.int .i64 y, .int .i64 m, .int .i64 d]), (35, .int .i64 d), (34, .int .i64 m), (33, .int .i64 y), (8, .int .i64 (fixE calJ y m d)), (7, .int .i64 (fixN calJ y m d)), (31, .int .i64 (fixE calJ y m d)), (30, .int .i64 (fixN calJ y m d)), (24, .tuple #[.int .i64 (fixN calJ y m d), .int .i64 (fixE calJ y m d)]), (29, .tuple #[.int .i64 (fixN calJ y m d), .int .i64 (fixE calJ y m d)]), (28, .agg #[.int .i64 y, .int .i64 m, .int .i64 d]), (27, .int .i64 d), (26, .int .i64 m), (25, .int .i64 y), (2, .int .i64 d), (1, .int .i64 m), (0, .int .i64 y)]) hF (r_assign (hF.at 0 rfl)) rfl rfl rfl rfl fun a hF => ?_
                                refine E.nil ?_
                                refine wp_ret ?_
                                refine bodyPost_ret (res_tmp Tryd.results13 (hF.at 0 rfl)) hF.dfr ?_
                                refine ⟨rv_bool ?_, bel⟩
                                first | exact (decide_eq_true (by omega)).symm | (simp_all; done) | (exfalso; omega)))
                      · first
                        | (exfalso; omega)
                        | (refine E.opvg hF (r_bin (hF.at 0 rfl) ev_c eg_scalar (bi_int (ic_eql (c := false) (dec_ff hc15)) (by simp))) (wanted_by rfl rfl (hF.at 1 rfl) rfl) rfl rfl rfl fun a hF => ?_
                           refine E.opvg hF (r_move (hF.at 0 rfl)) (wanted_by rfl rfl (hF.at 2 rfl) rfl) rfl rfl rfl fun a hF => ?_
                           refine E.unwanted hF (wanted_by rfl rfl (hF.at 0 rfl) rfl) rfl rfl rfl fun a hF => ?_
                           refine E.unwanted hF (wanted_by rfl rfl (hF.at 1 rfl) rfl) rfl rfl rfl fun a hF => ?_
                           refine E.opvg hF (r_pick_f (hF.at 2 rfl) ev_c) (wanted_by rfl rfl (hF.at 5 rfl) rfl) rfl rfl rfl fun a hF => ?_
                           refine E.opvg hF (r_move (hF.at 0 rfl)) (wanted_by rfl rfl (hF.at 6 rfl) rfl) rfl rfl rfl fun a hF => ?_
                           refine E.unwanted hF (wanted_by rfl rfl (hF.at 0 rfl) rfl) rfl rfl rfl fun a hF => ?_
                           refine E.unwanted hF (wanted_by rfl rfl (hF.at 1 rfl) rfl) rfl rfl rfl fun a hF => ?_
                           refine E.opvg hF (r_pick_f (hF.at 2 rfl) ev_c) (wanted_by rfl rfl (hF.at 9 rfl) rfl) rfl rfl rfl fun a hF => ?_
                           refine E.opvg hF (r_pick_f (hF.at 10 rfl) (hF.at 0 rfl)) (wanted_by rfl rfl (hF.at 17 rfl) rfl) rfl rfl rfl fun a hF => ?_
                           refine E.opv hF (r_pick_t (hF.at 18 rfl) (hF.at 0 rfl)) rfl rfl rfl rfl fun a hF => ?_
                           refine E.opset (L' := [(6, .bool false), (67, .bool false), (66, .bool false), (65, .bool false), (64, undef), (63, undef), (62, .bool false), (61, .bool false), (60, undef), (59, undef), (58, .bool false), (57, .bool false), (56, .int .i64 (fixE calC y m d)), (55, .bool false), (54, .bool false), (53, undef), (52, undef), (51, .bool false), (50, .bool false), (49, .int .i64 (fixE calJ y m d)), (48, .bool true), (47, .bool true), (46, .int .i64 d), (45, .bool true), (44, .bool true), (43, .int .i64 (fixE calC y m d)), (42, .bool false), (41, .bool false), (40, .int .i64 (fixE calJ y m d)), (10, .int .i64 (fixE calC y m d)), (9, .int .i64 (fixN calC y m d)), (39, .int .i64 (fixE calC y m d)), (38, .int .i64 (fixN calC y m d)), (32, .tuple #[.int .i64 (fixN calC y m d), .int .i64 (fixE calC y m d)]), (37, .tuple #[.int .i64 (fixN calC y m d), .int .i64 (fixE calC y m d)]), (36, .agg #[.int .i64 y, .int .i64 m, .int .i64 d]), (35, .int .i64 d), (34, .int .i64 m), (33, .int .i64 y), (8, .int .i64 (fixE calJ y m d)), (7, .int .i64 (fixN calJ y m d)), (31, .int .i64 (fixE calJ y m d)), (30, .int .i64 (fixN calJ y m d)), (24, .tuple #[.int .i64 (fixN calJ y m d), .int .i64 (fixE calJ y m d)]), (29, .tuple #[.int .i64 (fixN calJ y m d), .int .i64 (fixE calJ y m d)]), (28, .agg #[.int .i64 y, .int .i64 m, .int .i64 d]), (27, .int .i64 d), (26, .int .i64 m), (25, .int .i64 y), (2, .int .i64 d), (1, .int .i64 m), (0, .int .i64 y)]) hF (r_assign (hF.at 0 rfl)) rfl rfl rfl rfl fun a hF => ?_
                           refine E.nil ?_
                           refine wp_ret ?_
                           refine bodyPost_ret (res_tmp Tryd.results13 (hF.at 0 rfl)) hF.dfr ?_
                           refine ⟨rv_bool ?_, bel⟩
                           first | exact (decide_eq_true (by omega)).symm | (simp_all; done) | (exfalso; omega))))
            · first
              | (exfalso; omega)
              | (refine E.opv hF (r_bin (hF.at 0 rfl) ev_c eg_scalar (bi_int (ic_gtr (c := false) (dec_ff hc12)) (by simp))) rfl rfl rfl rfl fun a hF => ?_
                 refine E.opv hF (r_move (hF.at 0 rfl)) rfl rfl rfl rfl fun a hF => ?_
                 refine E.unwanted hF (wanted_by rfl rfl (hF.at 0 rfl) rfl) rfl rfl rfl fun a hF => ?_
                 refine E.unwanted hF (wanted_by rfl rfl (hF.at 1 rfl) rfl) rfl rfl rfl fun a hF => ?_
                 refine E.unwanted hF (wanted_by rfl rfl (hF.at 2 rfl) rfl) rfl rfl rfl fun a hF => ?_
                 refine E.unwanted hF (wanted_undef rfl rfl (hF.at 0 rfl)) rfl rfl rfl fun a hF => ?_
                 refine E.unwanted hF (wanted_undef rfl rfl (hF.at 1 rfl)) rfl rfl rfl fun a hF => ?_
                 refine E.unwanted hF (wanted_by rfl rfl (hF.at 5 rfl) rfl) rfl rfl rfl fun a hF => ?_
                 refine E.unwanted hF (wanted_by rfl rfl (hF.at 6 rfl) rfl) rfl rfl rfl fun a hF => ?_
                 refine E.unwanted hF (wanted_undef rfl rfl (hF.at 0 rfl)) rfl rfl rfl fun a hF => ?_
                 refine E.unwanted hF (wanted_undef rfl rfl (hF.at 1 rfl)) rfl rfl rfl fun a hF => ?_
                 refine E.unwanted hF (wanted_undef rfl rfl (hF.at 2 rfl)) rfl rfl rfl fun a hF => ?_
                 refine E.unwanted hF (wanted_undef rfl rfl (hF.at 0 rfl)) rfl rfl rfl fun a hF => ?_
                 refine E.unwanted hF (wanted_undef rfl rfl (hF.at 1 rfl)) rfl rfl rfl fun a hF => ?_
                 refine E.unwanted hF (wanted_undef rfl rfl (hF.at 5 rfl)) rfl rfl rfl fun a hF => ?_
                 refine E.unwanted hF (wanted_undef rfl rfl (hF.at 6 rfl)) rfl rfl rfl fun a hF => ?_
                 refine E.unwanted hF (wanted_undef rfl rfl (hF.at 0 rfl)) rfl rfl rfl fun a hF => ?_
                 refine E.unwanted hF (wanted_undef rfl rfl (hF.at 1 rfl)) rfl rfl rfl fun a hF => ?_
                 refine E.unwanted hF (wanted_undef rfl rfl (hF.at 9 rfl)) rfl rfl rfl fun a hF => ?_
                 refine E.unwanted hF (wanted_by rfl rfl (hF.at 17 rfl) rfl) rfl rfl rfl fun a hF => ?_
                 refine E.opv hF (r_pick_f (hF.at 18 rfl) ev_c) rfl rfl rfl rfl fun a hF => ?_
                 refine E.opset (L' := [(6, .bool false), (67, .bool false), (66, undef), (65, undef), (64, undef), (63, undef), (62, undef), (61, undef), (60, undef), (59, undef), (58, undef), (57, undef), (56, undef), (55, undef), (54, undef), (53, undef), (52, undef), (51, undef), (50, undef), (49, undef), (48, .bool false), (47, .bool false), (46, .int .i64 d), (45, .bool true), (44, .bool true), (43, .int .i64 (fixE calC y m d)), (42, .bool false), (41, .bool false), (40, .int .i64 (fixE calJ y m d)), (10, .int .i64 (fixE calC y m d)), (9, .int .i64 (fixN calC y m d)), (39, .int .i64 (fixE calC y m d)), (38, .int .i64 (fixN calC y m d)), (32, .tuple #[.int .i64 (fixN calC y m d), .int .i64 (fixE calC y m d)]), (37, .tuple #[.int .i64 (fixN calC y m d), .int .i64 (fixE calC y m d)]), (36, .agg #[.int .i64 y, .int .i64 m, .int .i64 d]), (35, .int .i64 d), (34, .int .i64 m), (33, .int .i64 y), (8, .int .i64 (fixE calJ y m d)), (7, .int .i64 (fixN calJ y m d)), (31, .int .i64 (fixE calJ y m d)), (30, .int .i64 (fixN calJ y m d)), (24, .tuple #[.int .i64 (fixN calJ y m d), .int .i64 (fixE calJ y m d)]), (29, .tuple #[.int .i64 (fixN calJ y m d), .int .i64 (fixE calJ y m d)]), (28, .agg #[.int .i64 y, .int .i64 m, .int .i64 d]), (27, .int .i64 d), (26, .int .i64 m), (25, .int .i64 y), (2, .int .i64 d), (1, .int .i64 m), (0, .int .i64 y)]) hF (r_assign (hF.at 0 rfl)) rfl rfl rfl rfl fun a hF => ?_
                 refine E.nil ?_
                 refine wp_ret ?_
                 refine bodyPost_ret (res_tmp Tryd.results13 (hF.at 0 rfl)) hF.dfr ?_
                 refine ⟨rv_bool ?_, bel⟩
                 first | exact (decide_eq_true (by omega)).symm | (simp_all; done) | (exfalso; omega)))
       · first
         | (exfalso; omega)
         | (refine E.opvg hF (r_bin (hF.at 0 rfl) ev_c eg_scalar (bi_int (ic_neq (c := false) (dec_ff hc11)) (by simp))) (wanted_by rfl rfl (hF.at 1 rfl) rfl) rfl rfl rfl fun a hF => ?_
            refine E.opv hF (r_pick_f (hF.at 2 rfl) (hF.at 0 rfl)) rfl rfl rfl rfl fun a hF => ?_
            refine E.nil ?_
            refine wp_cond_false (hF.at 0 rfl) ?_
            refine wp_skip ?_
            refine E.norm ?_
            refine wp_seq ?_
            refine E.seq ?_
            refine E.opv hF (r_move (hF.at 28 rfl)) rfl rfl rfl rfl fun a hF => ?_
            refine E.opv hF (r_assign (hF.at 0 rfl)) rfl rfl rfl rfl fun a hF => ?_
            refine E.nil ?_
            refine wp_seq ?_
            refine wp_seq ?_
            refine E.seq ?_
            refine E.opv hF (r_move (hF.at 29 rfl)) rfl rfl rfl rfl fun a hF => ?_
            by_cases hc18 : m ≤ 2
            · first
              | (exfalso; omega)
              | (refine E.opv hF (r_bin (hF.at 0 rfl) ev_c eg_scalar (bi_int (ic_leq (c := true) (dec_tt hc18)) (by simp))) rfl rfl rfl rfl fun a hF => ?_
                 refine E.nil ?_
                 refine wp_cond_true (hF.at 0 rfl) ?_
                 refine E.seq ?_
                 refine E.opv hF (r_move (hF.at 2 rfl)) rfl rfl rfl rfl fun a hF => ?_
                 refine E.opv hF (r_bin (hF.at 0 rfl) ev_c eg_scalar (ia_sub (by omega) (by omega))) rfl rfl rfl rfl fun a hF => ?_
                 refine E.opset (L' := [(11, .int .i64 (y - 1)), (72, .int .i64 (y - 1)), (71, .int .i64 y), (70, .bool true), (69, .int .i64 m), (68, .int .i64 y), (45, .bool false), (44, .bool false), (43, .int .i64 (fixE calC y m d)), (42, .bool false), (41, .bool false), (40, .int .i64 (fixE calJ y m d)), (10, .int .i64 (fixE calC y m d)), (9, .int .i64 (fixN calC y m d)), (39, .int .i64 (fixE calC y m d)), (38, .int .i64 (fixN calC y m d)), (32, .tuple #[.int .i64 (fixN calC y m d), .int .i64 (fixE calC y m d)]), (37, .tuple #[.int .i64 (fixN calC y m d), .int .i64 (fixE calC y m d)]), (36, .agg #[.int .i64 y, .int .i64 m, .int .i64 d]), (35, .int .i64 d), (34, .int .i64 m), (33, .int .i64 y), (8, .int .i64 (fixE calJ y m d)), (7, .int .i64 (fixN calJ y m d)), (31, .int .i64 (fixE calJ y m d)), (30, .int .i64 (fixN calJ y m d)), (24, .tuple #[.int .i64 (fixN calJ y m d), .int .i64 (fixE calJ y m d)]), (29, .tuple #[.int .i64 (fixN calJ y m d), .int .i64 (fixE calJ y m d)]), (28, .agg #[.int .i64 y, .int .i64 m, .int .i64 d]), (27, .int .i64 d), (26, .int .i64 m), (25, .int .i64 y), (2, .int .i64 d), (1, .int .i64 m), (0, .int .i64 y), (6, .bool false)]) hF (r_assign (hF.at 0 rfl)) rfl rfl rfl rfl fun a hF => ?_
                 refine E.nil ?_
                 refine wp_seq ?_
                 refine E.seq ?_
                 refine E.opv hF (r_move (hF.at 23 rfl)) rfl rfl rfl rfl fun a hF => ?_
                 refine E.opv hF (r_move (hF.at 14 rfl)) rfl rfl rfl rfl fun a hF => ?_
                 refine E.opv hF (r_bin (hF.at 1 rfl) (hF.at 0 rfl) eg_scalar (ia_sub (by omega) (by omega))) rfl rfl rfl rfl fun a hF => ?_
                 refine E.opv hF (r_move (hF.at 3 rfl)) rfl rfl rfl rfl fun a hF => ?_
                 refine E.call hF (r_call Tryd.func37 en37.1 en37.2 (map2 (hF.at 0 rfl) ev_c)) (down100_any (y - 1) _ (by omega) (by omega)) rfl rfl rfl rfl ?_
                 rintro e w19 ⟨rfl, bb⟩
                 refine ⟨_, rfl, ?_⟩
                 intro a hF
                 replace bel := below_to bel bb
                 clear bb
                 refine E.opv hF (r_move (hF.at 5 rfl)) rfl rfl rfl rfl fun a hF => ?_
                 refine E.call hF (r_call Tryd.func37 en37.1 en37.2 (map2 (hF.at 0 rfl) ev_c)) (down400_any (y - 1) _ (by omega) (by omega)) rfl rfl rfl rfl ?_
                 rintro e w20 ⟨rfl, bb⟩
                 refine ⟨_, rfl, ?_⟩
                 intro a hF
                 replace bel := below_to bel bb
                 clear bb
                 refine E.opv hF (r_bin (hF.at 2 rfl) (hF.at 0 rfl) eg_scalar (ia_sub (by omega) (by omega))) rfl rfl rfl rfl fun a hF => ?_
                 refine E.opv hF (r_bin (hF.at 0 rfl) ev_c eg_scalar (ia_sub (by omega) (by omega))) rfl rfl rfl rfl fun a hF => ?_
                 by_cases hc21 : (fixN calJ y m d) - (fixN calC y m d) = (((y - 1) / 100) - ((y - 1) / 400)) - 2
                 · first
                   | (exfalso; omega)
                   | (refine E.opv hF (r_bin (hF.at 6 rfl) (hF.at 0 rfl) eg_scalar (bi_int (ic_eql (c := true) (dec_tt hc21)) (by simp))) rfl rfl rfl rfl fun a hF => ?_
                      refine E.opset (L' := [(6, .bool true), (82, .bool true), (81, .int .i64 ((((y - 1) / 100) - ((y - 1) / 400)) - 2)), (80, .int .i64 (((y - 1) / 100) - ((y - 1) / 400))), (79, .int .i64 ((y - 1) / 400)), (78, .int .i64 (y - 1)), (77, .int .i64 ((y - 1) / 100)), (76, .int .i64 (y - 1)), (75, .int .i64 ((fixN calJ y m d) - (fixN calC y m d))), (74, .int .i64 (fixN calC y m d)), (73, .int .i64 (fixN calJ y m d)), (11, .int .i64 (y - 1)), (72, .int .i64 (y - 1)), (71, .int .i64 y), (70, .bool true), (69, .int .i64 m), (68, .int .i64 y), (45, .bool false), (44, .bool false), (43, .int .i64 (fixE calC y m d)), (42, .bool false), (41, .bool false), (40, .int .i64 (fixE calJ y m d)), (10, .int .i64 (fixE calC y m d)), (9, .int .i64 (fixN calC y m d)), (39, .int .i64 (fixE calC y m d)), (38, .int .i64 (fixN calC y m d)), (32, .tuple #[.int .i64 (fixN calC y m d), .int .i64 (fixE calC y m d)]), (37, .tuple #[.int .i64 (fixN calC y m d), .int .i64 (fixE calC y m d)]), (36, .agg #[.int .i64 y, .int .i64 m, .int .i64 d]), (35, .int .i64 d), (34, .int .i64 m), (33, .int .i64 y), (8, .int .i64 (fixE calJ y m d)), (7, .int .i64 (fixN calJ y m d)), (31, .int .i64 (fixE calJ y m d)), (30, .int .i64 (fixN calJ y m d)), (24, .tuple #[.int .i64 (fixN calJ y m d), .int .i64 (fixE calJ y m d)]), (29, .tuple #[.int .i64 (fixN calJ y m d), .int .i64 (fixE calJ y m d)]), (28, .agg #[.int .i64 y, .int .i64 m, .int .i64 d]), (27, .int .i64 d), (26, .int .i64 m), (25, .int .i64 y), (2, .int .i64 d), (1, .int .i64 m), (0, .int .i64 y)]) hF (r_assign (hF.at 0 rfl)) rfl rfl rfl rfl fun a hF => ?_
                      refine E.nil ?_
                      refine wp_ret ?_
                      refine bodyPost_ret (res_tmp Tryd.results13 (hF.at 0 rfl)) hF.dfr ?_
                      exact ⟨rfl, bel⟩)
                 · first
                   | (exfalso; omega)
                   | (refine E.opv hF (r_bin (hF.at 6 rfl) (hF.at 0 rfl) eg_scalar (bi_int (ic_eql (c := false) (dec_ff hc21)) (by simp))) rfl rfl rfl rfl fun a hF => ?_
                      refine E.opset (L' := [(6, .bool false), (82, .bool false), (81, .int .i64 ((((y - 1) / 100) - ((y - 1) / 400)) - 2)), (80, .int .i64 (((y - 1) / 100) - ((y - 1) / 400))), (79, .int .i64 ((y - 1) / 400)), (78, .int .i64 (y - 1)), (77, .int .i64 ((y - 1) / 100)), (76, .int .i64 (y - 1)), (75, .int .i64 ((fixN calJ y m d) - (fixN calC y m d))), (74, .int .i64 (fixN calC y m d)), (73, .int .i64 (fixN calJ y m d)), (11, .int .i64 (y - 1)), (72, .int .i64 (y - 1)), (71, .int .i64 y), (70, .bool true), (69, .int .i64 m), (68, .int .i64 y), (45, .bool false), (44, .bool false), (43, .int .i64 (fixE calC y m d)), (42, .bool false), (41, .bool false), (40, .int .i64 (fixE calJ y m d)), (10, .int .i64 (fixE calC y m d)), (9, .int .i64 (fixN calC y m d)), (39, .int .i64 (fixE calC y m d)), (38, .int .i64 (fixN calC y m d)), (32, .tuple #[.int .i64 (fixN calC y m d), .int .i64 (fixE calC y m d)]), (37, .tuple #[.int .i64 (fixN calC y m d), .int .i64 (fixE calC y m d)]), (36, .agg #[.int .i64 y, .int .i64 m, .int .i64 d]), (35, .int .i64 d), (34, .int .i64 m), (33, .int .i64 y), (8, .int .i64 (fixE calJ y m d)), (7, .int .i64 (fixN calJ y m d)), (31, .int .i64 (fixE calJ y m d)), (30, .int .i64 (fixN calJ y m d)), (24, .tuple #[.int .i64 (fixN calJ y m d), .int .i64 (fixE calJ y m d)]), (29, .tuple #[.int .i64 (fixN calJ y m d), .int .i64 (fixE calJ y m d)]), (28, .agg #[.int .i64 y, .int .i64 m, .int .i64 d]), (27, .int .i64 d), (26, .int .i64 m), (25, .int .i64 y), (2, .int .i64 d), (1, .int .i64 m), (0, .int .i64 y)]) hF (r_assign (hF.at 0 rfl)) rfl rfl rfl rfl fun a hF => ?_
                      refine E.nil ?_
                      refine wp_ret ?_
                      refine bodyPost_ret (res_tmp Tryd.results13 (hF.at 0 rfl)) hF.dfr ?_
                      refine ⟨rv_bool ?_, bel⟩
                      first | exact (decide_eq_true (by omega)).symm | (simp_all; done) | (exfalso; omega)))
            · first
              | (exfalso; omega)
              | (refine E.opv hF (r_bin (hF.at 0 rfl) ev_c eg_scalar (bi_int (ic_leq (c := false) (dec_ff hc18)) (by simp))) rfl rfl rfl rfl fun a hF => ?_
                 refine E.nil ?_
                 refine wp_cond_false (hF.at 0 rfl) ?_
                 refine wp_skip ?_
                 refine E.norm ?_
                 refine wp_seq ?_
                 refine E.seq ?_
                 refine E.opv hF (r_move (hF.at 21 rfl)) rfl rfl rfl rfl fun a hF => ?_
                 refine E.opv hF (r_move (hF.at 12 rfl)) rfl rfl rfl rfl fun a hF => ?_
                 refine E.opv hF (r_bin (hF.at 1 rfl) (hF.at 0 rfl) eg_scalar (ia_sub (by omega) (by omega))) rfl rfl rfl rfl fun a hF => ?_
                 refine E.opv hF (r_move (hF.at 5 rfl)) rfl rfl rfl rfl fun a hF => ?_
                 refine E.call hF (r_call Tryd.func37 en37.1 en37.2 (map2 (hF.at 0 rfl) ev_c)) (down100_any y _ (by omega) (by omega)) rfl rfl rfl rfl ?_
                 rintro e w22 ⟨rfl, bb⟩
                 refine ⟨_, rfl, ?_⟩
                 intro a hF
                 replace bel := below_to bel bb
                 clear bb
                 refine E.opv hF (r_move (hF.at 7 rfl)) rfl rfl rfl rfl fun a hF => ?_
                 refine E.call hF (r_call Tryd.func37 en37.1 en37.2 (map2 (hF.at 0 rfl) ev_c)) (down400_any y _ (by omega) (by omega)) rfl rfl rfl rfl ?_
                 rintro e w23 ⟨rfl, bb⟩
                 refine ⟨_, rfl, ?_⟩
                 intro a hF
                 replace bel := below_to bel bb
                 clear bb
                 refine E.opv hF (r_bin (hF.at 2 rfl) (hF.at 0 rfl) eg_scalar (ia_sub (by omega) (by omega))) rfl rfl rfl rfl fun a hF => ?_
                 refine E.opv hF (r_bin (hF.at 0 rfl) ev_c eg_scalar (ia_sub (by omega) (by omega))) rfl rfl rfl rfl fun a hF => ?_
                 by_cases hc24 : (fixN calJ y m d) - (fixN calC y m d) = ((y / 100) - (y / 400)) - 2
                 · first
                   | (exfalso; omega)
                   | (refine E.opv hF (r_bin (hF.at 6 rfl) (hF.at 0 rfl) eg_scalar (bi_int (ic_eql (c := true) (dec_tt hc24)) (by simp))) rfl rfl rfl rfl fun a hF => ?_
                      refine E.opset (L' := [(6, .bool true), (82, .bool true), (81, .int .i64 (((y / 100) - (y / 400)) - 2)), (80, .int .i64 ((y / 100) - (y / 400))), (79, .int .i64 (y / 400)), (78, .int .i64 y), (77, .int .i64 (y / 100)), (76, .int .i64 y), (75, .int .i64 ((fixN calJ y m d) - (fixN calC y m d))), (74, .int .i64 (fixN calC y m d)), (73, .int .i64 (fixN calJ y m d)), (70, .bool false), (69, .int .i64 m), (11, .int .i64 y), (68, .int .i64 y), (45, .bool false), (44, .bool false), (43, .int .i64 (fixE calC y m d)), (42, .bool false), (41, .bool false), (40, .int .i64 (fixE calJ y m d)), (10, .int .i64 (fixE calC y m d)), (9, .int .i64 (fixN calC y m d)), (39, .int .i64 (fixE calC y m d)), (38, .int .i64 (fixN calC y m d)), (32, .tuple #[.int .i64 (fixN calC y m d), .int .i64 (fixE calC y m d)]), (37, .tuple #[.int .i64 (fixN calC y m d), .int .i64 (fixE calC y m d)]), (36, .agg #[.int .i64 y, .int .i64 m, .int .i64 d]), (35, .int .i64 d), (34, .int .i64 m), (33, .int .i64 y), (8, .int .i64 (fixE calJ y m d)), (7, .int .i64 (fixN calJ y m d)), (31, .int .i64 (fixE calJ y m d)), (30, .int .i64 (fixN calJ y m d)), (24, .tuple #[.int .i64 (fixN calJ y m d), .int .i64 (fixE calJ y m d)]), (29, .tuple #[.int .i64 (fixN calJ y m d), .int .i64 (fixE calJ y m d)]), (28, .agg #[.int .i64 y, .int .i64 m, .int .i64 d]), (27, .int .i64 d), (26, .int .i64 m), (25, .int .i64 y), (2, .int .i64 d), (1, .int .i64 m), (0, .int .i64 y)]) hF (r_assign (hF.at 0 rfl)) rfl rfl rfl rfl fun a hF => ?_
                      refine E.nil ?_
                      refine wp_ret ?_
                      refine bodyPost_ret (res_tmp Tryd.results13 (hF.at 0 rfl)) hF.dfr ?_
                      exact ⟨rfl, bel⟩)
                 · first
                   | (exfalso; omega)
                   | (refine E.opv hF (r_bin (hF.at 6 rfl) (hF.at 0 rfl) eg_scalar (bi_int (ic_eql (c := false) (dec_ff hc24)) (by simp))) rfl rfl rfl rfl fun a hF => ?_
                      refine E.opset (L' := [(6, .bool false), (82, .bool false), (81, .int .i64 (((y / 100) - (y / 400)) - 2)), (80, .int .i64 ((y / 100) - (y / 400))), (79, .int .i64 (y / 400)), (78, .int .i64 y), (77, .int .i64 (y / 100)), (76, .int .i64 y), (75, .int .i64 ((fixN calJ y m d) - (fixN calC y m d))), (74, .int .i64 (fixN calC y m d)), (73, .int .i64 (fixN calJ y m d)), (70, .bool false), (69, .int .i64 m), (11, .int .i64 y), (68, .int .i64 y), (45, .bool false), (44, .bool false), (43, .int .i64 (fixE calC y m d)), (42, .bool false), (41, .bool false), (40, .int .i64 (fixE calJ y m d)), (10, .int .i64 (fixE calC y m d)), (9, .int .i64 (fixN calC y m d)), (39, .int .i64 (fixE calC y m d)), (38, .int .i64 (fixN calC y m d)), (32, .tuple #[.int .i64 (fixN calC y m d), .int .i64 (fixE calC y m d)]), (37, .tuple #[.int .i64 (fixN calC y m d), .int .i64 (fixE calC y m d)]), (36, .agg #[.int .i64 y, .int .i64 m, .int .i64 d]), (35, .int .i64 d), (34, .int .i64 m), (33, .int .i64 y), (8, .int .i64 (fixE calJ y m d)), (7, .int .i64 (fixN calJ y m d)), (31, .int .i64 (fixE calJ y m d)), (30, .int .i64 (fixN calJ y m d)), (24, .tuple #[.int .i64 (fixN calJ y m d), .int .i64 (fixE calJ y m d)]), (29, .tuple #[.int .i64 (fixN calJ y m d), .int .i64 (fixE calJ y m d)]), (28, .agg #[.int .i64 y, .int .i64 m, .int .i64 d]), (27, .int .i64 d), (26, .int .i64 m), (25, .int .i64 y), (2, .int .i64 d), (1, .int .i64 m), (0, .int .i64 y)]) hF (r_assign (hF.at 0 rfl)) rfl rfl rfl rfl fun a hF => ?_
                      refine E.nil ?_
                      refine wp_ret ?_
                      refine bodyPost_ret (res_tmp Tryd.results13 (hF.at 0 rfl)) hF.dfr ?_
                      refine ⟨rv_bool ?_, bel⟩
                      first | exact (decide_eq_true (by omega)).symm | (simp_all; done) | (exfalso; omega)))))

end Go.Proofs.YtcgbllbhagijjaaDoor
