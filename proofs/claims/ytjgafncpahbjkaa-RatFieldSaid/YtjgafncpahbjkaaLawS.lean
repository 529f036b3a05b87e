/- law03's awake. -/
import Derived.Test.YtjgafncpahbjkaaLawR
import Derived.Test.YtjgafncpahbjkaaWhG
import Derived.Test.YtjgafncpahbjkaaGF
import Derived.Test.YtjgafncpahbjkaaLawB
import Derived.Deep.RegionHeld3
namespace Go.Proofs.Ytjgafncpahbjkaa
open Go.RowKit
set_option maxRecDepth 100000

set_option maxHeartbeats 4000000 in
theorem awake3_any (w : World) :
    Calls Try.prog 23 #[] w (TruePost w) := by
  go_enter Try.func23, Try.ntmps23
  go_wp2_with fail
  refine (whOf_any (-7) _ (by decide) (by decide)).mono ?_
  rintro e w1 ⟨v1, rfl, h1, bb⟩
  have bel := bb
  clear bb
  go_wp2_with fail
  refine (whOf_any (2) _ (by decide) (by decide)).mono ?_
  rintro e w2 ⟨v2, rfl, h2, bb⟩
  replace h1 := h1.below bb
  replace bel := below_to bel bb
  clear bb
  go_wp2_with fail
  refine (whDivMod_any _ _ (-7) (2) _ h1.wz h2.wz 1 (Lim.of32 (by decide)) (by omega)).mono ?_
  rintro e w3 ⟨v3, v4, rfl, q1, r1, bb⟩
  replace h1 := h1.below bb
  replace h2 := h2.below bb
  replace bel := below_to bel bb
  clear bb
  rw [show ((-7) : Int).fdiv (2) = -4 from by decide] at q1
  rw [show fr (-7) (2) = 1 from by decide] at r1
  clear h1 h2
  obtain ⟨bq1, aq1, nq1, cq1, rfl⟩ := q1.form
  obtain ⟨br1, ar1, nr1, cr1, rfl⟩ := r1.form
  have lq10 : (w3.alloc (.cells #[.bool bq1, .slice aq1 nq1 cq1] 37)).cell? ⟨w3.heap.size, 0, none⟩ = some (.bool bq1) := by simp
  replace lq10 := (World.cell?_alloc_old (w3.alloc (.cells #[.bool bq1, .slice aq1 nq1 cq1] 37)) (.cells #[.bool br1, .slice ar1 nr1 cr1] 37) ⟨w3.heap.size, 0, none⟩ (by first | (simp; done) | (simp; omega) | omega)).trans lq10
  have lq11 : (w3.alloc (.cells #[.bool bq1, .slice aq1 nq1 cq1] 37)).cell? ⟨w3.heap.size, 1, none⟩ = some (.slice aq1 nq1 cq1) := by simp
  replace lq11 := (World.cell?_alloc_old (w3.alloc (.cells #[.bool bq1, .slice aq1 nq1 cq1] 37)) (.cells #[.bool br1, .slice ar1 nr1 cr1] 37) ⟨w3.heap.size, 1, none⟩ (by first | (simp; done) | (simp; omega) | omega)).trans lq11
  have lr10 : ((w3.alloc (.cells #[.bool bq1, .slice aq1 nq1 cq1] 37)).alloc (.cells #[.bool br1, .slice ar1 nr1 cr1] 37)).cell? ⟨(w3.heap.size + 1), 0, none⟩ = some (.bool br1) := by simp
  have lr11 : ((w3.alloc (.cells #[.bool bq1, .slice aq1 nq1 cq1] 37)).alloc (.cells #[.bool br1, .slice ar1 nr1 cr1] 37)).cell? ⟨(w3.heap.size + 1), 1, none⟩ = some (.slice ar1 nr1 cr1) := by simp
  have hl : Below w3.heap.size w3 ((w3.alloc (.cells #[.bool bq1, .slice aq1 nq1 cq1] 37)).alloc (.cells #[.bool br1, .slice ar1 nr1 cr1] 37)) := ((Below.refl _ _).alloc (Nat.le_refl _) (.cells #[.bool bq1, .slice aq1 nq1 cq1] 37)).alloc (by first | (simp; done) | (simp; omega) | omega) (.cells #[.bool br1, .slice ar1 nr1 cr1] 37)
  replace q1 := q1.below hl
  replace r1 := r1.below hl
  replace bel := below_to bel hl
  clear hl
  go_wp2_with fail
  refine (whOf_any (7) _ (by decide) (by decide)).mono ?_
  rintro e w4 ⟨v1, rfl, h1, bb⟩
  replace q1 := q1.below bb
  replace r1 := r1.below bb
  replace lq10 := (bb.cell (p := ⟨w3.heap.size, 0, none⟩) (cell_lt lq10)).trans lq10
  replace lq11 := (bb.cell (p := ⟨w3.heap.size, 1, none⟩) (cell_lt lq11)).trans lq11
  replace lr10 := (bb.cell (p := ⟨(w3.heap.size + 1), 0, none⟩) (cell_lt lr10)).trans lr10
  replace lr11 := (bb.cell (p := ⟨(w3.heap.size + 1), 1, none⟩) (cell_lt lr11)).trans lr11
  replace bel := below_to bel bb
  clear bb
  go_wp2_with fail
  refine (whOf_any (-2) _ (by decide) (by decide)).mono ?_
  rintro e w5 ⟨v2, rfl, h2, bb⟩
  replace q1 := q1.below bb
  replace r1 := r1.below bb
  replace h1 := h1.below bb
  replace lq10 := (bb.cell (p := ⟨w3.heap.size, 0, none⟩) (cell_lt lq10)).trans lq10
  replace lq11 := (bb.cell (p := ⟨w3.heap.size, 1, none⟩) (cell_lt lq11)).trans lq11
  replace lr10 := (bb.cell (p := ⟨(w3.heap.size + 1), 0, none⟩) (cell_lt lr10)).trans lr10
  replace lr11 := (bb.cell (p := ⟨(w3.heap.size + 1), 1, none⟩) (cell_lt lr11)).trans lr11
  replace bel := below_to bel bb
  clear bb
  go_wp2_with fail
  refine (whDivMod_any _ _ (7) (-2) _ h1.wz h2.wz 1 (Lim.of32 (by decide)) (by omega)).mono ?_
  rintro e w6 ⟨v3, v4, rfl, q2, r2, bb⟩
  replace q1 := q1.below bb
  replace r1 := r1.below bb
  replace h1 := h1.below bb
  replace h2 := h2.below bb
  replace lq10 := (bb.cell (p := ⟨w3.heap.size, 0, none⟩) (cell_lt lq10)).trans lq10
  replace lq11 := (bb.cell (p := ⟨w3.heap.size, 1, none⟩) (cell_lt lq11)).trans lq11
  replace lr10 := (bb.cell (p := ⟨(w3.heap.size + 1), 0, none⟩) (cell_lt lr10)).trans lr10
  replace lr11 := (bb.cell (p := ⟨(w3.heap.size + 1), 1, none⟩) (cell_lt lr11)).trans lr11
  replace bel := below_to bel bb
  clear bb
  rw [show ((7) : Int).fdiv (-2) = -4 from by decide] at q2
  rw [show fr (7) (-2) = -1 from by decide] at r2
  clear h1 h2
  obtain ⟨bq2, aq2, nq2, cq2, rfl⟩ := q2.form
  obtain ⟨br2, ar2, nr2, cr2, rfl⟩ := r2.form
  have lq20 : (w6.alloc (.cells #[.bool bq2, .slice aq2 nq2 cq2] 37)).cell? ⟨w6.heap.size, 0, none⟩ = some (.bool bq2) := by simp
  replace lq20 := (World.cell?_alloc_old (w6.alloc (.cells #[.bool bq2, .slice aq2 nq2 cq2] 37)) (.cells #[.bool br2, .slice ar2 nr2 cr2] 37) ⟨w6.heap.size, 0, none⟩ (by first | (simp; done) | (simp; omega) | omega)).trans lq20
  have lq21 : (w6.alloc (.cells #[.bool bq2, .slice aq2 nq2 cq2] 37)).cell? ⟨w6.heap.size, 1, none⟩ = some (.slice aq2 nq2 cq2) := by simp
  replace lq21 := (World.cell?_alloc_old (w6.alloc (.cells #[.bool bq2, .slice aq2 nq2 cq2] 37)) (.cells #[.bool br2, .slice ar2 nr2 cr2] 37) ⟨w6.heap.size, 1, none⟩ (by first | (simp; done) | (simp; omega) | omega)).trans lq21
  have lr20 : ((w6.alloc (.cells #[.bool bq2, .slice aq2 nq2 cq2] 37)).alloc (.cells #[.bool br2, .slice ar2 nr2 cr2] 37)).cell? ⟨(w6.heap.size + 1), 0, none⟩ = some (.bool br2) := by simp
  have lr21 : ((w6.alloc (.cells #[.bool bq2, .slice aq2 nq2 cq2] 37)).alloc (.cells #[.bool br2, .slice ar2 nr2 cr2] 37)).cell? ⟨(w6.heap.size + 1), 1, none⟩ = some (.slice ar2 nr2 cr2) := by simp
  have hl : Below w6.heap.size w6 ((w6.alloc (.cells #[.bool bq2, .slice aq2 nq2 cq2] 37)).alloc (.cells #[.bool br2, .slice ar2 nr2 cr2] 37)) := ((Below.refl _ _).alloc (Nat.le_refl _) (.cells #[.bool bq2, .slice aq2 nq2 cq2] 37)).alloc (by first | (simp; done) | (simp; omega) | omega) (.cells #[.bool br2, .slice ar2 nr2 cr2] 37)
  replace q1 := q1.below hl
  replace r1 := r1.below hl
  replace q2 := q2.below hl
  replace r2 := r2.below hl
  replace lq10 := (hl.cell (p := ⟨w3.heap.size, 0, none⟩) (cell_lt lq10)).trans lq10
  replace lq11 := (hl.cell (p := ⟨w3.heap.size, 1, none⟩) (cell_lt lq11)).trans lq11
  replace lr10 := (hl.cell (p := ⟨(w3.heap.size + 1), 0, none⟩) (cell_lt lr10)).trans lr10
  replace lr11 := (hl.cell (p := ⟨(w3.heap.size + 1), 1, none⟩) (cell_lt lr11)).trans lr11
  replace bel := below_to bel hl
  clear hl
  go_wp2_with fail
  have bd := cell_bd lq10
  replace q1 := q1.below bd
  replace r1 := r1.below bd
  replace q2 := q2.below bd
  replace r2 := r2.below bd
  replace lq10 := (bd.cell (p := ⟨w3.heap.size, 0, none⟩) (cell_lt lq10)).trans lq10
  replace lq11 := (bd.cell (p := ⟨w3.heap.size, 1, none⟩) (cell_lt lq11)).trans lq11
  replace lr10 := (bd.cell (p := ⟨(w3.heap.size + 1), 0, none⟩) (cell_lt lr10)).trans lr10
  replace lr11 := (bd.cell (p := ⟨(w3.heap.size + 1), 1, none⟩) (cell_lt lr11)).trans lr11
  replace lq20 := (bd.cell (p := ⟨w6.heap.size, 0, none⟩) (cell_lt lq20)).trans lq20
  replace lq21 := (bd.cell (p := ⟨w6.heap.size, 1, none⟩) (cell_lt lq21)).trans lq21
  replace lr20 := (bd.cell (p := ⟨(w6.heap.size + 1), 0, none⟩) (cell_lt lr20)).trans lr20
  replace lr21 := (bd.cell (p := ⟨(w6.heap.size + 1), 1, none⟩) (cell_lt lr21)).trans lr21
  replace bel := below_to bel bd
  clear bd
  go_region_held3 (fun w' => w'.cell? ⟨w3.heap.size, 0, none⟩ = some (.bool bq1) ∧ w'.cell? ⟨w3.heap.size, 1, none⟩ = some (.slice aq1 nq1 cq1) ∧ w'.cell? ⟨(w3.heap.size + 1), 0, none⟩ = some (.bool br1) ∧ w'.cell? ⟨(w3.heap.size + 1), 1, none⟩ = some (.slice ar1 nr1 cr1) ∧ w'.cell? ⟨w6.heap.size, 0, none⟩ = some (.bool bq2) ∧ w'.cell? ⟨w6.heap.size, 1, none⟩ = some (.slice aq2 nq2 cq2) ∧ w'.cell? ⟨(w6.heap.size + 1), 0, none⟩ = some (.bool br2) ∧ w'.cell? ⟨(w6.heap.size + 1), 1, none⟩ = some (.slice ar2 nr2 cr2)) (first | exact ⟨lq10, lq11, lr10, lr11, lq20, lq21, lr20, lr21⟩ | go_keep)
    (first
    | (go_at_call 82; (with_reducible refine (rOf_any (-4) _ (by decide) (by decide)).mono ?_); rintro e w7 ⟨u1, rfl, e1, bb⟩; replace q1 := q1.below bb; replace r1 := r1.below bb; replace q2 := q2.below bb; replace r2 := r2.below bb; replace lq10 := (bb.cell (p := ⟨w3.heap.size, 0, none⟩) (cell_lt lq10)).trans lq10; replace lq11 := (bb.cell (p := ⟨w3.heap.size, 1, none⟩) (cell_lt lq11)).trans lq11; replace lr10 := (bb.cell (p := ⟨(w3.heap.size + 1), 0, none⟩) (cell_lt lr10)).trans lr10; replace lr11 := (bb.cell (p := ⟨(w3.heap.size + 1), 1, none⟩) (cell_lt lr11)).trans lr11; replace lq20 := (bb.cell (p := ⟨w6.heap.size, 0, none⟩) (cell_lt lq20)).trans lq20; replace lq21 := (bb.cell (p := ⟨w6.heap.size, 1, none⟩) (cell_lt lq21)).trans lq21; replace lr20 := (bb.cell (p := ⟨(w6.heap.size + 1), 0, none⟩) (cell_lt lr20)).trans lr20; replace lr21 := (bb.cell (p := ⟨(w6.heap.size + 1), 1, none⟩) (cell_lt lr21)).trans lr21; replace bel := below_to bel bb; clear bb)
    | (go_at_call 28; (with_reducible refine (Is3_any _ _ _ _ q1 e1).mono ?_); rintro e w8 ⟨rfl, bb⟩; replace q1 := q1.below bb; replace r1 := r1.below bb; replace q2 := q2.below bb; replace r2 := r2.below bb; replace e1 := e1.below bb; replace lq10 := (bb.cell (p := ⟨w3.heap.size, 0, none⟩) (cell_lt lq10)).trans lq10; replace lq11 := (bb.cell (p := ⟨w3.heap.size, 1, none⟩) (cell_lt lq11)).trans lq11; replace lr10 := (bb.cell (p := ⟨(w3.heap.size + 1), 0, none⟩) (cell_lt lr10)).trans lr10; replace lr11 := (bb.cell (p := ⟨(w3.heap.size + 1), 1, none⟩) (cell_lt lr11)).trans lr11; replace lq20 := (bb.cell (p := ⟨w6.heap.size, 0, none⟩) (cell_lt lq20)).trans lq20; replace lq21 := (bb.cell (p := ⟨w6.heap.size, 1, none⟩) (cell_lt lq21)).trans lq21; replace lr20 := (bb.cell (p := ⟨(w6.heap.size + 1), 0, none⟩) (cell_lt lr20)).trans lr20; replace lr21 := (bb.cell (p := ⟨(w6.heap.size + 1), 1, none⟩) (cell_lt lr21)).trans lr21; replace bel := below_to bel bb; clear bb; clear e1)
    | (go_at_call 82; (with_reducible refine (rOf_any (1) _ (by decide) (by decide)).mono ?_); rintro e w9 ⟨u2, rfl, e2, bb⟩; replace q1 := q1.below bb; replace r1 := r1.below bb; replace q2 := q2.below bb; replace r2 := r2.below bb; replace lq10 := (bb.cell (p := ⟨w3.heap.size, 0, none⟩) (cell_lt lq10)).trans lq10; replace lq11 := (bb.cell (p := ⟨w3.heap.size, 1, none⟩) (cell_lt lq11)).trans lq11; replace lr10 := (bb.cell (p := ⟨(w3.heap.size + 1), 0, none⟩) (cell_lt lr10)).trans lr10; replace lr11 := (bb.cell (p := ⟨(w3.heap.size + 1), 1, none⟩) (cell_lt lr11)).trans lr11; replace lq20 := (bb.cell (p := ⟨w6.heap.size, 0, none⟩) (cell_lt lq20)).trans lq20; replace lq21 := (bb.cell (p := ⟨w6.heap.size, 1, none⟩) (cell_lt lq21)).trans lq21; replace lr20 := (bb.cell (p := ⟨(w6.heap.size + 1), 0, none⟩) (cell_lt lr20)).trans lr20; replace lr21 := (bb.cell (p := ⟨(w6.heap.size + 1), 1, none⟩) (cell_lt lr21)).trans lr21; replace bel := below_to bel bb; clear bb)
    | (go_at_call 28; (with_reducible refine (Is3_any _ _ _ _ r1 e2).mono ?_); rintro e w10 ⟨rfl, bb⟩; replace q1 := q1.below bb; replace r1 := r1.below bb; replace q2 := q2.below bb; replace r2 := r2.below bb; replace e2 := e2.below bb; replace lq10 := (bb.cell (p := ⟨w3.heap.size, 0, none⟩) (cell_lt lq10)).trans lq10; replace lq11 := (bb.cell (p := ⟨w3.heap.size, 1, none⟩) (cell_lt lq11)).trans lq11; replace lr10 := (bb.cell (p := ⟨(w3.heap.size + 1), 0, none⟩) (cell_lt lr10)).trans lr10; replace lr11 := (bb.cell (p := ⟨(w3.heap.size + 1), 1, none⟩) (cell_lt lr11)).trans lr11; replace lq20 := (bb.cell (p := ⟨w6.heap.size, 0, none⟩) (cell_lt lq20)).trans lq20; replace lq21 := (bb.cell (p := ⟨w6.heap.size, 1, none⟩) (cell_lt lq21)).trans lq21; replace lr20 := (bb.cell (p := ⟨(w6.heap.size + 1), 0, none⟩) (cell_lt lr20)).trans lr20; replace lr21 := (bb.cell (p := ⟨(w6.heap.size + 1), 1, none⟩) (cell_lt lr21)).trans lr21; replace bel := below_to bel bb; clear bb; clear e2)
    | (go_at_call 28; (with_reducible refine (Is3_any _ _ _ _ q2 e1).mono ?_); rintro e w12 ⟨rfl, bb⟩; replace q1 := q1.below bb; replace r1 := r1.below bb; replace q2 := q2.below bb; replace r2 := r2.below bb; replace e1 := e1.below bb; replace lq10 := (bb.cell (p := ⟨w3.heap.size, 0, none⟩) (cell_lt lq10)).trans lq10; replace lq11 := (bb.cell (p := ⟨w3.heap.size, 1, none⟩) (cell_lt lq11)).trans lq11; replace lr10 := (bb.cell (p := ⟨(w3.heap.size + 1), 0, none⟩) (cell_lt lr10)).trans lr10; replace lr11 := (bb.cell (p := ⟨(w3.heap.size + 1), 1, none⟩) (cell_lt lr11)).trans lr11; replace lq20 := (bb.cell (p := ⟨w6.heap.size, 0, none⟩) (cell_lt lq20)).trans lq20; replace lq21 := (bb.cell (p := ⟨w6.heap.size, 1, none⟩) (cell_lt lq21)).trans lq21; replace lr20 := (bb.cell (p := ⟨(w6.heap.size + 1), 0, none⟩) (cell_lt lr20)).trans lr20; replace lr21 := (bb.cell (p := ⟨(w6.heap.size + 1), 1, none⟩) (cell_lt lr21)).trans lr21; replace bel := below_to bel bb; clear bb; clear e1)
    | (go_at_call 82; (with_reducible refine (rOf_any (-1) _ (by decide) (by decide)).mono ?_); rintro e w13 ⟨u4, rfl, e4, bb⟩; replace q1 := q1.below bb; replace r1 := r1.below bb; replace q2 := q2.below bb; replace r2 := r2.below bb; replace lq10 := (bb.cell (p := ⟨w3.heap.size, 0, none⟩) (cell_lt lq10)).trans lq10; replace lq11 := (bb.cell (p := ⟨w3.heap.size, 1, none⟩) (cell_lt lq11)).trans lq11; replace lr10 := (bb.cell (p := ⟨(w3.heap.size + 1), 0, none⟩) (cell_lt lr10)).trans lr10; replace lr11 := (bb.cell (p := ⟨(w3.heap.size + 1), 1, none⟩) (cell_lt lr11)).trans lr11; replace lq20 := (bb.cell (p := ⟨w6.heap.size, 0, none⟩) (cell_lt lq20)).trans lq20; replace lq21 := (bb.cell (p := ⟨w6.heap.size, 1, none⟩) (cell_lt lq21)).trans lq21; replace lr20 := (bb.cell (p := ⟨(w6.heap.size + 1), 0, none⟩) (cell_lt lr20)).trans lr20; replace lr21 := (bb.cell (p := ⟨(w6.heap.size + 1), 1, none⟩) (cell_lt lr21)).trans lr21; replace bel := below_to bel bb; clear bb)
    | (go_at_call 28; (with_reducible refine (Is3_any _ _ _ _ r2 e4).mono ?_); rintro e w14 ⟨rfl, bb⟩; replace q1 := q1.below bb; replace r1 := r1.below bb; replace q2 := q2.below bb; replace r2 := r2.below bb; replace e4 := e4.below bb; replace lq10 := (bb.cell (p := ⟨w3.heap.size, 0, none⟩) (cell_lt lq10)).trans lq10; replace lq11 := (bb.cell (p := ⟨w3.heap.size, 1, none⟩) (cell_lt lq11)).trans lq11; replace lr10 := (bb.cell (p := ⟨(w3.heap.size + 1), 0, none⟩) (cell_lt lr10)).trans lr10; replace lr11 := (bb.cell (p := ⟨(w3.heap.size + 1), 1, none⟩) (cell_lt lr11)).trans lr11; replace lq20 := (bb.cell (p := ⟨w6.heap.size, 0, none⟩) (cell_lt lq20)).trans lq20; replace lq21 := (bb.cell (p := ⟨w6.heap.size, 1, none⟩) (cell_lt lq21)).trans lq21; replace lr20 := (bb.cell (p := ⟨(w6.heap.size + 1), 0, none⟩) (cell_lt lr20)).trans lr20; replace lr21 := (bb.cell (p := ⟨(w6.heap.size + 1), 1, none⟩) (cell_lt lr21)).trans lr21; replace bel := below_to bel bb; clear bb; clear e4)
    | (go_at_call 36; (with_reducible refine (whOf_any (-3) _ (by decide) (by decide)).mono ?_); rintro e w15 ⟨u5, rfl, e5, bb⟩; replace q1 := q1.below bb; replace r1 := r1.below bb; replace q2 := q2.below bb; replace r2 := r2.below bb; replace lq10 := (bb.cell (p := ⟨w3.heap.size, 0, none⟩) (cell_lt lq10)).trans lq10; replace lq11 := (bb.cell (p := ⟨w3.heap.size, 1, none⟩) (cell_lt lq11)).trans lq11; replace lr10 := (bb.cell (p := ⟨(w3.heap.size + 1), 0, none⟩) (cell_lt lr10)).trans lr10; replace lr11 := (bb.cell (p := ⟨(w3.heap.size + 1), 1, none⟩) (cell_lt lr11)).trans lr11; replace lq20 := (bb.cell (p := ⟨w6.heap.size, 0, none⟩) (cell_lt lq20)).trans lq20; replace lq21 := (bb.cell (p := ⟨w6.heap.size, 1, none⟩) (cell_lt lq21)).trans lq21; replace lr20 := (bb.cell (p := ⟨(w6.heap.size + 1), 0, none⟩) (cell_lt lr20)).trans lr20; replace lr21 := (bb.cell (p := ⟨(w6.heap.size + 1), 1, none⟩) (cell_lt lr21)).trans lr21; replace bel := below_to bel bb; clear bb)
    | (go_at_call 29; have kc := whSign_any _ (-3) _ e5.wz; rw [show sz (-3) = -1 from by decide] at kc; (with_reducible refine kc.mono ?_); rintro e w16 ⟨rfl, bb⟩; clear kc; replace q1 := q1.below bb; replace r1 := r1.below bb; replace q2 := q2.below bb; replace r2 := r2.below bb; replace e5 := e5.below bb; replace lq10 := (bb.cell (p := ⟨w3.heap.size, 0, none⟩) (cell_lt lq10)).trans lq10; replace lq11 := (bb.cell (p := ⟨w3.heap.size, 1, none⟩) (cell_lt lq11)).trans lq11; replace lr10 := (bb.cell (p := ⟨(w3.heap.size + 1), 0, none⟩) (cell_lt lr10)).trans lr10; replace lr11 := (bb.cell (p := ⟨(w3.heap.size + 1), 1, none⟩) (cell_lt lr11)).trans lr11; replace lq20 := (bb.cell (p := ⟨w6.heap.size, 0, none⟩) (cell_lt lq20)).trans lq20; replace lq21 := (bb.cell (p := ⟨w6.heap.size, 1, none⟩) (cell_lt lq21)).trans lq21; replace lr20 := (bb.cell (p := ⟨(w6.heap.size + 1), 0, none⟩) (cell_lt lr20)).trans lr20; replace lr21 := (bb.cell (p := ⟨(w6.heap.size + 1), 1, none⟩) (cell_lt lr21)).trans lr21; replace bel := below_to bel bb; clear bb))
  go_wp2
  go_ret
  exact ⟨rfl, bel⟩
end Go.Proofs.Ytjgafncpahbjkaa
