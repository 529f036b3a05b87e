/- The walk of WholeSmall. -/
import Derived.Test.YtbjgcnhilakimaaLawU
import Derived.Test.YtbjgcnhilakimaaWhI
import Derived.Test.YtbjgcnhilakimaaWhH
import Derived.Deep.RegionHeld3
namespace Go.Proofs.Ytbjgcnhilakimaa
open Go.RowKit
set_option maxRecDepth 100000

theorem ci_ge {x y : Int} (h : y ≤ x) : 0 ≤ ci x y := by unfold ci; split <;> (try split) <;> omega
theorem ci_le {x y : Int} (h : x ≤ y) : ci x y ≤ 0 := by unfold ci; split <;> (try split) <;> omega
set_option maxHeartbeats 4000000 in
theorem wholeSmall_walk (n : Int) (neg2 : Bool) (a2 : Option Addr) (n2 c2 : Nat) (x2 : List Nat) (w : World) (hn0 : -9223372036854775808 ≤ n) (hn1 : n ≤ 9223372036854775807) (h2 : InX w a2 n2 c2 x2) :
    Calls Try.prog 17 #[.int .i64 n, .agg #[.bool neg2, .slice a2 n2 c2]] w (TruePost w) := by
  have hb0 := (Below.refl w.heap.size w).alloc (Nat.le_refl _) (.cells #[.bool neg2, .slice a2 n2 c2] 71)
  replace h2 := h2.below hb0
  have s00 : (w.alloc (.cells #[.bool neg2, .slice a2 n2 c2] 71)).cell? ⟨w.heap.size, 0, none⟩ = some (.bool neg2) := by simp
  have s01 : (w.alloc (.cells #[.bool neg2, .slice a2 n2 c2] 71)).cell? ⟨w.heap.size, 1, none⟩ = some (.slice a2 n2 c2) := by simp
  have hz0 : rawZ neg2 x2 4 = rawZ neg2 x2 4 := rfl
  clear hz0
  go_enter Try.func17, Try.ntmps17
  go_wp2_with fail
  refine (awake3_any _).mono ?_
  rintro e w1 ⟨rfl, bb⟩
  replace h2 := h2.below bb
  replace s00 := (bb.cell (p := ⟨w.heap.size, 0, none⟩) (cell_lt s00)).trans s00
  replace s01 := (bb.cell (p := ⟨w.heap.size, 1, none⟩) (cell_lt s01)).trans s01
  have bel := bb
  clear bb
  go_wp2_with fail
  refine (whOf_any n _ hn0 hn1).mono ?_
  rintro e w2 ⟨v1, rfl, d1, bb⟩
  replace h2 := h2.below bb
  replace s00 := (bb.cell (p := ⟨w.heap.size, 0, none⟩) (cell_lt s00)).trans s00
  replace s01 := (bb.cell (p := ⟨w.heap.size, 1, none⟩) (cell_lt s01)).trans s01
  replace bel := below_to bel bb
  clear bb
  go_wp2_with fail
  refine (whSmall_yes _ n _ d1.wz hn0 hn1).mono ?_
  rintro e w3 ⟨rfl, bb⟩
  replace h2 := h2.below bb
  replace d1 := d1.below bb
  replace s00 := (bb.cell (p := ⟨w.heap.size, 0, none⟩) (cell_lt s00)).trans s00
  replace s01 := (bb.cell (p := ⟨w.heap.size, 1, none⟩) (cell_lt s01)).trans s01
  replace bel := below_to bel bb
  clear bb
  clear d1
  go_wp2_with fail
  refine (own_any neg2 a2 n2 c2 4 x2 _ h2 (by omega)).mono ?_
  rintro e w4 ⟨v2, rfl, zp, bb⟩
  replace h2 := h2.below bb
  replace s00 := (bb.cell (p := ⟨w.heap.size, 0, none⟩) (cell_lt s00)).trans s00
  replace s01 := (bb.cell (p := ⟨w.heap.size, 1, none⟩) (cell_lt s01)).trans s01
  replace bel := below_to bel bb
  clear bb
  clear h2 s00 s01
  obtain ⟨bp, ap, np, cp, rfl⟩ := zp.form
  have lp0 : (w4.alloc (.cells #[.bool bp, .slice ap np cp] 73)).cell? ⟨w4.heap.size, 0, none⟩ = some (.bool bp) := by simp
  have lp1 : (w4.alloc (.cells #[.bool bp, .slice ap np cp] 73)).cell? ⟨w4.heap.size, 1, none⟩ = some (.slice ap np cp) := by simp
  have hl : Below w4.heap.size w4 (w4.alloc (.cells #[.bool bp, .slice ap np cp] 73)) := (Below.refl _ _).alloc (Nat.le_refl _) (.cells #[.bool bp, .slice ap np cp] 73)
  replace zp := zp.below hl
  replace bel := below_to bel hl
  clear hl
  obtain ⟨z, hz⟩ : ∃ z, z = rawZ neg2 x2 4 := ⟨_, rfl⟩
  rw [← hz] at zp
  clear hz
  by_cases hin : -9223372036854775808 ≤ z ∧ z ≤ 9223372036854775807
  · obtain ⟨hi0, hi1⟩ := hin
    go_wp2_with fail
    refine (whSmall_yes _ z _ zp hi0 hi1).mono ?_
    rintro e w5 ⟨rfl, bb⟩
    replace zp := zp.below bb
    replace lp0 := (bb.cell (p := ⟨w4.heap.size, 0, none⟩) (cell_lt lp0)).trans lp0
    replace lp1 := (bb.cell (p := ⟨w4.heap.size, 1, none⟩) (cell_lt lp1)).trans lp1
    replace bel := below_to bel bb
    clear bb
    go_wp2_with fail
    refine (whOf_any (-9223372036854775808) _ (by decide) (by decide)).mono ?_
    rintro e w6 ⟨v3, rfl, e3, bb⟩
    replace zp := zp.below bb
    replace lp0 := (bb.cell (p := ⟨w4.heap.size, 0, none⟩) (cell_lt lp0)).trans lp0
    replace lp1 := (bb.cell (p := ⟨w4.heap.size, 1, none⟩) (cell_lt lp1)).trans lp1
    replace bel := below_to bel bb
    clear bb
    go_wp2_with fail
    refine (whOf_any 9223372036854775807 _ (by decide) (by decide)).mono ?_
    rintro e w7 ⟨v4, rfl, e4, bb⟩
    replace zp := zp.below bb
    replace e3 := e3.below bb
    replace lp0 := (bb.cell (p := ⟨w4.heap.size, 0, none⟩) (cell_lt lp0)).trans lp0
    replace lp1 := (bb.cell (p := ⟨w4.heap.size, 1, none⟩) (cell_lt lp1)).trans lp1
    replace bel := below_to bel bb
    clear bb
    obtain ⟨b3, a3, n3, c3', rfl⟩ := e3.form
    obtain ⟨b4, a4, n4, c4', rfl⟩ := e4.form
    have lq0 : (w7.alloc (.cells #[.bool b3, .slice a3 n3 c3'] 73)).cell? ⟨w7.heap.size, 0, none⟩ = some (.bool b3) := by simp
    replace lq0 := (World.cell?_alloc_old (w7.alloc (.cells #[.bool b3, .slice a3 n3 c3'] 73)) (.cells #[.bool b4, .slice a4 n4 c4'] 73) ⟨w7.heap.size, 0, none⟩ (by first | (simp; done) | (simp; omega) | omega)).trans lq0
    have lq1 : (w7.alloc (.cells #[.bool b3, .slice a3 n3 c3'] 73)).cell? ⟨w7.heap.size, 1, none⟩ = some (.slice a3 n3 c3') := by simp
    replace lq1 := (World.cell?_alloc_old (w7.alloc (.cells #[.bool b3, .slice a3 n3 c3'] 73)) (.cells #[.bool b4, .slice a4 n4 c4'] 73) ⟨w7.heap.size, 1, none⟩ (by first | (simp; done) | (simp; omega) | omega)).trans lq1
    have lr0 : ((w7.alloc (.cells #[.bool b3, .slice a3 n3 c3'] 73)).alloc (.cells #[.bool b4, .slice a4 n4 c4'] 73)).cell? ⟨(w7.heap.size + 1), 0, none⟩ = some (.bool b4) := by simp
    have lr1 : ((w7.alloc (.cells #[.bool b3, .slice a3 n3 c3'] 73)).alloc (.cells #[.bool b4, .slice a4 n4 c4'] 73)).cell? ⟨(w7.heap.size + 1), 1, none⟩ = some (.slice a4 n4 c4') := by simp
    have hl : Below w7.heap.size w7 ((w7.alloc (.cells #[.bool b3, .slice a3 n3 c3'] 73)).alloc (.cells #[.bool b4, .slice a4 n4 c4'] 73)) := ((Below.refl _ _).alloc (Nat.le_refl _) (.cells #[.bool b3, .slice a3 n3 c3'] 73)).alloc (by first | (simp; done) | (simp; omega) | omega) (.cells #[.bool b4, .slice a4 n4 c4'] 73)
    replace zp := zp.below hl
    replace e3 := e3.below hl
    replace e4 := e4.below hl
    replace lp0 := (hl.cell (p := ⟨w4.heap.size, 0, none⟩) (cell_lt lp0)).trans lp0
    replace lp1 := (hl.cell (p := ⟨w4.heap.size, 1, none⟩) (cell_lt lp1)).trans lp1
    replace bel := below_to bel hl
    clear hl
    have g1 : 0 ≤ ci z (-9223372036854775808) := ci_ge hi0
    have g2 : ci z 9223372036854775807 ≤ 0 := ci_le hi1
    obtain ⟨s1, hs1⟩ : ∃ s, s = ci z (-9223372036854775808) := ⟨_, rfl⟩
    obtain ⟨s2, hs2⟩ : ∃ s, s = ci z 9223372036854775807 := ⟨_, rfl⟩
    rw [← hs1] at g1; rw [← hs2] at g2
    have H1 := Lib.hid hs1.symm; have H2 := Lib.hid hs2.symm
    clear hs1 hs2
    have hi : Hid (-9223372036854775808 ≤ z ∧ z ≤ 9223372036854775807) := ⟨hi0, hi1⟩
    clear hi0 hi1
    go_wp2_with fail
    have kc := whCmp_any _ _ z (-9223372036854775808) _ zp e3.wz
    rw [H1.out] at kc
    refine kc.mono ?_
    rintro e w8 ⟨rfl, bb⟩
    clear kc
    replace zp := zp.below bb
    replace e3 := e3.below bb
    replace e4 := e4.below bb
    replace lp0 := (bb.cell (p := ⟨w4.heap.size, 0, none⟩) (cell_lt lp0)).trans lp0
    replace lp1 := (bb.cell (p := ⟨w4.heap.size, 1, none⟩) (cell_lt lp1)).trans lp1
    replace lq0 := (bb.cell (p := ⟨w7.heap.size, 0, none⟩) (cell_lt lq0)).trans lq0
    replace lq1 := (bb.cell (p := ⟨w7.heap.size, 1, none⟩) (cell_lt lq1)).trans lq1
    replace lr0 := (bb.cell (p := ⟨(w7.heap.size + 1), 0, none⟩) (cell_lt lr0)).trans lr0
    replace lr1 := (bb.cell (p := ⟨(w7.heap.size + 1), 1, none⟩) (cell_lt lr1)).trans lr1
    replace bel := below_to bel bb
    clear bb
    go_wp2_with fail
    have kc := whCmp_any _ _ z 9223372036854775807 _ zp e4.wz
    rw [H2.out] at kc
    refine kc.mono ?_
    rintro e w9 ⟨rfl, bb⟩
    clear kc
    replace zp := zp.below bb
    replace e3 := e3.below bb
    replace e4 := e4.below bb
    replace lp0 := (bb.cell (p := ⟨w4.heap.size, 0, none⟩) (cell_lt lp0)).trans lp0
    replace lp1 := (bb.cell (p := ⟨w4.heap.size, 1, none⟩) (cell_lt lp1)).trans lp1
    replace lq0 := (bb.cell (p := ⟨w7.heap.size, 0, none⟩) (cell_lt lq0)).trans lq0
    replace lq1 := (bb.cell (p := ⟨w7.heap.size, 1, none⟩) (cell_lt lq1)).trans lq1
    replace lr0 := (bb.cell (p := ⟨(w7.heap.size + 1), 0, none⟩) (cell_lt lr0)).trans lr0
    replace lr1 := (bb.cell (p := ⟨(w7.heap.size + 1), 1, none⟩) (cell_lt lr1)).trans lr1
    replace bel := below_to bel bb
    clear bb
    go_wp2_with fail
    have bd := cell_bd lp0
    replace zp := zp.below bd
    replace e3 := e3.below bd
    replace e4 := e4.below bd
    replace lp0 := (bd.cell (p := ⟨w4.heap.size, 0, none⟩) (cell_lt lp0)).trans lp0
    replace lp1 := (bd.cell (p := ⟨w4.heap.size, 1, none⟩) (cell_lt lp1)).trans lp1
    replace lq0 := (bd.cell (p := ⟨w7.heap.size, 0, none⟩) (cell_lt lq0)).trans lq0
    replace lq1 := (bd.cell (p := ⟨w7.heap.size, 1, none⟩) (cell_lt lq1)).trans lq1
    replace lr0 := (bd.cell (p := ⟨(w7.heap.size + 1), 0, none⟩) (cell_lt lr0)).trans lr0
    replace lr1 := (bd.cell (p := ⟨(w7.heap.size + 1), 1, none⟩) (cell_lt lr1)).trans lr1
    replace bel := below_to bel bd
    clear bd
    go_region_held3 (fun w' => w'.cell? ⟨w4.heap.size, 0, none⟩ = some (.bool bp) ∧ w'.cell? ⟨w4.heap.size, 1, none⟩ = some (.slice ap np cp) ∧ w'.cell? ⟨w7.heap.size, 0, none⟩ = some (.bool b3) ∧ w'.cell? ⟨w7.heap.size, 1, none⟩ = some (.slice a3 n3 c3') ∧ w'.cell? ⟨(w7.heap.size + 1), 0, none⟩ = some (.bool b4) ∧ w'.cell? ⟨(w7.heap.size + 1), 1, none⟩ = some (.slice a4 n4 c4')) (first | exact ⟨lp0, lp1, lq0, lq1, lr0, lr1⟩ | go_keep)
      (first
      | (go_at_call 75; (with_reducible refine (whOf_any z _ hi.out.1 hi.out.2).mono ?_); rintro e w10 ⟨v5, rfl, e5, bb⟩; replace zp := zp.below bb; replace e3 := e3.below bb; replace e4 := e4.below bb; replace lp0 := (bb.cell (p := ⟨w4.heap.size, 0, none⟩) (cell_lt lp0)).trans lp0; replace lp1 := (bb.cell (p := ⟨w4.heap.size, 1, none⟩) (cell_lt lp1)).trans lp1; replace lq0 := (bb.cell (p := ⟨w7.heap.size, 0, none⟩) (cell_lt lq0)).trans lq0; replace lq1 := (bb.cell (p := ⟨w7.heap.size, 1, none⟩) (cell_lt lq1)).trans lq1; replace lr0 := (bb.cell (p := ⟨(w7.heap.size + 1), 0, none⟩) (cell_lt lr0)).trans lr0; replace lr1 := (bb.cell (p := ⟨(w7.heap.size + 1), 1, none⟩) (cell_lt lr1)).trans lr1; replace bel := below_to bel bb; clear bb)
      | (go_at_call 70; have kc := whCmp_any _ _ z z _ e5.wz zp; rw [ci_eq rfl] at kc; (with_reducible refine kc.mono ?_); rintro e w11 ⟨rfl, bb⟩; clear kc; replace zp := zp.below bb; replace e3 := e3.below bb; replace e4 := e4.below bb; replace e5 := e5.below bb; replace lp0 := (bb.cell (p := ⟨w4.heap.size, 0, none⟩) (cell_lt lp0)).trans lp0; replace lp1 := (bb.cell (p := ⟨w4.heap.size, 1, none⟩) (cell_lt lp1)).trans lp1; replace lq0 := (bb.cell (p := ⟨w7.heap.size, 0, none⟩) (cell_lt lq0)).trans lq0; replace lq1 := (bb.cell (p := ⟨w7.heap.size, 1, none⟩) (cell_lt lq1)).trans lq1; replace lr0 := (bb.cell (p := ⟨(w7.heap.size + 1), 0, none⟩) (cell_lt lr0)).trans lr0; replace lr1 := (bb.cell (p := ⟨(w7.heap.size + 1), 1, none⟩) (cell_lt lr1)).trans lr1; replace bel := below_to bel bb; clear bb))
    go_wp2
    go_ret
    exact ⟨rfl, hb0.trans (bel.mono hb0.size)⟩
  · have hor : z < -9223372036854775808 ∨ 9223372036854775807 < z := by omega
    clear hin
    rcases hor with hc | hc
    · go_wp2_with fail
      refine (whSmall_no _ z _ zp (Or.inl hc)).mono ?_
      rintro e w5 ⟨rfl, bb⟩
      replace zp := zp.below bb
      replace lp0 := (bb.cell (p := ⟨w4.heap.size, 0, none⟩) (cell_lt lp0)).trans lp0
      replace lp1 := (bb.cell (p := ⟨w4.heap.size, 1, none⟩) (cell_lt lp1)).trans lp1
      replace bel := below_to bel bb
      clear bb
      go_wp2_with fail
      refine (whOf_any (-9223372036854775808) _ (by decide) (by decide)).mono ?_
      rintro e w6 ⟨v3, rfl, e3, bb⟩
      replace zp := zp.below bb
      replace lp0 := (bb.cell (p := ⟨w4.heap.size, 0, none⟩) (cell_lt lp0)).trans lp0
      replace lp1 := (bb.cell (p := ⟨w4.heap.size, 1, none⟩) (cell_lt lp1)).trans lp1
      replace bel := below_to bel bb
      clear bb
      go_wp2_with fail
      refine (whOf_any 9223372036854775807 _ (by decide) (by decide)).mono ?_
      rintro e w7 ⟨v4, rfl, e4, bb⟩
      replace zp := zp.below bb
      replace e3 := e3.below bb
      replace lp0 := (bb.cell (p := ⟨w4.heap.size, 0, none⟩) (cell_lt lp0)).trans lp0
      replace lp1 := (bb.cell (p := ⟨w4.heap.size, 1, none⟩) (cell_lt lp1)).trans lp1
      replace bel := below_to bel bb
      clear bb
      obtain ⟨b3, a3, n3, c3', rfl⟩ := e3.form
      obtain ⟨b4, a4, n4, c4', rfl⟩ := e4.form
      have lq0 : (w7.alloc (.cells #[.bool b3, .slice a3 n3 c3'] 73)).cell? ⟨w7.heap.size, 0, none⟩ = some (.bool b3) := by simp
      replace lq0 := (World.cell?_alloc_old (w7.alloc (.cells #[.bool b3, .slice a3 n3 c3'] 73)) (.cells #[.bool b4, .slice a4 n4 c4'] 73) ⟨w7.heap.size, 0, none⟩ (by first | (simp; done) | (simp; omega) | omega)).trans lq0
      have lq1 : (w7.alloc (.cells #[.bool b3, .slice a3 n3 c3'] 73)).cell? ⟨w7.heap.size, 1, none⟩ = some (.slice a3 n3 c3') := by simp
      replace lq1 := (World.cell?_alloc_old (w7.alloc (.cells #[.bool b3, .slice a3 n3 c3'] 73)) (.cells #[.bool b4, .slice a4 n4 c4'] 73) ⟨w7.heap.size, 1, none⟩ (by first | (simp; done) | (simp; omega) | omega)).trans lq1
      have lr0 : ((w7.alloc (.cells #[.bool b3, .slice a3 n3 c3'] 73)).alloc (.cells #[.bool b4, .slice a4 n4 c4'] 73)).cell? ⟨(w7.heap.size + 1), 0, none⟩ = some (.bool b4) := by simp
      have lr1 : ((w7.alloc (.cells #[.bool b3, .slice a3 n3 c3'] 73)).alloc (.cells #[.bool b4, .slice a4 n4 c4'] 73)).cell? ⟨(w7.heap.size + 1), 1, none⟩ = some (.slice a4 n4 c4') := by simp
      have hl : Below w7.heap.size w7 ((w7.alloc (.cells #[.bool b3, .slice a3 n3 c3'] 73)).alloc (.cells #[.bool b4, .slice a4 n4 c4'] 73)) := ((Below.refl _ _).alloc (Nat.le_refl _) (.cells #[.bool b3, .slice a3 n3 c3'] 73)).alloc (by first | (simp; done) | (simp; omega) | omega) (.cells #[.bool b4, .slice a4 n4 c4'] 73)
      replace zp := zp.below hl
      replace e3 := e3.below hl
      replace e4 := e4.below hl
      replace lp0 := (hl.cell (p := ⟨w4.heap.size, 0, none⟩) (cell_lt lp0)).trans lp0
      replace lp1 := (hl.cell (p := ⟨w4.heap.size, 1, none⟩) (cell_lt lp1)).trans lp1
      replace bel := below_to bel hl
      clear hl
      have H1 := Lib.hid (ci_lt hc)
      clear hc
      go_wp2_with fail
      have kc := whCmp_any _ _ z (-9223372036854775808) _ zp e3.wz
      rw [H1.out] at kc
      refine kc.mono ?_
      rintro e w8 ⟨rfl, bb⟩
      clear kc
      replace zp := zp.below bb
      replace e3 := e3.below bb
      replace e4 := e4.below bb
      replace lp0 := (bb.cell (p := ⟨w4.heap.size, 0, none⟩) (cell_lt lp0)).trans lp0
      replace lp1 := (bb.cell (p := ⟨w4.heap.size, 1, none⟩) (cell_lt lp1)).trans lp1
      replace lq0 := (bb.cell (p := ⟨w7.heap.size, 0, none⟩) (cell_lt lq0)).trans lq0
      replace lq1 := (bb.cell (p := ⟨w7.heap.size, 1, none⟩) (cell_lt lq1)).trans lq1
      replace lr0 := (bb.cell (p := ⟨(w7.heap.size + 1), 0, none⟩) (cell_lt lr0)).trans lr0
      replace lr1 := (bb.cell (p := ⟨(w7.heap.size + 1), 1, none⟩) (cell_lt lr1)).trans lr1
      replace bel := below_to bel bb
      clear bb
      clear zp e3 e4 lp0 lp1 lq0 lq1 lr0 lr1
      go_wp2_with fail
      go_region
      all_goals
        go_wp2
        go_ret
        exact ⟨rfl, hb0.trans (bel.drew.mono hb0.size)⟩
    · go_wp2_with fail
      refine (whSmall_no _ z _ zp (Or.inr hc)).mono ?_
      rintro e w5 ⟨rfl, bb⟩
      replace zp := zp.below bb
      replace lp0 := (bb.cell (p := ⟨w4.heap.size, 0, none⟩) (cell_lt lp0)).trans lp0
      replace lp1 := (bb.cell (p := ⟨w4.heap.size, 1, none⟩) (cell_lt lp1)).trans lp1
      replace bel := below_to bel bb
      clear bb
      go_wp2_with fail
      refine (whOf_any (-9223372036854775808) _ (by decide) (by decide)).mono ?_
      rintro e w6 ⟨v3, rfl, e3, bb⟩
      replace zp := zp.below bb
      replace lp0 := (bb.cell (p := ⟨w4.heap.size, 0, none⟩) (cell_lt lp0)).trans lp0
      replace lp1 := (bb.cell (p := ⟨w4.heap.size, 1, none⟩) (cell_lt lp1)).trans lp1
      replace bel := below_to bel bb
      clear bb
      go_wp2_with fail
      refine (whOf_any 9223372036854775807 _ (by decide) (by decide)).mono ?_
      rintro e w7 ⟨v4, rfl, e4, bb⟩
      replace zp := zp.below bb
      replace e3 := e3.below bb
      replace lp0 := (bb.cell (p := ⟨w4.heap.size, 0, none⟩) (cell_lt lp0)).trans lp0
      replace lp1 := (bb.cell (p := ⟨w4.heap.size, 1, none⟩) (cell_lt lp1)).trans lp1
      replace bel := below_to bel bb
      clear bb
      obtain ⟨b3, a3, n3, c3', rfl⟩ := e3.form
      obtain ⟨b4, a4, n4, c4', rfl⟩ := e4.form
      have lq0 : (w7.alloc (.cells #[.bool b3, .slice a3 n3 c3'] 73)).cell? ⟨w7.heap.size, 0, none⟩ = some (.bool b3) := by simp
      replace lq0 := (World.cell?_alloc_old (w7.alloc (.cells #[.bool b3, .slice a3 n3 c3'] 73)) (.cells #[.bool b4, .slice a4 n4 c4'] 73) ⟨w7.heap.size, 0, none⟩ (by first | (simp; done) | (simp; omega) | omega)).trans lq0
      have lq1 : (w7.alloc (.cells #[.bool b3, .slice a3 n3 c3'] 73)).cell? ⟨w7.heap.size, 1, none⟩ = some (.slice a3 n3 c3') := by simp
      replace lq1 := (World.cell?_alloc_old (w7.alloc (.cells #[.bool b3, .slice a3 n3 c3'] 73)) (.cells #[.bool b4, .slice a4 n4 c4'] 73) ⟨w7.heap.size, 1, none⟩ (by first | (simp; done) | (simp; omega) | omega)).trans lq1
      have lr0 : ((w7.alloc (.cells #[.bool b3, .slice a3 n3 c3'] 73)).alloc (.cells #[.bool b4, .slice a4 n4 c4'] 73)).cell? ⟨(w7.heap.size + 1), 0, none⟩ = some (.bool b4) := by simp
      have lr1 : ((w7.alloc (.cells #[.bool b3, .slice a3 n3 c3'] 73)).alloc (.cells #[.bool b4, .slice a4 n4 c4'] 73)).cell? ⟨(w7.heap.size + 1), 1, none⟩ = some (.slice a4 n4 c4') := by simp
      have hl : Below w7.heap.size w7 ((w7.alloc (.cells #[.bool b3, .slice a3 n3 c3'] 73)).alloc (.cells #[.bool b4, .slice a4 n4 c4'] 73)) := ((Below.refl _ _).alloc (Nat.le_refl _) (.cells #[.bool b3, .slice a3 n3 c3'] 73)).alloc (by first | (simp; done) | (simp; omega) | omega) (.cells #[.bool b4, .slice a4 n4 c4'] 73)
      replace zp := zp.below hl
      replace e3 := e3.below hl
      replace e4 := e4.below hl
      replace lp0 := (hl.cell (p := ⟨w4.heap.size, 0, none⟩) (cell_lt lp0)).trans lp0
      replace lp1 := (hl.cell (p := ⟨w4.heap.size, 1, none⟩) (cell_lt lp1)).trans lp1
      replace bel := below_to bel hl
      clear hl
      have g1 : 0 ≤ ci z (-9223372036854775808) := ci_ge (by omega)
      obtain ⟨s1, hs1⟩ : ∃ s, s = ci z (-9223372036854775808) := ⟨_, rfl⟩
      rw [← hs1] at g1
      have H1 := Lib.hid hs1.symm; have H2 := Lib.hid (ci_gt hc)
      clear hs1 hc
      go_wp2_with fail
      have kc := whCmp_any _ _ z (-9223372036854775808) _ zp e3.wz
      rw [H1.out] at kc
      refine kc.mono ?_
      rintro e w8 ⟨rfl, bb⟩
      clear kc
      replace zp := zp.below bb
      replace e3 := e3.below bb
      replace e4 := e4.below bb
      replace lp0 := (bb.cell (p := ⟨w4.heap.size, 0, none⟩) (cell_lt lp0)).trans lp0
      replace lp1 := (bb.cell (p := ⟨w4.heap.size, 1, none⟩) (cell_lt lp1)).trans lp1
      replace lq0 := (bb.cell (p := ⟨w7.heap.size, 0, none⟩) (cell_lt lq0)).trans lq0
      replace lq1 := (bb.cell (p := ⟨w7.heap.size, 1, none⟩) (cell_lt lq1)).trans lq1
      replace lr0 := (bb.cell (p := ⟨(w7.heap.size + 1), 0, none⟩) (cell_lt lr0)).trans lr0
      replace lr1 := (bb.cell (p := ⟨(w7.heap.size + 1), 1, none⟩) (cell_lt lr1)).trans lr1
      replace bel := below_to bel bb
      clear bb
      go_wp2_with fail
      have kc := whCmp_any _ _ z 9223372036854775807 _ zp e4.wz
      rw [H2.out] at kc
      refine kc.mono ?_
      rintro e w9 ⟨rfl, bb⟩
      clear kc
      replace zp := zp.below bb
      replace e3 := e3.below bb
      replace e4 := e4.below bb
      replace lp0 := (bb.cell (p := ⟨w4.heap.size, 0, none⟩) (cell_lt lp0)).trans lp0
      replace lp1 := (bb.cell (p := ⟨w4.heap.size, 1, none⟩) (cell_lt lp1)).trans lp1
      replace lq0 := (bb.cell (p := ⟨w7.heap.size, 0, none⟩) (cell_lt lq0)).trans lq0
      replace lq1 := (bb.cell (p := ⟨w7.heap.size, 1, none⟩) (cell_lt lq1)).trans lq1
      replace lr0 := (bb.cell (p := ⟨(w7.heap.size + 1), 0, none⟩) (cell_lt lr0)).trans lr0
      replace lr1 := (bb.cell (p := ⟨(w7.heap.size + 1), 1, none⟩) (cell_lt lr1)).trans lr1
      replace bel := below_to bel bb
      clear bb
      clear zp e3 e4 lp0 lp1 lq0 lq1 lr0 lr1
      go_wp2_with fail
      go_region
      all_goals
        go_wp2
        go_ret
        exact ⟨rfl, hb0.trans (bel.drew.mono hb0.size)⟩
end Go.Proofs.Ytbjgcnhilakimaa
