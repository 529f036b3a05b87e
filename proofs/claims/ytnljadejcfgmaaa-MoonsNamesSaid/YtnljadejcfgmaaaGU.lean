/- WhE WhF WhG WhH WhI -/
import Derived.Deep.RegionHeld3
import Derived.Test.YtnljadejcfgmaaaGE
import Derived.Test.YtnljadejcfgmaaaGM
import Derived.Test.YtnljadejcfgmaaaGD
import Derived.Test.YtnljadejcfgmaaaGL
import Derived.Test.YtnljadejcfgmaaaLawE

/- whole.Mul. -/
namespace Go.Proofs.Ytnljadejcfgmaaa
open Go.RowKit
set_option maxRecDepth 100000

theorem sg_mul (b c : Bool) (N M : Nat) : sg (!(b == c)) (N * M) = sg b N * sg c M := by
  cases b <;> cases c <;> simp [sg, Int.mul_neg, Int.neg_mul]

end Go.Proofs.Ytnljadejcfgmaaa

/- Quotients rounded down: the arithmetic of whole.DivMod. -/
namespace Go.Proofs.Ytnljadejcfgmaaa
open Go.RowKit
set_option maxRecDepth 100000

/-- What is left over by the quotient rounded down; by 0: 0. -/
def fr (a b : Int) : Int := if b = 0 then 0 else a.fmod b
theorem f_pos {a b q r : Int} (h : a = b * q + r) (h0 : 0 ≤ r) (h1 : r < b) : a.fdiv b = q ∧ a.fmod b = r := by
  have hb : 0 < b := by omega
  have := (Int.ediv_emod_unique (a := a) (q := q) (r := r) hb).2 ⟨by omega, h0, h1⟩
  rw [Int.fdiv_eq_ediv_of_nonneg _ (by omega), Int.fmod_eq_emod_of_nonneg _ (by omega)]
  exact this
theorem f_neg {a b q r : Int} (h : a = b * q + r) (h0 : r ≤ 0) (h1 : b < r) : a.fdiv b = q ∧ a.fmod b = r := by
  have hq : (-a).fdiv (-b) = q ∧ (-a).fmod (-b) = -r := f_pos (by rw [h, Int.neg_mul]; omega) (by omega) (by omega)
  rw [Int.neg_fdiv_neg] at hq
  refine ⟨hq.1, ?_⟩
  have := Int.fmod_def a b
  rw [hq.1] at this
  omega
theorem cast_dm (N M : Nat) : (N : Int) = (M : Int) * ((N / M : Nat) : Int) + ((N % M : Nat) : Int) := by
  have := Nat.div_add_mod N M
  exact_mod_cast this.symm
theorem fdm_zero' (z : Int) : z.fdiv 0 = 0 ∧ fr z 0 = 0 := ⟨Int.fdiv_zero z, if_pos rfl⟩
theorem fdm_same (n : Bool) (N M : Nat) : (sg n N).fdiv (sg n M) = sg false (N / M) ∧ fr (sg n N) (sg n M) = sg n (if M = 0 then 0 else N % M) := by
  by_cases hm : M = 0
  · subst hm
    rw [sg_zero, if_pos rfl, sg_zero, Nat.div_zero, sg_zero]; exact fdm_zero' _
  · have h1 := cast_dm N M
    have h2 := Nat.mod_lt N (show 0 < M by omega)
    rw [if_neg hm]
    generalize N / M = q at *
    generalize N % M = r at *
    unfold fr
    cases n with
    | false => rw [sg_false, sg_false, sg_false, sg_false, if_neg (by omega)]; exact f_pos h1 (by omega) (by omega)
    | true => rw [sg_true, sg_true, sg_true, sg_false, if_neg (by omega)]; exact f_neg (by rw [h1, Int.neg_mul]; omega) (by omega) (by omega)
theorem fdm_zero (n : Bool) (N M : Nat) (h : (if M = 0 then 0 else N % M) = 0) : (sg n N).fdiv (sg (!n) M) = sg true (N / M) ∧ fr (sg n N) (sg (!n) M) = sg (!n) 0 := by
  by_cases hm : M = 0
  · subst hm
    rw [sg_zero, Nat.div_zero, sg_zero]; exact fdm_zero' _
  · have h1 := cast_dm N M
    rw [if_neg hm] at h
    rw [h] at h1
    rw [sg_zero]
    generalize N / M = q at *
    unfold fr
    cases n with
    | false => rw [show (!false) = true from rfl, sg_false, sg_true, sg_true, if_neg (by omega)]; exact f_neg (by rw [h1, Int.neg_mul, Int.mul_neg]; omega) (by omega) (by omega)
    | true => rw [show (!true) = false from rfl, sg_false, sg_true, sg_true, if_neg (by omega)]; exact f_pos (by rw [h1, Int.mul_neg]; omega) (by omega) (by omega)
theorem fdm_rest (n : Bool) (N M : Nat) (h : ¬ (if M = 0 then 0 else N % M) = 0) : (sg n N).fdiv (sg (!n) M) = sg true (N / M + 1) ∧ fr (sg n N) (sg (!n) M) = sg (!n) (M - (if M = 0 then 0 else N % M)) := by
  by_cases hm : M = 0
  · subst hm
    exact absurd (if_pos rfl) h
  · have h1 := cast_dm N M
    have h2 := Nat.mod_lt N (show 0 < M by omega)
    rw [if_neg hm] at h ⊢
    generalize N / M = q at *
    generalize N % M = r at *
    unfold fr
    cases n with
    | false => rw [show (!false) = true from rfl, sg_false, sg_true, sg_true, sg_true, if_neg (by omega)]; exact f_neg (by rw [h1, Int.neg_mul, Int.mul_neg]; push_cast; rw [Int.mul_add]; omega) (by omega) (by omega)
    | true => rw [show (!true) = false from rfl, sg_false, sg_true, sg_true, sg_false, if_neg (by omega)]; exact f_pos (by rw [h1, Int.mul_neg]; push_cast; rw [Int.mul_add]; omega) (by omega) (by omega)
end Go.Proofs.Ytnljadejcfgmaaa

/- whole.DivMod. -/
namespace Go.Proofs.Ytnljadejcfgmaaa
open Go.RowKit
set_option maxRecDepth 100000

def WdPost (w : World) (z1 z2 : Int) (e : Ending) (w' : World) : Prop := ∃ v1 v2, e = .returned (.tuple #[v1, v2]) ∧ Wc w' v1 (z1.fdiv z2) ∧ Wc w' v2 (fr z1 z2) ∧ Below w.heap.size w w'
theorem NoInt.far {w : World} {g h : Nat} (h1 : NoInt w g) (hne : h ≠ g) (i : Nat) (u : Value) : NoInt (w.setCell ⟨h, i, none⟩ u) g := by
  intro j k n
  rw [World.cell?_setCell_other _ _ _ _ (by intro e; apply hne; injection e)]
  exact h1 j k n
theorem store4 {w W0 w2 : World} {g h : Nat} (hw : Below w.heap.size w W0) (hg : w.heap.size ≤ g) (hh : w.heap.size ≤ h) (hg2 : g < W0.heap.size) (hh2 : h < W0.heap.size) (hne : g ≠ h) (hn : NoInt W0 g) (hn' : NoInt W0 h) (b3 : Below W0.heap.size W0 w2) (u v x y : Value) (nu : notInt u) (nx : notInt x) :
    Below w.heap.size w ((((w2.setCell ⟨g, 0, none⟩ u).setCell ⟨g, 1, none⟩ v).setCell ⟨h, 0, none⟩ x).setCell ⟨h, 1, none⟩ y) ∧ Keep w2 ((((w2.setCell ⟨g, 0, none⟩ u).setCell ⟨g, 1, none⟩ v).setCell ⟨h, 0, none⟩ x).setCell ⟨h, 1, none⟩ y) := by
  have a1 := hn.below hg2 b3
  have a2 := hn'.below hh2 b3
  have a3 := (a2.far hne 0 u).far hne 1 v
  have hb : Below w.heap.size w w2 := hw.trans (b3.mono hw.size)
  exact ⟨(((hb.setCell (p := ⟨g, 0, none⟩) hg u).setCell (p := ⟨g, 1, none⟩) hg v).setCell (p := ⟨h, 0, none⟩) hh x).setCell (p := ⟨h, 1, none⟩) hh y,
    (((a1.keep 0 u).trans ((a1.setCell 0 nu).keep 1 v)).trans (a3.keep 0 x)).trans ((a3.setCell 0 nx).keep 1 y)⟩

end Go.Proofs.Ytnljadejcfgmaaa

/- whole.Cmp. -/
namespace Go.Proofs.Ytnljadejcfgmaaa
open Go.RowKit
set_option maxRecDepth 100000

/-- -1, 0, 1: how two whole numbers stand. -/
def ci (x y : Int) : Int := if x < y then -1 else if y < x then 1 else 0
theorem ci_lt {x y : Int} (h : x < y) : ci x y = -1 := by unfold ci; rw [if_pos h]
theorem ci_gt {x y : Int} (h : y < x) : ci x y = 1 := by unfold ci; rw [if_neg (by omega), if_pos h]
theorem ci_eq {x y : Int} (h : x = y) : ci x y = 0 := by unfold ci; rw [if_neg (by omega), if_neg (by omega)]
theorem sz_cases (z : Int) : sz z = -1 ∨ sz z = 0 ∨ sz z = 1 := by unfold sz; split <;> (try split) <;> simp
theorem ci_signs {x y : Int} (h : ¬ sz x = sz y) : ci (sz x) (sz y) = ci x y := by
  unfold sz at *
  unfold ci
  split at h <;> split at h <;> (try split at h) <;> (try split at h) <;> simp_all <;> omega
theorem ci_mul (b c : Bool) {N M : Nat} (h : sz (sg b N) = sz (sg c M)) : sz (sg b N) * c3 N M = ci (sg b N) (sg c M) := by
  unfold sz ci c3 sg at *
  cases b <;> cases c <;> simp at * <;> split at h <;> (try split at h) <;> (try split at h) <;> (try split at h) <;> (try split) <;> (try split) <;> (try split) <;> (try split) <;> omega

end Go.Proofs.Ytnljadejcfgmaaa

/- whole.Small. -/
namespace Go.Proofs.Ytnljadejcfgmaaa
open Go.RowKit
set_option maxRecDepth 100000

def TwoPost (w : World) (u : Value) (b : Bool) (e : Ending) (w' : World) : Prop := e = .returned (.tuple #[u, .bool b]) ∧ Below w.heap.size w w'
end Go.Proofs.Ytnljadejcfgmaaa
