/- Words: where sun and moon are. -/
import Derived.Test.YtmpdbkdijfpbbaaGreatDoorGZ
import Derived.Test.YtmpdbkdijfpbbaaGreatDoorMnW
namespace Go.Proofs.YtmpdbkdijfpbbaaGreatDoor
open Go.RowKit
set_option maxRecDepth 100000
set_option linter.unusedVariables false

/-! ### Equations and places -/
def epi (a s c : Rat) : Rat := a * (s - a.abs * c * s)
def eqv (t an s c : Rat) : Rat := arcv (epi (sof (mof t an)) s c)
def atv (t p an s c : Rat) : Rat := rmod (mof t p - eqv t an s c) ((360 : Int) : Rat)
def ssz : Rat := ((14 : Int) : Rat) / ((360 : Int) : Rat)
def sch : Rat := ((1 : Int) : Rat) / ((42 : Int) : Rat)
def msz : Rat := ((32 : Int) : Rat) / ((360 : Int) : Rat)
def mch : Rat := ((1 : Int) : Rat) / ((96 : Int) : Rat)
def sunV (t : Rat) : Rat := atv t pyr pay ssz sch
def moonV (t : Rat) : Rat := atv t pmo pam msz mch
def phaseV (t : Rat) : Rat := rmod (moonV t - sunV t) ((360 : Int) : Rat)
def prt (x : Rat) (n : Int) : Int := (x * (((n : Int) : Rat) / ((360 : Int) : Rat))).floor
theorem sunV_low (t : Rat) : 0 ≤ sunV t := rmod_low c360_pos
theorem sunV_high (t : Rat) : sunV t < ((360 : Int) : Rat) := rmod_high c360_pos
theorem moonV_low (t : Rat) : 0 ≤ moonV t := rmod_low c360_pos
theorem moonV_high (t : Rat) : moonV t < ((360 : Int) : Rat) := rmod_high c360_pos
theorem phaseV_low (t : Rat) : 0 ≤ phaseV t := rmod_low c360_pos
theorem phaseV_high (t : Rat) : phaseV t < ((360 : Int) : Rat) := rmod_high c360_pos
/-! ### In which part of the circle -/
theorem prt_bd {x : Rat} {n : Int} (hn : 0 < n) (h0 : 0 ≤ x) (h1 : x < ((360 : Int) : Rat)) : 0 ≤ prt x n ∧ prt x n < n := by
  have p : (0 : Rat) < ((n : Int) : Rat) := Rat.intCast_pos.2 hn
  have q : (0 : Rat) < ((n : Int) : Rat) / ((360 : Int) : Rat) := by rw [Rat.div_def]; exact Rat.mul_pos p (by decide +kernel)
  unfold prt
  constructor
  · exact Rat.le_floor_iff.2 (by rw [Rat.intCast_zero]; exact Rat.mul_nonneg h0 (by grind))
  · refine Rat.floor_lt_iff.2 ?_
    have m := (Rat.mul_lt_mul_right (c := ((n : Int) : Rat) / ((360 : Int) : Rat)) q).2 h1
    have e : ((360 : Int) : Rat) * (((n : Int) : Rat) / ((360 : Int) : Rat)) = ((n : Int) : Rat) := by rw [Rat.mul_comm]; exact Rat.div_mul_cancel (by decide +kernel)
    rw [e] at m
    exact m
theorem half_tithi (x : Rat) : (prt x 60 + 1 + 1) / 2 = prt x 30 + 1 := by
  unfold prt
  generalize hf : (x * (((60 : Int) : Rat) / ((360 : Int) : Rat))).floor = f
  have a := fl_le (x * (((60 : Int) : Rat) / ((360 : Int) : Rat)))
  have b := fl_lt (x * (((60 : Int) : Rat) / ((360 : Int) : Rat)))
  rw [hf] at a b
  have k1 : ((60 : Int) : Rat) / ((360 : Int) : Rat) = 1 / 6 := by decide +kernel
  have k2 : ((30 : Int) : Rat) / ((360 : Int) : Rat) = 1 / 12 := by decide +kernel
  rw [k1] at a b
  rw [k2]
  have hd : f = 2 * (f / 2) + f % 2 := by omega
  have hr : f % 2 = 0 ∨ f % 2 = 1 := by omega
  generalize hg : f / 2 = g at *
  have e : (x * (1 / 12)).floor = g := by
    apply fl_of
    · rcases hr with r | r <;> rw [r] at hd <;> rw [hd] at a <;> simp only [Rat.intCast_add, Rat.intCast_mul] at a <;> (rw [show ((2 : Int) : Rat) = 2 from rfl] at a) <;> first | (rw [show ((0 : Int) : Rat) = 0 from rfl] at a; grind) | (rw [show ((1 : Int) : Rat) = 1 from rfl] at a; grind)
    · rcases hr with r | r <;> rw [r] at hd <;> rw [hd] at b <;> simp only [Rat.intCast_add, Rat.intCast_mul] at b <;> (rw [show ((2 : Int) : Rat) = 2 from rfl] at b) <;> first | (rw [show ((0 : Int) : Rat) = 0 from rfl] at b; grind) | (rw [show ((1 : Int) : Rat) = 1 from rfl] at b; grind)
  rw [e]
  omega
/-! ### Years of the sun later -/
/-! ### Limits -/
theorem pfr_mfr (x : Rat) : pfr x = mfr (x / wd) := by
  have h : (0 : Rat) < ((96 : Int) : Rat) := by decide +kernel
  unfold pfr pk
  show mfr (rmod (x / wd) ((96 : Int) : Rat)) = _
  rw [rmod_fl h]
  generalize (x / wd / ((96 : Int) : Rat)).floor = n
  rw [show x / wd + ((96 : Int) : Rat) * (((-n : Int)) : Rat) = x / wd + ((96 * -n : Int) : Rat) by rw [Rat.intCast_mul], mfr_more]
theorem sof_lim2 {x : Rat} {k : Nat} (h : RLim x k) : RLim (sof x) (k + 12) := by
  rw [← sof_pk, pfr_mfr]
  exact (rlim_div (rlim_add (lim64 (spk64 _).1 (spk64 _).2) (rlim_mul (mfr_lim (rlim_div h wd_lim)) (lim64 (dif64 _).1 (dif64 _).2))) (lim64 (n := 3438) (by decide) (by decide))).up _ (by omega)
theorem epi_lim {a s c : Rat} {k j i : Nat} (h : RLim a k) (hs : RLim s j) (hc : RLim c i) : RLim (epi a s c) (2 * k + 2 * j + i + 1) := (rlim_mul h (rlim_sub hs (rlim_mul (rlim_mul (rlim_abs h) hc) hs))).up _ (by omega)
theorem eqv_lim {t an s c : Rat} {k l j i : Nat} (h : RLim t k) (ha : RLim an l) (hs : RLim s j) (hc : RLim c i) : RLim (eqv t an s c) (2 * k + 2 * l + 2 * j + i + 60) := (arcv_lim (epi_lim (sof_lim2 (mof_lim h ha)) hs hc)).up _ (by omega)
theorem atv_lim {t p an s c : Rat} {k m l j i : Nat} (h : RLim t k) (hp : RLim p m) (ha : RLim an l) (hs : RLim s j) (hc : RLim c i) : RLim (atv t p an s c) (3 * k + m + 2 * l + 2 * j + i + 80) := (rmod360_lim (rlim_sub (mof_lim h hp) (eqv_lim h ha hs hc))).up _ (by omega)
theorem ssz_lim : RLim ssz 2 := lim64d (by decide) (by decide) (by decide) (by decide)
theorem sch_lim : RLim sch 2 := lim64d (by decide) (by decide) (by decide) (by decide)
theorem msz_lim : RLim msz 2 := lim64d (by decide) (by decide) (by decide) (by decide)
theorem mch_lim : RLim mch 2 := lim64d (by decide) (by decide) (by decide) (by decide)
theorem sunV_lim {t : Rat} {k : Nat} (h : RLim t k) : RLim (sunV t) (3 * k + 100) := (atv_lim h pyr_lim pay_lim ssz_lim sch_lim).up _ (by omega)
theorem moonV_lim {t : Rat} {k : Nat} (h : RLim t k) : RLim (moonV t) (3 * k + 100) := (atv_lim h pmo_lim pam_lim msz_lim mch_lim).up _ (by omega)
theorem phaseV_lim {t : Rat} {k : Nat} (h : RLim t k) : RLim (phaseV t) (6 * k + 210) := (rmod360_lim (rlim_sub (moonV_lim h) (sunV_lim h))).up _ (by omega)
end Go.Proofs.YtmpdbkdijfpbbaaGreatDoor
