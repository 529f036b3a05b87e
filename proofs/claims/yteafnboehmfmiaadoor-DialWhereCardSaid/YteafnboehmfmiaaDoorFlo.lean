/- Floats of whole numbers; complex numbers. -/
import Derived.Test.YteafnboehmfmiaaDoorGO
import Derived.Laws.FloatArith
namespace Go.Proofs.YteafnboehmfmiaaDoor
open Go.RowKit
set_option maxRecDepth 100000
set_option linter.unusedVariables false

/-- The float of a whole number. -/
def fI (x : Int) : Nat := FloatKind.f64.nearest x
/-- What the bits say: x, times so many twos. -/
def FlOf (b : Nat) (x : Int) : Prop := ∃ (m k : Nat) (s : Bool), Ieee.double.read b = .number s m (-(k : Int)) ∧ x * (2 ^ k : Nat) = if s then -(m : Int) else (m : Int)
def flChk (b : Nat) (x : Int) : Bool := match Ieee.double.read b with
  | .number s m e => decide (e ≤ 0) && decide (x * (2 ^ (-e).toNat : Nat) = if s then -(m : Int) else (m : Int))
  | _ => false
theorem flChk_of {b : Nat} {x : Int} (h : flChk b x = true) : FlOf b x := by
  unfold flChk at h
  split at h
  · rename_i s m e he
    simp only [Bool.and_eq_true, decide_eq_true_eq] at h
    refine ⟨m, (-e).toNat, s, ?_, h.2⟩
    rw [he]; congr 1; omega
  · cases h
theorem flChk_tab0 : ∀ i : Nat, i < 64 → ∀ j : Nat, j < 64 → flChk (fI ((64 * i + j : Nat) : Int)) ((64 * i + j : Nat) : Int) = true ∧ flChk (fI (-((64 * i + j : Nat) : Int))) (-((64 * i + j : Nat) : Int)) = true := by decide +kernel
theorem flChk_tab (n : Nat) (h : n < 4096) : flChk (fI (n : Int)) n = true ∧ flChk (fI (-(n : Int))) (-(n : Int)) = true := by
  have := flChk_tab0 (n / 64) (by omega) (n % 64) (by omega)
  rwa [show 64 * (n / 64) + n % 64 = n by omega] at this
theorem fI_of {x : Int} (h1 : -4000 ≤ x) (h2 : x ≤ 4000) : FlOf (fI x) x := by
  obtain ⟨a, b⟩ := flChk_tab x.natAbs (by omega)
  by_cases h : 0 ≤ x
  · rw [show ((x.natAbs : Nat) : Int) = x by omega] at a
    exact flChk_of a
  · rw [show -((x.natAbs : Nat) : Int) = x by omega] at b
    exact flChk_of b
theorem signed_mul (s : Bool) (m k : Nat) : Ieee.signed s m k = (if s then -(m : Int) else (m : Int)) * (2 ^ k : Nat) := by
  unfold Ieee.signed
  cases s
  · simp [Nat.shiftLeft_eq]
  · simp [Nat.shiftLeft_eq, Int.neg_mul]
theorem cmp_mul {x y : Int} {p : Nat} (hp : 0 < p) : compare (x * (p : Int)) (y * (p : Int)) = compare x y := by
  have hp' : (0 : Int) < (p : Int) := by omega
  rcases Int.lt_trichotomy x y with h | h | h
  · have h2 := Int.mul_lt_mul_of_pos_right h hp'
    rw [Int.compare_eq_lt.2 h, Int.compare_eq_lt.2 h2]
  · subst h; rw [Int.compare_eq_eq.2 rfl, Int.compare_eq_eq.2 rfl]
  · have h2 := Int.mul_lt_mul_of_pos_right h hp'
    rw [Int.compare_eq_gt.2 h, Int.compare_eq_gt.2 h2]
theorem fl_order {a b : Nat} {x y : Int} (h1 : FlOf a x) (h2 : FlOf b y) : Ieee.double.order a b = some (compare x y) := by
  obtain ⟨m, k, s, e1, q1⟩ := h1
  obtain ⟨n, l, t, e2, q2⟩ := h2
  unfold Ieee.Format.order Ieee.Datum.order
  rw [e1, e2]
  simp only [signed_mul, ← q1, ← q2]
  congr 1
  rw [Int.mul_assoc, Int.mul_assoc, ← Int.natCast_mul, ← Int.natCast_mul, ← Nat.pow_add, ← Nat.pow_add]
  rw [show k + (-(k : Int) - min (-(k : Int)) (-(l : Int))).toNat = max k l by omega, show l + (-(l : Int) - min (-(k : Int)) (-(l : Int))).toNat = max k l by omega]
  exact cmp_mul (Nat.pow_pos (by decide))
section
variable {P : Program} {w : World}
theorem eg_cx {op : BinOp} {t : TypeId} {x y : Operand} {k l : FloatKind} {a b c d : Nat} : (eqGuard op t x y (.complex k a b) (.complex l c d)).run P w = .ok () w := by
  unfold eqGuard; split <;> rfl
theorem cx_eql {t : TypeId} {a b c d : Nat} {r : Bool} (h : (Ieee.double.order a c == some .eq && Ieee.double.order b d == some .eq) = r) : (binOp .eql t (.complex .f64 a b) (.complex .f64 c d)).run P w = .ok (.bool r) w := by
  subst h
  simp [binOp, Op.complexOp, Op.Complex.cmp, Op.floatCmp, asBool, FloatKind.format]
theorem cx_neq {t : TypeId} {a b c d : Nat} {r : Bool} (h : (!(Ieee.double.order a c == some .eq && Ieee.double.order b d == some .eq)) = r) : (binOp .neq t (.complex .f64 a b) (.complex .f64 c d)).run P w = .ok (.bool r) w := by
  subst h
  simp [binOp, Op.complexOp, Op.Complex.cmp, Op.floatCmp, asBool, FloatKind.format]
theorem cx_add {t : TypeId} {a b c d x y : Nat} (h : Ieee.double.add a c = some x) (k : Ieee.double.add b d = some y) : (binOp .add t (.complex .f64 a b) (.complex .f64 c d)).run P w = .ok (.complex .f64 x y) w := by
  simp [binOp, Op.complexOp, Op.Complex.arith, Op.floatArith, FloatKind.format, h, k]
/-- A number is taken to its end before it goes on. -/
def frc {α : Type} (n : Nat) (f : Nat → α) : α := Nat.rec (f 0) (fun m _ => f (m + 1)) n
theorem frc_eq {α : Type} (n : Nat) (f : Nat → α) : frc n f = f n := by cases n <;> rfl
def frcO {α : Type} (x : Option Nat) (f : Nat → Option α) : Option α := match x with
  | none => none
  | some n => frc n f
theorem frcO_eq {α : Type} (x : Option Nat) (f : Nat → Option α) : frcO x f = x.bind f := by cases x <;> simp [frcO, frc_eq]
/-- times i. -/
def mulI (p : Nat × Nat) : Option (Nat × Nat) :=
  frc p.1 fun a => frc p.2 fun b => frcO (Ieee.double.mul a 0) fun ac => frcO (Ieee.double.mul b 4607182418800017408) fun bd =>
  frcO (Ieee.double.sub ac bd) fun re => frcO (Ieee.double.mul a 4607182418800017408) fun ad => frcO (Ieee.double.mul b 0) fun bc =>
  frcO (Ieee.double.add ad bc) fun im => some (re, im)
theorem cx_mulI {t : TypeId} {p q : Nat × Nat} (h : mulI p = some q) : (binOp .mul t (.complex .f64 p.1 p.2) (.complex .f64 0 4607182418800017408)).run P w = .ok (.complex .f64 q.1 q.2) w := by
  unfold mulI at h
  simp only [frc_eq, frcO_eq, Option.bind_eq_some_iff, Option.some.injEq] at h
  obtain ⟨ac, e1, bd, e2, re, e3, ad, e4, bc, e5, im, e6, rfl⟩ := h
  simp [binOp, Op.complexOp, Op.Complex.product, Op.Complex.conv, Op.Complex.mul, Op.Complex.sub, Op.Complex.add, Op.Complex.arith, Op.floatArith, FloatKind.format, e1, e2, e3, e4, e5, e6]
theorem cx_mk {t : TypeId} {ts : Array TypeId} {cs : Array Bool} {a b : Nat} : (builtin .complex ts t cs #[.float .f64 a, .float .f64 b]).run P w = .ok (.value (.complex .f64 a b)) w := by
  rfl
theorem cx_re {t : TypeId} {ts : Array TypeId} {cs : Array Bool} {a b : Nat} : (builtin .real ts t cs #[.complex .f64 a b]).run P w = .ok (.value (.float .f64 a)) w := by
  rfl
theorem cx_im {t : TypeId} {ts : Array TypeId} {cs : Array Bool} {a b : Nat} : (builtin .imag ts t cs #[.complex .f64 a b]).run P w = .ok (.value (.float .f64 b)) w := by
  rfl
theorem cx_neg {a b : Nat} : (Op.unary .neg (.complex .f64 a b)).run P w = .ok (.complex .f64 (Op.negFloat .f64 a) (Op.negFloat .f64 b)) w := rfl
theorem fl_neg1 {a : Nat} : (Op.unary .neg (.float .f64 a)).run P w = .ok (.float .f64 (Op.negFloat .f64 a)) w := rfl
theorem cv_if {s t : TypeId} {n : Int} (hs : P.underlying s = some (.int .i64)) (ht : P.underlying t = some (.float .f64)) : (convert s t (.int .i64 n)).run P w = .ok (.float .f64 (fI n)) w := by
  simp [convert, run_underlying hs, run_underlying ht, Conv.intToFloat, fI]
theorem cv_fi {s t : TypeId} {b : Nat} {n : Int} (hs : P.underlying s = some (.float .f64)) (ht : P.underlying t = some (.int .i64)) (h : floatToIntVal .f64 b .i64 = some n) : (convert s t (.float .f64 b)).run P w = .ok (.int .i64 n) w :=
  run_convert_float_int w s t .f64 .i64 b n (by rw [hs]; rfl) ht h
end
theorem cxq {a b c d : Nat} {x y u v : Int} (h1 : FlOf a x) (h2 : FlOf b y) (h3 : FlOf c u) (h4 : FlOf d v) : (Ieee.double.order a c == some .eq && Ieee.double.order b d == some .eq) = decide (x = u ∧ y = v) := by
  rw [fl_order h1 h3, fl_order h2 h4]
  have e : ∀ p q : Int, (some (compare p q) == some Ordering.eq) = decide (p = q) := by
    intro p q
    rcases Int.lt_trichotomy p q with h | h | h
    · rw [Int.compare_eq_lt.2 h, decide_eq_false (by omega)]; rfl
    · subst h; rw [Int.compare_eq_eq.2 rfl]; simp
    · rw [Int.compare_eq_gt.2 h, decide_eq_false (by omega)]; rfl
  rw [e, e, ← Bool.decide_and]
end Go.Proofs.YteafnboehmfmiaaDoor
