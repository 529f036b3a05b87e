/- Words for the walks by program: forms, parts, kept through a store; limits. -/
import Derived.Test.YtnljadejcfgmaaaGG
import Derived.Test.YtnljadejcfgmaaaLawR
import Derived.Test.YtnljadejcfgmaaaLawU
import Derived.Test.YtnljadejcfgmaaaGU
namespace Go.Proofs.Ytnljadejcfgmaaa
open Go.RowKit
set_option linter.unusedVariables false
set_option maxRecDepth 100000

theorem Dg.form {w : World} {k : IntKind} {b : Nat} {v : Value} {n : Nat} (h : Dg w k b v n) : ∃ ad m c, v = .slice ad m c := by
  obtain ⟨ad, cap, rfl, _⟩ := h
  exact ⟨ad, _, cap, rfl⟩
theorem Nt.form {w : World} {v : Value} {n : Nat} (h : Nt w v n) : ∃ ad m c, v = .slice ad m c := h.shape
theorem Dg.keep {w w' : World} {k : IntKind} {b : Nat} {v : Value} {n : Nat} (h : Dg w k b v n) (kp : Keep w w') : Dg w' k b v n := kp.dg h
theorem Nt.keep {w w' : World} {v : Value} {n : Nat} (h : Nt w v n) (kp : Keep w w') : Nt w' v n := kp.nt h
theorem Wc.keep {w w' : World} {v : Value} {z : Int} (h : Wc w v z) (kp : Keep w w') : Wc w' v z := kp.wc h
theorem Wz.keep {w w' : World} {v : Value} {z : Int} (h : Wz w v z) (kp : Keep w w') : Wz w' v z := kp.wz h
theorem Rz.keep {w w' : World} {v : Value} {z : Int} (h : Rz w v z) (kp : Keep w w') : Rz w' v z := kp.rz h
theorem InX.keep {w w' : World} {ad : Option Addr} {n c : Nat} {xs : List Nat} (h : InX w ad n c xs) (kp : Keep w w') : InX w' ad n c xs := by
  exact ⟨h.len, kp _ _ _ h.rd, h.ok, h.cap, h.max, h.nil⟩
theorem Wc.abs {w : World} {b : Bool} {a : Value} {z : Int} (h : Wc w (.agg #[.bool b, a]) z) : Dg w .u32 B32 a z.natAbs := by
  obtain ⟨a', h1, h2⟩ := h
  injection h1 with h1
  simp only [Array.mk.injEq, List.cons.injEq, and_true] at h1
  obtain ⟨_, rfl⟩ := h1
  exact h2
theorem Wc.neg {w : World} {b : Bool} {a : Value} {z : Int} (h : Wc w (.agg #[.bool b, a]) z) : b = decide (z < 0) := by
  obtain ⟨a', h1, h2⟩ := h
  injection h1 with h1
  simp only [Array.mk.injEq, List.cons.injEq, and_true, Value.bool.injEq] at h1
  exact h1.1
theorem Wz.abso {w : World} {b : Bool} {a : Value} {z : Int} (h : Wz w (.agg #[.bool b, a]) z) : Nt w a z.natAbs := by
  obtain ⟨b', a', N, h1, h2, h3⟩ := h
  injection h1 with h1
  simp only [Array.mk.injEq, List.cons.injEq, and_true] at h1
  obtain ⟨_, rfl⟩ := h1
  rw [h3, sg_natAbs]; exact h2
theorem Rz.abs {w : World} {b : Bool} {a : Value} {z : Int} (h : Rz w (.agg #[.bool b, a]) z) : Dg w .i64 65536 a z.natAbs := by
  obtain ⟨a', h1, h2⟩ := h
  injection h1 with h1
  simp only [Array.mk.injEq, List.cons.injEq, and_true] at h1
  obtain ⟨_, rfl⟩ := h1
  exact h2
/-- A sign and a number without limbs 0 at the top: -0 may stand. -/
def Wg (w : World) (v : Value) (b : Bool) (N : Nat) : Prop := ∃ s, v = .agg #[.bool b, s] ∧ Dg w .u32 B32 s N
theorem Wg.mk {w : World} {s : Value} {b : Bool} {N : Nat} (h : Dg w .u32 B32 s N) : Wg w (.agg #[.bool b, s]) b N := ⟨s, rfl, h⟩
theorem Wg.below {w w' : World} {v : Value} {b : Bool} {N : Nat} (h : Wg w v b N) (hb : Below w.heap.size w w') : Wg w' v b N := by
  obtain ⟨s, rfl, h⟩ := h; exact ⟨s, rfl, h.below hb⟩
theorem Wg.keep {w w' : World} {v : Value} {b : Bool} {N : Nat} (h : Wg w v b N) (kp : Keep w w') : Wg w' v b N := by
  obtain ⟨s, rfl, h⟩ := h; exact ⟨s, rfl, h.keep kp⟩
theorem Wg.wz {w : World} {v : Value} {b : Bool} {N : Nat} (h : Wg w v b N) : Wz w v (sg b N) := by
  obtain ⟨s, rfl, h⟩ := h; exact ⟨b, s, N, rfl, h.nt, rfl⟩
theorem Wz.mk {w : World} {s : Value} {b : Bool} {N : Nat} (h : Nt w s N) : Wz w (.agg #[.bool b, s]) (sg b N) := ⟨b, s, N, rfl, h, rfl⟩
theorem Wg.form {w : World} {v : Value} {b : Bool} {N : Nat} (h : Wg w v b N) : ∃ (b : Bool) (ad : Option Addr) (n cap : Nat), v = .agg #[.bool b, .slice ad n cap] := by
  obtain ⟨s, rfl, h⟩ := h
  obtain ⟨ad, m, c, rfl⟩ := Dg.form h
  exact ⟨_, ad, m, c, rfl⟩
theorem Dg.nil (w : World) : Dg w .u32 B32 (.slice none 0 0) 0 := Dg.zero _ _ _ _ (by unfold maxLen; omega) (fun _ => rfl)
theorem sg_lim {N k : Nat} (b : Bool) (h : Lim N k) : Lim (sg b N).natAbs k := by rw [sg_natAbs]; exact h
theorem limz_of {n : Int} (h : n.natAbs < 18446744073709551616) : Lim n.natAbs 2 := Lim.of64 h
theorem rawZ_limo (neg : Bool) {xs : List Nat} (h : okb B32 xs) (m : Nat) : Lim (rawZ neg xs m).natAbs m := by
  unfold rawZ
  rw [sg_natAbs]
  exact Lim.of_sq (okb_take h m) (by simp; omega)
theorem dec_f {p : Prop} [Decidable p] (h : ¬ p) : decide p = false := decide_eq_false h
theorem dec_t {p : Prop} [Decidable p] (h : p) : decide p = true := decide_eq_true h
theorem ne0 {x : Int} (h : x = 0) : decide (x ≠ 0) = false := by subst h; rfl
theorem eq0 {x : Int} (h : x = 0) : decide (x = 0) = true := by subst h; rfl
theorem eqx {x y : Int} (h : x = y) : decide (x = y) = true := decide_eq_true h
theorem nex {x y : Int} (h : x = y) : decide (x ≠ y) = false := by subst h; simp
theorem ge0 {x : Int} (h : 0 ≤ x) : decide (0 ≤ x) = true := decide_eq_true h
theorem ci_same {x y : Int} (h : x = y) : ci x y = 0 := by subst h; unfold ci; split <;> (try split) <;> omega
end Go.Proofs.Ytnljadejcfgmaaa
