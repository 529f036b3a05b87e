/- RefI RefJ -/
import Derived.Test.YtnljadejcfgmaaaRefH

/- Contracts of the reference of layer 2: Sub, part. -/
namespace Go.Proofs.Ytnljadejcfgmaaa
open Go.RowKit
set_option maxRecDepth 100000

def SsubInv (w : World) (d N M : Nat) (o c i : Value) (wr : World) : Prop :=
  ∃ (k cc : Nat) (L : List Nat), k ≤ d ∧ i = .int .i64 k ∧ c = .int .i64 cc ∧ cc ≤ 1 ∧ L.length = k ∧ okb 65536 L ∧ Acc wr .i64 3 w.heap.size o L ∧ Below w.heap.size w wr ∧
    vl 65536 L + vl 65536 ((dg 65536 M).take k) = vl 65536 ((dg 65536 N).take k) + cc * 65536 ^ k
theorem sub_last3 {d cc Z X Y : Nat} (h : Z + Y = X + cc * 65536 ^ d) (hz : Z < 65536 ^ d) (hcc : cc ≤ 1) (hle : Y ≤ X) : Z = X - Y := by
  by_cases hc : cc = 0
  · subst hc; omega
  · obtain rfl : cc = 1 := by omega
    omega

/-- What part answers: a digit and a place, so that so many times M is not above N. -/
def PartPost (w : World) (N M : Nat) (e : Ending) (w' : World) : Prop :=
  ∃ m up n : Nat, e = .returned (.tuple #[.int .i64 m, .int .i64 up]) ∧ 1 ≤ m ∧ m < 65536 ∧ up ≤ dl 65536 N ∧ m * M * 65536 ^ up ≤ N ∧ w' = w.drewN n

theorem part_bound {N M A t m up e : Nat} (hM : M ≤ t * 65536 ^ (dl 65536 M - 1)) (hup : dl 65536 M - 1 + up = e) (hm : m * t ≤ A) (hN : A * 65536 ^ e ≤ N) : m * M * 65536 ^ up ≤ N := by
  have h1 : m * M * 65536 ^ up ≤ m * (t * 65536 ^ (dl 65536 M - 1)) * 65536 ^ up := Nat.mul_le_mul_right _ (Nat.mul_le_mul_left _ hM)
  have h2 : m * (t * 65536 ^ (dl 65536 M - 1)) * 65536 ^ up = m * t * 65536 ^ e := by
    rw [← hup, Nat.pow_add, Nat.mul_assoc, Nat.mul_assoc, Nat.mul_assoc]
  have h3 : m * t * 65536 ^ e ≤ A * 65536 ^ e := Nat.mul_le_mul_right _ hm
  omega
theorem top_le {N : Nat} (h : 0 < dl 65536 N) : N ≤ (lg (dg 65536 N) (dl 65536 N - 1) + 1) * 65536 ^ (dl 65536 N - 1) ∧ lg (dg 65536 N) (dl 65536 N - 1) * 65536 ^ (dl 65536 N - 1) ≤ N ∧ 0 < lg (dg 65536 N) (dl 65536 N - 1) := by
  obtain ⟨h1, h2⟩ := top_split (b := 65536) (by omega) h
  have h3 : N % 65536 ^ (dl 65536 N - 1) < 65536 ^ (dl 65536 N - 1) := Nat.mod_lt _ (Nat.pow_pos (by omega))
  rw [Nat.add_mul]
  refine ⟨by omega, by omega, h2⟩
theorem two_le {N : Nat} (h : 1 < dl 65536 N) : (65536 * lg (dg 65536 N) (dl 65536 N - 1) + lg (dg 65536 N) (dl 65536 N - 2)) * 65536 ^ (dl 65536 N - 2) ≤ N := by
  have h1 := vl_split' 65536 (dg 65536 N) (dl 65536 N - 2)
  have h2 := vl_drop_succ 65536 (dg 65536 N) (dl 65536 N - 2)
  have h3 := vl_drop_succ 65536 (dg 65536 N) (dl 65536 N - 2 + 1)
  have hz : (dg 65536 N).drop (dl 65536 N - 2 + 1 + 1) = [] := List.drop_eq_nil_of_le (by rw [length_dg]; omega)
  rw [hz] at h3
  rw [show dl 65536 N - 2 + 1 = dl 65536 N - 1 from by omega] at h2 h3
  simp only [vl, Nat.mul_zero, Nat.add_zero] at h3
  rw [h3] at h2
  rw [vl_dg (by omega), h2] at h1
  rw [Nat.mul_comm, Nat.add_comm (65536 * _)]
  omega

end Go.Proofs.Ytnljadejcfgmaaa

/- Contracts of the reference of layer 2: DivMod, Gcd. -/
namespace Go.Proofs.Ytnljadejcfgmaaa
open Go.RowKit
set_option maxRecDepth 100000

theorem dg16_one : dg 65536 1 = [1] := by
  have := dg_unique (b := 65536) (by omega) (xs := [1]) (okb_one (by omega)) (by intro _; show (1 : Nat) ≠ 0; omega)
  simpa [vl] using this
theorem one_new (w : World) (T : TypeId) : Dg (w.alloc (.cells #[.int .i64 1] T)) .i64 65536 (.slice (some ⟨w.heap.size, 0, none⟩) 1 1) 1 := by
  have hr : Row (w.alloc (.cells #[.int .i64 1] T)) .i64 T w.heap.size w.heap.size 1 [1] := ⟨World.ownsRow_lit w #[.int .i64 1] 1 (Nat.le_refl _) (by unfold maxLen; omega) (by simp)⟩
  unfold Dg
  rw [dg16_one]
  exact hr.sq (by simp)

/-- What leaves a quotient and what is left over. -/
def SdivPost (w : World) (N M : Nat) (e : Ending) (w' : World) : Prop :=
  ∃ v1 v2, e = .returned (.tuple #[v1, v2]) ∧ Dg w' .i64 65536 v1 (N / M) ∧ Dg w' .i64 65536 v2 (if M = 0 then 0 else N % M) ∧ Below w.heap.size w w'

theorem div_end {N M Q c : Nat} (h : Q * M + c = N) (hc : c < M) : Q = N / M ∧ c = N % M := by
  have hm : 0 < M := by omega
  rw [← h, Nat.add_comm, Nat.add_mul_div_right _ _ hm, Nat.add_mul_mod_self_right, Nat.div_eq_of_lt hc, Nat.mod_eq_of_lt hc]
  omega

end Go.Proofs.Ytnljadejcfgmaaa
