/- Contracts of the reference of layer 2: Mul, Cmp, Sub, part. -/
import Derived.Test.YthoiocjbjfhgpaaGS
import Derived.Test.YthoiocjbjfhgpaaLawE
import Derived.Deep.DeepCutAuto
namespace Go.Proofs.Ythoiocjbjfhgpaa
open Go.RowKit
set_option maxRecDepth 100000

def SmulInv (w : World) (d N M : Nat) (o i : Value) (wr : World) : Prop :=
  ∃ k : Nat, k ≤ d ∧ i = .int .i64 k ∧ Dg wr .i64 65536 o (N * vl 65536 ((dg 65536 M).take k)) ∧ Below w.heap.size w wr

theorem dl_mul_le {N M a b : Nat} (h1 : dl 65536 N ≤ a) (h2 : dl 65536 M ≤ b) : dl 65536 (N * M) ≤ a + b := by
  by_cases h0 : M = 0
  · subst h0; rw [Nat.mul_zero, dl_zero]; omega
  apply dl_le (by omega)
  rw [Nat.pow_add]
  have e1 : N < 65536 ^ a := Nat.lt_of_lt_of_le (lt_dl (by omega) N) (Nat.pow_le_pow_right (by omega) h1)
  have e2 : M < 65536 ^ b := Nat.lt_of_lt_of_le (lt_dl (by omega) M) (Nat.pow_le_pow_right (by omega) h2)
  exact Nat.lt_of_lt_of_le (Nat.mul_lt_mul_of_pos_right e1 (by omega)) (Nat.mul_le_mul_left _ (by omega))

def ScmpInv (w : World) (d N M : Nat) (i : Value) (wr : World) : Prop :=
  ∃ (k n : Nat), k ≤ d ∧ i = .int .i64 ((k : Int) - 1) ∧ (∀ j, k ≤ j → lg (dg 65536 N) j = lg (dg 65536 M) j) ∧ wr = w.drewN n

set_option maxHeartbeats 1000000 in
theorem scmp_any (v1 v2 : Value) (N M : Nat) (w : World) (h1 : Dg w .i64 65536 v1 N) (h2 : Dg w .i64 65536 v2 M) :
    Calls Try.prog 85 #[v1, v2] w (Quiet w (.int .i64 (c3 N M))) := by
  obtain ⟨ad1, cap1, rfl, r1, c1, m1, l1, n1⟩ := h1
  obtain ⟨ad2, cap2, rfl, r2, c2, m2, l2, n2⟩ := h2
  rw [length_dg] at l1 l2 c1 c2 ⊢
  rw [length_dg]
  by_cases hlt : dl 65536 N < dl 65536 M
  · have HC := Lib.hid (c3_lt (lt_of_dl (b := 65536) (by omega) hlt))
    clear r1 r2
    go_enter Try.func85, Try.ntmps85
    go_wp2
    go_ret
    exact ⟨ret_int HC.out.symm, 0, rfl⟩
  · by_cases hgt : dl 65536 M < dl 65536 N
    · have HC := Lib.hid (c3_gt (lt_of_dl (b := 65536) (by omega) hgt))
      clear r1 r2
      go_enter Try.func85, Try.ntmps85
      go_wp2
      go_ret
      exact ⟨ret_int HC.out.symm, 0, rfl⟩
    · obtain ⟨d, hd⟩ : ∃ d : Nat, d = dl 65536 N := ⟨_, rfl⟩
      have hd2 : d = dl 65536 M := by omega
      rw [← hd] at l1 c1 ⊢
      rw [← hd2] at c2 ⊢
      have HD := Lib.hid hd; have HD2 := Lib.hid hd2
      clear hd hd2 hlt hgt l2
      go_enter Try.func85, Try.ntmps85
      go_wp2
      go_loopw [5] (fun i wr => ScmpInv w d N M i wr) (fun i _ => (intOf i + 1).toNat)
      case atStart => exact ⟨d, 0, Nat.le_refl _, rfl, fun j hj => by rw [lg_out (by rw [length_dg, ← HD.out]; exact hj), lg_out (by rw [length_dg, ← HD2.out]; exact hj)], rfl⟩
      case round =>
        obtain ⟨k, n, hk, rfl, ha, hw⟩ := hrel
        by_cases hp : 0 < k
        · obtain ⟨j, rfl⟩ : ∃ j, k = j + 1 := ⟨k - 1, by omega⟩
          have HA := Lib.hid ha
          rw [show ((j + 1 : Nat) : Int) - 1 = (j : Int) from by omega]
          obtain ⟨b, off, hx, _, hc⟩ := r1.get (by rw [length_dg, ← HD.out]; omega)
          obtain ⟨b', off', hy, _, hc'⟩ := r2.get (by rw [length_dg, ← HD2.out]; omega)
          have hcx : wr.cell? ⟨b, off + j, none⟩ = some (.int .i64 (lg (dg 65536 N) j : Nat)) := by rw [hw]; exact hc j (by rw [length_dg, ← HD.out]; omega)
          have hcy : wr.cell? ⟨b', off' + j, none⟩ = some (.int .i64 (lg (dg 65536 M) j : Nat)) := by rw [hw]; exact hc' j (by rw [length_dg, ← HD2.out]; omega)
          have hjd : (j : Int) < (d : Int) := by omega
          have HW := Lib.hid hw
          subst hx; subst hy
          clear hc hc' r1 r2 hw ha
          by_cases q1 : lg (dg 65536 N) j < lg (dg 65536 M) j
          · have HC := Lib.hid (c3_lt (lt_digit (b := 65536) (by omega) (fun i hi => HA.out i (by omega)) q1))
            go_upto_region 8 with fail
            go_quiet (fail)
            go_wp2
            go_ret
            exact ⟨ret_int HC.out.symm, n + nq, by rw [HW.out, World.drewN_drewN]⟩
          · by_cases q2 : lg (dg 65536 M) j < lg (dg 65536 N) j
            · have HC := Lib.hid (c3_gt (lt_digit (b := 65536) (by omega) (fun i hi => (HA.out i (by omega)).symm) q2))
              go_upto_region 8 with fail
              go_quiet (fail)
              go_upto_region 10 with fail
              obtain ⟨wq, hq⟩ : ∃ wq, wq = wr.drewN nq := ⟨_, rfl⟩
              have hcx' : wq.cell? ⟨b, off + j, none⟩ = some (.int .i64 (lg (dg 65536 N) j : Nat)) := by rw [hq]; exact hcx
              have hcy' : wq.cell? ⟨b', off' + j, none⟩ = some (.int .i64 (lg (dg 65536 M) j : Nat)) := by rw [hq]; exact hcy
              rw [← hq]
              have HQ := Lib.hid (show ∃ z, wq = w.drewN z from ⟨n + nq, by rw [hq, HW.out, World.drewN_drewN]⟩)
              clear hq hcx hcy
              go_quiet (fail)
              go_wp2
              go_ret
              obtain ⟨z, hz⟩ := HQ.out
              exact ⟨ret_int HC.out.symm, z + nq, by rw [hz, World.drewN_drewN]⟩
            · have he : lg (dg 65536 N) j = lg (dg 65536 M) j := by omega
              have HE := Lib.hid he
              clear he
              go_upto_region 8 with fail
              go_quiet (fail)
              go_upto_region 10 with fail
              obtain ⟨wq, hq⟩ : ∃ wq, wq = wr.drewN nq := ⟨_, rfl⟩
              have hcx' : wq.cell? ⟨b, off + j, none⟩ = some (.int .i64 (lg (dg 65536 N) j : Nat)) := by rw [hq]; exact hcx
              have hcy' : wq.cell? ⟨b', off' + j, none⟩ = some (.int .i64 (lg (dg 65536 M) j : Nat)) := by rw [hq]; exact hcy
              rw [← hq]
              have HQ := Lib.hid (show ∃ z, wq = w.drewN z from ⟨n + nq, by rw [hq, HW.out, World.drewN_drewN]⟩)
              clear hq hcx hcy
              go_quiet (fail)
              go_wp2
              go_roundw
              case rel =>
                obtain ⟨z, hz⟩ := HQ.out
                exact ⟨j, z + nq, by omega, by go_num, fun i hi => by
                  by_cases e : i = j
                  · subst e; exact HE.out
                  · exact HA.out i (by omega), by rw [hz, World.drewN_drewN]⟩
              case measure => simp [intOf]
        · obtain rfl : k = 0 := by omega
          have HC := Lib.hid (c3_eq (eq_digits (b := 65536) (by omega) (fun j => ha j (Nat.zero_le j))))
          have HW := Lib.hid hw
          clear r1 r2 hw ha
          go_wp2
          go_ret
          exact ⟨ret_int HC.out.symm, n, HW.out⟩
end Go.Proofs.Ythoiocjbjfhgpaa
