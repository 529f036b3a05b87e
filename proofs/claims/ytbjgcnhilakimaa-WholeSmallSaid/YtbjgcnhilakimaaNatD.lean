import Derived.Test.YtbjgcnhilakimaaNatE
import Derived.Deep.DeepCutAuto
import Derived.Deep.LoopGhost
namespace Go.Proofs.Ytbjgcnhilakimaa
open Go.RowKit
set_option maxRecDepth 100000

/-- The loop of Nat.Shl. -/
def ShlInv (w : World) (g d q r X : Nat) (i : Value) (wr : World) : Prop :=
  ∃ (k : Nat) (zs : List Nat), k ≤ d ∧ i = .int .i64 k ∧ zs.length = d + q + 1 ∧ okb B32 zs ∧ Row wr .u32 65 w.heap.size g (d + q + 1) zs ∧ Below w.heap.size w wr ∧
    (∀ j, k + q < j → lg zs j = 0) ∧ lg zs (k + q) < 2 ^ r ∧ vl B32 zs = vl B32 ((dg B32 X).take k) * (2 ^ r * B32 ^ q)

theorem shl_step {zs X : List Nat} {k q r : Nat} (hlen : k + q + 1 < zs.length) (h1 : lg zs (k + q + 1) = 0) (hv : vl B32 zs = vl B32 (X.take k) * (2 ^ r * B32 ^ q)) :
    vl B32 ((zs.set (k + q) (lg zs (k + q) + lg X k * 2 ^ r % B32)).set (k + q + 1) (lg X k * 2 ^ r / B32)) = vl B32 (X.take (k + 1)) * (2 ^ r * B32 ^ q) := by
  have e1 := vl_set B32 (xs := zs) (i := k + q) (lg zs (k + q) + lg X k * 2 ^ r % B32) (by omega)
  have e2 := vl_set B32 (xs := zs.set (k + q) (lg zs (k + q) + lg X k * 2 ^ r % B32)) (i := k + q + 1) (lg X k * 2 ^ r / B32) (by rw [List.length_set]; exact hlen)
  rw [lg_set_other _ (by omega), h1] at e2
  have e3 := carry_arith B32 (B32 ^ (k + q)) (lg X k * 2 ^ r)
  rw [← Nat.pow_succ] at e3
  rw [Nat.add_mul] at e1
  have e4 : lg X k * 2 ^ r * B32 ^ (k + q) = lg X k * B32 ^ k * (2 ^ r * B32 ^ q) := by
    rw [Nat.pow_add, Nat.mul_assoc, Nat.mul_assoc]
    congr 1
    rw [← Nat.mul_assoc, Nat.mul_comm (2 ^ r), Nat.mul_assoc]
  rw [vl_take_succ, Nat.add_mul, ← hv, ← e4, ← e3]
  simp only [Nat.succ_eq_add_one] at *
  omega

def shlOf (n : Int) : Nat := (min (max n 0) 8192).toNat

set_option maxHeartbeats 1000000 in
theorem shl_any (v1 : Value) (N : Nat) (n : Int) (w : World) (h1 : Nt w v1 N) (hb : dl B32 (N * 2 ^ shlOf n) ≤ 1099511627776) (hl : dl B32 N ≤ 1099511627000) :
    Calls Try.prog 36 #[v1, .int .i64 n] w (DgPost w (N * 2 ^ shlOf n)) := by
  obtain ⟨xs, ox, vx, ad, cap, rfl, r1, c1, m1, l1, n1⟩ := h1
  have HX := Lib.hid vx; clear vx
  have dx := dl_vl_le B32_two ox
  have rX := r1.dg ox
  obtain ⟨s, hs⟩ : ∃ s : Nat, s = shlOf n := ⟨_, rfl⟩
  have hsn : (s : Int) = min (max n 0) 8192 := by rw [hs]; unfold shlOf; omega
  have hs2 : s ≤ 8192 := by omega
  rw [← hs] at hb ⊢
  obtain ⟨i0, hi, hz0, hz1, hz2⟩ := info_parts Try.info65
  have HS := Lib.hid hsn
  clear hs hsn
  go_enter Try.func36, Try.ntmps36
  go_wp2_with fail
  rw [← HS.out]
  obtain ⟨q, hq⟩ : ∃ q : Nat, q = s / 32 := ⟨_, rfl⟩
  obtain ⟨r, hr⟩ : ∃ r : Nat, r = s % 32 := ⟨_, rfl⟩
  have hsq : s = 32 * q + r := by omega
  have hr32 : r < 32 := by omega
  have hq8 : q ≤ 256 := by omega
  have e1 : (s : Int) / 32 = (q : Int) := by omega
  have e2 : (s : Int) % 32 = (r : Int) := by omega
  have HSQ := Lib.hid hsq
  clear hq hr hsq
  refine (cut_any ad _ cap xs _ rfl r1 ox (by omega) c1 n1).mono ?_
  rintro e w' ⟨rfl, hw⟩
  have hw := hw.symm; subst hw
  rw [HX.out] at rX dx ⊢
  obtain ⟨d, hd⟩ : ∃ d, d = dl B32 N := ⟨_, rfl⟩
  rw [← hd] at dx hl ⊢
  have HD := Lib.hid hd; clear hd
  go_wp2_with (at_make; refine wpList_make_full _ rfl _ _ 27 rfl w.heap.size 65 i0 (.int .u32 0) 1 Try.underlying27 hi hz0 hz1 .i64 .i64 _ _ (d + q + 1) rfl rfl (by omega) (by omega) (by rw [hz2]; omega) (by unfold maxLen; omega) (Nat.le_refl _) ?_)
  intro w1 hown hgrow
  have hrow := Row.of_made hown
  have hb1 : Below w.heap.size w w1 := (Below.refl _ _).grown hgrow (Nat.le_refl _) (fun k h => by cases h)
  clear hown hgrow
  obtain ⟨g, hg⟩ : ∃ g, g = w.heap.size := ⟨_, rfl⟩
  rw [← hg] at hrow
  rw [← hg]
  have HG := Lib.hid hg; clear hg
  go_wp2
  go_loopw [27] (fun i wr => ShlInv w g d q r N i wr) (fun i _ => d - (intOf i).toNat)
  case atStart =>
    have h0 : ∀ j, lg (List.replicate (d + q + 1) 0) j = 0 := fun j => by
      unfold lg; simp [List.getD, List.getElem?_replicate]; split <;> rfl
    exact ⟨0, _, Nat.zero_le _, rfl, by simp, okb_replicate B32_pos _, hrow.rebase (Nat.le_of_eq HG.out.symm), hb1, fun j _ => h0 j, by rw [h0]; exact Nat.pow_pos (by omega), by
      rw [show vl B32 (List.replicate (d + q + 1) 0) = vl B32 [] from vl_congr B32 (fun j => by rw [h0, lg_nil])]; simp [vl]⟩
  case round =>
    obtain ⟨k, zs, hk, rfl, hzl, hzo, hro, hbe, hz0, hlow, hv⟩ := hrel
    have HV := Lib.hid hv; clear hv
    have HZ0 := Lib.hid hz0; clear hz0
    have HLO := Lib.hid hlow; clear hlow
    have HZL := Lib.hid hzl
    by_cases hlt : k < d
    · have hX := (rX.below hbe).get (by rw [length_dg, ← HD.out]; omega)
      obtain ⟨b, off, ha, hbs, hcx⟩ := hX
      have hcx := hcx k (by rw [length_dg, ← HD.out]; omega)
      have hbb : b < g := by
        obtain ⟨b', off', ha', hb', _⟩ := rX.get (by rw [length_dg, ← HD.out]; omega)
        rw [ha] at ha'; simp at ha'; rw [HG.out]; omega
      subst ha
      have hcs := hro.cell (j := k + q) (by omega)
      have hfr := hro.free (k + q)
      have hcs1 := hro.cell (j := k + q + 1) (by omega)
      have hfr1 := hro.free (k + q + 1)
      have lx := lg_lt (okb_dg B32_two N) B32_pos k
      have HRO := Lib.hid hro; have HBE := Lib.hid hbe
      clear rX hzl hro hbe hb1 hrow
      go_wp2
      go_roundw
      case rel =>
        have hx32 : lg (dg B32 N) k < 4294967296 := by rw [B32_eq] at lx; exact lx
        have hw := shl_wide hx32 hr32
        obtain ⟨hs1, hs2⟩ := shl_low (x := lg (dg B32 N) k) hr32 HLO.out
        have hh := shl_high (r := r) hx32
        have hp := pow_le_32 hr32
        have hm : lg (dg B32 N) k * 2 ^ r % 4294967296 < 4294967296 := Nat.mod_lt _ (by decide)
        have hor : bits BinOp.or IntKind.u32 ((lg zs (k + q) : Nat) : Int) (((lg (dg B32 N) k * 2 ^ r : Nat) : Int) % 4294967296) = ((lg zs (k + q) + lg (dg B32 N) k * 2 ^ r % B32 : Nat) : Int) := by
          rw [show (((lg (dg B32 N) k * 2 ^ r : Nat) : Int) % 4294967296) = ((lg (dg B32 N) k * 2 ^ r % 4294967296 : Nat) : Int) from by omega, u32_or_nat _ _ (by omega) hm, hs2]
          rfl
        have hhi : ((lg (dg B32 N) k * 2 ^ r : Nat) : Int) / 4294967296 % 4294967296 = ((lg (dg B32 N) k * 2 ^ r / B32 : Nat) : Int) := by
          show _ = ((lg (dg B32 N) k * 2 ^ r / 4294967296 : Nat) : Int)
          omega
        rw [hw, hor, hhi]
        refine ⟨k + 1, (zs.set (k + q) (lg zs (k + q) + lg (dg B32 N) k * 2 ^ r % B32)).set (k + q + 1) (lg (dg B32 N) k * 2 ^ r / B32), by omega, by go_num, by simp; exact HZL.out,
          okb_set (okb_set hzo (show _ + _ % 4294967296 < 4294967296 from hs1)) (show _ / 4294967296 < 4294967296 from by omega), ?_, ?_, ?_, ?_, ?_⟩
        · exact (HRO.out.set (k + q) _).set (k + q + 1) _
        · exact (HBE.out.setCell (p := ⟨g, k + q, none⟩) (Nat.le_of_eq HG.out.symm) _).setCell (p := ⟨g, k + q + 1, none⟩) (Nat.le_of_eq HG.out.symm) _
        · intro j hj
          rw [lg_set_other _ (by omega), lg_set_other _ (by omega)]
          exact HZ0.out j (by omega)
        · rw [show k + 1 + q = k + q + 1 from by omega, lg_set_same _ (by rw [List.length_set, HZL.out]; omega)]
          exact hh
        · exact shl_step (by rw [HZL.out]; omega) (HZ0.out _ (by omega)) HV.out
      case measure => simp [intOf]; omega
    · obtain rfl : k = d := by omega
      have hvv : vl B32 zs = N * 2 ^ s := by
        rw [HV.out, vl_take_all (by rw [length_dg, ← HD.out]; omega), vl_dg B32_two, HSQ.out, Nat.pow_add, show B32 ^ q = 2 ^ (32 * q) from by rw [Nat.pow_mul]; rfl, Nat.mul_comm (2 ^ r)]
      have HVV := Lib.hid hvv
      clear hvv rX hb1 hrow
      go_wp2_with fail
      refine (cut_any _ _ _ zs _ (by rw [hzl]) hro.rd hzo (by omega) (by omega) (fun h => by cases h)).mono ?_
      rintro e w2 ⟨rfl, hw⟩
      have hw := hw.symm; subst hw
      have hrd := hro.rd.dg hzo
      have hle := dl_vl_le B32_two hzo
      rw [HVV.out] at hrd hle ⊢
      go_wp2
      go_ret
      exact ⟨_, rfl, ⟨_, _, rfl, hrd, by rw [length_dg]; omega, by unfold maxLen; omega, by rw [length_dg]; exact hb, fun h => by cases h⟩, hbe⟩
end Go.Proofs.Ytbjgcnhilakimaa
