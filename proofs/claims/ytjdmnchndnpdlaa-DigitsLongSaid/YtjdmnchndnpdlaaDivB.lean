/- The contract of bits.Div64. -/
import Derived.Test.YtjdmnchndnpdlaaDivA
import Derived.Test.YtjdmnchndnpdlaaGB
import Derived.Deep.LoopGhost
import Derived.Deep.DeepCutAuto
import Derived.Deep.CutBlock
namespace Go.Proofs.Ytjdmnchndnpdlaa
open Go.RowKit
set_option maxRecDepth 100000

/-- What Div64 answers: the quotient. -/
def DivPost (w : World) (Q : Nat) (e : Ending) (w' : World) : Prop := ∃ (r : Int) (n : Nat), e = .returned (.tuple #[.int .u64 Q, .int .u64 r]) ∧ w' = w.drewN n

theorem divpost_of {w : World} {Q : Nat} {z r : Int} (h : z = (Q : Nat)) : DivPost w Q (.returned (.tuple #[.int .u64 z, .int .u64 r])) w := ⟨r, 0, by rw [h], rfl⟩
theorem mask64 (Y : Nat) (h : Y < 18446744073709551616) : bits BinOp.and IntKind.u64 (Y : Int) 4294967295 = ((Y % 4294967296 : Nat) : Int) := by
  rw [show (4294967295 : Int) = ((4294967295 : Nat) : Int) from rfl, u64_and_nat _ _ h (by decide)]
  congr 1
  exact Nat.and_two_pow_sub_one_eq_mod Y 32
theorem or_shift64 {H L s : Nat} (hH : H % 2 ^ s = 0) (hL : L < 2 ^ s) (hs : s ≤ 31) (hH2 : H < 18446744073709551616) : bits BinOp.or IntKind.u64 (H : Int) (L : Int) = ((H + L : Nat) : Int) := by
  have : (2 : Nat) ^ s ≤ 2 ^ 31 := Nat.pow_le_pow_right (by omega) hs
  rw [u64_or_nat _ _ hH2 (by omega), nat_join s _ _ hH hL]

/-- The numbers of a division, moved up. -/
structure Moved (hi lo y s Y U W : Nat) : Prop where
  s31 : s ≤ 31
  Yd : Y = y * 2 ^ s
  Y63 : 9223372036854775808 ≤ Y
  Y64 : Y < 18446744073709551616
  Ud : U = hi * 2 ^ s + lo / 2 ^ (64 - s)
  UY : U < Y
  Wd : W = lo * 2 ^ s % 18446744073709551616
  whole : U * 18446744073709551616 + W = (hi * 18446744073709551616 + lo) * 2 ^ s
  L : lo / 2 ^ (64 - s) < 2 ^ s
  H64 : hi * 2 ^ s < 18446744073709551616
theorem moved {hi lo y : Nat} (h0 : 4294967296 ≤ y) (h1 : y < 18446744073709551616) (hh : hi < y) (hl : lo < 18446744073709551616) :
    Moved hi lo y (64 - dl 2 y) (y * 2 ^ (64 - dl 2 y)) (hi * 2 ^ (64 - dl 2 y) + lo / 2 ^ (64 - (64 - dl 2 y))) (lo * 2 ^ (64 - dl 2 y) % 18446744073709551616) := by
  have hd : dl 2 y ≤ 64 := dl_le (by omega) (Nat.lt_of_lt_of_le h1 (by decide))
  have hd2 : 33 ≤ dl 2 y := by
    by_cases h : dl 2 y ≤ 32
    · have := lt_dl (b := 2) (by omega) y
      have h3 : (2 : Nat) ^ dl 2 y ≤ 2 ^ 32 := Nat.pow_le_pow_right (by omega) h
      have h4 : (2 : Nat) ^ 32 = 4294967296 := by decide
      omega
    · omega
  have e1 := lt_dl (b := 2) (by omega) y
  have e2 := pow_dl_le (b := 2) (by omega) (show 0 < y by omega)
  obtain ⟨s, hs⟩ : ∃ s, s = 64 - dl 2 y := ⟨_, rfl⟩
  have hdd : dl 2 y = 64 - s := by omega
  rw [hdd] at e1 e2
  rw [← hs]
  have p1 : (2 : Nat) ^ (64 - s) * 2 ^ s = 18446744073709551616 := by rw [← Nat.pow_add, show 64 - s + s = 64 from by omega]
  have p2 : (2 : Nat) ^ (64 - s - 1) * 2 ^ s = 9223372036854775808 := by rw [← Nat.pow_add, show 64 - s - 1 + s = 63 from by omega]
  have hsp : 0 < 2 ^ s := Nat.pow_pos (by omega)
  have f1 : y * 2 ^ s < 18446744073709551616 := by rw [← p1]; exact Nat.mul_lt_mul_of_pos_right e1 hsp
  have f2 : 9223372036854775808 ≤ y * 2 ^ s := by rw [← p2]; exact Nat.mul_le_mul_right _ e2
  have f3 : lo / 2 ^ (64 - s) < 2 ^ s := by
    rw [Nat.div_lt_iff_lt_mul (Nat.pow_pos (by omega)), Nat.mul_comm, p1]; exact hl
  have f4 : hi * 2 ^ s + 2 ^ s ≤ y * 2 ^ s := by
    have := Nat.mul_le_mul_right (2 ^ s) (show hi + 1 ≤ y from hh)
    rw [Nat.add_mul, Nat.one_mul] at this
    exact this
  refine ⟨by omega, rfl, f2, f1, rfl, by omega, rfl, ?_, f3, by omega⟩
  have g1 := Nat.div_add_mod (lo * 2 ^ s) 18446744073709551616
  have g2 : lo * 2 ^ s / 18446744073709551616 = lo / 2 ^ (64 - s) := by rw [← p1, Nat.mul_div_mul_right _ _ hsp]
  rw [g2] at g1
  rw [Nat.add_mul, Nat.add_mul, Nat.mul_right_comm hi]
  omega

theorem join_div {U V1 V0 W Y Z : Nat} (hW : W = V1 * 4294967296 + V0) (h : (U * 18446744073709551616 + V1 * 4294967296 + V0) / Y = Z) :
    (U * 18446744073709551616 + W) / Y = Z := by
  subst hW
  rw [← Nat.add_assoc]
  exact h

set_option maxHeartbeats 4000000 in
set_option maxRecDepth 100000 in
theorem div64_any (hi lo y : Nat) (w : World) (h0 : 4294967296 ≤ y) (h1 : y < 18446744073709551616) (hh : hi < y) (hl : lo < 18446744073709551616) :
    Calls Try.prog 110 #[.int .u64 hi, .int .u64 lo, .int .u64 y] w (DivPost w ((hi * 18446744073709551616 + lo) / y)) := by
  by_cases hz : hi = 0
  · subst hz
    obtain ⟨q, hq⟩ : ∃ q, q = lo / y := ⟨_, rfl⟩
    obtain ⟨r, hr⟩ : ∃ r, r = lo % y := ⟨_, rfl⟩
    have HQ := Lib.hid (show q = (0 * 18446744073709551616 + lo) / y from by rw [hq]; simp)
    have eq1 : (lo : Int) / (y : Int) = (q : Int) := by rw [hq]; exact (Int.natCast_ediv lo y).symm
    have eq2 : (lo : Int) % (y : Int) = (r : Int) := by rw [hr]; exact (Int.natCast_emod lo y).symm
    have hql : q ≤ lo := by rw [hq]; exact Nat.div_le_self _ _
    have hrl : r < y := by rw [hr]; exact Nat.mod_lt _ (by omega)
    have hy0 : ((y : Int) == 0) = false := by simp; omega
    clear hq hr
    rw [← HQ.out]
    clear HQ
    go_enter Try.func110, Try.ntmps110
    go_wp2
    go_quiet (fail)
    go_wp2
    go_ret2
    exact ⟨r, nq, by rw [← eq2]; rfl, rfl⟩
  · obtain ⟨s, Y, U, W, hs, hmv⟩ : ∃ s Y U W, s = 64 - dl 2 y ∧ Moved hi lo y s Y U W := ⟨_, _, _, _, rfl, moved h0 h1 hh hl⟩
    have HMV := Lib.hid hmv
    obtain ⟨s31, Yd, Y63, Y64, Ud, UY, Wd, whole, hL, H64⟩ := hmv
    have hy0 : ((y : Int) == 0) = false := by simp; omega
    have hi0 : ((hi : Int) == 0) = false := by simp; omega
    have LZ := Lib.hid (fun w => lz64_any y s w h0 h1 hs)
    obtain ⟨H, hH⟩ : ∃ H, H = hi * 2 ^ s := ⟨_, rfl⟩
    obtain ⟨L, hLd⟩ : ∃ L, L = lo / 2 ^ (64 - s) := ⟨_, rfl⟩
    rw [← hH, ← hLd] at Ud
    rw [← hH] at H64
    rw [← hLd] at hL
    have or1 := or_shift64 (H := H) (L := L) (s := s) (by rw [hH]; exact Nat.mul_mod_left _ _) hL s31 H64
    rw [← Ud, hLd, ← cast_div_pow] at or1
    have eY : IntKind.u64.wrap ((y : Int) * 2 ^ s) = (Y : Int) := by
      rw [show (y : Int) * 2 ^ s = ((y * 2 ^ s : Nat) : Int) from by push_cast; rfl, ← Yd]
      exact wrap_u64_of (by omega) (by omega)
    have eH : IntKind.u64.wrap ((hi : Int) * 2 ^ s) = (H : Int) := by
      rw [show (hi : Int) * 2 ^ s = ((hi * 2 ^ s : Nat) : Int) from by push_cast; rfl, ← hH]
      exact wrap_u64_of (by omega) (by omega)
    have eW : IntKind.u64.wrap ((lo : Int) * 2 ^ s) = (W : Int) := by
      rw [show (lo : Int) * 2 ^ s = ((lo * 2 ^ s : Nat) : Int) from by push_cast; rfl, IntKind.wrap_u64, Wd]
      omega
    have W64 : W < 18446744073709551616 := by rw [Wd]; exact Nat.mod_lt _ (by decide)
    obtain ⟨Y1, hY1⟩ : ∃ Y1, Y1 = Y / 4294967296 := ⟨_, rfl⟩
    obtain ⟨Y0, hY0⟩ : ∃ Y0, Y0 = Y % 4294967296 := ⟨_, rfl⟩
    obtain ⟨V1, hV1⟩ : ∃ V1, V1 = W / 4294967296 := ⟨_, rfl⟩
    obtain ⟨V0, hV0⟩ : ∃ V0, V0 = W % 4294967296 := ⟨_, rfl⟩
    have eY1 : (Y : Int) / 4294967296 = (Y1 : Int) := by omega
    have eV1 : (W : Int) / 4294967296 = (V1 : Int) := by omega
    have eY0 := mask64 Y Y64
    have eV0 := mask64 W W64
    rw [← hY0] at eY0
    rw [← hV0] at eV0
    have y1l : 2147483648 ≤ Y1 := by omega
    have y1h : Y1 < 4294967296 := by omega
    have y0h : Y0 < 4294967296 := by omega
    have v1h : V1 < 4294967296 := by omega
    have v0h : V0 < 4294967296 := by omega
    have u64h : U < 18446744073709551616 := by omega
    have YD := Lib.hid (show Y = Y1 * 4294967296 + Y0 from by omega)
    have WD := Lib.hid (show W = V1 * 4294967296 + V0 from by omega)
    have hUY : U < Y1 * 4294967296 + Y0 := by omega
    have LD := Lib.hid hLd
    clear Yd Ud Wd whole hL hH hLd hY1 hY0 hV1 hV0 hs
    go_enter Try.func110, Try.ntmps110
    go_wp2_with fail
    refine (LZ.out _).mono ?_
    rintro e w' ⟨rfl, hw⟩
    have hw := hw.symm; subst hw
    clear LZ
    have G1 := Lib.hid (Guess.first hUY v1h y0h y1l)
    obtain ⟨q0, hq0⟩ : ∃ q0, q0 = U / Y1 := ⟨_, rfl⟩
    obtain ⟨r0, hr0⟩ : ∃ r0, r0 = U % Y1 := ⟨_, rfl⟩
    rw [← hq0, ← hr0] at G1
    have eq0 : (U : Int) / (Y1 : Int) = (q0 : Int) := by rw [hq0]; exact (Int.natCast_ediv U Y1).symm
    have hq0h := G1.out.high
    obtain ⟨A, hA⟩ : ∃ A, A = q0 * Y1 := ⟨_, rfl⟩
    have hAU : A + r0 = U := by rw [hA]; exact G1.out.sum
    have eA : (q0 : Int) * (Y1 : Int) = (A : Int) := by rw [hA]; push_cast; rfl
    have hr0h : r0 < 4294967296 := by rw [hr0]; exact Nat.lt_of_lt_of_le (Nat.mod_lt _ (by omega)) (by omega)
    have eAr : (U : Int) - (A : Int) = (r0 : Int) := by omega
    clear hq0 hr0 hA hAU
    go_upto_block 0 with fail
    obtain ⟨Q1, hQ1⟩ : ∃ Q1, Q1 = (U * 4294967296 + V1) / (Y1 * 4294967296 + Y0) := ⟨_, rfl⟩
    have HQ1 := Lib.hid hQ1
    have hQ1h : Q1 < 4294967296 := by rw [hQ1]; exact top_digit hUY v1h
    clear hQ1
    go_cut [15, 16] (fun s15 s16 wx => s15 = .int .u64 Q1 ∧ w = wx)
    case first =>
      go_wp2_with fail
      clear eq0 eA eAr
      go_loop [15, 16] (fun s15 s16 => ∃ q r : Nat, s15 = .int .u64 q ∧ s16 = .int .u64 r ∧ Hid (Guess U V1 Y1 Y0 q r) ∧ r < 4294967296) (fun s15 _ => (intOf s15).toNat)
      case atStart => exact ⟨q0, r0, rfl, rfl, G1, hr0h⟩
      case round =>
        obtain ⟨q, r, rfl, rfl, hG, hr⟩ := hrel
        have hqh := hG.out.high
        have hqi : (q : Int) ≤ 4294967297 := by omega
        have hri : (r : Int) < 4294967296 := by omega
        clear G1 hq0h hr0h
        by_cases c1 : 4294967296 ≤ q
        · obtain ⟨d1, d2, d3⟩ := hG.out.down hUY v1h (Or.inl c1)
          have D2 := Lib.hid d2
          clear d2 hG
          have c1i : (4294967296 : Int) ≤ (q : Int) := by omega
          by_cases hb : r + Y1 < 4294967296
          · have HBB := Lib.hid hb
            have hbi : decide ((4294967296 : Int) ≤ (r : Int) + (Y1 : Int)) = false := decide_eq_false (by omega)
            clear c1 hqh d1 d3 hb hr
            go_wp2
            go_round
            case rel => exact ⟨q - 1, r + Y1, by go_num, by go_num, D2, HBB.out⟩
            case measure => simp [intOf]; omega
          · have HQ := Lib.hid (D2.out.broke (by omega) y0h d3 (by omega))
            have hbi : (4294967296 : Int) ≤ (r : Int) + (Y1 : Int) := by omega
            clear D2 c1 hqh d1 d3 hb hr
            go_wp2
            go_meet
            rw [HQ1.out, ← HQ.out]
            exact ⟨by go_num, rfl⟩
        · obtain ⟨P, hP⟩ : ∃ P, P = q * Y0 := ⟨_, rfl⟩
          have hPb : P ≤ 18446744065119617025 := by rw [hP]; exact Nat.mul_le_mul (show q ≤ 4294967295 by omega) (show Y0 ≤ 4294967295 by omega)
          have eP : (q : Int) * (Y0 : Int) = (P : Int) := by rw [hP]; push_cast; rfl
          by_cases c2 : 4294967296 * r + V1 < P
          · obtain ⟨d1, d2, d3⟩ := hG.out.down hUY v1h (Or.inr (by rw [← hP]; exact c2))
            have D2 := Lib.hid d2
            have c1i : decide ((4294967296 : Int) ≤ (q : Int)) = false := decide_eq_false (by omega)
            have c2i : 4294967296 * (r : Int) + (V1 : Int) < (P : Int) := by omega
            have d1i : (1 : Int) ≤ (q : Int) := by omega
            clear d2 hG hP
            by_cases hb : r + Y1 < 4294967296
            · have HBB := Lib.hid hb
              have hbi : decide ((4294967296 : Int) ≤ (r : Int) + (Y1 : Int)) = false := decide_eq_false (by omega)
              clear c1 c2 hqh d1 d3 hb hr
              go_wp2
              go_round
              case rel => exact ⟨q - 1, r + Y1, by go_num, by go_num, D2, HBB.out⟩
              case measure => simp [intOf]; omega
            · have HQ := Lib.hid (D2.out.broke (by omega) y0h d3 (by omega))
              have hbi : (4294967296 : Int) ≤ (r : Int) + (Y1 : Int) := by omega
              clear D2 c1 c2 hqh d1 d3 hb hr
              go_wp2
              go_meet
              rw [HQ1.out, ← HQ.out]
              exact ⟨by go_num, rfl⟩
          · have HQ := Lib.hid (hG.out.done (by omega) (by rw [← hP]; omega))
            have c1i : decide ((4294967296 : Int) ≤ (q : Int)) = false := decide_eq_false (by omega)
            have c2i : decide (4294967296 * (r : Int) + (V1 : Int) < (P : Int)) = false := decide_eq_false (by omega)
            clear hG hP c1 c2 hqh hr
            go_wp2
            go_meet
            rw [HQ1.out, ← HQ.out]
            exact ⟨rfl, rfl⟩
    case rest =>
      obtain ⟨rfl, rfl⟩ := hcut
      clear G1 hq0h hr0h eq0 eA eAr
      obtain ⟨R1, hR1⟩ : ∃ R1, R1 = (U * 4294967296 + V1) % Y := ⟨_, rfl⟩
      obtain ⟨P1, hP1⟩ : ∃ P1, P1 = Q1 * Y := ⟨_, rfl⟩
      have hdm : P1 + R1 = U * 4294967296 + V1 := by
        rw [hP1, hR1, HQ1.out, ← YD.out, Nat.mul_comm]; exact Nat.div_add_mod _ _
      have hR1Y : R1 < Y := by rw [hR1]; exact Nat.mod_lt _ (by omega)
      have eP1 : (Q1 : Int) * (Y : Int) = (P1 : Int) := by rw [hP1]; push_cast; rfl
      have eR1 : IntKind.u64.wrap (IntKind.u64.wrap (IntKind.u64.wrap ((U : Int) * 4294967296) + (V1 : Int)) - IntKind.u64.wrap ((Q1 : Int) * (Y : Int))) = (R1 : Int) := by
        rw [eP1]
        simp only [IntKind.wrap_u64]
        omega
      have HR1 := Lib.hid hR1
      have hRY : R1 < Y1 * 4294967296 + Y0 := by rw [← YD.out]; exact hR1Y
      have G2 := Lib.hid (Guess.first hRY v0h y0h y1l)
      obtain ⟨q2, hq2⟩ : ∃ q2, q2 = R1 / Y1 := ⟨_, rfl⟩
      obtain ⟨r2, hr2⟩ : ∃ r2, r2 = R1 % Y1 := ⟨_, rfl⟩
      rw [← hq2, ← hr2] at G2
      have eq2 : (R1 : Int) / (Y1 : Int) = (q2 : Int) := by rw [hq2]; exact (Int.natCast_ediv R1 Y1).symm
      have hq2h := G2.out.high
      obtain ⟨A, hA⟩ : ∃ A, A = q2 * Y1 := ⟨_, rfl⟩
      have hAU : A + r2 = R1 := by rw [hA]; exact G2.out.sum
      have eA : (q2 : Int) * (Y1 : Int) = (A : Int) := by rw [hA]; push_cast; rfl
      have hr2h : r2 < 4294967296 := by rw [hr2]; exact Nat.lt_of_lt_of_le (Nat.mod_lt _ (by omega)) (by omega)
      have eAr : (R1 : Int) - (A : Int) = (r2 : Int) := by omega
      have r64 : R1 < 18446744073709551616 := by omega
      clear hq2 hr2 hA hAU hR1 hP1 hdm eP1
      go_upto_block 2 with fail
      obtain ⟨Q0, hQ0⟩ : ∃ Q0, Q0 = (R1 * 4294967296 + V0) / (Y1 * 4294967296 + Y0) := ⟨_, rfl⟩
      have HQ0 := Lib.hid hQ0
      have hQ0h : Q0 < 4294967296 := by rw [hQ0]; exact top_digit hRY v0h
      clear hQ0
      go_cut [18, 16] (fun s18 s16 wx => s18 = .int .u64 Q0 ∧ w = wx)
      case first =>
        go_wp2_with fail
        clear eq2 eA eAr eR1
        go_loop [18, 16] (fun s15 s16 => ∃ q r : Nat, s15 = .int .u64 q ∧ s16 = .int .u64 r ∧ Hid (Guess R1 V0 Y1 Y0 q r) ∧ r < 4294967296) (fun s15 _ => (intOf s15).toNat)
        case atStart => exact ⟨q2, r2, rfl, rfl, G2, hr2h⟩
        case round =>
          obtain ⟨q, r, rfl, rfl, hG, hr⟩ := hrel
          have hqh := hG.out.high
          have hqi : (q : Int) ≤ 4294967297 := by omega
          have hri : (r : Int) < 4294967296 := by omega
          clear G2 hq2h hr2h
          by_cases c1 : 4294967296 ≤ q
          · obtain ⟨d1, d2, d3⟩ := hG.out.down hRY v0h (Or.inl c1)
            have D2 := Lib.hid d2
            clear d2 hG
            have c1i : (4294967296 : Int) ≤ (q : Int) := by omega
            by_cases hb : r + Y1 < 4294967296
            · have HBB := Lib.hid hb
              have hbi : decide ((4294967296 : Int) ≤ (r : Int) + (Y1 : Int)) = false := decide_eq_false (by omega)
              clear c1 hqh d1 d3 hb hr
              go_wp2
              go_round
              case rel => exact ⟨q - 1, r + Y1, by go_num, by go_num, D2, HBB.out⟩
              case measure => simp [intOf]; omega
            · have HQ := Lib.hid (D2.out.broke (by omega) y0h d3 (by omega))
              have hbi : (4294967296 : Int) ≤ (r : Int) + (Y1 : Int) := by omega
              clear D2 c1 hqh d1 d3 hb hr
              go_wp2
              go_meet
              rw [HQ0.out, ← HQ.out]
              exact ⟨by go_num, rfl⟩
          · obtain ⟨P, hP⟩ : ∃ P, P = q * Y0 := ⟨_, rfl⟩
            have hPb : P ≤ 18446744065119617025 := by rw [hP]; exact Nat.mul_le_mul (show q ≤ 4294967295 by omega) (show Y0 ≤ 4294967295 by omega)
            have eP : (q : Int) * (Y0 : Int) = (P : Int) := by rw [hP]; push_cast; rfl
            by_cases c2 : 4294967296 * r + V0 < P
            · obtain ⟨d1, d2, d3⟩ := hG.out.down hRY v0h (Or.inr (by rw [← hP]; exact c2))
              have D2 := Lib.hid d2
              have c1i : decide ((4294967296 : Int) ≤ (q : Int)) = false := decide_eq_false (by omega)
              have c2i : 4294967296 * (r : Int) + (V0 : Int) < (P : Int) := by omega
              have d1i : (1 : Int) ≤ (q : Int) := by omega
              clear d2 hG hP
              by_cases hb : r + Y1 < 4294967296
              · have HBB := Lib.hid hb
                have hbi : decide ((4294967296 : Int) ≤ (r : Int) + (Y1 : Int)) = false := decide_eq_false (by omega)
                clear c1 c2 hqh d1 d3 hb hr
                go_wp2
                go_round
                case rel => exact ⟨q - 1, r + Y1, by go_num, by go_num, D2, HBB.out⟩
                case measure => simp [intOf]; omega
              · have HQ := Lib.hid (D2.out.broke (by omega) y0h d3 (by omega))
                have hbi : (4294967296 : Int) ≤ (r : Int) + (Y1 : Int) := by omega
                clear D2 c1 c2 hqh d1 d3 hb hr
                go_wp2
                go_meet
                rw [HQ0.out, ← HQ.out]
                exact ⟨by go_num, rfl⟩
            · have HQ := Lib.hid (hG.out.done (by omega) (by rw [← hP]; omega))
              have c1i : decide ((4294967296 : Int) ≤ (q : Int)) = false := decide_eq_false (by omega)
              have c2i : decide (4294967296 * (r : Int) + (V0 : Int) < (P : Int)) = false := decide_eq_false (by omega)
              clear hG hP c1 c2 hqh hr
              go_wp2
              go_meet
              rw [HQ0.out, ← HQ.out]
              exact ⟨rfl, rfl⟩
      case rest =>
        obtain ⟨rfl, rfl⟩ := hcut
        clear eq2 eA eAr eR1 G2
        go_wp2_with fail
        go_ret2
        have hm := HMV.out
        have hw := hm.whole
        have h2 := two_digits (V0 := V0) (show 0 < Y by omega) (show Q1 = (U * 4294967296 + V1) / Y from by rw [HQ1.out, ← YD.out]) HR1.out
        have h3 : (hi * 18446744073709551616 + lo) / y = Q1 * 4294967296 + Q0 := by
          rw [← shift_div (s := s), ← hw, ← hm.Yd, HQ0.out, ← YD.out]
          exact join_div WD.out h2
        exact divpost_of (by rw [h3]; omega)
end Go.Proofs.Ytjdmnchndnpdlaa
