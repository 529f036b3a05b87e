/- Contracts of the reference of layer 2: DivMod, Gcd. -/
import Derived.Test.YtbjgcnhilakimaaRefI
namespace Go.Proofs.Ytbjgcnhilakimaa
open Go.RowKit
set_option maxRecDepth 100000

theorem dg16_one : dg 65536 1 = [1] := by
  have := dg_unique (b := 65536) (by omega) (xs := [1]) (okb_one (by omega)) (by intro _; show (1 : Nat) ≠ 0; omega)
  simpa [vl] using this
theorem one_new (w : World) (T : TypeId) : Dg (w.alloc (.cells #[.int .i64 1] T)) .i64 65536 (.slice (some ⟨w.heap.size, 0, none⟩) 1 1) 1 := by
  have hr : Row (w.alloc (.cells #[.int .i64 1] T)) .i64 T w.heap.size w.heap.size 1 [1] := ⟨World.ownsRow_lit w #[.int .i64 1] 1 (Nat.le_refl _) (by unfold maxLen; omega) (by simp)⟩
  unfold Dg
  rw [dg16_one]
  exact hr.sq (by simp)

/-- What leaves a quotient and what is left over. -/
def SdivPost (w : World) (N M : Nat) (e : Ending) (w' : World) : Prop :=
  ∃ v1 v2, e = .returned (.tuple #[v1, v2]) ∧ Dg w' .i64 65536 v1 (N / M) ∧ Dg w' .i64 65536 v2 (if M = 0 then 0 else N % M) ∧ Below w.heap.size w w'

theorem div_end {N M Q c : Nat} (h : Q * M + c = N) (hc : c < M) : Q = N / M ∧ c = N % M := by
  have hm : 0 < M := by omega
  rw [← h, Nat.add_comm, Nat.add_mul_div_right _ _ hm, Nat.add_mul_mod_self_right, Nat.div_eq_of_lt hc, Nat.mod_eq_of_lt hc]
  omega

set_option maxHeartbeats 2000000 in
set_option maxRecDepth 100000 in
theorem sdivmod_any (v1 v2 : Value) (N M : Nat) (w : World) (h1 : Dg w .i64 65536 v1 N) (h2 : Dg w .i64 65536 v2 M) (hb : dl 65536 N ≤ 10000) (hb2 : dl 65536 M ≤ 10000) :
    Calls Try.prog 52 #[v1, v2] w (SdivPost w N M) := by
  by_cases hM : M = 0
  · subst hM
    obtain ⟨ad2, cap2, rfl, r2, c2, m2, l2, n2⟩ := h2
    have hl : (dg 65536 0).length = 0 := by rw [dg_zero]; rfl
    rw [hl]
    clear r2 c2 m2 l2 n2 hl
    go_enter Try.func52, Try.ntmps52
    go_wp2
    go_ret2
    refine ⟨_, _, rfl, ?_, ?_, ((Below.refl _ _).alloc (Nat.le_refl _) _).alloc (by simp) _⟩
    · rw [Nat.div_zero]; exact Dg.zero _ _ _ _ (by unfold maxLen; omega) (fun h => by cases h)
    · rw [if_pos rfl]; exact Dg.zero _ _ _ _ (by unfold maxLen; omega) (fun h => by cases h)
  · have hMp : 0 < M := by omega
    have HM0 := Lib.hid hM
    have H2 := Lib.hid h2
    obtain ⟨ad2, cap2, rfl, _, _, _, _, _⟩ := h2
    have hlp : 0 < (dg 65536 M).length := by rw [length_dg]; exact dl_pos (by omega) hMp
    obtain ⟨d2, hd2⟩ : ∃ d2, d2 = (dg 65536 M).length := ⟨_, rfl⟩
    rw [← hd2] at hlp H2 ⊢
    have hd0 : ((d2 : Int) == 0) = false := by simp; omega
    clear hd2 hM
    go_enter Try.func52, Try.ntmps52
    go_wp2
    go_loopg [0, 6] N (fun g a q wr => ∃ Q : Nat, Dg wr .i64 65536 a g ∧ Dg wr .i64 65536 q Q ∧ Q * M + g = N ∧ Below w.heap.size w wr)
    case atStart =>
      have hb0 := (Below.refl w.heap.size w).alloc (Nat.le_refl _) (.cells #[] 3)
      exact ⟨0, h1.below hb0, Dg.zero _ _ _ _ (by unfold maxLen; omega) (fun h => by cases h), by omega, hb0⟩
    case round =>
      obtain ⟨Q, ha, hq, hsum, hbe⟩ := hrel
      have HS := Lib.hid hsum
      have h2' := H2.out.below hbe
      have hgl : gk ≤ N := by omega
      have hQl : Q ≤ N := by have := Nat.le_mul_of_pos_right Q hMp; omega
      have DG := Lib.hid (Nat.le_trans (dl_mono (b := 65536) (by omega) hgl) hb)
      have DQ := Lib.hid (Nat.le_trans (dl_mono (b := 65536) (by omega) hQl) hb)
      have HG := Lib.hid (c3_ge (p := gk) (q := M))
      clear hsum hgl hQl h1
      go_wp2_with fail
      refine (scmp_any _ _ gk M _ ha h2').mono ?_
      intro e wa hh
      obtain ⟨rfl, bb, _⟩ := quiet_below hh
      have ha := ha.below bb; have hq := hq.below bb; have h2' := h2'.below bb
      have hbe := below_to hbe bb
      clear hh bb
      obtain ⟨c, hc⟩ : ∃ c, c = c3 gk M := ⟨_, rfl⟩
      rw [← hc] at HG ⊢
      clear hc
      by_cases hle : M ≤ gk
      · have hc0 : 0 ≤ c := HG.out.2 hle
        have HLE := Lib.hid hle
        clear hle
        go_wp2_with fail
        refine (spart_any _ _ gk M _ ha h2' HLE.out hMp (Nat.le_trans DG.out (by omega))).mono ?_
        rintro e wb ⟨m, up, n, rfl, hm1, hm2, hup, hmul, hwb⟩
        have bb : Below wa.heap.size wa wb := by rw [hwb]; exact below_draws (Below.refl _ _) n
        have ha := ha.below bb; have hq := hq.below bb; have h2' := h2'.below bb
        have hbe := below_to hbe bb
        have HMUL := Lib.hid hmul
        have hpow : 1 ≤ 65536 ^ up := Nat.pow_pos (by omega)
        have hmp : m * 65536 ^ up ≤ gk := by
          have e : m * M * 65536 ^ up = m * 65536 ^ up * M := by rw [Nat.mul_right_comm]
          have := Nat.le_mul_of_pos_right (m * 65536 ^ up) hMp
          omega
        have hmp1 : 1 ≤ m * 65536 ^ up := Nat.mul_pos hm1 hpow
        have HMP := Lib.hid hmp; have HMP1 := Lib.hid hmp1
        have hup2 : up ≤ 10000 := Nat.le_trans hup DG.out
        clear hwb bb hmul hpow hmp hmp1 hup
        go_wp2_with fail
        have ho := one_new wb 3
        have bb := (Below.refl wb.heap.size wb).alloc (Nat.le_refl _) (.cells #[.int .i64 1] 3)
        refine (stimes_any _ 1 m up _ ho hm2 (by omega) (Nat.le_trans (dl_le (by omega) (k := 1) (by omega)) (by omega))).mono ?_
        rintro e wc ⟨v3, rfl, d3, bc⟩
        have bb := below_to bb bc
        have ha := ha.below bb; have hq := hq.below bb; have h2' := h2'.below bb
        have hbe := below_to hbe bb
        rw [Nat.one_mul] at d3
        clear bb bc ho
        go_wp2_with fail
        refine (sadd_any _ _ Q (m * 65536 ^ up) _ hq d3 ⟨Nat.le_trans DQ.out (by omega), Nat.le_trans (dl_mono (by omega) HMP.out) (Nat.le_trans DG.out (by omega))⟩).mono ?_
        rintro e wd ⟨v4, rfl, d4, bb⟩
        have ha := ha.below bb; have h2' := h2'.below bb
        have hbe := below_to hbe bb
        clear bb d3 hq
        go_wp2_with fail
        refine (stimes_any _ M m up _ h2' hm2 (by omega) (by omega)).mono ?_
        rintro e we ⟨v5, rfl, d5, bb⟩
        have ha := ha.below bb; have d4 := d4.below bb
        have hbe := below_to hbe bb
        have hcom : M * m * 65536 ^ up = m * M * 65536 ^ up := by rw [Nat.mul_comm M]
        rw [hcom] at d5
        clear bb h2' hcom
        go_wp2_with fail
        refine (ssub_any _ _ gk (m * M * 65536 ^ up) _ ha d5 HMUL.out (Nat.le_trans DG.out (by omega))).mono ?_
        rintro e wf ⟨v6, rfl, d6, bb⟩
        have d4 := d4.below bb
        have hbe := below_to hbe bb
        clear bb ha d5
        go_wp2
        go_roundg (gk - m * M * 65536 ^ up)
        case measure =>
          have e : m * M * 65536 ^ up = m * 65536 ^ up * M := by rw [Nat.mul_right_comm]
          have h5 := Nat.le_mul_of_pos_right (m * 65536 ^ up) hMp
          have h6 := HMP1.out
          have h7 := HMUL.out
          omega
        case rel =>
          refine ⟨Q + m * 65536 ^ up, d6, d4, ?_, hbe⟩
          have e : m * M * 65536 ^ up = m * 65536 ^ up * M := by rw [Nat.mul_right_comm]
          rw [Nat.add_mul, ← e]
          have h6 := HS.out
          have h7 := HMUL.out
          omega
      · have hc0 : ¬ 0 ≤ c := fun h => hle (HG.out.1 h)
        obtain ⟨e1, e2⟩ := div_end HS.out (by omega)
        have E1 := Lib.hid e1; have E2 := Lib.hid e2
        clear e1 e2 hle
        go_wp2
        go_ret2
        exact ⟨_, _, rfl, by rw [← E1.out]; exact hq, by rw [if_neg HM0.out, ← E2.out]; exact ha, hbe⟩

set_option maxHeartbeats 2000000 in
set_option maxRecDepth 100000 in
theorem sgcd_any (v1 v2 : Value) (N M : Nat) (w : World) (h1 : Dg w .i64 65536 v1 N) (h2 : Dg w .i64 65536 v2 M) (hb : dl 65536 N ≤ 10000) (hb2 : dl 65536 M ≤ 10000) :
    Calls Try.prog 55 #[v1, v2] w (DhPost w (Nat.gcd N M)) := by
  go_enter Try.func55, Try.ntmps55
  go_wp2_with fail
  go_loopg [0, 1] M (fun g a b wr => ∃ n : Nat, Dg wr .i64 65536 a n ∧ Dg wr .i64 65536 b g ∧ Nat.gcd n g = Nat.gcd N M ∧ dl 65536 n ≤ 10000 ∧ dl 65536 g ≤ 10000 ∧ Below w.heap.size w wr)
  case atStart => exact ⟨N, h1, h2, rfl, hb, hb2, Below.refl _ _⟩
  case round =>
    obtain ⟨n, ha, hbv, hgcd, hn, hg, hbe⟩ := hrel
    have HGC := Lib.hid hgcd
    have HBV := Lib.hid hbv
    obtain ⟨ad2, cap2, rfl, _, _, _, _, _⟩ := hbv
    obtain ⟨d2, hd2⟩ : ∃ d2, d2 = (dg 65536 gk).length := ⟨_, rfl⟩
    rw [← hd2] at HBV ⊢
    have HD := Lib.hid hd2
    clear hgcd hd2 h1 h2 hb hb2
    by_cases hp : 0 < d2
    · have hgp : 0 < gk := by
        have := HD.out
        by_cases h : gk = 0
        · subst h; rw [dg_zero] at this; simp at this; omega
        · omega
      go_wp2_with fail
      refine (sdivmod_any _ _ n gk _ ha HBV.out hn hg).mono ?_
      rintro e wa ⟨v3, v4, rfl, _, d4, bb⟩
      rw [if_neg (by omega)] at d4
      have hb3 := HBV.out.below bb
      have hbe := below_to hbe bb
      have hlt := Nat.mod_lt n hgp
      have hdm : dl 65536 (n % gk) ≤ 10000 := Nat.le_trans (dl_mono (by omega) (Nat.le_of_lt hlt)) hg
      have HLT := Lib.hid hlt; have HDM := Lib.hid hdm
      clear bb ha hlt hdm
      go_wp2
      go_roundg (n % gk)
      case measure => exact HLT.out
      case rel => exact ⟨gk, hb3, d4, by rw [← HGC.out, Nat.gcd_comm n gk, Nat.gcd_rec gk n, Nat.gcd_comm], hg, HDM.out, hbe⟩
    · have h0 : gk = 0 := by
        have := HD.out
        rw [length_dg] at this
        exact dl_eq_zero (b := 65536) (by omega) (by omega)
      have HG := Lib.hid (show n = Nat.gcd N M from by rw [← HGC.out, h0, Nat.gcd_zero_right])
      clear h0
      go_wp2
      go_ret
      exact ⟨_, rfl, by rw [← HG.out]; exact ha, hbe⟩
end Go.Proofs.Ytbjgcnhilakimaa
