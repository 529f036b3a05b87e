/- RefC RefD RefE -/
import Derived.Test.YthoiocjbjfhgpaaRefA

namespace Go.Proofs.Ythoiocjbjfhgpaa
open Go.RowKit
set_option maxRecDepth 100000

theorem lt_digit {b N M j : Nat} (hb : 2 ≤ b) (ha : ∀ i, j < i → lg (dg b N) i = lg (dg b M) i) (h : lg (dg b N) j < lg (dg b M) j) : N < M := by
  have := lt_of_digit (okb_dg hb N) (by omega) h ha
  rwa [vl_dg hb, vl_dg hb] at this
theorem eq_digits {b N M : Nat} (hb : 2 ≤ b) (h : ∀ j, lg (dg b N) j = lg (dg b M) j) : N = M := by
  have := vl_congr b h
  rwa [vl_dg hb, vl_dg hb] at this
theorem less_bit {N M j : Nat} (ha : ∀ i, j < i → lg (dg 2 N) i = lg (dg 2 M) i) (hne : ¬ lg (dg 2 N) j = lg (dg 2 M) j) : ((lg (dg 2 N) j : Int) == 0) = decide (N < M) := by
  have l1 := lg_lt (okb_dg (b := 2) (by omega) N) (by omega) j
  have l2 := lg_lt (okb_dg (b := 2) (by omega) M) (by omega) j
  by_cases h0 : lg (dg 2 N) j = 0
  · have h := lt_digit (b := 2) (by omega) ha (by omega)
    rw [h0]; simp [h]
  · have h := lt_digit (b := 2) (by omega) (fun i hi => (ha i hi).symm) (show lg (dg 2 M) j < lg (dg 2 N) j by omega)
    have h2 : ¬ N < M := by omega
    simp [h2]; omega

def LessPost (N M : Nat) (w : World) (e : Ending) (w' : World) : Prop := e = .returned (.bool (decide (N < M))) ∧ w' = w
theorem ret_bool {a b : Bool} (h : a = b) : Ending.returned (.bool a) = .returned (.bool b) := by rw [h]

end Go.Proofs.Ythoiocjbjfhgpaa

namespace Go.Proofs.Ythoiocjbjfhgpaa
open Go.RowKit
set_option maxRecDepth 100000

def RaddInv (w : World) (mx N M : Nat) (o c i : Value) (wr : World) : Prop :=
  ∃ (k cc : Nat) (L : List Nat), k ≤ mx + 1 ∧ i = .int .i64 k ∧ c = .int .i64 cc ∧ cc ≤ 1 ∧ (k ≤ mx ∨ cc = 0) ∧ L.length = k ∧ okb 2 L ∧ Acc wr .i64 3 w.heap.size o L ∧ Below w.heap.size w wr ∧
    vl 2 L + cc * 2 ^ k = vl 2 ((dg 2 N).take k) + vl 2 ((dg 2 M).take k)

theorem trim_end {w w0 wr : World} {L : List Nat} {ad : Option Addr} {cap N : Nat} (hok : okb 2 L) (hv : vl 2 L = N) (hrd : Rd wr .i64 ad L) (hc2 : L.length ≤ cap) (hm2 : cap ≤ maxLen) (hl : L.length ≤ 1099511627776) (hn2 : ad = none → cap = 0) (hb : Below w0.heap.size w0 wr) (_h : w = w) :
    DbPost w0 N (.returned (.slice ad (dl 2 N) cap)) wr := by
  subst hv
  have hpre := hrd.take (dl 2 (vl 2 L))
  have hd2 := dl_vl_le (b := 2) (by omega) hok
  rw [take_dl (by omega) hok] at hpre
  exact ⟨_, rfl, ⟨_, _, rfl, hpre, by rw [length_dg]; omega, hm2, by rw [length_dg]; omega, hn2⟩, hb⟩

set_option maxHeartbeats 1000000 in
theorem radd_any (v1 v2 : Value) (N M : Nat) (w : World) (h1 : Dg w .i64 2 v1 N) (h2 : Dg w .i64 2 v2 M) (hb : max (dl 2 N) (dl 2 M) < 1099511627776) :
    Calls Try.prog 9 #[v1, v2] w (DbPost w (N + M)) := by
  obtain ⟨ad1, cap1, rfl, r1, c1, m1, l1, n1⟩ := h1
  obtain ⟨ad2, cap2, rfl, r2, c2, m2, l2, n2⟩ := h2
  rw [length_dg] at l1 l2 c1 c2 ⊢
  rw [length_dg]
  obtain ⟨i0, hi, hz0, hz1, hz2⟩ := info_parts Try.info3
  obtain ⟨d1, hd1⟩ : ∃ d1 : Nat, d1 = dl 2 N := ⟨_, rfl⟩
  obtain ⟨d2, hd2⟩ : ∃ d2 : Nat, d2 = dl 2 M := ⟨_, rfl⟩
  rw [← hd1] at c1 l1 hb ⊢
  rw [← hd2] at c2 l2 hb ⊢
  have HD1 := Lib.hid hd1; have HD2 := Lib.hid hd2
  clear hd1 hd2
  obtain ⟨mx, hmx⟩ : ∃ mx : Nat, mx = max d1 d2 := ⟨_, rfl⟩
  have hm1 : d1 ≤ mx := by omega
  have hm2 : d2 ≤ mx := by omega
  have hml : mx < 1099511627776 := by omega
  have HMX := Lib.hid hmx
  clear hmx hb
  go_enter Try.func9, Try.ntmps9
  go_wp2
  go_loopw [5, 6, 7] (fun o c i wr => RaddInv w mx N M o c i wr) (fun _ _ i _ => mx + 1 - (intOf i).toNat)
  case atStart => exact ⟨0, 0, [], by omega, rfl, rfl, by omega, by omega, rfl, okb_nil 2, Acc.empty w .i64 3 w.heap.size (Nat.le_refl _), (Below.refl _ _).alloc (Nat.le_refl _) _, by simp [vl]⟩
  case round =>
    obtain ⟨k, cc, L, hk, rfl, rfl, hcc, hkc, hlen, hok, hacc, hbe, hmath⟩ := hrel
    have HM := Lib.hid hmath; have HLN := Lib.hid hlen
    have hll : L.length ≤ 2199023255552 := by omega
    clear hmath hlen
    have x1 := lg_lt (okb_dg (b := 2) (by omega) N) (by omega) k
    have x2 := lg_lt (okb_dg (b := 2) (by omega) M) (by omega) k
    have HKC := Lib.hid hkc
    clear hkc
    have cont : (k < d1 ∨ k < d2 ∨ 0 < cc) ∨ (d1 ≤ k ∧ d2 ≤ k ∧ cc = 0) := by omega
    rcases cont with cont | ⟨q1, q2, q3⟩
    · have ways : k < d1 ∨ (¬ k < d1 ∧ k < d2) ∨ (¬ k < d1 ∧ ¬ k < d2 ∧ 0 < cc) := by omega
      have hkm : k ≤ mx := by rcases HKC.out with h | h <;> omega
      rcases ways with q | ⟨q, q'⟩ | ⟨q, q', q''⟩
      all_goals
        go_wp2_with fail
        refine (rat_any ad1 _ cap1 (dg 2 N) k _ (by rw [length_dg]; exact HD1.out) (r1.below hbe) (by rw [length_dg, ← HD1.out]; omega) (by omega)).mono ?_
        rintro e w1 ⟨rfl, hw⟩
        have hw := hw.symm; subst hw
        go_wp2_with fail
        refine (rat_any ad2 _ cap2 (dg 2 M) k _ (by rw [length_dg]; exact HD2.out) (r2.below hbe) (by rw [length_dg, ← HD2.out]; omega) (by omega)).mono ?_
        rintro e w1 ⟨rfl, hw⟩
        have hw := hw.symm; subst hw
        obtain ⟨t, ht⟩ : ∃ t : Nat, t = lg (dg 2 N) k + lg (dg 2 M) k + cc := ⟨_, rfl⟩
        have et : (lg (dg 2 N) k : Int) + (lg (dg 2 M) k : Int) + (cc : Int) = (t : Int) := by omega
        have hstep := add_step (x := lg (dg 2 N) k) (y := lg (dg 2 M) k) HM.out
        rw [← ht] at hstep
        have HST := Lib.hid hstep; clear hstep
        have ht3 : t ≤ 3 := by omega
        clear ht
        go_wp2_with (at_builtin; refine wp_acc wr rfl _ _ 23 rfl .i64 3 i0 8 Try.underlying23 hi hz0 hz1 hz2 (by decide) w.heap.size _ L hacc rfl _ (t % 2) ?_ rfl hll hbe.size ?_)
        · omega
        · intro v' w' hacc2 hbel2
          clear hacc
          go_wp2
          go_roundw
          case rel =>
            refine ⟨k + 1, t / 2, L ++ [t % 2], by omega, by go_num, by go_num, by omega, ?_, by simp; exact HLN.out, okb_append hok (okb_one (Nat.mod_lt _ (by omega))), hacc2, hbe.trans hbel2, ?_⟩
            · rcases Nat.lt_or_ge k mx with h | h
              · exact Or.inl (by omega)
              · right
                have z1 := lg_out (xs := dg 2 N) (i := k) (by rw [length_dg, ← HD1.out]; omega)
                have z2 := lg_out (xs := dg 2 M) (i := k) (by rw [length_dg, ← HD2.out]; omega)
                rw [z1, z2] at et
                omega
            · rw [vl_snoc, HLN.out, vl_take_succ, vl_take_succ]; exact HST.out
          case measure => simp [intOf]; omega
    · have HQ3 := Lib.hid q3
      have hsum : vl 2 L = N + M := by
        have hm := HM.out
        rw [q3, vl_take_all (by rw [length_dg, ← HD1.out]; omega), vl_take_all (by rw [length_dg, ← HD2.out]; omega), vl_dg (by omega), vl_dg (by omega)] at hm
        omega
      have HS := Lib.hid hsum
      have hsq := hacc.sq (by rw [HLN.out]; omega)
      have hl4 : L.length ≤ 1099511627776 := by rw [HLN.out]; omega
      subst q3
      clear hacc hsum r1 r2
      go_wp2_with fail
      obtain ⟨ad3, cap3, hv3, hrd, hc3, hm3, hl3, hn3⟩ := hsq
      rw [hv3]
      refine (rtrim_any 2 (by omega) _ _ _ L _ rfl hrd hok (by omega) hc3 hn3).mono ?_
      rintro e w1 ⟨rfl, hw⟩
      have hw := hw.symm; subst hw
      rw [HS.out]
      have hend := trim_end (w := w) hok HS.out hrd hc3 hm3 hl4 hn3 hbe rfl
      clear hv3
      go_wp2
      go_ret
      exact hend
end Go.Proofs.Ythoiocjbjfhgpaa

namespace Go.Proofs.Ythoiocjbjfhgpaa
open Go.RowKit
set_option maxRecDepth 100000

def RsubInv (w : World) (d N M : Nat) (o c i : Value) (wr : World) : Prop :=
  ∃ (k cc : Nat) (L : List Nat), k ≤ d ∧ i = .int .i64 k ∧ c = .int .i64 cc ∧ cc ≤ 1 ∧ L.length = k ∧ okb 2 L ∧ Acc wr .i64 3 w.heap.size o L ∧ Below w.heap.size w wr ∧
    vl 2 L + vl 2 ((dg 2 M).take k) = vl 2 ((dg 2 N).take k) + cc * 2 ^ k

theorem sub_last2 {d cc Z X Y : Nat} (h : Z + Y = X + cc * 2 ^ d) (hz : Z < 2 ^ d) (hcc : cc ≤ 1) (hle : Y ≤ X) : Z = X - Y := by
  by_cases hc : cc = 0
  · subst hc; omega
  · obtain rfl : cc = 1 := by omega
    omega

def RshlInv (w : World) (m : Nat) (o i : Value) (wr : World) : Prop :=
  ∃ k : Nat, k ≤ m ∧ i = .int .i64 k ∧ Acc wr .i64 3 w.heap.size o (List.replicate k 0) ∧ Below w.heap.size w wr

theorem dg_shl {N m : Nat} (hN : 0 < N) : List.replicate m 0 ++ dg 2 N = dg 2 (N * 2 ^ m) := by
  have ho : okb 2 (List.replicate m 0 ++ dg 2 N) := okb_append (okb_replicate (by omega) m) (okb_dg (by omega) N)
  have hz : ∀ j, lg (List.replicate m 0) j = 0 := fun j => by unfold lg; simp [List.getD, List.getElem?_replicate]; split <;> rfl
  have hv : vl 2 (List.replicate m 0 ++ dg 2 N) = N * 2 ^ m := by
    rw [vl_append, vl_dg (by omega), show vl 2 (List.replicate m 0) = vl 2 [] from vl_congr 2 (fun j => by rw [hz, lg_nil])]
    simp [vl, Nat.mul_comm]
  have hn : norm (List.replicate m 0 ++ dg 2 N) := by
    intro _
    have hp := dl_pos (b := 2) (by omega) hN
    have hnd := norm_dg (b := 2) (by omega) N hp
    rw [List.length_append, List.length_replicate, lg_append_right (by simp; rw [length_dg]; omega), List.length_replicate]
    rw [length_dg] at hnd ⊢
    rw [show m + dl 2 N - 1 - m = dl 2 N - 1 from by omega]
    exact hnd
  rw [← hv]
  exact (dg_unique (by omega) ho hn).symm

theorem dg_shr (N m : Nat) : (dg 2 N).drop m = dg 2 (N / 2 ^ m) := by
  have ho : okb 2 ((dg 2 N).drop m) := okb_drop (okb_dg (by omega) N) m
  have hv : vl 2 ((dg 2 N).drop m) = N / 2 ^ m := by rw [vl_drop (okb_dg (by omega) N) m (by omega), vl_dg (by omega)]
  have hn : norm ((dg 2 N).drop m) := by
    intro hp
    simp [length_dg] at hp
    rw [lg_drop, List.length_drop, length_dg]
    have hnd := norm_dg (b := 2) (by omega) N (by rw [length_dg]; omega)
    rw [length_dg] at hnd
    rw [show m + (dl 2 N - m - 1) = dl 2 N - 1 from by omega]
    exact hnd
  rw [← hv]
  exact (dg_unique (by omega) ho hn).symm

theorem Rd.drop {w : World} {k : IntKind} {b off : Nat} {xs : List Nat} (h : Rd w k (some ⟨b, off, none⟩) xs) (n : Nat) : Rd w k (some ⟨b, off + n, none⟩) (xs.drop n) := by
  refine ⟨fun i hi => ?_⟩
  simp at hi
  obtain ⟨b', off', ha, hlt, hc⟩ := h.cell (n + i) (by omega)
  simp at ha
  obtain ⟨rfl, rfl⟩ := ha
  exact ⟨b, off + n, rfl, hlt, by rw [lg_drop, Nat.add_assoc]; exact hc⟩

end Go.Proofs.Ythoiocjbjfhgpaa
