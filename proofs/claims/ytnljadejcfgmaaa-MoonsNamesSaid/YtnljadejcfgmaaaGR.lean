/- RefC RefD RefE -/
import Derived.Test.YtnljadejcfgmaaaRefA

namespace Go.Proofs.Ytnljadejcfgmaaa
open Go.RowKit
set_option maxRecDepth 100000

theorem lt_digit {b N M j : Nat} (hb : 2 ≤ b) (ha : ∀ i, j < i → lg (dg b N) i = lg (dg b M) i) (h : lg (dg b N) j < lg (dg b M) j) : N < M := by
  have := lt_of_digit (okb_dg hb N) (by omega) h ha
  rwa [vl_dg hb, vl_dg hb] at this
theorem eq_digits {b N M : Nat} (hb : 2 ≤ b) (h : ∀ j, lg (dg b N) j = lg (dg b M) j) : N = M := by
  have := vl_congr b h
  rwa [vl_dg hb, vl_dg hb] at this
theorem less_bit {N M j : Nat} (ha : ∀ i, j < i → lg (dg 2 N) i = lg (dg 2 M) i) (hne : ¬ lg (dg 2 N) j = lg (dg 2 M) j) : ((lg (dg 2 N) j : Int) == 0) = decide (N < M) := by
  have l1 := lg_lt (okb_dg (b := 2) (by omega) N) (by omega) j
  have l2 := lg_lt (okb_dg (b := 2) (by omega) M) (by omega) j
  by_cases h0 : lg (dg 2 N) j = 0
  · have h := lt_digit (b := 2) (by omega) ha (by omega)
    rw [h0]; simp [h]
  · have h := lt_digit (b := 2) (by omega) (fun i hi => (ha i hi).symm) (show lg (dg 2 M) j < lg (dg 2 N) j by omega)
    have h2 : ¬ N < M := by omega
    simp [h2]; omega

def LessPost (N M : Nat) (w : World) (e : Ending) (w' : World) : Prop := e = .returned (.bool (decide (N < M))) ∧ w' = w
theorem ret_bool {a b : Bool} (h : a = b) : Ending.returned (.bool a) = .returned (.bool b) := by rw [h]

end Go.Proofs.Ytnljadejcfgmaaa

namespace Go.Proofs.Ytnljadejcfgmaaa
open Go.RowKit
set_option maxRecDepth 100000

def RaddInv (w : World) (mx N M : Nat) (o c i : Value) (wr : World) : Prop :=
  ∃ (k cc : Nat) (L : List Nat), k ≤ mx + 1 ∧ i = .int .i64 k ∧ c = .int .i64 cc ∧ cc ≤ 1 ∧ (k ≤ mx ∨ cc = 0) ∧ L.length = k ∧ okb 2 L ∧ Acc wr .i64 3 w.heap.size o L ∧ Below w.heap.size w wr ∧
    vl 2 L + cc * 2 ^ k = vl 2 ((dg 2 N).take k) + vl 2 ((dg 2 M).take k)

theorem trim_end {w w0 wr : World} {L : List Nat} {ad : Option Addr} {cap N : Nat} (hok : okb 2 L) (hv : vl 2 L = N) (hrd : Rd wr .i64 ad L) (hc2 : L.length ≤ cap) (hm2 : cap ≤ maxLen) (hl : L.length ≤ 1099511627776) (hn2 : ad = none → cap = 0) (hb : Below w0.heap.size w0 wr) (_h : w = w) :
    DbPost w0 N (.returned (.slice ad (dl 2 N) cap)) wr := by
  subst hv
  have hpre := hrd.take (dl 2 (vl 2 L))
  have hd2 := dl_vl_le (b := 2) (by omega) hok
  rw [take_dl (by omega) hok] at hpre
  exact ⟨_, rfl, ⟨_, _, rfl, hpre, by rw [length_dg]; omega, hm2, by rw [length_dg]; omega, hn2⟩, hb⟩

end Go.Proofs.Ytnljadejcfgmaaa

namespace Go.Proofs.Ytnljadejcfgmaaa
open Go.RowKit
set_option maxRecDepth 100000

def RsubInv (w : World) (d N M : Nat) (o c i : Value) (wr : World) : Prop :=
  ∃ (k cc : Nat) (L : List Nat), k ≤ d ∧ i = .int .i64 k ∧ c = .int .i64 cc ∧ cc ≤ 1 ∧ L.length = k ∧ okb 2 L ∧ Acc wr .i64 3 w.heap.size o L ∧ Below w.heap.size w wr ∧
    vl 2 L + vl 2 ((dg 2 M).take k) = vl 2 ((dg 2 N).take k) + cc * 2 ^ k

theorem sub_last2 {d cc Z X Y : Nat} (h : Z + Y = X + cc * 2 ^ d) (hz : Z < 2 ^ d) (hcc : cc ≤ 1) (hle : Y ≤ X) : Z = X - Y := by
  by_cases hc : cc = 0
  · subst hc; omega
  · obtain rfl : cc = 1 := by omega
    omega

def RshlInv (w : World) (m : Nat) (o i : Value) (wr : World) : Prop :=
  ∃ k : Nat, k ≤ m ∧ i = .int .i64 k ∧ Acc wr .i64 3 w.heap.size o (List.replicate k 0) ∧ Below w.heap.size w wr

theorem dg_shl {N m : Nat} (hN : 0 < N) : List.replicate m 0 ++ dg 2 N = dg 2 (N * 2 ^ m) := by
  have ho : okb 2 (List.replicate m 0 ++ dg 2 N) := okb_append (okb_replicate (by omega) m) (okb_dg (by omega) N)
  have hz : ∀ j, lg (List.replicate m 0) j = 0 := fun j => by unfold lg; simp [List.getD, List.getElem?_replicate]; split <;> rfl
  have hv : vl 2 (List.replicate m 0 ++ dg 2 N) = N * 2 ^ m := by
    rw [vl_append, vl_dg (by omega), show vl 2 (List.replicate m 0) = vl 2 [] from vl_congr 2 (fun j => by rw [hz, lg_nil])]
    simp [vl, Nat.mul_comm]
  have hn : norm (List.replicate m 0 ++ dg 2 N) := by
    intro _
    have hp := dl_pos (b := 2) (by omega) hN
    have hnd := norm_dg (b := 2) (by omega) N hp
    rw [List.length_append, List.length_replicate, lg_append_right (by simp; rw [length_dg]; omega), List.length_replicate]
    rw [length_dg] at hnd ⊢
    rw [show m + dl 2 N - 1 - m = dl 2 N - 1 from by omega]
    exact hnd
  rw [← hv]
  exact (dg_unique (by omega) ho hn).symm

theorem dg_shr (N m : Nat) : (dg 2 N).drop m = dg 2 (N / 2 ^ m) := by
  have ho : okb 2 ((dg 2 N).drop m) := okb_drop (okb_dg (by omega) N) m
  have hv : vl 2 ((dg 2 N).drop m) = N / 2 ^ m := by rw [vl_drop (okb_dg (by omega) N) m (by omega), vl_dg (by omega)]
  have hn : norm ((dg 2 N).drop m) := by
    intro hp
    simp [length_dg] at hp
    rw [lg_drop, List.length_drop, length_dg]
    have hnd := norm_dg (b := 2) (by omega) N (by rw [length_dg]; omega)
    rw [length_dg] at hnd
    rw [show m + (dl 2 N - m - 1) = dl 2 N - 1 from by omega]
    exact hnd
  rw [← hv]
  exact (dg_unique (by omega) ho hn).symm

theorem Rd.drop {w : World} {k : IntKind} {b off : Nat} {xs : List Nat} (h : Rd w k (some ⟨b, off, none⟩) xs) (n : Nat) : Rd w k (some ⟨b, off + n, none⟩) (xs.drop n) := by
  refine ⟨fun i hi => ?_⟩
  simp at hi
  obtain ⟨b', off', ha, hlt, hc⟩ := h.cell (n + i) (by omega)
  simp at ha
  obtain ⟨rfl, rfl⟩ := ha
  exact ⟨b, off + n, rfl, hlt, by rw [lg_drop, Nat.add_assoc]; exact hc⟩

end Go.Proofs.Ytnljadejcfgmaaa
