/- RefF RefG -/
import Derived.Test.YtnljadejcfgmaaaRefA

/- Contracts of the reference of layer 2: digits of base 65536: Trim, From, Limbs. -/
namespace Go.Proofs.Ytnljadejcfgmaaa
open Go.RowKit
set_option maxRecDepth 100000

/-- What leaves digits of base 65536. -/
def DhPost (w : World) (N : Nat) (e : Ending) (w' : World) : Prop := ∃ v, e = .returned v ∧ Dg w' .i64 65536 v N ∧ Below w.heap.size w w'

theorem strim_end {w0 wr : World} {L : List Nat} {ad : Option Addr} {cap N : Nat} (hok : okb 65536 L) (hv : vl 65536 L = N) (hrd : Rd wr .i64 ad L) (hc2 : L.length ≤ cap) (hm2 : cap ≤ maxLen) (hl : L.length ≤ 1099511627776) (hn2 : ad = none → cap = 0) (hb : Below w0.heap.size w0 wr) :
    DhPost w0 N (.returned (.slice ad (dl 65536 N) cap)) wr := by
  subst hv
  have hpre := hrd.take (dl 65536 (vl 65536 L))
  have hd2 := dl_vl_le (b := 65536) (by omega) hok
  rw [take_dl (by omega) hok] at hpre
  exact ⟨_, rfl, ⟨_, _, rfl, hpre, by rw [length_dg]; omega, hm2, by rw [length_dg]; omega, hn2⟩, hb⟩

theorem pow_half (j : Nat) : (65536 : Nat) ^ (2 * j) = B32 ^ j := by rw [Nat.pow_mul]; rfl
theorem from_step {L : List Nat} {j x T : Nat} (hl : L.length = 2 * j) (hv : vl 65536 L = T) : vl 65536 (L ++ [x % 65536, x / 65536]) = T + x * B32 ^ j := by
  rw [vl_append, hv, hl, pow_half]
  simp only [vl, Nat.mul_zero, Nat.add_zero]
  rw [Nat.mod_add_div, Nat.mul_comm]

def FromInv (w : World) (xs : List Nat) (o i : Value) (wr : World) : Prop :=
  ∃ (j : Nat) (L : List Nat), j ≤ xs.length ∧ i = .int .i64 j ∧ Acc wr .i64 3 w.heap.size o L ∧ okb 65536 L ∧ L.length = 2 * j ∧ vl 65536 L = vl B32 (xs.take j) ∧ Below w.heap.size w wr

theorem two_row (w : World) (x : Nat) (T : TypeId) : Row (w.alloc (.cells #[.int .i64 ((x : Int) % 65536), .int .i64 ((x : Int) / 65536)] T)) .i64 T w.heap.size w.heap.size 2 [x % 65536, x / 65536] :=
  ⟨World.ownsRow_lit w #[.int .i64 ((x : Int) % 65536), .int .i64 ((x : Int) / 65536)] 2 (Nat.le_refl _) (by unfold maxLen; omega) (by simp)⟩

theorem dl_half {N m : Nat} (h0 : 0 < m) (h1 : 2 * (m - 1) < dl 65536 N) (h2 : dl 65536 N ≤ 2 * m) : dl B32 N = m := by
  have hp : 0 < N := by
    by_cases h : N = 0
    · subst h; rw [dl_zero] at h1; omega
    · omega
  obtain ⟨j, rfl⟩ : ∃ j, m = j + 1 := ⟨m - 1, by omega⟩
  apply dl_eq B32_two
  · rw [← pow_half]
    exact Nat.le_trans (Nat.pow_le_pow_right (by omega) (by simp only [Nat.add_sub_cancel] at h1; omega)) (pow_dl_le (b := 65536) (by omega) hp)
  · rw [← pow_half]
    exact Nat.lt_of_lt_of_le (lt_dl (b := 65536) (by omega) N) (Nat.pow_le_pow_right (by omega) h2)
theorem limb_half (N j : Nat) : lg (dg B32 N) j = lg (dg 65536 N) (2 * j) + 65536 * lg (dg 65536 N) (2 * j + 1) := by
  rw [lg_dg B32_two, lg_dg (by omega), lg_dg (by omega), Nat.pow_succ, ← Nat.div_div_eq_div_mul, pow_half]
  generalize N / B32 ^ j = M
  rw [B32_eq, show (4294967296 : Nat) = 65536 * 65536 from rfl, Nat.mod_mul]
theorem limbs2_end {N j d : Nat} {L : List Nat} (hd : d = dl 65536 N) (h1 : 2 * j < d + 2) (h2 : d ≤ 2 * j) (hl : L.length = j) (hdig : ∀ t, t < j → lg L t = lg (dg B32 N) t) : L = dg B32 N := by
  have hlen : dl B32 N = j := by
    by_cases h0 : 0 < j
    · exact dl_half h0 (by omega) (by omega)
    · have : N = 0 := dl_eq_zero (b := 65536) (by omega) (by omega)
      subst this; rw [dl_zero]; omega
  apply ext_lg
  · rw [length_dg, hlen, hl]
  · intro i hi; exact hdig i (by omega)

def Limbs2Inv (w : World) (d N : Nat) (o i : Value) (wr : World) : Prop :=
  ∃ (j : Nat) (L : List Nat), 2 * j < d + 2 ∧ i = .int .i64 ((2 * j : Nat) : Int) ∧ Acc wr .u32 38 w.heap.size o L ∧ okb B32 L ∧ L.length = j ∧ (∀ t, t < j → lg L t = lg (dg B32 N) t) ∧ Below w.heap.size w wr

end Go.Proofs.Ytnljadejcfgmaaa

/- Contracts of the reference of layer 2: Add, Times, Mul. -/
namespace Go.Proofs.Ytnljadejcfgmaaa
open Go.RowKit
set_option maxRecDepth 100000

theorem canon {b : Nat} (hb : 2 ≤ b) {L : List Nat} (ho : okb b L) (h : L.length ≤ dl b (vl b L)) : L = dg b (vl b L) := by
  have := take_dl hb ho
  rwa [List.take_of_length_le h] at this

def SaddInv (w : World) (mx N M : Nat) (o c i : Value) (wr : World) : Prop :=
  ∃ (k cc : Nat) (L : List Nat), k ≤ mx ∧ i = .int .i64 k ∧ c = .int .i64 cc ∧ cc ≤ 1 ∧ L.length = k ∧ okb 65536 L ∧ Acc wr .i64 3 w.heap.size o L ∧ Below w.heap.size w wr ∧
    vl 65536 L + cc * 65536 ^ k = vl 65536 ((dg 65536 N).take k) + vl 65536 ((dg 65536 M).take k)

theorem sadd_end0 {N M mx : Nat} {L : List Nat} (hok : okb 65536 L) (hl : L.length = mx) (h1 : mx = dl 65536 N ∨ mx = dl 65536 M) (hv : vl 65536 L = N + M) : L = dg 65536 (N + M) := by
  have := canon (b := 65536) (by omega) hok (by
    rw [hv, hl]
    rcases h1 with h | h
    · rw [h]; exact dl_mono (by omega) (by omega)
    · rw [h]; exact dl_mono (by omega) (by omega))
  rwa [hv] at this
theorem sadd_end1 {N M mx : Nat} {L : List Nat} (hok : okb 65536 L) (hl : L.length = mx) (hv : vl 65536 L + 1 * 65536 ^ mx = N + M) : L ++ [1] = dg 65536 (N + M) := by
  have hv2 : vl 65536 (L ++ [1]) = N + M := by rw [vl_snoc, hl]; exact hv
  have hn : norm (L ++ [1]) := by
    intro _
    rw [List.length_append, List.length_singleton, Nat.add_sub_cancel, lg_snoc]; omega
  have := dg_unique (b := 65536) (by omega) (okb_append hok (okb_one (by omega))) hn
  rw [hv2] at this
  exact this.symm

def TimesInv (w : World) (d up m N : Nat) (o c i : Value) (wr : World) : Prop :=
  ∃ (k cc : Nat) (L : List Nat), k ≤ d ∧ i = .int .i64 k ∧ c = .int .i64 cc ∧ cc < 65536 ∧ L.length = up + k ∧ okb 65536 L ∧ Acc wr .i64 3 w.heap.size o L ∧ Below w.heap.size w wr ∧
    vl 65536 L + cc * 65536 ^ (up + k) = vl 65536 ((dg 65536 N).take k) * m * 65536 ^ up
def ZerosInv (w : World) (up : Nat) (o i : Value) (wr : World) : Prop :=
  ∃ k : Nat, k ≤ up ∧ i = .int .i64 k ∧ Acc wr .i64 3 w.heap.size o (List.replicate k 0) ∧ Below w.heap.size w wr
theorem vl_zeros (b k : Nat) : vl b (List.replicate k 0) = 0 := by
  induction k with
  | zero => rfl
  | succ k ih => rw [List.replicate_succ]; simp only [vl]; rw [ih]; simp
theorem times_step {L V x m c e up : Nat} (h : L + c * 65536 ^ (up + e) = V * m * 65536 ^ up) :
    L + (c + x * m) % 65536 * 65536 ^ (up + e) + (c + x * m) / 65536 * 65536 ^ (up + (e + 1)) = (V + x * 65536 ^ e) * m * 65536 ^ up := by
  have h2 := carry_arith 65536 (65536 ^ (up + e)) (c + x * m)
  rw [← Nat.pow_succ, Nat.add_mul] at h2
  have h3 : x * m * 65536 ^ (up + e) = x * 65536 ^ e * m * 65536 ^ up := by
    rw [Nat.pow_add, Nat.mul_comm (65536 ^ up), ← Nat.mul_assoc, Nat.mul_assoc x, Nat.mul_comm m, ← Nat.mul_assoc]
  rw [Nat.add_mul, Nat.add_mul, ← h3, show up + (e + 1) = up + e + 1 from by omega]
  simp only [Nat.succ_eq_add_one] at h2
  omega

end Go.Proofs.Ytnljadejcfgmaaa
