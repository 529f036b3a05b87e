/- NatA NatE NatB NatC NatD NatF NatG -/
import Derived.Shelf.Small.Bits
import Derived.Lib.Walk
import Derived.Lib.SliceRun
import Derived.Deep.DeepCutAuto
import Derived.Deep.LoopGhost
import Derived.BigRegion
import Derived.Deep.RegionHeld3
import Derived.Test.YtnljadejcfgmaaaRows
import Derived.Test.YtnljadejcfgmaaaGA
import Derived.Test.YtnljadejcfgmaaaGB

namespace Go.Proofs.Ytnljadejcfgmaaa
open Go.RowKit
set_option maxRecDepth 100000

def CutPost (w : World) (ad : Option Addr) (cap : Nat) (xs : List Nat) (e : Ending) (w' : World) : Prop :=
  e = .returned (.slice ad (dl B32 (vl B32 xs)) cap) ∧ w' = w

theorem cut_end {w : World} {ad : Option Addr} {cap n : Nat} {xs : List Nat} {v : Value} (ho : okb B32 xs) (hn : n ≤ xs.length) (h0 : 0 < n → lg xs (n - 1) ≠ 0) (hz : ∀ i, n ≤ i → lg xs i = 0) (hv : v = .slice ad n cap) :
    CutPost w ad cap xs (.returned v) w := by
  rw [(take_dg B32_two ho hn h0 hz).2] at hv
  exact ⟨by rw [hv], rfl⟩

theorem Try.info38 : (Try.prog.info? 38).map (fun i => (i.zero, i.size, i.bytes)) = some (some (.int .u32 0), 1, 4) := by kernel_rfl


def Sub32Post (x y c : Nat) (w : World) (e : Ending) (w' : World) : Prop :=
  e = .returned (.tuple #[.int .u32 ((x + 8589934592 - y - c) % 4294967296 : Nat), .int .u32 (if x < y + c then 1 else 0 : Nat)]) ∧ w' = w
end Go.Proofs.Ytnljadejcfgmaaa

namespace Go.Proofs.Ytnljadejcfgmaaa
open Go.RowKit
set_option maxRecDepth 100000

theorem bitLen_dl (x : Nat) (h : x < 2 ^ 64) : Lib.bitLen x = dl 2 x := by
  induction x using Nat.strongRecOn with
  | _ x ih =>
    by_cases h0 : x = 0
    · subst h0; rw [dl_zero]; decide
    · rw [Lib.bitLen_half x h0 h, ih (x / 2) (by omega) (by omega)]
      unfold dl
      rw [dg_pos (by omega) (show 0 < x by omega)]
      simp; omega

/-- What leaves a number in new or old memory. -/
def DgPost (w : World) (N : Nat) (e : Ending) (w' : World) : Prop := ∃ v, e = .returned v ∧ Dg w' .u32 B32 v N ∧ Below w.heap.size w w'

theorem of_num {n : Nat} (h : n < 18446744073709551616) : okb B32 [n % 4294967296, n / 4294967296] ∧ vl B32 [n % 4294967296, n / 4294967296] = n := by
  refine ⟨?_, ?_⟩
  · intro x hx; simp at hx; rw [B32_eq]; omega
  · simp only [vl]; rw [B32_eq]; omega

theorem bits_num {N : Nat} (h : 0 < dl B32 N) : dl 2 N = 32 * (dl B32 N - 1) + dl 2 (lg (dg B32 N) (dl B32 N - 1)) := by
  obtain ⟨h1, h2⟩ := top_split B32_two h
  have e : B32 ^ (dl B32 N - 1) = 2 ^ (32 * (dl B32 N - 1)) := by rw [Nat.pow_mul]; rfl
  have h3 := dl_bits h2 (k := 32 * (dl B32 N - 1)) (r := N % B32 ^ (dl B32 N - 1)) (by rw [← e]; exact Nat.mod_lt _ (Nat.pow_pos B32_pos))
  rw [← e, ← h1] at h3
  exact h3

theorem bit_num {xs : List Nat} (ho : okb B32 xs) (j : Nat) (r : Nat) (hr : r < 32) : lg xs j / 2 ^ r % 2 = lg (dg 2 (vl B32 xs)) (32 * j + r) := by
  rw [lg_bits hr, lg_vl ho B32_pos]; rfl

def UintPost (N : Nat) (w : World) (e : Ending) (w' : World) : Prop :=
  e = .returned (.tuple #[.int .u64 (if dl 2 N ≤ 64 then N else 0 : Nat), .bool (decide (dl 2 N ≤ 64))]) ∧ w' = w

theorem dl2_le {xs : List Nat} (ho : okb B32 xs) : dl 2 (vl B32 xs) ≤ 32 * xs.length := by
  apply dl_le (by omega)
  have h1 := vl_lt ho
  have h2 : B32 ^ xs.length = 2 ^ (32 * xs.length) := by rw [Nat.pow_mul]; rfl
  rwa [h2] at h1

theorem uint_num {xs : List Nat} (ho : okb B32 xs) (h : dl 2 (vl B32 xs) ≤ 64) : lg xs 1 * 4294967296 + lg xs 0 = vl B32 xs := by
  have h1 := lt_dl (b := 2) (by omega) (vl B32 xs)
  have h2 : (2 : Nat) ^ dl 2 (vl B32 xs) ≤ 2 ^ 64 := Nat.pow_le_pow_right (by omega) h
  have h3 : vl B32 xs < 18446744073709551616 := Nat.lt_of_lt_of_le h1 h2
  rw [lg_vl ho B32_pos, lg_vl ho B32_pos, B32_eq]
  rw [B32_eq] at h3
  simp only [Nat.pow_one, Nat.pow_zero, Nat.div_one]
  omega

end Go.Proofs.Ytnljadejcfgmaaa

namespace Go.Proofs.Ytnljadejcfgmaaa
open Go.RowKit
set_option maxRecDepth 100000



/-- Behind the exchange in Nat.Add. -/
def AddCut (w : World) (N M : Nat) (s0 s1 : Value) (wc : World) : Prop :=
  w = wc ∧ ∃ ad cap X ad' cap' Y, s0 = .slice ad (dl B32 X) cap ∧ s1 = .slice ad' (dl B32 Y) cap' ∧ Rd w .u32 ad (dg B32 X) ∧ Rd w .u32 ad' (dg B32 Y) ∧ dl B32 Y ≤ dl B32 X ∧ X + Y = N + M ∧
    dl B32 X ≤ 1099511627776 ∧ dl B32 X ≤ cap ∧ dl B32 Y ≤ cap'

/-- The loop of Nat.Add. -/
def AddInv (w : World) (g d X Y : Nat) (c i : Value) (wr : World) : Prop :=
  ∃ (k cc : Nat) (zs : List Nat), k ≤ d ∧ i = .int .i64 k ∧ c = .int .u32 cc ∧ cc ≤ 1 ∧ zs.length = d + 1 ∧ okb B32 zs ∧ Row wr .u32 38 w.heap.size g (d + 1) zs ∧ Below w.heap.size w wr ∧
    vl B32 (zs.take k) + cc * B32 ^ k = vl B32 ((dg B32 X).take k) + vl B32 ((dg B32 Y).take k)

end Go.Proofs.Ytnljadejcfgmaaa

namespace Go.Proofs.Ytnljadejcfgmaaa
open Go.RowKit
set_option maxRecDepth 100000

/-- The loop of Nat.Cmp. -/
def CmpInv (w : World) (X Y : Nat) (i : Value) (wr : World) : Prop :=
  ∃ (k n : Nat), k ≤ dl B32 X ∧ i = .int .i64 ((k : Int) - 1) ∧ (∀ j, k ≤ j → lg (dg B32 X) j = lg (dg B32 Y) j) ∧ wr = w.drewN n

theorem cmp_end {w : World} {X Y n : Nat} {e : Ending} {z : Int} (hz : z = c3 X Y) (he : e = .returned (.int .i64 z)) : Quiet w (.int .i64 (c3 X Y)) e (w.drewN n) := ⟨by rw [he, hz], n, rfl⟩
theorem cmp_end0 {w : World} {X Y : Nat} {e : Ending} {z : Int} (hz : z = c3 X Y) (he : e = .returned (.int .i64 z)) : Quiet w (.int .i64 (c3 X Y)) e w := ⟨by rw [he, hz], 0, rfl⟩
theorem c3_digit {X Y i : Nat} (ha : ∀ j, i < j → lg (dg B32 X) j = lg (dg B32 Y) j) (hne : ¬ lg (dg B32 X) i = lg (dg B32 Y) i) : c3 (lg (dg B32 X) i) (lg (dg B32 Y) i) = c3 X Y := by
  by_cases h : lg (dg B32 X) i < lg (dg B32 Y) i
  · have := lt_of_digit (okb_dg B32_two X) B32_pos h ha
    rw [vl_dg B32_two, vl_dg B32_two] at this
    rw [c3_lt h, c3_lt this]
  · have h' : lg (dg B32 Y) i < lg (dg B32 X) i := by omega
    have := lt_of_digit (okb_dg B32_two Y) B32_pos h' (fun j hj => (ha j hj).symm)
    rw [vl_dg B32_two, vl_dg B32_two] at this
    rw [c3_gt h', c3_gt this]
theorem c3_dl {X Y : Nat} (h : ¬ dl B32 X = dl B32 Y) : c3 (dl B32 X) (dl B32 Y) = c3 X Y := by
  by_cases h1 : dl B32 X < dl B32 Y
  · rw [c3_lt h1, c3_lt (lt_of_dl B32_two h1)]
  · have h2 : dl B32 Y < dl B32 X := by omega
    rw [c3_gt h2, c3_gt (lt_of_dl B32_two h2)]
theorem eq_of_digits {X Y : Nat} (h : ∀ j, 0 ≤ j → lg (dg B32 X) j = lg (dg B32 Y) j) : X = Y := by
  have := vl_congr B32 (fun j => h j (Nat.zero_le j))
  rwa [vl_dg B32_two, vl_dg B32_two] at this

/-- The loop of Nat.Sub. -/
def SubInv (w : World) (g d X Y : Nat) (c i : Value) (wr : World) : Prop :=
  ∃ (k cc : Nat) (zs : List Nat), k ≤ d ∧ i = .int .i64 k ∧ c = .int .u32 cc ∧ cc ≤ 1 ∧ zs.length = d ∧ okb B32 zs ∧ Row wr .u32 38 w.heap.size g d zs ∧ Below w.heap.size w wr ∧
    vl B32 (zs.take k) + vl B32 ((dg B32 Y).take k) = vl B32 ((dg B32 X).take k) + cc * B32 ^ k
/-- What Nat.Sub leaves. -/
def SubPost (w : World) (N M : Nat) (e : Ending) (w' : World) : Prop :=
  (N < M ∧ e = .returned (.tuple #[.slice none 0 0, .bool false]) ∧ Below w.heap.size w w') ∨
  (M ≤ N ∧ ∃ v, e = .returned (.tuple #[v, .bool true]) ∧ Dg w' .u32 B32 v (N - M) ∧ Below w.heap.size w w')

theorem sub_last {d cc Z X Y : Nat} (h : Z + Y = X + cc * B32 ^ d) (hz : Z < B32 ^ d) (hcc : cc ≤ 1) (hle : Y ≤ X) : Z = X - Y := by
  by_cases hc : cc = 0
  · subst hc; omega
  · obtain rfl : cc = 1 := by omega
    omega

end Go.Proofs.Ytnljadejcfgmaaa

namespace Go.Proofs.Ytnljadejcfgmaaa
open Go.RowKit
set_option maxRecDepth 100000

/-- The loop of Nat.Shl. -/
def ShlInv (w : World) (g d q r X : Nat) (i : Value) (wr : World) : Prop :=
  ∃ (k : Nat) (zs : List Nat), k ≤ d ∧ i = .int .i64 k ∧ zs.length = d + q + 1 ∧ okb B32 zs ∧ Row wr .u32 38 w.heap.size g (d + q + 1) zs ∧ Below w.heap.size w wr ∧
    (∀ j, k + q < j → lg zs j = 0) ∧ lg zs (k + q) < 2 ^ r ∧ vl B32 zs = vl B32 ((dg B32 X).take k) * (2 ^ r * B32 ^ q)

theorem shl_step {zs X : List Nat} {k q r : Nat} (hlen : k + q + 1 < zs.length) (h1 : lg zs (k + q + 1) = 0) (hv : vl B32 zs = vl B32 (X.take k) * (2 ^ r * B32 ^ q)) :
    vl B32 ((zs.set (k + q) (lg zs (k + q) + lg X k * 2 ^ r % B32)).set (k + q + 1) (lg X k * 2 ^ r / B32)) = vl B32 (X.take (k + 1)) * (2 ^ r * B32 ^ q) := by
  have e1 := vl_set B32 (xs := zs) (i := k + q) (lg zs (k + q) + lg X k * 2 ^ r % B32) (by omega)
  have e2 := vl_set B32 (xs := zs.set (k + q) (lg zs (k + q) + lg X k * 2 ^ r % B32)) (i := k + q + 1) (lg X k * 2 ^ r / B32) (by rw [List.length_set]; exact hlen)
  rw [lg_set_other _ (by omega), h1] at e2
  have e3 := carry_arith B32 (B32 ^ (k + q)) (lg X k * 2 ^ r)
  rw [← Nat.pow_succ] at e3
  rw [Nat.add_mul] at e1
  have e4 : lg X k * 2 ^ r * B32 ^ (k + q) = lg X k * B32 ^ k * (2 ^ r * B32 ^ q) := by
    rw [Nat.pow_add, Nat.mul_assoc, Nat.mul_assoc]
    congr 1
    rw [← Nat.mul_assoc, Nat.mul_comm (2 ^ r), Nat.mul_assoc]
  rw [vl_take_succ, Nat.add_mul, ← hv, ← e4, ← e3]
  simp only [Nat.succ_eq_add_one] at *
  omega

def shlOf (n : Int) : Nat := (min (max n 0) 8192).toNat

end Go.Proofs.Ytnljadejcfgmaaa

namespace Go.Proofs.Ytnljadejcfgmaaa
open Go.RowKit
set_option maxRecDepth 100000

/-- The loop of Nat.Shr. -/
def ShrInv (w : World) (g m R : Nat) (i : Value) (wr : World) : Prop :=
  ∃ (k : Nat) (zs : List Nat), k ≤ m ∧ i = .int .i64 k ∧ zs.length = m ∧ okb B32 zs ∧ Row wr .u32 38 w.heap.size g m zs ∧ Below w.heap.size w wr ∧ (∀ j, j < k → lg zs j = lg (dg B32 R) j)

theorem shr_digit {N q r i : Nat} (hr : r < 32) : (lg (dg B32 N) (i + q + 1) * 4294967296 + lg (dg B32 N) (i + q)) / 2 ^ r % 4294967296 = lg (dg B32 (N / 2 ^ (32 * q + r))) i := by
  rw [lg_dg B32_two, lg_dg B32_two, lg_dg B32_two, B32_eq]
  have e1 : (4294967296 : Nat) ^ q = 2 ^ (32 * q) := by rw [Nat.pow_mul]
  have e2 : N / 2 ^ (32 * q + r) / 4294967296 ^ i = N / 4294967296 ^ (i + q) / 2 ^ r := by
    rw [Nat.div_div_eq_div_mul, Nat.div_div_eq_div_mul, Nat.pow_add, Nat.pow_add, e1]
    congr 1
    rw [Nat.mul_comm, Nat.mul_assoc]
  have e3 : N / 4294967296 ^ (i + q + 1) = N / 4294967296 ^ (i + q) / 4294967296 := by rw [Nat.pow_succ, Nat.div_div_eq_div_mul]
  rw [e2, e3]
  generalize N / 4294967296 ^ (i + q) = M
  obtain ⟨L, hL⟩ : ∃ L, L = M / 4294967296 % 4294967296 * 4294967296 + M % 4294967296 := ⟨_, rfl⟩
  rw [← hL]
  have h1 : M = L + 2 ^ r * (4294967296 * (2 ^ (32 - r) * (M / 4294967296 / 4294967296))) := by
    have : (2 : Nat) ^ r * (4294967296 * (2 ^ (32 - r) * (M / 4294967296 / 4294967296))) = 2 ^ r * 2 ^ (32 - r) * (4294967296 * (M / 4294967296 / 4294967296)) := by
      rw [Nat.mul_assoc, Nat.mul_left_comm (2 ^ (32 - r)) 4294967296]
    rw [this, ← Nat.pow_add, show r + (32 - r) = 32 from by omega, show (2 : Nat) ^ 32 = 4294967296 from by decide]
    omega
  have h2 : M / 2 ^ r = L / 2 ^ r + 4294967296 * (2 ^ (32 - r) * (M / 4294967296 / 4294967296)) := by
    rw [show M / 2 ^ r = (L + 2 ^ r * (4294967296 * (2 ^ (32 - r) * (M / 4294967296 / 4294967296)))) / 2 ^ r from congrArg (· / 2 ^ r) h1]
    rw [Nat.add_mul_div_left _ _ (Nat.pow_pos (by omega))]
  rw [h2, Nat.add_mul_mod_self_left]

theorem shr_top {N q r : Nat} : N / 2 ^ (32 * q + r) < B32 ^ (dl B32 N - q) := by
  have h1 := lt_dl B32_two N
  have h2 : B32 ^ dl B32 N ≤ B32 ^ (dl B32 N - q) * 2 ^ (32 * q + r) := by
    rw [Nat.pow_add, show (2 : Nat) ^ (32 * q) = B32 ^ q from by rw [Nat.pow_mul]; rfl, ← Nat.mul_assoc, ← Nat.pow_add]
    have h3 : B32 ^ dl B32 N ≤ B32 ^ (dl B32 N - q + q) := Nat.pow_le_pow_right B32_pos (by omega)
    exact Nat.le_trans h3 (Nat.le_mul_of_pos_right _ (Nat.pow_pos (by omega)))
  rw [Nat.div_lt_iff_lt_mul (Nat.pow_pos (by omega))]
  omega

end Go.Proofs.Ytnljadejcfgmaaa

namespace Go.Proofs.Ytnljadejcfgmaaa
open Go.RowKit
set_option maxRecDepth 100000

/-- A slice of numbers: what each is. -/
structure RdN (w : World) (ad : Option Addr) (vs : List Value) (ns : List Nat) : Prop where
  len : ns.length = vs.length
  cell : ∀ i, i < vs.length → ∃ b off, ad = some ⟨b, off, none⟩ ∧ b < w.heap.size ∧ w.cell? ⟨b, off + i, none⟩ = some (vs.getD i undef) ∧ Nt w (vs.getD i undef) (lg ns i)
theorem RdN.below {w w' : World} {ad : Option Addr} {vs : List Value} {ns : List Nat} (h : RdN w ad vs ns) (hb : Below w.heap.size w w') : RdN w' ad vs ns := by
  refine ⟨h.len, fun i hi => ?_⟩
  obtain ⟨b, off, ha, hlt, hc, hn⟩ := h.cell i hi
  exact ⟨b, off, ha, Nat.lt_of_lt_of_le hlt hb.size, by rw [hb.cell (p := ⟨b, off + i, none⟩) hlt]; exact hc, hn.below hb⟩

theorem RdN.two {w : World} {v1 v2 : Value} {a b : Nat} (T : TypeId) (h1 : Nt w v1 a) (h2 : Nt w v2 b) : RdN (w.alloc (.cells #[v1, v2] T)) (some ⟨w.heap.size, 0, none⟩) [v1, v2] [a, b] := by
  have hb := (Below.refl w.heap.size w).alloc (Nat.le_refl _) (.cells #[v1, v2] T)
  have hg := heap_alloc_new w (.cells #[v1, v2] T)
  refine ⟨rfl, fun i hi => ⟨w.heap.size, 0, rfl, by simp, ?_, ?_⟩⟩
  · rw [Nat.zero_add, cell_of_row _ w.heap.size i #[v1, v2] T (0, 0) hg]
    match i, hi with
    | 0, _ => rfl
    | 1, _ => rfl
  · match i, hi with
    | 0, _ => exact h1.below hb
    | 1, _ => exact h2.below hb
theorem RdN.three {w : World} {v1 v2 v3 : Value} {a b c : Nat} (T : TypeId) (h1 : Nt w v1 a) (h2 : Nt w v2 b) (h3 : Nt w v3 c) : RdN (w.alloc (.cells #[v1, v2, v3] T)) (some ⟨w.heap.size, 0, none⟩) [v1, v2, v3] [a, b, c] := by
  have hb := (Below.refl w.heap.size w).alloc (Nat.le_refl _) (.cells #[v1, v2, v3] T)
  have hg := heap_alloc_new w (.cells #[v1, v2, v3] T)
  refine ⟨rfl, fun i hi => ⟨w.heap.size, 0, rfl, by simp, ?_, ?_⟩⟩
  · rw [Nat.zero_add, cell_of_row _ w.heap.size i #[v1, v2, v3] T (0, 0) hg]
    match i, hi with
    | 0, _ => rfl
    | 1, _ => rfl
    | 2, _ => rfl
  · match i, hi with
    | 0, _ => exact h1.below hb
    | 1, _ => exact h2.below hb
    | 2, _ => exact h3.below hb

theorem sum_take_succ {ns : List Nat} {k : Nat} (h : k < ns.length) : (ns.take (k + 1)).sum = (ns.take k).sum + lg ns k := by
  rw [take_succ_lg h]; simp
theorem sum_take_le (ns : List Nat) (k : Nat) : (ns.take k).sum ≤ ns.sum := by
  have := List.take_append_drop k ns
  have h2 : (ns.take k ++ ns.drop k).sum = ns.sum := by rw [this]
  rw [List.sum_append] at h2
  omega

def SumInv (w : World) (ns : List Nat) (s i : Value) (wr : World) : Prop :=
  ∃ k : Nat, k ≤ ns.length ∧ i = .int .i64 k ∧ Dg wr .u32 B32 s (ns.take k).sum ∧ Below w.heap.size w wr

end Go.Proofs.Ytnljadejcfgmaaa
