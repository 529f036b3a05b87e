import Derived.Test.YtjdmnchndnpdlaaNatA
import Derived.Shelf.Small.Bits
import Derived.Lib.Walk
import Derived.Lib.SliceRun
namespace Go.Proofs.Ytjdmnchndnpdlaa
open Go.RowKit
set_option maxRecDepth 100000

theorem bitLen_dl (x : Nat) (h : x < 2 ^ 64) : Lib.bitLen x = dl 2 x := by
  induction x using Nat.strongRecOn with
  | _ x ih =>
    by_cases h0 : x = 0
    · subst h0; rw [dl_zero]; decide
    · rw [Lib.bitLen_half x h0 h, ih (x / 2) (by omega) (by omega)]
      unfold dl
      rw [dg_pos (by omega) (show 0 < x by omega)]
      simp; omega

set_option maxHeartbeats 2000000 in
set_option maxRecDepth 100000 in
theorem len32_int (x : Int) (w : World) (h0 : 0 ≤ x) (h1 : x ≤ 4294967295) :
    Calls Try.prog 78 #[.int .u32 x] w fun e w' => e = .returned (.int .i64 (Lib.bitLen x.toNat : Nat)) ∧ w' = w := by
  by_cases h16 : 65536 ≤ x
  · by_cases h8 : 256 ≤ x / 65536
    · have hix := fun (w : World) => Lib.run_index_len8tab (P := Try.prog) w 9 .u8 (x / 65536 / 256) Try.underlying9 (by omega) (by omega)
      have hb := Lib.len8_of (x / 65536 / 256) (by omega) (by omega)
      have hl := Lib.bitLen_le8' (x / 65536 / 256) (by omega) (by omega)
      have HB := Lib.hid hb; have HL := Lib.hid hl
      clear hb hl
      go_enter Try.func78, Try.ntmps78
      go_wp2
      go_ret
      have hb := HB.out; have hl := HL.out
      refine ⟨ret_int ?_, rfl⟩
      rw [hb]
      have hs := Lib.bitLen_shift24 x.toNat (by omega) (by omega)
      rw [show (x / 65536 / 256).toNat = x.toNat / 16777216 from by omega] at hl ⊢
      unfold wrap64
      omega
    · have hix := fun (w : World) => Lib.run_index_len8tab (P := Try.prog) w 9 .u8 (x / 65536) Try.underlying9 (by omega) (by omega)
      have hb := Lib.len8_of (x / 65536) (by omega) (by omega)
      have hl := Lib.bitLen_le8' (x / 65536) (by omega) (by omega)
      have HB := Lib.hid hb; have HL := Lib.hid hl
      clear hb hl
      go_enter Try.func78, Try.ntmps78
      go_wp2
      go_ret
      have hb := HB.out; have hl := HL.out
      refine ⟨ret_int ?_, rfl⟩
      rw [hb]
      have hs := Lib.bitLen_shift16 x.toNat (by omega) (by omega)
      rw [show (x / 65536).toNat = x.toNat / 65536 from by omega] at hl ⊢
      unfold wrap64
      omega
  · by_cases h8 : 256 ≤ x
    · have hix := fun (w : World) => Lib.run_index_len8tab (P := Try.prog) w 9 .u8 (x / 256) Try.underlying9 (by omega) (by omega)
      have hb := Lib.len8_of (x / 256) (by omega) (by omega)
      have hl := Lib.bitLen_le8' (x / 256) (by omega) (by omega)
      have HB := Lib.hid hb; have HL := Lib.hid hl
      clear hb hl
      go_enter Try.func78, Try.ntmps78
      go_wp2
      go_ret
      have hb := HB.out; have hl := HL.out
      refine ⟨ret_int ?_, rfl⟩
      rw [hb]
      have hs := Lib.bitLen_shift8 x.toNat (by omega) (by omega)
      rw [show (x / 256).toNat = x.toNat / 256 from by omega] at hl ⊢
      unfold wrap64
      omega
    · have hix := fun (w : World) => Lib.run_index_len8tab (P := Try.prog) w 9 .u8 (x) Try.underlying9 (by omega) (by omega)
      have hb := Lib.len8_of (x) (by omega) (by omega)
      have hl := Lib.bitLen_le8' (x) (by omega) (by omega)
      have HB := Lib.hid hb; have HL := Lib.hid hl
      clear hb hl
      go_enter Try.func78, Try.ntmps78
      go_wp2
      go_ret
      have hb := HB.out; have hl := HL.out
      refine ⟨ret_int ?_, rfl⟩
      rw [hb]
      unfold wrap64
      omega

theorem len32_any (x : Nat) (w : World) (hx : x < 4294967296) :
    Calls Try.prog 78 #[.int .u32 x] w fun e w' => e = .returned (.int .i64 (dl 2 x : Nat)) ∧ w' = w := by
  have h := len32_int (x : Int) w (by omega) (by omega)
  rw [Int.toNat_natCast, bitLen_dl x (Nat.lt_of_lt_of_le hx (by decide))] at h
  exact h


set_option maxHeartbeats 400000 in
theorem clone_any (ad : Option Addr) (n cap : Nat) (xs : List Nat) (w : World) (hn : n = xs.length) (hr : Rd w .u32 ad xs) (hl : xs.length ≤ 1099511627777) (hnil : ad = none → n = 0) :
    Calls Try.prog 108 #[.slice ad n cap] w fun e w' => ∃ v, e = .returned v ∧ Acc w' .u32 77 w.heap.size v xs ∧ Below w.heap.size w w' := by
  show Calls _ _ _ _ (AccPost w .u32 77 xs)
  subst hn
  obtain ⟨i0, hi, hz0, hz1, hz2⟩ := info_parts Try.info77
  have hq := fun (w : World) (a : Option Addr) (n c : Nat) => Lib.run_eql_slice_nil (P := Try.prog) w 27 77 a n c 0 0 Try.underlying27
  cases ad with
  | none =>
    have h0 := hnil rfl
    have : xs = [] := List.length_eq_zero_iff.1 h0
    subst this
    go_enter Try.func108, Try.ntmps108
    go_wp2
    go_ret
    exact ⟨_, rfl, ⟨World.ownsRow_nil _ _ _ _⟩, Below.refl _ _⟩
  | some a =>
    go_enter Try.func108, Try.ntmps108
    go_wp2_with (at_builtin; refine wp_accs _ rfl _ _ 27 rfl .u32 77 i0 4 Try.underlying27 hi hz0 hz1 hz2 (by decide) w.heap.size _ [] (Acc.empty w .u32 77 w.heap.size (Nat.le_refl _)) rfl a _ cap xs rfl rfl ?_ (by simp) (by omega) (by simp) ?_)
    · exact hr.below ((Below.refl _ _).alloc (Nat.le_refl _) _)
    · intro v' w' hacc hbel _
      go_wp2
      go_ret
      exact ⟨_, rfl, hacc, ((Below.refl _ _).alloc (Nat.le_refl _) _).trans hbel⟩

set_option maxHeartbeats 400000 in
theorem trim_any (v : Value) (N : Nat) (w : World) (h : Nt w v N) : Calls Try.prog 86 #[v] w (AccPost w .u32 77 (dg B32 N)) := by
  obtain ⟨xs, ox, rfl, ad, cap, rfl, r1, c1, m1, l1, n1⟩ := h
  have dx := dl_vl_le B32_two ox
  have hz : ad = none → dl B32 (vl B32 xs) = 0 := fun h => by have := n1 h; omega
  go_enter Try.func86, Try.ntmps86
  go_wp2_with fail
  refine (cut_any ad _ cap xs _ rfl r1 ox (by omega) c1 n1).mono ?_
  rintro e w' ⟨rfl, hw⟩
  have hw := hw.symm; subst hw
  go_wp2_with fail
  refine (clone_any ad _ cap (dg B32 (vl B32 xs)) _ rfl (r1.dg ox) (by rw [length_dg]; omega) hz).mono ?_
  rintro e w' ⟨v, rfl, ha, hb⟩
  go_wp2
  go_ret
  exact ⟨_, rfl, ha, hb⟩

/-- What leaves a number in new or old memory. -/
def DgPost (w : World) (N : Nat) (e : Ending) (w' : World) : Prop := ∃ v, e = .returned v ∧ Dg w' .u32 B32 v N ∧ Below w.heap.size w w'

theorem of_num {n : Nat} (h : n < 18446744073709551616) : okb B32 [n % 4294967296, n / 4294967296] ∧ vl B32 [n % 4294967296, n / 4294967296] = n := by
  refine ⟨?_, ?_⟩
  · intro x hx; simp at hx; rw [B32_eq]; omega
  · simp only [vl]; rw [B32_eq]; omega

set_option maxHeartbeats 400000 in
theorem of_any (n : Nat) (w : World) (hn : n < 18446744073709551616) : Calls Try.prog 38 #[.int .u64 n] w (DgPost w n) := by
  have hon := of_num hn
  have hrow : ∀ w : World, Row (w.alloc (.cells #[.int .u32 ((n : Int) % 4294967296), .int .u32 ((n : Int) / 4294967296)] 77)) .u32 77 w.heap.size w.heap.size 2 [n % 4294967296, n / 4294967296] := fun w =>
    ⟨World.ownsRow_lit w #[.int .u32 ((n : Int) % 4294967296), .int .u32 ((n : Int) / 4294967296)] 2 (Nat.le_refl _) (by unfold maxLen; omega) (by simp)⟩
  have HN := Lib.hid hon; have HR := Lib.hid hrow
  clear hon hrow
  go_enter Try.func38, Try.ntmps38
  go_wp2_with fail
  refine (cut_any _ _ _ _ _ rfl (HR.out w).rd HN.out.1 (by simp) (Nat.le_refl _) (fun h => by cases h)).mono ?_
  rintro e w' ⟨rfl, hw⟩
  have hw := hw.symm; subst hw
  have hrd := (HR.out w).rd.dg HN.out.1
  have hle := dl_vl_le B32_two HN.out.1
  rw [HN.out.2] at hrd hle ⊢
  simp only [List.length_cons, List.length_nil] at hle
  go_wp2
  go_ret
  exact ⟨_, rfl, ⟨_, _, rfl, hrd, by rw [length_dg]; omega, by unfold maxLen; omega, by rw [length_dg]; omega, fun h => by cases h⟩, (Below.refl _ _).alloc (Nat.le_refl _) _⟩

theorem bits_num {N : Nat} (h : 0 < dl B32 N) : dl 2 N = 32 * (dl B32 N - 1) + dl 2 (lg (dg B32 N) (dl B32 N - 1)) := by
  obtain ⟨h1, h2⟩ := top_split B32_two h
  have e : B32 ^ (dl B32 N - 1) = 2 ^ (32 * (dl B32 N - 1)) := by rw [Nat.pow_mul]; rfl
  have h3 := dl_bits h2 (k := 32 * (dl B32 N - 1)) (r := N % B32 ^ (dl B32 N - 1)) (by rw [← e]; exact Nat.mod_lt _ (Nat.pow_pos B32_pos))
  rw [← e, ← h1] at h3
  exact h3

set_option maxHeartbeats 400000 in
theorem bits_any (v : Value) (N : Nat) (w : World) (h : Nt w v N) : Calls Try.prog 39 #[v] w fun e w' => e = .returned (.int .i64 (dl 2 N : Nat)) ∧ w' = w := by
  obtain ⟨xs, ox, vx, ad, cap, rfl, r1, c1, m1, l1, n1⟩ := h
  have HX := Lib.hid vx; clear vx
  have dx := dl_vl_le B32_two ox
  have rX := r1.dg ox
  go_enter Try.func39, Try.ntmps39
  go_wp2_with fail
  refine (cut_any ad _ cap xs _ rfl r1 ox (by omega) c1 n1).mono ?_
  rintro e w' ⟨rfl, hw⟩
  have hw := hw.symm; subst hw
  rw [HX.out] at rX dx ⊢
  clear r1 n1 ox HX
  by_cases h0 : 0 < dl B32 N
  · have HB := Lib.hid (bits_num h0)
    obtain ⟨b, off, rfl, hb, hc⟩ := rX.get h0
    have hc := hc (dl B32 N - 1) (by rw [length_dg]; omega)
    have hlt := lg_lt (okb_dg B32_two N) B32_pos (dl B32 N - 1)
    have hdl : dl 2 (lg (dg B32 N) (dl B32 N - 1)) ≤ 32 := dl_le (by omega) (by rw [B32_eq] at hlt; exact hlt)
    have h00 : ((dl B32 N : Int) == 0) = false := by simp; omega
    clear rX
    go_wp2_with (go_at_call 78; refine (len32_any (lg (dg B32 N) (dl B32 N - 1)) _ hlt).mono ?_; rintro e w' ⟨rfl, hw⟩; have hw := hw.symm; subst hw)
    go_ret
    exact ⟨ret_int (by rw [HB.out]; omega), rfl⟩
  · have hz : dl B32 N = 0 := by omega
    have h2 : N = 0 := dl_eq_zero B32_two hz
    have H2 := Lib.hid h2; clear h2 h0
    clear rX dx
    rw [hz]
    clear hz
    go_wp2
    go_ret
    exact ⟨by rw [H2.out, dl_zero]; rfl, rfl⟩

theorem bit_num {xs : List Nat} (ho : okb B32 xs) (j : Nat) (r : Nat) (hr : r < 32) : lg xs j / 2 ^ r % 2 = lg (dg 2 (vl B32 xs)) (32 * j + r) := by
  rw [lg_bits hr, lg_vl ho B32_pos]; rfl

def UintPost (N : Nat) (w : World) (e : Ending) (w' : World) : Prop :=
  e = .returned (.tuple #[.int .u64 (if dl 2 N ≤ 64 then N else 0 : Nat), .bool (decide (dl 2 N ≤ 64))]) ∧ w' = w

theorem dl2_le {xs : List Nat} (ho : okb B32 xs) : dl 2 (vl B32 xs) ≤ 32 * xs.length := by
  apply dl_le (by omega)
  have h1 := vl_lt ho
  have h2 : B32 ^ xs.length = 2 ^ (32 * xs.length) := by rw [Nat.pow_mul]; rfl
  rwa [h2] at h1

theorem uint_num {xs : List Nat} (ho : okb B32 xs) (h : dl 2 (vl B32 xs) ≤ 64) : lg xs 1 * 4294967296 + lg xs 0 = vl B32 xs := by
  have h1 := lt_dl (b := 2) (by omega) (vl B32 xs)
  have h2 : (2 : Nat) ^ dl 2 (vl B32 xs) ≤ 2 ^ 64 := Nat.pow_le_pow_right (by omega) h
  have h3 : vl B32 xs < 18446744073709551616 := Nat.lt_of_lt_of_le h1 h2
  rw [lg_vl ho B32_pos, lg_vl ho B32_pos, B32_eq]
  rw [B32_eq] at h3
  simp only [Nat.pow_one, Nat.pow_zero, Nat.div_one]
  omega

set_option maxHeartbeats 400000 in
theorem uint_any (v : Value) (N : Nat) (w : World) (h : Nt w v N) : Calls Try.prog 60 #[v] w (UintPost N w) := by
  have HN := Lib.hid h
  obtain ⟨xs, ox, vx, ad, cap, rfl, r1, c1, m1, l1, n1⟩ := h
  have HX := Lib.hid vx; clear vx
  have hb := bits_any _ N w HN.out
  obtain ⟨d, hd⟩ : ∃ d, d = dl 2 N := ⟨_, rfl⟩
  rw [← hd] at hb
  have HD := Lib.hid hd; clear hd
  have HBI := Lib.hid hb; clear hb
  by_cases hle : d ≤ 64
  · have hu := uint_num ox (by rw [HX.out, ← HD.out]; exact hle)
    rw [HX.out] at hu
    have HU := Lib.hid hu; clear hu
    have a1 := lg_lt ox B32_pos 1
    have a0 := lg_lt ox B32_pos 0
    rw [B32_eq] at a1 a0
    have ho := or_low64 _ _ a1 a0
    have HO := Lib.hid ho; clear ho
    go_enter Try.func60, Try.ntmps60
    go_wp2_with fail
    refine (HBI.out).mono ?_
    rintro e w' ⟨rfl, hw⟩
    have hw := hw.symm; subst hw
    go_wp2_with fail
    refine (at_any ad _ cap xs 1 _ rfl r1 (by omega) (by omega)).mono ?_
    rintro e w' ⟨rfl, hw⟩
    have hw := hw.symm; subst hw
    go_wp2_with fail
    refine (at_any ad _ cap xs 0 _ rfl r1 (by omega) (by omega)).mono ?_
    rintro e w' ⟨rfl, hw⟩
    have hw := hw.symm; subst hw
    go_wp2_with fail
    go_ret2
    refine ⟨?_, rfl⟩
    rw [if_pos (by rw [← HD.out]; exact hle)]
    have h2 : decide (dl 2 N ≤ 64) = true := by rw [← HD.out]; simpa using hle
    rw [h2, ← HU.out, ← HO.out]
    rfl
  · have hdb := dl2_le ox
    rw [HX.out, ← HD.out] at hdb
    go_enter Try.func60, Try.ntmps60
    go_wp2_with fail
    refine (HBI.out).mono ?_
    rintro e w' ⟨rfl, hw⟩
    have hw := hw.symm; subst hw
    go_wp2_with fail
    go_ret2
    refine ⟨?_, rfl⟩
    rw [if_neg (by rw [← HD.out]; exact hle)]
    have h2 : decide (dl 2 N ≤ 64) = false := by rw [← HD.out]; simpa using hle
    rw [h2]
    rfl

end Go.Proofs.Ytjdmnchndnpdlaa
