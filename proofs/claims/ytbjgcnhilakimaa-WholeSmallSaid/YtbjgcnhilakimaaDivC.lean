/- Contracts of package mult: at, pair. -/
import Derived.Test.YtbjgcnhilakimaaMulB
import Derived.Test.YtbjgcnhilakimaaBitB
namespace Go.Proofs.Ytbjgcnhilakimaa
open Go.RowKit
set_option maxRecDepth 100000

set_option maxHeartbeats 400000 in
theorem mat_any (ad : Option Addr) (n cap : Nat) (xs : List Nat) (i : Nat) (w : World) (hn : n = xs.length) (hr : Rd w .u32 ad xs) (ho : okb B32 xs) (hl : xs.length ≤ 1099511627777) (hi : i ≤ 2199023255554) :
    Calls Try.prog 119 #[.slice ad n cap, .int .i64 i] w fun e w' => e = .returned (.int .u64 (lg xs i : Nat)) ∧ w' = w := by
  subst hn
  by_cases h : i < xs.length
  · obtain ⟨b, off, rfl, hb, hc⟩ := hr.get (by omega)
    have hc := hc i h
    have lx := lg_lt ho B32_pos i
    rw [B32_eq] at lx
    clear hr
    go_enter Try.func119, Try.ntmps119
    go_wp2
    go_ret
    exact ⟨rfl, rfl⟩
  · go_enter Try.func119, Try.ntmps119
    go_wp2
    go_ret
    exact ⟨by rw [lg_out (by omega)]; rfl, rfl⟩

set_option maxHeartbeats 400000 in
theorem mat_neg (ad : Option Addr) (n cap : Nat) (i : Int) (w : World) (hi : i < 0) :
    Calls Try.prog 119 #[.slice ad n cap, .int .i64 i] w fun e w' => e = .returned (.int .u64 (0 : Nat)) ∧ w' = w := by
  go_enter Try.func119, Try.ntmps119
  go_wp2
  go_ret
  exact ⟨rfl, rfl⟩

theorem ret_u64 {a b : Int} (h : a = b) : Ending.returned (.int .u64 a) = .returned (.int .u64 b) := by rw [h]

/-- The limb i and the one below it. -/
def pr (xs : List Nat) (i : Nat) : Nat := lg xs i * 4294967296 + (if i = 0 then 0 else lg xs (i - 1))

set_option maxHeartbeats 400000 in
theorem pair_any (ad : Option Addr) (n cap : Nat) (xs : List Nat) (i : Nat) (w : World) (hn : n = xs.length) (hr : Rd w .u32 ad xs) (ho : okb B32 xs) (hl : xs.length ≤ 1099511627777) (hi : i ≤ 2199023255554) :
    Calls Try.prog 117 #[.slice ad n cap, .int .i64 i] w fun e w' => e = .returned (.int .u64 (pr xs i : Nat)) ∧ w' = w := by
  subst hn
  have lx := lg_lt ho B32_pos i
  have ly := lg_lt ho B32_pos (i - 1)
  rw [B32_eq] at lx ly
  have HR := Lib.hid hr; clear hr
  by_cases h0 : i = 0
  · subst h0
    have hp := Lib.hid (show pr xs 0 = lg xs 0 * 4294967296 + 0 from rfl)
    have oo : bits BinOp.or IntKind.u64 ((lg xs 0 : Int) * 4294967296) 0 = ((lg xs 0 * 4294967296 + 0 : Nat) : Int) := or_low64 _ 0 lx (by omega)
    have OO := Lib.hid oo; clear oo
    go_enter Try.func117, Try.ntmps117
    go_wp2_with fail
    refine (mat_any ad _ cap xs 0 w rfl HR.out ho hl (by omega)).mono ?_
    rintro e w' ⟨rfl, hw⟩
    have hw := hw.symm; subst hw
    have oo := OO.out
    go_wp2_with fail
    refine (mat_neg ad _ cap _ w (by omega)).mono ?_
    rintro e w' ⟨rfl, hw⟩
    have hw := hw.symm; subst hw
    go_wp2
    go_ret
    rw [hp.out]
    exact ⟨ret_u64 (by omega), rfl⟩
  · have hp := Lib.hid (show pr xs i = lg xs i * 4294967296 + lg xs (i - 1) from by unfold pr; rw [if_neg h0])
    have oo := or_low64 _ _ lx ly
    have OO := Lib.hid oo; clear oo
    go_enter Try.func117, Try.ntmps117
    go_wp2_with fail
    refine (mat_any ad _ cap xs i w rfl HR.out ho hl (by omega)).mono ?_
    rintro e w' ⟨rfl, hw⟩
    have hw := hw.symm; subst hw
    have oo := OO.out
    go_wp2_with fail
    rw [show (i : Int) - 1 = ((i - 1 : Nat) : Int) from by omega]
    refine (mat_any ad _ cap xs (i - 1) w rfl HR.out ho hl (by omega)).mono ?_
    rintro e w' ⟨rfl, hw⟩
    have hw := hw.symm; subst hw
    go_wp2
    go_ret
    rw [hp.out]
    exact ⟨rfl, rfl⟩
end Go.Proofs.Ytbjgcnhilakimaa
