import Derived.Test.YtjdmnchndnpdlaaRows
import Derived.Test.YtjdmnchndnpdlaaGA
import Derived.Test.YtjdmnchndnpdlaaGB
namespace Go.Proofs.Ytjdmnchndnpdlaa
open Go.RowKit
set_option maxRecDepth 100000

set_option maxHeartbeats 400000 in
theorem at_any (ad : Option Addr) (n cap : Nat) (xs : List Nat) (i : Nat) (w : World) (hn : n = xs.length) (hr : Rd w .u32 ad xs) (hl : xs.length ≤ 1099511627777) (hi : i ≤ 1099511627777) :
    Calls Try.prog 80 #[.slice ad n cap, .int .i64 i] w fun e w' => e = .returned (.int .u32 (lg xs i : Nat)) ∧ w' = w := by
  subst hn
  by_cases h : i < xs.length
  · obtain ⟨b, off, rfl, hb, hc⟩ := hr.get (by omega)
    have hc := hc i h
    clear hr
    go_enter Try.func80, Try.ntmps80
    go_wp2
    go_ret
    exact ⟨rfl, rfl⟩
  · go_enter Try.func80, Try.ntmps80
    go_wp2
    go_ret
    exact ⟨by rw [lg_out (by omega)]; rfl, rfl⟩

def CutPost (w : World) (ad : Option Addr) (cap : Nat) (xs : List Nat) (e : Ending) (w' : World) : Prop :=
  e = .returned (.slice ad (dl B32 (vl B32 xs)) cap) ∧ w' = w

theorem cut_end {w : World} {ad : Option Addr} {cap n : Nat} {xs : List Nat} {v : Value} (ho : okb B32 xs) (hn : n ≤ xs.length) (h0 : 0 < n → lg xs (n - 1) ≠ 0) (hz : ∀ i, n ≤ i → lg xs i = 0) (hv : v = .slice ad n cap) :
    CutPost w ad cap xs (.returned v) w := by
  rw [(take_dg B32_two ho hn h0 hz).2] at hv
  exact ⟨by rw [hv], rfl⟩

set_option maxHeartbeats 400000 in
theorem cut_any (ad : Option Addr) (n cap : Nat) (xs : List Nat) (w : World) (hn : n = xs.length) (hr : Rd w .u32 ad xs) (ho : okb B32 xs) (hl : xs.length ≤ 1099511627777) (hcap : xs.length ≤ cap) (hnil : ad = none → cap = 0) :
    Calls Try.prog 77 #[.slice ad n cap] w (CutPost w ad cap xs) := by
  subst hn
  go_enter Try.func77, Try.ntmps77
  go_wp2
  go_loop [3] (fun n => ∃ k : Nat, k ≤ xs.length ∧ n = .int .i64 k ∧ Hid (∀ i, k ≤ i → lg xs i = 0)) (fun n => (intOf n).toNat)
  case atStart => exact ⟨_, Nat.le_refl _, rfl, Lib.hid (fun i hi => lg_out (by omega))⟩
  case round =>
    obtain ⟨k, hk, rfl, hz⟩ := hrel
    by_cases hp : 0 < k
    · obtain ⟨b, off, rfl, hb, hc⟩ := hr.get (by omega)
      have hc := hc (k - 1) (by omega)
      clear hr hnil
      go_wp2
      · have ht : ((lg xs (k - 1) : Nat) == (0 : Int)) = true := by assumption
        go_round
        case rel => exact ⟨k - 1, by omega, by go_num, fun i hi => by
          by_cases e : i = k - 1
          · subst e; simpa using ht
          · exact hz i (by omega)⟩
        case measure => simp [intOf]; omega
      · have ht : ((lg xs (k - 1) : Nat) == (0 : Int)) = false := by assumption
        go_ret
        exact cut_end ho hk (fun _ => by simpa using ht) hz rfl
    · obtain rfl : k = 0 := by omega
      cases ad with
      | none =>
        have hc0 := hnil rfl
        subst hc0
        go_wp2
        go_ret
        exact cut_end ho hk (fun h => by omega) hz rfl
      | some a =>
        go_wp2
        go_ret
        exact cut_end ho hk (fun h => by omega) hz rfl


set_option maxHeartbeats 400000 in
theorem add32_any (x y c : Nat) (w : World) (hx : x < 4294967296) (hy : y < 4294967296) (hc : c ≤ 1) :
    Calls Try.prog 79 #[.int .u32 x, .int .u32 y, .int .u32 c] w fun e w' => e = .returned (.tuple #[.int .u32 ((x + y + c) % 4294967296 : Nat), .int .u32 ((x + y + c) / 4294967296 : Nat)]) ∧ w' = w := by
  go_enter Try.func79, Try.ntmps79
  go_wp2
  go_ret2
  exact ⟨ret_two (by omega) (by omega), rfl⟩

theorem Try.info77 : (Try.prog.info? 77).map (fun i => (i.zero, i.size, i.bytes)) = some (some (.int .u32 0), 1, 4) := by kernel_rfl


def Sub32Post (x y c : Nat) (w : World) (e : Ending) (w' : World) : Prop :=
  e = .returned (.tuple #[.int .u32 ((x + 8589934592 - y - c) % 4294967296 : Nat), .int .u32 (if x < y + c then 1 else 0 : Nat)]) ∧ w' = w
set_option maxHeartbeats 400000 in
theorem sub32_any (x y c : Nat) (w : World) (hx : x < 4294967296) (hy : y < 4294967296) (hc : c ≤ 1) :
    Calls Try.prog 116 #[.int .u32 x, .int .u32 y, .int .u32 c] w (Sub32Post x y c w) := by
  go_enter Try.func116, Try.ntmps116
  go_wp2
  go_ret2
  exact ⟨ret_two (by omega) (borrow32 x y c hx hy hc), rfl⟩

set_option maxHeartbeats 400000 in
theorem compare_int (x y : Nat) (w : World) :
    Calls Try.prog 96 #[.int .i64 x, .int .i64 y] w fun e w' => e = .returned (.int .i64 (c3 x y)) ∧ w' = w := by
  by_cases h : x < y
  · rw [c3_lt h]
    go_enter Try.func96, Try.ntmps96
    go_wp2
    go_ret
    exact ⟨rfl, rfl⟩
  · by_cases h2 : y < x
    · rw [c3_gt h2]
      go_enter Try.func96, Try.ntmps96
      go_wp2
      go_ret
      exact ⟨rfl, rfl⟩
    · rw [c3_eq (by omega)]
      go_enter Try.func96, Try.ntmps96
      go_wp2
      go_ret
      exact ⟨rfl, rfl⟩
set_option maxHeartbeats 400000 in
theorem compare_u32 (x y : Nat) (w : World) :
    Calls Try.prog 97 #[.int .u32 x, .int .u32 y] w fun e w' => e = .returned (.int .i64 (c3 x y)) ∧ w' = w := by
  by_cases h : x < y
  · rw [c3_lt h]
    go_enter Try.func97, Try.ntmps97
    go_wp2
    go_ret
    exact ⟨rfl, rfl⟩
  · by_cases h2 : y < x
    · rw [c3_gt h2]
      go_enter Try.func97, Try.ntmps97
      go_wp2
      go_ret
      exact ⟨rfl, rfl⟩
    · rw [c3_eq (by omega)]
      go_enter Try.func97, Try.ntmps97
      go_wp2
      go_ret
      exact ⟨rfl, rfl⟩
end Go.Proofs.Ytjdmnchndnpdlaa
