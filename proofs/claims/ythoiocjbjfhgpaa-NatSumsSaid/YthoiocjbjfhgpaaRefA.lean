import Derived.Test.YthoiocjbjfhgpaaGV
import Derived.Deep.LoopGhost
namespace Go.Proofs.Ythoiocjbjfhgpaa
open Go.RowKit
set_option maxRecDepth 100000

theorem Try.info3 : (Try.prog.info? 3).map (fun i => (i.zero, i.size, i.bytes)) = some (some (.int .i64 0), 1, 8) := by kernel_rfl

set_option maxHeartbeats 400000 in
theorem rat_any (ad : Option Addr) (n cap : Nat) (xs : List Nat) (i : Nat) (w : World) (hn : n = xs.length) (hr : Rd w .i64 ad xs) (hl : xs.length ≤ 1099511627777) (hi : i ≤ 1099511627777) :
    Calls Try.prog 36 #[.slice ad n cap, .int .i64 i] w fun e w' => e = .returned (.int .i64 (lg xs i : Nat)) ∧ w' = w := by
  subst hn
  by_cases h : i < xs.length
  · obtain ⟨b, off, rfl, hb, hc⟩ := hr.get (by omega)
    have hc := hc i h
    clear hr
    go_enter Try.func36, Try.ntmps36
    go_wp2
    go_ret
    exact ⟨rfl, rfl⟩
  · go_enter Try.func36, Try.ntmps36
    go_wp2
    go_ret
    exact ⟨by rw [lg_out (by omega)]; rfl, rfl⟩

/-- What strikes 0 at the top leaves. -/
def RcutPost (b : Nat) (w : World) (ad : Option Addr) (cap : Nat) (xs : List Nat) (e : Ending) (w' : World) : Prop :=
  e = .returned (.slice ad (dl b (vl b xs)) cap) ∧ w' = w
theorem rcut_end {b : Nat} {w : World} {ad : Option Addr} {cap n : Nat} {xs : List Nat} {v : Value} (hb : 2 ≤ b) (ho : okb b xs) (hn : n ≤ xs.length) (h0 : 0 < n → lg xs (n - 1) ≠ 0) (hz : ∀ i, n ≤ i → lg xs i = 0) (hv : v = .slice ad n cap) :
    RcutPost b w ad cap xs (.returned v) w := by
  rw [(take_dg hb ho hn h0 hz).2] at hv
  exact ⟨by rw [hv], rfl⟩

set_option maxHeartbeats 400000 in
theorem rtrim_any (b : Nat) (hb2 : 2 ≤ b) (ad : Option Addr) (n cap : Nat) (xs : List Nat) (w : World) (hn : n = xs.length) (hr : Rd w .i64 ad xs) (ho : okb b xs) (hl : xs.length ≤ 2199023255553) (hcap : xs.length ≤ cap) (hnil : ad = none → cap = 0) :
    Calls Try.prog 37 #[.slice ad n cap] w (RcutPost b w ad cap xs) := by
  subst hn
  go_enter Try.func37, Try.ntmps37
  go_wp2
  go_loop [3] (fun n => ∃ k : Nat, k ≤ xs.length ∧ n = .int .i64 k ∧ Hid (∀ i, k ≤ i → lg xs i = 0)) (fun n => (intOf n).toNat)
  case atStart => exact ⟨_, Nat.le_refl _, rfl, Lib.hid (fun i hi => lg_out (by omega))⟩
  case round =>
    obtain ⟨k, hk, rfl, hz⟩ := hrel
    by_cases hp : 0 < k
    · obtain ⟨b', off, rfl, hb, hc⟩ := hr.get (by omega)
      have hc := hc (k - 1) (by omega)
      clear hr hnil
      go_wp2
      · have ht : ((lg xs (k - 1) : Nat) == (0 : Int)) = true := by assumption
        go_round
        case rel => exact ⟨k - 1, by omega, by go_num, fun i hi => by
          by_cases e : i = k - 1
          · subst e; simpa using ht
          · exact hz i (by omega)⟩
        case measure => simp [intOf]; omega
      · have ht : ((lg xs (k - 1) : Nat) == (0 : Int)) = false := by assumption
        go_ret
        exact rcut_end hb2 ho hk (fun _ => by simpa using ht) hz rfl
    · obtain rfl : k = 0 := by omega
      cases ad with
      | none =>
        have hc0 := hnil rfl
        subst hc0
        go_wp2
        go_ret
        exact rcut_end hb2 ho hk (fun h => by omega) hz rfl
      | some a =>
        go_wp2
        go_ret
        exact rcut_end hb2 ho hk (fun h => by omega) hz rfl

/-- What leaves bits. -/
def DbPost (w : World) (N : Nat) (e : Ending) (w' : World) : Prop := ∃ v, e = .returned v ∧ Dg w' .i64 2 v N ∧ Below w.heap.size w w'

def BitsOut (w : World) (xs : List Nat) (o i : Value) (wr : World) : Prop :=
  ∃ (j : Nat) (L : List Nat), j ≤ xs.length ∧ i = .int .i64 j ∧ Acc wr .i64 3 w.heap.size o L ∧ okb 2 L ∧ L.length = 32 * j ∧ vl 2 L = vl B32 (xs.take j) ∧ Below w.heap.size w wr
def BitsIn (w : World) (j T : Nat) (o x k : Value) (wr : World) : Prop :=
  ∃ (t y : Nat) (L : List Nat), t ≤ 32 ∧ k = .int .i64 t ∧ x = .int .u32 y ∧ y < 2 ^ (32 - t) ∧ Acc wr .i64 3 w.heap.size o L ∧ okb 2 L ∧ L.length = 32 * j + t ∧ vl 2 L + y * 2 ^ (32 * j + t) = T ∧ Below w.heap.size w wr

set_option maxHeartbeats 1000000 in
theorem rbits_any (ad : Option Addr) (n cap : Nat) (xs : List Nat) (w : World) (hn : n = xs.length) (hr : Rd w .u32 ad xs) (ho : okb B32 xs) (hl : xs.length ≤ 1073741824) :
    Calls Try.prog 10 #[.slice ad n cap] w (DbPost w (vl B32 xs)) := by
  subst hn
  obtain ⟨i0, hi, hz0, hz1, hz2⟩ := info_parts Try.info3
  go_enter Try.func10, Try.ntmps10
  go_wp2
  go_loopw [3, 10] (fun o i wr => BitsOut w xs o i wr) (fun _ i _ => xs.length - (intOf i).toNat)
  case atStart => exact ⟨0, [], Nat.zero_le _, rfl, Acc.empty w .i64 3 w.heap.size (Nat.le_refl _), okb_nil 2, rfl, by simp [vl], (Below.refl _ _).alloc (Nat.le_refl _) _⟩
  case round =>
    obtain ⟨j, L, hj, rfl, hacc, hok, hlen, hv, hbe⟩ := hrel
    have HV := Lib.hid hv; clear hv
    have HLN := Lib.hid hlen
    by_cases hlt : j < xs.length
    · obtain ⟨b, off, rfl, hbs, hc⟩ := (hr.below hbe).get (by omega)
      have hc := hc j hlt
      have hx : lg xs j < 4294967296 := lg_lt ho B32_pos j
      have hT := Lib.hid (vl_take_succ B32 xs j)
      have HR := Lib.hid hr
      clear hr hlen
      obtain ⟨wo, rfl⟩ : ∃ wo : World, wo = wr := ⟨_, rfl⟩
      go_wp2
      go_loopw [3, 5, 6] (fun o x k wr => BitsIn w j (vl B32 (xs.take (j + 1))) o x k wr) (fun _ _ k _ => 32 - (intOf k).toNat)
      case atStart => exact ⟨0, lg xs j, L, by omega, rfl, rfl, hx, hacc, hok, HLN.out, by rw [HV.out, hT.out]; congr 2; rw [Nat.add_zero, Nat.pow_mul]; rfl, hbe⟩
      case round =>
        obtain ⟨t, y, L', ht, rfl, rfl, hy, hacc', hok', hlen', hv', hbe'⟩ := hrel
        have HV' := Lib.hid hv'; clear hv'
        have HLN' := Lib.hid hlen'
        have hll : L'.length ≤ 2199023255552 := by omega
        by_cases h32 : t < 32
        · have hyl : y < 4294967296 := by
            have : (2 : Nat) ^ (32 - t) ≤ 2 ^ 32 := Nat.pow_le_pow_right (by omega) (by omega)
            exact Nat.lt_of_lt_of_le hy this
          have HY := Lib.hid hy
          clear hy hlen' hacc hc
          go_wp2_with (at_builtin; refine wp_acc wr rfl _ _ 23 rfl .i64 3 i0 8 Try.underlying23 hi hz0 hz1 hz2 (by decide) w.heap.size _ L' hacc' rfl _ (y % 2) ?_ rfl hll hbe'.size ?_)
          · omega
          · intro v' w' hacc2 hbel2
            have hls := Lib.hid (bits_step HV'.out)
            have hyh := Lib.hid (half_lt (y := y) (e := 31 - t) (by rw [show 31 - t + 1 = 32 - t from by omega]; exact HY.out))
            clear hacc' 
            go_wp2
            go_roundw
            case rel =>
              refine ⟨t + 1, y / 2, L' ++ [y % 2], by omega, by go_num, by go_num, by rw [show 32 - (t + 1) = 31 - t from by omega]; exact hyh.out, hacc2, okb_append hok' (okb_one (Nat.mod_lt _ (by omega))), by simp; rw [HLN'.out]; omega, ?_, hbe'.trans hbel2⟩
              rw [vl_snoc, HLN'.out, show 32 * j + (t + 1) = 32 * j + t + 1 from by omega]
              exact hls.out
            case measure => simp [intOf]; omega
        · obtain rfl : t = 32 := by omega
          have hy0 : y = 0 := by simpa using hy
          have hv0 := HV'.out
          rw [hy0] at hv0
          simp only [Nat.zero_mul, Nat.add_zero] at hv0
          have HV0 := Lib.hid hv0
          clear hv0 hy0 hy hacc hc hlen'
          go_wp2
          go_roundw
          case rel => exact ⟨j + 1, L', by omega, by go_num, hacc', hok', by rw [HLN'.out]; omega, HV0.out, hbe'⟩
          case measure => simp [intOf]; omega
    · obtain rfl : j = xs.length := by omega
      have hval := HV.out
      rw [List.take_length] at hval
      have HVAL := Lib.hid hval
      clear hval hr
      have hsq := hacc.sq (by omega)
      have hll : L.length ≤ 1099511627776 := by omega
      clear hacc hlen
      go_wp2_with fail
      obtain ⟨ad2, cap2, hv2, hrd, hc2, hm2, hl2, hn2⟩ := hsq
      rw [hv2]
      refine (rtrim_any 2 (by omega) _ _ _ L _ rfl hrd hok (by omega) hc2 hn2).mono ?_
      rintro e w1 ⟨rfl, hw⟩
      have hw := hw.symm; subst hw
      have hpre := hrd.take (dl 2 (vl 2 L))
      have hd2 := dl_vl_le (b := 2) (by omega) hok
      rw [take_dl (by omega) hok] at hpre
      rw [HVAL.out] at hpre hd2 ⊢
      go_wp2
      go_ret
      exact ⟨_, rfl, ⟨_, _, rfl, hpre, by rw [length_dg]; omega, hm2, by rw [length_dg]; omega, hn2⟩, hbe⟩

end Go.Proofs.Ythoiocjbjfhgpaa
