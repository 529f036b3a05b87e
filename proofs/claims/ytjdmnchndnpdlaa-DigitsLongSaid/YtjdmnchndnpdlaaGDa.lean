/- DivC DivD -/
import Derived.Deep.DeepCutAuto
import Derived.Deep.LoopGhost
import Derived.Test.YtjdmnchndnpdlaaGM
import Derived.Test.YtjdmnchndnpdlaaGB

/- Contracts of package mult: at, pair. -/
namespace Go.Proofs.Ytjdmnchndnpdlaa
open Go.RowKit
set_option maxRecDepth 100000

set_option maxHeartbeats 400000 in
theorem mat_any (ad : Option Addr) (n cap : Nat) (xs : List Nat) (i : Nat) (w : World) (hn : n = xs.length) (hr : Rd w .u32 ad xs) (ho : okb B32 xs) (hl : xs.length ≤ 1099511627777) (hi : i ≤ 2199023255554) :
    Calls Try.prog 111 #[.slice ad n cap, .int .i64 i] w fun e w' => e = .returned (.int .u64 (lg xs i : Nat)) ∧ w' = w := by
  subst hn
  by_cases h : i < xs.length
  · obtain ⟨b, off, rfl, hb, hc⟩ := hr.get (by omega)
    have hc := hc i h
    have lx := lg_lt ho B32_pos i
    rw [B32_eq] at lx
    clear hr
    go_enter Try.func111, Try.ntmps111
    go_wp2
    go_ret
    exact ⟨rfl, rfl⟩
  · go_enter Try.func111, Try.ntmps111
    go_wp2
    go_ret
    exact ⟨by rw [lg_out (by omega)]; rfl, rfl⟩

set_option maxHeartbeats 400000 in
theorem mat_neg (ad : Option Addr) (n cap : Nat) (i : Int) (w : World) (hi : i < 0) :
    Calls Try.prog 111 #[.slice ad n cap, .int .i64 i] w fun e w' => e = .returned (.int .u64 (0 : Nat)) ∧ w' = w := by
  go_enter Try.func111, Try.ntmps111
  go_wp2
  go_ret
  exact ⟨rfl, rfl⟩

theorem ret_u64 {a b : Int} (h : a = b) : Ending.returned (.int .u64 a) = .returned (.int .u64 b) := by rw [h]

/-- The limb i and the one below it. -/
def pr (xs : List Nat) (i : Nat) : Nat := lg xs i * 4294967296 + (if i = 0 then 0 else lg xs (i - 1))

set_option maxHeartbeats 400000 in
theorem pair_any (ad : Option Addr) (n cap : Nat) (xs : List Nat) (i : Nat) (w : World) (hn : n = xs.length) (hr : Rd w .u32 ad xs) (ho : okb B32 xs) (hl : xs.length ≤ 1099511627777) (hi : i ≤ 2199023255554) :
    Calls Try.prog 109 #[.slice ad n cap, .int .i64 i] w fun e w' => e = .returned (.int .u64 (pr xs i : Nat)) ∧ w' = w := by
  subst hn
  have lx := lg_lt ho B32_pos i
  have ly := lg_lt ho B32_pos (i - 1)
  rw [B32_eq] at lx ly
  have HR := Lib.hid hr; clear hr
  by_cases h0 : i = 0
  · subst h0
    have hp := Lib.hid (show pr xs 0 = lg xs 0 * 4294967296 + 0 from rfl)
    have oo : bits BinOp.or IntKind.u64 ((lg xs 0 : Int) * 4294967296) 0 = ((lg xs 0 * 4294967296 + 0 : Nat) : Int) := or_low64 _ 0 lx (by omega)
    have OO := Lib.hid oo; clear oo
    go_enter Try.func109, Try.ntmps109
    go_wp2_with fail
    refine (mat_any ad _ cap xs 0 w rfl HR.out ho hl (by omega)).mono ?_
    rintro e w' ⟨rfl, hw⟩
    have hw := hw.symm; subst hw
    have oo := OO.out
    go_wp2_with fail
    refine (mat_neg ad _ cap _ w (by omega)).mono ?_
    rintro e w' ⟨rfl, hw⟩
    have hw := hw.symm; subst hw
    go_wp2
    go_ret
    rw [hp.out]
    exact ⟨ret_u64 (by omega), rfl⟩
  · have hp := Lib.hid (show pr xs i = lg xs i * 4294967296 + lg xs (i - 1) from by unfold pr; rw [if_neg h0])
    have oo := or_low64 _ _ lx ly
    have OO := Lib.hid oo; clear oo
    go_enter Try.func109, Try.ntmps109
    go_wp2_with fail
    refine (mat_any ad _ cap xs i w rfl HR.out ho hl (by omega)).mono ?_
    rintro e w' ⟨rfl, hw⟩
    have hw := hw.symm; subst hw
    have oo := OO.out
    go_wp2_with fail
    rw [show (i : Int) - 1 = ((i - 1 : Nat) : Int) from by omega]
    refine (mat_any ad _ cap xs (i - 1) w rfl HR.out ho hl (by omega)).mono ?_
    rintro e w' ⟨rfl, hw⟩
    have hw := hw.symm; subst hw
    go_wp2
    go_ret
    rw [hp.out]
    exact ⟨rfl, rfl⟩
end Go.Proofs.Ytjdmnchndnpdlaa

/- A world that differs in one block only; contract of mult.take. -/
namespace Go.Proofs.Ytjdmnchndnpdlaa
open Go.RowKit
set_option maxRecDepth 100000

/-- w' differs from w in block g only. -/
structure Only (g : Nat) (w w' : World) : Prop where
  os : w'.os = w.os
  tape : w'.tape = w.tape
  output : w'.output = w.output
  size : w'.heap.size = w.heap.size
  block : ∀ k, k ≠ g → w'.heap[k]? = w.heap[k]?

theorem Only.refl (g : Nat) (w : World) : Only g w w := ⟨rfl, rfl, rfl, rfl, fun _ _ => rfl⟩
theorem Only.trans {g : Nat} {a b c : World} (h : Only g a b) (k : Only g b c) : Only g a c :=
  ⟨k.os.trans h.os, k.tape.trans h.tape, k.output.trans h.output, k.size.trans h.size, fun i hi => (k.block i hi).trans (h.block i hi)⟩
theorem Only.drew {g : Nat} {a w : World} (h : Only g a w) : Only g a w.drew := ⟨h.os, h.tape, h.output, h.size, h.block⟩
theorem Only.setCell {g : Nat} {a w : World} (h : Only g a w) {p : Addr} (hp : p.block = g) (u : Value) : Only g a (w.setCell p u) :=
  h.trans ⟨rfl, rfl, rfl, by simp [World.setCell], fun k hk => Below.heap_setCell _ _ _ _ (by omega)⟩
theorem Only.below {g B : Nat} {w w' : World} (h : Only g w w') (hB : B ≤ g) : Below B w w' :=
  ⟨h.os, h.tape, h.output, Nat.le_of_eq h.size.symm, fun k hk => h.block k (by omega)⟩
/-- An address that doesn't lie in block g. -/
def Apart (ad : Option Addr) (g : Nat) : Prop := ∀ b off, ad = some ⟨b, off, none⟩ → b ≠ g
theorem Only.rd {g : Nat} {w w' : World} {k : IntKind} {ad : Option Addr} {xs : List Nat} (h : Only g w w') (r : Rd w k ad xs) (ha : Apart ad g) : Rd w' k ad xs := by
  refine ⟨fun i hi => ?_⟩
  obtain ⟨b, off, e, hlt, hc⟩ := r.cell i hi
  refine ⟨b, off, e, by rw [h.size]; exact hlt, ?_⟩
  rw [← hc]
  unfold World.cell?
  rw [h.block b (ha b off e)]

theorem take_step {zs : List Nat} {i y c q v bor T P Q : Nat} (hlen : i < zs.length) (h : vl B32 zs + Q = P + c * B32 ^ i) (hT : T = c + q * y) (hv : v + T % B32 = lg zs i + bor * B32) :
    vl B32 (zs.set i v) + (Q + q * y * B32 ^ i) = P + (T / B32 + bor) * B32 ^ (i + 1) := by
  have h1 := vl_set B32 (xs := zs) (i := i) v hlen
  have h2 := carry_arith B32 (B32 ^ i) T
  rw [show B32 ^ i * B32 = B32 ^ (i + 1) from (Nat.pow_succ ..).symm] at h2
  have h3 : (v + T % B32) * B32 ^ i = (lg zs i + bor * B32) * B32 ^ i := by rw [hv]
  rw [Nat.add_mul, Nat.add_mul] at h3
  have h4 : bor * B32 * B32 ^ i = bor * B32 ^ (i + 1) := by rw [Nat.pow_succ, Nat.mul_assoc, Nat.mul_comm B32]
  have h5 : T * B32 ^ i = c * B32 ^ i + q * y * B32 ^ i := by rw [hT, Nat.add_mul]
  rw [Nat.add_mul]
  omega

def TakeInv (w : World) (base g cap : Nat) (xs : List Nat) (j : Nat) (ys : List Nat) (q : Nat) (c i : Value) (wr : World) : Prop :=
  ∃ (k cc : Nat) (zs : List Nat), k ≤ ys.length ∧ i = .int .i64 k ∧ c = .int .u64 cc ∧ cc < 4294967296 ∧ zs.length = xs.length ∧ okb B32 zs ∧ Row wr .u32 77 base g cap zs ∧ Only g w wr ∧
    (∀ t, t < j ∨ j + ys.length ≤ t → lg zs t = lg xs t) ∧ vl B32 zs + q * vl B32 (ys.take k) * B32 ^ j = vl B32 xs + cc * B32 ^ (j + k)

def TakePost (w : World) (base g cap : Nat) (xs : List Nat) (j : Nat) (ys : List Nat) (q : Nat) (e : Ending) (w' : World) : Prop :=
  ∃ (cc : Nat) (zs : List Nat), e = .returned (.bool (decide (lg xs (j + ys.length) < cc))) ∧ cc < 4294967296 ∧ zs.length = xs.length ∧ okb B32 zs ∧ Row w' .u32 77 base g cap zs ∧ Only g w w' ∧
    (∀ t, t < j ∨ j + ys.length ≤ t → lg zs t = lg xs t) ∧ vl B32 zs + q * vl B32 ys * B32 ^ j = vl B32 xs + cc * B32 ^ (j + ys.length)

set_option maxHeartbeats 2000000 in
set_option maxRecDepth 100000 in
theorem take_any (base g cap cp2 cp1 j n1 n q : Nat) (ad : Option Addr) (xs ys : List Nat) (w : World) (hr : Row w .u32 77 base g cap xs) (ho : okb B32 xs) (ry : Rd w .u32 ad ys) (oy : okb B32 ys) (ha : Apart ad g)
    (hn1 : n1 = xs.length - j) (hn : n = ys.length) (hj : j + ys.length ≤ xs.length) (hq : q < 4294967296) (hl : xs.length ≤ 1099511627777) :
    Calls Try.prog 112 #[.slice (some ⟨g, j, none⟩) n1 cp1, .slice ad n cp2, .int .u64 q] w (TakePost w base g cap xs j ys q) := by
  have HN := Lib.hid hn; have HN1 := Lib.hid hn1; have HO := Lib.hid ho; have HR := Lib.hid hr; have RY := Lib.hid ry; have OY := Lib.hid oy; have HA := Lib.hid ha
  have hnj : n ≤ n1 := by omega
  have hn1b : n1 ≤ 1099511627777 := by omega
  have hjb : j ≤ 1099511627777 := by omega
  clear hn hn1 ho hr ry oy ha
  go_enter Try.func112, Try.ntmps112
  go_wp2
  go_loopw [7, 13] (fun c i wr => TakeInv w base g cap xs j ys q c i wr) (fun _ i _ => n - (intOf i).toNat)
  case atStart => exact ⟨0, 0, xs, Nat.zero_le _, rfl, rfl, by omega, rfl, HO.out, HR.out, Only.refl _ _, fun _ _ => rfl, by simp [vl]⟩
  case round =>
    obtain ⟨k, cc, zs, hk, rfl, rfl, hcc, hzl, hzo, hro, hon, hsame, hv⟩ := hrel
    have HV := Lib.hid hv; have HZ := Lib.hid hsame; have HZL := Lib.hid hzl; have HZO := Lib.hid hzo; have HON := Lib.hid hon
    clear hv hsame hzl
    by_cases hlt : k < n
    · obtain ⟨b, off, ha, hbs, hcy⟩ := (hon.rd RY.out HA.out).get (by have := HN.out; omega)
      have hcy := hcy k (by have := HN.out; omega)
      subst ha
      have ly : lg ys k < 4294967296 := lg_lt OY.out B32_pos k
      have lz : lg zs (j + k) < 4294967296 := lg_lt hzo B32_pos (j + k)
      have hcs := hro.cell (j := j + k) (by rw [HZL.out]; have := HN.out; omega)
      have hfr := hro.free (j + k)
      obtain ⟨m, hm⟩ : ∃ m, m = q * lg ys k := ⟨_, rfl⟩
      have hmb := mul_le_max hq ly
      rw [← hm] at hmb
      have em : (q : Int) * (lg ys k : Int) = (m : Int) := by rw [hm]; push_cast; rfl
      have HM := Lib.hid hm
      obtain ⟨T, hT⟩ : ∃ T, T = cc + m := ⟨_, rfl⟩
      obtain ⟨r, hr⟩ : ∃ r, r = (lg zs (j + k) + 8589934592 - T % 4294967296 - 0) % 4294967296 := ⟨_, rfl⟩
      obtain ⟨bo, hbo⟩ : ∃ bo, bo = (if lg zs (j + k) < T % 4294967296 + 0 then 1 else 0) := ⟨_, rfl⟩
      have hrb : r < B32 := by rw [hr, B32_eq]; exact Nat.mod_lt _ (by decide)
      have hbb : bo ≤ 1 := by rw [hbo]; split <;> decide
      have hsum : Hid (r + T % B32 = lg zs (j + k) + bo * B32) := by
        unfold Hid; rw [hr, hbo, B32_eq]; split <;> omega
      have hc' : T / 4294967296 + bo < 4294967296 := by rw [hbo]; split <;> omega
      have hsub := sub32_any (lg zs (j + k)) (T % 4294967296) 0 wr lz (by omega) (by omega)
      unfold Sub32Post at hsub
      rw [← hr, ← hbo, show ((T % 4294967296 : Nat) : Int) = ((cc : Int) + (m : Int)) % 4294967296 from by omega] at hsub
      have HSUB := Lib.hid hsub
      have HT := Lib.hid hT
      have HC := Lib.hid hc'
      have hTi : ((cc : Int) + (m : Int)) / 4294967296 + (bo : Int) = ((T / 4294967296 + bo : Nat) : Int) := by omega
      have HTI := Lib.hid hTi
      have HRO := Lib.hid hro
      clear hm hsub hr hbo hT hc' hzo hro hon hTi
      go_wp2_with fail
      refine (HSUB.out).mono ?_
      rintro e w' ⟨rfl, hw⟩
      have hw := hw.symm; subst hw
      go_wp2
      go_roundw
      case rel =>
        refine ⟨k + 1, T / 4294967296 + bo, zs.set (j + k) r, by have := HN.out; omega, by go_num, ?_, HC.out, by rw [List.length_set]; exact HZL.out, okb_set HZO.out hrb, HRO.out.set (j + k) r, HON.out.setCell (p := ⟨g, j + k, none⟩) rfl _, ?_, ?_⟩
        · rw [← HTI.out]
        · intro t ht
          rw [lg_set_other _ (by have := HN.out; omega)]
          exact HZ.out t ht
        · have hs := take_step (q := q) (y := lg ys k) (by rw [HZL.out]; have := HN.out; omega) HV.out (by rw [HT.out, HM.out]) hsum.out
          rw [vl_take_succ, Nat.mul_add, Nat.add_mul, ← Nat.mul_assoc q (lg ys k), Nat.mul_assoc (q * lg ys k), ← Nat.pow_add, Nat.add_comm k j]
          exact hs
      case measure => simp [intOf]; omega
    · obtain rfl : k = n := by have := HN.out; omega
      have hrd := (hro.rd.drop j)
      rw [Nat.zero_add] at hrd
      have hend : lg (zs.drop j) k = lg xs (j + k) := by rw [lg_drop]; exact HZ.out _ (.inr (by have := HN.out; omega))
      have HE := Lib.hid hend
      have HRO := Lib.hid hro
      have HRD := Lib.hid hrd
      clear hend hzo hro hon hrd
      go_wp2_with fail
      refine (mat_any (some ⟨g, j, none⟩) n1 cp1 (zs.drop j) k wr (by rw [List.length_drop, HZL.out]; exact HN1.out) HRD.out (okb_drop HZO.out j) (by rw [List.length_drop, HZL.out]; omega) (by omega)).mono ?_
      rintro e w' ⟨rfl, hw⟩
      have hw := hw.symm; subst hw
      rw [HE.out]
      go_wp2
      go_ret
      refine ⟨cc, zs, ?_, hcc, HZL.out, HZO.out, HRO.out, HON.out, HZ.out, ?_⟩
      · rw [← HN.out]; simp
      · have hv := HV.out
        rw [vl_take_all (by have := HN.out; omega), HN.out] at hv
        exact hv
end Go.Proofs.Ytjdmnchndnpdlaa
